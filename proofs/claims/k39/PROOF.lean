import PyProof.Rows.All
import Wide.All
import OpenK.AllK
import Wide.FinOn
import HandS.ForMost
import HandS.Codes
import HandS.IsInst
import HandS.Star
import HandS.ClsMeth
import HandS.Style
import HandS.TupAny
import HandS.Flow
import HandS.Wide
import HandS.Nested
import HandS.ExcInit
import HandS.ExcField
import HandS.ExcIs
import HandS.TryOnly
import HandS.FStr
import HandS.WordsExc
import KE.KExcSuper
import HandS.CallSlots
import KE.KExcIs
import HandS.StrMore
import HandS.Walk
import KE.GoesEnum
import PySem.Challenge.RW_shortheld_k39_whole_fewest_phrases
set_option Elab.async false
set_option linter.all false
set_option maxRecDepth 100000
set_option maxHeartbeats 4000000
namespace K4
open PySem PySem.Spec PyProof.Rows L2 SX
open C8 (Cal pe_c pss_cut)
def top (i : Nat) : Stmt := PySem.Challenge.pw_shortheld_k39_whole_fewest_phrases.main.body.getD i (.Pass ⟨0, 0, 0, 0⟩)
abbrev sWall : Stmt := top 0
abbrev sBadRulesInit : Stmt := inClass (top 3) 0
abbrev sNoPlaceInit : Stmt := inClass (top 4) 0
abbrev sNoPartInit : Stmt := inClass (top 5) 0
abbrev sViewOf : Stmt := top 8
abbrev sSettled : Stmt := top 9
abbrev sDeeper : Stmt := top 10
abbrev sSpelledBy : Stmt := top 11
abbrev sDivided : Stmt := top 12
abbrev sDividedPower : Stmt := top 13
abbrev sIsWhole : Stmt := top 22
abbrev sHasWord : Stmt := top 23
abbrev sAreTold : Stmt := top 24
abbrev sIsPart : Stmt := top 25
abbrev sLengthMade : Stmt := top 26
abbrev sFaultOf : Stmt := top 27
abbrev sLengthsChecked : Stmt := top 28
abbrev sCopied : Stmt := top 29
abbrev sSpelled : Stmt := top 30
abbrev sInit : Stmt := inClass (top 31) 0
abbrev sOfLetters : Stmt := inClass (top 31) 1
abbrev sTextMade : Stmt := inClass (top 31) 2
abbrev sLetter : Stmt := inClass (top 31) 3
abbrev sLetters : Stmt := inClass (top 31) 4
abbrev sShortestCut : Stmt := top 35
abbrev sRowOf : Stmt := top 36
abbrev sLongestCopy : Stmt := top 37
abbrev sPool : Stmt := top 39
abbrev sTake : Stmt := top 40
abbrev sLLetters : Stmt := top 41
abbrev sLAdd : Stmt := top 42
abbrev sLBox : Stmt := top 43
abbrev sLPowerRule : Stmt := top 44
abbrev sLNextRule : Stmt := top 45
abbrev sLTurnedLetter : Stmt := top 46
abbrev sLDrawn : Stmt := top 47
abbrev sLPeriod : Stmt := top 48
abbrev sLWay : Stmt := top 49
abbrev sLOther : Stmt := top 50
abbrev sLSome : Stmt := top 51
abbrev sLTexts : Stmt := top 52
abbrev sLLongest : Stmt := top 53
abbrev sLSpells : Stmt := top 54
abbrev sLIsCut : Stmt := top 55
abbrev sLDrawnCut : Stmt := top 56
abbrev sLaw : Stmt := top 57
def strOf : Stmt → Str
  | .Assign _ (.Constant (.str x) _ _) _ => x
  | _ => Str.empty
/-- LETTERS of the module -/
def LTR : Str := strOf (top 15)
/-- what the module's names are not bound to -/
structure Txt (mg : Str → Option Value) : Prop where
  len : mg "len" = none
  int : mg "int" = none
  range : mg "range" = none
  tuple : mg "tuple" = none
  list : mg "list" = none
  isinstance : mg "isinstance" = none
  all : mg "all" = none
  reversed : mg "reversed" = none
  bool : mg "bool" = none
  str : mg "str" = none
  enumerate : mg "enumerate" = none
  MOST_RULES : ∃ u, mg "MOST_RULES" = some u ∧ RelV (.int 60) u
  MOST_TOLD : ∃ u, mg "MOST_TOLD" = some u ∧ RelV (.int 64) u
  MOST_TIMES : ∃ u, mg "MOST_TIMES" = some u ∧ RelV (.int 1000000000000) u
  MOST_LETTERS : ∃ u, mg "MOST_LETTERS" = some u ∧ RelV (.int 1000000000000) u
  LETTERS : ∃ u, mg "LETTERS" = some u ∧ RelV (.str LTR) u
  MOST_SPELLED : ∃ u, mg "MOST_SPELLED" = some u ∧ RelV (.int 1000) u

/-! ### heaps -/
def Frm (p : Addr) (H H' : Hp) : Prop := ∀ b o, b ≠ p → H b = some o → H' b = some o
theorem Frm.refl {p : Addr} {H : Hp} : Frm p H H := fun _ _ _ h => h
theorem Frm.trans {p : Addr} {H H1 H2 : Hp} (a : Frm p H H1) (b : Frm p H1 H2) : Frm p H H2 := fun c o n h => b c o n (a c o n h)
theorem Frm.upd {p : Addr} {H H1 : Hp} {o : HO} (a : Frm p H H1) : Frm p H (upd H1 p o) := fun c u n h => by
  rw [upd_ne n]
  exact a c u n h
theorem Frm.new {p q : Addr} {H H1 : Hp} {o : HO} (a : Frm p H H1) (hq : H1 q = none) : Frm p H (L2.upd H1 q o) := fun c u n h => by
  have h1 := a c u n h
  rw [upd_ne (ne_of_none h1 hq)]
  exact h1
theorem Same.frm {p : Addr} {H H' : Hp} (s : Same H H') : Frm p H H' := fun b o _ h => s b o h
theorem same_new {H : Hp} {p : Addr} {o : HO} (h : H p = none) : Same H (upd H p o) := fun b u q => by rw [upd_ne (ne_of_none q h)]; exact q

/-! ### the pool -/
structure PoolIs (H : Hp) (p c : Addr) (pos left seed : Int) (xs : List Int) : Prop where
  at_ : H p = some (.lst [.ref c, .int pos, .int left, .int seed])
  cells : H c = some (.lst (xs.map V.int))
  ne : c ≠ p
  nn : ∀ x ∈ xs, (0 : Int) ≤ x
  pos0 : 0 ≤ pos
  left0 : 0 ≤ left
  seed0 : 0 ≤ seed
  seed1 : seed < 2147483647
  len : xs.length ≤ 63
def Pool (H : Hp) (p c : Addr) : Prop := ∃ pos left seed xs, PoolIs H p c pos left seed xs
theorem PoolIs.put {H : Hp} {p c : Addr} {pos left seed pos' left' seed' : Int} {xs : List Int} (h : PoolIs H p c pos left seed xs) (h1 : 0 ≤ pos') (h2 : 0 ≤ left') (h3 : 0 ≤ seed') (h4 : seed' < 2147483647) :
    PoolIs (upd H p (.lst [.ref c, .int pos', .int left', .int seed'])) p c pos' left' seed' xs :=
  ⟨upd_same, by rw [upd_ne h.ne]; exact h.cells, h.ne, h.nn, h1, h2, h3, h4, h.len⟩
theorem Pool.same {H H' : Hp} {p c : Addr} (h : Pool H p c) (s : Same H H') : Pool H' p c := by
  obtain ⟨pos, left, seed, xs, h⟩ := h
  exact ⟨pos, left, seed, xs, s _ _ h.at_, s _ _ h.cells, h.ne, h.nn, h.pos0, h.left0, h.seed0, h.seed1, h.len⟩
theorem Pool.new {H : Hp} {p c q : Addr} {o : HO} (h : Pool H p c) (n : H q = none) : Pool (upd H q o) p c := h.same (same_new n)
theorem Pool.ne {H : Hp} {p c q : Addr} (h : Pool H p c) (n : H q = none) : q ≠ p ∧ q ≠ c := by
  obtain ⟨pos, left, seed, xs, h⟩ := h
  exact ⟨(ne_of_none h.at_ n).symm, (ne_of_none h.cells n).symm⟩
theorem Pool.upd {H : Hp} {p c q : Addr} {o : HO} (h : Pool H p c) (n : q ≠ p ∧ q ≠ c) : Pool (L2.upd H q o) p c := by
  obtain ⟨pos, left, seed, xs, h⟩ := h
  exact ⟨pos, left, seed, xs, by rw [upd_ne n.1.symm]; exact h.at_, by rw [upd_ne n.2.symm]; exact h.cells, h.ne, h.nn, h.pos0, h.left0, h.seed0, h.seed1, h.len⟩
theorem Frm.none {H H' : Hp} {p q : Addr} (f : Frm p H H') (n : H' q = Option.none) (h : q ≠ p) : H q = Option.none := by
  cases e : H q with
  | none => rfl
  | some o =>
    rw [f q o h e] at n
    cases n
theorem Frm.updN {H H' : Hp} {p q : Addr} {o : HO} (f : Frm p H H') (n : H q = Option.none) : Frm p H (L2.upd H' q o) := fun b u hb e => by
  rw [upd_ne (ne_of_none e n)]
  exact f b u hb e

def mix (seed cell pos : Int) : Int := (seed * 48271 + cell * 69621 + (pos + 1) * 613) % 2147483647
def spTake1 : Sp := fun vs H Q _ => ∃ (p c : Addr) (many pos left seed : Int) (xs : List Int), vs = [.ref p, .int many] ∧ 0 < many ∧ many ≤ 1000000000000 ∧ PoolIs H p c pos left seed xs ∧ 0 < left ∧
  ∀ r H', 0 ≤ r → r < many → Pool H' p c → Frm p H H' → Q (.int r) H'
def spTake : Sp := fun vs H Q _ => ∃ (p c : Addr) (many : Int), vs = [.ref p, .int many] ∧ 0 < many ∧ many ≤ 1000000000000 ∧ Pool H p c ∧
  ∀ r H', 0 ≤ r → r < many → Pool H' p c → Frm p H H' → Q (.int r) H'

section
variable {P : Program} {w : World} {K : PySem.W.Frag} {mg : Str → Option Value} {base : Heap}
theorem mkCal {x : Str} {st : Stmt} {f : Addr} {fd : FuncData} {N ps : List Str} {k : Nat} {sp : Sp} (F : Fun K x x st f fd) (hm : mg x = some (.ref f)) (b : Binds K fd ps []) (S : FnScope N ps (defScope st)) (len : ∀ vs H Q E, sp vs H Q E → vs.length = ps.length)
    (hbody : ∀ (cdv : Value) (A : Around) (outer : List Env) (s : Shared) (H : Hp) (vs : List V) (Q : VK) (E : XK), Room k (A.deeper (envOfC x (defScope st) s.heap.objs.size f cdv)) → sp vs H Q E →
      ∃ t, PSs (cxOf CX0 P w K mg base N x (defScope st) f cdv A outer s H E).nox (defBody st) t ∧ t { nx := fun _ H' => Q .non H', rt := Q } (start N vs) H) : Cal P w K mg base (k + 1) x sp [] :=
  ⟨f, fd, ps, [], F.ok S len hbody, hm, F.kp, b, .nil⟩

theorem scTake : FnScope ["pool", "many", "digit", "cell", "mixed"] ["pool", "many"] (defScope sTake) := ⟨rfl, rfl, rfl, by decide +kernel, rfl, by decide +kernel, by decide +kernel⟩
theorem ok_take1 {f : Addr} {fd : FuncData} (F : Fun K "_law_take" "_law_take" sTake f fd) (hm : mg "_law_take" = some (.ref f)) (b : Binds K fd ["pool", "many"] []) (T : Txt mg) : Cal P w K mg base 1 "_law_take" spTake1 [] := by
  refine mkCal F hm b scTake (fun vs H Q E h => ?_) (fun cdv A outer s H vs Q E hr h => ?_)
  · obtain ⟨p, c, many, pos, left, seed, xs, rfl, _⟩ := h
    rfl
  obtain ⟨p, c, many, pos, left, seed, xs, rfl, m0, m1, hP, l0, q⟩ := h
  refine ⟨_, pss_cons (ps_if (pt_cmpR op_gt (pe_ix ix_list (pv 0) pe_int (fun _ _ => rfl)) pe_int (nomark _))
    (pss_cons (ps_set (i := 2) scTake.nd rfl (.inl rfl) (pe_op op_mod (pe_callTy call_int1 (by rfl) T.int (by decide +kernel) (pa_cons (pe_ix ix_list (pv 0) pe_int (fun _ _ => rfl)) pa_nil)) (pv 1)))
    (pss_cons (ps_asg (pe_op op_fdivW (pe_ix ix_list (pv 0) pe_int (fun _ _ => rfl)) (pv 1)) (pg_sub (pv 0) pe_int set_list))
    (pss_one (ps_ret (pv 2))))) pss_nil) pss_never, ?_⟩
  have hL : SqL K H p _ := SqL.of hP.at_
  refine ⟨_, rfl, p, _, 2, .int left, rfl, rfl, hL, at_of (j := 2) rfl rfl, left, 0, rfl, rfl, _, rfl, ?_⟩
  refine ite2 (fun _ => ?_) (fun z => absurd (decide_eq_true l0) z)
  refine ⟨_, rfl, p, _, 2, .int left, rfl, rfl, hL, at_of (j := 2) rfl rfl, .inl ⟨left, rfl, ?_⟩⟩
  refine ⟨_, rfl, left, many, rfl, rfl, m0, ?_⟩
  refine ⟨_, rfl, p, _, 2, .int left, rfl, rfl, hL, at_of (j := 2) rfl rfl, _, rfl, left, many, rfl, rfl, wide_div (b := 41) m0 (by omega) (by decide) (by decide), ?_⟩
  refine ⟨_, rfl, p, _, 2, 2, rfl, rfl, hP.at_, rfl, ?_⟩
  refine ⟨_, rfl, ?_⟩
  exact q _ _ (Int.emod_nonneg _ (by omega)) (Int.emod_lt_of_pos _ m0) ⟨pos, left / many, seed, xs, hP.put hP.pos0 (Int.ediv_nonneg hP.left0 (Int.le_of_lt m0)) hP.seed0 hP.seed1⟩ Frm.refl.upd
theorem ok_take {f : Addr} {fd : FuncData} (F : Fun K "_law_take" "_law_take" sTake f fd) (hm : mg "_law_take" = some (.ref f)) (b : Binds K fd ["pool", "many"] []) (T : Txt mg) : Cal P w K mg base 2 "_law_take" spTake [] := by
  have G : Cal P w K mg base 1 "_law_take" spTake1 [] := ok_take1 F hm b T
  refine mkCal F hm b scTake (fun vs H Q E h => ?_) (fun cdv A outer s H vs Q E hr h => ?_)
  · obtain ⟨p, c, many, rfl, _⟩ := h
    rfl
  obtain ⟨p, c, many, rfl, m0, m1, ⟨pos, left, seed, xs, hP⟩, q⟩ := h
  refine ⟨_, pss_cons (ps_if (pt_cmpR op_gt (pe_ix ix_list (pv 0) pe_int (fun _ _ => rfl)) pe_int (nomark _))
      (pss_cons (ps_set (i := 2) scTake.nd rfl (.inl rfl) (pe_op op_mod (pe_callTy call_int1 (by rfl) T.int (by decide +kernel) (pa_cons (pe_ix ix_list (pv 0) pe_int (fun _ _ => rfl)) pa_nil)) (pv 1)))
      (pss_cons (ps_asg (pe_op op_fdivW (pe_ix ix_list (pv 0) pe_int (fun _ _ => rfl)) (pv 1)) (pg_sub (pv 0) pe_int set_list))
      (pss_one (ps_ret (pv 2))))) pss_nil)
    (pss_cons (ps_set (i := 3) scTake.nd rfl (.inl rfl) pe_int)
    (pss_cut (ps_if (pt_cmpR op_lt (pe_ix ix_list (pv 0) pe_int (fun _ _ => rfl)) (pe_callB call_len_seq (by rfl) T.len PySem.boot_len (pa_cons (pe_ix ix_list (pv 0) pe_int (fun _ _ => rfl)) pa_nil)) (nomark _))
      (pss_one (ps_set (i := 3) scTake.nd rfl (.inl rfl) (pe_ix ix_list (pe_ix ix_list (pv 0) pe_int (fun _ _ => rfl)) (pe_ix ix_list (pv 0) pe_int (fun _ _ => rfl)) (fun _ _ => rfl)))) pss_nil)
    (pss_cons (ps_asg (pe_op op_add (pe_ix ix_list (pv 0) pe_int (fun _ _ => rfl)) pe_int) (pg_sub (pv 0) pe_int set_list))
    (pss_cons (ps_if (pt_cmpR op_ge (pv 3) (pe_op op_pow pe_int pe_int) (nomark _))
      (pss_cons (ps_asg (pe_op op_fdiv (pv 3) pe_int) (pg_sub (pv 0) pe_int set_list))
      (pss_one (ps_ret (pe_c G hr (by decide) (by rfl) (pa_cons (pv 0) (pa_cons (pv 1) pa_nil)))))) pss_nil)
    (pss_cons (ps_asg (pe_op op_mod (pe_callTy call_int1 (by rfl) T.int (by decide +kernel) (pa_cons (pe_op op_add (pe_op op_add (pe_op op_mul (pe_ix ix_list (pv 0) pe_int (fun _ _ => rfl)) pe_int) (pe_op op_mul (pv 3) pe_int)) (pe_op op_mul (pe_ix ix_list (pv 0) pe_int (fun _ _ => rfl)) pe_int)) pa_nil)) pe_int) (pg_sub (pv 0) pe_int set_list))
    (pss_cons (ps_set (i := 4) scTake.nd rfl (.inl rfl) (pe_op op_mod (pe_callTy call_int1 (by rfl) T.int (by decide +kernel) (pa_cons (pe_op op_add (pe_op op_add (pe_op op_mul (pe_ix ix_list (pv 0) pe_int (fun _ _ => rfl)) (pe_ix ix_list (pv 0) pe_int (fun _ _ => rfl))) (pe_op op_mul (pe_ix ix_list (pv 0) pe_int (fun _ _ => rfl)) pe_int)) pe_int) pa_nil)) pe_int))
    (pss_one (ps_ret (pe_op op_mod (pe_callTy call_int1 (by rfl) T.int (by decide +kernel) (pa_cons (pe_op op_fdiv (pv 4) pe_int) pa_nil)) (pv 1)))))))))), ?_⟩
  have hL : SqL K H p _ := SqL.of hP.at_
  have hC : SqL K H c _ := SqL.of hP.cells
  refine ⟨_, rfl, p, _, 2, .int left, rfl, rfl, hL, at_of (j := 2) rfl rfl, left, 0, rfl, rfl, _, rfl, ?_⟩
  refine ite2 (fun _ => ?_) (fun _ => ?_)
  · refine ⟨_, rfl, p, _, 2, .int left, rfl, rfl, hL, at_of (j := 2) rfl rfl, .inl ⟨left, rfl, ?_⟩⟩
    refine ⟨_, rfl, left, many, rfl, rfl, m0, ?_⟩
    refine ⟨_, rfl, p, _, 2, .int left, rfl, rfl, hL, at_of (j := 2) rfl rfl, _, rfl, left, many, rfl, rfl, wide_div (b := 41) m0 (by omega) (by decide) (by decide), ?_⟩
    refine ⟨_, rfl, p, _, 2, 2, rfl, rfl, hP.at_, rfl, ?_⟩
    refine ⟨_, rfl, ?_⟩
    exact q _ _ (Int.emod_nonneg _ (by omega)) (Int.emod_lt_of_pos _ m0) ⟨pos, left / many, seed, xs, hP.put hP.pos0 (Int.ediv_nonneg hP.left0 (Int.le_of_lt m0)) hP.seed0 hP.seed1⟩ Frm.refl.upd
  · -- cell = 0; if pool[1] < len(pool[0]): cell = pool[0][pool[1]]
    refine ⟨fun σ H1 => ∃ cell : Int, H1 = H ∧ 0 ≤ cell ∧ σ = [some (.ref p), some (.int many), none, some (.int cell), none], ?_, ?_⟩
    · refine ⟨_, rfl, p, _, 1, .int pos, rfl, rfl, hL, at_of (j := 1) rfl rfl, ?_⟩
      refine ⟨_, rfl, p, _, 0, .ref c, rfl, rfl, hL, at_of (j := 0) rfl rfl, c, _, rfl, .inl hC, pos, _, rfl, rfl, _, rfl, ?_⟩
      refine ite2 (fun z => ?_) (fun _ => ⟨0, rfl, by decide, rfl⟩)
      have z1 : pos < ((xs.map V.int).length : Int) := of_decide_eq_true z
      rw [List.length_map] at z1
      have hk : pos.toNat < xs.length := by have := hP.pos0; omega
      have e1 : pos = ((pos.toNat : Nat) : Int) := by have := hP.pos0; omega
      have g : (xs.map V.int)[pos.toNat]? = some (.int xs[pos.toNat]) := by
        rw [List.getElem?_map, List.getElem?_eq_getElem hk]
        rfl
      refine ⟨_, rfl, p, _, 0, .ref c, rfl, rfl, hL, at_of (j := 0) rfl rfl, _, rfl, p, _, 1, .int pos, rfl, rfl, hL, at_of (j := 1) rfl rfl, c, _, pos, _, rfl, rfl, hC, at_of e1 g, ?_⟩
      exact ⟨xs[pos.toNat], rfl, hP.nn _ (List.getElem_mem hk), rfl⟩
    · rintro σ H1 ⟨cell, rfl, c0, rfl⟩
      -- pool[1] = pool[1] + 1
      refine ⟨_, rfl, p, _, 1, .int pos, rfl, rfl, hL, at_of (j := 1) rfl rfl, pos, 1, rfl, rfl, ?_⟩
      refine ⟨_, rfl, p, _, 1, 1, rfl, rfl, hP.at_, rfl, ?_⟩
      have p1 : (0 : Int) ≤ pos + 1 := by have := hP.pos0; omega
      have hP1 : PoolIs (upd H1 p (.lst [.ref c, .int (pos + 1), .int left, .int seed])) p c (pos + 1) left seed xs := hP.put p1 hP.left0 hP.seed0 hP.seed1
      -- if cell >= 10 ** 18
      refine ⟨_, rfl, 10, 18, rfl, rfl, ⟨by decide, by decide, by decide⟩, cell, _, rfl, rfl, _, rfl, ?_⟩
      refine ite2 (fun z => ?_) (fun z => ?_)
      · have z1 : (10 : Int) ^ 18 ≤ cell := of_decide_eq_true z
        have z2 : (1000000000000000000 : Int) ≤ cell := z1
        refine ⟨_, rfl, cell, 2, rfl, rfl, ⟨by decide, by decide⟩, _, rfl, p, _, 2, 2, rfl, rfl, hP1.at_, rfl, ?_⟩
        have h2 : 0 < cell / 2 := by omega
        have hP2 : PoolIs _ p c (pos + 1) (cell / 2) seed xs := hP1.put p1 (by omega) hP.seed0 hP.seed1
        refine ⟨_, rfl, _, rfl, p, c, many, pos + 1, cell / 2, seed, xs, rfl, m0, m1, hP2, h2, fun r H' r0 r1 hp' fr => ?_⟩
        exact q r H' r0 r1 hp' ((Frm.refl.upd.upd).trans fr)
      · -- the mixing
        have s0 := hP.seed0
        have s1 := hP.seed1
        have hL1 : SqL K (upd H1 p (.lst [.ref c, .int (pos + 1), .int left, .int seed])) p _ := SqL.of hP1.at_
        refine ⟨_, rfl, p, _, 3, .int seed, rfl, rfl, hL1, at_of (j := 3) rfl rfl, seed, 48271, rfl, rfl, .inr ⟨by decide, by decide⟩, ?_⟩
        refine ⟨_, rfl, cell, 69621, rfl, rfl, .inr ⟨by decide, by decide⟩, _, _, rfl, rfl, ?_⟩
        refine ⟨_, rfl, p, _, 1, .int (pos + 1), rfl, rfl, hL1, at_of (j := 1) rfl rfl, pos + 1, 613, rfl, rfl, .inr ⟨by decide, by decide⟩, _, _, rfl, rfl, .inl ⟨_, rfl, ?_⟩⟩
        refine ⟨_, 2147483647, rfl, rfl, by show (0 : Int) < 2147483647; decide, _, rfl, p, _, 3, 3, rfl, rfl, hP1.at_, rfl, ?_⟩
        have hP3 : PoolIs _ p c (pos + 1) left (mix seed cell pos) xs := hP1.put p1 hP.left0 (Int.emod_nonneg _ (by decide)) (Int.emod_lt_of_pos _ (by decide))
        have hb : -(2 ^ 64) < mix seed cell pos ∧ mix seed cell pos < 2 ^ 64 := by
          have t0 := hP3.seed0
          have t1 := hP3.seed1
          constructor <;> omega
        have hL3 : SqL K _ p [.ref c, .int (pos + 1), .int left, .int (mix seed cell pos)] := SqL.of hP3.at_
        refine ⟨_, rfl, p, _, 3, .int (mix seed cell pos), rfl, rfl, hL3, at_of (j := 3) rfl rfl, _, rfl, p, _, 3, .int (mix seed cell pos), rfl, rfl, hL3, at_of (j := 3) rfl rfl, _, _, rfl, rfl, .inl hb, ?_⟩
        refine ⟨_, rfl, p, _, 3, .int (mix seed cell pos), rfl, rfl, hL3, at_of (j := 3) rfl rfl, _, 7919, rfl, rfl, .inr ⟨by decide, by decide⟩, _, _, rfl, rfl, _, 104729, rfl, rfl, .inl ⟨_, rfl, ?_⟩⟩
        refine ⟨_, 1000000007, rfl, rfl, by show (0 : Int) < 1000000007; decide, ?_⟩
        refine ⟨_, rfl, _, 3, rfl, rfl, ⟨by decide, by decide⟩, .inl ⟨_, rfl, ?_⟩⟩
        refine ⟨_, rfl, _, many, rfl, rfl, m0, ?_⟩
        exact q _ _ (Int.emod_nonneg _ (by omega)) (Int.emod_lt_of_pos _ m0) ⟨_, _, _, _, hP3⟩ (Frm.refl.upd.upd)
end
/-! ### small facts -/
theorem ifT {c : Bool} {A B : Prop} (h : c = true) (x : A) : if c = true then A else B := by rw [if_pos h]; exact x
theorem ifF {c : Bool} {A B : Prop} (h : c = false) (x : B) : if c = true then A else B := by rw [if_neg (by rw [h]; decide)]; exact x
theorem join_nil : ∀ ys : List (List Nat), TL.joinL [] ys = ys.flatten
  | [] => rfl
  | [x] => by simp [TL.joinL]
  | x :: y :: r => by
    have ih := join_nil (y :: r)
    simp only [TL.joinL, List.flatten_cons, List.append_nil, List.nil_append] at ih ⊢
    rw [ih]
theorem cut_S {l : List Nat} {a b : Nat} (h : b ≤ l.length) (h2 : a ≤ b) : cutS (S l) (some (a : Int)) (some (b : Int)) = S ((l.take b).drop a) := by
  unfold cutS
  have e : (S l).length = l.length := S_len l
  rw [e, HT.sIx_nat, HT.sIx_nat, Nat.min_eq_left h, Nat.min_eq_left (Nat.le_trans h2 h)]
  show S ((l.drop a).take (b - a)) = _
  rw [List.drop_take]
theorem S_nil : ("" : Str) = S [] := by decide +kernel
theorem flat_len (l : List Nat) : ∀ k : Nat, ((List.replicate k l).flatten).length = k * l.length
  | 0 => by simp
  | k + 1 => by
    rw [List.replicate_succ, List.flatten_cons, List.length_append, flat_len l k, Nat.succ_mul, Nat.add_comm]
theorem sz {n : Nat} (h : n ≤ 100000) : n ≤ sizeLine := Nat.le_trans h (by decide)
theorem Sz {l : List Nat} (h : l.length ≤ 100000) : (S l).length ≤ sizeLine := by rw [S_len]; exact sz h

/-! ### s[::-1], s * n -/
section
variable {X : Cx}
def tRevS (te : TE) : TE := fun σ H Q => te σ H fun x H1 => ∃ z : List Nat, x = .str (S z) ∧ z.length ≤ 100000 ∧ Q (.str (S z.reverse)) H1
theorem rev_made (z : List Nat) (t u : Tok) : sliceMade (S z) t none none (some (-1, u)) = .str (S z.reverse) := by
  unfold sliceMade
  have e0 : (((some ((-1 : Int), u)).map (·.1)).getD 1 == 1 && (slicePicked (S z) none none (some (-1, u))).length == (S z).length) = false := rfl
  rw [e0, if_neg (by decide)]
  congr 1
  have h := step_rev_list (S z) u
  unfold Txt.sliceBy at h
  have h1 : ¬ (((((some ((-1 : Int), u)).map (·.1)).getD 1 == 1) && ((slicePicked (S z) none none (some (-1, u))).length == (S z).length)) = true) := by rw [e0]; decide
  rw [if_neg h1] at h
  refine congrArg (fun a : Array Nat => (⟨a⟩ : Str)) ?_
  refine Array.toList_inj.mp ?_
  show ((slicePicked (S z) none none (some (-1, u))).filterMap ((S z).cps[·]?)).toArray.toList = z.reverse.toArray.toList
  refine Eq.trans h ?_
  rw [List.toList_toArray]
  refine List.ext_getElem (by simp [S_len]) fun i h1 h2 => ?_
  have hi : i < z.length := by simpa using h2
  rw [List.getElem_map, List.getElem_range, List.getElem_reverse, S_len]
  show (z.toArray).getD (z.length - 1 - i) 0 = _
  simp [Array.getD]
  rw [dif_pos (by omega)]
theorem pe_revS {e : Expr} {te : TE} {k : Nat} {p1 p2 p3 pos : Pos} (he : PE X e te) : PE X (.Subscript e (.Slice none none (some (.UnaryOp .USub (.Constant (.int 1) k p1) p2)) p3) pos) (tRevS te) where
  run := by
    intro pins s σ H Q inv hyp
    refine Subscript_ (thn (he.run pins s σ H _ inv hyp) ?_)
    rintro v s1 ⟨x, G, inv1, rel, z, rfl, hz, fin⟩
    obtain ⟨tok, rfl⟩ := rel
    have step := po_some (pe_un (X := X) (pos := p2) un_neg (pe_int (i := 1) (j := k) (pos := p1)))
    refine wpAny_Slice (thn (po_none.run pins s1 σ G (fun o G2 => o = none ∧ G2 = G) inv1 ⟨rfl, rfl⟩) ?_)
    rintro va s2 ⟨_, _, inv2, isA, rfl, rfl⟩
    refine thn (po_none.run pins s2 σ _ (fun o G2 => o = none ∧ G2 = _) inv2 ⟨rfl, rfl⟩) ?_
    rintro vb s3 ⟨_, _, inv3, isB, rfl, rfl⟩
    refine thn (step.run pins s3 σ _ (fun o G2 => o = some (-1) ∧ G2 = _) inv3 ⟨1, rfl, -1, rfl, rfl, rfl⟩) ?_
    rintro vc s4 ⟨_, G4, inv4, isC, rfl, rfl⟩
    obtain ⟨la, rfl, ea⟩ := IsPart.raw isA
    obtain ⟨lb, rfl, eb⟩ := IsPart.raw isB
    obtain ⟨lc, rfl, ec⟩ := IsPart.raw isC
    obtain rfl : la = none := by cases la with | none => rfl | some y => simp at ea
    obtain rfl : lb = none := by cases lb with | none => rfl | some y => simp at eb
    obtain ⟨u, rfl⟩ : ∃ u, lc = some (-1, u) := by
      cases lc with
      | none => simp at ec
      | some y => exact ⟨y.2, by simp at ec; rw [← ec]⟩
    have inv5 : Inv X pins σ G4 { s4 with heap := s4.heap.push { cls := .type "slice", data := .fields #[partValue none, partValue none, partValue (some (-1, u))] } } := inv4.kept (t' := s4.toks) fun _ _ r => Heap.get?_push_of_some _ r
    refine tail_any (ops := [.str (S z) tok, .ref s4.heap.objs.size]) (s := { s4 with heap := s4.heap.push { cls := .type "slice", data := .fields #[partValue none, partValue none, partValue (some (-1, u))] } }) (typeIs_str _ _ _) (F.slot_str_getitem.lookup) ?_ (by with_unfolding_all rfl)
    refine wpAny_getItem_str_slice (l := none) (u := none) (st := some (-1, u)) ⟨_, Heap.get?_push_size _ rfl, rfl, rfl⟩ rfl ?_
    rw [rev_made]
    exact ⟨by rw [S_len, List.length_reverse]; exact sz hz, .str _, G4, inv5.tok _, ⟨_, rfl⟩, fin⟩
theorem foldl_app (x : Array Nat) : ∀ (k : Nat) (acc : Array Nat), ((List.replicate k x).foldl (· ++ ·) acc).toList = acc.toList ++ (List.replicate k x.toList).flatten
  | 0, acc => by simp
  | k + 1, acc => by
    rw [List.replicate_succ, List.foldl_cons, foldl_app x k]
    simp [List.replicate_succ]
theorem mul_S (l : List Nat) (k : Nat) : Txt.mul (S l) (k : Int) = S (List.replicate k l).flatten := by
  unfold Txt.mul
  by_cases h : (k : Int) < 1
  · have e : k = 0 := by omega
    subst e
    rw [if_pos h]
    rfl
  · rw [if_neg h]
    by_cases h2 : ((k : Int) == 1 || (S l).length == 0) = true
    · rw [if_pos h2]
      rcases Bool.or_eq_true _ _ ▸ h2 with h3 | h3
      · have e : k = 1 := by have := eq_of_beq h3; omega
        subst e
        simp
      · have e : l = [] := by
          have := eq_of_beq h3
          rw [S_len] at this
          exact List.eq_nil_of_length_eq_zero this
        subst e
        simp
    · rw [if_neg h2]
      refine congrArg (fun a : Array Nat => (⟨a⟩ : Str)) ?_
      refine Array.toList_inj.mp ?_
      rw [Int.toNat_natCast, foldl_app]
      simp
theorem op_mulS : OpR X (binaryOp .Mult) (fun x y H Q => ∃ (l : List Nat) (k : Nat), x = .str (S l) ∧ y = .int (k : Int) ∧ l.length ≤ 100000 ∧ k * l.length ≤ 100000 ∧ k ≤ 10 ^ 13 ∧ Q (.str (S (List.replicate k l).flatten)) H) := by
  intro pins s σ H x y v u Q I rx ry h
  obtain ⟨l, k, rfl, rfl, hl, hk, hk2, q⟩ := h
  obtain ⟨t, rfl⟩ := rx
  obtain ⟨t', rfl⟩ := ry
  refine SB.mul ⟨?_, fun h1 h2 => ?_, fun h1 h2 => ?_⟩ fun t' tk => ?_
  · have h1 : ¬ ((k : Int) < -(2 ^ 63 : Int)) := by omega
    have h2 : ¬ ((k : Int) ≥ 2 ^ 63) := by omega
    simp only [h1, h2, decide_false, Bool.or_self]
  · rw [S_len]
    intro h3
    have hp : 0 < (k : Int) := by omega
    have h4 : ((2 ^ 63 - 1) / (k : Int)) * (k : Int) + (2 ^ 63 - 1) % (k : Int) = 2 ^ 63 - 1 := Int.ediv_mul_add_emod _ _
    have h5 : (2 ^ 63 - 1) % (k : Int) < (k : Int) := Int.emod_lt_of_pos _ hp
    have h6 : ((2 ^ 63 - 1) / (k : Int)) * (k : Int) ≤ (l.length : Int) * (k : Int) := Int.mul_le_mul_of_nonneg_right (Int.le_of_lt h3) (Int.le_of_lt hp)
    have h7 : (l.length : Int) * (k : Int) ≤ 100000 := by
      have := Int.ofNat_le.mpr hk
      rw [Int.natCast_mul, Int.mul_comm] at this
      exact this
    omega
  · rw [S_len, Int.toNat_natCast, Nat.mul_comm]
    unfold Builtin.Str.tooLong
    exact decide_eq_false (by have := sz hk; omega)
  · rw [mul_S]
    exact ⟨.str _, H, I.tok _, ⟨_, rfl⟩, q⟩
end
/-! ### the signs -/
def SG : Str := LTR
def SL : List Nat := SG.cps.toList
theorem SL_len : SL.length = 94 := by decide +kernel
theorem SG_len : SG.length ≤ sizeLine := by decide +kernel
theorem SL_a : 97 ∈ SL := by decide +kernel
theorem SL_b : 98 ∈ SL := by decide +kernel

/-! ### rules and texts -/
inductive Rule where
  | letters (s : List Nat) | join (i j : Nat) | power (i k : Nat) | part (i a b : Nat) | back (i : Nat)
def Rule.vals : Rule → List V
  | .letters s => [.str "letters", .str (S s)]
  | .join i j => [.str "join", .int (i : Int), .int (j : Int)]
  | .power i k => [.str "power", .int (i : Int), .int (k : Int)]
  | .part i a b => [.str "part", .int (i : Int), .int (a : Int), .int (b : Int)]
  | .back i => [.str "back", .int (i : Int)]
theorem Rule.vals_len (r : Rule) : r.vals.length ≤ 4 := by cases r <;> simp [Rule.vals]
def tx (ts : List (List Nat)) (i : Nat) : List Nat := ts.getD i []
def made (ts : List (List Nat)) : Rule → List Nat
  | .letters s => s
  | .join i j => tx ts i ++ tx ts j
  | .power i k => (List.replicate k (tx ts i)).flatten
  | .part i a b => ((tx ts i).take b).drop a
  | .back i => (tx ts i).reverse
def Ok (ts : List (List Nat)) : Rule → Prop
  | .letters s => s.length ≤ 64 ∧ ∀ c ∈ s, c ∈ SL
  | .join i j => i < ts.length ∧ j < ts.length
  | .power i k => i < ts.length ∧ k ≤ 10 ^ 12
  | .part i a b => i < ts.length ∧ a ≤ b ∧ b ≤ (tx ts i).length
  | .back i => i < ts.length
def tV (l : List Nat) : V := .str (S l)
theorem tx_at {ts : List (List Nat)} {i : Nat} (h : i < ts.length) : ts[i]? = some (tx ts i) := by
  unfold tx
  rw [List.getD_eq_getElem?_getD, List.getElem?_eq_getElem h]
  rfl
theorem tx_mem {ts : List (List Nat)} {i : Nat} (h : i < ts.length) : tx ts i ∈ ts := List.mem_of_getElem? (tx_at h)
theorem tV_at {ts : List (List Nat)} {i : Nat} (h : i < ts.length) : atI (ts.map tV) (i : Int) = some (.str (S (tx ts i))) := by
  refine atI_nat ?_
  rw [List.getElem?_map, tx_at h]
  rfl
theorem tx_take {ts : List (List Nat)} {i k : Nat} (h : i < k) : tx (ts.take k) i = tx ts i := by
  unfold tx
  rw [List.getD_eq_getElem?_getD, List.getD_eq_getElem?_getD, List.getElem?_take_of_lt h]
structure Good (rs : List Rule) (ts : List (List Nat)) : Prop where
  len : ts.length = rs.length
  ok : ∀ k r, rs[k]? = some r → Ok (ts.take k) r ∧ ts[k]? = some (made (ts.take k) r)
  le : ∀ l ∈ ts, l.length ≤ 400
theorem Good.nil : Good [] [] := ⟨rfl, fun k r h => by simp at h, fun l h => by simp at h⟩
theorem Good.add {rs : List Rule} {ts : List (List Nat)} {r : Rule} (g : Good rs ts) (o : Ok ts r) (h : (made ts r).length ≤ 400) : Good (rs ++ [r]) (ts ++ [made ts r]) := by
  refine ⟨by simp [g.len], fun k x e => ?_, fun l hl => ?_⟩
  · by_cases hk : k < rs.length
    · rw [List.getElem?_append_left hk] at e
      have := g.ok k x e
      rw [List.take_append_of_le_length (by rw [g.len]; omega), List.getElem?_append_left (by rw [g.len]; exact hk)]
      exact this
    · have hk2 : k = rs.length := by
        have := (List.getElem?_eq_some_iff.mp e).1
        simp at this
        omega
      subst hk2
      rw [List.getElem?_append_right (Nat.le_refl _), Nat.sub_self] at e
      have e' : r = x := Option.some.inj e
      subst e'
      rw [← g.len, List.take_append_of_le_length (Nat.le_refl _), List.take_length, List.getElem?_append_right (Nat.le_refl _), Nat.sub_self]
      exact ⟨o, rfl⟩
  · rcases List.mem_append.mp hl with h1 | h1
    · exact g.le l h1
    · rw [List.mem_singleton.mp h1]
      exact h

section
variable {P : Program} {w : World} {K : PySem.W.Frag} {mg : Str → Option Value} {base : Heap}
/-! ### _law_written -/
def sgs (ls : List Nat) : List V := ls.map fun c => V.str (S [c])
theorem sgs_add (ls : List Nat) (c : Nat) : sgs ls ++ [V.str (S [c])] = sgs (ls ++ [c]) := by simp [sgs]
theorem flat_one : ∀ ls : List Nat, (ls.map fun c => [c]).flatten = ls
  | [] => rfl
  | c :: r => by rw [List.map_cons, List.flatten_cons, flat_one r]; rfl
theorem sgs_join (ls : List Nat) : Txt.join ("" : Str) ((ls.map fun c => [c]).map S) = S ls := by
  rw [S_nil, join_S, join_nil, flat_one]
theorem sum_one : ∀ ls : List Nat, ((ls.map fun c => [c]).map (·.length)).sum = ls.length
  | [] => rfl
  | c :: r => by
    have ih := sum_one r
    simp only [List.map_cons, List.sum_cons, List.length_cons, List.length_nil] at ih ⊢
    omega
theorem join_size {ls : List Nat} (h : ls.length ≤ 100000) : (((ls.map fun c => [c]).map S).map (·.length)).sum + ((ls.map fun c => [c]).map S).length * ("" : Str).length ≤ 16777216 := by
  rw [lens, sum_one, show ("" : Str).length = 0 from by decide +kernel]
  omega
end


/-! ### the rules that are drawn, and their texts -/
structure Drawn (H : Hp) (R T : Addr) (as : List Addr) (rs : List Rule) (ts : List (List Nat)) : Prop where
  ra : H R = some (.lst (as.map V.ref))
  ta : H T = some (.lst (ts.map tV))
  la : as.length = rs.length
  el : ∀ (k : Nat) (r : Rule), rs[k]? = some r → ∃ a, as[k]? = some a ∧ H a = some (.tup r.vals)
  good : Good rs ts
  ne : R ≠ T
theorem Drawn.same {H H' : Hp} {R T : Addr} {as : List Addr} {rs : List Rule} {ts : List (List Nat)} (d : Drawn H R T as rs ts) (s : Same H H') : Drawn H' R T as rs ts :=
  ⟨s _ _ d.ra, s _ _ d.ta, d.la, fun k r h => let ⟨a, e, g⟩ := d.el k r h; ⟨a, e, s _ _ g⟩, d.good, d.ne⟩
theorem Drawn.frm {H H' : Hp} {p c R T : Addr} {as : List Addr} {rs : List Rule} {ts : List (List Nat)} (d : Drawn H R T as rs ts) (P : Pool H p c) (f : Frm p H H') (h1 : R ≠ p) (h2 : T ≠ p) : Drawn H' R T as rs ts :=
  ⟨f _ _ h1 d.ra, f _ _ h2 d.ta, d.la, fun k r h => by
    obtain ⟨a, e, g⟩ := d.el k r h
    obtain ⟨pos, left, seed, xs, hp⟩ := P
    exact ⟨a, e, f _ _ (ne_of g hp.at_ (by intro z; cases z)) g⟩, d.good, d.ne⟩
/-- one rule more -/
theorem Drawn.add {H : Hp} {R T a : Addr} {as : List Addr} {rs : List Rule} {ts : List (List Nat)} {r : Rule} (d : Drawn H R T as rs ts) (ha : H a = some (.tup r.vals)) (o : Ok ts r) (h : (made ts r).length ≤ 400) :
    Drawn (upd (upd H R (.lst (as.map V.ref ++ [.ref a]))) T (.lst (ts.map tV ++ [.str (S (made ts r))]))) R T (as ++ [a]) (rs ++ [r]) (ts ++ [made ts r]) := by
  have tupne : ∀ {b : Addr} {vs : List V}, H b = some (.tup vs) → b ≠ R ∧ b ≠ T := fun e => ⟨ne_of e d.ra (by intro z; cases z), ne_of e d.ta (by intro z; cases z)⟩
  refine ⟨?_, ?_, by simp [d.la], fun k x e => ?_, d.good.add o h, d.ne⟩
  · rw [upd_ne d.ne, upd_same]
    simp
  · rw [upd_same]
    simp [tV]
  · by_cases hk : k < rs.length
    · rw [List.getElem?_append_left hk] at e
      obtain ⟨b, e1, e2⟩ := d.el k x e
      refine ⟨b, by rw [List.getElem?_append_left (by rw [d.la]; exact hk)]; exact e1, ?_⟩
      rw [upd_ne (tupne e2).2, upd_ne (tupne e2).1]
      exact e2
    · have hk2 : k = rs.length := by
        have := (List.getElem?_eq_some_iff.mp e).1
        simp at this
        omega
      subst hk2
      rw [List.getElem?_append_right (Nat.le_refl _), Nat.sub_self] at e
      have e' : r = x := Option.some.inj e
      subst e'
      refine ⟨a, by rw [← d.la, List.getElem?_append_right (Nat.le_refl _), Nat.sub_self]; rfl, ?_⟩
      rw [upd_ne (tupne ha).2, upd_ne (tupne ha).1]
      exact ha
theorem made_take {ts : List (List Nat)} {r : Rule} : made (ts.take ts.length) r = made ts r := by rw [List.take_length]

section
variable {P : Program} {w : World} {K : PySem.W.Frag} {mg : Str → Option Value} {base : Heap}
/-! ### _law_rules -/
/-! ### _law_pool -/
def spPool (K : PySem.W.Frag) : Sp := fun vs H Q _ => ∃ (a : Addr) (ns : List Int), vs = [.ref a] ∧ SqL K H a (ns.map V.int) ∧ ns.length ≤ 63 ∧ ∀ (p c : Addr) (H' : Hp), Pool H' p c → Same H H' → H p = none → H c = none → Q (.ref p) H'
theorem scP : FnScope ["script", "cell"] ["script"] (defScope sPool) := ⟨rfl, rfl, rfl, by decide +kernel, rfl, by decide +kernel, by decide +kernel⟩
def nz (x : Int) : Int := if 0 ≤ x then 2 * x else -2 * x - 1
theorem nz_nn (x : Int) : 0 ≤ nz x := by
  unfold nz
  split <;> omega
theorem ok_pool {f : Addr} {fd : FuncData} (F : Fun K "_law_pool" "_law_pool" sPool f fd) (hm : mg "_law_pool" = some (.ref f)) (b : Binds K fd ["script"] []) : Cal P w K mg base 1 "_law_pool" (spPool K) [] := by
  refine mkCal F hm b scP (fun vs H Q E h => ?_) (fun cdv A outer s H vs Q E hr h => ?_)
  · obtain ⟨a, ns, rfl, _⟩ := h
    rfl
  obtain ⟨a, ns, rfl, hS, hlen, q⟩ := h
  refine ⟨_, (pss_one (ps_ret (pe_lst (pa_cons (pe_lc (own := [("cell", 1)]) (g := gName 1) (tt := tYes) rfl scP.nd (pi_list (pv 0)) (blkOk_by (N := ["script", "cell"]) (sc := defScope sPool) (by decide +kernel)) (fun _ _ _ _ _ => (pg_name (i := 1) scP.nd rfl (.inl rfl))) (fun _ _ _ _ _ => pts_nil) (fun _ _ _ _ _ => (pe_ifExp (pt_cmpR op_ge (pv 1) pe_int (nomark _)) (pe_op op_mul pe_int (pv 1)) (pe_op op_sub (pe_op op_mul (pe_un un_neg pe_int) (pv 1)) pe_int)))) (pa_cons pe_int (pa_cons pe_int (pa_cons pe_int pa_nil))))))), ?_⟩
  refine ⟨_, rfl, a, rfl, ⟨_, hS⟩, fun D nD => ?_⟩
  refine lc_list (K := K) (a := a) (xs := ns.map V.int) (fun i H' => Same H H' ∧ H' D = some (.lst (((ns.take i).map nz).map V.int))) ⟨same_new nD, upd_same⟩ (fun i H' _ h => h.1.seq hS) ?_ ?_
  · rintro i x H1 hi ⟨s1, e1⟩
    rw [List.getElem?_map] at hi
    cases e : ns[i]? with
    | none => rw [e] at hi; cases hi
    | some u =>
    rw [e] at hi
    have ex : V.int u = x := Option.some.inj hi
    subst ex
    have push : ∀ y : Int, y = nz u → ∃ acc, H1 D = some (.lst acc) ∧ acc.length < sizeLine ∧ (Same H (upd H1 D (.lst (acc ++ [V.int y]))) ∧ (upd H1 D (.lst (acc ++ [V.int y]))) D = some (.lst (((ns.take (i + 1)).map nz).map V.int))) := by
      intro y hy
      refine ⟨_, e1, ?_, fun b o h => ?_, ?_⟩
      · rw [List.length_map, List.length_map, List.length_take]
        exact small1000 (by omega)
      · rw [upd_ne (ne_of_none h nD)]
        exact s1 b o h
      · rw [upd_same, List.take_add_one, e, hy]
        simp
    refine ⟨rfl, _, rfl, _, _, rfl, rfl, _, rfl, ?_⟩
    refine ite2 (fun z => ?_) (fun z => ?_)
    · have z1 : (0 : Int) ≤ u := of_decide_eq_true z
      refine ⟨_, rfl, _, _, rfl, rfl, .inl ⟨by decide, by decide⟩, push _ (by unfold nz; rw [if_pos z1])⟩
    · have z1 : ¬ (0 : Int) ≤ u := fun h => z (decide_eq_true h)
      refine ⟨_, rfl, _, rfl, _, _, rfl, rfl, .inl ⟨by decide, by decide⟩, _, _, rfl, rfl, push _ (by unfold nz; rw [if_neg z1])⟩
  · rintro H1 ⟨s1, e1⟩
    rw [List.length_map, List.take_length] at e1
    refine ⟨by show 4 ≤ sizeLine; decide, fun p np => ?_⟩
    have hDp : D ≠ p := ne_of_none e1 np
    refine q p D _ ⟨0, 0, 17, ns.map nz, upd_same, by rw [upd_ne hDp]; exact e1, hDp, fun x hx => ?_, by decide, by decide, by decide, by decide, by rw [List.length_map]; exact hlen⟩ (s1.trans (same_new np)) (s1.free np) nD
    obtain ⟨y, _, rfl⟩ := List.mem_map.mp hx
    exact nz_nn y
end
/-! ### views: the mathematics -/
structure View where
  n : Nat
  a : Nat
  b : Nat
  t : Bool
def View.vals (v : View) : List V := [.int (v.n : Int), .int (v.a : Int), .int (v.b : Int), .bl v.t]
def sub (l : List Nat) (a b : Nat) : List Nat := (l.take b).drop a
def trn (t : Bool) (l : List Nat) : List Nat := if t then l.reverse else l
def vw (ts : List (List Nat)) (v : View) : List Nat := trn v.t (sub (tx ts v.n) v.a v.b)
structure Val (ts : List (List Nat)) (v : View) : Prop where
  n : v.n < ts.length
  ab : v.a < v.b
  b : v.b ≤ (tx ts v.n).length
theorem sub_len {l : List Nat} {a b : Nat} (h : b ≤ l.length) : (sub l a b).length = b - a := by
  unfold sub
  rw [List.length_drop, List.length_take]
  omega
theorem trn_len (t : Bool) (l : List Nat) : (trn t l).length = l.length := by cases t <;> simp [trn]
theorem Val.len {ts : List (List Nat)} {v : View} (h : Val ts v) : (vw ts v).length = v.b - v.a := by
  unfold vw
  rw [trn_len, sub_len h.b]
theorem trn_trn (s t : Bool) (l : List Nat) : trn s (trn t l) = trn (xor s t) l := by cases s <;> cases t <;> simp [trn]
theorem trn_app (l m : List Nat) : trn true (l ++ m) = trn true m ++ trn true l := by simp [trn]
theorem sub_all (l : List Nat) : sub l 0 l.length = l := by simp [sub]
theorem sub_sub {l : List Nat} {x y a b : Nat} (h : x + b ≤ y) : sub (sub l x y) a b = sub l (x + a) (x + b) := by
  unfold sub
  rw [List.take_drop, List.drop_drop, List.take_take, Nat.min_eq_left h]
theorem sub_appL {l m : List Nat} {a b : Nat} (h : b ≤ l.length) : sub (l ++ m) a b = sub l a b := by
  unfold sub
  rw [List.take_append_of_le_length h]
theorem sub_appR {l m : List Nat} {a b : Nat} (h : l.length ≤ a) : sub (l ++ m) a b = sub m (a - l.length) (b - l.length) := by
  unfold sub
  rw [List.drop_take, List.drop_append, List.drop_eq_nil_of_le h, List.nil_append, List.drop_take]
  congr 1
  omega
theorem sub_rev {l : List Nat} {a b : Nat} (h : b ≤ l.length) (h2 : a ≤ b) : sub l.reverse a b = (sub l (l.length - b) (l.length - a)).reverse := by
  unfold sub
  rw [List.drop_take, List.drop_reverse, List.take_reverse, List.length_take]
  congr 1
  have e1 : min (l.length - a) l.length = l.length - a := by omega
  rw [e1]
  congr 1
  omega
theorem sub_cut {l : List Nat} {a b c : Nat} (h1 : a ≤ b) (h2 : b ≤ c) : sub l a c = sub l a b ++ sub l b c := by
  unfold sub
  rw [← List.take_append_drop (b - a) ((l.take c).drop a)]
  congr 1
  · rw [List.take_drop, List.take_take]
    congr 2
    omega
  · rw [List.drop_drop]
    congr 1
    omega
theorem sub_nil (l : List Nat) (a : Nat) : sub l a a = [] := by
  unfold sub
  exact List.drop_eq_nil_of_le (by rw [List.length_take]; omega)
def pw (l : List Nat) (k : Nat) : List Nat := (List.replicate k l).flatten
theorem pw_len (l : List Nat) (k : Nat) : (pw l k).length = k * l.length := flat_len l k
theorem pw_add (l : List Nat) (j k : Nat) : pw l (j + k) = pw l j ++ pw l k := by
  unfold pw
  rw [← List.replicate_append_replicate, List.flatten_append]
theorem pw_one (l : List Nat) : pw l 1 = l := by simp [pw]
/-- a part of a power that lies within one time -/
theorem sub_pw1 {l : List Nat} {k j a b : Nat} (hj : j < k) (ha : j * l.length ≤ a) (hb : b ≤ j * l.length + l.length) : sub (pw l k) a b = sub l (a - j * l.length) (b - j * l.length) := by
  obtain ⟨m, rfl⟩ : ∃ m, k = j + (1 + m) := ⟨k - j - 1, by omega⟩
  rw [pw_add, sub_appR (by rw [pw_len]; exact ha), pw_len, pw_add, pw_one, sub_appL (by omega)]
/-- whole times of a power -/
theorem sub_pwk {l : List Nat} {k i j : Nat} (hij : i ≤ j) (hj : j ≤ k) : sub (pw l k) (i * l.length) (j * l.length) = pw l (j - i) := by
  obtain ⟨m, rfl⟩ : ∃ m, k = i + ((j - i) + m) := ⟨k - j, by omega⟩
  rw [pw_add, sub_appR (by rw [pw_len]; exact Nat.le_refl _), pw_len, Nat.sub_self, pw_add]
  have e : j * l.length - i * l.length = (pw l (j - i)).length := by rw [pw_len, Nat.sub_mul]
  rw [e, sub_appL (Nat.le_refl _), sub_all]
theorem trn_pw (t : Bool) (l : List Nat) (k : Nat) : trn t (pw l k) = pw (trn t l) k := by
  cases t with
  | false => rfl
  | true =>
    show (pw l k).reverse = pw l.reverse k
    unfold pw
    induction k with
    | zero => rfl
    | succ k ih => rw [List.replicate_succ, List.flatten_cons, List.reverse_append, ih, List.replicate_succ', List.flatten_append, List.flatten_cons, List.flatten_nil, List.append_nil]

theorem take_succ_tx {ts : List (List Nat)} {i : Nat} (h : i < ts.length) : ts.take (i + 1) = ts.take i ++ [tx ts i] := by
  rw [List.take_add_one, tx_at h]
  rfl
/-! ### rules that are right -/
structure Sound (rs : List Rule) (ts : List (List Nat)) : Prop where
  len : ts.length = rs.length
  ok : ∀ (k : Nat) (r : Rule), rs[k]? = some r → Ok (ts.take k) r ∧ ts[k]? = some (made (ts.take k) r)
  le : ∀ l ∈ ts, l.length ≤ 1000000000000
theorem Good.sound {rs : List Rule} {ts : List (List Nat)} (g : Good rs ts) : Sound rs ts := ⟨g.len, g.ok, fun l h => Nat.le_trans (g.le l h) (by decide)⟩
section
variable {rs : List Rule} {ts : List (List Nat)}
theorem Sound.tx {k : Nat} {r : Rule} (s : Sound rs ts) (h : rs[k]? = some r) : K4.tx ts k = made (ts.take k) r := by
  have e := (s.ok k r h).2
  unfold K4.tx
  rw [List.getD_eq_getElem?_getD, e]
  rfl
theorem Sound.lt {k : Nat} {r : Rule} (s : Sound rs ts) (h : rs[k]? = some r) : k < ts.length := by
  rw [s.len]
  exact (List.getElem?_eq_some_iff.mp h).1
theorem Sound.tk {k i : Nat} {r : Rule} (s : Sound rs ts) (h : rs[k]? = some r) (hi : i < (ts.take k).length) : i < k ∧ i < ts.length ∧ K4.tx (ts.take k) i = K4.tx ts i := by
  rw [List.length_take] at hi
  have h1 : i < k := by omega
  exact ⟨h1, by omega, tx_take h1⟩
/-- what deeper tells, of a view of the rule r -/
def deep (ts : List (List Nat)) : Rule → View → Option View
  | .letters _, _ => none
  | .part i x _, v => some ⟨i, x + v.a, x + v.b, v.t⟩
  | .back i, v => some ⟨i, (tx ts i).length - v.b, (tx ts i).length - v.a, !v.t⟩
  | .power i _, v => let s := v.a / (tx ts i).length * (tx ts i).length
    if v.b > s + (tx ts i).length then none else some ⟨i, v.a - s, v.b - s, v.t⟩
  | .join i j, v => if v.b ≤ (tx ts i).length then some ⟨i, v.a, v.b, v.t⟩ else if v.a ≥ (tx ts i).length then some ⟨j, v.a - (tx ts i).length, v.b - (tx ts i).length, v.t⟩ else none
theorem deep_ok {r : Rule} {v v' : View} (s : Sound rs ts) (h : rs[v.n]? = some r) (hv : Val ts v) (hd : deep ts r v = some v') : Val ts v' ∧ v'.n < v.n ∧ vw ts v' = vw ts v := by
  have hb := hv.b
  have hab := hv.ab
  have ho := (s.ok _ _ h).1
  have htx := s.tx h
  rw [htx] at hb
  cases r with
  | letters z => cases hd
  | part i x y =>
    obtain ⟨o1, o2, o3⟩ := ho
    obtain ⟨k1, k2, k3⟩ := s.tk h o1
    have e : v' = ⟨i, x + v.a, x + v.b, v.t⟩ := (Option.some.inj hd).symm
    subst e
    have hb' : v.b ≤ (sub (tx ts i) x y).length := by rw [← k3]; exact hb
    rw [k3] at o3
    rw [sub_len o3] at hb'
    refine ⟨⟨k2, by show x + v.a < x + v.b; omega, by show x + v.b ≤ (tx ts i).length; omega⟩, k1, ?_⟩
    show trn v.t (sub (tx ts i) (x + v.a) (x + v.b)) = trn v.t (sub (tx ts v.n) v.a v.b)
    rw [htx, show made (ts.take v.n) (.part i x y) = sub (tx (ts.take v.n) i) x y from rfl, k3, sub_sub (by omega)]
  | back i =>
    obtain ⟨k1, k2, k3⟩ := s.tk h ho
    have e : v' = ⟨i, (tx ts i).length - v.b, (tx ts i).length - v.a, !v.t⟩ := (Option.some.inj hd).symm
    subst e
    have hb' : v.b ≤ (tx ts i).reverse.length := by rw [← k3]; exact hb
    rw [List.length_reverse] at hb'
    refine ⟨⟨k2, by show (tx ts i).length - v.b < (tx ts i).length - v.a; omega, by show (tx ts i).length - v.a ≤ (tx ts i).length; omega⟩, k1, ?_⟩
    show trn (!v.t) (sub (tx ts i) _ _) = trn v.t (sub (tx ts v.n) v.a v.b)
    rw [htx, show made (ts.take v.n) (.back i) = (tx (ts.take v.n) i).reverse from rfl, k3, sub_rev hb' (Nat.le_of_lt hab)]
    cases v.t <;> simp [trn]
  | power i k =>
    obtain ⟨o1, o2⟩ := ho
    obtain ⟨k1, k2, k3⟩ := s.tk h o1
    have hb' : v.b ≤ (pw (tx ts i) k).length := by rw [← k3]; exact hb
    rw [pw_len] at hb'
    unfold deep at hd
    dsimp only at hd
    split at hd
    · cases hd
    rename_i hc
    have e := (Option.some.inj hd).symm
    subst e
    have hpos : 0 < (tx ts i).length := by
      rcases Nat.eq_zero_or_pos (tx ts i).length with z | z
      · rw [z] at hb'; omega
      · exact z
    have hd1 : v.a / (tx ts i).length * (tx ts i).length ≤ v.a := Nat.div_mul_le_self _ _
    have hjk : v.a / (tx ts i).length < k := by
      rw [Nat.div_lt_iff_lt_mul hpos]
      omega
    refine ⟨⟨k2, by dsimp only; omega, by dsimp only; omega⟩, k1, ?_⟩
    show trn v.t (sub (tx ts i) _ _) = trn v.t (sub (tx ts v.n) v.a v.b)
    rw [htx, show made (ts.take v.n) (.power i k) = pw (tx (ts.take v.n) i) k from rfl, k3, sub_pw1 hjk hd1 (by omega)]
  | join i j =>
    obtain ⟨o1, o2⟩ := ho
    obtain ⟨k1, k2, k3⟩ := s.tk h o1
    obtain ⟨l1, l2, l3⟩ := s.tk h o2
    have em : made (ts.take v.n) (.join i j) = tx ts i ++ tx ts j := by rw [show made (ts.take v.n) (.join i j) = tx (ts.take v.n) i ++ tx (ts.take v.n) j from rfl, k3, l3]
    rw [em, List.length_append] at hb
    unfold deep at hd
    dsimp only at hd
    split at hd
    · rename_i hc
      have e := (Option.some.inj hd).symm
      subst e
      refine ⟨⟨k2, hab, hc⟩, k1, ?_⟩
      show trn v.t (sub (tx ts i) _ _) = trn v.t (sub (tx ts v.n) v.a v.b)
      rw [htx, em, sub_appL hc]
    · split at hd
      · rename_i hc hc2
        have e := (Option.some.inj hd).symm
        subst e
        refine ⟨⟨l2, by dsimp only; omega, by dsimp only; omega⟩, l1, ?_⟩
        show trn v.t (sub (tx ts j) _ _) = trn v.t (sub (tx ts v.n) v.a v.b)
        rw [htx, em, sub_appR hc2]
      · cases hd
end
structure Pc where
  i : Nat
  a : Nat
  b : Nat
  k : Nat
def Pc.vals (q : Pc) : List V := [.int (q.i : Int), .int (q.a : Int), .int (q.b : Int), .int (q.k : Int)]
def pcv (ts : List (List Nat)) (q : Pc) : List Nat := pw (sub (tx ts q.i) q.a q.b) q.k
/-- the end of one time of the base, whole times, the beginning of another one -/
def divP (i n a b : Nat) : List Pc :=
  (if a % n = 0 then [] else [⟨i, a % n, n, 1⟩]) ++ (if b / n - (a + n - 1) / n = 0 then [] else [⟨i, 0, n, b / n - (a + n - 1) / n⟩]) ++ (if b % n = 0 then [] else [⟨i, 0, b % n, 1⟩])
def divs (ts : List (List Nat)) : Rule → View → List Pc
  | .join i j, v => [⟨i, v.a, (tx ts i).length, 1⟩, ⟨j, 0, v.b - (tx ts i).length, 1⟩]
  | .power i _, v => divP i (tx ts i).length v.a v.b
  | _, _ => []
structure PcOk (ts : List (List Nat)) (m : Nat) (q : Pc) : Prop where
  lt : q.i < m
  n : q.i < ts.length
  ab : q.a < q.b
  b : q.b ≤ (tx ts q.i).length
  k : 1 ≤ q.k
def isL : Rule → Bool
  | .letters _ => true
  | _ => false
theorem up_div {n a : Nat} (hn : 0 < n) : (a + n - 1) / n = if a % n = 0 then a / n else a / n + 1 := by
  have e := Nat.div_add_mod a n
  have hr := Nat.mod_lt a hn
  by_cases h : a % n = 0
  · rw [if_pos h]
    have e2 : a + n - 1 = n * (a / n) + (n - 1) := by omega
    have e3 : (n - 1) / n = 0 := Nat.div_eq_of_lt (by omega)
    rw [e2, Nat.mul_add_div hn, e3]
    rfl
  · rw [if_neg h]
    have e2 : a + n - 1 = n * (a / n + 1) + (a % n - 1) := by rw [Nat.mul_add, Nat.mul_one]; omega
    have e3 : (a % n - 1) / n = 0 := Nat.div_eq_of_lt (by omega)
    rw [e2, Nat.mul_add_div hn, e3]
theorem divP_ok {ts : List (List Nat)} {i m k a b : Nat} (him : i < m) (hi : i < ts.length) (hab : a < b) (hb : b ≤ k * (tx ts i).length) (hs : b > a / (tx ts i).length * (tx ts i).length + (tx ts i).length) :
    (∀ q ∈ divP i (tx ts i).length a b, PcOk ts m q) ∧ ((divP i (tx ts i).length a b).map (pcv ts)).flatten = sub (pw (tx ts i) k) a b := by
  generalize hl : tx ts i = l at hb hs ⊢
  have hn : 0 < l.length := by
    rcases Nat.eq_zero_or_pos l.length with z | z
    · rw [z] at hb; omega
    · exact z
  have ea := Nat.div_add_mod a l.length
  have eb := Nat.div_add_mod b l.length
  have ra := Nat.mod_lt a hn
  have rb := Nat.mod_lt b hn
  rw [Nat.mul_comm] at ea eb
  have hk : b / l.length ≤ k := Nat.div_le_of_le_mul (by rw [Nat.mul_comm]; exact hb)
  have hq : a / l.length + 1 ≤ b / l.length := by
    rw [Nat.le_div_iff_mul_le hn, Nat.add_mul, Nat.one_mul]
    omega
  -- what the last piece is
  have last : sub (pw l k) (b / l.length * l.length) b = if b % l.length = 0 then [] else sub l 0 (b % l.length) := by
    by_cases h : b % l.length = 0
    · rw [if_pos h]
      have e : b / l.length * l.length = b := by omega
      rw [e, sub_nil]
    · rw [if_neg h]
      have hlt : b / l.length < k := by
        rcases Nat.lt_or_ge (b / l.length) k with z | z
        · exact z
        · have z2 := Nat.mul_le_mul_right l.length z
          omega
      rw [sub_pw1 hlt (Nat.le_refl _) (by omega)]
      congr 1 <;> omega
  have wholeq : ∀ j, j ≤ b / l.length → ((if b / l.length - j = 0 then [] else [(⟨i, 0, l.length, b / l.length - j⟩ : Pc)]).map (pcv ts)).flatten = sub (pw l k) (j * l.length) (b / l.length * l.length) := by
    intro j hj
    rw [sub_pwk hj hk]
    by_cases h : b / l.length - j = 0
    · rw [if_pos h, h]
      rfl
    · rw [if_neg h]
      show (pcv ts ⟨i, 0, l.length, b / l.length - j⟩ ++ []) = _
      rw [List.append_nil]
      unfold pcv
      rw [hl, sub_all]
  have lastq : ((if b % l.length = 0 then [] else [(⟨i, 0, b % l.length, 1⟩ : Pc)]).map (pcv ts)).flatten = sub (pw l k) (b / l.length * l.length) b := by
    rw [last]
    by_cases h : b % l.length = 0
    · rw [if_pos h, if_pos h]
      rfl
    · rw [if_neg h, if_neg h]
      show (pcv ts ⟨i, 0, b % l.length, 1⟩ ++ []) = _
      rw [List.append_nil]
      unfold pcv
      rw [hl, pw_one]
  constructor
  · intro q hq'
    unfold divP at hq'
    rcases List.mem_append.mp hq' with h1 | h1
    · rcases List.mem_append.mp h1 with h2 | h2
      · split at h2
        · cases h2
        · rename_i hz
          have e := List.mem_singleton.mp h2
          subst e
          exact ⟨him, hi, ra, by rw [hl]; exact Nat.le_refl _, Nat.le_refl _⟩
      · split at h2
        · cases h2
        · rename_i hz
          have e := List.mem_singleton.mp h2
          subst e
          exact ⟨him, hi, hn, by rw [hl]; exact Nat.le_refl _, Nat.one_le_iff_ne_zero.mpr hz⟩
    · split at h1
      · cases h1
      · rename_i hz
        have e := List.mem_singleton.mp h1
        subst e
        exact ⟨him, hi, Nat.pos_of_ne_zero hz, by rw [hl]; exact Nat.le_of_lt rb, Nat.le_refl _⟩
  · unfold divP
    rw [List.map_append, List.map_append, List.flatten_append, List.flatten_append, lastq, up_div hn]
    by_cases h : a % l.length = 0
    · rw [if_pos h, if_pos h, wholeq _ (by omega)]
      have e : a / l.length * l.length = a := by omega
      rw [e]
      show ([] ++ _) ++ _ = _
      rw [List.nil_append, ← sub_cut (by rw [← e]; exact Nat.mul_le_mul_right _ (by omega)) (by omega)]
    · rw [if_neg h, if_neg h, wholeq _ hq]
      show ((pcv ts ⟨i, a % l.length, l.length, 1⟩ ++ []) ++ _) ++ _ = _
      rw [List.append_nil]
      have e1 : pcv ts ⟨i, a % l.length, l.length, 1⟩ = sub (pw l k) a ((a / l.length + 1) * l.length) := by
        unfold pcv
        rw [hl, pw_one, sub_pw1 (j := a / l.length) (by omega) (by omega) (by rw [Nat.add_mul]; omega)]
        rw [Nat.add_mul, Nat.one_mul]
        dsimp only
        congr 1 <;> omega
      have h3 : (a / l.length + 1) * l.length ≤ b / l.length * l.length := Nat.mul_le_mul_right _ hq
      rw [e1, ← sub_cut (by rw [Nat.add_mul]; omega) h3, ← sub_cut (by rw [Nat.add_mul] at h3; omega) (by omega)]
section
variable {rs : List Rule} {ts : List (List Nat)}
theorem divs_ok {r : Rule} {v : View} (s : Sound rs ts) (h : rs[v.n]? = some r) (hv : Val ts v) (hd : deep ts r v = none) (hl : isL r = false) :
    (∀ q ∈ divs ts r v, PcOk ts v.n q) ∧ ((divs ts r v).map (pcv ts)).flatten = sub (tx ts v.n) v.a v.b := by
  have hb := hv.b
  have hab := hv.ab
  have ho := (s.ok _ _ h).1
  have htx := s.tx h
  rw [htx] at hb
  cases r with
  | letters z => cases hl
  | part i x y => cases hd
  | back i => cases hd
  | power i k =>
    obtain ⟨o1, o2⟩ := ho
    obtain ⟨k1, k2, k3⟩ := s.tk h o1
    have em : made (ts.take v.n) (.power i k) = pw (tx ts i) k := by rw [show made (ts.take v.n) (.power i k) = pw (tx (ts.take v.n) i) k from rfl, k3]
    rw [em, pw_len] at hb
    unfold deep at hd
    dsimp only at hd
    split at hd
    · rename_i hc
      rw [htx, em]
      exact divP_ok k1 k2 hab hb hc
    · cases hd
  | join i j =>
    obtain ⟨o1, o2⟩ := ho
    obtain ⟨k1, k2, k3⟩ := s.tk h o1
    obtain ⟨l1, l2, l3⟩ := s.tk h o2
    have em : made (ts.take v.n) (.join i j) = tx ts i ++ tx ts j := by rw [show made (ts.take v.n) (.join i j) = tx (ts.take v.n) i ++ tx (ts.take v.n) j from rfl, k3, l3]
    rw [em, List.length_append] at hb
    unfold deep at hd
    dsimp only at hd
    split at hd
    · cases hd
    split at hd
    · cases hd
    rename_i h1 h2
    constructor
    · intro q hq
      rcases List.mem_cons.mp hq with e | e
      · subst e
        exact ⟨k1, k2, by dsimp only; omega, Nat.le_refl _, Nat.le_refl _⟩
      · have e := List.mem_singleton.mp e
        subst e
        exact ⟨l1, l2, by dsimp only; omega, by dsimp only; omega, Nat.le_refl _⟩
    · show pcv ts _ ++ (pcv ts _ ++ []) = _
      unfold pcv
      rw [List.append_nil, pw_one, pw_one, htx, em, sub_cut (a := v.a) (b := (tx ts i).length) (c := v.b) (by omega) (by omega), sub_appL (Nat.le_refl _), sub_appR (Nat.le_refl _), Nat.sub_self]
theorem trn_flat (t : Bool) (L : List (List Nat)) : trn t L.flatten = ((if t then L.reverse else L).map (trn t)).flatten := by
  cases t with
  | false =>
    show L.flatten = (L.map (trn false)).flatten
    rw [show trn false = id from rfl, List.map_id]
  | true =>
    show L.flatten.reverse = (L.reverse.map (trn true)).flatten
    rw [show trn true = List.reverse from rfl, List.reverse_flatten, List.map_reverse]
/-- the pieces in their order -/
def parts (ts : List (List Nat)) (r : Rule) (v : View) : List Pc := if v.t then (divs ts r v).reverse else divs ts r v
theorem parts_ok {r : Rule} {v : View} (s : Sound rs ts) (h : rs[v.n]? = some r) (hv : Val ts v) (hd : deep ts r v = none) (hl : isL r = false) :
    (∀ q ∈ parts ts r v, PcOk ts v.n q) ∧ ((parts ts r v).map fun q => pw (trn v.t (sub (tx ts q.i) q.a q.b)) q.k).flatten = vw ts v := by
  obtain ⟨h1, h2⟩ := divs_ok s h hv hd hl
  constructor
  · intro q hq
    unfold parts at hq
    split at hq
    · exact h1 q (List.mem_reverse.mp hq)
    · exact h1 q hq
  · unfold vw
    rw [← h2, trn_flat]
    congr 1
    unfold parts
    cases hvt : v.t with
    | false => simp [pcv, trn_pw]
    | true =>
      simp only [if_true]
      rw [← List.map_reverse, List.map_map]
      refine List.map_congr_left fun q _ => ?_
      show _ = trn true (pcv ts q)
      unfold pcv
      rw [trn_pw]
end
/-! ### a text as it stands -/
structure Cl (K : PySem.W.Frag) (C : Addr) : Prop where
  cl : Cls K C
  nR : NoAttr K C "rules"
  nE : NoAttr K C "lengths"
  nN : NoAttr K C "length"
def LT (H : Hp) (as : List Addr) (vss : List (List V)) : Prop := as.length = vss.length ∧ ∀ (k : Nat) (vs : List V), vss[k]? = some vs → ∃ a, as[k]? = some a ∧ H a = some (.tup vs)
theorem LT.same {H H' : Hp} {as : List Addr} {vss : List (List V)} (h : LT H as vss) (s : Same H H') : LT H' as vss := ⟨h.1, fun k vs e => let ⟨a, e1, e2⟩ := h.2 k vs e; ⟨a, e1, s _ _ e2⟩⟩
theorem LT.updL {H : Hp} {as : List Addr} {vss : List (List V)} {D : Addr} {xs : List V} {o : HO} (h : LT H as vss) (hD : H D = some (.lst xs)) : LT (upd H D o) as vss :=
  ⟨h.1, fun k vs e => let ⟨a, e1, e2⟩ := h.2 k vs e; ⟨a, e1, by rw [upd_ne (ne_of e2 hD (by intro z; cases z))]; exact e2⟩⟩
theorem LT.nil {H : Hp} : LT H [] [] := ⟨rfl, fun k vs e => by simp at e⟩
theorem LT.add {H : Hp} {as : List Addr} {vss : List (List V)} {a : Addr} {vs : List V} (h : LT H as vss) (ha : H a = some (.tup vs)) : LT H (as ++ [a]) (vss ++ [vs]) := by
  refine ⟨by simp [h.1], fun k x e => ?_⟩
  by_cases hk : k < vss.length
  · rw [List.getElem?_append_left hk] at e
    obtain ⟨b, e1, e2⟩ := h.2 k x e
    exact ⟨b, by rw [List.getElem?_append_left (by rw [h.1]; exact hk)]; exact e1, e2⟩
  · have hk2 : k = vss.length := by
      have := (List.getElem?_eq_some_iff.mp e).1
      simp at this
      omega
    subst hk2
    rw [List.getElem?_append_right (Nat.le_refl _), Nat.sub_self] at e
    have e' : vs = x := Option.some.inj e
    subst e'
    exact ⟨a, by rw [← h.1, List.getElem?_append_right (Nat.le_refl _), Nat.sub_self]; rfl, ha⟩
structure TextIs (C : Addr) (H : Hp) (x : Addr) (rs : List Rule) (ts : List (List Nat)) (dx RU LE : Addr) (fs : List (Str × V)) (as : List Addr) : Prop where
  at_ : H x = some (.ins C dx fs)
  fR : fs.lookup ("rules" : Str) = some (.ref RU)
  fE : fs.lookup ("lengths" : Str) = some (.ref LE)
  fN : fs.lookup ("length" : Str) = some (.int ((tx ts (ts.length - 1)).length : Int))
  m1 : fs.lookup ("letter" : Str) = none
  m2 : fs.lookup ("letters" : Str) = none
  hR : H RU = some (.tup (as.map V.ref))
  hE : H LE = some (.tup (ts.map fun l => V.int (l.length : Int)))
  hA : LT H as (rs.map Rule.vals)
  sound : Sound rs ts
def TextAt (C : Addr) (H : Hp) (x : Addr) (rs : List Rule) (ts : List (List Nat)) : Prop := ∃ dx RU LE fs as, TextIs C H x rs ts dx RU LE fs as
theorem TextIs.same {C : Addr} {H H' : Hp} {x : Addr} {rs : List Rule} {ts : List (List Nat)} {dx RU LE : Addr} {fs : List (Str × V)} {as : List Addr} (h : TextIs C H x rs ts dx RU LE fs as) (s : Same H H') : TextIs C H' x rs ts dx RU LE fs as :=
  ⟨s _ _ h.at_, h.fR, h.fE, h.fN, h.m1, h.m2, s _ _ h.hR, s _ _ h.hE, h.hA.same s, h.sound⟩
theorem TextAt.same {C : Addr} {H H' : Hp} {x : Addr} {rs : List Rule} {ts : List (List Nat)} (h : TextAt C H x rs ts) (s : Same H H') : TextAt C H' x rs ts := by
  obtain ⟨dx, RU, LE, fs, as, h⟩ := h
  exact ⟨dx, RU, LE, fs, as, h.same s⟩
section
variable {C : Addr} {H : Hp} {x : Addr} {rs : List Rule} {ts : List (List Nat)} {dx RU LE : Addr} {fs : List (Str × V)} {as : List Addr}
theorem TextIs.rule (h : TextIs C H x rs ts dx RU LE fs as) {k : Nat} {r : Rule} (e : rs[k]? = some r) : ∃ a, atI (as.map V.ref) (k : Int) = some (.ref a) ∧ H a = some (.tup r.vals) := by
  obtain ⟨a, e1, e2⟩ := h.hA.2 k r.vals (by rw [List.getElem?_map, e]; rfl)
  exact ⟨a, atI_nat (by rw [List.getElem?_map, e1]; rfl), e2⟩
theorem len_at {ts : List (List Nat)} {k : Nat} (h : k < ts.length) : atI (ts.map fun l => V.int (l.length : Int)) (k : Int) = some (.int ((tx ts k).length : Int)) :=
  atI_nat (by rw [List.getElem?_map, tx_at h]; rfl)
theorem Sound.rule (s : Sound rs ts) {k : Nat} (h : k < ts.length) : ∃ r, rs[k]? = some r := ⟨rs[k]'(by rw [← s.len]; exact h), List.getElem?_eq_getElem _⟩
theorem Sound.big (s : Sound rs ts) {k : Nat} (h : k < ts.length) : (K4.tx ts k).length ≤ 1000000000000 := s.le _ (tx_mem h)
end
theorem divW {n : Nat} (h0 : 0 < n) (h : n ≤ 1000000000000) (i : Int) : CDivW i (n : Int) := wide_div (b := 41) (by omega) (by rw [Int.natAbs_natCast]; omega) (by decide) (by decide)

section
variable {P : Program} {w : World} {K : PySem.W.Frag} {mg : Str → Option Value} {base : Heap}
/-! ### deeper -/
def spDeeper (C : Addr) : Sp := fun vs H Q _ => ∃ (x y : Addr) (rs : List Rule) (ts : List (List Nat)) (v : View) (r : Rule), vs = [.ref x, .ref y] ∧ TextAt C H x rs ts ∧ H y = some (.tup v.vals) ∧ Val ts v ∧ rs[v.n]? = some r ∧
  (deep ts r v = none → Q .non H) ∧ ∀ v' z H', deep ts r v = some v' → Same H H' → H' z = some (.tup v'.vals) → Q (.ref z) H'
theorem scDe : FnScope ["text", "view", "number", "start", "stop", "turned", "rule", "word", "size", "skipped"] ["text", "view"] (defScope sDeeper) := ⟨rfl, rfl, rfl, by decide +kernel, rfl, by decide +kernel, by decide +kernel⟩
theorem ok_deeper {C f : Addr} {fd : FuncData} (F : Fun K "deeper" "deeper" sDeeper f fd) (hm : mg "deeper" = some (.ref f)) (b : Binds K fd ["text", "view"] []) (D : Cl K C) : Cal P w K mg base 1 "deeper" (spDeeper C) [] := by
  refine mkCal F hm b scDe (fun vs H Q E h => ?_) (fun cdv A outer s H vs Q E hr h => ?_)
  · obtain ⟨x, y, rs, ts, v, r, rfl, _⟩ := h
    rfl
  obtain ⟨x, y, rs, ts, v, r, rfl, ⟨dx, RU, LE, fs, as, hX⟩, hy, hv, er, q0, q1⟩ := h
  refine ⟨_, (pss_cons (ps_asg (pv 1) (pg_tup rfl (pgs_cons (pg_name (i := 2) scDe.nd rfl (.inl rfl)) (pgs_cons (pg_name (i := 3) scDe.nd rfl (.inl rfl)) (pgs_cons (pg_name (i := 4) scDe.nd rfl (.inl rfl)) (pgs_cons (pg_name (i := 5) scDe.nd rfl (.inl rfl)) pgs_nil))))))
    (pss_cons (ps_set (i := 6) scDe.nd rfl (.inl rfl) (pe_ix ix_tup (pe_fld (pv 0) rfl) (pv 2) (fun _ _ => rfl)))
    (pss_cons (ps_set (i := 7) scDe.nd rfl (.inl rfl) (pe_ix ix_tup (pv 6) pe_int (fun _ _ => rfl)))
    (pss_cons (ps_if (pt_cmpR op_eq (pv 7) pe_str (nomark _)) (pss_one (ps_ret pe_non)) pss_nil)
    (pss_cons (ps_if (pt_cmpR op_eq (pv 7) pe_str (nomark _)) (pss_one (ps_ret (pe_tup (pa_cons (pe_ix ix_tup (pv 6) pe_int (fun _ _ => rfl)) (pa_cons (pe_op op_add (pe_ix ix_tup (pv 6) pe_int (fun _ _ => rfl)) (pv 3)) (pa_cons (pe_op op_add (pe_ix ix_tup (pv 6) pe_int (fun _ _ => rfl)) (pv 4)) (pa_cons (pv 5) pa_nil))))))) pss_nil)
    (pss_cons (ps_set (i := 8) scDe.nd rfl (.inl rfl) (pe_ix ix_tup (pe_fld (pv 0) rfl) (pe_ix ix_tup (pv 6) pe_int (fun _ _ => rfl)) (fun _ _ => rfl)))
    (pss_cons (ps_if (pt_cmpR op_eq (pv 7) pe_str (nomark _)) (pss_one (ps_ret (pe_tup (pa_cons (pe_ix ix_tup (pv 6) pe_int (fun _ _ => rfl)) (pa_cons (pe_op op_sub (pv 8) (pv 4)) (pa_cons (pe_op op_sub (pv 8) (pv 3)) (pa_cons (pe_not (pv 5)) pa_nil))))))) pss_nil)
    (pss_cons (ps_if (pt_cmpR op_eq (pv 7) pe_str (nomark _)) (pss_cons (ps_set (i := 9) scDe.nd rfl (.inl rfl) (pe_op op_mul (pe_op op_fdivW (pv 3) (pv 8)) (pv 8)))
    (pss_cons (ps_if (pt_cmpR op_gt (pv 4) (pe_op op_add (pv 9) (pv 8)) (nomark _)) (pss_one (ps_ret pe_non)) pss_nil)
    (pss_one (ps_ret (pe_tup (pa_cons (pe_ix ix_tup (pv 6) pe_int (fun _ _ => rfl)) (pa_cons (pe_op op_sub (pv 3) (pv 9)) (pa_cons (pe_op op_sub (pv 4) (pv 9)) (pa_cons (pv 5) pa_nil))))))))) pss_nil)
    (pss_cons (ps_if (pt_cmpR op_le (pv 4) (pv 8) (nomark _)) (pss_one (ps_ret (pe_tup (pa_cons (pe_ix ix_tup (pv 6) pe_int (fun _ _ => rfl)) (pa_cons (pv 3) (pa_cons (pv 4) (pa_cons (pv 5) pa_nil))))))) pss_nil)
    (pss_cons (ps_if (pt_cmpR op_ge (pv 3) (pv 8) (nomark _)) (pss_one (ps_ret (pe_tup (pa_cons (pe_ix ix_tup (pv 6) pe_int (fun _ _ => rfl)) (pa_cons (pe_op op_sub (pv 3) (pv 8)) (pa_cons (pe_op op_sub (pv 4) (pv 8)) (pa_cons (pv 5) pa_nil))))))) pss_nil)
    (pss_one (ps_ret pe_non)))))))))))), ?_⟩
  obtain ⟨a, ea, ha⟩ := hX.rule er
  have hA : SqT K H a r.vals := SqT.of ha
  have s := hX.sound
  refine ⟨_, rfl, y, _, rfl, SqT.of hy, rfl, _, _, rfl, _, _, rfl, _, _, rfl, _, _, rfl, rfl, ?_⟩
  refine ⟨_, rfl, x, C, dx, _, _, rfl, hX.at_, D.cl, D.nR, hX.fR, _, rfl, RU, _, (v.n : Int), _, rfl, rfl, SqT.of hX.hR, ea, ?_⟩
  have fin : ∀ (v' : View) (vs : List V), vs = v'.vals → deep ts r v = some v' → vs.length ≤ sizeLine ∧ ∀ p, H p = none → Q (.ref p) (upd H p (.tup vs)) := by
    intro v' vs e hd
    subst e
    exact ⟨by show 4 ≤ sizeLine; decide, fun p np => q1 v' p _ hd (same_new np) upd_same⟩
  have ho := (s.ok _ _ er).1
  have hb := hv.b
  have hab := hv.ab
  rw [s.tx er] at hb
  have szat : ∀ {i : Nat}, i < ts.length → atI (ts.map fun l => V.int (l.length : Int)) (i : Int) = some (.int ((tx ts i).length : Int)) := fun h => len_at h
  cases r with
  | letters z =>
    refine ⟨_, rfl, a, _, 0, _, rfl, rfl, hA, atI_nat (j := 0) rfl, ?_⟩
    refine ⟨_, rfl, rfl, _, rfl, ifT (by decide +kernel) ?_⟩
    exact q0 rfl
  | part i l u =>
    refine ⟨_, rfl, a, _, 0, _, rfl, rfl, hA, atI_nat (j := 0) rfl, ?_⟩
    refine ⟨_, rfl, rfl, _, rfl, ifF (by decide +kernel) ?_⟩
    refine ⟨_, rfl, rfl, _, rfl, ifT (by decide +kernel) ?_⟩
    refine ⟨_, rfl, a, _, 1, _, rfl, rfl, hA, atI_nat (j := 1) rfl, ?_⟩
    refine ⟨_, rfl, a, _, 2, _, rfl, rfl, hA, atI_nat (j := 2) rfl, _, rfl, _, _, rfl, rfl, ?_⟩
    refine ⟨_, rfl, a, _, 2, _, rfl, rfl, hA, atI_nat (j := 2) rfl, _, rfl, _, _, rfl, rfl, _, rfl, ?_⟩
    exact fin _ _ rfl rfl
  | back i =>
    obtain ⟨k1, k2, k3⟩ := s.tk er ho
    refine ⟨_, rfl, a, _, 0, _, rfl, rfl, hA, atI_nat (j := 0) rfl, ?_⟩
    refine ⟨_, rfl, rfl, _, rfl, ifF (by decide +kernel) ?_⟩
    refine ⟨_, rfl, rfl, _, rfl, ifF (by decide +kernel) ?_⟩
    refine ⟨_, rfl, x, C, dx, _, _, rfl, hX.at_, D.cl, D.nE, hX.fE, _, rfl, a, _, 1, _, rfl, rfl, hA, atI_nat (j := 1) rfl, LE, _, (i : Int), _, rfl, rfl, SqT.of hX.hE, szat k2, ?_⟩
    refine ⟨_, rfl, rfl, _, rfl, ifT (by decide +kernel) ?_⟩
    refine ⟨_, rfl, a, _, 1, _, rfl, rfl, hA, atI_nat (j := 1) rfl, ?_⟩
    refine ⟨_, rfl, _, rfl, _, _, rfl, rfl, _, rfl, _, rfl, _, _, rfl, rfl, _, rfl, v.t, rfl, ?_⟩
    refine fin ⟨i, (tx ts i).length - v.b, (tx ts i).length - v.a, !v.t⟩ _ ?_ rfl
    have hb' : v.b ≤ (tx (ts.take v.n) i).reverse.length := hb
    rw [List.length_reverse, k3] at hb'
    simp only [View.vals, List.cons.injEq, V.int.injEq, true_and, and_true]
    omega
  | power i k =>
    obtain ⟨o1, o2⟩ := ho
    obtain ⟨k1, k2, k3⟩ := s.tk er o1
    have hb' : v.b ≤ (pw (tx ts i) k).length := by rw [← k3]; exact hb
    rw [pw_len] at hb'
    have hpos : 0 < (tx ts i).length := by
      rcases Nat.eq_zero_or_pos (tx ts i).length with z | z
      · rw [z] at hb'; omega
      · exact z
    have hbig := s.big k2
    refine ⟨_, rfl, a, _, 0, _, rfl, rfl, hA, atI_nat (j := 0) rfl, ?_⟩
    refine ⟨_, rfl, rfl, _, rfl, ifF (by decide +kernel) ?_⟩
    refine ⟨_, rfl, rfl, _, rfl, ifF (by decide +kernel) ?_⟩
    refine ⟨_, rfl, x, C, dx, _, _, rfl, hX.at_, D.cl, D.nE, hX.fE, _, rfl, a, _, 1, _, rfl, rfl, hA, atI_nat (j := 1) rfl, LE, _, (i : Int), _, rfl, rfl, SqT.of hX.hE, szat k2, ?_⟩
    refine ⟨_, rfl, rfl, _, rfl, ifF (by decide +kernel) ?_⟩
    refine ⟨_, rfl, rfl, _, rfl, ifT (by decide +kernel) ?_⟩
    have esk : ((v.a : Int) / ((tx ts i).length : Int)) * ((tx ts i).length : Int) = ((v.a / (tx ts i).length * (tx ts i).length : Nat) : Int) := rfl
    have hd1 : v.a / (tx ts i).length * (tx ts i).length ≤ v.a := Nat.div_mul_le_self _ _
    refine ⟨_, rfl, _, rfl, _, _, rfl, rfl, divW hpos hbig _, _, rfl, _, _, rfl, rfl, .inr ⟨by omega, by omega⟩, ?_⟩
    refine ⟨_, rfl, _, rfl, _, rfl, _, _, rfl, rfl, _, _, rfl, rfl, _, rfl, ?_⟩
    have ed : deep ts (.power i k) v = if v.b > v.a / (tx ts i).length * (tx ts i).length + (tx ts i).length then none else some ⟨i, v.a - v.a / (tx ts i).length * (tx ts i).length, v.b - v.a / (tx ts i).length * (tx ts i).length, v.t⟩ := rfl
    refine ite2 (fun z => ?_) (fun z => ?_)
    · have z1 : ((v.a : Int) / ((tx ts i).length : Int)) * ((tx ts i).length : Int) + ((tx ts i).length : Int) < (v.b : Int) := of_decide_eq_true z
      rw [esk] at z1
      exact q0 (by rw [ed, if_pos (by omega)])
    · have z1 : ¬ ((v.a : Int) / ((tx ts i).length : Int)) * ((tx ts i).length : Int) + ((tx ts i).length : Int) < (v.b : Int) := fun h => z (decide_eq_true h)
      rw [esk] at z1
      refine ⟨_, rfl, a, _, 1, _, rfl, rfl, hA, atI_nat (j := 1) rfl, ?_⟩
      refine ⟨_, rfl, _, rfl, _, _, rfl, rfl, _, rfl, _, rfl, _, _, rfl, rfl, _, rfl, ?_⟩
      refine fin ⟨i, v.a - v.a / (tx ts i).length * (tx ts i).length, v.b - v.a / (tx ts i).length * (tx ts i).length, v.t⟩ _ ?_ (by rw [ed, if_neg (by omega)])
      simp only [View.vals, List.cons.injEq, V.int.injEq, true_and, and_true]
      rw [esk]
      omega
  | join i j =>
    obtain ⟨o1, o2⟩ := ho
    obtain ⟨k1, k2, k3⟩ := s.tk er o1
    refine ⟨_, rfl, a, _, 0, _, rfl, rfl, hA, atI_nat (j := 0) rfl, ?_⟩
    refine ⟨_, rfl, rfl, _, rfl, ifF (by decide +kernel) ?_⟩
    refine ⟨_, rfl, rfl, _, rfl, ifF (by decide +kernel) ?_⟩
    refine ⟨_, rfl, x, C, dx, _, _, rfl, hX.at_, D.cl, D.nE, hX.fE, _, rfl, a, _, 1, _, rfl, rfl, hA, atI_nat (j := 1) rfl, LE, _, (i : Int), _, rfl, rfl, SqT.of hX.hE, szat k2, ?_⟩
    refine ⟨_, rfl, rfl, _, rfl, ifF (by decide +kernel) ?_⟩
    refine ⟨_, rfl, rfl, _, rfl, ifF (by decide +kernel) ?_⟩
    have ed : deep ts (.join i j) v = if v.b ≤ (tx ts i).length then some ⟨i, v.a, v.b, v.t⟩ else if v.a ≥ (tx ts i).length then some ⟨j, v.a - (tx ts i).length, v.b - (tx ts i).length, v.t⟩ else none := rfl
    refine ⟨_, rfl, _, rfl, _, _, rfl, rfl, _, rfl, ?_⟩
    refine ite2 (fun z => ?_) (fun z => ?_)
    · have z1 : (v.b : Int) ≤ ((tx ts i).length : Int) := of_decide_eq_true z
      refine ⟨_, rfl, a, _, 1, _, rfl, rfl, hA, atI_nat (j := 1) rfl, ?_⟩
      refine ⟨_, rfl, _, rfl, _, rfl, ?_⟩
      exact fin ⟨i, v.a, v.b, v.t⟩ _ rfl (by rw [ed, if_pos (by omega)])
    · have z1 : ¬ (v.b : Int) ≤ ((tx ts i).length : Int) := fun h => z (decide_eq_true h)
      refine ⟨_, rfl, _, rfl, _, _, rfl, rfl, _, rfl, ?_⟩
      refine ite2 (fun z => ?_) (fun z => ?_)
      · have z2 : ((tx ts i).length : Int) ≤ (v.a : Int) := of_decide_eq_true z
        refine ⟨_, rfl, a, _, 2, _, rfl, rfl, hA, atI_nat (j := 2) rfl, ?_⟩
        refine ⟨_, rfl, _, rfl, _, _, rfl, rfl, _, rfl, _, rfl, _, _, rfl, rfl, _, rfl, ?_⟩
        refine fin ⟨j, v.a - (tx ts i).length, v.b - (tx ts i).length, v.t⟩ _ ?_ (by rw [ed, if_neg (by omega), if_pos (by omega)])
        simp only [View.vals, List.cons.injEq, V.int.injEq, true_and, and_true]
        omega
      · have z2 : ¬ ((tx ts i).length : Int) ≤ (v.a : Int) := fun h => z (decide_eq_true h)
        exact q0 (by rw [ed, if_neg (by omega), if_neg (by omega)])
end
section
variable {P : Program} {w : World} {K : PySem.W.Frag} {mg : Str → Option Value} {base : Heap}
/-! ### settled, view_of -/
structure Sett (rs : List Rule) (ts : List (List Nat)) (v : View) (r : Rule) : Prop where
  val : Val ts v
  rule : rs[v.n]? = some r
  deep : deep ts r v = none
def spSettled (C : Addr) : Sp := fun vs H Q _ => ∃ (x y : Addr) (rs : List Rule) (ts : List (List Nat)) (v : View), vs = [.ref x, .ref y] ∧ TextAt C H x rs ts ∧ H y = some (.tup v.vals) ∧ Val ts v ∧
  ∀ v' z r H', Same H H' → H' z = some (.tup v'.vals) → Sett rs ts v' r → vw ts v' = vw ts v → v'.n ≤ v.n → Q (.ref z) H'
theorem scSe : FnScope ["text", "view", "found"] ["text", "view"] (defScope sSettled) := ⟨rfl, rfl, rfl, by decide +kernel, rfl, by decide +kernel, by decide +kernel⟩
theorem ok_settled {C f : Addr} {fd : FuncData} (F : Fun K "settled" "settled" sSettled f fd) (hm : mg "settled" = some (.ref f)) (b : Binds K fd ["text", "view"] []) (GD : Cal P w K mg base 1 "deeper" (spDeeper C) []) : Cal P w K mg base 2 "settled" (spSettled C) [] := by
  refine mkCal F hm b scSe (fun vs H Q E h => ?_) (fun cdv A outer s H vs Q E hr h => ?_)
  · obtain ⟨x, y, rs, ts, v, rfl, _⟩ := h
    rfl
  obtain ⟨x, y, rs, ts, v, rfl, hX, hy, hv, q⟩ := h
  have snd : Sound rs ts := by obtain ⟨_, _, _, _, _, h⟩ := hX; exact h.sound
  refine ⟨_, (pss_cons (ps_set (i := 2) scSe.nd rfl (.inl rfl) (pv 1))
    (pss_cons (ps_while PassesOwn.never (pt_cmpR op_notN (pv 2) pe_non (nomark _)) (pss_cons (ps_set (i := 1) scSe.nd rfl (.inl rfl) (pv 2))
    (pss_one (ps_set (i := 2) scSe.nd rfl (.inl rfl) (pe_c GD hr (by decide) (by rfl) (pa_cons (pv 0) (pa_cons (pv 1) pa_nil)))))))
    (pss_one (ps_ret (pv 1))))), ?_⟩
  refine ⟨_, rfl, fun m σ H' => Same H H' ∧ ∃ (v' : View) (z : Addr), H' z = some (.tup v'.vals) ∧ Val ts v' ∧ vw ts v' = vw ts v ∧ v'.n ≤ v.n ∧
      ((∃ u, σ = [some (.ref x), some u, some (.ref z)] ∧ m = v'.n + 1) ∨ (σ = [some (.ref x), some (.ref z), some .non] ∧ m = 0 ∧ ∃ r, Sett rs ts v' r)),
    ⟨v.n + 1, Same.refl H, v, y, hy, hv, rfl, Nat.le_refl _, .inl ⟨_, rfl, rfl⟩⟩, ?_⟩
  rintro m σ H1 ⟨s1, v', z, hz, hv', e', hn', ⟨u, rfl, rfl⟩ | ⟨rfl, rfl, r, hs⟩⟩
  · refine ⟨_, rfl, rfl, _, rfl, ifT rfl ?_⟩
    refine ⟨fun σ' H' => ∃ m' < v'.n + 1, Same H H' ∧ ∃ (v2 : View) (z : Addr), H' z = some (.tup v2.vals) ∧ Val ts v2 ∧ vw ts v2 = vw ts v ∧ v2.n ≤ v.n ∧
      ((∃ u, σ' = [some (.ref x), some u, some (.ref z)] ∧ m' = v2.n + 1) ∨ (σ' = [some (.ref x), some (.ref z), some .non] ∧ m' = 0 ∧ ∃ r, Sett rs ts v2 r)), fun σ' H' h => h, ?_⟩
    obtain ⟨r, er⟩ := snd.rule hv'.n
    refine ⟨_, rfl, _, rfl, _, rfl, x, z, rs, ts, v', r, rfl, hX.same s1, hz, hv', er, fun hd => ?_, fun v2 z2 H2 hd s2 hz2 => ?_⟩
    · exact ⟨0, Nat.succ_pos _, s1, v', z, hz, hv', e', hn', .inr ⟨rfl, rfl, r, hv', er, hd⟩⟩
    · obtain ⟨h1, h2, h3⟩ := deep_ok snd er hv' hd
      exact ⟨v2.n + 1, by omega, s1.trans s2, v2, z2, hz2, h1, h3.trans e', by omega, .inl ⟨_, rfl, rfl⟩⟩
  · refine ⟨_, rfl, rfl, _, rfl, ifF rfl ?_⟩
    exact ⟨_, rfl, q v' z r H1 s1 hz hs e' hn'⟩
def spViewOf (C : Addr) : Sp := fun vs H Q _ => ∃ (x : Addr) (rs : List Rule) (ts : List (List Nat)) (a b : Nat), vs = [.ref x, .int (a : Int), .int (b : Int)] ∧ TextAt C H x rs ts ∧ 0 < ts.length ∧ a < b ∧ b ≤ (tx ts (ts.length - 1)).length ∧
  ∀ v' z r H', Same H H' → H' z = some (.tup v'.vals) → Sett rs ts v' r → vw ts v' = sub (tx ts (ts.length - 1)) a b → Q (.ref z) H'
theorem scVo : FnScope ["text", "start", "stop"] ["text", "start", "stop"] (defScope sViewOf) := ⟨rfl, rfl, rfl, by decide +kernel, rfl, by decide +kernel, by decide +kernel⟩
theorem ok_view_of {C f : Addr} {fd : FuncData} (F : Fun K "view_of" "view_of" sViewOf f fd) (hm : mg "view_of" = some (.ref f)) (b : Binds K fd ["text", "start", "stop"] []) (T : Txt mg) (D : Cl K C) (GSe : Cal P w K mg base 2 "settled" (spSettled C) []) : Cal P w K mg base 3 "view_of" (spViewOf C) [] := by
  refine mkCal F hm b scVo (fun vs H Q E h => ?_) (fun cdv A outer s H vs Q E hr h => ?_)
  · obtain ⟨x, rs, ts, a, b, rfl, _⟩ := h
    rfl
  obtain ⟨x, rs, ts, a, b, rfl, hX, h0, hab, hb, q⟩ := h
  refine ⟨_, (pss_one (ps_ret (pe_c GSe hr (by decide) (by rfl) (pa_cons (pv 0) (pa_cons (pe_tup (pa_cons (pe_op op_sub (pe_callB call_len_seq (by rfl) T.len PySem.boot_len (pa_cons (pe_fld (pv 0) rfl) pa_nil)) pe_int) (pa_cons (pv 1) (pa_cons (pv 2) (pa_cons pe_bl pa_nil))))) pa_nil))))), ?_⟩
  have hX' := hX
  obtain ⟨dx, RU, LE, fs, as, hI⟩ := hX'
  have elen : (as.map V.ref).length = ts.length := by rw [List.length_map, hI.hA.1, List.length_map, hI.sound.len]
  refine ⟨_, rfl, _, rfl, x, C, dx, _, _, rfl, hI.at_, D.cl, D.nR, hI.fR, RU, _, rfl, .inr (SqT.of hI.hR), _, _, rfl, rfl, _, rfl, _, rfl, by show 4 ≤ sizeLine; decide, fun y ny => ?_⟩
  refine ⟨x, y, rs, ts, ⟨ts.length - 1, a, b, false⟩, rfl, hX.same (same_new ny), ?_, ⟨by dsimp only; omega, hab, hb⟩, fun v' z r H' s' hz hs e' hn => ?_⟩
  · rw [upd_same, elen]
    simp only [View.vals, Option.some.injEq, HO.tup.injEq, List.cons.injEq, V.int.injEq, true_and, and_true]
    omega
  · exact q v' z r H' ((same_new ny).trans s') hz hs e'
/-! ### spelled_by -/
def spSpelledBy (C : Addr) : Sp := fun vs H Q _ => ∃ (x y : Addr) (rs : List Rule) (ts : List (List Nat)) (v : View) (r : Rule), vs = [.ref x, .ref y] ∧ TextAt C H x rs ts ∧ H y = some (.tup v.vals) ∧ Val ts v ∧ rs[v.n]? = some r ∧
  (isL r = true → Q (.str (S (vw ts v))) H) ∧ (isL r = false → Q .non H)
theorem scSb : FnScope ["text", "view", "number", "start", "stop", "turned", "rule", "letters"] ["text", "view"] (defScope sSpelledBy) := ⟨rfl, rfl, rfl, by decide +kernel, rfl, by decide +kernel, by decide +kernel⟩
theorem ok_spelled_by {C f : Addr} {fd : FuncData} (F : Fun K "spelled_by" "spelled_by" sSpelledBy f fd) (hm : mg "spelled_by" = some (.ref f)) (b : Binds K fd ["text", "view"] []) (D : Cl K C) : Cal P w K mg base 1 "spelled_by" (spSpelledBy C) [] := by
  refine mkCal F hm b scSb (fun vs H Q E h => ?_) (fun cdv A outer s H vs Q E hr h => ?_)
  · obtain ⟨x, y, rs, ts, v, r, rfl, _⟩ := h
    rfl
  obtain ⟨x, y, rs, ts, v, r, rfl, ⟨dx, RU, LE, fs, as, hX⟩, hy, hv, er, q1, q0⟩ := h
  refine ⟨_, (pss_cons (ps_asg (pv 1) (pg_tup rfl (pgs_cons (pg_name (i := 2) scSb.nd rfl (.inl rfl)) (pgs_cons (pg_name (i := 3) scSb.nd rfl (.inl rfl)) (pgs_cons (pg_name (i := 4) scSb.nd rfl (.inl rfl)) (pgs_cons (pg_name (i := 5) scSb.nd rfl (.inl rfl)) pgs_nil))))))
    (pss_cons (ps_set (i := 6) scSb.nd rfl (.inl rfl) (pe_ix ix_tup (pe_fld (pv 0) rfl) (pv 2) (fun _ _ => rfl)))
    (pss_cons (ps_if (pt_cmpR op_ne (pe_ix ix_tup (pv 6) pe_int (fun _ _ => rfl)) pe_str (nomark _)) (pss_one (ps_ret pe_non)) pss_nil)
    (pss_cons (ps_set (i := 7) scSb.nd rfl (.inl rfl) (pe_slice sl_str (pe_ix ix_tup (pv 6) pe_int (fun _ _ => rfl)) (po_some (pv 3)) (po_some (pv 4))))
    (pss_one (ps_ret (pe_ifExp (pt_val (pv 5)) (pe_revS (pv 7)) (pv 7)))))))), ?_⟩
  obtain ⟨a, ea, ha⟩ := hX.rule er
  have hA : SqT K H a r.vals := SqT.of ha
  have s := hX.sound
  refine ⟨_, rfl, y, _, rfl, SqT.of hy, rfl, _, _, rfl, _, _, rfl, _, _, rfl, _, _, rfl, rfl, ?_⟩
  refine ⟨_, rfl, x, C, dx, _, _, rfl, hX.at_, D.cl, D.nR, hX.fR, _, rfl, RU, _, (v.n : Int), _, rfl, rfl, SqT.of hX.hR, ea, ?_⟩
  have hb := hv.b
  have hab := hv.ab
  have etx := s.tx er
  cases r with
  | letters z =>
    have ho := (s.ok _ _ er).1
    have etz : tx ts v.n = z := etx
    rw [etz] at hb
    have evw : vw ts v = trn v.t (sub z v.a v.b) := by unfold vw; rw [etz]
    refine ⟨_, rfl, a, _, 0, _, rfl, rfl, hA, atI_nat (j := 0) rfl, rfl, _, rfl, ifF (by decide +kernel) ?_⟩
    refine ⟨_, rfl, a, _, 1, _, rfl, rfl, hA, atI_nat (j := 1) rfl, _, rfl, _, rfl, _, rfl, _, rfl, S z, rfl, Sz (by have := ho.1; omega), ?_⟩
    rw [cut_S hb (Nat.le_of_lt hab)]
    have q' := q1 rfl
    rw [evw] at q'
    have hlen : ((z.take v.b).drop v.a).length ≤ 64 := by
      rw [List.length_drop, List.length_take]
      have := ho.1
      omega
    refine ⟨_, rfl, v.t, rfl, ?_⟩
    cases hvt : v.t with
    | true =>
      rw [hvt] at q'
      exact ifT rfl ⟨_, rfl, _, rfl, by omega, q'⟩
    | false =>
      rw [hvt] at q'
      exact ifF rfl ⟨_, rfl, q'⟩
  | part i l u => exact ⟨_, rfl, a, _, 0, _, rfl, rfl, hA, atI_nat (j := 0) rfl, rfl, _, rfl, ifT (by decide +kernel) (q0 rfl)⟩
  | back i => exact ⟨_, rfl, a, _, 0, _, rfl, rfl, hA, atI_nat (j := 0) rfl, rfl, _, rfl, ifT (by decide +kernel) (q0 rfl)⟩
  | power i k => exact ⟨_, rfl, a, _, 0, _, rfl, rfl, hA, atI_nat (j := 0) rfl, rfl, _, rfl, ifT (by decide +kernel) (q0 rfl)⟩
  | join i j => exact ⟨_, rfl, a, _, 0, _, rfl, rfl, hA, atI_nat (j := 0) rfl, rfl, _, rfl, ifT (by decide +kernel) (q0 rfl)⟩
/-! ### divided_power -/
def spDivP : Sp := fun vs H Q _ => ∃ i n a b : Nat, vs = [.int (i : Int), .int (n : Int), .int (a : Int), .int (b : Int)] ∧ 0 < n ∧ n ≤ 1000000000000 ∧ (a + n - 1) / n ≤ b / n ∧
  ∀ (D : Addr) (as : List Addr) H', Same H H' → H D = none → H' D = some (.lst (as.map V.ref)) → LT H' as ((divP i n a b).map Pc.vals) → Q (.ref D) H'
theorem scDp : FnScope ["base", "size", "start", "stop", "parts", "whole"] ["base", "size", "start", "stop"] (defScope sDividedPower) := ⟨rfl, rfl, rfl, by decide +kernel, rfl, by decide +kernel, by decide +kernel⟩
theorem ok_divP {f : Addr} {fd : FuncData} (F : Fun K "divided_power" "divided_power" sDividedPower f fd) (hm : mg "divided_power" = some (.ref f)) (b : Binds K fd ["base", "size", "start", "stop"] []) : Cal P w K mg base 1 "divided_power" spDivP [] := by
  refine mkCal F hm b scDp (fun vs H Q E h => ?_) (fun cdv A outer s H vs Q E hr h => ?_)
  · obtain ⟨i, n, a, b, rfl, _⟩ := h
    rfl
  obtain ⟨i, n, a, b, rfl, hn, hbig, hle, q⟩ := h
  refine ⟨_, (pss_cons (ps_set (i := 4) scDp.nd rfl (.inl rfl) (pe_lst pa_nil))
    (pss_cut (ps_if (pt_truth (pe_op op_mod (pv 2) (pv 1)) (by intro _; rfl)) (pss_one (ps_expr (pe_bm PySem.F.plainAttrs_list PySem.F.slot_list_append PySem.F.type_list_append mt_append (pv 4) (pa_cons (pe_tup (pa_cons (pv 0) (pa_cons (pe_op op_mod (pv 2) (pv 1)) (pa_cons (pv 1) (pa_cons pe_int pa_nil))))) pa_nil)))) pss_nil)
    (pss_cons (ps_set (i := 5) scDp.nd rfl (.inl rfl) (pe_op op_sub (pe_op op_fdivW (pv 3) (pv 1)) (pe_op op_fdivW (pe_op op_sub (pe_op op_add (pv 2) (pv 1)) pe_int) (pv 1))))
    (pss_cut (ps_if (pt_truth (pv 5) (by intro _; rfl)) (pss_one (ps_expr (pe_bm PySem.F.plainAttrs_list PySem.F.slot_list_append PySem.F.type_list_append mt_append (pv 4) (pa_cons (pe_tup (pa_cons (pv 0) (pa_cons pe_int (pa_cons (pv 1) (pa_cons (pv 5) pa_nil))))) pa_nil)))) pss_nil)
    (pss_cut (ps_if (pt_truth (pe_op op_mod (pv 3) (pv 1)) (by intro _; rfl)) (pss_one (ps_expr (pe_bm PySem.F.plainAttrs_list PySem.F.slot_list_append PySem.F.type_list_append mt_append (pv 4) (pa_cons (pe_tup (pa_cons (pv 0) (pa_cons pe_int (pa_cons (pe_op op_mod (pv 3) (pv 1)) (pa_cons pe_int pa_nil))))) pa_nil)))) pss_nil)
    (pss_one (ps_ret (pv 4)))))))), ?_⟩
  refine ⟨Nat.zero_le _, fun D nD => ?_⟩
  -- a piece more
  have push : ∀ (H1 : Hp) (as : List Addr) (qs : List Pc) (pc : Pc) (vs : List V), vs = pc.vals → Same H H1 → H1 D = some (.lst (as.map V.ref)) → LT H1 as (qs.map Pc.vals) → qs.length ≤ 10 → ∀ (R : Hp → Prop),
      (∀ as' H2, Same H H2 → H2 D = some (.lst (as'.map V.ref)) → LT H2 as' ((qs ++ [pc]).map Pc.vals) → R H2) →
      vs.length ≤ sizeLine ∧ ∀ p, H1 p = none → ∃ l xs v, V.ref D = .ref l ∧ [V.ref p] = [v] ∧ (upd H1 p (.tup vs)) l = some (.lst xs) ∧ xs.length < sizeLine ∧ R (upd (upd H1 p (.tup vs)) l (.lst (xs ++ [v]))) := by
    intro H1 as qs pc vs e s1 hD hL hq R hR
    subst e
    refine ⟨by show 4 ≤ sizeLine; decide, fun p np => ?_⟩
    have hDp : D ≠ p := ne_of_none hD np
    have hD' : (upd H1 p (.tup pc.vals)) D = some (.lst (as.map V.ref)) := by rw [upd_ne hDp]; exact hD
    refine ⟨D, _, _, rfl, rfl, hD', by rw [List.length_map, hL.1, List.length_map]; exact small1000 (by omega), ?_⟩
    refine hR (as ++ [p]) _ (fun c o hc => ?_) (by rw [upd_same]; simp) ?_
    · rw [upd_ne (ne_of_none hc nD), upd_ne (ne_of_none (s1 _ _ hc) np)]
      exact s1 _ _ hc
    · rw [List.map_append]
      exact ((hL.same (same_new np)).add upd_same).updL hD'
  refine ⟨fun σ H' => ∃ as, σ = [some (.int (i : Int)), some (.int (n : Int)), some (.int (a : Int)), some (.int (b : Int)), some (.ref D), none] ∧ Same H H' ∧ H' D = some (.lst (as.map V.ref)) ∧ LT H' as ((if a % n = 0 then [] else [(⟨i, a % n, n, 1⟩ : Pc)]).map Pc.vals), ?_, ?_⟩
  · refine ⟨_, rfl, _, rfl, _, _, rfl, rfl, by omega, _, rfl, ?_⟩
    by_cases hz : a % n = 0
    · refine ifF ?_ ⟨[], rfl, same_new nD, upd_same, by rw [if_pos hz]; exact LT.nil⟩
      have e : ((a : Int) % (n : Int)) = 0 := by omega
      show (((a : Int) % (n : Int)) != 0) = false
      rw [e]
      rfl
    · refine ifT ?_ ?_
      · have e : ((a : Int) % (n : Int)) ≠ 0 := by omega
        show (((a : Int) % (n : Int)) != 0) = true
        exact bne_iff_ne.mpr e
      · refine ⟨_, rfl, .inl ⟨rfl, _, SqL.of upd_same⟩, ?_⟩
        refine ⟨_, rfl, _, rfl, _, rfl, _, _, rfl, rfl, by omega, _, rfl, ?_⟩
        refine push _ [] [] ⟨i, a % n, n, 1⟩ _ rfl (same_new nD) upd_same LT.nil (by decide) _ fun as' H2 s2 hD2 hL2 => ?_
        exact ⟨as', rfl, s2, hD2, by rw [if_neg hz]; exact hL2⟩
  · rintro σ H1 ⟨as, rfl, s1, hD1, hL1⟩
    have esub : ((b : Int) / (n : Int)) - ((a : Int) + (n : Int) - 1) / (n : Int) = ((b / n - (a + n - 1) / n : Nat) : Int) := by
      have e1 : ((a : Int) + (n : Int) - 1) = ((a + n - 1 : Nat) : Int) := by omega
      rw [e1, show ((b : Int) / (n : Int)) = ((b / n : Nat) : Int) from rfl, show (((a + n - 1 : Nat) : Int) / (n : Int)) = (((a + n - 1) / n : Nat) : Int) from rfl]
      omega
    refine ⟨_, rfl, _, rfl, _, _, rfl, rfl, divW hn hbig _, _, rfl, _, rfl, _, _, rfl, rfl, _, _, rfl, rfl, _, rfl, _, _, rfl, rfl, divW hn hbig _, _, _, rfl, rfl, ?_⟩
    generalize hw : b / n - (a + n - 1) / n = wh at esub
    show gName 5 (V.int ((b : Int) / (n : Int) - ((a : Int) + (n : Int) - 1) / (n : Int))) _ _ _
    rw [esub]
    refine ⟨fun σ H' => ∃ as, σ = [some (.int (i : Int)), some (.int (n : Int)), some (.int (a : Int)), some (.int (b : Int)), some (.ref D), some (.int (wh : Int))] ∧ Same H H' ∧ H' D = some (.lst (as.map V.ref)) ∧
      LT H' as (((if a % n = 0 then [] else [(⟨i, a % n, n, 1⟩ : Pc)]) ++ (if wh = 0 then [] else [(⟨i, 0, n, wh⟩ : Pc)])).map Pc.vals), ?_, ?_⟩
    · refine ⟨_, rfl, _, rfl, ?_⟩
      by_cases hz : wh = 0
      · refine ifF (by rw [hz]; rfl) ⟨as, rfl, s1, hD1, ?_⟩
        rw [if_pos hz, List.append_nil]
        exact hL1
      · refine ifT (bne_iff_ne.mpr (by omega)) ?_
        refine ⟨_, rfl, .inl ⟨rfl, _, SqL.of hD1⟩, ?_⟩
        refine ⟨_, rfl, _, rfl, _, rfl, ?_⟩
        refine push _ as _ ⟨i, 0, n, wh⟩ _ rfl s1 hD1 hL1 (by split <;> simp) _ fun as' H2 s2 hD2 hL2 => ?_
        exact ⟨as', rfl, s2, hD2, by rw [if_neg hz]; exact hL2⟩
    · rintro σ H2 ⟨as2, rfl, s2, hD2, hL2⟩
      refine ⟨fun σ H' => ∃ as, σ = [some (.int (i : Int)), some (.int (n : Int)), some (.int (a : Int)), some (.int (b : Int)), some (.ref D), some (.int (wh : Int))] ∧ Same H H' ∧ H' D = some (.lst (as.map V.ref)) ∧
        LT H' as ((divP i n a b).map Pc.vals), ?_, ?_⟩
      · refine ⟨_, rfl, _, rfl, _, _, rfl, rfl, by omega, _, rfl, ?_⟩
        unfold divP
        rw [hw]
        by_cases hz : b % n = 0
        · refine ifF ?_ ⟨as2, rfl, s2, hD2, ?_⟩
          · have e : ((b : Int) % (n : Int)) = 0 := by omega
            show (((b : Int) % (n : Int)) != 0) = false
            rw [e]
            rfl
          · rw [if_pos hz, List.append_nil]
            exact hL2
        · refine ifT ?_ ?_
          · have e : ((b : Int) % (n : Int)) ≠ 0 := by omega
            show (((b : Int) % (n : Int)) != 0) = true
            exact bne_iff_ne.mpr e
          · refine ⟨_, rfl, .inl ⟨rfl, _, SqL.of hD2⟩, ?_⟩
            refine ⟨_, rfl, _, rfl, _, rfl, _, _, rfl, rfl, by omega, ?_⟩
            refine push _ as2 _ ⟨i, 0, b % n, 1⟩ _ rfl s2 hD2 hL2 (by split <;> split <;> simp) _ fun as' H3 s3 hD3 hL3 => ?_
            exact ⟨as', rfl, s3, hD3, by rw [if_neg hz]; exact hL3⟩
      · rintro σ H3 ⟨as3, rfl, s3, hD3, hL3⟩
        exact ⟨_, rfl, q D as3 H3 s3 nD hD3 hL3⟩
end
/-! ### the mathematics of a division -/
def rep (p : View × Nat) : List View := List.replicate p.2 p.1
def wv (ts : List (List Nat)) (p : View × Nat) : List Nat := pw (vw ts p.1) p.2
def mu (ts : List (List Nat)) (st : List View) : Nat := (st.map fun v => (v.n + 1) * (vw ts v).length).sum
def tot (ts : List (List Nat)) (st : List View) : List Nat := (st.reverse.map (vw ts)).flatten
theorem rep_rev (ws : List (View × Nat)) : (ws.reverse.flatMap rep).reverse = ws.flatMap rep := by
  induction ws with
  | nil => rfl
  | cons p ws ih =>
    rw [List.reverse_cons, List.flatMap_append, List.reverse_append, ih, List.flatMap_cons, List.flatMap_cons, List.flatMap_nil, List.append_nil]
    congr 1
    unfold rep
    rw [List.reverse_replicate]
theorem rep_tot (ts : List (List Nat)) (ws : List (View × Nat)) : ((ws.flatMap rep).map (vw ts)).flatten = (ws.map (wv ts)).flatten := by
  induction ws with
  | nil => rfl
  | cons p ws ih =>
    rw [List.flatMap_cons, List.map_append, List.flatten_append, ih, List.map_cons, List.flatten_cons]
    congr 1
    unfold rep wv pw
    rw [List.map_replicate]
theorem mu_app (ts : List (List Nat)) (a b : List View) : mu ts (a ++ b) = mu ts a + mu ts b := by
  unfold mu
  rw [List.map_append, List.sum_append]
theorem mu_rev (ts : List (List Nat)) (a : List View) : mu ts a.reverse = mu ts a := by
  unfold mu
  rw [List.map_reverse, List.sum_reverse]
theorem tot_app (ts : List (List Nat)) (a b : List View) : tot ts (a ++ b) = tot ts b ++ tot ts a := by
  unfold tot
  rw [List.reverse_append, List.map_append, List.flatten_append]
theorem mu_rep1 (ts : List (List Nat)) (v : View) (k : Nat) : mu ts (List.replicate k v) = k * ((v.n + 1) * (vw ts v).length) := by
  unfold mu
  rw [List.map_replicate, List.sum_replicate_nat]
theorem mu_rep {ts : List (List Nat)} {N : Nat} {ws : List (View × Nat)} (h : ∀ p ∈ ws, p.1.n + 1 ≤ N) : mu ts (ws.flatMap rep) ≤ N * ((ws.map (wv ts)).flatten).length := by
  induction ws with
  | nil => exact Nat.zero_le _
  | cons p ws ih =>
    rw [List.flatMap_cons, mu_app, List.map_cons, List.flatten_cons, List.length_append, Nat.mul_add]
    refine Nat.add_le_add ?_ (ih fun q hq => h q (List.mem_cons_of_mem _ hq))
    unfold rep wv
    rw [mu_rep1, pw_len]
    have h1 := h p List.mem_cons_self
    calc p.2 * ((p.1.n + 1) * (vw ts p.1).length) = (p.1.n + 1) * (p.2 * (vw ts p.1).length) := by rw [Nat.mul_left_comm]
      _ ≤ N * (p.2 * (vw ts p.1).length) := Nat.mul_le_mul_right _ h1
theorem rep_len {ts : List (List Nat)} {ws : List (View × Nat)} (h : ∀ p ∈ ws, 1 ≤ (vw ts p.1).length) : (ws.flatMap rep).length ≤ ((ws.map (wv ts)).flatten).length := by
  induction ws with
  | nil => exact Nat.le_refl _
  | cons p ws ih =>
    rw [List.flatMap_cons, List.length_append, List.map_cons, List.flatten_cons, List.length_append]
    refine Nat.add_le_add ?_ (ih fun q hq => h q (List.mem_cons_of_mem _ hq))
    unfold rep wv
    rw [List.length_replicate, pw_len]
    exact Nat.le_mul_of_pos_right _ (h p List.mem_cons_self)
theorem flat_le {α : Type} {L : List (List α)} {x : List α} (h : x ∈ L) : x.length ≤ L.flatten.length := by
  induction L with
  | nil => cases h
  | cons y L ih =>
    rw [List.flatten_cons, List.length_append]
    rcases List.mem_cons.mp h with e | e
    · subst e
      omega
    · have := ih e
      omega
theorem stk_len {ts : List (List Nat)} {st : List View} (h : ∀ v ∈ st, 1 ≤ (vw ts v).length) : st.length ≤ (tot ts st).length := by
  induction st with
  | nil => exact Nat.le_refl _
  | cons v st ih =>
    have e : v :: st = [v] ++ st := rfl
    rw [e, tot_app, List.length_append, List.length_append]
    have h1 := ih fun u hu => h u (List.mem_cons_of_mem _ hu)
    have h2 := h v List.mem_cons_self
    have e3 : tot ts [v] = vw ts v := by simp [tot]
    rw [e3]
    simp only [List.length_cons, List.length_nil]
    omega
theorem LT.rev {H : Hp} {as : List Addr} {vss : List (List V)} (h : LT H as vss) : LT H as.reverse vss.reverse := by
  refine ⟨by simp [h.1], fun k vs e => ?_⟩
  have hk : k < vss.length := by
    have := (List.getElem?_eq_some_iff.mp e).1
    simpa using this
  rw [List.getElem?_reverse hk] at e
  obtain ⟨a, e1, e2⟩ := h.2 _ vs e
  exact ⟨a, by rw [List.getElem?_reverse (by rw [h.1]; exact hk), h.1]; exact e1, e2⟩
theorem divs_len (ts : List (List Nat)) (r : Rule) (v : View) : (divs ts r v).length ≤ 3 := by
  cases r with
  | power i k =>
    show (divP _ _ _ _).length ≤ 3
    unfold divP
    rw [List.length_append, List.length_append]
    split <;> split <;> split <;> simp
  | join i j => show 2 ≤ 3; decide
  | letters z => exact Nat.zero_le _
  | part i a b => exact Nat.zero_le _
  | back i => exact Nat.zero_le _
theorem parts_len (ts : List (List Nat)) (r : Rule) (v : View) : (parts ts r v).length ≤ 3 := by
  unfold parts
  split
  · rw [List.length_reverse]
    exact divs_len ts r v
  · exact divs_len ts r v
def DL (H : Hp) (as : List Addr) (ws : List (View × Nat)) : Prop := as.length = ws.length ∧ ∀ (j : Nat) (p : View × Nat), ws[j]? = some p → ∃ a z, as[j]? = some a ∧ H a = some (.tup [.ref z, .int (p.2 : Int)]) ∧ H z = some (.tup p.1.vals)
theorem DL.same {H H' : Hp} {as : List Addr} {ws : List (View × Nat)} (h : DL H as ws) (s : Same H H') : DL H' as ws := ⟨h.1, fun j p e => let ⟨a, z, e1, e2, e3⟩ := h.2 j p e; ⟨a, z, e1, s _ _ e2, s _ _ e3⟩⟩
theorem DL.updL {H : Hp} {as : List Addr} {ws : List (View × Nat)} {D : Addr} {xs : List V} {o : HO} (h : DL H as ws) (hD : H D = some (.lst xs)) : DL (upd H D o) as ws :=
  ⟨h.1, fun j p e => let ⟨a, z, e1, e2, e3⟩ := h.2 j p e; ⟨a, z, e1, by rw [upd_ne (ne_of e2 hD (by intro z; cases z))]; exact e2, by rw [upd_ne (ne_of e3 hD (by intro z; cases z))]; exact e3⟩⟩
theorem DL.add {H : Hp} {as : List Addr} {ws : List (View × Nat)} {a z : Addr} {p : View × Nat} (h : DL H as ws) (ha : H a = some (.tup [.ref z, .int (p.2 : Int)])) (hz : H z = some (.tup p.1.vals)) : DL H (as ++ [a]) (ws ++ [p]) := by
  refine ⟨by simp [h.1], fun k x e => ?_⟩
  by_cases hk : k < ws.length
  · rw [List.getElem?_append_left hk] at e
    obtain ⟨b, y, e1, e2⟩ := h.2 k x e
    exact ⟨b, y, by rw [List.getElem?_append_left (by rw [h.1]; exact hk)]; exact e1, e2⟩
  · have hk2 : k = ws.length := by
      have := (List.getElem?_eq_some_iff.mp e).1
      simp at this
      omega
    subst hk2
    rw [List.getElem?_append_right (Nat.le_refl _), Nat.sub_self] at e
    have e' : p = x := Option.some.inj e
    subst e'
    exact ⟨a, z, by rw [← h.1, List.getElem?_append_right (Nat.le_refl _), Nat.sub_self]; rfl, ha, hz⟩
section
variable {P : Program} {w : World} {K : PySem.W.Frag} {mg : Str → Option Value} {base : Heap}
/-! ### divided -/
def spDivided (C : Addr) : Sp := fun vs H Q _ => ∃ (x y : Addr) (rs : List Rule) (ts : List (List Nat)) (v : View) (r : Rule), vs = [.ref x, .ref y] ∧ TextAt C H x rs ts ∧ H y = some (.tup v.vals) ∧ Sett rs ts v r ∧ isL r = false ∧
  ∀ (D : Addr) (as : List Addr) (ws : List (View × Nat)) H', Same H H' → H D = none → H' D = some (.lst (as.map V.ref)) → DL H' as ws → (∀ p ∈ ws, (∃ r', Sett rs ts p.1 r') ∧ p.1.n < v.n ∧ 1 ≤ p.2) → (ws.map (wv ts)).flatten = vw ts v → Q (.ref D) H'
theorem scDi : FnScope ["text", "view", "number", "start", "stop", "turned", "rule", "size", "parts", "base", "low", "high", "times"] ["text", "view"] (defScope sDivided) := ⟨rfl, rfl, rfl, by decide +kernel, rfl, by decide +kernel, by decide +kernel⟩
theorem ok_divided {C f : Addr} {fd : FuncData} (F : Fun K "divided" "divided" sDivided f fd) (hm : mg "divided" = some (.ref f)) (b : Binds K fd ["text", "view"] []) (D : Cl K C) (GDp : Cal P w K mg base 1 "divided_power" spDivP []) (GSe : Cal P w K mg base 2 "settled" (spSettled C) []) : Cal P w K mg base 3 "divided" (spDivided C) [] := by
  refine mkCal F hm b scDi (fun vs H Q E h => ?_) (fun cdv A outer s H vs Q E hr h => ?_)
  · obtain ⟨x, y, rs, ts, v, r, rfl, _⟩ := h
    rfl
  obtain ⟨x, y, rs, ts, v, r, rfl, hX0, hy, hs, hl, q⟩ := h
  have hX1 := hX0
  obtain ⟨dx, RU, LE, fs, as, hX⟩ := hX1
  refine ⟨_, (pss_cons (ps_asg (pv 1) (pg_tup rfl (pgs_cons (pg_name (i := 2) scDi.nd rfl (.inl rfl)) (pgs_cons (pg_name (i := 3) scDi.nd rfl (.inl rfl)) (pgs_cons (pg_name (i := 4) scDi.nd rfl (.inl rfl)) (pgs_cons (pg_name (i := 5) scDi.nd rfl (.inr rfl)) pgs_nil))))))
    (pss_cons (ps_set (i := 6) scDi.nd rfl (.inl rfl) (pe_ix ix_tup (pe_fld (pv 0) rfl) (pv 2) (fun _ _ => rfl)))
    (pss_cut (ps_if (pt_cmpR op_eq (pe_ix ix_tup (pv 6) pe_int (fun _ _ => rfl)) pe_str (nomark _)) (pss_cons (ps_set (i := 7) scDi.nd rfl (.inl rfl) (pe_ix ix_tup (pe_fld (pv 0) rfl) (pe_ix ix_tup (pv 6) pe_int (fun _ _ => rfl)) (fun _ _ => rfl)))
    (pss_one (ps_set (i := 8) scDi.nd rfl (.inl rfl) (pe_lst (pa_cons (pe_tup (pa_cons (pe_ix ix_tup (pv 6) pe_int (fun _ _ => rfl)) (pa_cons (pv 3) (pa_cons (pv 7) (pa_cons pe_int pa_nil))))) (pa_cons (pe_tup (pa_cons (pe_ix ix_tup (pv 6) pe_int (fun _ _ => rfl)) (pa_cons pe_int (pa_cons (pe_op op_sub (pv 4) (pv 7)) (pa_cons pe_int pa_nil))))) pa_nil)))))) (pss_one (ps_set (i := 8) scDi.nd rfl (.inl rfl) (pe_c GDp hr (by decide) (by rfl) (pa_cons (pe_ix ix_tup (pv 6) pe_int (fun _ _ => rfl)) (pa_cons (pe_ix ix_tup (pe_fld (pv 0) rfl) (pe_ix ix_tup (pv 6) pe_int (fun _ _ => rfl)) (fun _ _ => rfl)) (pa_cons (pv 3) (pa_cons (pv 4) pa_nil))))))))
    (pss_cut (ps_if (pt_val (pv 5)) (pss_one (ps_set (i := 8) scDi.nd rfl (.inl rfl) (pe_revL (pv 8)))) pss_nil)
    (pss_one (ps_ret (pe_lc (own := [("base", 9), ("low", 10), ("high", 11), ("times", 12)]) (g := gTup K 4 (gCons (gName 9) (gCons (gName 10) (gCons (gName 11) (gCons (gName 12) gNil))))) (tt := tYes) rfl scDi.nd (pi_list (pv 8)) (blkOk_by (N := ["text", "view", "number", "start", "stop", "turned", "rule", "size", "parts", "base", "low", "high", "times"]) (sc := defScope sDivided) (by decide +kernel)) (fun _ _ _ _ _ => (pg_tup rfl (pgs_cons (pg_name (i := 9) scDi.nd rfl (.inl rfl)) (pgs_cons (pg_name (i := 10) scDi.nd rfl (.inl rfl)) (pgs_cons (pg_name (i := 11) scDi.nd rfl (.inl rfl)) (pgs_cons (pg_name (i := 12) scDi.nd rfl (.inl rfl)) pgs_nil)))))) (fun _ _ _ _ _ => pts_nil) (fun _ _ _ _ _ => (pe_tup (pa_cons (pe_c GSe hr (by decide) (by rfl) (pa_cons (pv 0) (pa_cons (pe_tup (pa_cons (pv 9) (pa_cons (pv 10) (pa_cons (pv 11) (pa_cons (pv 5) pa_nil))))) pa_nil))) (pa_cons (pv 12) pa_nil))))))))))), ?_⟩
  obtain ⟨ra, era, hra⟩ := hX.rule hs.rule
  have hA : SqT K H ra r.vals := SqT.of hra
  have snd := hX.sound
  have hv := hs.val
  refine ⟨_, rfl, y, _, rfl, SqT.of hy, rfl, _, _, rfl, _, _, rfl, _, _, rfl, _, _, rfl, rfl, ?_⟩
  refine ⟨_, rfl, x, C, dx, _, _, rfl, hX.at_, D.cl, D.nR, hX.fR, _, rfl, RU, _, (v.n : Int), _, rfl, rfl, SqT.of hX.hR, era, ?_⟩
  refine ⟨fun σ H' => ∃ (s7 : Option V) (L : Addr) (as : List Addr), σ = [some (.ref x), some (.ref y), some (.int (v.n : Int)), some (.int (v.a : Int)), some (.int (v.b : Int)), some (.bl v.t), some (.ref ra), s7, some (.ref L), none, none, none, none] ∧
    Same H H' ∧ H L = none ∧ H' L = some (.lst (as.map V.ref)) ∧ LT H' as ((divs ts r v).map Pc.vals), ?_, ?_⟩
  · have ho := (snd.ok _ _ hs.rule).1
    have hb := hv.b
    have hab := hv.ab
    have hd := hs.deep
    rw [snd.tx hs.rule] at hb
    cases r with
    | letters z => cases hl
    | part i a b => cases hd
    | back i => cases hd
    | join i j =>
      obtain ⟨o1, o2⟩ := ho
      obtain ⟨k1, k2, k3⟩ := snd.tk hs.rule o1
      have ed : deep ts (.join i j) v = if v.b ≤ (tx ts i).length then some ⟨i, v.a, v.b, v.t⟩ else if v.a ≥ (tx ts i).length then some ⟨j, v.a - (tx ts i).length, v.b - (tx ts i).length, v.t⟩ else none := rfl
      rw [ed] at hd
      have c1 : ¬ v.b ≤ (tx ts i).length := fun h => by rw [if_pos h] at hd; cases hd
      refine ⟨_, rfl, ra, _, 0, _, rfl, rfl, hA, atI_nat (j := 0) rfl, rfl, _, rfl, ifT (by decide +kernel) ?_⟩
      refine ⟨_, rfl, x, C, dx, _, _, rfl, hX.at_, D.cl, D.nE, hX.fE, _, rfl, ra, _, 1, _, rfl, rfl, hA, atI_nat (j := 1) rfl, LE, _, (i : Int), _, rfl, rfl, SqT.of hX.hE, len_at k2, ?_⟩
      refine ⟨_, rfl, ra, _, 1, _, rfl, rfl, hA, atI_nat (j := 1) rfl, _, rfl, _, rfl, by show 4 ≤ sizeLine; decide, fun p1 n1 => ?_⟩
      have s1 : Same H (upd H p1 (.tup [.int (i : Int), .int (v.a : Int), .int ((tx ts i).length : Int), .int 1])) := same_new n1
      refine ⟨_, rfl, ra, _, 2, _, rfl, rfl, (SqT.of (s1 _ _ hra) : SqT K _ ra (Rule.join i j).vals), atI_nat (j := 2) rfl, _, rfl, _, rfl, _, _, rfl, rfl, by show 4 ≤ sizeLine; decide, fun p2 n2 => ?_⟩
      have n12 : p1 ≠ p2 := ne_of_none (upd_same) n2
      refine ⟨by show 2 ≤ sizeLine; decide, fun L nL => ?_⟩
      have n1L := ne_of_none (H := upd (upd H p1 (.tup [.int (i : Int), .int (v.a : Int), .int ((tx ts i).length : Int), .int 1])) p2 (.tup [.int (j : Int), .int 0, .int ((v.b : Int) - ((tx ts i).length : Int)), .int 1])) (a := p1) (by rw [upd_ne n12]; exact upd_same) nL
      have n2L := ne_of_none (H := upd (upd H p1 (.tup [.int (i : Int), .int (v.a : Int), .int ((tx ts i).length : Int), .int 1])) p2 (.tup [.int (j : Int), .int 0, .int ((v.b : Int) - ((tx ts i).length : Int)), .int 1])) (a := p2) upd_same nL
      have s2 := s1.trans (same_new (o := .tup [.int (j : Int), .int 0, .int ((v.b : Int) - ((tx ts i).length : Int)), .int 1]) n2)
      refine ⟨_, L, [p1, p2], rfl, s2.trans (same_new nL), s2.free nL, upd_same, ?_⟩
      have e2 : [.int (j : Int), .int 0, .int ((v.b : Int) - ((tx ts i).length : Int)), .int 1] = Pc.vals ⟨j, 0, v.b - (tx ts i).length, 1⟩ := by
        simp only [Pc.vals, List.cons.injEq, V.int.injEq, true_and, and_true]
        omega
      refine (LT.nil.add (a := p1) ?_).add (a := p2) ?_
      · rw [upd_ne n1L, upd_ne n12, upd_same]
        rfl
      · rw [upd_ne n2L, upd_same, e2]
    | power i k =>
      obtain ⟨o1, o2⟩ := ho
      obtain ⟨k1, k2, k3⟩ := snd.tk hs.rule o1
      have hb' : v.b ≤ (pw (tx ts i) k).length := by rw [← k3]; exact hb
      rw [pw_len] at hb'
      have hpos : 0 < (tx ts i).length := by
        rcases Nat.eq_zero_or_pos (tx ts i).length with z | z
        · rw [z] at hb'; omega
        · exact z
      have ed : deep ts (.power i k) v = if v.b > v.a / (tx ts i).length * (tx ts i).length + (tx ts i).length then none else some ⟨i, v.a - v.a / (tx ts i).length * (tx ts i).length, v.b - v.a / (tx ts i).length * (tx ts i).length, v.t⟩ := rfl
      rw [ed] at hd
      have c1 : v.b > v.a / (tx ts i).length * (tx ts i).length + (tx ts i).length := by
        by_cases h : v.b > v.a / (tx ts i).length * (tx ts i).length + (tx ts i).length
        · exact h
        · rw [if_neg h] at hd; cases hd
      have hup : (v.a + (tx ts i).length - 1) / (tx ts i).length ≤ v.b / (tx ts i).length := by
        rw [up_div hpos]
        have hq : v.a / (tx ts i).length + 1 ≤ v.b / (tx ts i).length := by
          rw [Nat.le_div_iff_mul_le hpos, Nat.add_mul, Nat.one_mul]
          omega
        split <;> omega
      refine ⟨_, rfl, ra, _, 0, _, rfl, rfl, hA, atI_nat (j := 0) rfl, rfl, _, rfl, ifF (by decide +kernel) ?_⟩
      refine ⟨_, rfl, ra, _, 1, _, rfl, rfl, hA, atI_nat (j := 1) rfl, ?_⟩
      refine ⟨_, rfl, x, C, dx, _, _, rfl, hX.at_, D.cl, D.nE, hX.fE, _, rfl, ra, _, 1, _, rfl, rfl, hA, atI_nat (j := 1) rfl, LE, _, (i : Int), _, rfl, rfl, SqT.of hX.hE, len_at k2, ?_⟩
      refine ⟨_, rfl, _, rfl, i, (tx ts i).length, v.a, v.b, rfl, hpos, snd.big k2, hup, fun L as H1 s1 nL hL hT => ?_⟩
      exact ⟨_, L, as, rfl, s1, nL, hL, hT⟩
  · rintro σ H1 ⟨s7, L, as1, rfl, s1, nL, hL, hT⟩
    refine ⟨fun σ H' => ∃ (L : Addr) (as : List Addr), σ = [some (.ref x), some (.ref y), some (.int (v.n : Int)), some (.int (v.a : Int)), some (.int (v.b : Int)), some (.bl v.t), some (.ref ra), s7, some (.ref L), none, none, none, none] ∧
      Same H H' ∧ H' L = some (.lst (as.map V.ref)) ∧ LT H' as ((parts ts r v).map Pc.vals), ?_, ?_⟩
    · refine ⟨_, rfl, v.t, rfl, ?_⟩
      cases hvt : v.t with
      | true =>
        refine ifT rfl ⟨_, rfl, L, _, rfl, SqL.of hL, fun L2 nL2 => ?_⟩
        refine ⟨L2, as1.reverse, rfl, s1.trans (same_new nL2), by rw [upd_same, List.map_reverse], ?_⟩
        unfold parts
        rw [hvt, if_pos rfl, List.map_reverse]
        exact (hT.same (same_new nL2)).rev
      | false =>
        refine ifF rfl ⟨L, as1, rfl, s1, hL, ?_⟩
        unfold parts
        rw [hvt, if_neg (by decide)]
        exact hT
    · rintro σ H2 ⟨L, as2, rfl, s2, hL2, hT2⟩
      obtain ⟨pok, psum⟩ := parts_ok snd hs.rule hv hs.deep hl
      have plen := parts_len ts r v
      refine ⟨_, rfl, L, rfl, ⟨_, SqL.of hL2⟩, fun D2 nD2 => ?_⟩
      refine lc_list (K := K) (a := L) (xs := as2.map V.ref) (fun i H' => Same H2 H' ∧ ∃ (as : List Addr) (ws : List (View × Nat)), H' D2 = some (.lst (as.map V.ref)) ∧ DL H' as ws ∧ ws.length = i ∧
          ∀ (j : Nat) (p : View × Nat), ws[j]? = some p → ∃ (q : Pc) (r' : Rule), (parts ts r v)[j]? = some q ∧ p.2 = q.k ∧ vw ts p.1 = trn v.t (sub (tx ts q.i) q.a q.b) ∧ Sett rs ts p.1 r' ∧ p.1.n ≤ q.i)
        ⟨same_new nD2, [], [], upd_same, ⟨rfl, fun j p e => by simp at e⟩, rfl, fun j p e => by simp at e⟩ (fun i H' _ h => h.1.seq (SqL.of hL2)) ?_ ?_
      · rintro i xx H3 hi ⟨s3, as3, ws, hD3, hDL, hwl, hrel⟩
        have hi2 : i < as2.length := by
          have := (List.getElem?_eq_some_iff.mp hi).1
          rwa [List.length_map] at this
        rw [List.getElem?_map, List.getElem?_eq_getElem hi2] at hi
        have exx := Option.some.inj hi
        subst exx
        have hip : i < (parts ts r v).length := by rw [hT2.1, List.length_map] at hi2; exact hi2
        obtain ⟨a, ea, ha⟩ := hT2.2 i ((parts ts r v)[i]).vals (by rw [List.getElem?_map, List.getElem?_eq_getElem hip]; rfl)
        rw [List.getElem?_eq_getElem hi2] at ea
        have eaa := Option.some.inj ea
        have hpc := pok _ (List.getElem_mem hip)
        generalize hqq : (parts ts r v)[i] = pc at ha hpc
        rw [eaa]
        have ha3 := s3 _ _ ha
        refine ⟨a, pc.vals, rfl, SqT.of ha3, rfl, _, _, rfl, _, _, rfl, _, _, rfl, _, _, rfl, rfl, rfl, ?_⟩
        refine ⟨_, rfl, _, rfl, _, rfl, _, rfl, _, rfl, by show 4 ≤ sizeLine; decide, fun y2 ny2 => ?_⟩
        have s4 := same_new (o := .tup [.int (pc.i : Int), .int (pc.a : Int), .int (pc.b : Int), .bl v.t]) ny2
        refine ⟨x, y2, rs, ts, ⟨pc.i, pc.a, pc.b, v.t⟩, rfl, hX0.same ((s2.trans s3).trans s4), upd_same, ⟨hpc.n, hpc.ab, hpc.b⟩, fun v' z r' H5 s5 hz hs5 e5 hn5 => ?_⟩
        refine ⟨_, rfl, by show 2 ≤ sizeLine; decide, fun pp npp => ?_⟩
        have s35 := s4.trans s5
        have hD5 := s35 _ _ hD3
        have nDp : D2 ≠ pp := ne_of_none hD5 npp
        have nzp : z ≠ pp := ne_of_none hz npp
        have hD6 : (upd H5 pp (.tup [.ref z, .int (pc.k : Int)])) D2 = some (.lst (as3.map V.ref)) := by rw [upd_ne nDp]; exact hD5
        refine ⟨_, hD6, by rw [List.length_map, hDL.1, hwl]; exact small1000 (by omega), ?_, as3 ++ [pp], ws ++ [(v', pc.k)], by rw [upd_same]; simp, ?_, by simp [hwl], fun j p e => ?_⟩
        · intro b o hb
          rw [upd_ne (ne_of_none hb nD2)]
          exact same_new npp _ _ (s35 _ _ (s3 _ _ hb))
        · refine ((hDL.same (s35.trans (same_new npp))).add upd_same ?_).updL hD6
          rw [upd_ne nzp]
          exact hz
        · by_cases hj : j < ws.length
          · rw [List.getElem?_append_left hj] at e
            exact hrel j p e
          · have hj2 : j = ws.length := by
              have := (List.getElem?_eq_some_iff.mp e).1
              simp at this
              omega
            subst hj2
            rw [List.getElem?_append_right (Nat.le_refl _), Nat.sub_self] at e
            have e' : (v', pc.k) = p := Option.some.inj e
            subst e'
            refine ⟨pc, r', by rw [hwl, List.getElem?_eq_getElem hip, hqq], rfl, e5, hs5, hn5⟩
      · rintro H3 ⟨s3, as3, ws, hD3, hDL, hwl, hrel⟩
        rw [List.length_map, hT2.1, List.length_map] at hwl
        refine q D2 as3 ws H3 (s2.trans s3) (s2.free nD2) hD3 hDL (fun p hp => ?_) ?_
        · obtain ⟨j, hj, e⟩ := List.mem_iff_getElem.mp hp
          obtain ⟨q', r', e1, e2, e3, e4, e5⟩ := hrel j p (by rw [List.getElem?_eq_getElem hj, e])
          have := pok q' (List.mem_of_getElem? e1)
          exact ⟨⟨r', e4⟩, by have := this.lt; omega, by rw [e2]; exact this.k⟩
        · rw [← psum]
          congr 1
          refine List.ext_getElem? fun j => ?_
          rw [List.getElem?_map, List.getElem?_map]
          cases e : ws[j]? with
          | none =>
            have : (parts ts r v)[j]? = none := by
              rw [List.getElem?_eq_none_iff] at e ⊢
              omega
            rw [this]
            rfl
          | some p =>
            obtain ⟨q', r', e1, e2, e3, e4, e5⟩ := hrel j p e
            rw [e1]
            show some (pw (vw ts p.1) p.2) = some (pw (trn v.t (sub (tx ts q'.i) q'.a q'.b)) q'.k)
            rw [e2, e3]
end
section
variable {P : Program} {w : World} {K : PySem.W.Frag} {mg : Str → Option Value} {base : Heap}
def spSpelled (C : Addr) : Sp := fun vs H Q _ => ∃ (x : Addr) (rs : List Rule) (ts : List (List Nat)) (a b : Nat), vs = [.ref x, .int (a : Int), .int (b : Int)] ∧ TextAt C H x rs ts ∧ 0 < ts.length ∧ a ≤ b ∧ b ≤ (tx ts (ts.length - 1)).length ∧ b - a ≤ 1000 ∧
  ∀ H', Same H H' → Q (.str (S (sub (tx ts (ts.length - 1)) a b))) H'
theorem scSp : FnScope ["text", "start", "stop", "waiting", "pieces", "view", "letters", "part", "times"] ["text", "start", "stop"] (defScope sSpelled) := ⟨rfl, rfl, rfl, by decide +kernel, rfl, by decide +kernel, by decide +kernel⟩
theorem tot_nil (ts : List (List Nat)) : tot ts [] = [] := rfl
theorem tot_one (ts : List (List Nat)) (v : View) : tot ts [v] = vw ts v := by simp [tot]
theorem join_parts (ps : List (List Nat)) : Txt.join ("" : Str) (ps.map S) = S ps.flatten := by rw [S_nil, join_S, join_nil]
theorem sum_flat (ps : List (List Nat)) : (ps.map (·.length)).sum = ps.flatten.length := by rw [List.length_flatten]
theorem ok_spelled {C f : Addr} {fd : FuncData} (F : Fun K "spelled" "spelled" sSpelled f fd) (hm : mg "spelled" = some (.ref f)) (b : Binds K fd ["text", "start", "stop"] []) (T : Txt mg) (GVo : Cal P w K mg base 3 "view_of" (spViewOf C) []) (GSb : Cal P w K mg base 1 "spelled_by" (spSpelledBy C) []) (GDi : Cal P w K mg base 3 "divided" (spDivided C) []) :
    Cal P w K mg base 4 "spelled" (spSpelled C) [] := by
  refine mkCal F hm b scSp (fun vs H Q E h => ?_) (fun cdv A outer s H vs Q E hr h => ?_)
  · obtain ⟨x, rs, ts, a, b, rfl, _⟩ := h
    rfl
  obtain ⟨x, rs, ts, a, b, rfl, hX, h0, hab, hb, h1000, q⟩ := h
  refine ⟨_, (pss_cons (ps_if (pt_cmpR op_eq (pv 1) (pv 2) (nomark _)) (pss_one (ps_ret pe_str)) pss_nil)
    (pss_cons (ps_set (i := 3) scSp.nd rfl (.inl rfl) (pe_lst (pa_cons (pe_c GVo hr (by decide) (by rfl) (pa_cons (pv 0) (pa_cons (pv 1) (pa_cons (pv 2) pa_nil)))) pa_nil)))
    (pss_cons (ps_set (i := 4) scSp.nd rfl (.inl rfl) (pe_lst pa_nil))
    (pss_cons (ps_while PassesOwn.never (pt_truth (pv 3) (by intro _; rfl)) (pss_cons (ps_set (i := 5) scSp.nd rfl (.inl rfl) (pe_bm0 PySem.F.plainAttrs_list PySem.F.slot_list_pop PySem.F.type_list_pop mt_pop (pv 3)))
    (pss_cons (ps_set (i := 6) scSp.nd rfl (.inl rfl) (pe_c GSb hr (by decide) (by rfl) (pa_cons (pv 0) (pa_cons (pv 5) pa_nil))))
    (pss_one (ps_if (pt_cmpR op_notN (pv 6) pe_non (nomark _)) (pss_one (ps_expr (pe_bm PySem.F.plainAttrs_list PySem.F.slot_list_append PySem.F.type_list_append mt_append (pv 4) (pa_cons (pv 6) pa_nil)))) (pss_one (ps_for PassesOwn.never rfl (pi_reversed (by rfl) T.reversed (pa_cons (pe_c GDi hr (by decide) (by rfl) (pa_cons (pv 0) (pa_cons (pv 5) pa_nil))) pa_nil)) (pg_tup rfl (pgs_cons (pg_name (i := 7) scSp.nd rfl (.inl rfl)) (pgs_cons (pg_name (i := 8) scSp.nd rfl (.inl rfl)) pgs_nil))) (pss_one (ps_expr (pe_bm PySem.F.plainAttrs_list PySem.F.slot_list_extend PySem.F.type_list_extend mt_extend (pv 3) (pa_cons (pe_op op_rep (pe_lst (pa_cons (pv 7) pa_nil)) (pv 8)) pa_nil)))))))))))
    (pss_one (ps_ret (pe_join pe_str (pv 4)))))))), ?_⟩
  refine ⟨_, rfl, _, rfl, rfl, _, rfl, ?_⟩
  refine ite2 (fun z => ?_) (fun z => ?_)
  · have z1 : (a : Int) = (b : Int) := V.int.inj (of_decide_eq_true z)
    have e : a = b := by omega
    subst e
    have q' := q H (Same.refl H)
    rw [sub_nil, ← S_nil] at q'
    exact q'
  have z1 : ¬ (a : Int) = (b : Int) := fun h => z (decide_eq_true (congrArg V.int h))
  have hlt : a < b := by omega
  generalize hgoal : sub (tx ts (ts.length - 1)) a b = goal at q
  have glen : goal.length ≤ 1000 := by rw [← hgoal, sub_len hb]; exact h1000
  refine ⟨_, rfl, _, rfl, _, rfl, x, rs, ts, a, b, rfl, hX, h0, hlt, hb, fun v0 z0 r0 H1 s1 hz0 hs0 e0 => ?_⟩
  refine ⟨by show 1 ≤ sizeLine; decide, fun W nW => ⟨Nat.zero_le _, fun PP nP => ?_⟩⟩
  have nWP : W ≠ PP := ne_of_none upd_same nP
  have hW0 : (upd (upd H1 W (.lst [.ref z0])) PP (.lst [])) W = some (.lst [.ref z0]) := by rw [upd_ne nWP]; exact upd_same
  have s13 : Same H1 (upd (upd H1 W (.lst [.ref z0])) PP (.lst [])) := (same_new nW).trans (same_new nP)
  have nWH := s1.free nW
  have nPH := s1.free (Same.free (same_new nW) nP)
  refine ⟨fun m σ H' => ∃ (zs : List Addr) (st : List View) (ps : List (List Nat)) (u5 u6 u7 u8 : Option V), σ = [some (.ref x), some (.int (a : Int)), some (.int (b : Int)), some (.ref W), some (.ref PP), u5, u6, u7, u8] ∧ Same H H' ∧
      H' W = some (.lst (zs.map V.ref)) ∧ H' PP = some (.lst (ps.map tV)) ∧ LT H' zs (st.map View.vals) ∧ (∀ v ∈ st, ∃ r, Sett rs ts v r) ∧ ps.flatten ++ tot ts st = goal ∧ ps.length ≤ ps.flatten.length ∧ m = mu ts st,
    ⟨mu ts [v0], [z0], [v0], [], none, none, none, none, rfl, s1.trans s13, hW0, upd_same, LT.nil.add (s13 _ _ hz0), fun v hv => ⟨r0, by rw [List.mem_singleton.mp hv]; exact hs0⟩, by rw [tot_one, e0, hgoal]; rfl, Nat.le_refl _, rfl⟩, ?_⟩
  rintro m σ H2 ⟨zs, st, ps, u5, u6, u7, u8, rfl, s2, hW, hPP, hL, hst, hsum, hps, rfl⟩
  have pos : ∀ v, (∃ r, Sett rs ts v r) → 1 ≤ (vw ts v).length := fun v ⟨r, h⟩ => by rw [h.val.len]; have := h.val.ab; omega
  have stl : st.length ≤ 1000 := by
    have h1 := stk_len (ts := ts) (st := st) fun v hv => pos v (hst v hv)
    have h2 := congrArg List.length hsum
    rw [List.length_append] at h2
    omega
  have psl : ps.length ≤ 1000 := by
    have h2 := congrArg List.length hsum
    rw [List.length_append] at h2
    omega
  rcases List.eq_nil_or_concat st with e | ⟨st0, v, e⟩
  · -- nothing is left
    subst e
    have ez : zs = [] := List.eq_nil_of_length_eq_zero hL.1
    subst ez
    refine ⟨_, rfl, false, .inl ⟨_, SqL.of hW, rfl⟩, ifF rfl ?_⟩
    have e1 : ps.map tV = (ps.map S).map V.str := by simp [tV]
    have eg : ps.flatten = goal := by rw [← hsum, tot_nil, List.append_nil]
    refine ⟨⟨_, rfl⟩, _, rfl, _, PP, ps.map S, rfl, rfl, .inl (SqL.of (by rw [hPP, e1])), ?_, ?_⟩
    · rw [lens, sum_flat, eg, show ("" : Str).length = 0 from by decide +kernel]
      omega
    · show Q (V.str (Txt.join ("" : Str) _)) H2
      rw [join_parts, eg]
      exact q H2 s2
  · -- the last view
    rw [List.concat_eq_append] at e
    subst e
    obtain ⟨z0, z, ez⟩ : ∃ z0 z, zs = z0 ++ [z] := by
      rcases List.eq_nil_or_concat zs with e | ⟨z0, z, e⟩
      · have := hL.1
        rw [e] at this
        simp at this
      · exact ⟨z0, z, by rw [e, List.concat_eq_append]⟩
    subst ez
    have zl : z0.length = st0.length := by
      have := hL.1
      simp at this
      exact this
    have hz : H2 z = some (.tup v.vals) := by
      obtain ⟨a', e1, e2⟩ := hL.2 st0.length v.vals (by rw [List.map_append, List.getElem?_append_right (by rw [List.length_map]; exact Nat.le_refl _), List.length_map, Nat.sub_self]; rfl)
      rw [List.getElem?_append_right (by rw [zl]; exact Nat.le_refl _), zl, Nat.sub_self] at e1
      have e3 : z = a' := Option.some.inj e1
      rw [e3]
      exact e2
    have hL0 : LT H2 z0 (st0.map View.vals) := by
      refine ⟨by rw [zl, List.length_map], fun k vs e => ?_⟩
      have hk : k < st0.length := by
        have := (List.getElem?_eq_some_iff.mp e).1
        rwa [List.length_map] at this
      obtain ⟨a', e1, e2⟩ := hL.2 k vs (by rw [List.map_append, List.getElem?_append_left (by rw [List.length_map]; exact hk)]; exact e)
      rw [List.getElem?_append_left (by rw [zl]; exact hk)] at e1
      exact ⟨a', e1, e2⟩
    obtain ⟨r, hs⟩ := hst v (List.mem_append_right _ (List.mem_singleton.mpr rfl))
    have hst0 : ∀ u ∈ st0, ∃ r, Sett rs ts u r := fun u hu => hst u (List.mem_append_left _ hu)
    rw [tot_app, tot_one] at hsum
    rw [List.map_append] at hW
    have ne1 : (z0.map V.ref ++ [z].map V.ref).isEmpty = false := by cases z0 <;> rfl
    refine ⟨_, rfl, true, .inl ⟨_, SqL.of hW, by rw [ne1]; rfl⟩, ifT rfl ?_⟩
    refine ⟨fun σ' H' => ∃ m' < mu ts (st0 ++ [v]), ∃ (zs : List Addr) (st : List View) (ps : List (List Nat)) (u5 u6 u7 u8 : Option V), σ' = [some (.ref x), some (.int (a : Int)), some (.int (b : Int)), some (.ref W), some (.ref PP), u5, u6, u7, u8] ∧ Same H H' ∧
      H' W = some (.lst (zs.map V.ref)) ∧ H' PP = some (.lst (ps.map tV)) ∧ LT H' zs (st.map View.vals) ∧ (∀ v ∈ st, ∃ r, Sett rs ts v r) ∧ ps.flatten ++ tot ts st = goal ∧ ps.length ≤ ps.flatten.length ∧ m' = mu ts st, fun _ _ h => h, ?_⟩
    refine ⟨_, rfl, .inl ⟨rfl, _, SqL.of hW⟩, W, _, .ref z, rfl, rfl, hW, by rw [List.length_append, List.getElem?_append_right (by simp)]; simp, ?_⟩
    have edl : (z0.map V.ref ++ [z].map V.ref).dropLast = z0.map V.ref := by simp
    rw [edl]
    -- behind the pop
    have hPW : PP ≠ W := nWP.symm
    have hP3 : (upd H2 W (.lst (z0.map V.ref))) PP = some (.lst (ps.map tV)) := by rw [upd_ne hPW]; exact hPP
    have s3 : Same H (upd H2 W (.lst (z0.map V.ref))) := fun c o hc => by rw [upd_ne (ne_of_none hc nWH)]; exact s2 _ _ hc
    have hz3 : (upd H2 W (.lst (z0.map V.ref))) z = some (.tup v.vals) := by rw [upd_ne (ne_of hz hW (by intro z; cases z))]; exact hz
    have hL3 : LT (upd H2 W (.lst (z0.map V.ref))) z0 (st0.map View.vals) := hL0.updL hW
    have hW3 : (upd H2 W (.lst (z0.map V.ref))) W = some (.lst (z0.map V.ref)) := upd_same
    generalize upd H2 W (.lst (z0.map V.ref)) = H3 at hP3 s3 hz3 hL3 hW3 ⊢
    refine ⟨_, rfl, _, rfl, x, z, rs, ts, v, r, rfl, hX.same s3, hz3, hs.val, hs.rule, fun hl => ?_, fun hl => ?_⟩
    · -- letters
      refine ⟨_, rfl, rfl, _, rfl, ifT rfl ?_⟩
      refine ⟨_, rfl, .inl ⟨rfl, _, SqL.of hP3⟩, _, rfl, PP, _, _, rfl, rfl, hP3, by rw [List.length_map]; exact small1000 psl, ?_⟩
      have hvl := pos v ⟨r, hs⟩
      refine ⟨mu ts st0, ?_, z0, st0, ps ++ [vw ts v], _, _, _, _, rfl, ?_, ?_, ?_, hL3.updL hP3, hst0, ?_, ?_, rfl⟩
      · rw [mu_app]
        have : mu ts [v] = (v.n + 1) * (vw ts v).length := by simp [mu]
        rw [this, Nat.add_mul, Nat.one_mul]
        omega
      · intro c o hc
        rw [upd_ne (ne_of_none hc nPH)]
        exact s3 _ _ hc
      · rw [upd_ne nWP]
        exact hW3
      · rw [upd_same]
        simp [tV]
      · rw [List.flatten_append, List.append_assoc]
        simpa using hsum
      · rw [List.flatten_append, List.length_append, List.length_append]
        simp only [List.length_cons, List.length_nil, List.flatten_cons, List.flatten_nil, List.append_nil]
        omega
    · -- a join or a power
      refine ⟨_, rfl, rfl, _, rfl, ifF rfl ?_⟩
      refine ⟨_, rfl, _, rfl, x, z, rs, ts, v, r, rfl, hX.same s3, hz3, hs, hl, fun D as ws H4 s4 nD hD hDL hws hsumw => ?_⟩
      have hW4 := s4 _ _ hW3
      have hP4 := s4 _ _ hP3
      have hL4 := hL3.same s4
      have hDW : D ≠ W := fun e => by rw [e, hW3] at nD; cases nD
      have hDP : D ≠ PP := fun e => by rw [e, hP3] at nD; cases nD
      have posw : ∀ p ∈ ws, 1 ≤ (vw ts p.1).length := fun p hp => pos p.1 (hws p hp).1
      have wsum : (vw ts v).length ≤ 1000 := by
        have h2 := congrArg List.length hsum
        rw [List.length_append, List.length_append] at h2
        omega
      have wl : (ws.flatMap rep).length ≤ 1000 := Nat.le_trans (rep_len posw) (by rw [hsumw]; exact wsum)
      have wle : ∀ p ∈ ws, p.2 ≤ 1000 := fun p hp => by
        have h1 : (wv ts p).length ≤ ((ws.map (wv ts)).flatten).length := flat_le (List.mem_map_of_mem hp)
        unfold wv at h1
        rw [pw_len] at h1
        have h2 := Nat.le_mul_of_pos_right p.2 (posw p hp)
        have h3 : ((ws.map (wv ts)).flatten).length ≤ 1000 := by rw [hsumw]; exact wsum
        unfold wv at h3
        omega
      have tl : ∀ i, ((ws.reverse.take i).flatMap rep).length ≤ 1000 := fun i => by
        have h1 : ((ws.reverse.flatMap rep).reverse).length ≤ 1000 := by rw [rep_rev]; exact wl
        rw [List.length_reverse] at h1
        have h2 : ws.reverse = ws.reverse.take i ++ ws.reverse.drop i := (List.take_append_drop i _).symm
        rw [h2, List.flatMap_append, List.length_append] at h1
        omega
      refine ⟨D, _, rfl, SqL.of hD, ?_⟩
      have eal : (as.map V.ref).length = ws.length := by rw [List.length_map, hDL.1]
      rw [eal]
      refine ⟨fun i m σ H' => i + m = ws.length ∧ ∃ (zs : List Addr) (u5 u6 u7 u8 : Option V), σ = [some (.ref x), some (.int (a : Int)), some (.int (b : Int)), some (.ref W), some (.ref PP), u5, u6, u7, u8] ∧ Same H H' ∧
          H' D = some (.lst (as.map V.ref)) ∧ DL H' as ws ∧ H' W = some (.lst (zs.map V.ref)) ∧ H' PP = some (.lst (ps.map tV)) ∧ LT H' zs ((st0 ++ (ws.reverse.take i).flatMap rep).map View.vals),
        ⟨ws.length, by omega, z0, _, _, _, _, rfl, s3.trans s4, hD, hDL, hW4, hP4, by simpa using hL4⟩, ?_⟩
      rintro i m σ H5 ⟨him, zs5, v5, v6, v7, v8, rfl, s5, hD5, hDL5, hW5, hP5, hL5⟩
      by_cases hi : i < ws.length
      · have hj : ws.length - 1 - i < ws.length := by omega
        obtain ⟨pa, zp, e1, e2, e3⟩ := hDL5.2 (ws.length - 1 - i) ws[ws.length - 1 - i] (List.getElem?_eq_getElem hj)
        generalize hpp : ws[ws.length - 1 - i] = pp at e2 e3
        have hpm : pp ∈ ws := by rw [← hpp]; exact List.getElem_mem hj
        have erev : ws.reverse.take (i + 1) = ws.reverse.take i ++ [pp] := by
          rw [List.take_add_one, List.getElem?_reverse hi, List.getElem?_eq_getElem hj, hpp]
          rfl
        have eg : (as.map V.ref)[ws.length - 1 - i]? = some (.ref pa) := by rw [List.getElem?_map, e1]; rfl
        refine .inr ⟨⟨hi, _, _, SqL.of hD5, eg⟩, fun σ' H' => ∃ (zs : List Addr) (u5 u6 u7 u8 : Option V), σ' = [some (.ref x), some (.int (a : Int)), some (.int (b : Int)), some (.ref W), some (.ref PP), u5, u6, u7, u8] ∧ Same H H' ∧
          H' D = some (.lst (as.map V.ref)) ∧ DL H' as ws ∧ H' W = some (.lst (zs.map V.ref)) ∧ H' PP = some (.lst (ps.map tV)) ∧ LT H' zs ((st0 ++ (ws.reverse.take (i + 1)).flatMap rep).map View.vals), fun σ' H' h => ⟨m - 1, by omega, by omega, h⟩, ?_⟩
        rintro xx H5' ⟨rfl, hxx⟩
        have exx : xx = .ref pa := Option.some.inj ((hxx _ (SqL.of hD5)).symm.trans eg)
        subst exx
        refine ⟨pa, _, rfl, SqT.of e2, rfl, _, _, rfl, _, _, rfl, rfl, ?_⟩
        refine ⟨_, rfl, .inl ⟨rfl, _, SqL.of hW5⟩, ?_⟩
        refine ⟨_, rfl, by show 1 ≤ sizeLine; decide, fun l1 nl1 => ?_⟩
        have hk := wle pp hpm
        refine ⟨_, rfl, l1, _, _, rfl, rfl, upd_same, by omega, by omega, ?_, fun l2 nl2 => ?_⟩
        · rw [Int.toNat_natCast]
          show 1 * pp.2 ≤ sizeLine
          exact sz (by omega)
        have sl : Same H5' (upd (upd H5' l1 (.lst [.ref zp])) l2 (.lst (List.replicate ((pp.2 : Int)).toNat [V.ref zp]).flatten)) := (same_new nl1).trans (same_new nl2)
        have zsl : zs5.length ≤ 2000 := by
          rw [hL5.1, List.length_map, List.length_append]
          have := tl i
          simp at stl
          omega
        have efl : (List.replicate ((pp.2 : Int)).toNat [V.ref zp]).flatten = (List.replicate pp.2 zp).map V.ref := by
          rw [Int.toNat_natCast]
          generalize pp.2 = k
          induction k with
          | zero => rfl
          | succ k ih => rw [List.replicate_succ, List.flatten_cons, ih, List.replicate_succ]; rfl
        refine ⟨W, l2, _, _, rfl, rfl, sl _ _ hW5, upd_same, ?_, ?_⟩
        · rw [efl, List.length_map, List.length_map, List.length_replicate]
          exact sz (by omega)
        refine ⟨zs5 ++ List.replicate pp.2 zp, _, _, _, _, rfl, fun c o hc => ?_, ?_, ?_, ?_, ?_, ?_⟩
        · rw [upd_ne (ne_of_none hc nWH)]
          exact sl _ _ (s5 _ _ hc)
        · rw [upd_ne hDW]
          exact sl _ _ hD5
        · exact (hDL5.same sl).updL (sl _ _ hW5)
        · rw [upd_same, efl, List.map_append]
        · rw [upd_ne hPW]
          exact sl _ _ hP5
        · refine LT.updL ?_ (sl _ _ hW5)
          rw [erev, List.flatMap_append, ← List.append_assoc]
          have hz5 := sl _ _ e3
          have step : ∀ (k : Nat) (zs : List Addr) (st : List View) (H6 : Hp), LT H6 zs (st.map View.vals) → H6 zp = some (.tup pp.1.vals) → LT H6 (zs ++ List.replicate k zp) ((st ++ List.replicate k pp.1).map View.vals) := by
            intro k
            induction k with
            | zero => intro zs st H6 h _; simpa using h
            | succ k ih =>
              intro zs st H6 h hz6
              have h1 := ih (zs ++ [zp]) (st ++ [pp.1]) H6 (by rw [List.map_append]; exact h.add hz6) hz6
              rw [List.append_assoc, List.append_assoc] at h1
              rw [List.replicate_succ, List.replicate_succ]
              exact h1
          have h2 := step pp.2 zs5 _ _ (hL5.same sl) hz5
          have e4 : [pp].flatMap rep = List.replicate pp.2 pp.1 := by simp [rep]
          rw [e4]
          exact h2
      · have ei : i = ws.length := by omega
        subst ei
        refine .inl ⟨Nat.le_refl _, ?_⟩
        rw [← List.length_reverse, List.take_length] at hL5
        refine ⟨mu ts (st0 ++ ws.reverse.flatMap rep), ?_, zs5, st0 ++ ws.reverse.flatMap rep, ps, _, _, _, _, rfl, s5, hW5, hP5, hL5, ?_, ?_, hps, rfl⟩
        · rw [mu_app, mu_app, ← mu_rev ts (ws.reverse.flatMap rep), rep_rev]
          have h1 := mu_rep (ts := ts) (N := v.n) (ws := ws) fun p hp => (hws p hp).2.1
          rw [hsumw] at h1
          have h2 : mu ts [v] = (v.n + 1) * (vw ts v).length := by simp [mu]
          have h3 := pos v ⟨r, hs⟩
          rw [h2, Nat.add_mul, Nat.one_mul]
          omega
        · intro u hu
          rcases List.mem_append.mp hu with h1 | h1
          · exact hst0 u h1
          · obtain ⟨p, hp, hup⟩ := List.mem_flatMap.mp h1
            have := (hws p (List.mem_reverse.mp hp)).1
            rw [(List.mem_replicate.mp hup).2]
            exact this
        · have e5 : tot ts (ws.reverse.flatMap rep) = vw ts v := by
            unfold tot
            rw [rep_rev, rep_tot, hsumw]
          rw [tot_app, e5]
          exact hsum
end
/-! ### enumerate over a tuple -/
/-- the tuple at a, its items in new pairs -/
def IteT (K : PySem.W.Frag) (a : Addr) : It where
  go := fun i H => ∃ (ys : List V) (y : V), SqT K H a ys ∧ ys[i]? = some y
  yld := fun i H v H' => ∃ (p : Addr) (y : V), v = .ref p ∧ H p = none ∧ H' = upd H p (.tup [.int (i : Nat), y]) ∧ ∀ ys, SqT K H a ys → ys[i]? = some y
  stop := fun i H => ∃ ys : List V, SqT K H a ys ∧ ys.length = i
def EnT (a e it : Addr) (i : Nat) (h : Heap) : Prop := (∃ z, IsEnum h e it (0 + ((i : Nat) : Int)) z) ∧ h.IsTupleIter it a i ∧ e ≠ it ∧ a ≠ it ∧ e ≠ a
theorem walk_en {prog : Program} {w : World} {A : Around} (hA : A.handled = none) {a e it : Addr} (h1 : e ≠ it) (h2 : a ≠ it) (h3 : e ≠ a) (ys : Array Value) :
    WalksT prog w A e (e :: [it, a]) [e, it] ys.size (fun i vals => ∃ t x, ys[i]? = some x ∧ vals = #[.int (0 + (i : Int)) t, x]) (fun i h => (∃ z, IsEnum h e it (0 + (i : Int)) z) ∧ h.IsTupleIter it a i ∧ h.IsTuple a ys)
      (fun i p h => (∃ x, IsEnumOut h e it (0 + (i : Int) + 1) x p) ∧ (h.IsTupleIter it a (i + 1) ∧ h.IsTuple a ys) ∧ p ≠ e ∧ p ≠ it) :=
  WalksT.enumFrom 0 (Draws.tuple (A := A.in1) hA it a h2 ys) e h1 (by simp [h1, h3]) (by simp)
theorem turn_enT {P : Program} {w : World} {K : PySem.W.Frag} {elts : List Expr} {kk : Nat} {tpos : Pos} (a e it : Addr) : Turn P w K (.Tuple elts kk tpos) (IteT K a) [e, it] e (EnT a e it) where
  mem := List.mem_cons_self
  obj := by
    rintro i h ⟨⟨z, hz⟩, ⟨o, ho, _, hd⟩, _⟩ b hb
    rcases List.mem_cons.mp hb with q | q
    · subst q
      exact ⟨_, hz, fun v x => by
        have x' : Data.fields _ = Data.cell v := x
        cases x'⟩
    · exact ⟨o, (List.mem_singleton.mp q) ▸ ho, fun v x => by rw [hd] at x; cases x⟩
  keep := by
    rintro i h h' ⟨⟨z, hz⟩, ht, r⟩ kept
    exact ⟨⟨z, kept e List.mem_cons_self _ hz⟩, ht.at fun o q => kept it (List.mem_cons_of_mem _ List.mem_cons_self) o q, r⟩
  item := by
    intro X hP hw hK calm i pins s σ H E inv fpk st ⟨ys, y, hys, hy⟩
    subst hP hw hK
    obtain ⟨⟨z, hz⟩, ht, h1, h2, h3⟩ := st
    obtain ⟨vals, rel, tup, _⟩ := inv.tuple hys
    obtain ⟨u, hu, ru⟩ := rel.get hy
    have wk := walk_en (prog := X.prog) (w := X.w) (inv.ok.hd calm) h1 h2 h3 vals.toArray
    have hlt : i < vals.toArray.size := by
      have := (List.getElem?_eq_some_iff.mp hu).1
      simpa using this
    refine wk.item i s _ E hlt ⟨⟨z, hz⟩, ht, tup⟩ fun p vs h' tk ⟨t, x, hx, ev⟩ hp hpt mid kept => ⟨_, rfl, ?_⟩
    have exu : x = u := by
      have : vals[i]? = some x := by simpa using hx
      rw [hu] at this
      exact (Option.some.inj this).symm
    subst exu ev
    refine wk.go elts kk tpos i p { s with heap := h', toks := tk } _ E mid fun h2' st2 kept2 => ?_
    have hpw : p ∉ [e, it] := wk.apart _ _ _ mid
    obtain ⟨o, ho, hoc, n, hod⟩ := hpt
    have h0 : (0 : Int) + ((i : Nat) : Int) = ((i : Nat) : Int) := Int.zero_add _
    have obj : ObjOk X.prog X.w (upd H p (.tup [.int (i : Nat), y])) h2' p (.tup [.int (i : Nat), y]) :=
      ⟨by show 2 ≤ sizeLine; decide, [.int (0 + ((i : Nat) : Int)) t, x], .cons ⟨t, by rw [h0]⟩ (.cons ru .nil), ⟨o, kept2 _ _ hpw ho, hoc, n, hod⟩⟩
    have inv2 : Inv X pins σ (upd H p (.tup [.int (i : Nat), y])) { s with heap := h2', toks := tk } :=
      inv.turnedNew (ch := [e, it]) (fun c oc hc q => kept2 _ _ hc (kept _ _ hc q)) fpk hp obj
    refine ⟨.ref p, _, inv2, rfl, ⟨p, y, rfl, inv.hok.fresh hp, rfl, fun zs hzs => by rw [inv.tuple_inj hzs hys]; exact hy⟩, ⟨st2.1, st2.2.1, h1, h2, h3⟩, fun c hc => ?_⟩
    have ncp : c ≠ p := fun q => hpw (q ▸ hc)
    rw [upd_ne ncp]
    exact (fpk c hc).1
  done := by
    intro X hP hw hK calm i pins s σ H E inv fpk st ⟨ys, hys, hlen⟩
    subst hP hw hK
    obtain ⟨⟨z, hz⟩, ht, h1, h2, h3⟩ := st
    obtain ⟨vals, rel, tup, _⟩ := inv.tuple hys
    have wk := walk_en (prog := X.prog) (w := X.w) (inv.ok.hd calm) h1 h2 h3 vals.toArray
    have hsz : i = vals.toArray.size := by
      have := rel.length
      simp
      omega
    subst hsz
    exact wk.done s _ E ⟨⟨z, hz⟩, ht, tup⟩ fun h' tk kept => ⟨rfl, inv.turnedL (ch := [e, it]) (fun c o hc q => kept c o hc q) fpk⟩
  self := fun A i s Q E st h => by
    obtain ⟨⟨z, hz⟩, _⟩ := st
    exact wpAny_pyIter_enum hz h
set_option maxHeartbeats 8000000 in
theorem enum_newB {v : Value} {o : Obj} {Hh : Heap → Prop} (B : Begins v o Hh) :
    Meets (Builtin.«enumerate.__new__» ⟨[.type "enumerate", v], []⟩) (fun _ R s => Hh s.heap ∧
      R (.ok (.ret (.ref (s.heap.push o).objs.size))) { s with heap := (s.heap.push o).push { cls := .type "enumerate", data := .fields #[.none, .bool false, .ref s.heap.objs.size, rawInt 0, .none, .none] } }) := by
  refine .of_wp fun prog w A R s hs => ?_
  obtain ⟨hp, g, d, tk, os⟩ := s
  obtain ⟨hb, hR⟩ := hs
  have hsub := sub_enumerate
  have step : ∀ {A' : Around} {E : Value → Shared → Prop} {Q : Value → Shared → Prop}, Q (.ref hp.objs.size) ⟨hp.push o, g, d, tk, os⟩ → wpAny (model prog w) A' (pyIter v) Q E ⟨hp, g, d, tk, os⟩ := fun q => B.iter prog w _ _ _ _ hb q
  wp_walk using step
  refine wpAny_stack_any fun st => wpAny_pure ?_
  split
  next c _ _ _ _ _ =>
    cases (c == Value.type "enumerate") <;> (wp_walk using step; exact ⟨_, rfl, hR⟩)
  next => wp_walk using step; exact ⟨_, rfl, hR⟩
def iEnumT (K : PySem.W.Frag) (ta : TA) : TI := fun σ H R => ta σ H fun vs H1 => ∃ (a : Addr) (ys : List V), vs = [.ref a] ∧ SqT K H1 a ys ∧ R (IteT K a) H1
theorem pi_enumT {X : Cx} {e : Expr} {ta : TA} {p pos tpos : Pos} {elts : List Expr} {kk : Nat} (hg : Gl X "enumerate") (hm : X.mg "enumerate" = none) (ha : PA X [e] ta) (hs : starEach [e] X.env = [(false, eval e X.env)] := by rfl) :
    PI X (.Tuple elts kk tpos) (.Call (.Name "enumerate" p) [e] [] pos) (iEnumT X.K ta) where
  run := by
    intro pins s σ H R inv hR
    refine Call_ (ld_blt inv hg hm boot_enumerate (PyProof.Rows.callWith_type1 (thn (ha.run pos pins s σ H _ inv hR) ?_) hs rfl))
    rintro us s1 ⟨vs, H1, inv1, rel, a, ys, rfl, hys, hR1⟩
    obtain ⟨u, rfl, ru⟩ : ∃ u, us = [u] ∧ RelV (.ref a) u := by
      cases rel with
      | cons r rr => cases rr; exact ⟨_, rfl, r⟩
    obtain rfl : u = .ref a := ru
    obtain ⟨vals, rv, tup, _⟩ := inv1.tuple hys
    have B := begins_tuple a vals.toArray
    refine callType_new F.called_enumerate (by decide) (F.typeCall_enumerate_1 _) (F.newCall_enumerate_1 _) (fun ob => F.args_object_init_2 ob _) F.entry_enumerate_new (enum_newB B) ⟨tup, ?_⟩
    obtain ⟨hp, g, d, tk, os⟩ := s1
    have hz : (hp.push { cls := .type "tuple_iterator", data := .fields #[.ref a, .int 0 0] }).objs.size = hp.objs.size + 1 := Heap.size_push ..
    have grown : ∀ c oc, hp.get? c = some oc → ((hp.push { cls := .type "tuple_iterator", data := .fields #[.ref a, .int 0 0] }).push { cls := .type "enumerate", data := .fields #[.none, .bool false, .ref hp.objs.size, rawInt 0, .none, .none] }).get? c = some oc := fun c oc q => Heap.get?_push_of_some _ (Heap.get?_push_of_some _ q)
    have he : IsEnum ((hp.push { cls := .type "tuple_iterator", data := .fields #[.ref a, .int 0 0] }).push { cls := .type "enumerate", data := .fields #[.none, .bool false, .ref hp.objs.size, rawInt 0, .none, .none] }) (hp.objs.size + 1) hp.objs.size 0 .none := by
      rw [← hz]
      exact Heap.get?_push_size _ rfl
    have hal : a < hp.objs.size := by
      obtain ⟨o, ho, _⟩ := tup
      exact Heap.lt_size ho
    have inv2 : Inv X pins σ H1 ⟨(hp.push { cls := .type "tuple_iterator", data := .fields #[.ref a, .int 0 0] }).push { cls := .type "enumerate", data := .fields #[.none, .bool false, .ref hp.objs.size, rawInt 0, .none, .none] }, g, d, tk, os⟩ := inv1.kept (t' := tk) grown
    show _ ∧ _
    rw [hz]
    refine ⟨⟨_, he, rfl⟩, wpAny_pyIter_enum he ?_⟩
    refine ⟨hp.objs.size + 1, [hp.objs.size + 1, hp.objs.size], EnT a (hp.objs.size + 1) hp.objs.size, IteT X.K a, H1, rfl, inv2, turn_enT a _ _,
      ⟨⟨.none, he⟩, ⟨_, Heap.get?_push_of_some _ (Heap.get?_push_size _ rfl), rfl, rfl⟩, Nat.succ_ne_self _, Nat.ne_of_lt hal, Nat.ne_of_gt (Nat.lt_succ_of_lt hal)⟩, fun c hc => ?_, hR1⟩
    have hcle : hp.objs.size ≤ c := by
      rcases List.mem_cons.mp hc with q | q
      · rw [q]; exact Nat.le_succ _
      · rw [List.mem_singleton.mp q]; exact Nat.le_refl _
    exact inv1.fpOk (s := ⟨hp, g, d, tk, os⟩) hcle (inv1.hok.fresh hcle)
/-- either of two readings -/
theorem PI.or {X : Cx} {tg it : Expr} {w1 w2 : TI} (h1 : PI X tg it w1) (h2 : PI X tg it w2) : PI X tg it (fun σ H R => w1 σ H R ∨ w2 σ H R) :=
  ⟨fun pins s σ H R inv h => h.elim (h1.run pins s σ H R inv) (h2.run pins s σ H R inv)⟩
theorem PE.or {X : Cx} {e : Expr} {t1 t2 : TE} (h1 : PE X e t1) (h2 : PE X e t2) : PE X e (fun σ H Q => t1 σ H Q ∨ t2 σ H Q) :=
  ⟨fun pins s σ H Q inv h => h.elim (h1.run pins s σ H Q inv) (h2.run pins s σ H Q inv)⟩
/-! ### a <= b <= c <= d -/
section
variable {X : Cx}
def tChain3 (r1 r2 r3 : R2) (ta tb tc td : TE) : TE := fun σ H Q => ta σ H fun x H1 => tb σ H1 fun y H2 => r1 x y H2 fun z H3 => ∃ k, z = .bl k ∧
  (if k = true then tc σ H3 fun u H4 => r2 y u H4 fun z2 H5 => ∃ k2, z2 = .bl k2 ∧ (if k2 = true then td σ H5 fun t H6 => r3 u t H6 Q else Q (.bl false) H5) else Q (.bl false) H3)
theorem pe_chain3 {a b c d : Expr} {pos : Pos} {ta tb tc td : TE} {o1 o2 o3 : CmpOp} {r1 r2 r3 : R2} (h1 : OpR X (compareOp o1) r1) (h2 : OpR X (compareOp o2) r2) (h3 : OpR X (compareOp o3) r3) (ha : PE X a ta) (hb : PE X b tb) (hc : PE X c tc) (hd : PE X d td)
    (hm : lastMarks [o1, o2, o3] [b, c, d] = false := by with_unfolding_all rfl) : PE X (.Compare a [o1, o2, o3] [b, c, d] pos) (tChain3 r1 r2 r3 ta tb tc td) where
  run := by
    intro pins s σ H Q inv h
    refine Compare_chain (thn (ha.run pins s σ H _ inv h) ?_) hm
    rintro va s1 ⟨xa, H1, i1, ra, qa⟩
    refine chain_link (thn (hb.run pins s1 σ H1 _ i1 qa) ?_)
    rintro vb s2 ⟨xb, H2, i2, rb, qb⟩
    refine thn (h1 pins s2 σ H2 xa xb va vb _ i2 ra rb qb) ?_
    rintro k1 s3 ⟨_, H3, i3, rk, k, rfl, q3⟩
    obtain rfl : k1 = .bool k := rk
    refine wpAny_truthy_bool ?_
    cases k with
    | false => exact ite_ff ⟨.bl false, H3, i3, rfl, q3⟩
    | true =>
      refine ite_tt (chain_link (thn (hc.run pins s3 σ H3 _ i3 q3) ?_))
      rintro vc s4 ⟨xc, H4, i4, rc, qc⟩
      refine thn (h2 pins s4 σ H4 xb xc vb vc _ i4 rb rc qc) ?_
      rintro k2 s5 ⟨_, H5, i5, rk2, j, rfl, q5⟩
      obtain rfl : k2 = .bool j := rk2
      refine wpAny_truthy_bool ?_
      cases j with
      | false => exact ite_ff ⟨.bl false, H5, i5, rfl, q5⟩
      | true =>
        refine ite_tt (chain_last (thn (hd.run pins s5 σ H5 _ i5 q5) ?_))
        rintro vd s6 ⟨xd, H6, i6, rd, qd⟩
        exact h3 pins s6 σ H6 xc xd vc vd Q i6 rc rd qd
theorem pt_chain3 {a b c d : Expr} {pos : Pos} {ta tb tc td : TE} {o1 o2 o3 : CmpOp} {r1 r2 r3 : R2} (h1 : OpR X (compareOp o1) r1) (h2 : OpR X (compareOp o2) r2) (h3 : OpR X (compareOp o3) r3) (ha : PE X a ta) (hb : PE X b tb) (hc : PE X c tc) (hd : PE X d td)
    (hm : lastMarks [o1, o2, o3] [b, c, d] = false := by with_unfolding_all rfl) : PT X (.Compare a [o1, o2, o3] [b, c, d] pos) (tTest (tChain3 r1 r2 r3 ta tb tc td)) where
  run := by
    intro pins s σ H Q inv h
    refine isTrue_chain (thn (ha.run pins s σ H _ inv h) ?_) hm
    rintro va s1 ⟨xa, H1, i1, ra, qa⟩
    refine test_link (thn (hb.run pins s1 σ H1 _ i1 qa) ?_)
    rintro vb s2 ⟨xb, H2, i2, rb, qb⟩
    refine thn (h1 pins s2 σ H2 xa xb va vb _ i2 ra rb qb) ?_
    rintro k1 s3 ⟨_, H3, i3, rk, k, rfl, q3⟩
    obtain rfl : k1 = .bool k := rk
    refine wpAny_truthy_bool ?_
    cases k with
    | false =>
      obtain ⟨k', e', q'⟩ := q3
      obtain rfl := V.bl.inj e'
      exact ite_ff ⟨H3, i3, q'⟩
    | true =>
      refine ite_tt (test_link (thn (hc.run pins s3 σ H3 _ i3 q3) ?_))
      rintro vc s4 ⟨xc, H4, i4, rc, qc⟩
      refine thn (h2 pins s4 σ H4 xb xc vb vc _ i4 rb rc qc) ?_
      rintro k2 s5 ⟨_, H5, i5, rk2, j, rfl, q5⟩
      obtain rfl : k2 = .bool j := rk2
      refine wpAny_truthy_bool ?_
      cases j with
      | false =>
        obtain ⟨k', e', q'⟩ := q5
        obtain rfl := V.bl.inj e'
        exact ite_ff ⟨H5, i5, q'⟩
      | true =>
        refine ite_tt (test_last (thn (hd.run pins s5 σ H5 _ i5 q5) ?_))
        rintro vd s6 ⟨xd, H6, i6, rd, qd⟩
        refine thn (h3 pins s6 σ H6 xc xd vc vd _ i6 rc rd qd) ?_
        rintro k3 s7 ⟨_, H7, i7, rk3, l, rfl, q7⟩
        obtain rfl : k3 = .bool l := rk3
        exact wpAny_truthy_bool ⟨H7, i7, q7⟩
end
/-! ### a rule as a tuple or a list -/
def RA (H : Hp) (a : Addr) (vals : List V) : Prop := H a = some (.tup vals) ∨ H a = some (.lst vals)
theorem RA.same {H H' : Hp} {a : Addr} {vals : List V} (h : RA H a vals) (s : Same H H') : RA H' a vals := h.elim (fun x => .inl (s _ _ x)) fun x => .inr (s _ _ x)
theorem RA.ix {K : PySem.W.Frag} {H : Hp} {a : Addr} {vals : List V} (h : RA H a vals) (j : Nat) {z : Int} {v : V} (ez : z = (j : Int)) (e : vals[j]? = some v) {Q : VK} (q : Q v H) : rIx K (.ref a) (.int z) H Q := by
  rcases h with h | h
  · exact .inr (.inl ⟨a, vals, z, v, rfl, rfl, SqT.of h, at_of ez e, q⟩)
  · exact .inl ⟨a, vals, z, v, rfl, rfl, SqL.of h, at_of ez e, q⟩
theorem RA.sq {K : PySem.W.Frag} {H : Hp} {a : Addr} {vals : List V} (h : RA H a vals) : SqL K H a vals ∨ SqT K H a vals := h.elim (fun x => .inr (SqT.of x)) fun x => .inl (SqL.of x)
def lenV (l : List Nat) : V := .int (l.length : Int)
theorem lenV_at {ts : List (List Nat)} {i : Nat} (h : i < ts.length) : atI (ts.map lenV) (i : Int) = some (.int ((tx ts i).length : Int)) := len_at h
section
variable {P : Program} {w : World} {K : PySem.W.Frag} {mg : Str → Option Value} {base : Heap}
/-! ### length_made -/
def spLengthMade : Sp := fun vs H Q _ => ∃ (a L : Addr) (ts : List (List Nat)) (r : Rule), vs = [.ref a, .ref L] ∧ RA H a r.vals ∧ H L = some (.lst (ts.map lenV)) ∧ Ok ts r ∧ (∀ l ∈ ts, l.length ≤ 1000000000000) ∧ Q (.int ((made ts r).length : Int)) H
theorem scLm : FnScope ["rule", "lengths", "word"] ["rule", "lengths"] (defScope sLengthMade) := ⟨rfl, rfl, rfl, by decide +kernel, rfl, by decide +kernel, by decide +kernel⟩
theorem ok_length_made {f : Addr} {fd : FuncData} (F : Fun K "length_made" "length_made" sLengthMade f fd) (hm : mg "length_made" = some (.ref f)) (b : Binds K fd ["rule", "lengths"] []) (T : Txt mg) : Cal P w K mg base 1 "length_made" spLengthMade [] := by
  refine mkCal F hm b scLm (fun vs H Q E h => ?_) (fun cdv A outer s H vs Q E hr h => ?_)
  · obtain ⟨a, L, ts, r, rfl, _⟩ := h
    rfl
  obtain ⟨a, L, ts, r, rfl, hA, hL, ok, hle, q⟩ := h
  refine ⟨_, (pss_cons (ps_set (i := 2) scLm.nd rfl (.inl rfl) (pe_ix ix_seq (pv 0) pe_int (fun _ _ => rfl)))
    (pss_cons (ps_if (pt_cmpR op_eq (pv 2) pe_str (nomark _)) (pss_one (ps_ret (pe_callB call_len_str (by rfl) T.len PySem.boot_len (pa_cons (pe_ix ix_seq (pv 0) pe_int (fun _ _ => rfl)) pa_nil)))) pss_nil)
    (pss_cons (ps_if (pt_cmpR op_eq (pv 2) pe_str (nomark _)) (pss_one (ps_ret (pe_op op_add (pe_ix ix_list (pv 1) (pe_ix ix_seq (pv 0) pe_int (fun _ _ => rfl)) (fun _ _ => rfl)) (pe_ix ix_list (pv 1) (pe_ix ix_seq (pv 0) pe_int (fun _ _ => rfl)) (fun _ _ => rfl))))) pss_nil)
    (pss_cons (ps_if (pt_cmpR op_eq (pv 2) pe_str (nomark _)) (pss_one (ps_ret (pe_op op_mul (pe_ix ix_list (pv 1) (pe_ix ix_seq (pv 0) pe_int (fun _ _ => rfl)) (fun _ _ => rfl)) (pe_ix ix_seq (pv 0) pe_int (fun _ _ => rfl))))) pss_nil)
    (pss_cons (ps_if (pt_cmpR op_eq (pv 2) pe_str (nomark _)) (pss_one (ps_ret (pe_op op_sub (pe_ix ix_seq (pv 0) pe_int (fun _ _ => rfl)) (pe_ix ix_seq (pv 0) pe_int (fun _ _ => rfl))))) pss_nil)
    (pss_one (ps_ret (pe_ix ix_list (pv 1) (pe_ix ix_seq (pv 0) pe_int (fun _ _ => rfl)) (fun _ _ => rfl))))))))), ?_⟩
  have hL' : SqL K H L (ts.map lenV) := SqL.of hL
  cases r with
  | letters z =>
    refine ⟨_, rfl, hA.ix 0 rfl rfl ?_⟩
    refine ⟨_, rfl, rfl, _, rfl, ifT (by decide +kernel) ?_⟩
    refine ⟨_, rfl, hA.ix 1 rfl rfl ⟨S z, rfl, Sz (by have := ok.1; omega), ?_⟩⟩
    rw [S_len]
    exact q
  | join i j =>
    refine ⟨_, rfl, hA.ix 0 rfl rfl ?_⟩
    refine ⟨_, rfl, rfl, _, rfl, ifF (by decide +kernel) ?_⟩
    refine ⟨_, rfl, rfl, _, rfl, ifT (by decide +kernel) ?_⟩
    refine ⟨_, rfl, _, rfl, hA.ix 1 rfl rfl ⟨L, _, (i : Int), _, rfl, rfl, hL', lenV_at ok.1, ?_⟩⟩
    refine ⟨_, rfl, _, rfl, hA.ix 2 rfl rfl ⟨L, _, (j : Int), _, rfl, rfl, hL', lenV_at ok.2, _, _, rfl, rfl, ?_⟩⟩
    have e : ((made ts (.join i j)).length : Int) = ((tx ts i).length : Int) + ((tx ts j).length : Int) := by
      show ((tx ts i ++ tx ts j).length : Int) = _
      rw [List.length_append]
      omega
    rw [e] at q
    exact q
  | power i k =>
    refine ⟨_, rfl, hA.ix 0 rfl rfl ?_⟩
    refine ⟨_, rfl, rfl, _, rfl, ifF (by decide +kernel) ?_⟩
    refine ⟨_, rfl, rfl, _, rfl, ifF (by decide +kernel) ?_⟩
    refine ⟨_, rfl, rfl, _, rfl, ifT (by decide +kernel) ?_⟩
    have hb := hle _ (tx_mem ok.1)
    refine ⟨_, rfl, _, rfl, hA.ix 1 rfl rfl ⟨L, _, (i : Int), _, rfl, rfl, hL', lenV_at ok.1, ?_⟩⟩
    refine ⟨_, rfl, hA.ix 2 rfl rfl ⟨_, _, rfl, rfl, .inl ⟨by omega, by omega⟩, ?_⟩⟩
    have e : ((made ts (.power i k)).length : Int) = ((tx ts i).length : Int) * (k : Int) := by
      show ((pw (tx ts i) k).length : Int) = _
      rw [pw_len, Int.natCast_mul, Int.mul_comm]
    rw [e] at q
    exact q
  | part i x y =>
    refine ⟨_, rfl, hA.ix 0 rfl rfl ?_⟩
    refine ⟨_, rfl, rfl, _, rfl, ifF (by decide +kernel) ?_⟩
    refine ⟨_, rfl, rfl, _, rfl, ifF (by decide +kernel) ?_⟩
    refine ⟨_, rfl, rfl, _, rfl, ifF (by decide +kernel) ?_⟩
    refine ⟨_, rfl, rfl, _, rfl, ifT (by decide +kernel) ?_⟩
    refine ⟨_, rfl, hA.ix 3 rfl rfl ⟨_, rfl, hA.ix 2 rfl rfl ⟨_, _, rfl, rfl, ?_⟩⟩⟩
    have e : ((made ts (.part i x y)).length : Int) = (y : Int) - (x : Int) := by
      show ((sub (tx ts i) x y).length : Int) = _
      rw [sub_len ok.2.2]
      have := ok.2.1
      omega
    rw [e] at q
    exact q
  | back i =>
    refine ⟨_, rfl, hA.ix 0 rfl rfl ?_⟩
    refine ⟨_, rfl, rfl, _, rfl, ifF (by decide +kernel) ?_⟩
    refine ⟨_, rfl, rfl, _, rfl, ifF (by decide +kernel) ?_⟩
    refine ⟨_, rfl, rfl, _, rfl, ifF (by decide +kernel) ?_⟩
    refine ⟨_, rfl, rfl, _, rfl, ifF (by decide +kernel) ?_⟩
    refine ⟨_, rfl, _, rfl, hA.ix 1 rfl rfl ⟨L, _, (i : Int), _, rfl, rfl, hL', lenV_at ok, ?_⟩⟩
    have e : ((made ts (.back i)).length : Int) = ((tx ts i).length : Int) := by
      show ((tx ts i).reverse.length : Int) = _
      rw [List.length_reverse]
    rw [e] at q
    exact q
/-! ### copied -/
def rTupOf (K : PySem.W.Frag) : List V → Hp → VK → Prop := fun xs H Q => ∃ p ys, xs = [.ref p] ∧ ((SqL K H p ys ∧ ∀ l, H l = none → Q (.ref l) (upd H l (.tup ys))) ∨ (SqT K H p ys ∧ Q (.ref p) H))
def spCopied : Sp := fun vs H Q _ => ∃ (R : Addr) (as : List Addr) (vss : List (List V)), vs = [.ref R] ∧ RA H R (as.map V.ref) ∧ as.length = vss.length ∧ (∀ (k : Nat) (vs : List V), vss[k]? = some vs → ∃ a, as[k]? = some a ∧ RA H a vs) ∧ vss.length ≤ 1000 ∧
  ∀ q as' H', Same H H' → H' q = some (.tup (as'.map V.ref)) → LT H' as' vss → Q (.ref q) H'
theorem scCo : FnScope ["rules", "rule"] ["rules"] (defScope sCopied) := ⟨rfl, rfl, rfl, by decide +kernel, rfl, by decide +kernel, by decide +kernel⟩
theorem ok_copied {f : Addr} {fd : FuncData} (F : Fun K "copied" "copied" sCopied f fd) (hm : mg "copied" = some (.ref f)) (b : Binds K fd ["rules"] []) (T : Txt mg) : Cal P w K mg base 1 "copied" spCopied [] := by
  refine mkCal F hm b scCo (fun vs H Q E h => ?_) (fun cdv A outer s H vs Q E hr h => ?_)
  · obtain ⟨R, as, vss, rfl, _⟩ := h
    rfl
  obtain ⟨R, as, vss, rfl, hR, hl, hel, h1000, q⟩ := h
  refine ⟨_, (pss_one (ps_ret (pe_callTy call_tuple_of (by rfl) T.tuple (by decide +kernel) (pa_cons (pe_lc (own := [("rule", 1)]) (g := gName 1) (te := tCB (rTupOf K) (tCons (tVar 1) tNil)) (tt := tYes) rfl scCo.nd (PI.or (pi_list (pv 0)) (pi_tup (pv 0))) (blkOk_by (N := ["rules", "rule"]) (sc := defScope sCopied) (by decide +kernel)) (fun _ _ _ _ _ => (pg_name (i := 1) scCo.nd rfl (.inl rfl))) (fun _ _ _ _ _ => pts_nil) (fun _ _ _ _ _ => (pe_callTy call_tuple_of (by rfl) T.tuple (by decide +kernel) (pa_cons (pv 1) pa_nil)))) pa_nil)))), ?_⟩
  have eal : (as.map V.ref).length = vss.length := by rw [List.length_map, hl]
  -- one turn, the end
  have turn : ∀ (D : Addr) (i : Nat) (xx : V) (H1 : Hp), H D = none → (as.map V.ref)[i]? = some xx → Same H H1 → (∃ as', H1 D = some (.lst (as'.map V.ref)) ∧ LT H1 as' (vss.take i)) → ∃ a, xx = .ref a ∧
      ∀ (R' : V → Hp → Prop), (∀ y H2, (∃ acc, H2 D = some (.lst acc) ∧ acc.length < sizeLine ∧ (Same H (upd H2 D (.lst (acc ++ [y]))) ∧ ∃ as', (upd H2 D (.lst (acc ++ [y]))) D = some (.lst (as'.map V.ref)) ∧ LT (upd H2 D (.lst (acc ++ [y]))) as' (vss.take (i + 1)))) → R' y H2) →
        ∃ p ys, [V.ref a] = [.ref p] ∧ ((SqL K H1 p ys ∧ ∀ l, H1 l = none → R' (.ref l) (upd H1 l (.tup ys))) ∨ (SqT K H1 p ys ∧ R' (.ref p) H1)) := by
    intro D i xx H1 nD hi s1 ⟨as', hD, hT⟩
    have hi2 : i < vss.length := by
      have := (List.getElem?_eq_some_iff.mp hi).1
      omega
    obtain ⟨a, ea, ha⟩ := hel i vss[i] (List.getElem?_eq_getElem hi2)
    rw [List.getElem?_map, ea] at hi
    have ex := Option.some.inj hi
    subst ex
    refine ⟨a, rfl, fun R' hR' => ?_⟩
    have etk : vss.take (i + 1) = vss.take i ++ [vss[i]] := by
      rw [List.take_add_one, List.getElem?_eq_getElem hi2]
      rfl
    have put : ∀ (H2 : Hp) (p : Addr), Same H1 H2 → H2 p = some (.tup vss[i]) → ∃ acc, H2 D = some (.lst acc) ∧ acc.length < sizeLine ∧ (Same H (upd H2 D (.lst (acc ++ [.ref p]))) ∧ ∃ as', (upd H2 D (.lst (acc ++ [.ref p]))) D = some (.lst (as'.map V.ref)) ∧ LT (upd H2 D (.lst (acc ++ [.ref p]))) as' (vss.take (i + 1))) := by
      intro H2 p s2 hp
      have hD2 := s2 _ _ hD
      refine ⟨_, hD2, by rw [List.length_map, hT.1, List.length_take]; exact small1000 (by omega), fun c o hc => ?_, as' ++ [p], by rw [upd_same]; simp, ?_⟩
      · rw [upd_ne (ne_of_none hc nD)]
        exact s2 _ _ (s1 _ _ hc)
      · rw [etk]
        exact ((hT.same s2).add hp).updL hD2
    rcases ha.same s1 with h | h
    · exact ⟨a, _, rfl, .inr ⟨SqT.of h, hR' _ _ (put H1 a (Same.refl H1) h)⟩⟩
    · exact ⟨a, _, rfl, .inl ⟨SqL.of h, fun l nl => hR' _ _ (put _ l (same_new nl) upd_same)⟩⟩
  have fin : ∀ (D : Addr) (H1 : Hp), Same H H1 → (∃ as', H1 D = some (.lst (as'.map V.ref)) ∧ LT H1 as' (vss.take vss.length)) → ∃ p ys, [V.ref D] = [.ref p] ∧ ((SqL K H1 p ys ∧ ∀ l, H1 l = none → Q (.ref l) (upd H1 l (.tup ys))) ∨ (SqT K H1 p ys ∧ Q (.ref p) H1)) := by
    rintro D H1 s1 ⟨as', hD, hT⟩
    rw [List.take_length] at hT
    exact ⟨D, _, rfl, .inl ⟨SqL.of hD, fun t nt => q t as' _ (s1.trans (same_new nt)) upd_same (hT.same (same_new nt))⟩⟩
  rcases hR with hR | hR
  · refine .inr ⟨_, rfl, R, rfl, ⟨_, SqT.of hR⟩, fun D nD => ?_⟩
    refine lc_tup (K := K) (a := R) (xs := as.map V.ref) (fun i H' => Same H H' ∧ ∃ as', H' D = some (.lst (as'.map V.ref)) ∧ LT H' as' (vss.take i)) ⟨same_new nD, [], upd_same, LT.nil⟩ (fun i H' _ h => SqT.of (h.1 _ _ hR)) ?_ ?_
    · rintro i xx H1 hi ⟨s1, h1⟩
      obtain ⟨a, rfl, h⟩ := turn D i xx H1 nD hi s1 h1
      exact ⟨rfl, _, rfl, h _ fun y H2 hh => hh⟩
    · rintro H1 ⟨s1, h1⟩
      rw [eal] at h1
      exact fin D H1 s1 h1
  · refine .inl ⟨_, rfl, R, rfl, ⟨_, SqL.of hR⟩, fun D nD => ?_⟩
    refine lc_list (K := K) (a := R) (xs := as.map V.ref) (fun i H' => Same H H' ∧ ∃ as', H' D = some (.lst (as'.map V.ref)) ∧ LT H' as' (vss.take i)) ⟨same_new nD, [], upd_same, LT.nil⟩ (fun i H' _ h => SqL.of (h.1 _ _ hR)) ?_ ?_
    · rintro i xx H1 hi ⟨s1, h1⟩
      obtain ⟨a, rfl, h⟩ := turn D i xx H1 nD hi s1 h1
      exact ⟨rfl, _, rfl, h _ fun y H2 hh => hh⟩
    · rintro H1 ⟨s1, h1⟩
      rw [eal] at h1
      exact fin D H1 s1 h1
/-! ### is_part, letter, letters -/
def spIsPart : Sp := fun vs H Q _ => ∃ a b n : Int, vs = [.int a, .int b, .int n] ∧ Q (.bl (decide (0 ≤ a ∧ a ≤ b ∧ b ≤ n))) H
theorem scIp : FnScope ["start", "stop", "length"] ["start", "stop", "length"] (defScope sIsPart) := ⟨rfl, rfl, rfl, by decide +kernel, rfl, by decide +kernel, by decide +kernel⟩
theorem ok_is_part {f : Addr} {fd : FuncData} (F : Fun K "is_part" "is_part" sIsPart f fd) (hm : mg "is_part" = some (.ref f)) (b : Binds K fd ["start", "stop", "length"] []) : Cal P w K mg base 1 "is_part" spIsPart [] := by
  refine mkCal F hm b scIp (fun vs H Q E h => ?_) (fun cdv A outer s H vs Q E hr h => ?_)
  · obtain ⟨a, b, n, rfl, _⟩ := h
    rfl
  obtain ⟨a, b, n, rfl, q⟩ := h
  refine ⟨_, (pss_one (ps_ret (pe_chain3 op_le op_le op_le pe_int (pv 0) (pv 1) (pv 2)))), ?_⟩
  refine ⟨_, rfl, _, _, rfl, rfl, _, rfl, ?_⟩
  have fls : ¬ (0 ≤ a ∧ a ≤ b ∧ b ≤ n) → Q (.bl false) H := fun h => by rw [decide_eq_false h] at q; exact q
  refine ite2 (fun z => ?_) (fun z => fls fun h => z (decide_eq_true h.1))
  have z1 : (0 : Int) ≤ a := of_decide_eq_true z
  refine ⟨_, rfl, _, _, rfl, rfl, _, rfl, ?_⟩
  refine ite2 (fun z => ?_) (fun z => fls fun h => z (decide_eq_true h.2.1))
  have z2 : a ≤ b := of_decide_eq_true z
  refine ⟨_, rfl, _, _, rfl, rfl, ?_⟩
  have e : decide (0 ≤ a ∧ a ≤ b ∧ b ≤ n) = decide (b ≤ n) := by
    by_cases h : b ≤ n
    · rw [decide_eq_true h, decide_eq_true ⟨z1, z2, h⟩]
    · rw [decide_eq_false h, decide_eq_false fun x => h x.2.2]
  rw [e] at q
  exact q
end
theorem LTR_SL : LTR.cps.toList = SL := by decide +kernel
theorem RA.ty {K : PySem.W.Frag} {H : Hp} {a : Addr} {vals : List V} (h : RA H a vals) : (TyX K H (.ref a) (.type "tuple")) ∨ (TyX K H (.ref a) (.type "list")) := h.elim (fun x => .inl (.base (.tup x))) fun x => .inr (.base (.lst x))
def rLen (K : PySem.W.Frag) : List V → Hp → VK → Prop := fun xs H Q => ∃ p ys, xs = [.ref p] ∧ (SqL K H p ys ∨ SqT K H p ys) ∧ Q (.int (ys.length : Int)) H
structure Sizes (K : PySem.W.Frag) (w : World) (mg : Str → Option Value) (d : Addr) (es : Array DictEntry) (n : Nat) : Prop where
  hd : ∃ u, mg "SIZES" = some u ∧ RelV (.ref d) u
  D : KDict K w d es n
  s1 : ∃ t, PySem.W.nsIn K d "letters" = some (some (.int 2 t))
  s2 : ∃ t, PySem.W.nsIn K d "join" = some (some (.int 3 t))
  s3 : ∃ t, PySem.W.nsIn K d "power" = some (some (.int 3 t))
  s4 : ∃ t, PySem.W.nsIn K d "part" = some (some (.int 4 t))
  s5 : ∃ t, PySem.W.nsIn K d "back" = some (some (.int 2 t))
def wordOf : Rule → Str
  | .letters _ => "letters"
  | .join _ _ => "join"
  | .power _ _ => "power"
  | .part _ _ _ => "part"
  | .back _ => "back"
theorem Sizes.at_ {K : PySem.W.Frag} {w : World} {mg : Str → Option Value} {d : Addr} {es : Array DictEntry} {n : Nat} (Z : Sizes K w mg d es n) (r : Rule) : ∃ t, PySem.W.nsIn K d (wordOf r) = some (some (.int (r.vals.length : Int) t)) := by
  cases r with
  | letters z => exact Z.s1
  | join i j => exact Z.s2
  | power i k => exact Z.s3
  | part i a b => exact Z.s4
  | back i => exact Z.s5
theorem vals_word (r : Rule) : r.vals[0]? = some (.str (wordOf r)) := by cases r <;> rfl
section
variable {P : Program} {w : World} {K : PySem.W.Frag} {mg : Str → Option Value} {base : Heap}
/-! ### is_whole, has_word, are_told -/
def spIsWhole : Sp := fun vs H Q _ => ∃ i : Int, vs = [.int i] ∧ Q (.bl true) H
theorem scIw : FnScope ["value"] ["value"] (defScope sIsWhole) := ⟨rfl, rfl, rfl, by decide +kernel, rfl, by decide +kernel, by decide +kernel⟩
theorem ok_is_whole {f : Addr} {fd : FuncData} (F : Fun K "is_whole" "is_whole" sIsWhole f fd) (hm : mg "is_whole" = some (.ref f)) (b : Binds K fd ["value"] []) (T : Txt mg) : Cal P w K mg base 1 "is_whole" spIsWhole [] := by
  refine mkCal F hm b scIw (fun vs H Q E h => ?_) (fun cdv A outer s H vs Q E hr h => ?_)
  · obtain ⟨i, rfl, _⟩ := h
    rfl
  obtain ⟨i, rfl, q⟩ := h
  refine ⟨_, (pss_one (ps_ret (pe_and (pe_callB call_isi (by rfl) T.isinstance (by decide +kernel) (pa_cons (pv 0) (pa_cons (pe_bltn (v := .ty "int") (by rfl) T.int (by decide +kernel) rfl) pa_nil))) (pe_one (pe_not (pe_callB call_isi (by rfl) T.isinstance (by decide +kernel) (pa_cons (pv 0) (pa_cons (pe_bltn (v := .ty "bool") (by rfl) T.bool (by decide +kernel) rfl) pa_nil)))))))), ?_⟩
  refine ⟨_, rfl, _, _, _, _, true, rfl, .ty _, .base (.int i), kit_ty (by decide +kernel), true, rfl, ifT rfl ?_⟩
  exact ⟨_, rfl, _, _, _, _, false, rfl, .ty _, .base (.int i), kit_ty (by decide +kernel), false, rfl, q⟩
def spHasWord : Sp := fun vs H Q _ => ∃ (a : Addr) (r : Rule), vs = [.ref a] ∧ RA H a r.vals ∧ ∀ H', Same H H' → Q (.bl true) H'
theorem scHw : FnScope ["rule"] ["rule"] (defScope sHasWord) := ⟨rfl, rfl, rfl, by decide +kernel, rfl, by decide +kernel, by decide +kernel⟩
theorem tl_any {K : PySem.W.Frag} {H : Hp} {a : Addr} {vals : List V} (h : RA H a vals) : ∃ t, TyX K H (.ref a) t ∧ PySem.W.kitAny K t [.type "tuple", .type "list"] = some true := by
  rcases h.ty (K := K) with h | h
  · exact ⟨_, h, kitAny_cons (b := true) (kit_ty (by decide +kernel)) (fun z => nomatch z) fun _ => rfl⟩
  · exact ⟨_, h, kitAny_cons (b := false) (kit_ty (by decide +kernel)) (fun _ => kitAny_cons (b := true) (kit_ty (by decide +kernel)) (fun z => nomatch z) fun _ => rfl) fun z => nomatch z⟩
theorem RA.tru {K : PySem.W.Frag} {H : Hp} {a : Addr} {vals : List V} (h : RA H a vals) : TruV K (.ref a) H (!vals.isEmpty) := by
  rcases h with h | h
  · exact .inr (.inl ⟨_, SqT.of h, rfl⟩)
  · exact .inl ⟨_, SqL.of h, rfl⟩
theorem ok_has_word {f d : Addr} {es : Array DictEntry} {n : Nat} {fd : FuncData} (F : Fun K "has_word" "has_word" sHasWord f fd) (hm : mg "has_word" = some (.ref f)) (b : Binds K fd ["rule"] []) (T : Txt mg) (Z : Sizes K w mg d es n) : Cal P w K mg base 1 "has_word" spHasWord [] := by
  refine mkCal F hm b scHw (fun vs H Q E h => ?_) (fun cdv A outer s H vs Q E hr h => ?_)
  · obtain ⟨a, r, rfl, _⟩ := h
    rfl
  obtain ⟨a, r, rfl, hA, q⟩ := h
  refine ⟨_, (pss_cons (ps_if (PW.pt (pw_or (pt_not (pt_val (pe_callB call_isiT (by rfl) T.isinstance (by decide +kernel) (pa_cons (pv 0) (pa_cons (pe_tup (pa_cons (pe_bltn (v := .ty "tuple") (by rfl) T.tuple (by decide +kernel) rfl) (pa_cons (pe_bltn (v := .ty "list") (by rfl) T.list (by decide +kernel) rfl) pa_nil))) pa_nil))))) (pw_or1 (pt_not (pt_truth (pv 0) (by intro _; rfl)))))) (pss_one (ps_ret pe_bl)) pss_nil)
    (pss_one (ps_ret (pe_and (pe_callB call_isi (by rfl) T.isinstance (by decide +kernel) (pa_cons (pe_ix ix_seq (pv 0) pe_int (fun _ _ => rfl)) (pa_cons (pe_bltn (v := .ty "str") (by rfl) T.str (by decide +kernel) rfl) pa_nil))) (pe_one (pe_cmpR (op_in_kd Z.D) (pe_ix ix_seq (pv 0) pe_int (fun _ _ => rfl)) (C8.pe_gc (by rfl) Z.hd) (by rfl))))))), ?_⟩
  refine ⟨_, rfl, by show 2 ≤ sizeLine; decide, fun p np => ?_⟩
  have s1 := same_new (o := .tup [.ty "tuple", .ty "list"]) np
  have hA1 := hA.same s1
  obtain ⟨t, ht, hk⟩ := tl_any (K := K) hA1
  refine ⟨_, p, _, t, _, true, rfl, upd_same, .cons (.ty _) (.cons (.ty _) .nil), ht, hk, true, rfl, ifF rfl ?_⟩
  have hne : r.vals.isEmpty = false := by cases r <;> rfl
  refine ⟨_, rfl, _, hA1.tru, ?_⟩
  rw [hne]
  refine ifF rfl ?_
  refine ⟨_, rfl, hA1.ix 0 rfl (vals_word r) ⟨_, _, _, _, true, rfl, .ty _, .base (.str _), kit_ty (by decide +kernel), true, rfl, ifT rfl ?_⟩⟩
  obtain ⟨t, et⟩ := Z.at_ r
  exact ⟨_, rfl, hA1.ix 0 rfl (vals_word r) ⟨_, _, rfl, rfl, et, q _ s1⟩⟩
def spAreTold : Sp := fun vs H Q _ => ∃ l : List Nat, vs = [.str (S l)] ∧ l.length ≤ 64 ∧ (∀ c ∈ l, c ∈ SL) ∧ ∀ H', Same H H' → Q (.bl true) H'
theorem scAt : FnScope ["letters", "letter"] ["letters"] (defScope sAreTold) := ⟨rfl, rfl, rfl, by decide +kernel, rfl, by decide +kernel, by decide +kernel⟩
def trues (n : Nat) : List V := (List.replicate n true).map V.bl
theorem trues_add (n : Nat) : trues n ++ [.bl true] = trues (n + 1) := by
  unfold trues
  rw [List.replicate_succ', List.map_append]
  rfl
theorem trues_len (n : Nat) : (trues n).length = n := by simp [trues]
theorem trues_all (n : Nat) : (List.replicate n true).all id = true := by simp
theorem ok_are_told {f : Addr} {fd : FuncData} (F : Fun K "are_told" "are_told" sAreTold f fd) (hm : mg "are_told" = some (.ref f)) (b : Binds K fd ["letters"] []) (T : Txt mg) : Cal P w K mg base 1 "are_told" spAreTold [] := by
  refine mkCal F hm b scAt (fun vs H Q E h => ?_) (fun cdv A outer s H vs Q E hr h => ?_)
  · obtain ⟨l, rfl, _⟩ := h
    rfl
  obtain ⟨l, rfl, hl, hin, q⟩ := h
  refine ⟨_, (pss_cons (ps_if (PW.pt (pw_or (pt_not (pt_val (pe_callB call_isi (by rfl) T.isinstance (by decide +kernel) (pa_cons (pv 0) (pa_cons (pe_bltn (v := .ty "str") (by rfl) T.str (by decide +kernel) rfl) pa_nil))))) (pw_or1 (pt_cmpR op_gt (pe_callB call_len_str (by rfl) T.len PySem.boot_len (pa_cons (pv 0) pa_nil)) (C8.pe_gc (by rfl) T.MOST_TOLD) (nomark _))))) (pss_one (ps_ret pe_bl)) pss_nil)
    (pss_one (ps_ret (pe_callB (cr_all rfl) (by rfl) T.all (by decide +kernel) (pa_cons (pe_lc (own := [("letter", 1)]) (g := gName 1) (tt := tYes) rfl scAt.nd (pi_str (pv 0)) (blkOk_by (N := ["letters", "letter"]) (sc := defScope sAreTold) (by decide +kernel)) (fun _ _ _ _ _ => (pg_name (i := 1) scAt.nd rfl (.inl rfl))) (fun _ _ _ _ _ => pts_nil) (fun _ _ _ _ _ => (pe_cmpR op_in_sign (pv 1) (C8.pe_gc (by rfl) T.LETTERS) (by rfl)))) pa_nil))))), ?_⟩
  refine ⟨_, rfl, _, _, _, _, true, rfl, .ty _, .base (.str _), kit_ty (by decide +kernel), true, rfl, ifF rfl ?_⟩
  refine ⟨_, rfl, S l, rfl, Sz (by omega), _, _, rfl, rfl, _, rfl, ifF ?_ ?_⟩
  · rw [S_len]
    exact decide_eq_false (by omega)
  refine ⟨_, rfl, S l, rfl, fun D nD => ?_⟩
  have esz : (S l).cps.size = l.length := S_len l
  refine ⟨fun i m H' => i + m = l.length ∧ Same H H' ∧ H' D = some (.lst (trues i)), ⟨l.length, by omega, same_new nD, upd_same⟩, ?_⟩
  rintro i m H1 ⟨him, s1, hD⟩
  by_cases hi : i < l.length
  · refine .inr ⟨by rw [← esz] at hi; exact hi, fun H' => Same H H' ∧ H' D = some (.lst (trues (i + 1))), fun H' h => ⟨m - 1, by omega, by omega, h⟩, ?_⟩
    rintro x H' ⟨rfl, c, hc, rfl⟩
    have hc' : l[i]? = some c := by simpa using hc
    have hcm := hin c (List.mem_of_getElem? hc')
    refine ⟨rfl, _, rfl, c, LTR, rfl, rfl, ?_⟩
    rw [LTR_SL, decide_eq_true hcm]
    refine ⟨_, hD, by rw [trues_len]; exact small1000 (by omega), fun a o ha => ?_, ?_⟩
    · rw [upd_ne (ne_of_none ha nD)]
      exact s1 _ _ ha
    · rw [upd_same, trues_add]
  · have ei : i = l.length := by omega
    subst ei
    refine .inl ⟨by rw [← esz]; exact Nat.le_refl _, D, List.replicate l.length true, rfl, SqL.of hD, ?_⟩
    rw [trues_all]
    exact q _ s1
end
theorem RA.slice {K : PySem.W.Frag} {H : Hp} {a : Addr} {vals : List V} (h : RA H a vals) {lo hi : Option Int} (nw : ¬ (HT.sIx vals.length 0 lo = 0 ∧ HT.sIx vals.length vals.length hi = vals.length)) {Q : VK}
    (q : ∀ p H', H p = none → Same H H' → RA H' p (cutV vals lo hi) → Q (.ref p) H') : rSlL K (.ref a) lo hi H Q ∨ rSlA K (.ref a) lo hi H Q := by
  rcases h with h | h
  · exact .inr ⟨a, vals, rfl, SqT.of h, fun z => absurd z nw, fun _ p np => q p _ np (same_new np) (.inl upd_same)⟩
  · exact .inl ⟨a, vals, rfl, SqL.of h, fun p np => q p _ np (same_new np) (.inr upd_same)⟩
theorem cut_rest {vals : List V} {x : V} (h : x ∈ cutV vals (some 2) none) : x ∈ vals.drop 2 := by
  unfold cutV at h
  rw [HT.sIx_none, show (some (2 : Int)) = some ((2 : Nat) : Int) from rfl, HT.sIx_nat] at h
  have h1 := List.mem_of_mem_take h
  rcases Nat.le_total 2 vals.length with z | z
  · rwa [Nat.min_eq_left z] at h1
  · rw [Nat.min_eq_right z, List.drop_length] at h1
    cases h1
theorem wordT {r : Rule} {x : Str} (h : wordOf r = x) : decide (V.str (wordOf r) = V.str x) = true := by rw [h]; exact decide_eq_true rfl
theorem wordF {r : Rule} {x : Str} (h : wordOf r ≠ x) : decide (V.str (wordOf r) = V.str x) = false := decide_eq_false fun e => h (V.str.inj e)
theorem nJL : ("join" : Str) ≠ "letters" := by decide +kernel
theorem nPL : ("power" : Str) ≠ "letters" := by decide +kernel
theorem nAL : ("part" : Str) ≠ "letters" := by decide +kernel
theorem nBL : ("back" : Str) ≠ "letters" := by decide +kernel
theorem nPJ : ("power" : Str) ≠ "join" := by decide +kernel
theorem nAJ : ("part" : Str) ≠ "join" := by decide +kernel
theorem nBJ : ("back" : Str) ≠ "join" := by decide +kernel
theorem nJP : ("join" : Str) ≠ "power" := by decide +kernel
theorem nAP : ("part" : Str) ≠ "power" := by decide +kernel
theorem nBP : ("back" : Str) ≠ "power" := by decide +kernel
theorem nJA : ("join" : Str) ≠ "part" := by decide +kernel
theorem nPA : ("power" : Str) ≠ "part" := by decide +kernel
theorem nBA : ("back" : Str) ≠ "part" := by decide +kernel
section
variable {P : Program} {w : World} {K : PySem.W.Frag} {mg : Str → Option Value} {base : Heap}
/-! ### fault_of, of a right rule -/
def spFaultOf : Sp := fun vs H Q _ => ∃ (a L : Addr) (ts : List (List Nat)) (r : Rule), vs = [.ref a, .ref L] ∧ RA H a r.vals ∧ H L = some (.lst (ts.map lenV)) ∧ Ok ts r ∧ (∀ l ∈ ts, l.length ≤ 1000000000000) ∧ (made ts r).length ≤ 1000000000000 ∧ ts.length ≤ 1000 ∧
  ∀ H', Same H H' → Q .non H'
theorem scFo : FnScope ["rule", "lengths", "word", "used", "number"] ["rule", "lengths"] (defScope sFaultOf) := ⟨rfl, rfl, rfl, by decide +kernel, rfl, by decide +kernel, by decide +kernel⟩
theorem ok_fault_of {f d : Addr} {es : Array DictEntry} {n : Nat} {fd : FuncData} (F : Fun K "fault_of" "fault_of" sFaultOf f fd) (hm : mg "fault_of" = some (.ref f)) (b : Binds K fd ["rule", "lengths"] []) (T : Txt mg) (Z : Sizes K w mg d es n)
    (GHw : Cal P w K mg base 1 "has_word" spHasWord []) (GAt : Cal P w K mg base 1 "are_told" spAreTold []) (GIw : Cal P w K mg base 1 "is_whole" spIsWhole []) (GIp : Cal P w K mg base 1 "is_part" spIsPart []) (GLm : Cal P w K mg base 1 "length_made" spLengthMade []) : Cal P w K mg base 2 "fault_of" spFaultOf [] := by
  refine mkCal F hm b scFo (fun vs H Q E h => ?_) (fun cdv A outer s H vs Q E hr h => ?_)
  · obtain ⟨a, L, ts, r, rfl, _⟩ := h
    rfl
  obtain ⟨a, L, ts, r, rfl, hA, hL, ok, hle, h12, h1000, q⟩ := h
  refine ⟨_, (pss_cons (ps_if (pt_not (pt_val (pe_c GHw hr (by decide) (by rfl) (pa_cons (pv 0) pa_nil)))) (pss_one (ps_ret pe_str)) pss_nil)
    (pss_cons (ps_set (i := 2) scFo.nd rfl (.inl rfl) (pe_ix ix_seq (pv 0) pe_int (fun _ _ => rfl)))
    (pss_cons (ps_if (pt_cmpR op_ne (pe_callB call_len_seq (by rfl) T.len PySem.boot_len (pa_cons (pv 0) pa_nil)) (pe_ix ix_kdict (C8.pe_gc (by rfl) Z.hd) (pv 2) (fun _ _ => rfl)) (nomark _)) (pss_one (ps_ret pe_str)) pss_nil)
    (pss_cons (ps_if (pt_cmpR op_eq (pv 2) pe_str (nomark _)) (pss_one (ps_ret (pe_ifExp (pt_val (pe_c GAt hr (by decide) (by rfl) (pa_cons (pe_ix ix_seq (pv 0) pe_int (fun _ _ => rfl)) pa_nil))) pe_non pe_str))) pss_nil)
    (pss_cut (ps_set (i := 3) scFo.nd rfl (.inl rfl) (pe_ifExp (pt_cmpR op_eq (pv 2) pe_str (nomark _)) (pe_slice (SlR.or sl_list sl_tupA) (pv 0) (po_some pe_int) (po_some pe_int)) (pe_slice (SlR.or sl_list sl_tupA) (pv 0) (po_some pe_int) (po_some pe_int))))
    (pss_cut (ps_if (pt_not (pt_val (pe_callB (cr_all rfl) (by rfl) T.all (by decide +kernel) (pa_cons (pe_lc (own := [("number", 4)]) (g := gName 4) (te := tAndV (tCall spIsWhole [] C8.E0 (tCons (tVar 4) tNil)) (tChain (rI0 fun i j => .bl (decide (i ≤ j))) (rI0 fun i j => .bl (decide (i < j))) (tC (.int 0)) (tVar 4) (tCB (rLen K) (tCons (tVar 1) tNil)))) (tt := tYes) rfl scFo.nd (PI.or (pi_list (pv 3)) (pi_tup (pv 3))) (blkOk_by (N := ["rule", "lengths", "word", "used", "number"]) (sc := defScope sFaultOf) (by decide +kernel)) (fun _ _ _ _ _ => (pg_name (i := 4) scFo.nd rfl (.inl rfl))) (fun _ _ _ _ _ => pts_nil) (fun _ _ _ _ _ => (pe_and (pe_c GIw hr (by decide) (by rfl) (pa_cons (pv 4) pa_nil)) (pe_one (pe_chain op_le op_lt pe_int (pv 4) (pe_callB call_len_seq (by rfl) T.len PySem.boot_len (pa_cons (pv 1) pa_nil))))))) pa_nil)))) (pss_one (ps_ret pe_str)) pss_nil)
    (pss_cut (ps_if (pt_not (pt_val (pe_callB (cr_all rfl) (by rfl) T.all (by decide +kernel) (pa_cons (pe_lc (own := [("number", 4)]) (g := gName 4) (tt := tYes) rfl scFo.nd (PI.or (pi_list (pe_slice (SlR.or sl_list sl_tupA) (pv 0) (po_some pe_int) po_none)) (pi_tup (pe_slice (SlR.or sl_list sl_tupA) (pv 0) (po_some pe_int) po_none))) (blkOk_by (N := ["rule", "lengths", "word", "used", "number"]) (sc := defScope sFaultOf) (by decide +kernel)) (fun _ _ _ _ _ => (pg_name (i := 4) scFo.nd rfl (.inl rfl))) (fun _ _ _ _ _ => pts_nil) (fun _ _ _ _ _ => (pe_c GIw hr (by decide) (by rfl) (pa_cons (pv 4) pa_nil)))) pa_nil)))) (pss_one (ps_ret (pv 2))) pss_nil)
    (pss_cons (ps_if (PW.pt (pw_and (pt_cmpR op_eq (pv 2) pe_str (nomark _)) (pw_and1 (pt_not (pt_chain op_le op_le pe_int (pe_ix ix_seq (pv 0) pe_int (fun _ _ => rfl)) (C8.pe_gc (by rfl) T.MOST_TIMES)))))) (pss_one (ps_ret pe_str)) pss_nil)
    (pss_cons (ps_if (PW.pt (pw_and (pt_cmpR op_eq (pv 2) pe_str (nomark _)) (pw_and1 (pt_not (pt_val (pe_c GIp hr (by decide) (by rfl) (pa_cons (pe_ix ix_seq (pv 0) pe_int (fun _ _ => rfl)) (pa_cons (pe_ix ix_seq (pv 0) pe_int (fun _ _ => rfl)) (pa_cons (pe_ix ix_list (pv 1) (pe_ix ix_seq (pv 0) pe_int (fun _ _ => rfl)) (fun _ _ => rfl)) pa_nil))))))))) (pss_one (ps_ret pe_str)) pss_nil)
    (pss_one (ps_ret (pe_ifExp (pt_cmpR op_gt (pe_c GLm hr (by decide) (by rfl) (pa_cons (pv 0) (pa_cons (pv 1) pa_nil))) (C8.pe_gc (by rfl) T.MOST_LETTERS) (nomark _)) pe_str pe_non)))))))))))), ?_⟩
  have ell : (ts.map lenV).length = ts.length := List.length_map _
  refine ⟨_, rfl, a, r, rfl, hA, fun H1 s1 => ⟨true, rfl, ifF rfl ?_⟩⟩
  refine ⟨_, rfl, (hA.same s1).ix 0 rfl (vals_word r) ?_⟩
  obtain ⟨t, et⟩ := Z.at_ r
  refine ⟨_, rfl, a, _, rfl, (hA.same s1).sq, _, rfl, d, wordOf r, .int (r.vals.length : Int), rfl, rfl, ⟨es, n, _, Z.D.at_, Z.D.lit, et, ⟨t, rfl⟩⟩, rfl, _, rfl, ifF (by simp) ?_⟩
  refine ⟨_, rfl, rfl, _, rfl, ?_⟩
  -- behind used = ..
  have h3 : r.vals.length ≤ 4 := r.vals_len
  by_cases hl : isL r = true
  · cases r with
    | letters z =>
      refine ifT (wordT rfl) ?_
      refine ⟨_, rfl, (hA.same s1).ix 1 rfl rfl ⟨z, rfl, ok.1, ok.2, fun H2 s2 => ⟨true, rfl, ifT rfl ?_⟩⟩⟩
      exact q _ (s1.trans s2)
    | join i j => cases hl
    | power i k => cases hl
    | part i x y => cases hl
    | back i => cases hl
  have hwl : wordOf r ≠ ("letters" : Str) := by
    cases r with
    | letters z => exact absurd rfl hl
    | join i j => exact nJL
    | power i k => exact nPL
    | part i x y => exact nAL
    | back i => exact nBL
  refine ifF (wordF hwl) ?_
  refine ⟨fun σ H' => ∃ (U : Addr) (us : List V), σ = [some (.ref a), some (.ref L), some (.str (wordOf r)), some (.ref U), none] ∧ Same H H' ∧ RA H' U us ∧ us.length ≤ 10 ∧ ∀ x ∈ us, ∃ m : Nat, x = .int (m : Int) ∧ m < ts.length, ?_, ?_⟩
  · cases r with
    | letters z => exact absurd rfl hl
    | join i j =>
      refine ⟨_, rfl, rfl, _, rfl, ifT (wordT rfl) ?_⟩
      refine ⟨_, rfl, 1, rfl, 3, rfl, (hA.same s1).slice (by show ¬ (HT.sIx 3 0 (some 1) = 0 ∧ HT.sIx 3 3 (some 3) = 3); decide) fun p H2 np s2 hp => ⟨p, [.int (i : Int), .int (j : Int)], rfl, s1.trans s2, hp, by show 2 ≤ 10; decide, fun x hx => ?_⟩⟩
      rcases List.mem_cons.mp hx with e | e
      · exact ⟨i, e, ok.1⟩
      · exact ⟨j, List.mem_singleton.mp e, ok.2⟩
    | power i k =>
      refine ⟨_, rfl, rfl, _, rfl, ifF (wordF nPJ) ?_⟩
      refine ⟨_, rfl, 1, rfl, 2, rfl, (hA.same s1).slice (by show ¬ (HT.sIx 3 0 (some 1) = 0 ∧ HT.sIx 3 3 (some 2) = 3); decide) fun p H2 np s2 hp => ⟨p, [.int (i : Int)], rfl, s1.trans s2, hp, by show 1 ≤ 10; decide, fun x hx => ⟨i, List.mem_singleton.mp hx, ok.1⟩⟩⟩
    | part i x y =>
      refine ⟨_, rfl, rfl, _, rfl, ifF (wordF nAJ) ?_⟩
      refine ⟨_, rfl, 1, rfl, 2, rfl, (hA.same s1).slice (by show ¬ (HT.sIx 4 0 (some 1) = 0 ∧ HT.sIx 4 4 (some 2) = 4); decide) fun p H2 np s2 hp => ⟨p, [.int (i : Int)], rfl, s1.trans s2, hp, by show 1 ≤ 10; decide, fun x hx => ⟨i, List.mem_singleton.mp hx, ok.1⟩⟩⟩
    | back i =>
      refine ⟨_, rfl, rfl, _, rfl, ifF (wordF nBJ) ?_⟩
      refine ⟨_, rfl, 1, rfl, 2, rfl, (hA.same s1).slice (by show ¬ (HT.sIx 2 0 (some 1) = 0 ∧ HT.sIx 2 2 (some 2) = 2); decide) fun p H2 np s2 hp => ⟨p, [.int (i : Int)], rfl, s1.trans s2, hp, by show 1 ≤ 10; decide, fun x hx => ⟨i, List.mem_singleton.mp hx, ok⟩⟩⟩
  · rintro σ H2 ⟨U, us, rfl, s2, hU, hus, hall⟩
    have fin : ∀ (k : Nat) (R : Hp → Prop) (D : Addr) (H3 : Hp), H3 D = some (.lst (trues k)) → R H3 → ∃ (a : Addr) (bs : List Bool), [V.ref D] = [.ref a] ∧ SqL K H3 a (bs.map V.bl) ∧ ∃ c, V.bl (bs.all id) = .bl c ∧ ∀ (A : Prop), (if (!c) = true then A else R H3) := by
      intro k R D H3 hD hR
      exact ⟨D, List.replicate k true, rfl, SqL.of hD, true, by rw [trues_all], fun _ => ifF rfl hR⟩
    have push : ∀ (H2 : Hp) (D : Addr) (i : Nat) (H3 : Hp), i ≤ 100 → H2 D = none → Same H2 H3 → H3 D = some (.lst (trues i)) → ∀ y : V, y = .bl true → ∃ acc, H3 D = some (.lst acc) ∧ acc.length < sizeLine ∧ (Same H2 (upd H3 D (.lst (acc ++ [y]))) ∧ (upd H3 D (.lst (acc ++ [y]))) D = some (.lst (trues (i + 1)))) := by
      intro H2 D i H3 hi nD s3 hD y hy
      refine ⟨_, hD, by rw [trues_len]; exact small1000 (by omega), fun c o hc => ?_, by rw [upd_same, hy, trues_add]⟩
      rw [upd_ne (ne_of_none hc nD)]
      exact s3 _ _ hc
    refine ⟨fun σ H' => σ = [some (.ref a), some (.ref L), some (.str (wordOf r)), some (.ref U), none] ∧ Same H H', ?_, ?_⟩
    · -- the numbers of rules
      have elt : ∀ (D : Addr) (i : Nat) (x : V) (H3 : Hp), H2 D = none → us[i]? = some x → Same H2 H3 → H3 D = some (.lst (trues i)) → ∃ m : Nat, x = .int (m : Int) ∧ m < ts.length ∧ H3 L = some (.lst (ts.map lenV)) ∧ i ≤ 100 := by
        intro D i x H3 nD hi s3 hD
        obtain ⟨m, e, hm⟩ := hall x (List.mem_of_getElem? hi)
        have hi2 := (List.getElem?_eq_some_iff.mp hi).1
        exact ⟨m, e, hm, s3 _ _ (s2 _ _ hL), by omega⟩
      rcases hU with hU | hU
      · refine .inr ⟨_, rfl, U, rfl, ⟨_, SqT.of hU⟩, fun D nD => lc_tup (K := K) (a := U) (xs := us) (fun i H' => Same H2 H' ∧ H' D = some (.lst (trues i))) ⟨same_new nD, upd_same⟩ (fun i H' _ h => SqT.of (h.1 _ _ hU)) ?_ ?_⟩
        · rintro i x H3 hi ⟨s3, hD⟩
          obtain ⟨m, rfl, hm, hL3, hi100⟩ := elt D i x H3 nD hi s3 hD
          refine ⟨rfl, _, rfl, (m : Int), rfl, true, rfl, ifT rfl ⟨_, rfl, _, _, rfl, rfl, _, rfl, ifT (decide_eq_true (by omega)) ⟨_, rfl, L, _, rfl, .inl (SqL.of hL3), _, _, rfl, rfl, ?_⟩⟩⟩
          exact push H2 D i H3 hi100 nD s3 hD _ (congrArg V.bl (decide_eq_true (by rw [ell]; omega)))
        · rintro H3 ⟨s3, hD⟩
          exact ⟨D, List.replicate us.length true, rfl, SqL.of hD, true, by rw [trues_all], ifF rfl ⟨rfl, s2.trans s3⟩⟩
      · refine .inl ⟨_, rfl, U, rfl, ⟨_, SqL.of hU⟩, fun D nD => lc_list (K := K) (a := U) (xs := us) (fun i H' => Same H2 H' ∧ H' D = some (.lst (trues i))) ⟨same_new nD, upd_same⟩ (fun i H' _ h => SqL.of (h.1 _ _ hU)) ?_ ?_⟩
        · rintro i x H3 hi ⟨s3, hD⟩
          obtain ⟨m, rfl, hm, hL3, hi100⟩ := elt D i x H3 nD hi s3 hD
          refine ⟨rfl, _, rfl, (m : Int), rfl, true, rfl, ifT rfl ⟨_, rfl, _, _, rfl, rfl, _, rfl, ifT (decide_eq_true (by omega)) ⟨_, rfl, L, _, rfl, .inl (SqL.of hL3), _, _, rfl, rfl, ?_⟩⟩⟩
          exact push H2 D i H3 hi100 nD s3 hD _ (congrArg V.bl (decide_eq_true (by rw [ell]; omega)))
        · rintro H3 ⟨s3, hD⟩
          exact ⟨D, List.replicate us.length true, rfl, SqL.of hD, true, by rw [trues_all], ifF rfl ⟨rfl, s2.trans s3⟩⟩
    · rintro σ H3 ⟨rfl, s3⟩
      refine ⟨fun σ H' => σ = [some (.ref a), some (.ref L), some (.str (wordOf r)), some (.ref U), none] ∧ Same H H', ?_, ?_⟩
      · -- the other elements
        have hrest : ∀ x ∈ r.vals.drop 2, ∃ m : Int, x = .int m := by
          intro x hx
          cases r with
          | letters z => exact absurd rfl hl
          | join i j => exact ⟨_, List.mem_singleton.mp hx⟩
          | power i k => exact ⟨_, List.mem_singleton.mp hx⟩
          | part i l u =>
            rcases List.mem_cons.mp hx with e | e
            · exact ⟨_, e⟩
            · exact ⟨_, List.mem_singleton.mp e⟩
          | back i => cases hx
        have nw : ¬ (HT.sIx r.vals.length 0 (some 2) = 0 ∧ HT.sIx r.vals.length r.vals.length none = r.vals.length) := by
          have h2 : 2 ≤ r.vals.length := by cases r <;> simp [Rule.vals]
          rw [show (some (2 : Int)) = some ((2 : Nat) : Int) from rfl, HT.sIx_nat, Nat.min_eq_left h2]
          omega
        have cl : (cutV r.vals (some 2) none).length ≤ 4 := by
          unfold cutV
          rw [List.length_take, List.length_drop]
          omega
        rcases hA.same s3 with hA3 | hA3
        · refine .inr ⟨_, rfl, 2, rfl, .inr ⟨a, _, rfl, SqT.of hA3, fun z => absurd z nw, fun _ p np => ?_⟩⟩
          have s4 := same_new (o := .tup (cutV r.vals (some 2) none)) np
          refine ⟨p, rfl, ⟨_, SqT.of upd_same⟩, fun D nD => lc_tup (K := K) (a := p) (xs := cutV r.vals (some 2) none) (fun i H' => Same (upd H3 p (.tup (cutV r.vals (some 2) none))) H' ∧ H' D = some (.lst (trues i))) ⟨same_new nD, upd_same⟩ (fun i H' _ h => SqT.of (h.1 _ _ upd_same)) ?_ ?_⟩
          · rintro i x H4 hi ⟨s5, hD⟩
            have hi2 := (List.getElem?_eq_some_iff.mp hi).1
            obtain ⟨m, rfl⟩ := hrest x (cut_rest (List.mem_of_getElem? hi))
            exact ⟨rfl, _, rfl, m, rfl, push _ D i H4 (by omega) nD s5 hD _ rfl⟩
          · rintro H4 ⟨s5, hD⟩
            exact ⟨D, List.replicate (cutV r.vals (some 2) none).length true, rfl, SqL.of hD, true, by rw [trues_all], ifF rfl ⟨rfl, (s3.trans s4).trans s5⟩⟩
        · refine .inl ⟨_, rfl, 2, rfl, .inl ⟨a, _, rfl, SqL.of hA3, fun p np => ?_⟩⟩
          have s4 := same_new (o := .lst (cutV r.vals (some 2) none)) np
          refine ⟨p, rfl, ⟨_, SqL.of upd_same⟩, fun D nD => lc_list (K := K) (a := p) (xs := cutV r.vals (some 2) none) (fun i H' => Same (upd H3 p (.lst (cutV r.vals (some 2) none))) H' ∧ H' D = some (.lst (trues i))) ⟨same_new nD, upd_same⟩ (fun i H' _ h => SqL.of (h.1 _ _ upd_same)) ?_ ?_⟩
          · rintro i x H4 hi ⟨s5, hD⟩
            have hi2 := (List.getElem?_eq_some_iff.mp hi).1
            obtain ⟨m, rfl⟩ := hrest x (cut_rest (List.mem_of_getElem? hi))
            exact ⟨rfl, _, rfl, m, rfl, push _ D i H4 (by omega) nD s5 hD _ rfl⟩
          · rintro H4 ⟨s5, hD⟩
            exact ⟨D, List.replicate (cutV r.vals (some 2) none).length true, rfl, SqL.of hD, true, by rw [trues_all], ifF rfl ⟨rfl, (s3.trans s4).trans s5⟩⟩
      · rintro σ H4 ⟨rfl, s4⟩
        have hA4 := hA.same s4
        have hL4 := s4 _ _ hL
        have big : decide ((1000000000000 : Int) < ((made ts r).length : Int)) = false := decide_eq_false (by omega)
        cases r with
        | letters z => exact absurd rfl hl
        | join i j =>
          refine ⟨_, rfl, rfl, _, rfl, ifF (wordF nJP) (ifF rfl ?_)⟩
          refine ⟨_, rfl, rfl, _, rfl, ifF (wordF nJA) (ifF rfl ?_)⟩
          exact ⟨_, rfl, _, rfl, a, L, ts, _, rfl, hA4, hL4, ok, hle, _, _, rfl, rfl, _, rfl, ifF big (q _ s4)⟩
        | power i k =>
          refine ⟨_, rfl, rfl, _, rfl, ifT (wordT rfl) ?_⟩
          refine ⟨_, rfl, hA4.ix 2 rfl rfl ⟨_, _, rfl, rfl, _, rfl, ifT (decide_eq_true (by omega)) ⟨_, _, rfl, rfl, _, rfl, ifF ?_ ?_⟩⟩⟩
          · have := ok.2
            rw [decide_eq_true (by omega)]
            rfl
          refine ⟨_, rfl, rfl, _, rfl, ifF (wordF nPA) (ifF rfl ?_)⟩
          exact ⟨_, rfl, _, rfl, a, L, ts, _, rfl, hA4, hL4, ok, hle, _, _, rfl, rfl, _, rfl, ifF big (q _ s4)⟩
        | part i x y =>
          refine ⟨_, rfl, rfl, _, rfl, ifF (wordF nAP) (ifF rfl ?_)⟩
          refine ⟨_, rfl, rfl, _, rfl, ifT (wordT rfl) ?_⟩
          refine ⟨_, rfl, hA4.ix 2 rfl rfl ⟨_, rfl, hA4.ix 3 rfl rfl ⟨_, rfl, _, rfl, hA4.ix 1 rfl rfl ⟨L, _, (i : Int), _, rfl, rfl, SqL.of hL4, lenV_at ok.1, _, _, _, rfl, _, rfl, ifF ?_ ?_⟩⟩⟩⟩
          · have h1 := ok.2.1
            have h2 := ok.2.2
            rw [decide_eq_true (by omega)]
            rfl
          exact ⟨_, rfl, _, rfl, a, L, ts, _, rfl, hA4, hL4, ok, hle, _, _, rfl, rfl, _, rfl, ifF big (q _ s4)⟩
        | back i =>
          refine ⟨_, rfl, rfl, _, rfl, ifF (wordF nBP) (ifF rfl ?_)⟩
          refine ⟨_, rfl, rfl, _, rfl, ifF (wordF nBA) (ifF rfl ?_)⟩
          exact ⟨_, rfl, _, rfl, a, L, ts, _, rfl, hA4, hL4, ok, hle, _, _, rfl, rfl, _, rfl, ifF big (q _ s4)⟩
end
def RL (H : Hp) (as : List Addr) (vss : List (List V)) : Prop := as.length = vss.length ∧ ∀ (k : Nat) (vs : List V), vss[k]? = some vs → ∃ a, as[k]? = some a ∧ RA H a vs
theorem RL.same {H H' : Hp} {as : List Addr} {vss : List (List V)} (h : RL H as vss) (s : Same H H') : RL H' as vss := ⟨h.1, fun k vs e => let ⟨a, e1, e2⟩ := h.2 k vs e; ⟨a, e1, e2.same s⟩⟩
theorem LT.rl {H : Hp} {as : List Addr} {vss : List (List V)} (h : LT H as vss) : RL H as vss := ⟨h.1, fun k vs e => let ⟨a, e1, e2⟩ := h.2 k vs e; ⟨a, e1, .inl e2⟩⟩
section
variable {P : Program} {w : World} {K : PySem.W.Frag} {mg : Str → Option Value} {base : Heap}
/-! ### lengths_checked, of right rules -/
def spLengthsC : Sp := fun vs H Q _ => ∃ (R : Addr) (as : List Addr) (rs : List Rule) (ts : List (List Nat)), vs = [.ref R] ∧ RA H R (as.map V.ref) ∧ RL H as (rs.map Rule.vals) ∧ Sound rs ts ∧ 1 ≤ rs.length ∧ rs.length ≤ 60 ∧
  ∀ q H', Same H H' → H' q = some (.tup (ts.map lenV)) → Q (.ref q) H'
theorem scLc : FnScope ["rules", "lengths", "number", "rule", "reason"] ["rules"] (defScope sLengthsChecked) := ⟨rfl, rfl, rfl, by decide +kernel, rfl, by decide +kernel, by decide +kernel⟩
theorem ok_lengths_checked {f : Addr} {fd : FuncData} (F : Fun K "lengths_checked" "lengths_checked" sLengthsChecked f fd) (hm : mg "lengths_checked" = some (.ref f)) (b : Binds K fd ["rules"] []) (T : Txt mg) (GFo : Cal P w K mg base 2 "fault_of" spFaultOf []) (GLm : Cal P w K mg base 1 "length_made" spLengthMade []) : Cal P w K mg base 3 "lengths_checked" spLengthsC [] := by
  refine mkCal F hm b scLc (fun vs H Q E h => ?_) (fun cdv A outer s H vs Q E hr h => ?_)
  · obtain ⟨R, as, rs, ts, rfl, _⟩ := h
    rfl
  obtain ⟨R, as, rs, ts, rfl, hR, hT, snd, h1, h60, q⟩ := h
  refine ⟨_, (pss_cons (ps_if (pt_not (pt_chain op_le op_le pe_int (pe_callB call_len_seq (by rfl) T.len PySem.boot_len (pa_cons (pv 0) pa_nil)) (C8.pe_gc (by rfl) T.MOST_RULES))) (pss_one ps_never) pss_nil)
    (pss_cons (ps_set (i := 1) scLc.nd rfl (.inl rfl) (pe_lst pa_nil))
    (pss_cons (ps_for PassesOwn.never rfl (PI.or (pi_enum (by rfl) T.enumerate (pa_cons (pv 0) pa_nil)) (pi_enumT (by rfl) T.enumerate (pa_cons (pv 0) pa_nil))) (pg_tup rfl (pgs_cons (pg_name (i := 2) scLc.nd rfl (.inl rfl)) (pgs_cons (pg_name (i := 3) scLc.nd rfl (.inl rfl)) pgs_nil))) (pss_cons (ps_set (i := 4) scLc.nd rfl (.inl rfl) (pe_c GFo hr (by decide) (by rfl) (pa_cons (pv 3) (pa_cons (pv 1) pa_nil))))
    (pss_cons (ps_if (pt_cmpR op_notN (pv 4) pe_non (nomark _)) (pss_one ps_never) pss_nil)
    (pss_one (ps_expr (pe_bm PySem.F.plainAttrs_list PySem.F.slot_list_append PySem.F.type_list_append mt_append (pv 1) (pa_cons (pe_c GLm hr (by decide) (by rfl) (pa_cons (pv 3) (pa_cons (pv 1) pa_nil))) pa_nil)))))))
    (pss_one (ps_ret (pe_callTy call_tuple_of (by rfl) T.tuple (by decide +kernel) (pa_cons (pv 1) pa_nil))))))), ?_⟩
  have eal : (as.map V.ref).length = ts.length := by rw [List.length_map, hT.1, List.length_map, snd.len]
  have h1' : 1 ≤ ts.length := by rw [snd.len]; exact h1
  have h60' : ts.length ≤ 60 := by rw [snd.len]; exact h60
  refine ⟨_, rfl, R, _, rfl, hR.sq, _, _, rfl, rfl, _, rfl, ifT (decide_eq_true (by rw [eal]; omega)) ⟨_, _, rfl, rfl, _, rfl, ifF ?_ ?_⟩⟩
  · rw [decide_eq_true (by rw [eal]; omega)]
    rfl
  refine ⟨Nat.zero_le _, fun L nL => ?_⟩
  have sL := same_new (o := .lst []) nL
  -- one turn
  have at_ : ∀ i, i < ts.length → ∃ (r : Rule) (a : Addr), rs[i]? = some r ∧ (as.map V.ref)[i]? = some (.ref a) ∧ RA H a r.vals := by
    intro i hi
    obtain ⟨r, er⟩ := snd.rule hi
    obtain ⟨a, ea, ha⟩ := hT.2 i r.vals (by rw [List.getElem?_map, er]; rfl)
    exact ⟨r, a, er, by rw [List.getElem?_map, ea]; rfl, ha⟩
  have put : ∀ (i : Nat) (H5 : Hp) (r : Rule), i < ts.length → rs[i]? = some r → Same H H5 → H5 L = some (.lst ((ts.take i).map lenV)) → ∃ l xs v, V.ref L = .ref l ∧ [V.int ((made (ts.take i) r).length : Int)] = [v] ∧ H5 l = some (.lst xs) ∧ xs.length < sizeLine ∧
      (Same H (upd H5 l (.lst (xs ++ [v]))) ∧ (upd H5 l (.lst (xs ++ [v]))) L = some (.lst ((ts.take (i + 1)).map lenV))) := by
    intro i H5 r hi er s5 hL
    refine ⟨L, _, _, rfl, rfl, hL, by rw [List.length_map, List.length_take]; exact small1000 (by omega), fun c o hc => ?_, ?_⟩
    · rw [upd_ne (ne_of_none hc nL)]
      exact s5 _ _ hc
    · rw [upd_same, take_succ_tx hi, List.map_append, ← snd.tx er]
      rfl
  have lens : ∀ i, ∀ l ∈ ts.take i, l.length ≤ 1000000000000 := fun i l hl => snd.le l (List.mem_of_mem_take hl)
  rcases hR with hR | hR
  · refine .inr ⟨_, rfl, R, _, rfl, SqT.of (sL _ _ hR), ?_⟩
    refine ⟨fun i m σ H' => i + m = ts.length ∧ (∃ v2 v3 v4 : Option V, σ = [some (.ref R), some (.ref L), v2, v3, v4]) ∧ Same H H' ∧ H' L = some (.lst ((ts.take i).map lenV)), ⟨ts.length, by omega, ⟨none, none, none, rfl⟩, sL, upd_same⟩, ?_⟩
    rintro i m σ H1 ⟨him, ⟨v2, v3, v4, rfl⟩, s1, hL⟩
    have hR1 := s1 _ _ hR
    by_cases hi : i < ts.length
    · obtain ⟨r, a, er, ea, ha⟩ := at_ i hi
      refine .inr ⟨⟨_, _, SqT.of hR1, ea⟩, fun σ' H' => (∃ v2 v3 v4 : Option V, σ' = [some (.ref R), some (.ref L), v2, v3, v4]) ∧ Same H H' ∧ H' L = some (.lst ((ts.take (i + 1)).map lenV)), fun σ' H' h => ⟨m - 1, by omega, by omega, h⟩, ?_⟩
      rintro x H' ⟨t, y, rfl, nt, rfl, hy⟩
      have ey : y = .ref a := Option.some.inj ((hy _ (SqT.of hR1)).symm.trans ea)
      subst ey
      have st := same_new (o := .tup [.int (i : Nat), .ref a]) nt
      refine ⟨t, _, rfl, SqT.of upd_same, rfl, _, _, rfl, _, _, rfl, rfl, ?_⟩
      have o := (snd.ok i r er).1
      have hbig : (made (ts.take i) r).length ≤ 1000000000000 := by rw [← snd.tx er]; exact snd.big hi
      refine ⟨_, rfl, _, rfl, a, L, ts.take i, r, rfl, ha.same (s1.trans st), st _ _ hL, o, lens i, hbig, by rw [List.length_take]; omega, fun H2 s2 => ?_⟩
      have s12 := (s1.trans st).trans s2
      have hL2 := s2 _ _ (st _ _ hL)
      refine ⟨_, rfl, rfl, _, rfl, ifF rfl ?_⟩
      refine ⟨_, rfl, .inl ⟨rfl, _, SqL.of hL2⟩, _, rfl, _, rfl, a, L, ts.take i, r, rfl, ha.same s12, hL2, o, lens i, ?_⟩
      obtain ⟨l, xs, v, e1, e2, e3, e4, e5, e6⟩ := put i H2 r hi er s12 hL2
      exact ⟨l, xs, v, e1, e2, e3, e4, ⟨_, _, _, rfl⟩, e5, e6⟩
    · refine .inl ⟨⟨_, SqT.of hR1, by rw [eal]; omega⟩, ?_⟩
      have ei : i = ts.length := by omega
      rw [ei, List.take_length] at hL
      exact ⟨_, rfl, L, _, rfl, .inl ⟨SqL.of hL, fun t nt => q t _ (s1.trans (same_new nt)) upd_same⟩⟩
  · refine .inl ⟨_, rfl, R, _, rfl, SqL.of (sL _ _ hR), ?_⟩
    refine ⟨fun i m σ H' => i + m = ts.length ∧ (∃ v2 v3 v4 : Option V, σ = [some (.ref R), some (.ref L), v2, v3, v4]) ∧ Same H H' ∧ H' L = some (.lst ((ts.take i).map lenV)), ⟨ts.length, by omega, ⟨none, none, none, rfl⟩, sL, upd_same⟩, ?_⟩
    rintro i m σ H1 ⟨him, ⟨v2, v3, v4, rfl⟩, s1, hL⟩
    have hR1 := s1 _ _ hR
    by_cases hi : i < ts.length
    · obtain ⟨r, a, er, ea, ha⟩ := at_ i hi
      refine .inr ⟨⟨_, _, SqL.of hR1, ea⟩, fun σ' H' => (∃ v2 v3 v4 : Option V, σ' = [some (.ref R), some (.ref L), v2, v3, v4]) ∧ Same H H' ∧ H' L = some (.lst ((ts.take (i + 1)).map lenV)), fun σ' H' h => ⟨m - 1, by omega, by omega, h⟩, ?_⟩
      rintro x H' ⟨t, y, rfl, nt, rfl, hy⟩
      have ey : y = .ref a := Option.some.inj ((hy _ (SqL.of hR1)).symm.trans ea)
      subst ey
      have st := same_new (o := .tup [.int (i : Nat), .ref a]) nt
      refine ⟨t, _, rfl, SqT.of upd_same, rfl, _, _, rfl, _, _, rfl, rfl, ?_⟩
      have o := (snd.ok i r er).1
      have hbig : (made (ts.take i) r).length ≤ 1000000000000 := by rw [← snd.tx er]; exact snd.big hi
      refine ⟨_, rfl, _, rfl, a, L, ts.take i, r, rfl, ha.same (s1.trans st), st _ _ hL, o, lens i, hbig, by rw [List.length_take]; omega, fun H2 s2 => ?_⟩
      have s12 := (s1.trans st).trans s2
      have hL2 := s2 _ _ (st _ _ hL)
      refine ⟨_, rfl, rfl, _, rfl, ifF rfl ?_⟩
      refine ⟨_, rfl, .inl ⟨rfl, _, SqL.of hL2⟩, _, rfl, _, rfl, a, L, ts.take i, r, rfl, ha.same s12, hL2, o, lens i, ?_⟩
      obtain ⟨l, xs, v, e1, e2, e3, e4, e5, e6⟩ := put i H2 r hi er s12 hL2
      exact ⟨l, xs, v, e1, e2, e3, e4, ⟨_, _, _, rfl⟩, e5, e6⟩
    · refine .inl ⟨⟨_, SqL.of hR1, by rw [eal]; omega⟩, ?_⟩
      have ei : i = ts.length := by omega
      rw [ei, List.take_length] at hL
      exact ⟨_, rfl, L, _, rfl, .inl ⟨SqL.of hL, fun t nt => q t _ (s1.trans (same_new nt)) upd_same⟩⟩
/-! ### Text.__init__ -/
theorem f_ge : ¬ (("lengths" : Str) = "length") := by decide +kernel
theorem f_rg : ¬ (("rules" : Str) = "length") := by decide +kernel
theorem f_re : ¬ (("rules" : Str) = "lengths") := by decide +kernel
theorem f_eg : ¬ (("length" : Str) = "lengths") := by decide +kernel
theorem f_gr : ¬ (("length" : Str) = "rules") := by decide +kernel
theorem f_er : ¬ (("lengths" : Str) = "rules") := by decide +kernel
theorem last_len {ts : List (List Nat)} (h : 1 ≤ ts.length) : atI (ts.map lenV) (-1) = some (.int ((tx ts (ts.length - 1)).length : Int)) := by
  have e : ts = ts.take (ts.length - 1) ++ [tx ts (ts.length - 1)] := by
    rw [← take_succ_tx (by omega), Nat.sub_add_cancel h, List.take_length]
  have e2 : ts.map lenV = (ts.take (ts.length - 1)).map lenV ++ [lenV (tx ts (ts.length - 1))] := by
    rw [← List.map_singleton, ← List.map_append, ← e]
  rw [e2]
  exact atI_last _ _
def tF (LE RU : Addr) (n : Int) : List (Str × V) := putF "rules" (.ref RU) (putF "length" (.int n) (putF "lengths" (.ref LE) []))
def spInit (C : Addr) : Sp := fun vs H Q _ => ∃ (x dx R : Addr) (as : List Addr) (rs : List Rule) (ts : List (List Nat)), vs = [.ref x, .ref R] ∧ H x = some (.ins C dx []) ∧ RA H R (as.map V.ref) ∧ RL H as (rs.map Rule.vals) ∧ Sound rs ts ∧ 1 ≤ rs.length ∧ rs.length ≤ 60 ∧
  ∀ (LE RU : Addr) (as' : List Addr) (H' : Hp), (∀ b o, b ≠ x → H b = some o → H' b = some o) → H' x = some (.ins C dx (tF LE RU ((tx ts (ts.length - 1)).length : Int))) → H' RU = some (.tup (as'.map V.ref)) → H' LE = some (.tup (ts.map lenV)) → LT H' as' (rs.map Rule.vals) → Q .non H'
theorem scIn : FnScope ["self", "rules"] ["self", "rules"] (defScope sInit) := ⟨rfl, rfl, rfl, by decide +kernel, rfl, by decide +kernel, by decide +kernel⟩
theorem ok_init {C f : Addr} {fd : FuncData} (F : Fun K "__init__" "Text.__init__" sInit f fd) (T : Txt mg) (D : Cl K C) (GLc : Cal P w K mg base 3 "lengths_checked" spLengthsC []) (GCo : Cal P w K mg base 1 "copied" spCopied []) : FnOk P w K mg base CX0 4 f fd ["self", "rules"] (spInit C) := by
  refine F.ok scIn (fun vs H Q E h => ?_) (fun cdv A outer s H vs Q E hr h => ?_)
  · obtain ⟨x, dx, R, as, rs, ts, rfl, _⟩ := h
    rfl
  obtain ⟨x, dx, R, as, rs, ts, rfl, hx, hR, hT, snd, h1, h60, q⟩ := h
  refine ⟨_, (pss_cons (ps_fld (pv 0) (pe_c GLc hr (by decide) (by rfl) (pa_cons (pv 1) pa_nil)) rfl)
    (pss_cons (ps_fld (pv 0) (pe_ix ix_tup (pe_fld (pv 0) rfl) (pe_un un_neg pe_int) (fun _ _ => rfl)) rfl)
    (pss_one (ps_fld (pv 0) (pe_c GCo hr (by decide) (by rfl) (pa_cons (pv 1) pa_nil)) rfl)))), ?_⟩
  have h1' : 1 ≤ ts.length := by rw [snd.len]; exact h1
  refine ⟨_, rfl, R, as, rs, ts, rfl, hR, hT, snd, h1, h60, fun LE H1 s1 hLE => ?_⟩
  refine ⟨_, rfl, x, C, dx, [], rfl, s1 _ _ hx, D.cl, D.nE, (by show 0 < 1000; decide), ?_⟩
  have hLEx : LE ≠ x := ne_of hLE (s1 _ _ hx) (by intro z; cases z)
  refine ⟨_, rfl, x, C, dx, _, .ref LE, rfl, upd_same, D.cl, D.nE, by rw [lookup_putF, if_pos rfl], 1, rfl, LE, _, -1, _, rfl, rfl, SqT.of (by rw [upd_ne hLEx]; exact hLE), last_len h1', ?_⟩
  refine ⟨_, rfl, x, C, dx, _, rfl, upd_same, D.cl, D.nN, (by show 1 < 1000; decide), ?_⟩
  -- copied
  have hRx : R ≠ x := by
    rcases hR with h | h
    · exact ne_of h hx (by intro z; cases z)
    · exact ne_of h hx (by intro z; cases z)
  rw [upd_upd]
  generalize hfs : putF ("length" : Str) (V.int ((tx ts (ts.length - 1)).length : Int)) (putF "lengths" (.ref LE) []) = fs2
  have keep : ∀ b o, b ≠ x → H b = some o → (upd H1 x (.ins C dx fs2)) b = some o := fun b o hb e => by rw [upd_ne hb]; exact s1 _ _ e
  have hR2 : RA (upd H1 x (.ins C dx fs2)) R (as.map V.ref) := hR.elim (fun h => .inl (keep _ _ hRx h)) fun h => .inr (keep _ _ hRx h)
  have hT2 : RL (upd H1 x (.ins C dx fs2)) as (rs.map Rule.vals) := ⟨hT.1, fun k vs e => by
    obtain ⟨a, e1, e2⟩ := hT.2 k vs e
    refine ⟨a, e1, ?_⟩
    rcases e2 with h | h
    · exact .inl (keep _ _ (ne_of h hx (by intro z; cases z)) h)
    · exact .inr (keep _ _ (ne_of h hx (by intro z; cases z)) h)⟩
  refine ⟨_, rfl, R, as, rs.map Rule.vals, rfl, hR2, hT2.1, hT2.2, by rw [List.length_map]; omega, fun RU as' H3 s3 hRU hL3 => ?_⟩
  have hx3 := s3 _ _ (upd_same : (upd H1 x (.ins C dx fs2)) x = some (.ins C dx fs2))
  have hLE3 := s3 LE _ (by rw [upd_ne hLEx]; exact hLE)
  have hRUx : RU ≠ x := ne_of hRU hx3 (by intro z; cases z)
  refine ⟨_, rfl, x, C, dx, _, rfl, hx3, D.cl, D.nR, (by rw [← hfs]; show 2 < 1000; decide), ?_⟩
  refine q LE RU as' _ (fun b o hb e => by rw [upd_ne hb]; exact s3 _ _ (keep b o hb e)) ?_ (by rw [upd_ne hRUx]; exact hRU) (by rw [upd_ne hLEx]; exact hLE3) ?_
  · rw [upd_same, ← hfs]
    rfl
  · exact ⟨hL3.1, fun k vs e => by
      obtain ⟨a, e1, e2⟩ := hL3.2 k vs e
      exact ⟨a, e1, by rw [upd_ne (ne_of e2 hx3 (by intro z; cases z))]; exact e2⟩⟩
theorem tF_rules (LE RU : Addr) (n : Int) : (tF LE RU n).lookup ("rules" : Str) = some (.ref RU) := by
  unfold tF
  rw [lookup_putF, if_pos rfl]
theorem tF_length (LE RU : Addr) (n : Int) : (tF LE RU n).lookup ("length" : Str) = some (.int n) := by
  unfold tF
  rw [lookup_putF, if_neg f_gr, lookup_putF, if_pos rfl]
theorem tF_lengths (LE RU : Addr) (n : Int) : (tF LE RU n).lookup ("lengths" : Str) = some (.ref LE) := by
  unfold tF
  rw [lookup_putF, if_neg f_er, lookup_putF, if_neg f_ge, lookup_putF, if_pos rfl]
theorem tF_none (LE RU : Addr) (n : Int) {m : Str} (h1 : ¬ m = "rules") (h2 : ¬ m = "length") (h3 : ¬ m = "lengths") : (tF LE RU n).lookup m = none := by
  unfold tF
  rw [lookup_putF, if_neg h1, lookup_putF, if_neg h2, lookup_putF, if_neg h3]
  rfl
/-- what __init__ leaves is the text -/
theorem tF_text {C x dx LE RU : Addr} {as : List Addr} {rs : List Rule} {ts : List (List Nat)} {H : Hp} (hx : H x = some (.ins C dx (tF LE RU ((tx ts (ts.length - 1)).length : Int)))) (hRU : H RU = some (.tup (as.map V.ref))) (hLE : H LE = some (.tup (ts.map lenV)))
    (hT : LT H as (rs.map Rule.vals)) (s : Sound rs ts) : TextIs C H x rs ts dx RU LE (tF LE RU ((tx ts (ts.length - 1)).length : Int)) as :=
  ⟨hx, tF_rules _ _ _, tF_lengths _ _ _, tF_length _ _ _, tF_none _ _ _ (by decide +kernel) (by decide +kernel) (by decide +kernel), tF_none _ _ _ (by decide +kernel) (by decide +kernel) (by decide +kernel), hRU, hLE, hT, s⟩
end
/-! ### range with a step -/
def upN (a b c : Int) : Nat := if a < b then ((b - a - 1) / c + 1).toNat else 0
theorem rg_up {a b c : Int} (h0 : 0 ≤ a) (hb : 0 ≤ b) (ha' : a < 2 ^ 62) (hb' : b < 2 ^ 62) (hc : 0 < c) (hc' : c < 1073741824) : RgC a b c (upN a b c) := by
  have e : Builtin.Range.rangeSize a b c = ((upN a b c : Nat) : Int) := by
    unfold Builtin.Range.rangeSize upN
    rw [if_pos hc]
    split
    · have h1 : 0 ≤ (b - a - 1) / c := Int.ediv_nonneg (by omega) (by omega)
      omega
    · rfl
  have hn : ((upN a b c : Nat) : Int) ≤ 2 ^ 62 := by
    unfold upN
    split
    · have h1 : 0 ≤ (b - a - 1) / c := Int.ediv_nonneg (by omega) (by omega)
      have h2 : (b - a - 1) / c ≤ b - a - 1 := Int.ediv_le_self _ (by omega)
      omega
    · decide
  refine ⟨by omega, by omega, ?_, e⟩
  unfold Builtin.Range.small
  rw [e]
  simp only [Builtin.Range.rangeFitsLong, Bool.and_eq_true, Bool.or_eq_true, decide_eq_true_eq, beq_iff_eq]
  rw [if_pos hc]
  simp only [decide_eq_true_eq, Bool.and_eq_true]
  refine ⟨⟨⟨⟨?_, ?_⟩, ?_⟩, ?_⟩, .inr ?_⟩ <;> omega
theorem up_lt {b c : Int} {i : Nat} (hc : 0 < c) (hi : i < upN 0 b c) : (0 : Int) + (i : Int) * c < b := by
  unfold upN at hi
  split at hi
  · have h1 : (i : Int) ≤ (b - 0 - 1) / c := by omega
    have h2 : (i : Int) * c ≤ (b - 0 - 1) / c * c := Int.mul_le_mul_of_nonneg_right h1 (Int.le_of_lt hc)
    have h3 : (b - 0 - 1) / c * c ≤ b - 0 - 1 := Int.ediv_mul_le _ (by omega)
    omega
  · omega
/-! ### cls(..), the class in a slot -/
def tMakeL (i : Nat) (C : Addr) (sp : Sp) (E : XK) (t : TA) : TE := fun σ H Q => σ[i]? = some (some (.ref C)) ∧ t σ H fun vs H1 => ∀ x dx, H1 x = none → H1 dx = none → dx ≠ x → sp (.ref x :: vs) (upd (upd H1 dx (.own x)) x (.ins C dx [])) (fun v H2 => v = .non ∧ Q (.ref x) H2) E
theorem pe_makeL {X : Cx} {CX : CXT} {k i : Nat} {f C : Addr} {fd : FuncData} {ps : List Str} {sp : Sp} {E : XK} {x : Str} {p pos : Pos} {e : Expr} {es : List Expr} {t : TA} (M : Mk X.K C f) (F : FnOk X.prog X.w X.K X.mg X.base CX k f fd ps sp) (hr : Room (k + 1) X.A) (hN : X.N[i]? = some x) (hv : Vis X.env.scope x)
    (hb : Binds X.K fd ps []) (hx : Passes CX X E) (ha : PA X (e :: es) t) (hdb : (x == ("__debug__" : Str)) = false := by decide) (hcd : (x == ("__classdict__" : Str)) = false := by decide)
    (he : starEach (e :: es) X.env = (false, eval e X.env) :: starEach es X.env := by rfl) (hpl : (backTo pos (starEach es X.env)).any (·.1) = false := by rfl) : PE X (.Call (.Name x p) (e :: es) [] pos) (tMakeL i C sp E t) where
  run := by
    rintro pins s σ H Q inv ⟨hs, ht⟩
    have ld := (pe_var (pos := p) hN hv hdb hcd).run pins s σ H (fun v H1 => v = .ref C ∧ H1 = H) inv ⟨_, hs, rfl, rfl⟩
    refine wpAny_Call_Name_kw (thn ld ?_)
    rintro u s1 ⟨_, _, inv1, rel, rfl, rfl⟩
    obtain rfl : u = .ref C := rel
    refine PySem.W.callWith_K (h₀ := X.base) inv1.ok.mod.kin M.kp (thn (ha.run pos pins s1 σ _ _ inv1 ht) ?_) he hpl
    rintro us s2 ⟨vs, H2, inv2, rv, q⟩
    refine ⟨inv2.kIn, run_make (dvs := []) M F hr hb .nil hx inv2 rv fun y dy ny ndy ne => ?_⟩
    rw [List.append_nil]
    exact q y dy ny ndy ne
theorem tF_eq (LE RU : Addr) (n : Int) : tF LE RU n = ([(("lengths" : Str), V.ref LE), (("length" : Str), V.int n), (("rules" : Str), V.ref RU)] : List (Str × V)) := by
  unfold tF
  have e1 : putF ("length" : Str) (V.int n) (putF "lengths" (.ref LE) []) = ([(("lengths" : Str), V.ref LE), (("length" : Str), V.int n)] : List (Str × V)) := by
    show (if ("lengths" : Str) = "length" then _ else (("lengths" : Str), V.ref LE) :: putF "length" (V.int n) []) = _
    rw [if_neg f_ge]
    rfl
  rw [e1]
  show (if ("lengths" : Str) = "rules" then _ else (("lengths" : Str), V.ref LE) :: (if ("length" : Str) = "rules" then _ else (("length" : Str), V.int n) :: putF "rules" (V.ref RU) [])) = _
  rw [if_neg f_er, if_neg f_gr]
  rfl
theorem tF_putR (LE RU R2 : Addr) (n : Int) : putF "rules" (.ref R2) (tF LE RU n) = tF LE R2 n := by
  rw [tF_eq, tF_eq]
  show (if ("lengths" : Str) = "rules" then _ else (("lengths" : Str), V.ref LE) :: (if ("length" : Str) = "rules" then _ else (("length" : Str), V.int n) :: (if ("rules" : Str) = "rules" then [(("rules" : Str), V.ref R2)] else _))) = _
  rw [if_neg f_er, if_neg f_gr, if_pos rfl]
theorem tF_putE (LE L2' RU : Addr) (n : Int) : putF "lengths" (.ref L2') (tF LE RU n) = tF L2' RU n := by
  rw [tF_eq, tF_eq]
  show (if ("lengths" : Str) = "lengths" then (("lengths" : Str), V.ref L2') :: _ else _) = _
  rw [if_pos rfl]
theorem tF_putN (LE RU : Addr) (n n2 : Int) : putF "length" (.int n2) (tF LE RU n) = tF LE RU n2 := by
  rw [tF_eq, tF_eq]
  show (if ("lengths" : Str) = "length" then _ else (("lengths" : Str), V.ref LE) :: (if ("length" : Str) = "length" then (("length" : Str), V.int n2) :: _ else _)) = _
  rw [if_neg f_ge, if_pos rfl]
theorem tF_small (LE RU : Addr) (n : Int) : (tF LE RU n).length < 1000 := by rw [tF_eq]; show 3 < 1000; decide
theorem one_sound {l : List Nat} (h : l.length ≤ 64) (h2 : ∀ c ∈ l, c ∈ SL) : Sound [.letters l] [l] := by
  refine ⟨rfl, fun k r e => ?_, fun m hm => ?_⟩
  · cases k with
    | zero =>
      have er : Rule.letters l = r := Option.some.inj e
      subst er
      exact ⟨⟨h, h2⟩, rfl⟩
    | succ k => simp at e
  · rw [List.mem_singleton.mp hm]
    omega
section
variable {P : Program} {w : World} {K : PySem.W.Frag} {mg : Str → Option Value} {base : Heap}
/-! ### letter, letters -/
def spLetter (C : Addr) : Sp := fun vs H Q _ => ∃ (x : Addr) (rs : List Rule) (ts : List (List Nat)) (k : Nat), vs = [.ref x, .int (k : Int)] ∧ TextAt C H x rs ts ∧ 0 < ts.length ∧ k < (tx ts (ts.length - 1)).length ∧ ∀ H', Same H H' → Q (.str (S (sub (tx ts (ts.length - 1)) k (k + 1)))) H'
theorem scLe : FnScope ["self", "place"] ["self", "place"] (defScope sLetter) := ⟨rfl, rfl, rfl, by decide +kernel, rfl, by decide +kernel, by decide +kernel⟩
theorem ok_letter {C f : Addr} {fd : FuncData} (F : Fun K "letter" "Text.letter" sLetter f fd) (D : Cl K C) (GSp : Cal P w K mg base 4 "spelled" (spSpelled C) []) : FnOk P w K mg base CX0 5 f fd ["self", "place"] (spLetter C) := by
  refine F.ok scLe (fun vs H Q E h => ?_) (fun cdv A outer s H vs Q E hr h => ?_)
  · obtain ⟨x, rs, ts, k, rfl, _⟩ := h
    rfl
  obtain ⟨x, rs, ts, k, rfl, hX, h0, hk, q⟩ := h
  refine ⟨_, (pss_cons (ps_if (pt_not (pt_chain op_le op_lt pe_int (pv 1) (pe_fld (pv 0) rfl))) (pss_one ps_never) pss_nil)
    (pss_one (ps_ret (pe_c GSp hr (by decide) (by rfl) (pa_cons (pv 0) (pa_cons (pv 1) (pa_cons (pe_op op_add (pv 1) pe_int) pa_nil))))))), ?_⟩
  have hX' := hX
  obtain ⟨dx, RU, LE, fs, as, hI⟩ := hX'
  refine ⟨_, rfl, _, _, rfl, rfl, _, rfl, ifT (decide_eq_true (by omega)) ⟨_, rfl, x, C, dx, _, _, rfl, hI.at_, D.cl, D.nN, hI.fN, _, _, rfl, rfl, _, rfl, ifF ?_ ?_⟩⟩
  · rw [decide_eq_true (by omega)]
    rfl
  exact ⟨_, rfl, _, rfl, _, rfl, _, _, rfl, rfl, x, rs, ts, k, k + 1, rfl, hX, h0, by omega, by omega, by omega, q⟩
def spLetters (C : Addr) : Sp := fun vs H Q _ => ∃ (x : Addr) (rs : List Rule) (ts : List (List Nat)) (a b : Nat), vs = [.ref x, .int (a : Int), .int (b : Int)] ∧ TextAt C H x rs ts ∧ 0 < ts.length ∧ a ≤ b ∧ b ≤ (tx ts (ts.length - 1)).length ∧ b - a ≤ 1000 ∧
  ∀ H', Same H H' → Q (.str (S (sub (tx ts (ts.length - 1)) a b))) H'
theorem scLs : FnScope ["self", "start", "stop"] ["self", "start", "stop"] (defScope sLetters) := ⟨rfl, rfl, rfl, by decide +kernel, rfl, by decide +kernel, by decide +kernel⟩
theorem ok_letters {C f : Addr} {fd : FuncData} (F : Fun K "letters" "Text.letters" sLetters f fd) (T : Txt mg) (D : Cl K C) (GSp : Cal P w K mg base 4 "spelled" (spSpelled C) []) (GIp : Cal P w K mg base 1 "is_part" spIsPart []) : FnOk P w K mg base CX0 5 f fd ["self", "start", "stop"] (spLetters C) := by
  refine F.ok scLs (fun vs H Q E h => ?_) (fun cdv A outer s H vs Q E hr h => ?_)
  · obtain ⟨x, rs, ts, a, b, rfl, _⟩ := h
    rfl
  obtain ⟨x, rs, ts, a, b, rfl, hX, h0, hab, hb, h1000, q⟩ := h
  refine ⟨_, (pss_cons (ps_if (pt_not (pt_val (pe_c GIp hr (by decide) (by rfl) (pa_cons (pv 1) (pa_cons (pv 2) (pa_cons (pe_fld (pv 0) rfl) pa_nil)))))) (pss_one ps_never) pss_nil)
    (pss_cons (ps_if (pt_cmpR op_gt (pe_op op_sub (pv 2) (pv 1)) (C8.pe_gc (by rfl) T.MOST_SPELLED) (nomark _)) (pss_one ps_never) pss_nil)
    (pss_one (ps_ret (pe_c GSp hr (by decide) (by rfl) (pa_cons (pv 0) (pa_cons (pv 1) (pa_cons (pv 2) pa_nil)))))))), ?_⟩
  have hX' := hX
  obtain ⟨dx, RU, LE, fs, as, hI⟩ := hX'
  refine ⟨_, rfl, _, rfl, _, rfl, x, C, dx, _, _, rfl, hI.at_, D.cl, D.nN, hI.fN, _, _, _, rfl, _, rfl, ifF ?_ ?_⟩
  · rw [decide_eq_true (by omega)]
    rfl
  refine ⟨_, rfl, _, rfl, _, _, rfl, rfl, _, _, rfl, rfl, _, rfl, ifF (decide_eq_false (by omega)) ?_⟩
  exact ⟨_, rfl, _, rfl, _, rfl, x, rs, ts, a, b, rfl, hX, h0, hab, hb, h1000, q⟩
end
section
variable {C : Addr} {H H' : Hp} {x : Addr} {rs : List Rule} {ts : List (List Nat)}
theorem TextAt.snd (h : TextAt C H x rs ts) : Sound rs ts := by
  obtain ⟨_, _, _, _, _, h⟩ := h
  exact h.sound
theorem TextAt.frm {p c : Addr} (h : TextAt C H x rs ts) (P : Pool H p c) (f : Frm p H H') : TextAt C H' x rs ts := by
  obtain ⟨dx, RU, LE, fs, as, h⟩ := h
  obtain ⟨pos, left, seed, xs, hp⟩ := P
  have tup : ∀ {a : Addr} {vs : List V}, H a = some (.tup vs) → H' a = some (.tup vs) := fun e => f _ _ (ne_of e hp.at_ (by intro z; cases z)) e
  exact ⟨dx, RU, LE, fs, as, f _ _ (ne_of h.at_ hp.at_ (by intro z; cases z)) h.at_, h.fR, h.fE, h.fN, h.m1, h.m2, tup h.hR, tup h.hE, ⟨h.hA.1, fun k vs e => let ⟨a, e1, e2⟩ := h.hA.2 k vs e; ⟨a, e1, tup e2⟩⟩, h.sound⟩
theorem TextAt.updL {D : Addr} {ys : List V} {o : HO} (h : TextAt C H x rs ts) (hD : H D = some (.lst ys)) : TextAt C (upd H D o) x rs ts := by
  obtain ⟨dx, RU, LE, fs, as, h⟩ := h
  have tup : ∀ {a : Addr} {vs : List V}, H a = some (.tup vs) → (upd H D o) a = some (.tup vs) := fun e => by rw [upd_ne (ne_of e hD (by intro z; cases z))]; exact e
  exact ⟨dx, RU, LE, fs, as, by rw [upd_ne (ne_of h.at_ hD (by intro z; cases z))]; exact h.at_, h.fR, h.fE, h.fN, h.m1, h.m2, tup h.hR, tup h.hE, h.hA.updL hD, h.sound⟩
end
theorem Drawn.updL {H : Hp} {R T D : Addr} {as : List Addr} {rs : List Rule} {ts : List (List Nat)} {ys : List V} {o : HO} (d : Drawn H R T as rs ts) (hD : H D = some (.lst ys)) (h1 : R ≠ D) (h2 : T ≠ D) : Drawn (upd H D o) R T as rs ts :=
  ⟨by rw [upd_ne h1]; exact d.ra, by rw [upd_ne h2]; exact d.ta, d.la, fun k r h => by
    obtain ⟨a, e, g⟩ := d.el k r h
    exact ⟨a, e, by rw [upd_ne (ne_of g hD (by intro z; cases z))]; exact g⟩, d.good, d.ne⟩
theorem Drawn.lt {H : Hp} {R T : Addr} {as : List Addr} {rs : List Rule} {ts : List (List Nat)} (d : Drawn H R T as rs ts) : LT H as (rs.map Rule.vals) :=
  ⟨by rw [d.la, List.length_map], fun k vs e => by
    rw [List.getElem?_map] at e
    cases er : rs[k]? with
    | none => rw [er] at e; cases e
    | some r =>
      rw [er] at e
      have ev : r.vals = vs := Option.some.inj e
      subst ev
      exact d.el k r er⟩
theorem last_tx {ts : List (List Nat)} (h : 1 ≤ ts.length) : atI (ts.map tV) (-1) = some (.str (S (tx ts (ts.length - 1)))) := by
  have e : ts = ts.take (ts.length - 1) ++ [tx ts (ts.length - 1)] := by
    rw [← take_succ_tx (by omega), Nat.sub_add_cancel h, List.take_length]
  have e2 : ts.map tV = (ts.take (ts.length - 1)).map tV ++ [tV (tx ts (ts.length - 1))] := by
    rw [← List.map_singleton, ← List.map_append, ← e]
  rw [e2]
  exact atI_last _ _
theorem sub_one {l : List Nat} {k : Nat} (h : k < l.length) : sub l k (k + 1) = [l[k]] := by
  unfold sub
  rw [List.take_add_one, List.getElem?_eq_getElem h, List.drop_append_of_le_length (by rw [List.length_take]; omega), List.drop_eq_nil_of_le (by rw [List.length_take]; omega)]
  rfl
end K4
namespace SupX
open PySem PySem.Spec PyProof.Rows L2
section
variable {X : Cx} {pins : List (Addr × Obj)} {σ : L2.St} {H : Hp} {s : Shared} {x C f cc ca : Addr} {of : Obj} {e : Expr} {es : List Expr} {ta : TA} {body : List Stmt} {p0 p1 p2 p3 p4 : Pos}
/-- what the written part says of an own error's class and of the def of its __init__ -/
structure SupAt (P : Program) (K : PySem.W.Frag) (mg : Str → Option Value) (C f cc ca : Addr) (fd : FuncData) : Prop where
  ex : OexC K C
  fn : ∃ oc od sl, K.lookup f = some ⟨oc, od, .func fd, sl⟩
  head : ∃ ar : Arg, (fd.params.posonlyargs ++ fd.params.args).head? = some ar ∧ ar.arg = "self"
  code : ∃ c d vs sl file tf, K.lookup ca = some ⟨c, d, .fields vs, sl⟩ ∧ vs[2]? = some (.str file tf) ∧ ((P.main.file : Str) == file) = true
  cell : ∃ c d sl, K.lookup cc = some ⟨c, d, .cell (some (.ref C)), sl⟩
  own : PySem.W.mroIn K C (.ref C) = some true
  up : PySem.W.ks_superIn K C C "__init__" = some (some (.builtin "ValueError.__init__"))
  val : PySem.W.subIn K (.ref C) (.type "ValueError") = some true
  opq : PySem.W.nsIn K cStatics "thirdparty.any" = some none
  sup : mg "super" = none
  top : (P.main.scope.names.lookup ("super" : Str)).isSome = false
/-- the bound ValueError.__init__, called -/
theorem bound_ok {u : Addr} {us : List Value} {A : Around} {Q : Value → Shared → Prop} {E : Value → Shared → Prop} (T : OexC X.K C) (I : Inv X pins σ H s) (hx : H x = some (exo x C none)) (hu : s.heap.get? u = some (PySem.W.kxs_mw "ValueError.__init__" x)) (hl : us.length ≤ sizeLine) (h : ∀ s', Inv X pins σ H s' → Q .none s') :
    wpAny (model X.prog X.w) A (call (.ref u) us) Q E s := by
  obtain ⟨nm, q, N, bs, bm, sn, sub, ab, col, dd, k0, k1, k2, k3, k5, hC, hbm⟩ := T.cls
  obtain ⟨t1, ho⟩ := exo_at I.hok hx
  have hC' := I.kIn _ _ hC
  obtain ⟨hp, g, d, t, os⟩ := s
  refine wpAny_call (codeAny_of_tree ?_)
  show wpAny _ A.in1 (callAny (.ref u) ⟨us, []⟩) _ _ _
  simp only [callAny]
  refine wpAny_bind (wpAny_load hu ?_)
  simp only [PySem.W.kxs_mw]
  refine PySem.W.KFB.if_so (by decide) ?_
  refine wpAny_bind (PySem.W.check_bound_init F.excBase_ValueError.toExcCallFacts hC' ho rfl ?_)
  refine wpAny_bind (wpAny_pure (wpAny_pure ?_))
  refine ⟨plainId_quiet F.excBase_ValueError.init.plain _, codeAny_builtin F.excBase_ValueError.initEntry ?_⟩
  refine PySem.W.exc_init_tree (cls := .ref C) (t0 := t1) (dv := none) (c2 := .none) (c3 := .none) (b4 := .bool false) ho hl fun h' k hx' _ => ?_
  have J := I.write (t' := t) (x := x) (e := x) (o := exo x C none) (by rw [hx]; exact True.intro) (.inl rfl) k ⟨_, hx'⟩ (exo_ok hx')
  have eu : upd H x (exo x C none) = H := by
    funext b
    by_cases hb : b = x
    · rw [hb, upd_same, hx]
    · rw [upd_ne hb]
  rw [eu] at J
  exact h _ J
/-- super().__init__(e, ..) as a statement -/
theorem sup_run {pl : Sem Bool} {fd : FuncData} {R : L2.St → Hp → Prop} (Z : SupAt X.prog X.K X.mg C f cc ca fd) (hN : X.N[0]? = some ("self" : Str)) (hks : X.env.kindOf ("super" : Str) = some .globalImplicit) (hkc : X.env.kindOf ("__class__" : Str) = some .free) (hka : X.env.kindOf ("self" : Str) = some .local) (hfu : X.env.func = some f) (hco : X.env.code = .ref ca)
    (hcl : X.env.cells.lookup ("__class__" : Str) = some cc) (I : Inv X pins σ H s) (h0 : σ[0]? = some (some (.ref x))) (hx : H x = some (exo x C none)) (ha : PA X (e :: es) ta) (h : ta σ H fun vs H1 => vs.length ≤ 1000 ∧ H1 x = some (exo x C none) ∧ R σ H1)
    (hi : interactive X.env = false := by rfl) (hs : swapsWith (.Call (.Attribute (.Call (.Name "super" p0) [] [] p1) "__init__" p2) (e :: es) [] p3) none p4.line X.env = pure false := by rfl)
    (he : starEach (e :: es) X.env = (false, eval e X.env) :: starEach es X.env := by rfl) (hpl : (backTo p3 (starEach es X.env)).any (·.1) = false := by rfl)
    (heq : eval (.Call (.Attribute (.Call (.Name "super" p0) [] [] p1) "__init__" p2) (e :: es) [] p3) X.env = (do
      let ov ← attributeBase (.Call (.Name "super" p0) [] [] p1) "__init__" X.env (eval (.Call (.Name "super" p0) [] [] p1) X.env)
      standAt p2.atName
      let (f, first) ← holding [ov] (getMethod ov "__init__" pl)
      callWith p3 f first (backTo p3 (starEach (e :: es) X.env)) []) := by rfl) :
    _root_.PySem.wpAt (model X.prog X.w) X.A (.func body X.env) (exec (.Expr (.Call (.Attribute (.Call (.Name "super" p0) [] [] p1) "__init__" p2) (e :: es) [] p3) p4) X.env) (fun fl s' => fl = .next ∧ ∃ H', Inv X pins σ H' s' ∧ R σ H') X.xe s := by
  obtain ⟨oc, od, sl, hf⟩ := Z.fn
  obtain ⟨ar, hp, har⟩ := Z.head
  obtain ⟨cc1, cc2, vs, cc3, file, tf, hcode, hvs, hfile⟩ := Z.code
  obtain ⟨b1, b2, b3, hcell⟩ := Z.cell
  refine PySem.ks_wpAt_Expr_any ?_ hi hs
  refine PySem.ks_wpAt_MethodCall ?_ heq
  refine PySem.ks_wpAt_super_base hks hkc rfl hfu (I.kIn _ _ hf) rfl hp hco (I.kIn _ _ hcode) rfl hvs hfile Z.top ?_
  obtain ⟨mb, g1, g2⟩ := I.mod.blt
  refine PySem.W.ks_loadName_global I.ok.kind hks (PySem.Calls.loadGlobal_builtin (by rw [I.ok.glob]; exact I.mod.glob.keeps I.bk) Z.sup (by rw [I.ok.blt]; exact g1.keeps I.bk) ((g2 ("super" : Str) (by decide)).trans PyProof.Rows.Boot.«super») ⟨rfl, ?_⟩)
  refine wpAny_loadName_free I.ok.kind hkc hcl ⟨_, I.kIn _ _ hcell, rfl⟩ ?_
  obtain ⟨m, hns, hl⟩ := I.loc
  obtain ⟨u, ru, lk⟩ := hl 0 ("self" : Str) _ hN h0 (.inl hka)
  have hu : m ("self" : Str) = some (.ref x) := by
    obtain rfl : u = Value.ref x := ru
    rcases lk with ⟨_, lk⟩ | ⟨lk | lk, _⟩
    · exact lk
    · rw [hka] at lk; cases lk
    · rw [hka] at lk; cases lk
  rw [har]
  refine wpAny_loadName_local I.ok.kind hka hns hu ?_
  obtain ⟨nm, q, N, bs, bm, sn, sub, ab, col, dd, k0, k1, k2, k3, k5, hC, hbm⟩ := Z.ex.cls
  have hC' := I.kIn _ _ hC
  obtain ⟨t1, ho⟩ := exo_at I.hok hx
  have hcd : PySem.W.clsIn X.K C = some { name := nm, bases := bs, mro := .ref C :: bm, ns := N, qualname := q, hasDict := true, slotNames := sn, subclasses := sub, abstract := ab, collection := col, hasDel := false } := by
    unfold PySem.W.clsIn
    rw [hC] <;> rfl
  refine PySem.ks_wpAny_isType_cls hC' rfl ⟨rfl, ?_⟩
  obtain ⟨hp0, g, d, t, os⟩ := s
  refine PySem.ks_wpAny_call_super hC' rfl ho rfl (fun c => by intro z; cases z) (PySem.W.looks_mroIn I.kIn Z.own) fun h1 eso kp => ?_
  have I1 : Inv X pins σ H ⟨h1, g, d, t, os⟩ := I.kept (t' := t) kp
  have X1 := I1.kIn
  have A1 : PySem.W.InstAt h1 x _ C none := ⟨kp _ _ ho, rfl, rfl, trivial⟩
  have up := Z.up
  unfold PySem.W.ks_superIn at up
  rw [hcd] at up
  refine PySem.W.kxs_getMethod PySem.W.kxs_ValueError eso (PySem.W.looks_opaque X1 Z.opq) (l₀ := .ref C :: bm) ((PySem.W.looks_clsIn X1 hcd).andThen .now) rfl X1 up (A1.type.andThen (PySem.W.looks_subIn X1 Z.val)) (PySem.W.ks_ne X1 A1 hcd) (by decide) ?_
  have I2 : Inv X pins σ H ⟨h1.push (PySem.W.kxs_mw "ValueError.__init__" x), g, d, t + 1, os⟩ := I1.kept (t' := t + 1) fun b o e => Heap.get?_push_of_some _ e
  have I3 : Inv X (pins ++ [(h1.objs.size, PySem.W.kxs_mw "ValueError.__init__" x)]) σ H ⟨h1.push (PySem.W.kxs_mw "ValueError.__init__" x), g, d, t + 1, os⟩ := I2.pins_of fun p hp => by
    rcases List.mem_append.mp hp with z | z
    · exact I2.pin p (List.mem_append_right _ z)
    · obtain rfl := List.mem_singleton.mp z
      exact ⟨Heap.get?_push_at rfl rfl, I1.hok.fresh (Nat.le_refl _), (Nat.ne_of_lt I1.lt).symm, I1.nofs (Nat.le_refl _), fun v z => by cases z⟩
  show wpAny _ _ (callWith p3 (.ref h1.objs.size) [] (backTo p3 (starEach (e :: es) X.env)) []) _ _ _
  rw [he]
  refine PySem.W.kxs_callWith (i := "ValueError.__init__") (x := x) (by show (false || (backTo p3 (starEach es X.env)).any (·.1)) = false; rw [hpl]; rfl) (PySem.Calls.evalArgs_plain ?_)
  have run := ha.run p3 _ _ σ H _ I3 h
  rw [he] at run
  refine thn run fun us s1 ⟨vs', H1, I4, rv, hlen, hx1, q⟩ => ?_
  have hu4 := (I4.pin (h1.objs.size, PySem.W.kxs_mw "ValueError.__init__" x) (List.mem_append_right _ (List.mem_append_right _ (List.mem_singleton.mpr rfl)))).1
  have I5 : Inv X pins σ H1 s1 := I4.pins_of fun p hp => I4.pin p (List.mem_append_right _ (List.mem_append_left _ hp))
  exact ⟨hu4, bound_ok Z.ex I5 hx1 hu4 (by show us.length ≤ sizeLine; rw [← Paired.length rv, sizeLine_eq]; omega) fun s' J => ⟨rfl, H1, J, q⟩⟩
end
section
open NdefX
variable {CX : CXT} {P : Program} {w : World} {K : PySem.W.Frag} {mg : Str → Option Value} {base : Heap} {k : Nat} {C f cc ca : Addr} {NN ps : List Str} {sp : Sp} {p0 p1 p2 p3 p4 : Pos} {e : Expr} {es : List Expr} {rest : List Stmt}
/-- an own error's __init__(self, ..): super().__init__(e, ..), then rest -/
theorem fn_sup {name qual : Str} {params : Arguments} {scope : Scope} {dV kV doc pm ct : Value} {an : Option Addr} {pl : Env → Sem Bool}
    (Z : SupAt P K mg C f cc ca (PySem.W.fnX name qual params (.Expr (.Call (.Attribute (.Call (.Name "super" p0) [] [] p1) "__init__" p2) (e :: es) [] p3) p4 :: rest) scope [("__class__", cc)] dV kV doc pm an (.ref ca) ct)) (hcd : PySem.W.codeIn K (.ref ca) qual = true)
    (S : NScope NN ("self" :: ps) ["__class__"] scope) (hks : scope.names.lookup ("super" : Str) = some .globalImplicit) (len : ∀ vs H Q E, sp vs H Q E → vs.length = ps.length + 1)
    (hh : ∀ env : Env, (starEach (e :: es) env = (false, eval e env) :: starEach es env) ∧ (backTo p3 (starEach es env)).any (·.1) = false ∧ swapsWith (.Call (.Attribute (.Call (.Name "super" p0) [] [] p1) "__init__" p2) (e :: es) [] p3) none p4.line env = pure false ∧
      eval (.Call (.Attribute (.Call (.Name "super" p0) [] [] p1) "__init__" p2) (e :: es) [] p3) env = (do
        let ov ← attributeBase (.Call (.Name "super" p0) [] [] p1) "__init__" env (eval (.Call (.Name "super" p0) [] [] p1) env)
        standAt p2.atName
        let (f, first) ← holding [ov] (getMethod ov "__init__" (pl env))
        callWith p3 f first (backTo p3 (starEach (e :: es) env)) []))
    (hbody : ∀ (X : Cx) (H : Hp) (x : Addr) (vs : List V) (Q : VK) (E : XK), X.K = K → X.mg = mg → X.prog = P → X.N = NN → X.env.scope = scope → sp (.ref x :: vs) H Q E →
      H x = some (exo x C none) ∧ ∃ ta tb, PA X (e :: es) ta ∧ PSs X rest tb ∧ ta (startF NN (.ref x :: vs) [some (.ref C)]) H fun us H1 => us.length ≤ 1000 ∧ H1 x = some (exo x C none) ∧ tb { nx := fun _ H' => Q .non H', rt := Q } (startF NN (.ref x :: vs) [some (.ref C)]) H1)
    (hself : ∀ vs H Q E, sp vs H Q E → ∃ x us, vs = .ref x :: us) :
    FnOk P w K mg base CX (k + 1) f (PySem.W.fnX name qual params (.Expr (.Call (.Attribute (.Call (.Name "super" p0) [] [] p1) "__init__" p2) (e :: es) [] p3) p4 :: rest) scope [("__class__", cc)] dV kV doc pm an (.ref ca) ct) ("self" :: ps) sp := by
  refine ⟨len, fun A outer s H args us vs Q E hr e0 hb r hsp => ?_⟩
  have hl : vs.length = ("self" :: ps : List Str).length := len _ _ _ _ hsp
  have KX : K.In s.heap := e0.mod.kin.keeps fun b o e => (e0.bs b o e).1
  have lim : s.heap.NoLimit := e0.mod.nolimit.keeps fun b o e => (e0.bs b o e).1
  obtain ⟨oc, od, sl, hf⟩ := Z.fn
  obtain ⟨x, vs, rfl⟩ := hself _ _ _ _ hsp
  obtain ⟨b1, b2, b3, hcell⟩ := Z.cell
  refine PySem.ks_codeAny_call_defAt (binds := (("self" : Str) :: ps).zip us) hr.depth (KX _ _ hf) rfl lim (PySem.W.codeRec_of KX hcd) rfl hb (fun y hy => S.nocell y hy) (fun y hy => S.par _ (List.of_mem_zip hy).1) (fun h₁ hns hk => ?_) S.co S.gen S.kind
  have cells : CellsAt [(("__class__" : Str), cc)] ["__class__"] [some (V.ref C)] s.heap H := by
    have q := e0.bs _ _ (e0.mod.kin _ _ hcell)
    have only : ∀ (y : Str) (c : Addr), List.lookup y [(("__class__" : Str), cc)] = some c → y = "__class__" ∧ c = cc := fun y c z => by
      by_cases hy : y = "__class__"
      · subst hy
        exact ⟨rfl, (Option.some.inj (by simpa [List.lookup] using z)).symm⟩
      · have : (y == ("__class__" : Str)) = false := by simpa using hy
        simp [List.lookup, this] at z
    refine ⟨rfl, fun y c z => ?_, fun y z c h1 h2 => (only y c h1).1.trans (only z c h2).1.symm, fun i y z => ?_⟩
    · rw [(only y c z).2]
      exact ⟨q.2, _, _, q.1, rfl⟩
    · cases i with
      | zero =>
        obtain rfl : ("__class__" : Str) = y := Option.some.inj z
        exact ⟨cc, by simp [List.lookup], fun v hv => by
          obtain rfl : V.ref C = v := Option.some.inj (Option.some.inj hv)
          exact ⟨.ref C, rfl, _, q.1, rfl⟩⟩
      | succ i => simp at z
  have I := inv_startN (CX := CX) (E := E) (F := ⟨name, qual, params, .Expr (.Call (.Attribute (.Call (.Name "super" p0) [] [] p1) "__init__" p2) (e :: es) [] p3) p4 :: rest, scope, [("__class__", cc)], ca⟩) (f := f) (tk := s.toks + ((("self" : Str) :: ps).zip us).length) S hr.hd e0 hl r cells hns hk
  generalize hX : ncx CX P w K mg base NN ⟨name, qual, params, .Expr (.Call (.Attribute (.Call (.Name "super" p0) [] [] p1) "__init__" p2) (e :: es) [] p3) p4 :: rest, scope, [("__class__", cc)], ca⟩ f A outer s H E = X at I
  have xP : X.prog = P := by rw [← hX]; rfl
  have xw : X.w = w := by rw [← hX]; rfl
  have xK : X.K = K := by rw [← hX]; rfl
  have xm : X.mg = mg := by rw [← hX]; rfl
  have xN : X.N = NN := by rw [← hX]; rfl
  have xS : X.env.scope = scope := by rw [← hX]; rfl
  obtain ⟨hx, ta, tb, ha, hb2, h⟩ := hbody X H x vs Q E xK xm xP xN xS hsp
  obtain ⟨q1, q2, q3, q4⟩ := hh X.env
  have n0 : X.N[0]? = some ("self" : Str) := by
    rw [xN]
    have z := S.pre
    have z0 : (NN.take ((("self" : Str) :: ps).length + [("__class__" : Str)].length))[0]? = some ("self" : Str) := by rw [z]; rfl
    rwa [List.getElem?_take_of_lt (by show 0 < _; simp)] at z0
  have hin : interactive X.env = false := by
    unfold interactive
    rw [xS, S.kind]
    rfl
  have run := sup_run (body := .Expr (.Call (.Attribute (.Call (.Name "super" p0) [] [] p1) "__init__" p2) (e :: es) [] p3) p4 :: rest) (R := fun σ H1 => tb { nx := fun _ H' => Q .non H', rt := Q } σ H1) (by rw [xP, xK, xm]; exact Z) n0 (by show X.env.scope.names.lookup _ = _; rw [xS]; exact hks) (by show X.env.scope.names.lookup _ = _; rw [xS]; exact S.frk _ (List.mem_singleton.mpr rfl)) (by show X.env.scope.names.lookup _ = _; rw [xS]; exact S.par _ (List.mem_cons_self)) (by rw [← hX]; rfl) (by rw [← hX]; rfl) (by rw [← hX]; rfl) I rfl hx ha h hin q3 q1 q2 q4
  have key : _root_.PySem.wpAt (model P w) X.A (.func (.Expr (.Call (.Attribute (.Call (.Name "super" p0) [] [] p1) "__init__" p2) (e :: es) [] p3) p4 :: rest) X.env) (execs (.Expr (.Call (.Attribute (.Call (.Name "super" p0) [] [] p1) "__init__" p2) (e :: es) [] p3) p4 :: rest) X.env)
      (fun fl s' => CR CX outer P w H s Q E (.ok (.ret (match fl with | .ret v => v | _ => .none))) s') X.xe { s with heap := h₁, toks := s.toks + ((("self" : Str) :: ps).zip us).length } := by
    rw [xP, xw] at run
    refine PySem.ks_wpAt_execs_cons (PySem.ks_wpAt_mono run (fun fl s' hq => ?_) fun _ _ z => z)
    obtain ⟨rfl, H', J, q⟩ := hq
    have r2 := hb2.run [] s' _ H' _ J q
    rw [xP, xw] at r2
    refine wpAt_of_wpAny (wpAny_mono r2 (fun fl s' hs => ?_) fun _ _ z => z)
    have fin : ∀ {σ' : L2.St} {H' : Hp} {v : V} {u : Value}, Inv X [] σ' H' s' → RelV v u → Q v H' → CE outer P w H s Q u s' :=
      fun {σ' H' v u} J rv q => by
        subst hX
        exact ⟨v, H', J.os, J.bare, J.base, J.hok, rv, q⟩
    cases fl with
    | ret u =>
      obtain ⟨v, σ', H', J, rv, q⟩ := hs
      exact fin J rv q
    | next =>
      obtain ⟨σ', H', J, q⟩ := hs
      exact fin (v := V.non) (u := Value.none) J rfl q
    | brk =>
      obtain ⟨_, _, _, q⟩ := hs
      exact False.elim q
    | cont =>
      obtain ⟨_, _, _, q⟩ := hs
      exact False.elim q
  subst hX
  exact key
end
/-- isinstance(e, c), e the error that the suite holds, of the own class at D with its dict -/
def rIsX (K : PySem.W.Frag) (D a : Addr) (cls : Value) (d : Option Addr) : List V → Hp → VK → Prop := fun xs H Q => ∃ (c : V) (cv : Value) (b : Bool) (dd : Addr) (fs : List (Str × V)), xs = [.ref a, c] ∧ cls = .ref D ∧ d = some dd ∧ H dd = some (.xd fs) ∧ (∀ u, RelV c u → u = cv) ∧ PySem.W.kitOne K (.ref D) cv = some b ∧ Q (.bl b) H
theorem call_isX {X : Cx} {a D : Addr} {oe : Obj} {cls : Value} {d : Option Addr} {pn : List (Addr × Obj)} (C : ExcC X.K D) (hz : Zc cls d oe) (hf : ∃ vs, oe.data = .fields vs) : CallR (X.suite a ((a, oe) :: pn)) (.builtin "isinstance") (rIsX X.K D a cls d) := by
  intro pins s σ H xs us Q I r h
  obtain ⟨c, cv, b, dd, fs, rfl, rfl, rfl, hd, hcv, e, q⟩ := h
  obtain ⟨u1, u2, rfl, r1, r2⟩ := vals2 r
  obtain rfl : u1 = Value.ref a := r1
  obtain rfl := hcv _ r2
  have hget := (I.pin (a, oe) (List.mem_append.mpr (.inl List.mem_cons_self))).1
  obtain ⟨mA, hns, _⟩ := (show ObjOk X.prog X.w H s.heap dd (.xd fs) from I.hok dd _ hd)
  obtain ⟨od, ho, _⟩ := lookIn_ns hns
  obtain ⟨vs, hv⟩ := hf
  have J : PySem.W.InstAt s.heap a oe D (some od) := ⟨hget, hz.1, by unfold PySem.W.notCls; rw [hv] <;> rfl, by rw [hz.2]; exact ho⟩
  have hcl : (PySem.W.clsIn X.K D).isSome = true := by
    have z := C.hd
    unfold PySem.W.hasDictIn at z
    cases hc : PySem.W.clsIn X.K D with
    | none => rw [hc] at z; cases z
    | some _ => rfl
  exact PySem.W.kia_one (PySem.W.kitx_exc hcl C.hg C.hk C.hs C.ha C.hn C.ht C.hm) I.kIn J e (fun z => nomatch z) fun tk => ⟨.bl b, H, I.kept (t' := tk) fun _ _ z => z, rfl, q⟩
section
variable {X : Cx} {CX : CXT} {k : Nat} {f C : Addr} {fd : FuncData} {ps : List Str} {sp : Sp} {E : L2.St → XK} {m : Str} {pos apos : Pos} {e o : Expr} {es : List Expr} {ta : TE} {t : TA}
/-- o.m(e, ..), what it raises wished for at the caller's slots -/
def tMethS (C : Addr) (m : Str) (sp : Sp) (E : L2.St → XK) (to : TE) (ta : TA) : TE := fun σ H Q => to σ H fun x H1 => ∃ a dx fs, x = .ref a ∧ H1 a = some (.ins C dx fs) ∧ fs.lookup m = none ∧ ta σ H1 fun vs H2 => sp (.ref a :: vs) H2 Q (E σ)
theorem pe_methS {pl : Sem Bool} (he : PE X o ta) (c : Cls X.K C) (hm : Meth X.K C m f) (F : FnOk X.prog X.w X.K X.mg X.base CX k f fd ps sp) (hr : Room k X.A) (hb : Binds X.K fd ps []) (hx : ∀ σ, PassesAt CX X σ (E σ)) (ha : PA X (e :: es) t)
    (hst : starEach (e :: es) X.env = (false, eval e X.env) :: starEach es X.env := by rfl) (hpl : (backTo pos (starEach es X.env)).any (·.1) = false := by rfl)
    (ht : eval (.Call (.Attribute o m apos) (e :: es) [] pos) X.env = (do
      let ov ← eval o X.env
      standAt apos.atName
      let (f, first) ← holding [ov] (getMethod ov m pl)
      callWith pos f first (backTo pos (starEach (e :: es) X.env)) (backToKw pos (keywordEach [] X.env))) := by rfl) :
    PE X (.Call (.Attribute o m apos) (e :: es) [] pos) (tMethS C m sp E ta t) := by
  refine ⟨fun pins s σ H Q I h => ?_⟩
  refine PySem.W.methodCall_KW (pl := pl) (thn (he.run pins s σ H _ I h) fun u s1 hu => ?_) ht
  obtain ⟨x, H1, I1, rx, a, dx, fs, ex, ea, l, q⟩ := hu
  subst ex
  obtain rfl : u = Value.ref a := rx
  refine getmeth_ok I1 ea c hm l ?_
  refine PySem.W.callWith_K (first := [.ref a]) (h₀ := X.base) I.ok.mod.kin hm.kp (thn (ha.run pos pins s1 σ H1 _ I1 q) fun us s2 hv => ?_) hst hpl
  obtain ⟨vs, H2, I2, r, q2⟩ := hv
  exact ⟨I2.kIn, run_fnS (us := .ref a :: us) (vs := .ref a :: vs) F hr hb (hx σ) I2 (.cons rfl r) q2⟩
end
end SupX
namespace K4
open PySem PySem.Spec PyProof.Rows L2 SX SupX
open C8 (Cal pe_c pss_cut)
/-- what an own error's __init__ leaves: its dict d, new, with these fields -/
def ErrDone (C x : Addr) (H : Hp) (fs : List (Str × V)) (Q : VK) : Prop := ∀ (d : Addr) (H2 : Hp), H2 x = some (exo x C (some d)) → H2 d = some (exd d fs) → H d = none → d ≠ x → (∀ b o, b ≠ x → H b = some o → H2 b = some o) → Q .non H2
def spErr1 (C : Addr) (nm : Str) : Sp := fun vs H Q _ => ∃ (x : Addr) (i : Int), vs = [.ref x, .int i] ∧ H x = some (exo x C none) ∧ i.natAbs.log2 < 1920 ∧ ErrDone C x H [(nm, .int i)] Q
def spErr2 (C : Addr) (n1 n2 : Str) : Sp := fun vs H Q _ => ∃ (x : Addr) (i j : Int), vs = [.ref x, .int i, .int j] ∧ H x = some (exo x C none) ∧ i.natAbs.log2 < 1920 ∧ j.natAbs.log2 < 1920 ∧ ErrDone C x H [(n2, .int j), (n1, .int i)] Q
/-- an own error's class, ready to be raised -/
structure ErrAt (P : Program) (w : World) (K : PySem.W.Frag) (mg : Str → Option Value) (base : Heap) (x : Str) (C : Addr) (ps : List Str) (sp : Sp) : Prop where
  ex : OexC K C
  gm : mg x = some (.ref C)
  fn : ∃ (fI : Addr) (fd : FuncData), PySem.W.findIn K (.ref C) "__init__" = some (some (.ref fI)) ∧ PySem.W.typeIn K (.ref fI) = some (.type "function") ∧ FnOk P w K mg base CX0 1 fI fd ps sp ∧ Binds K fd ps []
theorem cat_le {a b : Str} {m n : Nat} (ha : a.length ≤ m) (hb : b.length ≤ n) : (a ++ b).length ≤ m + n := by
  rw [PySem.Str.length_append]
  omega
theorem itext_len {i : Int} (h : i.natAbs.log2 < 1920) : (Str.ofString (toString i)).length ≤ 1921 := by
  have e := PySem.int_text_length_le (k := 1920) (by decide) h
  rw [PySem.ofString_length]
  omega
section
variable {X : Cx} {x : Str} {C : Addr} {ps : List Str} {sp : Sp} {p pos : Pos} {e : Expr} {es : List Expr} {ta : TA}
theorem pmk_err (Z : ErrAt X.prog X.w X.K X.mg X.base x C ps sp) (hr : Room 2 X.A) (hg : Gl X x) (ha : PA X (e :: es) ta)
    (hdb : (x == ("__debug__" : Str)) = false := by decide) (he : starEach (e :: es) X.env = (false, eval e X.env) :: starEach es X.env := by rfl) (hpl : (backTo pos (starEach es X.env)).any (·.1) = false := by rfl) :
    PMk X (.Call (.Name x p) (e :: es) [] pos) (tMkO C sp [] ta) := by
  obtain ⟨fI, fd, iC, tI, F, b⟩ := Z.fn
  exact pmk_oex Z.ex iC tI F hr b .nil pass0 hg Z.gm ha hdb he hpl
end
section
variable {P : Program} {w : World} {K : PySem.W.Frag} {mg : Str → Option Value} {base : Heap}
theorem nsPl : NdefX.NScope ["self", "place", "__class__"] ["self", "place"] ["__class__"] (defScope sNoPlaceInit) := NdefX.nscope_by (by decide +kernel)
theorem nsPa : NdefX.NScope ["self", "start", "stop", "__class__"] ["self", "start", "stop"] ["__class__"] (defScope sNoPartInit) := NdefX.nscope_by (by decide +kernel)
theorem ok_noplace {C f cc ca : Addr} {dV kV doc pm ct : Value} {an : Option Addr} (Z : SupAt P K mg C f cc ca (PySem.W.fnX "__init__" "NoPlace.__init__" (defArgs sNoPlaceInit) (defBody sNoPlaceInit) (defScope sNoPlaceInit) [("__class__", cc)] dV kV doc pm an (.ref ca) ct)) (hcd : PySem.W.codeIn K (.ref ca) "NoPlace.__init__" = true) (nf : PySem.W.findIn K (.ref C) "place" = some none) :
    FnOk P w K mg base CX0 1 f (PySem.W.fnX "__init__" "NoPlace.__init__" (defArgs sNoPlaceInit) (defBody sNoPlaceInit) (defScope sNoPlaceInit) [("__class__", cc)] dV kV doc pm an (.ref ca) ct) ["self", "place"] (spErr1 C "place") := by
  refine fn_sup Z hcd nsPl (by decide +kernel) (fun vs H Q E h => ?_) (fun env => ⟨rfl, rfl, rfl, rfl⟩) (fun X H x vs Q E xK xm xP xN xS h => ?_) (fun vs H Q E h => ?_)
  · obtain ⟨x, i, rfl, _⟩ := h
    rfl
  · subst xK
    obtain ⟨x', i, ev, hx, hi, q⟩ := h
    cases ev
    refine ⟨hx, _, _, pa_cons (pe_joined (PJ.cons pe_str (PJ.cons (pe_fmt (pe_var (i := 1) (by rw [xN]; rfl) (by rw [xS]; exact .inl rfl))) PJ.nil))) pa_nil, pss_one (ps_ost (pe_var (i := 0) (by rw [xN]; rfl) (by rw [xS]; exact .inl rfl)) (pe_var (i := 1) (by rw [xN]; rfl) (by rw [xS]; exact .inl rfl))), ?_⟩
    refine ⟨_, rfl, sz (by decide), _, rfl, .inr ⟨i, rfl, hi, _, rfl, sz (Nat.le_trans (cat_le (m := 18) (by decide +kernel) (itext_len hi)) (by decide)), ?_⟩⟩
    refine ⟨by show 1 ≤ 1000; decide, hx, _, rfl, _, rfl, x, C, rfl, Z.ex, nf, .inl ⟨hx, fun dx nd ne => ?_⟩⟩
    refine q dx _ upd_same ?_ nd ne (fun b o hb e => ?_)
    · rw [upd_ne ne, upd_same]
    · rw [upd_ne hb, upd_ne (ne_of_none e nd)]
      exact e
  · obtain ⟨x, i, rfl, _⟩ := h
    exact ⟨x, _, rfl⟩
theorem ok_nopart {C f cc ca : Addr} {dV kV doc pm ct : Value} {an : Option Addr} (Z : SupAt P K mg C f cc ca (PySem.W.fnX "__init__" "NoPart.__init__" (defArgs sNoPartInit) (defBody sNoPartInit) (defScope sNoPartInit) [("__class__", cc)] dV kV doc pm an (.ref ca) ct)) (hcd : PySem.W.codeIn K (.ref ca) "NoPart.__init__" = true) (nf1 : PySem.W.findIn K (.ref C) "start" = some none) (nf2 : PySem.W.findIn K (.ref C) "stop" = some none) :
    FnOk P w K mg base CX0 1 f (PySem.W.fnX "__init__" "NoPart.__init__" (defArgs sNoPartInit) (defBody sNoPartInit) (defScope sNoPartInit) [("__class__", cc)] dV kV doc pm an (.ref ca) ct) ["self", "start", "stop"] (spErr2 C "start" "stop") := by
  refine fn_sup Z hcd nsPa (by decide +kernel) (fun vs H Q E h => ?_) (fun env => ⟨rfl, rfl, rfl, rfl⟩) (fun X H x vs Q E xK xm xP xN xS h => ?_) (fun vs H Q E h => ?_)
  · obtain ⟨x, i, j, rfl, _⟩ := h
    rfl
  · subst xK
    obtain ⟨x', i, j, ev, hx, hi, hj, q⟩ := h
    cases ev
    refine ⟨hx, _, _, pa_cons (pe_joined (PJ.cons pe_str (PJ.cons (pe_fmt (pe_var (i := 1) (by rw [xN]; rfl) (by rw [xS]; exact .inl rfl))) (PJ.cons pe_str (PJ.cons (pe_fmt (pe_var (i := 2) (by rw [xN]; rfl) (by rw [xS]; exact .inl rfl))) PJ.nil))))) pa_nil,
      pss_cons (ps_ost (pe_var (i := 0) (by rw [xN]; rfl) (by rw [xS]; exact .inl rfl)) (pe_var (i := 1) (by rw [xN]; rfl) (by rw [xS]; exact .inl rfl))) (pss_one (ps_ost (pe_var (i := 0) (by rw [xN]; rfl) (by rw [xS]; exact .inl rfl)) (pe_var (i := 2) (by rw [xN]; rfl) (by rw [xS]; exact .inl rfl)))), ?_⟩
    have a1 : (Str.empty ++ ("there is no part from " : Str)).length ≤ 22 := by decide +kernel
    have a2 := cat_le a1 (itext_len hi)
    have a3 := cat_le a2 (show (" to " : Str).length ≤ 4 by decide +kernel)
    have a4 := cat_le a3 (itext_len hj)
    refine ⟨_, rfl, sz (Nat.le_trans a1 (by decide)), _, rfl, .inr ⟨i, rfl, hi, _, rfl, sz (Nat.le_trans a2 (by decide)), _, rfl, sz (Nat.le_trans a3 (by decide)), _, rfl, .inr ⟨j, rfl, hj, _, rfl, sz (Nat.le_trans a4 (by decide)), ?_⟩⟩⟩
    refine ⟨by show 1 ≤ 1000; decide, hx, _, rfl, _, rfl, x, C, rfl, Z.ex, nf1, .inl ⟨hx, fun dx nd ne => ?_⟩⟩
    refine ⟨_, rfl, _, rfl, x, C, rfl, Z.ex, nf2, .inr ⟨dx, _, upd_same, by rw [upd_ne ne, upd_same], by show 1 ≤ 900; decide, ?_⟩⟩
    refine q dx _ (by rw [upd_ne ne.symm, upd_same]) upd_same nd ne (fun b o hb e => ?_)
    rw [upd_ne (ne_of_none e nd), upd_ne hb, upd_ne (ne_of_none e nd)]
    exact e
  · obtain ⟨x, i, j, rfl, _⟩ := h
    exact ⟨x, _, rfl⟩
end
theorem q1x {H : Hp} {l : Addr} {o : HO} (_ : H l = none) : (upd H l o) l = some o := upd_same
theorem pe_c0 {X : Cx} {k j : Nat} {x : Str} {sp : Sp} {dvs : List V} {p pos : Pos} (c : Cal X.prog X.w X.K X.mg X.base k x sp dvs) (hr : Room j X.A) (hk : k ≤ j) (hg : Gl X x) (hdb : (x == ("__debug__" : Str)) = false := by decide) :
    PE X (.Call (.Name x p) [] [] pos) (tCall sp dvs C8.E0 tNil) := by
  obtain ⟨f, fd, ps, ds, F, hm, kp, b, d⟩ := c.ex
  exact pe_call0 F (hr.mono hk) hg hm kp b d pass0 hdb
/-! ### a box -/
structure Box (H : Hp) (b R T : Addr) (as : List Addr) (rs : List Rule) (ts : List (List Nat)) : Prop where
  bx : H b = some (.dK [(.inr "rules", .ref R), (.inr "texts", .ref T)])
  dr : Drawn H R T as rs ts
theorem Box.same {H H' : Hp} {b R T : Addr} {as : List Addr} {rs : List Rule} {ts : List (List Nat)} (h : Box H b R T as rs ts) (s : Same H H') : Box H' b R T as rs ts := ⟨s _ _ h.bx, h.dr.same s⟩
theorem Box.frm {H H' : Hp} {b R T p c : Addr} {as : List Addr} {rs : List Rule} {ts : List (List Nat)} (h : Box H b R T as rs ts) (P : Pool H p c) (nR : R ≠ p) (nT : T ≠ p) (f : Frm p H H') : Box H' b R T as rs ts := by
  obtain ⟨pos, left, seed, xs, hp⟩ := P
  refine ⟨f _ _ (ne_of h.bx hp.at_ (by intro z; cases z)) h.bx, ⟨f _ _ nR h.dr.ra, f _ _ nT h.dr.ta, h.dr.la, fun k r e => ?_, h.dr.good, h.dr.ne⟩⟩
  obtain ⟨a, e1, e2⟩ := h.dr.el k r e
  exact ⟨a, e1, f _ _ (ne_of e2 hp.at_ (by intro z; cases z)) e2⟩
/-- all but the box stays -/
def FrB (b : Addr) (H H' : Hp) : Prop := ∀ a o, a ≠ b → H a = some o → H' a = some o
/-- all but the pool and the box stays -/
def FrPB (p b : Addr) (H H' : Hp) : Prop := ∀ a o, a ≠ p → a ≠ b → H a = some o → H' a = some o
theorem FrPB.refl {p b : Addr} {H : Hp} : FrPB p b H H := fun _ _ _ _ h => h
theorem FrPB.trans {p b : Addr} {H H1 H2 : Hp} (f : FrPB p b H H1) (g : FrPB p b H1 H2) : FrPB p b H H2 := fun a o h1 h2 e => g a o h1 h2 (f a o h1 h2 e)
theorem Frm.pb {p b : Addr} {H H' : Hp} (f : Frm p H H') : FrPB p b H H' := fun a o h1 _ e => f a o h1 e
theorem Same.pb {p b : Addr} {H H' : Hp} (f : Same H H') : FrPB p b H H' := fun a o _ _ e => f a o e
theorem FrB.pb {p b : Addr} {H H' : Hp} (f : FrB b H H') : FrPB p b H H' := fun a o _ h e => f a o h e
theorem k_rt : ¬ ((.inr "rules" : Key) = .inr "texts") := by decide +kernel
theorem val_rules {x y : V} : valV [((.inr "rules" : Key), x), (.inr "texts", y)] (.inr "rules") = some x := valV_pos rfl
theorem val_texts {x y : V} : valV [((.inr "rules" : Key), x), (.inr "texts", y)] (.inr "texts") = some y := by rw [valV_neg k_rt]; exact valV_pos rfl
theorem put_rules {x y z : V} : putK [((.inr "rules" : Key), x), (.inr "texts", y)] (.inr "rules") z = [(.inr "rules", z), (.inr "texts", y)] := by
  unfold putK
  rw [if_pos (by simp)]
  simp only [List.map_cons, List.map_nil, if_true]
  rw [if_neg (Ne.symm k_rt)]
theorem put_texts {x y z : V} : putK [((.inr "rules" : Key), x), (.inr "texts", y)] (.inr "texts") z = [(.inr "rules", x), (.inr "texts", z)] := by
  unfold putK
  rw [if_pos (by simp)]
  simp only [List.map_cons, List.map_nil, if_true]
  rw [if_neg k_rt]
theorem Box.getR {H : Hp} {b R T : Addr} {as : List Addr} {rs : List Rule} {ts : List (List Nat)} (h : Box H b R T as rs ts) : DGet H b (.str "rules") (some (.ref R)) := val_rules (x := .ref R) (y := .ref T) ▸ DGet.k (k := .inr "rules") h.bx
theorem Box.getT {H : Hp} {b R T : Addr} {as : List Addr} {rs : List Rule} {ts : List (List Nat)} (h : Box H b R T as rs ts) : DGet H b (.str "texts") (some (.ref T)) := val_texts (x := .ref R) (y := .ref T) ▸ DGet.k (k := .inr "texts") h.bx
section
variable {P : Program} {w : World} {K : PySem.W.Frag} {mg : Str → Option Value} {base : Heap}
theorem atI_nat' {α : Type} {xs : List α} {n : Int} {j : Nat} {v : α} (e : n = (j : Int)) (h : xs[j]? = some v) : atI xs n = some v := by rw [e]; exact atI_nat h
/-! ### _law_letters -/
def spBLetters : Sp := fun vs H Q _ => ∃ (p c : Addr) (most : Nat), vs = [.ref p, .int (most : Int)] ∧ Pool H p c ∧ most ≤ 1000 ∧ ∀ (l : List Nat) (H' : Hp), l.length ≤ most → (∀ c ∈ l, c ∈ SL) → Pool H' p c → Frm p H H' → Q (.str (S l)) H'
theorem scBl : FnScope ["pool", "most", "signs", "kind", "base", "found", "k", "letter"] ["pool", "most"] (defScope sLLetters) := ⟨rfl, rfl, rfl, by decide +kernel, rfl, by decide +kernel, by decide +kernel⟩
theorem ok_bletters {f : Addr} {fd : FuncData} (F : Fun K "_law_letters" "_law_letters" sLLetters f fd) (hm : mg "_law_letters" = some (.ref f)) (b : Binds K fd ["pool", "most"] []) (T : Txt mg) (G : Cal P w K mg base 2 "_law_take" spTake []) : Cal P w K mg base 3 "_law_letters" spBLetters [] := by
  refine mkCal F hm b scBl (fun vs H Q E h => ?_) (fun cdv A outer s H vs Q E hr h => ?_)
  · obtain ⟨p, c, most, rfl, _⟩ := h
    rfl
  obtain ⟨p, c, most, rfl, hP, hmost, q⟩ := h
  refine ⟨_, (pss_cons (ps_set (i := 2) scBl.nd rfl (.inl rfl) pe_str)
    (pss_cons (ps_set (i := 3) scBl.nd rfl (.inl rfl) (pe_c G hr (by decide) (by rfl) (pa_cons (pv 0) (pa_cons pe_int pa_nil))))
    (pss_cons (ps_set (i := 4) scBl.nd rfl (.inl rfl) (pe_c G hr (by decide) (by rfl) (pa_cons (pv 0) (pa_cons pe_int pa_nil))))
    (pss_cons (ps_set (i := 5) scBl.nd rfl (.inl rfl) pe_str)
    (pss_cons (ps_for PassesOwn.never rfl (pi_range1 (by rfl) T.range (pa_cons (pe_c G hr (by decide) (by rfl) (pa_cons (pv 0) (pa_cons (pe_op op_add (pv 1) pe_int) pa_nil))) pa_nil)) (pg_name (i := 6) scBl.nd rfl (.inl rfl)) (pss_cons (ps_set (i := 7) scBl.nd rfl (.inl rfl) (pe_ix ix_str (pv 2) (pe_op op_add (pv 4) (pe_c G hr (by decide) (by rfl) (pa_cons (pv 0) (pa_cons pe_int pa_nil)))) (fun _ _ => rfl)))
    (pss_cut (ps_if (pt_cmpR op_eq (pv 3) pe_int (nomark _)) (pss_one (ps_set (i := 7) scBl.nd rfl (.inl rfl) (pe_ix ix_str (pv 2) (pe_c G hr (by decide) (by rfl) (pa_cons (pv 0) (pa_cons pe_int pa_nil))) (fun _ _ => rfl)))) pss_nil)
    (pss_cut (ps_if (pt_cmpR op_eq (pv 3) pe_int (nomark _)) (pss_one (ps_set (i := 7) scBl.nd rfl (.inl rfl) (pe_ix ix_str pe_str (pe_c G hr (by decide) (by rfl) (pa_cons (pv 0) (pa_cons pe_int pa_nil))) (fun _ _ => rfl)))) pss_nil)
    (pss_cut (ps_if (pt_cmpR op_gt (pv 3) pe_int (nomark _)) (pss_one (ps_set (i := 7) scBl.nd rfl (.inl rfl) (pe_ix ix_str pe_str (pe_c G hr (by decide) (by rfl) (pa_cons (pv 0) (pa_cons pe_int pa_nil))) (fun _ _ => rfl)))) pss_nil)
    (pss_one (ps_set (i := 5) scBl.nd rfl (.inl rfl) (pe_op op_add_str (pv 5) (pv 7)))))))))
    (pss_one (ps_ret (pv 5)))))))), ?_⟩
  refine ⟨_, rfl, p, c, 6, rfl, by decide, by decide, hP, fun kd H1 kd0 kd1 hP1 f1 => ?_⟩
  refine ⟨_, rfl, p, c, 90, rfl, by decide, by decide, hP1, fun bs H2 bs0 bs1 hP2 f2 => ?_⟩
  refine ⟨_, rfl, _, rfl, _, _, rfl, rfl, p, c, _, rfl, by omega, by omega, hP2, fun n H3 n0 n1 hP3 f3 => ?_⟩
  refine ⟨_, rfl, by omega, by omega, for_range (lo := 0) (n := n.toNat) (fun i σ H' => ∃ (ls : List Nat) (v6 v7 : Option V), σ = [some (.ref p), some (.int (most : Int)), some (.str SG), some (.int kd), some (.int bs), some (.str (S ls)), v6, v7] ∧ Pool H' p c ∧ Frm p H H' ∧ ls.length = i ∧ ∀ c ∈ ls, c ∈ SL)
    ⟨[], none, none, by rw [S_nil]; rfl, hP3, (f1.trans f2).trans f3, rfl, fun c h => by cases h⟩ ?_ ?_⟩
  · rintro i σ H4 hi ⟨ls, v6, v7, rfl, hP4, f4, hlen, hin⟩
    have sgA : ∀ {n : Int} {r : Nat}, n = (r : Int) → r < 94 → ∃ d, d ∈ SL ∧ atI SG.cps.toList n = some d := fun {n r} e h => by
      have h94 : r < SL.length := by rw [SL_len]; exact h
      exact ⟨SL[r], List.getElem_mem h94, atI_nat' e (List.getElem?_eq_getElem h94)⟩
    refine ⟨_, rfl, _, rfl, _, rfl, p, c, 2, rfl, by decide, by decide, hP4, fun r H5 r0 r1 hP5 f5 => ⟨_, _, rfl, rfl, ?_⟩⟩
    obtain ⟨d, hd, ed⟩ := sgA (n := bs + r) (r := (bs + r).toNat) (by omega) (by omega)
    refine ⟨SG, _, d, rfl, rfl, SG_len, ed, ?_⟩
    -- three tests
    refine ⟨fun σ H' => ∃ d : Nat, d ∈ SL ∧ σ = [some (.ref p), some (.int (most : Int)), some (.str SG), some (.int kd), some (.int bs), some (.str (S ls)), some (.int (0 + (i : Int))), some (.str (S [d]))] ∧ Pool H' p c ∧ Frm p H H', ?_, ?_⟩
    · refine ⟨_, rfl, rfl, _, rfl, ?_⟩
      refine ite2 (fun _ => ?_) (fun _ => ⟨d, hd, rfl, hP5, f4.trans f5⟩)
      refine ⟨_, rfl, _, rfl, p, c, 94, rfl, by decide, by decide, hP5, fun r2 H6 r20 r21 hP6 f6 => ?_⟩
      obtain ⟨d2, hd2, ed2⟩ := sgA (n := r2) (r := r2.toNat) (by omega) (by omega)
      exact ⟨SG, _, d2, rfl, rfl, SG_len, ed2, d2, hd2, rfl, hP6, (f4.trans f5).trans f6⟩
    rintro σ H6 ⟨d1, hd1, rfl, hP6, f6⟩
    refine ⟨fun σ H' => ∃ d : Nat, d ∈ SL ∧ σ = [some (.ref p), some (.int (most : Int)), some (.str SG), some (.int kd), some (.int bs), some (.str (S ls)), some (.int (0 + (i : Int))), some (.str (S [d]))] ∧ Pool H' p c ∧ Frm p H H', ?_, ?_⟩
    · refine ⟨_, rfl, rfl, _, rfl, ?_⟩
      refine ite2 (fun _ => ?_) (fun _ => ⟨d1, hd1, rfl, hP6, f6⟩)
      refine ⟨_, rfl, p, c, 5, rfl, by decide, by decide, hP6, fun r2 H7 r20 r21 hP7 f7 => ?_⟩
      have h5 : r2 = 0 ∨ r2 = 1 ∨ r2 = 2 ∨ r2 = 3 ∨ r2 = 4 := by omega
      rcases h5 with rfl | rfl | rfl | rfl | rfl
      · exact ⟨_, _, 97, rfl, rfl, by decide +kernel, by decide +kernel, 97, by decide +kernel, rfl, hP7, f6.trans f7⟩
      · exact ⟨_, _, 98, rfl, rfl, by decide +kernel, by decide +kernel, 98, by decide +kernel, rfl, hP7, f6.trans f7⟩
      · exact ⟨_, _, 99, rfl, rfl, by decide +kernel, by decide +kernel, 99, by decide +kernel, rfl, hP7, f6.trans f7⟩
      · exact ⟨_, _, 100, rfl, rfl, by decide +kernel, by decide +kernel, 100, by decide +kernel, rfl, hP7, f6.trans f7⟩
      · exact ⟨_, _, 101, rfl, rfl, by decide +kernel, by decide +kernel, 101, by decide +kernel, rfl, hP7, f6.trans f7⟩
    rintro σ H7 ⟨d2, hd2, rfl, hP7, f7⟩
    refine ⟨fun σ H' => ∃ d : Nat, d ∈ SL ∧ σ = [some (.ref p), some (.int (most : Int)), some (.str SG), some (.int kd), some (.int bs), some (.str (S ls)), some (.int (0 + (i : Int))), some (.str (S [d]))] ∧ Pool H' p c ∧ Frm p H H', ?_, ?_⟩
    · refine ⟨_, rfl, _, _, rfl, rfl, _, rfl, ?_⟩
      refine ite2 (fun _ => ?_) (fun _ => ⟨d2, hd2, rfl, hP7, f7⟩)
      refine ⟨_, rfl, p, c, 2, rfl, by decide, by decide, hP7, fun r2 H8 r20 r21 hP8 f8 => ?_⟩
      have h2 : r2 = 0 ∨ r2 = 1 := by omega
      rcases h2 with rfl | rfl
      · exact ⟨_, _, 97, rfl, rfl, by decide +kernel, by decide +kernel, 97, SL_a, rfl, hP8, f7.trans f8⟩
      · exact ⟨_, _, 98, rfl, rfl, by decide +kernel, by decide +kernel, 98, SL_b, rfl, hP8, f7.trans f8⟩
    rintro σ H8 ⟨d3, hd3, rfl, hP8, f8⟩
    refine ⟨_, rfl, _, rfl, _, _, rfl, rfl, by rw [S_len, S_len]; show ls.length + 1 ≤ sizeLine; exact Nat.le_of_lt (small1000 (by omega)), ls ++ [d3], some (.int (0 + (i : Int))), some (.str (S [d3])), by rw [S_cat]; rfl, hP8, f8, by simp [hlen], fun x hx => ?_⟩
    · rcases List.mem_append.mp hx with h1 | h1
      · exact hin x h1
      · rw [List.mem_singleton.mp h1]
        exact hd3
  · rintro σ H4 ⟨ls, v6, v7, rfl, hP4, f4, hlen, hin⟩
    exact ⟨_, rfl, q ls H4 (by omega) hin hP4 f4⟩
end
theorem Pool.frb {H H' : Hp} {p c b : Addr} (h : Pool H p c) (n1 : p ≠ b) (n2 : c ≠ b) (f : FrB b H H') : Pool H' p c := by
  obtain ⟨pos, left, seed, xs, h⟩ := h
  exact ⟨pos, left, seed, xs, f _ _ n1 h.at_, f _ _ n2 h.cells, h.ne, h.nn, h.pos0, h.left0, h.seed0, h.seed1, h.len⟩
/-- a pool and a box -/
structure PB (H : Hp) (p c b R T : Addr) (as : List Addr) (rs : List Rule) (ts : List (List Nat)) : Prop where
  po : Pool H p c
  bx : Box H b R T as rs ts
  nb : b ≠ p
  nR : R ≠ p
  nT : T ≠ p
section
variable {H H' : Hp} {p c b R T : Addr} {as : List Addr} {rs : List Rule} {ts : List (List Nat)}
theorem PB.same (h : PB H p c b R T as rs ts) (s : Same H H') : PB H' p c b R T as rs ts := ⟨h.po.same s, h.bx.same s, h.nb, h.nR, h.nT⟩
theorem PB.frm (h : PB H p c b R T as rs ts) (P : Pool H' p c) (f : Frm p H H') : PB H' p c b R T as rs ts := ⟨P, h.bx.frm h.po h.nR h.nT f, h.nb, h.nR, h.nT⟩
theorem PB.nc (h : PB H p c b R T as rs ts) : b ≠ c := by
  obtain ⟨pos, left, seed, xs, hp⟩ := h.po
  exact ne_of h.bx.bx hp.cells (by intro z; cases z)
/-- .. behind a rule more -/
theorem PB.more {R' T' : Addr} {as' : List Addr} {rs' : List Rule} {ts' : List (List Nat)} (h : PB H p c b R T as rs ts) (x : Box H' b R' T' as' rs' ts') (f : FrB b H H') (n1 : H R' = none) (n2 : H T' = none) : PB H' p c b R' T' as' rs' ts' := by
  have h1 := (h.po.ne n1).1
  have h2 := (h.po.ne n2).1
  exact ⟨h.po.frb h.nb.symm h.nc.symm f, x, h.nb, h1, h2⟩
end
theorem Box.len {H : Hp} {b R T : Addr} {as : List Addr} {rs : List Rule} {ts : List (List Nat)} (h : Box H b R T as rs ts) : as.length = rs.length ∧ ts.length = rs.length := ⟨h.dr.la, h.dr.good.len⟩
theorem Box.small {H : Hp} {b R T : Addr} {as : List Addr} {rs : List Rule} {ts : List (List Nat)} (h : Box H b R T as rs ts) {i : Nat} (hi : i < rs.length) : (tx ts i).length ≤ 400 := h.dr.good.le _ (tx_mem (by rw [h.dr.good.len]; exact hi))
section
variable {P : Program} {w : World} {K : PySem.W.Frag} {mg : Str → Option Value} {base : Heap}
/-! ### _law_box -/
def spBox : Sp := fun vs H Q _ => vs = [] ∧ ∀ (b R T : Addr) (H' : Hp), Box H' b R T [] [] [] → Same H H' → H b = none → H R = none → H T = none → Q (.ref b) H'
theorem scBb : FnScope [] [] (defScope sLBox) := ⟨rfl, rfl, rfl, by decide +kernel, rfl, by decide +kernel, by decide +kernel⟩
theorem ok_bbox {f : Addr} {fd : FuncData} (F : Fun K "_law_box" "_law_box" sLBox f fd) (hm : mg "_law_box" = some (.ref f)) (b : Binds K fd [] []) : Cal P w K mg base 1 "_law_box" spBox [] := by
  refine mkCal F hm b scBb (fun vs H Q E h => ?_) (fun cdv A outer s H vs Q E hr h => ?_)
  · rw [h.1]
    rfl
  obtain ⟨rfl, q⟩ := h
  have hu := hu_of hr
  refine ⟨_, (pss_one (ps_ret (pe_disp (pps_cons pe_str (pe_lst pa_nil) (pps_cons pe_str (pe_lst pa_nil) pps_nil)) (by rfl) (by rfl) (fun z => by cases z) (by decide)))), ?_⟩
  intro b nb
  refine ⟨Nat.zero_le _, fun R nR => ⟨Nat.zero_le _, fun T nT => ?_⟩⟩
  have s1 := same_new (o := .dK []) nb
  have s2 := same_new (o := .lst []) nR
  have s3 := same_new (o := .lst []) nT
  have nR0 := s1.free nR
  have nT0 := (s1.trans s2).free nT
  have eb : (upd (upd (upd H b (.dK [])) R (.lst [])) T (.lst [])) b = some (.dK []) := s3 _ _ (s2 _ _ upd_same)
  have eR : (upd (upd (upd H b (.dK [])) R (.lst [])) T (.lst [])) R = some (.lst []) := s3 _ _ upd_same
  have eT : (upd (upd (upd H b (.dK [])) R (.lst [])) T (.lst [])) T = some (.lst []) := upd_same
  have s4 := (s1.trans s2).trans s3
  generalize upd (upd (upd H b (.dK [])) R (.lst [])) T (.lst []) = H1 at eb eR eT s4 ⊢
  refine ⟨eb, [((.inr "rules" : Key), .ref R), (.inr "texts", .ref T)], rfl, by show 2 ≤ 15; decide, ?_⟩
  have em : mergeK [] [((.inr "rules" : Key), V.ref R), (.inr "texts", .ref T)] = [(.inr "rules", .ref R), (.inr "texts", .ref T)] := by
    unfold mergeK
    simp only [List.foldl_cons, List.foldl_nil]
    rfl
  rw [em]
  have nRT : R ≠ T := fun e => by subst e; rw [upd_same] at nT; cases nT
  have nbR : R ≠ b := fun e => by subst e; rw [eR] at eb; cases eb
  have nbT : T ≠ b := fun e => by subst e; rw [eT] at eb; cases eb
  refine q b R T _ ⟨upd_same, ⟨by rw [upd_ne nbR]; exact eR, by rw [upd_ne nbT]; exact eT, rfl, fun k r e => by simp at e, Good.nil, nRT⟩⟩ (fun a o e => ?_) nb nR0 nT0
  rw [upd_ne (ne_of_none e nb)]
  exact s4 _ _ e
/-! ### _law_add -/
def spAdd : Sp := fun vs H Q _ => ∃ (b R T u : Addr) (as : List Addr) (rs : List Rule) (ts : List (List Nat)) (r : Rule) (l : List Nat), vs = [.ref b, .ref u, .str (S l)] ∧ Box H b R T as rs ts ∧ H u = some (.tup r.vals) ∧ Ok ts r ∧ l = made ts r ∧ l.length ≤ 400 ∧ rs.length ≤ 500 ∧
  ∀ (R' T' : Addr) (H' : Hp), Box H' b R' T' (as ++ [u]) (rs ++ [r]) (ts ++ [l]) → FrB b H H' → H R' = none → H T' = none → Q (.int (rs.length : Int)) H'
theorem scBa : FnScope ["box", "rule", "text"] ["box", "rule", "text"] (defScope sLAdd) := ⟨rfl, rfl, rfl, by decide +kernel, rfl, by decide +kernel, by decide +kernel⟩
theorem ok_badd {f : Addr} {fd : FuncData} (F : Fun K "_law_add" "_law_add" sLAdd f fd) (hm : mg "_law_add" = some (.ref f)) (b : Binds K fd ["box", "rule", "text"] []) (T : Txt mg) : Cal P w K mg base 1 "_law_add" spAdd [] := by
  refine mkCal F hm b scBa (fun vs H Q E h => ?_) (fun cdv A outer s H vs Q E hr h => ?_)
  · obtain ⟨b, R, T, u, as, rs, ts, r, l, rfl, _⟩ := h
    rfl
  obtain ⟨b, R, TT, u, as, rs, ts, r, l, rfl, hB, hu', ok, hl, h400, h500, q⟩ := h
  have hu := hu_of hr
  have hlen := hB.len
  refine ⟨_, (pss_cons (ps_dput hu (pv 0) pe_str (pe_op op_cat (pe_dget hu (pv 0) pe_str (fun _ _ => rfl)) (pe_lst (pa_cons (pv 1) pa_nil))) rfl)
    (pss_cons (ps_dput hu (pv 0) pe_str (pe_op op_cat (pe_dget hu (pv 0) pe_str (fun _ _ => rfl)) (pe_lst (pa_cons (pv 2) pa_nil))) rfl)
    (pss_one (ps_ret (pe_op op_sub (pe_callB call_len_seq (by rfl) T.len PySem.boot_len (pa_cons (pe_dget hu (pv 0) pe_str (fun _ _ => rfl)) pa_nil)) pe_int))))), ?_⟩
  refine ⟨_, rfl, b, _, rfl, hB.getR, _, rfl, by show 1 ≤ sizeLine; decide, fun l1 n1 => ?_⟩
  have s1 := same_new (o := .lst [.ref u]) n1
  refine ⟨R, l1, _, _, rfl, rfl, s1 _ _ hB.dr.ra, upd_same, Nat.le_of_lt (small1000 (by rw [List.length_map]; show as.length + 1 ≤ 1000; omega)), fun R' nR' => ?_⟩
  have s2 := same_new (o := .lst (as.map V.ref ++ [.ref u])) nR'
  have s12 := s1.trans s2
  have eb2 := s12 _ _ hB.bx
  have eR2 := q1x (o := .lst (as.map V.ref ++ [.ref u])) nR'
  have eT2 := s12 _ _ hB.dr.ta
  have nR0 := s1.free nR'
  generalize upd (upd H l1 (.lst [.ref u])) R' (.lst (as.map V.ref ++ [.ref u])) = H2 at s12 eb2 eR2 eT2 ⊢
  refine ⟨_, rfl, b, _, rfl, DPut.k (k := .inr "rules") eb2 (by show 2 < sizeLine; decide), ?_⟩
  rw [put_rules]
  have nRb : R' ≠ b := fun e => by subst e; rw [eR2] at eb2; cases eb2
  have nTb : TT ≠ b := fun e => by subst e; rw [eT2] at eb2; cases eb2
  have f3 : FrB b H (upd H2 b (.dK [(.inr "rules", .ref R'), (.inr "texts", .ref TT)])) := fun a o h e => by rw [upd_ne h]; exact s12 _ _ e
  have eb3 : (upd H2 b (.dK [(.inr "rules", .ref R'), (.inr "texts", .ref TT)])) b = some (.dK [(.inr "rules", .ref R'), (.inr "texts", .ref TT)]) := upd_same
  have eR3 : (upd H2 b (.dK [(.inr "rules", .ref R'), (.inr "texts", .ref TT)])) R' = some (.lst (as.map V.ref ++ [.ref u])) := by rw [upd_ne nRb]; exact eR2
  have eT3 : (upd H2 b (.dK [(.inr "rules", .ref R'), (.inr "texts", .ref TT)])) TT = some (.lst (ts.map tV)) := by rw [upd_ne nTb]; exact eT2
  generalize upd H2 b (.dK [(.inr "rules", .ref R'), (.inr "texts", .ref TT)]) = H3 at f3 eb3 eR3 eT3 ⊢
  refine ⟨_, rfl, b, _, rfl, val_texts (x := .ref R') (y := .ref TT) ▸ DGet.k (k := .inr "texts") eb3, _, rfl, by show 1 ≤ sizeLine; decide, fun l2 n2 => ?_⟩
  have s4 := same_new (o := .lst [.str (S l)]) n2
  refine ⟨TT, l2, _, _, rfl, rfl, s4 _ _ eT3, upd_same, Nat.le_of_lt (small1000 (by rw [List.length_map]; show ts.length + 1 ≤ 1000; omega)), fun T' nT' => ?_⟩
  have s5 := same_new (o := .lst (ts.map tV ++ [.str (S l)])) nT'
  have s45 := s4.trans s5
  have eb5 := s45 _ _ eb3
  have eR5 := s45 _ _ eR3
  have eT5 := q1x (o := .lst (ts.map tV ++ [.str (S l)])) nT'
  have nT3 := s4.free nT'
  generalize upd (upd H3 l2 (.lst [.str (S l)])) T' (.lst (ts.map tV ++ [.str (S l)])) = H5 at s45 eb5 eR5 eT5 ⊢
  refine ⟨_, rfl, b, _, rfl, DPut.k (k := .inr "texts") eb5 (by show 2 < sizeLine; decide), ?_⟩
  rw [put_texts]
  have nTb' : T' ≠ b := fun e => by subst e; rw [eT5] at eb5; cases eb5
  have nRT : R' ≠ T' := fun e => by subst e; rw [eR3] at nT3; cases nT3
  have f6 : FrB b H (upd H5 b (.dK [(.inr "rules", .ref R'), (.inr "texts", .ref T')])) := fun a o h e => by rw [upd_ne h]; exact s45 _ _ (f3 _ _ h e)
  have eb6 : (upd H5 b (.dK [(.inr "rules", .ref R'), (.inr "texts", .ref T')])) b = some (.dK [(.inr "rules", .ref R'), (.inr "texts", .ref T')]) := upd_same
  have eR6 : (upd H5 b (.dK [(.inr "rules", .ref R'), (.inr "texts", .ref T')])) R' = some (.lst (as.map V.ref ++ [.ref u])) := by rw [upd_ne nRb]; exact eR5
  have eT6 : (upd H5 b (.dK [(.inr "rules", .ref R'), (.inr "texts", .ref T')])) T' = some (.lst (ts.map tV ++ [.str (S l)])) := by rw [upd_ne nTb']; exact eT5
  have nT0 : H T' = none := by
    cases e : H T' with
    | none => rfl
    | some o =>
      have := f3 T' o nTb' e
      rw [nT3] at this
      cases this
  generalize upd H5 b (.dK [(.inr "rules", .ref R'), (.inr "texts", .ref T')]) = H6 at f6 eb6 eR6 eT6 ⊢
  have hu6 : ∀ {a : Addr} {vs : List V}, H a = some (.tup vs) → H6 a = some (.tup vs) := fun e => f6 _ _ (ne_of e hB.bx (by intro z; cases z)) e
  have box : Box H6 b R' T' (as ++ [u]) (rs ++ [r]) (ts ++ [l]) := by
    subst hl
    refine ⟨eb6, ⟨by rw [eR6, List.map_append]; rfl, by rw [eT6, List.map_append]; rfl, by simp [hlen.1], fun k x e => ?_, hB.dr.good.add ok h400, nRT⟩⟩
    by_cases hk : k < rs.length
    · rw [List.getElem?_append_left hk] at e
      obtain ⟨a, e1, e2⟩ := hB.dr.el k x e
      exact ⟨a, by rw [List.getElem?_append_left (by rw [hlen.1]; exact hk)]; exact e1, hu6 e2⟩
    · have hk2 : k = rs.length := by
        have := (List.getElem?_eq_some_iff.mp e).1
        simp at this
        omega
      subst hk2
      rw [List.getElem?_append_right (Nat.le_refl _), Nat.sub_self] at e
      have e' : r = x := Option.some.inj e
      subst e'
      exact ⟨u, by rw [List.getElem?_append_right (by omega), hlen.1, Nat.sub_self]; rfl, hu6 hu'⟩
  refine ⟨_, rfl, b, _, rfl, box.getR, R', _, rfl, .inl (SqL.of box.dr.ra), _, _, rfl, rfl, ?_⟩
  rw [List.length_map, box.len.1, List.length_append]
  have := q R' T' H6 box f6 nR0 nT0
  have e : (((rs.length + [r].length : Nat) : Int) - 1) = (rs.length : Int) := by show ((rs.length + 1 : Nat) : Int) - 1 = _; omega
  show Q (V.int (((rs.length + [r].length : Nat) : Int) - 1)) H6
  rw [e]
  exact this
end
theorem tAt {ts : List (List Nat)} {i : Nat} (h : i < ts.length) : (ts.map tV)[i]? = some (.str (S (tx ts i))) := by rw [List.getElem?_map, tx_at h]; rfl
theorem cut_to {l : List Nat} {b : Nat} : cutS (S l) none (some (b : Int)) = S (l.take b) := by
  unfold cutS
  rw [HT.sIx_none, HT.sIx_nat, S_len, List.drop_zero, Nat.sub_zero]
  show S (l.take (min b l.length)) = S (l.take b)
  by_cases h : b ≤ l.length
  · rw [Nat.min_eq_left h]
  · rw [Nat.min_eq_right (by omega), List.take_length, List.take_of_length_le (by omega)]
theorem cut_fr {l : List Nat} {a : Nat} (h : a ≤ l.length) : cutS (S l) (some (a : Int)) none = S (l.drop a) := by
  unfold cutS
  rw [HT.sIx_none, HT.sIx_nat, S_len, Nat.min_eq_left h]
  show S ((l.drop a).take (l.length - a)) = S (l.drop a)
  rw [List.take_of_length_le (by rw [List.length_drop]; omega)]
/-- a rule more -/
theorem addP {H : Hp} {p c b R T u : Addr} {as : List Addr} {rs : List Rule} {ts : List (List Nat)} {r : Rule} {l : List Nat} {Q : VK} {E : XK} (h : PB H p c b R T as rs ts) (hu : H u = some (.tup r.vals)) (ok : Ok ts r) (hl : l = made ts r) (h400 : l.length ≤ 400) (h500 : rs.length ≤ 500)
    (q : ∀ (R' T' : Addr) (H' : Hp), PB H' p c b R' T' (as ++ [u]) (rs ++ [r]) (ts ++ [l]) → FrB b H H' → Q (.int (rs.length : Int)) H') : spAdd [.ref b, .ref u, .str (S l)] H Q E :=
  ⟨b, R, T, u, as, rs, ts, r, l, rfl, h.bx, hu, ok, hl, h400, h500, fun R' T' H' x f n1 n2 => q R' T' H' (h.more x f n1 n2) f⟩
theorem addZ {H : Hp} {p c b R T u : Addr} {as : List Addr} {rs : List Rule} {ts : List (List Nat)} {r : Rule} {l : List Nat} {z : Str} {Q : VK} {E : XK} (ez : z = S l) (h : PB H p c b R T as rs ts) (hu : H u = some (.tup r.vals)) (ok : Ok ts r) (hl : l = made ts r) (h400 : l.length ≤ 400) (h500 : rs.length ≤ 500)
    (q : ∀ (R' T' : Addr) (H' : Hp), PB H' p c b R' T' (as ++ [u]) (rs ++ [r]) (ts ++ [l]) → FrB b H H' → Q (.int (rs.length : Int)) H') : spAdd [.ref b, .ref u, .str z] H Q E := by
  subst ez
  exact addP h hu ok hl h400 h500 q
section
variable {P : Program} {w : World} {K : PySem.W.Frag} {mg : Str → Option Value} {base : Heap}
/-! ### _law_power_rule -/
def NewRule (p c b : Addr) (as : List Addr) (rs : List Rule) (ts : List (List Nat)) (most : Nat) (H : Hp) (Q : VK) : Prop :=
  ∀ (R' T' u : Addr) (r : Rule) (l : List Nat) (H' : Hp), PB H' p c b R' T' (as ++ [u]) (rs ++ [r]) (ts ++ [l]) → l.length ≤ most → FrPB p b H H' → Q (.int (rs.length : Int)) H'
def spBPower : Sp := fun vs H Q _ => ∃ (p c b R T : Addr) (as : List Addr) (rs : List Rule) (ts : List (List Nat)) (most : Nat), vs = [.ref p, .ref b, .int (most : Int)] ∧ PB H p c b R T as rs ts ∧ most ≤ 400 ∧ 1 ≤ rs.length ∧ rs.length ≤ 100 ∧ NewRule p c b as rs ts most H Q
theorem scBp : FnScope ["pool", "box", "most", "number", "text", "times"] ["pool", "box", "most"] (defScope sLPowerRule) := ⟨rfl, rfl, rfl, by decide +kernel, rfl, by decide +kernel, by decide +kernel⟩
theorem ok_bpower {f : Addr} {fd : FuncData} (F : Fun K "_law_power_rule" "_law_power_rule" sLPowerRule f fd) (hm : mg "_law_power_rule" = some (.ref f)) (b : Binds K fd ["pool", "box", "most"] []) (T : Txt mg) (G : Cal P w K mg base 2 "_law_take" spTake []) (GAd : Cal P w K mg base 1 "_law_add" spAdd []) : Cal P w K mg base 3 "_law_power_rule" spBPower [] := by
  refine mkCal F hm b scBp (fun vs H Q E h => ?_) (fun cdv A outer s H vs Q E hr h => ?_)
  · obtain ⟨p, c, b, R, T, as, rs, ts, most, rfl, _⟩ := h
    rfl
  obtain ⟨p, c, b, R, TT, as, rs, ts, most, rfl, hB, hmost, h1, h100, q⟩ := h
  have hu := hu_of hr
  have hlen := hB.bx.len
  refine ⟨_, (pss_cons (ps_set (i := 3) scBp.nd rfl (.inl rfl) (pe_c G hr (by decide) (by rfl) (pa_cons (pv 0) (pa_cons (pe_callB call_len_seq (by rfl) T.len PySem.boot_len (pa_cons (pe_dget hu (pv 1) pe_str (fun _ _ => rfl)) pa_nil)) pa_nil))))
    (pss_cons (ps_set (i := 4) scBp.nd rfl (.inl rfl) (pe_ix ix_list (pe_dget hu (pv 1) pe_str (fun _ _ => rfl)) (pv 3) (fun _ _ => rfl)))
    (pss_cons (ps_set (i := 5) scBp.nd rfl (.inl rfl) (pe_c G hr (by decide) (by rfl) (pa_cons (pv 0) (pa_cons pe_int pa_nil))))
    (pss_cut (ps_if (PW.pt (pw_and (pt_cmpR op_ne (pv 4) pe_str (nomark _)) (pw_and1 (pt_cmpR op_eq (pe_c G hr (by decide) (by rfl) (pa_cons (pv 0) (pa_cons pe_int pa_nil))) pe_int (nomark _))))) (pss_one (ps_set (i := 5) scBp.nd rfl (.inl rfl) (pe_c G hr (by decide) (by rfl) (pa_cons (pv 0) (pa_cons (pe_op op_add (pe_op op_fdiv (pv 2) (pe_callB call_len_str (by rfl) T.len PySem.boot_len (pa_cons (pv 4) pa_nil))) pe_int) pa_nil))))) pss_nil)
    (pss_cut (ps_if (pt_cmpR op_gt (pe_op op_mul (pe_callB call_len_str (by rfl) T.len PySem.boot_len (pa_cons (pv 4) pa_nil)) (pv 5)) (pv 2) (nomark _)) (pss_one (ps_set (i := 5) scBp.nd rfl (.inl rfl) (pe_op op_fdiv (pv 2) (pe_callB call_len_str (by rfl) T.len PySem.boot_len (pa_cons (pv 4) pa_nil))))) pss_nil)
    (pss_one (ps_ret (pe_c GAd hr (by decide) (by rfl) (pa_cons (pv 1) (pa_cons (pe_tup (pa_cons pe_str (pa_cons (pv 3) (pa_cons (pv 5) pa_nil)))) (pa_cons (pe_op op_mulS (pv 4) (pv 5)) pa_nil))))))))))), ?_⟩
  refine ⟨_, rfl, _, rfl, b, _, rfl, hB.bx.getR, R, _, rfl, .inl (SqL.of hB.bx.dr.ra), p, c, _, rfl, by rw [List.length_map]; omega, by rw [List.length_map]; omega, hB.po, fun r H1 r0 r1 hP1 f1 => ?_⟩
  rw [List.length_map] at r1
  obtain ⟨i, rfl⟩ := Int.eq_ofNat_of_zero_le r0
  have hi : i < rs.length := by omega
  have hB1 := hB.frm hP1 f1
  have hti : i < ts.length := by omega
  refine ⟨_, rfl, b, _, rfl, hB1.bx.getT, _, rfl, TT, _, _, _, rfl, rfl, SqL.of hB1.bx.dr.ta, atI_nat (tAt hti), ?_⟩
  have hl := hB.bx.small hi
  generalize hL : tx ts i = L at hl
  refine ⟨_, rfl, p, c, 5, rfl, by decide, by decide, hB1.po, fun t H2 t0 t1 hP2 f2 => ?_⟩
  have hB2 := hB1.frm hP2 f2
  have f12 := f1.trans f2
  refine ⟨fun σ H' => ∃ k : Nat, k ≤ 1000 ∧ σ = [some (.ref p), some (.ref b), some (.int (most : Int)), some (.int (i : Int)), some (.str (S L)), some (.int (k : Int))] ∧ PB H' p c b R TT as rs ts ∧ Frm p H H', ?_, ?_⟩
  · obtain ⟨k, rfl⟩ := Int.eq_ofNat_of_zero_le t0
    refine ⟨_, rfl, rfl, _, rfl, ite2 (fun z => ?_) (fun _ => ifF rfl ⟨k, by omega, rfl, hB2, f12⟩)⟩
    have hne : 1 ≤ L.length := by
      cases L with
      | nil => rw [← S_nil] at z; exact absurd z (by decide)
      | cons a l => show 1 ≤ l.length + 1; omega
    refine ⟨_, rfl, p, c, 2, rfl, by decide, by decide, hB2.po, fun r2 H3 r20 r21 hP3 f3 => ⟨rfl, _, rfl, ?_⟩⟩
    have hB3 := hB2.frm hP3 f3
    refine ite2 (fun _ => ?_) (fun _ => ⟨k, by omega, rfl, hB3, f12.trans f3⟩)
    refine ⟨_, rfl, _, rfl, _, rfl, _, rfl, Sz (by omega), _, _, rfl, rfl, ⟨by rw [S_len]; omega, by rw [S_len]; omega⟩, _, _, rfl, rfl, p, c, _, rfl, ?_, ?_, hB3.po, fun r3 H4 r30 r31 hP4 f4 => ?_⟩
    · rw [S_len]
      have : (0 : Int) ≤ (most : Int) / (L.length : Int) := Int.ediv_nonneg (by omega) (by omega)
      omega
    · rw [S_len]
      have : (most : Int) / (L.length : Int) ≤ (most : Int) := Int.ediv_le_self _ (by omega)
      omega
    · rw [S_len] at r31
      have : (most : Int) / (L.length : Int) ≤ (most : Int) := Int.ediv_le_self _ (by omega)
      obtain ⟨k3, rfl⟩ := Int.eq_ofNat_of_zero_le r30
      exact ⟨k3, by omega, rfl, hB3.frm hP4 f4, (f12.trans f3).trans f4⟩
  rintro σ H3 ⟨k, hk, rfl, hB3, f3⟩
  refine ⟨fun σ H' => ∃ k : Nat, k ≤ 1000 ∧ k * L.length ≤ most ∧ σ = [some (.ref p), some (.ref b), some (.int (most : Int)), some (.int (i : Int)), some (.str (S L)), some (.int (k : Int))] ∧ H' = H3, ?_, ?_⟩
  · refine ⟨_, rfl, _, rfl, Sz (by omega), _, rfl, _, _, rfl, rfl, .inl ⟨by rw [S_len]; omega, by rw [S_len]; omega⟩, _, rfl, _, _, rfl, rfl, _, rfl, ?_⟩
    rw [S_len]
    refine ite2 (fun z => ?_) (fun z => ?_)
    · have z : (L.length : Int) * (k : Int) > (most : Int) := of_decide_eq_true z
      have hne : 1 ≤ L.length := by
        cases L with
        | nil => simp at z; omega
        | cons a l => show 1 ≤ l.length + 1; omega
      refine ⟨_, rfl, _, rfl, _, rfl, Sz (by omega), _, _, rfl, rfl, ⟨by rw [S_len]; omega, by rw [S_len]; omega⟩, most / L.length, Nat.le_trans (Nat.div_le_self _ _) (by omega), Nat.div_mul_le_self _ _, ?_, rfl⟩
      rw [S_len]
      rfl
    · have z : ¬ (L.length : Int) * (k : Int) > (most : Int) := fun h => z (decide_eq_true h)
      refine ⟨k, hk, ?_, rfl, rfl⟩
      have e : ((k * L.length : Nat) : Int) = (L.length : Int) * (k : Int) := by rw [Int.natCast_mul, Int.mul_comm]
      omega
  rintro σ H4 ⟨k, hk, hkl, rfl, rfl⟩
  refine ⟨_, rfl, _, rfl, _, rfl, by show 3 ≤ sizeLine; decide, fun u nu => ?_⟩
  have s5 := same_new (o := .tup [.str "power", .int (i : Int), .int (k : Int)]) nu
  refine ⟨_, rfl, _, rfl, L, k, rfl, rfl, by omega, by omega, by omega, ?_⟩
  have eL : ((List.replicate k L).flatten).length = k * L.length := flat_len L k
  refine addP (E := C8.E0) (r := .power i k) (hB3.same s5) upd_same ⟨hti, by omega⟩ (by rw [← hL]; rfl) (by omega) (by omega) fun R' T' H' hB' f' => ?_
  exact q R' T' u _ _ H' hB' (by rw [eL]; exact hkl) ((f3.pb.trans (Same.pb s5)).trans f'.pb)
end
section
variable {P : Program} {w : World} {K : PySem.W.Frag} {mg : Str → Option Value} {base : Heap}
/-! ### _law_next_rule -/
def spBNext : Sp := fun vs H Q _ => ∃ (p c b R T : Addr) (as : List Addr) (rs : List Rule) (ts : List (List Nat)) (most : Nat), vs = [.ref p, .ref b, .int (most : Int)] ∧ PB H p c b R T as rs ts ∧ 30 ≤ most ∧ most ≤ 400 ∧ rs.length ≤ 100 ∧ (∀ l ∈ ts, l.length ≤ most) ∧ NewRule p c b as rs ts most H Q
theorem scBn : FnScope ["pool", "box", "most", "kind", "many", "letters", "number", "text", "other", "start", "stop"] ["pool", "box", "most"] (defScope sLNextRule) := ⟨rfl, rfl, rfl, by decide +kernel, rfl, by decide +kernel, by decide +kernel⟩
theorem ok_bnext {f : Addr} {fd : FuncData} (F : Fun K "_law_next_rule" "_law_next_rule" sLNextRule f fd) (hm : mg "_law_next_rule" = some (.ref f)) (b : Binds K fd ["pool", "box", "most"] []) (T : Txt mg) (hmax : mg "max" = none) (G : Cal P w K mg base 2 "_law_take" spTake []) (GAd : Cal P w K mg base 1 "_law_add" spAdd []) (GLt : Cal P w K mg base 3 "_law_letters" spBLetters []) (GPr : Cal P w K mg base 3 "_law_power_rule" spBPower []) : Cal P w K mg base 4 "_law_next_rule" spBNext [] := by
  refine mkCal F hm b scBn (fun vs H Q E h => ?_) (fun cdv A outer s H vs Q E hr h => ?_)
  · obtain ⟨p, c, b, R, T, as, rs, ts, most, rfl, _⟩ := h
    rfl
  obtain ⟨p, c, b, R, TT, as, rs, ts, most, rfl, hB, h30, hmost, h100, hts, q⟩ := h
  have hu := hu_of hr
  have hlen := hB.bx.len
  have hla : (as.map V.ref).length = rs.length := by rw [List.length_map]; exact hlen.1
  refine ⟨_, (pss_cons (ps_set (i := 3) scBn.nd rfl (.inl rfl) (pe_c G hr (by decide) (by rfl) (pa_cons (pv 0) (pa_cons pe_int pa_nil))))
    (pss_cons (ps_set (i := 4) scBn.nd rfl (.inl rfl) (pe_callB call_len_seq (by rfl) T.len PySem.boot_len (pa_cons (pe_dget hu (pv 1) pe_str (fun _ _ => rfl)) pa_nil)))
    (pss_cons (ps_if (PW.pt (pw_or (pt_cmpR op_eq (pv 4) pe_int (nomark _)) (pw_or1 (pt_cmpR op_eq (pv 3) pe_int (nomark _))))) (pss_cons (ps_set (i := 5) scBn.nd rfl (.inl rfl) (pe_c GLt hr (by decide) (by rfl) (pa_cons (pv 0) (pa_cons (pe_ix ix_tup (pe_tup (pa_cons pe_int (pa_cons pe_int pa_nil))) (pe_callTy call_int1 (by rfl) T.int (by decide +kernel) (pa_cons (pe_cmpR op_eq (pe_c G hr (by decide) (by rfl) (pa_cons (pv 0) (pa_cons pe_int pa_nil))) pe_int (nomark _)) pa_nil)) (fun _ _ => rfl)) pa_nil))))
    (pss_one (ps_ret (pe_c GAd hr (by decide) (by rfl) (pa_cons (pv 1) (pa_cons (pe_tup (pa_cons pe_str (pa_cons (pv 5) pa_nil))) (pa_cons (pv 5) pa_nil))))))) pss_nil)
    (pss_cons (ps_set (i := 6) scBn.nd rfl (.inl rfl) (pe_c G hr (by decide) (by rfl) (pa_cons (pv 0) (pa_cons (pv 4) pa_nil))))
    (pss_cons (ps_set (i := 7) scBn.nd rfl (.inl rfl) (pe_ix ix_list (pe_dget hu (pv 1) pe_str (fun _ _ => rfl)) (pv 6) (fun _ _ => rfl)))
    (pss_cut (ps_if (pt_cmpR op_lt (pv 3) pe_int (nomark _)) (pss_cons (ps_set (i := 8) scBn.nd rfl (.inl rfl) (pe_c G hr (by decide) (by rfl) (pa_cons (pv 0) (pa_cons (pv 4) pa_nil))))
    (pss_cut (ps_if (pt_cmpR op_eq (pe_c G hr (by decide) (by rfl) (pa_cons (pv 0) (pa_cons pe_int pa_nil))) pe_int (nomark _)) (pss_cons (ps_set (i := 6) scBn.nd rfl (.inl rfl) (pe_op op_sub (pv 4) pe_int))
    (pss_one (ps_set (i := 8) scBn.nd rfl (.inl rfl) (pe_callB (call_max2 rfl) (by rfl) hmax (by decide +kernel) (pa_cons pe_int (pa_cons (pe_op op_sub (pv 4) pe_int) pa_nil)))))) pss_nil)
    (pss_one (ps_if (pt_cmpR op_le (pe_op op_add (pe_callB call_len_str (by rfl) T.len PySem.boot_len (pa_cons (pe_ix ix_list (pe_dget hu (pv 1) pe_str (fun _ _ => rfl)) (pv 6) (fun _ _ => rfl)) pa_nil)) (pe_callB call_len_str (by rfl) T.len PySem.boot_len (pa_cons (pe_ix ix_list (pe_dget hu (pv 1) pe_str (fun _ _ => rfl)) (pv 8) (fun _ _ => rfl)) pa_nil))) (pv 2) (nomark _)) (pss_one (ps_ret (pe_c GAd hr (by decide) (by rfl) (pa_cons (pv 1) (pa_cons (pe_tup (pa_cons pe_str (pa_cons (pv 6) (pa_cons (pv 8) pa_nil)))) (pa_cons (pe_op op_add_str (pe_ix ix_list (pe_dget hu (pv 1) pe_str (fun _ _ => rfl)) (pv 6) (fun _ _ => rfl)) (pe_ix ix_list (pe_dget hu (pv 1) pe_str (fun _ _ => rfl)) (pv 8) (fun _ _ => rfl))) pa_nil)))))) pss_nil)))) pss_nil)
    (pss_cons (ps_if (pt_cmpR op_eq (pv 3) pe_int (nomark _)) (pss_one (ps_ret (pe_c GAd hr (by decide) (by rfl) (pa_cons (pv 1) (pa_cons (pe_tup (pa_cons pe_str (pa_cons (pv 6) pa_nil))) (pa_cons (pe_revS (pv 7)) pa_nil)))))) pss_nil)
    (pss_cons (ps_if (pt_cmpR op_eq (pv 3) pe_int (nomark _)) (pss_cons (ps_set (i := 9) scBn.nd rfl (.inl rfl) (pe_c G hr (by decide) (by rfl) (pa_cons (pv 0) (pa_cons (pe_op op_add (pe_callB call_len_str (by rfl) T.len PySem.boot_len (pa_cons (pv 7) pa_nil)) pe_int) pa_nil))))
    (pss_cons (ps_set (i := 10) scBn.nd rfl (.inl rfl) (pe_op op_add (pv 9) (pe_c G hr (by decide) (by rfl) (pa_cons (pv 0) (pa_cons (pe_op op_add (pe_op op_sub (pe_callB call_len_str (by rfl) T.len PySem.boot_len (pa_cons (pv 7) pa_nil)) (pv 9)) pe_int) pa_nil)))))
    (pss_one (ps_ret (pe_c GAd hr (by decide) (by rfl) (pa_cons (pv 1) (pa_cons (pe_tup (pa_cons pe_str (pa_cons (pv 6) (pa_cons (pv 9) (pa_cons (pv 10) pa_nil))))) (pa_cons (pe_slice sl_str (pv 7) (po_some (pv 9)) (po_some (pv 10))) pa_nil)))))))) pss_nil)
    (pss_one (ps_ret (pe_c GPr hr (by decide) (by rfl) (pa_cons (pv 0) (pa_cons (pv 1) (pa_cons (pv 2) pa_nil)))))))))))))), ?_⟩
  refine ⟨_, rfl, p, c, 8, rfl, by decide, by decide, hB.po, fun kd H1 kd0 kd1 hP1 f1 => ?_⟩
  have hB1 := hB.frm hP1 f1
  refine ⟨_, rfl, b, _, rfl, hB1.bx.getR, R, _, rfl, .inl (SqL.of hB1.bx.dr.ra), ?_⟩
  rw [hla]
  have hla0 : ∀ {n : Nat} {z : Int}, n = rs.length → (rs.length : Int) = z → z = (n : Int) := fun e h => by rw [← h, e]
  have kcase : ∀ {A B : Int}, V.int A = V.int B → A = B := fun h => V.int.inj h
  refine ⟨_, rfl, rfl, _, rfl, ite2 (fun _ => ?a) (fun z0 => ?b0)⟩
  case' b0 => refine ⟨_, rfl, rfl, _, rfl, ite2 (fun _ => ?a2) (fun _ => ?b)⟩
  case a | a2 =>
    refine ⟨_, rfl, by show 2 ≤ sizeLine; decide, fun u1 n1 => ?_⟩
    have s1 := same_new (o := .tup [.int 6, .int 30]) n1
    have hB2 := hB1.same s1
    refine ⟨_, rfl, p, c, 4, rfl, by decide, by decide, hB2.po, fun r H3 r0 r1 hP3 f3 => ⟨rfl, .inr ⟨_, rfl, ?_⟩⟩⟩
    have hB3 := hB2.frm hP3 f3
    have f13 := (f1.trans (fun _ _ _ e => s1 _ _ e)).trans f3
    have e1 := f3 u1 _ (hB1.po.ne n1).1 upd_same
    obtain ⟨m, em, hm⟩ : ∃ m : Nat, atI [V.int 6, V.int 30] (if decide (V.int r = V.int 3) = true then 1 else 0) = some (.int (m : Int)) ∧ m ≤ 30 := by
      split
      · exact ⟨30, atI_nat (j := 1) rfl, by omega⟩
      · exact ⟨6, atI_nat (j := 0) rfl, by omega⟩
    refine ⟨u1, _, _, _, rfl, rfl, SqT.of e1, em, p, c, m, rfl, hB3.po, by omega, fun l H4 hl hin hP4 f4 => ?_⟩
    have hB4 := hB3.frm hP4 f4
    refine ⟨_, rfl, _, rfl, by show 2 ≤ sizeLine; decide, fun u nu => ⟨_, rfl, ?_⟩⟩
    have s5 := same_new (o := .tup [.str "letters", .str (S l)]) nu
    refine addP (E := C8.E0) (r := .letters l) (hB4.same s5) upd_same ⟨by omega, hin⟩ rfl (by omega) (by omega) fun R' T' H' hB' f' => ?_
    exact q R' T' u _ _ H' hB' (by omega) (((f13.trans f4).pb.trans (Same.pb s5)).trans f'.pb)
  have hpos : 1 ≤ rs.length := by
    have z0 : ¬ V.int (rs.length : Int) = V.int 0 := fun h => z0 (decide_eq_true h)
    have : ¬ (rs.length : Int) = 0 := fun h => z0 (by rw [h])
    omega
  refine ⟨_, rfl, _, rfl, p, c, _, rfl, by omega, by omega, hB1.po, fun r H2 r0 r1 hP2 f2 => ?_⟩
  obtain ⟨i, rfl⟩ := Int.eq_ofNat_of_zero_le r0
  have hi : i < rs.length := by omega
  have hti : i < ts.length := by omega
  have hB2 := hB1.frm hP2 f2
  have f12 := f1.trans f2
  refine ⟨_, rfl, b, _, rfl, hB2.bx.getT, _, rfl, TT, _, _, _, rfl, rfl, SqL.of hB2.bx.dr.ta, atI_nat (tAt hti), ?_⟩
  have hl := hts _ (tx_mem hti)
  generalize hL : tx ts i = L at hl
  refine ⟨fun σ H' => ∃ (nb : Nat) (v8 : Option V), nb < rs.length ∧ (kd < 4 ∨ nb = i) ∧ σ = [some (.ref p), some (.ref b), some (.int (most : Int)), some (.int kd), some (.int (rs.length : Int)), none, some (.int (nb : Int)), some (.str (S L)), v8, none, none] ∧ PB H' p c b R TT as rs ts ∧ Frm p H H', ?_, ?_⟩
  · refine ⟨_, rfl, _, _, rfl, rfl, _, rfl, ite2 (fun z => ?_) (fun _ => ⟨i, none, hi, .inr rfl, rfl, hB2, f12⟩)⟩
    have z4 : kd < 4 := of_decide_eq_true z
    refine ⟨_, rfl, _, rfl, p, c, _, rfl, by omega, by omega, hB2.po, fun r H3 r0 r1 hP3 f3 => ?_⟩
    obtain ⟨j, rfl⟩ := Int.eq_ofNat_of_zero_le r0
    have hB3 := hB2.frm hP3 f3
    refine ⟨fun σ H' => ∃ (nb ot : Nat), nb < rs.length ∧ ot < rs.length ∧ σ = [some (.ref p), some (.ref b), some (.int (most : Int)), some (.int kd), some (.int (rs.length : Int)), none, some (.int (nb : Int)), some (.str (S L)), some (.int (ot : Int)), none, none] ∧ PB H' p c b R TT as rs ts ∧ Frm p H H', ?_, ?_⟩
    · refine ⟨_, rfl, p, c, 2, rfl, by decide, by decide, hB3.po, fun r4 H4 r40 r41 hP4 f4 => ⟨rfl, _, rfl, ?_⟩⟩
      have hB4 := hB3.frm hP4 f4
      have f14 := (f12.trans f3).trans f4
      refine ite2 (fun _ => ?_) (fun _ => ⟨i, j, hi, by omega, rfl, hB4, f14⟩)
      refine ⟨_, rfl, _, _, rfl, rfl, _, rfl, _, _, rfl, rfl, 0, (rs.length : Int) - 2, rfl, ?_⟩
      refine ⟨rs.length - 1, rs.length - 2, by omega, by omega, ?_, hB4, f14⟩
      have e1 : ((rs.length - 1 : Nat) : Int) = (rs.length : Int) - 1 := by omega
      have e2 : ((rs.length - 2 : Nat) : Int) = (if (rs.length : Int) - 2 > 0 then (rs.length : Int) - 2 else 0) := by split <;> omega
      rw [e1, e2]
      rfl
    rintro σ H4 ⟨nb, ot, hnb, hot, rfl, hB4, f4⟩
    have htn : nb < ts.length := by omega
    have hto : ot < ts.length := by omega
    have ln := hts _ (tx_mem htn)
    have lo := hts _ (tx_mem hto)
    refine ⟨_, rfl, b, _, rfl, hB4.bx.getT, _, rfl, TT, _, _, _, rfl, rfl, SqL.of hB4.bx.dr.ta, atI_nat (tAt htn), _, rfl, Sz (by omega), _, rfl, b, _, rfl, hB4.bx.getT, _, rfl, TT, _, _, _, rfl, rfl, SqL.of hB4.bx.dr.ta, atI_nat (tAt hto), _, rfl, Sz (by omega), _, _, rfl, rfl, _, rfl, _, _, rfl, rfl, _, rfl, ?_⟩
    rw [S_len, S_len]
    refine ite2 (fun z => ?_) (fun _ => ⟨nb, _, hnb, .inl z4, rfl, hB4, f4⟩)
    have z : ((tx ts nb).length : Int) + ((tx ts ot).length : Int) ≤ (most : Int) := of_decide_eq_true z
    refine ⟨_, rfl, _, rfl, _, rfl, by show 3 ≤ sizeLine; decide, fun u nu => ?_⟩
    have s5 := same_new (o := .tup [.str "join", .int (nb : Int), .int (ot : Int)]) nu
    have hB5 := hB4.same s5
    refine ⟨_, rfl, b, _, rfl, hB5.bx.getT, _, rfl, TT, _, _, _, rfl, rfl, SqL.of hB5.bx.dr.ta, atI_nat (tAt htn), _, rfl, b, _, rfl, hB5.bx.getT, _, rfl, TT, _, _, _, rfl, rfl, SqL.of hB5.bx.dr.ta, atI_nat (tAt hto), _, _, rfl, rfl, by rw [S_len, S_len]; exact Nat.le_of_lt (small1000 (by omega)), ?_⟩
    rw [S_cat]
    have eL : (tx ts nb ++ tx ts ot).length ≤ most := by rw [List.length_append]; omega
    refine addP (E := C8.E0) (r := .join nb ot) hB5 upd_same ⟨htn, hto⟩ rfl (by omega) (by omega) fun R' T' H' hB' f' => ?_
    exact q R' T' u _ _ H' hB' eL ((f4.pb.trans (Same.pb s5)).trans f'.pb)
  rintro σ H3 ⟨nb, v8, hnb, hk4, rfl, hB3, f3⟩
  refine ⟨_, rfl, rfl, _, rfl, ite2 (fun z => ?_) (fun _ => ?_)⟩
  · have z : kd = 4 := V.int.inj (of_decide_eq_true z)
    obtain rfl : nb = i := by omega
    refine ⟨_, rfl, _, rfl, by show 2 ≤ sizeLine; decide, fun u nu => ?_⟩
    have s5 := same_new (o := .tup [.str "back", .int (nb : Int)]) nu
    refine ⟨_, rfl, L, rfl, by omega, ?_⟩
    refine addP (E := C8.E0) (r := .back nb) (hB3.same s5) upd_same hti (by rw [← hL]; rfl) (by rw [List.length_reverse]; omega) (by omega) fun R' T' H' hB' f' => ?_
    exact q R' T' u _ _ H' hB' (by rw [List.length_reverse]; omega) ((f3.pb.trans (Same.pb s5)).trans f'.pb)
  refine ⟨_, rfl, rfl, _, rfl, ite2 (fun z => ?_) (fun _ => ?_)⟩
  · have z : kd = 5 := V.int.inj (of_decide_eq_true z)
    obtain rfl : nb = i := by omega
    refine ⟨_, rfl, _, rfl, _, rfl, Sz (by omega), _, _, rfl, rfl, p, c, _, rfl, by rw [S_len]; omega, by rw [S_len]; omega, hB3.po, fun r4 H4 r40 r41 hP4 f4 => ?_⟩
    rw [S_len] at r41
    obtain ⟨st, rfl⟩ := Int.eq_ofNat_of_zero_le r40
    have hB4 := hB3.frm hP4 f4
    refine ⟨_, rfl, _, rfl, _, rfl, _, rfl, Sz (by omega), _, rfl, _, _, rfl, rfl, _, _, rfl, rfl, p, c, _, rfl, by rw [S_len]; omega, by rw [S_len]; omega, hB4.po, fun r5 H5 r50 r51 hP5 f5 => ⟨_, _, rfl, rfl, ?_⟩⟩
    rw [S_len] at r51
    obtain ⟨ln, rfl⟩ := Int.eq_ofNat_of_zero_le r50
    have hB5 := hB4.frm hP5 f5
    refine ⟨_, rfl, _, rfl, _, rfl, _, rfl, by show 4 ≤ sizeLine; decide, fun u nu => ?_⟩
    have s5 := same_new (o := .tup [.str "part", .int (nb : Int), .int (st : Int), .int ((st : Int) + (ln : Int))]) nu
    refine ⟨_, rfl, _, rfl, _, rfl, _, rfl, _, rfl, S L, rfl, Sz (by omega), ?_⟩
    have e5 : (st : Int) + (ln : Int) = ((st + ln : Nat) : Int) := by omega
    have hln : st + ln ≤ L.length := by omega
    show spAdd [.ref b, .ref u, .str (cutS (S L) (some (st : Int)) (some ((st : Int) + (ln : Int))))] _ _ C8.E0
    rw [e5, cut_S hln (by omega)]
    have eL : ((L.take (st + ln)).drop st).length ≤ L.length := by rw [List.length_drop, List.length_take]; omega
    refine addP (E := C8.E0) (r := .part nb st (st + ln)) (hB5.same s5) (by rw [upd_same]; show some (HO.tup [_, _, _, V.int ((st : Int) + (ln : Int))]) = _; rw [e5]; rfl) ⟨hti, by omega, by rw [hL]; exact hln⟩ (by rw [← hL]; rfl) (by omega) (by omega) fun R' T' H' hB' f' => ?_
    exact q R' T' u _ _ H' hB' (by omega) (((((f3.trans f4).trans f5).pb).trans (Same.pb s5)).trans f'.pb)
  refine ⟨_, rfl, _, rfl, _, rfl, p, c, b, R, TT, as, rs, ts, most, rfl, hB3, hmost, hpos, h100, fun R' T' u r l H' hB' hl' f' => q R' T' u r l H' hB' hl' (f3.pb.trans f')⟩
end
theorem tx_app {ts : List (List Nat)} {l : List Nat} {i : Nat} (h : i < ts.length) : tx (ts ++ [l]) i = tx ts i := by
  unfold tx
  rw [List.getD_eq_getElem?_getD, List.getD_eq_getElem?_getD, List.getElem?_append_left h]
theorem tx_last {ts : List (List Nat)} {l : List Nat} {i : Nat} (h : i = ts.length) : tx (ts ++ [l]) i = l := by
  subst h
  unfold tx
  rw [List.getD_eq_getElem?_getD, List.getElem?_append_right (Nat.le_refl _), Nat.sub_self]
  rfl
theorem all_app {ts : List (List Nat)} {l : List Nat} {n : Nat} (h : ∀ x ∈ ts, x.length ≤ n) (hl : l.length ≤ n) : ∀ x ∈ ts ++ [l], x.length ≤ n := fun x hx => by
  rcases List.mem_append.mp hx with h1 | h1
  · exact h x h1
  · rw [List.mem_singleton.mp h1]
    exact hl
section
variable {P : Program} {w : World} {K : PySem.W.Frag} {mg : Str → Option Value} {base : Heap}
/-! ### _law_turned_letter -/
def MoreRules (p c b : Addr) (rs : List Rule) (most k : Nat) (H : Hp) (Q : Hp → Prop) : Prop :=
  ∀ (R' T' : Addr) (as' : List Addr) (rs' : List Rule) (ts' : List (List Nat)) (H' : Hp), PB H' p c b R' T' as' rs' ts' → 1 ≤ rs'.length → rs'.length ≤ rs.length + k → (∀ l ∈ ts', l.length ≤ most) → FrPB p b H H' → Q H'
def spBTurned : Sp := fun vs H Q _ => ∃ (p c b R T : Addr) (as : List Addr) (rs : List Rule) (ts : List (List Nat)) (most : Nat), vs = [.ref p, .ref b, .int (most : Int)] ∧ PB H p c b R T as rs ts ∧ most ≤ 400 ∧ 1 ≤ rs.length ∧ rs.length ≤ 100 ∧ (∀ l ∈ ts, l.length ≤ most) ∧ MoreRules p c b rs most 5 H fun H' => Q .non H'
theorem scBt : FnScope ["pool", "box", "most", "text", "last", "at", "letter", "first", "middle", "rest", "both"] ["pool", "box", "most"] (defScope sLTurnedLetter) := ⟨rfl, rfl, rfl, by decide +kernel, rfl, by decide +kernel, by decide +kernel⟩
theorem ok_bturned {f : Addr} {fd : FuncData} (F : Fun K "_law_turned_letter" "_law_turned_letter" sLTurnedLetter f fd) (hm : mg "_law_turned_letter" = some (.ref f)) (b : Binds K fd ["pool", "box", "most"] []) (T : Txt mg) (G : Cal P w K mg base 2 "_law_take" spTake []) (GAd : Cal P w K mg base 1 "_law_add" spAdd []) : Cal P w K mg base 3 "_law_turned_letter" spBTurned [] := by
  refine mkCal F hm b scBt (fun vs H Q E h => ?_) (fun cdv A outer s H vs Q E hr h => ?_)
  · obtain ⟨p, c, b, R, T, as, rs, ts, most, rfl, _⟩ := h
    rfl
  obtain ⟨p, c, b, R, TT, as, rs, ts, most, rfl, hB, hmost, h1, h100, hts, q⟩ := h
  have hu := hu_of hr
  have hlen := hB.bx.len
  have hla : (as.map V.ref).length = rs.length := by rw [List.length_map]; exact hlen.1
  refine ⟨_, (pss_cons (ps_set (i := 3) scBt.nd rfl (.inl rfl) (pe_ix ix_list (pe_dget hu (pv 1) pe_str (fun _ _ => rfl)) (pe_un un_neg pe_int) (fun _ _ => rfl)))
    (pss_cons (ps_if (PW.pt (pw_or (pt_cmpR op_eq (pv 3) pe_str (nomark _)) (pw_or1 (pt_cmpR op_gt (pe_callB call_len_str (by rfl) T.len PySem.boot_len (pa_cons (pv 3) pa_nil)) (pv 2) (nomark _))))) (pss_one ps_retN) pss_nil)
    (pss_cons (ps_set (i := 4) scBt.nd rfl (.inl rfl) (pe_op op_sub (pe_callB call_len_seq (by rfl) T.len PySem.boot_len (pa_cons (pe_dget hu (pv 1) pe_str (fun _ _ => rfl)) pa_nil)) pe_int))
    (pss_cons (ps_set (i := 5) scBt.nd rfl (.inl rfl) (pe_c G hr (by decide) (by rfl) (pa_cons (pv 0) (pa_cons (pe_callB call_len_str (by rfl) T.len PySem.boot_len (pa_cons (pv 3) pa_nil)) pa_nil))))
    (pss_cons (ps_set (i := 6) scBt.nd rfl (.inl rfl) (pe_ix ix_str pe_str (pe_c G hr (by decide) (by rfl) (pa_cons (pv 0) (pa_cons pe_int pa_nil))) (fun _ _ => rfl)))
    (pss_cons (ps_set (i := 7) scBt.nd rfl (.inl rfl) (pe_c GAd hr (by decide) (by rfl) (pa_cons (pv 1) (pa_cons (pe_tup (pa_cons pe_str (pa_cons (pv 4) (pa_cons pe_int (pa_cons (pv 5) pa_nil))))) (pa_cons (pe_slice sl_str (pv 3) po_none (po_some (pv 5))) pa_nil)))))
    (pss_cons (ps_set (i := 8) scBt.nd rfl (.inl rfl) (pe_c GAd hr (by decide) (by rfl) (pa_cons (pv 1) (pa_cons (pe_tup (pa_cons pe_str (pa_cons (pv 6) pa_nil))) (pa_cons (pv 6) pa_nil)))))
    (pss_cons (ps_set (i := 9) scBt.nd rfl (.inl rfl) (pe_c GAd hr (by decide) (by rfl) (pa_cons (pv 1) (pa_cons (pe_tup (pa_cons pe_str (pa_cons (pv 4) (pa_cons (pe_op op_add (pv 5) pe_int) (pa_cons (pe_callB call_len_str (by rfl) T.len PySem.boot_len (pa_cons (pv 3) pa_nil)) pa_nil))))) (pa_cons (pe_slice sl_str (pv 3) (po_some (pe_op op_add (pv 5) pe_int)) po_none) pa_nil)))))
    (pss_cons (ps_set (i := 10) scBt.nd rfl (.inl rfl) (pe_c GAd hr (by decide) (by rfl) (pa_cons (pv 1) (pa_cons (pe_tup (pa_cons pe_str (pa_cons (pv 7) (pa_cons (pv 8) pa_nil)))) (pa_cons (pe_op op_add_str (pe_slice sl_str (pv 3) po_none (po_some (pv 5))) (pv 6)) pa_nil)))))
    (pss_one (ps_expr (pe_c GAd hr (by decide) (by rfl) (pa_cons (pv 1) (pa_cons (pe_tup (pa_cons pe_str (pa_cons (pv 10) (pa_cons (pv 9) pa_nil)))) (pa_cons (pe_op op_add_str (pe_op op_add_str (pe_slice sl_str (pv 3) po_none (po_some (pv 5))) (pv 6)) (pe_slice sl_str (pv 3) (po_some (pe_op op_add (pv 5) pe_int)) po_none)) pa_nil))))))))))))))), ?_⟩
  refine ⟨_, rfl, b, _, rfl, hB.bx.getT, 1, rfl, TT, _, -1, _, rfl, rfl, SqL.of hB.bx.dr.ta, last_tx (by omega), ?_⟩
  have hl := hts _ (tx_mem (show ts.length - 1 < ts.length by omega))
  generalize hL : tx ts (ts.length - 1) = L at hl
  have out : Q .non H := q R TT as rs ts H hB h1 (by omega) hts FrPB.refl
  refine ⟨_, rfl, rfl, _, rfl, ite2 (fun _ => ?_) (fun z => ⟨_, rfl, _, rfl, Sz (by omega), _, rfl, _, _, rfl, rfl, _, rfl, ite2 (fun _ => ?_) (fun _ => ?_)⟩)⟩
  · exact out
  · exact out
  have hne : 1 ≤ L.length := by
    cases L with
    | nil => rw [← S_nil] at z; exact absurd (decide_eq_true rfl) z
    | cons a l => show 1 ≤ l.length + 1; omega
  refine ⟨_, rfl, b, _, rfl, hB.bx.getR, R, _, rfl, .inl (SqL.of hB.bx.dr.ra), _, _, rfl, rfl, ?_⟩
  rw [hla]
  refine ⟨_, rfl, _, rfl, _, rfl, Sz (by omega), p, c, _, rfl, by rw [S_len]; omega, by rw [S_len]; omega, hB.po, fun r H1 r0 r1 hP1 f1 => ?_⟩
  rw [S_len] at r1
  obtain ⟨at_, rfl⟩ := Int.eq_ofNat_of_zero_le r0
  have hat : at_ < L.length := by omega
  have hB1 := hB.frm hP1 f1
  refine ⟨_, rfl, p, c, 3, rfl, by decide, by decide, hB1.po, fun r2 H2 r20 r21 hP2 f2 => ?_⟩
  have hB2 := hB1.frm hP2 f2
  have f12 := f1.trans f2
  obtain ⟨d, hd, ed⟩ : ∃ d : Nat, d ∈ SL ∧ atI ("abc" : Str).cps.toList r2 = some d := by
    have h3 : r2 = 0 ∨ r2 = 1 ∨ r2 = 2 := by omega
    rcases h3 with rfl | rfl | rfl
    · exact ⟨97, SL_a, by decide +kernel⟩
    · exact ⟨98, SL_b, by decide +kernel⟩
    · exact ⟨99, by decide +kernel, by decide +kernel⟩
  refine ⟨_, _, d, rfl, rfl, by decide +kernel, ed, ?_⟩
  -- first
  have hlast : ((rs.length : Int) - 1) = ((rs.length - 1 : Nat) : Int) := by omega
  show gName 6 _ _ _ _
  have hl1 : rs.length - 1 < ts.length := by omega
  have hL1 : tx ts (rs.length - 1) = L := by rw [← hlen.2]; exact hL
  have h7 : L.length ≤ 400 := by omega
  refine ⟨_, rfl, _, rfl, _, rfl, by show 4 ≤ sizeLine; decide, fun u1 n1 => ?_⟩
  have s1 := same_new (o := .tup [.str "part", .int ((rs.length : Int) - 1), .int 0, .int (at_ : Int)]) n1
  refine ⟨_, rfl, _, rfl, _, rfl, S L, rfl, Sz (by omega), ?_⟩
  have e1 : (L.take at_).length = at_ := by rw [List.length_take]; omega
  dsimp only [tNil]
  refine addZ (E := C8.E0) (l := L.take at_) (r := .part (rs.length - 1) 0 at_) cut_to (hB2.same s1) (by rw [upd_same, hlast]; rfl) ⟨hl1, Nat.zero_le _, by rw [hL1]; omega⟩ (by rw [← hL1]; rfl) (by omega) (by omega) fun R3 T3 H3 hB3 f3 => ?_
  have F3 := (f12.pb.trans (Same.pb (b := b) s1)).trans f3.pb
  have ts3 := all_app hts (show (L.take at_).length ≤ most by omega)
  -- middle
  refine ⟨_, rfl, _, rfl, by show 2 ≤ sizeLine; decide, fun u2 n2 => ⟨_, rfl, ?_⟩⟩
  have s2 := same_new (o := .tup [.str "letters", .str (S [d])]) n2
  have l3 := hB3.bx.len
  have k3 : (rs ++ [Rule.part (rs.length - 1) 0 at_]).length = rs.length + 1 := by simp
  dsimp only [tNil]
  refine addP (E := C8.E0) (r := .letters [d]) (hB3.same s2) upd_same ⟨by show 1 ≤ 64; decide, fun x hx => by rw [List.mem_singleton.mp hx]; exact hd⟩ rfl (by show 1 ≤ 400; decide) (by omega) fun R4 T4 H4 hB4 f4 => ?_
  have F4 := (F3.trans (Same.pb (b := b) s2)).trans f4.pb
  have ts4 := all_app ts3 (show [d].length ≤ most by show 1 ≤ most; omega)
  have l4 := hB4.bx.len
  have k4 : (rs ++ [Rule.part (rs.length - 1) 0 at_] ++ [Rule.letters [d]]).length = rs.length + 2 := by simp
  have x3 : tx (ts ++ [L.take at_] ++ [[d]]) (rs.length - 1) = L := by rw [tx_app (by simp; omega), tx_app hl1, hL1]
  -- rest
  refine ⟨_, rfl, _, rfl, _, rfl, _, _, rfl, rfl, _, rfl, _, rfl, Sz (by omega), by show 4 ≤ sizeLine; decide, fun u3 n3 => ?_⟩
  have s3 := same_new (o := .tup [.str "part", .int ((rs.length : Int) - 1), .int ((at_ : Int) + 1), .int ((S L).length : Int)]) n3
  refine ⟨_, rfl, _, rfl, _, _, rfl, rfl, _, rfl, S L, rfl, Sz (by omega), ?_⟩
  have ea : (at_ : Int) + 1 = ((at_ + 1 : Nat) : Int) := by omega
  have e3 : (L.drop (at_ + 1)).length = L.length - (at_ + 1) := List.length_drop
  dsimp only [tNil]
  refine addZ (E := C8.E0) (l := L.drop (at_ + 1)) (r := .part (rs.length - 1) (at_ + 1) L.length) (by rw [ea]; exact cut_fr (by omega)) (hB4.same s3) (by rw [upd_same, hlast, S_len]; show some (HO.tup [_, _, V.int ((at_ : Int) + 1), _]) = _; rw [ea]; rfl) ⟨by simp; omega, by omega, by rw [x3]; exact Nat.le_refl _⟩ (by show _ = ((tx _ _).take L.length).drop (at_ + 1); rw [x3, List.take_length]) (by omega) (by omega) fun R5 T5 H5 hB5 f5 => ?_
  have F5 := (F4.trans (Same.pb (b := b) s3)).trans f5.pb
  have ts5 := all_app ts4 (show (L.drop (at_ + 1)).length ≤ most by omega)
  have l5 := hB5.bx.len
  have k5 : (rs ++ [Rule.part (rs.length - 1) 0 at_] ++ [Rule.letters [d]] ++ [Rule.part (rs.length - 1) (at_ + 1) L.length]).length = rs.length + 3 := by simp
  have y1 : tx (ts ++ [L.take at_] ++ [[d]] ++ [L.drop (at_ + 1)]) rs.length = L.take at_ := by rw [tx_app (by simp; omega), tx_app (by simp; omega), tx_last hlen.2.symm]
  have y2 : tx (ts ++ [L.take at_] ++ [[d]] ++ [L.drop (at_ + 1)]) (rs.length + 1) = [d] := by rw [tx_app (by simp; omega), tx_last (by simp; omega)]
  have y3 : tx (ts ++ [L.take at_] ++ [[d]] ++ [L.drop (at_ + 1)]) (rs.length + 2) = L.drop (at_ + 1) := by rw [tx_last (by simp; omega)]
  -- both
  refine ⟨_, rfl, _, rfl, _, rfl, by show 3 ≤ sizeLine; decide, fun u4 n4 => ?_⟩
  have s4 := same_new (o := .tup [.str "join", .int (rs.length : Int), .int ((rs ++ [Rule.part (rs.length - 1) 0 at_]).length : Int)]) n4
  refine ⟨_, rfl, _, rfl, _, rfl, S L, rfl, Sz (by omega), _, rfl, _, _, rfl, rfl, by rw [cut_to, S_len, S_len, e1]; show at_ + 1 ≤ sizeLine; exact Nat.le_of_lt (small1000 (by omega)), ?_⟩
  have e4 : (L.take at_ ++ [d]).length = at_ + 1 := by rw [List.length_append, e1]; rfl
  dsimp only [tNil]
  refine addZ (E := C8.E0) (l := L.take at_ ++ [d]) (r := .join rs.length (rs.length + 1)) (by rw [cut_to, S_cat]) (hB5.same s4) (by rw [upd_same, k3]; rfl) ⟨by simp; omega, by simp; omega⟩ (by show _ = tx _ _ ++ tx _ _; rw [y1, y2]) (by omega) (by omega) fun R6 T6 H6 hB6 f6 => ?_
  have F6 := (F5.trans (Same.pb (b := b) s4)).trans f6.pb
  have ts6 := all_app ts5 (show (L.take at_ ++ [d]).length ≤ most by omega)
  have l6 := hB6.bx.len
  have k6 : (rs ++ [Rule.part (rs.length - 1) 0 at_] ++ [Rule.letters [d]] ++ [Rule.part (rs.length - 1) (at_ + 1) L.length] ++ [Rule.join rs.length (rs.length + 1)]).length = rs.length + 4 := by simp
  have y4 : tx (ts ++ [L.take at_] ++ [[d]] ++ [L.drop (at_ + 1)] ++ [L.take at_ ++ [d]]) (rs.length + 2) = L.drop (at_ + 1) := by rw [tx_app (by simp; omega), y3]
  have y5 : tx (ts ++ [L.take at_] ++ [[d]] ++ [L.drop (at_ + 1)] ++ [L.take at_ ++ [d]]) (rs.length + 3) = L.take at_ ++ [d] := by rw [tx_last (by simp; omega)]
  -- all
  refine ⟨_, rfl, _, rfl, _, rfl, by show 3 ≤ sizeLine; decide, fun u5 n5 => ?_⟩
  have s5 := same_new (o := .tup [.str "join", .int ((rs ++ [Rule.part (rs.length - 1) 0 at_] ++ [Rule.letters [d]] ++ [Rule.part (rs.length - 1) (at_ + 1) L.length]).length : Int), .int ((rs ++ [Rule.part (rs.length - 1) 0 at_] ++ [Rule.letters [d]]).length : Int)]) n5
  refine ⟨_, rfl, _, rfl, _, rfl, S L, rfl, Sz (by omega), _, rfl, _, _, rfl, rfl, by rw [cut_to, S_len, S_len, e1]; show at_ + 1 ≤ sizeLine; exact Nat.le_of_lt (small1000 (by omega)), _, rfl, _, rfl, _, _, rfl, rfl, _, rfl, S L, rfl, Sz (by omega), ?_⟩
  refine ⟨_, _, rfl, rfl, by rw [cut_to, S_cat, ea, cut_fr (by omega), S_len, S_len, e4, e3]; exact Nat.le_of_lt (small1000 (by omega)), ?_⟩
  have e5 : (L.take at_ ++ [d] ++ L.drop (at_ + 1)).length = L.length := by rw [List.length_append, e4, e3]; omega
  dsimp only [tNil]
  refine addZ (E := C8.E0) (l := L.take at_ ++ [d] ++ L.drop (at_ + 1)) (r := .join (rs.length + 3) (rs.length + 2)) (by rw [cut_to, S_cat, ea, cut_fr (by omega), S_cat]) (hB6.same s5) (by rw [upd_same, k5, k4]; rfl) ⟨by simp; omega, by simp; omega⟩ (by show _ = tx _ _ ++ tx _ _; rw [y4, y5]) (by omega) (by omega) fun R7 T7 H7 hB7 f7 => ?_
  have F7 := (F6.trans (Same.pb (b := b) s5)).trans f7.pb
  exact q R7 T7 _ _ _ H7 hB7 (by simp) (by simp) (all_app ts6 (by omega)) F7
/-! ### _law_drawn -/
def spBDrawn : Sp := fun vs H Q _ => ∃ (p c : Addr) (most : Nat), vs = [.ref p, .int (most : Int)] ∧ Pool H p c ∧ 30 ≤ most ∧ most ≤ 400 ∧
  ∀ (b R T : Addr) (as : List Addr) (rs : List Rule) (ts : List (List Nat)) (H' : Hp), PB H' p c b R T as rs ts → 1 ≤ rs.length → rs.length ≤ 20 → (∀ l ∈ ts, l.length ≤ most) → Frm p H H' → H b = none → Q (.ref b) H'
theorem scBd : FnScope ["pool", "most", "box", "k"] ["pool", "most"] (defScope sLDrawn) := ⟨rfl, rfl, rfl, by decide +kernel, rfl, by decide +kernel, by decide +kernel⟩
theorem ok_bdrawn {f : Addr} {fd : FuncData} (F : Fun K "_law_drawn" "_law_drawn" sLDrawn f fd) (hm : mg "_law_drawn" = some (.ref f)) (b : Binds K fd ["pool", "most"] []) (T : Txt mg) (G : Cal P w K mg base 2 "_law_take" spTake []) (GBx : Cal P w K mg base 1 "_law_box" spBox []) (GNx : Cal P w K mg base 4 "_law_next_rule" spBNext []) (GPr : Cal P w K mg base 3 "_law_power_rule" spBPower []) (GTl : Cal P w K mg base 3 "_law_turned_letter" spBTurned []) : Cal P w K mg base 5 "_law_drawn" spBDrawn [] := by
  refine mkCal F hm b scBd (fun vs H Q E h => ?_) (fun cdv A outer s H vs Q E hr h => ?_)
  · obtain ⟨p, c, most, rfl, _⟩ := h
    rfl
  obtain ⟨p, c, most, rfl, hP, h30, h400, q⟩ := h
  have hu := hu_of hr
  refine ⟨_, (pss_cons (ps_set (i := 2) scBd.nd rfl (.inl rfl) (pe_c0 GBx hr (by decide) (by rfl)))
    (pss_cut (ps_for PassesOwn.never rfl (pi_range1 (by rfl) T.range (pa_cons (pe_op op_add pe_int (pe_c G hr (by decide) (by rfl) (pa_cons (pv 0) (pa_cons pe_int pa_nil)))) pa_nil)) (pg_name (i := 3) scBd.nd rfl (.inl rfl)) (pss_one (ps_expr (pe_c GNx hr (by decide) (by rfl) (pa_cons (pv 0) (pa_cons (pv 2) (pa_cons (pv 1) pa_nil)))))))
    (pss_cut (ps_if (pt_cmpR op_eq (pe_c G hr (by decide) (by rfl) (pa_cons (pv 0) (pa_cons pe_int pa_nil))) pe_int (nomark _)) (pss_one (ps_expr (pe_c GPr hr (by decide) (by rfl) (pa_cons (pv 0) (pa_cons (pv 2) (pa_cons (pv 1) pa_nil)))))) pss_nil)
    (pss_cut (ps_if (pt_cmpR op_eq (pe_c G hr (by decide) (by rfl) (pa_cons (pv 0) (pa_cons pe_int pa_nil))) pe_int (nomark _)) (pss_one (ps_expr (pe_c GTl hr (by decide) (by rfl) (pa_cons (pv 0) (pa_cons (pv 2) (pa_cons (pv 1) pa_nil)))))) pss_nil)
    (pss_one (ps_ret (pv 2))))))), ?_⟩
  refine ⟨rfl, fun b R TT H1 hx s1 nb nR nT => ?_⟩
  have hB1 : PB H1 p c b R TT [] [] [] := ⟨hP.same s1, hx, (hP.ne nb).1, (hP.ne nR).1, (hP.ne nT).1⟩
  have keep : ∀ {H' : Hp}, FrPB p b H1 H' → Frm p H H' := fun f a o h e => f a o h (ne_of_none e nb) (s1 _ _ e)
  refine ⟨fun σ H' => ∃ (R T : Addr) (as : List Addr) (rs : List Rule) (ts : List (List Nat)) (v : Option V), σ = [some (.ref p), some (.int (most : Int)), some (.ref b), v] ∧ PB H' p c b R T as rs ts ∧ 1 ≤ rs.length ∧ rs.length ≤ 14 ∧ (∀ l ∈ ts, l.length ≤ most) ∧ FrPB p b H1 H', ?_, ?_⟩
  · refine ⟨_, rfl, p, c, 14, rfl, by decide, by decide, hB1.po, fun r H2 r0 r1 hP2 f2 => ⟨_, _, rfl, rfl, _, rfl, by omega, by omega, ?_⟩⟩
    refine for_range (lo := 0) (n := (1 + r).toNat) (fun i σ H' => ∃ (R T : Addr) (as : List Addr) (rs : List Rule) (ts : List (List Nat)) (v : Option V), σ = [some (.ref p), some (.int (most : Int)), some (.ref b), v] ∧ PB H' p c b R T as rs ts ∧ rs.length = i ∧ (∀ l ∈ ts, l.length ≤ most) ∧ FrPB p b H1 H')
      ⟨R, TT, [], [], [], none, rfl, hB1.frm hP2 f2, rfl, fun l h => by (cases h), f2.pb⟩ ?_ ?_
    · rintro i σ H3 hi ⟨R3, T3, as, rs, ts, v, rfl, hB3, hrs, hts, f3⟩
      refine ⟨_, rfl, _, rfl, _, rfl, p, c, b, R3, T3, as, rs, ts, most, rfl, hB3, h30, h400, by omega, hts, fun R' T' u r' l H' hB' hl f' => ?_⟩
      exact ⟨R', T', _, _, _, _, rfl, hB', by rw [List.length_append, hrs]; rfl, all_app hts hl, f3.trans f'⟩
    · rintro σ H3 ⟨R3, T3, as, rs, ts, v, rfl, hB3, hrs, hts, f3⟩
      exact ⟨R3, T3, as, rs, ts, v, rfl, hB3, by omega, by omega, hts, f3⟩
  rintro σ H3 ⟨R3, T3, as, rs, ts, v, rfl, hB3, hr1, hr14, hts, f3⟩
  refine ⟨fun σ H' => ∃ (R T : Addr) (as : List Addr) (rs : List Rule) (ts : List (List Nat)), σ = [some (.ref p), some (.int (most : Int)), some (.ref b), v] ∧ PB H' p c b R T as rs ts ∧ 1 ≤ rs.length ∧ rs.length ≤ 15 ∧ (∀ l ∈ ts, l.length ≤ most) ∧ FrPB p b H1 H', ?_, ?_⟩
  · refine ⟨_, rfl, p, c, 3, rfl, by decide, by decide, hB3.po, fun r H4 r0 r1 hP4 f4 => ⟨rfl, _, rfl, ?_⟩⟩
    have hB4 := hB3.frm hP4 f4
    refine ite2 (fun _ => ?_) (fun _ => ⟨R3, T3, as, rs, ts, rfl, hB4, hr1, by omega, hts, f3.trans f4.pb⟩)
    refine ⟨_, rfl, _, rfl, _, rfl, p, c, b, R3, T3, as, rs, ts, most, rfl, hB4, h400, hr1, by omega, fun R' T' u r' l H' hB' hl f' => ?_⟩
    exact ⟨R', T', _, _, _, rfl, hB', by simp, by simp; omega, all_app hts hl, (f3.trans f4.pb).trans f'⟩
  rintro σ H4 ⟨R4, T4, as4, rs4, ts4, rfl, hB4, hs1, hs15, hts4, f4⟩
  refine ⟨fun σ H' => ∃ (R T : Addr) (as : List Addr) (rs : List Rule) (ts : List (List Nat)), σ = [some (.ref p), some (.int (most : Int)), some (.ref b), v] ∧ PB H' p c b R T as rs ts ∧ 1 ≤ rs.length ∧ rs.length ≤ 20 ∧ (∀ l ∈ ts, l.length ≤ most) ∧ FrPB p b H1 H', ?_, ?_⟩
  · refine ⟨_, rfl, p, c, 3, rfl, by decide, by decide, hB4.po, fun r H5 r0 r1 hP5 f5 => ⟨rfl, _, rfl, ?_⟩⟩
    have hB5 := hB4.frm hP5 f5
    refine ite2 (fun _ => ?_) (fun _ => ⟨R4, T4, as4, rs4, ts4, rfl, hB5, hs1, by omega, hts4, f4.trans f5.pb⟩)
    refine ⟨_, rfl, _, rfl, _, rfl, p, c, b, R4, T4, as4, rs4, ts4, most, rfl, hB5, h400, hs1, by omega, hts4, fun R' T' as' rs' ts' H' hB' k1 k5 ht' f' => ?_⟩
    exact ⟨R', T', as', rs', ts', rfl, hB', k1, by omega, ht', (f4.trans f5.pb).trans f'⟩
  rintro σ H5 ⟨R5, T5, as5, rs5, ts5, rfl, hB5, hs1, hs20, hts5, f5⟩
  exact ⟨_, rfl, q b R5 T5 as5 rs5 ts5 H5 hB5 hs1 hs20 hts5 (keep f5) nb⟩
end
/-! ### periods -/
def IsPer (L : List Nat) (n : Nat) : Prop := 1 ≤ n ∧ n ≤ L.length ∧ L.drop n = L.take (L.length - n)
theorem IsPer.take {L : List Nat} {n : Nat} (h : IsPer L n) : ∀ {k : Nat}, n * k ≤ L.length → L.take (n * k) = (List.replicate k (L.take n)).flatten := by
  intro k
  induction k with
  | zero => intro _; simp
  | succ k ih =>
    intro hk
    obtain ⟨h1, h2, h3⟩ := h
    have e : n * (k + 1) = n + n * k := by rw [Nat.mul_succ]; omega
    rw [e] at hk ⊢
    rw [List.replicate_succ, List.flatten_cons, List.take_add, h3, List.take_take, Nat.min_eq_left (by omega), ih (by omega)]
theorem IsPer.drop {L : List Nat} {n : Nat} (h : IsPer L n) : ∀ {k : Nat}, n * k ≤ L.length → L.drop (n * k) = L.take (L.length - n * k) := by
  intro k
  induction k with
  | zero => intro _; simp
  | succ k ih =>
    intro hk
    obtain ⟨h1, h2, h3⟩ := h
    have e : n * (k + 1) = n * k + n := Nat.mul_succ n k
    rw [e] at hk ⊢
    rw [← List.drop_drop, ih (by omega), List.drop_take, h3, List.take_take, Nat.min_eq_left (by omega)]
    congr 1
    omega
section
variable {P : Program} {w : World} {K : PySem.W.Frag} {mg : Str → Option Value} {base : Heap}
/-! ### _law_period -/
def spBPeriod : Sp := fun vs H Q _ => ∃ L : List Nat, vs = [.str (S L)] ∧ L.length ≤ 1000 ∧ ∀ n : Nat, (n = 0 ∨ IsPer L n ∧ 2 * n ≤ L.length) → Q (.int (n : Int)) H
theorem scBe : FnScope ["letters", "size"] ["letters"] (defScope sLPeriod) := ⟨rfl, rfl, rfl, by decide +kernel, rfl, by decide +kernel, by decide +kernel⟩
theorem ok_bperiod {f : Addr} {fd : FuncData} (F : Fun K "_law_period" "_law_period" sLPeriod f fd) (hm : mg "_law_period" = some (.ref f)) (b : Binds K fd ["letters"] []) (T : Txt mg) : Cal P w K mg base 1 "_law_period" spBPeriod [] := by
  refine mkCal F hm b scBe (fun vs H Q E h => ?_) (fun cdv A outer s H vs Q E hr h => ?_)
  · obtain ⟨L, rfl, _⟩ := h
    rfl
  obtain ⟨L, rfl, hL, q⟩ := h
  refine ⟨_, (pss_cons (ps_for PassesOwn.never rfl (pi_range2 (by rfl) T.range (pa_cons pe_int (pa_cons (pe_op op_add (pe_op op_fdiv (pe_callB call_len_str (by rfl) T.len PySem.boot_len (pa_cons (pv 0) pa_nil)) pe_int) pe_int) pa_nil))) (pg_name (i := 1) scBe.nd rfl (.inl rfl)) (pss_one (ps_if (pt_cmpR op_eq (pe_slice sl_str (pv 0) (po_some (pv 1)) po_none) (pe_slice sl_str (pv 0) po_none (po_some (pe_op op_sub (pe_callB call_len_str (by rfl) T.len PySem.boot_len (pa_cons (pv 0) pa_nil)) (pv 1)))) (nomark _)) (pss_one (ps_ret (pv 1))) pss_nil)))
    (pss_one (ps_ret pe_int))), ?_⟩
  refine ⟨_, rfl, _, rfl, Sz (by omega), _, _, rfl, rfl, ⟨by decide, by decide⟩, _, _, rfl, rfl, _, _, rfl, ⟨by omega, by omega, by rw [S_len]; omega, by rw [S_len]; omega⟩, ?_⟩
  refine for_range (lo := 1) (n := (((S L).length : Int) / 2 + 1 - 1).toNat) (fun i σ H' => H' = H ∧ ∃ v : Option V, σ = [some (.str (S L)), v]) ⟨rfl, none, rfl⟩ ?_ ?_
  · rintro i σ H1 hi ⟨rfl, v, rfl⟩
    rw [S_len] at hi
    have hi2 : 2 * (i + 1) ≤ L.length := by omega
    have ei : (1 : Int) + (i : Int) = ((i + 1 : Nat) : Int) := by omega
    rw [ei]
    have e2 : ((S L).length : Int) - ((i + 1 : Nat) : Int) = ((L.length - (i + 1) : Nat) : Int) := by rw [S_len]; omega
    refine ⟨_, rfl, _, rfl, _, rfl, S L, rfl, Sz (by omega), _, rfl, _, rfl, _, rfl, Sz (by omega), _, rfl, _, _, rfl, rfl, ((L.length - (i + 1) : Nat) : Int), by rw [← e2], S L, rfl, Sz (by omega), rfl, _, rfl, ?_⟩
    rw [cut_fr (by omega), cut_to]
    refine ite2 (fun z => ?_) (fun _ => ⟨rfl, _, rfl⟩)
    have z : L.drop (i + 1) = L.take (L.length - (i + 1)) := S_inj (V.str.inj (of_decide_eq_true z))
    exact ⟨_, rfl, q (i + 1) (.inr ⟨⟨by omega, by omega, z⟩, hi2⟩)⟩
  · rintro σ H1 ⟨rfl, v, rfl⟩
    exact q 0 (.inl rfl)
end
def ExtB (ts ts' : List (List Nat)) : Prop := ∃ l, ts' = ts ++ l
theorem ExtB.refl (ts : List (List Nat)) : ExtB ts ts := ⟨[], (List.append_nil ts).symm⟩
theorem ExtB.trans {a b c : List (List Nat)} (h : ExtB a b) (g : ExtB b c) : ExtB a c := by
  obtain ⟨l, rfl⟩ := h
  obtain ⟨m, rfl⟩ := g
  exact ⟨l ++ m, List.append_assoc a l m⟩
theorem ExtB.one {ts ts' : List (List Nat)} (h : ExtB ts ts') (l : List Nat) : ExtB ts (ts' ++ [l]) := h.trans ⟨[l], rfl⟩
theorem ExtB.tx {a b : List (List Nat)} (h : ExtB a b) {i : Nat} (hi : i < a.length) : tx b i = tx a i := by
  obtain ⟨l, rfl⟩ := h
  unfold K4.tx
  rw [List.getD_eq_getElem?_getD, List.getD_eq_getElem?_getD, List.getElem?_append_left hi]
theorem ExtB.len {a b : List (List Nat)} (h : ExtB a b) : a.length ≤ b.length := by
  obtain ⟨l, rfl⟩ := h
  rw [List.length_append]
  omega
def Aw : Nat → Nat
  | 0 => 2
  | d + 1 => 2 * Aw d + 1
theorem Aw_2 : ∀ d, 2 ≤ Aw d
  | 0 => Nat.le_refl _
  | d + 1 => by have := Aw_2 d; show 2 ≤ 2 * Aw d + 1; omega
def Wn (d n : Nat) : Nat := Aw d + 3 * ((n - 33) / 32)
def costW (L : List Nat) (d : Int) : Nat := d.toNat + (L.length - 1) / 32
section
variable {P : Program} {w : World} {K : PySem.W.Frag} {mg : Str → Option Value} {base : Heap}
/-! ### _law_way -/
def GotText (p c b : Addr) (rs : List Rule) (ts : List (List Nat)) (L : List Nat) (m : Nat) (H : Hp) (Q : VK) : Prop :=
  ∀ (R' T' : Addr) (as' : List Addr) (rs' : List Rule) (ts' : List (List Nat)) (H' : Hp), PB H' p c b R' T' as' rs' ts' → ExtB ts ts' → 1 ≤ rs'.length → rs'.length ≤ rs.length + m → tx ts' (rs'.length - 1) = L → FrPB p b H H' → Q (.int ((rs'.length - 1 : Nat) : Int)) H'
def spWay (cst : Nat) : Sp := fun vs H Q _ => ∃ (p c b R T : Addr) (as : List Addr) (rs : List Rule) (ts : List (List Nat)) (L : List Nat) (d : Int), vs = [.ref p, .ref b, .str (S L), .int d] ∧ PB H p c b R T as rs ts ∧ L.length ≤ 400 ∧ (∀ x ∈ L, x ∈ SL) ∧ costW L d < cst ∧ rs.length + Wn d.toNat L.length ≤ 400 ∧ GotText p c b rs ts L (Wn d.toNat L.length) H Q
theorem scBw : FnScope ["pool", "box", "letters", "deep", "kind", "size", "times", "base", "whole", "tail", "at", "first", "rest", "turned", "more", "other", "longer"] ["pool", "box", "letters", "deep"] (defScope sLWay) := ⟨rfl, rfl, rfl, by decide +kernel, rfl, by decide +kernel, by decide +kernel⟩
theorem wayZ {cst : Nat} {p c b R T : Addr} {as : List Addr} {rs : List Rule} {ts : List (List Nat)} {L : List Nat} {d : Int} {z : Str} {H : Hp} {Q : VK} {E : XK} (ez : z = S L) (h : PB H p c b R T as rs ts) (hL : L.length ≤ 400) (hin : ∀ x ∈ L, x ∈ SL) (hc : costW L d < cst) (hr : rs.length + Wn d.toNat L.length ≤ 400)
    (q : GotText p c b rs ts L (Wn d.toNat L.length) H Q) : spWay cst [.ref p, .ref b, .str z, .int d] H Q E := by
  subst ez
  exact ⟨p, c, b, R, T, as, rs, ts, L, d, rfl, h, hL, hin, hc, hr, q⟩
theorem ok_way0 {f : Addr} {fd : FuncData} (F : Fun K "_law_way" "_law_way" sLWay f fd) (hm : mg "_law_way" = some (.ref f)) (b : Binds K fd ["pool", "box", "letters", "deep"] []) : Cal P w K mg base 4 "_law_way" (spWay 0) [] := by
  refine mkCal F hm b scBw (fun vs H Q E h => ?_) (fun cdv A outer s H vs Q E hr h => ?_)
  · obtain ⟨p, c, b, R, T, as, rs, ts, L, d, rfl, _⟩ := h
    rfl
  · obtain ⟨p, c, b, R, T, as, rs, ts, L, d, rfl, _, _, _, h, _⟩ := h
    exact absurd h (Nat.not_lt_zero _)
theorem ok_way1 {cst : Nat} {f : Addr} {fd : FuncData} (F : Fun K "_law_way" "_law_way" sLWay f fd) (hm : mg "_law_way" = some (.ref f)) (b : Binds K fd ["pool", "box", "letters", "deep"] []) (T : Txt mg) (G : Cal P w K mg base 2 "_law_take" spTake []) (GAd : Cal P w K mg base 1 "_law_add" spAdd []) (GLt : Cal P w K mg base 3 "_law_letters" spBLetters []) (GPe : Cal P w K mg base 1 "_law_period" spBPeriod [])
    (GWy : Cal P w K mg base (4 + cst) "_law_way" (spWay cst) []) : Cal P w K mg base (4 + cst + 1) "_law_way" (spWay (cst + 1)) [] := by
  refine mkCal F hm b scBw (fun vs H Q E h => ?_) (fun cdv A outer s H vs Q E hr h => ?_)
  · obtain ⟨p, c, b, R, T, as, rs, ts, L, d, rfl, _⟩ := h
    rfl
  obtain ⟨p, c, b, R, TT, as, rs, ts, L, d, rfl, hB, hL, hin, hcost, hroom, q⟩ := h
  have hu := hu_of hr
  have hlen := hB.bx.len
  have a2 := Aw_2 d.toNat
  unfold costW at hcost
  refine ⟨_, (pss_cons (ps_set (i := 4) scBw.nd rfl (.inl rfl) (pe_c G hr (by omega) (by rfl) (pa_cons (pv 0) (pa_cons pe_int pa_nil))))
    (pss_cons (ps_set (i := 5) scBw.nd rfl (.inl rfl) (pe_c GPe hr (by omega) (by rfl) (pa_cons (pv 2) pa_nil)))
    (pss_cut (ps_if (PW.pt (pw_and (pt_cmpR op_gt (pv 5) pe_int (nomark _)) (pw_and (pt_cmpR op_lt (pv 4) pe_int (nomark _)) (pw_and1 (pt_cmpR op_gt (pv 3) pe_int (nomark _)))))) (pss_cons (ps_set (i := 6) scBw.nd rfl (.inl rfl) (pe_op op_fdiv (pe_callB call_len_str (by rfl) T.len PySem.boot_len (pa_cons (pv 2) pa_nil)) (pv 5)))
    (pss_cons (ps_set (i := 7) scBw.nd rfl (.inl rfl) (pe_c GWy hr (by omega) (by rfl) (pa_cons (pv 0) (pa_cons (pv 1) (pa_cons (pe_slice sl_str (pv 2) po_none (po_some (pv 5))) (pa_cons (pe_op op_sub (pv 3) pe_int) pa_nil))))))
    (pss_cons (ps_set (i := 8) scBw.nd rfl (.inl rfl) (pe_c GAd hr (by omega) (by rfl) (pa_cons (pv 1) (pa_cons (pe_tup (pa_cons pe_str (pa_cons (pv 7) (pa_cons (pv 6) pa_nil)))) (pa_cons (pe_op op_mulS (pe_slice sl_str (pv 2) po_none (po_some (pv 5))) (pv 6)) pa_nil)))))
    (pss_cons (ps_if (pt_cmpR op_eq (pe_op op_mul (pv 5) (pv 6)) (pe_callB call_len_str (by rfl) T.len PySem.boot_len (pa_cons (pv 2) pa_nil)) (nomark _)) (pss_one (ps_ret (pv 8))) pss_nil)
    (pss_cons (ps_set (i := 9) scBw.nd rfl (.inl rfl) (pe_c GAd hr (by omega) (by rfl) (pa_cons (pv 1) (pa_cons (pe_tup (pa_cons pe_str (pa_cons (pv 7) (pa_cons pe_int (pa_cons (pe_op op_sub (pe_callB call_len_str (by rfl) T.len PySem.boot_len (pa_cons (pv 2) pa_nil)) (pe_op op_mul (pv 5) (pv 6))) pa_nil))))) (pa_cons (pe_slice sl_str (pv 2) (po_some (pe_op op_mul (pv 5) (pv 6))) po_none) pa_nil)))))
    (pss_one (ps_ret (pe_c GAd hr (by omega) (by rfl) (pa_cons (pv 1) (pa_cons (pe_tup (pa_cons pe_str (pa_cons (pv 8) (pa_cons (pv 9) pa_nil)))) (pa_cons (pv 2) pa_nil))))))))))) pss_nil)
    (pss_cut (ps_if (PW.pt (pw_or (pt_cmpR op_gt (pe_callB call_len_str (by rfl) T.len PySem.boot_len (pa_cons (pv 2) pa_nil)) pe_int (nomark _)) (pw_or1 (PW.pt (pw_and (pt_cmpR op_lt (pv 4) pe_int (nomark _)) (pw_and (pt_cmpR op_gt (pv 3) pe_int (nomark _)) (pw_and1 (pt_cmpR op_ne (pv 2) pe_str (nomark _))))))))) (pss_cons (ps_set (i := 10) scBw.nd rfl (.inl rfl) (pe_c G hr (by omega) (by rfl) (pa_cons (pv 0) (pa_cons (pe_op op_add (pe_callB call_len_str (by rfl) T.len PySem.boot_len (pa_cons (pv 2) pa_nil)) pe_int) pa_nil))))
    (pss_cut (ps_if (pt_cmpR op_gt (pe_callB call_len_str (by rfl) T.len PySem.boot_len (pa_cons (pv 2) pa_nil)) pe_int (nomark _)) (pss_one (ps_set (i := 10) scBw.nd rfl (.inl rfl) (pe_op op_add pe_int (pe_c G hr (by omega) (by rfl) (pa_cons (pv 0) (pa_cons pe_int pa_nil)))))) pss_nil)
    (pss_cons (ps_set (i := 11) scBw.nd rfl (.inl rfl) (pe_c GWy hr (by omega) (by rfl) (pa_cons (pv 0) (pa_cons (pv 1) (pa_cons (pe_slice sl_str (pv 2) po_none (po_some (pv 10))) (pa_cons (pe_op op_sub (pv 3) pe_int) pa_nil))))))
    (pss_cons (ps_set (i := 12) scBw.nd rfl (.inl rfl) (pe_c GWy hr (by omega) (by rfl) (pa_cons (pv 0) (pa_cons (pv 1) (pa_cons (pe_slice sl_str (pv 2) (po_some (pv 10)) po_none) (pa_cons (pe_op op_sub (pv 3) pe_int) pa_nil))))))
    (pss_one (ps_ret (pe_c GAd hr (by omega) (by rfl) (pa_cons (pv 1) (pa_cons (pe_tup (pa_cons pe_str (pa_cons (pv 11) (pa_cons (pv 12) pa_nil)))) (pa_cons (pv 2) pa_nil)))))))))) pss_nil)
    (pss_cut (ps_if (PW.pt (pw_and (pt_cmpR op_eq (pv 4) pe_int (nomark _)) (pw_and1 (pt_cmpR op_gt (pv 3) pe_int (nomark _))))) (pss_cons (ps_set (i := 13) scBw.nd rfl (.inl rfl) (pe_c GWy hr (by omega) (by rfl) (pa_cons (pv 0) (pa_cons (pv 1) (pa_cons (pe_revS (pv 2)) (pa_cons (pe_op op_sub (pv 3) pe_int) pa_nil))))))
    (pss_one (ps_ret (pe_c GAd hr (by omega) (by rfl) (pa_cons (pv 1) (pa_cons (pe_tup (pa_cons pe_str (pa_cons (pv 13) pa_nil))) (pa_cons (pv 2) pa_nil))))))) pss_nil)
    (pss_cut (ps_if (PW.pt (pw_and (pt_cmpR op_eq (pv 4) pe_int (nomark _)) (pw_and1 (pt_cmpR op_lt (pe_callB call_len_str (by rfl) T.len PySem.boot_len (pa_cons (pv 2) pa_nil)) pe_int (nomark _))))) (pss_cons (ps_set (i := 14) scBw.nd rfl (.inl rfl) (pe_c GLt hr (by omega) (by rfl) (pa_cons (pv 0) (pa_cons pe_int pa_nil))))
    (pss_cons (ps_set (i := 15) scBw.nd rfl (.inl rfl) (pe_c GLt hr (by omega) (by rfl) (pa_cons (pv 0) (pa_cons pe_int pa_nil))))
    (pss_cons (ps_set (i := 16) scBw.nd rfl (.inl rfl) (pe_c GAd hr (by omega) (by rfl) (pa_cons (pv 1) (pa_cons (pe_tup (pa_cons pe_str (pa_cons (pe_op op_add_str (pe_op op_add_str (pv 14) (pv 2)) (pv 15)) pa_nil))) (pa_cons (pe_op op_add_str (pe_op op_add_str (pv 14) (pv 2)) (pv 15)) pa_nil)))))
    (pss_one (ps_ret (pe_c GAd hr (by omega) (by rfl) (pa_cons (pv 1) (pa_cons (pe_tup (pa_cons pe_str (pa_cons (pv 16) (pa_cons (pe_callB call_len_str (by rfl) T.len PySem.boot_len (pa_cons (pv 14) pa_nil)) (pa_cons (pe_op op_add (pe_callB call_len_str (by rfl) T.len PySem.boot_len (pa_cons (pv 14) pa_nil)) (pe_callB call_len_str (by rfl) T.len PySem.boot_len (pa_cons (pv 2) pa_nil))) pa_nil))))) (pa_cons (pv 2) pa_nil))))))))) pss_nil)
    (pss_one (ps_ret (pe_c GAd hr (by omega) (by rfl) (pa_cons (pv 1) (pa_cons (pe_tup (pa_cons pe_str (pa_cons (pv 2) pa_nil))) (pa_cons (pv 2) pa_nil)))))))))))), ?_⟩
  refine ⟨_, rfl, p, c, 7, rfl, by decide, by decide, hB.po, fun kd H1 kd0 kd1 hP1 f1 => ?_⟩
  have hB1 := hB.frm hP1 f1
  refine ⟨_, rfl, L, rfl, by omega, fun n hn => ?_⟩
  -- the last rule
  have fin : ∀ {H3 : Hp} {R3 T3 u : Addr} {as3 : List Addr} {rs3 : List Rule} {ts3 : List (List Nat)} {r : Rule}, PB H3 p c b R3 T3 as3 rs3 ts3 → ExtB ts ts3 → FrPB p b H H3 → rs3.length + 1 ≤ rs.length + Wn d.toNat L.length → H3 u = some (.tup r.vals) → Ok ts3 r → made ts3 r = L → spAdd [.ref b, .ref u, .str (S L)] H3 Q C8.E0 := fun {H3 R3 T3 u as3 rs3 ts3 r} h3 e3 f3 l3 hu3 ok3 m3 => by
    refine addP (E := C8.E0) h3 hu3 ok3 m3.symm hL (by omega) fun R' T' H' hB' f' => ?_
    have := q R' T' _ _ _ H' hB' (e3.one L) (by simp) (by simp; omega) (by have := h3.bx.len; rw [List.length_append]; show tx (ts3 ++ [L]) (rs3.length + 1 - 1) = L; exact tx_last (by omega)) (f3.trans f'.pb)
    rw [show ((rs3 ++ [r]).length - 1 : Nat) = rs3.length by simp] at this
    exact this
  -- calls of itself
  have hWd : ∀ {d' : Nat}, d.toNat = d' + 1 → Aw d.toNat = 2 * Aw d' + 1 := fun e => by rw [e]; rfl
  refine ⟨fun σ H' => H' = H1 ∧ σ = [some (.ref p), some (.ref b), some (.str (S L)), some (.int d), some (.int kd), some (.int (n : Int)), none, none, none, none, none, none, none, none, none, none, none], ?_, ?_⟩
  · refine ⟨_, rfl, _, _, rfl, rfl, _, rfl, ite2 (fun z1 => ?_) (fun _ => ⟨rfl, rfl⟩)⟩
    refine ⟨_, rfl, _, _, rfl, rfl, _, rfl, ite2 (fun _ => ?_) (fun _ => ⟨rfl, rfl⟩)⟩
    refine ⟨_, rfl, _, _, rfl, rfl, _, rfl, ite2 (fun z3 => ?_) (fun _ => ⟨rfl, rfl⟩)⟩
    have z1 : (n : Int) > 0 := of_decide_eq_true z1
    have z3 : d > 0 := of_decide_eq_true z3
    obtain ⟨per, h2n⟩ : IsPer L n ∧ 2 * n ≤ L.length := by
      rcases hn with hn | hn
      · omega
      · exact hn
    obtain ⟨p1, p2, p3⟩ := id per
    obtain ⟨d', ed⟩ : ∃ d' : Nat, d.toNat = d' + 1 := ⟨d.toNat - 1, by omega⟩
    have ed1 : (d - 1).toNat = d' := by omega
    have eA := hWd ed
    have aD := Aw_2 d'
    have lt : (L.take n).length = n := by rw [List.length_take]; omega
    have hW : Wn (d - 1).toNat (L.take n).length + 3 ≤ Wn d.toNat L.length := by
      unfold Wn
      rw [ed1, eA, lt]
      omega
    have ek : ((S L).length : Int) / (n : Int) = ((L.length / n : Nat) : Int) := by rw [S_len]; rfl
    have hk := Nat.div_add_mod L.length n
    have hm := Nat.mod_lt L.length p1
    have hkl : L.length / n ≤ L.length := Nat.div_le_self _ _
    refine ⟨_, rfl, _, rfl, Sz (by omega), _, rfl, _, _, rfl, rfl, ⟨by omega, by omega⟩, ?_⟩
    show gName 6 (V.int (((S L).length : Int) / (n : Int))) _ _ _
    rw [ek]
    generalize hkk : L.length / n = k at hk hkl
    have hnk : n * k ≤ L.length := by omega
    have hnki : (n : Int) * (k : Int) = ((n * k : Nat) : Int) := (Int.natCast_mul n k).symm
    refine ⟨_, rfl, _, rfl, _, rfl, _, rfl, _, rfl, S L, rfl, Sz (by omega), _, rfl, _, _, rfl, rfl, ?_⟩
    refine wayZ (E := C8.E0) (L := L.take n) (d := d - 1) cut_to hB1 (by omega) (fun x hx => hin x (List.mem_of_mem_take hx)) (by unfold costW; rw [lt]; omega) (by omega) fun R3 T3 as3 rs3 ts3 H3 hB3 e3 k3 l3 x3 f3 => ?_
    have len3 := hB3.bx.len
    have F3 := f1.pb.trans f3
    -- whole
    refine ⟨_, rfl, _, rfl, _, rfl, by show 3 ≤ sizeLine; decide, fun u nu => ?_⟩
    have s4 := same_new (o := .tup [.str "power", .int ((rs3.length - 1 : Nat) : Int), .int (k : Int)]) nu
    have eM : ((List.replicate k (L.take n)).flatten).length = k * (L.take n).length := flat_len (L.take n) k
    rw [lt, Nat.mul_comm] at eM
    refine ⟨_, rfl, _, rfl, _, rfl, S L, rfl, Sz (by omega), _, rfl, L.take n, k, congrArg V.str cut_to, rfl, by omega, by rw [lt, Nat.mul_comm]; omega, by omega, ?_⟩
    dsimp only [tNil]
    refine addP (E := C8.E0) (r := .power (rs3.length - 1) k) (hB3.same s4) upd_same ⟨by omega, by omega⟩ (by show _ = (List.replicate k (tx ts3 (rs3.length - 1))).flatten; rw [x3]) (by omega) (by omega) fun R5 T5 H5 hB5 f5 => ?_
    have F5 := (F3.trans (Same.pb (b := b) s4)).trans f5.pb
    have e5 := e3.one (List.replicate k (L.take n)).flatten
    have tk := per.take hnk
    have dk := per.drop hnk
    refine ⟨_, rfl, _, rfl, _, _, rfl, rfl, .inl ⟨by omega, by omega⟩, _, rfl, _, rfl, Sz (by omega), rfl, _, rfl, ite2 (fun z => ?_) (fun _ => ?_)⟩
    · have z : (n : Int) * (k : Int) = ((S L).length : Int) := V.int.inj (of_decide_eq_true z)
      rw [S_len, hnki] at z
      have z' : n * k = L.length := by omega
      have eL : (List.replicate k (L.take n)).flatten = L := by rw [← tk, z', List.take_length]
      have := q R5 T5 _ _ _ H5 hB5 e5 (by simp) (by simp; omega) (by rw [List.length_append]; show tx (ts3 ++ _) (rs3.length + 1 - 1) = L; rw [tx_last (by omega)]; exact eL) F5
      rw [show ((rs3 ++ [Rule.power (rs3.length - 1) k]).length - 1 : Nat) = rs3.length by simp] at this
      exact ⟨_, rfl, this⟩
    -- tail
    have len5 := hB5.bx.len
    have eT : ((S L).length : Int) - (n : Int) * (k : Int) = ((L.length - n * k : Nat) : Int) := by rw [S_len, hnki]; omega
    refine ⟨_, rfl, _, rfl, _, rfl, _, rfl, Sz (by omega), _, rfl, _, rfl, _, _, rfl, rfl, .inl ⟨by omega, by omega⟩, _, _, rfl, rfl, by show 4 ≤ sizeLine; decide, fun u6 n6 => ?_⟩
    have s6 := same_new (o := .tup [.str "part", .int ((rs3.length - 1 : Nat) : Int), .int 0, .int (((S L).length : Int) - (n : Int) * (k : Int))]) n6
    refine ⟨_, rfl, _, rfl, _, rfl, _, _, rfl, rfl, .inl ⟨by omega, by omega⟩, _, rfl, S L, rfl, Sz (by omega), ?_⟩
    have lD : (L.drop (n * k)).length = L.length - n * k := List.length_drop
    have xb : tx (ts3 ++ [(List.replicate k (L.take n)).flatten]) (rs3.length - 1) = L.take n := by rw [tx_app (by omega), x3]
    dsimp only [tNil]
    refine addZ (E := C8.E0) (l := L.drop (n * k)) (r := .part (rs3.length - 1) 0 (L.length - n * k)) (by rw [hnki]; exact cut_fr hnk) (hB5.same s6) (by rw [upd_same, eT]; rfl) ⟨by simp; omega, Nat.zero_le _, by rw [xb, lt]; omega⟩ (by show _ = ((tx _ _).take _).drop 0; rw [xb, dk, List.drop_zero, List.take_take, Nat.min_eq_left (by omega)]) (by omega) (by simp; omega) fun R7 T7 H7 hB7 f7 => ?_
    have len7 := hB7.bx.len
    have F7 := (F5.trans (Same.pb (b := b) s6)).trans f7.pb
    refine ⟨_, rfl, _, rfl, _, rfl, by show 3 ≤ sizeLine; decide, fun u8 n8 => ⟨_, rfl, ?_⟩⟩
    have s8 := same_new (o := .tup [.str "join", .int (rs3.length : Int), .int ((rs3 ++ [Rule.power (rs3.length - 1) k]).length : Int)]) n8
    have y1 : tx (ts3 ++ [(List.replicate k (L.take n)).flatten] ++ [L.drop (n * k)]) rs3.length = (List.replicate k (L.take n)).flatten := by rw [tx_app (by simp; omega), tx_last (by omega)]
    have y2 : tx (ts3 ++ [(List.replicate k (L.take n)).flatten] ++ [L.drop (n * k)]) (rs3.length + 1) = L.drop (n * k) := by rw [tx_last (by simp; omega)]
    refine fin (r := .join rs3.length (rs3.length + 1)) (hB7.same s8) (e5.one _) (F7.trans (Same.pb (b := b) s8)) (by simp; omega) (by rw [upd_same, show (rs3 ++ [Rule.power (rs3.length - 1) k]).length = rs3.length + 1 by simp]; rfl) ⟨by simp; omega, by simp; omega⟩ ?_
    show tx _ _ ++ tx _ _ = L
    rw [y1, y2, ← tk, List.take_append_drop]
  rintro σ H2 ⟨rfl, rfl⟩
  refine ⟨fun σ H' => H' = H2 ∧ L.length ≤ 64 ∧ σ = [some (.ref p), some (.ref b), some (.str (S L)), some (.int d), some (.int kd), some (.int (n : Int)), none, none, none, none, none, none, none, none, none, none, none], ?_, ?_⟩
  · have z64 : ∀ {n : Int}, n = ((S L).length : Int) → ¬ decide (n > 64) = true → L.length ≤ 64 := fun e h => by
      rw [e, S_len] at h
      have : ¬ (L.length : Int) > 64 := fun h2 => h (decide_eq_true h2)
      omega
    refine ⟨_, rfl, _, rfl, Sz (by omega), _, _, rfl, rfl, _, rfl, ite2 (fun z1 => ?a) (fun z0 => ?b0)⟩
    case' b0 =>
      have z0 := z64 rfl z0
      refine ⟨_, rfl, _, _, rfl, rfl, _, rfl, ite2 (fun _ => ?_) (fun _ => ⟨rfl, z0, rfl⟩)⟩
      refine ⟨_, rfl, _, _, rfl, rfl, _, rfl, ite2 (fun z3 => ?_) (fun _ => ⟨rfl, z0, rfl⟩)⟩
      refine ⟨_, rfl, rfl, _, rfl, ite2 (fun z4 => ?a2) (fun _ => ⟨rfl, z0, rfl⟩)⟩
      have hd : 64 < L.length ∨ 0 < d := .inr (of_decide_eq_true z3)
    case' a =>
      have hd : 64 < L.length ∨ 0 < d := by
        have z1 : ((S L).length : Int) > 64 := of_decide_eq_true z1
        rw [S_len] at z1
        exact .inl (by omega)
    case a | b0 =>
      refine ⟨_, rfl, _, rfl, _, rfl, Sz (by omega), _, _, rfl, rfl, p, c, _, rfl, by rw [S_len]; omega, by rw [S_len]; omega, hB1.po, fun r H3 r0 r1 hP3 f3 => ?_⟩
      rw [S_len] at r1
      have hB3 := hB1.frm hP3 f3
      refine ⟨fun σ H' => ∃ at_ : Nat, at_ ≤ L.length ∧ (64 < L.length → 32 ≤ at_ ∧ at_ ≤ 64) ∧ σ = [some (.ref p), some (.ref b), some (.str (S L)), some (.int d), some (.int kd), some (.int (n : Int)), none, none, none, none, some (.int (at_ : Int)), none, none, none, none, none, none] ∧ PB H' p c b R TT as rs ts ∧ Frm p H H', ?_, ?_⟩
      · refine ⟨_, rfl, _, rfl, Sz (by omega), _, _, rfl, rfl, _, rfl, ite2 (fun z => ?_) (fun z => ?_)⟩
        · have z : ((S L).length : Int) > 64 := of_decide_eq_true z
          rw [S_len] at z
          refine ⟨_, rfl, p, c, 33, rfl, by decide, by decide, hB3.po, fun r2 H4 r20 r21 hP4 f4 => ⟨_, _, rfl, rfl, ?_⟩⟩
          obtain ⟨m, rfl⟩ := Int.eq_ofNat_of_zero_le r20
          refine ⟨32 + m, by omega, fun _ => ⟨by omega, by omega⟩, ?_, hB3.frm hP4 f4, (f1.trans f3).trans f4⟩
          rw [show ((32 + m : Nat) : Int) = 32 + (m : Int) by omega]
          rfl
        · have z := z64 rfl z
          obtain ⟨m, rfl⟩ := Int.eq_ofNat_of_zero_le r0
          exact ⟨m, by omega, fun h => by omega, rfl, hB3, f1.trans f3⟩
      rintro σ H4 ⟨at_, hat, h64, rfl, hB4, f4⟩
      have l1 : (L.take at_).length = at_ := by rw [List.length_take]; omega
      have l2 : (L.drop at_).length = L.length - at_ := List.length_drop
      have hWW : Wn (d - 1).toNat at_ + Wn (d - 1).toNat (L.length - at_) + 1 ≤ Wn d.toNat L.length := by
        unfold Wn
        by_cases h0 : 0 < d
        · obtain ⟨d', ed⟩ : ∃ d' : Nat, d.toNat = d' + 1 := ⟨d.toNat - 1, by omega⟩
          have ed1 : (d - 1).toNat = d' := by omega
          rw [ed1, hWd ed]
          omega
        · have e0 : d.toNat = 0 := by omega
          have e1 : (d - 1).toNat = 0 := by omega
          rw [e0, e1]
          show 2 + _ + (2 + _) + 1 ≤ 2 + _
          omega
      refine ⟨_, rfl, _, rfl, _, rfl, _, rfl, _, rfl, S L, rfl, Sz (by omega), _, rfl, _, _, rfl, rfl, ?_⟩
      refine wayZ (E := C8.E0) (L := L.take at_) (d := d - 1) cut_to hB4 (by omega) (fun x hx => hin x (List.mem_of_mem_take hx)) (by unfold costW; rw [l1]; omega) (by rw [l1]; omega) fun R5 T5 as5 rs5 ts5 H5 hB5 e5 k5 m5 x5 f5 => ?_
      rw [l1] at m5
      have len5 := hB5.bx.len
      refine ⟨_, rfl, _, rfl, _, rfl, _, rfl, _, rfl, S L, rfl, Sz (by omega), _, rfl, _, _, rfl, rfl, ?_⟩
      refine wayZ (E := C8.E0) (L := L.drop at_) (d := d - 1) (cut_fr hat) hB5 (by omega) (fun x hx => hin x (List.mem_of_mem_drop hx)) (by unfold costW; rw [l2]; omega) (by rw [l2]; omega) fun R6 T6 as6 rs6 ts6 H6 hB6 e6 k6 m6 x6 f6 => ?_
      rw [l2] at m6
      have len6 := hB6.bx.len
      have el6 := e6.len
      refine ⟨_, rfl, _, rfl, _, rfl, by show 3 ≤ sizeLine; decide, fun u8 n8 => ⟨_, rfl, ?_⟩⟩
      have s8 := same_new (o := .tup [.str "join", .int ((rs5.length - 1 : Nat) : Int), .int ((rs6.length - 1 : Nat) : Int)]) n8
      refine fin (r := .join (rs5.length - 1) (rs6.length - 1)) (hB6.same s8) (e5.trans e6) (((f4.pb.trans f5).trans f6).trans (Same.pb (b := b) s8)) (by omega) upd_same ⟨by omega, by omega⟩ ?_
      show tx _ _ ++ tx _ _ = L
      rw [x6, e6.tx (by omega), x5, List.take_append_drop]
  rintro σ H3 ⟨rfl, h64, rfl⟩
  refine ⟨fun σ H' => H' = H3 ∧ σ = [some (.ref p), some (.ref b), some (.str (S L)), some (.int d), some (.int kd), some (.int (n : Int)), none, none, none, none, none, none, none, none, none, none, none], ?_, ?_⟩
  · refine ⟨_, rfl, rfl, _, rfl, ite2 (fun _ => ?_) (fun _ => ⟨rfl, rfl⟩)⟩
    refine ⟨_, rfl, _, _, rfl, rfl, _, rfl, ite2 (fun z3 => ?_) (fun _ => ⟨rfl, rfl⟩)⟩
    have z3 : d > 0 := of_decide_eq_true z3
    obtain ⟨d', ed⟩ : ∃ d' : Nat, d.toNat = d' + 1 := ⟨d.toNat - 1, by omega⟩
    have ed1 : (d - 1).toNat = d' := by omega
    have eA := hWd ed
    have aD := Aw_2 d'
    have lr : L.reverse.length = L.length := List.length_reverse
    have hW : Wn (d - 1).toNat L.reverse.length + 1 ≤ Wn d.toNat L.length := by
      unfold Wn
      rw [ed1, eA, lr]
      omega
    refine ⟨_, rfl, _, rfl, _, rfl, L, rfl, by omega, _, rfl, _, _, rfl, rfl, ?_⟩
    refine wayZ (E := C8.E0) (L := L.reverse) (d := d - 1) rfl hB1 (by omega) (fun x hx => hin x (List.mem_reverse.mp hx)) (by unfold costW; rw [lr]; omega) (by omega) fun R5 T5 as5 rs5 ts5 H5 hB5 e5 k5 m5 x5 f5 => ?_
    have len5 := hB5.bx.len
    refine ⟨_, rfl, _, rfl, by show 2 ≤ sizeLine; decide, fun u8 n8 => ⟨_, rfl, ?_⟩⟩
    have s8 := same_new (o := .tup [.str "back", .int ((rs5.length - 1 : Nat) : Int)]) n8
    refine fin (r := .back (rs5.length - 1)) (hB5.same s8) e5 ((f1.pb.trans f5).trans (Same.pb (b := b) s8)) (by omega) upd_same (by show _ < _; omega) ?_
    show (tx _ _).reverse = L
    rw [x5, List.reverse_reverse]
  rintro σ H4 ⟨rfl, rfl⟩
  have hW2 : 2 ≤ Wn d.toNat L.length := by unfold Wn; omega
  refine ⟨fun σ H' => H' = H4 ∧ σ = [some (.ref p), some (.ref b), some (.str (S L)), some (.int d), some (.int kd), some (.int (n : Int)), none, none, none, none, none, none, none, none, none, none, none], ?_, ?_⟩
  · refine ⟨_, rfl, rfl, _, rfl, ite2 (fun _ => ?_) (fun _ => ⟨rfl, rfl⟩)⟩
    refine ⟨_, rfl, _, rfl, Sz (by omega), _, _, rfl, rfl, _, rfl, ite2 (fun z => ?_) (fun _ => ⟨rfl, rfl⟩)⟩
    have z : ((S L).length : Int) < 60 := of_decide_eq_true z
    rw [S_len] at z
    refine ⟨_, rfl, p, c, 2, rfl, hB1.po, by decide, fun m H5 hm hmi hP5 f5 => ?_⟩
    have hB5 := hB1.frm hP5 f5
    refine ⟨_, rfl, p, c, 2, rfl, hB5.po, by decide, fun o H6 ho hoi hP6 f6 => ?_⟩
    have hB6 := hB5.frm hP6 f6
    have F6 := ((f1.trans f5).trans f6).pb (b := b)
    have lM : (m ++ L ++ o).length = m.length + L.length + o.length := by rw [List.length_append, List.length_append]
    refine ⟨_, rfl, _, rfl, _, rfl, _, _, rfl, rfl, by rw [S_len, S_len]; exact Nat.le_of_lt (small1000 (by omega)), _, rfl, _, _, rfl, rfl, by rw [S_cat, S_len, S_len]; exact Nat.le_of_lt (small1000 (by rw [List.length_append]; omega)), by show 2 ≤ sizeLine; decide, fun u7 n7 => ?_⟩
    have s7 := same_new (o := .tup [.str "letters", .str (S m ++ S L ++ S o)]) n7
    refine ⟨_, rfl, _, rfl, _, _, rfl, rfl, by rw [S_len, S_len]; exact Nat.le_of_lt (small1000 (by omega)), _, rfl, _, _, rfl, rfl, by rw [S_cat, S_len, S_len]; exact Nat.le_of_lt (small1000 (by rw [List.length_append]; omega)), ?_⟩
    dsimp only [tNil]
    refine addZ (E := C8.E0) (l := m ++ L ++ o) (r := .letters (m ++ L ++ o)) (by rw [S_cat, S_cat]) (hB6.same s7) (by rw [upd_same, S_cat, S_cat]; rfl) ⟨by omega, fun x hx => ?_⟩ rfl (by omega) (by omega) fun R8 T8 H8 hB8 f8 => ?_
    · rcases List.mem_append.mp hx with hx | hx
      · rcases List.mem_append.mp hx with hx | hx
        · exact hmi x hx
        · exact hin x hx
      · exact hoi x hx
    have F8 := (F6.trans (Same.pb (b := b) s7)).trans f8.pb
    have len8 := hB8.bx.len
    refine ⟨_, rfl, _, rfl, _, rfl, _, rfl, Sz (by omega), _, rfl, _, rfl, Sz (by omega), _, rfl, _, rfl, Sz (by omega), _, _, rfl, rfl, by show 4 ≤ sizeLine; decide, fun u9 n9 => ⟨_, rfl, ?_⟩⟩
    have s9 := same_new (o := .tup [.str "part", .int (rs.length : Int), .int ((S m).length : Int), .int (((S m).length : Int) + ((S L).length : Int))]) n9
    have y1 : tx (ts ++ [m ++ L ++ o]) rs.length = m ++ L ++ o := tx_last (by omega)
    refine fin (r := .part rs.length m.length (m.length + L.length)) (hB8.same s9) ((ExtB.refl ts).one _) (F8.trans (Same.pb (b := b) s9)) (by simp; omega) (by rw [upd_same, S_len, S_len]; rfl) ⟨by simp; omega, by omega, by rw [y1]; omega⟩ ?_
    show ((tx _ _).take _).drop _ = L
    rw [y1, List.append_assoc, List.take_append, List.take_of_length_le (by omega), show m.length + L.length - m.length = L.length by omega, List.take_append_of_le_length (Nat.le_refl _), List.take_length, List.drop_append_of_le_length (Nat.le_refl _), List.drop_length, List.nil_append]
  rintro σ H5 ⟨rfl, rfl⟩
  refine ⟨_, rfl, _, rfl, by show 2 ≤ sizeLine; decide, fun u9 n9 => ⟨_, rfl, ?_⟩⟩
  have s9 := same_new (o := .tup [.str "letters", .str (S L)]) n9
  exact fin (r := .letters L) (hB1.same s9) (ExtB.refl ts) (f1.pb.trans (Same.pb (b := b) s9)) (by omega) upd_same ⟨by omega, hin⟩ rfl
end
section
variable {P : Program} {w : World} {K : PySem.W.Frag} {mg : Str → Option Value} {base : Heap}
theorem ok_way {f : Addr} {fd : FuncData} (F : Fun K "_law_way" "_law_way" sLWay f fd) (hm : mg "_law_way" = some (.ref f)) (b : Binds K fd ["pool", "box", "letters", "deep"] []) (T : Txt mg) (G : Cal P w K mg base 2 "_law_take" spTake []) (GAd : Cal P w K mg base 1 "_law_add" spAdd []) (GLt : Cal P w K mg base 3 "_law_letters" spBLetters []) (GPe : Cal P w K mg base 1 "_law_period" spBPeriod []) :
    ∀ cst : Nat, Cal P w K mg base (4 + cst) "_law_way" (spWay cst) []
  | 0 => ok_way0 F hm b
  | cst + 1 => ok_way1 F hm b T G GAd GLt GPe (ok_way F hm b T G GAd GLt GPe cst)
/-! ### _law_other -/
def spOther : Sp := fun vs H Q _ => ∃ (p c : Addr) (L : List Nat), vs = [.ref p, .str (S L)] ∧ Pool H p c ∧ L.length ≤ 400 ∧ (∀ x ∈ L, x ∈ SL) ∧
  ∀ (b R T : Addr) (as : List Addr) (rs : List Rule) (ts : List (List Nat)) (H' : Hp), PB H' p c b R T as rs ts → 1 ≤ rs.length → rs.length ≤ 56 → tx ts (rs.length - 1) = L → Frm p H H' → H b = none → Q (.ref b) H'
theorem scBo : FnScope ["pool", "letters", "box"] ["pool", "letters"] (defScope sLOther) := ⟨rfl, rfl, rfl, by decide +kernel, rfl, by decide +kernel, by decide +kernel⟩
theorem ok_bother {f : Addr} {fd : FuncData} (F : Fun K "_law_other" "_law_other" sLOther f fd) (hm : mg "_law_other" = some (.ref f)) (b : Binds K fd ["pool", "letters"] []) (GBx : Cal P w K mg base 1 "_law_box" spBox []) (GWy : Cal P w K mg base (4 + 16) "_law_way" (spWay 16) []) : Cal P w K mg base 21 "_law_other" spOther [] := by
  refine mkCal F hm b scBo (fun vs H Q E h => ?_) (fun cdv A outer s H vs Q E hr h => ?_)
  · obtain ⟨p, c, L, rfl, _⟩ := h
    rfl
  obtain ⟨p, c, L, rfl, hP, hL, hin, q⟩ := h
  refine ⟨_, (pss_cons (ps_set (i := 2) scBo.nd rfl (.inl rfl) (pe_c0 GBx hr (by decide) (by rfl)))
    (pss_cons (ps_expr (pe_c GWy hr (by decide) (by rfl) (pa_cons (pv 0) (pa_cons (pv 2) (pa_cons (pv 1) (pa_cons pe_int pa_nil))))))
    (pss_one (ps_ret (pv 2))))), ?_⟩
  refine ⟨rfl, fun b R TT H1 hx s1 nb nR nT => ?_⟩
  have hB1 : PB H1 p c b R TT [] [] [] := ⟨hP.same s1, hx, (hP.ne nb).1, (hP.ne nR).1, (hP.ne nT).1⟩
  have hA : Wn (3 : Int).toNat L.length ≤ 56 := by
    unfold Wn
    show 23 + _ ≤ 56
    omega
  refine ⟨_, rfl, _, rfl, _, rfl, p, c, b, R, TT, [], [], [], L, 3, rfl, hB1, hL, hin, by unfold costW; show 3 + _ < 16; omega, by show 0 + _ ≤ 400; omega, fun R' T' as' rs' ts' H' hB' e' k' m' x' f' => ?_⟩
  have m' : rs'.length ≤ 0 + Wn (3 : Int).toNat L.length := m'
  exact ⟨_, rfl, q b R' T' as' rs' ts' H' hB' k' (by omega) x' (fun a o h e => f' a o h (ne_of_none e nb) (s1 _ _ e)) nb⟩
end
/-! ### copies in a list -/
/-- n signs from q on are those from x on -/
def Mt (W : List Nat) (q x n : Nat) : Prop := sub W q (q + n) = sub W x (x + n)
theorem sub_get {l : List Nat} {a b i : Nat} (h : i < b - a) : (sub l a b)[i]? = l[a + i]? := by
  unfold sub
  rw [List.getElem?_drop, List.getElem?_take, if_pos (by omega)]
theorem sub_get_none {l : List Nat} {a b i : Nat} (h : b - a ≤ i) : (sub l a b)[i]? = none := by
  unfold sub
  rw [List.getElem?_drop, List.getElem?_take]
  split
  · omega
  · rfl
theorem sub_eq_iff {l m : List Nat} {a b n : Nat} : sub l a (a + n) = sub m b (b + n) ↔ ∀ i, i < n → l[a + i]? = m[b + i]? := by
  constructor
  · intro h i hi
    have this : (sub l a (a + n))[i]? = (sub m b (b + n))[i]? := by rw [h]
    rw [sub_get (by omega), sub_get (by omega)] at this
    exact this
  · intro h
    apply List.ext_getElem?
    intro i
    by_cases hi : i < n
    · rw [sub_get (by omega), sub_get (by omega)]
      exact h i hi
    · rw [sub_get_none (by omega), sub_get_none (by omega)]
theorem Mt.iff {W : List Nat} {q x n : Nat} : Mt W q x n ↔ ∀ i, i < n → W[q + i]? = W[x + i]? := sub_eq_iff
theorem Mt.less {W : List Nat} {q x n m : Nat} (h : Mt W q x n) (hm : m ≤ n) : Mt W q x m := Mt.iff.mpr fun i hi => Mt.iff.mp h i (by omega)
theorem Mt.on {W : List Nat} {q x n d : Nat} (h : Mt W q x n) (hd : d ≤ n) : Mt W (q + d) (x + d) (n - d) := Mt.iff.mpr fun i hi => by
  have := Mt.iff.mp h (d + i) (by omega)
  rw [← Nat.add_assoc, ← Nat.add_assoc] at this
  exact this
theorem Mt.zero {W : List Nat} {q x : Nat} : Mt W q x 0 := Mt.iff.mpr fun i hi => absurd hi (Nat.not_lt_zero i)
theorem Mt.one_more {W : List Nat} {q x n : Nat} (h : Mt W q x n) (e : W[q + n]? = W[x + n]?) : Mt W q x (n + 1) := Mt.iff.mpr fun i hi => by
  by_cases hi2 : i < n
  · exact Mt.iff.mp h i hi2
  · obtain rfl : i = n := by omega
    exact e
/-- the longest copy at x -/
structure LC (W : List Nat) (x stop f m : Nat) : Prop where
  m1 : 1 ≤ m
  le : x + m ≤ stop
  src : 1 < m → f < x ∧ Mt W f x m
  best : x + m < stop → ∀ q, q < x → ¬ Mt W q x (m + 1)
  first : 1 < m → ∀ q, q < f → ¬ Mt W q x m
theorem LC.most {W : List Nat} {x stop f m q n : Nat} (h : LC W x stop f m) (hq : q < x) (hn : Mt W q x n) (hle : x + n ≤ stop) : n ≤ m := by
  by_cases hm : n ≤ m
  · exact hm
  · exact absurd (hn.less (by omega)) (h.best (by omega) q hq)
theorem LC.mono {W : List Nat} {x y stop f m g k : Nat} (h : LC W x stop f m) (h2 : LC W y stop g k) (hxy : x ≤ y) : x + m ≤ y + k := by
  have k1 := h2.m1
  by_cases hd : y < x + m
  · by_cases hm : 1 < m
    · obtain ⟨hf, mt⟩ := h.src hm
      have hle := h.le
      have := h2.most (q := f + (y - x)) (n := m - (y - x)) (by omega) (by have := mt.on (d := y - x) (by omega); rw [show x + (y - x) = y by omega] at this; exact this) (by omega)
      omega
    · omega
  · omega
inductive Phr where
  | letter (c : Nat) | copy (i s n : Nat)
def Phr.vals : Phr → List V
  | .letter c => [.str "letter", .str (S [c])]
  | .copy i s n => [.str "copy", .int (i : Int), .int (s : Int), .int (n : Int)]
/-- what stands at x: a copy of m from f, or a letter -/
def phOf (W : List Nat) (pl : List (Nat × Nat)) (x f m : Nat) : Phr := if 1 < m then .copy (pl.getD f (0, 0)).1 (pl.getD f (0, 0)).2 m else .letter (W.getD x 0)
/-- phrases, from a to x -/
inductive RowTo (W : List Nat) (pl : List (Nat × Nat)) (stop a : Nat) : List Phr → Nat → Prop
  | nil : RowTo W pl stop a [] a
  | snoc {acc : List Phr} {x f m : Nat} : RowTo W pl stop a acc x → x < stop → LC W x stop f m → RowTo W pl stop a (acc ++ [phOf W pl x f m]) (x + m)
theorem RowTo.le {W : List Nat} {pl : List (Nat × Nat)} {stop a x : Nat} {acc : List Phr} (h : RowTo W pl stop a acc x) (ha : a ≤ stop) : a ≤ x ∧ x ≤ stop ∧ acc.length ≤ x - a := by
  induction h with
  | nil => exact ⟨Nat.le_refl _, ha, by simp⟩
  | snoc h hx lc ih =>
    have := lc.le
    have := lc.m1
    refine ⟨by omega, by omega, ?_⟩
    rw [List.length_append]
    show _ + 1 ≤ _
    omega
/-- places that another cut goes through -/
inductive Steps (W : List Nat) (stop a : Nat) : Nat → Nat → Prop
  | nil : Steps W stop a 0 a
  | snoc {k y n : Nat} : Steps W stop a k y → y < stop → y + n ≤ stop → (n ≤ 1 ∨ ∃ q, q < y ∧ Mt W q y n) → Steps W stop a (k + 1) (y + n)
theorem RowTo.ahead {W : List Nat} {pl : List (Nat × Nat)} {stop a x : Nat} {acc : List Phr} (h : RowTo W pl stop a acc x) : ∀ {k y : Nat}, Steps W stop a k y → k ≤ acc.length → y ≤ x := by
  induction h with
  | nil =>
    intro k y hs hk
    cases hs with
    | nil => exact Nat.le_refl _
    | snoc => exact absurd hk (by simp)
  | @snoc acc x f m h hx lc ih =>
    intro k y hs hk
    cases hs with
    | nil => have := ih (.nil) (Nat.zero_le _); omega
    | @snoc k y n hs hy hle hn =>
      rw [List.length_append] at hk
      have hk : k + 1 ≤ acc.length + 1 := hk
      have hyx := ih hs (by omega)
      have m1 := lc.m1
      rcases hn with hn | ⟨q, hq, mt⟩
      · omega
      · by_cases hd : y + n ≤ x + m
        · exact hd
        · have := lc.most (q := q + (x - y)) (n := n - (x - y)) (by omega) (by have := mt.on (d := x - y) (by omega); rw [show y + (x - y) = x by omega] at this; exact this) (by omega)
          omega
theorem RowTo.fewest {W : List Nat} {pl : List (Nat × Nat)} {stop a : Nat} {acc : List Phr} (h : RowTo W pl stop a acc stop) {k : Nat} (hs : Steps W stop a k stop) : acc.length ≤ k := by
  generalize e : stop = x at h
  cases h with
  | nil => exact Nat.zero_le _
  | @snoc acc x f m h hx lc =>
    subst e
    by_cases hk : k ≤ acc.length
    · have := h.ahead hs hk
      omega
    · rw [List.length_append]
      show acc.length + 1 ≤ k
      omega
/-! ### texts behind one another -/
def plN (Ls : List (List Nat)) : Nat → List (Nat × Nat)
  | 0 => []
  | i + 1 => plN Ls i ++ (List.range ((tx Ls i).length + 1)).map fun s => (i, s)
def WN (Ls : List (List Nat)) : Nat → List Nat
  | 0 => []
  | i + 1 => WN Ls i ++ (tx Ls i ++ [10])
def off (Ls : List (List Nat)) (i : Nat) : Nat := (plN Ls i).length
theorem off_succ (Ls : List (List Nat)) (i : Nat) : off Ls (i + 1) = off Ls i + (tx Ls i).length + 1 := by
  unfold off
  rw [plN, List.length_append, List.length_map, List.length_range]
  omega
theorem WN_len (Ls : List (List Nat)) : ∀ i, (WN Ls i).length = off Ls i
  | 0 => rfl
  | i + 1 => by
    rw [off_succ, WN, List.length_append, List.length_append, WN_len Ls i]
    show _ + (_ + 1) = _
    omega
theorem off_mono {Ls : List (List Nat)} {i j : Nat} (h : i ≤ j) : off Ls i ≤ off Ls j := by
  induction h with
  | refl => exact Nat.le_refl _
  | step _ ih => rw [off_succ]; omega
theorem off_lt {Ls : List (List Nat)} {i j s : Nat} (h : i < j) (hs : s ≤ (tx Ls i).length) : off Ls i + s < off Ls j := by
  have := off_mono (Ls := Ls) (show i + 1 ≤ j from h)
  rw [off_succ] at this
  omega
theorem pl_at {Ls : List (List Nat)} {i s : Nat} (hs : s ≤ (tx Ls i).length) : ∀ {k : Nat}, i < k → (plN Ls k)[off Ls i + s]? = some (i, s)
  | k + 1, h => by
    rw [plN]
    by_cases hi : i < k
    · rw [List.getElem?_append_left (off_lt hi hs)]
      exact pl_at hs hi
    · obtain rfl : i = k := by omega
      rw [List.getElem?_append_right (by unfold off; omega), show off Ls i + s - (plN Ls i).length = s by unfold off; omega, List.getElem?_map, List.getElem?_range (by omega)]
      rfl
theorem W_at {Ls : List (List Nat)} {i s : Nat} (hs : s < (tx Ls i).length) : ∀ {k : Nat}, i < k → (WN Ls k)[off Ls i + s]? = (tx Ls i)[s]?
  | k + 1, h => by
    rw [WN]
    by_cases hi : i < k
    · rw [List.getElem?_append_left (by rw [WN_len]; exact off_lt hi (Nat.le_of_lt hs))]
      exact W_at hs hi
    · obtain rfl : i = k := by omega
      rw [List.getElem?_append_right (by rw [WN_len]; omega), show off Ls i + s - (WN Ls i).length = s by rw [WN_len]; omega, List.getElem?_append_left hs]
theorem W_end {Ls : List (List Nat)} {i : Nat} : ∀ {k : Nat}, i < k → (WN Ls k)[off Ls i + (tx Ls i).length]? = some 10
  | k + 1, h => by
    rw [WN]
    by_cases hi : i < k
    · rw [List.getElem?_append_left (by rw [WN_len]; exact off_lt hi (Nat.le_refl _))]
      exact W_end hi
    · obtain rfl : i = k := by omega
      rw [List.getElem?_append_right (by rw [WN_len]; omega), show off Ls i + (tx Ls i).length - (WN Ls i).length = (tx Ls i).length by rw [WN_len]; omega, List.getElem?_append_right (Nat.le_refl _), Nat.sub_self]
      rfl
theorem off_find {Ls : List (List Nat)} : ∀ {k q : Nat}, q < off Ls k → ∃ i s, i < k ∧ s ≤ (tx Ls i).length ∧ q = off Ls i + s
  | 0, q, h => absurd h (Nat.not_lt_zero _)
  | k + 1, q, h => by
    by_cases hq : q < off Ls k
    · obtain ⟨i, s, h1, h2, h3⟩ := off_find hq
      exact ⟨i, s, by omega, h2, h3⟩
    · rw [off_succ] at h
      exact ⟨k, q - off Ls k, Nat.lt_succ_self _, by omega, by omega⟩
/-- all of them, joined by line feeds -/
def WH (Ls : List (List Nat)) : List Nat := (WN Ls Ls.length).dropLast
theorem WH_len (Ls : List (List Nat)) : (WH Ls).length = off Ls Ls.length - 1 := by rw [WH, List.length_dropLast, WN_len]
theorem WH_at {Ls : List (List Nat)} {q : Nat} (h : q + 1 < off Ls Ls.length) : (WH Ls)[q]? = (WN Ls Ls.length)[q]? := by
  rw [WH, List.dropLast_eq_take, List.getElem?_take, if_pos (by rw [WN_len]; omega)]
theorem off_nil {Ls : List (List Nat)} : off Ls 0 = 0 := rfl
theorem tx_cons {l : List Nat} {Ls : List (List Nat)} {i : Nat} : tx (l :: Ls) (i + 1) = tx Ls i := by
  unfold tx
  rw [List.getD_eq_getElem?_getD, List.getD_eq_getElem?_getD, List.getElem?_cons_succ]
theorem WN_cons (l : List Nat) (Ls : List (List Nat)) : ∀ k, WN (l :: Ls) (k + 1) = l ++ [10] ++ WN Ls k
  | 0 => by
    show [] ++ (tx (l :: Ls) 0 ++ [10]) = _
    rw [List.nil_append]
    show l ++ [10] = l ++ [10] ++ []
    rw [List.append_nil]
  | k + 1 => by
    rw [WN, WN_cons l Ls k, WN, tx_cons, List.append_assoc]
theorem join_WH : ∀ Ls : List (List Nat), TL.joinL [10] Ls = WH Ls
  | [] => rfl
  | [l] => by
    show l = (WN [l] 1).dropLast
    rw [WN_cons]
    show l = (l ++ [10] ++ []).dropLast
    rw [List.append_nil, List.dropLast_concat]
  | l :: m :: r => by
    show l ++ ([10] ++ TL.joinL [10] (m :: r)) = (WN (l :: m :: r) (r.length + 1 + 1)).dropLast
    rw [join_WH (m :: r), WN_cons, List.dropLast_append_of_ne_nil (by rw [WN_cons]; simp), List.append_assoc]
    rfl
theorem WH_get {Ls : List (List Nat)} {i s : Nat} (hi : i < Ls.length) (hs : s < (tx Ls i).length) : (WH Ls)[off Ls i + s]? = (tx Ls i)[s]? := by
  have := off_lt (Ls := Ls) (s := s + 1) hi hs
  rw [WH_at (by omega), W_at hs hi]
theorem WH_sub {Ls : List (List Nat)} {i a n : Nat} (hi : i < Ls.length) (h : a + n ≤ (tx Ls i).length) : sub (WH Ls) (off Ls i + a) (off Ls i + a + n) = sub (tx Ls i) a (a + n) := by
  refine sub_eq_iff.mpr fun j hj => ?_
  rw [Nat.add_assoc]
  exact WH_get hi (by omega)
/-! ### phrases of a cut -/
/-- a phrase that spells what stands at a place of the text with a number -/
def VP (Ls : List (List Nat)) (num at_ : Nat) : Phr → Prop
  | .letter c => at_ < (tx Ls num).length ∧ (tx Ls num)[at_]? = some c
  | .copy i s n => 1 ≤ n ∧ at_ + n ≤ (tx Ls num).length ∧ (i < num ∧ s + n ≤ (tx Ls i).length ∨ i = num ∧ s < at_) ∧ sub (tx Ls i) s (s + n) = sub (tx Ls num) at_ (at_ + n)
def Phr.n : Phr → Nat
  | .letter _ => 1
  | .copy _ _ n => n
/-- phrases of the text with a number, up to a place -/
inductive Spl (Ls : List (List Nat)) (num : Nat) : List Phr → Nat → Prop
  | nil : Spl Ls num [] 0
  | snoc {acc : List Phr} {x : Nat} {p : Phr} : Spl Ls num acc x → VP Ls num x p → Spl Ls num (acc ++ [p]) (x + p.n)
theorem VP.n1 {Ls : List (List Nat)} {num x : Nat} {p : Phr} (h : VP Ls num x p) : 1 ≤ p.n ∧ x + p.n ≤ (tx Ls num).length := by
  cases p with
  | letter c => exact ⟨Nat.le_refl _, h.1⟩
  | copy i s n => exact ⟨h.1, h.2.1⟩
theorem Spl.steps {Ls : List (List Nat)} {num : Nat} (hn : num < Ls.length) {acc : List Phr} {x : Nat} (h : Spl Ls num acc x) : Steps (WH Ls) (off Ls num + (tx Ls num).length) (off Ls num) acc.length (off Ls num + x) := by
  induction h with
  | nil => exact .nil
  | @snoc acc x p h hv ih =>
    obtain ⟨n1, n2⟩ := hv.n1
    rw [List.length_append]
    show Steps _ _ _ (acc.length + 1) (off Ls num + (x + p.n))
    rw [← Nat.add_assoc]
    refine .snoc ih (by omega) (by omega) ?_
    cases p with
    | letter c => exact .inl (Nat.le_refl _)
    | copy i s n =>
      obtain ⟨k1, k2, k3, k4⟩ := hv
      have eq : ∀ {i' : Nat}, i' < Ls.length → s + n ≤ (tx Ls i').length → sub (tx Ls i') s (s + n) = sub (tx Ls num) x (x + n) → Mt (WH Ls) (off Ls i' + s) (off Ls num + x) n := fun hi hs e => by
        unfold Mt
        rw [WH_sub hi hs, WH_sub hn k2, e]
      rcases k3 with ⟨hi, hs⟩ | ⟨rfl, hs⟩
      · refine .inr ⟨off Ls i + s, ?_, eq (by omega) hs k4⟩
        have := off_lt (Ls := Ls) hi (show s ≤ _ by omega)
        omega
      · exact .inr ⟨off Ls i + s, by omega, eq hn (by omega) k4⟩
/-- what a row of longest copies tells is a cut -/
theorem RowTo.spl {Ls : List (List Nat)} {num : Nat} (hn : num < Ls.length) (h10 : ∀ l ∈ Ls, 10 ∉ l) {x : Nat} {acc : List Phr} (h : RowTo (WH Ls) (plN Ls (num + 1)) (off Ls num + (tx Ls num).length) (off Ls num) acc x) : off Ls num ≤ x ∧ Spl Ls num acc (x - off Ls num) := by
  induction h with
  | nil => exact ⟨Nat.le_refl _, by rw [Nat.sub_self]; exact .nil⟩
  | @snoc acc x f m h hx lc ih =>
    obtain ⟨hx0, ih⟩ := ih
    refine ⟨by omega, ?_⟩
    obtain ⟨y, rfl⟩ : ∃ y, x = off Ls num + y := ⟨x - off Ls num, by omega⟩
    rw [show off Ls num + y - off Ls num = y by omega] at ih
    have hle := lc.le
    have hyl : y < (tx Ls num).length := by omega
    rw [show off Ls num + y + m - off Ls num = y + m by omega]
    unfold phOf
    split
    · rename_i hm
      obtain ⟨hf, mt⟩ := lc.src hm
      obtain ⟨i, s, hi, hs, ef⟩ := off_find (Ls := Ls) (k := num + 1) (q := f) (by rw [off_succ]; omega)
      have epl : (plN Ls (num + 1)).getD f (0, 0) = (i, s) := by
        rw [List.getD_eq_getElem?_getD, ef, pl_at hs hi]
        rfl
      rw [epl]
      subst ef
      have hm1 := lc.m1
      -- within one text
      have hsm : s + m ≤ (tx Ls i).length := by
        by_cases hlt : s + m ≤ (tx Ls i).length
        · exact hlt
        · exfalso
          have e1 := Mt.iff.mp mt ((tx Ls i).length - s) (by omega)
          rw [show off Ls i + s + ((tx Ls i).length - s) = off Ls i + (tx Ls i).length by omega] at e1
          have hil : i < Ls.length := by omega
          have e2 : (WH Ls)[off Ls num + y + ((tx Ls i).length - s)]? = (tx Ls num)[y + ((tx Ls i).length - s)]? := by
            rw [Nat.add_assoc]
            exact WH_get hn (by omega)
          have hq : off Ls i + (tx Ls i).length + 1 < off Ls Ls.length := by
            have h1 : off Ls i + (tx Ls i).length < off Ls num + (tx Ls num).length := by omega
            have h2 := off_lt (Ls := Ls) hn (Nat.le_refl _)
            omega
          rw [WH_at hq, W_end hil, e2] at e1
          have mem := List.mem_of_getElem? e1.symm
          exact h10 _ (tx_mem hn) mem
      have e : sub (tx Ls i) s (s + m) = sub (tx Ls num) y (y + m) := by
        rw [← WH_sub (show i < Ls.length by omega) hsm, ← WH_sub hn (show y + m ≤ _ by omega)]
        exact mt
      have hv : VP Ls num y (.copy i s m) := by
        refine ⟨hm1, by omega, ?_, e⟩
        by_cases hin : i = num
        · subst hin
          exact .inr ⟨rfl, by omega⟩
        · exact .inl ⟨by omega, hsm⟩
      exact .snoc ih hv
    · rename_i hm
      obtain rfl : m = 1 := by have := lc.m1; omega
      have hv : VP Ls num y (.letter ((WH Ls).getD (off Ls num + y) 0)) := by
        refine ⟨hyl, ?_⟩
        rw [List.getD_eq_getElem?_getD, WH_get hn hyl, List.getElem?_eq_getElem hyl]
        rfl
      exact .snoc ih hv
theorem Spl.le {Ls : List (List Nat)} {num : Nat} {acc : List Phr} {x : Nat} (h : Spl Ls num acc x) : x ≤ (tx Ls num).length ∧ acc.length ≤ x := by
  induction h with
  | nil => exact ⟨Nat.zero_le _, Nat.le_refl _⟩
  | snoc h hv ih =>
    obtain ⟨n1, n2⟩ := hv.n1
    refine ⟨n2, ?_⟩
    rw [List.length_append]
    show _ + 1 ≤ _
    omega
/-! ### find -/
theorem range_at {lo n a : Nat} {pre post : List Nat} (h : List.range' lo n = pre ++ a :: post) : lo ≤ a ∧ a < lo + n ∧ ∀ k, lo ≤ k → k < a → k ∈ pre := by
  have hl : n = pre.length + (post.length + 1) := by
    have := congrArg List.length h
    simpa using this
  have e1 : a = lo + pre.length := by
    have h1 : (List.range' lo n)[pre.length]? = some a := by rw [h]; simp
    rw [List.getElem?_range' (by omega)] at h1
    have := Option.some.inj h1
    omega
  refine ⟨by omega, by omega, fun k h1 h2 => ?_⟩
  have h3 : (List.range' lo n)[k - lo]? = pre[k - lo]? := by rw [h, List.getElem?_append_left (by omega)]
  rw [List.getElem?_range' (by omega)] at h3
  refine List.mem_of_getElem? (i := k - lo) ?_
  rw [← h3]
  congr 1
  omega
theorem occ_in (x y : Str) (lo hi : Nat) :
    (PySem.Builtin.Str.occurrences x y lo hi 1 = [] ∧ ∀ i, lo ≤ i → ¬ PySem.StrLaws.At x y hi i) ∨ ∃ i r, PySem.Builtin.Str.occurrences x y lo hi 1 = i :: r ∧ lo ≤ i ∧ PySem.StrLaws.At x y hi i ∧ ∀ k, lo ≤ k → k < i → ¬ PySem.StrLaws.At x y hi k := by
  rw [PySem.StrLaws.occ_eq]
  rcases PySem.StrLaws.occ_first x y hi 1 (Nat.le_refl _) (List.range' lo (hi + 1 - lo)) lo (fun i hi' => by simp [List.mem_range'] at hi'; omega) with ⟨h0, hn⟩ | ⟨pre, a, post, e, h0, ha, hn⟩
  · refine .inl ⟨by rw [h0], fun i h1 hi' => ?_⟩
    refine hn i ?_ hi'
    rw [List.mem_range'_1]
    have := hi'.1
    omega
  · obtain ⟨k1, k2, k3⟩ := range_at e
    refine .inr ⟨a, ((forIn (List.range' lo (hi + 1 - lo)) ((#[] : Array Nat), lo) (PySem.StrLaws.occBody x y hi 1)).run.fst.toList).tail, ?_, k1, ha, fun k h1 h2 => hn k (k3 k h1 h2)⟩
    generalize (forIn (List.range' lo (hi + 1 - lo)) ((#[] : Array Nat), lo) (PySem.StrLaws.occBody x y hi 1)).run.fst = arr at h0
    have h1 : arr.toList[0]? = some a := by simpa using h0
    cases hL : arr.toList with
    | nil => rw [hL] at h1; cases h1
    | cons b t => rw [hL] at h1; simp at h1; rw [h1]; rfl
theorem at_sub {W : List Nat} {x n hi q : Nat} (hx : x + n ≤ W.length) (hh : hi ≤ W.length) : PySem.StrLaws.At (S W) (S (sub W x (x + n))) hi q ↔ q + n ≤ hi ∧ Mt W q x n := by
  have hl : (S (sub W x (x + n))).length = n := by rw [S_len, sub_len hx]; omega
  unfold PySem.StrLaws.At
  rw [hl, PySem.StrLaws.subAt_eq, hl]
  have e : (S W).cps.toList = W := by simp [S]
  have e2 : (S (sub W x (x + n))).cps.toList = sub W x (x + n) := by simp [S]
  rw [e, e2, beq_iff_eq]
  have e3 : (W.drop q).take n = sub W q (q + n) := by
    unfold sub
    rw [List.take_drop, Nat.add_comm]
  rw [e3]
  exact Iff.rfl
theorem find_in {W : List Nat} {x n lo hi : Nat} (hx : x + n ≤ W.length) (hh : hi ≤ W.length) :
    (Txt.findIn (S W) (S (sub W x (x + n))) (lo : Int) (hi : Int) = -1 ∧ ∀ q, lo ≤ q → q + n ≤ hi → ¬ Mt W q x n) ∨
    ∃ q : Nat, Txt.findIn (S W) (S (sub W x (x + n))) (lo : Int) (hi : Int) = (q : Int) ∧ lo ≤ q ∧ q + n ≤ hi ∧ Mt W q x n ∧ ∀ k, lo ≤ k → k < q → ¬ Mt W k x n := by
  unfold Txt.findIn
  have e1 : PySem.fromIndex (S W).length (lo : Int) = lo := by
    unfold PySem.fromIndex
    rw [if_neg (by omega)]
    omega
  have e2 : PySem.toIndexW (S W).length (hi : Int) = hi := by
    unfold PySem.toIndexW
    rw [if_neg (by omega), S_len]
    omega
  rw [e1, e2]
  rcases occ_in (S W) (S (sub W x (x + n))) lo hi with ⟨h0, h1⟩ | ⟨q, r, h0, h1, h2, h3⟩
  · rw [h0]
    exact .inl ⟨rfl, fun q k1 k2 mt => h1 q k1 ((at_sub hx hh).mpr ⟨k2, mt⟩)⟩
  · rw [h0]
    obtain ⟨k2, mt⟩ := (at_sub hx hh).mp h2
    exact .inr ⟨q, rfl, h1, k2, mt, fun k j1 j2 m => h3 k j1 j2 ((at_sub hx hh).mpr ⟨by omega, m⟩)⟩
structure LCi (W : List Nat) (x stop f m : Nat) : Prop where
  m1 : 1 ≤ m
  le : x + m ≤ stop
  src : 1 < m → f < x ∧ Mt W f x m
  pre : ∀ q, q < f → ¬ Mt W q x m
theorem atS {W : List Nat} {i : Nat} (h : i < W.length) : atI (S W).cps.toList (i : Int) = some W[i] := by
  rw [show (S W).cps.toList = W by simp [S]]
  exact atI_nat (List.getElem?_eq_getElem h)
section
variable {P : Program} {w : World} {K : PySem.W.Frag} {mg : Str → Option Value} {base : Heap}
/-! ### longest_copy -/
def spLongest : Sp := fun vs H Q _ => ∃ (W : List Nat) (x stop : Nat), vs = [.str (S W), .int (x : Int), .int (stop : Int)] ∧ x < stop ∧ stop ≤ W.length ∧ W.length ≤ 50000 ∧ ∀ (f m : Nat) (t : Addr), LC W x stop f m → H t = none → Q (.ref t) (upd H t (.tup [.int (f : Int), .int (m : Int)]))
theorem scLC : FnScope ["whole", "place", "stop", "first", "many", "found"] ["whole", "place", "stop"] (defScope sLongestCopy) := ⟨rfl, rfl, rfl, by decide +kernel, rfl, by decide +kernel, by decide +kernel⟩
theorem ok_longest {f : Addr} {fd : FuncData} (F : Fun K "longest_copy" "longest_copy" sLongestCopy f fd) (hm : mg "longest_copy" = some (.ref f)) (b : Binds K fd ["whole", "place", "stop"] []) (T : Txt mg) : Cal P w K mg base 1 "longest_copy" spLongest [] := by
  refine mkCal F hm b scLC (fun vs H Q E h => ?_) (fun cdv A outer s H vs Q E hr h => ?_)
  · obtain ⟨W, x, stop, rfl, _⟩ := h
    rfl
  obtain ⟨W, x, stop, rfl, hx, hstop, hW, q⟩ := h
  refine ⟨_, (pss_cons (ps_set (i := 3) scLC.nd rfl (.inl rfl) pe_int)
    (pss_cons (ps_set (i := 4) scLC.nd rfl (.inl rfl) pe_int)
    (pss_cons (ps_while PassesOwn.never (pt_cmpR op_lt (pe_op op_add (pv 1) (pv 4)) (pv 2) (nomark _)) (pss_cons (ps_set (i := 5) scLC.nd rfl (.inl rfl) (pe_bm PySem.F.plainAttrs_str PySem.F.slot_str_find PySem.F.type_str_find mt_find4 (pv 0) (pa_cons (pe_slice sl_str (pv 0) (po_some (pv 1)) (po_some (pe_op op_add (pe_op op_add (pv 1) (pv 4)) pe_int))) (pa_cons (pv 3) (pa_cons (pe_op op_add (pv 1) (pv 4)) pa_nil)))))
    (pss_cons (ps_if (pt_cmpR op_lt (pv 5) pe_int (nomark _)) (pss_one ps_break) pss_nil)
    (pss_cons (ps_set (i := 3) scLC.nd rfl (.inl rfl) (pv 5))
    (pss_cons (ps_aug (i := 4) scLC.nd rfl (.inl rfl) pe_int ip_add)
    (pss_one (ps_while PassesOwn.never (PW.pt (pw_and (pt_cmpR op_lt (pe_op op_add (pv 1) (pv 4)) (pv 2) (nomark _)) (pw_and1 (pt_cmpR op_eq (pe_ix ix_str (pv 0) (pe_op op_add (pv 3) (pv 4)) (fun _ _ => rfl)) (pe_ix ix_str (pv 0) (pe_op op_add (pv 1) (pv 4)) (fun _ _ => rfl)) (nomark _))))) (pss_one (ps_aug (i := 4) scLC.nd rfl (.inl rfl) pe_int ip_add)))))))))
    (pss_one (ps_ret (pe_tup (pa_cons (pv 3) (pa_cons (pv 4) pa_nil)))))))), ?_⟩
  refine ⟨fun μ σ H' => ∃ (f m : Nat) (v : Option V), μ = stop - m ∧ H' = H ∧ LCi W x stop f m ∧ σ = [some (.str (S W)), some (.int (x : Int)), some (.int (stop : Int)), some (.int (f : Int)), some (.int (m : Int)), v], ⟨_, 0, 1, none, rfl, rfl, ⟨Nat.le_refl _, by omega, fun h => by omega, fun q h => absurd h (Nat.not_lt_zero _)⟩, rfl⟩, ?_⟩
  rintro μ σ H' ⟨f, m, v, rfl, rfl, inv, rfl⟩
  obtain ⟨m1, le, src, pre⟩ := id inv
  have e1 : (x : Int) + (m : Int) = ((x + m : Nat) : Int) := by omega
  have e2 : (x : Int) + (m : Int) + 1 = ((x + (m + 1) : Nat) : Int) := by omega
  have fin : (x + m < stop → ∀ q, q < x → ¬ Mt W q x (m + 1)) → LC W x stop f m := fun hb => ⟨m1, le, src, hb, fun _ => pre⟩
  refine ⟨_, rfl, _, rfl, _, _, rfl, rfl, _, rfl, _, _, rfl, rfl, _, rfl, ite2 (fun z => ?_) (fun z => ?_)⟩
  · have z : (x : Int) + (m : Int) < (stop : Int) := of_decide_eq_true z
    refine ⟨fun σ' H'' => ∃ μ', μ' < stop - m ∧ ∃ (f m : Nat) (v : Option V), μ' = stop - m ∧ H'' = H' ∧ LCi W x stop f m ∧ σ' = [some (.str (S W)), some (.int (x : Int)), some (.int (stop : Int)), some (.int (f : Int)), some (.int (m : Int)), v], fun _ _ h => h, ?_⟩
    refine ⟨_, rfl, rfl, _, rfl, _, rfl, _, rfl, _, rfl, _, rfl, _, _, rfl, rfl, _, _, rfl, rfl, ((x + (m + 1) : Nat) : Int), by rw [← e2], S W, rfl, Sz (by omega), _, rfl, _, rfl, _, rfl, _, _, rfl, rfl, S W, S (sub W x (x + (m + 1))), (f : Int), ((x + m : Nat) : Int), rfl, by rw [cut_S (by omega) (by omega), ← e1]; rfl, ?_⟩
    have hfi := find_in (W := W) (x := x) (n := m + 1) (lo := f) (hi := x + m) (by omega) (by omega)
    generalize Txt.findIn (S W) (S (sub W x (x + (m + 1)))) (f : Int) ((x + m : Nat) : Int) = r at hfi ⊢
    rcases hfi with ⟨rfl, no⟩ | ⟨g, rfl, hg, hgm, mt, pre2⟩
    · refine ⟨_, rfl, _, _, rfl, rfl, _, rfl, ifT (by decide) ?_⟩
      refine ⟨_, rfl, _, rfl, by show 2 ≤ sizeLine; decide, fun t nt => q f m t (fin fun _ q hq mtq => ?_) nt⟩
      by_cases hqf : q < f
      · exact pre q hqf (mtq.less (by omega))
      · exact no q (by omega) (by omega) mtq
    · refine ⟨_, rfl, _, _, rfl, rfl, _, rfl, ite2 (fun z2 => ?_) (fun _ => ?_)⟩
      · have z2 : (g : Int) < 0 := of_decide_eq_true z2
        omega
      refine ⟨_, rfl, _, rfl, _, _, rfl, rfl, ?_⟩
      have e3 : (m : Int) + 1 = ((m + 1 : Nat) : Int) := by omega
      refine ⟨fun μ σ H'' => ∃ k : Nat, m < k ∧ μ = stop - k ∧ H'' = H' ∧ x + k ≤ stop ∧ Mt W g x k ∧ σ = [some (.str (S W)), some (.int (x : Int)), some (.int (stop : Int)), some (.int (g : Int)), some (.int (k : Int)), some (.int (g : Int))], ⟨_, m + 1, by omega, rfl, rfl, by omega, mt, by rw [← e3]; rfl⟩, ?_⟩
      rintro μ σ H'' ⟨k, hk, rfl, rfl, hks, mtk, rfl⟩
      have pre3 : ∀ q, q < g → ¬ Mt W q x k := fun q hq mq => by
        by_cases hqf : q < f
        · exact pre q hqf (mq.less (by omega))
        · exact pre2 q (by omega) hq (mq.less (by omega))
      have out : ∃ μ', μ' < stop - m ∧ ∃ (f m : Nat) (v : Option V), μ' = stop - m ∧ H'' = H'' ∧ LCi W x stop f m ∧ [some (V.str (S W)), some (.int (x : Int)), some (.int (stop : Int)), some (.int (g : Int)), some (.int (k : Int)), some (.int (g : Int))] = [some (V.str (S W)), some (.int (x : Int)), some (.int (stop : Int)), some (.int (f : Int)), some (.int (m : Int)), v] :=
        ⟨stop - k, by omega, g, k, _, rfl, rfl, ⟨by omega, hks, fun _ => ⟨by omega, mtk⟩, pre3⟩, rfl⟩
      have e4 : (x : Int) + (k : Int) = ((x + k : Nat) : Int) := by omega
      have e5 : (g : Int) + (k : Int) = ((g + k : Nat) : Int) := by omega
      refine ⟨_, rfl, _, rfl, _, _, rfl, rfl, _, rfl, _, _, rfl, rfl, _, rfl, ite2 (fun z5 => ?_) (fun _ => out)⟩
      have z5 : (x : Int) + (k : Int) < (stop : Int) := of_decide_eq_true z5
      have hgk : g + k < W.length := by omega
      have hxk : x + k < W.length := by omega
      refine ⟨_, rfl, _, rfl, _, rfl, _, _, rfl, rfl, S W, _, W[g + k], rfl, rfl, Sz (by omega), by rw [e5]; exact atS hgk, _, rfl, _, rfl, _, rfl, _, _, rfl, rfl, S W, _, W[x + k], rfl, rfl, Sz (by omega), by rw [e4]; exact atS hxk, rfl, _, rfl, ite2 (fun z6 => ?_) (fun _ => out)⟩
      have z6 : W[g + k] = W[x + k] := by
        have := S_inj (V.str.inj (of_decide_eq_true z6))
        exact (List.cons.inj this).1
      refine ⟨fun σ' H3 => ∃ μ', μ' < stop - k ∧ ∃ k : Nat, m < k ∧ μ' = stop - k ∧ H3 = H'' ∧ x + k ≤ stop ∧ Mt W g x k ∧ σ' = [some (.str (S W)), some (.int (x : Int)), some (.int (stop : Int)), some (.int (g : Int)), some (.int (k : Int)), some (.int (g : Int))], fun _ _ h => h, ?_⟩
      refine ⟨_, rfl, _, _, rfl, rfl, stop - (k + 1), by omega, k + 1, by omega, rfl, rfl, by omega, mtk.one_more (by rw [List.getElem?_eq_getElem hgk, List.getElem?_eq_getElem hxk, z6]), ?_⟩
      rw [show ((k + 1 : Nat) : Int) = (k : Int) + 1 by omega]
      rfl
  · have z : ¬ (x : Int) + (m : Int) < (stop : Int) := fun h => z (decide_eq_true h)
    exact ⟨_, rfl, _, rfl, by show 2 ≤ sizeLine; decide, fun t nt => q f m t (fin fun h => by omega) nt⟩
end
def pvs (p : Nat × Nat) : List V := [.int (p.1 : Int), .int (p.2 : Int)]
theorem bigL {n : Nat} (h : n < 100000) : n < sizeLine := Nat.lt_of_lt_of_le (Nat.lt_succ_self n) (sz h)
/-- letters of a text that stands in the heap -/
def TxB (C : Addr) (H : Hp) (x : Addr) (L : List Nat) : Prop := ∃ rs ts, TextAt C H x rs ts ∧ 0 < ts.length ∧ tx ts (ts.length - 1) = L
theorem TxB.same {C : Addr} {H H' : Hp} {x : Addr} {L : List Nat} (h : TxB C H x L) (s : Same H H') : TxB C H' x L := let ⟨rs, ts, a, b, c⟩ := h; ⟨rs, ts, a.same s, b, c⟩
theorem TxB.len {C : Addr} {H : Hp} {x : Addr} {L : List Nat} (h : TxB C H x L) : ∃ dx fs, H x = some (.ins C dx fs) ∧ fs.lookup ("length" : Str) = some (.int (L.length : Int)) := by
  obtain ⟨rs, ts, ⟨dx, RU, LE, fs, as, h⟩, _, rfl⟩ := h
  exact ⟨dx, fs, h.at_, h.fN⟩
/-- texts in a list -/
structure Txs (C : Addr) (H : Hp) (l : Addr) (xs : List Addr) (Ls : List (List Nat)) : Prop where
  at_ : H l = some (.lst (xs.map V.ref))
  len : xs.length = Ls.length
  tx : ∀ i x, xs[i]? = some x → TxB C H x (K4.tx Ls i)
theorem Txs.same {C : Addr} {H H' : Hp} {l : Addr} {xs : List Addr} {Ls : List (List Nat)} (h : Txs C H l xs Ls) (s : Same H H') : Txs C H' l xs Ls := ⟨s _ _ h.at_, h.len, fun i x e => (h.tx i x e).same s⟩
/-- a row of phrases -/
def PhAt (H : Hp) (t : Addr) (phs : List Phr) : Prop := ∃ us : List Addr, H t = some (.tup (us.map V.ref)) ∧ LT H us (phs.map Phr.vals)
theorem PhAt.same {H H' : Hp} {t : Addr} {phs : List Phr} (h : PhAt H t phs) (s : Same H H') : PhAt H' t phs := let ⟨us, a, b⟩ := h; ⟨us, s _ _ a, b.same s⟩
theorem PhAt.updL {H : Hp} {t D : Addr} {ys : List V} {o : HO} {phs : List Phr} (h : PhAt H t phs) (hD : H D = some (.lst ys)) : PhAt (upd H D o) t phs := by
  obtain ⟨us, a, b⟩ := h
  exact ⟨us, by rw [upd_ne (ne_of a hD (by intro z; cases z))]; exact a, b.updL hD⟩
section
variable {P : Program} {w : World} {K : PySem.W.Frag} {mg : Str → Option Value} {base : Heap}
/-! ### row_of -/
def spRowOf : Sp := fun vs H Q _ => ∃ (W : List Nat) (a stop : Nat) (pl : Addr) (pas : List Addr) (ps : List (Nat × Nat)), vs = [.str (S W), .int (a : Int), .int (stop : Int), .ref pl] ∧ H pl = some (.lst (pas.map V.ref)) ∧ LT H pas (ps.map pvs) ∧ a ≤ stop ∧ stop ≤ W.length ∧ stop ≤ ps.length ∧ W.length ≤ 50000 ∧
  ∀ (t : Addr) (phs : List Phr) (H' : Hp), PhAt H' t phs → RowTo W ps stop a phs stop → Same H H' → H t = none → Q (.ref t) H'
theorem scRw : FnScope ["whole", "start", "stop", "places", "row", "first", "many"] ["whole", "start", "stop", "places"] (defScope sRowOf) := ⟨rfl, rfl, rfl, by decide +kernel, rfl, by decide +kernel, by decide +kernel⟩
theorem ok_row_of {f : Addr} {fd : FuncData} (F : Fun K "row_of" "row_of" sRowOf f fd) (hm : mg "row_of" = some (.ref f)) (b : Binds K fd ["whole", "start", "stop", "places"] []) (T : Txt mg) (GLc2 : Cal P w K mg base 1 "longest_copy" spLongest []) : Cal P w K mg base 2 "row_of" spRowOf [] := by
  refine mkCal F hm b scRw (fun vs H Q E h => ?_) (fun cdv A outer s H vs Q E hr h => ?_)
  · obtain ⟨W, a, stop, pl, pas, ps, rfl, _⟩ := h
    rfl
  obtain ⟨W, a, stop, pl, pas, ps, rfl, hpl, hps, ha, hstop, hsp, hW, q⟩ := h
  have lps : pas.length = ps.length := by rw [hps.1, List.length_map]
  refine ⟨_, (pss_cons (ps_set (i := 4) scRw.nd rfl (.inl rfl) (pe_lst pa_nil))
    (pss_cons (ps_while PassesOwn.never (pt_cmpR op_lt (pv 1) (pv 2) (nomark _)) (pss_cons (ps_asg (pe_c GLc2 hr (by decide) (by rfl) (pa_cons (pv 0) (pa_cons (pv 1) (pa_cons (pv 2) pa_nil)))) (pg_tup rfl (pgs_cons (pg_name (i := 5) scRw.nd rfl (.inl rfl)) (pgs_cons (pg_name (i := 6) scRw.nd rfl (.inl rfl)) pgs_nil))))
    (pss_cut (ps_if (pt_cmpR op_gt (pv 6) pe_int (nomark _)) (pss_one (ps_expr (pe_bm PySem.F.plainAttrs_list PySem.F.slot_list_append PySem.F.type_list_append mt_append (pv 4) (pa_cons (pe_tup (pa_cons pe_str (StX.pa_star (pe_ix ix_list (pv 3) (pv 5) (fun _ _ => rfl)) (pa_cons (pv 6) pa_nil)))) pa_nil)))) (pss_one (ps_expr (pe_bm PySem.F.plainAttrs_list PySem.F.slot_list_append PySem.F.type_list_append mt_append (pv 4) (pa_cons (pe_tup (pa_cons pe_str (pa_cons (pe_ix ix_str (pv 0) (pv 1) (fun _ _ => rfl)) pa_nil))) pa_nil)))))
    (pss_one (ps_aug (i := 1) scRw.nd rfl (.inl rfl) (pv 6) ip_add)))))
    (pss_one (ps_ret (pe_callTy call_tuple_of (by rfl) T.tuple (by decide +kernel) (pa_cons (pv 4) pa_nil)))))), ?_⟩
  refine ⟨Nat.zero_le _, fun D nD => ?_⟩
  refine ⟨fun μ σ H' => ∃ (x : Nat) (us : List Addr) (phs : List Phr) (v5 v6 : Option V), μ = stop - x ∧ RowTo W ps stop a phs x ∧ Same H H' ∧ H' D = some (.lst (us.map V.ref)) ∧ LT H' us (phs.map Phr.vals) ∧ σ = [some (.str (S W)), some (.int (x : Int)), some (.int (stop : Int)), some (.ref pl), some (.ref D), v5, v6], ⟨_, a, [], [], none, none, rfl, .nil, same_new nD, upd_same, LT.nil, rfl⟩, ?_⟩
  rintro μ σ H1 ⟨x, us, phs, v5, v6, rfl, hrow, s1, eD, lt, rfl⟩
  obtain ⟨hax, hxs, hpn⟩ := hrow.le ha
  have lus : us.length = phs.length := by rw [lt.1, List.length_map]
  refine ⟨_, rfl, _, rfl, _, _, rfl, rfl, _, rfl, ite2 (fun z => ?_) (fun z => ?_)⟩
  · have z : (x : Int) < (stop : Int) := of_decide_eq_true z
    refine ⟨fun σ' H'' => ∃ μ', μ' < stop - x ∧ ∃ (x : Nat) (us : List Addr) (phs : List Phr) (v5 v6 : Option V), μ' = stop - x ∧ RowTo W ps stop a phs x ∧ Same H H'' ∧ H'' D = some (.lst (us.map V.ref)) ∧ LT H'' us (phs.map Phr.vals) ∧ σ' = [some (.str (S W)), some (.int (x : Int)), some (.int (stop : Int)), some (.ref pl), some (.ref D), v5, v6], fun _ _ h => h, ?_⟩
    have hx : x < stop := by omega
    refine ⟨_, rfl, _, rfl, _, rfl, W, x, stop, rfl, hx, hstop, hW, fun f m t lc nt => ⟨t, _, rfl, SqT.of upd_same, rfl, _, _, rfl, _, _, rfl, rfl, ?_⟩⟩
    have s2 := same_new (o := .tup [.int (f : Int), .int (m : Int)]) nt
    have eD2 := s2 _ _ eD
    have lt2 := lt.same s2
    have s12 := s1.trans s2
    generalize upd H1 t (.tup [.int (f : Int), .int (m : Int)]) = H2 at eD2 lt2 s12 ⊢
    have nxt := RowTo.snoc hrow hx lc
    have m1 := lc.m1
    have mle := lc.le
    have hsz : (us.map V.ref).length < sizeLine := bigL (by rw [List.length_map, lus]; omega)
    refine ⟨fun σ' H3 => σ' = [some (.str (S W)), some (.int (x : Int)), some (.int (stop : Int)), some (.ref pl), some (.ref D), some (.int (f : Int)), some (.int (m : Int))] ∧ Same H H3 ∧ ∃ us' : List Addr, H3 D = some (.lst (us'.map V.ref)) ∧ LT H3 us' ((phs ++ [phOf W ps x f m]).map Phr.vals), ?_, ?_⟩
    · have put : ∀ (u : Addr) (vals : List V), H2 u = none → vals = (phOf W ps x f m).vals → [some (V.str (S W)), some (.int (x : Int)), some (.int (stop : Int)), some (.ref pl), some (.ref D), some (.int (f : Int)), some (.int (m : Int))] = [some (V.str (S W)), some (.int (x : Int)), some (.int (stop : Int)), some (.ref pl), some (.ref D), some (.int (f : Int)), some (.int (m : Int))] ∧ Same H (upd (upd H2 u (.tup vals)) D (.lst (us.map V.ref ++ [.ref u]))) ∧ ∃ us' : List Addr, (upd (upd H2 u (.tup vals)) D (.lst (us.map V.ref ++ [.ref u]))) D = some (.lst (us'.map V.ref)) ∧ LT (upd (upd H2 u (.tup vals)) D (.lst (us.map V.ref ++ [.ref u]))) us' ((phs ++ [phOf W ps x f m]).map Phr.vals) := fun u vals nu hv => by
        have s3 := same_new (o := .tup vals) nu
        refine ⟨rfl, fun b o hb => ?_, us ++ [u], by rw [upd_same, List.map_append]; rfl, ?_⟩
        · rw [upd_ne (ne_of_none hb nD)]
          exact s3 _ _ (s12 _ _ hb)
        · rw [List.map_append]
          subst hv
          exact ((lt2.same s3).add (vs := (phOf W ps x f m).vals) upd_same).updL (s3 _ _ eD2)
      refine ⟨_, rfl, _, _, rfl, rfl, _, rfl, ite2 (fun z2 => ?_) (fun z2 => ?_)⟩
      · have hm1 : 1 < m := by
          have : (m : Int) > 1 := of_decide_eq_true z2
          omega
        obtain ⟨hf, _⟩ := lc.src hm1
        have hfp : f < ps.length := by omega
        obtain ⟨pa, epa, hpa⟩ := hps.2 f (pvs ps[f]) (by rw [List.getElem?_map, List.getElem?_eq_getElem hfp]; rfl)
        refine ⟨_, rfl, .inl ⟨rfl, _, SqL.of eD2⟩, _, rfl, _, rfl, pl, _, _, _, rfl, rfl, SqL.of (s12 _ _ hpl), atI_nat (by rw [List.getElem?_map, epa]; rfl), pa, pvs ps[f], rfl, .inl (SqT.of (s12 _ _ hpa)), _, rfl, by show 4 ≤ sizeLine; decide, fun u nu => ⟨D, _, _, rfl, rfl, same_new nu _ _ eD2, hsz, put u _ nu ?_⟩⟩
        unfold phOf
        rw [if_pos hm1, List.getD_eq_getElem?_getD, List.getElem?_eq_getElem hfp]
        rfl
      · have hm1 : m = 1 := by
          have : ¬ (m : Int) > 1 := fun h => z2 (decide_eq_true h)
          omega
        subst hm1
        have hxW : x < W.length := by omega
        refine ⟨_, rfl, .inl ⟨rfl, _, SqL.of eD2⟩, _, rfl, _, rfl, S W, _, W[x], rfl, rfl, Sz (by omega), atS hxW, by show 2 ≤ sizeLine; decide, fun u nu => ⟨D, _, _, rfl, rfl, same_new nu _ _ eD2, hsz, put u _ nu ?_⟩⟩
        unfold phOf
        rw [if_neg (by omega), List.getD_eq_getElem?_getD, List.getElem?_eq_getElem hxW]
        rfl
    rintro σ H3 ⟨rfl, s3, us', eD3, lt3⟩
    refine ⟨_, rfl, _, rfl, _, _, rfl, rfl, stop - (x + m), by omega, x + m, us', _, some (.int (f : Int)), some (.int (m : Int)), rfl, nxt, s3, eD3, lt3, ?_⟩
    rw [show ((x + m : Nat) : Int) = (x : Int) + (m : Int) by omega]
    rfl
  · have z : ¬ (x : Int) < (stop : Int) := fun h => z (decide_eq_true h)
    obtain rfl : x = stop := by omega
    refine ⟨_, rfl, D, _, rfl, .inl ⟨SqL.of eD, fun t nt => ?_⟩⟩
    have s4 := same_new (o := .tup (us.map V.ref)) nt
    exact q t phs _ ⟨us, upd_same, lt.same s4⟩ hrow (s1.trans s4) (s1.free nt)
end
theorem tx_map (Ls : List (List Nat)) {i : Nat} (h : i < Ls.length) : (Ls.map tV)[i]? = some (.str (S (tx Ls i))) := by rw [List.getElem?_map, tx_at h]; rfl
def lenI (l : List Nat) : Int := (l.length : Int)
theorem sum_lenI : ∀ Ls : List (List Nat), (Ls.map lenI).sum = ((Ls.map (·.length)).sum : Nat)
  | [] => rfl
  | l :: r => by
    rw [List.map_cons, List.sum_cons, sum_lenI r, List.map_cons, List.sum_cons]
    unfold lenI
    omega
theorem off_all : ∀ Ls : List (List Nat), off Ls Ls.length = (Ls.map (·.length)).sum + Ls.length := by
  have go : ∀ (Ls : List (List Nat)) (k : Nat), k ≤ Ls.length → off Ls k = ((Ls.take k).map (·.length)).sum + k := by
    intro Ls k
    induction k with
    | zero => intro _; rfl
    | succ k ih =>
      intro hk
      rw [off_succ, ih (by omega), List.take_add_one, tx_at (by omega), List.map_append, List.sum_append]
      rw [show (some (tx Ls k)).toList = [tx Ls k] from rfl]
      simp only [List.map_cons, List.map_nil, List.sum_cons, List.sum_nil]
      omega
  intro Ls
  rw [go Ls Ls.length (Nat.le_refl _), List.take_length]
theorem lt_map_range {H : Hp} {n : Nat} {us : List Addr} {f : Nat → List V} (h : us.length = n) (g : ∀ i, i < n → ∃ a, us[i]? = some a ∧ H a = some (.tup (f i))) : LT H us ((List.range n).map f) := by
  refine ⟨by rw [h, List.length_map, List.length_range], fun k vs e => ?_⟩
  have hk : k < n := by
    have := (List.getElem?_eq_some_iff.mp e).1
    simpa using this
  rw [List.getElem?_map, List.getElem?_range hk] at e
  obtain ⟨a, e1, e2⟩ := g k hk
  have ev : f k = vs := Option.some.inj e
  subst ev
  exact ⟨a, e1, e2⟩
theorem lt_app {H : Hp} : ∀ {as bs : List Addr} {us vs : List (List V)}, LT H as us → LT H bs vs → LT H (as ++ bs) (us ++ vs) := fun {as bs us vs} h k => ⟨by rw [List.length_append, List.length_append, h.1, k.1], fun i w e => by
  by_cases hi : i < us.length
  · rw [List.getElem?_append_left hi] at e
    obtain ⟨a, e1, e2⟩ := h.2 i w e
    exact ⟨a, by rw [List.getElem?_append_left (by rw [h.1]; exact hi)]; exact e1, e2⟩
  · rw [List.getElem?_append_right (by omega)] at e
    obtain ⟨a, e1, e2⟩ := k.2 _ w e
    exact ⟨a, by rw [List.getElem?_append_right (by rw [h.1]; omega), h.1]; exact e1, e2⟩⟩
/-- the cut of texts, as it stands -/
structure CutAt (H : Hp) (t : Addr) (ws : List Addr) (pss : List (List Phr)) : Prop where
  at_ : H t = some (.tup (ws.map V.ref))
  len : ws.length = pss.length
  row : ∀ (i : Nat) (u : Addr) (phs : List Phr), ws[i]? = some u → pss[i]? = some phs → PhAt H u phs
theorem CutAt.same {H H' : Hp} {t : Addr} {ws : List Addr} {pss : List (List Phr)} (h : CutAt H t ws pss) (s : Same H H') : CutAt H' t ws pss := ⟨s _ _ h.at_, h.len, fun i u phs e1 e2 => (h.row i u phs e1 e2).same s⟩
def Greedy (Ls : List (List Nat)) (k : Nat) (pss : List (List Phr)) : Prop := pss.length = k ∧ ∀ (i : Nat) (phs : List Phr), pss[i]? = some phs → RowTo (WH Ls) (plN Ls (i + 1)) (off Ls i + (tx Ls i).length) (off Ls i) phs (off Ls i + (tx Ls i).length)
section
variable {P : Program} {w : World} {K : PySem.W.Frag} {mg : Str → Option Value} {base : Heap}
/-! ### shortest_cut -/
def spShort (C : Addr) : Sp := fun vs H Q _ => ∃ (l : Addr) (xs : List Addr) (Ls : List (List Nat)), vs = [.ref l] ∧ Txs C H l xs Ls ∧ Ls.length ≤ 16 ∧ (∀ L ∈ Ls, L.length ≤ 1000) ∧ (Ls.map (·.length)).sum ≤ 4096 ∧
  ∀ (t : Addr) (ws : List Addr) (pss : List (List Phr)) (H' : Hp), CutAt H' t ws pss → Greedy Ls Ls.length pss → Same H H' → H t = none → Q (.ref t) H'
theorem scSh : FnScope ["texts", "text", "strings", "whole", "places", "rows", "number", "string", "start", "at"] ["texts"] (defScope sShortestCut) := ⟨rfl, rfl, rfl, by decide +kernel, rfl, by decide +kernel, by decide +kernel⟩
theorem ok_shortest {C f : Addr} {fd : FuncData} (F : Fun K "shortest_cut" "shortest_cut" sShortestCut f fd) (hm : mg "shortest_cut" = some (.ref f)) (b : Binds K fd ["texts"] []) (T : Txt mg) (Dc : Cl K C) (hsum : mg "sum" = none) (gCut : ∃ u, mg "MOST_CUT" = some u ∧ RelV (.int 4096) u) (GSp : Cal P w K mg base 4 "spelled" (spSpelled C) []) (GRw : Cal P w K mg base 2 "row_of" spRowOf []) : Cal P w K mg base 5 "shortest_cut" (spShort C) [] := by
  refine mkCal F hm b scSh (fun vs H Q E h => ?_) (fun cdv A outer sh H vs Q E hr h => ?_)
  · obtain ⟨l, xs, Ls, rfl, _⟩ := h
    rfl
  obtain ⟨l, xs, Ls, rfl, hX, h16, h1000, hsum4, q⟩ := h
  refine ⟨_, (pss_cons (ps_if (pt_cmpR op_gt (pe_callB (cr_sum rfl) (by rfl) hsum (by decide +kernel) (pa_cons (pe_lc (own := [("text", 1)]) (g := gName 1) (te := tFld K (tVar 1) "length") (tt := tYes) rfl scSh.nd (pi_list (pv 0)) (blkOk_by (N := ["texts", "text", "strings", "whole", "places", "rows", "number", "string", "start", "at"]) (sc := defScope sShortestCut) (by decide +kernel)) (fun _ _ _ _ _ => (pg_name (i := 1) scSh.nd rfl (.inl rfl))) (fun _ _ _ _ _ => pts_nil) (fun _ _ _ _ _ => (pe_fld (pv 1) rfl))) pa_nil)) (C8.pe_gc (by rfl) gCut) (nomark _)) (pss_one ps_never) pss_nil)
    (pss_cons (ps_setLc (i := 2) (own := [("text", 1)]) (g := gName 1) (te := tCall (spSpelled C) [] C8.E0 (tCons (tVar 1) (tCons (tC (.int 0)) (tCons (tFld K (tVar 1) "length") tNil)))) (tt := tYes) rfl scSh.nd rfl rfl (sw_true rfl rfl rfl (by decide +kernel)) (pi_list (pv 0)) (blkOk_by (N := ["texts", "text", "strings", "whole", "places", "rows", "number", "string", "start", "at"]) (sc := defScope sShortestCut) (by decide +kernel)) (fun _ _ _ _ _ => (pg_name (i := 1) scSh.nd rfl (.inl rfl))) (fun _ _ _ _ _ => pts_nil) (fun _ _ _ _ _ => (pe_c GSp hr (by decide) (by rfl) (pa_cons (pv 1) (pa_cons pe_int (pa_cons (pe_fld (pv 1) rfl) pa_nil))))))
    (pss_cons (ps_set (i := 3) scSh.nd rfl (.inl rfl) (pe_join pe_str (pv 2)))
    (pss_cons (ps_set (i := 4) scSh.nd rfl (.inl rfl) (pe_lst pa_nil))
    (pss_cons (ps_set (i := 5) scSh.nd rfl (.inl rfl) (pe_lst pa_nil))
    (pss_cut (ps_for PassesOwn.never rfl (pi_enum (by rfl) T.enumerate (pa_cons (pv 2) pa_nil)) (pg_tup rfl (pgs_cons (pg_name (i := 6) scSh.nd rfl (.inr rfl)) (pgs_cons (pg_name (i := 7) scSh.nd rfl (.inl rfl)) pgs_nil))) (pss_cons (ps_set (i := 8) scSh.nd rfl (.inl rfl) (pe_callB call_len_seq (by rfl) T.len PySem.boot_len (pa_cons (pv 4) pa_nil)))
    (pss_cons (ps_expr (pe_bm PySem.F.plainAttrs_list PySem.F.slot_list_extend PySem.F.type_list_extend mt_extend (pv 4) (pa_cons (pe_lc (own := [("at", 9)]) (g := gName 9) (tt := tYes) rfl scSh.nd (pi_range1 (by rfl) T.range (pa_cons (pe_op op_add (pe_callB call_len_str (by rfl) T.len PySem.boot_len (pa_cons (pv 7) pa_nil)) pe_int) pa_nil)) (blkOk_by (N := ["texts", "text", "strings", "whole", "places", "rows", "number", "string", "start", "at"]) (sc := defScope sShortestCut) (by decide +kernel)) (fun _ _ _ _ _ => (pg_name (i := 9) scSh.nd rfl (.inl rfl))) (fun _ _ _ _ _ => pts_nil) (fun _ _ _ _ _ => (pe_tup (pa_cons (pv 6) (pa_cons (pv 9) pa_nil))))) pa_nil)))
    (pss_one (ps_expr (pe_bm PySem.F.plainAttrs_list PySem.F.slot_list_append PySem.F.type_list_append mt_append (pv 5) (pa_cons (pe_c GRw hr (by decide) (by rfl) (pa_cons (pv 3) (pa_cons (pv 8) (pa_cons (pe_op op_add (pv 8) (pe_callB call_len_str (by rfl) T.len PySem.boot_len (pa_cons (pv 7) pa_nil))) (pa_cons (pv 4) pa_nil))))) pa_nil)))))))
    (pss_one (ps_ret (pe_callTy call_tuple_of (by rfl) T.tuple (by decide +kernel) (pa_cons (pv 5) pa_nil)))))))))), ?_⟩
  have hlt : ∀ {i : Nat} {v : V}, (xs.map V.ref)[i]? = some v → ∃ x, v = .ref x ∧ xs[i]? = some x ∧ i < Ls.length := fun {i v} e => by
    rw [List.getElem?_map] at e
    cases ex : xs[i]? with
    | none => rw [ex] at e; cases e
    | some x =>
      rw [ex] at e
      exact ⟨x, (Option.some.inj e).symm, rfl, by rw [← hX.len]; exact (List.getElem?_eq_some_iff.mp ex).1⟩
  have hxl : (xs.map V.ref).length = Ls.length := by rw [List.length_map, hX.len]
  -- the sum
  refine ⟨_, rfl, l, rfl, ⟨_, SqL.of hX.at_⟩, fun D1 n1 => ?_⟩
  refine lc_list (K := K) (a := l) (xs := xs.map V.ref) (fun i H' => Same H H' ∧ H' D1 = some (.lst (((Ls.take i).map lenI).map V.int))) ⟨same_new n1, upd_same⟩ (fun i H' _ h => SqL.of (h.1 _ _ hX.at_)) ?_ ?_
  · rintro i v H1 hi ⟨s1, eD⟩
    obtain ⟨x, rfl, ex, hi2⟩ := hlt hi
    obtain ⟨dx, fs, ax, lx⟩ := ((hX.tx i x ex).same s1).len
    refine ⟨rfl, _, rfl, x, C, dx, _, _, rfl, ax, Dc.cl, Dc.nN, lx, _, eD, ?_, ?_, ?_⟩
    · rw [List.length_map, List.length_map, List.length_take]
      exact small1000 (by omega)
    · exact fun c o hc => by rw [upd_ne (ne_of_none hc n1)]; exact s1 _ _ hc
    · rw [upd_same, List.take_add_one, tx_at hi2, List.map_append, List.map_append]
      rfl
  rintro H1 ⟨s1, eD1⟩
  rw [hxl, List.take_length] at eD1
  refine ⟨D1, _, rfl, SqL.of eD1, _, _, rfl, rfl, _, rfl, ite2 (fun z => ?_) (fun _ => ?_)⟩
  · exfalso
    have z : (Ls.map lenI).sum > 4096 := of_decide_eq_true z
    rw [sum_lenI] at z
    omega
  have hX1 := hX.same s1
  clear eD1
  -- strings
  refine ⟨_, rfl, l, rfl, ⟨_, SqL.of hX1.at_⟩, fun D2 n2 => ?_⟩
  refine lc_list (K := K) (a := l) (xs := xs.map V.ref) (fun i H' => Same H1 H' ∧ H' D2 = some (.lst ((Ls.take i).map tV))) ⟨same_new n2, upd_same⟩ (fun i H' _ h => SqL.of (h.1 _ _ hX1.at_)) ?_ ?_
  · rintro i v H2 hi ⟨s2, eD⟩
    obtain ⟨x, rfl, ex, hi2⟩ := hlt hi
    have tX := (hX1.tx i x ex).same s2
    obtain ⟨dx, fs, ax, lx⟩ := tX.len
    obtain ⟨rs, ts, tA, t0, et⟩ := tX
    have hL := h1000 _ (tx_mem hi2)
    refine ⟨rfl, _, rfl, _, rfl, x, C, dx, _, _, rfl, ax, Dc.cl, Dc.nN, lx, x, rs, ts, 0, (tx Ls i).length, rfl, tA, t0, Nat.zero_le _, by rw [et]; exact Nat.le_refl _, by omega, fun H3 s3 => ⟨_, s3 _ _ eD, ?_, ?_, ?_⟩⟩
    · rw [List.length_map, List.length_take]
      exact small1000 (by omega)
    · exact fun c o hc => by rw [upd_ne (ne_of_none hc n2)]; exact s3 _ _ (s2 _ _ hc)
    · rw [upd_same, List.take_add_one, tx_at hi2, List.map_append, et, sub_all]
      rfl
  rintro H2 ⟨s2, eD2⟩
  rw [hxl, List.take_length] at eD2
  have sA := s1.trans s2
  -- whole
  have eS : Ls.map tV = (Ls.map S).map V.str := by simp [tV]
  have lensum : ((Ls.map S).map (·.length)).sum = (Ls.map (·.length)).sum := by
    rw [List.map_map]
    exact congrArg List.sum (List.map_congr_left fun a _ => S_len a)
  refine ⟨⟨_, rfl⟩, _, rfl, _, D2, Ls.map S, rfl, rfl, .inl (SqL.of (by rw [eD2, eS])), ?_, ?_⟩
  · rw [lensum, List.length_map, show ("\n" : Str).length = 1 by decide +kernel]
    omega
  show gName 3 (V.str (Txt.join ("\n" : Str) (Ls.map S))) _ _ _
  rw [show ("\n" : Str) = S [10] by decide +kernel, join_S, join_WH]
  refine ⟨Nat.zero_le _, fun PL nPL => ⟨Nat.zero_le _, fun RO nRO => ?_⟩⟩
  have s3 := same_new (o := .lst []) nPL
  have s4 := same_new (o := .lst []) nRO
  have eD4 := s4 _ _ (s3 _ _ eD2)
  have ePL := s4 _ _ (q1x (o := .lst []) nPL)
  have eRO := q1x (o := .lst []) nRO
  have nPR : PL ≠ RO := fun e => by subst e; rw [upd_same] at nRO; cases nRO
  have nPL0 := sA.free nPL
  have nRO0 := (sA.trans s3).free nRO
  have sB := (sA.trans s3).trans s4
  have nD2P : D2 ≠ PL := fun e => by subst e; rw [eD2] at nPL; cases nPL
  have nD2R : D2 ≠ RO := fun e => by subst e; rw [s3 _ _ eD2] at nRO; cases nRO
  generalize upd (upd H2 PL (.lst [])) RO (.lst []) = H4 at eD4 ePL eRO sB ⊢
  have hoff := off_all Ls
  refine ⟨fun σ H' => ∃ (ws : List Addr) (pss : List (List Phr)) (v6 v7 v8 v9 : Option V), Same H H' ∧ Greedy Ls Ls.length pss ∧ H' RO = some (.lst (ws.map V.ref)) ∧ ws.length = pss.length ∧ (∀ (i : Nat) (u : Addr) (phs : List Phr), ws[i]? = some u → pss[i]? = some phs → PhAt H' u phs) ∧ σ = [some (.ref l), none, some (.ref D2), some (.str (S (WH Ls))), some (.ref PL), some (.ref RO), v6, v7, v8, v9], ?_, ?_⟩
  · refine ⟨_, rfl, D2, _, rfl, SqL.of eD4, ?_⟩
    refine for_it (walk_enum (K := K) (a := D2) (xs := Ls.map tV)) (fun i σ H' => ∃ (pas ws : List Addr) (pss : List (List Phr)) (v6 v7 v8 v9 : Option V), Same H H' ∧ H' D2 = some (.lst (Ls.map tV)) ∧ H' PL = some (.lst (pas.map V.ref)) ∧ LT H' pas ((plN Ls i).map pvs) ∧ Greedy Ls i pss ∧ H' RO = some (.lst (ws.map V.ref)) ∧ ws.length = pss.length ∧ (∀ (i : Nat) (u : Addr) (phs : List Phr), ws[i]? = some u → pss[i]? = some phs → PhAt H' u phs) ∧ σ = [some (.ref l), none, some (.ref D2), some (.str (S (WH Ls))), some (.ref PL), some (.ref RO), v6, v7, v8, v9])
      ⟨[], [], [], none, none, none, none, sB, eD4, ePL, LT.nil, ⟨rfl, fun i phs e => by simp at e⟩, eRO, rfl, fun i u phs e => by simp at e, rfl⟩ (fun i σ H' _ ⟨_, _, _, _, _, _, _, _, h, _⟩ => SqL.of h) ?_ ?_
    · rintro i v σ H5 H6 hi ⟨pas, ws, pss, v6, v7, v8, v9, s5, eD5, eP5, ltp, g5, eR5, l5, r5, rfl⟩ ⟨TT, x, y, rfl, nT, rfl, e1, e2⟩
      rw [List.length_map] at hi
      replace e2 : (Ls.map tV)[i]? = some y := e2
      rw [tx_map Ls hi] at e2
      obtain rfl := Option.some.inj e1
      obtain rfl := Option.some.inj e2
      have hL := h1000 _ (tx_mem hi)
      refine ⟨TT, _, rfl, SqT.of upd_same, rfl, _, _, rfl, _, _, rfl, rfl, ?_⟩
      have s6 := same_new (o := .tup [.int ((i : Nat) : Int), .str (S (tx Ls i))]) nT
      have eD6 := s6 _ _ eD5
      have eP6 := s6 _ _ eP5
      have ltp6 := ltp.same s6
      have eR6 := s6 _ _ eR5
      have s56 := s5.trans s6
      have r6 : ∀ (j : Nat) (u : Addr) (phs : List Phr), ws[j]? = some u → pss[j]? = some phs → PhAt (upd H5 TT (.tup [.int ((i : Nat) : Int), .str (S (tx Ls i))])) u phs := fun j u phs a1 a2 => (r5 j u phs a1 a2).same s6
      generalize upd H5 TT (.tup [.int ((i : Nat) : Int), .str (S (tx Ls i))]) = H6 at s6 eD6 eP6 ltp6 eR6 s56 r6 ⊢
      have lpas : pas.length = off Ls i := by rw [ltp6.1, List.length_map]; rfl
      have hof := off_succ Ls i
      have hmo := off_mono (Ls := Ls) (show i + 1 ≤ Ls.length from hi)
      generalize hLL : tx Ls i = L at hL hof
      refine ⟨_, rfl, PL, _, rfl, .inl (SqL.of eP6), ?_⟩
      show gName 8 (V.int ((pas.map V.ref).length : Int)) _ _ _
      rw [List.length_map, lpas]
      -- places
      refine ⟨_, rfl, .inl ⟨rfl, _, SqL.of eP6⟩, _, rfl, _, rfl, Sz (by omega), _, _, rfl, rfl, _, rfl, by rw [S_len]; omega, by rw [S_len]; omega, fun DD nDD => ?_⟩
      refine lc_range (lo := 0) (n := (((S L).length : Int) + 1).toNat) (fun j H' => Same H6 H' ∧ ∃ bs : List Addr, H' DD = some (.lst (bs.map V.ref)) ∧ LT H' bs (((List.range j).map fun s => (i, s)).map pvs)) ⟨same_new nDD, [], upd_same, LT.nil⟩ ?_ ?_
      · rintro j H7 hj ⟨s7, bs, eDD, ltb⟩
        rw [S_len] at hj
        have lb := ltb.1
        rw [List.length_map, List.length_map, List.length_range] at lb
        refine ⟨rfl, _, rfl, _, rfl, by show 2 ≤ sizeLine; decide, fun u nu => ⟨_, same_new nu _ _ eDD, ?_, ?_, bs ++ [u], ?_, ?_⟩⟩
        · rw [List.length_map, lb]
          exact bigL (by omega)
        · exact fun c o hc => by rw [upd_ne (ne_of_none hc nDD)]; exact same_new nu _ _ (s7 _ _ hc)
        · rw [upd_same, List.map_append]
          rfl
        · rw [List.range_succ, List.map_append, List.map_append]
          refine ((ltb.same (same_new nu)).add (vs := pvs (i, j)) ?_).updL (same_new nu _ _ eDD)
          rw [upd_same]
          show some (HO.tup [.int (i : Int), .int (0 + (j : Int))]) = some (HO.tup [.int (i : Int), .int (j : Int)])
          rw [Int.zero_add]
      rintro H7 ⟨s7, bs, eDD, ltb⟩
      rw [S_len, show ((L.length : Int) + 1).toNat = L.length + 1 by omega] at ltb
      have lb := ltb.1
      rw [List.length_map, List.length_map, List.length_range] at lb
      have eP7 := s7 _ _ eP6
      refine ⟨PL, DD, _, _, rfl, rfl, eP7, eDD, sz (by rw [List.length_map, List.length_map]; omega), ?_⟩
      have k7 : ∀ {b : Addr} {o : HO}, b ≠ PL → H6 b = some o → (upd H7 PL (.lst (pas.map V.ref ++ bs.map V.ref))) b = some o := fun n e => by rw [upd_ne n]; exact s7 _ _ e
      have eD8 := k7 nD2P eD6
      have eR8 := k7 nPR.symm eR6
      have eP8 : (upd H7 PL (.lst (pas.map V.ref ++ bs.map V.ref))) PL = some (.lst ((pas ++ bs).map V.ref)) := by rw [upd_same, List.map_append]
      have s8 : Same H (upd H7 PL (.lst (pas.map V.ref ++ bs.map V.ref))) := fun b o e => k7 (ne_of_none e nPL0) (s56 _ _ e)
      have r8 : ∀ (j : Nat) (u : Addr) (phs : List Phr), ws[j]? = some u → pss[j]? = some phs → PhAt (upd H7 PL (.lst (pas.map V.ref ++ bs.map V.ref))) u phs := fun j u phs a1 a2 => ((r6 j u phs a1 a2).same s7).updL eP7
      have ltp8 : LT (upd H7 PL (.lst (pas.map V.ref ++ bs.map V.ref))) (pas ++ bs) ((plN Ls (i + 1)).map pvs) := by
        rw [plN, hLL, List.map_append]
        exact (lt_app (ltp6.same s7) ltb).updL eP7
      generalize upd H7 PL (.lst (pas.map V.ref ++ bs.map V.ref)) = H8 at eD8 eR8 eP8 s8 r8 ltp8 ⊢
      -- the row
      have lpl : (plN Ls (i + 1)).length = off Ls (i + 1) := rfl
      have hWl := WH_len Ls
      refine ⟨_, rfl, .inl ⟨rfl, _, SqL.of eR8⟩, _, rfl, _, rfl, _, rfl, _, rfl, _, rfl, Sz (by omega), _, _, rfl, rfl, _, rfl, WH Ls, off Ls i, off Ls i + L.length, PL, pas ++ bs, plN Ls (i + 1), by rw [S_len]; rfl, eP8, ltp8, by omega, by omega, by omega, by omega, fun t phs H9 hph hrow s9 nt => ?_⟩
      have eR9 := s9 _ _ eR8
      have lg := g5.1
      refine ⟨RO, _, _, rfl, rfl, eR9, bigL (by rw [List.length_map]; omega), pas ++ bs, ws ++ [t], pss ++ [phs], _, _, _, _, ?_, ?_, ?_, ?_, ?_, ?_, ?_, ?_, rfl⟩
      · exact fun b o e => by rw [upd_ne (ne_of_none e nRO0)]; exact s9 _ _ (s8 _ _ e)
      · rw [upd_ne nD2R]; exact s9 _ _ eD8
      · rw [upd_ne nPR]; exact s9 _ _ eP8
      · exact (ltp8.same s9).updL eR9
      · refine ⟨by rw [List.length_append, lg]; rfl, fun j ph e => ?_⟩
        by_cases hj : j < pss.length
        · rw [List.getElem?_append_left hj] at e
          exact g5.2 j ph e
        · obtain rfl : j = i := by
            have := (List.getElem?_eq_some_iff.mp e).1
            rw [List.length_append] at this
            have : j < pss.length + 1 := this
            omega
          rw [List.getElem?_append_right (by omega), lg, Nat.sub_self] at e
          obtain rfl := Option.some.inj e
          rw [hLL]
          exact hrow
      · rw [upd_same, List.map_append]
        rfl
      · rw [List.length_append, List.length_append, l5]
        rfl
      · intro j u ph a1 a2
        by_cases hj : j < pss.length
        · rw [List.getElem?_append_left (by omega)] at a1
          rw [List.getElem?_append_left hj] at a2
          exact ((r8 j u ph a1 a2).same s9).updL eR9
        · obtain rfl : j = pss.length := by
            have := (List.getElem?_eq_some_iff.mp a2).1
            rw [List.length_append] at this
            have : j < pss.length + 1 := this
            omega
          rw [List.getElem?_append_right (by omega), l5, Nat.sub_self] at a1
          rw [List.getElem?_append_right (by omega), Nat.sub_self] at a2
          obtain rfl := Option.some.inj a1
          obtain rfl := Option.some.inj a2
          exact hph.updL eR9
    · rintro σ H5 ⟨pas, ws, pss, v6, v7, v8, v9, s5, _, _, _, g5, eR5, l5, r5, rfl⟩
      rw [List.length_map] at g5
      exact ⟨ws, pss, v6, v7, v8, v9, s5, g5, eR5, l5, r5, rfl⟩
  rintro σ H5 ⟨ws, pss, v6, v7, v8, v9, s5, g5, eR5, l5, r5, rfl⟩
  refine ⟨_, rfl, RO, _, rfl, .inl ⟨SqL.of eR5, fun t nt => ?_⟩⟩
  have s6 := same_new (o := .tup (ws.map V.ref)) nt
  exact q t ws pss _ ⟨upd_same, l5, fun i u phs e1 e2 => (r5 i u phs e1 e2).same s6⟩ g5 (s5.trans s6) (s5.free nt)
end
theorem sound_SL {rs : List Rule} {ts : List (List Nat)} (s : Sound rs ts) : ∀ (k : Nat), k < ts.length → ∀ c ∈ tx ts k, c ∈ SL := by
  intro k
  induction k using Nat.strongRecOn with
  | _ k ih =>
    intro hk c hc
    have hkr : k < rs.length := by rw [← s.len]; exact hk
    obtain ⟨o, e⟩ := s.ok k rs[k] (List.getElem?_eq_getElem hkr)
    rw [tx_at hk] at e
    have e := Option.some.inj e
    rw [e] at hc
    have lk : (ts.take k).length = k := by rw [List.length_take]; omega
    generalize rs[k] = r at o hc
    have sub_ : ∀ i, i < (ts.take k).length → ∀ c ∈ tx (ts.take k) i, c ∈ SL := fun i hi c hc => by
      rw [lk] at hi
      rw [tx_take hi] at hc
      exact ih i hi (by omega) c hc
    cases r with
    | letters z => exact o.2 c hc
    | join i j =>
      rcases List.mem_append.mp hc with h | h
      · exact sub_ i o.1 c h
      · exact sub_ j o.2 c h
    | power i n =>
      obtain ⟨l, hl, h⟩ := List.mem_flatten.mp hc
      rw [(List.mem_replicate.mp hl).2] at h
      exact sub_ i o.1 c h
    | part i a b => exact sub_ i o.1 c (List.mem_of_mem_take (List.mem_of_mem_drop hc))
    | back i => exact sub_ i o c (List.mem_reverse.mp hc)
/-- Text(box["rules"]) -/
theorem mkTxB {C x dx p c b R T : Addr} {H1 : Hp} {as : List Addr} {rs : List Rule} {ts : List (List Nat)} {Q : Hp → Prop} {E : XK} (d : PB H1 p c b R T as rs ts) (h1 : 1 ≤ rs.length) (h60 : rs.length ≤ 60) (nx : H1 x = none) (nd : H1 dx = none) (ne : dx ≠ x)
    (q : ∀ H2 : Hp, Same H1 H2 → TxB C H2 x (tx ts (rs.length - 1)) → Q H2) : spInit C [.ref x, .ref R] (upd (upd H1 dx (.own x)) x (.ins C dx [])) (fun v H2 => v = .non ∧ Q H2) E := by
  have nx' : (upd H1 dx (.own x)) x = none := by rw [upd_ne ne.symm]; exact nx
  have s : Same H1 (upd (upd H1 dx (.own x)) x (.ins C dx [])) := (same_new nd).trans (same_new nx')
  have d := d.bx.dr
  have tl : ts.length = rs.length := d.good.len
  exact ⟨x, dx, R, as, rs, ts, rfl, upd_same, .inr (s _ _ d.ra), (d.lt.same s).rl, d.good.sound, h1, h60, fun LE RU as' H' keep hx hRU hLE hL => ⟨rfl, q H' (fun b o hb => keep b o (ne_of_none hb nx) (s _ _ hb)) ⟨rs, ts, ⟨dx, RU, LE, _, as', tF_text hx hRU hLE hL d.good.sound⟩, by omega, by rw [tl]⟩⟩⟩
theorem TxB.frm {C p c : Addr} {H H' : Hp} {x : Addr} {L : List Nat} (h : TxB C H x L) (P : Pool H p c) (f : Frm p H H') : TxB C H' x L := let ⟨rs, ts, a, b, c⟩ := h; ⟨rs, ts, a.frm P f, b, c⟩
theorem TxB.updL {C D : Addr} {H : Hp} {x : Addr} {L : List Nat} {xs : List V} {o : HO} (h : TxB C H x L) (hD : H D = some (.lst xs)) : TxB C (upd H D o) x L := by
  obtain ⟨rs, ts, a, b, e⟩ := h
  exact ⟨rs, ts, a.updL hD, b, e⟩
/-- letters in a list -/
structure Lts (H : Hp) (l : Addr) (Ls : List (List Nat)) (n : Nat) : Prop where
  at_ : H l = some (.lst (Ls.map tV))
  le : ∀ L ∈ Ls, L.length ≤ n
  sl : ∀ L ∈ Ls, ∀ x ∈ L, x ∈ SL
theorem Lts.same {H H' : Hp} {l : Addr} {Ls : List (List Nat)} {n : Nat} (h : Lts H l Ls n) (s : Same H H') : Lts H' l Ls n := ⟨s _ _ h.at_, h.le, h.sl⟩
theorem Lts.frm {H H' : Hp} {l p : Addr} {Ls : List (List Nat)} {n : Nat} (h : Lts H l Ls n) (np : l ≠ p) (f : Frm p H H') : Lts H' l Ls n := ⟨f _ _ np h.at_, h.le, h.sl⟩
theorem Lts.add {H : Hp} {l : Addr} {Ls : List (List Nat)} {n : Nat} {L : List Nat} (h : Lts H l Ls n) (hL : L.length ≤ n) (hs : ∀ x ∈ L, x ∈ SL) : Lts (upd H l (.lst (Ls.map tV ++ [.str (S L)]))) l (Ls ++ [L]) n :=
  ⟨by rw [upd_same, List.map_append]; rfl, fun x hx => by
    rcases List.mem_append.mp hx with h1 | h1
    · exact h.le x h1
    · rw [List.mem_singleton.mp h1]; exact hL, fun x hx => by
    rcases List.mem_append.mp hx with h1 | h1
    · exact h.sl x h1
    · rw [List.mem_singleton.mp h1]; exact hs⟩
section
variable {P : Program} {w : World} {K : PySem.W.Frag} {mg : Str → Option Value} {base : Heap}
/-! ### _law_some -/
def spSome : Sp := fun vs H Q _ => ∃ (p c : Addr) (many most : Nat), vs = [.ref p, .int (many : Int), .int (most : Int)] ∧ Pool H p c ∧ many ≤ 8 ∧ 30 ≤ most ∧ most + 22 * many ≤ 400 ∧
  ∀ (l : Addr) (Ls : List (List Nat)) (H' : Hp), Lts H' l Ls (most + 22 * many) → Ls.length = many → Pool H' p c → Frm p H H' → H l = none → l ≠ p → Q (.ref l) H'
theorem scSo : FnScope ["pool", "many", "most", "found", "k", "kind", "old", "start", "stop"] ["pool", "many", "most"] (defScope sLSome) := ⟨rfl, rfl, rfl, by decide +kernel, rfl, by decide +kernel, by decide +kernel⟩
theorem ok_some {f : Addr} {fd : FuncData} (F : Fun K "_law_some" "_law_some" sLSome f fd) (hm : mg "_law_some" = some (.ref f)) (b : Binds K fd ["pool", "many", "most"] []) (T : Txt mg) (G : Cal P w K mg base 2 "_law_take" spTake []) (GLt : Cal P w K mg base 3 "_law_letters" spBLetters []) (GDr : Cal P w K mg base 5 "_law_drawn" spBDrawn []) : Cal P w K mg base 6 "_law_some" spSome [] := by
  refine mkCal F hm b scSo (fun vs H Q E h => ?_) (fun cdv A outer sh H vs Q E hr h => ?_)
  · obtain ⟨p, c, many, most, rfl, _⟩ := h
    rfl
  obtain ⟨p, c, many, most, rfl, hP, h8, h30, h400, q⟩ := h
  have hu := hu_of hr
  refine ⟨_, (pss_cons (ps_set (i := 3) scSo.nd rfl (.inl rfl) (pe_lst pa_nil))
    (pss_cons (ps_for PassesOwn.never rfl (pi_range1 (by rfl) T.range (pa_cons (pv 1) pa_nil)) (pg_name (i := 4) scSo.nd rfl (.inl rfl)) (pss_cons (ps_set (i := 5) scSo.nd rfl (.inl rfl) (pe_c G hr (by decide) (by rfl) (pa_cons (pv 0) (pa_cons pe_int pa_nil))))
    (pss_one (ps_if (PW.pt (pw_or (pt_cmpR op_eq (pv 5) pe_int (nomark _)) (pw_or1 (pt_not (pt_truth (pv 3) (by intro _; rfl)))))) (pss_one (ps_expr (pe_bm PySem.F.plainAttrs_list PySem.F.slot_list_append PySem.F.type_list_append mt_append (pv 3) (pa_cons (pe_ix ix_list (pe_dget hu (pe_c GDr hr (by decide) (by rfl) (pa_cons (pv 0) (pa_cons (pv 2) pa_nil))) pe_str (fun _ _ => rfl)) (pe_un un_neg pe_int) (fun _ _ => rfl)) pa_nil)))) (pss_cons (ps_set (i := 6) scSo.nd rfl (.inl rfl) (pe_ix ix_list (pv 3) (pe_c G hr (by decide) (by rfl) (pa_cons (pv 0) (pa_cons (pe_callB call_len_seq (by rfl) T.len PySem.boot_len (pa_cons (pv 3) pa_nil)) pa_nil))) (fun _ _ => rfl)))
    (pss_cons (ps_set (i := 7) scSo.nd rfl (.inl rfl) (pe_c G hr (by decide) (by rfl) (pa_cons (pv 0) (pa_cons (pe_op op_add (pe_callB call_len_str (by rfl) T.len PySem.boot_len (pa_cons (pv 6) pa_nil)) pe_int) pa_nil))))
    (pss_cons (ps_set (i := 8) scSo.nd rfl (.inl rfl) (pe_op op_add (pv 7) (pe_c G hr (by decide) (by rfl) (pa_cons (pv 0) (pa_cons (pe_op op_add (pe_op op_sub (pe_callB call_len_str (by rfl) T.len PySem.boot_len (pa_cons (pv 6) pa_nil)) (pv 7)) pe_int) pa_nil)))))
    (pss_one (ps_expr (pe_bm PySem.F.plainAttrs_list PySem.F.slot_list_append PySem.F.type_list_append mt_append (pv 3) (pa_cons (pe_op op_add_str (pe_op op_add_str (pe_slice sl_str (pv 6) (po_some (pv 7)) (po_some (pv 8))) (pe_c GLt hr (by decide) (by rfl) (pa_cons (pv 0) (pa_cons pe_int pa_nil)))) (pe_slice sl_str (pe_slice sl_str (pv 6) po_none (po_some (pv 7))) po_none (po_some (pe_c G hr (by decide) (by rfl) (pa_cons (pv 0) (pa_cons pe_int pa_nil)))))) pa_nil)))))))))))
    (pss_one (ps_ret (pv 3))))), ?_⟩
  refine ⟨Nat.zero_le _, fun l nl => ?_⟩
  have lne := hP.ne nl
  refine ⟨_, rfl, _, rfl, by omega, by omega, for_range (lo := 0) (n := ((many : Nat) : Int).toNat) (fun i σ H' => ∃ (Ls : List (List Nat)) (v4 v5 v6 v7 v8 : Option V), Lts H' l Ls (most + 22 * i) ∧ Ls.length = i ∧ Pool H' p c ∧ Frm p H H' ∧ σ = [some (.ref p), some (.int (many : Int)), some (.int (most : Int)), some (.ref l), v4, v5, v6, v7, v8])
    ⟨[], none, none, none, none, none, ⟨upd_same, fun L h => by (cases h), fun L h => by (cases h)⟩, rfl, hP.new nl, Frm.refl.new nl, rfl⟩ ?_ ?_⟩
  · rintro i σ H1 hi ⟨Ls, v4, v5, v6, v7, v8, hLs, hlen, hP1, f1, rfl⟩
    have hi8 : i < many := by omega
    have lm : (Ls.map tV).length = i := by rw [List.length_map, hlen]
    have h400i : most + 22 * i ≤ 400 := by omega
    refine ⟨_, rfl, p, c, 4, rfl, by decide, by decide, hP1, fun kd H2 kd0 kd1 hP2 f2 => ?_⟩
    have hL2 := hLs.frm lne.1 f2
    have f12 := f1.trans f2
    -- what is put in
    have put : ∀ (L : List Nat) (H3 : Hp) (v5 v6 v7 v8 : Option V), Lts H3 l Ls (most + 22 * i) → Pool H3 p c → Frm p H H3 → L.length ≤ most + 22 * (i + 1) → (∀ x ∈ L, x ∈ SL) → ∃ l' xs v, V.ref l = .ref l' ∧ [V.str (S L)] = [v] ∧ H3 l' = some (.lst xs) ∧ xs.length < sizeLine ∧ ∃ (Ls' : List (List Nat)) (u4 u5 u6 u7 u8 : Option V), Lts (upd H3 l' (.lst (xs ++ [v]))) l Ls' (most + 22 * (i + 1)) ∧ Ls'.length = i + 1 ∧ Pool (upd H3 l' (.lst (xs ++ [v]))) p c ∧ Frm p H (upd H3 l' (.lst (xs ++ [v]))) ∧ [some (V.ref p), some (.int (many : Int)), some (.int (most : Int)), some (.ref l), some (.int (0 + (i : Int))), v5, v6, v7, v8] = [some (V.ref p), some (.int (many : Int)), some (.int (most : Int)), some (.ref l), u4, u5, u6, u7, u8] :=
      fun L H3 v5 v6 v7 v8 h3 p3 f3 hl hs => by
        have h3' : Lts H3 l Ls (most + 22 * (i + 1)) := ⟨h3.at_, fun L hL => by have := h3.le L hL; omega, h3.sl⟩
        refine ⟨l, _, _, rfl, rfl, h3.at_, by rw [lm]; exact small1000 (by omega), Ls ++ [L], _, _, _, _, _, h3'.add hl hs, by rw [List.length_append, hlen]; rfl, p3.upd lne, ?_, rfl⟩
        exact f3.updN nl
    refine ⟨_, rfl, rfl, _, rfl, ite2 (fun _ => ?a) (fun _ => ?b0)⟩
    case' b0 => refine ⟨_, rfl, (!(Ls.map tV).isEmpty), .inl ⟨_, SqL.of hL2.at_, rfl⟩, ite2 (fun _ => ?a2) (fun z => ?b)⟩
    case a | a2 =>
      refine ⟨_, rfl, .inl ⟨rfl, _, SqL.of hL2.at_⟩, _, rfl, _, rfl, p, c, most, rfl, hP2, h30, by omega, fun bb R TT as rs ts H3 hB k1 k20 hts f3 nb => ⟨bb, _, rfl, hB.bx.getT, 1, rfl, TT, _, -1, _, rfl, rfl, SqL.of hB.bx.dr.ta, last_tx (by have := hB.bx.len; omega), ?_⟩⟩
      have hl := hB.bx.len
      exact put _ H3 _ _ _ _ (hL2.frm lne.1 f3) hB.po (f12.trans f3) (by have := hts _ (tx_mem (show ts.length - 1 < ts.length by omega)); omega) (sound_SL hB.bx.dr.good.sound _ (by omega))
    have hne : 1 ≤ i := by
      cases i with
      | zero =>
        have : Ls = [] := List.length_eq_zero_iff.mp hlen
        subst this
        exact absurd rfl z
      | succ i => omega
    refine ⟨_, rfl, _, rfl, _, rfl, l, _, rfl, .inl (SqL.of hL2.at_), p, c, _, rfl, by rw [lm]; omega, by rw [lm]; omega, hP2, fun r H3 r0 r1 hP3 f3 => ?_⟩
    rw [lm] at r1
    obtain ⟨j, rfl⟩ := Int.eq_ofNat_of_zero_le r0
    have hj : j < Ls.length := by omega
    have hL3 := hL2.frm lne.1 f3
    refine ⟨l, _, _, _, rfl, rfl, SqL.of hL3.at_, atI_nat (tx_map Ls hj), ?_⟩
    have hol := hL3.le _ (tx_mem hj)
    have hos := hL3.sl _ (tx_mem hj)
    generalize tx Ls j = O at hol hos
    have f13 := f12.trans f3
    refine ⟨_, rfl, _, rfl, _, rfl, Sz (by omega), _, _, rfl, rfl, p, c, _, rfl, by rw [S_len]; omega, by rw [S_len]; omega, hP3, fun r H4 r0 r1 hP4 f4 => ?_⟩
    rw [S_len] at r1
    obtain ⟨st, rfl⟩ := Int.eq_ofNat_of_zero_le r0
    refine ⟨_, rfl, _, rfl, _, rfl, _, rfl, Sz (by omega), _, rfl, _, _, rfl, rfl, _, _, rfl, rfl, p, c, _, rfl, by rw [S_len]; omega, by rw [S_len]; omega, hP4, fun r H5 r0 r1 hP5 f5 => ⟨_, _, rfl, rfl, ?_⟩⟩
    rw [S_len] at r1
    obtain ⟨ln, rfl⟩ := Int.eq_ofNat_of_zero_le r0
    have eln : (st : Int) + (ln : Int) = ((st + ln : Nat) : Int) := by omega
    have hL5 := (hL3.frm lne.1 f4).frm lne.1 f5
    have e1 : cutS (S O) (some (st : Int)) (some ((st : Int) + (ln : Int))) = S ((O.take (st + ln)).drop st) := by rw [eln]; exact cut_S (by omega) (by omega)
    refine ⟨_, rfl, .inl ⟨rfl, _, SqL.of hL5.at_⟩, _, rfl, _, rfl, _, rfl, _, rfl, _, rfl, S O, rfl, Sz (by omega), _, rfl, p, c, 3, rfl, hP5, by decide, fun M H6 hM hMi hP6 f6 => ?_⟩
    have l1 : ((O.take (st + ln)).drop st).length ≤ O.length - st := by rw [List.length_drop, List.length_take]; omega
    refine ⟨_, _, rfl, rfl, by rw [e1, S_len, S_len]; exact Nat.le_of_lt (small1000 (by omega)), _, rfl, _, rfl, _, rfl, S O, rfl, Sz (by omega), _, rfl, p, c, 20, rfl, by decide, by decide, hP6, fun r H7 r0 r1 hP7 f7 => ?_⟩
    obtain ⟨m, rfl⟩ := Int.eq_ofNat_of_zero_le r0
    have e2 : cutS (S O) none (some (st : Int)) = S (O.take st) := cut_to
    have l2 : (O.take st).length = st := by rw [List.length_take]; omega
    have l3 : ((O.take st).take m).length ≤ 19 := by rw [List.length_take]; omega
    have l3b : ((O.take st).take m).length ≤ st := by rw [List.length_take]; omega
    refine ⟨_, rfl, S (O.take st), congrArg V.str e2, Sz (by omega), ?_⟩
    have e3 : cutS (S (O.take st)) none (some (m : Int)) = S ((O.take st).take m) := cut_to
    have lA : ((O.take (st + ln)).drop st ++ M).length ≤ O.length - st + 3 := by rw [List.length_append]; omega
    have lB : ((O.take (st + ln)).drop st ++ M ++ (O.take st).take m).length ≤ most + 22 * (i + 1) := by rw [List.length_append]; omega
    refine ⟨_, _, rfl, rfl, by rw [e1, S_cat, e3, S_len, S_len]; exact Nat.le_of_lt (small1000 (by omega)), ?_⟩
    have eV : V.str (cutS (S O) (some (st : Int)) (some ((st : Int) + (ln : Int))) ++ S M ++ cutS (S (O.take st)) none (some (m : Int))) = V.str (S ((O.take (st + ln)).drop st ++ M ++ (O.take st).take m)) := by rw [e1, S_cat, e3, S_cat]
    have := put ((O.take (st + ln)).drop st ++ M ++ (O.take st).take m) H7 (some (.int kd)) (some (.str (S O))) (some (.int (st : Int))) (some (.int ((st : Int) + (ln : Int)))) ((hL5.frm lne.1 f6).frm lne.1 f7) hP7 (((((f13.trans f4).trans f5).trans f6)).trans f7) lB (fun x hx => by
      rcases List.mem_append.mp hx with hx | hx
      · rcases List.mem_append.mp hx with hx | hx
        · exact hos x (List.mem_of_mem_take (List.mem_of_mem_drop hx))
        · exact hMi x hx
      · exact hos x (List.mem_of_mem_take (List.mem_of_mem_take hx)))
    rw [← eV] at this
    exact this
  · rintro σ H1 ⟨Ls, v4, v5, v6, v7, v8, hLs, hlen, hP1, f1, rfl⟩
    exact ⟨_, rfl, q l Ls H1 hLs hlen hP1 f1 nl lne.1⟩
end
/-! ### how many signs two lists begin with -/
def lcp : List Nat → List Nat → Nat
  | a :: as, b :: bs => if a = b then lcp as bs + 1 else 0
  | _, _ => 0
theorem lcp_step {a b : List Nat} {i j : Nat} (hi : i < a.length) (hj : j < b.length) : lcp (a.drop i) (b.drop j) = if a[i] = b[j] then lcp (a.drop (i + 1)) (b.drop (j + 1)) + 1 else 0 := by
  rw [List.drop_eq_getElem_cons hi, List.drop_eq_getElem_cons hj]
  rfl
theorem lcp_end {a b : List Nat} {i j : Nat} (h : a.length ≤ i ∨ b.length ≤ j) : lcp (a.drop i) (b.drop j) = 0 := by
  rcases h with h | h
  · rw [List.drop_eq_nil_of_le h]
    rfl
  · rw [List.drop_eq_nil_of_le h]
    cases a.drop i <;> rfl
theorem lcp_spec : ∀ (n : Nat) {a b : List Nat} {i j : Nat}, n ≤ lcp (a.drop i) (b.drop j) ↔ (n = 0 ∨ i + n ≤ a.length ∧ j + n ≤ b.length) ∧ sub a i (i + n) = sub b j (j + n)
  | 0, a, b, i, j => by
    constructor
    · intro _
      exact ⟨.inl rfl, by rw [sub_eq_iff]; intro k hk; exact absurd hk (Nat.not_lt_zero _)⟩
    · intro _; exact Nat.zero_le _
  | n + 1, a, b, i, j => by
    by_cases hi : i < a.length
    · by_cases hj : j < b.length
      · rw [lcp_step hi hj]
        have ih := lcp_spec n (a := a) (b := b) (i := i + 1) (j := j + 1)
        rw [sub_eq_iff] at ih ⊢
        by_cases e : a[i] = b[j]
        · rw [if_pos e, Nat.add_le_add_iff_right, ih]
          constructor
          · rintro ⟨h1, h2⟩
            refine ⟨.inr (by omega), fun k hk => ?_⟩
            cases k with
            | zero => rw [Nat.add_zero, Nat.add_zero, List.getElem?_eq_getElem hi, List.getElem?_eq_getElem hj, e]
            | succ k =>
              have := h2 k (by omega)
              rw [show i + 1 + k = i + (k + 1) by omega, show j + 1 + k = j + (k + 1) by omega] at this
              exact this
          · rintro ⟨h1, h2⟩
            refine ⟨by omega, fun k hk => ?_⟩
            have := h2 (k + 1) (by omega)
            rw [show i + 1 + k = i + (k + 1) by omega, show j + 1 + k = j + (k + 1) by omega]
            exact this
        · rw [if_neg e]
          constructor
          · intro h; omega
          · rintro ⟨h1, h2⟩
            exfalso
            have := h2 0 (by omega)
            rw [Nat.add_zero, Nat.add_zero, List.getElem?_eq_getElem hi, List.getElem?_eq_getElem hj] at this
            exact e (Option.some.inj this)
      · rw [lcp_end (.inr (by omega))]
        constructor
        · intro h; omega
        · rintro ⟨h1, _⟩; omega
    · rw [lcp_end (.inl (by omega))]
      constructor
      · intro h; omega
      · rintro ⟨h1, _⟩; omega
def cmn (Ls : List (List Nat)) (i s num at_ : Nat) : Nat := lcp ((tx Ls i).drop s) ((tx Ls num).drop at_)
def cand (Ls : List (List Nat)) (num at_ i s : Nat) : Prop := s < (if i = num then at_ else (tx Ls i).length)
def ahd (i0 s0 i s : Nat) : Prop := i < i0 ∨ i = i0 ∧ s < s0
/-- the longest copy among those told so far, the first of them -/
def BestOk (Ls : List (List Nat)) (num at_ i0 s0 : Nat) : Option (Nat × Nat × Nat) → Prop
  | none => ∀ i s, ahd i0 s0 i s → cand Ls num at_ i s → cmn Ls i s num at_ ≤ 1
  | some (i, s, n) => ahd i0 s0 i s ∧ cand Ls num at_ i s ∧ n = cmn Ls i s num at_ ∧ 1 < n ∧ ∀ i' s', ahd i0 s0 i' s' → cand Ls num at_ i' s' → cmn Ls i' s' num at_ ≤ n ∧ (ahd i s i' s' → cmn Ls i' s' num at_ < n)
section
variable {Ls : List (List Nat)} {num at_ i0 s0 : Nat} {bo : Option (Nat × Nat × Nat)}
theorem BestOk.nil : BestOk Ls num at_ 0 0 none := fun i s h => by
  rcases h with h | ⟨_, h⟩ <;> exact absurd h (Nat.not_lt_zero _)
theorem BestOk.keep (h : BestOk Ls num at_ i0 s0 bo) (hm : cmn Ls i0 s0 num at_ ≤ 1 ∨ ∃ i s n, bo = some (i, s, n) ∧ cmn Ls i0 s0 num at_ ≤ n) : BestOk Ls num at_ i0 (s0 + 1) bo := by
  have spl : ∀ i s, ahd i0 (s0 + 1) i s → ahd i0 s0 i s ∨ i = i0 ∧ s = s0 := fun i s h => by
    rcases h with h | ⟨h1, h2⟩
    · exact .inl (.inl h)
    · by_cases e : s = s0
      · exact .inr ⟨h1, e⟩
      · exact .inl (.inr ⟨h1, by omega⟩)
  cases bo with
  | none =>
    intro i s ha hc
    rcases spl i s ha with ha | ⟨rfl, rfl⟩
    · exact h i s ha hc
    · rcases hm with hm | ⟨_, _, _, e, _⟩
      · exact hm
      · cases e
  | some t =>
    obtain ⟨i, s, n⟩ := t
    obtain ⟨h1, h2, h3, h4, h5⟩ := h
    refine ⟨?_, h2, h3, h4, fun i' s' ha hc => ?_⟩
    · rcases h1 with h1 | ⟨h1, h1'⟩
      · exact .inl h1
      · exact .inr ⟨h1, by omega⟩
    · rcases spl i' s' ha with ha | ⟨rfl, rfl⟩
      · exact h5 i' s' ha hc
      · refine ⟨?_, fun ha2 => ?_⟩
        · rcases hm with hm | ⟨_, _, _, e, hm⟩
          · omega
          · cases e; exact hm
        · exfalso
          unfold ahd at h1 ha2
          omega
theorem BestOk.take (h : BestOk Ls num at_ i0 s0 bo) (hc : cand Ls num at_ i0 s0) (h1 : 1 < cmn Ls i0 s0 num at_) (hm : ∀ i s n, bo = some (i, s, n) → n < cmn Ls i0 s0 num at_) : BestOk Ls num at_ i0 (s0 + 1) (some (i0, s0, cmn Ls i0 s0 num at_)) := by
  have lt : ∀ i s, ahd i0 s0 i s → cand Ls num at_ i s → cmn Ls i s num at_ < cmn Ls i0 s0 num at_ := fun i s ha hc => by
    cases bo with
    | none => have := h i s ha hc; omega
    | some t =>
      obtain ⟨i2, s2, n⟩ := t
      have := (h.2.2.2.2 i s ha hc).1
      have := hm i2 s2 n rfl
      omega
  refine ⟨.inr ⟨rfl, Nat.lt_succ_self _⟩, hc, rfl, h1, fun i s ha hc' => ?_⟩
  rcases ha with ha | ⟨rfl, ha⟩
  · exact ⟨Nat.le_of_lt (lt i s (.inl ha) hc'), fun _ => lt i s (.inl ha) hc'⟩
  · by_cases e : s = s0
    · subst e
      refine ⟨Nat.le_refl _, fun ha2 => ?_⟩
      unfold ahd at ha2
      omega
    · have := lt i s (.inr ⟨rfl, by omega⟩) hc'
      exact ⟨Nat.le_of_lt this, fun _ => this⟩
theorem BestOk.next (h : BestOk Ls num at_ i0 s0 bo) (hs : ∀ s, cand Ls num at_ i0 s → s < s0) : BestOk Ls num at_ (i0 + 1) 0 bo := by
  have spl : ∀ i s, ahd (i0 + 1) 0 i s → cand Ls num at_ i s → ahd i0 s0 i s := fun i s ha hc => by
    rcases ha with ha | ⟨_, ha⟩
    · by_cases e : i = i0
      · subst e
        exact .inr ⟨rfl, hs s hc⟩
      · exact .inl (by omega)
    · exact absurd ha (Nat.not_lt_zero _)
  cases bo with
  | none => exact fun i s ha hc => h i s (spl i s ha hc) hc
  | some t =>
    obtain ⟨i, s, n⟩ := t
    obtain ⟨h1, h2, h3, h4, h5⟩ := h
    refine ⟨?_, h2, h3, h4, fun i' s' ha hc => h5 i' s' (spl i' s' ha hc) hc⟩
    unfold ahd at h1 ⊢
    omega
theorem BestOk.vp {i s n : Nat} (h : BestOk Ls num at_ (num + 1) 0 (some (i, s, n))) {m : Nat} (m1 : 1 ≤ m) (mn : m ≤ n) : VP Ls num at_ (.copy i s m) := by
  obtain ⟨h1, h2, h3, h4, _⟩ := h
  rw [h3] at mn
  obtain ⟨k1, k2⟩ := (lcp_spec m).mp mn
  refine ⟨m1, by omega, ?_, k2⟩
  unfold ahd at h1
  unfold cand at h2
  by_cases e : i = num
  · rw [if_pos e] at h2
    exact .inr ⟨e, h2⟩
  · exact .inl ⟨by omega, by omega⟩
end
def bV (H : Hp) (v : V) : Option (Nat × Nat × Nat) → Prop
  | none => v = .non
  | some (i, s, n) => ∃ t : Addr, v = .ref t ∧ H t = some (.tup (Phr.copy i s n).vals)
theorem bV.same {H H' : Hp} {v : V} {bo : Option (Nat × Nat × Nat)} (h : bV H v bo) (s : Same H H') : bV H' v bo := by
  cases bo with
  | none => exact h
  | some t =>
    obtain ⟨a, e1, e2⟩ := h
    exact ⟨a, e1, s _ _ e2⟩
section
variable {P : Program} {w : World} {K : PySem.W.Frag} {mg : Str → Option Value} {base : Heap}
/-! ### _law_texts -/
def spLTexts (C : Addr) : Sp := fun vs H Q _ => ∃ (p c l : Addr) (Ls : List (List Nat)) (n : Nat), vs = [.ref p, .ref l] ∧ Pool H p c ∧ Lts H l Ls n ∧ n ≤ 400 ∧ l ≠ p ∧ Ls.length ≤ 100 ∧ ∀ (d : Addr) (xs : List Addr) (H' : Hp), Txs C H' d xs Ls → Pool H' p c → Frm p H H' → H d = none → d ≠ p → Q (.ref d) H'
theorem scTx : FnScope ["pool", "letters", "one"] ["pool", "letters"] (defScope sLTexts) := ⟨rfl, rfl, rfl, by decide +kernel, rfl, by decide +kernel, by decide +kernel⟩
theorem ok_ltexts {C f : Addr} {fd : FuncData} (F : Fun K "_law_texts" "_law_texts" sLTexts f fd) (hm : mg "_law_texts" = some (.ref f)) (b : Binds K fd ["pool", "letters"] []) (MK : C8.Mak P w K mg base 4 "Text" C (spInit C) []) (GOt : Cal P w K mg base 21 "_law_other" spOther []) : Cal P w K mg base 22 "_law_texts" (spLTexts C) [] := by
  refine mkCal F hm b scTx (fun vs H Q E h => ?_) (fun cdv A outer sh H vs Q E hr h => ?_)
  · obtain ⟨p, c, l, Ls, n, rfl, _⟩ := h
    rfl
  obtain ⟨p, c, l, Ls, n, rfl, hP, hL, hn, nl, h100, q⟩ := h
  have hu := hu_of hr
  refine ⟨_, (pss_one (ps_ret (pe_lc (own := [("one", 2)]) (g := gName 2) (te := tMake C (spInit C) [] C8.E0 (tCons (tDGet (tCall spOther [] C8.E0 (tCons (tVar 0) (tCons (tVar 2) tNil))) (tC (.str "rules"))) tNil)) (tt := tYes) rfl scTx.nd (pi_list (pv 1)) (blkOk_by (N := ["pool", "letters", "one"]) (sc := defScope sLTexts) (by decide +kernel)) (fun _ _ _ _ _ => (pg_name (i := 2) scTx.nd rfl (.inl rfl))) (fun _ _ _ _ _ => pts_nil) (fun _ _ _ _ _ => (C8.pe_mk MK hr (by decide) (by rfl) (pa_cons (pe_dget hu (pe_c GOt hr (by decide) (by rfl) (pa_cons (pv 0) (pa_cons (pv 2) pa_nil))) pe_str (fun _ _ => rfl)) pa_nil)))))), ?_⟩
  refine ⟨_, rfl, l, rfl, ⟨_, SqL.of hL.at_⟩, fun D nD => ?_⟩
  have nDp := hP.ne nD
  refine lc_list (K := K) (a := l) (xs := Ls.map tV) (fun i H' => Pool H' p c ∧ Frm p H H' ∧ ∃ xs : List Addr, H' D = some (.lst (xs.map V.ref)) ∧ xs.length = i ∧ ∀ j x, xs[j]? = some x → TxB C H' x (tx Ls j)) ⟨hP.new nD, Frm.refl.new nD, [], upd_same, rfl, fun j x e => by simp at e⟩ (fun i H' _ h => SqL.of (h.2.1 _ _ nl hL.at_)) ?_ ?_
  · rintro i v H1 hi ⟨hP1, f1, xs, eD, lx, hx⟩
    have hi2 : i < Ls.length := by
      have := (List.getElem?_eq_some_iff.mp hi).1
      rw [List.length_map] at this
      exact this
    rw [tx_map Ls hi2] at hi
    obtain rfl := Option.some.inj hi
    refine ⟨rfl, _, rfl, _, rfl, p, c, tx Ls i, rfl, hP1, Nat.le_trans (hL.le _ (tx_mem hi2)) hn, hL.sl _ (tx_mem hi2), fun bb R TT as rs ts H2 hB k1 k56 ex f2 nb => ⟨bb, _, rfl, hB.bx.getR, fun x dx nx ndx ne => mkTxB hB k1 (by omega) nx ndx ne fun H3 s3 tX => ?_⟩⟩
    have eD3 := s3 _ _ (f2 _ _ nDp.1 eD)
    refine ⟨_, eD3, by rw [List.length_map, lx]; exact small1000 (by omega), (hB.po.same s3).upd nDp, ?_, xs ++ [x], by rw [upd_same, List.map_append]; rfl, by rw [List.length_append, lx]; rfl, fun j y e => ?_⟩
    · exact (f1.trans (f2.trans fun b o _ e => s3 _ _ e)).updN nD
    · by_cases hj : j < xs.length
      · rw [List.getElem?_append_left hj] at e
        exact ((hx j y e).frm hP1 f2 |>.same s3).updL eD3
      · obtain rfl : j = xs.length := by
          have := (List.getElem?_eq_some_iff.mp e).1
          rw [List.length_append] at this
          have : j < xs.length + 1 := this
          omega
        rw [List.getElem?_append_right (Nat.le_refl _), Nat.sub_self] at e
        obtain rfl := Option.some.inj e
        rw [lx, ← ex]
        exact tX.updL eD3
  · rintro H1 ⟨hP1, f1, xs, eD, lx, hx⟩
    rw [List.length_map] at lx
    exact q D xs H1 ⟨eD, lx, hx⟩ hP1 f1 nD nDp.1
end
section
variable {P : Program} {w : World} {K : PySem.W.Frag} {mg : Str → Option Value} {base : Heap}
/-! ### _law_longest -/
def spLLongest : Sp := fun vs H Q _ => ∃ (l : Addr) (Ls : List (List Nat)) (n num at_ : Nat), vs = [.ref l, .int (num : Int), .int (at_ : Int)] ∧ Lts H l Ls n ∧ n ≤ 1000 ∧ num < Ls.length ∧ Ls.length ≤ 100 ∧ at_ ≤ (tx Ls num).length ∧ ∀ (bo : Option (Nat × Nat × Nat)) (bv : V) (H' : Hp), BestOk Ls num at_ (num + 1) 0 bo → bV H' bv bo → Same H H' → Q bv H'
theorem scLo : FnScope ["letters", "number", "at", "text", "best", "source", "last", "start", "many"] ["letters", "number", "at"] (defScope sLLongest) := ⟨rfl, rfl, rfl, by decide +kernel, rfl, by decide +kernel, by decide +kernel⟩
theorem ok_llongest {f : Addr} {fd : FuncData} (F : Fun K "_law_longest" "_law_longest" sLLongest f fd) (hm : mg "_law_longest" = some (.ref f)) (b : Binds K fd ["letters", "number", "at"] []) (T : Txt mg) : Cal P w K mg base 1 "_law_longest" spLLongest [] := by
  refine mkCal F hm b scLo (fun vs H Q E h => ?_) (fun cdv A outer sh H vs Q E hr h => ?_)
  · obtain ⟨l, Ls, n, num, at_, rfl, _⟩ := h
    rfl
  obtain ⟨l, Ls, n, num, at_, rfl, hL, hn, hnum, h100, hat, q⟩ := h
  have hsz : ∀ {i : Nat}, i < Ls.length → (tx Ls i).length ≤ 1000 := fun hi => Nat.le_trans (hL.le _ (tx_mem hi)) hn
  have hT := hsz hnum
  refine ⟨_, (pss_cons (ps_set (i := 3) scLo.nd rfl (.inl rfl) (pe_ix ix_list (pv 0) (pv 1) (fun _ _ => rfl)))
    (pss_cons (ps_set (i := 4) scLo.nd rfl (.inl rfl) pe_non)
    (pss_cons (ps_for PassesOwn.never rfl (pi_range1 (by rfl) T.range (pa_cons (pe_op op_add (pv 1) pe_int) pa_nil)) (pg_name (i := 5) scLo.nd rfl (.inl rfl)) (pss_cut (ps_set (i := 6) scLo.nd rfl (.inl rfl) (pe_ifExp (pt_cmpR op_eq (pv 5) (pv 1) (nomark _)) (pv 2) (pe_callB call_len_str (by rfl) T.len PySem.boot_len (pa_cons (pe_ix ix_list (pv 0) (pv 5) (fun _ _ => rfl)) pa_nil))))
    (pss_one (ps_for PassesOwn.never rfl (pi_range1 (by rfl) T.range (pa_cons (pv 6) pa_nil)) (pg_name (i := 7) scLo.nd rfl (.inl rfl)) (pss_cons (ps_set (i := 8) scLo.nd rfl (.inl rfl) pe_int)
    (pss_cons (ps_while PassesOwn.never (PW.pt (pw_and (pt_cmpR op_lt (pe_op op_add (pv 2) (pv 8)) (pe_callB call_len_str (by rfl) T.len PySem.boot_len (pa_cons (pv 3) pa_nil)) (nomark _)) (pw_and (pt_cmpR op_lt (pe_op op_add (pv 7) (pv 8)) (pe_callB call_len_str (by rfl) T.len PySem.boot_len (pa_cons (pe_ix ix_list (pv 0) (pv 5) (fun _ _ => rfl)) pa_nil)) (nomark _)) (pw_and1 (pt_cmpR op_eq (pe_ix ix_str (pe_ix ix_list (pv 0) (pv 5) (fun _ _ => rfl)) (pe_op op_add (pv 7) (pv 8)) (fun _ _ => rfl)) (pe_ix ix_str (pv 3) (pe_op op_add (pv 2) (pv 8)) (fun _ _ => rfl)) (nomark _)))))) (pss_one (ps_set (i := 8) scLo.nd rfl (.inl rfl) (pe_op op_add (pv 8) pe_int))))
    (pss_one (ps_if (PW.pt (pw_and (pt_cmpR op_gt (pv 8) pe_int (nomark _)) (pw_and1 (PW.pt (pw_or (pt_cmpR op_isN (pv 4) pe_non (nomark _)) (pw_or1 (pt_cmpR op_gt (pv 8) (pe_ix ix_tup (pv 4) pe_int (fun _ _ => rfl)) (nomark _)))))))) (pss_one (ps_set (i := 4) scLo.nd rfl (.inl rfl) (pe_tup (pa_cons pe_str (pa_cons (pv 5) (pa_cons (pv 7) (pa_cons (pv 8) pa_nil))))))) pss_nil))))))))
    (pss_one (ps_ret (pv 4)))))), ?_⟩
  refine ⟨_, rfl, _, rfl, l, _, _, _, rfl, rfl, SqL.of hL.at_, atI_nat (tx_map Ls hnum), ?_⟩
  refine ⟨_, rfl, _, _, rfl, rfl, _, rfl, by omega, by omega, for_range (lo := 0) (n := ((num : Int) + 1).toNat) (fun i σ H' => ∃ (bo : Option (Nat × Nat × Nat)) (bv : V) (v5 v6 v7 v8 : Option V), BestOk Ls num at_ i 0 bo ∧ bV H' bv bo ∧ Same H H' ∧ σ = [some (.ref l), some (.int (num : Int)), some (.int (at_ : Int)), some (.str (S (tx Ls num))), some bv, v5, v6, v7, v8])
    ⟨none, .non, none, none, none, none, .nil, rfl, Same.refl H, rfl⟩ ?_ ?_⟩
  · rintro i σ H1 hi ⟨bo, bv, v5, v6, v7, v8, hb, hv, s1, rfl⟩
    have hin : i ≤ num := by omega
    have hil : i < Ls.length := by omega
    have hO := hsz hil
    have e0i : (0 : Int) + (i : Int) = (i : Int) := Int.zero_add _
    rw [e0i]
    refine ⟨fun σ H' => ∃ lst : Nat, lst = (if i = num then at_ else (tx Ls i).length) ∧ H' = H1 ∧ σ = [some (.ref l), some (.int (num : Int)), some (.int (at_ : Int)), some (.str (S (tx Ls num))), some bv, some (.int (i : Int)), some (.int (lst : Int)), v7, v8], ?_, ?_⟩
    · refine ⟨_, rfl, _, rfl, rfl, _, rfl, ite2 (fun z => ?_) (fun z => ?_)⟩
      · have z : i = num := Int.ofNat_inj.mp (V.int.inj (of_decide_eq_true z))
        exact ⟨_, rfl, at_, by rw [if_pos z], rfl, rfl⟩
      · have z : ¬ i = num := fun h => z (decide_eq_true (by rw [h]))
        refine ⟨_, rfl, _, rfl, l, _, _, _, rfl, rfl, SqL.of (s1 _ _ hL.at_), atI_nat (tx_map Ls hil), _, rfl, Sz (by omega), (tx Ls i).length, by rw [if_neg z], rfl, ?_⟩
        rw [S_len]
        rfl
    rintro σ H2 ⟨lst, hlst, rfl, rfl⟩
    have hll : lst ≤ (tx Ls i).length := by
      rw [hlst]
      split
      · rename_i e
        rw [e]
        exact hat
      · exact Nat.le_refl _
    have hcand : ∀ s, cand Ls num at_ i s ↔ s < lst := fun s => by unfold cand; rw [hlst]
    refine ⟨_, rfl, _, rfl, by omega, by omega, for_range (lo := 0) (n := ((lst : Nat) : Int).toNat) (fun j σ H' => ∃ (bo : Option (Nat × Nat × Nat)) (bv : V) (v7 v8 : Option V), BestOk Ls num at_ i j bo ∧ bV H' bv bo ∧ Same H H' ∧ σ = [some (.ref l), some (.int (num : Int)), some (.int (at_ : Int)), some (.str (S (tx Ls num))), some bv, some (.int (i : Int)), some (.int (lst : Int)), v7, v8])
      ⟨bo, bv, v7, v8, hb, hv, s1, rfl⟩ ?_ ?_⟩
    · rintro j σ H3 hj ⟨bo, bv, v7, v8, hb, hv, s3, rfl⟩
      have hjl : j < lst := by omega
      have e0j : (0 : Int) + (j : Int) = (j : Int) := Int.zero_add _
      rw [e0j]
      refine ⟨fun μ σ H' => ∃ m : Nat, m + lcp ((tx Ls i).drop (j + m)) ((tx Ls num).drop (at_ + m)) = cmn Ls i j num at_ ∧ m ≤ 1000 ∧ μ = cmn Ls i j num at_ - m ∧ H' = H3 ∧ σ = [some (.ref l), some (.int (num : Int)), some (.int (at_ : Int)), some (.str (S (tx Ls num))), some bv, some (.int (i : Int)), some (.int (lst : Int)), some (.int (j : Int)), some (.int (m : Int))], ⟨_, 0, by rw [Nat.zero_add]; rfl, Nat.zero_le _, rfl, rfl, rfl⟩, ?_⟩
      rintro μ σ H4 ⟨m, em, hm1000, rfl, rfl, rfl⟩
      have e1 : (at_ : Int) + (m : Int) = ((at_ + m : Nat) : Int) := by omega
      have e2 : (j : Int) + (m : Int) = ((j + m : Nat) : Int) := by omega
      -- behind the loop
      have after : m = cmn Ls i j num at_ → ∃ (c : Nat), c = cmn Ls i j num at_ ∧ m = c := fun h => ⟨_, rfl, h⟩
      refine ⟨_, rfl, _, rfl, _, _, rfl, rfl, _, rfl, _, rfl, Sz (by omega), _, _, rfl, rfl, _, rfl, ite2 (fun z1 => ?_) (fun z1 => ?end1)⟩
      have z1 : (at_ : Int) + (m : Int) < ((S (tx Ls num)).length : Int) := of_decide_eq_true z1
      rw [S_len, e1] at z1
      have z1 : at_ + m < (tx Ls num).length := by omega
      refine ⟨_, rfl, _, rfl, _, _, rfl, rfl, _, rfl, _, rfl, l, _, _, _, rfl, rfl, SqL.of (s3 _ _ hL.at_), atI_nat (tx_map Ls hil), _, rfl, Sz (by omega), _, _, rfl, rfl, _, rfl, ite2 (fun z2 => ?_) (fun z2 => ?end2)⟩
      have z2 : (j : Int) + (m : Int) < ((S (tx Ls i)).length : Int) := of_decide_eq_true z2
      rw [S_len, e2] at z2
      have z2 : j + m < (tx Ls i).length := by omega
      rw [lcp_step z2 z1] at em
      refine ⟨_, rfl, _, rfl, l, _, _, _, rfl, rfl, SqL.of (s3 _ _ hL.at_), atI_nat (tx_map Ls hil), _, rfl, _, rfl, _, _, rfl, rfl, S (tx Ls i), _, (tx Ls i)[j + m], rfl, rfl, Sz (by omega), by rw [e2]; exact atS z2, _, rfl, _, rfl, _, rfl, _, _, rfl, rfl, S (tx Ls num), _, (tx Ls num)[at_ + m], rfl, rfl, Sz (by omega), by rw [e1]; exact atS z1, rfl, _, rfl, ite2 (fun z3 => ?_) (fun z3 => ?end3)⟩
      · have z3 : (tx Ls i)[j + m] = (tx Ls num)[at_ + m] := by
          have := S_inj (V.str.inj (of_decide_eq_true z3))
          exact (List.cons.inj this).1
        rw [if_pos z3] at em
        refine ⟨fun σ' H5 => ∃ μ', μ' < cmn Ls i j num at_ - m ∧ ∃ m : Nat, m + lcp ((tx Ls i).drop (j + m)) ((tx Ls num).drop (at_ + m)) = cmn Ls i j num at_ ∧ m ≤ 1000 ∧ μ' = cmn Ls i j num at_ - m ∧ H5 = H4 ∧ σ' = [some (.ref l), some (.int (num : Int)), some (.int (at_ : Int)), some (.str (S (tx Ls num))), some bv, some (.int (i : Int)), some (.int (lst : Int)), some (.int (j : Int)), some (.int (m : Int))], fun _ _ h => h, ?_⟩
        refine ⟨_, rfl, _, _, rfl, rfl, cmn Ls i j num at_ - (m + 1), by omega, m + 1, by rw [← Nat.add_assoc, ← Nat.add_assoc]; omega, by omega, rfl, rfl, ?_⟩
        rw [show ((m + 1 : Nat) : Int) = (m : Int) + 1 by omega]
        rfl
      case' end1 =>
        have hme : m = cmn Ls i j num at_ := by
          have z1 : ¬ (at_ : Int) + (m : Int) < ((S (tx Ls num)).length : Int) := fun h => z1 (decide_eq_true h)
          rw [S_len, e1] at z1
          rw [lcp_end (.inr (by omega))] at em
          omega
      case' end2 =>
        have hme : m = cmn Ls i j num at_ := by
          have z2 : ¬ (j : Int) + (m : Int) < ((S (tx Ls i)).length : Int) := fun h => z2 (decide_eq_true h)
          rw [S_len, e2] at z2
          rw [lcp_end (.inl (by omega))] at em
          omega
      case' end3 =>
        have hme : m = cmn Ls i j num at_ := by
          rw [if_neg fun h => z3 (decide_eq_true (by rw [h]))] at em
          omega
      case end1 | end2 | end3 =>
        subst hme
        refine ⟨_, rfl, _, _, rfl, rfl, _, rfl, ite2 (fun z => ?_) (fun z => ?_)⟩
        · have z : 1 < cmn Ls i j num at_ := by
            have : ((cmn Ls i j num at_ : Nat) : Int) > 1 := of_decide_eq_true z
            omega
          have put : ∀ {H : Hp}, (∀ (t : Addr), H4 t = none → bV (upd H4 t (.tup (Phr.copy i j (cmn Ls i j num at_)).vals)) (.ref t) (some (i, j, cmn Ls i j num at_))) := fun t nt => ⟨t, rfl, upd_same⟩
          cases bo with
          | none =>
            obtain rfl : bv = .non := hv
            refine ⟨_, rfl, rfl, _, rfl, ifT (by decide) ?_⟩
            refine ⟨_, rfl, _, rfl, _, rfl, by show 4 ≤ sizeLine; decide, fun t nt => ?_⟩
            exact ⟨some (i, j, cmn Ls i j num at_), .ref t, _, _, hb.take ((hcand j).mpr hjl) z (fun i s n e => by cases e), put (H := H4) t nt, s3.trans (same_new nt), rfl⟩
          | some tr =>
            obtain ⟨i2, s2, n2⟩ := tr
            obtain ⟨t2, rfl, et2⟩ := hv
            refine ⟨_, rfl, rfl, _, rfl, ifF (decide_eq_false (by intro h; cases h)) ?_⟩
            refine ⟨_, rfl, _, rfl, t2, _, 3, _, rfl, rfl, SqT.of et2, atI_nat (j := 3) rfl, _, _, rfl, rfl, _, rfl, ite2 (fun z5 => ?_) (fun z5 => ?_)⟩
            · have z5 : n2 < cmn Ls i j num at_ := by
                have : ((cmn Ls i j num at_ : Nat) : Int) > (n2 : Int) := of_decide_eq_true z5
                omega
              refine ⟨_, rfl, _, rfl, _, rfl, by show 4 ≤ sizeLine; decide, fun t nt => ?_⟩
              exact ⟨some (i, j, cmn Ls i j num at_), .ref t, _, _, hb.take ((hcand j).mpr hjl) z (fun i s n e => by cases e; exact z5), put (H := H4) t nt, s3.trans (same_new nt), rfl⟩
            · have z5 : ¬ ((cmn Ls i j num at_ : Nat) : Int) > (n2 : Int) := fun h => z5 (decide_eq_true h)
              exact ⟨some (i2, s2, n2), .ref t2, _, _, hb.keep (.inr ⟨i2, s2, n2, rfl, by omega⟩), ⟨t2, rfl, et2⟩, s3, rfl⟩
        · have z : ¬ ((cmn Ls i j num at_ : Nat) : Int) > 1 := fun h => z (decide_eq_true h)
          exact ⟨bo, bv, _, _, hb.keep (.inl (by omega)), hv, s3, rfl⟩
    · rintro σ H3 ⟨bo, bv, v7, v8, hb, hv, s3, rfl⟩
      exact ⟨bo, bv, _, _, _, _, hb.next fun s hs => by have := (hcand s).mp hs; omega, hv, s3, rfl⟩
  · rintro σ H1 ⟨bo, bv, v5, v6, v7, v8, hb, hv, s1, rfl⟩
    rw [show ((num : Int) + 1).toNat = num + 1 by omega] at hb
    exact ⟨_, rfl, q bo bv H1 hb hv s1⟩
end
theorem LT.frm {H H' : Hp} {us : List Addr} {vss : List (List V)} {p c : Addr} (h : LT H us vss) (P : Pool H p c) (f : Frm p H H') : LT H' us vss := by
  obtain ⟨pos, left, seed, xs, hp⟩ := P
  exact ⟨h.1, fun k vs e => let ⟨a, e1, e2⟩ := h.2 k vs e; ⟨a, e1, f _ _ (ne_of e2 hp.at_ (by intro z; cases z)) e2⟩⟩
theorem PhAt.frm {H H' : Hp} {t p c : Addr} {phs : List Phr} (h : PhAt H t phs) (P : Pool H p c) (f : Frm p H H') : PhAt H' t phs := by
  obtain ⟨us, a, b⟩ := h
  obtain ⟨pos, left, seed, xs, hp⟩ := id P
  exact ⟨us, f _ _ (ne_of a hp.at_ (by intro z; cases z)) a, b.frm P f⟩
theorem bV.frm {H H' : Hp} {v : V} {p c : Addr} {bo : Option (Nat × Nat × Nat)} (h : bV H v bo) (P : Pool H p c) (f : Frm p H H') : bV H' v bo := by
  obtain ⟨pos, left, seed, xs, hp⟩ := P
  cases bo with
  | none => exact h
  | some t =>
    obtain ⟨a, e1, e2⟩ := h
    exact ⟨a, e1, f _ _ (ne_of e2 hp.at_ (by intro z; cases z)) e2⟩
/-- rows of phrases in a list -/
def RowsAt (H : Hp) (ro : Addr) (ws : List Addr) (pss : List (List Phr)) : Prop := H ro = some (.lst (ws.map V.ref)) ∧ ws.length = pss.length ∧ ∀ (i : Nat) (u : Addr) (phs : List Phr), ws[i]? = some u → pss[i]? = some phs → PhAt H u phs
theorem RowsAt.same {H H' : Hp} {ro : Addr} {ws : List Addr} {pss : List (List Phr)} (h : RowsAt H ro ws pss) (s : Same H H') : RowsAt H' ro ws pss := ⟨s _ _ h.1, h.2.1, fun i u phs a b => (h.2.2 i u phs a b).same s⟩
theorem RowsAt.frm {H H' : Hp} {ro p c : Addr} {ws : List Addr} {pss : List (List Phr)} (h : RowsAt H ro ws pss) (n : ro ≠ p) (P : Pool H p c) (f : Frm p H H') : RowsAt H' ro ws pss := ⟨f _ _ n h.1, h.2.1, fun i u phs a b => (h.2.2 i u phs a b).frm P f⟩
theorem RowsAt.updL {H : Hp} {ro D : Addr} {ws : List Addr} {pss : List (List Phr)} {ys : List V} {o : HO} (h : RowsAt H ro ws pss) (n : ro ≠ D) (hD : H D = some (.lst ys)) : RowsAt (upd H D o) ro ws pss := ⟨by rw [upd_ne n]; exact h.1, h.2.1, fun i u phs a b => (h.2.2 i u phs a b).updL hD⟩
theorem RowsAt.add {H : Hp} {ro t : Addr} {ws : List Addr} {pss : List (List Phr)} {phs : List Phr} (h : RowsAt H ro ws pss) (ht : PhAt H t phs) : RowsAt (upd H ro (.lst (ws.map V.ref ++ [.ref t]))) ro (ws ++ [t]) (pss ++ [phs]) := by
  refine ⟨by rw [upd_same, List.map_append]; rfl, by rw [List.length_append, List.length_append, h.2.1]; rfl, fun j u ph a1 a2 => ?_⟩
  by_cases hj : j < pss.length
  · rw [List.getElem?_append_left (by rw [h.2.1]; exact hj)] at a1
    rw [List.getElem?_append_left hj] at a2
    exact (h.2.2 j u ph a1 a2).updL h.1
  · obtain rfl : j = pss.length := by
      have := (List.getElem?_eq_some_iff.mp a2).1
      rw [List.length_append] at this
      have : j < pss.length + 1 := this
      omega
    rw [List.getElem?_append_right (by rw [h.2.1]; exact Nat.le_refl _), h.2.1, Nat.sub_self] at a1
    rw [List.getElem?_append_right (by omega), Nat.sub_self] at a2
    obtain rfl := Option.some.inj a1
    obtain rfl := Option.some.inj a2
    exact ht.updL h.1
section
variable {P : Program} {w : World} {K : PySem.W.Frag} {mg : Str → Option Value} {base : Heap}
/-! ### _law_drawn_cut -/
def Cuts (Ls : List (List Nat)) (k : Nat) (pss : List (List Phr)) : Prop := pss.length = k ∧ ∀ (i : Nat) (phs : List Phr), pss[i]? = some phs → Spl Ls i phs (tx Ls i).length
theorem Cuts.add {Ls : List (List Nat)} {k : Nat} {pss : List (List Phr)} {phs : List Phr} (h : Cuts Ls k pss) (hp : Spl Ls k phs (tx Ls k).length) : Cuts Ls (k + 1) (pss ++ [phs]) := by
  refine ⟨by rw [List.length_append, h.1]; rfl, fun j ph e => ?_⟩
  by_cases hj : j < pss.length
  · rw [List.getElem?_append_left hj] at e
    exact h.2 j ph e
  · obtain rfl : j = k := by
      have := (List.getElem?_eq_some_iff.mp e).1
      rw [List.length_append] at this
      have : j < pss.length + 1 := this
      have := h.1
      omega
    rw [List.getElem?_append_right (by rw [h.1]; exact Nat.le_refl _), h.1, Nat.sub_self] at e
    obtain rfl := Option.some.inj e
    exact hp
def spDCut : Sp := fun vs H Q _ => ∃ (p c l : Addr) (Ls : List (List Nat)) (n : Nat), vs = [.ref p, .ref l] ∧ Pool H p c ∧ Lts H l Ls n ∧ n ≤ 1000 ∧ l ≠ p ∧ Ls.length ≤ 100 ∧ ∀ (t : Addr) (ws : List Addr) (pss : List (List Phr)) (H' : Hp), CutAt H' t ws pss → Cuts Ls Ls.length pss → Pool H' p c → Frm p H H' → H t = none → Q (.ref t) H'
theorem scDc : FnScope ["pool", "letters", "rows", "number", "row", "at", "turn", "best", "many"] ["pool", "letters"] (defScope sLDrawnCut) := ⟨rfl, rfl, rfl, by decide +kernel, rfl, by decide +kernel, by decide +kernel⟩
theorem ok_dcut {f : Addr} {fd : FuncData} (F : Fun K "_law_drawn_cut" "_law_drawn_cut" sLDrawnCut f fd) (hm : mg "_law_drawn_cut" = some (.ref f)) (b : Binds K fd ["pool", "letters"] []) (T : Txt mg) (G : Cal P w K mg base 2 "_law_take" spTake []) (GLo : Cal P w K mg base 1 "_law_longest" spLLongest []) : Cal P w K mg base 3 "_law_drawn_cut" spDCut [] := by
  refine mkCal F hm b scDc (fun vs H Q E h => ?_) (fun cdv A outer sh H vs Q E hr h => ?_)
  · obtain ⟨p, c, l, Ls, n, rfl, _⟩ := h
    rfl
  obtain ⟨p, c, l, Ls, n, rfl, hP, hL, hn, nlp, h100, q⟩ := h
  have hlm : (Ls.map tV).length = Ls.length := List.length_map ..
  refine ⟨_, (pss_cons (ps_set (i := 2) scDc.nd rfl (.inl rfl) (pe_lst pa_nil))
    (pss_cons (ps_for PassesOwn.never rfl (pi_range1 (by rfl) T.range (pa_cons (pe_callB call_len_seq (by rfl) T.len PySem.boot_len (pa_cons (pv 1) pa_nil)) pa_nil)) (pg_name (i := 3) scDc.nd rfl (.inl rfl)) (pss_cons (ps_set (i := 4) scDc.nd rfl (.inl rfl) (pe_lst pa_nil))
    (pss_cons (ps_set (i := 5) scDc.nd rfl (.inl rfl) pe_int)
    (pss_cut (ps_for PassesOwn.never rfl (pi_range1 (by rfl) T.range (pa_cons (pe_callB call_len_str (by rfl) T.len PySem.boot_len (pa_cons (pe_ix ix_list (pv 1) (pv 3) (fun _ _ => rfl)) pa_nil)) pa_nil)) (pg_name (i := 6) scDc.nd rfl (.inl rfl)) (pss_one (ps_if (pt_cmpR op_lt (pv 5) (pe_callB call_len_str (by rfl) T.len PySem.boot_len (pa_cons (pe_ix ix_list (pv 1) (pv 3) (fun _ _ => rfl)) pa_nil)) (nomark _)) (pss_cons (ps_set (i := 7) scDc.nd rfl (.inl rfl) (pe_c GLo hr (by decide) (by rfl) (pa_cons (pv 1) (pa_cons (pv 3) (pa_cons (pv 5) pa_nil)))))
    (pss_one (ps_if (PW.pt (pw_or (pt_cmpR op_isN (pv 7) pe_non (nomark _)) (pw_or1 (pt_cmpR op_eq (pe_c G hr (by decide) (by rfl) (pa_cons (pv 0) (pa_cons pe_int pa_nil))) pe_int (nomark _))))) (pss_cons (ps_expr (pe_bm PySem.F.plainAttrs_list PySem.F.slot_list_append PySem.F.type_list_append mt_append (pv 4) (pa_cons (pe_tup (pa_cons pe_str (pa_cons (pe_ix ix_str (pe_ix ix_list (pv 1) (pv 3) (fun _ _ => rfl)) (pv 5) (fun _ _ => rfl)) pa_nil))) pa_nil)))
    (pss_one (ps_set (i := 5) scDc.nd rfl (.inl rfl) (pe_op op_add (pv 5) pe_int)))) (pss_cons (ps_set (i := 8) scDc.nd rfl (.inl rfl) (pe_op op_sub (pe_ix ix_tup (pv 7) pe_int (fun _ _ => rfl)) (pe_op op_mul (pe_c G hr (by decide) (by rfl) (pa_cons (pv 0) (pa_cons pe_int pa_nil))) (pe_c G hr (by decide) (by rfl) (pa_cons (pv 0) (pa_cons (pe_ix ix_tup (pv 7) pe_int (fun _ _ => rfl)) pa_nil))))))
    (pss_cons (ps_expr (pe_bm PySem.F.plainAttrs_list PySem.F.slot_list_append PySem.F.type_list_append mt_append (pv 4) (pa_cons (pe_tup (pa_cons pe_str (pa_cons (pe_ix ix_tup (pv 7) pe_int (fun _ _ => rfl)) (pa_cons (pe_ix ix_tup (pv 7) pe_int (fun _ _ => rfl)) (pa_cons (pv 8) pa_nil))))) pa_nil)))
    (pss_one (ps_set (i := 5) scDc.nd rfl (.inl rfl) (pe_op op_add (pv 5) (pv 8))))))))) pss_nil)))
    (pss_one (ps_expr (pe_bm PySem.F.plainAttrs_list PySem.F.slot_list_append PySem.F.type_list_append mt_append (pv 2) (pa_cons (pe_callTy call_tuple_of (by rfl) T.tuple (by decide +kernel) (pa_cons (pv 4) pa_nil)) pa_nil))))))))
    (pss_one (ps_ret (pe_callTy call_tuple_of (by rfl) T.tuple (by decide +kernel) (pa_cons (pv 2) pa_nil)))))), ?_⟩
  refine ⟨Nat.zero_le _, fun RO nRO => ?_⟩
  have nROp := hP.ne nRO
  have nlR : l ≠ RO := fun e => by subst e; rw [hL.at_] at nRO; cases nRO
  refine ⟨_, rfl, l, _, rfl, .inl (SqL.of (same_new nRO _ _ hL.at_)), _, rfl, by omega, by omega, for_range (lo := 0) (n := (((Ls.map tV).length : Nat) : Int).toNat) (fun i σ H' => ∃ (ws : List Addr) (pss : List (List Phr)) (v3 v4 v5 v6 v7 v8 : Option V), RowsAt H' RO ws pss ∧ Cuts Ls i pss ∧ Pool H' p c ∧ Frm p H H' ∧ σ = [some (.ref p), some (.ref l), some (.ref RO), v3, v4, v5, v6, v7, v8])
    ⟨[], [], none, none, none, none, none, none, ⟨upd_same, rfl, fun i u phs e => by simp at e⟩, ⟨rfl, fun i phs e => by simp at e⟩, hP.new nRO, Frm.refl.new nRO, rfl⟩ ?_ ?_⟩
  · rintro i σ H1 hi ⟨ws, pss, v3, v4, v5, v6, v7, v8, hR, hC, hP1, f1, rfl⟩
    have hil : i < Ls.length := by omega
    have hT := Nat.le_trans (hL.le _ (tx_mem hil)) hn
    have e0i : (0 : Int) + (i : Int) = (i : Int) := Int.zero_add _
    rw [e0i]
    refine ⟨Nat.zero_le _, fun RW nRW => ?_⟩
    have nRWp := hP1.ne nRW
    have nRR : RO ≠ RW := fun e => by subst e; rw [hR.1] at nRW; cases nRW
    have hL1 := hL.frm nlp f1
    have nlW : l ≠ RW := fun e => by subst e; rw [hL1.at_] at nRW; cases nRW
    have s2 := same_new (o := .lst []) nRW
    refine ⟨fun σ H' => ∃ (us : List Addr) (phs : List Phr) (v6 v7 v8 : Option V), Spl Ls i phs (tx Ls i).length ∧ H' RW = some (.lst (us.map V.ref)) ∧ LT H' us (phs.map Phr.vals) ∧ RowsAt H' RO ws pss ∧ Pool H' p c ∧ Frm p H H' ∧ σ = [some (.ref p), some (.ref l), some (.ref RO), some (.int (i : Int)), some (.ref RW), some (.int (((tx Ls i).length : Nat) : Int)), v6, v7, v8], ?_, ?_⟩
    · refine ⟨_, rfl, _, rfl, l, _, _, _, rfl, rfl, SqL.of (s2 _ _ hL1.at_), atI_nat (tx_map Ls hil), _, rfl, Sz (by omega), _, rfl, by rw [S_len]; omega, by rw [S_len]; omega, ?_⟩
      refine for_range (lo := 0) (n := (((S (tx Ls i)).length : Nat) : Int).toNat) (fun j σ H' => ∃ (x : Nat) (us : List Addr) (phs : List Phr) (v6 v7 v8 : Option V), (j ≤ x ∨ x = (tx Ls i).length) ∧ Spl Ls i phs x ∧ H' RW = some (.lst (us.map V.ref)) ∧ LT H' us (phs.map Phr.vals) ∧ RowsAt H' RO ws pss ∧ Pool H' p c ∧ Frm p H H' ∧ σ = [some (.ref p), some (.ref l), some (.ref RO), some (.int (i : Int)), some (.ref RW), some (.int (x : Int)), v6, v7, v8])
        ⟨0, [], [], v6, v7, v8, .inl (Nat.le_refl _), .nil, upd_same, LT.nil, hR.same s2, hP1.new nRW, f1.trans (fun _ _ _ e => s2 _ _ e), rfl⟩ ?_ ?_
      · rintro j σ H3 hj ⟨x, us, phs, v6, v7, v8, hjx, hspl, eW, lt, hR3, hP3, f3, rfl⟩
        obtain ⟨hxl, hpx⟩ := hspl.le
        have lus : us.length = phs.length := by rw [lt.1, List.length_map]
        have hL3 := hL.frm nlp f3
        refine ⟨_, rfl, _, rfl, _, rfl, l, _, _, _, rfl, rfl, SqL.of hL3.at_, atI_nat (tx_map Ls hil), _, rfl, Sz (by omega), _, _, rfl, rfl, _, rfl, ite2 (fun z => ?_) (fun z => ?_)⟩
        · have z : (x : Int) < ((S (tx Ls i)).length : Int) := of_decide_eq_true z
          rw [S_len] at z
          have hx : x < (tx Ls i).length := by omega
          refine ⟨_, rfl, _, rfl, _, rfl, l, Ls, n, i, x, rfl, hL3, hn, hil, h100, hxl, fun bo bv H4 hb hv s4 => ?_⟩
          have hL4 := hL3.same s4
          have eW4 := s4 _ _ eW
          have lt4 := lt.same s4
          have hR4 := hR3.same s4
          have hP4 := hP3.same s4
          have f4 : Frm p H H4 := f3.trans (fun _ _ _ e => s4 _ _ e)
          have hsz : (us.map V.ref).length < sizeLine := small1000 (by rw [List.length_map]; omega)
          -- one phrase more
          have put : ∀ (ph : Phr) (vals : List V) (u : Addr) (H5 : Hp) (v6 v7 v8 : Option V) (xi : Int), vals = ph.vals → VP Ls i x ph → xi = ((x + ph.n : Nat) : Int) → Lts H5 l Ls n → H5 RW = some (.lst (us.map V.ref)) → LT H5 us (phs.map Phr.vals) → RowsAt H5 RO ws pss → Pool H5 p c → Frm p H H5 → H5 u = none →
              ∃ (x : Nat) (us' : List Addr) (phs : List Phr) (u6 u7 u8 : Option V), (j + 1 ≤ x ∨ x = (tx Ls i).length) ∧ Spl Ls i phs x ∧ (upd (upd H5 u (.tup vals)) RW (.lst (us.map V.ref ++ [.ref u]))) RW = some (.lst (us'.map V.ref)) ∧ LT (upd (upd H5 u (.tup vals)) RW (.lst (us.map V.ref ++ [.ref u]))) us' (phs.map Phr.vals) ∧ RowsAt (upd (upd H5 u (.tup vals)) RW (.lst (us.map V.ref ++ [.ref u]))) RO ws pss ∧ Pool (upd (upd H5 u (.tup vals)) RW (.lst (us.map V.ref ++ [.ref u]))) p c ∧ Frm p H (upd (upd H5 u (.tup vals)) RW (.lst (us.map V.ref ++ [.ref u]))) ∧ [some (V.ref p), some (.ref l), some (.ref RO), some (.int (i : Int)), some (.ref RW), some (.int xi), v6, v7, v8] = [some (V.ref p), some (.ref l), some (.ref RO), some (.int (i : Int)), some (.ref RW), some (.int (x : Int)), u6, u7, u8] :=
            fun ph vals u H5 v6 v7 v8 xi hvals hvp hxi a1 a2 a3 a4 a5 a6 nu => by
              subst hvals hxi
              have s6 := same_new (o := .tup ph.vals) nu
              have m1 := hvp.n1.1
              refine ⟨x + ph.n, us ++ [u], phs ++ [ph], v6, v7, v8, .inl (by omega), .snoc hspl hvp, by rw [upd_same, List.map_append]; rfl, ?_, (a4.same s6).updL nRR (s6 _ _ a2), (a5.same s6).upd nRWp, ?_, rfl⟩
              · rw [List.map_append]
                exact ((a3.same s6).add (vs := ph.vals) upd_same).updL (s6 _ _ a2)
              · have := (f1.none nRW nRWp.1)
                exact (a6.trans (fun _ _ _ e => s6 _ _ e)).updN this
          have letter : ∀ (H5 : Hp), Lts H5 l Ls n → VP Ls i x (.letter ((tx Ls i)[x])) := fun _ _ => ⟨hx, List.getElem?_eq_getElem hx⟩
          cases bo with
          | none =>
            obtain rfl : bv = .non := hv
            refine ⟨_, rfl, rfl, _, rfl, ifT (by decide) ?_⟩
            refine ⟨_, rfl, .inl ⟨rfl, _, SqL.of eW4⟩, _, rfl, _, rfl, l, _, _, _, rfl, rfl, SqL.of hL4.at_, atI_nat (tx_map Ls hil), _, rfl, S (tx Ls i), _, (tx Ls i)[x], rfl, rfl, Sz (by omega), atS hx, by show 2 ≤ sizeLine; decide, fun u nu => ⟨RW, _, _, rfl, rfl, same_new nu _ _ eW4, hsz, ?_⟩⟩
            refine ⟨_, rfl, _, _, rfl, rfl, ?_⟩
            exact put (.letter ((tx Ls i)[x])) _ u H4 _ _ _ _ rfl (letter H4 hL4) (by show _ = ((x + 1 : Nat) : Int); omega) hL4 eW4 lt4 hR4 hP4 f4 nu
          | some tr =>
            obtain ⟨i2, s2', n2⟩ := tr
            obtain ⟨t2, rfl, et2⟩ := hv
            refine ⟨_, rfl, rfl, _, rfl, ifF (decide_eq_false (by intro h; cases h)) ?_⟩
            refine ⟨_, rfl, p, c, 3, rfl, by decide, by decide, hP4, fun r H5 r0 r1 hP5 f5 => ⟨rfl, _, rfl, ?_⟩⟩
            have hL5 := hL4.frm nlp f5
            have eW5 := f5 _ _ nRWp.1 eW4
            have lt5 := lt4.frm hP4 f5
            have hR5 := hR4.frm nROp.1 hP4 f5
            have et5 := (bV.frm (bo := some (i2, s2', n2)) ⟨t2, rfl, et2⟩ hP4 f5)
            obtain ⟨_, e_, et5⟩ := et5
            obtain rfl := V.ref.inj e_
            have f45 := f4.trans f5
            refine ite2 (fun _ => ?_) (fun _ => ?_)
            · refine ⟨_, rfl, .inl ⟨rfl, _, SqL.of eW5⟩, _, rfl, _, rfl, l, _, _, _, rfl, rfl, SqL.of hL5.at_, atI_nat (tx_map Ls hil), _, rfl, S (tx Ls i), _, (tx Ls i)[x], rfl, rfl, Sz (by omega), atS hx, by show 2 ≤ sizeLine; decide, fun u nu => ⟨RW, _, _, rfl, rfl, same_new nu _ _ eW5, hsz, ?_⟩⟩
              refine ⟨_, rfl, _, _, rfl, rfl, ?_⟩
              exact put (.letter ((tx Ls i)[x])) _ u H5 _ _ _ _ rfl (letter H5 hL5) (by show _ = ((x + 1 : Nat) : Int); omega) hL5 eW5 lt5 hR5 hP5 f45 nu
            · have n21 : 1 < n2 := hb.2.2.2.1
              have n2le : n2 ≤ 1000 := by
                have := (hb.vp (Nat.le_of_lt n21) (Nat.le_refl _)).n1.2
                have : x + n2 ≤ (tx Ls i).length := this
                omega
              refine ⟨_, rfl, t2, _, 3, _, rfl, rfl, SqT.of et5, atI_nat (j := 3) rfl, _, rfl, p, c, 2, rfl, by decide, by decide, hP5, fun r2 H6 r20 r21 hP6 f6 => ?_⟩
              have et6 := (bV.frm (bo := some (i2, s2', n2)) ⟨t2, rfl, et5⟩ hP5 f6)
              obtain ⟨_, e_, et6⟩ := et6
              obtain rfl := V.ref.inj e_
              refine ⟨_, rfl, _, rfl, t2, _, 3, _, rfl, rfl, SqT.of et6, atI_nat (j := 3) rfl, p, c, _, rfl, by omega, by omega, hP6, fun r3 H7 r30 r31 hP7 f7 => ⟨_, _, rfl, rfl, .inl ⟨by omega, by omega⟩, _, _, rfl, rfl, ?_⟩⟩
              have et7 := (bV.frm (bo := some (i2, s2', n2)) ⟨t2, rfl, et6⟩ hP6 f7)
              obtain ⟨_, e_, et7⟩ := et7
              obtain rfl := V.ref.inj e_
              obtain ⟨mm, emm, hm1, hmn⟩ : ∃ mm : Nat, (n2 : Int) - r2 * r3 = (mm : Int) ∧ 1 ≤ mm ∧ mm ≤ n2 := by
                have h2 : r2 = 0 ∨ r2 = 1 := by omega
                rcases h2 with rfl | rfl
                · exact ⟨n2, by omega, by omega, by omega⟩
                · exact ⟨((n2 : Int) - 1 * r3).toNat, by omega, by omega, by omega⟩
              show gName 8 (V.int ((n2 : Int) - r2 * r3)) _ _ _
              rw [emm]
              have f67 := (f45.trans f6).trans f7
              have hL7 := (hL5.frm nlp f6).frm nlp f7
              have eW7 := f7 _ _ nRWp.1 (f6 _ _ nRWp.1 eW5)
              have lt7 := (lt5.frm hP5 f6).frm hP6 f7
              have hR7 := (hR5.frm nROp.1 hP5 f6).frm nROp.1 hP6 f7
              refine ⟨_, rfl, .inl ⟨rfl, _, SqL.of eW7⟩, _, rfl, t2, _, 1, _, rfl, rfl, SqT.of et7, atI_nat (j := 1) rfl, _, rfl, t2, _, 2, _, rfl, rfl, SqT.of et7, atI_nat (j := 2) rfl, _, rfl, by show 4 ≤ sizeLine; decide, fun u nu => ⟨RW, _, _, rfl, rfl, same_new nu _ _ eW7, hsz, ?_⟩⟩
              refine ⟨_, rfl, _, rfl, _, _, rfl, rfl, ?_⟩
              exact put (.copy i2 s2' mm) _ u H7 _ _ _ _ rfl (hb.vp hm1 hmn) (by show _ = ((x + mm : Nat) : Int); omega) hL7 eW7 lt7 hR7 hP7 f67 nu
        · have z : ¬ (x : Int) < ((S (tx Ls i)).length : Int) := fun h => z (decide_eq_true h)
          rw [S_len] at z
          exact ⟨x, us, phs, _, v7, v8, .inr (by omega), hspl, eW, lt, hR3, hP3, f3, rfl⟩
      · rintro σ H3 ⟨x, us, phs, v6, v7, v8, hjx, hspl, eW, lt, hR3, hP3, f3, rfl⟩
        obtain ⟨hxl, _⟩ := hspl.le
        rw [S_len] at hjx
        obtain rfl : x = (tx Ls i).length := by omega
        exact ⟨us, phs, v6, v7, v8, hspl, eW, lt, hR3, hP3, f3, rfl⟩
    rintro σ H3 ⟨us, phs, v6, v7, v8, hspl, eW, lt, hR3, hP3, f3, rfl⟩
    refine ⟨_, rfl, .inl ⟨rfl, _, SqL.of hR3.1⟩, _, rfl, RW, _, rfl, .inl ⟨SqL.of eW, fun t nt => ?_⟩⟩
    have s4 := same_new (o := .tup (us.map V.ref)) nt
    have hR4 := hR3.same s4
    have lw : ws.length = i := by rw [hR.2.1, hC.1]
    refine ⟨RO, _, _, rfl, rfl, hR4.1, small1000 (by rw [List.length_map]; omega), ws ++ [t], pss ++ [phs], _, _, _, _, _, _, hR4.add ⟨us, upd_same, lt.same s4⟩, hC.add hspl, (hP3.same s4).upd nROp, ?_, rfl⟩
    exact (f3.trans (fun _ _ _ e => s4 _ _ e)).updN nRO
  · rintro σ H1 ⟨ws, pss, v3, v4, v5, v6, v7, v8, hR, hC, hP1, f1, rfl⟩
    rw [show (((Ls.map tV).length : Nat) : Int).toNat = Ls.length by omega] at hC
    refine ⟨_, rfl, RO, _, rfl, .inl ⟨SqL.of hR.1, fun t nt => ?_⟩⟩
    have s4 := same_new (o := .tup (ws.map V.ref)) nt
    exact q t ws pss _ ⟨upd_same, hR.2.1, fun i u phs a b => (hR.2.2 i u phs a b).same s4⟩ hC (hP1.same s4) (f1.trans (fun _ _ _ e => s4 _ _ e)) (f1.none nt (hP1.ne nt).1)
end
/-! ### rows that spell -/
def szP (phs : List Phr) : Nat := (phs.map Phr.n).sum
theorem szP_snoc (phs : List Phr) (p : Phr) : szP (phs ++ [p]) = szP phs + p.n := by simp [szP]
theorem Spl.size {Ls : List (List Nat)} {num x : Nat} {phs : List Phr} (h : Spl Ls num phs x) : x = szP phs := by
  induction h with
  | nil => rfl
  | snoc _ _ ih => rw [szP_snoc, ih]
theorem Spl.at_ {Ls : List (List Nat)} {num x : Nat} {phs : List Phr} (h : Spl Ls num phs x) : ∀ (i : Nat) (ph : Phr), phs[i]? = some ph → VP Ls num (szP (phs.take i)) ph ∧ szP (phs.take (i + 1)) = szP (phs.take i) + ph.n := by
  induction h with
  | nil => intro i ph e; simp at e
  | @snoc acc x p h hv ih =>
    intro i ph e
    by_cases hi : i < acc.length
    · rw [List.getElem?_append_left hi] at e
      rw [List.take_append_of_le_length (Nat.le_of_lt hi), List.take_append_of_le_length hi]
      exact ih i ph e
    · obtain rfl : i = acc.length := by
        have := (List.getElem?_eq_some_iff.mp e).1
        rw [List.length_append] at this
        have : i < acc.length + 1 := this
        omega
      rw [List.getElem?_append_right (Nat.le_refl _), Nat.sub_self] at e
      obtain rfl := Option.some.inj e
      rw [List.take_append_of_le_length (Nat.le_refl _), List.take_length, ← h.size, List.take_of_length_le (by rw [List.length_append]; exact Nat.le_refl _), szP_snoc, ← h.size]
      exact ⟨hv, rfl⟩
theorem take_sub {l : List Nat} {x n : Nat} : l.take x ++ sub l x (x + n) = l.take (x + n) := by
  unfold sub
  rw [List.drop_take, Nat.add_sub_cancel_left, List.take_add]
section
variable {P : Program} {w : World} {K : PySem.W.Frag} {mg : Str → Option Value} {base : Heap}
/-! ### _law_spells -/
def spSpells : Sp := fun vs H Q _ => ∃ (l t : Addr) (Ls : List (List Nat)) (n num : Nat) (phs : List Phr), vs = [.ref l, .int (num : Int), .ref t] ∧ Lts H l Ls n ∧ n ≤ 1000 ∧ num < Ls.length ∧ PhAt H t phs ∧ Spl Ls num phs (tx Ls num).length ∧ Q (.str (S (tx Ls num))) H
theorem scSl : FnScope ["letters", "number", "row", "found", "phrase", "source", "k"] ["letters", "number", "row"] (defScope sLSpells) := ⟨rfl, rfl, rfl, by decide +kernel, rfl, by decide +kernel, by decide +kernel⟩
theorem ok_spells {f : Addr} {fd : FuncData} (F : Fun K "_law_spells" "_law_spells" sLSpells f fd) (hm : mg "_law_spells" = some (.ref f)) (b : Binds K fd ["letters", "number", "row"] []) (T : Txt mg) : Cal P w K mg base 1 "_law_spells" spSpells [] := by
  refine mkCal F hm b scSl (fun vs H Q E h => ?_) (fun cdv A outer sh H vs Q E hr h => ?_)
  · obtain ⟨l, t, Ls, n, num, phs, rfl, _⟩ := h
    rfl
  obtain ⟨l, t, Ls, n, num, phs, rfl, hL, hn, hnum, ⟨us, hu, lt⟩, hspl, q⟩ := h
  have lus : us.length = phs.length := by rw [lt.1, List.length_map]
  have hT := Nat.le_trans (hL.le _ (tx_mem hnum)) hn
  have hsize := hspl.size
  refine ⟨_, (pss_cons (ps_set (i := 3) scSl.nd rfl (.inl rfl) pe_str)
    (pss_cons (ps_for PassesOwn.never rfl (pi_tup (pv 2)) (pg_name (i := 4) scSl.nd rfl (.inl rfl)) (pss_cons (ps_if (pt_cmpR op_eq (pe_ix ix_tup (pv 4) pe_int (fun _ _ => rfl)) pe_str (nomark _)) (pss_cons (ps_set (i := 3) scSl.nd rfl (.inl rfl) (pe_op op_add_str (pv 3) (pe_ix ix_tup (pv 4) pe_int (fun _ _ => rfl))))
    (pss_one ps_continue)) pss_nil)
    (pss_cons (ps_set (i := 5) scSl.nd rfl (.inl rfl) (pe_ix ix_tup (pv 4) pe_int (fun _ _ => rfl)))
    (pss_cons (ps_if (PW.pt (pw_or (pt_cmpR op_lt (pv 5) pe_int (nomark _)) (pw_or (pt_cmpR op_gt (pv 5) (pv 1) (nomark _)) (pw_or (pt_cmpR op_lt (pe_ix ix_tup (pv 4) pe_int (fun _ _ => rfl)) pe_int (nomark _)) (pw_or1 (pt_cmpR op_lt (pe_ix ix_tup (pv 4) pe_int (fun _ _ => rfl)) pe_int (nomark _))))))) (pss_one (ps_ret pe_non)) pss_nil)
    (pss_cons (ps_if (pt_cmpR op_lt (pv 5) (pv 1) (nomark _)) (pss_cons (ps_if (pt_cmpR op_gt (pe_op op_add (pe_ix ix_tup (pv 4) pe_int (fun _ _ => rfl)) (pe_ix ix_tup (pv 4) pe_int (fun _ _ => rfl))) (pe_callB call_len_str (by rfl) T.len PySem.boot_len (pa_cons (pe_ix ix_list (pv 0) (pv 5) (fun _ _ => rfl)) pa_nil)) (nomark _)) (pss_one (ps_ret pe_non)) pss_nil)
    (pss_cons (ps_set (i := 3) scSl.nd rfl (.inl rfl) (pe_op op_add_str (pv 3) (pe_slice sl_str (pe_ix ix_list (pv 0) (pv 5) (fun _ _ => rfl)) (po_some (pe_ix ix_tup (pv 4) pe_int (fun _ _ => rfl))) (po_some (pe_op op_add (pe_ix ix_tup (pv 4) pe_int (fun _ _ => rfl)) (pe_ix ix_tup (pv 4) pe_int (fun _ _ => rfl)))))))
    (pss_one ps_continue))) pss_nil)
    (pss_cons (ps_if (PW.pt (pw_or (pt_cmpR op_ge (pe_ix ix_tup (pv 4) pe_int (fun _ _ => rfl)) (pe_callB call_len_str (by rfl) T.len PySem.boot_len (pa_cons (pv 3) pa_nil)) (nomark _)) (pw_or1 (pt_cmpR op_gt (pe_op op_add (pe_callB call_len_str (by rfl) T.len PySem.boot_len (pa_cons (pv 3) pa_nil)) (pe_ix ix_tup (pv 4) pe_int (fun _ _ => rfl))) (pe_callB call_len_str (by rfl) T.len PySem.boot_len (pa_cons (pe_ix ix_list (pv 0) (pv 1) (fun _ _ => rfl)) pa_nil)) (nomark _))))) (pss_one (ps_ret pe_non)) pss_nil)
    (pss_one (ps_for PassesOwn.never rfl (pi_range1 (by rfl) T.range (pa_cons (pe_ix ix_tup (pv 4) pe_int (fun _ _ => rfl)) pa_nil)) (pg_name (i := 6) scSl.nd rfl (.inl rfl)) (pss_one (ps_set (i := 3) scSl.nd rfl (.inl rfl) (pe_op op_add_str (pv 3) (pe_ix ix_str (pv 3) (pe_op op_add (pe_ix ix_tup (pv 4) pe_int (fun _ _ => rfl)) (pv 6)) (fun _ _ => rfl)))))))))))))
    (pss_one (ps_ret (pv 3))))), ?_⟩
  refine ⟨_, rfl, t, rfl, ⟨_, SqT.of hu⟩, for_tup (K := K) (a := t) (xs := us.map V.ref) (fun i σ H' => H' = H ∧ ∃ v4 v5 v6 : Option V, σ = [some (.ref l), some (.int (num : Int)), some (.ref t), some (.str (S ((tx Ls num).take (szP (phs.take i))))), v4, v5, v6])
    ⟨rfl, none, none, none, by rw [List.take_zero]; show _ = [_, _, _, some (V.str (S (List.take 0 _))), _, _, _]; rw [List.take_zero, ← S_nil]; rfl⟩ (fun i σ H' _ h => by rw [h.1]; exact SqT.of hu) ?_ ?_⟩
  · rintro i v σ H1 hi ⟨rfl, v4, v5, v6, rfl⟩
    have hip : i < phs.length := by
      have := (List.getElem?_eq_some_iff.mp hi).1
      rw [List.length_map, lus] at this
      exact this
    obtain ⟨u, eu, hup⟩ := lt.2 i phs[i].vals (by rw [List.getElem?_map, List.getElem?_eq_getElem hip]; rfl)
    rw [List.getElem?_map, eu] at hi
    obtain rfl := Option.some.inj hi
    obtain ⟨hvp, hnx⟩ := hspl.at_ i phs[i] (List.getElem?_eq_getElem hip)
    generalize phs[i] = ph at hup hvp hnx
    rw [hnx]
    obtain ⟨n1, n2⟩ := hvp.n1
    generalize szP (phs.take i) = x at hvp n2
    have lx : ((tx Ls num).take x).length = x := by rw [List.length_take]; omega
    cases ph with
    | letter ch =>
      refine ⟨_, rfl, u, _, 0, _, rfl, rfl, SqT.of hup, atI_nat (j := 0) rfl, rfl, _, rfl, ifT (by decide +kernel) ?_⟩
      refine ⟨_, rfl, _, rfl, u, _, 1, _, rfl, rfl, SqT.of hup, atI_nat (j := 1) rfl, _, _, rfl, rfl, by rw [S_len, S_len, lx]; exact Nat.le_of_lt (small1000 (show x + 1 ≤ 1000 by have : x + 1 ≤ (tx Ls num).length := n2; omega)), ?_⟩
      refine ⟨rfl, some (.ref u), v5, v6, ?_⟩
      obtain ⟨hx, ec⟩ := hvp
      have e : (tx Ls num).take (x + (Phr.letter ch).n) = (tx Ls num).take x ++ [ch] := by
        show (tx Ls num).take (x + 1) = _
        rw [List.take_add_one, ec]
        rfl
      rw [e, ← S_cat]
      rfl
    | copy s a m =>
      obtain ⟨m1, hxm, hsrc, hsub⟩ := hvp
      have hsl : s ≤ num := by rcases hsrc with h | h <;> omega
      have hsL : s < Ls.length := by omega
      have hO := Nat.le_trans (hL.le _ (tx_mem hsL)) hn
      have em : (Phr.copy s a m).n = m := rfl
      rw [em]
      refine ⟨_, rfl, u, _, 0, _, rfl, rfl, SqT.of hup, atI_nat (j := 0) rfl, rfl, _, rfl, ifF (by decide +kernel) ?_⟩
      refine ⟨_, rfl, u, _, 1, _, rfl, rfl, SqT.of hup, atI_nat (j := 1) rfl, ?_⟩
      refine ⟨_, rfl, _, _, rfl, rfl, _, rfl, ite2 (fun z => ?_) (fun _ => ?_)⟩
      · have : (s : Int) < 0 := of_decide_eq_true z
        omega
      refine ⟨_, rfl, _, rfl, _, _, rfl, rfl, _, rfl, ite2 (fun z => ?_) (fun _ => ?_)⟩
      · have : (s : Int) > (num : Int) := of_decide_eq_true z
        omega
      refine ⟨_, rfl, u, _, 2, _, rfl, rfl, SqT.of hup, atI_nat (j := 2) rfl, _, _, rfl, rfl, _, rfl, ite2 (fun z => ?_) (fun _ => ?_)⟩
      · have : (a : Int) < 0 := of_decide_eq_true z
        omega
      refine ⟨_, rfl, u, _, 3, _, rfl, rfl, SqT.of hup, atI_nat (j := 3) rfl, _, _, rfl, rfl, _, rfl, ite2 (fun z => ?_) (fun _ => ?_)⟩
      · have : (m : Int) < 1 := of_decide_eq_true z
        omega
      refine ⟨_, rfl, _, rfl, _, _, rfl, rfl, _, rfl, ite2 (fun z => ?_) (fun z => ?_)⟩
      · have z : s < num := by
          have : (s : Int) < (num : Int) := of_decide_eq_true z
          omega
        have hao : a + m ≤ (tx Ls s).length := by rcases hsrc with h | h <;> omega
        refine ⟨_, rfl, u, _, 2, _, rfl, rfl, SqT.of hup, atI_nat (j := 2) rfl, _, rfl, u, _, 3, _, rfl, rfl, SqT.of hup, atI_nat (j := 3) rfl, _, _, rfl, rfl, _, rfl, _, rfl, l, _, _, _, rfl, rfl, SqL.of hL.at_, atI_nat (tx_map Ls hsL), _, rfl, Sz (by omega), _, _, rfl, rfl, _, rfl, ite2 (fun z2 => ?_) (fun _ => ?_)⟩
        · exfalso
          have z2 : (a : Int) + (m : Int) > ((S (tx Ls s)).length : Int) := of_decide_eq_true z2
          rw [S_len] at z2
          omega
        have e1 : cutS (S (tx Ls s)) (some (a : Int)) (some ((a : Int) + (m : Int))) = S (sub (tx Ls s) a (a + m)) := by
          rw [show (a : Int) + (m : Int) = ((a + m : Nat) : Int) by omega]
          exact cut_S hao (by omega)
        refine ⟨_, rfl, _, rfl, _, rfl, l, _, _, _, rfl, rfl, SqL.of hL.at_, atI_nat (tx_map Ls hsL), _, rfl, u, _, 2, _, rfl, rfl, SqT.of hup, atI_nat (j := 2) rfl, _, rfl, _, rfl, u, _, 2, _, rfl, rfl, SqT.of hup, atI_nat (j := 2) rfl, _, rfl, u, _, 3, _, rfl, rfl, SqT.of hup, atI_nat (j := 3) rfl, _, _, rfl, rfl, _, rfl, S (tx Ls s), rfl, Sz (by omega), _, _, rfl, rfl, by rw [e1, S_len, S_len, lx, sub_len hao]; exact Nat.le_of_lt (small1000 (by omega)), ?_⟩
        refine ⟨rfl, some (.ref u), some (.int (s : Int)), v6, ?_⟩
        rw [← take_sub, ← hsub, ← S_cat, ← e1]
        rfl
      · have z : s = num := by
          have : ¬ (s : Int) < (num : Int) := fun h => z (decide_eq_true h)
          omega
        subst z
        have hax : a < x := by rcases hsrc with h | h <;> omega
        refine ⟨_, rfl, u, _, 2, _, rfl, rfl, SqT.of hup, atI_nat (j := 2) rfl, _, rfl, _, rfl, Sz (by rw [lx]; omega), _, _, rfl, rfl, _, rfl, ite2 (fun z2 => ?_) (fun _ => ?_)⟩
        · exfalso
          have z2 : (a : Int) ≥ ((S ((tx Ls s).take x)).length : Int) := of_decide_eq_true z2
          rw [S_len, lx] at z2
          omega
        refine ⟨_, rfl, _, rfl, Sz (by rw [lx]; omega), _, rfl, u, _, 3, _, rfl, rfl, SqT.of hup, atI_nat (j := 3) rfl, _, _, rfl, rfl, _, rfl, _, rfl, l, _, _, _, rfl, rfl, SqL.of hL.at_, atI_nat (tx_map Ls hsL), _, rfl, Sz (by omega), _, _, rfl, rfl, _, rfl, ite2 (fun z2 => ?_) (fun _ => ?_)⟩
        · exfalso
          have z2 : ((S ((tx Ls s).take x)).length : Int) + (m : Int) > ((S (tx Ls s)).length : Int) := of_decide_eq_true z2
          rw [S_len, S_len, lx] at z2
          omega
        refine ⟨_, rfl, u, _, 3, _, rfl, rfl, SqT.of hup, atI_nat (j := 3) rfl, _, rfl, by omega, by omega, for_range (lo := 0) (n := ((m : Nat) : Int).toNat) (fun j σ H' => H' = H1 ∧ ∃ v6 : Option V, σ = [some (.ref l), some (.int (s : Int)), some (.ref t), some (.str (S ((tx Ls s).take (x + j)))), some (.ref u), some (.int (s : Int)), v6]) ⟨rfl, v6, rfl⟩ ?_ ?_⟩
        · rintro j σ H2 hj ⟨rfl, v6, rfl⟩
          have hjm : j < m := by omega
          have lxj : ((tx Ls s).take (x + j)).length = x + j := by rw [List.length_take]; omega
          have haj : a + j < ((tx Ls s).take (x + j)).length := by rw [lxj]; omega
          have ech : ((tx Ls s).take (x + j))[a + j] = (tx Ls s)[x + j]'(by omega) := by
            rw [List.getElem_take]
            have := sub_eq_iff.mp hsub j hjm
            rw [List.getElem?_eq_getElem (show a + j < (tx Ls s).length by omega), List.getElem?_eq_getElem (show x + j < (tx Ls s).length by omega)] at this
            exact Option.some.inj this
          refine ⟨_, rfl, _, rfl, _, rfl, u, _, 2, _, rfl, rfl, SqT.of hup, atI_nat (j := 2) rfl, _, rfl, _, _, rfl, rfl, S ((tx Ls s).take (x + j)), _, ((tx Ls s).take (x + j))[a + j], rfl, rfl, Sz (by rw [lxj]; omega), by rw [show (a : Int) + (0 + (j : Int)) = ((a + j : Nat) : Int) by omega]; exact atS haj, _, _, rfl, rfl, by rw [S_len, lxj]; exact Nat.le_of_lt (small1000 (show x + j + 1 ≤ 1000 by omega)), rfl, some (.int (0 + (j : Int))), ?_⟩
          have e : (tx Ls s).take (x + (j + 1)) = (tx Ls s).take (x + j) ++ [((tx Ls s).take (x + j))[a + j]] := by
            rw [← Nat.add_assoc, List.take_add_one, List.getElem?_eq_getElem (show x + j < (tx Ls s).length by omega), ech]
            rfl
          rw [e, ← S_cat]
          rfl
        · rintro σ H2 ⟨rfl, v6, rfl⟩
          exact ⟨rfl, _, _, v6, rfl⟩
  · rintro σ H1 ⟨rfl, v4, v5, v6, rfl⟩
    rw [show (us.map V.ref).length = phs.length by rw [List.length_map, lus], List.take_length, ← hsize, List.take_length]
    exact ⟨_, rfl, q⟩
/-! ### _law_is_cut -/
def spIsCut : Sp := fun vs H Q _ => ∃ (l t : Addr) (Ls : List (List Nat)) (n : Nat) (ws : List Addr) (pss : List (List Phr)), vs = [.ref l, .ref t] ∧ Lts H l Ls n ∧ n ≤ 1000 ∧ Ls.length ≤ 100 ∧ CutAt H t ws pss ∧ Cuts Ls Ls.length pss ∧ ∀ H', Same H H' → Q (.bl true) H'
theorem scIc : FnScope ["letters", "cut", "k"] ["letters", "cut"] (defScope sLIsCut) := ⟨rfl, rfl, rfl, by decide +kernel, rfl, by decide +kernel, by decide +kernel⟩
theorem ok_is_cut {f : Addr} {fd : FuncData} (F : Fun K "_law_is_cut" "_law_is_cut" sLIsCut f fd) (hm : mg "_law_is_cut" = some (.ref f)) (b : Binds K fd ["letters", "cut"] []) (T : Txt mg) (GLs : Cal P w K mg base 1 "_law_spells" spSpells []) : Cal P w K mg base 2 "_law_is_cut" spIsCut [] := by
  refine mkCal F hm b scIc (fun vs H Q E h => ?_) (fun cdv A outer sh H vs Q E hr h => ?_)
  · obtain ⟨l, t, Ls, n, ws, pss, rfl, _⟩ := h
    rfl
  obtain ⟨l, t, Ls, n, ws, pss, rfl, hL, hn, h100, hC, hS, q⟩ := h
  have lw : ws.length = Ls.length := by rw [hC.len, hS.1]
  refine ⟨_, (pss_cons (ps_if (pt_cmpR op_ne (pe_callB call_len_seq (by rfl) T.len PySem.boot_len (pa_cons (pv 1) pa_nil)) (pe_callB call_len_seq (by rfl) T.len PySem.boot_len (pa_cons (pv 0) pa_nil)) (nomark _)) (pss_one (ps_ret pe_bl)) pss_nil)
    (pss_one (ps_ret (pe_callB (cr_all rfl) (by rfl) T.all (by decide +kernel) (pa_cons (pe_lc (own := [("k", 2)]) (g := gName 2) (te := tOp rEq (tCall spSpells [] C8.E0 (tCons (tVar 0) (tCons (tVar 2) (tCons (tOp (rIxT K) (tVar 1) (tVar 2)) tNil)))) (tOp (rIxL K) (tVar 0) (tVar 2))) (tt := tYes) rfl scIc.nd (pi_range1 (by rfl) T.range (pa_cons (pe_callB call_len_seq (by rfl) T.len PySem.boot_len (pa_cons (pv 0) pa_nil)) pa_nil)) (blkOk_by (N := ["letters", "cut", "k"]) (sc := defScope sLIsCut) (by decide +kernel)) (fun _ _ _ _ _ => (pg_name (i := 2) scIc.nd rfl (.inl rfl))) (fun _ _ _ _ _ => pts_nil) (fun _ _ _ _ _ => (pe_cmpR op_eq (pe_c GLs hr (by decide) (by rfl) (pa_cons (pv 0) (pa_cons (pv 2) (pa_cons (pe_ix ix_tup (pv 1) (pv 2) (fun _ _ => rfl)) pa_nil)))) (pe_ix ix_list (pv 0) (pv 2) (fun _ _ => rfl)) (nomark _)))) pa_nil))))), ?_⟩
  refine ⟨_, rfl, t, _, rfl, .inr (SqT.of hC.at_), _, rfl, l, _, rfl, .inl (SqL.of hL.at_), rfl, _, rfl, ifF (by rw [List.length_map, List.length_map, lw]; simp) ?_⟩
  refine ⟨_, rfl, l, _, rfl, .inl (SqL.of hL.at_), _, rfl, by rw [List.length_map]; omega, by rw [List.length_map]; omega, fun D nD => ?_⟩
  refine lc_range (lo := 0) (n := (((Ls.map tV).length : Nat) : Int).toNat) (fun i H' => Same H H' ∧ H' D = some (.lst ((List.replicate i true).map V.bl))) ⟨same_new nD, upd_same⟩ ?_ ?_
  · rintro i H1 hi ⟨s1, eD⟩
    rw [List.length_map] at hi
    have hil : i < Ls.length := by omega
    have hiw : i < ws.length := by omega
    have hip : i < pss.length := by rw [hS.1]; exact hil
    have hph := (hC.row i ws[i] pss[i] (List.getElem?_eq_getElem hiw) (List.getElem?_eq_getElem hip)).same s1
    have hsp := hS.2 i pss[i] (List.getElem?_eq_getElem hip)
    have e0i : (0 : Int) + (i : Int) = (i : Int) := Int.zero_add _
    rw [e0i]
    refine ⟨rfl, _, rfl, _, rfl, _, rfl, _, rfl, t, _, _, _, rfl, rfl, SqT.of (s1 _ _ hC.at_), atI_nat (by rw [List.getElem?_map, List.getElem?_eq_getElem hiw]; rfl), l, ws[i], Ls, n, i, pss[i], rfl, hL.same s1, hn, hil, hph, hsp, ?_⟩
    refine ⟨_, rfl, _, rfl, l, _, _, _, rfl, rfl, SqL.of (s1 _ _ hL.at_), atI_nat (tx_map Ls hil), rfl, _, eD, by rw [List.length_map, List.length_replicate]; exact small1000 (by omega), ?_, ?_⟩
    · exact fun c o hc => by rw [upd_ne (ne_of_none hc nD)]; exact s1 _ _ hc
    · rw [upd_same, decide_eq_true rfl, List.replicate_succ', List.map_append]
      rfl
  · rintro H1 ⟨s1, eD⟩
    refine ⟨D, _, rfl, SqL.of eD, ?_⟩
    have e : (List.replicate (((Ls.map tV).length : Nat) : Int).toNat true).all id = true := by
      rw [List.all_eq_true]
      intro x hx
      rw [(List.mem_replicate.mp hx).2]
      rfl
    rw [e]
    exact q H1 s1
end
theorem Txs.frm {C : Addr} {H H' : Hp} {l p c : Addr} {xs : List Addr} {Ls : List (List Nat)} (h : Txs C H l xs Ls) (n : l ≠ p) (P : Pool H p c) (f : Frm p H H') : Txs C H' l xs Ls := ⟨f _ _ n h.at_, h.len, fun i x e => (h.tx i x e).frm P f⟩
theorem CutAt.frm {H H' : Hp} {t p c : Addr} {ws : List Addr} {pss : List (List Phr)} (h : CutAt H t ws pss) (P : Pool H p c) (f : Frm p H H') : CutAt H' t ws pss := by
  obtain ⟨pos, left, seed, xs, hp⟩ := id P
  exact ⟨f _ _ (ne_of h.at_ hp.at_ (by intro z; cases z)) h.at_, h.len, fun i u phs e1 e2 => (h.row i u phs e1 e2).frm P f⟩
theorem Greedy.cuts {Ls : List (List Nat)} {pss : List (List Phr)} (h : Greedy Ls Ls.length pss) (h10 : ∀ l ∈ Ls, 10 ∉ l) : Cuts Ls Ls.length pss := by
  refine ⟨h.1, fun i phs e => ?_⟩
  have hi : i < Ls.length := by
    have := (List.getElem?_eq_some_iff.mp e).1
    rw [h.1] at this
    exact this
  obtain ⟨_, k2⟩ := (h.2 i phs e).spl hi h10
  rw [show off Ls i + (tx Ls i).length - off Ls i = (tx Ls i).length by omega] at k2
  exact k2
theorem sum_le_sum : ∀ {as bs : List Nat}, as.length = bs.length → (∀ (i a b : Nat), as[i]? = some a → bs[i]? = some b → a ≤ b) → as.sum ≤ bs.sum
  | [], [], _, _ => Nat.le_refl _
  | a :: as, b :: bs, hl, h => by
    have h0 := h 0 a b rfl rfl
    have ih := sum_le_sum (as := as) (bs := bs) (Nat.succ.inj hl) fun i x y e1 e2 => h (i + 1) x y e1 e2
    rw [List.sum_cons, List.sum_cons]
    omega
theorem fewest {Ls : List (List Nat)} {pss oss : List (List Phr)} (h : Greedy Ls Ls.length pss) (g : Cuts Ls Ls.length oss) : (pss.map (·.length)).sum ≤ (oss.map (·.length)).sum := by
  refine sum_le_sum (by rw [List.length_map, List.length_map, h.1, g.1]) fun i a b e1 e2 => ?_
  rw [List.getElem?_map] at e1 e2
  cases hp : pss[i]? with
  | none => rw [hp] at e1; cases e1
  | some phs =>
    rw [hp] at e1
    cases ho : oss[i]? with
    | none => rw [ho] at e2; cases e2
    | some ohs =>
      rw [ho] at e2
      obtain rfl := Option.some.inj e1
      obtain rfl := Option.some.inj e2
      have hi : i < Ls.length := by
        have := (List.getElem?_eq_some_iff.mp hp).1
        rw [h.1] at this
        exact this
      exact (h.2 i phs hp).fewest ((g.2 i ohs ho).steps hi)
theorem RowTo.of_nil {W : List Nat} {pl : List (Nat × Nat)} {stop a x : Nat} {acc : List Phr} (h : RowTo W pl stop a acc x) (e : acc = []) : x = a := by
  cases h with
  | nil => rfl
  | snoc h _ _ => exact absurd e (by simp)
/-- a text behind itself -/
theorem twice {L : List Nat} {pss : List (List Phr)} (h : Greedy [L, L] 2 pss) {phs : List Phr} (e : pss[1]? = some phs) : phs.length = if L = [] then 0 else 1 := by
  have hr := h.2 1 phs e
  have o1 : off [L, L] 1 = L.length + 1 := by rw [off_succ]; show 0 + L.length + 1 = _; omega
  have t1 : tx [L, L] 1 = L := rfl
  have t0 : tx [L, L] 0 = L := rfl
  rw [o1, t1] at hr
  have lW : (WH [L, L]).length = L.length + 1 + L.length := by rw [WH_len]; show off [L, L] (1 + 1) - 1 = _; rw [off_succ, o1, t1]; omega
  have mt : Mt (WH [L, L]) 0 (L.length + 1) L.length := by
    have a := WH_sub (Ls := [L, L]) (i := 0) (a := 0) (n := L.length) (by show 0 < 2; decide) (by rw [t0]; omega)
    have b := WH_sub (Ls := [L, L]) (i := 1) (a := 0) (n := L.length) (by show 1 < 2; decide) (by rw [t1]; omega)
    rw [t0] at a
    rw [t1, o1] at b
    unfold Mt
    rw [show off [L, L] 0 + 0 + L.length = 0 + L.length by rfl, show off [L, L] 0 + 0 = 0 by rfl] at a
    rw [Nat.add_zero] at b
    rw [a, b]
  generalize plN [L, L] (1 + 1) = pl at hr
  generalize es : L.length + 1 + L.length = stop at hr
  generalize ea : L.length + 1 = a at hr mt es
  by_cases hL : L = []
  · rw [if_pos hL]
    have : L.length = 0 := by rw [hL]; rfl
    have := (hr.le (by omega)).2.2
    omega
  · rw [if_neg hL]
    have hpos : 0 < L.length := List.length_pos_iff.mpr hL
    -- the first step goes to the end
    have hs : Steps (WH [L, L]) stop a 1 stop := by
      have := Steps.snoc (W := WH [L, L]) (stop := stop) (a := a) (k := 0) (y := a) (n := L.length) .nil (by omega) (by omega) (.inr ⟨0, by omega, mt⟩)
      rw [es] at this
      exact this
    have h1 := hr.fewest hs
    have h2 : phs ≠ [] := fun e2 => by
      have := hr.of_nil e2
      omega
    have := List.length_pos_iff.mpr h2
    omega
section
variable {P : Program} {w : World} {K : PySem.W.Frag} {mg : Str → Option Value} {base : Heap}
def spLaw (K : PySem.W.Frag) : Sp := fun vs H Q _ => ∃ (a : Addr) (ns : List Int), vs = [.ref a] ∧ SqL K H a (ns.map V.int) ∧ ns.length ≤ 63 ∧ ∀ H', Q (.bl true) H'
theorem scL : FnScope ["script", "pool", "letters", "texts", "told", "other", "row", "one", "both"] ["script"] (defScope sLaw) := ⟨rfl, rfl, rfl, by decide +kernel, rfl, by decide +kernel, by decide +kernel⟩
def plen (phs : List Phr) : Int := (phs.length : Int)
theorem sum_plen : ∀ pss : List (List Phr), (pss.map plen).sum = ((pss.map (·.length)).sum : Nat)
  | [] => rfl
  | l :: r => by
    rw [List.map_cons, List.sum_cons, sum_plen r, List.map_cons, List.sum_cons]
    unfold plen
    omega
theorem SL_10 : 10 ∉ SL := by decide +kernel
theorem ok_law {C f : Addr} {fd : FuncData} (F : Fun K "law" "law" sLaw f fd) (T : Txt mg) (hsum : mg "sum" = none) (GP : Cal P w K mg base 1 "_law_pool" (spPool K) []) (G : Cal P w K mg base 2 "_law_take" spTake []) (MK : C8.Mak P w K mg base 4 "Text" C (spInit C) []) (GOt : Cal P w K mg base 21 "_law_other" spOther []) (GSo : Cal P w K mg base 6 "_law_some" spSome []) (GTx : Cal P w K mg base 22 "_law_texts" (spLTexts C) [])
    (GSh : Cal P w K mg base 5 "shortest_cut" (spShort C) []) (GIc : Cal P w K mg base 2 "_law_is_cut" spIsCut []) (GDc : Cal P w K mg base 3 "_law_drawn_cut" spDCut []) : FnOk P w K mg base CX0 23 f fd ["script"] (spLaw K) := by
  refine F.ok scL (fun vs H Q E h => ?_) (fun cdv A outer sh H vs Q E hr h => ?_)
  · obtain ⟨a, ns, rfl, _⟩ := h
    rfl
  obtain ⟨sc, ns, rfl, hS, hlen, q⟩ := h
  have hu := hu_of hr
  refine ⟨_, (pss_cons (ps_set (i := 1) scL.nd rfl (.inl rfl) (pe_c GP hr (by decide) (by rfl) (pa_cons (pv 0) pa_nil)))
    (pss_cons (ps_set (i := 2) scL.nd rfl (.inl rfl) (pe_c GSo hr (by decide) (by rfl) (pa_cons (pv 1) (pa_cons (pe_op op_add pe_int (pe_c G hr (by decide) (by rfl) (pa_cons (pv 1) (pa_cons pe_int pa_nil)))) (pa_cons pe_int pa_nil)))))
    (pss_cons (ps_set (i := 3) scL.nd rfl (.inl rfl) (pe_c GTx hr (by decide) (by rfl) (pa_cons (pv 1) (pa_cons (pv 2) pa_nil))))
    (pss_cons (ps_set (i := 4) scL.nd rfl (.inl rfl) (pe_c GSh hr (by decide) (by rfl) (pa_cons (pv 3) pa_nil)))
    (pss_cons (ps_if (PW.pt (pw_or (pt_not (pt_val (pe_callB call_isi (by rfl) T.isinstance (by decide +kernel) (pa_cons (pv 4) (pa_cons (pe_bltn (v := .ty "tuple") (by rfl) T.tuple (by decide +kernel) rfl) pa_nil))))) (pw_or1 (pt_not (pt_val (pe_c GIc hr (by decide) (by rfl) (pa_cons (pv 2) (pa_cons (pv 4) pa_nil)))))))) (pss_one (ps_ret pe_bl)) pss_nil)
    (pss_cons (ps_set (i := 5) scL.nd rfl (.inl rfl) (pe_c GDc hr (by decide) (by rfl) (pa_cons (pv 1) (pa_cons (pv 2) pa_nil))))
    (pss_cons (ps_if (pt_cmpR op_gt (pe_callB (cr_sum rfl) (by rfl) hsum (by decide +kernel) (pa_cons (pe_lc (own := [("row", 6)]) (g := gName 6) (te := tCB (rLen K) (tCons (tVar 6) tNil)) (tt := tYes) rfl scL.nd (pi_tup (pv 4)) (blkOk_by (N := ["script", "pool", "letters", "texts", "told", "other", "row", "one", "both"]) (sc := defScope sLaw) (by decide +kernel)) (fun _ _ _ _ _ => (pg_name (i := 6) scL.nd rfl (.inl rfl))) (fun _ _ _ _ _ => pts_nil) (fun _ _ _ _ _ => (pe_callB call_len_seq (by rfl) T.len PySem.boot_len (pa_cons (pv 6) pa_nil)))) pa_nil)) (pe_callB (cr_sum rfl) (by rfl) hsum (by decide +kernel) (pa_cons (pe_lc (own := [("row", 6)]) (g := gName 6) (te := tCB (rLen K) (tCons (tVar 6) tNil)) (tt := tYes) rfl scL.nd (pi_tup (pv 5)) (blkOk_by (N := ["script", "pool", "letters", "texts", "told", "other", "row", "one", "both"]) (sc := defScope sLaw) (by decide +kernel)) (fun _ _ _ _ _ => (pg_name (i := 6) scL.nd rfl (.inl rfl))) (fun _ _ _ _ _ => pts_nil) (fun _ _ _ _ _ => (pe_callB call_len_seq (by rfl) T.len PySem.boot_len (pa_cons (pv 6) pa_nil)))) pa_nil)) (nomark _)) (pss_one (ps_ret pe_bl)) pss_nil)
    (pss_cons (ps_set (i := 7) scL.nd rfl (.inl rfl) (pe_ix ix_list (pv 2) (pe_c G hr (by decide) (by rfl) (pa_cons (pv 1) (pa_cons (pe_callB call_len_seq (by rfl) T.len PySem.boot_len (pa_cons (pv 2) pa_nil)) pa_nil))) (fun _ _ => rfl)))
    (pss_cons (ps_set (i := 8) scL.nd rfl (.inl rfl) (pe_c GSh hr (by decide) (by rfl) (pa_cons (pe_lst (pa_cons (C8.pe_mk MK hr (by decide) (by rfl) (pa_cons (pe_dget hu (pe_c GOt hr (by decide) (by rfl) (pa_cons (pv 1) (pa_cons (pv 7) pa_nil))) pe_str (fun _ _ => rfl)) pa_nil)) (pa_cons (C8.pe_mk MK hr (by decide) (by rfl) (pa_cons (pe_dget hu (pe_c GOt hr (by decide) (by rfl) (pa_cons (pv 1) (pa_cons (pv 7) pa_nil))) pe_str (fun _ _ => rfl)) pa_nil)) pa_nil))) pa_nil)))
    (pss_one (ps_ret (pe_and (pe_cmpR op_eq (pe_callB call_len_seq (by rfl) T.len PySem.boot_len (pa_cons (pv 8) pa_nil)) pe_int (nomark _)) (pe_one (pe_cmpR op_eq (pe_callB call_len_seq (by rfl) T.len PySem.boot_len (pa_cons (pe_ix ix_tup (pv 8) pe_int (fun _ _ => rfl)) pa_nil)) (pe_callTy call_int1 (by rfl) T.int (by decide +kernel) (pa_cons (pe_cmpR op_ne (pv 7) pe_str (nomark _)) pa_nil)) (nomark _))))))))))))))), ?_⟩
  refine ⟨_, rfl, sc, ns, rfl, hS, hlen, fun p c H1 hP1 s1 np nc => ?_⟩
  refine ⟨_, rfl, _, rfl, p, c, 3, rfl, by decide, by decide, hP1, fun r H2 r0 r1 hP2 f2 => ⟨_, _, rfl, rfl, ?_⟩⟩
  obtain ⟨m, em, hm1, hm3⟩ : ∃ m : Nat, 1 + r = (m : Int) ∧ 1 ≤ m ∧ m ≤ 3 := ⟨(1 + r).toNat, by omega, by omega, by omega⟩
  refine ⟨p, c, m, 60, by rw [← em]; rfl, hP2, by omega, by decide, by omega, fun l Ls H3 hL hLl hP3 f3 nl nlp => ?_⟩
  have h126 : ∀ L ∈ Ls, L.length ≤ 126 := fun L h => Nat.le_trans (hL.le L h) (by omega)
  have h10 : ∀ L ∈ Ls, 10 ∉ L := fun L h h10 => SL_10 (hL.sl L h 10 h10)
  refine ⟨_, rfl, _, rfl, p, c, l, Ls, _, rfl, hP3, hL, by omega, nlp, by omega, fun d xs H4 hX hP4 f4 nd ndp => ?_⟩
  have hL4 := hL.frm nlp f4
  have hsum4 : (Ls.map (·.length)).sum ≤ 4096 := by
    have : ∀ (Ls : List (List Nat)), (∀ L ∈ Ls, L.length ≤ 126) → (Ls.map (·.length)).sum ≤ 126 * Ls.length := by
      intro Ls
      induction Ls with
      | nil => intro _; exact Nat.le_refl _
      | cons L r ih =>
        intro h
        have h1 := h L (List.mem_cons_self ..)
        have h2 := ih fun x hx => h x (List.mem_cons_of_mem _ hx)
        rw [List.map_cons, List.sum_cons, List.length_cons]
        omega
    have := this Ls h126
    omega
  refine ⟨_, rfl, d, xs, Ls, rfl, hX, by omega, fun L h => Nat.le_trans (h126 L h) (by decide), hsum4, fun t ws pss H5 hC hG s5 nt => ?_⟩
  have hL5 := hL4.same s5
  have hP5 := hP4.same s5
  have hcuts := hG.cuts h10
  refine ⟨_, rfl, _, _, _, _, true, rfl, .ty _, .base (.tup hC.at_), kit_ty (by decide +kernel), true, rfl, ifF rfl ?_⟩
  refine ⟨_, rfl, _, rfl, l, t, Ls, _, ws, pss, rfl, hL5, by omega, by omega, hC, hcuts, fun H6 s6 => ⟨true, rfl, ifF rfl ?_⟩⟩
  have hL6 := hL5.same s6
  have hP6 := hP5.same s6
  have hC6 := hC.same s6
  refine ⟨_, rfl, _, rfl, p, c, l, Ls, _, rfl, hP6, hL6, by omega, nlp, by omega, fun o os oss H7 hO hcO hP7 f7 no => ?_⟩
  have hL7 := hL6.frm nlp f7
  have hC7 := hC6.frm hP6 f7
  -- the sums
  refine ⟨_, rfl, t, rfl, ⟨_, SqT.of hC7.at_⟩, fun D nD => ?_⟩
  have lenrow : ∀ {H' : Hp} {t : Addr} {ws : List Addr} {pss : List (List Phr)} {i : Nat} {v : V}, CutAt H' t ws pss → (ws.map V.ref)[i]? = some v → ∃ (u : Addr) (us : List Addr) (phs : List Phr), v = .ref u ∧ pss[i]? = some phs ∧ H' u = some (.tup (us.map V.ref)) ∧ us.length = phs.length := fun {H' t ws pss i v} hC hi => by
    have hiw : i < ws.length := by
      have := (List.getElem?_eq_some_iff.mp hi).1
      rw [List.length_map] at this
      exact this
    rw [List.getElem?_map, List.getElem?_eq_getElem hiw] at hi
    have hip : i < pss.length := by rw [← hC.len]; exact hiw
    obtain ⟨us, a, b⟩ := hC.row i ws[i] pss[i] (List.getElem?_eq_getElem hiw) (List.getElem?_eq_getElem hip)
    exact ⟨ws[i], us, pss[i], (Option.some.inj hi).symm, List.getElem?_eq_getElem hip, a, by rw [b.1, List.length_map]⟩
  refine lc_tup (K := K) (a := t) (xs := ws.map V.ref) (fun i H' => Same H7 H' ∧ H' D = some (.lst (((pss.take i).map plen).map V.int))) ⟨same_new nD, upd_same⟩ (fun i H' _ h => SqT.of (h.1 _ _ hC7.at_)) ?_ ?_
  · rintro i v H8 hi ⟨s8, eD⟩
    obtain ⟨u, us, phs, rfl, ep, hu8, lu⟩ := lenrow (hC7.same s8) hi
    have hip := (List.getElem?_eq_some_iff.mp ep).1
    refine ⟨rfl, _, rfl, u, _, rfl, .inr (SqT.of hu8), _, eD, by rw [List.length_map, List.length_map, List.length_take]; have := hG.1; exact small1000 (by omega), ?_, ?_⟩
    · exact fun c o hc => by rw [upd_ne (ne_of_none hc nD)]; exact s8 _ _ hc
    · rw [upd_same, List.take_add_one, ep, List.map_append, List.map_append, List.length_map, lu]
      rfl
  rintro H8 ⟨s8, eD⟩
  rw [show (ws.map V.ref).length = pss.length by rw [List.length_map, hC.len], List.take_length] at eD
  refine ⟨D, _, rfl, SqL.of eD, ?_⟩
  have hO8 := hO.same s8
  refine ⟨_, rfl, o, rfl, ⟨_, SqT.of hO8.at_⟩, fun D2 nD2 => ?_⟩
  refine lc_tup (K := K) (a := o) (xs := os.map V.ref) (fun i H' => Same H8 H' ∧ H' D2 = some (.lst (((oss.take i).map plen).map V.int))) ⟨same_new nD2, upd_same⟩ (fun i H' _ h => SqT.of (h.1 _ _ hO8.at_)) ?_ ?_
  · rintro i v H9 hi ⟨s9, eD2⟩
    obtain ⟨u, us, phs, rfl, ep, hu9, lu⟩ := lenrow (hO8.same s9) hi
    have hip := (List.getElem?_eq_some_iff.mp ep).1
    refine ⟨rfl, _, rfl, u, _, rfl, .inr (SqT.of hu9), _, eD2, by rw [List.length_map, List.length_map, List.length_take]; have := hcO.1; exact small1000 (by omega), ?_, ?_⟩
    · exact fun c o hc => by rw [upd_ne (ne_of_none hc nD2)]; exact s9 _ _ hc
    · rw [upd_same, List.take_add_one, ep, List.map_append, List.map_append, List.length_map, lu]
      rfl
  rintro H9 ⟨s9, eD2⟩
  rw [show (os.map V.ref).length = oss.length by rw [List.length_map, hO.len], List.take_length] at eD2
  refine ⟨D2, _, rfl, SqL.of eD2, _, _, rfl, rfl, _, rfl, ite2 (fun z => ?_) (fun _ => ?_)⟩
  · exfalso
    have z : (pss.map plen).sum > (oss.map plen).sum := of_decide_eq_true z
    rw [sum_plen, sum_plen] at z
    have := fewest hG hcO
    omega
  have s79 := s8.trans s9
  have hL9 := hL7.same s79
  have hP9 := hP7.same s79
  -- one text, twice
  have llm : (Ls.map tV).length = Ls.length := List.length_map ..
  refine ⟨_, rfl, _, rfl, _, rfl, l, _, rfl, .inl (SqL.of hL9.at_), p, c, _, rfl, by omega, by omega, hP9, fun r2 HA r20 r21 hPA fA => ?_⟩
  obtain ⟨k, rfl⟩ := Int.eq_ofNat_of_zero_le r20
  have hk : k < Ls.length := by omega
  have hLA := hL9.frm nlp fA
  refine ⟨l, _, _, _, rfl, rfl, SqL.of hLA.at_, atI_nat (tx_map Ls hk), ?_⟩
  have ho1 := h126 _ (tx_mem hk)
  have ho2 := hL.sl _ (tx_mem hk)
  generalize tx Ls k = L at ho1 ho2
  refine ⟨_, rfl, _, rfl, p, c, L, rfl, hPA, by omega, ho2, fun b1 R1 T1 as1 rs1 ts1 HB hB1 k1 k56 ex1 fB nb1 => ⟨b1, _, rfl, hB1.bx.getR, fun x1 dx1 nx1 ndx1 ne1 => mkTxB hB1 k1 (by omega) nx1 ndx1 ne1 fun HC sC tX1 => ?_⟩⟩
  have hPC := hB1.po.same sC
  refine ⟨_, rfl, _, rfl, p, c, L, rfl, hPC, by omega, ho2, fun b2 R2 T2 as2 rs2 ts2 HD hB2 k12 k562 ex2 fD nb2 => ⟨b2, _, rfl, hB2.bx.getR, fun x2 dx2 nx2 ndx2 ne2 => mkTxB hB2 k12 (by omega) nx2 ndx2 ne2 fun HE sE tX2 => ?_⟩⟩
  rw [ex1] at tX1
  rw [ex2] at tX2
  have tX1 := (tX1.frm hPC fD).same sE
  refine ⟨by show 2 ≤ sizeLine; decide, fun ll nll => ?_⟩
  have sF := same_new (o := .lst [.ref x1, .ref x2]) nll
  refine ⟨ll, [x1, x2], [L, L], rfl, ⟨upd_same, rfl, fun i x e => ?_⟩, by show 2 ≤ 16; decide, fun M hM => ?_, ?_, fun t2 ws2 pss2 HF hC2 hG2 sG nt2 => ?_⟩
  · match i, e with
    | 0, e => rw [← Option.some.inj e]; exact tX1.same sF
    | 1, e => rw [← Option.some.inj e]; exact tX2.same sF
    | i + 2, e => simp at e
  · have : M = L := by simpa using hM
    rw [this]
    omega
  · show L.length + (L.length + 0) ≤ 4096
    omega
  have lw2 : ws2.length = 2 := by rw [hC2.len, hG2.1]; rfl
  refine ⟨_, rfl, t2, _, rfl, .inr (SqT.of hC2.at_), rfl, _, rfl, ifT (by rw [List.length_map, lw2]; decide) ?_⟩
  have h1w : 1 < ws2.length := by omega
  have h1p : 1 < pss2.length := by rw [← hC2.len]; exact h1w
  obtain ⟨u, us, phs, eu, ep, hu2, lu⟩ := lenrow (i := 1) (v := .ref ws2[1]) hC2 (by rw [List.getElem?_map, List.getElem?_eq_getElem h1w]; rfl)
  obtain rfl := V.ref.inj eu
  refine ⟨_, rfl, t2, _, 1, _, rfl, rfl, SqT.of hC2.at_, atI_nat (j := 1) (by rw [List.getElem?_map, List.getElem?_eq_getElem h1w]; rfl), ws2[1], _, rfl, .inr (SqT.of hu2), _, rfl, rfl, .inr ⟨_, rfl, rfl, ?_⟩⟩
  have ht := twice hG2 ep
  rw [List.length_map, lu, ht]
  have eb : (!decide (V.str (S L) = V.str ("" : Str))) = decide (L ≠ []) := by
    by_cases hL0 : L = []
    · subst hL0
      decide +kernel
    · rw [decide_eq_true hL0, decide_eq_false]
      · rfl
      · intro h
        rw [S_nil] at h
        exact hL0 (S_inj (V.str.inj h))
  rw [eb]
  have e2 : decide (V.int (((if L = [] then 0 else 1 : Nat) : Nat) : Int) = V.int (if decide (L ≠ []) = true then 1 else 0)) = true := by
    by_cases hL0 : L = []
    · rw [if_pos hL0, if_neg (by simp [hL0])]
      rfl
    · rw [if_neg hL0, if_pos (by simp [hL0])]
      rfl
  rw [e2]
  exact q HF
end
/-! ### what the top has written -/
def DefAt (K : PySem.W.Frag) (x : Str) (st : Stmt) : Prop := ∃ (f : Addr) (fd : FuncData), PySem.W.nsIn K mainGlobals x = some (some (.ref f)) ∧ Fun K x x st f fd
theorem def_mk {K : PySem.W.Frag} {x : Str} {st : Stmt} {f : Addr} {od an : Option Addr} {sl : Array (Option Value)} {oc kV dc pm cd ct : Value} (a : PySem.W.nsIn K mainGlobals x = some (some (.ref f)))
    (l : K.lookup f = some ⟨oc, od, .func (PySem.W.fnOf x x (defArgs st) (defBody st) (defScope st) .none kV dc pm an cd ct), sl⟩) (c : PySem.W.codeIn K cd x = true) (k : PySem.W.keepIn K (.ref f) = true) : DefAt K x st := ⟨f, _, a, fun_mk l c k⟩
def MethAt (K : PySem.W.Frag) (C : Addr) (m qual : Str) (st : Stmt) : Prop := ∃ (f : Addr) (fd : FuncData), Meth K C m f ∧ Fun K m qual st f fd
theorem meth_mk {K : PySem.W.Frag} {C : Addr} {m qual : Str} {st : Stmt} {f : Addr} {od an : Option Addr} {sl : Array (Option Value)} {oc kV dc pm cd ct : Value} (a : PySem.W.findIn K (.ref C) m = some (some (.ref f))) (i : PySem.W.isFn K (.ref f) = true)
    (l : K.lookup f = some ⟨oc, od, .func (PySem.W.fnOf m qual (defArgs st) (defBody st) (defScope st) .none kV dc pm an cd ct), sl⟩) (c : PySem.W.codeIn K cd qual = true) (k : PySem.W.keepIn K (.ref f) = true) : MethAt K C m qual st := ⟨f, _, ⟨a, i, k⟩, fun_mk l c k⟩
def CMethAt (K : PySem.W.Frag) (C : Addr) (mc : Value) (m qual : Str) (st : Stmt) : Prop := ∃ (p g : Addr) (fd : FuncData), ClX.CMet K C mc m p g ∧ Fun K m qual st g fd
theorem cmeth_mk {K : PySem.W.Frag} {C : Addr} {m qual : Str} {st : Stmt} {p g : Addr} {rest : List Value} {od an : Option Addr} {sl : Array (Option Value)} {oc kV dc pm cd ct : Value} (a : PySem.W.findCls K (.ref C) mc m = some (.get (.builtin "classmethod.__get__") (.ref p) .none (.ref C)))
    (r : PySem.W.recIn K p "classmethod" = some (.ref g :: rest)) (i : PySem.W.fnIn K g = true)
    (l : K.lookup g = some ⟨oc, od, .func (PySem.W.fnOf m qual (defArgs st) (defBody st) (defScope st) .none kV dc pm an cd ct), sl⟩) (c : PySem.W.codeIn K cd qual = true) (k : PySem.W.keepIn K (.ref g) = true) : CMethAt K C mc m qual st := ⟨p, g, _, ⟨a, ⟨rest, r⟩, i⟩, fun_mk l c k⟩
/-- an own error's class and its __init__, as the top has written them -/
structure ErrFacts (P : Program) (K : PySem.W.Frag) (x qual : Str) (C CH : Addr) (st : Stmt) : Prop where
  at_ : PySem.W.nsIn K mainGlobals x = some (some (.ref C))
  ex : OexC K C
  is : ExcC K C
  xf : XfC K C
  exm : PySem.W.exmOne K (.ref C) (.ref C) = some true
  kH : PySem.W.kitOne K (.ref C) (.ref CH) = some true
  kV : PySem.W.kitOne K (.ref C) (.type "ValueError") = some true
  fn : ∃ (fI cc ca : Addr) (kV doc pm ct : Value) (an : Option Addr), PySem.W.findIn K (.ref C) "__init__" = some (some (.ref fI)) ∧ PySem.W.typeIn K (.ref fI) = some (.type "function") ∧ PySem.W.codeIn K (.ref ca) qual = true ∧
    (∀ mg : Str → Option Value, mg "super" = none → SupAt P K mg C fI cc ca (PySem.W.fnX "__init__" qual (defArgs st) (defBody st) (defScope st) [("__class__", cc)] .none kV doc pm an (.ref ca) ct))
theorem err_mk {P : Program} {K : PySem.W.Frag} {x qual : Str} {C CH fI cc ca : Addr} {st : Stmt} {kV doc pm ct oc c1 c2 : Value} {an od d1 d2 : Option Addr} {sl sl1 sl2 : Array (Option Value)} {vs : Array Value} {file : Str} {tf : Tok} {ar : Arg}
    {nm q : Str} {N : Addr} {bs bm : List Value} {sn : List Str} {sub : List Value} {ab : Bool} {col : Option Bool} {dd : Option Addr} {k0 k1 k2 k3 k5 : Option Value}
    (a1 : PySem.W.nsIn K mainGlobals x = some (some (.ref C))) (a2 : K.lookup C = some (excClassObj nm q C N bs bm true sn sub ab col dd k0 k1 k2 k3 k5 "ValueError.__new__")) (a3 : PySem.HandSPX.refsVE bm = true) (a4 : PySem.W.findIn K (.ref C) "__setattr__" = some (some (.builtin "object.__setattr__")))
    (a5 : PySem.W.subIn K (.ref C) (.type "BaseException") = some true) (a6 : PySem.W.typeIn K (.ref C) = some (.type "type")) (a7 : PySem.W.keepIn K (.ref C) = true) (a8 : PySem.W.findIn K (.ref C) "__getattribute__" = some (some (.builtin "BaseException.__getattribute__"))) (a9 : PySem.W.findIn K (.ref C) "__getattr__" = some none) (b1 : PySem.W.hasDictIn K C = true)
    (b2 : PySem.W.findIn K (.ref C) "__class__" = some (some (.builtin "object.__class__"))) (b3 : PySem.W.specialIn K (.builtin "object.__class__") "__get__" = some (some (.builtin "getset_descriptor.__get__"))) (b4 : PySem.W.takesIn K (.builtin "object.__class__") = some true) (b5 : PySem.W.mroIn K C (.type "object") = some true)
    (b6 : PySem.W.exmOne K (.ref C) (.ref C) = some true) (b7 : PySem.W.kitOne K (.ref C) (.ref CH) = some true) (b8 : PySem.W.kitOne K (.ref C) (.type "ValueError") = some true)
    (c3 : PySem.W.findIn K (.ref C) "__init__" = some (some (.ref fI))) (c4 : PySem.W.typeIn K (.ref fI) = some (.type "function")) (c5 : K.lookup fI = some ⟨oc, od, .func (PySem.W.fnX "__init__" qual (defArgs st) (defBody st) (defScope st) [("__class__", cc)] .none kV doc pm an (.ref ca) ct), sl⟩) (c6 : PySem.W.codeIn K (.ref ca) qual = true)
    (c7 : K.lookup ca = some ⟨c1, d1, .fields vs, sl1⟩) (c8 : vs[2]? = some (.str file tf)) (c9 : ((P.main.file : Str) == file) = true) (e1 : K.lookup cc = some ⟨c2, d2, .cell (some (.ref C)), sl2⟩) (e2 : PySem.W.mroIn K C (.ref C) = some true) (e3 : PySem.W.ks_superIn K C C "__init__" = some (some (.builtin "ValueError.__init__")))
    (e4 : PySem.W.subIn K (.ref C) (.type "ValueError") = some true) (e5 : PySem.W.nsIn K cStatics "thirdparty.any" = some none) (e6 : (P.main.scope.names.lookup ("super" : Str)).isSome = false) (e7 : ((defArgs st).posonlyargs ++ (defArgs st).args).head? = some ar) (e8 : ar.arg = "self") : ErrFacts P K x qual C CH st :=
  ⟨a1, ⟨⟨_, _, _, _, _, _, _, _, _, _, _, _, _, _, _, a2, a3⟩, a4, a5, a6, a7⟩, ⟨a8, a9, a5, b1, b2, b3, b4, b5⟩, ⟨a8, a9, a5, b1⟩, b6, b7, b8, fI, cc, ca, kV, doc, pm, ct, an, c3, c4, c6, fun mg hs =>
    ⟨⟨⟨_, _, _, _, _, _, _, _, _, _, _, _, _, _, _, a2, a3⟩, a4, a5, a6, a7⟩, ⟨_, _, _, c5⟩, ⟨ar, e7, e8⟩, ⟨_, _, _, _, _, _, c7, c8, c9⟩, ⟨_, _, _, e1⟩, e2, e3, e4, e5, hs, e6⟩⟩

/-- an own error without an __init__ of its own -/
structure PlainFacts (K : PySem.W.Frag) (x : Str) (CT CH : Addr) : Prop where
  at_ : PySem.W.nsIn K mainGlobals x = some (some (.ref CT))
  x : PySem.W.excIn K CT [.type "ValueError", .type "Exception", .type "BaseException", .type "object"] "ValueError.__new__" = true
  k : PySem.W.keepIn K (.ref CT) = true
  e : PySem.W.subIn K (.ref CT) (.type "BaseException") = some true
  t : PySem.W.typeIn K (.ref CT) = some (.type "type")
  is : ExcC K CT
  exm : PySem.W.exmOne K (.ref CT) (.ref CT) = some true
  kH : PySem.W.kitOne K (.ref CT) (.ref CH) = some true
theorem plain_mk {K : PySem.W.Frag} {x : Str} {CT CH : Addr} (a1 : PySem.W.nsIn K mainGlobals x = some (some (.ref CT))) (x1 : PySem.W.excIn K CT [.type "ValueError", .type "Exception", .type "BaseException", .type "object"] "ValueError.__new__" = true)
    (a5 : PySem.W.subIn K (.ref CT) (.type "BaseException") = some true) (a6 : PySem.W.typeIn K (.ref CT) = some (.type "type")) (a7 : PySem.W.keepIn K (.ref CT) = true) (a8 : PySem.W.findIn K (.ref CT) "__getattribute__" = some (some (.builtin "BaseException.__getattribute__"))) (a9 : PySem.W.findIn K (.ref CT) "__getattr__" = some none) (b1 : PySem.W.hasDictIn K CT = true)
    (b2 : PySem.W.findIn K (.ref CT) "__class__" = some (some (.builtin "object.__class__"))) (b3 : PySem.W.specialIn K (.builtin "object.__class__") "__get__" = some (some (.builtin "getset_descriptor.__get__"))) (b4 : PySem.W.takesIn K (.builtin "object.__class__") = some true) (b5 : PySem.W.mroIn K CT (.type "object") = some true)
    (b6 : PySem.W.exmOne K (.ref CT) (.ref CT) = some true) (b7 : PySem.W.kitOne K (.ref CT) (.ref CH) = some true) : PlainFacts K x CT CH :=
  ⟨a1, x1, a7, a5, a6, ⟨a8, a9, a5, b1, b2, b3, b4, b5⟩, b6, b7⟩
/-- a class with its __init__ -/
structure ClassAt (K : PySem.W.Frag) (x qual : Str) (C : Addr) (st : Stmt) : Prop where
  at_ : PySem.W.nsIn K mainGlobals x = some (some (.ref C))
  cl : Cls K C
  ini : ∃ (f : Addr) (fd : FuncData), Mk K C f ∧ Fun K "__init__" qual st f fd
theorem class_mk {K : PySem.W.Frag} {x qual : Str} {C f : Addr} {st : Stmt} {od an : Option Addr} {sl : Array (Option Value)} {oc kV dc pm cd ct : Value} (a1 : PySem.W.nsIn K mainGlobals x = some (some (.ref C)))
    (a2 : PySem.W.plainGet K C Str.empty = true) (a3 : PySem.W.hasDictIn K C = true) (a4 : PySem.W.plainOver K C = true) (a5 : PySem.W.findIn K (.ref C) "__setattr__" = some (some (.builtin "object.__setattr__"))) (a6 : PySem.W.makesIn K C = true) (a7 : PySem.W.keepIn K (.ref C) = true)
    (b1 : PySem.W.findIn K (.ref C) "__init__" = some (some (.ref f))) (b2 : PySem.W.isFn K (.ref f) = true) (b3 : K.lookup f = some ⟨oc, od, .func (PySem.W.fnOf "__init__" qual (defArgs st) (defBody st) (defScope st) .none kV dc pm an cd ct), sl⟩) (b4 : PySem.W.codeIn K cd qual = true) (b5 : PySem.W.keepIn K (.ref f) = true) : ClassAt K x qual C st :=
  ⟨a1, ⟨a2, a3, a4, a5⟩, f, _, ⟨a6, b1, b2, a7⟩, fun_mk b3 b4 b5⟩
theorem insc_mk {K : PySem.W.Frag} {C : Addr} (cl : Cls K C) (a1 : PySem.W.findIn K (.ref C) "__class__" = some (some (.builtin "object.__class__"))) (a2 : PySem.W.specialIn K (.builtin "object.__class__") "__get__" = some (some (.builtin "getset_descriptor.__get__"))) (a3 : PySem.W.takesIn K (.builtin "object.__class__") = some true) (a4 : PySem.W.mroIn K C (.type "object") = some true) (a5 : PySem.W.kitOne K (.ref C) (.ref C) = some true) : C8.InsC K C := ⟨cl, a1, a2, a3, a4, a5⟩

theorem all_mk {C CH fL d : Addr} {l : PySem.W.OpenLaw} {w : World} {K : PySem.W.Frag} {h : Heap} {mg : Str → Option Value} {fa : Addr} {es : Array DictEntry} {n : Nat} (X : K.In h) (G : h.Ns mainGlobals mg) (hfa : mg "law" = some (.ref fa))
    {odL anL : Option Addr} {slL : Array (Option Value)} {ocL kVL dcL pmL cdL ctL : Value} {t0 t1 t2 t3 t4 t5 t6 k1 k2 k3 k4 k5 : Tok}
    (aL : PySem.W.nsIn K mainGlobals "law" = some (some (.ref fL))) (lL : K.lookup fL = some ⟨ocL, odL, .func (PySem.W.fnOf "law" "law" (defArgs sLaw) (defBody sLaw) (defScope sLaw) .none kVL dcL pmL anL cdL ctL), slL⟩) (cL : PySem.W.codeIn K cdL "law" = true) (kL : PySem.W.keepIn K (.ref fL) = true)
    (D_vo : DefAt K "view_of" sViewOf)
    (D_se : DefAt K "settled" sSettled)
    (D_de : DefAt K "deeper" sDeeper)
    (D_sb : DefAt K "spelled_by" sSpelledBy)
    (D_di : DefAt K "divided" sDivided)
    (D_dp : DefAt K "divided_power" sDividedPower)
    (D_iw : DefAt K "is_whole" sIsWhole)
    (D_hw : DefAt K "has_word" sHasWord)
    (D_at : DefAt K "are_told" sAreTold)
    (D_ip : DefAt K "is_part" sIsPart)
    (D_lm : DefAt K "length_made" sLengthMade)
    (D_fo : DefAt K "fault_of" sFaultOf)
    (D_lc : DefAt K "lengths_checked" sLengthsChecked)
    (D_co : DefAt K "copied" sCopied)
    (D_sp : DefAt K "spelled" sSpelled)
    (D_pool : DefAt K "_law_pool" sPool)
    (D_take : DefAt K "_law_take" sTake)
    (T' : ClassAt K "Text" "Text.__init__" C sInit)
    (n_T_rules : PySem.W.findIn K (.ref C) "rules" = some none)
    (n_T_lengths : PySem.W.findIn K (.ref C) "lengths" = some none)
    (n_T_length : PySem.W.findIn K (.ref C) "length" = some none)
    (mE : MethAt K C "letter" "Text.letter" sLetter)
    (mS : MethAt K C "letters" "Text.letters" sLetters)
    (z_len : PySem.W.nsIn K mainGlobals "len" = some none)
    (z_int : PySem.W.nsIn K mainGlobals "int" = some none)
    (z_range : PySem.W.nsIn K mainGlobals "range" = some none)
    (z_tuple : PySem.W.nsIn K mainGlobals "tuple" = some none)
    (z_list : PySem.W.nsIn K mainGlobals "list" = some none)
    (z_isinstance : PySem.W.nsIn K mainGlobals "isinstance" = some none)
    (z_all : PySem.W.nsIn K mainGlobals "all" = some none)
    (z_reversed : PySem.W.nsIn K mainGlobals "reversed" = some none)
    (z_bool : PySem.W.nsIn K mainGlobals "bool" = some none)
    (z_str : PySem.W.nsIn K mainGlobals "str" = some none)
    (z_enumerate : PySem.W.nsIn K mainGlobals "enumerate" = some none)
    (z_max : PySem.W.nsIn K mainGlobals "max" = some none)
    (z_min : PySem.W.nsIn K mainGlobals "min" = some none)
    (z_sum : PySem.W.nsIn K mainGlobals "sum" = some none)
    (i_MOST_RULES : PySem.W.nsIn K mainGlobals "MOST_RULES" = some (some (.int 60 t1)))
    (i_MOST_TOLD : PySem.W.nsIn K mainGlobals "MOST_TOLD" = some (some (.int 64 t2)))
    (i_MOST_TIMES : PySem.W.nsIn K mainGlobals "MOST_TIMES" = some (some (.int 1000000000000 t3)))
    (i_MOST_LETTERS : PySem.W.nsIn K mainGlobals "MOST_LETTERS" = some (some (.int 1000000000000 t4)))
    (i_MOST_SPELLED : PySem.W.nsIn K mainGlobals "MOST_SPELLED" = some (some (.int 1000 t5)))
    (aH : PySem.W.nsIn K mainGlobals "HeldError" = some (some (.ref CH)))
    (B_lt : DefAt K "_law_letters" sLLetters)
    (B_ad : DefAt K "_law_add" sLAdd)
    (B_bx : DefAt K "_law_box" sLBox)
    (B_pr : DefAt K "_law_power_rule" sLPowerRule)
    (B_nx : DefAt K "_law_next_rule" sLNextRule)
    (B_tl : DefAt K "_law_turned_letter" sLTurnedLetter)
    (B_dr : DefAt K "_law_drawn" sLDrawn)
    (B_pe : DefAt K "_law_period" sLPeriod)
    (B_wy : DefAt K "_law_way" sLWay)
    (B_ot : DefAt K "_law_other" sLOther)
    (i_MOST_CUT : PySem.W.nsIn K mainGlobals "MOST_CUT" = some (some (.int 4096 t6)))
    (U_lc : DefAt K "longest_copy" sLongestCopy)
    (U_ro : DefAt K "row_of" sRowOf)
    (U_sh : DefAt K "shortest_cut" sShortestCut)
    (U_so : DefAt K "_law_some" sLSome)
    (U_tx : DefAt K "_law_texts" sLTexts)
    (U_lo : DefAt K "_law_longest" sLLongest)
    (U_dc : DefAt K "_law_drawn_cut" sLDrawnCut)
    (U_sp : DefAt K "_law_spells" sLSpells)
    (U_ic : DefAt K "_law_is_cut" sLIsCut)
    (rd1 : PySem.W.readsIn K C (.type "type") = true) (rd2 : PySem.W.specialIn K (.ref C) "__getattribute__" = some (some (.builtin "type.__getattribute__")))
    (i_LETTERS : PySem.W.nsIn K mainGlobals "LETTERS" = some (some (.str LTR t0))) (i_SIZES : PySem.W.nsIn K mainGlobals "SIZES" = some (some (.ref d))) (dl : K.lookup d = some ⟨.type "dict", none, .dict es n, #[]⟩) (dk : PySem.W.KeysLit w.params es.toList) (ds : (d == sysModules) = false)
    (s_letters : PySem.W.nsIn K d "letters" = some (some (.int 2 k1)))
    (s_join : PySem.W.nsIn K d "join" = some (some (.int 3 k2)))
    (s_power : PySem.W.nsIn K d "power" = some (some (.int 3 k3)))
    (s_part : PySem.W.nsIn K d "part" = some (some (.int 4 k4)))
    (s_back : PySem.W.nsIn K d "back" = some (some (.int 2 k5)))
    : ∃ fd : FuncData, (∀ (s : Shared) (v : Value), BindsTo s fd ⟨[v], []⟩ [("script", v)]) ∧ ∀ base : Heap, K.In base → base.Ns mainGlobals mg → FnOk l.prog w K mg base CX0 23 fa fd ["script"] (spLaw K) := by
  have e := hfa.symm.trans (PySem.W.mg_of X G aL)
  cases e
  have gl : ∀ {x : Str} {v : Value}, PySem.W.nsIn K mainGlobals x = some (some v) → mg x = some v := fun a => PySem.W.mg_of X G a
  have gn : ∀ {x : Str}, PySem.W.nsIn K mainGlobals x = some none → mg x = none := fun a => PySem.W.mg_none_of X G a
  have T : Txt mg := ⟨gn z_len, gn z_int, gn z_range, gn z_tuple, gn z_list, gn z_isinstance, gn z_all, gn z_reversed, gn z_bool, gn z_str, gn z_enumerate, ⟨_, gl i_MOST_RULES, ⟨_, rfl⟩⟩, ⟨_, gl i_MOST_TOLD, ⟨_, rfl⟩⟩, ⟨_, gl i_MOST_TIMES, ⟨_, rfl⟩⟩, ⟨_, gl i_MOST_LETTERS, ⟨_, rfl⟩⟩, ⟨_, gl i_LETTERS, ⟨_, rfl⟩⟩, ⟨_, gl i_MOST_SPELLED, ⟨_, rfl⟩⟩⟩
  have Z : Sizes K w mg d es n := ⟨⟨_, gl i_SIZES, rfl⟩, ⟨dl, dk, ds⟩, ⟨_, s_letters⟩, ⟨_, s_join⟩, ⟨_, s_power⟩, ⟨_, s_part⟩, ⟨_, s_back⟩⟩
  have FL := fun_mk (st := sLaw) lL cL kL
  obtain ⟨f_D_vo, fd_D_vo, a_D_vo, F_D_vo⟩ := D_vo
  obtain ⟨f_D_se, fd_D_se, a_D_se, F_D_se⟩ := D_se
  obtain ⟨f_D_de, fd_D_de, a_D_de, F_D_de⟩ := D_de
  obtain ⟨f_D_sb, fd_D_sb, a_D_sb, F_D_sb⟩ := D_sb
  obtain ⟨f_D_di, fd_D_di, a_D_di, F_D_di⟩ := D_di
  obtain ⟨f_D_dp, fd_D_dp, a_D_dp, F_D_dp⟩ := D_dp
  obtain ⟨f_D_iw, fd_D_iw, a_D_iw, F_D_iw⟩ := D_iw
  obtain ⟨f_D_hw, fd_D_hw, a_D_hw, F_D_hw⟩ := D_hw
  obtain ⟨f_D_at, fd_D_at, a_D_at, F_D_at⟩ := D_at
  obtain ⟨f_D_ip, fd_D_ip, a_D_ip, F_D_ip⟩ := D_ip
  obtain ⟨f_D_lm, fd_D_lm, a_D_lm, F_D_lm⟩ := D_lm
  obtain ⟨f_D_fo, fd_D_fo, a_D_fo, F_D_fo⟩ := D_fo
  obtain ⟨f_D_lc, fd_D_lc, a_D_lc, F_D_lc⟩ := D_lc
  obtain ⟨f_D_co, fd_D_co, a_D_co, F_D_co⟩ := D_co
  obtain ⟨f_D_sp, fd_D_sp, a_D_sp, F_D_sp⟩ := D_sp
  obtain ⟨f_D_pool, fd_D_pool, a_D_pool, F_D_pool⟩ := D_pool
  obtain ⟨f_D_take, fd_D_take, a_D_take, F_D_take⟩ := D_take
  obtain ⟨fI_T, fdI_T, M_T, FI_T⟩ := T'.ini
  obtain ⟨f_mE, fd_mE, h_mE, F_mE⟩ := mE
  obtain ⟨f_mS, fd_mS, h_mS, F_mS⟩ := mS
  obtain ⟨f_B_lt, fd_B_lt, a_B_lt, F_B_lt⟩ := B_lt
  obtain ⟨f_B_ad, fd_B_ad, a_B_ad, F_B_ad⟩ := B_ad
  obtain ⟨f_B_bx, fd_B_bx, a_B_bx, F_B_bx⟩ := B_bx
  obtain ⟨f_B_pr, fd_B_pr, a_B_pr, F_B_pr⟩ := B_pr
  obtain ⟨f_B_nx, fd_B_nx, a_B_nx, F_B_nx⟩ := B_nx
  obtain ⟨f_B_tl, fd_B_tl, a_B_tl, F_B_tl⟩ := B_tl
  obtain ⟨f_B_dr, fd_B_dr, a_B_dr, F_B_dr⟩ := B_dr
  obtain ⟨f_B_pe, fd_B_pe, a_B_pe, F_B_pe⟩ := B_pe
  obtain ⟨f_B_wy, fd_B_wy, a_B_wy, F_B_wy⟩ := B_wy
  obtain ⟨f_B_ot, fd_B_ot, a_B_ot, F_B_ot⟩ := B_ot
  obtain ⟨f_U_lc, fd_U_lc, a_U_lc, F_U_lc⟩ := U_lc
  obtain ⟨f_U_ro, fd_U_ro, a_U_ro, F_U_ro⟩ := U_ro
  obtain ⟨f_U_sh, fd_U_sh, a_U_sh, F_U_sh⟩ := U_sh
  obtain ⟨f_U_so, fd_U_so, a_U_so, F_U_so⟩ := U_so
  obtain ⟨f_U_tx, fd_U_tx, a_U_tx, F_U_tx⟩ := U_tx
  obtain ⟨f_U_lo, fd_U_lo, a_U_lo, F_U_lo⟩ := U_lo
  obtain ⟨f_U_dc, fd_U_dc, a_U_dc, F_U_dc⟩ := U_dc
  obtain ⟨f_U_sp, fd_U_sp, a_U_sp, F_U_sp⟩ := U_sp
  obtain ⟨f_U_ic, fd_U_ic, a_U_ic, F_U_ic⟩ := U_ic
  refine ⟨PySem.W.fnOf "law" "law" (defArgs sLaw) (defBody sLaw) (defScope sLaw) .none kVL dcL pmL anL cdL ctL, fun s v => .of_eq rfl, fun base _ _ => ?_⟩
  have D : Cl K C := ⟨T'.cl, n_T_rules, n_T_lengths, n_T_length⟩
  have bI : L2.Binds K _ ["self", "rules"] [] := (FI_T.binds (ps := ["self", "rules"]) fun _ _ _ _ _ _ us hl => match us, hl with | [_, _], _ => rfl)
  have gT : ∃ u, mg "Text" = some u ∧ RelV (.ref C) u := ⟨_, gl T'.at_, rfl⟩
  have G : Cal l.prog w K mg base 2 "_law_take" spTake [] := ok_take F_D_take (gl a_D_take) (F_D_take.binds (ps := ["pool", "many"]) fun _ _ _ _ _ _ us hl => match us, hl with | [_, _], _ => rfl) T
  have GP : Cal l.prog w K mg base 1 "_law_pool" (spPool K) [] := ok_pool F_D_pool (gl a_D_pool) (F_D_pool.binds (ps := ["script"]) fun _ _ _ _ _ _ us hl => match us, hl with | [_], _ => rfl) 
  have GDe : Cal l.prog w K mg base 1 "deeper" (spDeeper C) [] := ok_deeper F_D_de (gl a_D_de) (F_D_de.binds (ps := ["text", "view"]) fun _ _ _ _ _ _ us hl => match us, hl with | [_, _], _ => rfl) D
  have GSe : Cal l.prog w K mg base 2 "settled" (spSettled C) [] := ok_settled F_D_se (gl a_D_se) (F_D_se.binds (ps := ["text", "view"]) fun _ _ _ _ _ _ us hl => match us, hl with | [_, _], _ => rfl) GDe
  have GVo : Cal l.prog w K mg base 3 "view_of" (spViewOf C) [] := ok_view_of F_D_vo (gl a_D_vo) (F_D_vo.binds (ps := ["text", "start", "stop"]) fun _ _ _ _ _ _ us hl => match us, hl with | [_, _, _], _ => rfl) T D GSe
  have GSb : Cal l.prog w K mg base 1 "spelled_by" (spSpelledBy C) [] := ok_spelled_by F_D_sb (gl a_D_sb) (F_D_sb.binds (ps := ["text", "view"]) fun _ _ _ _ _ _ us hl => match us, hl with | [_, _], _ => rfl) D
  have GDp : Cal l.prog w K mg base 1 "divided_power" spDivP [] := ok_divP F_D_dp (gl a_D_dp) (F_D_dp.binds (ps := ["base", "size", "start", "stop"]) fun _ _ _ _ _ _ us hl => match us, hl with | [_, _, _, _], _ => rfl) 
  have GDi : Cal l.prog w K mg base 3 "divided" (spDivided C) [] := ok_divided F_D_di (gl a_D_di) (F_D_di.binds (ps := ["text", "view"]) fun _ _ _ _ _ _ us hl => match us, hl with | [_, _], _ => rfl) D GDp GSe
  have GSp : Cal l.prog w K mg base 4 "spelled" (spSpelled C) [] := ok_spelled F_D_sp (gl a_D_sp) (F_D_sp.binds (ps := ["text", "start", "stop"]) fun _ _ _ _ _ _ us hl => match us, hl with | [_, _, _], _ => rfl) T GVo GSb GDi
  have GIp : Cal l.prog w K mg base 1 "is_part" spIsPart [] := ok_is_part F_D_ip (gl a_D_ip) (F_D_ip.binds (ps := ["start", "stop", "length"]) fun _ _ _ _ _ _ us hl => match us, hl with | [_, _, _], _ => rfl) 
  have GLm : Cal l.prog w K mg base 1 "length_made" spLengthMade [] := ok_length_made F_D_lm (gl a_D_lm) (F_D_lm.binds (ps := ["rule", "lengths"]) fun _ _ _ _ _ _ us hl => match us, hl with | [_, _], _ => rfl) T
  have GCo : Cal l.prog w K mg base 1 "copied" spCopied [] := ok_copied F_D_co (gl a_D_co) (F_D_co.binds (ps := ["rules"]) fun _ _ _ _ _ _ us hl => match us, hl with | [_], _ => rfl) T
  have GIw : Cal l.prog w K mg base 1 "is_whole" spIsWhole [] := ok_is_whole F_D_iw (gl a_D_iw) (F_D_iw.binds (ps := ["value"]) fun _ _ _ _ _ _ us hl => match us, hl with | [_], _ => rfl) T
  have GHw : Cal l.prog w K mg base 1 "has_word" spHasWord [] := ok_has_word F_D_hw (gl a_D_hw) (F_D_hw.binds (ps := ["rule"]) fun _ _ _ _ _ _ us hl => match us, hl with | [_], _ => rfl) T Z
  have GAt : Cal l.prog w K mg base 1 "are_told" spAreTold [] := ok_are_told F_D_at (gl a_D_at) (F_D_at.binds (ps := ["letters"]) fun _ _ _ _ _ _ us hl => match us, hl with | [_], _ => rfl) T
  have GFo : Cal l.prog w K mg base 2 "fault_of" spFaultOf [] := ok_fault_of F_D_fo (gl a_D_fo) (F_D_fo.binds (ps := ["rule", "lengths"]) fun _ _ _ _ _ _ us hl => match us, hl with | [_, _], _ => rfl) T Z GHw GAt GIw GIp GLm
  have GLc : Cal l.prog w K mg base 3 "lengths_checked" spLengthsC [] := ok_lengths_checked F_D_lc (gl a_D_lc) (F_D_lc.binds (ps := ["rules"]) fun _ _ _ _ _ _ us hl => match us, hl with | [_], _ => rfl) T GFo GLm
  have GI : FnOk l.prog w K mg base CX0 4 fI_T _ ["self", "rules"] (spInit C) := ok_init FI_T T D GLc GCo
  have MK : C8.Mak l.prog w K mg base 4 "Text" C (spInit C) [] := ⟨fI_T, _, _, [], M_T, GI, gl T'.at_, bI, .nil⟩
  have GLe : C8.Met l.prog w K mg base 5 C "letter" (spLetter C) [] := ⟨f_mE, fd_mE, _, [], D.cl, h_mE, ok_letter F_mE D GSp, (F_mE.binds (ps := ["self", "place"]) fun _ _ _ _ _ _ us hl => match us, hl with | [_, _], _ => rfl), .nil⟩
  have GLs : C8.Met l.prog w K mg base 5 C "letters" (spLetters C) [] := ⟨f_mS, fd_mS, _, [], D.cl, h_mS, ok_letters F_mS T D GSp GIp, (F_mS.binds (ps := ["self", "start", "stop"]) fun _ _ _ _ _ _ us hl => match us, hl with | [_, _, _], _ => rfl), .nil⟩
  have BLt : Cal l.prog w K mg base 3 "_law_letters" spBLetters [] := ok_bletters F_B_lt (gl a_B_lt) (F_B_lt.binds (ps := ["pool", "most"]) fun _ _ _ _ _ _ us hl => match us, hl with | [_, _], _ => rfl) T G
  have BAd : Cal l.prog w K mg base 1 "_law_add" spAdd [] := ok_badd F_B_ad (gl a_B_ad) (F_B_ad.binds (ps := ["box", "rule", "text"]) fun _ _ _ _ _ _ us hl => match us, hl with | [_, _, _], _ => rfl) T
  have BBx : Cal l.prog w K mg base 1 "_law_box" spBox [] := ok_bbox F_B_bx (gl a_B_bx) (F_B_bx.binds (ps := []) fun _ _ _ _ _ _ us hl => match us, hl with | [], _ => rfl) 
  have BPr : Cal l.prog w K mg base 3 "_law_power_rule" spBPower [] := ok_bpower F_B_pr (gl a_B_pr) (F_B_pr.binds (ps := ["pool", "box", "most"]) fun _ _ _ _ _ _ us hl => match us, hl with | [_, _, _], _ => rfl) T G BAd
  have BNx : Cal l.prog w K mg base 4 "_law_next_rule" spBNext [] := ok_bnext F_B_nx (gl a_B_nx) (F_B_nx.binds (ps := ["pool", "box", "most"]) fun _ _ _ _ _ _ us hl => match us, hl with | [_, _, _], _ => rfl) T (gn z_max) G BAd BLt BPr
  have BTl : Cal l.prog w K mg base 3 "_law_turned_letter" spBTurned [] := ok_bturned F_B_tl (gl a_B_tl) (F_B_tl.binds (ps := ["pool", "box", "most"]) fun _ _ _ _ _ _ us hl => match us, hl with | [_, _, _], _ => rfl) T G BAd
  have BDr : Cal l.prog w K mg base 5 "_law_drawn" spBDrawn [] := ok_bdrawn F_B_dr (gl a_B_dr) (F_B_dr.binds (ps := ["pool", "most"]) fun _ _ _ _ _ _ us hl => match us, hl with | [_, _], _ => rfl) T G BBx BNx BPr BTl
  have BPe : Cal l.prog w K mg base 1 "_law_period" spBPeriod [] := ok_bperiod F_B_pe (gl a_B_pe) (F_B_pe.binds (ps := ["letters"]) fun _ _ _ _ _ _ us hl => match us, hl with | [_], _ => rfl) T
  have BWy : Cal l.prog w K mg base (4 + 16) "_law_way" (spWay 16) [] := ok_way F_B_wy (gl a_B_wy) (F_B_wy.binds (ps := ["pool", "box", "letters", "deep"]) fun _ _ _ _ _ _ us hl => match us, hl with | [_, _, _, _], _ => rfl) T G BAd BLt BPe 16
  have BOt : Cal l.prog w K mg base 21 "_law_other" spOther [] := ok_bother F_B_ot (gl a_B_ot) (F_B_ot.binds (ps := ["pool", "letters"]) fun _ _ _ _ _ _ us hl => match us, hl with | [_, _], _ => rfl) BBx BWy
  have ULc : Cal l.prog w K mg base 1 "longest_copy" spLongest [] := ok_longest F_U_lc (gl a_U_lc) (F_U_lc.binds (ps := ["whole", "place", "stop"]) fun _ _ _ _ _ _ us hl => match us, hl with | [_, _, _], _ => rfl) T
  have URo : Cal l.prog w K mg base 2 "row_of" spRowOf [] := ok_row_of F_U_ro (gl a_U_ro) (F_U_ro.binds (ps := ["whole", "start", "stop", "places"]) fun _ _ _ _ _ _ us hl => match us, hl with | [_, _, _, _], _ => rfl) T ULc
  have USh : Cal l.prog w K mg base 5 "shortest_cut" (spShort C) [] := ok_shortest F_U_sh (gl a_U_sh) (F_U_sh.binds (ps := ["texts"]) fun _ _ _ _ _ _ us hl => match us, hl with | [_], _ => rfl) T D (gn z_sum) ⟨_, gl i_MOST_CUT, ⟨_, rfl⟩⟩ GSp URo
  have USo : Cal l.prog w K mg base 6 "_law_some" spSome [] := ok_some F_U_so (gl a_U_so) (F_U_so.binds (ps := ["pool", "many", "most"]) fun _ _ _ _ _ _ us hl => match us, hl with | [_, _, _], _ => rfl) T G BLt BDr
  have UTx : Cal l.prog w K mg base 22 "_law_texts" (spLTexts C) [] := ok_ltexts F_U_tx (gl a_U_tx) (F_U_tx.binds (ps := ["pool", "letters"]) fun _ _ _ _ _ _ us hl => match us, hl with | [_, _], _ => rfl) MK BOt
  have ULo : Cal l.prog w K mg base 1 "_law_longest" spLLongest [] := ok_llongest F_U_lo (gl a_U_lo) (F_U_lo.binds (ps := ["letters", "number", "at"]) fun _ _ _ _ _ _ us hl => match us, hl with | [_, _, _], _ => rfl) T
  have UDc : Cal l.prog w K mg base 3 "_law_drawn_cut" spDCut [] := ok_dcut F_U_dc (gl a_U_dc) (F_U_dc.binds (ps := ["pool", "letters"]) fun _ _ _ _ _ _ us hl => match us, hl with | [_, _], _ => rfl) T G ULo
  have USp : Cal l.prog w K mg base 1 "_law_spells" spSpells [] := ok_spells F_U_sp (gl a_U_sp) (F_U_sp.binds (ps := ["letters", "number", "row"]) fun _ _ _ _ _ _ us hl => match us, hl with | [_, _, _], _ => rfl) T
  have UIc : Cal l.prog w K mg base 2 "_law_is_cut" spIsCut [] := ok_is_cut F_U_ic (gl a_U_ic) (F_U_ic.binds (ps := ["letters", "cut"]) fun _ _ _ _ _ _ us hl => match us, hl with | [_, _], _ => rfl) T USp
  exact ok_law FL T (gn z_sum) GP G MK BOt USo UTx USh UIc UDc
end K4
open PySem PySem.W PyProof.Rows in
set_option maxRecDepth 100000 in
set_option maxHeartbeats 0 in
theorem PySem.Challenge.cw_shortheld_k39_whole_fewest_phrases_holds : PySem.Challenge.rw_shortheld_k39_whole_fewest_phrases.Holds := by
  w_on; o_law; k_head; (case hw => w_witness2)
  k_fill
  refine L2.walk_of (l := PySem.Challenge.rw_shortheld_k39_whole_fewest_phrases) (n := 63) (k := 23) (x := "script") (CX := fun _ => L2.CX0) (sp := fun w => K4.spLaw _) rfl (by decide) rfl ⟨rfl, by decide, by decide⟩ (fun w h Y => PySem.W.kIn_of Y) ?F (fun _ _ a ns hl _ hS => ⟨a, ns, rfl, hS, hl, fun _ => rfl⟩) (fun _ _ _ _ _ h => h)
  case F =>
    intro w mg fa h KX G hmg
    refine' K4.all_mk KX G hmg ?aL ?lL ?cL ?kL ?D_vo ?D_se ?D_de ?D_sb ?D_di ?D_dp ?D_iw ?D_hw ?D_at ?D_ip ?D_lm ?D_fo ?D_lc ?D_co ?D_sp ?D_pool ?D_take ?T' ?n_T_rules ?n_T_lengths ?n_T_length ?mE ?mS ?z_len ?z_int ?z_range ?z_tuple ?z_list ?z_isinstance ?z_all ?z_reversed ?z_bool ?z_str ?z_enumerate ?z_max ?z_min ?z_sum ?i_MOST_RULES ?i_MOST_TOLD ?i_MOST_TIMES ?i_MOST_LETTERS ?i_MOST_SPELLED ?aH ?B_lt ?B_ad ?B_bx ?B_pr ?B_nx ?B_tl ?B_dr ?B_pe ?B_wy ?B_ot ?i_MOST_CUT ?U_lc ?U_ro ?U_sh ?U_so ?U_tx ?U_lo ?U_dc ?U_sp ?U_ic ?rd1 ?rd2 ?i_LETTERS ?i_SIZES ?dl ?dk ?ds ?s_letters ?s_join ?s_power ?s_part ?s_back
    (case aL => k_is)
    (case lL => k_is)
    (case cL => k_is)
    (case kL => k_is)
    (case D_vo => refine' K4.def_mk ?a ?l ?c ?k; (case a => k_is); (case l => k_is); (case c => k_is); (case k => k_is))
    (case D_se => refine' K4.def_mk ?a ?l ?c ?k; (case a => k_is); (case l => k_is); (case c => k_is); (case k => k_is))
    (case D_de => refine' K4.def_mk ?a ?l ?c ?k; (case a => k_is); (case l => k_is); (case c => k_is); (case k => k_is))
    (case D_sb => refine' K4.def_mk ?a ?l ?c ?k; (case a => k_is); (case l => k_is); (case c => k_is); (case k => k_is))
    (case D_di => refine' K4.def_mk ?a ?l ?c ?k; (case a => k_is); (case l => k_is); (case c => k_is); (case k => k_is))
    (case D_dp => refine' K4.def_mk ?a ?l ?c ?k; (case a => k_is); (case l => k_is); (case c => k_is); (case k => k_is))
    (case D_iw => refine' K4.def_mk ?a ?l ?c ?k; (case a => k_is); (case l => k_is); (case c => k_is); (case k => k_is))
    (case D_hw => refine' K4.def_mk ?a ?l ?c ?k; (case a => k_is); (case l => k_is); (case c => k_is); (case k => k_is))
    (case D_at => refine' K4.def_mk ?a ?l ?c ?k; (case a => k_is); (case l => k_is); (case c => k_is); (case k => k_is))
    (case D_ip => refine' K4.def_mk ?a ?l ?c ?k; (case a => k_is); (case l => k_is); (case c => k_is); (case k => k_is))
    (case D_lm => refine' K4.def_mk ?a ?l ?c ?k; (case a => k_is); (case l => k_is); (case c => k_is); (case k => k_is))
    (case D_fo => refine' K4.def_mk ?a ?l ?c ?k; (case a => k_is); (case l => k_is); (case c => k_is); (case k => k_is))
    (case D_lc => refine' K4.def_mk ?a ?l ?c ?k; (case a => k_is); (case l => k_is); (case c => k_is); (case k => k_is))
    (case D_co => refine' K4.def_mk ?a ?l ?c ?k; (case a => k_is); (case l => k_is); (case c => k_is); (case k => k_is))
    (case D_sp => refine' K4.def_mk ?a ?l ?c ?k; (case a => k_is); (case l => k_is); (case c => k_is); (case k => k_is))
    (case D_pool => refine' K4.def_mk ?a ?l ?c ?k; (case a => k_is); (case l => k_is); (case c => k_is); (case k => k_is))
    (case D_take => refine' K4.def_mk ?a ?l ?c ?k; (case a => k_is); (case l => k_is); (case c => k_is); (case k => k_is))
    (case T' => refine' K4.class_mk ?a1 ?a2 ?a3 ?a4 ?a5 ?a6 ?a7 ?b1 ?b2 ?b3 ?b4 ?b5; (case a1 => k_is); (case a2 => k_is); (case a3 => k_is); (case a4 => k_is); (case a5 => k_is); (case a6 => k_is); (case a7 => k_is); (case b1 => k_is); (case b2 => k_is); (case b3 => k_is); (case b4 => k_is); (case b5 => k_is))
    (case n_T_rules => k_is)
    (case n_T_lengths => k_is)
    (case n_T_length => k_is)
    (case mE => refine' K4.meth_mk ?a ?i ?l ?c ?k; (case a => k_is); (case i => k_is); (case l => k_is); (case c => k_is); (case k => k_is))
    (case mS => refine' K4.meth_mk ?a ?i ?l ?c ?k; (case a => k_is); (case i => k_is); (case l => k_is); (case c => k_is); (case k => k_is))
    (case z_len => k_is)
    (case z_int => k_is)
    (case z_range => k_is)
    (case z_tuple => k_is)
    (case z_list => k_is)
    (case z_isinstance => k_is)
    (case z_all => k_is)
    (case z_reversed => k_is)
    (case z_bool => k_is)
    (case z_str => k_is)
    (case z_enumerate => k_is)
    (case z_max => k_is)
    (case z_min => k_is)
    (case z_sum => k_is)
    (case i_MOST_RULES => k_is)
    (case i_MOST_TOLD => k_is)
    (case i_MOST_TIMES => k_is)
    (case i_MOST_LETTERS => k_is)
    (case i_MOST_SPELLED => k_is)
    (case aH => k_is)
    (case B_lt => refine' K4.def_mk ?a ?l ?c ?k; (case a => k_is); (case l => k_is); (case c => k_is); (case k => k_is))
    (case B_ad => refine' K4.def_mk ?a ?l ?c ?k; (case a => k_is); (case l => k_is); (case c => k_is); (case k => k_is))
    (case B_bx => refine' K4.def_mk ?a ?l ?c ?k; (case a => k_is); (case l => k_is); (case c => k_is); (case k => k_is))
    (case B_pr => refine' K4.def_mk ?a ?l ?c ?k; (case a => k_is); (case l => k_is); (case c => k_is); (case k => k_is))
    (case B_nx => refine' K4.def_mk ?a ?l ?c ?k; (case a => k_is); (case l => k_is); (case c => k_is); (case k => k_is))
    (case B_tl => refine' K4.def_mk ?a ?l ?c ?k; (case a => k_is); (case l => k_is); (case c => k_is); (case k => k_is))
    (case B_dr => refine' K4.def_mk ?a ?l ?c ?k; (case a => k_is); (case l => k_is); (case c => k_is); (case k => k_is))
    (case B_pe => refine' K4.def_mk ?a ?l ?c ?k; (case a => k_is); (case l => k_is); (case c => k_is); (case k => k_is))
    (case B_wy => refine' K4.def_mk ?a ?l ?c ?k; (case a => k_is); (case l => k_is); (case c => k_is); (case k => k_is))
    (case B_ot => refine' K4.def_mk ?a ?l ?c ?k; (case a => k_is); (case l => k_is); (case c => k_is); (case k => k_is))
    (case i_MOST_CUT => k_is)
    (case U_lc => refine' K4.def_mk ?a ?l ?c ?k; (case a => k_is); (case l => k_is); (case c => k_is); (case k => k_is))
    (case U_ro => refine' K4.def_mk ?a ?l ?c ?k; (case a => k_is); (case l => k_is); (case c => k_is); (case k => k_is))
    (case U_sh => refine' K4.def_mk ?a ?l ?c ?k; (case a => k_is); (case l => k_is); (case c => k_is); (case k => k_is))
    (case U_so => refine' K4.def_mk ?a ?l ?c ?k; (case a => k_is); (case l => k_is); (case c => k_is); (case k => k_is))
    (case U_tx => refine' K4.def_mk ?a ?l ?c ?k; (case a => k_is); (case l => k_is); (case c => k_is); (case k => k_is))
    (case U_lo => refine' K4.def_mk ?a ?l ?c ?k; (case a => k_is); (case l => k_is); (case c => k_is); (case k => k_is))
    (case U_dc => refine' K4.def_mk ?a ?l ?c ?k; (case a => k_is); (case l => k_is); (case c => k_is); (case k => k_is))
    (case U_sp => refine' K4.def_mk ?a ?l ?c ?k; (case a => k_is); (case l => k_is); (case c => k_is); (case k => k_is))
    (case U_ic => refine' K4.def_mk ?a ?l ?c ?k; (case a => k_is); (case l => k_is); (case c => k_is); (case k => k_is))
    (case rd1 => k_is)
    (case rd2 => k_is)
    (case i_LETTERS => k_is)
    (case i_SIZES => k_is)
    (case dl => k_is)
    (case dk => k_keys)
    (case ds => decide)
    (case s_letters => k_is)
    (case s_join => k_is)
    (case s_power => k_is)
    (case s_part => k_is)
    (case s_back => k_is)
