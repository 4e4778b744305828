import PyProof.Rows.All
import Wide.All
import OpenK.AllK
import Wide.FinOn
import HandS.ForMost
import HandS.Codes
import HandS.IsInst
import HandS.Star
import HandS.ClsMeth
import HandS.Style
import HandS.TupAny
import HandS.Flow
import HandS.Wide
import KE.GoesEnum
import HandS.Nested
import HandS.ExcInit
import HandS.ExcField
import HandS.ExcIs
import HandS.TryOnly
import HandS.FStr
import HandS.WordsExc
import HandS.CallSlots
import KE.KExcSuper
import KE.KExcIs
import PySem.Challenge.RW_shortheld_k03_rules_refused
set_option Elab.async false
set_option linter.all false
set_option maxRecDepth 100000
set_option maxHeartbeats 4000000
namespace K4
open PySem PySem.Spec PyProof.Rows L2 SX
open C8 (Cal pe_c pss_cut)
def top (i : Nat) : Stmt := PySem.Challenge.pw_shortheld_k03_rules_refused.main.body.getD i (.Pass ⟨0, 0, 0, 0⟩)
abbrev sWall : Stmt := top 0
abbrev sBadRulesInit : Stmt := inClass (top 3) 0
abbrev sNoPlaceInit : Stmt := inClass (top 4) 0
abbrev sNoPartInit : Stmt := inClass (top 5) 0
abbrev sViewOf : Stmt := top 8
abbrev sSettled : Stmt := top 9
abbrev sDeeper : Stmt := top 10
abbrev sSpelledBy : Stmt := top 11
abbrev sDivided : Stmt := top 12
abbrev sDividedPower : Stmt := top 13
abbrev sIsWhole : Stmt := top 22
abbrev sHasWord : Stmt := top 23
abbrev sAreTold : Stmt := top 24
abbrev sIsPart : Stmt := top 25
abbrev sLengthMade : Stmt := top 26
abbrev sFaultOf : Stmt := top 27
abbrev sLengthsChecked : Stmt := top 28
abbrev sCopied : Stmt := top 29
abbrev sSpelled : Stmt := top 30
abbrev sInit : Stmt := inClass (top 31) 0
abbrev sOfLetters : Stmt := inClass (top 31) 1
abbrev sTextMade : Stmt := inClass (top 31) 2
abbrev sLetter : Stmt := inClass (top 31) 3
abbrev sLetters : Stmt := inClass (top 31) 4
abbrev sPool : Stmt := top 33
abbrev sTake : Stmt := top 34
abbrev sWritten : Stmt := top 35
abbrev sNumber : Stmt := top 36
abbrev sNext : Stmt := top 37
abbrev sMade : Stmt := top 38
abbrev sRules : Stmt := top 39
abbrev sIsInt : Stmt := top 40
abbrev sSame : Stmt := top 41
abbrev sLTold : Stmt := top 42
abbrev sLWrong : Stmt := top 43
abbrev sLGreat : Stmt := top 44
abbrev sLaw : Stmt := top 45
def strOf : Stmt → Str
  | .Assign _ (.Constant (.str x) _ _) _ => x
  | _ => Str.empty
/-- LETTERS of the module -/
def LTR : Str := strOf (top 15)
/-- what the module's names are not bound to -/
structure Txt (mg : Str → Option Value) : Prop where
  len : mg "len" = none
  int : mg "int" = none
  range : mg "range" = none
  tuple : mg "tuple" = none
  list : mg "list" = none
  isinstance : mg "isinstance" = none
  all : mg "all" = none
  reversed : mg "reversed" = none
  bool : mg "bool" = none
  str : mg "str" = none
  enumerate : mg "enumerate" = none
  MOST_RULES : ∃ u, mg "MOST_RULES" = some u ∧ RelV (.int 60) u
  MOST_TOLD : ∃ u, mg "MOST_TOLD" = some u ∧ RelV (.int 64) u
  MOST_TIMES : ∃ u, mg "MOST_TIMES" = some u ∧ RelV (.int 1000000000000) u
  MOST_LETTERS : ∃ u, mg "MOST_LETTERS" = some u ∧ RelV (.int 1000000000000) u
  LETTERS : ∃ u, mg "LETTERS" = some u ∧ RelV (.str LTR) u
  MOST_SPELLED : ∃ u, mg "MOST_SPELLED" = some u ∧ RelV (.int 1000) u

/-! ### heaps -/
def Frm (p : Addr) (H H' : Hp) : Prop := ∀ b o, b ≠ p → H b = some o → H' b = some o
theorem Frm.refl {p : Addr} {H : Hp} : Frm p H H := fun _ _ _ h => h
theorem Frm.trans {p : Addr} {H H1 H2 : Hp} (a : Frm p H H1) (b : Frm p H1 H2) : Frm p H H2 := fun c o n h => b c o n (a c o n h)
theorem Frm.upd {p : Addr} {H H1 : Hp} {o : HO} (a : Frm p H H1) : Frm p H (upd H1 p o) := fun c u n h => by
  rw [upd_ne n]
  exact a c u n h
theorem Frm.new {p q : Addr} {H H1 : Hp} {o : HO} (a : Frm p H H1) (hq : H1 q = none) : Frm p H (L2.upd H1 q o) := fun c u n h => by
  have h1 := a c u n h
  rw [upd_ne (ne_of_none h1 hq)]
  exact h1
theorem Same.frm {p : Addr} {H H' : Hp} (s : Same H H') : Frm p H H' := fun b o _ h => s b o h
theorem same_new {H : Hp} {p : Addr} {o : HO} (h : H p = none) : Same H (upd H p o) := fun b u q => by rw [upd_ne (ne_of_none q h)]; exact q

/-! ### the pool -/
structure PoolIs (H : Hp) (p c : Addr) (pos left seed : Int) (xs : List Int) : Prop where
  at_ : H p = some (.lst [.ref c, .int pos, .int left, .int seed])
  cells : H c = some (.lst (xs.map V.int))
  ne : c ≠ p
  nn : ∀ x ∈ xs, (0 : Int) ≤ x
  pos0 : 0 ≤ pos
  left0 : 0 ≤ left
  seed0 : 0 ≤ seed
  seed1 : seed < 2147483647
  len : xs.length ≤ 63
def Pool (H : Hp) (p c : Addr) : Prop := ∃ pos left seed xs, PoolIs H p c pos left seed xs
theorem PoolIs.put {H : Hp} {p c : Addr} {pos left seed pos' left' seed' : Int} {xs : List Int} (h : PoolIs H p c pos left seed xs) (h1 : 0 ≤ pos') (h2 : 0 ≤ left') (h3 : 0 ≤ seed') (h4 : seed' < 2147483647) :
    PoolIs (upd H p (.lst [.ref c, .int pos', .int left', .int seed'])) p c pos' left' seed' xs :=
  ⟨upd_same, by rw [upd_ne h.ne]; exact h.cells, h.ne, h.nn, h1, h2, h3, h4, h.len⟩
theorem Pool.same {H H' : Hp} {p c : Addr} (h : Pool H p c) (s : Same H H') : Pool H' p c := by
  obtain ⟨pos, left, seed, xs, h⟩ := h
  exact ⟨pos, left, seed, xs, s _ _ h.at_, s _ _ h.cells, h.ne, h.nn, h.pos0, h.left0, h.seed0, h.seed1, h.len⟩
theorem Pool.new {H : Hp} {p c q : Addr} {o : HO} (h : Pool H p c) (n : H q = none) : Pool (upd H q o) p c := h.same (same_new n)
theorem Pool.ne {H : Hp} {p c q : Addr} (h : Pool H p c) (n : H q = none) : q ≠ p ∧ q ≠ c := by
  obtain ⟨pos, left, seed, xs, h⟩ := h
  exact ⟨(ne_of_none h.at_ n).symm, (ne_of_none h.cells n).symm⟩
theorem Pool.upd {H : Hp} {p c q : Addr} {o : HO} (h : Pool H p c) (n : q ≠ p ∧ q ≠ c) : Pool (L2.upd H q o) p c := by
  obtain ⟨pos, left, seed, xs, h⟩ := h
  exact ⟨pos, left, seed, xs, by rw [upd_ne n.1.symm]; exact h.at_, by rw [upd_ne n.2.symm]; exact h.cells, h.ne, h.nn, h.pos0, h.left0, h.seed0, h.seed1, h.len⟩
theorem Frm.none {H H' : Hp} {p q : Addr} (f : Frm p H H') (n : H' q = Option.none) (h : q ≠ p) : H q = Option.none := by
  cases e : H q with
  | none => rfl
  | some o =>
    rw [f q o h e] at n
    cases n
theorem Frm.updN {H H' : Hp} {p q : Addr} {o : HO} (f : Frm p H H') (n : H q = Option.none) : Frm p H (L2.upd H' q o) := fun b u hb e => by
  rw [upd_ne (ne_of_none e n)]
  exact f b u hb e

def mix (seed cell pos : Int) : Int := (seed * 48271 + cell * 69621 + (pos + 1) * 613) % 2147483647
def spTake1 : Sp := fun vs H Q _ => ∃ (p c : Addr) (many pos left seed : Int) (xs : List Int), vs = [.ref p, .int many] ∧ 0 < many ∧ many ≤ 1000000000000 ∧ PoolIs H p c pos left seed xs ∧ 0 < left ∧
  ∀ r H', 0 ≤ r → r < many → Pool H' p c → Frm p H H' → Q (.int r) H'
def spTake : Sp := fun vs H Q _ => ∃ (p c : Addr) (many : Int), vs = [.ref p, .int many] ∧ 0 < many ∧ many ≤ 1000000000000 ∧ Pool H p c ∧
  ∀ r H', 0 ≤ r → r < many → Pool H' p c → Frm p H H' → Q (.int r) H'

section
variable {P : Program} {w : World} {K : PySem.W.Frag} {mg : Str → Option Value} {base : Heap}
theorem mkCal {x : Str} {st : Stmt} {f : Addr} {fd : FuncData} {N ps : List Str} {k : Nat} {sp : Sp} (F : Fun K x x st f fd) (hm : mg x = some (.ref f)) (b : Binds K fd ps []) (S : FnScope N ps (defScope st)) (len : ∀ vs H Q E, sp vs H Q E → vs.length = ps.length)
    (hbody : ∀ (cdv : Value) (A : Around) (outer : List Env) (s : Shared) (H : Hp) (vs : List V) (Q : VK) (E : XK), Room k (A.deeper (envOfC x (defScope st) s.heap.objs.size f cdv)) → sp vs H Q E →
      ∃ t, PSs (cxOf CX0 P w K mg base N x (defScope st) f cdv A outer s H E).nox (defBody st) t ∧ t { nx := fun _ H' => Q .non H', rt := Q } (start N vs) H) : Cal P w K mg base (k + 1) x sp [] :=
  ⟨f, fd, ps, [], F.ok S len hbody, hm, F.kp, b, .nil⟩

theorem scTake : FnScope ["pool", "many", "digit", "cell", "mixed"] ["pool", "many"] (defScope sTake) := ⟨rfl, rfl, rfl, by decide +kernel, rfl, by decide +kernel, by decide +kernel⟩
theorem ok_take1 {f : Addr} {fd : FuncData} (F : Fun K "_law_take" "_law_take" sTake f fd) (hm : mg "_law_take" = some (.ref f)) (b : Binds K fd ["pool", "many"] []) (T : Txt mg) : Cal P w K mg base 1 "_law_take" spTake1 [] := by
  refine mkCal F hm b scTake (fun vs H Q E h => ?_) (fun cdv A outer s H vs Q E hr h => ?_)
  · obtain ⟨p, c, many, pos, left, seed, xs, rfl, _⟩ := h
    rfl
  obtain ⟨p, c, many, pos, left, seed, xs, rfl, m0, m1, hP, l0, q⟩ := h
  refine ⟨_, pss_cons (ps_if (pt_cmpR op_gt (pe_ix ix_list (pv 0) pe_int (fun _ _ => rfl)) pe_int (nomark _))
    (pss_cons (ps_set (i := 2) scTake.nd rfl (.inl rfl) (pe_op op_mod (pe_callTy call_int1 (by rfl) T.int (by decide +kernel) (pa_cons (pe_ix ix_list (pv 0) pe_int (fun _ _ => rfl)) pa_nil)) (pv 1)))
    (pss_cons (ps_asg (pe_op op_fdivW (pe_ix ix_list (pv 0) pe_int (fun _ _ => rfl)) (pv 1)) (pg_sub (pv 0) pe_int set_list))
    (pss_one (ps_ret (pv 2))))) pss_nil) pss_never, ?_⟩
  have hL : SqL K H p _ := SqL.of hP.at_
  refine ⟨_, rfl, p, _, 2, .int left, rfl, rfl, hL, at_of (j := 2) rfl rfl, left, 0, rfl, rfl, _, rfl, ?_⟩
  refine ite2 (fun _ => ?_) (fun z => absurd (decide_eq_true l0) z)
  refine ⟨_, rfl, p, _, 2, .int left, rfl, rfl, hL, at_of (j := 2) rfl rfl, .inl ⟨left, rfl, ?_⟩⟩
  refine ⟨_, rfl, left, many, rfl, rfl, m0, ?_⟩
  refine ⟨_, rfl, p, _, 2, .int left, rfl, rfl, hL, at_of (j := 2) rfl rfl, _, rfl, left, many, rfl, rfl, wide_div (b := 41) m0 (by omega) (by decide) (by decide), ?_⟩
  refine ⟨_, rfl, p, _, 2, 2, rfl, rfl, hP.at_, rfl, ?_⟩
  refine ⟨_, rfl, ?_⟩
  exact q _ _ (Int.emod_nonneg _ (by omega)) (Int.emod_lt_of_pos _ m0) ⟨pos, left / many, seed, xs, hP.put hP.pos0 (Int.ediv_nonneg hP.left0 (Int.le_of_lt m0)) hP.seed0 hP.seed1⟩ Frm.refl.upd
theorem ok_take {f : Addr} {fd : FuncData} (F : Fun K "_law_take" "_law_take" sTake f fd) (hm : mg "_law_take" = some (.ref f)) (b : Binds K fd ["pool", "many"] []) (T : Txt mg) : Cal P w K mg base 2 "_law_take" spTake [] := by
  have G : Cal P w K mg base 1 "_law_take" spTake1 [] := ok_take1 F hm b T
  refine mkCal F hm b scTake (fun vs H Q E h => ?_) (fun cdv A outer s H vs Q E hr h => ?_)
  · obtain ⟨p, c, many, rfl, _⟩ := h
    rfl
  obtain ⟨p, c, many, rfl, m0, m1, ⟨pos, left, seed, xs, hP⟩, q⟩ := h
  refine ⟨_, pss_cons (ps_if (pt_cmpR op_gt (pe_ix ix_list (pv 0) pe_int (fun _ _ => rfl)) pe_int (nomark _))
      (pss_cons (ps_set (i := 2) scTake.nd rfl (.inl rfl) (pe_op op_mod (pe_callTy call_int1 (by rfl) T.int (by decide +kernel) (pa_cons (pe_ix ix_list (pv 0) pe_int (fun _ _ => rfl)) pa_nil)) (pv 1)))
      (pss_cons (ps_asg (pe_op op_fdivW (pe_ix ix_list (pv 0) pe_int (fun _ _ => rfl)) (pv 1)) (pg_sub (pv 0) pe_int set_list))
      (pss_one (ps_ret (pv 2))))) pss_nil)
    (pss_cons (ps_set (i := 3) scTake.nd rfl (.inl rfl) pe_int)
    (pss_cut (ps_if (pt_cmpR op_lt (pe_ix ix_list (pv 0) pe_int (fun _ _ => rfl)) (pe_callB call_len_seq (by rfl) T.len PySem.boot_len (pa_cons (pe_ix ix_list (pv 0) pe_int (fun _ _ => rfl)) pa_nil)) (nomark _))
      (pss_one (ps_set (i := 3) scTake.nd rfl (.inl rfl) (pe_ix ix_list (pe_ix ix_list (pv 0) pe_int (fun _ _ => rfl)) (pe_ix ix_list (pv 0) pe_int (fun _ _ => rfl)) (fun _ _ => rfl)))) pss_nil)
    (pss_cons (ps_asg (pe_op op_add (pe_ix ix_list (pv 0) pe_int (fun _ _ => rfl)) pe_int) (pg_sub (pv 0) pe_int set_list))
    (pss_cons (ps_if (pt_cmpR op_ge (pv 3) (pe_op op_pow pe_int pe_int) (nomark _))
      (pss_cons (ps_asg (pe_op op_fdiv (pv 3) pe_int) (pg_sub (pv 0) pe_int set_list))
      (pss_one (ps_ret (pe_c G hr (by decide) (by rfl) (pa_cons (pv 0) (pa_cons (pv 1) pa_nil)))))) pss_nil)
    (pss_cons (ps_asg (pe_op op_mod (pe_callTy call_int1 (by rfl) T.int (by decide +kernel) (pa_cons (pe_op op_add (pe_op op_add (pe_op op_mul (pe_ix ix_list (pv 0) pe_int (fun _ _ => rfl)) pe_int) (pe_op op_mul (pv 3) pe_int)) (pe_op op_mul (pe_ix ix_list (pv 0) pe_int (fun _ _ => rfl)) pe_int)) pa_nil)) pe_int) (pg_sub (pv 0) pe_int set_list))
    (pss_cons (ps_set (i := 4) scTake.nd rfl (.inl rfl) (pe_op op_mod (pe_callTy call_int1 (by rfl) T.int (by decide +kernel) (pa_cons (pe_op op_add (pe_op op_add (pe_op op_mul (pe_ix ix_list (pv 0) pe_int (fun _ _ => rfl)) (pe_ix ix_list (pv 0) pe_int (fun _ _ => rfl))) (pe_op op_mul (pe_ix ix_list (pv 0) pe_int (fun _ _ => rfl)) pe_int)) pe_int) pa_nil)) pe_int))
    (pss_one (ps_ret (pe_op op_mod (pe_callTy call_int1 (by rfl) T.int (by decide +kernel) (pa_cons (pe_op op_fdiv (pv 4) pe_int) pa_nil)) (pv 1)))))))))), ?_⟩
  have hL : SqL K H p _ := SqL.of hP.at_
  have hC : SqL K H c _ := SqL.of hP.cells
  refine ⟨_, rfl, p, _, 2, .int left, rfl, rfl, hL, at_of (j := 2) rfl rfl, left, 0, rfl, rfl, _, rfl, ?_⟩
  refine ite2 (fun _ => ?_) (fun _ => ?_)
  · refine ⟨_, rfl, p, _, 2, .int left, rfl, rfl, hL, at_of (j := 2) rfl rfl, .inl ⟨left, rfl, ?_⟩⟩
    refine ⟨_, rfl, left, many, rfl, rfl, m0, ?_⟩
    refine ⟨_, rfl, p, _, 2, .int left, rfl, rfl, hL, at_of (j := 2) rfl rfl, _, rfl, left, many, rfl, rfl, wide_div (b := 41) m0 (by omega) (by decide) (by decide), ?_⟩
    refine ⟨_, rfl, p, _, 2, 2, rfl, rfl, hP.at_, rfl, ?_⟩
    refine ⟨_, rfl, ?_⟩
    exact q _ _ (Int.emod_nonneg _ (by omega)) (Int.emod_lt_of_pos _ m0) ⟨pos, left / many, seed, xs, hP.put hP.pos0 (Int.ediv_nonneg hP.left0 (Int.le_of_lt m0)) hP.seed0 hP.seed1⟩ Frm.refl.upd
  · -- cell = 0; if pool[1] < len(pool[0]): cell = pool[0][pool[1]]
    refine ⟨fun σ H1 => ∃ cell : Int, H1 = H ∧ 0 ≤ cell ∧ σ = [some (.ref p), some (.int many), none, some (.int cell), none], ?_, ?_⟩
    · refine ⟨_, rfl, p, _, 1, .int pos, rfl, rfl, hL, at_of (j := 1) rfl rfl, ?_⟩
      refine ⟨_, rfl, p, _, 0, .ref c, rfl, rfl, hL, at_of (j := 0) rfl rfl, c, _, rfl, .inl hC, pos, _, rfl, rfl, _, rfl, ?_⟩
      refine ite2 (fun z => ?_) (fun _ => ⟨0, rfl, by decide, rfl⟩)
      have z1 : pos < ((xs.map V.int).length : Int) := of_decide_eq_true z
      rw [List.length_map] at z1
      have hk : pos.toNat < xs.length := by have := hP.pos0; omega
      have e1 : pos = ((pos.toNat : Nat) : Int) := by have := hP.pos0; omega
      have g : (xs.map V.int)[pos.toNat]? = some (.int xs[pos.toNat]) := by
        rw [List.getElem?_map, List.getElem?_eq_getElem hk]
        rfl
      refine ⟨_, rfl, p, _, 0, .ref c, rfl, rfl, hL, at_of (j := 0) rfl rfl, _, rfl, p, _, 1, .int pos, rfl, rfl, hL, at_of (j := 1) rfl rfl, c, _, pos, _, rfl, rfl, hC, at_of e1 g, ?_⟩
      exact ⟨xs[pos.toNat], rfl, hP.nn _ (List.getElem_mem hk), rfl⟩
    · rintro σ H1 ⟨cell, rfl, c0, rfl⟩
      -- pool[1] = pool[1] + 1
      refine ⟨_, rfl, p, _, 1, .int pos, rfl, rfl, hL, at_of (j := 1) rfl rfl, pos, 1, rfl, rfl, ?_⟩
      refine ⟨_, rfl, p, _, 1, 1, rfl, rfl, hP.at_, rfl, ?_⟩
      have p1 : (0 : Int) ≤ pos + 1 := by have := hP.pos0; omega
      have hP1 : PoolIs (upd H1 p (.lst [.ref c, .int (pos + 1), .int left, .int seed])) p c (pos + 1) left seed xs := hP.put p1 hP.left0 hP.seed0 hP.seed1
      -- if cell >= 10 ** 18
      refine ⟨_, rfl, 10, 18, rfl, rfl, ⟨by decide, by decide, by decide⟩, cell, _, rfl, rfl, _, rfl, ?_⟩
      refine ite2 (fun z => ?_) (fun z => ?_)
      · have z1 : (10 : Int) ^ 18 ≤ cell := of_decide_eq_true z
        have z2 : (1000000000000000000 : Int) ≤ cell := z1
        refine ⟨_, rfl, cell, 2, rfl, rfl, ⟨by decide, by decide⟩, _, rfl, p, _, 2, 2, rfl, rfl, hP1.at_, rfl, ?_⟩
        have h2 : 0 < cell / 2 := by omega
        have hP2 : PoolIs _ p c (pos + 1) (cell / 2) seed xs := hP1.put p1 (by omega) hP.seed0 hP.seed1
        refine ⟨_, rfl, _, rfl, p, c, many, pos + 1, cell / 2, seed, xs, rfl, m0, m1, hP2, h2, fun r H' r0 r1 hp' fr => ?_⟩
        exact q r H' r0 r1 hp' ((Frm.refl.upd.upd).trans fr)
      · -- the mixing
        have s0 := hP.seed0
        have s1 := hP.seed1
        have hL1 : SqL K (upd H1 p (.lst [.ref c, .int (pos + 1), .int left, .int seed])) p _ := SqL.of hP1.at_
        refine ⟨_, rfl, p, _, 3, .int seed, rfl, rfl, hL1, at_of (j := 3) rfl rfl, seed, 48271, rfl, rfl, .inr ⟨by decide, by decide⟩, ?_⟩
        refine ⟨_, rfl, cell, 69621, rfl, rfl, .inr ⟨by decide, by decide⟩, _, _, rfl, rfl, ?_⟩
        refine ⟨_, rfl, p, _, 1, .int (pos + 1), rfl, rfl, hL1, at_of (j := 1) rfl rfl, pos + 1, 613, rfl, rfl, .inr ⟨by decide, by decide⟩, _, _, rfl, rfl, .inl ⟨_, rfl, ?_⟩⟩
        refine ⟨_, 2147483647, rfl, rfl, by show (0 : Int) < 2147483647; decide, _, rfl, p, _, 3, 3, rfl, rfl, hP1.at_, rfl, ?_⟩
        have hP3 : PoolIs _ p c (pos + 1) left (mix seed cell pos) xs := hP1.put p1 hP.left0 (Int.emod_nonneg _ (by decide)) (Int.emod_lt_of_pos _ (by decide))
        have hb : -(2 ^ 64) < mix seed cell pos ∧ mix seed cell pos < 2 ^ 64 := by
          have t0 := hP3.seed0
          have t1 := hP3.seed1
          constructor <;> omega
        have hL3 : SqL K _ p [.ref c, .int (pos + 1), .int left, .int (mix seed cell pos)] := SqL.of hP3.at_
        refine ⟨_, rfl, p, _, 3, .int (mix seed cell pos), rfl, rfl, hL3, at_of (j := 3) rfl rfl, _, rfl, p, _, 3, .int (mix seed cell pos), rfl, rfl, hL3, at_of (j := 3) rfl rfl, _, _, rfl, rfl, .inl hb, ?_⟩
        refine ⟨_, rfl, p, _, 3, .int (mix seed cell pos), rfl, rfl, hL3, at_of (j := 3) rfl rfl, _, 7919, rfl, rfl, .inr ⟨by decide, by decide⟩, _, _, rfl, rfl, _, 104729, rfl, rfl, .inl ⟨_, rfl, ?_⟩⟩
        refine ⟨_, 1000000007, rfl, rfl, by show (0 : Int) < 1000000007; decide, ?_⟩
        refine ⟨_, rfl, _, 3, rfl, rfl, ⟨by decide, by decide⟩, .inl ⟨_, rfl, ?_⟩⟩
        refine ⟨_, rfl, _, many, rfl, rfl, m0, ?_⟩
        exact q _ _ (Int.emod_nonneg _ (by omega)) (Int.emod_lt_of_pos _ m0) ⟨_, _, _, _, hP3⟩ (Frm.refl.upd.upd)
end
/-! ### small facts -/
theorem ifT {c : Bool} {A B : Prop} (h : c = true) (x : A) : if c = true then A else B := by rw [if_pos h]; exact x
theorem ifF {c : Bool} {A B : Prop} (h : c = false) (x : B) : if c = true then A else B := by rw [if_neg (by rw [h]; decide)]; exact x
theorem join_nil : ∀ ys : List (List Nat), TL.joinL [] ys = ys.flatten
  | [] => rfl
  | [x] => by simp [TL.joinL]
  | x :: y :: r => by
    have ih := join_nil (y :: r)
    simp only [TL.joinL, List.flatten_cons, List.append_nil, List.nil_append] at ih ⊢
    rw [ih]
theorem cut_S {l : List Nat} {a b : Nat} (h : b ≤ l.length) (h2 : a ≤ b) : cutS (S l) (some (a : Int)) (some (b : Int)) = S ((l.take b).drop a) := by
  unfold cutS
  have e : (S l).length = l.length := S_len l
  rw [e, HT.sIx_nat, HT.sIx_nat, Nat.min_eq_left h, Nat.min_eq_left (Nat.le_trans h2 h)]
  show S ((l.drop a).take (b - a)) = _
  rw [List.drop_take]
theorem S_nil : ("" : Str) = S [] := by decide +kernel
theorem flat_len (l : List Nat) : ∀ k : Nat, ((List.replicate k l).flatten).length = k * l.length
  | 0 => by simp
  | k + 1 => by
    rw [List.replicate_succ, List.flatten_cons, List.length_append, flat_len l k, Nat.succ_mul, Nat.add_comm]
theorem sz {n : Nat} (h : n ≤ 100000) : n ≤ sizeLine := Nat.le_trans h (by decide)
theorem Sz {l : List Nat} (h : l.length ≤ 100000) : (S l).length ≤ sizeLine := by rw [S_len]; exact sz h

/-! ### s[::-1], s * n -/
section
variable {X : Cx}
def tRevS (te : TE) : TE := fun σ H Q => te σ H fun x H1 => ∃ z : List Nat, x = .str (S z) ∧ z.length ≤ 100000 ∧ Q (.str (S z.reverse)) H1
theorem rev_made (z : List Nat) (t u : Tok) : sliceMade (S z) t none none (some (-1, u)) = .str (S z.reverse) := by
  unfold sliceMade
  have e0 : (((some ((-1 : Int), u)).map (·.1)).getD 1 == 1 && (slicePicked (S z) none none (some (-1, u))).length == (S z).length) = false := rfl
  rw [e0, if_neg (by decide)]
  congr 1
  have h := step_rev_list (S z) u
  unfold Txt.sliceBy at h
  have h1 : ¬ (((((some ((-1 : Int), u)).map (·.1)).getD 1 == 1) && ((slicePicked (S z) none none (some (-1, u))).length == (S z).length)) = true) := by rw [e0]; decide
  rw [if_neg h1] at h
  refine congrArg (fun a : Array Nat => (⟨a⟩ : Str)) ?_
  refine Array.toList_inj.mp ?_
  show ((slicePicked (S z) none none (some (-1, u))).filterMap ((S z).cps[·]?)).toArray.toList = z.reverse.toArray.toList
  refine Eq.trans h ?_
  rw [List.toList_toArray]
  refine List.ext_getElem (by simp [S_len]) fun i h1 h2 => ?_
  have hi : i < z.length := by simpa using h2
  rw [List.getElem_map, List.getElem_range, List.getElem_reverse, S_len]
  show (z.toArray).getD (z.length - 1 - i) 0 = _
  simp [Array.getD]
  rw [dif_pos (by omega)]
theorem pe_revS {e : Expr} {te : TE} {k : Nat} {p1 p2 p3 pos : Pos} (he : PE X e te) : PE X (.Subscript e (.Slice none none (some (.UnaryOp .USub (.Constant (.int 1) k p1) p2)) p3) pos) (tRevS te) where
  run := by
    intro pins s σ H Q inv hyp
    refine Subscript_ (thn (he.run pins s σ H _ inv hyp) ?_)
    rintro v s1 ⟨x, G, inv1, rel, z, rfl, hz, fin⟩
    obtain ⟨tok, rfl⟩ := rel
    have step := po_some (pe_un (X := X) (pos := p2) un_neg (pe_int (i := 1) (j := k) (pos := p1)))
    refine wpAny_Slice (thn (po_none.run pins s1 σ G (fun o G2 => o = none ∧ G2 = G) inv1 ⟨rfl, rfl⟩) ?_)
    rintro va s2 ⟨_, _, inv2, isA, rfl, rfl⟩
    refine thn (po_none.run pins s2 σ _ (fun o G2 => o = none ∧ G2 = _) inv2 ⟨rfl, rfl⟩) ?_
    rintro vb s3 ⟨_, _, inv3, isB, rfl, rfl⟩
    refine thn (step.run pins s3 σ _ (fun o G2 => o = some (-1) ∧ G2 = _) inv3 ⟨1, rfl, -1, rfl, rfl, rfl⟩) ?_
    rintro vc s4 ⟨_, G4, inv4, isC, rfl, rfl⟩
    obtain ⟨la, rfl, ea⟩ := IsPart.raw isA
    obtain ⟨lb, rfl, eb⟩ := IsPart.raw isB
    obtain ⟨lc, rfl, ec⟩ := IsPart.raw isC
    obtain rfl : la = none := by cases la with | none => rfl | some y => simp at ea
    obtain rfl : lb = none := by cases lb with | none => rfl | some y => simp at eb
    obtain ⟨u, rfl⟩ : ∃ u, lc = some (-1, u) := by
      cases lc with
      | none => simp at ec
      | some y => exact ⟨y.2, by simp at ec; rw [← ec]⟩
    have inv5 : Inv X pins σ G4 { s4 with heap := s4.heap.push { cls := .type "slice", data := .fields #[partValue none, partValue none, partValue (some (-1, u))] } } := inv4.kept (t' := s4.toks) fun _ _ r => Heap.get?_push_of_some _ r
    refine tail_any (ops := [.str (S z) tok, .ref s4.heap.objs.size]) (s := { s4 with heap := s4.heap.push { cls := .type "slice", data := .fields #[partValue none, partValue none, partValue (some (-1, u))] } }) (typeIs_str _ _ _) (F.slot_str_getitem.lookup) ?_ (by with_unfolding_all rfl)
    refine wpAny_getItem_str_slice (l := none) (u := none) (st := some (-1, u)) ⟨_, Heap.get?_push_size _ rfl, rfl, rfl⟩ rfl ?_
    rw [rev_made]
    exact ⟨by rw [S_len, List.length_reverse]; exact sz hz, .str _, G4, inv5.tok _, ⟨_, rfl⟩, fin⟩
theorem foldl_app (x : Array Nat) : ∀ (k : Nat) (acc : Array Nat), ((List.replicate k x).foldl (· ++ ·) acc).toList = acc.toList ++ (List.replicate k x.toList).flatten
  | 0, acc => by simp
  | k + 1, acc => by
    rw [List.replicate_succ, List.foldl_cons, foldl_app x k]
    simp [List.replicate_succ]
theorem mul_S (l : List Nat) (k : Nat) : Txt.mul (S l) (k : Int) = S (List.replicate k l).flatten := by
  unfold Txt.mul
  by_cases h : (k : Int) < 1
  · have e : k = 0 := by omega
    subst e
    rw [if_pos h]
    rfl
  · rw [if_neg h]
    by_cases h2 : ((k : Int) == 1 || (S l).length == 0) = true
    · rw [if_pos h2]
      rcases Bool.or_eq_true _ _ ▸ h2 with h3 | h3
      · have e : k = 1 := by have := eq_of_beq h3; omega
        subst e
        simp
      · have e : l = [] := by
          have := eq_of_beq h3
          rw [S_len] at this
          exact List.eq_nil_of_length_eq_zero this
        subst e
        simp
    · rw [if_neg h2]
      refine congrArg (fun a : Array Nat => (⟨a⟩ : Str)) ?_
      refine Array.toList_inj.mp ?_
      rw [Int.toNat_natCast, foldl_app]
      simp
theorem op_mulS : OpR X (binaryOp .Mult) (fun x y H Q => ∃ (l : List Nat) (k : Nat), x = .str (S l) ∧ y = .int (k : Int) ∧ l.length ≤ 100000 ∧ k * l.length ≤ 100000 ∧ k ≤ 10 ^ 13 ∧ Q (.str (S (List.replicate k l).flatten)) H) := by
  intro pins s σ H x y v u Q I rx ry h
  obtain ⟨l, k, rfl, rfl, hl, hk, hk2, q⟩ := h
  obtain ⟨t, rfl⟩ := rx
  obtain ⟨t', rfl⟩ := ry
  refine SB.mul ⟨?_, fun h1 h2 => ?_, fun h1 h2 => ?_⟩ fun t' tk => ?_
  · have h1 : ¬ ((k : Int) < -(2 ^ 63 : Int)) := by omega
    have h2 : ¬ ((k : Int) ≥ 2 ^ 63) := by omega
    simp only [h1, h2, decide_false, Bool.or_self]
  · rw [S_len]
    intro h3
    have hp : 0 < (k : Int) := by omega
    have h4 : ((2 ^ 63 - 1) / (k : Int)) * (k : Int) + (2 ^ 63 - 1) % (k : Int) = 2 ^ 63 - 1 := Int.ediv_mul_add_emod _ _
    have h5 : (2 ^ 63 - 1) % (k : Int) < (k : Int) := Int.emod_lt_of_pos _ hp
    have h6 : ((2 ^ 63 - 1) / (k : Int)) * (k : Int) ≤ (l.length : Int) * (k : Int) := Int.mul_le_mul_of_nonneg_right (Int.le_of_lt h3) (Int.le_of_lt hp)
    have h7 : (l.length : Int) * (k : Int) ≤ 100000 := by
      have := Int.ofNat_le.mpr hk
      rw [Int.natCast_mul, Int.mul_comm] at this
      exact this
    omega
  · rw [S_len, Int.toNat_natCast, Nat.mul_comm]
    unfold Builtin.Str.tooLong
    exact decide_eq_false (by have := sz hk; omega)
  · rw [mul_S]
    exact ⟨.str _, H, I.tok _, ⟨_, rfl⟩, q⟩
end
/-! ### the signs -/
def SG : Str := strOf ((defBody sWritten).getD 0 (.Pass ⟨0, 0, 0, 0⟩))
def SL : List Nat := SG.cps.toList
theorem SL_len : SL.length = 94 := by decide +kernel
theorem SG_len : SG.length ≤ sizeLine := by decide +kernel
theorem SL_a : 97 ∈ SL := by decide +kernel
theorem SL_b : 98 ∈ SL := by decide +kernel

/-! ### rules and texts -/
inductive Rule where
  | letters (s : List Nat) | join (i j : Nat) | power (i k : Nat) | part (i a b : Nat) | back (i : Nat)
def Rule.vals : Rule → List V
  | .letters s => [.str "letters", .str (S s)]
  | .join i j => [.str "join", .int (i : Int), .int (j : Int)]
  | .power i k => [.str "power", .int (i : Int), .int (k : Int)]
  | .part i a b => [.str "part", .int (i : Int), .int (a : Int), .int (b : Int)]
  | .back i => [.str "back", .int (i : Int)]
theorem Rule.vals_len (r : Rule) : r.vals.length ≤ 4 := by cases r <;> simp [Rule.vals]
def tx (ts : List (List Nat)) (i : Nat) : List Nat := ts.getD i []
def made (ts : List (List Nat)) : Rule → List Nat
  | .letters s => s
  | .join i j => tx ts i ++ tx ts j
  | .power i k => (List.replicate k (tx ts i)).flatten
  | .part i a b => ((tx ts i).take b).drop a
  | .back i => (tx ts i).reverse
def Ok (ts : List (List Nat)) : Rule → Prop
  | .letters s => s.length ≤ 64 ∧ ∀ c ∈ s, c ∈ SL
  | .join i j => i < ts.length ∧ j < ts.length
  | .power i k => i < ts.length ∧ k ≤ 10 ^ 12
  | .part i a b => i < ts.length ∧ a ≤ b ∧ b ≤ (tx ts i).length
  | .back i => i < ts.length
def tV (l : List Nat) : V := .str (S l)
theorem tx_at {ts : List (List Nat)} {i : Nat} (h : i < ts.length) : ts[i]? = some (tx ts i) := by
  unfold tx
  rw [List.getD_eq_getElem?_getD, List.getElem?_eq_getElem h]
  rfl
theorem tx_mem {ts : List (List Nat)} {i : Nat} (h : i < ts.length) : tx ts i ∈ ts := List.mem_of_getElem? (tx_at h)
theorem tV_at {ts : List (List Nat)} {i : Nat} (h : i < ts.length) : atI (ts.map tV) (i : Int) = some (.str (S (tx ts i))) := by
  refine atI_nat ?_
  rw [List.getElem?_map, tx_at h]
  rfl
theorem tx_take {ts : List (List Nat)} {i k : Nat} (h : i < k) : tx (ts.take k) i = tx ts i := by
  unfold tx
  rw [List.getD_eq_getElem?_getD, List.getD_eq_getElem?_getD, List.getElem?_take_of_lt h]
structure Good (rs : List Rule) (ts : List (List Nat)) : Prop where
  len : ts.length = rs.length
  ok : ∀ k r, rs[k]? = some r → Ok (ts.take k) r ∧ ts[k]? = some (made (ts.take k) r)
  le : ∀ l ∈ ts, l.length ≤ 400
theorem Good.nil : Good [] [] := ⟨rfl, fun k r h => by simp at h, fun l h => by simp at h⟩
theorem Good.add {rs : List Rule} {ts : List (List Nat)} {r : Rule} (g : Good rs ts) (o : Ok ts r) (h : (made ts r).length ≤ 400) : Good (rs ++ [r]) (ts ++ [made ts r]) := by
  refine ⟨by simp [g.len], fun k x e => ?_, fun l hl => ?_⟩
  · by_cases hk : k < rs.length
    · rw [List.getElem?_append_left hk] at e
      have := g.ok k x e
      rw [List.take_append_of_le_length (by rw [g.len]; omega), List.getElem?_append_left (by rw [g.len]; exact hk)]
      exact this
    · have hk2 : k = rs.length := by
        have := (List.getElem?_eq_some_iff.mp e).1
        simp at this
        omega
      subst hk2
      rw [List.getElem?_append_right (Nat.le_refl _), Nat.sub_self] at e
      have e' : r = x := Option.some.inj e
      subst e'
      rw [← g.len, List.take_append_of_le_length (Nat.le_refl _), List.take_length, List.getElem?_append_right (Nat.le_refl _), Nat.sub_self]
      exact ⟨o, rfl⟩
  · rcases List.mem_append.mp hl with h1 | h1
    · exact g.le l h1
    · rw [List.mem_singleton.mp h1]
      exact h

section
variable {P : Program} {w : World} {K : PySem.W.Frag} {mg : Str → Option Value} {base : Heap}
/-! ### _law_written -/
def spWritten : Sp := fun vs H Q _ => ∃ p c : Addr, vs = [.ref p] ∧ Pool H p c ∧ ∀ l H', l.length ≤ 64 → (∀ c ∈ l, c ∈ SL) → Pool H' p c → Frm p H H' → Q (.str (S l)) H'
theorem scW : FnScope ["pool", "signs", "kind", "many", "row", "k"] ["pool"] (defScope sWritten) := ⟨rfl, rfl, rfl, by decide +kernel, rfl, by decide +kernel, by decide +kernel⟩
def sgs (ls : List Nat) : List V := ls.map fun c => V.str (S [c])
theorem sgs_add (ls : List Nat) (c : Nat) : sgs ls ++ [V.str (S [c])] = sgs (ls ++ [c]) := by simp [sgs]
theorem flat_one : ∀ ls : List Nat, (ls.map fun c => [c]).flatten = ls
  | [] => rfl
  | c :: r => by rw [List.map_cons, List.flatten_cons, flat_one r]; rfl
theorem sgs_join (ls : List Nat) : Txt.join ("" : Str) ((ls.map fun c => [c]).map S) = S ls := by
  rw [S_nil, join_S, join_nil, flat_one]
theorem sum_one : ∀ ls : List Nat, ((ls.map fun c => [c]).map (·.length)).sum = ls.length
  | [] => rfl
  | c :: r => by
    have ih := sum_one r
    simp only [List.map_cons, List.sum_cons, List.length_cons, List.length_nil] at ih ⊢
    omega
theorem join_size {ls : List Nat} (h : ls.length ≤ 100000) : (((ls.map fun c => [c]).map S).map (·.length)).sum + ((ls.map fun c => [c]).map S).length * ("" : Str).length ≤ 16777216 := by
  rw [lens, sum_one, show ("" : Str).length = 0 from by decide +kernel]
  omega
theorem ok_written {f : Addr} {fd : FuncData} (F : Fun K "_law_written" "_law_written" sWritten f fd) (hm : mg "_law_written" = some (.ref f)) (b : Binds K fd ["pool"] []) (T : Txt mg) (G : Cal P w K mg base 2 "_law_take" spTake []) : Cal P w K mg base 3 "_law_written" spWritten [] := by
  refine mkCal F hm b scW (fun vs H Q E h => ?_) (fun cdv A outer s H vs Q E hr h => ?_)
  · obtain ⟨p, c, rfl, _⟩ := h
    rfl
  obtain ⟨p, c, rfl, hP, q⟩ := h
  refine ⟨_, pss_cons (ps_set (i := 1) scW.nd rfl (.inl rfl) pe_str)
    (pss_cons (ps_set (i := 2) scW.nd rfl (.inl rfl) (pe_c G hr (by decide) (by rfl) (pa_cons (pv 0) (pa_cons pe_int pa_nil))))
    (pss_cons (ps_set (i := 3) scW.nd rfl (.inl rfl) (pe_c G hr (by decide) (by rfl) (pa_cons (pv 0) (pa_cons pe_int pa_nil))))
    (pss_cut (ps_if (pt_cmpR op_eq (pv 2) pe_int (nomark _)) (pss_one (ps_set (i := 3) scW.nd rfl (.inl rfl) (pe_c G hr (by decide) (by rfl) (pa_cons (pv 0) (pa_cons pe_int pa_nil))))) pss_nil)
    (pss_cons (ps_set (i := 4) scW.nd rfl (.inl rfl) (pe_lst pa_nil))
    (pss_cons (ps_for PassesOwn.never rfl (pi_range1 (by rfl) T.range (pa_cons (pv 3) pa_nil)) (pg_name (i := 5) scW.nd rfl (.inl rfl))
      (pss_one (ps_if (pt_cmpR op_lt (pv 2) pe_int (nomark _))
        (pss_one (ps_expr (pe_bm PySem.F.plainAttrs_list PySem.F.slot_list_append PySem.F.type_list_append mt_append (pv 4) (pa_cons (pe_ix ix_str (pv 1) (pe_c G hr (by decide) (by rfl) (pa_cons (pv 0) (pa_cons pe_int pa_nil))) (fun _ _ => rfl)) pa_nil))))
        (pss_one (ps_expr (pe_bm PySem.F.plainAttrs_list PySem.F.slot_list_append PySem.F.type_list_append mt_append (pv 4) (pa_cons (pe_ix ix_str pe_str (pe_c G hr (by decide) (by rfl) (pa_cons (pv 0) (pa_cons pe_int pa_nil))) (fun _ _ => rfl)) pa_nil)))))))
    (pss_one (ps_ret (pe_join pe_str (pv 4))))))))), ?_⟩
  refine ⟨_, rfl, p, c, 6, rfl, by decide, by decide, hP, fun kd H1 kd0 kd1 hP1 f1 => ?_⟩
  refine ⟨_, rfl, p, c, 6, rfl, by decide, by decide, hP1, fun mn H2 mn0 mn1 hP2 f2 => ?_⟩
  refine ⟨fun σ H' => ∃ (m : Nat), m ≤ 64 ∧ Pool H' p c ∧ Frm p H H' ∧ σ = [some (.ref p), some (.str SG), some (.int kd), some (.int (m : Int)), none, none], ?_, ?_⟩
  · obtain ⟨mn, rfl⟩ := Int.eq_ofNat_of_zero_le mn0
    refine ⟨_, rfl, rfl, _, rfl, ?_⟩
    refine ite2 (fun _ => ?_) (fun _ => ⟨mn, by omega, hP2, f1.trans f2, rfl⟩)
    refine ⟨_, rfl, p, c, 65, rfl, by decide, by decide, hP2, fun m H3 m0 m1 hP3 f3 => ?_⟩
    obtain ⟨m, rfl⟩ := Int.eq_ofNat_of_zero_le m0
    exact ⟨m, by omega, hP3, (f1.trans f2).trans f3, rfl⟩
  · rintro σ H3 ⟨m, hm64, hP3, f3, rfl⟩
    refine ⟨Nat.zero_le _, fun row nrow => ?_⟩
    have hne := hP3.ne nrow
    have n0 := f3.none nrow hne.1
    refine ⟨_, rfl, (m : Int), rfl, by omega, by omega, for_range (lo := 0) (n := ((m : Int)).toNat) (fun i σ H' => ∃ (ls : List Nat) (v : Option V), σ = [some (.ref p), some (.str SG), some (.int kd), some (.int (m : Int)), some (.ref row), v] ∧
        Pool H' p c ∧ Frm p H H' ∧ H' row = some (.lst (sgs ls)) ∧ ls.length = i ∧ ∀ c ∈ ls, c ∈ SL)
      ⟨[], none, rfl, hP3.new nrow, f3.new nrow, upd_same, rfl, fun c h => by simp at h⟩ ?_ ?_⟩
    · rintro i σ H4 hi ⟨ls, v, rfl, hP4, f4, hrow, hlen, hin⟩
      have hne4 : row ≠ p ∧ row ≠ c := hne
      have done : ∀ (H5 : Hp) (d : Nat), d ∈ SL → Pool H5 p c → Frm p H4 H5 → ∃ l xs v, V.ref row = .ref l ∧ [V.str (S [d])] = [v] ∧ H5 l = some (.lst xs) ∧ xs.length < sizeLine ∧
          ∃ (ls : List Nat) (u : Option V), [some (.ref p), some (.str SG), some (.int kd), some (.int (m : Int)), some (.ref row), some (V.int (0 + (i : Int)))] = [some (.ref p), some (.str SG), some (.int kd), some (.int (m : Int)), some (.ref row), u] ∧
          Pool (upd H5 l (.lst (xs ++ [v]))) p c ∧ Frm p H (upd H5 l (.lst (xs ++ [v]))) ∧ (upd H5 l (.lst (xs ++ [v]))) row = some (.lst (sgs ls)) ∧ ls.length = i + 1 ∧ ∀ c ∈ ls, c ∈ SL := by
        intro H5 d hd hP5 f5
        have e5 := f5 row _ hne.1 hrow
        refine ⟨row, _, _, rfl, rfl, e5, ?_, ls ++ [d], _, rfl, hP5.upd hne, (f4.trans f5).updN n0, ?_, ?_, ?_⟩
        · rw [sgs, List.length_map]
          exact small1000 (by omega)
        · rw [upd_same, sgs_add]
        · simp [hlen]
        · intro x hx
          rcases List.mem_append.mp hx with h1 | h1
          · exact hin x h1
          · rw [List.mem_singleton.mp h1]
            exact hd
      refine ⟨_, rfl, _, _, rfl, rfl, _, rfl, ?_⟩
      refine ite2 (fun _ => ?_) (fun _ => ?_)
      · refine ⟨_, rfl, .inl ⟨rfl, _, SqL.of hrow⟩, _, rfl, _, rfl, p, c, 94, rfl, by decide, by decide, hP4, fun r H5 r0 r1 hP5 f5 => ?_⟩
        obtain ⟨r, rfl⟩ := Int.eq_ofNat_of_zero_le r0
        have hr94 : r < SL.length := by rw [SL_len]; omega
        refine ⟨SG, _, SL[r], rfl, rfl, SG_len, atI_nat (by show SL[r]? = some SL[r]; exact List.getElem?_eq_getElem hr94), ?_⟩
        exact done H5 SL[r] (List.getElem_mem hr94) hP5 f5
      · refine ⟨_, rfl, .inl ⟨rfl, _, SqL.of hrow⟩, _, rfl, p, c, 2, rfl, by decide, by decide, hP4, fun r H5 r0 r1 hP5 f5 => ?_⟩
        have h2 : r = 0 ∨ r = 1 := by omega
        rcases h2 with rfl | rfl
        · exact ⟨_, _, 97, rfl, rfl, by decide +kernel, by decide +kernel, done H5 97 SL_a hP5 f5⟩
        · exact ⟨_, _, 98, rfl, rfl, by decide +kernel, by decide +kernel, done H5 98 SL_b hP5 f5⟩
    · rintro σ H4 ⟨ls, v, rfl, hP4, f4, hrow, hlen, hin⟩
      have e1 : sgs ls = ((ls.map fun c => [c]).map S).map V.str := by simp [sgs]
      refine ⟨⟨_, rfl⟩, _, rfl, _, row, (ls.map fun c => [c]).map S, rfl, rfl, .inl (SqL.of (by rw [hrow, e1])), ?_, ?_⟩
      · exact join_size (by omega)
      · show Q (V.str (Txt.join ("" : Str) _)) H4
        rw [sgs_join]
        exact q ls H4 (by omega) hin hP4 f4
end
section
variable {P : Program} {w : World} {K : PySem.W.Frag} {mg : Str → Option Value} {base : Heap}
/-! ### _law_number -/
def spNumber : Sp := fun vs H Q _ => ∃ (p c : Addr) (many : Int), vs = [.ref p, .int many] ∧ 0 < many ∧ many ≤ 1000000000000 ∧ Pool H p c ∧ ∀ (r : Nat) H', (r : Int) < many → Pool H' p c → Frm p H H' → Q (.int (r : Int)) H'
theorem scN : FnScope ["pool", "many"] ["pool", "many"] (defScope sNumber) := ⟨rfl, rfl, rfl, by decide +kernel, rfl, by decide +kernel, by decide +kernel⟩
theorem ok_number {f : Addr} {fd : FuncData} (F : Fun K "_law_number" "_law_number" sNumber f fd) (hm : mg "_law_number" = some (.ref f)) (b : Binds K fd ["pool", "many"] []) (G : Cal P w K mg base 2 "_law_take" spTake []) : Cal P w K mg base 3 "_law_number" spNumber [] := by
  refine mkCal F hm b scN (fun vs H Q E h => ?_) (fun cdv A outer s H vs Q E hr h => ?_)
  · obtain ⟨p, c, many, rfl, _⟩ := h
    rfl
  obtain ⟨p, c, many, rfl, m0, m1, hP, q⟩ := h
  refine ⟨_, pss_cons (ps_if (pt_cmpR op_gt (pe_c G hr (by decide) (by rfl) (pa_cons (pv 0) (pa_cons pe_int pa_nil))) pe_int (nomark _)) (pss_one (ps_ret (pe_op op_sub (pv 1) pe_int))) pss_nil)
    (pss_one (ps_ret (pe_c G hr (by decide) (by rfl) (pa_cons (pv 0) (pa_cons (pv 1) pa_nil))))), ?_⟩
  refine ⟨_, rfl, p, c, 3, rfl, by decide, by decide, hP, fun r H1 r0 r1 hP1 f1 => ⟨_, _, rfl, rfl, _, rfl, ?_⟩⟩
  refine ite2 (fun _ => ?_) (fun _ => ?_)
  · refine ⟨_, rfl, _, _, rfl, rfl, ?_⟩
    have e : many - 1 = ((many - 1).toNat : Int) := by omega
    show Q (.int (many - 1)) H1
    rw [e]
    exact q _ H1 (by omega) hP1 f1
  · refine ⟨_, rfl, _, rfl, p, c, many, rfl, m0, m1, hP1, fun r H2 r0 r1 hP2 f2 => ?_⟩
    obtain ⟨r, rfl⟩ := Int.eq_ofNat_of_zero_le r0
    exact q r H2 r1 hP2 (f1.trans f2)
/-! ### _law_next -/
def spNext : Sp := fun vs H Q _ => ∃ (p c t : Addr) (ts : List (List Nat)), vs = [.ref p, .ref t, .int 400] ∧ Pool H p c ∧ H t = some (.lst (ts.map tV)) ∧ t ≠ p ∧ ts.length ≤ 1000 ∧ (∀ l ∈ ts, l.length ≤ 400) ∧
  ∀ (a : Addr) (r : Rule) H', Ok ts r → (made ts r).length ≤ 400 → Pool H' p c → Frm p H H' → H a = none → a ≠ p → H' a = some (.tup r.vals) → Q (.ref a) H'
theorem scX : FnScope ["pool", "texts", "most", "kind", "first", "size", "second", "times", "start"] ["pool", "texts", "most"] (defScope sNext) := ⟨rfl, rfl, rfl, by decide +kernel, rfl, by decide +kernel, by decide +kernel⟩
theorem ok_next {f : Addr} {fd : FuncData} (F : Fun K "_law_next" "_law_next" sNext f fd) (hm : mg "_law_next" = some (.ref f)) (b : Binds K fd ["pool", "texts", "most"] []) (T : Txt mg) (G : Cal P w K mg base 2 "_law_take" spTake [])
    (GW : Cal P w K mg base 3 "_law_written" spWritten []) (GN : Cal P w K mg base 3 "_law_number" spNumber []) : Cal P w K mg base 4 "_law_next" spNext [] := by
  refine mkCal F hm b scX (fun vs H Q E h => ?_) (fun cdv A outer s H vs Q E hr h => ?_)
  · obtain ⟨p, c, t, ts, rfl, _⟩ := h
    rfl
  obtain ⟨p, c, t, ts, rfl, hP, hT, htp, hn, hle, q⟩ := h
  have hlen : (ts.map tV).length = ts.length := List.length_map _
  refine ⟨_, (pss_cons (ps_set (i := 3) scX.nd rfl (.inl rfl) (pe_c G hr (by decide) (by rfl) (pa_cons (pv 0) (pa_cons pe_int pa_nil))))
    (pss_cons (ps_if (PW.pt (pw_or (pt_cmpR op_eq (pv 3) pe_int (nomark _)) (pw_or1 (pt_not (pt_truth (pv 1) (by intro _; rfl)))))) (pss_one (ps_ret (pe_tup (pa_cons pe_str (pa_cons (pe_c GW hr (by decide) (by rfl) (pa_cons (pv 0) pa_nil)) pa_nil))))) pss_nil)
    (pss_cons (ps_set (i := 4) scX.nd rfl (.inl rfl) (pe_c GN hr (by decide) (by rfl) (pa_cons (pv 0) (pa_cons (pe_callB call_len_seq (by rfl) T.len PySem.boot_len (pa_cons (pv 1) pa_nil)) pa_nil))))
    (pss_cons (ps_set (i := 5) scX.nd rfl (.inl rfl) (pe_callB call_len_str (by rfl) T.len PySem.boot_len (pa_cons (pe_ix ix_list (pv 1) (pv 4) (fun _ _ => rfl)) pa_nil)))
    (pss_cut (ps_if (pt_cmpR op_lt (pv 3) pe_int (nomark _)) (pss_cons (ps_set (i := 6) scX.nd rfl (.inl rfl) (pe_c G hr (by decide) (by rfl) (pa_cons (pv 0) (pa_cons (pe_callB call_len_seq (by rfl) T.len PySem.boot_len (pa_cons (pv 1) pa_nil)) pa_nil))))
    (pss_cut (ps_if (pt_cmpR op_eq (pe_c G hr (by decide) (by rfl) (pa_cons (pv 0) (pa_cons pe_int pa_nil))) pe_int (nomark _)) (pss_cons (ps_par (i := 4) (j := 6) rfl scX.nd rfl rfl (by decide) rfl rfl (pa_cons (pv 6) (pa_cons (pv 4) pa_nil)) (by rfl))
    (pss_one (ps_set (i := 5) scX.nd rfl (.inl rfl) (pe_callB call_len_str (by rfl) T.len PySem.boot_len (pa_cons (pe_ix ix_list (pv 1) (pv 4) (fun _ _ => rfl)) pa_nil))))) pss_nil)
    (pss_one (ps_if (pt_cmpR op_le (pe_op op_add (pe_callB call_len_str (by rfl) T.len PySem.boot_len (pa_cons (pe_ix ix_list (pv 1) (pv 4) (fun _ _ => rfl)) pa_nil)) (pe_callB call_len_str (by rfl) T.len PySem.boot_len (pa_cons (pe_ix ix_list (pv 1) (pv 6) (fun _ _ => rfl)) pa_nil))) (pv 2) (nomark _)) (pss_one (ps_ret (pe_tup (pa_cons pe_str (pa_cons (pv 4) (pa_cons (pv 6) pa_nil)))))) pss_nil)))) pss_nil)
    (pss_cut (ps_if (pt_cmpR op_eq (pv 3) pe_int (nomark _)) (pss_cons (ps_set (i := 7) scX.nd rfl (.inl rfl) (pe_c G hr (by decide) (by rfl) (pa_cons (pv 0) (pa_cons pe_int pa_nil))))
    (pss_cut (ps_if (pt_cmpR op_eq (pv 5) pe_int (nomark _)) (pss_one (ps_set (i := 7) scX.nd rfl (.inl rfl) (pe_ix ix_tup (pe_tup (pa_cons pe_int (pa_cons pe_int (pa_cons pe_int (pa_cons (pe_op op_pow pe_int pe_int) pa_nil))))) (pe_c G hr (by decide) (by rfl) (pa_cons (pv 0) (pa_cons pe_int pa_nil))) (fun _ _ => rfl)))) pss_nil)
    (pss_one (ps_if (pt_cmpR op_le (pe_op op_mul (pv 5) (pv 7)) (pv 2) (nomark _)) (pss_one (ps_ret (pe_tup (pa_cons pe_str (pa_cons (pv 4) (pa_cons (pv 7) pa_nil)))))) pss_nil)))) pss_nil)
    (pss_cons (ps_if (pt_cmpR op_lt (pv 3) pe_int (nomark _)) (pss_cons (ps_set (i := 8) scX.nd rfl (.inl rfl) (pe_c G hr (by decide) (by rfl) (pa_cons (pv 0) (pa_cons (pe_op op_add (pv 5) pe_int) pa_nil))))
    (pss_one (ps_ret (pe_tup (pa_cons pe_str (pa_cons (pv 4) (pa_cons (pv 8) (pa_cons (pe_op op_add (pv 8) (pe_c G hr (by decide) (by rfl) (pa_cons (pv 0) (pa_cons (pe_op op_add (pe_op op_sub (pv 5) (pv 8)) pe_int) pa_nil)))) pa_nil)))))))) pss_nil)
    (pss_one (ps_ret (pe_tup (pa_cons pe_str (pa_cons (pv 4) pa_nil)))))))))))), ?_⟩
  refine ⟨_, rfl, p, c, 7, rfl, by decide, by decide, hP, fun kd H1 kd0 kd1 hP1 f1 => ?_⟩
  have hT1 := f1 t _ htp hT
  -- a new tuple ends it
  have fin : ∀ (H5 : Hp) (r : Rule) (vs : List V), vs = r.vals → Ok ts r → (made ts r).length ≤ 400 → Pool H5 p c → Frm p H H5 → vs.length ≤ sizeLine ∧ ∀ a, H5 a = none → Q (.ref a) (upd H5 a (.tup vs)) := by
    intro H5 r vs e o h5 hP5 f5
    subst e
    refine ⟨Nat.le_trans (Rule.vals_len r) (by decide), fun a na => ?_⟩
    exact q a r _ o h5 (hP5.new na) (f5.new na) (f5.none na (hP5.ne na).1) (hP5.ne na).1 upd_same
  refine ⟨_, rfl, rfl, _, rfl, ?_⟩
  have lett : ∀ H2 : Hp, Pool H2 p c → Frm p H H2 → ∀ (l : List Nat) (H3 : Hp), l.length ≤ 64 → (∀ c ∈ l, c ∈ SL) → Pool H3 p c → Frm p H2 H3 → ([V.str "letters", V.str (S l)] : List V).length ≤ sizeLine ∧ ∀ a, H3 a = none → Q (.ref a) (upd H3 a (.tup [V.str "letters", V.str (S l)])) :=
    fun H2 _ f2 l H3 hl hin hP3 f3 => fin H3 (.letters l) _ rfl ⟨hl, hin⟩ (by show l.length ≤ 400; omega) hP3 (f2.trans f3)
  refine ite2 (fun _ => iteT ?_) (fun _ => ?_)
  · exact ⟨_, rfl, p, c, rfl, hP1, fun l H3 hl hin hP3 f3 => lett H1 hP1 f1 l H3 hl hin hP3 f3⟩
  refine ⟨_, rfl, _, .inl ⟨_, SqL.of hT1, rfl⟩, ?_⟩
  by_cases hne : ts = []
  · subst hne
    refine ifT rfl ?_
    exact ⟨_, rfl, p, c, rfl, hP1, fun l H3 hl hin hP3 f3 => lett H1 hP1 f1 l H3 hl hin hP3 f3⟩
  have hpos : 0 < ts.length := by cases ts with | nil => exact absurd rfl hne | cons x r => exact Nat.succ_pos _
  refine ifF (by cases ts with | nil => exact absurd rfl hne | cons x r => rfl) ?_
  -- first = number(pool, len(texts)); size = len(texts[first])
  refine ⟨_, rfl, _, rfl, t, _, rfl, .inl (SqL.of hT1), p, c, _, rfl, by rw [hlen]; omega, by rw [hlen]; omega, hP1, fun fi H2 hfi hP2 f2 => ?_⟩
  have hfi' : fi < ts.length := by rw [hlen] at hfi; omega
  have hT2 := f2 t _ htp hT1
  have hsz : ∀ i, i < ts.length → (S (tx ts i)).length ≤ 400 := fun i hi => by rw [S_len]; exact hle _ (tx_mem hi)
  have hszl : ∀ i, i < ts.length → (S (tx ts i)).length ≤ sizeLine := fun i hi => Nat.le_trans (hsz i hi) (by decide)
  refine ⟨_, rfl, _, rfl, t, _, (fi : Int), _, rfl, rfl, SqL.of hT2, tV_at hfi', _, rfl, hszl _ hfi', ?_⟩
  refine ⟨fun σ H' => ∃ (i : Nat) (s6 : Option V), i < ts.length ∧ Pool H' p c ∧ Frm p H H' ∧ σ = [some (.ref p), some (.ref t), some (.int 400), some (.int kd), some (.int (i : Int)), some (.int ((S (tx ts i)).length : Int)), s6, none, none], ?_, ?_⟩
  · refine ⟨_, rfl, _, _, rfl, rfl, _, rfl, ?_⟩
    refine ite2 (fun _ => ?_) (fun _ => ⟨fi, none, hfi', hP2, f1.trans f2, rfl⟩)
    refine ⟨_, rfl, _, rfl, t, _, rfl, .inl (SqL.of hT2), p, c, _, rfl, by rw [hlen]; omega, by rw [hlen]; omega, hP2, fun se H3 se0 se1 hP3 f3 => ?_⟩
    obtain ⟨se, rfl⟩ := Int.eq_ofNat_of_zero_le se0
    have hse : se < ts.length := by rw [hlen] at se1; omega
    refine ⟨fun σ H' => ∃ (i j : Nat), i < ts.length ∧ j < ts.length ∧ Pool H' p c ∧ Frm p H H' ∧ σ = [some (.ref p), some (.ref t), some (.int 400), some (.int kd), some (.int (i : Int)), some (.int ((S (tx ts i)).length : Int)), some (.int (j : Int)), none, none], ?_, ?_⟩
    · refine ⟨_, rfl, p, c, 2, rfl, by decide, by decide, hP3, fun sw H4 sw0 sw1 hP4 f4 => ⟨rfl, _, rfl, ?_⟩⟩
      have f04 := ((f1.trans f2).trans f3).trans f4
      refine ite2 (fun _ => ?_) (fun _ => ⟨fi, se, hfi', hse, hP4, f04, rfl⟩)
      refine ⟨_, rfl, _, rfl, _, _, rfl, ?_⟩
      refine ⟨_, rfl, _, rfl, t, _, (se : Int), _, rfl, rfl, SqL.of (f04 t _ htp hT), tV_at hse, _, rfl, hszl _ hse, ?_⟩
      exact ⟨se, fi, hse, hfi', hP4, f04, rfl⟩
    · rintro σ H4 ⟨i, j, hi, hj, hP4, f4, rfl⟩
      have hT4 := f4 t _ htp hT
      refine ⟨_, rfl, _, rfl, t, _, (i : Int), _, rfl, rfl, SqL.of hT4, tV_at hi, _, rfl, hszl _ hi, ?_⟩
      refine ⟨_, rfl, _, rfl, t, _, (j : Int), _, rfl, rfl, SqL.of hT4, tV_at hj, _, rfl, hszl _ hj, _, _, rfl, rfl, _, rfl, _, _, rfl, rfl, _, rfl, ?_⟩
      refine ite2 (fun z => ?_) (fun _ => ⟨i, _, hi, hP4, f4, rfl⟩)
      have z1 := of_decide_eq_true z
      rw [S_len, S_len] at z1
      refine ⟨_, rfl, _, rfl, ?_⟩
      exact fin H4 (.join i j) _ rfl ⟨hi, hj⟩ (by show (tx ts i ++ tx ts j).length ≤ 400; rw [List.length_append]; omega) hP4 f4
  · rintro σ H4 ⟨i, s6, hi, hP4, f4, rfl⟩
    have hT4 := f4 t _ htp hT
    refine ⟨fun σ H' => ∃ (s7 : Option V), Pool H' p c ∧ Frm p H H' ∧ σ = [some (.ref p), some (.ref t), some (.int 400), some (.int kd), some (.int (i : Int)), some (.int ((S (tx ts i)).length : Int)), s6, s7, none], ?_, ?_⟩
    · refine ⟨_, rfl, rfl, _, rfl, ?_⟩
      refine ite2 (fun _ => ?_) (fun _ => ⟨none, hP4, f4, rfl⟩)
      refine ⟨_, rfl, p, c, 6, rfl, by decide, by decide, hP4, fun m H5 m0 m1 hP5 f5 => ?_⟩
      obtain ⟨m, rfl⟩ := Int.eq_ofNat_of_zero_le m0
      refine ⟨fun σ H' => ∃ m : Nat, m ≤ 10 ^ 12 ∧ Pool H' p c ∧ Frm p H H' ∧ σ = [some (.ref p), some (.ref t), some (.int 400), some (.int kd), some (.int (i : Int)), some (.int ((S (tx ts i)).length : Int)), s6, some (.int (m : Int)), none], ?_, ?_⟩
      · refine ⟨_, rfl, rfl, _, rfl, ?_⟩
        refine ite2 (fun _ => ?_) (fun _ => ⟨m, by omega, hP5, f4.trans f5, rfl⟩)
        refine ⟨10, 12, rfl, rfl, ⟨by decide, by decide, by decide⟩, by show 4 ≤ sizeLine; decide, fun u nu => ?_⟩
        have hu := hP5.ne nu
        refine ⟨_, rfl, p, c, 4, rfl, by decide, by decide, hP5.new nu, fun r H6 r0 r1 hP6 f6 => ?_⟩
        have eu := f6 u _ hu.1 upd_same
        have f06 : Frm p H H6 := ((f4.trans f5).new nu).trans f6
        have hr : r = 0 ∨ r = 1 ∨ r = 2 ∨ r = 3 := by omega
        rcases hr with rfl | rfl | rfl | rfl
        · exact ⟨u, _, 0, _, rfl, rfl, SqT.of eu, atI_nat (j := 0) rfl, 0, by decide, hP6, f06, rfl⟩
        · exact ⟨u, _, 1, _, rfl, rfl, SqT.of eu, atI_nat (j := 1) rfl, 1, by decide, hP6, f06, rfl⟩
        · exact ⟨u, _, 2, _, rfl, rfl, SqT.of eu, atI_nat (j := 2) rfl, 7, by decide, hP6, f06, rfl⟩
        · exact ⟨u, _, 3, _, rfl, rfl, SqT.of eu, atI_nat (j := 3) rfl, 10 ^ 12, by decide, hP6, f06, rfl⟩
      · rintro σ H6 ⟨m, hm, hP6, f6, rfl⟩
        have h400 := hsz i hi
        refine ⟨_, rfl, _, rfl, _, _, rfl, rfl, .inl ⟨by omega, by omega⟩, _, rfl, _, _, rfl, rfl, _, rfl, ?_⟩
        refine ite2 (fun z => ?_) (fun _ => ⟨_, hP6, f6, rfl⟩)
        have z1 := of_decide_eq_true z
        rw [S_len] at z1
        refine ⟨_, rfl, _, rfl, ?_⟩
        refine fin H6 (.power i m) _ rfl ⟨hi, hm⟩ ?_ hP6 f6
        show ((List.replicate m (tx ts i)).flatten).length ≤ 400
        rw [flat_len, Nat.mul_comm]
        have z2 : (((tx ts i).length * m : Nat) : Int) ≤ 400 := by rw [Int.natCast_mul]; exact z1
        omega
    · rintro σ H5 ⟨s7, hP5, f5, rfl⟩
      refine ⟨_, rfl, _, _, rfl, rfl, _, rfl, ?_⟩
      refine ite2 (fun _ => ?_) (fun _ => ?_)
      · have h400 := hsz i hi
        refine ⟨_, rfl, _, rfl, _, _, rfl, rfl, p, c, _, rfl, by omega, by omega, hP5, fun st H6 st0 st1 hP6 f6 => ?_⟩
        obtain ⟨st, rfl⟩ := Int.eq_ofNat_of_zero_le st0
        refine ⟨_, rfl, _, rfl, _, rfl, _, rfl, _, rfl, _, rfl, _, _, rfl, rfl, _, _, rfl, rfl, p, c, _, rfl, by omega, by omega, hP6, fun sl H7 sl0 sl1 hP7 f7 => ?_⟩
        obtain ⟨sl, rfl⟩ := Int.eq_ofNat_of_zero_le sl0
        refine ⟨_, _, rfl, rfl, ?_⟩
        rw [S_len] at st1 sl1
        refine fin H7 (.part i st (st + sl)) _ ?_ ⟨hi, by omega, by omega⟩ ?_ hP7 ((f5.trans f6).trans f7)
        · simp [Rule.vals]
        · show (((tx ts i).take (st + sl)).drop st).length ≤ 400
          have := hle _ (tx_mem hi)
          rw [List.length_drop, List.length_take]
          omega
      · refine ⟨_, rfl, ?_⟩
        refine fin H5 (.back i) _ rfl hi ?_ hP5 f5
        show ((tx ts i).reverse).length ≤ 400
        rw [List.length_reverse]
        exact hle _ (tx_mem hi)
end
section
variable {P : Program} {w : World} {K : PySem.W.Frag} {mg : Str → Option Value} {base : Heap}
/-! ### _law_made -/
def spMade : Sp := fun vs H Q _ => ∃ (t a : Addr) (ts : List (List Nat)) (r : Rule), vs = [.ref t, .ref a] ∧ H t = some (.lst (ts.map tV)) ∧ H a = some (.tup r.vals) ∧ Ok ts r ∧ (made ts r).length ≤ 400 ∧ (∀ l ∈ ts, l.length ≤ 400) ∧ Q (.str (S (made ts r))) H
theorem scM : FnScope ["texts", "rule"] ["texts", "rule"] (defScope sMade) := ⟨rfl, rfl, rfl, by decide +kernel, rfl, by decide +kernel, by decide +kernel⟩
theorem ok_made {f : Addr} {fd : FuncData} (F : Fun K "_law_made" "_law_made" sMade f fd) (hm : mg "_law_made" = some (.ref f)) (b : Binds K fd ["texts", "rule"] []) : Cal P w K mg base 1 "_law_made" spMade [] := by
  refine mkCal F hm b scM (fun vs H Q E h => ?_) (fun cdv A outer s H vs Q E hr h => ?_)
  · obtain ⟨t, a, ts, r, rfl, _⟩ := h
    rfl
  obtain ⟨t, a, ts, r, rfl, hT, hA, ok, h4, hle, q⟩ := h
  refine ⟨_, (pss_cons (ps_if (pt_cmpR op_eq (pe_ix ix_tup (pv 1) pe_int (fun _ _ => rfl)) pe_str (nomark _)) (pss_one (ps_ret (pe_ix ix_tup (pv 1) pe_int (fun _ _ => rfl)))) pss_nil)
    (pss_cons (ps_if (pt_cmpR op_eq (pe_ix ix_tup (pv 1) pe_int (fun _ _ => rfl)) pe_str (nomark _)) (pss_one (ps_ret (pe_op op_add_str (pe_ix ix_list (pv 0) (pe_ix ix_tup (pv 1) pe_int (fun _ _ => rfl)) (fun _ _ => rfl)) (pe_ix ix_list (pv 0) (pe_ix ix_tup (pv 1) pe_int (fun _ _ => rfl)) (fun _ _ => rfl))))) pss_nil)
    (pss_cons (ps_if (pt_cmpR op_eq (pe_ix ix_tup (pv 1) pe_int (fun _ _ => rfl)) pe_str (nomark _)) (pss_cons (ps_if (pt_cmpR op_eq (pe_ix ix_list (pv 0) (pe_ix ix_tup (pv 1) pe_int (fun _ _ => rfl)) (fun _ _ => rfl)) pe_str (nomark _)) (pss_one (ps_ret pe_str)) pss_nil)
    (pss_one (ps_ret (pe_op op_mulS (pe_ix ix_list (pv 0) (pe_ix ix_tup (pv 1) pe_int (fun _ _ => rfl)) (fun _ _ => rfl)) (pe_ix ix_tup (pv 1) pe_int (fun _ _ => rfl)))))) pss_nil)
    (pss_cons (ps_if (pt_cmpR op_eq (pe_ix ix_tup (pv 1) pe_int (fun _ _ => rfl)) pe_str (nomark _)) (pss_one (ps_ret (pe_slice sl_str (pe_ix ix_list (pv 0) (pe_ix ix_tup (pv 1) pe_int (fun _ _ => rfl)) (fun _ _ => rfl)) (po_some (pe_ix ix_tup (pv 1) pe_int (fun _ _ => rfl))) (po_some (pe_ix ix_tup (pv 1) pe_int (fun _ _ => rfl)))))) pss_nil)
    (pss_one (ps_ret (pe_revS (pe_ix ix_list (pv 0) (pe_ix ix_tup (pv 1) pe_int (fun _ _ => rfl)) (fun _ _ => rfl))))))))), ?_⟩
  have hA' : SqT K H a r.vals := SqT.of hA
  have hT' : SqL K H t (ts.map tV) := SqL.of hT
  have hsz : ∀ i, i < ts.length → (S (tx ts i)).length ≤ sizeLine := fun i hi => Sz (Nat.le_trans (hle _ (tx_mem hi)) (by decide))
  have hl4 : ∀ i, i < ts.length → (tx ts i).length ≤ 400 := fun i hi => hle _ (tx_mem hi)
  cases r with
  | letters z =>
    refine ⟨_, rfl, a, _, 0, _, rfl, rfl, hA', atI_nat (j := 0) rfl, rfl, _, rfl, ifT (by decide +kernel) ?_⟩
    exact ⟨_, rfl, a, _, 1, _, rfl, rfl, hA', atI_nat (j := 1) rfl, q⟩
  | join i j =>
    refine ⟨_, rfl, a, _, 0, _, rfl, rfl, hA', atI_nat (j := 0) rfl, rfl, _, rfl, ifF (by decide +kernel) ?_⟩
    refine ⟨_, rfl, a, _, 0, _, rfl, rfl, hA', atI_nat (j := 0) rfl, rfl, _, rfl, ifT (by decide +kernel) ?_⟩
    refine ⟨_, rfl, _, rfl, a, _, 1, _, rfl, rfl, hA', atI_nat (j := 1) rfl, t, _, (i : Int), _, rfl, rfl, hT', tV_at ok.1, ?_⟩
    refine ⟨_, rfl, _, rfl, a, _, 2, _, rfl, rfl, hA', atI_nat (j := 2) rfl, t, _, (j : Int), _, rfl, rfl, hT', tV_at ok.2, _, _, rfl, rfl, ?_, ?_⟩
    · rw [S_len, S_len]
      have h1 := hl4 i ok.1
      have h2 := hl4 j ok.2
      exact sz (by omega)
    · rw [S_cat]
      exact q
  | power i k =>
    refine ⟨_, rfl, a, _, 0, _, rfl, rfl, hA', atI_nat (j := 0) rfl, rfl, _, rfl, ifF (by decide +kernel) ?_⟩
    refine ⟨_, rfl, a, _, 0, _, rfl, rfl, hA', atI_nat (j := 0) rfl, rfl, _, rfl, ifF (by decide +kernel) ?_⟩
    refine ⟨_, rfl, a, _, 0, _, rfl, rfl, hA', atI_nat (j := 0) rfl, rfl, _, rfl, ifT (by decide +kernel) ?_⟩
    refine ⟨_, rfl, _, rfl, a, _, 1, _, rfl, rfl, hA', atI_nat (j := 1) rfl, t, _, (i : Int), _, rfl, rfl, hT', tV_at ok.1, rfl, _, rfl, ?_⟩
    refine ite2 (fun z => ?_) (fun _ => ?_)
    · have e0 : V.str (S (tx ts i)) = V.str ("" : Str) := of_decide_eq_true z
      rw [S_nil] at e0
      have e1 : tx ts i = [] := S_inj (V.str.inj e0)
      have e2 : made ts (.power i k) = [] := by
        show (List.replicate k (tx ts i)).flatten = []
        rw [e1]
        exact List.eq_nil_of_length_eq_zero (by rw [flat_len]; simp)
      rw [e2, ← S_nil] at q
      exact q
    · refine ⟨_, rfl, _, rfl, a, _, 1, _, rfl, rfl, hA', atI_nat (j := 1) rfl, t, _, (i : Int), _, rfl, rfl, hT', tV_at ok.1, ?_⟩
      have h5 : k * (tx ts i).length ≤ 400 := by
        have h6 : ((List.replicate k (tx ts i)).flatten).length ≤ 400 := h4
        rw [flat_len] at h6
        exact h6
      have h1 := hl4 i ok.1
      exact ⟨_, rfl, a, _, 2, _, rfl, rfl, hA', atI_nat (j := 2) rfl, tx ts i, k, rfl, rfl, by omega, by omega, Nat.le_trans ok.2 (by decide), q⟩
  | part i x y =>
    refine ⟨_, rfl, a, _, 0, _, rfl, rfl, hA', atI_nat (j := 0) rfl, rfl, _, rfl, ifF (by decide +kernel) ?_⟩
    refine ⟨_, rfl, a, _, 0, _, rfl, rfl, hA', atI_nat (j := 0) rfl, rfl, _, rfl, ifF (by decide +kernel) ?_⟩
    refine ⟨_, rfl, a, _, 0, _, rfl, rfl, hA', atI_nat (j := 0) rfl, rfl, _, rfl, ifF (by decide +kernel) ?_⟩
    refine ⟨_, rfl, a, _, 0, _, rfl, rfl, hA', atI_nat (j := 0) rfl, rfl, _, rfl, ifT (by decide +kernel) ?_⟩
    refine ⟨_, rfl, _, rfl, a, _, 1, _, rfl, rfl, hA', atI_nat (j := 1) rfl, t, _, (i : Int), _, rfl, rfl, hT', tV_at ok.1, ?_⟩
    refine ⟨_, rfl, a, _, 2, _, rfl, rfl, hA', atI_nat (j := 2) rfl, _, rfl, ?_⟩
    refine ⟨_, rfl, a, _, 3, _, rfl, rfl, hA', atI_nat (j := 3) rfl, _, rfl, S (tx ts i), rfl, hsz i ok.1, ?_⟩
    rw [cut_S ok.2.2 ok.2.1]
    exact q
  | back i =>
    refine ⟨_, rfl, a, _, 0, _, rfl, rfl, hA', atI_nat (j := 0) rfl, rfl, _, rfl, ifF (by decide +kernel) ?_⟩
    refine ⟨_, rfl, a, _, 0, _, rfl, rfl, hA', atI_nat (j := 0) rfl, rfl, _, rfl, ifF (by decide +kernel) ?_⟩
    refine ⟨_, rfl, a, _, 0, _, rfl, rfl, hA', atI_nat (j := 0) rfl, rfl, _, rfl, ifF (by decide +kernel) ?_⟩
    refine ⟨_, rfl, a, _, 0, _, rfl, rfl, hA', atI_nat (j := 0) rfl, rfl, _, rfl, ifF (by decide +kernel) ?_⟩
    have h1 := hl4 i ok
    exact ⟨_, rfl, _, rfl, a, _, 1, _, rfl, rfl, hA', atI_nat (j := 1) rfl, t, _, (i : Int), _, rfl, rfl, hT', tV_at ok, tx ts i, rfl, by omega, q⟩
end
/-! ### the rules that are drawn, and their texts -/
structure Drawn (H : Hp) (R T : Addr) (as : List Addr) (rs : List Rule) (ts : List (List Nat)) : Prop where
  ra : H R = some (.lst (as.map V.ref))
  ta : H T = some (.lst (ts.map tV))
  la : as.length = rs.length
  el : ∀ (k : Nat) (r : Rule), rs[k]? = some r → ∃ a, as[k]? = some a ∧ H a = some (.tup r.vals)
  good : Good rs ts
  ne : R ≠ T
theorem Drawn.same {H H' : Hp} {R T : Addr} {as : List Addr} {rs : List Rule} {ts : List (List Nat)} (d : Drawn H R T as rs ts) (s : Same H H') : Drawn H' R T as rs ts :=
  ⟨s _ _ d.ra, s _ _ d.ta, d.la, fun k r h => let ⟨a, e, g⟩ := d.el k r h; ⟨a, e, s _ _ g⟩, d.good, d.ne⟩
theorem Drawn.frm {H H' : Hp} {p c R T : Addr} {as : List Addr} {rs : List Rule} {ts : List (List Nat)} (d : Drawn H R T as rs ts) (P : Pool H p c) (f : Frm p H H') (h1 : R ≠ p) (h2 : T ≠ p) : Drawn H' R T as rs ts :=
  ⟨f _ _ h1 d.ra, f _ _ h2 d.ta, d.la, fun k r h => by
    obtain ⟨a, e, g⟩ := d.el k r h
    obtain ⟨pos, left, seed, xs, hp⟩ := P
    exact ⟨a, e, f _ _ (ne_of g hp.at_ (by intro z; cases z)) g⟩, d.good, d.ne⟩
/-- one rule more -/
theorem Drawn.add {H : Hp} {R T a : Addr} {as : List Addr} {rs : List Rule} {ts : List (List Nat)} {r : Rule} (d : Drawn H R T as rs ts) (ha : H a = some (.tup r.vals)) (o : Ok ts r) (h : (made ts r).length ≤ 400) :
    Drawn (upd (upd H R (.lst (as.map V.ref ++ [.ref a]))) T (.lst (ts.map tV ++ [.str (S (made ts r))]))) R T (as ++ [a]) (rs ++ [r]) (ts ++ [made ts r]) := by
  have tupne : ∀ {b : Addr} {vs : List V}, H b = some (.tup vs) → b ≠ R ∧ b ≠ T := fun e => ⟨ne_of e d.ra (by intro z; cases z), ne_of e d.ta (by intro z; cases z)⟩
  refine ⟨?_, ?_, by simp [d.la], fun k x e => ?_, d.good.add o h, d.ne⟩
  · rw [upd_ne d.ne, upd_same]
    simp
  · rw [upd_same]
    simp [tV]
  · by_cases hk : k < rs.length
    · rw [List.getElem?_append_left hk] at e
      obtain ⟨b, e1, e2⟩ := d.el k x e
      refine ⟨b, by rw [List.getElem?_append_left (by rw [d.la]; exact hk)]; exact e1, ?_⟩
      rw [upd_ne (tupne e2).2, upd_ne (tupne e2).1]
      exact e2
    · have hk2 : k = rs.length := by
        have := (List.getElem?_eq_some_iff.mp e).1
        simp at this
        omega
      subst hk2
      rw [List.getElem?_append_right (Nat.le_refl _), Nat.sub_self] at e
      have e' : r = x := Option.some.inj e
      subst e'
      refine ⟨a, by rw [← d.la, List.getElem?_append_right (Nat.le_refl _), Nat.sub_self]; rfl, ?_⟩
      rw [upd_ne (tupne ha).2, upd_ne (tupne ha).1]
      exact ha
theorem made_take {ts : List (List Nat)} {r : Rule} : made (ts.take ts.length) r = made ts r := by rw [List.take_length]

section
variable {P : Program} {w : World} {K : PySem.W.Frag} {mg : Str → Option Value} {base : Heap}
/-! ### _law_rules -/
def spRules : Sp := fun vs H Q _ => ∃ p c : Addr, vs = [.ref p, .int 400] ∧ Pool H p c ∧ ∀ (q R T : Addr) (as : List Addr) (rs : List Rule) (ts : List (List Nat)) (H' : Hp), Drawn H' R T as rs ts → 1 ≤ rs.length → rs.length ≤ 20 → Pool H' p c → Frm p H H' →
  H R = none → H T = none → (R ≠ p ∧ R ≠ c) → (T ≠ p ∧ T ≠ c) → H' q = some (.tup [.ref R, .ref T]) → Q (.ref q) H'
theorem scR : FnScope ["pool", "most", "rules", "texts", "k", "rule"] ["pool", "most"] (defScope sRules) := ⟨rfl, rfl, rfl, by decide +kernel, rfl, by decide +kernel, by decide +kernel⟩
theorem ok_rules {f : Addr} {fd : FuncData} (F : Fun K "_law_rules" "_law_rules" sRules f fd) (hm : mg "_law_rules" = some (.ref f)) (b : Binds K fd ["pool", "most"] []) (T : Txt mg) (G : Cal P w K mg base 2 "_law_take" spTake [])
    (GX : Cal P w K mg base 4 "_law_next" spNext []) (GM : Cal P w K mg base 1 "_law_made" spMade []) : Cal P w K mg base 5 "_law_rules" spRules [] := by
  refine mkCal F hm b scR (fun vs H Q E h => ?_) (fun cdv A outer s H vs Q E hr h => ?_)
  · obtain ⟨p, c, rfl, _⟩ := h
    rfl
  obtain ⟨p, c, rfl, hP, q⟩ := h
  refine ⟨_, (pss_cons (ps_set (i := 2) scR.nd rfl (.inl rfl) (pe_lst pa_nil))
    (pss_cons (ps_set (i := 3) scR.nd rfl (.inl rfl) (pe_lst pa_nil))
    (pss_cons (ps_for PassesOwn.never rfl (pi_range1 (by rfl) T.range (pa_cons (pe_op op_add pe_int (pe_c G hr (by decide) (by rfl) (pa_cons (pv 0) (pa_cons pe_int pa_nil)))) pa_nil)) (pg_name (i := 4) scR.nd rfl (.inl rfl)) (pss_cons (ps_set (i := 5) scR.nd rfl (.inl rfl) (pe_c GX hr (by decide) (by rfl) (pa_cons (pv 0) (pa_cons (pv 3) (pa_cons (pv 1) pa_nil)))))
    (pss_cons (ps_expr (pe_bm PySem.F.plainAttrs_list PySem.F.slot_list_append PySem.F.type_list_append mt_append (pv 2) (pa_cons (pv 5) pa_nil)))
    (pss_one (ps_expr (pe_bm PySem.F.plainAttrs_list PySem.F.slot_list_append PySem.F.type_list_append mt_append (pv 3) (pa_cons (pe_c GM hr (by decide) (by rfl) (pa_cons (pv 3) (pa_cons (pv 5) pa_nil))) pa_nil)))))))
    (pss_one (ps_ret (pe_tup (pa_cons (pv 2) (pa_cons (pv 3) pa_nil)))))))), ?_⟩
  refine ⟨Nat.zero_le _, fun R nR => ⟨Nat.zero_le _, fun U nU => ?_⟩⟩
  have hRp := hP.ne nR
  have nU0 : H U = none := Same.free (same_new nR) nU
  have hUp := hP.ne nU0
  have hRU : R ≠ U := fun e => by rw [← e, upd_same] at nU; cases nU
  have hP0 : Pool (upd (upd H R (.lst [])) U (.lst [])) p c := (hP.new nR).new nU
  have f0 : Frm p H (upd (upd H R (.lst [])) U (.lst [])) := (Frm.refl.new nR).new nU
  refine ⟨_, rfl, p, c, 20, rfl, by decide, by decide, hP0, fun m H1 m0 m1 hP1 f1 => ?_⟩
  obtain ⟨m, rfl⟩ := Int.eq_ofNat_of_zero_le m0
  have d1 : Drawn H1 R U [] [] [] := by
    refine ⟨f1 _ _ hRp.1 ?_, f1 _ _ hUp.1 upd_same, rfl, fun k r h => by simp at h, Good.nil, hRU⟩
    rw [upd_ne hRU, upd_same]
    rfl
  refine ⟨_, _, rfl, rfl, _, rfl, by omega, by omega, for_range (lo := 0) (n := (1 + (m : Int)).toNat) (fun i σ H' => ∃ (as : List Addr) (rs : List Rule) (ts : List (List Nat)) (v4 v5 : Option V), σ = [some (.ref p), some (.int 400), some (.ref R), some (.ref U), v4, v5] ∧
      Drawn H' R U as rs ts ∧ rs.length = i ∧ Pool H' p c ∧ Frm p H H') ⟨[], [], [], none, none, rfl, d1, rfl, hP1, f0.trans f1⟩ ?_ ?_⟩
  · rintro i σ H2 hi ⟨as, rs, ts, v4, v5, rfl, d, hlen, hP2, f2⟩
    have hi20 : i < 20 := by omega
    refine ⟨_, rfl, _, rfl, _, rfl, p, c, U, ts, rfl, hP2, d.ta, hUp.1, by rw [d.good.len]; omega, d.good.le, fun a r H3 o h4 hP3 f3 na hap ha => ?_⟩
    have d3 := d.frm hP2 f3 hRp.1 hUp.1
    refine ⟨_, rfl, .inl ⟨rfl, _, SqL.of d3.ra⟩, _, rfl, R, _, _, rfl, rfl, d3.ra, by rw [List.length_map, d3.la]; exact small1000 (by omega), ?_⟩
    refine ⟨_, rfl, .inl ⟨rfl, _, SqL.of (by rw [upd_ne d3.ne.symm]; exact d3.ta)⟩, ?_⟩
    have haR : a ≠ R := ne_of ha d3.ra (by intro z; cases z)
    refine ⟨_, rfl, _, rfl, U, a, ts, r, rfl, by rw [upd_ne d3.ne.symm]; exact d3.ta, by rw [upd_ne haR]; exact ha, o, h4, d.good.le, ?_⟩
    refine ⟨U, _, _, rfl, rfl, by rw [upd_ne d3.ne.symm]; exact d3.ta, by rw [List.length_map, d3.good.len]; exact small1000 (by omega), ?_⟩
    exact ⟨as ++ [a], rs ++ [r], ts ++ [made ts r], _, _, rfl, d3.add ha o h4, by simp [hlen], (hP3.upd hRp).upd hUp, ((f2.trans f3).updN nR).updN nU0⟩
  · rintro σ H2 ⟨as, rs, ts, v4, v5, rfl, d, hlen, hP2, f2⟩
    refine ⟨_, rfl, _, rfl, by show 2 ≤ sizeLine; decide, fun x nx => ?_⟩
    exact q x R U as rs ts _ (d.same (same_new nx)) (by omega) (by omega) (hP2.new nx) (f2.new nx) nR nU0 hRp hUp upd_same
/-! ### _law_pool -/
def spPool (K : PySem.W.Frag) : Sp := fun vs H Q _ => ∃ (a : Addr) (ns : List Int), vs = [.ref a] ∧ SqL K H a (ns.map V.int) ∧ ns.length ≤ 63 ∧ ∀ (p c : Addr) (H' : Hp), Pool H' p c → Same H H' → H p = none → H c = none → Q (.ref p) H'
theorem scP : FnScope ["script", "cell"] ["script"] (defScope sPool) := ⟨rfl, rfl, rfl, by decide +kernel, rfl, by decide +kernel, by decide +kernel⟩
def nz (x : Int) : Int := if 0 ≤ x then 2 * x else -2 * x - 1
theorem nz_nn (x : Int) : 0 ≤ nz x := by
  unfold nz
  split <;> omega
theorem ok_pool {f : Addr} {fd : FuncData} (F : Fun K "_law_pool" "_law_pool" sPool f fd) (hm : mg "_law_pool" = some (.ref f)) (b : Binds K fd ["script"] []) : Cal P w K mg base 1 "_law_pool" (spPool K) [] := by
  refine mkCal F hm b scP (fun vs H Q E h => ?_) (fun cdv A outer s H vs Q E hr h => ?_)
  · obtain ⟨a, ns, rfl, _⟩ := h
    rfl
  obtain ⟨a, ns, rfl, hS, hlen, q⟩ := h
  refine ⟨_, (pss_one (ps_ret (pe_lst (pa_cons (pe_lc (own := [("cell", 1)]) (g := gName 1) (tt := tYes) rfl scP.nd (pi_list (pv 0)) (blkOk_by (N := ["script", "cell"]) (sc := defScope sPool) (by decide +kernel)) (fun _ _ _ _ _ => (pg_name (i := 1) scP.nd rfl (.inl rfl))) (fun _ _ _ _ _ => pts_nil) (fun _ _ _ _ _ => (pe_ifExp (pt_cmpR op_ge (pv 1) pe_int (nomark _)) (pe_op op_mul pe_int (pv 1)) (pe_op op_sub (pe_op op_mul (pe_un un_neg pe_int) (pv 1)) pe_int)))) (pa_cons pe_int (pa_cons pe_int (pa_cons pe_int pa_nil))))))), ?_⟩
  refine ⟨_, rfl, a, rfl, ⟨_, hS⟩, fun D nD => ?_⟩
  refine lc_list (K := K) (a := a) (xs := ns.map V.int) (fun i H' => Same H H' ∧ H' D = some (.lst (((ns.take i).map nz).map V.int))) ⟨same_new nD, upd_same⟩ (fun i H' _ h => h.1.seq hS) ?_ ?_
  · rintro i x H1 hi ⟨s1, e1⟩
    rw [List.getElem?_map] at hi
    cases e : ns[i]? with
    | none => rw [e] at hi; cases hi
    | some u =>
    rw [e] at hi
    have ex : V.int u = x := Option.some.inj hi
    subst ex
    have push : ∀ y : Int, y = nz u → ∃ acc, H1 D = some (.lst acc) ∧ acc.length < sizeLine ∧ (Same H (upd H1 D (.lst (acc ++ [V.int y]))) ∧ (upd H1 D (.lst (acc ++ [V.int y]))) D = some (.lst (((ns.take (i + 1)).map nz).map V.int))) := by
      intro y hy
      refine ⟨_, e1, ?_, fun b o h => ?_, ?_⟩
      · rw [List.length_map, List.length_map, List.length_take]
        exact small1000 (by omega)
      · rw [upd_ne (ne_of_none h nD)]
        exact s1 b o h
      · rw [upd_same, List.take_add_one, e, hy]
        simp
    refine ⟨rfl, _, rfl, _, _, rfl, rfl, _, rfl, ?_⟩
    refine ite2 (fun z => ?_) (fun z => ?_)
    · have z1 : (0 : Int) ≤ u := of_decide_eq_true z
      refine ⟨_, rfl, _, _, rfl, rfl, .inl ⟨by decide, by decide⟩, push _ (by unfold nz; rw [if_pos z1])⟩
    · have z1 : ¬ (0 : Int) ≤ u := fun h => z (decide_eq_true h)
      refine ⟨_, rfl, _, rfl, _, _, rfl, rfl, .inl ⟨by decide, by decide⟩, _, _, rfl, rfl, push _ (by unfold nz; rw [if_neg z1])⟩
  · rintro H1 ⟨s1, e1⟩
    rw [List.length_map, List.take_length] at e1
    refine ⟨by show 4 ≤ sizeLine; decide, fun p np => ?_⟩
    have hDp : D ≠ p := ne_of_none e1 np
    refine q p D _ ⟨0, 0, 17, ns.map nz, upd_same, by rw [upd_ne hDp]; exact e1, hDp, fun x hx => ?_, by decide, by decide, by decide, by decide, by rw [List.length_map]; exact hlen⟩ (s1.trans (same_new np)) (s1.free np) nD
    obtain ⟨y, _, rfl⟩ := List.mem_map.mp hx
    exact nz_nn y
end
/-! ### views: the mathematics -/
structure View where
  n : Nat
  a : Nat
  b : Nat
  t : Bool
def View.vals (v : View) : List V := [.int (v.n : Int), .int (v.a : Int), .int (v.b : Int), .bl v.t]
def sub (l : List Nat) (a b : Nat) : List Nat := (l.take b).drop a
def trn (t : Bool) (l : List Nat) : List Nat := if t then l.reverse else l
def vw (ts : List (List Nat)) (v : View) : List Nat := trn v.t (sub (tx ts v.n) v.a v.b)
structure Val (ts : List (List Nat)) (v : View) : Prop where
  n : v.n < ts.length
  ab : v.a < v.b
  b : v.b ≤ (tx ts v.n).length
theorem sub_len {l : List Nat} {a b : Nat} (h : b ≤ l.length) : (sub l a b).length = b - a := by
  unfold sub
  rw [List.length_drop, List.length_take]
  omega
theorem trn_len (t : Bool) (l : List Nat) : (trn t l).length = l.length := by cases t <;> simp [trn]
theorem Val.len {ts : List (List Nat)} {v : View} (h : Val ts v) : (vw ts v).length = v.b - v.a := by
  unfold vw
  rw [trn_len, sub_len h.b]
theorem trn_trn (s t : Bool) (l : List Nat) : trn s (trn t l) = trn (xor s t) l := by cases s <;> cases t <;> simp [trn]
theorem trn_app (l m : List Nat) : trn true (l ++ m) = trn true m ++ trn true l := by simp [trn]
theorem sub_all (l : List Nat) : sub l 0 l.length = l := by simp [sub]
theorem sub_sub {l : List Nat} {x y a b : Nat} (h : x + b ≤ y) : sub (sub l x y) a b = sub l (x + a) (x + b) := by
  unfold sub
  rw [List.take_drop, List.drop_drop, List.take_take, Nat.min_eq_left h]
theorem sub_appL {l m : List Nat} {a b : Nat} (h : b ≤ l.length) : sub (l ++ m) a b = sub l a b := by
  unfold sub
  rw [List.take_append_of_le_length h]
theorem sub_appR {l m : List Nat} {a b : Nat} (h : l.length ≤ a) : sub (l ++ m) a b = sub m (a - l.length) (b - l.length) := by
  unfold sub
  rw [List.drop_take, List.drop_append, List.drop_eq_nil_of_le h, List.nil_append, List.drop_take]
  congr 1
  omega
theorem sub_rev {l : List Nat} {a b : Nat} (h : b ≤ l.length) (h2 : a ≤ b) : sub l.reverse a b = (sub l (l.length - b) (l.length - a)).reverse := by
  unfold sub
  rw [List.drop_take, List.drop_reverse, List.take_reverse, List.length_take]
  congr 1
  have e1 : min (l.length - a) l.length = l.length - a := by omega
  rw [e1]
  congr 1
  omega
theorem sub_cut {l : List Nat} {a b c : Nat} (h1 : a ≤ b) (h2 : b ≤ c) : sub l a c = sub l a b ++ sub l b c := by
  unfold sub
  rw [← List.take_append_drop (b - a) ((l.take c).drop a)]
  congr 1
  · rw [List.take_drop, List.take_take]
    congr 2
    omega
  · rw [List.drop_drop]
    congr 1
    omega
theorem sub_nil (l : List Nat) (a : Nat) : sub l a a = [] := by
  unfold sub
  exact List.drop_eq_nil_of_le (by rw [List.length_take]; omega)
def pw (l : List Nat) (k : Nat) : List Nat := (List.replicate k l).flatten
theorem pw_len (l : List Nat) (k : Nat) : (pw l k).length = k * l.length := flat_len l k
theorem pw_add (l : List Nat) (j k : Nat) : pw l (j + k) = pw l j ++ pw l k := by
  unfold pw
  rw [← List.replicate_append_replicate, List.flatten_append]
theorem pw_one (l : List Nat) : pw l 1 = l := by simp [pw]
/-- a part of a power that lies within one time -/
theorem sub_pw1 {l : List Nat} {k j a b : Nat} (hj : j < k) (ha : j * l.length ≤ a) (hb : b ≤ j * l.length + l.length) : sub (pw l k) a b = sub l (a - j * l.length) (b - j * l.length) := by
  obtain ⟨m, rfl⟩ : ∃ m, k = j + (1 + m) := ⟨k - j - 1, by omega⟩
  rw [pw_add, sub_appR (by rw [pw_len]; exact ha), pw_len, pw_add, pw_one, sub_appL (by omega)]
/-- whole times of a power -/
theorem sub_pwk {l : List Nat} {k i j : Nat} (hij : i ≤ j) (hj : j ≤ k) : sub (pw l k) (i * l.length) (j * l.length) = pw l (j - i) := by
  obtain ⟨m, rfl⟩ : ∃ m, k = i + ((j - i) + m) := ⟨k - j, by omega⟩
  rw [pw_add, sub_appR (by rw [pw_len]; exact Nat.le_refl _), pw_len, Nat.sub_self, pw_add]
  have e : j * l.length - i * l.length = (pw l (j - i)).length := by rw [pw_len, Nat.sub_mul]
  rw [e, sub_appL (Nat.le_refl _), sub_all]
theorem trn_pw (t : Bool) (l : List Nat) (k : Nat) : trn t (pw l k) = pw (trn t l) k := by
  cases t with
  | false => rfl
  | true =>
    show (pw l k).reverse = pw l.reverse k
    unfold pw
    induction k with
    | zero => rfl
    | succ k ih => rw [List.replicate_succ, List.flatten_cons, List.reverse_append, ih, List.replicate_succ', List.flatten_append, List.flatten_cons, List.flatten_nil, List.append_nil]

theorem take_succ_tx {ts : List (List Nat)} {i : Nat} (h : i < ts.length) : ts.take (i + 1) = ts.take i ++ [tx ts i] := by
  rw [List.take_add_one, tx_at h]
  rfl
/-! ### rules that are right -/
structure Sound (rs : List Rule) (ts : List (List Nat)) : Prop where
  len : ts.length = rs.length
  ok : ∀ (k : Nat) (r : Rule), rs[k]? = some r → Ok (ts.take k) r ∧ ts[k]? = some (made (ts.take k) r)
  le : ∀ l ∈ ts, l.length ≤ 1000000000000
theorem Good.sound {rs : List Rule} {ts : List (List Nat)} (g : Good rs ts) : Sound rs ts := ⟨g.len, g.ok, fun l h => Nat.le_trans (g.le l h) (by decide)⟩
section
variable {rs : List Rule} {ts : List (List Nat)}
theorem Sound.tx {k : Nat} {r : Rule} (s : Sound rs ts) (h : rs[k]? = some r) : K4.tx ts k = made (ts.take k) r := by
  have e := (s.ok k r h).2
  unfold K4.tx
  rw [List.getD_eq_getElem?_getD, e]
  rfl
theorem Sound.lt {k : Nat} {r : Rule} (s : Sound rs ts) (h : rs[k]? = some r) : k < ts.length := by
  rw [s.len]
  exact (List.getElem?_eq_some_iff.mp h).1
theorem Sound.tk {k i : Nat} {r : Rule} (s : Sound rs ts) (h : rs[k]? = some r) (hi : i < (ts.take k).length) : i < k ∧ i < ts.length ∧ K4.tx (ts.take k) i = K4.tx ts i := by
  rw [List.length_take] at hi
  have h1 : i < k := by omega
  exact ⟨h1, by omega, tx_take h1⟩
/-- what deeper tells, of a view of the rule r -/
def deep (ts : List (List Nat)) : Rule → View → Option View
  | .letters _, _ => none
  | .part i x _, v => some ⟨i, x + v.a, x + v.b, v.t⟩
  | .back i, v => some ⟨i, (tx ts i).length - v.b, (tx ts i).length - v.a, !v.t⟩
  | .power i _, v => let s := v.a / (tx ts i).length * (tx ts i).length
    if v.b > s + (tx ts i).length then none else some ⟨i, v.a - s, v.b - s, v.t⟩
  | .join i j, v => if v.b ≤ (tx ts i).length then some ⟨i, v.a, v.b, v.t⟩ else if v.a ≥ (tx ts i).length then some ⟨j, v.a - (tx ts i).length, v.b - (tx ts i).length, v.t⟩ else none
theorem deep_ok {r : Rule} {v v' : View} (s : Sound rs ts) (h : rs[v.n]? = some r) (hv : Val ts v) (hd : deep ts r v = some v') : Val ts v' ∧ v'.n < v.n ∧ vw ts v' = vw ts v := by
  have hb := hv.b
  have hab := hv.ab
  have ho := (s.ok _ _ h).1
  have htx := s.tx h
  rw [htx] at hb
  cases r with
  | letters z => cases hd
  | part i x y =>
    obtain ⟨o1, o2, o3⟩ := ho
    obtain ⟨k1, k2, k3⟩ := s.tk h o1
    have e : v' = ⟨i, x + v.a, x + v.b, v.t⟩ := (Option.some.inj hd).symm
    subst e
    have hb' : v.b ≤ (sub (tx ts i) x y).length := by rw [← k3]; exact hb
    rw [k3] at o3
    rw [sub_len o3] at hb'
    refine ⟨⟨k2, by show x + v.a < x + v.b; omega, by show x + v.b ≤ (tx ts i).length; omega⟩, k1, ?_⟩
    show trn v.t (sub (tx ts i) (x + v.a) (x + v.b)) = trn v.t (sub (tx ts v.n) v.a v.b)
    rw [htx, show made (ts.take v.n) (.part i x y) = sub (tx (ts.take v.n) i) x y from rfl, k3, sub_sub (by omega)]
  | back i =>
    obtain ⟨k1, k2, k3⟩ := s.tk h ho
    have e : v' = ⟨i, (tx ts i).length - v.b, (tx ts i).length - v.a, !v.t⟩ := (Option.some.inj hd).symm
    subst e
    have hb' : v.b ≤ (tx ts i).reverse.length := by rw [← k3]; exact hb
    rw [List.length_reverse] at hb'
    refine ⟨⟨k2, by show (tx ts i).length - v.b < (tx ts i).length - v.a; omega, by show (tx ts i).length - v.a ≤ (tx ts i).length; omega⟩, k1, ?_⟩
    show trn (!v.t) (sub (tx ts i) _ _) = trn v.t (sub (tx ts v.n) v.a v.b)
    rw [htx, show made (ts.take v.n) (.back i) = (tx (ts.take v.n) i).reverse from rfl, k3, sub_rev hb' (Nat.le_of_lt hab)]
    cases v.t <;> simp [trn]
  | power i k =>
    obtain ⟨o1, o2⟩ := ho
    obtain ⟨k1, k2, k3⟩ := s.tk h o1
    have hb' : v.b ≤ (pw (tx ts i) k).length := by rw [← k3]; exact hb
    rw [pw_len] at hb'
    unfold deep at hd
    dsimp only at hd
    split at hd
    · cases hd
    rename_i hc
    have e := (Option.some.inj hd).symm
    subst e
    have hpos : 0 < (tx ts i).length := by
      rcases Nat.eq_zero_or_pos (tx ts i).length with z | z
      · rw [z] at hb'; omega
      · exact z
    have hd1 : v.a / (tx ts i).length * (tx ts i).length ≤ v.a := Nat.div_mul_le_self _ _
    have hjk : v.a / (tx ts i).length < k := by
      rw [Nat.div_lt_iff_lt_mul hpos]
      omega
    refine ⟨⟨k2, by dsimp only; omega, by dsimp only; omega⟩, k1, ?_⟩
    show trn v.t (sub (tx ts i) _ _) = trn v.t (sub (tx ts v.n) v.a v.b)
    rw [htx, show made (ts.take v.n) (.power i k) = pw (tx (ts.take v.n) i) k from rfl, k3, sub_pw1 hjk hd1 (by omega)]
  | join i j =>
    obtain ⟨o1, o2⟩ := ho
    obtain ⟨k1, k2, k3⟩ := s.tk h o1
    obtain ⟨l1, l2, l3⟩ := s.tk h o2
    have em : made (ts.take v.n) (.join i j) = tx ts i ++ tx ts j := by rw [show made (ts.take v.n) (.join i j) = tx (ts.take v.n) i ++ tx (ts.take v.n) j from rfl, k3, l3]
    rw [em, List.length_append] at hb
    unfold deep at hd
    dsimp only at hd
    split at hd
    · rename_i hc
      have e := (Option.some.inj hd).symm
      subst e
      refine ⟨⟨k2, hab, hc⟩, k1, ?_⟩
      show trn v.t (sub (tx ts i) _ _) = trn v.t (sub (tx ts v.n) v.a v.b)
      rw [htx, em, sub_appL hc]
    · split at hd
      · rename_i hc hc2
        have e := (Option.some.inj hd).symm
        subst e
        refine ⟨⟨l2, by dsimp only; omega, by dsimp only; omega⟩, l1, ?_⟩
        show trn v.t (sub (tx ts j) _ _) = trn v.t (sub (tx ts v.n) v.a v.b)
        rw [htx, em, sub_appR hc2]
      · cases hd
end
structure Pc where
  i : Nat
  a : Nat
  b : Nat
  k : Nat
def Pc.vals (q : Pc) : List V := [.int (q.i : Int), .int (q.a : Int), .int (q.b : Int), .int (q.k : Int)]
def pcv (ts : List (List Nat)) (q : Pc) : List Nat := pw (sub (tx ts q.i) q.a q.b) q.k
/-- the end of one time of the base, whole times, the beginning of another one -/
def divP (i n a b : Nat) : List Pc :=
  (if a % n = 0 then [] else [⟨i, a % n, n, 1⟩]) ++ (if b / n - (a + n - 1) / n = 0 then [] else [⟨i, 0, n, b / n - (a + n - 1) / n⟩]) ++ (if b % n = 0 then [] else [⟨i, 0, b % n, 1⟩])
def divs (ts : List (List Nat)) : Rule → View → List Pc
  | .join i j, v => [⟨i, v.a, (tx ts i).length, 1⟩, ⟨j, 0, v.b - (tx ts i).length, 1⟩]
  | .power i _, v => divP i (tx ts i).length v.a v.b
  | _, _ => []
structure PcOk (ts : List (List Nat)) (m : Nat) (q : Pc) : Prop where
  lt : q.i < m
  n : q.i < ts.length
  ab : q.a < q.b
  b : q.b ≤ (tx ts q.i).length
  k : 1 ≤ q.k
def isL : Rule → Bool
  | .letters _ => true
  | _ => false
theorem up_div {n a : Nat} (hn : 0 < n) : (a + n - 1) / n = if a % n = 0 then a / n else a / n + 1 := by
  have e := Nat.div_add_mod a n
  have hr := Nat.mod_lt a hn
  by_cases h : a % n = 0
  · rw [if_pos h]
    have e2 : a + n - 1 = n * (a / n) + (n - 1) := by omega
    have e3 : (n - 1) / n = 0 := Nat.div_eq_of_lt (by omega)
    rw [e2, Nat.mul_add_div hn, e3]
    rfl
  · rw [if_neg h]
    have e2 : a + n - 1 = n * (a / n + 1) + (a % n - 1) := by rw [Nat.mul_add, Nat.mul_one]; omega
    have e3 : (a % n - 1) / n = 0 := Nat.div_eq_of_lt (by omega)
    rw [e2, Nat.mul_add_div hn, e3]
theorem divP_ok {ts : List (List Nat)} {i m k a b : Nat} (him : i < m) (hi : i < ts.length) (hab : a < b) (hb : b ≤ k * (tx ts i).length) (hs : b > a / (tx ts i).length * (tx ts i).length + (tx ts i).length) :
    (∀ q ∈ divP i (tx ts i).length a b, PcOk ts m q) ∧ ((divP i (tx ts i).length a b).map (pcv ts)).flatten = sub (pw (tx ts i) k) a b := by
  generalize hl : tx ts i = l at hb hs ⊢
  have hn : 0 < l.length := by
    rcases Nat.eq_zero_or_pos l.length with z | z
    · rw [z] at hb; omega
    · exact z
  have ea := Nat.div_add_mod a l.length
  have eb := Nat.div_add_mod b l.length
  have ra := Nat.mod_lt a hn
  have rb := Nat.mod_lt b hn
  rw [Nat.mul_comm] at ea eb
  have hk : b / l.length ≤ k := Nat.div_le_of_le_mul (by rw [Nat.mul_comm]; exact hb)
  have hq : a / l.length + 1 ≤ b / l.length := by
    rw [Nat.le_div_iff_mul_le hn, Nat.add_mul, Nat.one_mul]
    omega
  -- what the last piece is
  have last : sub (pw l k) (b / l.length * l.length) b = if b % l.length = 0 then [] else sub l 0 (b % l.length) := by
    by_cases h : b % l.length = 0
    · rw [if_pos h]
      have e : b / l.length * l.length = b := by omega
      rw [e, sub_nil]
    · rw [if_neg h]
      have hlt : b / l.length < k := by
        rcases Nat.lt_or_ge (b / l.length) k with z | z
        · exact z
        · have z2 := Nat.mul_le_mul_right l.length z
          omega
      rw [sub_pw1 hlt (Nat.le_refl _) (by omega)]
      congr 1 <;> omega
  have wholeq : ∀ j, j ≤ b / l.length → ((if b / l.length - j = 0 then [] else [(⟨i, 0, l.length, b / l.length - j⟩ : Pc)]).map (pcv ts)).flatten = sub (pw l k) (j * l.length) (b / l.length * l.length) := by
    intro j hj
    rw [sub_pwk hj hk]
    by_cases h : b / l.length - j = 0
    · rw [if_pos h, h]
      rfl
    · rw [if_neg h]
      show (pcv ts ⟨i, 0, l.length, b / l.length - j⟩ ++ []) = _
      rw [List.append_nil]
      unfold pcv
      rw [hl, sub_all]
  have lastq : ((if b % l.length = 0 then [] else [(⟨i, 0, b % l.length, 1⟩ : Pc)]).map (pcv ts)).flatten = sub (pw l k) (b / l.length * l.length) b := by
    rw [last]
    by_cases h : b % l.length = 0
    · rw [if_pos h, if_pos h]
      rfl
    · rw [if_neg h, if_neg h]
      show (pcv ts ⟨i, 0, b % l.length, 1⟩ ++ []) = _
      rw [List.append_nil]
      unfold pcv
      rw [hl, pw_one]
  constructor
  · intro q hq'
    unfold divP at hq'
    rcases List.mem_append.mp hq' with h1 | h1
    · rcases List.mem_append.mp h1 with h2 | h2
      · split at h2
        · cases h2
        · rename_i hz
          have e := List.mem_singleton.mp h2
          subst e
          exact ⟨him, hi, ra, by rw [hl]; exact Nat.le_refl _, Nat.le_refl _⟩
      · split at h2
        · cases h2
        · rename_i hz
          have e := List.mem_singleton.mp h2
          subst e
          exact ⟨him, hi, hn, by rw [hl]; exact Nat.le_refl _, Nat.one_le_iff_ne_zero.mpr hz⟩
    · split at h1
      · cases h1
      · rename_i hz
        have e := List.mem_singleton.mp h1
        subst e
        exact ⟨him, hi, Nat.pos_of_ne_zero hz, by rw [hl]; exact Nat.le_of_lt rb, Nat.le_refl _⟩
  · unfold divP
    rw [List.map_append, List.map_append, List.flatten_append, List.flatten_append, lastq, up_div hn]
    by_cases h : a % l.length = 0
    · rw [if_pos h, if_pos h, wholeq _ (by omega)]
      have e : a / l.length * l.length = a := by omega
      rw [e]
      show ([] ++ _) ++ _ = _
      rw [List.nil_append, ← sub_cut (by rw [← e]; exact Nat.mul_le_mul_right _ (by omega)) (by omega)]
    · rw [if_neg h, if_neg h, wholeq _ hq]
      show ((pcv ts ⟨i, a % l.length, l.length, 1⟩ ++ []) ++ _) ++ _ = _
      rw [List.append_nil]
      have e1 : pcv ts ⟨i, a % l.length, l.length, 1⟩ = sub (pw l k) a ((a / l.length + 1) * l.length) := by
        unfold pcv
        rw [hl, pw_one, sub_pw1 (j := a / l.length) (by omega) (by omega) (by rw [Nat.add_mul]; omega)]
        rw [Nat.add_mul, Nat.one_mul]
        dsimp only
        congr 1 <;> omega
      have h3 : (a / l.length + 1) * l.length ≤ b / l.length * l.length := Nat.mul_le_mul_right _ hq
      rw [e1, ← sub_cut (by rw [Nat.add_mul]; omega) h3, ← sub_cut (by rw [Nat.add_mul] at h3; omega) (by omega)]
section
variable {rs : List Rule} {ts : List (List Nat)}
theorem divs_ok {r : Rule} {v : View} (s : Sound rs ts) (h : rs[v.n]? = some r) (hv : Val ts v) (hd : deep ts r v = none) (hl : isL r = false) :
    (∀ q ∈ divs ts r v, PcOk ts v.n q) ∧ ((divs ts r v).map (pcv ts)).flatten = sub (tx ts v.n) v.a v.b := by
  have hb := hv.b
  have hab := hv.ab
  have ho := (s.ok _ _ h).1
  have htx := s.tx h
  rw [htx] at hb
  cases r with
  | letters z => cases hl
  | part i x y => cases hd
  | back i => cases hd
  | power i k =>
    obtain ⟨o1, o2⟩ := ho
    obtain ⟨k1, k2, k3⟩ := s.tk h o1
    have em : made (ts.take v.n) (.power i k) = pw (tx ts i) k := by rw [show made (ts.take v.n) (.power i k) = pw (tx (ts.take v.n) i) k from rfl, k3]
    rw [em, pw_len] at hb
    unfold deep at hd
    dsimp only at hd
    split at hd
    · rename_i hc
      rw [htx, em]
      exact divP_ok k1 k2 hab hb hc
    · cases hd
  | join i j =>
    obtain ⟨o1, o2⟩ := ho
    obtain ⟨k1, k2, k3⟩ := s.tk h o1
    obtain ⟨l1, l2, l3⟩ := s.tk h o2
    have em : made (ts.take v.n) (.join i j) = tx ts i ++ tx ts j := by rw [show made (ts.take v.n) (.join i j) = tx (ts.take v.n) i ++ tx (ts.take v.n) j from rfl, k3, l3]
    rw [em, List.length_append] at hb
    unfold deep at hd
    dsimp only at hd
    split at hd
    · cases hd
    split at hd
    · cases hd
    rename_i h1 h2
    constructor
    · intro q hq
      rcases List.mem_cons.mp hq with e | e
      · subst e
        exact ⟨k1, k2, by dsimp only; omega, Nat.le_refl _, Nat.le_refl _⟩
      · have e := List.mem_singleton.mp e
        subst e
        exact ⟨l1, l2, by dsimp only; omega, by dsimp only; omega, Nat.le_refl _⟩
    · show pcv ts _ ++ (pcv ts _ ++ []) = _
      unfold pcv
      rw [List.append_nil, pw_one, pw_one, htx, em, sub_cut (a := v.a) (b := (tx ts i).length) (c := v.b) (by omega) (by omega), sub_appL (Nat.le_refl _), sub_appR (Nat.le_refl _), Nat.sub_self]
theorem trn_flat (t : Bool) (L : List (List Nat)) : trn t L.flatten = ((if t then L.reverse else L).map (trn t)).flatten := by
  cases t with
  | false =>
    show L.flatten = (L.map (trn false)).flatten
    rw [show trn false = id from rfl, List.map_id]
  | true =>
    show L.flatten.reverse = (L.reverse.map (trn true)).flatten
    rw [show trn true = List.reverse from rfl, List.reverse_flatten, List.map_reverse]
/-- the pieces in their order -/
def parts (ts : List (List Nat)) (r : Rule) (v : View) : List Pc := if v.t then (divs ts r v).reverse else divs ts r v
theorem parts_ok {r : Rule} {v : View} (s : Sound rs ts) (h : rs[v.n]? = some r) (hv : Val ts v) (hd : deep ts r v = none) (hl : isL r = false) :
    (∀ q ∈ parts ts r v, PcOk ts v.n q) ∧ ((parts ts r v).map fun q => pw (trn v.t (sub (tx ts q.i) q.a q.b)) q.k).flatten = vw ts v := by
  obtain ⟨h1, h2⟩ := divs_ok s h hv hd hl
  constructor
  · intro q hq
    unfold parts at hq
    split at hq
    · exact h1 q (List.mem_reverse.mp hq)
    · exact h1 q hq
  · unfold vw
    rw [← h2, trn_flat]
    congr 1
    unfold parts
    cases hvt : v.t with
    | false => simp [pcv, trn_pw]
    | true =>
      simp only [if_true]
      rw [← List.map_reverse, List.map_map]
      refine List.map_congr_left fun q _ => ?_
      show _ = trn true (pcv ts q)
      unfold pcv
      rw [trn_pw]
end
/-! ### a text as it stands -/
structure Cl (K : PySem.W.Frag) (C : Addr) : Prop where
  cl : Cls K C
  nR : NoAttr K C "rules"
  nE : NoAttr K C "lengths"
  nN : NoAttr K C "length"
def LT (H : Hp) (as : List Addr) (vss : List (List V)) : Prop := as.length = vss.length ∧ ∀ (k : Nat) (vs : List V), vss[k]? = some vs → ∃ a, as[k]? = some a ∧ H a = some (.tup vs)
theorem LT.same {H H' : Hp} {as : List Addr} {vss : List (List V)} (h : LT H as vss) (s : Same H H') : LT H' as vss := ⟨h.1, fun k vs e => let ⟨a, e1, e2⟩ := h.2 k vs e; ⟨a, e1, s _ _ e2⟩⟩
theorem LT.updL {H : Hp} {as : List Addr} {vss : List (List V)} {D : Addr} {xs : List V} {o : HO} (h : LT H as vss) (hD : H D = some (.lst xs)) : LT (upd H D o) as vss :=
  ⟨h.1, fun k vs e => let ⟨a, e1, e2⟩ := h.2 k vs e; ⟨a, e1, by rw [upd_ne (ne_of e2 hD (by intro z; cases z))]; exact e2⟩⟩
theorem LT.nil {H : Hp} : LT H [] [] := ⟨rfl, fun k vs e => by simp at e⟩
theorem LT.add {H : Hp} {as : List Addr} {vss : List (List V)} {a : Addr} {vs : List V} (h : LT H as vss) (ha : H a = some (.tup vs)) : LT H (as ++ [a]) (vss ++ [vs]) := by
  refine ⟨by simp [h.1], fun k x e => ?_⟩
  by_cases hk : k < vss.length
  · rw [List.getElem?_append_left hk] at e
    obtain ⟨b, e1, e2⟩ := h.2 k x e
    exact ⟨b, by rw [List.getElem?_append_left (by rw [h.1]; exact hk)]; exact e1, e2⟩
  · have hk2 : k = vss.length := by
      have := (List.getElem?_eq_some_iff.mp e).1
      simp at this
      omega
    subst hk2
    rw [List.getElem?_append_right (Nat.le_refl _), Nat.sub_self] at e
    have e' : vs = x := Option.some.inj e
    subst e'
    exact ⟨a, by rw [← h.1, List.getElem?_append_right (Nat.le_refl _), Nat.sub_self]; rfl, ha⟩
structure TextIs (C : Addr) (H : Hp) (x : Addr) (rs : List Rule) (ts : List (List Nat)) (dx RU LE : Addr) (fs : List (Str × V)) (as : List Addr) : Prop where
  at_ : H x = some (.ins C dx fs)
  fR : fs.lookup ("rules" : Str) = some (.ref RU)
  fE : fs.lookup ("lengths" : Str) = some (.ref LE)
  fN : fs.lookup ("length" : Str) = some (.int ((tx ts (ts.length - 1)).length : Int))
  m1 : fs.lookup ("letter" : Str) = none
  m2 : fs.lookup ("letters" : Str) = none
  hR : H RU = some (.tup (as.map V.ref))
  hE : H LE = some (.tup (ts.map fun l => V.int (l.length : Int)))
  hA : LT H as (rs.map Rule.vals)
  sound : Sound rs ts
def TextAt (C : Addr) (H : Hp) (x : Addr) (rs : List Rule) (ts : List (List Nat)) : Prop := ∃ dx RU LE fs as, TextIs C H x rs ts dx RU LE fs as
theorem TextIs.same {C : Addr} {H H' : Hp} {x : Addr} {rs : List Rule} {ts : List (List Nat)} {dx RU LE : Addr} {fs : List (Str × V)} {as : List Addr} (h : TextIs C H x rs ts dx RU LE fs as) (s : Same H H') : TextIs C H' x rs ts dx RU LE fs as :=
  ⟨s _ _ h.at_, h.fR, h.fE, h.fN, h.m1, h.m2, s _ _ h.hR, s _ _ h.hE, h.hA.same s, h.sound⟩
theorem TextAt.same {C : Addr} {H H' : Hp} {x : Addr} {rs : List Rule} {ts : List (List Nat)} (h : TextAt C H x rs ts) (s : Same H H') : TextAt C H' x rs ts := by
  obtain ⟨dx, RU, LE, fs, as, h⟩ := h
  exact ⟨dx, RU, LE, fs, as, h.same s⟩
section
variable {C : Addr} {H : Hp} {x : Addr} {rs : List Rule} {ts : List (List Nat)} {dx RU LE : Addr} {fs : List (Str × V)} {as : List Addr}
theorem TextIs.rule (h : TextIs C H x rs ts dx RU LE fs as) {k : Nat} {r : Rule} (e : rs[k]? = some r) : ∃ a, atI (as.map V.ref) (k : Int) = some (.ref a) ∧ H a = some (.tup r.vals) := by
  obtain ⟨a, e1, e2⟩ := h.hA.2 k r.vals (by rw [List.getElem?_map, e]; rfl)
  exact ⟨a, atI_nat (by rw [List.getElem?_map, e1]; rfl), e2⟩
theorem len_at {ts : List (List Nat)} {k : Nat} (h : k < ts.length) : atI (ts.map fun l => V.int (l.length : Int)) (k : Int) = some (.int ((tx ts k).length : Int)) :=
  atI_nat (by rw [List.getElem?_map, tx_at h]; rfl)
theorem Sound.rule (s : Sound rs ts) {k : Nat} (h : k < ts.length) : ∃ r, rs[k]? = some r := ⟨rs[k]'(by rw [← s.len]; exact h), List.getElem?_eq_getElem _⟩
theorem Sound.big (s : Sound rs ts) {k : Nat} (h : k < ts.length) : (K4.tx ts k).length ≤ 1000000000000 := s.le _ (tx_mem h)
end
theorem divW {n : Nat} (h0 : 0 < n) (h : n ≤ 1000000000000) (i : Int) : CDivW i (n : Int) := wide_div (b := 41) (by omega) (by rw [Int.natAbs_natCast]; omega) (by decide) (by decide)

section
variable {P : Program} {w : World} {K : PySem.W.Frag} {mg : Str → Option Value} {base : Heap}
/-! ### deeper -/
def spDeeper (C : Addr) : Sp := fun vs H Q _ => ∃ (x y : Addr) (rs : List Rule) (ts : List (List Nat)) (v : View) (r : Rule), vs = [.ref x, .ref y] ∧ TextAt C H x rs ts ∧ H y = some (.tup v.vals) ∧ Val ts v ∧ rs[v.n]? = some r ∧
  (deep ts r v = none → Q .non H) ∧ ∀ v' z H', deep ts r v = some v' → Same H H' → H' z = some (.tup v'.vals) → Q (.ref z) H'
theorem scDe : FnScope ["text", "view", "number", "start", "stop", "turned", "rule", "word", "size", "skipped"] ["text", "view"] (defScope sDeeper) := ⟨rfl, rfl, rfl, by decide +kernel, rfl, by decide +kernel, by decide +kernel⟩
theorem ok_deeper {C f : Addr} {fd : FuncData} (F : Fun K "deeper" "deeper" sDeeper f fd) (hm : mg "deeper" = some (.ref f)) (b : Binds K fd ["text", "view"] []) (D : Cl K C) : Cal P w K mg base 1 "deeper" (spDeeper C) [] := by
  refine mkCal F hm b scDe (fun vs H Q E h => ?_) (fun cdv A outer s H vs Q E hr h => ?_)
  · obtain ⟨x, y, rs, ts, v, r, rfl, _⟩ := h
    rfl
  obtain ⟨x, y, rs, ts, v, r, rfl, ⟨dx, RU, LE, fs, as, hX⟩, hy, hv, er, q0, q1⟩ := h
  refine ⟨_, (pss_cons (ps_asg (pv 1) (pg_tup rfl (pgs_cons (pg_name (i := 2) scDe.nd rfl (.inl rfl)) (pgs_cons (pg_name (i := 3) scDe.nd rfl (.inl rfl)) (pgs_cons (pg_name (i := 4) scDe.nd rfl (.inl rfl)) (pgs_cons (pg_name (i := 5) scDe.nd rfl (.inl rfl)) pgs_nil))))))
    (pss_cons (ps_set (i := 6) scDe.nd rfl (.inl rfl) (pe_ix ix_tup (pe_fld (pv 0) rfl) (pv 2) (fun _ _ => rfl)))
    (pss_cons (ps_set (i := 7) scDe.nd rfl (.inl rfl) (pe_ix ix_tup (pv 6) pe_int (fun _ _ => rfl)))
    (pss_cons (ps_if (pt_cmpR op_eq (pv 7) pe_str (nomark _)) (pss_one (ps_ret pe_non)) pss_nil)
    (pss_cons (ps_if (pt_cmpR op_eq (pv 7) pe_str (nomark _)) (pss_one (ps_ret (pe_tup (pa_cons (pe_ix ix_tup (pv 6) pe_int (fun _ _ => rfl)) (pa_cons (pe_op op_add (pe_ix ix_tup (pv 6) pe_int (fun _ _ => rfl)) (pv 3)) (pa_cons (pe_op op_add (pe_ix ix_tup (pv 6) pe_int (fun _ _ => rfl)) (pv 4)) (pa_cons (pv 5) pa_nil))))))) pss_nil)
    (pss_cons (ps_set (i := 8) scDe.nd rfl (.inl rfl) (pe_ix ix_tup (pe_fld (pv 0) rfl) (pe_ix ix_tup (pv 6) pe_int (fun _ _ => rfl)) (fun _ _ => rfl)))
    (pss_cons (ps_if (pt_cmpR op_eq (pv 7) pe_str (nomark _)) (pss_one (ps_ret (pe_tup (pa_cons (pe_ix ix_tup (pv 6) pe_int (fun _ _ => rfl)) (pa_cons (pe_op op_sub (pv 8) (pv 4)) (pa_cons (pe_op op_sub (pv 8) (pv 3)) (pa_cons (pe_not (pv 5)) pa_nil))))))) pss_nil)
    (pss_cons (ps_if (pt_cmpR op_eq (pv 7) pe_str (nomark _)) (pss_cons (ps_set (i := 9) scDe.nd rfl (.inl rfl) (pe_op op_mul (pe_op op_fdivW (pv 3) (pv 8)) (pv 8)))
    (pss_cons (ps_if (pt_cmpR op_gt (pv 4) (pe_op op_add (pv 9) (pv 8)) (nomark _)) (pss_one (ps_ret pe_non)) pss_nil)
    (pss_one (ps_ret (pe_tup (pa_cons (pe_ix ix_tup (pv 6) pe_int (fun _ _ => rfl)) (pa_cons (pe_op op_sub (pv 3) (pv 9)) (pa_cons (pe_op op_sub (pv 4) (pv 9)) (pa_cons (pv 5) pa_nil))))))))) pss_nil)
    (pss_cons (ps_if (pt_cmpR op_le (pv 4) (pv 8) (nomark _)) (pss_one (ps_ret (pe_tup (pa_cons (pe_ix ix_tup (pv 6) pe_int (fun _ _ => rfl)) (pa_cons (pv 3) (pa_cons (pv 4) (pa_cons (pv 5) pa_nil))))))) pss_nil)
    (pss_cons (ps_if (pt_cmpR op_ge (pv 3) (pv 8) (nomark _)) (pss_one (ps_ret (pe_tup (pa_cons (pe_ix ix_tup (pv 6) pe_int (fun _ _ => rfl)) (pa_cons (pe_op op_sub (pv 3) (pv 8)) (pa_cons (pe_op op_sub (pv 4) (pv 8)) (pa_cons (pv 5) pa_nil))))))) pss_nil)
    (pss_one (ps_ret pe_non)))))))))))), ?_⟩
  obtain ⟨a, ea, ha⟩ := hX.rule er
  have hA : SqT K H a r.vals := SqT.of ha
  have s := hX.sound
  refine ⟨_, rfl, y, _, rfl, SqT.of hy, rfl, _, _, rfl, _, _, rfl, _, _, rfl, _, _, rfl, rfl, ?_⟩
  refine ⟨_, rfl, x, C, dx, _, _, rfl, hX.at_, D.cl, D.nR, hX.fR, _, rfl, RU, _, (v.n : Int), _, rfl, rfl, SqT.of hX.hR, ea, ?_⟩
  have fin : ∀ (v' : View) (vs : List V), vs = v'.vals → deep ts r v = some v' → vs.length ≤ sizeLine ∧ ∀ p, H p = none → Q (.ref p) (upd H p (.tup vs)) := by
    intro v' vs e hd
    subst e
    exact ⟨by show 4 ≤ sizeLine; decide, fun p np => q1 v' p _ hd (same_new np) upd_same⟩
  have ho := (s.ok _ _ er).1
  have hb := hv.b
  have hab := hv.ab
  rw [s.tx er] at hb
  have szat : ∀ {i : Nat}, i < ts.length → atI (ts.map fun l => V.int (l.length : Int)) (i : Int) = some (.int ((tx ts i).length : Int)) := fun h => len_at h
  cases r with
  | letters z =>
    refine ⟨_, rfl, a, _, 0, _, rfl, rfl, hA, atI_nat (j := 0) rfl, ?_⟩
    refine ⟨_, rfl, rfl, _, rfl, ifT (by decide +kernel) ?_⟩
    exact q0 rfl
  | part i l u =>
    refine ⟨_, rfl, a, _, 0, _, rfl, rfl, hA, atI_nat (j := 0) rfl, ?_⟩
    refine ⟨_, rfl, rfl, _, rfl, ifF (by decide +kernel) ?_⟩
    refine ⟨_, rfl, rfl, _, rfl, ifT (by decide +kernel) ?_⟩
    refine ⟨_, rfl, a, _, 1, _, rfl, rfl, hA, atI_nat (j := 1) rfl, ?_⟩
    refine ⟨_, rfl, a, _, 2, _, rfl, rfl, hA, atI_nat (j := 2) rfl, _, rfl, _, _, rfl, rfl, ?_⟩
    refine ⟨_, rfl, a, _, 2, _, rfl, rfl, hA, atI_nat (j := 2) rfl, _, rfl, _, _, rfl, rfl, _, rfl, ?_⟩
    exact fin _ _ rfl rfl
  | back i =>
    obtain ⟨k1, k2, k3⟩ := s.tk er ho
    refine ⟨_, rfl, a, _, 0, _, rfl, rfl, hA, atI_nat (j := 0) rfl, ?_⟩
    refine ⟨_, rfl, rfl, _, rfl, ifF (by decide +kernel) ?_⟩
    refine ⟨_, rfl, rfl, _, rfl, ifF (by decide +kernel) ?_⟩
    refine ⟨_, rfl, x, C, dx, _, _, rfl, hX.at_, D.cl, D.nE, hX.fE, _, rfl, a, _, 1, _, rfl, rfl, hA, atI_nat (j := 1) rfl, LE, _, (i : Int), _, rfl, rfl, SqT.of hX.hE, szat k2, ?_⟩
    refine ⟨_, rfl, rfl, _, rfl, ifT (by decide +kernel) ?_⟩
    refine ⟨_, rfl, a, _, 1, _, rfl, rfl, hA, atI_nat (j := 1) rfl, ?_⟩
    refine ⟨_, rfl, _, rfl, _, _, rfl, rfl, _, rfl, _, rfl, _, _, rfl, rfl, _, rfl, v.t, rfl, ?_⟩
    refine fin ⟨i, (tx ts i).length - v.b, (tx ts i).length - v.a, !v.t⟩ _ ?_ rfl
    have hb' : v.b ≤ (tx (ts.take v.n) i).reverse.length := hb
    rw [List.length_reverse, k3] at hb'
    simp only [View.vals, List.cons.injEq, V.int.injEq, true_and, and_true]
    omega
  | power i k =>
    obtain ⟨o1, o2⟩ := ho
    obtain ⟨k1, k2, k3⟩ := s.tk er o1
    have hb' : v.b ≤ (pw (tx ts i) k).length := by rw [← k3]; exact hb
    rw [pw_len] at hb'
    have hpos : 0 < (tx ts i).length := by
      rcases Nat.eq_zero_or_pos (tx ts i).length with z | z
      · rw [z] at hb'; omega
      · exact z
    have hbig := s.big k2
    refine ⟨_, rfl, a, _, 0, _, rfl, rfl, hA, atI_nat (j := 0) rfl, ?_⟩
    refine ⟨_, rfl, rfl, _, rfl, ifF (by decide +kernel) ?_⟩
    refine ⟨_, rfl, rfl, _, rfl, ifF (by decide +kernel) ?_⟩
    refine ⟨_, rfl, x, C, dx, _, _, rfl, hX.at_, D.cl, D.nE, hX.fE, _, rfl, a, _, 1, _, rfl, rfl, hA, atI_nat (j := 1) rfl, LE, _, (i : Int), _, rfl, rfl, SqT.of hX.hE, szat k2, ?_⟩
    refine ⟨_, rfl, rfl, _, rfl, ifF (by decide +kernel) ?_⟩
    refine ⟨_, rfl, rfl, _, rfl, ifT (by decide +kernel) ?_⟩
    have esk : ((v.a : Int) / ((tx ts i).length : Int)) * ((tx ts i).length : Int) = ((v.a / (tx ts i).length * (tx ts i).length : Nat) : Int) := rfl
    have hd1 : v.a / (tx ts i).length * (tx ts i).length ≤ v.a := Nat.div_mul_le_self _ _
    refine ⟨_, rfl, _, rfl, _, _, rfl, rfl, divW hpos hbig _, _, rfl, _, _, rfl, rfl, .inr ⟨by omega, by omega⟩, ?_⟩
    refine ⟨_, rfl, _, rfl, _, rfl, _, _, rfl, rfl, _, _, rfl, rfl, _, rfl, ?_⟩
    have ed : deep ts (.power i k) v = if v.b > v.a / (tx ts i).length * (tx ts i).length + (tx ts i).length then none else some ⟨i, v.a - v.a / (tx ts i).length * (tx ts i).length, v.b - v.a / (tx ts i).length * (tx ts i).length, v.t⟩ := rfl
    refine ite2 (fun z => ?_) (fun z => ?_)
    · have z1 : ((v.a : Int) / ((tx ts i).length : Int)) * ((tx ts i).length : Int) + ((tx ts i).length : Int) < (v.b : Int) := of_decide_eq_true z
      rw [esk] at z1
      exact q0 (by rw [ed, if_pos (by omega)])
    · have z1 : ¬ ((v.a : Int) / ((tx ts i).length : Int)) * ((tx ts i).length : Int) + ((tx ts i).length : Int) < (v.b : Int) := fun h => z (decide_eq_true h)
      rw [esk] at z1
      refine ⟨_, rfl, a, _, 1, _, rfl, rfl, hA, atI_nat (j := 1) rfl, ?_⟩
      refine ⟨_, rfl, _, rfl, _, _, rfl, rfl, _, rfl, _, rfl, _, _, rfl, rfl, _, rfl, ?_⟩
      refine fin ⟨i, v.a - v.a / (tx ts i).length * (tx ts i).length, v.b - v.a / (tx ts i).length * (tx ts i).length, v.t⟩ _ ?_ (by rw [ed, if_neg (by omega)])
      simp only [View.vals, List.cons.injEq, V.int.injEq, true_and, and_true]
      rw [esk]
      omega
  | join i j =>
    obtain ⟨o1, o2⟩ := ho
    obtain ⟨k1, k2, k3⟩ := s.tk er o1
    refine ⟨_, rfl, a, _, 0, _, rfl, rfl, hA, atI_nat (j := 0) rfl, ?_⟩
    refine ⟨_, rfl, rfl, _, rfl, ifF (by decide +kernel) ?_⟩
    refine ⟨_, rfl, rfl, _, rfl, ifF (by decide +kernel) ?_⟩
    refine ⟨_, rfl, x, C, dx, _, _, rfl, hX.at_, D.cl, D.nE, hX.fE, _, rfl, a, _, 1, _, rfl, rfl, hA, atI_nat (j := 1) rfl, LE, _, (i : Int), _, rfl, rfl, SqT.of hX.hE, szat k2, ?_⟩
    refine ⟨_, rfl, rfl, _, rfl, ifF (by decide +kernel) ?_⟩
    refine ⟨_, rfl, rfl, _, rfl, ifF (by decide +kernel) ?_⟩
    have ed : deep ts (.join i j) v = if v.b ≤ (tx ts i).length then some ⟨i, v.a, v.b, v.t⟩ else if v.a ≥ (tx ts i).length then some ⟨j, v.a - (tx ts i).length, v.b - (tx ts i).length, v.t⟩ else none := rfl
    refine ⟨_, rfl, _, rfl, _, _, rfl, rfl, _, rfl, ?_⟩
    refine ite2 (fun z => ?_) (fun z => ?_)
    · have z1 : (v.b : Int) ≤ ((tx ts i).length : Int) := of_decide_eq_true z
      refine ⟨_, rfl, a, _, 1, _, rfl, rfl, hA, atI_nat (j := 1) rfl, ?_⟩
      refine ⟨_, rfl, _, rfl, _, rfl, ?_⟩
      exact fin ⟨i, v.a, v.b, v.t⟩ _ rfl (by rw [ed, if_pos (by omega)])
    · have z1 : ¬ (v.b : Int) ≤ ((tx ts i).length : Int) := fun h => z (decide_eq_true h)
      refine ⟨_, rfl, _, rfl, _, _, rfl, rfl, _, rfl, ?_⟩
      refine ite2 (fun z => ?_) (fun z => ?_)
      · have z2 : ((tx ts i).length : Int) ≤ (v.a : Int) := of_decide_eq_true z
        refine ⟨_, rfl, a, _, 2, _, rfl, rfl, hA, atI_nat (j := 2) rfl, ?_⟩
        refine ⟨_, rfl, _, rfl, _, _, rfl, rfl, _, rfl, _, rfl, _, _, rfl, rfl, _, rfl, ?_⟩
        refine fin ⟨j, v.a - (tx ts i).length, v.b - (tx ts i).length, v.t⟩ _ ?_ (by rw [ed, if_neg (by omega), if_pos (by omega)])
        simp only [View.vals, List.cons.injEq, V.int.injEq, true_and, and_true]
        omega
      · have z2 : ¬ ((tx ts i).length : Int) ≤ (v.a : Int) := fun h => z (decide_eq_true h)
        exact q0 (by rw [ed, if_neg (by omega), if_neg (by omega)])
end
section
variable {P : Program} {w : World} {K : PySem.W.Frag} {mg : Str → Option Value} {base : Heap}
/-! ### settled, view_of -/
structure Sett (rs : List Rule) (ts : List (List Nat)) (v : View) (r : Rule) : Prop where
  val : Val ts v
  rule : rs[v.n]? = some r
  deep : deep ts r v = none
def spSettled (C : Addr) : Sp := fun vs H Q _ => ∃ (x y : Addr) (rs : List Rule) (ts : List (List Nat)) (v : View), vs = [.ref x, .ref y] ∧ TextAt C H x rs ts ∧ H y = some (.tup v.vals) ∧ Val ts v ∧
  ∀ v' z r H', Same H H' → H' z = some (.tup v'.vals) → Sett rs ts v' r → vw ts v' = vw ts v → v'.n ≤ v.n → Q (.ref z) H'
theorem scSe : FnScope ["text", "view", "found"] ["text", "view"] (defScope sSettled) := ⟨rfl, rfl, rfl, by decide +kernel, rfl, by decide +kernel, by decide +kernel⟩
theorem ok_settled {C f : Addr} {fd : FuncData} (F : Fun K "settled" "settled" sSettled f fd) (hm : mg "settled" = some (.ref f)) (b : Binds K fd ["text", "view"] []) (GD : Cal P w K mg base 1 "deeper" (spDeeper C) []) : Cal P w K mg base 2 "settled" (spSettled C) [] := by
  refine mkCal F hm b scSe (fun vs H Q E h => ?_) (fun cdv A outer s H vs Q E hr h => ?_)
  · obtain ⟨x, y, rs, ts, v, rfl, _⟩ := h
    rfl
  obtain ⟨x, y, rs, ts, v, rfl, hX, hy, hv, q⟩ := h
  have snd : Sound rs ts := by obtain ⟨_, _, _, _, _, h⟩ := hX; exact h.sound
  refine ⟨_, (pss_cons (ps_set (i := 2) scSe.nd rfl (.inl rfl) (pv 1))
    (pss_cons (ps_while PassesOwn.never (pt_cmpR op_notN (pv 2) pe_non (nomark _)) (pss_cons (ps_set (i := 1) scSe.nd rfl (.inl rfl) (pv 2))
    (pss_one (ps_set (i := 2) scSe.nd rfl (.inl rfl) (pe_c GD hr (by decide) (by rfl) (pa_cons (pv 0) (pa_cons (pv 1) pa_nil)))))))
    (pss_one (ps_ret (pv 1))))), ?_⟩
  refine ⟨_, rfl, fun m σ H' => Same H H' ∧ ∃ (v' : View) (z : Addr), H' z = some (.tup v'.vals) ∧ Val ts v' ∧ vw ts v' = vw ts v ∧ v'.n ≤ v.n ∧
      ((∃ u, σ = [some (.ref x), some u, some (.ref z)] ∧ m = v'.n + 1) ∨ (σ = [some (.ref x), some (.ref z), some .non] ∧ m = 0 ∧ ∃ r, Sett rs ts v' r)),
    ⟨v.n + 1, Same.refl H, v, y, hy, hv, rfl, Nat.le_refl _, .inl ⟨_, rfl, rfl⟩⟩, ?_⟩
  rintro m σ H1 ⟨s1, v', z, hz, hv', e', hn', ⟨u, rfl, rfl⟩ | ⟨rfl, rfl, r, hs⟩⟩
  · refine ⟨_, rfl, rfl, _, rfl, ifT rfl ?_⟩
    refine ⟨fun σ' H' => ∃ m' < v'.n + 1, Same H H' ∧ ∃ (v2 : View) (z : Addr), H' z = some (.tup v2.vals) ∧ Val ts v2 ∧ vw ts v2 = vw ts v ∧ v2.n ≤ v.n ∧
      ((∃ u, σ' = [some (.ref x), some u, some (.ref z)] ∧ m' = v2.n + 1) ∨ (σ' = [some (.ref x), some (.ref z), some .non] ∧ m' = 0 ∧ ∃ r, Sett rs ts v2 r)), fun σ' H' h => h, ?_⟩
    obtain ⟨r, er⟩ := snd.rule hv'.n
    refine ⟨_, rfl, _, rfl, _, rfl, x, z, rs, ts, v', r, rfl, hX.same s1, hz, hv', er, fun hd => ?_, fun v2 z2 H2 hd s2 hz2 => ?_⟩
    · exact ⟨0, Nat.succ_pos _, s1, v', z, hz, hv', e', hn', .inr ⟨rfl, rfl, r, hv', er, hd⟩⟩
    · obtain ⟨h1, h2, h3⟩ := deep_ok snd er hv' hd
      exact ⟨v2.n + 1, by omega, s1.trans s2, v2, z2, hz2, h1, h3.trans e', by omega, .inl ⟨_, rfl, rfl⟩⟩
  · refine ⟨_, rfl, rfl, _, rfl, ifF rfl ?_⟩
    exact ⟨_, rfl, q v' z r H1 s1 hz hs e' hn'⟩
def spViewOf (C : Addr) : Sp := fun vs H Q _ => ∃ (x : Addr) (rs : List Rule) (ts : List (List Nat)) (a b : Nat), vs = [.ref x, .int (a : Int), .int (b : Int)] ∧ TextAt C H x rs ts ∧ 0 < ts.length ∧ a < b ∧ b ≤ (tx ts (ts.length - 1)).length ∧
  ∀ v' z r H', Same H H' → H' z = some (.tup v'.vals) → Sett rs ts v' r → vw ts v' = sub (tx ts (ts.length - 1)) a b → Q (.ref z) H'
theorem scVo : FnScope ["text", "start", "stop"] ["text", "start", "stop"] (defScope sViewOf) := ⟨rfl, rfl, rfl, by decide +kernel, rfl, by decide +kernel, by decide +kernel⟩
theorem ok_view_of {C f : Addr} {fd : FuncData} (F : Fun K "view_of" "view_of" sViewOf f fd) (hm : mg "view_of" = some (.ref f)) (b : Binds K fd ["text", "start", "stop"] []) (T : Txt mg) (D : Cl K C) (GSe : Cal P w K mg base 2 "settled" (spSettled C) []) : Cal P w K mg base 3 "view_of" (spViewOf C) [] := by
  refine mkCal F hm b scVo (fun vs H Q E h => ?_) (fun cdv A outer s H vs Q E hr h => ?_)
  · obtain ⟨x, rs, ts, a, b, rfl, _⟩ := h
    rfl
  obtain ⟨x, rs, ts, a, b, rfl, hX, h0, hab, hb, q⟩ := h
  refine ⟨_, (pss_one (ps_ret (pe_c GSe hr (by decide) (by rfl) (pa_cons (pv 0) (pa_cons (pe_tup (pa_cons (pe_op op_sub (pe_callB call_len_seq (by rfl) T.len PySem.boot_len (pa_cons (pe_fld (pv 0) rfl) pa_nil)) pe_int) (pa_cons (pv 1) (pa_cons (pv 2) (pa_cons pe_bl pa_nil))))) pa_nil))))), ?_⟩
  have hX' := hX
  obtain ⟨dx, RU, LE, fs, as, hI⟩ := hX'
  have elen : (as.map V.ref).length = ts.length := by rw [List.length_map, hI.hA.1, List.length_map, hI.sound.len]
  refine ⟨_, rfl, _, rfl, x, C, dx, _, _, rfl, hI.at_, D.cl, D.nR, hI.fR, RU, _, rfl, .inr (SqT.of hI.hR), _, _, rfl, rfl, _, rfl, _, rfl, by show 4 ≤ sizeLine; decide, fun y ny => ?_⟩
  refine ⟨x, y, rs, ts, ⟨ts.length - 1, a, b, false⟩, rfl, hX.same (same_new ny), ?_, ⟨by dsimp only; omega, hab, hb⟩, fun v' z r H' s' hz hs e' hn => ?_⟩
  · rw [upd_same, elen]
    simp only [View.vals, Option.some.injEq, HO.tup.injEq, List.cons.injEq, V.int.injEq, true_and, and_true]
    omega
  · exact q v' z r H' ((same_new ny).trans s') hz hs e'
/-! ### spelled_by -/
def spSpelledBy (C : Addr) : Sp := fun vs H Q _ => ∃ (x y : Addr) (rs : List Rule) (ts : List (List Nat)) (v : View) (r : Rule), vs = [.ref x, .ref y] ∧ TextAt C H x rs ts ∧ H y = some (.tup v.vals) ∧ Val ts v ∧ rs[v.n]? = some r ∧
  (isL r = true → Q (.str (S (vw ts v))) H) ∧ (isL r = false → Q .non H)
theorem scSb : FnScope ["text", "view", "number", "start", "stop", "turned", "rule", "letters"] ["text", "view"] (defScope sSpelledBy) := ⟨rfl, rfl, rfl, by decide +kernel, rfl, by decide +kernel, by decide +kernel⟩
theorem ok_spelled_by {C f : Addr} {fd : FuncData} (F : Fun K "spelled_by" "spelled_by" sSpelledBy f fd) (hm : mg "spelled_by" = some (.ref f)) (b : Binds K fd ["text", "view"] []) (D : Cl K C) : Cal P w K mg base 1 "spelled_by" (spSpelledBy C) [] := by
  refine mkCal F hm b scSb (fun vs H Q E h => ?_) (fun cdv A outer s H vs Q E hr h => ?_)
  · obtain ⟨x, y, rs, ts, v, r, rfl, _⟩ := h
    rfl
  obtain ⟨x, y, rs, ts, v, r, rfl, ⟨dx, RU, LE, fs, as, hX⟩, hy, hv, er, q1, q0⟩ := h
  refine ⟨_, (pss_cons (ps_asg (pv 1) (pg_tup rfl (pgs_cons (pg_name (i := 2) scSb.nd rfl (.inl rfl)) (pgs_cons (pg_name (i := 3) scSb.nd rfl (.inl rfl)) (pgs_cons (pg_name (i := 4) scSb.nd rfl (.inl rfl)) (pgs_cons (pg_name (i := 5) scSb.nd rfl (.inl rfl)) pgs_nil))))))
    (pss_cons (ps_set (i := 6) scSb.nd rfl (.inl rfl) (pe_ix ix_tup (pe_fld (pv 0) rfl) (pv 2) (fun _ _ => rfl)))
    (pss_cons (ps_if (pt_cmpR op_ne (pe_ix ix_tup (pv 6) pe_int (fun _ _ => rfl)) pe_str (nomark _)) (pss_one (ps_ret pe_non)) pss_nil)
    (pss_cons (ps_set (i := 7) scSb.nd rfl (.inl rfl) (pe_slice sl_str (pe_ix ix_tup (pv 6) pe_int (fun _ _ => rfl)) (po_some (pv 3)) (po_some (pv 4))))
    (pss_one (ps_ret (pe_ifExp (pt_val (pv 5)) (pe_revS (pv 7)) (pv 7)))))))), ?_⟩
  obtain ⟨a, ea, ha⟩ := hX.rule er
  have hA : SqT K H a r.vals := SqT.of ha
  have s := hX.sound
  refine ⟨_, rfl, y, _, rfl, SqT.of hy, rfl, _, _, rfl, _, _, rfl, _, _, rfl, _, _, rfl, rfl, ?_⟩
  refine ⟨_, rfl, x, C, dx, _, _, rfl, hX.at_, D.cl, D.nR, hX.fR, _, rfl, RU, _, (v.n : Int), _, rfl, rfl, SqT.of hX.hR, ea, ?_⟩
  have hb := hv.b
  have hab := hv.ab
  have etx := s.tx er
  cases r with
  | letters z =>
    have ho := (s.ok _ _ er).1
    have etz : tx ts v.n = z := etx
    rw [etz] at hb
    have evw : vw ts v = trn v.t (sub z v.a v.b) := by unfold vw; rw [etz]
    refine ⟨_, rfl, a, _, 0, _, rfl, rfl, hA, atI_nat (j := 0) rfl, rfl, _, rfl, ifF (by decide +kernel) ?_⟩
    refine ⟨_, rfl, a, _, 1, _, rfl, rfl, hA, atI_nat (j := 1) rfl, _, rfl, _, rfl, _, rfl, _, rfl, S z, rfl, Sz (by have := ho.1; omega), ?_⟩
    rw [cut_S hb (Nat.le_of_lt hab)]
    have q' := q1 rfl
    rw [evw] at q'
    have hlen : ((z.take v.b).drop v.a).length ≤ 64 := by
      rw [List.length_drop, List.length_take]
      have := ho.1
      omega
    refine ⟨_, rfl, v.t, rfl, ?_⟩
    cases hvt : v.t with
    | true =>
      rw [hvt] at q'
      exact ifT rfl ⟨_, rfl, _, rfl, by omega, q'⟩
    | false =>
      rw [hvt] at q'
      exact ifF rfl ⟨_, rfl, q'⟩
  | part i l u => exact ⟨_, rfl, a, _, 0, _, rfl, rfl, hA, atI_nat (j := 0) rfl, rfl, _, rfl, ifT (by decide +kernel) (q0 rfl)⟩
  | back i => exact ⟨_, rfl, a, _, 0, _, rfl, rfl, hA, atI_nat (j := 0) rfl, rfl, _, rfl, ifT (by decide +kernel) (q0 rfl)⟩
  | power i k => exact ⟨_, rfl, a, _, 0, _, rfl, rfl, hA, atI_nat (j := 0) rfl, rfl, _, rfl, ifT (by decide +kernel) (q0 rfl)⟩
  | join i j => exact ⟨_, rfl, a, _, 0, _, rfl, rfl, hA, atI_nat (j := 0) rfl, rfl, _, rfl, ifT (by decide +kernel) (q0 rfl)⟩
/-! ### divided_power -/
def spDivP : Sp := fun vs H Q _ => ∃ i n a b : Nat, vs = [.int (i : Int), .int (n : Int), .int (a : Int), .int (b : Int)] ∧ 0 < n ∧ n ≤ 1000000000000 ∧ (a + n - 1) / n ≤ b / n ∧
  ∀ (D : Addr) (as : List Addr) H', Same H H' → H D = none → H' D = some (.lst (as.map V.ref)) → LT H' as ((divP i n a b).map Pc.vals) → Q (.ref D) H'
theorem scDp : FnScope ["base", "size", "start", "stop", "parts", "whole"] ["base", "size", "start", "stop"] (defScope sDividedPower) := ⟨rfl, rfl, rfl, by decide +kernel, rfl, by decide +kernel, by decide +kernel⟩
theorem ok_divP {f : Addr} {fd : FuncData} (F : Fun K "divided_power" "divided_power" sDividedPower f fd) (hm : mg "divided_power" = some (.ref f)) (b : Binds K fd ["base", "size", "start", "stop"] []) : Cal P w K mg base 1 "divided_power" spDivP [] := by
  refine mkCal F hm b scDp (fun vs H Q E h => ?_) (fun cdv A outer s H vs Q E hr h => ?_)
  · obtain ⟨i, n, a, b, rfl, _⟩ := h
    rfl
  obtain ⟨i, n, a, b, rfl, hn, hbig, hle, q⟩ := h
  refine ⟨_, (pss_cons (ps_set (i := 4) scDp.nd rfl (.inl rfl) (pe_lst pa_nil))
    (pss_cut (ps_if (pt_truth (pe_op op_mod (pv 2) (pv 1)) (by intro _; rfl)) (pss_one (ps_expr (pe_bm PySem.F.plainAttrs_list PySem.F.slot_list_append PySem.F.type_list_append mt_append (pv 4) (pa_cons (pe_tup (pa_cons (pv 0) (pa_cons (pe_op op_mod (pv 2) (pv 1)) (pa_cons (pv 1) (pa_cons pe_int pa_nil))))) pa_nil)))) pss_nil)
    (pss_cons (ps_set (i := 5) scDp.nd rfl (.inl rfl) (pe_op op_sub (pe_op op_fdivW (pv 3) (pv 1)) (pe_op op_fdivW (pe_op op_sub (pe_op op_add (pv 2) (pv 1)) pe_int) (pv 1))))
    (pss_cut (ps_if (pt_truth (pv 5) (by intro _; rfl)) (pss_one (ps_expr (pe_bm PySem.F.plainAttrs_list PySem.F.slot_list_append PySem.F.type_list_append mt_append (pv 4) (pa_cons (pe_tup (pa_cons (pv 0) (pa_cons pe_int (pa_cons (pv 1) (pa_cons (pv 5) pa_nil))))) pa_nil)))) pss_nil)
    (pss_cut (ps_if (pt_truth (pe_op op_mod (pv 3) (pv 1)) (by intro _; rfl)) (pss_one (ps_expr (pe_bm PySem.F.plainAttrs_list PySem.F.slot_list_append PySem.F.type_list_append mt_append (pv 4) (pa_cons (pe_tup (pa_cons (pv 0) (pa_cons pe_int (pa_cons (pe_op op_mod (pv 3) (pv 1)) (pa_cons pe_int pa_nil))))) pa_nil)))) pss_nil)
    (pss_one (ps_ret (pv 4)))))))), ?_⟩
  refine ⟨Nat.zero_le _, fun D nD => ?_⟩
  -- a piece more
  have push : ∀ (H1 : Hp) (as : List Addr) (qs : List Pc) (pc : Pc) (vs : List V), vs = pc.vals → Same H H1 → H1 D = some (.lst (as.map V.ref)) → LT H1 as (qs.map Pc.vals) → qs.length ≤ 10 → ∀ (R : Hp → Prop),
      (∀ as' H2, Same H H2 → H2 D = some (.lst (as'.map V.ref)) → LT H2 as' ((qs ++ [pc]).map Pc.vals) → R H2) →
      vs.length ≤ sizeLine ∧ ∀ p, H1 p = none → ∃ l xs v, V.ref D = .ref l ∧ [V.ref p] = [v] ∧ (upd H1 p (.tup vs)) l = some (.lst xs) ∧ xs.length < sizeLine ∧ R (upd (upd H1 p (.tup vs)) l (.lst (xs ++ [v]))) := by
    intro H1 as qs pc vs e s1 hD hL hq R hR
    subst e
    refine ⟨by show 4 ≤ sizeLine; decide, fun p np => ?_⟩
    have hDp : D ≠ p := ne_of_none hD np
    have hD' : (upd H1 p (.tup pc.vals)) D = some (.lst (as.map V.ref)) := by rw [upd_ne hDp]; exact hD
    refine ⟨D, _, _, rfl, rfl, hD', by rw [List.length_map, hL.1, List.length_map]; exact small1000 (by omega), ?_⟩
    refine hR (as ++ [p]) _ (fun c o hc => ?_) (by rw [upd_same]; simp) ?_
    · rw [upd_ne (ne_of_none hc nD), upd_ne (ne_of_none (s1 _ _ hc) np)]
      exact s1 _ _ hc
    · rw [List.map_append]
      exact ((hL.same (same_new np)).add upd_same).updL hD'
  refine ⟨fun σ H' => ∃ as, σ = [some (.int (i : Int)), some (.int (n : Int)), some (.int (a : Int)), some (.int (b : Int)), some (.ref D), none] ∧ Same H H' ∧ H' D = some (.lst (as.map V.ref)) ∧ LT H' as ((if a % n = 0 then [] else [(⟨i, a % n, n, 1⟩ : Pc)]).map Pc.vals), ?_, ?_⟩
  · refine ⟨_, rfl, _, rfl, _, _, rfl, rfl, by omega, _, rfl, ?_⟩
    by_cases hz : a % n = 0
    · refine ifF ?_ ⟨[], rfl, same_new nD, upd_same, by rw [if_pos hz]; exact LT.nil⟩
      have e : ((a : Int) % (n : Int)) = 0 := by omega
      show (((a : Int) % (n : Int)) != 0) = false
      rw [e]
      rfl
    · refine ifT ?_ ?_
      · have e : ((a : Int) % (n : Int)) ≠ 0 := by omega
        show (((a : Int) % (n : Int)) != 0) = true
        exact bne_iff_ne.mpr e
      · refine ⟨_, rfl, .inl ⟨rfl, _, SqL.of upd_same⟩, ?_⟩
        refine ⟨_, rfl, _, rfl, _, rfl, _, _, rfl, rfl, by omega, _, rfl, ?_⟩
        refine push _ [] [] ⟨i, a % n, n, 1⟩ _ rfl (same_new nD) upd_same LT.nil (by decide) _ fun as' H2 s2 hD2 hL2 => ?_
        exact ⟨as', rfl, s2, hD2, by rw [if_neg hz]; exact hL2⟩
  · rintro σ H1 ⟨as, rfl, s1, hD1, hL1⟩
    have esub : ((b : Int) / (n : Int)) - ((a : Int) + (n : Int) - 1) / (n : Int) = ((b / n - (a + n - 1) / n : Nat) : Int) := by
      have e1 : ((a : Int) + (n : Int) - 1) = ((a + n - 1 : Nat) : Int) := by omega
      rw [e1, show ((b : Int) / (n : Int)) = ((b / n : Nat) : Int) from rfl, show (((a + n - 1 : Nat) : Int) / (n : Int)) = (((a + n - 1) / n : Nat) : Int) from rfl]
      omega
    refine ⟨_, rfl, _, rfl, _, _, rfl, rfl, divW hn hbig _, _, rfl, _, rfl, _, _, rfl, rfl, _, _, rfl, rfl, _, rfl, _, _, rfl, rfl, divW hn hbig _, _, _, rfl, rfl, ?_⟩
    generalize hw : b / n - (a + n - 1) / n = wh at esub
    show gName 5 (V.int ((b : Int) / (n : Int) - ((a : Int) + (n : Int) - 1) / (n : Int))) _ _ _
    rw [esub]
    refine ⟨fun σ H' => ∃ as, σ = [some (.int (i : Int)), some (.int (n : Int)), some (.int (a : Int)), some (.int (b : Int)), some (.ref D), some (.int (wh : Int))] ∧ Same H H' ∧ H' D = some (.lst (as.map V.ref)) ∧
      LT H' as (((if a % n = 0 then [] else [(⟨i, a % n, n, 1⟩ : Pc)]) ++ (if wh = 0 then [] else [(⟨i, 0, n, wh⟩ : Pc)])).map Pc.vals), ?_, ?_⟩
    · refine ⟨_, rfl, _, rfl, ?_⟩
      by_cases hz : wh = 0
      · refine ifF (by rw [hz]; rfl) ⟨as, rfl, s1, hD1, ?_⟩
        rw [if_pos hz, List.append_nil]
        exact hL1
      · refine ifT (bne_iff_ne.mpr (by omega)) ?_
        refine ⟨_, rfl, .inl ⟨rfl, _, SqL.of hD1⟩, ?_⟩
        refine ⟨_, rfl, _, rfl, _, rfl, ?_⟩
        refine push _ as _ ⟨i, 0, n, wh⟩ _ rfl s1 hD1 hL1 (by split <;> simp) _ fun as' H2 s2 hD2 hL2 => ?_
        exact ⟨as', rfl, s2, hD2, by rw [if_neg hz]; exact hL2⟩
    · rintro σ H2 ⟨as2, rfl, s2, hD2, hL2⟩
      refine ⟨fun σ H' => ∃ as, σ = [some (.int (i : Int)), some (.int (n : Int)), some (.int (a : Int)), some (.int (b : Int)), some (.ref D), some (.int (wh : Int))] ∧ Same H H' ∧ H' D = some (.lst (as.map V.ref)) ∧
        LT H' as ((divP i n a b).map Pc.vals), ?_, ?_⟩
      · refine ⟨_, rfl, _, rfl, _, _, rfl, rfl, by omega, _, rfl, ?_⟩
        unfold divP
        rw [hw]
        by_cases hz : b % n = 0
        · refine ifF ?_ ⟨as2, rfl, s2, hD2, ?_⟩
          · have e : ((b : Int) % (n : Int)) = 0 := by omega
            show (((b : Int) % (n : Int)) != 0) = false
            rw [e]
            rfl
          · rw [if_pos hz, List.append_nil]
            exact hL2
        · refine ifT ?_ ?_
          · have e : ((b : Int) % (n : Int)) ≠ 0 := by omega
            show (((b : Int) % (n : Int)) != 0) = true
            exact bne_iff_ne.mpr e
          · refine ⟨_, rfl, .inl ⟨rfl, _, SqL.of hD2⟩, ?_⟩
            refine ⟨_, rfl, _, rfl, _, rfl, _, _, rfl, rfl, by omega, ?_⟩
            refine push _ as2 _ ⟨i, 0, b % n, 1⟩ _ rfl s2 hD2 hL2 (by split <;> split <;> simp) _ fun as' H3 s3 hD3 hL3 => ?_
            exact ⟨as', rfl, s3, hD3, by rw [if_neg hz]; exact hL3⟩
      · rintro σ H3 ⟨as3, rfl, s3, hD3, hL3⟩
        exact ⟨_, rfl, q D as3 H3 s3 nD hD3 hL3⟩
end
/-! ### the mathematics of a division -/
def rep (p : View × Nat) : List View := List.replicate p.2 p.1
def wv (ts : List (List Nat)) (p : View × Nat) : List Nat := pw (vw ts p.1) p.2
def mu (ts : List (List Nat)) (st : List View) : Nat := (st.map fun v => (v.n + 1) * (vw ts v).length).sum
def tot (ts : List (List Nat)) (st : List View) : List Nat := (st.reverse.map (vw ts)).flatten
theorem rep_rev (ws : List (View × Nat)) : (ws.reverse.flatMap rep).reverse = ws.flatMap rep := by
  induction ws with
  | nil => rfl
  | cons p ws ih =>
    rw [List.reverse_cons, List.flatMap_append, List.reverse_append, ih, List.flatMap_cons, List.flatMap_cons, List.flatMap_nil, List.append_nil]
    congr 1
    unfold rep
    rw [List.reverse_replicate]
theorem rep_tot (ts : List (List Nat)) (ws : List (View × Nat)) : ((ws.flatMap rep).map (vw ts)).flatten = (ws.map (wv ts)).flatten := by
  induction ws with
  | nil => rfl
  | cons p ws ih =>
    rw [List.flatMap_cons, List.map_append, List.flatten_append, ih, List.map_cons, List.flatten_cons]
    congr 1
    unfold rep wv pw
    rw [List.map_replicate]
theorem mu_app (ts : List (List Nat)) (a b : List View) : mu ts (a ++ b) = mu ts a + mu ts b := by
  unfold mu
  rw [List.map_append, List.sum_append]
theorem mu_rev (ts : List (List Nat)) (a : List View) : mu ts a.reverse = mu ts a := by
  unfold mu
  rw [List.map_reverse, List.sum_reverse]
theorem tot_app (ts : List (List Nat)) (a b : List View) : tot ts (a ++ b) = tot ts b ++ tot ts a := by
  unfold tot
  rw [List.reverse_append, List.map_append, List.flatten_append]
theorem mu_rep1 (ts : List (List Nat)) (v : View) (k : Nat) : mu ts (List.replicate k v) = k * ((v.n + 1) * (vw ts v).length) := by
  unfold mu
  rw [List.map_replicate, List.sum_replicate_nat]
theorem mu_rep {ts : List (List Nat)} {N : Nat} {ws : List (View × Nat)} (h : ∀ p ∈ ws, p.1.n + 1 ≤ N) : mu ts (ws.flatMap rep) ≤ N * ((ws.map (wv ts)).flatten).length := by
  induction ws with
  | nil => exact Nat.zero_le _
  | cons p ws ih =>
    rw [List.flatMap_cons, mu_app, List.map_cons, List.flatten_cons, List.length_append, Nat.mul_add]
    refine Nat.add_le_add ?_ (ih fun q hq => h q (List.mem_cons_of_mem _ hq))
    unfold rep wv
    rw [mu_rep1, pw_len]
    have h1 := h p List.mem_cons_self
    calc p.2 * ((p.1.n + 1) * (vw ts p.1).length) = (p.1.n + 1) * (p.2 * (vw ts p.1).length) := by rw [Nat.mul_left_comm]
      _ ≤ N * (p.2 * (vw ts p.1).length) := Nat.mul_le_mul_right _ h1
theorem rep_len {ts : List (List Nat)} {ws : List (View × Nat)} (h : ∀ p ∈ ws, 1 ≤ (vw ts p.1).length) : (ws.flatMap rep).length ≤ ((ws.map (wv ts)).flatten).length := by
  induction ws with
  | nil => exact Nat.le_refl _
  | cons p ws ih =>
    rw [List.flatMap_cons, List.length_append, List.map_cons, List.flatten_cons, List.length_append]
    refine Nat.add_le_add ?_ (ih fun q hq => h q (List.mem_cons_of_mem _ hq))
    unfold rep wv
    rw [List.length_replicate, pw_len]
    exact Nat.le_mul_of_pos_right _ (h p List.mem_cons_self)
theorem flat_le {α : Type} {L : List (List α)} {x : List α} (h : x ∈ L) : x.length ≤ L.flatten.length := by
  induction L with
  | nil => cases h
  | cons y L ih =>
    rw [List.flatten_cons, List.length_append]
    rcases List.mem_cons.mp h with e | e
    · subst e
      omega
    · have := ih e
      omega
theorem stk_len {ts : List (List Nat)} {st : List View} (h : ∀ v ∈ st, 1 ≤ (vw ts v).length) : st.length ≤ (tot ts st).length := by
  induction st with
  | nil => exact Nat.le_refl _
  | cons v st ih =>
    have e : v :: st = [v] ++ st := rfl
    rw [e, tot_app, List.length_append, List.length_append]
    have h1 := ih fun u hu => h u (List.mem_cons_of_mem _ hu)
    have h2 := h v List.mem_cons_self
    have e3 : tot ts [v] = vw ts v := by simp [tot]
    rw [e3]
    simp only [List.length_cons, List.length_nil]
    omega
theorem LT.rev {H : Hp} {as : List Addr} {vss : List (List V)} (h : LT H as vss) : LT H as.reverse vss.reverse := by
  refine ⟨by simp [h.1], fun k vs e => ?_⟩
  have hk : k < vss.length := by
    have := (List.getElem?_eq_some_iff.mp e).1
    simpa using this
  rw [List.getElem?_reverse hk] at e
  obtain ⟨a, e1, e2⟩ := h.2 _ vs e
  exact ⟨a, by rw [List.getElem?_reverse (by rw [h.1]; exact hk), h.1]; exact e1, e2⟩
theorem divs_len (ts : List (List Nat)) (r : Rule) (v : View) : (divs ts r v).length ≤ 3 := by
  cases r with
  | power i k =>
    show (divP _ _ _ _).length ≤ 3
    unfold divP
    rw [List.length_append, List.length_append]
    split <;> split <;> split <;> simp
  | join i j => show 2 ≤ 3; decide
  | letters z => exact Nat.zero_le _
  | part i a b => exact Nat.zero_le _
  | back i => exact Nat.zero_le _
theorem parts_len (ts : List (List Nat)) (r : Rule) (v : View) : (parts ts r v).length ≤ 3 := by
  unfold parts
  split
  · rw [List.length_reverse]
    exact divs_len ts r v
  · exact divs_len ts r v
def DL (H : Hp) (as : List Addr) (ws : List (View × Nat)) : Prop := as.length = ws.length ∧ ∀ (j : Nat) (p : View × Nat), ws[j]? = some p → ∃ a z, as[j]? = some a ∧ H a = some (.tup [.ref z, .int (p.2 : Int)]) ∧ H z = some (.tup p.1.vals)
theorem DL.same {H H' : Hp} {as : List Addr} {ws : List (View × Nat)} (h : DL H as ws) (s : Same H H') : DL H' as ws := ⟨h.1, fun j p e => let ⟨a, z, e1, e2, e3⟩ := h.2 j p e; ⟨a, z, e1, s _ _ e2, s _ _ e3⟩⟩
theorem DL.updL {H : Hp} {as : List Addr} {ws : List (View × Nat)} {D : Addr} {xs : List V} {o : HO} (h : DL H as ws) (hD : H D = some (.lst xs)) : DL (upd H D o) as ws :=
  ⟨h.1, fun j p e => let ⟨a, z, e1, e2, e3⟩ := h.2 j p e; ⟨a, z, e1, by rw [upd_ne (ne_of e2 hD (by intro z; cases z))]; exact e2, by rw [upd_ne (ne_of e3 hD (by intro z; cases z))]; exact e3⟩⟩
theorem DL.add {H : Hp} {as : List Addr} {ws : List (View × Nat)} {a z : Addr} {p : View × Nat} (h : DL H as ws) (ha : H a = some (.tup [.ref z, .int (p.2 : Int)])) (hz : H z = some (.tup p.1.vals)) : DL H (as ++ [a]) (ws ++ [p]) := by
  refine ⟨by simp [h.1], fun k x e => ?_⟩
  by_cases hk : k < ws.length
  · rw [List.getElem?_append_left hk] at e
    obtain ⟨b, y, e1, e2⟩ := h.2 k x e
    exact ⟨b, y, by rw [List.getElem?_append_left (by rw [h.1]; exact hk)]; exact e1, e2⟩
  · have hk2 : k = ws.length := by
      have := (List.getElem?_eq_some_iff.mp e).1
      simp at this
      omega
    subst hk2
    rw [List.getElem?_append_right (Nat.le_refl _), Nat.sub_self] at e
    have e' : p = x := Option.some.inj e
    subst e'
    exact ⟨a, z, by rw [← h.1, List.getElem?_append_right (Nat.le_refl _), Nat.sub_self]; rfl, ha, hz⟩
section
variable {P : Program} {w : World} {K : PySem.W.Frag} {mg : Str → Option Value} {base : Heap}
/-! ### divided -/
def spDivided (C : Addr) : Sp := fun vs H Q _ => ∃ (x y : Addr) (rs : List Rule) (ts : List (List Nat)) (v : View) (r : Rule), vs = [.ref x, .ref y] ∧ TextAt C H x rs ts ∧ H y = some (.tup v.vals) ∧ Sett rs ts v r ∧ isL r = false ∧
  ∀ (D : Addr) (as : List Addr) (ws : List (View × Nat)) H', Same H H' → H D = none → H' D = some (.lst (as.map V.ref)) → DL H' as ws → (∀ p ∈ ws, (∃ r', Sett rs ts p.1 r') ∧ p.1.n < v.n ∧ 1 ≤ p.2) → (ws.map (wv ts)).flatten = vw ts v → Q (.ref D) H'
theorem scDi : FnScope ["text", "view", "number", "start", "stop", "turned", "rule", "size", "parts", "base", "low", "high", "times"] ["text", "view"] (defScope sDivided) := ⟨rfl, rfl, rfl, by decide +kernel, rfl, by decide +kernel, by decide +kernel⟩
theorem ok_divided {C f : Addr} {fd : FuncData} (F : Fun K "divided" "divided" sDivided f fd) (hm : mg "divided" = some (.ref f)) (b : Binds K fd ["text", "view"] []) (D : Cl K C) (GDp : Cal P w K mg base 1 "divided_power" spDivP []) (GSe : Cal P w K mg base 2 "settled" (spSettled C) []) : Cal P w K mg base 3 "divided" (spDivided C) [] := by
  refine mkCal F hm b scDi (fun vs H Q E h => ?_) (fun cdv A outer s H vs Q E hr h => ?_)
  · obtain ⟨x, y, rs, ts, v, r, rfl, _⟩ := h
    rfl
  obtain ⟨x, y, rs, ts, v, r, rfl, hX0, hy, hs, hl, q⟩ := h
  have hX1 := hX0
  obtain ⟨dx, RU, LE, fs, as, hX⟩ := hX1
  refine ⟨_, (pss_cons (ps_asg (pv 1) (pg_tup rfl (pgs_cons (pg_name (i := 2) scDi.nd rfl (.inl rfl)) (pgs_cons (pg_name (i := 3) scDi.nd rfl (.inl rfl)) (pgs_cons (pg_name (i := 4) scDi.nd rfl (.inl rfl)) (pgs_cons (pg_name (i := 5) scDi.nd rfl (.inr rfl)) pgs_nil))))))
    (pss_cons (ps_set (i := 6) scDi.nd rfl (.inl rfl) (pe_ix ix_tup (pe_fld (pv 0) rfl) (pv 2) (fun _ _ => rfl)))
    (pss_cut (ps_if (pt_cmpR op_eq (pe_ix ix_tup (pv 6) pe_int (fun _ _ => rfl)) pe_str (nomark _)) (pss_cons (ps_set (i := 7) scDi.nd rfl (.inl rfl) (pe_ix ix_tup (pe_fld (pv 0) rfl) (pe_ix ix_tup (pv 6) pe_int (fun _ _ => rfl)) (fun _ _ => rfl)))
    (pss_one (ps_set (i := 8) scDi.nd rfl (.inl rfl) (pe_lst (pa_cons (pe_tup (pa_cons (pe_ix ix_tup (pv 6) pe_int (fun _ _ => rfl)) (pa_cons (pv 3) (pa_cons (pv 7) (pa_cons pe_int pa_nil))))) (pa_cons (pe_tup (pa_cons (pe_ix ix_tup (pv 6) pe_int (fun _ _ => rfl)) (pa_cons pe_int (pa_cons (pe_op op_sub (pv 4) (pv 7)) (pa_cons pe_int pa_nil))))) pa_nil)))))) (pss_one (ps_set (i := 8) scDi.nd rfl (.inl rfl) (pe_c GDp hr (by decide) (by rfl) (pa_cons (pe_ix ix_tup (pv 6) pe_int (fun _ _ => rfl)) (pa_cons (pe_ix ix_tup (pe_fld (pv 0) rfl) (pe_ix ix_tup (pv 6) pe_int (fun _ _ => rfl)) (fun _ _ => rfl)) (pa_cons (pv 3) (pa_cons (pv 4) pa_nil))))))))
    (pss_cut (ps_if (pt_val (pv 5)) (pss_one (ps_set (i := 8) scDi.nd rfl (.inl rfl) (pe_revL (pv 8)))) pss_nil)
    (pss_one (ps_ret (pe_lc (own := [("base", 9), ("low", 10), ("high", 11), ("times", 12)]) (g := gTup K 4 (gCons (gName 9) (gCons (gName 10) (gCons (gName 11) (gCons (gName 12) gNil))))) (tt := tYes) rfl scDi.nd (pi_list (pv 8)) (blkOk_by (N := ["text", "view", "number", "start", "stop", "turned", "rule", "size", "parts", "base", "low", "high", "times"]) (sc := defScope sDivided) (by decide +kernel)) (fun _ _ _ _ _ => (pg_tup rfl (pgs_cons (pg_name (i := 9) scDi.nd rfl (.inl rfl)) (pgs_cons (pg_name (i := 10) scDi.nd rfl (.inl rfl)) (pgs_cons (pg_name (i := 11) scDi.nd rfl (.inl rfl)) (pgs_cons (pg_name (i := 12) scDi.nd rfl (.inl rfl)) pgs_nil)))))) (fun _ _ _ _ _ => pts_nil) (fun _ _ _ _ _ => (pe_tup (pa_cons (pe_c GSe hr (by decide) (by rfl) (pa_cons (pv 0) (pa_cons (pe_tup (pa_cons (pv 9) (pa_cons (pv 10) (pa_cons (pv 11) (pa_cons (pv 5) pa_nil))))) pa_nil))) (pa_cons (pv 12) pa_nil))))))))))), ?_⟩
  obtain ⟨ra, era, hra⟩ := hX.rule hs.rule
  have hA : SqT K H ra r.vals := SqT.of hra
  have snd := hX.sound
  have hv := hs.val
  refine ⟨_, rfl, y, _, rfl, SqT.of hy, rfl, _, _, rfl, _, _, rfl, _, _, rfl, _, _, rfl, rfl, ?_⟩
  refine ⟨_, rfl, x, C, dx, _, _, rfl, hX.at_, D.cl, D.nR, hX.fR, _, rfl, RU, _, (v.n : Int), _, rfl, rfl, SqT.of hX.hR, era, ?_⟩
  refine ⟨fun σ H' => ∃ (s7 : Option V) (L : Addr) (as : List Addr), σ = [some (.ref x), some (.ref y), some (.int (v.n : Int)), some (.int (v.a : Int)), some (.int (v.b : Int)), some (.bl v.t), some (.ref ra), s7, some (.ref L), none, none, none, none] ∧
    Same H H' ∧ H L = none ∧ H' L = some (.lst (as.map V.ref)) ∧ LT H' as ((divs ts r v).map Pc.vals), ?_, ?_⟩
  · have ho := (snd.ok _ _ hs.rule).1
    have hb := hv.b
    have hab := hv.ab
    have hd := hs.deep
    rw [snd.tx hs.rule] at hb
    cases r with
    | letters z => cases hl
    | part i a b => cases hd
    | back i => cases hd
    | join i j =>
      obtain ⟨o1, o2⟩ := ho
      obtain ⟨k1, k2, k3⟩ := snd.tk hs.rule o1
      have ed : deep ts (.join i j) v = if v.b ≤ (tx ts i).length then some ⟨i, v.a, v.b, v.t⟩ else if v.a ≥ (tx ts i).length then some ⟨j, v.a - (tx ts i).length, v.b - (tx ts i).length, v.t⟩ else none := rfl
      rw [ed] at hd
      have c1 : ¬ v.b ≤ (tx ts i).length := fun h => by rw [if_pos h] at hd; cases hd
      refine ⟨_, rfl, ra, _, 0, _, rfl, rfl, hA, atI_nat (j := 0) rfl, rfl, _, rfl, ifT (by decide +kernel) ?_⟩
      refine ⟨_, rfl, x, C, dx, _, _, rfl, hX.at_, D.cl, D.nE, hX.fE, _, rfl, ra, _, 1, _, rfl, rfl, hA, atI_nat (j := 1) rfl, LE, _, (i : Int), _, rfl, rfl, SqT.of hX.hE, len_at k2, ?_⟩
      refine ⟨_, rfl, ra, _, 1, _, rfl, rfl, hA, atI_nat (j := 1) rfl, _, rfl, _, rfl, by show 4 ≤ sizeLine; decide, fun p1 n1 => ?_⟩
      have s1 : Same H (upd H p1 (.tup [.int (i : Int), .int (v.a : Int), .int ((tx ts i).length : Int), .int 1])) := same_new n1
      refine ⟨_, rfl, ra, _, 2, _, rfl, rfl, (SqT.of (s1 _ _ hra) : SqT K _ ra (Rule.join i j).vals), atI_nat (j := 2) rfl, _, rfl, _, rfl, _, _, rfl, rfl, by show 4 ≤ sizeLine; decide, fun p2 n2 => ?_⟩
      have n12 : p1 ≠ p2 := ne_of_none (upd_same) n2
      refine ⟨by show 2 ≤ sizeLine; decide, fun L nL => ?_⟩
      have n1L := ne_of_none (H := upd (upd H p1 (.tup [.int (i : Int), .int (v.a : Int), .int ((tx ts i).length : Int), .int 1])) p2 (.tup [.int (j : Int), .int 0, .int ((v.b : Int) - ((tx ts i).length : Int)), .int 1])) (a := p1) (by rw [upd_ne n12]; exact upd_same) nL
      have n2L := ne_of_none (H := upd (upd H p1 (.tup [.int (i : Int), .int (v.a : Int), .int ((tx ts i).length : Int), .int 1])) p2 (.tup [.int (j : Int), .int 0, .int ((v.b : Int) - ((tx ts i).length : Int)), .int 1])) (a := p2) upd_same nL
      have s2 := s1.trans (same_new (o := .tup [.int (j : Int), .int 0, .int ((v.b : Int) - ((tx ts i).length : Int)), .int 1]) n2)
      refine ⟨_, L, [p1, p2], rfl, s2.trans (same_new nL), s2.free nL, upd_same, ?_⟩
      have e2 : [.int (j : Int), .int 0, .int ((v.b : Int) - ((tx ts i).length : Int)), .int 1] = Pc.vals ⟨j, 0, v.b - (tx ts i).length, 1⟩ := by
        simp only [Pc.vals, List.cons.injEq, V.int.injEq, true_and, and_true]
        omega
      refine (LT.nil.add (a := p1) ?_).add (a := p2) ?_
      · rw [upd_ne n1L, upd_ne n12, upd_same]
        rfl
      · rw [upd_ne n2L, upd_same, e2]
    | power i k =>
      obtain ⟨o1, o2⟩ := ho
      obtain ⟨k1, k2, k3⟩ := snd.tk hs.rule o1
      have hb' : v.b ≤ (pw (tx ts i) k).length := by rw [← k3]; exact hb
      rw [pw_len] at hb'
      have hpos : 0 < (tx ts i).length := by
        rcases Nat.eq_zero_or_pos (tx ts i).length with z | z
        · rw [z] at hb'; omega
        · exact z
      have ed : deep ts (.power i k) v = if v.b > v.a / (tx ts i).length * (tx ts i).length + (tx ts i).length then none else some ⟨i, v.a - v.a / (tx ts i).length * (tx ts i).length, v.b - v.a / (tx ts i).length * (tx ts i).length, v.t⟩ := rfl
      rw [ed] at hd
      have c1 : v.b > v.a / (tx ts i).length * (tx ts i).length + (tx ts i).length := by
        by_cases h : v.b > v.a / (tx ts i).length * (tx ts i).length + (tx ts i).length
        · exact h
        · rw [if_neg h] at hd; cases hd
      have hup : (v.a + (tx ts i).length - 1) / (tx ts i).length ≤ v.b / (tx ts i).length := by
        rw [up_div hpos]
        have hq : v.a / (tx ts i).length + 1 ≤ v.b / (tx ts i).length := by
          rw [Nat.le_div_iff_mul_le hpos, Nat.add_mul, Nat.one_mul]
          omega
        split <;> omega
      refine ⟨_, rfl, ra, _, 0, _, rfl, rfl, hA, atI_nat (j := 0) rfl, rfl, _, rfl, ifF (by decide +kernel) ?_⟩
      refine ⟨_, rfl, ra, _, 1, _, rfl, rfl, hA, atI_nat (j := 1) rfl, ?_⟩
      refine ⟨_, rfl, x, C, dx, _, _, rfl, hX.at_, D.cl, D.nE, hX.fE, _, rfl, ra, _, 1, _, rfl, rfl, hA, atI_nat (j := 1) rfl, LE, _, (i : Int), _, rfl, rfl, SqT.of hX.hE, len_at k2, ?_⟩
      refine ⟨_, rfl, _, rfl, i, (tx ts i).length, v.a, v.b, rfl, hpos, snd.big k2, hup, fun L as H1 s1 nL hL hT => ?_⟩
      exact ⟨_, L, as, rfl, s1, nL, hL, hT⟩
  · rintro σ H1 ⟨s7, L, as1, rfl, s1, nL, hL, hT⟩
    refine ⟨fun σ H' => ∃ (L : Addr) (as : List Addr), σ = [some (.ref x), some (.ref y), some (.int (v.n : Int)), some (.int (v.a : Int)), some (.int (v.b : Int)), some (.bl v.t), some (.ref ra), s7, some (.ref L), none, none, none, none] ∧
      Same H H' ∧ H' L = some (.lst (as.map V.ref)) ∧ LT H' as ((parts ts r v).map Pc.vals), ?_, ?_⟩
    · refine ⟨_, rfl, v.t, rfl, ?_⟩
      cases hvt : v.t with
      | true =>
        refine ifT rfl ⟨_, rfl, L, _, rfl, SqL.of hL, fun L2 nL2 => ?_⟩
        refine ⟨L2, as1.reverse, rfl, s1.trans (same_new nL2), by rw [upd_same, List.map_reverse], ?_⟩
        unfold parts
        rw [hvt, if_pos rfl, List.map_reverse]
        exact (hT.same (same_new nL2)).rev
      | false =>
        refine ifF rfl ⟨L, as1, rfl, s1, hL, ?_⟩
        unfold parts
        rw [hvt, if_neg (by decide)]
        exact hT
    · rintro σ H2 ⟨L, as2, rfl, s2, hL2, hT2⟩
      obtain ⟨pok, psum⟩ := parts_ok snd hs.rule hv hs.deep hl
      have plen := parts_len ts r v
      refine ⟨_, rfl, L, rfl, ⟨_, SqL.of hL2⟩, fun D2 nD2 => ?_⟩
      refine lc_list (K := K) (a := L) (xs := as2.map V.ref) (fun i H' => Same H2 H' ∧ ∃ (as : List Addr) (ws : List (View × Nat)), H' D2 = some (.lst (as.map V.ref)) ∧ DL H' as ws ∧ ws.length = i ∧
          ∀ (j : Nat) (p : View × Nat), ws[j]? = some p → ∃ (q : Pc) (r' : Rule), (parts ts r v)[j]? = some q ∧ p.2 = q.k ∧ vw ts p.1 = trn v.t (sub (tx ts q.i) q.a q.b) ∧ Sett rs ts p.1 r' ∧ p.1.n ≤ q.i)
        ⟨same_new nD2, [], [], upd_same, ⟨rfl, fun j p e => by simp at e⟩, rfl, fun j p e => by simp at e⟩ (fun i H' _ h => h.1.seq (SqL.of hL2)) ?_ ?_
      · rintro i xx H3 hi ⟨s3, as3, ws, hD3, hDL, hwl, hrel⟩
        have hi2 : i < as2.length := by
          have := (List.getElem?_eq_some_iff.mp hi).1
          rwa [List.length_map] at this
        rw [List.getElem?_map, List.getElem?_eq_getElem hi2] at hi
        have exx := Option.some.inj hi
        subst exx
        have hip : i < (parts ts r v).length := by rw [hT2.1, List.length_map] at hi2; exact hi2
        obtain ⟨a, ea, ha⟩ := hT2.2 i ((parts ts r v)[i]).vals (by rw [List.getElem?_map, List.getElem?_eq_getElem hip]; rfl)
        rw [List.getElem?_eq_getElem hi2] at ea
        have eaa := Option.some.inj ea
        have hpc := pok _ (List.getElem_mem hip)
        generalize hqq : (parts ts r v)[i] = pc at ha hpc
        rw [eaa]
        have ha3 := s3 _ _ ha
        refine ⟨a, pc.vals, rfl, SqT.of ha3, rfl, _, _, rfl, _, _, rfl, _, _, rfl, _, _, rfl, rfl, rfl, ?_⟩
        refine ⟨_, rfl, _, rfl, _, rfl, _, rfl, _, rfl, by show 4 ≤ sizeLine; decide, fun y2 ny2 => ?_⟩
        have s4 := same_new (o := .tup [.int (pc.i : Int), .int (pc.a : Int), .int (pc.b : Int), .bl v.t]) ny2
        refine ⟨x, y2, rs, ts, ⟨pc.i, pc.a, pc.b, v.t⟩, rfl, hX0.same ((s2.trans s3).trans s4), upd_same, ⟨hpc.n, hpc.ab, hpc.b⟩, fun v' z r' H5 s5 hz hs5 e5 hn5 => ?_⟩
        refine ⟨_, rfl, by show 2 ≤ sizeLine; decide, fun pp npp => ?_⟩
        have s35 := s4.trans s5
        have hD5 := s35 _ _ hD3
        have nDp : D2 ≠ pp := ne_of_none hD5 npp
        have nzp : z ≠ pp := ne_of_none hz npp
        have hD6 : (upd H5 pp (.tup [.ref z, .int (pc.k : Int)])) D2 = some (.lst (as3.map V.ref)) := by rw [upd_ne nDp]; exact hD5
        refine ⟨_, hD6, by rw [List.length_map, hDL.1, hwl]; exact small1000 (by omega), ?_, as3 ++ [pp], ws ++ [(v', pc.k)], by rw [upd_same]; simp, ?_, by simp [hwl], fun j p e => ?_⟩
        · intro b o hb
          rw [upd_ne (ne_of_none hb nD2)]
          exact same_new npp _ _ (s35 _ _ (s3 _ _ hb))
        · refine ((hDL.same (s35.trans (same_new npp))).add upd_same ?_).updL hD6
          rw [upd_ne nzp]
          exact hz
        · by_cases hj : j < ws.length
          · rw [List.getElem?_append_left hj] at e
            exact hrel j p e
          · have hj2 : j = ws.length := by
              have := (List.getElem?_eq_some_iff.mp e).1
              simp at this
              omega
            subst hj2
            rw [List.getElem?_append_right (Nat.le_refl _), Nat.sub_self] at e
            have e' : (v', pc.k) = p := Option.some.inj e
            subst e'
            refine ⟨pc, r', by rw [hwl, List.getElem?_eq_getElem hip, hqq], rfl, e5, hs5, hn5⟩
      · rintro H3 ⟨s3, as3, ws, hD3, hDL, hwl, hrel⟩
        rw [List.length_map, hT2.1, List.length_map] at hwl
        refine q D2 as3 ws H3 (s2.trans s3) (s2.free nD2) hD3 hDL (fun p hp => ?_) ?_
        · obtain ⟨j, hj, e⟩ := List.mem_iff_getElem.mp hp
          obtain ⟨q', r', e1, e2, e3, e4, e5⟩ := hrel j p (by rw [List.getElem?_eq_getElem hj, e])
          have := pok q' (List.mem_of_getElem? e1)
          exact ⟨⟨r', e4⟩, by have := this.lt; omega, by rw [e2]; exact this.k⟩
        · rw [← psum]
          congr 1
          refine List.ext_getElem? fun j => ?_
          rw [List.getElem?_map, List.getElem?_map]
          cases e : ws[j]? with
          | none =>
            have : (parts ts r v)[j]? = none := by
              rw [List.getElem?_eq_none_iff] at e ⊢
              omega
            rw [this]
            rfl
          | some p =>
            obtain ⟨q', r', e1, e2, e3, e4, e5⟩ := hrel j p e
            rw [e1]
            show some (pw (vw ts p.1) p.2) = some (pw (trn v.t (sub (tx ts q'.i) q'.a q'.b)) q'.k)
            rw [e2, e3]
end
section
variable {P : Program} {w : World} {K : PySem.W.Frag} {mg : Str → Option Value} {base : Heap}
def spSpelled (C : Addr) : Sp := fun vs H Q _ => ∃ (x : Addr) (rs : List Rule) (ts : List (List Nat)) (a b : Nat), vs = [.ref x, .int (a : Int), .int (b : Int)] ∧ TextAt C H x rs ts ∧ 0 < ts.length ∧ a ≤ b ∧ b ≤ (tx ts (ts.length - 1)).length ∧ b - a ≤ 1000 ∧
  ∀ H', Same H H' → Q (.str (S (sub (tx ts (ts.length - 1)) a b))) H'
theorem scSp : FnScope ["text", "start", "stop", "waiting", "pieces", "view", "letters", "part", "times"] ["text", "start", "stop"] (defScope sSpelled) := ⟨rfl, rfl, rfl, by decide +kernel, rfl, by decide +kernel, by decide +kernel⟩
theorem tot_nil (ts : List (List Nat)) : tot ts [] = [] := rfl
theorem tot_one (ts : List (List Nat)) (v : View) : tot ts [v] = vw ts v := by simp [tot]
theorem join_parts (ps : List (List Nat)) : Txt.join ("" : Str) (ps.map S) = S ps.flatten := by rw [S_nil, join_S, join_nil]
theorem sum_flat (ps : List (List Nat)) : (ps.map (·.length)).sum = ps.flatten.length := by rw [List.length_flatten]
theorem ok_spelled {C f : Addr} {fd : FuncData} (F : Fun K "spelled" "spelled" sSpelled f fd) (hm : mg "spelled" = some (.ref f)) (b : Binds K fd ["text", "start", "stop"] []) (T : Txt mg) (GVo : Cal P w K mg base 3 "view_of" (spViewOf C) []) (GSb : Cal P w K mg base 1 "spelled_by" (spSpelledBy C) []) (GDi : Cal P w K mg base 3 "divided" (spDivided C) []) :
    Cal P w K mg base 4 "spelled" (spSpelled C) [] := by
  refine mkCal F hm b scSp (fun vs H Q E h => ?_) (fun cdv A outer s H vs Q E hr h => ?_)
  · obtain ⟨x, rs, ts, a, b, rfl, _⟩ := h
    rfl
  obtain ⟨x, rs, ts, a, b, rfl, hX, h0, hab, hb, h1000, q⟩ := h
  refine ⟨_, (pss_cons (ps_if (pt_cmpR op_eq (pv 1) (pv 2) (nomark _)) (pss_one (ps_ret pe_str)) pss_nil)
    (pss_cons (ps_set (i := 3) scSp.nd rfl (.inl rfl) (pe_lst (pa_cons (pe_c GVo hr (by decide) (by rfl) (pa_cons (pv 0) (pa_cons (pv 1) (pa_cons (pv 2) pa_nil)))) pa_nil)))
    (pss_cons (ps_set (i := 4) scSp.nd rfl (.inl rfl) (pe_lst pa_nil))
    (pss_cons (ps_while PassesOwn.never (pt_truth (pv 3) (by intro _; rfl)) (pss_cons (ps_set (i := 5) scSp.nd rfl (.inl rfl) (pe_bm0 PySem.F.plainAttrs_list PySem.F.slot_list_pop PySem.F.type_list_pop mt_pop (pv 3)))
    (pss_cons (ps_set (i := 6) scSp.nd rfl (.inl rfl) (pe_c GSb hr (by decide) (by rfl) (pa_cons (pv 0) (pa_cons (pv 5) pa_nil))))
    (pss_one (ps_if (pt_cmpR op_notN (pv 6) pe_non (nomark _)) (pss_one (ps_expr (pe_bm PySem.F.plainAttrs_list PySem.F.slot_list_append PySem.F.type_list_append mt_append (pv 4) (pa_cons (pv 6) pa_nil)))) (pss_one (ps_for PassesOwn.never rfl (pi_reversed (by rfl) T.reversed (pa_cons (pe_c GDi hr (by decide) (by rfl) (pa_cons (pv 0) (pa_cons (pv 5) pa_nil))) pa_nil)) (pg_tup rfl (pgs_cons (pg_name (i := 7) scSp.nd rfl (.inl rfl)) (pgs_cons (pg_name (i := 8) scSp.nd rfl (.inl rfl)) pgs_nil))) (pss_one (ps_expr (pe_bm PySem.F.plainAttrs_list PySem.F.slot_list_extend PySem.F.type_list_extend mt_extend (pv 3) (pa_cons (pe_op op_rep (pe_lst (pa_cons (pv 7) pa_nil)) (pv 8)) pa_nil)))))))))))
    (pss_one (ps_ret (pe_join pe_str (pv 4)))))))), ?_⟩
  refine ⟨_, rfl, _, rfl, rfl, _, rfl, ?_⟩
  refine ite2 (fun z => ?_) (fun z => ?_)
  · have z1 : (a : Int) = (b : Int) := V.int.inj (of_decide_eq_true z)
    have e : a = b := by omega
    subst e
    have q' := q H (Same.refl H)
    rw [sub_nil, ← S_nil] at q'
    exact q'
  have z1 : ¬ (a : Int) = (b : Int) := fun h => z (decide_eq_true (congrArg V.int h))
  have hlt : a < b := by omega
  generalize hgoal : sub (tx ts (ts.length - 1)) a b = goal at q
  have glen : goal.length ≤ 1000 := by rw [← hgoal, sub_len hb]; exact h1000
  refine ⟨_, rfl, _, rfl, _, rfl, x, rs, ts, a, b, rfl, hX, h0, hlt, hb, fun v0 z0 r0 H1 s1 hz0 hs0 e0 => ?_⟩
  refine ⟨by show 1 ≤ sizeLine; decide, fun W nW => ⟨Nat.zero_le _, fun PP nP => ?_⟩⟩
  have nWP : W ≠ PP := ne_of_none upd_same nP
  have hW0 : (upd (upd H1 W (.lst [.ref z0])) PP (.lst [])) W = some (.lst [.ref z0]) := by rw [upd_ne nWP]; exact upd_same
  have s13 : Same H1 (upd (upd H1 W (.lst [.ref z0])) PP (.lst [])) := (same_new nW).trans (same_new nP)
  have nWH := s1.free nW
  have nPH := s1.free (Same.free (same_new nW) nP)
  refine ⟨fun m σ H' => ∃ (zs : List Addr) (st : List View) (ps : List (List Nat)) (u5 u6 u7 u8 : Option V), σ = [some (.ref x), some (.int (a : Int)), some (.int (b : Int)), some (.ref W), some (.ref PP), u5, u6, u7, u8] ∧ Same H H' ∧
      H' W = some (.lst (zs.map V.ref)) ∧ H' PP = some (.lst (ps.map tV)) ∧ LT H' zs (st.map View.vals) ∧ (∀ v ∈ st, ∃ r, Sett rs ts v r) ∧ ps.flatten ++ tot ts st = goal ∧ ps.length ≤ ps.flatten.length ∧ m = mu ts st,
    ⟨mu ts [v0], [z0], [v0], [], none, none, none, none, rfl, s1.trans s13, hW0, upd_same, LT.nil.add (s13 _ _ hz0), fun v hv => ⟨r0, by rw [List.mem_singleton.mp hv]; exact hs0⟩, by rw [tot_one, e0, hgoal]; rfl, Nat.le_refl _, rfl⟩, ?_⟩
  rintro m σ H2 ⟨zs, st, ps, u5, u6, u7, u8, rfl, s2, hW, hPP, hL, hst, hsum, hps, rfl⟩
  have pos : ∀ v, (∃ r, Sett rs ts v r) → 1 ≤ (vw ts v).length := fun v ⟨r, h⟩ => by rw [h.val.len]; have := h.val.ab; omega
  have stl : st.length ≤ 1000 := by
    have h1 := stk_len (ts := ts) (st := st) fun v hv => pos v (hst v hv)
    have h2 := congrArg List.length hsum
    rw [List.length_append] at h2
    omega
  have psl : ps.length ≤ 1000 := by
    have h2 := congrArg List.length hsum
    rw [List.length_append] at h2
    omega
  rcases List.eq_nil_or_concat st with e | ⟨st0, v, e⟩
  · -- nothing is left
    subst e
    have ez : zs = [] := List.eq_nil_of_length_eq_zero hL.1
    subst ez
    refine ⟨_, rfl, false, .inl ⟨_, SqL.of hW, rfl⟩, ifF rfl ?_⟩
    have e1 : ps.map tV = (ps.map S).map V.str := by simp [tV]
    have eg : ps.flatten = goal := by rw [← hsum, tot_nil, List.append_nil]
    refine ⟨⟨_, rfl⟩, _, rfl, _, PP, ps.map S, rfl, rfl, .inl (SqL.of (by rw [hPP, e1])), ?_, ?_⟩
    · rw [lens, sum_flat, eg, show ("" : Str).length = 0 from by decide +kernel]
      omega
    · show Q (V.str (Txt.join ("" : Str) _)) H2
      rw [join_parts, eg]
      exact q H2 s2
  · -- the last view
    rw [List.concat_eq_append] at e
    subst e
    obtain ⟨z0, z, ez⟩ : ∃ z0 z, zs = z0 ++ [z] := by
      rcases List.eq_nil_or_concat zs with e | ⟨z0, z, e⟩
      · have := hL.1
        rw [e] at this
        simp at this
      · exact ⟨z0, z, by rw [e, List.concat_eq_append]⟩
    subst ez
    have zl : z0.length = st0.length := by
      have := hL.1
      simp at this
      exact this
    have hz : H2 z = some (.tup v.vals) := by
      obtain ⟨a', e1, e2⟩ := hL.2 st0.length v.vals (by rw [List.map_append, List.getElem?_append_right (by rw [List.length_map]; exact Nat.le_refl _), List.length_map, Nat.sub_self]; rfl)
      rw [List.getElem?_append_right (by rw [zl]; exact Nat.le_refl _), zl, Nat.sub_self] at e1
      have e3 : z = a' := Option.some.inj e1
      rw [e3]
      exact e2
    have hL0 : LT H2 z0 (st0.map View.vals) := by
      refine ⟨by rw [zl, List.length_map], fun k vs e => ?_⟩
      have hk : k < st0.length := by
        have := (List.getElem?_eq_some_iff.mp e).1
        rwa [List.length_map] at this
      obtain ⟨a', e1, e2⟩ := hL.2 k vs (by rw [List.map_append, List.getElem?_append_left (by rw [List.length_map]; exact hk)]; exact e)
      rw [List.getElem?_append_left (by rw [zl]; exact hk)] at e1
      exact ⟨a', e1, e2⟩
    obtain ⟨r, hs⟩ := hst v (List.mem_append_right _ (List.mem_singleton.mpr rfl))
    have hst0 : ∀ u ∈ st0, ∃ r, Sett rs ts u r := fun u hu => hst u (List.mem_append_left _ hu)
    rw [tot_app, tot_one] at hsum
    rw [List.map_append] at hW
    have ne1 : (z0.map V.ref ++ [z].map V.ref).isEmpty = false := by cases z0 <;> rfl
    refine ⟨_, rfl, true, .inl ⟨_, SqL.of hW, by rw [ne1]; rfl⟩, ifT rfl ?_⟩
    refine ⟨fun σ' H' => ∃ m' < mu ts (st0 ++ [v]), ∃ (zs : List Addr) (st : List View) (ps : List (List Nat)) (u5 u6 u7 u8 : Option V), σ' = [some (.ref x), some (.int (a : Int)), some (.int (b : Int)), some (.ref W), some (.ref PP), u5, u6, u7, u8] ∧ Same H H' ∧
      H' W = some (.lst (zs.map V.ref)) ∧ H' PP = some (.lst (ps.map tV)) ∧ LT H' zs (st.map View.vals) ∧ (∀ v ∈ st, ∃ r, Sett rs ts v r) ∧ ps.flatten ++ tot ts st = goal ∧ ps.length ≤ ps.flatten.length ∧ m' = mu ts st, fun _ _ h => h, ?_⟩
    refine ⟨_, rfl, .inl ⟨rfl, _, SqL.of hW⟩, W, _, .ref z, rfl, rfl, hW, by rw [List.length_append, List.getElem?_append_right (by simp)]; simp, ?_⟩
    have edl : (z0.map V.ref ++ [z].map V.ref).dropLast = z0.map V.ref := by simp
    rw [edl]
    -- behind the pop
    have hPW : PP ≠ W := nWP.symm
    have hP3 : (upd H2 W (.lst (z0.map V.ref))) PP = some (.lst (ps.map tV)) := by rw [upd_ne hPW]; exact hPP
    have s3 : Same H (upd H2 W (.lst (z0.map V.ref))) := fun c o hc => by rw [upd_ne (ne_of_none hc nWH)]; exact s2 _ _ hc
    have hz3 : (upd H2 W (.lst (z0.map V.ref))) z = some (.tup v.vals) := by rw [upd_ne (ne_of hz hW (by intro z; cases z))]; exact hz
    have hL3 : LT (upd H2 W (.lst (z0.map V.ref))) z0 (st0.map View.vals) := hL0.updL hW
    have hW3 : (upd H2 W (.lst (z0.map V.ref))) W = some (.lst (z0.map V.ref)) := upd_same
    generalize upd H2 W (.lst (z0.map V.ref)) = H3 at hP3 s3 hz3 hL3 hW3 ⊢
    refine ⟨_, rfl, _, rfl, x, z, rs, ts, v, r, rfl, hX.same s3, hz3, hs.val, hs.rule, fun hl => ?_, fun hl => ?_⟩
    · -- letters
      refine ⟨_, rfl, rfl, _, rfl, ifT rfl ?_⟩
      refine ⟨_, rfl, .inl ⟨rfl, _, SqL.of hP3⟩, _, rfl, PP, _, _, rfl, rfl, hP3, by rw [List.length_map]; exact small1000 psl, ?_⟩
      have hvl := pos v ⟨r, hs⟩
      refine ⟨mu ts st0, ?_, z0, st0, ps ++ [vw ts v], _, _, _, _, rfl, ?_, ?_, ?_, hL3.updL hP3, hst0, ?_, ?_, rfl⟩
      · rw [mu_app]
        have : mu ts [v] = (v.n + 1) * (vw ts v).length := by simp [mu]
        rw [this, Nat.add_mul, Nat.one_mul]
        omega
      · intro c o hc
        rw [upd_ne (ne_of_none hc nPH)]
        exact s3 _ _ hc
      · rw [upd_ne nWP]
        exact hW3
      · rw [upd_same]
        simp [tV]
      · rw [List.flatten_append, List.append_assoc]
        simpa using hsum
      · rw [List.flatten_append, List.length_append, List.length_append]
        simp only [List.length_cons, List.length_nil, List.flatten_cons, List.flatten_nil, List.append_nil]
        omega
    · -- a join or a power
      refine ⟨_, rfl, rfl, _, rfl, ifF rfl ?_⟩
      refine ⟨_, rfl, _, rfl, x, z, rs, ts, v, r, rfl, hX.same s3, hz3, hs, hl, fun D as ws H4 s4 nD hD hDL hws hsumw => ?_⟩
      have hW4 := s4 _ _ hW3
      have hP4 := s4 _ _ hP3
      have hL4 := hL3.same s4
      have hDW : D ≠ W := fun e => by rw [e, hW3] at nD; cases nD
      have hDP : D ≠ PP := fun e => by rw [e, hP3] at nD; cases nD
      have posw : ∀ p ∈ ws, 1 ≤ (vw ts p.1).length := fun p hp => pos p.1 (hws p hp).1
      have wsum : (vw ts v).length ≤ 1000 := by
        have h2 := congrArg List.length hsum
        rw [List.length_append, List.length_append] at h2
        omega
      have wl : (ws.flatMap rep).length ≤ 1000 := Nat.le_trans (rep_len posw) (by rw [hsumw]; exact wsum)
      have wle : ∀ p ∈ ws, p.2 ≤ 1000 := fun p hp => by
        have h1 : (wv ts p).length ≤ ((ws.map (wv ts)).flatten).length := flat_le (List.mem_map_of_mem hp)
        unfold wv at h1
        rw [pw_len] at h1
        have h2 := Nat.le_mul_of_pos_right p.2 (posw p hp)
        have h3 : ((ws.map (wv ts)).flatten).length ≤ 1000 := by rw [hsumw]; exact wsum
        unfold wv at h3
        omega
      have tl : ∀ i, ((ws.reverse.take i).flatMap rep).length ≤ 1000 := fun i => by
        have h1 : ((ws.reverse.flatMap rep).reverse).length ≤ 1000 := by rw [rep_rev]; exact wl
        rw [List.length_reverse] at h1
        have h2 : ws.reverse = ws.reverse.take i ++ ws.reverse.drop i := (List.take_append_drop i _).symm
        rw [h2, List.flatMap_append, List.length_append] at h1
        omega
      refine ⟨D, _, rfl, SqL.of hD, ?_⟩
      have eal : (as.map V.ref).length = ws.length := by rw [List.length_map, hDL.1]
      rw [eal]
      refine ⟨fun i m σ H' => i + m = ws.length ∧ ∃ (zs : List Addr) (u5 u6 u7 u8 : Option V), σ = [some (.ref x), some (.int (a : Int)), some (.int (b : Int)), some (.ref W), some (.ref PP), u5, u6, u7, u8] ∧ Same H H' ∧
          H' D = some (.lst (as.map V.ref)) ∧ DL H' as ws ∧ H' W = some (.lst (zs.map V.ref)) ∧ H' PP = some (.lst (ps.map tV)) ∧ LT H' zs ((st0 ++ (ws.reverse.take i).flatMap rep).map View.vals),
        ⟨ws.length, by omega, z0, _, _, _, _, rfl, s3.trans s4, hD, hDL, hW4, hP4, by simpa using hL4⟩, ?_⟩
      rintro i m σ H5 ⟨him, zs5, v5, v6, v7, v8, rfl, s5, hD5, hDL5, hW5, hP5, hL5⟩
      by_cases hi : i < ws.length
      · have hj : ws.length - 1 - i < ws.length := by omega
        obtain ⟨pa, zp, e1, e2, e3⟩ := hDL5.2 (ws.length - 1 - i) ws[ws.length - 1 - i] (List.getElem?_eq_getElem hj)
        generalize hpp : ws[ws.length - 1 - i] = pp at e2 e3
        have hpm : pp ∈ ws := by rw [← hpp]; exact List.getElem_mem hj
        have erev : ws.reverse.take (i + 1) = ws.reverse.take i ++ [pp] := by
          rw [List.take_add_one, List.getElem?_reverse hi, List.getElem?_eq_getElem hj, hpp]
          rfl
        have eg : (as.map V.ref)[ws.length - 1 - i]? = some (.ref pa) := by rw [List.getElem?_map, e1]; rfl
        refine .inr ⟨⟨hi, _, _, SqL.of hD5, eg⟩, fun σ' H' => ∃ (zs : List Addr) (u5 u6 u7 u8 : Option V), σ' = [some (.ref x), some (.int (a : Int)), some (.int (b : Int)), some (.ref W), some (.ref PP), u5, u6, u7, u8] ∧ Same H H' ∧
          H' D = some (.lst (as.map V.ref)) ∧ DL H' as ws ∧ H' W = some (.lst (zs.map V.ref)) ∧ H' PP = some (.lst (ps.map tV)) ∧ LT H' zs ((st0 ++ (ws.reverse.take (i + 1)).flatMap rep).map View.vals), fun σ' H' h => ⟨m - 1, by omega, by omega, h⟩, ?_⟩
        rintro xx H5' ⟨rfl, hxx⟩
        have exx : xx = .ref pa := Option.some.inj ((hxx _ (SqL.of hD5)).symm.trans eg)
        subst exx
        refine ⟨pa, _, rfl, SqT.of e2, rfl, _, _, rfl, _, _, rfl, rfl, ?_⟩
        refine ⟨_, rfl, .inl ⟨rfl, _, SqL.of hW5⟩, ?_⟩
        refine ⟨_, rfl, by show 1 ≤ sizeLine; decide, fun l1 nl1 => ?_⟩
        have hk := wle pp hpm
        refine ⟨_, rfl, l1, _, _, rfl, rfl, upd_same, by omega, by omega, ?_, fun l2 nl2 => ?_⟩
        · rw [Int.toNat_natCast]
          show 1 * pp.2 ≤ sizeLine
          exact sz (by omega)
        have sl : Same H5' (upd (upd H5' l1 (.lst [.ref zp])) l2 (.lst (List.replicate ((pp.2 : Int)).toNat [V.ref zp]).flatten)) := (same_new nl1).trans (same_new nl2)
        have zsl : zs5.length ≤ 2000 := by
          rw [hL5.1, List.length_map, List.length_append]
          have := tl i
          simp at stl
          omega
        have efl : (List.replicate ((pp.2 : Int)).toNat [V.ref zp]).flatten = (List.replicate pp.2 zp).map V.ref := by
          rw [Int.toNat_natCast]
          generalize pp.2 = k
          induction k with
          | zero => rfl
          | succ k ih => rw [List.replicate_succ, List.flatten_cons, ih, List.replicate_succ]; rfl
        refine ⟨W, l2, _, _, rfl, rfl, sl _ _ hW5, upd_same, ?_, ?_⟩
        · rw [efl, List.length_map, List.length_map, List.length_replicate]
          exact sz (by omega)
        refine ⟨zs5 ++ List.replicate pp.2 zp, _, _, _, _, rfl, fun c o hc => ?_, ?_, ?_, ?_, ?_, ?_⟩
        · rw [upd_ne (ne_of_none hc nWH)]
          exact sl _ _ (s5 _ _ hc)
        · rw [upd_ne hDW]
          exact sl _ _ hD5
        · exact (hDL5.same sl).updL (sl _ _ hW5)
        · rw [upd_same, efl, List.map_append]
        · rw [upd_ne hPW]
          exact sl _ _ hP5
        · refine LT.updL ?_ (sl _ _ hW5)
          rw [erev, List.flatMap_append, ← List.append_assoc]
          have hz5 := sl _ _ e3
          have step : ∀ (k : Nat) (zs : List Addr) (st : List View) (H6 : Hp), LT H6 zs (st.map View.vals) → H6 zp = some (.tup pp.1.vals) → LT H6 (zs ++ List.replicate k zp) ((st ++ List.replicate k pp.1).map View.vals) := by
            intro k
            induction k with
            | zero => intro zs st H6 h _; simpa using h
            | succ k ih =>
              intro zs st H6 h hz6
              have h1 := ih (zs ++ [zp]) (st ++ [pp.1]) H6 (by rw [List.map_append]; exact h.add hz6) hz6
              rw [List.append_assoc, List.append_assoc] at h1
              rw [List.replicate_succ, List.replicate_succ]
              exact h1
          have h2 := step pp.2 zs5 _ _ (hL5.same sl) hz5
          have e4 : [pp].flatMap rep = List.replicate pp.2 pp.1 := by simp [rep]
          rw [e4]
          exact h2
      · have ei : i = ws.length := by omega
        subst ei
        refine .inl ⟨Nat.le_refl _, ?_⟩
        rw [← List.length_reverse, List.take_length] at hL5
        refine ⟨mu ts (st0 ++ ws.reverse.flatMap rep), ?_, zs5, st0 ++ ws.reverse.flatMap rep, ps, _, _, _, _, rfl, s5, hW5, hP5, hL5, ?_, ?_, hps, rfl⟩
        · rw [mu_app, mu_app, ← mu_rev ts (ws.reverse.flatMap rep), rep_rev]
          have h1 := mu_rep (ts := ts) (N := v.n) (ws := ws) fun p hp => (hws p hp).2.1
          rw [hsumw] at h1
          have h2 : mu ts [v] = (v.n + 1) * (vw ts v).length := by simp [mu]
          have h3 := pos v ⟨r, hs⟩
          rw [h2, Nat.add_mul, Nat.one_mul]
          omega
        · intro u hu
          rcases List.mem_append.mp hu with h1 | h1
          · exact hst0 u h1
          · obtain ⟨p, hp, hup⟩ := List.mem_flatMap.mp h1
            have := (hws p (List.mem_reverse.mp hp)).1
            rw [(List.mem_replicate.mp hup).2]
            exact this
        · have e5 : tot ts (ws.reverse.flatMap rep) = vw ts v := by
            unfold tot
            rw [rep_rev, rep_tot, hsumw]
          rw [tot_app, e5]
          exact hsum
end
/-! ### enumerate over a tuple -/
/-- the tuple at a, its items in new pairs -/
def IteT (K : PySem.W.Frag) (a : Addr) : It where
  go := fun i H => ∃ (ys : List V) (y : V), SqT K H a ys ∧ ys[i]? = some y
  yld := fun i H v H' => ∃ (p : Addr) (y : V), v = .ref p ∧ H p = none ∧ H' = upd H p (.tup [.int (i : Nat), y]) ∧ ∀ ys, SqT K H a ys → ys[i]? = some y
  stop := fun i H => ∃ ys : List V, SqT K H a ys ∧ ys.length = i
def EnT (a e it : Addr) (i : Nat) (h : Heap) : Prop := (∃ z, IsEnum h e it (0 + ((i : Nat) : Int)) z) ∧ h.IsTupleIter it a i ∧ e ≠ it ∧ a ≠ it ∧ e ≠ a
theorem walk_en {prog : Program} {w : World} {A : Around} (hA : A.handled = none) {a e it : Addr} (h1 : e ≠ it) (h2 : a ≠ it) (h3 : e ≠ a) (ys : Array Value) :
    WalksT prog w A e (e :: [it, a]) [e, it] ys.size (fun i vals => ∃ t x, ys[i]? = some x ∧ vals = #[.int (0 + (i : Int)) t, x]) (fun i h => (∃ z, IsEnum h e it (0 + (i : Int)) z) ∧ h.IsTupleIter it a i ∧ h.IsTuple a ys)
      (fun i p h => (∃ x, IsEnumOut h e it (0 + (i : Int) + 1) x p) ∧ (h.IsTupleIter it a (i + 1) ∧ h.IsTuple a ys) ∧ p ≠ e ∧ p ≠ it) :=
  WalksT.enumFrom 0 (Draws.tuple (A := A.in1) hA it a h2 ys) e h1 (by simp [h1, h3]) (by simp)
theorem turn_enT {P : Program} {w : World} {K : PySem.W.Frag} {elts : List Expr} {kk : Nat} {tpos : Pos} (a e it : Addr) : Turn P w K (.Tuple elts kk tpos) (IteT K a) [e, it] e (EnT a e it) where
  mem := List.mem_cons_self
  obj := by
    rintro i h ⟨⟨z, hz⟩, ⟨o, ho, _, hd⟩, _⟩ b hb
    rcases List.mem_cons.mp hb with q | q
    · subst q
      exact ⟨_, hz, fun v x => by
        have x' : Data.fields _ = Data.cell v := x
        cases x'⟩
    · exact ⟨o, (List.mem_singleton.mp q) ▸ ho, fun v x => by rw [hd] at x; cases x⟩
  keep := by
    rintro i h h' ⟨⟨z, hz⟩, ht, r⟩ kept
    exact ⟨⟨z, kept e List.mem_cons_self _ hz⟩, ht.at fun o q => kept it (List.mem_cons_of_mem _ List.mem_cons_self) o q, r⟩
  item := by
    intro X hP hw hK calm i pins s σ H E inv fpk st ⟨ys, y, hys, hy⟩
    subst hP hw hK
    obtain ⟨⟨z, hz⟩, ht, h1, h2, h3⟩ := st
    obtain ⟨vals, rel, tup, _⟩ := inv.tuple hys
    obtain ⟨u, hu, ru⟩ := rel.get hy
    have wk := walk_en (prog := X.prog) (w := X.w) (inv.ok.hd calm) h1 h2 h3 vals.toArray
    have hlt : i < vals.toArray.size := by
      have := (List.getElem?_eq_some_iff.mp hu).1
      simpa using this
    refine wk.item i s _ E hlt ⟨⟨z, hz⟩, ht, tup⟩ fun p vs h' tk ⟨t, x, hx, ev⟩ hp hpt mid kept => ⟨_, rfl, ?_⟩
    have exu : x = u := by
      have : vals[i]? = some x := by simpa using hx
      rw [hu] at this
      exact (Option.some.inj this).symm
    subst exu ev
    refine wk.go elts kk tpos i p { s with heap := h', toks := tk } _ E mid fun h2' st2 kept2 => ?_
    have hpw : p ∉ [e, it] := wk.apart _ _ _ mid
    obtain ⟨o, ho, hoc, n, hod⟩ := hpt
    have h0 : (0 : Int) + ((i : Nat) : Int) = ((i : Nat) : Int) := Int.zero_add _
    have obj : ObjOk X.prog X.w (upd H p (.tup [.int (i : Nat), y])) h2' p (.tup [.int (i : Nat), y]) :=
      ⟨by show 2 ≤ sizeLine; decide, [.int (0 + ((i : Nat) : Int)) t, x], .cons ⟨t, by rw [h0]⟩ (.cons ru .nil), ⟨o, kept2 _ _ hpw ho, hoc, n, hod⟩⟩
    have inv2 : Inv X pins σ (upd H p (.tup [.int (i : Nat), y])) { s with heap := h2', toks := tk } :=
      inv.turnedNew (ch := [e, it]) (fun c oc hc q => kept2 _ _ hc (kept _ _ hc q)) fpk hp obj
    refine ⟨.ref p, _, inv2, rfl, ⟨p, y, rfl, inv.hok.fresh hp, rfl, fun zs hzs => by rw [inv.tuple_inj hzs hys]; exact hy⟩, ⟨st2.1, st2.2.1, h1, h2, h3⟩, fun c hc => ?_⟩
    have ncp : c ≠ p := fun q => hpw (q ▸ hc)
    rw [upd_ne ncp]
    exact (fpk c hc).1
  done := by
    intro X hP hw hK calm i pins s σ H E inv fpk st ⟨ys, hys, hlen⟩
    subst hP hw hK
    obtain ⟨⟨z, hz⟩, ht, h1, h2, h3⟩ := st
    obtain ⟨vals, rel, tup, _⟩ := inv.tuple hys
    have wk := walk_en (prog := X.prog) (w := X.w) (inv.ok.hd calm) h1 h2 h3 vals.toArray
    have hsz : i = vals.toArray.size := by
      have := rel.length
      simp
      omega
    subst hsz
    exact wk.done s _ E ⟨⟨z, hz⟩, ht, tup⟩ fun h' tk kept => ⟨rfl, inv.turnedL (ch := [e, it]) (fun c o hc q => kept c o hc q) fpk⟩
  self := fun A i s Q E st h => by
    obtain ⟨⟨z, hz⟩, _⟩ := st
    exact wpAny_pyIter_enum hz h
set_option maxHeartbeats 8000000 in
theorem enum_newB {v : Value} {o : Obj} {Hh : Heap → Prop} (B : Begins v o Hh) :
    Meets (Builtin.«enumerate.__new__» ⟨[.type "enumerate", v], []⟩) (fun _ R s => Hh s.heap ∧
      R (.ok (.ret (.ref (s.heap.push o).objs.size))) { s with heap := (s.heap.push o).push { cls := .type "enumerate", data := .fields #[.none, .bool false, .ref s.heap.objs.size, rawInt 0, .none, .none] } }) := by
  refine .of_wp fun prog w A R s hs => ?_
  obtain ⟨hp, g, d, tk, os⟩ := s
  obtain ⟨hb, hR⟩ := hs
  have hsub := sub_enumerate
  have step : ∀ {A' : Around} {E : Value → Shared → Prop} {Q : Value → Shared → Prop}, Q (.ref hp.objs.size) ⟨hp.push o, g, d, tk, os⟩ → wpAny (model prog w) A' (pyIter v) Q E ⟨hp, g, d, tk, os⟩ := fun q => B.iter prog w _ _ _ _ hb q
  wp_walk using step
  refine wpAny_stack_any fun st => wpAny_pure ?_
  split
  next c _ _ _ _ _ =>
    cases (c == Value.type "enumerate") <;> (wp_walk using step; exact ⟨_, rfl, hR⟩)
  next => wp_walk using step; exact ⟨_, rfl, hR⟩
def iEnumT (K : PySem.W.Frag) (ta : TA) : TI := fun σ H R => ta σ H fun vs H1 => ∃ (a : Addr) (ys : List V), vs = [.ref a] ∧ SqT K H1 a ys ∧ R (IteT K a) H1
theorem pi_enumT {X : Cx} {e : Expr} {ta : TA} {p pos tpos : Pos} {elts : List Expr} {kk : Nat} (hg : Gl X "enumerate") (hm : X.mg "enumerate" = none) (ha : PA X [e] ta) (hs : starEach [e] X.env = [(false, eval e X.env)] := by rfl) :
    PI X (.Tuple elts kk tpos) (.Call (.Name "enumerate" p) [e] [] pos) (iEnumT X.K ta) where
  run := by
    intro pins s σ H R inv hR
    refine Call_ (ld_blt inv hg hm boot_enumerate (PyProof.Rows.callWith_type1 (thn (ha.run pos pins s σ H _ inv hR) ?_) hs rfl))
    rintro us s1 ⟨vs, H1, inv1, rel, a, ys, rfl, hys, hR1⟩
    obtain ⟨u, rfl, ru⟩ : ∃ u, us = [u] ∧ RelV (.ref a) u := by
      cases rel with
      | cons r rr => cases rr; exact ⟨_, rfl, r⟩
    obtain rfl : u = .ref a := ru
    obtain ⟨vals, rv, tup, _⟩ := inv1.tuple hys
    have B := begins_tuple a vals.toArray
    refine callType_new F.called_enumerate (by decide) (F.typeCall_enumerate_1 _) (F.newCall_enumerate_1 _) (fun ob => F.args_object_init_2 ob _) F.entry_enumerate_new (enum_newB B) ⟨tup, ?_⟩
    obtain ⟨hp, g, d, tk, os⟩ := s1
    have hz : (hp.push { cls := .type "tuple_iterator", data := .fields #[.ref a, .int 0 0] }).objs.size = hp.objs.size + 1 := Heap.size_push ..
    have grown : ∀ c oc, hp.get? c = some oc → ((hp.push { cls := .type "tuple_iterator", data := .fields #[.ref a, .int 0 0] }).push { cls := .type "enumerate", data := .fields #[.none, .bool false, .ref hp.objs.size, rawInt 0, .none, .none] }).get? c = some oc := fun c oc q => Heap.get?_push_of_some _ (Heap.get?_push_of_some _ q)
    have he : IsEnum ((hp.push { cls := .type "tuple_iterator", data := .fields #[.ref a, .int 0 0] }).push { cls := .type "enumerate", data := .fields #[.none, .bool false, .ref hp.objs.size, rawInt 0, .none, .none] }) (hp.objs.size + 1) hp.objs.size 0 .none := by
      rw [← hz]
      exact Heap.get?_push_size _ rfl
    have hal : a < hp.objs.size := by
      obtain ⟨o, ho, _⟩ := tup
      exact Heap.lt_size ho
    have inv2 : Inv X pins σ H1 ⟨(hp.push { cls := .type "tuple_iterator", data := .fields #[.ref a, .int 0 0] }).push { cls := .type "enumerate", data := .fields #[.none, .bool false, .ref hp.objs.size, rawInt 0, .none, .none] }, g, d, tk, os⟩ := inv1.kept (t' := tk) grown
    show _ ∧ _
    rw [hz]
    refine ⟨⟨_, he, rfl⟩, wpAny_pyIter_enum he ?_⟩
    refine ⟨hp.objs.size + 1, [hp.objs.size + 1, hp.objs.size], EnT a (hp.objs.size + 1) hp.objs.size, IteT X.K a, H1, rfl, inv2, turn_enT a _ _,
      ⟨⟨.none, he⟩, ⟨_, Heap.get?_push_of_some _ (Heap.get?_push_size _ rfl), rfl, rfl⟩, Nat.succ_ne_self _, Nat.ne_of_lt hal, Nat.ne_of_gt (Nat.lt_succ_of_lt hal)⟩, fun c hc => ?_, hR1⟩
    have hcle : hp.objs.size ≤ c := by
      rcases List.mem_cons.mp hc with q | q
      · rw [q]; exact Nat.le_succ _
      · rw [List.mem_singleton.mp q]; exact Nat.le_refl _
    exact inv1.fpOk (s := ⟨hp, g, d, tk, os⟩) hcle (inv1.hok.fresh hcle)
/-- either of two readings -/
theorem PI.or {X : Cx} {tg it : Expr} {w1 w2 : TI} (h1 : PI X tg it w1) (h2 : PI X tg it w2) : PI X tg it (fun σ H R => w1 σ H R ∨ w2 σ H R) :=
  ⟨fun pins s σ H R inv h => h.elim (h1.run pins s σ H R inv) (h2.run pins s σ H R inv)⟩
theorem PE.or {X : Cx} {e : Expr} {t1 t2 : TE} (h1 : PE X e t1) (h2 : PE X e t2) : PE X e (fun σ H Q => t1 σ H Q ∨ t2 σ H Q) :=
  ⟨fun pins s σ H Q inv h => h.elim (h1.run pins s σ H Q inv) (h2.run pins s σ H Q inv)⟩
/-! ### a <= b <= c <= d -/
section
variable {X : Cx}
def tChain3 (r1 r2 r3 : R2) (ta tb tc td : TE) : TE := fun σ H Q => ta σ H fun x H1 => tb σ H1 fun y H2 => r1 x y H2 fun z H3 => ∃ k, z = .bl k ∧
  (if k = true then tc σ H3 fun u H4 => r2 y u H4 fun z2 H5 => ∃ k2, z2 = .bl k2 ∧ (if k2 = true then td σ H5 fun t H6 => r3 u t H6 Q else Q (.bl false) H5) else Q (.bl false) H3)
theorem pe_chain3 {a b c d : Expr} {pos : Pos} {ta tb tc td : TE} {o1 o2 o3 : CmpOp} {r1 r2 r3 : R2} (h1 : OpR X (compareOp o1) r1) (h2 : OpR X (compareOp o2) r2) (h3 : OpR X (compareOp o3) r3) (ha : PE X a ta) (hb : PE X b tb) (hc : PE X c tc) (hd : PE X d td)
    (hm : lastMarks [o1, o2, o3] [b, c, d] = false := by with_unfolding_all rfl) : PE X (.Compare a [o1, o2, o3] [b, c, d] pos) (tChain3 r1 r2 r3 ta tb tc td) where
  run := by
    intro pins s σ H Q inv h
    refine Compare_chain (thn (ha.run pins s σ H _ inv h) ?_) hm
    rintro va s1 ⟨xa, H1, i1, ra, qa⟩
    refine chain_link (thn (hb.run pins s1 σ H1 _ i1 qa) ?_)
    rintro vb s2 ⟨xb, H2, i2, rb, qb⟩
    refine thn (h1 pins s2 σ H2 xa xb va vb _ i2 ra rb qb) ?_
    rintro k1 s3 ⟨_, H3, i3, rk, k, rfl, q3⟩
    obtain rfl : k1 = .bool k := rk
    refine wpAny_truthy_bool ?_
    cases k with
    | false => exact ite_ff ⟨.bl false, H3, i3, rfl, q3⟩
    | true =>
      refine ite_tt (chain_link (thn (hc.run pins s3 σ H3 _ i3 q3) ?_))
      rintro vc s4 ⟨xc, H4, i4, rc, qc⟩
      refine thn (h2 pins s4 σ H4 xb xc vb vc _ i4 rb rc qc) ?_
      rintro k2 s5 ⟨_, H5, i5, rk2, j, rfl, q5⟩
      obtain rfl : k2 = .bool j := rk2
      refine wpAny_truthy_bool ?_
      cases j with
      | false => exact ite_ff ⟨.bl false, H5, i5, rfl, q5⟩
      | true =>
        refine ite_tt (chain_last (thn (hd.run pins s5 σ H5 _ i5 q5) ?_))
        rintro vd s6 ⟨xd, H6, i6, rd, qd⟩
        exact h3 pins s6 σ H6 xc xd vc vd Q i6 rc rd qd
end
/-! ### a rule as a tuple or a list -/
def RA (H : Hp) (a : Addr) (vals : List V) : Prop := H a = some (.tup vals) ∨ H a = some (.lst vals)
theorem RA.same {H H' : Hp} {a : Addr} {vals : List V} (h : RA H a vals) (s : Same H H') : RA H' a vals := h.elim (fun x => .inl (s _ _ x)) fun x => .inr (s _ _ x)
theorem RA.ix {K : PySem.W.Frag} {H : Hp} {a : Addr} {vals : List V} (h : RA H a vals) (j : Nat) {z : Int} {v : V} (ez : z = (j : Int)) (e : vals[j]? = some v) {Q : VK} (q : Q v H) : rIx K (.ref a) (.int z) H Q := by
  rcases h with h | h
  · exact .inr (.inl ⟨a, vals, z, v, rfl, rfl, SqT.of h, at_of ez e, q⟩)
  · exact .inl ⟨a, vals, z, v, rfl, rfl, SqL.of h, at_of ez e, q⟩
theorem RA.sq {K : PySem.W.Frag} {H : Hp} {a : Addr} {vals : List V} (h : RA H a vals) : SqL K H a vals ∨ SqT K H a vals := h.elim (fun x => .inr (SqT.of x)) fun x => .inl (SqL.of x)
def lenV (l : List Nat) : V := .int (l.length : Int)
theorem lenV_at {ts : List (List Nat)} {i : Nat} (h : i < ts.length) : atI (ts.map lenV) (i : Int) = some (.int ((tx ts i).length : Int)) := len_at h
section
variable {P : Program} {w : World} {K : PySem.W.Frag} {mg : Str → Option Value} {base : Heap}
/-! ### length_made -/
def spLengthMade : Sp := fun vs H Q _ => ∃ (a L : Addr) (ts : List (List Nat)) (r : Rule), vs = [.ref a, .ref L] ∧ RA H a r.vals ∧ H L = some (.lst (ts.map lenV)) ∧ Ok ts r ∧ (∀ l ∈ ts, l.length ≤ 1000000000000) ∧ Q (.int ((made ts r).length : Int)) H
theorem scLm : FnScope ["rule", "lengths", "word"] ["rule", "lengths"] (defScope sLengthMade) := ⟨rfl, rfl, rfl, by decide +kernel, rfl, by decide +kernel, by decide +kernel⟩
theorem ok_length_made {f : Addr} {fd : FuncData} (F : Fun K "length_made" "length_made" sLengthMade f fd) (hm : mg "length_made" = some (.ref f)) (b : Binds K fd ["rule", "lengths"] []) (T : Txt mg) : Cal P w K mg base 1 "length_made" spLengthMade [] := by
  refine mkCal F hm b scLm (fun vs H Q E h => ?_) (fun cdv A outer s H vs Q E hr h => ?_)
  · obtain ⟨a, L, ts, r, rfl, _⟩ := h
    rfl
  obtain ⟨a, L, ts, r, rfl, hA, hL, ok, hle, q⟩ := h
  refine ⟨_, (pss_cons (ps_set (i := 2) scLm.nd rfl (.inl rfl) (pe_ix ix_seq (pv 0) pe_int (fun _ _ => rfl)))
    (pss_cons (ps_if (pt_cmpR op_eq (pv 2) pe_str (nomark _)) (pss_one (ps_ret (pe_callB call_len_str (by rfl) T.len PySem.boot_len (pa_cons (pe_ix ix_seq (pv 0) pe_int (fun _ _ => rfl)) pa_nil)))) pss_nil)
    (pss_cons (ps_if (pt_cmpR op_eq (pv 2) pe_str (nomark _)) (pss_one (ps_ret (pe_op op_add (pe_ix ix_list (pv 1) (pe_ix ix_seq (pv 0) pe_int (fun _ _ => rfl)) (fun _ _ => rfl)) (pe_ix ix_list (pv 1) (pe_ix ix_seq (pv 0) pe_int (fun _ _ => rfl)) (fun _ _ => rfl))))) pss_nil)
    (pss_cons (ps_if (pt_cmpR op_eq (pv 2) pe_str (nomark _)) (pss_one (ps_ret (pe_op op_mul (pe_ix ix_list (pv 1) (pe_ix ix_seq (pv 0) pe_int (fun _ _ => rfl)) (fun _ _ => rfl)) (pe_ix ix_seq (pv 0) pe_int (fun _ _ => rfl))))) pss_nil)
    (pss_cons (ps_if (pt_cmpR op_eq (pv 2) pe_str (nomark _)) (pss_one (ps_ret (pe_op op_sub (pe_ix ix_seq (pv 0) pe_int (fun _ _ => rfl)) (pe_ix ix_seq (pv 0) pe_int (fun _ _ => rfl))))) pss_nil)
    (pss_one (ps_ret (pe_ix ix_list (pv 1) (pe_ix ix_seq (pv 0) pe_int (fun _ _ => rfl)) (fun _ _ => rfl))))))))), ?_⟩
  have hL' : SqL K H L (ts.map lenV) := SqL.of hL
  cases r with
  | letters z =>
    refine ⟨_, rfl, hA.ix 0 rfl rfl ?_⟩
    refine ⟨_, rfl, rfl, _, rfl, ifT (by decide +kernel) ?_⟩
    refine ⟨_, rfl, hA.ix 1 rfl rfl ⟨S z, rfl, Sz (by have := ok.1; omega), ?_⟩⟩
    rw [S_len]
    exact q
  | join i j =>
    refine ⟨_, rfl, hA.ix 0 rfl rfl ?_⟩
    refine ⟨_, rfl, rfl, _, rfl, ifF (by decide +kernel) ?_⟩
    refine ⟨_, rfl, rfl, _, rfl, ifT (by decide +kernel) ?_⟩
    refine ⟨_, rfl, _, rfl, hA.ix 1 rfl rfl ⟨L, _, (i : Int), _, rfl, rfl, hL', lenV_at ok.1, ?_⟩⟩
    refine ⟨_, rfl, _, rfl, hA.ix 2 rfl rfl ⟨L, _, (j : Int), _, rfl, rfl, hL', lenV_at ok.2, _, _, rfl, rfl, ?_⟩⟩
    have e : ((made ts (.join i j)).length : Int) = ((tx ts i).length : Int) + ((tx ts j).length : Int) := by
      show ((tx ts i ++ tx ts j).length : Int) = _
      rw [List.length_append]
      omega
    rw [e] at q
    exact q
  | power i k =>
    refine ⟨_, rfl, hA.ix 0 rfl rfl ?_⟩
    refine ⟨_, rfl, rfl, _, rfl, ifF (by decide +kernel) ?_⟩
    refine ⟨_, rfl, rfl, _, rfl, ifF (by decide +kernel) ?_⟩
    refine ⟨_, rfl, rfl, _, rfl, ifT (by decide +kernel) ?_⟩
    have hb := hle _ (tx_mem ok.1)
    refine ⟨_, rfl, _, rfl, hA.ix 1 rfl rfl ⟨L, _, (i : Int), _, rfl, rfl, hL', lenV_at ok.1, ?_⟩⟩
    refine ⟨_, rfl, hA.ix 2 rfl rfl ⟨_, _, rfl, rfl, .inl ⟨by omega, by omega⟩, ?_⟩⟩
    have e : ((made ts (.power i k)).length : Int) = ((tx ts i).length : Int) * (k : Int) := by
      show ((pw (tx ts i) k).length : Int) = _
      rw [pw_len, Int.natCast_mul, Int.mul_comm]
    rw [e] at q
    exact q
  | part i x y =>
    refine ⟨_, rfl, hA.ix 0 rfl rfl ?_⟩
    refine ⟨_, rfl, rfl, _, rfl, ifF (by decide +kernel) ?_⟩
    refine ⟨_, rfl, rfl, _, rfl, ifF (by decide +kernel) ?_⟩
    refine ⟨_, rfl, rfl, _, rfl, ifF (by decide +kernel) ?_⟩
    refine ⟨_, rfl, rfl, _, rfl, ifT (by decide +kernel) ?_⟩
    refine ⟨_, rfl, hA.ix 3 rfl rfl ⟨_, rfl, hA.ix 2 rfl rfl ⟨_, _, rfl, rfl, ?_⟩⟩⟩
    have e : ((made ts (.part i x y)).length : Int) = (y : Int) - (x : Int) := by
      show ((sub (tx ts i) x y).length : Int) = _
      rw [sub_len ok.2.2]
      have := ok.2.1
      omega
    rw [e] at q
    exact q
  | back i =>
    refine ⟨_, rfl, hA.ix 0 rfl rfl ?_⟩
    refine ⟨_, rfl, rfl, _, rfl, ifF (by decide +kernel) ?_⟩
    refine ⟨_, rfl, rfl, _, rfl, ifF (by decide +kernel) ?_⟩
    refine ⟨_, rfl, rfl, _, rfl, ifF (by decide +kernel) ?_⟩
    refine ⟨_, rfl, rfl, _, rfl, ifF (by decide +kernel) ?_⟩
    refine ⟨_, rfl, _, rfl, hA.ix 1 rfl rfl ⟨L, _, (i : Int), _, rfl, rfl, hL', lenV_at ok, ?_⟩⟩
    have e : ((made ts (.back i)).length : Int) = ((tx ts i).length : Int) := by
      show ((tx ts i).reverse.length : Int) = _
      rw [List.length_reverse]
    rw [e] at q
    exact q
/-! ### copied -/
def rTupOf (K : PySem.W.Frag) : List V → Hp → VK → Prop := fun xs H Q => ∃ p ys, xs = [.ref p] ∧ ((SqL K H p ys ∧ ∀ l, H l = none → Q (.ref l) (upd H l (.tup ys))) ∨ (SqT K H p ys ∧ Q (.ref p) H))
def spCopied : Sp := fun vs H Q _ => ∃ (R : Addr) (as : List Addr) (vss : List (List V)), vs = [.ref R] ∧ RA H R (as.map V.ref) ∧ as.length = vss.length ∧ (∀ (k : Nat) (vs : List V), vss[k]? = some vs → ∃ a, as[k]? = some a ∧ RA H a vs) ∧ vss.length ≤ 1000 ∧
  ∀ q as' H', Same H H' → H' q = some (.tup (as'.map V.ref)) → LT H' as' vss → Q (.ref q) H'
theorem scCo : FnScope ["rules", "rule"] ["rules"] (defScope sCopied) := ⟨rfl, rfl, rfl, by decide +kernel, rfl, by decide +kernel, by decide +kernel⟩
theorem ok_copied {f : Addr} {fd : FuncData} (F : Fun K "copied" "copied" sCopied f fd) (hm : mg "copied" = some (.ref f)) (b : Binds K fd ["rules"] []) (T : Txt mg) : Cal P w K mg base 1 "copied" spCopied [] := by
  refine mkCal F hm b scCo (fun vs H Q E h => ?_) (fun cdv A outer s H vs Q E hr h => ?_)
  · obtain ⟨R, as, vss, rfl, _⟩ := h
    rfl
  obtain ⟨R, as, vss, rfl, hR, hl, hel, h1000, q⟩ := h
  refine ⟨_, (pss_one (ps_ret (pe_callTy call_tuple_of (by rfl) T.tuple (by decide +kernel) (pa_cons (pe_lc (own := [("rule", 1)]) (g := gName 1) (te := tCB (rTupOf K) (tCons (tVar 1) tNil)) (tt := tYes) rfl scCo.nd (PI.or (pi_list (pv 0)) (pi_tup (pv 0))) (blkOk_by (N := ["rules", "rule"]) (sc := defScope sCopied) (by decide +kernel)) (fun _ _ _ _ _ => (pg_name (i := 1) scCo.nd rfl (.inl rfl))) (fun _ _ _ _ _ => pts_nil) (fun _ _ _ _ _ => (pe_callTy call_tuple_of (by rfl) T.tuple (by decide +kernel) (pa_cons (pv 1) pa_nil)))) pa_nil)))), ?_⟩
  have eal : (as.map V.ref).length = vss.length := by rw [List.length_map, hl]
  -- one turn, the end
  have turn : ∀ (D : Addr) (i : Nat) (xx : V) (H1 : Hp), H D = none → (as.map V.ref)[i]? = some xx → Same H H1 → (∃ as', H1 D = some (.lst (as'.map V.ref)) ∧ LT H1 as' (vss.take i)) → ∃ a, xx = .ref a ∧
      ∀ (R' : V → Hp → Prop), (∀ y H2, (∃ acc, H2 D = some (.lst acc) ∧ acc.length < sizeLine ∧ (Same H (upd H2 D (.lst (acc ++ [y]))) ∧ ∃ as', (upd H2 D (.lst (acc ++ [y]))) D = some (.lst (as'.map V.ref)) ∧ LT (upd H2 D (.lst (acc ++ [y]))) as' (vss.take (i + 1)))) → R' y H2) →
        ∃ p ys, [V.ref a] = [.ref p] ∧ ((SqL K H1 p ys ∧ ∀ l, H1 l = none → R' (.ref l) (upd H1 l (.tup ys))) ∨ (SqT K H1 p ys ∧ R' (.ref p) H1)) := by
    intro D i xx H1 nD hi s1 ⟨as', hD, hT⟩
    have hi2 : i < vss.length := by
      have := (List.getElem?_eq_some_iff.mp hi).1
      omega
    obtain ⟨a, ea, ha⟩ := hel i vss[i] (List.getElem?_eq_getElem hi2)
    rw [List.getElem?_map, ea] at hi
    have ex := Option.some.inj hi
    subst ex
    refine ⟨a, rfl, fun R' hR' => ?_⟩
    have etk : vss.take (i + 1) = vss.take i ++ [vss[i]] := by
      rw [List.take_add_one, List.getElem?_eq_getElem hi2]
      rfl
    have put : ∀ (H2 : Hp) (p : Addr), Same H1 H2 → H2 p = some (.tup vss[i]) → ∃ acc, H2 D = some (.lst acc) ∧ acc.length < sizeLine ∧ (Same H (upd H2 D (.lst (acc ++ [.ref p]))) ∧ ∃ as', (upd H2 D (.lst (acc ++ [.ref p]))) D = some (.lst (as'.map V.ref)) ∧ LT (upd H2 D (.lst (acc ++ [.ref p]))) as' (vss.take (i + 1))) := by
      intro H2 p s2 hp
      have hD2 := s2 _ _ hD
      refine ⟨_, hD2, by rw [List.length_map, hT.1, List.length_take]; exact small1000 (by omega), fun c o hc => ?_, as' ++ [p], by rw [upd_same]; simp, ?_⟩
      · rw [upd_ne (ne_of_none hc nD)]
        exact s2 _ _ (s1 _ _ hc)
      · rw [etk]
        exact ((hT.same s2).add hp).updL hD2
    rcases ha.same s1 with h | h
    · exact ⟨a, _, rfl, .inr ⟨SqT.of h, hR' _ _ (put H1 a (Same.refl H1) h)⟩⟩
    · exact ⟨a, _, rfl, .inl ⟨SqL.of h, fun l nl => hR' _ _ (put _ l (same_new nl) upd_same)⟩⟩
  have fin : ∀ (D : Addr) (H1 : Hp), Same H H1 → (∃ as', H1 D = some (.lst (as'.map V.ref)) ∧ LT H1 as' (vss.take vss.length)) → ∃ p ys, [V.ref D] = [.ref p] ∧ ((SqL K H1 p ys ∧ ∀ l, H1 l = none → Q (.ref l) (upd H1 l (.tup ys))) ∨ (SqT K H1 p ys ∧ Q (.ref p) H1)) := by
    rintro D H1 s1 ⟨as', hD, hT⟩
    rw [List.take_length] at hT
    exact ⟨D, _, rfl, .inl ⟨SqL.of hD, fun t nt => q t as' _ (s1.trans (same_new nt)) upd_same (hT.same (same_new nt))⟩⟩
  rcases hR with hR | hR
  · refine .inr ⟨_, rfl, R, rfl, ⟨_, SqT.of hR⟩, fun D nD => ?_⟩
    refine lc_tup (K := K) (a := R) (xs := as.map V.ref) (fun i H' => Same H H' ∧ ∃ as', H' D = some (.lst (as'.map V.ref)) ∧ LT H' as' (vss.take i)) ⟨same_new nD, [], upd_same, LT.nil⟩ (fun i H' _ h => SqT.of (h.1 _ _ hR)) ?_ ?_
    · rintro i xx H1 hi ⟨s1, h1⟩
      obtain ⟨a, rfl, h⟩ := turn D i xx H1 nD hi s1 h1
      exact ⟨rfl, _, rfl, h _ fun y H2 hh => hh⟩
    · rintro H1 ⟨s1, h1⟩
      rw [eal] at h1
      exact fin D H1 s1 h1
  · refine .inl ⟨_, rfl, R, rfl, ⟨_, SqL.of hR⟩, fun D nD => ?_⟩
    refine lc_list (K := K) (a := R) (xs := as.map V.ref) (fun i H' => Same H H' ∧ ∃ as', H' D = some (.lst (as'.map V.ref)) ∧ LT H' as' (vss.take i)) ⟨same_new nD, [], upd_same, LT.nil⟩ (fun i H' _ h => SqL.of (h.1 _ _ hR)) ?_ ?_
    · rintro i xx H1 hi ⟨s1, h1⟩
      obtain ⟨a, rfl, h⟩ := turn D i xx H1 nD hi s1 h1
      exact ⟨rfl, _, rfl, h _ fun y H2 hh => hh⟩
    · rintro H1 ⟨s1, h1⟩
      rw [eal] at h1
      exact fin D H1 s1 h1
/-! ### is_part, letter, letters -/
def spIsPart : Sp := fun vs H Q _ => ∃ a b n : Int, vs = [.int a, .int b, .int n] ∧ Q (.bl (decide (0 ≤ a ∧ a ≤ b ∧ b ≤ n))) H
theorem scIp : FnScope ["start", "stop", "length"] ["start", "stop", "length"] (defScope sIsPart) := ⟨rfl, rfl, rfl, by decide +kernel, rfl, by decide +kernel, by decide +kernel⟩
theorem ok_is_part {f : Addr} {fd : FuncData} (F : Fun K "is_part" "is_part" sIsPart f fd) (hm : mg "is_part" = some (.ref f)) (b : Binds K fd ["start", "stop", "length"] []) : Cal P w K mg base 1 "is_part" spIsPart [] := by
  refine mkCal F hm b scIp (fun vs H Q E h => ?_) (fun cdv A outer s H vs Q E hr h => ?_)
  · obtain ⟨a, b, n, rfl, _⟩ := h
    rfl
  obtain ⟨a, b, n, rfl, q⟩ := h
  refine ⟨_, (pss_one (ps_ret (pe_chain3 op_le op_le op_le pe_int (pv 0) (pv 1) (pv 2)))), ?_⟩
  refine ⟨_, rfl, _, _, rfl, rfl, _, rfl, ?_⟩
  have fls : ¬ (0 ≤ a ∧ a ≤ b ∧ b ≤ n) → Q (.bl false) H := fun h => by rw [decide_eq_false h] at q; exact q
  refine ite2 (fun z => ?_) (fun z => fls fun h => z (decide_eq_true h.1))
  have z1 : (0 : Int) ≤ a := of_decide_eq_true z
  refine ⟨_, rfl, _, _, rfl, rfl, _, rfl, ?_⟩
  refine ite2 (fun z => ?_) (fun z => fls fun h => z (decide_eq_true h.2.1))
  have z2 : a ≤ b := of_decide_eq_true z
  refine ⟨_, rfl, _, _, rfl, rfl, ?_⟩
  have e : decide (0 ≤ a ∧ a ≤ b ∧ b ≤ n) = decide (b ≤ n) := by
    by_cases h : b ≤ n
    · rw [decide_eq_true h, decide_eq_true ⟨z1, z2, h⟩]
    · rw [decide_eq_false h, decide_eq_false fun x => h x.2.2]
  rw [e] at q
  exact q
end
theorem LTR_SL : LTR.cps.toList = SL := by decide +kernel
theorem RA.ty {K : PySem.W.Frag} {H : Hp} {a : Addr} {vals : List V} (h : RA H a vals) : (TyX K H (.ref a) (.type "tuple")) ∨ (TyX K H (.ref a) (.type "list")) := h.elim (fun x => .inl (.base (.tup x))) fun x => .inr (.base (.lst x))
def rLen (K : PySem.W.Frag) : List V → Hp → VK → Prop := fun xs H Q => ∃ p ys, xs = [.ref p] ∧ (SqL K H p ys ∨ SqT K H p ys) ∧ Q (.int (ys.length : Int)) H
structure Sizes (K : PySem.W.Frag) (w : World) (mg : Str → Option Value) (d : Addr) (es : Array DictEntry) (n : Nat) : Prop where
  hd : ∃ u, mg "SIZES" = some u ∧ RelV (.ref d) u
  D : KDict K w d es n
  s1 : ∃ t, PySem.W.nsIn K d "letters" = some (some (.int 2 t))
  s2 : ∃ t, PySem.W.nsIn K d "join" = some (some (.int 3 t))
  s3 : ∃ t, PySem.W.nsIn K d "power" = some (some (.int 3 t))
  s4 : ∃ t, PySem.W.nsIn K d "part" = some (some (.int 4 t))
  s5 : ∃ t, PySem.W.nsIn K d "back" = some (some (.int 2 t))
def wordOf : Rule → Str
  | .letters _ => "letters"
  | .join _ _ => "join"
  | .power _ _ => "power"
  | .part _ _ _ => "part"
  | .back _ => "back"
theorem Sizes.at_ {K : PySem.W.Frag} {w : World} {mg : Str → Option Value} {d : Addr} {es : Array DictEntry} {n : Nat} (Z : Sizes K w mg d es n) (r : Rule) : ∃ t, PySem.W.nsIn K d (wordOf r) = some (some (.int (r.vals.length : Int) t)) := by
  cases r with
  | letters z => exact Z.s1
  | join i j => exact Z.s2
  | power i k => exact Z.s3
  | part i a b => exact Z.s4
  | back i => exact Z.s5
theorem vals_word (r : Rule) : r.vals[0]? = some (.str (wordOf r)) := by cases r <;> rfl
section
variable {P : Program} {w : World} {K : PySem.W.Frag} {mg : Str → Option Value} {base : Heap}
/-! ### is_whole, has_word, are_told -/
def spIsWhole : Sp := fun vs H Q _ => ∃ i : Int, vs = [.int i] ∧ Q (.bl true) H
theorem scIw : FnScope ["value"] ["value"] (defScope sIsWhole) := ⟨rfl, rfl, rfl, by decide +kernel, rfl, by decide +kernel, by decide +kernel⟩
theorem ok_is_whole {f : Addr} {fd : FuncData} (F : Fun K "is_whole" "is_whole" sIsWhole f fd) (hm : mg "is_whole" = some (.ref f)) (b : Binds K fd ["value"] []) (T : Txt mg) : Cal P w K mg base 1 "is_whole" spIsWhole [] := by
  refine mkCal F hm b scIw (fun vs H Q E h => ?_) (fun cdv A outer s H vs Q E hr h => ?_)
  · obtain ⟨i, rfl, _⟩ := h
    rfl
  obtain ⟨i, rfl, q⟩ := h
  refine ⟨_, (pss_one (ps_ret (pe_and (pe_callB call_isi (by rfl) T.isinstance (by decide +kernel) (pa_cons (pv 0) (pa_cons (pe_bltn (v := .ty "int") (by rfl) T.int (by decide +kernel) rfl) pa_nil))) (pe_one (pe_not (pe_callB call_isi (by rfl) T.isinstance (by decide +kernel) (pa_cons (pv 0) (pa_cons (pe_bltn (v := .ty "bool") (by rfl) T.bool (by decide +kernel) rfl) pa_nil)))))))), ?_⟩
  refine ⟨_, rfl, _, _, _, _, true, rfl, .ty _, .base (.int i), kit_ty (by decide +kernel), true, rfl, ifT rfl ?_⟩
  exact ⟨_, rfl, _, _, _, _, false, rfl, .ty _, .base (.int i), kit_ty (by decide +kernel), false, rfl, q⟩
def spHasWord : Sp := fun vs H Q _ => ∃ (a : Addr) (r : Rule), vs = [.ref a] ∧ RA H a r.vals ∧ ∀ H', Same H H' → Q (.bl true) H'
theorem scHw : FnScope ["rule"] ["rule"] (defScope sHasWord) := ⟨rfl, rfl, rfl, by decide +kernel, rfl, by decide +kernel, by decide +kernel⟩
theorem tl_any {K : PySem.W.Frag} {H : Hp} {a : Addr} {vals : List V} (h : RA H a vals) : ∃ t, TyX K H (.ref a) t ∧ PySem.W.kitAny K t [.type "tuple", .type "list"] = some true := by
  rcases h.ty (K := K) with h | h
  · exact ⟨_, h, kitAny_cons (b := true) (kit_ty (by decide +kernel)) (fun z => nomatch z) fun _ => rfl⟩
  · exact ⟨_, h, kitAny_cons (b := false) (kit_ty (by decide +kernel)) (fun _ => kitAny_cons (b := true) (kit_ty (by decide +kernel)) (fun z => nomatch z) fun _ => rfl) fun z => nomatch z⟩
theorem RA.tru {K : PySem.W.Frag} {H : Hp} {a : Addr} {vals : List V} (h : RA H a vals) : TruV K (.ref a) H (!vals.isEmpty) := by
  rcases h with h | h
  · exact .inr (.inl ⟨_, SqT.of h, rfl⟩)
  · exact .inl ⟨_, SqL.of h, rfl⟩
theorem ok_has_word {f d : Addr} {es : Array DictEntry} {n : Nat} {fd : FuncData} (F : Fun K "has_word" "has_word" sHasWord f fd) (hm : mg "has_word" = some (.ref f)) (b : Binds K fd ["rule"] []) (T : Txt mg) (Z : Sizes K w mg d es n) : Cal P w K mg base 1 "has_word" spHasWord [] := by
  refine mkCal F hm b scHw (fun vs H Q E h => ?_) (fun cdv A outer s H vs Q E hr h => ?_)
  · obtain ⟨a, r, rfl, _⟩ := h
    rfl
  obtain ⟨a, r, rfl, hA, q⟩ := h
  refine ⟨_, (pss_cons (ps_if (PW.pt (pw_or (pt_not (pt_val (pe_callB call_isiT (by rfl) T.isinstance (by decide +kernel) (pa_cons (pv 0) (pa_cons (pe_tup (pa_cons (pe_bltn (v := .ty "tuple") (by rfl) T.tuple (by decide +kernel) rfl) (pa_cons (pe_bltn (v := .ty "list") (by rfl) T.list (by decide +kernel) rfl) pa_nil))) pa_nil))))) (pw_or1 (pt_not (pt_truth (pv 0) (by intro _; rfl)))))) (pss_one (ps_ret pe_bl)) pss_nil)
    (pss_one (ps_ret (pe_and (pe_callB call_isi (by rfl) T.isinstance (by decide +kernel) (pa_cons (pe_ix ix_seq (pv 0) pe_int (fun _ _ => rfl)) (pa_cons (pe_bltn (v := .ty "str") (by rfl) T.str (by decide +kernel) rfl) pa_nil))) (pe_one (pe_cmpR (op_in_kd Z.D) (pe_ix ix_seq (pv 0) pe_int (fun _ _ => rfl)) (C8.pe_gc (by rfl) Z.hd) (by rfl))))))), ?_⟩
  refine ⟨_, rfl, by show 2 ≤ sizeLine; decide, fun p np => ?_⟩
  have s1 := same_new (o := .tup [.ty "tuple", .ty "list"]) np
  have hA1 := hA.same s1
  obtain ⟨t, ht, hk⟩ := tl_any (K := K) hA1
  refine ⟨_, p, _, t, _, true, rfl, upd_same, .cons (.ty _) (.cons (.ty _) .nil), ht, hk, true, rfl, ifF rfl ?_⟩
  have hne : r.vals.isEmpty = false := by cases r <;> rfl
  refine ⟨_, rfl, _, hA1.tru, ?_⟩
  rw [hne]
  refine ifF rfl ?_
  refine ⟨_, rfl, hA1.ix 0 rfl (vals_word r) ⟨_, _, _, _, true, rfl, .ty _, .base (.str _), kit_ty (by decide +kernel), true, rfl, ifT rfl ?_⟩⟩
  obtain ⟨t, et⟩ := Z.at_ r
  exact ⟨_, rfl, hA1.ix 0 rfl (vals_word r) ⟨_, _, rfl, rfl, et, q _ s1⟩⟩
def spAreTold : Sp := fun vs H Q _ => ∃ l : List Nat, vs = [.str (S l)] ∧ l.length ≤ 64 ∧ (∀ c ∈ l, c ∈ SL) ∧ ∀ H', Same H H' → Q (.bl true) H'
theorem scAt : FnScope ["letters", "letter"] ["letters"] (defScope sAreTold) := ⟨rfl, rfl, rfl, by decide +kernel, rfl, by decide +kernel, by decide +kernel⟩
def trues (n : Nat) : List V := (List.replicate n true).map V.bl
theorem trues_add (n : Nat) : trues n ++ [.bl true] = trues (n + 1) := by
  unfold trues
  rw [List.replicate_succ', List.map_append]
  rfl
theorem trues_len (n : Nat) : (trues n).length = n := by simp [trues]
theorem trues_all (n : Nat) : (List.replicate n true).all id = true := by simp
theorem ok_are_told {f : Addr} {fd : FuncData} (F : Fun K "are_told" "are_told" sAreTold f fd) (hm : mg "are_told" = some (.ref f)) (b : Binds K fd ["letters"] []) (T : Txt mg) : Cal P w K mg base 1 "are_told" spAreTold [] := by
  refine mkCal F hm b scAt (fun vs H Q E h => ?_) (fun cdv A outer s H vs Q E hr h => ?_)
  · obtain ⟨l, rfl, _⟩ := h
    rfl
  obtain ⟨l, rfl, hl, hin, q⟩ := h
  refine ⟨_, (pss_cons (ps_if (PW.pt (pw_or (pt_not (pt_val (pe_callB call_isi (by rfl) T.isinstance (by decide +kernel) (pa_cons (pv 0) (pa_cons (pe_bltn (v := .ty "str") (by rfl) T.str (by decide +kernel) rfl) pa_nil))))) (pw_or1 (pt_cmpR op_gt (pe_callB call_len_str (by rfl) T.len PySem.boot_len (pa_cons (pv 0) pa_nil)) (C8.pe_gc (by rfl) T.MOST_TOLD) (nomark _))))) (pss_one (ps_ret pe_bl)) pss_nil)
    (pss_one (ps_ret (pe_callB (cr_all rfl) (by rfl) T.all (by decide +kernel) (pa_cons (pe_lc (own := [("letter", 1)]) (g := gName 1) (tt := tYes) rfl scAt.nd (pi_str (pv 0)) (blkOk_by (N := ["letters", "letter"]) (sc := defScope sAreTold) (by decide +kernel)) (fun _ _ _ _ _ => (pg_name (i := 1) scAt.nd rfl (.inl rfl))) (fun _ _ _ _ _ => pts_nil) (fun _ _ _ _ _ => (pe_cmpR op_in_sign (pv 1) (C8.pe_gc (by rfl) T.LETTERS) (by rfl)))) pa_nil))))), ?_⟩
  refine ⟨_, rfl, _, _, _, _, true, rfl, .ty _, .base (.str _), kit_ty (by decide +kernel), true, rfl, ifF rfl ?_⟩
  refine ⟨_, rfl, S l, rfl, Sz (by omega), _, _, rfl, rfl, _, rfl, ifF ?_ ?_⟩
  · rw [S_len]
    exact decide_eq_false (by omega)
  refine ⟨_, rfl, S l, rfl, fun D nD => ?_⟩
  have esz : (S l).cps.size = l.length := S_len l
  refine ⟨fun i m H' => i + m = l.length ∧ Same H H' ∧ H' D = some (.lst (trues i)), ⟨l.length, by omega, same_new nD, upd_same⟩, ?_⟩
  rintro i m H1 ⟨him, s1, hD⟩
  by_cases hi : i < l.length
  · refine .inr ⟨by rw [← esz] at hi; exact hi, fun H' => Same H H' ∧ H' D = some (.lst (trues (i + 1))), fun H' h => ⟨m - 1, by omega, by omega, h⟩, ?_⟩
    rintro x H' ⟨rfl, c, hc, rfl⟩
    have hc' : l[i]? = some c := by simpa using hc
    have hcm := hin c (List.mem_of_getElem? hc')
    refine ⟨rfl, _, rfl, c, LTR, rfl, rfl, ?_⟩
    rw [LTR_SL, decide_eq_true hcm]
    refine ⟨_, hD, by rw [trues_len]; exact small1000 (by omega), fun a o ha => ?_, ?_⟩
    · rw [upd_ne (ne_of_none ha nD)]
      exact s1 _ _ ha
    · rw [upd_same, trues_add]
  · have ei : i = l.length := by omega
    subst ei
    refine .inl ⟨by rw [← esz]; exact Nat.le_refl _, D, List.replicate l.length true, rfl, SqL.of hD, ?_⟩
    rw [trues_all]
    exact q _ s1
end
theorem RA.slice {K : PySem.W.Frag} {H : Hp} {a : Addr} {vals : List V} (h : RA H a vals) {lo hi : Option Int} (nw : ¬ (HT.sIx vals.length 0 lo = 0 ∧ HT.sIx vals.length vals.length hi = vals.length)) {Q : VK}
    (q : ∀ p H', H p = none → Same H H' → RA H' p (cutV vals lo hi) → Q (.ref p) H') : rSlL K (.ref a) lo hi H Q ∨ rSlA K (.ref a) lo hi H Q := by
  rcases h with h | h
  · exact .inr ⟨a, vals, rfl, SqT.of h, fun z => absurd z nw, fun _ p np => q p _ np (same_new np) (.inl upd_same)⟩
  · exact .inl ⟨a, vals, rfl, SqL.of h, fun p np => q p _ np (same_new np) (.inr upd_same)⟩
theorem cut_rest {vals : List V} {x : V} (h : x ∈ cutV vals (some 2) none) : x ∈ vals.drop 2 := by
  unfold cutV at h
  rw [HT.sIx_none, show (some (2 : Int)) = some ((2 : Nat) : Int) from rfl, HT.sIx_nat] at h
  have h1 := List.mem_of_mem_take h
  rcases Nat.le_total 2 vals.length with z | z
  · rwa [Nat.min_eq_left z] at h1
  · rw [Nat.min_eq_right z, List.drop_length] at h1
    cases h1
theorem wordT {r : Rule} {x : Str} (h : wordOf r = x) : decide (V.str (wordOf r) = V.str x) = true := by rw [h]; exact decide_eq_true rfl
theorem wordF {r : Rule} {x : Str} (h : wordOf r ≠ x) : decide (V.str (wordOf r) = V.str x) = false := decide_eq_false fun e => h (V.str.inj e)
theorem nJL : ("join" : Str) ≠ "letters" := by decide +kernel
theorem nPL : ("power" : Str) ≠ "letters" := by decide +kernel
theorem nAL : ("part" : Str) ≠ "letters" := by decide +kernel
theorem nBL : ("back" : Str) ≠ "letters" := by decide +kernel
theorem nPJ : ("power" : Str) ≠ "join" := by decide +kernel
theorem nAJ : ("part" : Str) ≠ "join" := by decide +kernel
theorem nBJ : ("back" : Str) ≠ "join" := by decide +kernel
theorem nJP : ("join" : Str) ≠ "power" := by decide +kernel
theorem nAP : ("part" : Str) ≠ "power" := by decide +kernel
theorem nBP : ("back" : Str) ≠ "power" := by decide +kernel
theorem nJA : ("join" : Str) ≠ "part" := by decide +kernel
theorem nPA : ("power" : Str) ≠ "part" := by decide +kernel
theorem nBA : ("back" : Str) ≠ "part" := by decide +kernel
section
variable {P : Program} {w : World} {K : PySem.W.Frag} {mg : Str → Option Value} {base : Heap}
/-! ### fault_of, of a right rule -/
def spFaultOf : Sp := fun vs H Q _ => ∃ (a L : Addr) (ts : List (List Nat)) (r : Rule), vs = [.ref a, .ref L] ∧ RA H a r.vals ∧ H L = some (.lst (ts.map lenV)) ∧ Ok ts r ∧ (∀ l ∈ ts, l.length ≤ 1000000000000) ∧ (made ts r).length ≤ 1000000000000 ∧ ts.length ≤ 1000 ∧
  ∀ H', Same H H' → Q .non H'
theorem scFo : FnScope ["rule", "lengths", "word", "used", "number"] ["rule", "lengths"] (defScope sFaultOf) := ⟨rfl, rfl, rfl, by decide +kernel, rfl, by decide +kernel, by decide +kernel⟩
theorem ok_fault_of {f d : Addr} {es : Array DictEntry} {n : Nat} {fd : FuncData} (F : Fun K "fault_of" "fault_of" sFaultOf f fd) (hm : mg "fault_of" = some (.ref f)) (b : Binds K fd ["rule", "lengths"] []) (T : Txt mg) (Z : Sizes K w mg d es n)
    (GHw : Cal P w K mg base 1 "has_word" spHasWord []) (GAt : Cal P w K mg base 1 "are_told" spAreTold []) (GIw : Cal P w K mg base 1 "is_whole" spIsWhole []) (GIp : Cal P w K mg base 1 "is_part" spIsPart []) (GLm : Cal P w K mg base 1 "length_made" spLengthMade []) : Cal P w K mg base 2 "fault_of" spFaultOf [] := by
  refine mkCal F hm b scFo (fun vs H Q E h => ?_) (fun cdv A outer s H vs Q E hr h => ?_)
  · obtain ⟨a, L, ts, r, rfl, _⟩ := h
    rfl
  obtain ⟨a, L, ts, r, rfl, hA, hL, ok, hle, h12, h1000, q⟩ := h
  refine ⟨_, (pss_cons (ps_if (pt_not (pt_val (pe_c GHw hr (by decide) (by rfl) (pa_cons (pv 0) pa_nil)))) (pss_one (ps_ret pe_str)) pss_nil)
    (pss_cons (ps_set (i := 2) scFo.nd rfl (.inl rfl) (pe_ix ix_seq (pv 0) pe_int (fun _ _ => rfl)))
    (pss_cons (ps_if (pt_cmpR op_ne (pe_callB call_len_seq (by rfl) T.len PySem.boot_len (pa_cons (pv 0) pa_nil)) (pe_ix ix_kdict (C8.pe_gc (by rfl) Z.hd) (pv 2) (fun _ _ => rfl)) (nomark _)) (pss_one (ps_ret pe_str)) pss_nil)
    (pss_cons (ps_if (pt_cmpR op_eq (pv 2) pe_str (nomark _)) (pss_one (ps_ret (pe_ifExp (pt_val (pe_c GAt hr (by decide) (by rfl) (pa_cons (pe_ix ix_seq (pv 0) pe_int (fun _ _ => rfl)) pa_nil))) pe_non pe_str))) pss_nil)
    (pss_cut (ps_set (i := 3) scFo.nd rfl (.inl rfl) (pe_ifExp (pt_cmpR op_eq (pv 2) pe_str (nomark _)) (pe_slice (SlR.or sl_list sl_tupA) (pv 0) (po_some pe_int) (po_some pe_int)) (pe_slice (SlR.or sl_list sl_tupA) (pv 0) (po_some pe_int) (po_some pe_int))))
    (pss_cut (ps_if (pt_not (pt_val (pe_callB (cr_all rfl) (by rfl) T.all (by decide +kernel) (pa_cons (pe_lc (own := [("number", 4)]) (g := gName 4) (te := tAndV (tCall spIsWhole [] C8.E0 (tCons (tVar 4) tNil)) (tChain (rI0 fun i j => .bl (decide (i ≤ j))) (rI0 fun i j => .bl (decide (i < j))) (tC (.int 0)) (tVar 4) (tCB (rLen K) (tCons (tVar 1) tNil)))) (tt := tYes) rfl scFo.nd (PI.or (pi_list (pv 3)) (pi_tup (pv 3))) (blkOk_by (N := ["rule", "lengths", "word", "used", "number"]) (sc := defScope sFaultOf) (by decide +kernel)) (fun _ _ _ _ _ => (pg_name (i := 4) scFo.nd rfl (.inl rfl))) (fun _ _ _ _ _ => pts_nil) (fun _ _ _ _ _ => (pe_and (pe_c GIw hr (by decide) (by rfl) (pa_cons (pv 4) pa_nil)) (pe_one (pe_chain op_le op_lt pe_int (pv 4) (pe_callB call_len_seq (by rfl) T.len PySem.boot_len (pa_cons (pv 1) pa_nil))))))) pa_nil)))) (pss_one (ps_ret pe_str)) pss_nil)
    (pss_cut (ps_if (pt_not (pt_val (pe_callB (cr_all rfl) (by rfl) T.all (by decide +kernel) (pa_cons (pe_lc (own := [("number", 4)]) (g := gName 4) (tt := tYes) rfl scFo.nd (PI.or (pi_list (pe_slice (SlR.or sl_list sl_tupA) (pv 0) (po_some pe_int) po_none)) (pi_tup (pe_slice (SlR.or sl_list sl_tupA) (pv 0) (po_some pe_int) po_none))) (blkOk_by (N := ["rule", "lengths", "word", "used", "number"]) (sc := defScope sFaultOf) (by decide +kernel)) (fun _ _ _ _ _ => (pg_name (i := 4) scFo.nd rfl (.inl rfl))) (fun _ _ _ _ _ => pts_nil) (fun _ _ _ _ _ => (pe_c GIw hr (by decide) (by rfl) (pa_cons (pv 4) pa_nil)))) pa_nil)))) (pss_one (ps_ret (pv 2))) pss_nil)
    (pss_cons (ps_if (PW.pt (pw_and (pt_cmpR op_eq (pv 2) pe_str (nomark _)) (pw_and1 (pt_not (pt_chain op_le op_le pe_int (pe_ix ix_seq (pv 0) pe_int (fun _ _ => rfl)) (C8.pe_gc (by rfl) T.MOST_TIMES)))))) (pss_one (ps_ret pe_str)) pss_nil)
    (pss_cons (ps_if (PW.pt (pw_and (pt_cmpR op_eq (pv 2) pe_str (nomark _)) (pw_and1 (pt_not (pt_val (pe_c GIp hr (by decide) (by rfl) (pa_cons (pe_ix ix_seq (pv 0) pe_int (fun _ _ => rfl)) (pa_cons (pe_ix ix_seq (pv 0) pe_int (fun _ _ => rfl)) (pa_cons (pe_ix ix_list (pv 1) (pe_ix ix_seq (pv 0) pe_int (fun _ _ => rfl)) (fun _ _ => rfl)) pa_nil))))))))) (pss_one (ps_ret pe_str)) pss_nil)
    (pss_one (ps_ret (pe_ifExp (pt_cmpR op_gt (pe_c GLm hr (by decide) (by rfl) (pa_cons (pv 0) (pa_cons (pv 1) pa_nil))) (C8.pe_gc (by rfl) T.MOST_LETTERS) (nomark _)) pe_str pe_non)))))))))))), ?_⟩
  have ell : (ts.map lenV).length = ts.length := List.length_map _
  refine ⟨_, rfl, a, r, rfl, hA, fun H1 s1 => ⟨true, rfl, ifF rfl ?_⟩⟩
  refine ⟨_, rfl, (hA.same s1).ix 0 rfl (vals_word r) ?_⟩
  obtain ⟨t, et⟩ := Z.at_ r
  refine ⟨_, rfl, a, _, rfl, (hA.same s1).sq, _, rfl, d, wordOf r, .int (r.vals.length : Int), rfl, rfl, ⟨es, n, _, Z.D.at_, Z.D.lit, et, ⟨t, rfl⟩⟩, rfl, _, rfl, ifF (by simp) ?_⟩
  refine ⟨_, rfl, rfl, _, rfl, ?_⟩
  -- behind used = ..
  have h3 : r.vals.length ≤ 4 := r.vals_len
  by_cases hl : isL r = true
  · cases r with
    | letters z =>
      refine ifT (wordT rfl) ?_
      refine ⟨_, rfl, (hA.same s1).ix 1 rfl rfl ⟨z, rfl, ok.1, ok.2, fun H2 s2 => ⟨true, rfl, ifT rfl ?_⟩⟩⟩
      exact q _ (s1.trans s2)
    | join i j => cases hl
    | power i k => cases hl
    | part i x y => cases hl
    | back i => cases hl
  have hwl : wordOf r ≠ ("letters" : Str) := by
    cases r with
    | letters z => exact absurd rfl hl
    | join i j => exact nJL
    | power i k => exact nPL
    | part i x y => exact nAL
    | back i => exact nBL
  refine ifF (wordF hwl) ?_
  refine ⟨fun σ H' => ∃ (U : Addr) (us : List V), σ = [some (.ref a), some (.ref L), some (.str (wordOf r)), some (.ref U), none] ∧ Same H H' ∧ RA H' U us ∧ us.length ≤ 10 ∧ ∀ x ∈ us, ∃ m : Nat, x = .int (m : Int) ∧ m < ts.length, ?_, ?_⟩
  · cases r with
    | letters z => exact absurd rfl hl
    | join i j =>
      refine ⟨_, rfl, rfl, _, rfl, ifT (wordT rfl) ?_⟩
      refine ⟨_, rfl, 1, rfl, 3, rfl, (hA.same s1).slice (by show ¬ (HT.sIx 3 0 (some 1) = 0 ∧ HT.sIx 3 3 (some 3) = 3); decide) fun p H2 np s2 hp => ⟨p, [.int (i : Int), .int (j : Int)], rfl, s1.trans s2, hp, by show 2 ≤ 10; decide, fun x hx => ?_⟩⟩
      rcases List.mem_cons.mp hx with e | e
      · exact ⟨i, e, ok.1⟩
      · exact ⟨j, List.mem_singleton.mp e, ok.2⟩
    | power i k =>
      refine ⟨_, rfl, rfl, _, rfl, ifF (wordF nPJ) ?_⟩
      refine ⟨_, rfl, 1, rfl, 2, rfl, (hA.same s1).slice (by show ¬ (HT.sIx 3 0 (some 1) = 0 ∧ HT.sIx 3 3 (some 2) = 3); decide) fun p H2 np s2 hp => ⟨p, [.int (i : Int)], rfl, s1.trans s2, hp, by show 1 ≤ 10; decide, fun x hx => ⟨i, List.mem_singleton.mp hx, ok.1⟩⟩⟩
    | part i x y =>
      refine ⟨_, rfl, rfl, _, rfl, ifF (wordF nAJ) ?_⟩
      refine ⟨_, rfl, 1, rfl, 2, rfl, (hA.same s1).slice (by show ¬ (HT.sIx 4 0 (some 1) = 0 ∧ HT.sIx 4 4 (some 2) = 4); decide) fun p H2 np s2 hp => ⟨p, [.int (i : Int)], rfl, s1.trans s2, hp, by show 1 ≤ 10; decide, fun x hx => ⟨i, List.mem_singleton.mp hx, ok.1⟩⟩⟩
    | back i =>
      refine ⟨_, rfl, rfl, _, rfl, ifF (wordF nBJ) ?_⟩
      refine ⟨_, rfl, 1, rfl, 2, rfl, (hA.same s1).slice (by show ¬ (HT.sIx 2 0 (some 1) = 0 ∧ HT.sIx 2 2 (some 2) = 2); decide) fun p H2 np s2 hp => ⟨p, [.int (i : Int)], rfl, s1.trans s2, hp, by show 1 ≤ 10; decide, fun x hx => ⟨i, List.mem_singleton.mp hx, ok⟩⟩⟩
  · rintro σ H2 ⟨U, us, rfl, s2, hU, hus, hall⟩
    have fin : ∀ (k : Nat) (R : Hp → Prop) (D : Addr) (H3 : Hp), H3 D = some (.lst (trues k)) → R H3 → ∃ (a : Addr) (bs : List Bool), [V.ref D] = [.ref a] ∧ SqL K H3 a (bs.map V.bl) ∧ ∃ c, V.bl (bs.all id) = .bl c ∧ ∀ (A : Prop), (if (!c) = true then A else R H3) := by
      intro k R D H3 hD hR
      exact ⟨D, List.replicate k true, rfl, SqL.of hD, true, by rw [trues_all], fun _ => ifF rfl hR⟩
    have push : ∀ (H2 : Hp) (D : Addr) (i : Nat) (H3 : Hp), i ≤ 100 → H2 D = none → Same H2 H3 → H3 D = some (.lst (trues i)) → ∀ y : V, y = .bl true → ∃ acc, H3 D = some (.lst acc) ∧ acc.length < sizeLine ∧ (Same H2 (upd H3 D (.lst (acc ++ [y]))) ∧ (upd H3 D (.lst (acc ++ [y]))) D = some (.lst (trues (i + 1)))) := by
      intro H2 D i H3 hi nD s3 hD y hy
      refine ⟨_, hD, by rw [trues_len]; exact small1000 (by omega), fun c o hc => ?_, by rw [upd_same, hy, trues_add]⟩
      rw [upd_ne (ne_of_none hc nD)]
      exact s3 _ _ hc
    refine ⟨fun σ H' => σ = [some (.ref a), some (.ref L), some (.str (wordOf r)), some (.ref U), none] ∧ Same H H', ?_, ?_⟩
    · -- the numbers of rules
      have elt : ∀ (D : Addr) (i : Nat) (x : V) (H3 : Hp), H2 D = none → us[i]? = some x → Same H2 H3 → H3 D = some (.lst (trues i)) → ∃ m : Nat, x = .int (m : Int) ∧ m < ts.length ∧ H3 L = some (.lst (ts.map lenV)) ∧ i ≤ 100 := by
        intro D i x H3 nD hi s3 hD
        obtain ⟨m, e, hm⟩ := hall x (List.mem_of_getElem? hi)
        have hi2 := (List.getElem?_eq_some_iff.mp hi).1
        exact ⟨m, e, hm, s3 _ _ (s2 _ _ hL), by omega⟩
      rcases hU with hU | hU
      · refine .inr ⟨_, rfl, U, rfl, ⟨_, SqT.of hU⟩, fun D nD => lc_tup (K := K) (a := U) (xs := us) (fun i H' => Same H2 H' ∧ H' D = some (.lst (trues i))) ⟨same_new nD, upd_same⟩ (fun i H' _ h => SqT.of (h.1 _ _ hU)) ?_ ?_⟩
        · rintro i x H3 hi ⟨s3, hD⟩
          obtain ⟨m, rfl, hm, hL3, hi100⟩ := elt D i x H3 nD hi s3 hD
          refine ⟨rfl, _, rfl, (m : Int), rfl, true, rfl, ifT rfl ⟨_, rfl, _, _, rfl, rfl, _, rfl, ifT (decide_eq_true (by omega)) ⟨_, rfl, L, _, rfl, .inl (SqL.of hL3), _, _, rfl, rfl, ?_⟩⟩⟩
          exact push H2 D i H3 hi100 nD s3 hD _ (congrArg V.bl (decide_eq_true (by rw [ell]; omega)))
        · rintro H3 ⟨s3, hD⟩
          exact ⟨D, List.replicate us.length true, rfl, SqL.of hD, true, by rw [trues_all], ifF rfl ⟨rfl, s2.trans s3⟩⟩
      · refine .inl ⟨_, rfl, U, rfl, ⟨_, SqL.of hU⟩, fun D nD => lc_list (K := K) (a := U) (xs := us) (fun i H' => Same H2 H' ∧ H' D = some (.lst (trues i))) ⟨same_new nD, upd_same⟩ (fun i H' _ h => SqL.of (h.1 _ _ hU)) ?_ ?_⟩
        · rintro i x H3 hi ⟨s3, hD⟩
          obtain ⟨m, rfl, hm, hL3, hi100⟩ := elt D i x H3 nD hi s3 hD
          refine ⟨rfl, _, rfl, (m : Int), rfl, true, rfl, ifT rfl ⟨_, rfl, _, _, rfl, rfl, _, rfl, ifT (decide_eq_true (by omega)) ⟨_, rfl, L, _, rfl, .inl (SqL.of hL3), _, _, rfl, rfl, ?_⟩⟩⟩
          exact push H2 D i H3 hi100 nD s3 hD _ (congrArg V.bl (decide_eq_true (by rw [ell]; omega)))
        · rintro H3 ⟨s3, hD⟩
          exact ⟨D, List.replicate us.length true, rfl, SqL.of hD, true, by rw [trues_all], ifF rfl ⟨rfl, s2.trans s3⟩⟩
    · rintro σ H3 ⟨rfl, s3⟩
      refine ⟨fun σ H' => σ = [some (.ref a), some (.ref L), some (.str (wordOf r)), some (.ref U), none] ∧ Same H H', ?_, ?_⟩
      · -- the other elements
        have hrest : ∀ x ∈ r.vals.drop 2, ∃ m : Int, x = .int m := by
          intro x hx
          cases r with
          | letters z => exact absurd rfl hl
          | join i j => exact ⟨_, List.mem_singleton.mp hx⟩
          | power i k => exact ⟨_, List.mem_singleton.mp hx⟩
          | part i l u =>
            rcases List.mem_cons.mp hx with e | e
            · exact ⟨_, e⟩
            · exact ⟨_, List.mem_singleton.mp e⟩
          | back i => cases hx
        have nw : ¬ (HT.sIx r.vals.length 0 (some 2) = 0 ∧ HT.sIx r.vals.length r.vals.length none = r.vals.length) := by
          have h2 : 2 ≤ r.vals.length := by cases r <;> simp [Rule.vals]
          rw [show (some (2 : Int)) = some ((2 : Nat) : Int) from rfl, HT.sIx_nat, Nat.min_eq_left h2]
          omega
        have cl : (cutV r.vals (some 2) none).length ≤ 4 := by
          unfold cutV
          rw [List.length_take, List.length_drop]
          omega
        rcases hA.same s3 with hA3 | hA3
        · refine .inr ⟨_, rfl, 2, rfl, .inr ⟨a, _, rfl, SqT.of hA3, fun z => absurd z nw, fun _ p np => ?_⟩⟩
          have s4 := same_new (o := .tup (cutV r.vals (some 2) none)) np
          refine ⟨p, rfl, ⟨_, SqT.of upd_same⟩, fun D nD => lc_tup (K := K) (a := p) (xs := cutV r.vals (some 2) none) (fun i H' => Same (upd H3 p (.tup (cutV r.vals (some 2) none))) H' ∧ H' D = some (.lst (trues i))) ⟨same_new nD, upd_same⟩ (fun i H' _ h => SqT.of (h.1 _ _ upd_same)) ?_ ?_⟩
          · rintro i x H4 hi ⟨s5, hD⟩
            have hi2 := (List.getElem?_eq_some_iff.mp hi).1
            obtain ⟨m, rfl⟩ := hrest x (cut_rest (List.mem_of_getElem? hi))
            exact ⟨rfl, _, rfl, m, rfl, push _ D i H4 (by omega) nD s5 hD _ rfl⟩
          · rintro H4 ⟨s5, hD⟩
            exact ⟨D, List.replicate (cutV r.vals (some 2) none).length true, rfl, SqL.of hD, true, by rw [trues_all], ifF rfl ⟨rfl, (s3.trans s4).trans s5⟩⟩
        · refine .inl ⟨_, rfl, 2, rfl, .inl ⟨a, _, rfl, SqL.of hA3, fun p np => ?_⟩⟩
          have s4 := same_new (o := .lst (cutV r.vals (some 2) none)) np
          refine ⟨p, rfl, ⟨_, SqL.of upd_same⟩, fun D nD => lc_list (K := K) (a := p) (xs := cutV r.vals (some 2) none) (fun i H' => Same (upd H3 p (.lst (cutV r.vals (some 2) none))) H' ∧ H' D = some (.lst (trues i))) ⟨same_new nD, upd_same⟩ (fun i H' _ h => SqL.of (h.1 _ _ upd_same)) ?_ ?_⟩
          · rintro i x H4 hi ⟨s5, hD⟩
            have hi2 := (List.getElem?_eq_some_iff.mp hi).1
            obtain ⟨m, rfl⟩ := hrest x (cut_rest (List.mem_of_getElem? hi))
            exact ⟨rfl, _, rfl, m, rfl, push _ D i H4 (by omega) nD s5 hD _ rfl⟩
          · rintro H4 ⟨s5, hD⟩
            exact ⟨D, List.replicate (cutV r.vals (some 2) none).length true, rfl, SqL.of hD, true, by rw [trues_all], ifF rfl ⟨rfl, (s3.trans s4).trans s5⟩⟩
      · rintro σ H4 ⟨rfl, s4⟩
        have hA4 := hA.same s4
        have hL4 := s4 _ _ hL
        have big : decide ((1000000000000 : Int) < ((made ts r).length : Int)) = false := decide_eq_false (by omega)
        cases r with
        | letters z => exact absurd rfl hl
        | join i j =>
          refine ⟨_, rfl, rfl, _, rfl, ifF (wordF nJP) (ifF rfl ?_)⟩
          refine ⟨_, rfl, rfl, _, rfl, ifF (wordF nJA) (ifF rfl ?_)⟩
          exact ⟨_, rfl, _, rfl, a, L, ts, _, rfl, hA4, hL4, ok, hle, _, _, rfl, rfl, _, rfl, ifF big (q _ s4)⟩
        | power i k =>
          refine ⟨_, rfl, rfl, _, rfl, ifT (wordT rfl) ?_⟩
          refine ⟨_, rfl, hA4.ix 2 rfl rfl ⟨_, _, rfl, rfl, _, rfl, ifT (decide_eq_true (by omega)) ⟨_, _, rfl, rfl, _, rfl, ifF ?_ ?_⟩⟩⟩
          · have := ok.2
            rw [decide_eq_true (by omega)]
            rfl
          refine ⟨_, rfl, rfl, _, rfl, ifF (wordF nPA) (ifF rfl ?_)⟩
          exact ⟨_, rfl, _, rfl, a, L, ts, _, rfl, hA4, hL4, ok, hle, _, _, rfl, rfl, _, rfl, ifF big (q _ s4)⟩
        | part i x y =>
          refine ⟨_, rfl, rfl, _, rfl, ifF (wordF nAP) (ifF rfl ?_)⟩
          refine ⟨_, rfl, rfl, _, rfl, ifT (wordT rfl) ?_⟩
          refine ⟨_, rfl, hA4.ix 2 rfl rfl ⟨_, rfl, hA4.ix 3 rfl rfl ⟨_, rfl, _, rfl, hA4.ix 1 rfl rfl ⟨L, _, (i : Int), _, rfl, rfl, SqL.of hL4, lenV_at ok.1, _, _, _, rfl, _, rfl, ifF ?_ ?_⟩⟩⟩⟩
          · have h1 := ok.2.1
            have h2 := ok.2.2
            rw [decide_eq_true (by omega)]
            rfl
          exact ⟨_, rfl, _, rfl, a, L, ts, _, rfl, hA4, hL4, ok, hle, _, _, rfl, rfl, _, rfl, ifF big (q _ s4)⟩
        | back i =>
          refine ⟨_, rfl, rfl, _, rfl, ifF (wordF nBP) (ifF rfl ?_)⟩
          refine ⟨_, rfl, rfl, _, rfl, ifF (wordF nBA) (ifF rfl ?_)⟩
          exact ⟨_, rfl, _, rfl, a, L, ts, _, rfl, hA4, hL4, ok, hle, _, _, rfl, rfl, _, rfl, ifF big (q _ s4)⟩
end
def RL (H : Hp) (as : List Addr) (vss : List (List V)) : Prop := as.length = vss.length ∧ ∀ (k : Nat) (vs : List V), vss[k]? = some vs → ∃ a, as[k]? = some a ∧ RA H a vs
theorem RL.same {H H' : Hp} {as : List Addr} {vss : List (List V)} (h : RL H as vss) (s : Same H H') : RL H' as vss := ⟨h.1, fun k vs e => let ⟨a, e1, e2⟩ := h.2 k vs e; ⟨a, e1, e2.same s⟩⟩
theorem LT.rl {H : Hp} {as : List Addr} {vss : List (List V)} (h : LT H as vss) : RL H as vss := ⟨h.1, fun k vs e => let ⟨a, e1, e2⟩ := h.2 k vs e; ⟨a, e1, .inl e2⟩⟩
section
variable {P : Program} {w : World} {K : PySem.W.Frag} {mg : Str → Option Value} {base : Heap}
/-! ### lengths_checked, of right rules -/
def spLengthsC : Sp := fun vs H Q _ => ∃ (R : Addr) (as : List Addr) (rs : List Rule) (ts : List (List Nat)), vs = [.ref R] ∧ RA H R (as.map V.ref) ∧ RL H as (rs.map Rule.vals) ∧ Sound rs ts ∧ 1 ≤ rs.length ∧ rs.length ≤ 60 ∧
  ∀ q H', Same H H' → H' q = some (.tup (ts.map lenV)) → Q (.ref q) H'
theorem scLc : FnScope ["rules", "lengths", "number", "rule", "reason"] ["rules"] (defScope sLengthsChecked) := ⟨rfl, rfl, rfl, by decide +kernel, rfl, by decide +kernel, by decide +kernel⟩
theorem ok_lengths_checked {f : Addr} {fd : FuncData} (F : Fun K "lengths_checked" "lengths_checked" sLengthsChecked f fd) (hm : mg "lengths_checked" = some (.ref f)) (b : Binds K fd ["rules"] []) (T : Txt mg) (GFo : Cal P w K mg base 2 "fault_of" spFaultOf []) (GLm : Cal P w K mg base 1 "length_made" spLengthMade []) : Cal P w K mg base 3 "lengths_checked" spLengthsC [] := by
  refine mkCal F hm b scLc (fun vs H Q E h => ?_) (fun cdv A outer s H vs Q E hr h => ?_)
  · obtain ⟨R, as, rs, ts, rfl, _⟩ := h
    rfl
  obtain ⟨R, as, rs, ts, rfl, hR, hT, snd, h1, h60, q⟩ := h
  refine ⟨_, (pss_cons (ps_if (pt_not (pt_chain op_le op_le pe_int (pe_callB call_len_seq (by rfl) T.len PySem.boot_len (pa_cons (pv 0) pa_nil)) (C8.pe_gc (by rfl) T.MOST_RULES))) (pss_one ps_never) pss_nil)
    (pss_cons (ps_set (i := 1) scLc.nd rfl (.inl rfl) (pe_lst pa_nil))
    (pss_cons (ps_for PassesOwn.never rfl (PI.or (pi_enum (by rfl) T.enumerate (pa_cons (pv 0) pa_nil)) (pi_enumT (by rfl) T.enumerate (pa_cons (pv 0) pa_nil))) (pg_tup rfl (pgs_cons (pg_name (i := 2) scLc.nd rfl (.inl rfl)) (pgs_cons (pg_name (i := 3) scLc.nd rfl (.inl rfl)) pgs_nil))) (pss_cons (ps_set (i := 4) scLc.nd rfl (.inl rfl) (pe_c GFo hr (by decide) (by rfl) (pa_cons (pv 3) (pa_cons (pv 1) pa_nil))))
    (pss_cons (ps_if (pt_cmpR op_notN (pv 4) pe_non (nomark _)) (pss_one ps_never) pss_nil)
    (pss_one (ps_expr (pe_bm PySem.F.plainAttrs_list PySem.F.slot_list_append PySem.F.type_list_append mt_append (pv 1) (pa_cons (pe_c GLm hr (by decide) (by rfl) (pa_cons (pv 3) (pa_cons (pv 1) pa_nil))) pa_nil)))))))
    (pss_one (ps_ret (pe_callTy call_tuple_of (by rfl) T.tuple (by decide +kernel) (pa_cons (pv 1) pa_nil))))))), ?_⟩
  have eal : (as.map V.ref).length = ts.length := by rw [List.length_map, hT.1, List.length_map, snd.len]
  have h1' : 1 ≤ ts.length := by rw [snd.len]; exact h1
  have h60' : ts.length ≤ 60 := by rw [snd.len]; exact h60
  refine ⟨_, rfl, R, _, rfl, hR.sq, _, _, rfl, rfl, _, rfl, ifT (decide_eq_true (by rw [eal]; omega)) ⟨_, _, rfl, rfl, _, rfl, ifF ?_ ?_⟩⟩
  · rw [decide_eq_true (by rw [eal]; omega)]
    rfl
  refine ⟨Nat.zero_le _, fun L nL => ?_⟩
  have sL := same_new (o := .lst []) nL
  -- one turn
  have at_ : ∀ i, i < ts.length → ∃ (r : Rule) (a : Addr), rs[i]? = some r ∧ (as.map V.ref)[i]? = some (.ref a) ∧ RA H a r.vals := by
    intro i hi
    obtain ⟨r, er⟩ := snd.rule hi
    obtain ⟨a, ea, ha⟩ := hT.2 i r.vals (by rw [List.getElem?_map, er]; rfl)
    exact ⟨r, a, er, by rw [List.getElem?_map, ea]; rfl, ha⟩
  have put : ∀ (i : Nat) (H5 : Hp) (r : Rule), i < ts.length → rs[i]? = some r → Same H H5 → H5 L = some (.lst ((ts.take i).map lenV)) → ∃ l xs v, V.ref L = .ref l ∧ [V.int ((made (ts.take i) r).length : Int)] = [v] ∧ H5 l = some (.lst xs) ∧ xs.length < sizeLine ∧
      (Same H (upd H5 l (.lst (xs ++ [v]))) ∧ (upd H5 l (.lst (xs ++ [v]))) L = some (.lst ((ts.take (i + 1)).map lenV))) := by
    intro i H5 r hi er s5 hL
    refine ⟨L, _, _, rfl, rfl, hL, by rw [List.length_map, List.length_take]; exact small1000 (by omega), fun c o hc => ?_, ?_⟩
    · rw [upd_ne (ne_of_none hc nL)]
      exact s5 _ _ hc
    · rw [upd_same, take_succ_tx hi, List.map_append, ← snd.tx er]
      rfl
  have lens : ∀ i, ∀ l ∈ ts.take i, l.length ≤ 1000000000000 := fun i l hl => snd.le l (List.mem_of_mem_take hl)
  rcases hR with hR | hR
  · refine .inr ⟨_, rfl, R, _, rfl, SqT.of (sL _ _ hR), ?_⟩
    refine ⟨fun i m σ H' => i + m = ts.length ∧ (∃ v2 v3 v4 : Option V, σ = [some (.ref R), some (.ref L), v2, v3, v4]) ∧ Same H H' ∧ H' L = some (.lst ((ts.take i).map lenV)), ⟨ts.length, by omega, ⟨none, none, none, rfl⟩, sL, upd_same⟩, ?_⟩
    rintro i m σ H1 ⟨him, ⟨v2, v3, v4, rfl⟩, s1, hL⟩
    have hR1 := s1 _ _ hR
    by_cases hi : i < ts.length
    · obtain ⟨r, a, er, ea, ha⟩ := at_ i hi
      refine .inr ⟨⟨_, _, SqT.of hR1, ea⟩, fun σ' H' => (∃ v2 v3 v4 : Option V, σ' = [some (.ref R), some (.ref L), v2, v3, v4]) ∧ Same H H' ∧ H' L = some (.lst ((ts.take (i + 1)).map lenV)), fun σ' H' h => ⟨m - 1, by omega, by omega, h⟩, ?_⟩
      rintro x H' ⟨t, y, rfl, nt, rfl, hy⟩
      have ey : y = .ref a := Option.some.inj ((hy _ (SqT.of hR1)).symm.trans ea)
      subst ey
      have st := same_new (o := .tup [.int (i : Nat), .ref a]) nt
      refine ⟨t, _, rfl, SqT.of upd_same, rfl, _, _, rfl, _, _, rfl, rfl, ?_⟩
      have o := (snd.ok i r er).1
      have hbig : (made (ts.take i) r).length ≤ 1000000000000 := by rw [← snd.tx er]; exact snd.big hi
      refine ⟨_, rfl, _, rfl, a, L, ts.take i, r, rfl, ha.same (s1.trans st), st _ _ hL, o, lens i, hbig, by rw [List.length_take]; omega, fun H2 s2 => ?_⟩
      have s12 := (s1.trans st).trans s2
      have hL2 := s2 _ _ (st _ _ hL)
      refine ⟨_, rfl, rfl, _, rfl, ifF rfl ?_⟩
      refine ⟨_, rfl, .inl ⟨rfl, _, SqL.of hL2⟩, _, rfl, _, rfl, a, L, ts.take i, r, rfl, ha.same s12, hL2, o, lens i, ?_⟩
      obtain ⟨l, xs, v, e1, e2, e3, e4, e5, e6⟩ := put i H2 r hi er s12 hL2
      exact ⟨l, xs, v, e1, e2, e3, e4, ⟨_, _, _, rfl⟩, e5, e6⟩
    · refine .inl ⟨⟨_, SqT.of hR1, by rw [eal]; omega⟩, ?_⟩
      have ei : i = ts.length := by omega
      rw [ei, List.take_length] at hL
      exact ⟨_, rfl, L, _, rfl, .inl ⟨SqL.of hL, fun t nt => q t _ (s1.trans (same_new nt)) upd_same⟩⟩
  · refine .inl ⟨_, rfl, R, _, rfl, SqL.of (sL _ _ hR), ?_⟩
    refine ⟨fun i m σ H' => i + m = ts.length ∧ (∃ v2 v3 v4 : Option V, σ = [some (.ref R), some (.ref L), v2, v3, v4]) ∧ Same H H' ∧ H' L = some (.lst ((ts.take i).map lenV)), ⟨ts.length, by omega, ⟨none, none, none, rfl⟩, sL, upd_same⟩, ?_⟩
    rintro i m σ H1 ⟨him, ⟨v2, v3, v4, rfl⟩, s1, hL⟩
    have hR1 := s1 _ _ hR
    by_cases hi : i < ts.length
    · obtain ⟨r, a, er, ea, ha⟩ := at_ i hi
      refine .inr ⟨⟨_, _, SqL.of hR1, ea⟩, fun σ' H' => (∃ v2 v3 v4 : Option V, σ' = [some (.ref R), some (.ref L), v2, v3, v4]) ∧ Same H H' ∧ H' L = some (.lst ((ts.take (i + 1)).map lenV)), fun σ' H' h => ⟨m - 1, by omega, by omega, h⟩, ?_⟩
      rintro x H' ⟨t, y, rfl, nt, rfl, hy⟩
      have ey : y = .ref a := Option.some.inj ((hy _ (SqL.of hR1)).symm.trans ea)
      subst ey
      have st := same_new (o := .tup [.int (i : Nat), .ref a]) nt
      refine ⟨t, _, rfl, SqT.of upd_same, rfl, _, _, rfl, _, _, rfl, rfl, ?_⟩
      have o := (snd.ok i r er).1
      have hbig : (made (ts.take i) r).length ≤ 1000000000000 := by rw [← snd.tx er]; exact snd.big hi
      refine ⟨_, rfl, _, rfl, a, L, ts.take i, r, rfl, ha.same (s1.trans st), st _ _ hL, o, lens i, hbig, by rw [List.length_take]; omega, fun H2 s2 => ?_⟩
      have s12 := (s1.trans st).trans s2
      have hL2 := s2 _ _ (st _ _ hL)
      refine ⟨_, rfl, rfl, _, rfl, ifF rfl ?_⟩
      refine ⟨_, rfl, .inl ⟨rfl, _, SqL.of hL2⟩, _, rfl, _, rfl, a, L, ts.take i, r, rfl, ha.same s12, hL2, o, lens i, ?_⟩
      obtain ⟨l, xs, v, e1, e2, e3, e4, e5, e6⟩ := put i H2 r hi er s12 hL2
      exact ⟨l, xs, v, e1, e2, e3, e4, ⟨_, _, _, rfl⟩, e5, e6⟩
    · refine .inl ⟨⟨_, SqL.of hR1, by rw [eal]; omega⟩, ?_⟩
      have ei : i = ts.length := by omega
      rw [ei, List.take_length] at hL
      exact ⟨_, rfl, L, _, rfl, .inl ⟨SqL.of hL, fun t nt => q t _ (s1.trans (same_new nt)) upd_same⟩⟩
/-! ### Text.__init__ -/
theorem f_ge : ¬ (("lengths" : Str) = "length") := by decide +kernel
theorem f_rg : ¬ (("rules" : Str) = "length") := by decide +kernel
theorem f_re : ¬ (("rules" : Str) = "lengths") := by decide +kernel
theorem f_eg : ¬ (("length" : Str) = "lengths") := by decide +kernel
theorem f_gr : ¬ (("length" : Str) = "rules") := by decide +kernel
theorem f_er : ¬ (("lengths" : Str) = "rules") := by decide +kernel
theorem last_len {ts : List (List Nat)} (h : 1 ≤ ts.length) : atI (ts.map lenV) (-1) = some (.int ((tx ts (ts.length - 1)).length : Int)) := by
  have e : ts = ts.take (ts.length - 1) ++ [tx ts (ts.length - 1)] := by
    rw [← take_succ_tx (by omega), Nat.sub_add_cancel h, List.take_length]
  have e2 : ts.map lenV = (ts.take (ts.length - 1)).map lenV ++ [lenV (tx ts (ts.length - 1))] := by
    rw [← List.map_singleton, ← List.map_append, ← e]
  rw [e2]
  exact atI_last _ _
def tF (LE RU : Addr) (n : Int) : List (Str × V) := putF "rules" (.ref RU) (putF "length" (.int n) (putF "lengths" (.ref LE) []))
def spInit (C : Addr) : Sp := fun vs H Q _ => ∃ (x dx R : Addr) (as : List Addr) (rs : List Rule) (ts : List (List Nat)), vs = [.ref x, .ref R] ∧ H x = some (.ins C dx []) ∧ RA H R (as.map V.ref) ∧ RL H as (rs.map Rule.vals) ∧ Sound rs ts ∧ 1 ≤ rs.length ∧ rs.length ≤ 60 ∧
  ∀ (LE RU : Addr) (as' : List Addr) (H' : Hp), (∀ b o, b ≠ x → H b = some o → H' b = some o) → H' x = some (.ins C dx (tF LE RU ((tx ts (ts.length - 1)).length : Int))) → H' RU = some (.tup (as'.map V.ref)) → H' LE = some (.tup (ts.map lenV)) → LT H' as' (rs.map Rule.vals) → Q .non H'
theorem scIn : FnScope ["self", "rules"] ["self", "rules"] (defScope sInit) := ⟨rfl, rfl, rfl, by decide +kernel, rfl, by decide +kernel, by decide +kernel⟩
theorem ok_init {C f : Addr} {fd : FuncData} (F : Fun K "__init__" "Text.__init__" sInit f fd) (T : Txt mg) (D : Cl K C) (GLc : Cal P w K mg base 3 "lengths_checked" spLengthsC []) (GCo : Cal P w K mg base 1 "copied" spCopied []) : FnOk P w K mg base CX0 4 f fd ["self", "rules"] (spInit C) := by
  refine F.ok scIn (fun vs H Q E h => ?_) (fun cdv A outer s H vs Q E hr h => ?_)
  · obtain ⟨x, dx, R, as, rs, ts, rfl, _⟩ := h
    rfl
  obtain ⟨x, dx, R, as, rs, ts, rfl, hx, hR, hT, snd, h1, h60, q⟩ := h
  refine ⟨_, (pss_cons (ps_fld (pv 0) (pe_c GLc hr (by decide) (by rfl) (pa_cons (pv 1) pa_nil)) rfl)
    (pss_cons (ps_fld (pv 0) (pe_ix ix_tup (pe_fld (pv 0) rfl) (pe_un un_neg pe_int) (fun _ _ => rfl)) rfl)
    (pss_one (ps_fld (pv 0) (pe_c GCo hr (by decide) (by rfl) (pa_cons (pv 1) pa_nil)) rfl)))), ?_⟩
  have h1' : 1 ≤ ts.length := by rw [snd.len]; exact h1
  refine ⟨_, rfl, R, as, rs, ts, rfl, hR, hT, snd, h1, h60, fun LE H1 s1 hLE => ?_⟩
  refine ⟨_, rfl, x, C, dx, [], rfl, s1 _ _ hx, D.cl, D.nE, (by show 0 < 1000; decide), ?_⟩
  have hLEx : LE ≠ x := ne_of hLE (s1 _ _ hx) (by intro z; cases z)
  refine ⟨_, rfl, x, C, dx, _, .ref LE, rfl, upd_same, D.cl, D.nE, by rw [lookup_putF, if_pos rfl], 1, rfl, LE, _, -1, _, rfl, rfl, SqT.of (by rw [upd_ne hLEx]; exact hLE), last_len h1', ?_⟩
  refine ⟨_, rfl, x, C, dx, _, rfl, upd_same, D.cl, D.nN, (by show 1 < 1000; decide), ?_⟩
  -- copied
  have hRx : R ≠ x := by
    rcases hR with h | h
    · exact ne_of h hx (by intro z; cases z)
    · exact ne_of h hx (by intro z; cases z)
  rw [upd_upd]
  generalize hfs : putF ("length" : Str) (V.int ((tx ts (ts.length - 1)).length : Int)) (putF "lengths" (.ref LE) []) = fs2
  have keep : ∀ b o, b ≠ x → H b = some o → (upd H1 x (.ins C dx fs2)) b = some o := fun b o hb e => by rw [upd_ne hb]; exact s1 _ _ e
  have hR2 : RA (upd H1 x (.ins C dx fs2)) R (as.map V.ref) := hR.elim (fun h => .inl (keep _ _ hRx h)) fun h => .inr (keep _ _ hRx h)
  have hT2 : RL (upd H1 x (.ins C dx fs2)) as (rs.map Rule.vals) := ⟨hT.1, fun k vs e => by
    obtain ⟨a, e1, e2⟩ := hT.2 k vs e
    refine ⟨a, e1, ?_⟩
    rcases e2 with h | h
    · exact .inl (keep _ _ (ne_of h hx (by intro z; cases z)) h)
    · exact .inr (keep _ _ (ne_of h hx (by intro z; cases z)) h)⟩
  refine ⟨_, rfl, R, as, rs.map Rule.vals, rfl, hR2, hT2.1, hT2.2, by rw [List.length_map]; omega, fun RU as' H3 s3 hRU hL3 => ?_⟩
  have hx3 := s3 _ _ (upd_same : (upd H1 x (.ins C dx fs2)) x = some (.ins C dx fs2))
  have hLE3 := s3 LE _ (by rw [upd_ne hLEx]; exact hLE)
  have hRUx : RU ≠ x := ne_of hRU hx3 (by intro z; cases z)
  refine ⟨_, rfl, x, C, dx, _, rfl, hx3, D.cl, D.nR, (by rw [← hfs]; show 2 < 1000; decide), ?_⟩
  refine q LE RU as' _ (fun b o hb e => by rw [upd_ne hb]; exact s3 _ _ (keep b o hb e)) ?_ (by rw [upd_ne hRUx]; exact hRU) (by rw [upd_ne hLEx]; exact hLE3) ?_
  · rw [upd_same, ← hfs]
    rfl
  · exact ⟨hL3.1, fun k vs e => by
      obtain ⟨a, e1, e2⟩ := hL3.2 k vs e
      exact ⟨a, e1, by rw [upd_ne (ne_of e2 hx3 (by intro z; cases z))]; exact e2⟩⟩
theorem tF_rules (LE RU : Addr) (n : Int) : (tF LE RU n).lookup ("rules" : Str) = some (.ref RU) := by
  unfold tF
  rw [lookup_putF, if_pos rfl]
theorem tF_length (LE RU : Addr) (n : Int) : (tF LE RU n).lookup ("length" : Str) = some (.int n) := by
  unfold tF
  rw [lookup_putF, if_neg f_gr, lookup_putF, if_pos rfl]
theorem tF_lengths (LE RU : Addr) (n : Int) : (tF LE RU n).lookup ("lengths" : Str) = some (.ref LE) := by
  unfold tF
  rw [lookup_putF, if_neg f_er, lookup_putF, if_neg f_ge, lookup_putF, if_pos rfl]
theorem tF_none (LE RU : Addr) (n : Int) {m : Str} (h1 : ¬ m = "rules") (h2 : ¬ m = "length") (h3 : ¬ m = "lengths") : (tF LE RU n).lookup m = none := by
  unfold tF
  rw [lookup_putF, if_neg h1, lookup_putF, if_neg h2, lookup_putF, if_neg h3]
  rfl
/-- what __init__ leaves is the text -/
theorem tF_text {C x dx LE RU : Addr} {as : List Addr} {rs : List Rule} {ts : List (List Nat)} {H : Hp} (hx : H x = some (.ins C dx (tF LE RU ((tx ts (ts.length - 1)).length : Int)))) (hRU : H RU = some (.tup (as.map V.ref))) (hLE : H LE = some (.tup (ts.map lenV)))
    (hT : LT H as (rs.map Rule.vals)) (s : Sound rs ts) : TextIs C H x rs ts dx RU LE (tF LE RU ((tx ts (ts.length - 1)).length : Int)) as :=
  ⟨hx, tF_rules _ _ _, tF_lengths _ _ _, tF_length _ _ _, tF_none _ _ _ (by decide +kernel) (by decide +kernel) (by decide +kernel), tF_none _ _ _ (by decide +kernel) (by decide +kernel) (by decide +kernel), hRU, hLE, hT, s⟩
end
/-! ### range with a step -/
def upN (a b c : Int) : Nat := if a < b then ((b - a - 1) / c + 1).toNat else 0
theorem rg_up {a b c : Int} (h0 : 0 ≤ a) (hb : 0 ≤ b) (ha' : a < 2 ^ 62) (hb' : b < 2 ^ 62) (hc : 0 < c) (hc' : c < 1073741824) : RgC a b c (upN a b c) := by
  have e : Builtin.Range.rangeSize a b c = ((upN a b c : Nat) : Int) := by
    unfold Builtin.Range.rangeSize upN
    rw [if_pos hc]
    split
    · have h1 : 0 ≤ (b - a - 1) / c := Int.ediv_nonneg (by omega) (by omega)
      omega
    · rfl
  have hn : ((upN a b c : Nat) : Int) ≤ 2 ^ 62 := by
    unfold upN
    split
    · have h1 : 0 ≤ (b - a - 1) / c := Int.ediv_nonneg (by omega) (by omega)
      have h2 : (b - a - 1) / c ≤ b - a - 1 := Int.ediv_le_self _ (by omega)
      omega
    · decide
  refine ⟨by omega, by omega, ?_, e⟩
  unfold Builtin.Range.small
  rw [e]
  simp only [Builtin.Range.rangeFitsLong, Bool.and_eq_true, Bool.or_eq_true, decide_eq_true_eq, beq_iff_eq]
  rw [if_pos hc]
  simp only [decide_eq_true_eq, Bool.and_eq_true]
  refine ⟨⟨⟨⟨?_, ?_⟩, ?_⟩, ?_⟩, .inr ?_⟩ <;> omega
theorem up_lt {b c : Int} {i : Nat} (hc : 0 < c) (hi : i < upN 0 b c) : (0 : Int) + (i : Int) * c < b := by
  unfold upN at hi
  split at hi
  · have h1 : (i : Int) ≤ (b - 0 - 1) / c := by omega
    have h2 : (i : Int) * c ≤ (b - 0 - 1) / c * c := Int.mul_le_mul_of_nonneg_right h1 (Int.le_of_lt hc)
    have h3 : (b - 0 - 1) / c * c ≤ b - 0 - 1 := Int.ediv_mul_le _ (by omega)
    omega
  · omega
/-! ### cls(..), the class in a slot -/
def tMakeL (i : Nat) (C : Addr) (sp : Sp) (E : XK) (t : TA) : TE := fun σ H Q => σ[i]? = some (some (.ref C)) ∧ t σ H fun vs H1 => ∀ x dx, H1 x = none → H1 dx = none → dx ≠ x → sp (.ref x :: vs) (upd (upd H1 dx (.own x)) x (.ins C dx [])) (fun v H2 => v = .non ∧ Q (.ref x) H2) E
theorem pe_makeL {X : Cx} {CX : CXT} {k i : Nat} {f C : Addr} {fd : FuncData} {ps : List Str} {sp : Sp} {E : XK} {x : Str} {p pos : Pos} {e : Expr} {es : List Expr} {t : TA} (M : Mk X.K C f) (F : FnOk X.prog X.w X.K X.mg X.base CX k f fd ps sp) (hr : Room (k + 1) X.A) (hN : X.N[i]? = some x) (hv : Vis X.env.scope x)
    (hb : Binds X.K fd ps []) (hx : Passes CX X E) (ha : PA X (e :: es) t) (hdb : (x == ("__debug__" : Str)) = false := by decide) (hcd : (x == ("__classdict__" : Str)) = false := by decide)
    (he : starEach (e :: es) X.env = (false, eval e X.env) :: starEach es X.env := by rfl) (hpl : (backTo pos (starEach es X.env)).any (·.1) = false := by rfl) : PE X (.Call (.Name x p) (e :: es) [] pos) (tMakeL i C sp E t) where
  run := by
    rintro pins s σ H Q inv ⟨hs, ht⟩
    have ld := (pe_var (pos := p) hN hv hdb hcd).run pins s σ H (fun v H1 => v = .ref C ∧ H1 = H) inv ⟨_, hs, rfl, rfl⟩
    refine wpAny_Call_Name_kw (thn ld ?_)
    rintro u s1 ⟨_, _, inv1, rel, rfl, rfl⟩
    obtain rfl : u = .ref C := rel
    refine PySem.W.callWith_K (h₀ := X.base) inv1.ok.mod.kin M.kp (thn (ha.run pos pins s1 σ _ _ inv1 ht) ?_) he hpl
    rintro us s2 ⟨vs, H2, inv2, rv, q⟩
    refine ⟨inv2.kIn, run_make (dvs := []) M F hr hb .nil hx inv2 rv fun y dy ny ndy ne => ?_⟩
    rw [List.append_nil]
    exact q y dy ny ndy ne
theorem tF_eq (LE RU : Addr) (n : Int) : tF LE RU n = ([(("lengths" : Str), V.ref LE), (("length" : Str), V.int n), (("rules" : Str), V.ref RU)] : List (Str × V)) := by
  unfold tF
  have e1 : putF ("length" : Str) (V.int n) (putF "lengths" (.ref LE) []) = ([(("lengths" : Str), V.ref LE), (("length" : Str), V.int n)] : List (Str × V)) := by
    show (if ("lengths" : Str) = "length" then _ else (("lengths" : Str), V.ref LE) :: putF "length" (V.int n) []) = _
    rw [if_neg f_ge]
    rfl
  rw [e1]
  show (if ("lengths" : Str) = "rules" then _ else (("lengths" : Str), V.ref LE) :: (if ("length" : Str) = "rules" then _ else (("length" : Str), V.int n) :: putF "rules" (V.ref RU) [])) = _
  rw [if_neg f_er, if_neg f_gr]
  rfl
theorem tF_putR (LE RU R2 : Addr) (n : Int) : putF "rules" (.ref R2) (tF LE RU n) = tF LE R2 n := by
  rw [tF_eq, tF_eq]
  show (if ("lengths" : Str) = "rules" then _ else (("lengths" : Str), V.ref LE) :: (if ("length" : Str) = "rules" then _ else (("length" : Str), V.int n) :: (if ("rules" : Str) = "rules" then [(("rules" : Str), V.ref R2)] else _))) = _
  rw [if_neg f_er, if_neg f_gr, if_pos rfl]
theorem tF_putE (LE L2' RU : Addr) (n : Int) : putF "lengths" (.ref L2') (tF LE RU n) = tF L2' RU n := by
  rw [tF_eq, tF_eq]
  show (if ("lengths" : Str) = "lengths" then (("lengths" : Str), V.ref L2') :: _ else _) = _
  rw [if_pos rfl]
theorem tF_putN (LE RU : Addr) (n n2 : Int) : putF "length" (.int n2) (tF LE RU n) = tF LE RU n2 := by
  rw [tF_eq, tF_eq]
  show (if ("lengths" : Str) = "length" then _ else (("lengths" : Str), V.ref LE) :: (if ("length" : Str) = "length" then (("length" : Str), V.int n2) :: _ else _)) = _
  rw [if_neg f_ge, if_pos rfl]
theorem tF_small (LE RU : Addr) (n : Int) : (tF LE RU n).length < 1000 := by rw [tF_eq]; show 3 < 1000; decide
theorem one_sound {l : List Nat} (h : l.length ≤ 64) (h2 : ∀ c ∈ l, c ∈ SL) : Sound [.letters l] [l] := by
  refine ⟨rfl, fun k r e => ?_, fun m hm => ?_⟩
  · cases k with
    | zero =>
      have er : Rule.letters l = r := Option.some.inj e
      subst er
      exact ⟨⟨h, h2⟩, rfl⟩
    | succ k => simp at e
  · rw [List.mem_singleton.mp hm]
    omega
section
variable {P : Program} {w : World} {K : PySem.W.Frag} {mg : Str → Option Value} {base : Heap}
/-! ### letter, letters -/
def spLetter (C : Addr) : Sp := fun vs H Q _ => ∃ (x : Addr) (rs : List Rule) (ts : List (List Nat)) (k : Nat), vs = [.ref x, .int (k : Int)] ∧ TextAt C H x rs ts ∧ 0 < ts.length ∧ k < (tx ts (ts.length - 1)).length ∧ ∀ H', Same H H' → Q (.str (S (sub (tx ts (ts.length - 1)) k (k + 1)))) H'
theorem scLe : FnScope ["self", "place"] ["self", "place"] (defScope sLetter) := ⟨rfl, rfl, rfl, by decide +kernel, rfl, by decide +kernel, by decide +kernel⟩
theorem ok_letter {C f : Addr} {fd : FuncData} (F : Fun K "letter" "Text.letter" sLetter f fd) (D : Cl K C) (GSp : Cal P w K mg base 4 "spelled" (spSpelled C) []) : FnOk P w K mg base CX0 5 f fd ["self", "place"] (spLetter C) := by
  refine F.ok scLe (fun vs H Q E h => ?_) (fun cdv A outer s H vs Q E hr h => ?_)
  · obtain ⟨x, rs, ts, k, rfl, _⟩ := h
    rfl
  obtain ⟨x, rs, ts, k, rfl, hX, h0, hk, q⟩ := h
  refine ⟨_, (pss_cons (ps_if (pt_not (pt_chain op_le op_lt pe_int (pv 1) (pe_fld (pv 0) rfl))) (pss_one ps_never) pss_nil)
    (pss_one (ps_ret (pe_c GSp hr (by decide) (by rfl) (pa_cons (pv 0) (pa_cons (pv 1) (pa_cons (pe_op op_add (pv 1) pe_int) pa_nil))))))), ?_⟩
  have hX' := hX
  obtain ⟨dx, RU, LE, fs, as, hI⟩ := hX'
  refine ⟨_, rfl, _, _, rfl, rfl, _, rfl, ifT (decide_eq_true (by omega)) ⟨_, rfl, x, C, dx, _, _, rfl, hI.at_, D.cl, D.nN, hI.fN, _, _, rfl, rfl, _, rfl, ifF ?_ ?_⟩⟩
  · rw [decide_eq_true (by omega)]
    rfl
  exact ⟨_, rfl, _, rfl, _, rfl, _, _, rfl, rfl, x, rs, ts, k, k + 1, rfl, hX, h0, by omega, by omega, by omega, q⟩
def spLetters (C : Addr) : Sp := fun vs H Q _ => ∃ (x : Addr) (rs : List Rule) (ts : List (List Nat)) (a b : Nat), vs = [.ref x, .int (a : Int), .int (b : Int)] ∧ TextAt C H x rs ts ∧ 0 < ts.length ∧ a ≤ b ∧ b ≤ (tx ts (ts.length - 1)).length ∧ b - a ≤ 1000 ∧
  ∀ H', Same H H' → Q (.str (S (sub (tx ts (ts.length - 1)) a b))) H'
theorem scLs : FnScope ["self", "start", "stop"] ["self", "start", "stop"] (defScope sLetters) := ⟨rfl, rfl, rfl, by decide +kernel, rfl, by decide +kernel, by decide +kernel⟩
theorem ok_letters {C f : Addr} {fd : FuncData} (F : Fun K "letters" "Text.letters" sLetters f fd) (T : Txt mg) (D : Cl K C) (GSp : Cal P w K mg base 4 "spelled" (spSpelled C) []) (GIp : Cal P w K mg base 1 "is_part" spIsPart []) : FnOk P w K mg base CX0 5 f fd ["self", "start", "stop"] (spLetters C) := by
  refine F.ok scLs (fun vs H Q E h => ?_) (fun cdv A outer s H vs Q E hr h => ?_)
  · obtain ⟨x, rs, ts, a, b, rfl, _⟩ := h
    rfl
  obtain ⟨x, rs, ts, a, b, rfl, hX, h0, hab, hb, h1000, q⟩ := h
  refine ⟨_, (pss_cons (ps_if (pt_not (pt_val (pe_c GIp hr (by decide) (by rfl) (pa_cons (pv 1) (pa_cons (pv 2) (pa_cons (pe_fld (pv 0) rfl) pa_nil)))))) (pss_one ps_never) pss_nil)
    (pss_cons (ps_if (pt_cmpR op_gt (pe_op op_sub (pv 2) (pv 1)) (C8.pe_gc (by rfl) T.MOST_SPELLED) (nomark _)) (pss_one ps_never) pss_nil)
    (pss_one (ps_ret (pe_c GSp hr (by decide) (by rfl) (pa_cons (pv 0) (pa_cons (pv 1) (pa_cons (pv 2) pa_nil)))))))), ?_⟩
  have hX' := hX
  obtain ⟨dx, RU, LE, fs, as, hI⟩ := hX'
  refine ⟨_, rfl, _, rfl, _, rfl, x, C, dx, _, _, rfl, hI.at_, D.cl, D.nN, hI.fN, _, _, _, rfl, _, rfl, ifF ?_ ?_⟩
  · rw [decide_eq_true (by omega)]
    rfl
  refine ⟨_, rfl, _, rfl, _, _, rfl, rfl, _, _, rfl, rfl, _, rfl, ifF (decide_eq_false (by omega)) ?_⟩
  exact ⟨_, rfl, _, rfl, _, rfl, x, rs, ts, a, b, rfl, hX, h0, hab, hb, h1000, q⟩
/-! ### _law_is_integer, _law_same -/
def spIsInteger : Sp := fun vs H Q _ => ∃ i : Int, vs = [.int i] ∧ Q (.bl true) H
theorem scI : FnScope ["actual"] ["actual"] (defScope sIsInt) := ⟨rfl, rfl, rfl, by decide +kernel, rfl, by decide +kernel, by decide +kernel⟩
theorem ok_is_integer {f : Addr} {fd : FuncData} (F : Fun K "_law_is_integer" "_law_is_integer" sIsInt f fd) (hm : mg "_law_is_integer" = some (.ref f)) (b : Binds K fd ["actual"] []) (T : Txt mg) : Cal P w K mg base 1 "_law_is_integer" spIsInteger [] := by
  refine mkCal F hm b scI (fun vs H Q E h => ?_) (fun cdv A outer s H vs Q E hr h => ?_)
  · obtain ⟨i, rfl, _⟩ := h
    rfl
  obtain ⟨i, rfl, q⟩ := h
  refine ⟨_, (pss_one (ps_ret (pe_and (pe_callB call_isi (by rfl) T.isinstance (by decide +kernel) (pa_cons (pv 0) (pa_cons (pe_bltn (v := .ty "int") (by rfl) T.int (by decide +kernel) rfl) pa_nil))) (pe_one (pe_not (pe_callB call_isi (by rfl) T.isinstance (by decide +kernel) (pa_cons (pv 0) (pa_cons (pe_bltn (v := .ty "bool") (by rfl) T.bool (by decide +kernel) rfl) pa_nil)))))))), ?_⟩
  refine ⟨_, rfl, _, _, _, _, true, rfl, .ty _, .base (.int i), kit_ty (by decide +kernel), true, rfl, ifT rfl ?_⟩
  exact ⟨_, rfl, _, _, _, _, false, rfl, .ty _, .base (.int i), kit_ty (by decide +kernel), false, rfl, q⟩
def SameD : Nat → Hp → V → V → Prop
  | 0, _, x, y => (∃ i, x = .int i ∧ y = .int i) ∨ (∃ z, x = .str z ∧ y = .str z)
  | n + 1, H, x, y => ((∃ i, x = .int i ∧ y = .int i) ∨ (∃ z, x = .str z ∧ y = .str z)) ∨ ∃ (a b : Addr) (xs ys : List V), x = .ref a ∧ y = .ref b ∧ H a = some (.tup xs) ∧ H b = some (.tup ys) ∧ xs.length = ys.length ∧ xs.length ≤ 1000 ∧
      ∀ (k : Nat) (u v : V), xs[k]? = some u → ys[k]? = some v → SameD n H u v
theorem SameD.same : ∀ {n : Nat} {H H' : Hp} {x y : V}, SameD n H x y → Same H H' → SameD n H' x y
  | 0, _, _, _, _, h, _ => h
  | n + 1, _, _, _, _, h, s => by
    rcases h with h | ⟨a, b, xs, ys, rfl, rfl, h1, h2, h3, h4, h5⟩
    · exact .inl h
    · exact .inr ⟨a, b, xs, ys, rfl, rfl, s _ _ h1, s _ _ h2, h3, h4, fun k u v e1 e2 => (h5 k u v e1 e2).same s⟩
def spSame (n : Nat) : Sp := fun vs H Q _ => ∃ x y : V, vs = [x, y] ∧ SameD n H x y ∧ ∀ H', Same H H' → Q (.bl true) H'
theorem scS : FnScope ["actual", "due", "k"] ["actual", "due"] (defScope sSame) := ⟨rfl, rfl, rfl, by decide +kernel, rfl, by decide +kernel, by decide +kernel⟩
theorem ok_same0 {f : Addr} {fd : FuncData} (F : Fun K "_law_same" "_law_same" sSame f fd) (hm : mg "_law_same" = some (.ref f)) (b : Binds K fd ["actual", "due"] []) (T : Txt mg) (GIs : Cal P w K mg base 1 "_law_is_integer" spIsInteger []) : Cal P w K mg base 2 "_law_same" (spSame 0) [] := by
  refine mkCal F hm b scS (fun vs H Q E h => ?_) (fun cdv A outer s H vs Q E hr h => ?_)
  · obtain ⟨x, y, rfl, _⟩ := h
    rfl
  obtain ⟨x, y, rfl, hxy, q⟩ := h
  refine ⟨_, (pss_cons (ps_if (pt_val (pe_callB call_isi (by rfl) T.isinstance (by decide +kernel) (pa_cons (pv 1) (pa_cons (pe_bltn (v := .ty "tuple") (by rfl) T.tuple (by decide +kernel) rfl) pa_nil)))) pss_never pss_nil)
    (pss_cons (ps_if (pt_val (pe_callB call_isi (by rfl) T.isinstance (by decide +kernel) (pa_cons (pv 1) (pa_cons (pe_bltn (v := .ty "list") (by rfl) T.list (by decide +kernel) rfl) pa_nil)))) pss_never pss_nil)
    (pss_cons (ps_if (pt_cmpR op_isN (pv 1) pe_non (nomark _)) (pss_one (ps_ret (pe_cmpR op_isN (pv 0) pe_non (nomark _)))) pss_nil)
    (pss_cons (ps_if (pt_val (pe_callB call_isi (by rfl) T.isinstance (by decide +kernel) (pa_cons (pv 1) (pa_cons (pe_bltn (v := .ty "bool") (by rfl) T.bool (by decide +kernel) rfl) pa_nil)))) (pss_one (ps_ret (pe_and (pe_callB call_isi (by rfl) T.isinstance (by decide +kernel) (pa_cons (pv 0) (pa_cons (pe_bltn (v := .ty "bool") (by rfl) T.bool (by decide +kernel) rfl) pa_nil))) (pe_one (pe_cmpR op_eq (pv 0) (pv 1) (nomark _)))))) pss_nil)
    (pss_cons (ps_if (pt_val (pe_callB call_isi (by rfl) T.isinstance (by decide +kernel) (pa_cons (pv 1) (pa_cons (pe_bltn (v := .ty "str") (by rfl) T.str (by decide +kernel) rfl) pa_nil)))) (pss_one (ps_ret (pe_and (pe_callB call_isi (by rfl) T.isinstance (by decide +kernel) (pa_cons (pv 0) (pa_cons (pe_bltn (v := .ty "str") (by rfl) T.str (by decide +kernel) rfl) pa_nil))) (pe_one (pe_cmpR op_eq (pv 0) (pv 1) (nomark _)))))) pss_nil)
    (pss_one (ps_ret (pe_and (pe_c GIs hr (by decide) (by rfl) (pa_cons (pv 0) pa_nil)) (pe_one (pe_cmpR op_eq (pv 0) (pv 1) (nomark _))))))))))), ?_⟩
  rcases hxy with ⟨i, rfl, rfl⟩ | ⟨z, rfl, rfl⟩
  · refine ⟨_, rfl, _, _, _, _, false, rfl, .ty _, .base (.int i), kit_ty (by decide +kernel), _, rfl, ifF rfl ?_⟩
    refine ⟨_, rfl, _, _, _, _, false, rfl, .ty _, .base (.int i), kit_ty (by decide +kernel), _, rfl, ifF rfl ?_⟩
    refine ⟨_, rfl, rfl, _, rfl, ifF rfl ?_⟩
    refine ⟨_, rfl, _, _, _, _, false, rfl, .ty _, .base (.int i), kit_ty (by decide +kernel), _, rfl, ifF rfl ?_⟩
    refine ⟨_, rfl, _, _, _, _, false, rfl, .ty _, .base (.int i), kit_ty (by decide +kernel), _, rfl, ifF rfl ?_⟩
    refine ⟨_, rfl, i, rfl, true, rfl, ifT rfl ⟨_, rfl, _, rfl, rfl, ?_⟩⟩
    rw [decide_eq_true rfl]
    exact q H (Same.refl H)
  · refine ⟨_, rfl, _, _, _, _, false, rfl, .ty _, .base (.str z), kit_ty (by decide +kernel), _, rfl, ifF rfl ?_⟩
    refine ⟨_, rfl, _, _, _, _, false, rfl, .ty _, .base (.str z), kit_ty (by decide +kernel), _, rfl, ifF rfl ?_⟩
    refine ⟨_, rfl, rfl, _, rfl, ifF rfl ?_⟩
    refine ⟨_, rfl, _, _, _, _, false, rfl, .ty _, .base (.str z), kit_ty (by decide +kernel), _, rfl, ifF rfl ?_⟩
    refine ⟨_, rfl, _, _, _, _, true, rfl, .ty _, .base (.str z), kit_ty (by decide +kernel), _, rfl, ifT rfl ?_⟩
    refine ⟨_, rfl, _, _, _, _, true, rfl, .ty _, .base (.str z), kit_ty (by decide +kernel), true, rfl, ifT rfl ⟨_, rfl, _, rfl, rfl, ?_⟩⟩
    rw [decide_eq_true rfl]
    exact q H (Same.refl H)
theorem ok_same1 {n k : Nat} {f : Addr} {fd : FuncData} (F : Fun K "_law_same" "_law_same" sSame f fd) (hm : mg "_law_same" = some (.ref f)) (b : Binds K fd ["actual", "due"] []) (T : Txt mg) (GIs : Cal P w K mg base 1 "_law_is_integer" spIsInteger []) (hk : 1 ≤ k)
    {sp : Sp} (esp : sp = spSame n) (GS : Cal P w K mg base k "_law_same" sp []) : Cal P w K mg base (k + 1) "_law_same" (spSame (n + 1)) [] := by
  refine mkCal F hm b scS (fun vs H Q E h => ?_) (fun cdv A outer s H vs Q E hr h => ?_)
  · obtain ⟨x, y, rfl, _⟩ := h
    rfl
  obtain ⟨x, y, rfl, hxy, q⟩ := h
  refine ⟨_, (pss_cons (ps_if (pt_val (pe_callB call_isi (by rfl) T.isinstance (by decide +kernel) (pa_cons (pv 1) (pa_cons (pe_bltn (v := .ty "tuple") (by rfl) T.tuple (by decide +kernel) rfl) pa_nil)))) (pss_cons (ps_if (PW.pt (pw_or (pt_not (pt_val (pe_callB call_isi (by rfl) T.isinstance (by decide +kernel) (pa_cons (pv 0) (pa_cons (pe_bltn (v := .ty "tuple") (by rfl) T.tuple (by decide +kernel) rfl) pa_nil))))) (pw_or1 (pt_cmpR op_ne (pe_callB call_len_seq (by rfl) T.len PySem.boot_len (pa_cons (pv 0) pa_nil)) (pe_callB call_len_seq (by rfl) T.len PySem.boot_len (pa_cons (pv 1) pa_nil)) (nomark _))))) (pss_one (ps_ret pe_bl)) pss_nil)
    (pss_one (ps_ret (pe_callB (cr_all rfl) (by rfl) T.all (by decide +kernel) (pa_cons (pe_lc (own := [("k", 2)]) (g := gName 2) (te := tCall sp [] C8.E0 (tCons (tOp (rIxT K) (tVar 0) (tVar 2)) (tCons (tOp (rIxT K) (tVar 1) (tVar 2)) tNil))) (tt := tYes) rfl scS.nd (pi_range1 (by rfl) T.range (pa_cons (pe_callB call_len_seq (by rfl) T.len PySem.boot_len (pa_cons (pv 1) pa_nil)) pa_nil)) (blkOk_by (N := ["actual", "due", "k"]) (sc := defScope sSame) (by decide +kernel)) (fun _ _ _ _ _ => (pg_name (i := 2) scS.nd rfl (.inl rfl))) (fun _ _ _ _ _ => pts_nil) (fun _ _ _ _ _ => (pe_c GS hr (Nat.le_refl _) (by rfl) (pa_cons (pe_ix ix_tup (pv 0) (pv 2) (fun _ _ => rfl)) (pa_cons (pe_ix ix_tup (pv 1) (pv 2) (fun _ _ => rfl)) pa_nil))))) pa_nil))))) pss_nil)
    (pss_cons (ps_if (pt_val (pe_callB call_isi (by rfl) T.isinstance (by decide +kernel) (pa_cons (pv 1) (pa_cons (pe_bltn (v := .ty "list") (by rfl) T.list (by decide +kernel) rfl) pa_nil)))) pss_never pss_nil)
    (pss_cons (ps_if (pt_cmpR op_isN (pv 1) pe_non (nomark _)) (pss_one (ps_ret (pe_cmpR op_isN (pv 0) pe_non (nomark _)))) pss_nil)
    (pss_cons (ps_if (pt_val (pe_callB call_isi (by rfl) T.isinstance (by decide +kernel) (pa_cons (pv 1) (pa_cons (pe_bltn (v := .ty "bool") (by rfl) T.bool (by decide +kernel) rfl) pa_nil)))) (pss_one (ps_ret (pe_and (pe_callB call_isi (by rfl) T.isinstance (by decide +kernel) (pa_cons (pv 0) (pa_cons (pe_bltn (v := .ty "bool") (by rfl) T.bool (by decide +kernel) rfl) pa_nil))) (pe_one (pe_cmpR op_eq (pv 0) (pv 1) (nomark _)))))) pss_nil)
    (pss_cons (ps_if (pt_val (pe_callB call_isi (by rfl) T.isinstance (by decide +kernel) (pa_cons (pv 1) (pa_cons (pe_bltn (v := .ty "str") (by rfl) T.str (by decide +kernel) rfl) pa_nil)))) (pss_one (ps_ret (pe_and (pe_callB call_isi (by rfl) T.isinstance (by decide +kernel) (pa_cons (pv 0) (pa_cons (pe_bltn (v := .ty "str") (by rfl) T.str (by decide +kernel) rfl) pa_nil))) (pe_one (pe_cmpR op_eq (pv 0) (pv 1) (nomark _)))))) pss_nil)
    (pss_one (ps_ret (pe_and (pe_c GIs hr hk (by rfl) (pa_cons (pv 0) pa_nil)) (pe_one (pe_cmpR op_eq (pv 0) (pv 1) (nomark _))))))))))), ?_⟩
  rcases hxy with (⟨i, rfl, rfl⟩ | ⟨z, rfl, rfl⟩) | ⟨a, b, xs, ys, rfl, rfl, hx, hy, hl, h1000, hall⟩
  · refine ⟨_, rfl, _, _, _, _, false, rfl, .ty _, .base (.int i), kit_ty (by decide +kernel), _, rfl, ifF rfl ?_⟩
    refine ⟨_, rfl, _, _, _, _, false, rfl, .ty _, .base (.int i), kit_ty (by decide +kernel), _, rfl, ifF rfl ?_⟩
    refine ⟨_, rfl, rfl, _, rfl, ifF rfl ?_⟩
    refine ⟨_, rfl, _, _, _, _, false, rfl, .ty _, .base (.int i), kit_ty (by decide +kernel), _, rfl, ifF rfl ?_⟩
    refine ⟨_, rfl, _, _, _, _, false, rfl, .ty _, .base (.int i), kit_ty (by decide +kernel), _, rfl, ifF rfl ?_⟩
    refine ⟨_, rfl, i, rfl, true, rfl, ifT rfl ⟨_, rfl, _, rfl, rfl, ?_⟩⟩
    rw [decide_eq_true rfl]
    exact q H (Same.refl H)
  · refine ⟨_, rfl, _, _, _, _, false, rfl, .ty _, .base (.str z), kit_ty (by decide +kernel), _, rfl, ifF rfl ?_⟩
    refine ⟨_, rfl, _, _, _, _, false, rfl, .ty _, .base (.str z), kit_ty (by decide +kernel), _, rfl, ifF rfl ?_⟩
    refine ⟨_, rfl, rfl, _, rfl, ifF rfl ?_⟩
    refine ⟨_, rfl, _, _, _, _, false, rfl, .ty _, .base (.str z), kit_ty (by decide +kernel), _, rfl, ifF rfl ?_⟩
    refine ⟨_, rfl, _, _, _, _, true, rfl, .ty _, .base (.str z), kit_ty (by decide +kernel), _, rfl, ifT rfl ?_⟩
    refine ⟨_, rfl, _, _, _, _, true, rfl, .ty _, .base (.str z), kit_ty (by decide +kernel), true, rfl, ifT rfl ⟨_, rfl, _, rfl, rfl, ?_⟩⟩
    rw [decide_eq_true rfl]
    exact q H (Same.refl H)
  · refine ⟨_, rfl, _, _, _, _, true, rfl, .ty _, .base (.tup hy), kit_ty (by decide +kernel), _, rfl, ifT rfl ?_⟩
    refine ⟨_, rfl, _, _, _, _, true, rfl, .ty _, .base (.tup hx), kit_ty (by decide +kernel), _, rfl, ifF rfl ?_⟩
    refine ⟨_, rfl, a, _, rfl, .inr (SqT.of hx), _, rfl, b, _, rfl, .inr (SqT.of hy), rfl, _, rfl, ifF ?_ ?_⟩
    · rw [hl, decide_eq_true rfl]
      rfl
    refine ⟨_, rfl, b, _, rfl, .inr (SqT.of hy), _, rfl, by omega, by omega, fun D nD => ?_⟩
    refine lc_range (lo := 0) (n := ((ys.length : Int)).toNat) (fun i H' => Same H H' ∧ H' D = some (.lst (trues i))) ⟨same_new nD, upd_same⟩ ?_ ?_
    · rintro i H1 hi ⟨s1, hD⟩
      have hi1 : i < xs.length := by omega
      have hi2 : i < ys.length := by omega
      have g1 : atI xs ((0 : Int) + (i : Int)) = some xs[i] := at_of (j := i) (by omega) (List.getElem?_eq_getElem hi1)
      have g2 : atI ys ((0 : Int) + (i : Int)) = some ys[i] := at_of (j := i) (by omega) (List.getElem?_eq_getElem hi2)
      refine ⟨rfl, _, rfl, _, rfl, a, _, _, _, rfl, rfl, SqT.of (s1 _ _ hx), g1, _, rfl, _, rfl, b, _, _, _, rfl, rfl, SqT.of (s1 _ _ hy), g2, ?_⟩
      rw [esp]
      refine ⟨_, _, rfl, (hall i _ _ (List.getElem?_eq_getElem hi1) (List.getElem?_eq_getElem hi2)).same s1, fun H2 s2 => ?_⟩
      refine ⟨_, s2 _ _ hD, by rw [trues_len]; exact small1000 (by omega), fun c o hc => ?_, by rw [upd_same, trues_add]⟩
      rw [upd_ne (ne_of_none hc nD)]
      exact s2 _ _ (s1 _ _ hc)
    · rintro H1 ⟨s1, hD⟩
      refine ⟨D, List.replicate _ true, rfl, SqL.of hD, ?_⟩
      rw [trues_all]
      exact q H1 s1
end
section
variable {C : Addr} {H H' : Hp} {x : Addr} {rs : List Rule} {ts : List (List Nat)}
theorem TextAt.snd (h : TextAt C H x rs ts) : Sound rs ts := by
  obtain ⟨_, _, _, _, _, h⟩ := h
  exact h.sound
theorem TextAt.frm {p c : Addr} (h : TextAt C H x rs ts) (P : Pool H p c) (f : Frm p H H') : TextAt C H' x rs ts := by
  obtain ⟨dx, RU, LE, fs, as, h⟩ := h
  obtain ⟨pos, left, seed, xs, hp⟩ := P
  have tup : ∀ {a : Addr} {vs : List V}, H a = some (.tup vs) → H' a = some (.tup vs) := fun e => f _ _ (ne_of e hp.at_ (by intro z; cases z)) e
  exact ⟨dx, RU, LE, fs, as, f _ _ (ne_of h.at_ hp.at_ (by intro z; cases z)) h.at_, h.fR, h.fE, h.fN, h.m1, h.m2, tup h.hR, tup h.hE, ⟨h.hA.1, fun k vs e => let ⟨a, e1, e2⟩ := h.hA.2 k vs e; ⟨a, e1, tup e2⟩⟩, h.sound⟩
theorem TextAt.updL {D : Addr} {ys : List V} {o : HO} (h : TextAt C H x rs ts) (hD : H D = some (.lst ys)) : TextAt C (upd H D o) x rs ts := by
  obtain ⟨dx, RU, LE, fs, as, h⟩ := h
  have tup : ∀ {a : Addr} {vs : List V}, H a = some (.tup vs) → (upd H D o) a = some (.tup vs) := fun e => by rw [upd_ne (ne_of e hD (by intro z; cases z))]; exact e
  exact ⟨dx, RU, LE, fs, as, by rw [upd_ne (ne_of h.at_ hD (by intro z; cases z))]; exact h.at_, h.fR, h.fE, h.fN, h.m1, h.m2, tup h.hR, tup h.hE, h.hA.updL hD, h.sound⟩
end
theorem Drawn.updL {H : Hp} {R T D : Addr} {as : List Addr} {rs : List Rule} {ts : List (List Nat)} {ys : List V} {o : HO} (d : Drawn H R T as rs ts) (hD : H D = some (.lst ys)) (h1 : R ≠ D) (h2 : T ≠ D) : Drawn (upd H D o) R T as rs ts :=
  ⟨by rw [upd_ne h1]; exact d.ra, by rw [upd_ne h2]; exact d.ta, d.la, fun k r h => by
    obtain ⟨a, e, g⟩ := d.el k r h
    exact ⟨a, e, by rw [upd_ne (ne_of g hD (by intro z; cases z))]; exact g⟩, d.good, d.ne⟩
theorem Drawn.lt {H : Hp} {R T : Addr} {as : List Addr} {rs : List Rule} {ts : List (List Nat)} (d : Drawn H R T as rs ts) : LT H as (rs.map Rule.vals) :=
  ⟨by rw [d.la, List.length_map], fun k vs e => by
    rw [List.getElem?_map] at e
    cases er : rs[k]? with
    | none => rw [er] at e; cases e
    | some r =>
      rw [er] at e
      have ev : r.vals = vs := Option.some.inj e
      subst ev
      exact d.el k r er⟩
theorem vals_same {H : Hp} {r : Rule} {j : Nat} {u v : V} (h1 : r.vals[j]? = some u) (h2 : r.vals[j]? = some v) : SameD 0 H u v := by
  rw [h1] at h2
  cases h2
  have hm := List.mem_of_getElem? h1
  cases r with
  | letters z => simp [Rule.vals] at hm; rcases hm with rfl | rfl <;> first | exact .inl ⟨_, rfl, rfl⟩ | exact .inr ⟨_, rfl, rfl⟩
  | join i k => simp [Rule.vals] at hm; rcases hm with rfl | rfl | rfl <;> first | exact .inl ⟨_, rfl, rfl⟩ | exact .inr ⟨_, rfl, rfl⟩
  | power i k => simp [Rule.vals] at hm; rcases hm with rfl | rfl | rfl <;> first | exact .inl ⟨_, rfl, rfl⟩ | exact .inr ⟨_, rfl, rfl⟩
  | part i a b => simp [Rule.vals] at hm; rcases hm with rfl | rfl | rfl | rfl <;> first | exact .inl ⟨_, rfl, rfl⟩ | exact .inr ⟨_, rfl, rfl⟩
  | back i => simp [Rule.vals] at hm; rcases hm with rfl | rfl <;> first | exact .inl ⟨_, rfl, rfl⟩ | exact .inr ⟨_, rfl, rfl⟩
/-- two tuples of the same rules -/
theorem rules_same {H : Hp} {a b : Addr} {as bs : List Addr} {rs : List Rule} (ha : H a = some (.tup (as.map V.ref))) (hb : H b = some (.tup (bs.map V.ref))) (la : LT H as (rs.map Rule.vals)) (lb : LT H bs (rs.map Rule.vals)) (h : rs.length ≤ 1000) : SameD 2 H (.ref a) (.ref b) := by
  have l1 := la.1
  have l2 := lb.1
  rw [List.length_map] at l1 l2
  refine .inr ⟨a, b, _, _, rfl, rfl, ha, hb, by rw [List.length_map, List.length_map, l1, l2], by rw [List.length_map, l1]; exact h, fun k u v e1 e2 => ?_⟩
  have hk : k < rs.length := by
    have := (List.getElem?_eq_some_iff.mp e1).1
    rwa [List.length_map, l1] at this
  have er : (rs.map Rule.vals)[k]? = some (rs[k]).vals := by rw [List.getElem?_map, List.getElem?_eq_getElem hk]; rfl
  obtain ⟨x, x1, x2⟩ := la.2 k _ er
  obtain ⟨y, y1, y2⟩ := lb.2 k _ er
  rw [List.getElem?_map, x1] at e1
  rw [List.getElem?_map, y1] at e2
  cases Option.some.inj e1
  cases Option.some.inj e2
  exact .inr ⟨x, y, _, _, rfl, rfl, x2, y2, rfl, Nat.le_trans (Rule.vals_len _) (by decide), fun j u v h1 h2 => vals_same h1 h2⟩
/-- two tuples of the same numbers and texts -/
theorem flat_same {H : Hp} {a b : Addr} {xs : List V} (ha : H a = some (.tup xs)) (hb : H b = some (.tup xs)) (h : xs.length ≤ 1000) (hf : ∀ u ∈ xs, (∃ i, u = .int i) ∨ ∃ z, u = .str z) : SameD 2 H (.ref a) (.ref b) := by
  refine .inr ⟨a, b, xs, xs, rfl, rfl, ha, hb, rfl, h, fun k u v e1 e2 => ?_⟩
  rw [e1] at e2
  cases e2
  rcases hf u (List.mem_of_getElem? e1) with ⟨i, rfl⟩ | ⟨z, rfl⟩
  · exact .inl (.inl ⟨i, rfl, rfl⟩)
  · exact .inl (.inr ⟨z, rfl, rfl⟩)
theorem int_same {H : Hp} (i : Int) : SameD 2 H (.int i) (.int i) := .inl (.inl ⟨i, rfl, rfl⟩)
theorem str_same {H : Hp} (z : Str) : SameD 2 H (.str z) (.str z) := .inl (.inr ⟨z, rfl, rfl⟩)
theorem last_tx {ts : List (List Nat)} (h : 1 ≤ ts.length) : atI (ts.map tV) (-1) = some (.str (S (tx ts (ts.length - 1)))) := by
  have e : ts = ts.take (ts.length - 1) ++ [tx ts (ts.length - 1)] := by
    rw [← take_succ_tx (by omega), Nat.sub_add_cancel h, List.take_length]
  have e2 : ts.map tV = (ts.take (ts.length - 1)).map tV ++ [tV (tx ts (ts.length - 1))] := by
    rw [← List.map_singleton, ← List.map_append, ← e]
  rw [e2]
  exact atI_last _ _
theorem sub_one {l : List Nat} {k : Nat} (h : k < l.length) : sub l k (k + 1) = [l[k]] := by
  unfold sub
  rw [List.take_add_one, List.getElem?_eq_getElem h, List.drop_append_of_le_length (by rw [List.length_take]; omega), List.drop_eq_nil_of_le (by rw [List.length_take]; omega)]
  rfl
end K4
namespace SupX
open PySem PySem.Spec PyProof.Rows L2
section
variable {X : Cx} {pins : List (Addr × Obj)} {σ : L2.St} {H : Hp} {s : Shared} {x C f cc ca : Addr} {of : Obj} {e : Expr} {es : List Expr} {ta : TA} {body : List Stmt} {p0 p1 p2 p3 p4 : Pos}
/-- what the written part says of an own error's class and of the def of its __init__ -/
structure SupAt (P : Program) (K : PySem.W.Frag) (mg : Str → Option Value) (C f cc ca : Addr) (fd : FuncData) : Prop where
  ex : OexC K C
  fn : ∃ oc od sl, K.lookup f = some ⟨oc, od, .func fd, sl⟩
  head : ∃ ar : Arg, (fd.params.posonlyargs ++ fd.params.args).head? = some ar ∧ ar.arg = "self"
  code : ∃ c d vs sl file tf, K.lookup ca = some ⟨c, d, .fields vs, sl⟩ ∧ vs[2]? = some (.str file tf) ∧ ((P.main.file : Str) == file) = true
  cell : ∃ c d sl, K.lookup cc = some ⟨c, d, .cell (some (.ref C)), sl⟩
  own : PySem.W.mroIn K C (.ref C) = some true
  up : PySem.W.ks_superIn K C C "__init__" = some (some (.builtin "ValueError.__init__"))
  val : PySem.W.subIn K (.ref C) (.type "ValueError") = some true
  opq : PySem.W.nsIn K cStatics "thirdparty.any" = some none
  sup : mg "super" = none
  top : (P.main.scope.names.lookup ("super" : Str)).isSome = false
/-- the bound ValueError.__init__, called -/
theorem bound_ok {u : Addr} {us : List Value} {A : Around} {Q : Value → Shared → Prop} {E : Value → Shared → Prop} (T : OexC X.K C) (I : Inv X pins σ H s) (hx : H x = some (exo x C none)) (hu : s.heap.get? u = some (PySem.W.kxs_mw "ValueError.__init__" x)) (hl : us.length ≤ sizeLine) (h : ∀ s', Inv X pins σ H s' → Q .none s') :
    wpAny (model X.prog X.w) A (call (.ref u) us) Q E s := by
  obtain ⟨nm, q, N, bs, bm, sn, sub, ab, col, dd, k0, k1, k2, k3, k5, hC, hbm⟩ := T.cls
  obtain ⟨t1, ho⟩ := exo_at I.hok hx
  have hC' := I.kIn _ _ hC
  obtain ⟨hp, g, d, t, os⟩ := s
  refine wpAny_call (codeAny_of_tree ?_)
  show wpAny _ A.in1 (callAny (.ref u) ⟨us, []⟩) _ _ _
  simp only [callAny]
  refine wpAny_bind (wpAny_load hu ?_)
  simp only [PySem.W.kxs_mw]
  refine PySem.W.KFB.if_so (by decide) ?_
  refine wpAny_bind (PySem.W.check_bound_init F.excBase_ValueError.toExcCallFacts hC' ho rfl ?_)
  refine wpAny_bind (wpAny_pure (wpAny_pure ?_))
  refine ⟨plainId_quiet F.excBase_ValueError.init.plain _, codeAny_builtin F.excBase_ValueError.initEntry ?_⟩
  refine PySem.W.exc_init_tree (cls := .ref C) (t0 := t1) (dv := none) (c2 := .none) (c3 := .none) (b4 := .bool false) ho hl fun h' k hx' _ => ?_
  have J := I.write (t' := t) (x := x) (e := x) (o := exo x C none) (by rw [hx]; exact True.intro) (.inl rfl) k ⟨_, hx'⟩ (exo_ok hx')
  have eu : upd H x (exo x C none) = H := by
    funext b
    by_cases hb : b = x
    · rw [hb, upd_same, hx]
    · rw [upd_ne hb]
  rw [eu] at J
  exact h _ J
/-- super().__init__(e, ..) as a statement -/
theorem sup_run {pl : Sem Bool} {fd : FuncData} {R : L2.St → Hp → Prop} (Z : SupAt X.prog X.K X.mg C f cc ca fd) (hN : X.N[0]? = some ("self" : Str)) (hks : X.env.kindOf ("super" : Str) = some .globalImplicit) (hkc : X.env.kindOf ("__class__" : Str) = some .free) (hka : X.env.kindOf ("self" : Str) = some .local) (hfu : X.env.func = some f) (hco : X.env.code = .ref ca)
    (hcl : X.env.cells.lookup ("__class__" : Str) = some cc) (I : Inv X pins σ H s) (h0 : σ[0]? = some (some (.ref x))) (hx : H x = some (exo x C none)) (ha : PA X (e :: es) ta) (h : ta σ H fun vs H1 => vs.length ≤ 1000 ∧ H1 x = some (exo x C none) ∧ R σ H1)
    (hi : interactive X.env = false := by rfl) (hs : swapsWith (.Call (.Attribute (.Call (.Name "super" p0) [] [] p1) "__init__" p2) (e :: es) [] p3) none p4.line X.env = pure false := by rfl)
    (he : starEach (e :: es) X.env = (false, eval e X.env) :: starEach es X.env := by rfl) (hpl : (backTo p3 (starEach es X.env)).any (·.1) = false := by rfl)
    (heq : eval (.Call (.Attribute (.Call (.Name "super" p0) [] [] p1) "__init__" p2) (e :: es) [] p3) X.env = (do
      let ov ← attributeBase (.Call (.Name "super" p0) [] [] p1) "__init__" X.env (eval (.Call (.Name "super" p0) [] [] p1) X.env)
      standAt p2.atName
      let (f, first) ← holding [ov] (getMethod ov "__init__" pl)
      callWith p3 f first (backTo p3 (starEach (e :: es) X.env)) []) := by rfl) :
    _root_.PySem.wpAt (model X.prog X.w) X.A (.func body X.env) (exec (.Expr (.Call (.Attribute (.Call (.Name "super" p0) [] [] p1) "__init__" p2) (e :: es) [] p3) p4) X.env) (fun fl s' => fl = .next ∧ ∃ H', Inv X pins σ H' s' ∧ R σ H') X.xe s := by
  obtain ⟨oc, od, sl, hf⟩ := Z.fn
  obtain ⟨ar, hp, har⟩ := Z.head
  obtain ⟨cc1, cc2, vs, cc3, file, tf, hcode, hvs, hfile⟩ := Z.code
  obtain ⟨b1, b2, b3, hcell⟩ := Z.cell
  refine PySem.ks_wpAt_Expr_any ?_ hi hs
  refine PySem.ks_wpAt_MethodCall ?_ heq
  refine PySem.ks_wpAt_super_base hks hkc rfl hfu (I.kIn _ _ hf) rfl hp hco (I.kIn _ _ hcode) rfl hvs hfile Z.top ?_
  obtain ⟨mb, g1, g2⟩ := I.mod.blt
  refine PySem.W.ks_loadName_global I.ok.kind hks (PySem.Calls.loadGlobal_builtin (by rw [I.ok.glob]; exact I.mod.glob.keeps I.bk) Z.sup (by rw [I.ok.blt]; exact g1.keeps I.bk) ((g2 ("super" : Str) (by decide)).trans PyProof.Rows.Boot.«super») ⟨rfl, ?_⟩)
  refine wpAny_loadName_free I.ok.kind hkc hcl ⟨_, I.kIn _ _ hcell, rfl⟩ ?_
  obtain ⟨m, hns, hl⟩ := I.loc
  obtain ⟨u, ru, lk⟩ := hl 0 ("self" : Str) _ hN h0 (.inl hka)
  have hu : m ("self" : Str) = some (.ref x) := by
    obtain rfl : u = Value.ref x := ru
    rcases lk with ⟨_, lk⟩ | ⟨lk | lk, _⟩
    · exact lk
    · rw [hka] at lk; cases lk
    · rw [hka] at lk; cases lk
  rw [har]
  refine wpAny_loadName_local I.ok.kind hka hns hu ?_
  obtain ⟨nm, q, N, bs, bm, sn, sub, ab, col, dd, k0, k1, k2, k3, k5, hC, hbm⟩ := Z.ex.cls
  have hC' := I.kIn _ _ hC
  obtain ⟨t1, ho⟩ := exo_at I.hok hx
  have hcd : PySem.W.clsIn X.K C = some { name := nm, bases := bs, mro := .ref C :: bm, ns := N, qualname := q, hasDict := true, slotNames := sn, subclasses := sub, abstract := ab, collection := col, hasDel := false } := by
    unfold PySem.W.clsIn
    rw [hC] <;> rfl
  refine PySem.ks_wpAny_isType_cls hC' rfl ⟨rfl, ?_⟩
  obtain ⟨hp0, g, d, t, os⟩ := s
  refine PySem.ks_wpAny_call_super hC' rfl ho rfl (fun c => by intro z; cases z) (PySem.W.looks_mroIn I.kIn Z.own) fun h1 eso kp => ?_
  have I1 : Inv X pins σ H ⟨h1, g, d, t, os⟩ := I.kept (t' := t) kp
  have X1 := I1.kIn
  have A1 : PySem.W.InstAt h1 x _ C none := ⟨kp _ _ ho, rfl, rfl, trivial⟩
  have up := Z.up
  unfold PySem.W.ks_superIn at up
  rw [hcd] at up
  refine PySem.W.kxs_getMethod PySem.W.kxs_ValueError eso (PySem.W.looks_opaque X1 Z.opq) (l₀ := .ref C :: bm) ((PySem.W.looks_clsIn X1 hcd).andThen .now) rfl X1 up (A1.type.andThen (PySem.W.looks_subIn X1 Z.val)) (PySem.W.ks_ne X1 A1 hcd) (by decide) ?_
  have I2 : Inv X pins σ H ⟨h1.push (PySem.W.kxs_mw "ValueError.__init__" x), g, d, t + 1, os⟩ := I1.kept (t' := t + 1) fun b o e => Heap.get?_push_of_some _ e
  have I3 : Inv X (pins ++ [(h1.objs.size, PySem.W.kxs_mw "ValueError.__init__" x)]) σ H ⟨h1.push (PySem.W.kxs_mw "ValueError.__init__" x), g, d, t + 1, os⟩ := I2.pins_of fun p hp => by
    rcases List.mem_append.mp hp with z | z
    · exact I2.pin p (List.mem_append_right _ z)
    · obtain rfl := List.mem_singleton.mp z
      exact ⟨Heap.get?_push_at rfl rfl, I1.hok.fresh (Nat.le_refl _), (Nat.ne_of_lt I1.lt).symm, I1.nofs (Nat.le_refl _), fun v z => by cases z⟩
  show wpAny _ _ (callWith p3 (.ref h1.objs.size) [] (backTo p3 (starEach (e :: es) X.env)) []) _ _ _
  rw [he]
  refine PySem.W.kxs_callWith (i := "ValueError.__init__") (x := x) (by show (false || (backTo p3 (starEach es X.env)).any (·.1)) = false; rw [hpl]; rfl) (PySem.Calls.evalArgs_plain ?_)
  have run := ha.run p3 _ _ σ H _ I3 h
  rw [he] at run
  refine thn run fun us s1 ⟨vs', H1, I4, rv, hlen, hx1, q⟩ => ?_
  have hu4 := (I4.pin (h1.objs.size, PySem.W.kxs_mw "ValueError.__init__" x) (List.mem_append_right _ (List.mem_append_right _ (List.mem_singleton.mpr rfl)))).1
  have I5 : Inv X pins σ H1 s1 := I4.pins_of fun p hp => I4.pin p (List.mem_append_right _ (List.mem_append_left _ hp))
  exact ⟨hu4, bound_ok Z.ex I5 hx1 hu4 (by show us.length ≤ sizeLine; rw [← Paired.length rv, sizeLine_eq]; omega) fun s' J => ⟨rfl, H1, J, q⟩⟩
end
section
open NdefX
variable {CX : CXT} {P : Program} {w : World} {K : PySem.W.Frag} {mg : Str → Option Value} {base : Heap} {k : Nat} {C f cc ca : Addr} {NN ps : List Str} {sp : Sp} {p0 p1 p2 p3 p4 : Pos} {e : Expr} {es : List Expr} {rest : List Stmt}
/-- an own error's __init__(self, ..): super().__init__(e, ..), then rest -/
theorem fn_sup {name qual : Str} {params : Arguments} {scope : Scope} {dV kV doc pm ct : Value} {an : Option Addr} {pl : Env → Sem Bool}
    (Z : SupAt P K mg C f cc ca (PySem.W.fnX name qual params (.Expr (.Call (.Attribute (.Call (.Name "super" p0) [] [] p1) "__init__" p2) (e :: es) [] p3) p4 :: rest) scope [("__class__", cc)] dV kV doc pm an (.ref ca) ct)) (hcd : PySem.W.codeIn K (.ref ca) qual = true)
    (S : NScope NN ("self" :: ps) ["__class__"] scope) (hks : scope.names.lookup ("super" : Str) = some .globalImplicit) (len : ∀ vs H Q E, sp vs H Q E → vs.length = ps.length + 1)
    (hh : ∀ env : Env, (starEach (e :: es) env = (false, eval e env) :: starEach es env) ∧ (backTo p3 (starEach es env)).any (·.1) = false ∧ swapsWith (.Call (.Attribute (.Call (.Name "super" p0) [] [] p1) "__init__" p2) (e :: es) [] p3) none p4.line env = pure false ∧
      eval (.Call (.Attribute (.Call (.Name "super" p0) [] [] p1) "__init__" p2) (e :: es) [] p3) env = (do
        let ov ← attributeBase (.Call (.Name "super" p0) [] [] p1) "__init__" env (eval (.Call (.Name "super" p0) [] [] p1) env)
        standAt p2.atName
        let (f, first) ← holding [ov] (getMethod ov "__init__" (pl env))
        callWith p3 f first (backTo p3 (starEach (e :: es) env)) []))
    (hbody : ∀ (X : Cx) (H : Hp) (x : Addr) (vs : List V) (Q : VK) (E : XK), X.K = K → X.mg = mg → X.prog = P → X.N = NN → X.env.scope = scope → sp (.ref x :: vs) H Q E →
      H x = some (exo x C none) ∧ ∃ ta tb, PA X (e :: es) ta ∧ PSs X rest tb ∧ ta (startF NN (.ref x :: vs) [some (.ref C)]) H fun us H1 => us.length ≤ 1000 ∧ H1 x = some (exo x C none) ∧ tb { nx := fun _ H' => Q .non H', rt := Q } (startF NN (.ref x :: vs) [some (.ref C)]) H1)
    (hself : ∀ vs H Q E, sp vs H Q E → ∃ x us, vs = .ref x :: us) :
    FnOk P w K mg base CX (k + 1) f (PySem.W.fnX name qual params (.Expr (.Call (.Attribute (.Call (.Name "super" p0) [] [] p1) "__init__" p2) (e :: es) [] p3) p4 :: rest) scope [("__class__", cc)] dV kV doc pm an (.ref ca) ct) ("self" :: ps) sp := by
  refine ⟨len, fun A outer s H args us vs Q E hr e0 hb r hsp => ?_⟩
  have hl : vs.length = ("self" :: ps : List Str).length := len _ _ _ _ hsp
  have KX : K.In s.heap := e0.mod.kin.keeps fun b o e => (e0.bs b o e).1
  have lim : s.heap.NoLimit := e0.mod.nolimit.keeps fun b o e => (e0.bs b o e).1
  obtain ⟨oc, od, sl, hf⟩ := Z.fn
  obtain ⟨x, vs, rfl⟩ := hself _ _ _ _ hsp
  obtain ⟨b1, b2, b3, hcell⟩ := Z.cell
  refine PySem.ks_codeAny_call_defAt (binds := (("self" : Str) :: ps).zip us) hr.depth (KX _ _ hf) rfl lim (PySem.W.codeRec_of KX hcd) rfl hb (fun y hy => S.nocell y hy) (fun y hy => S.par _ (List.of_mem_zip hy).1) (fun h₁ hns hk => ?_) S.co S.gen S.kind
  have cells : CellsAt [(("__class__" : Str), cc)] ["__class__"] [some (V.ref C)] s.heap H := by
    have q := e0.bs _ _ (e0.mod.kin _ _ hcell)
    have only : ∀ (y : Str) (c : Addr), List.lookup y [(("__class__" : Str), cc)] = some c → y = "__class__" ∧ c = cc := fun y c z => by
      by_cases hy : y = "__class__"
      · subst hy
        exact ⟨rfl, (Option.some.inj (by simpa [List.lookup] using z)).symm⟩
      · have : (y == ("__class__" : Str)) = false := by simpa using hy
        simp [List.lookup, this] at z
    refine ⟨rfl, fun y c z => ?_, fun y z c h1 h2 => (only y c h1).1.trans (only z c h2).1.symm, fun i y z => ?_⟩
    · rw [(only y c z).2]
      exact ⟨q.2, _, _, q.1, rfl⟩
    · cases i with
      | zero =>
        obtain rfl : ("__class__" : Str) = y := Option.some.inj z
        exact ⟨cc, by simp [List.lookup], fun v hv => by
          obtain rfl : V.ref C = v := Option.some.inj (Option.some.inj hv)
          exact ⟨.ref C, rfl, _, q.1, rfl⟩⟩
      | succ i => simp at z
  have I := inv_startN (CX := CX) (E := E) (F := ⟨name, qual, params, .Expr (.Call (.Attribute (.Call (.Name "super" p0) [] [] p1) "__init__" p2) (e :: es) [] p3) p4 :: rest, scope, [("__class__", cc)], ca⟩) (f := f) (tk := s.toks + ((("self" : Str) :: ps).zip us).length) S hr.hd e0 hl r cells hns hk
  generalize hX : ncx CX P w K mg base NN ⟨name, qual, params, .Expr (.Call (.Attribute (.Call (.Name "super" p0) [] [] p1) "__init__" p2) (e :: es) [] p3) p4 :: rest, scope, [("__class__", cc)], ca⟩ f A outer s H E = X at I
  have xP : X.prog = P := by rw [← hX]; rfl
  have xw : X.w = w := by rw [← hX]; rfl
  have xK : X.K = K := by rw [← hX]; rfl
  have xm : X.mg = mg := by rw [← hX]; rfl
  have xN : X.N = NN := by rw [← hX]; rfl
  have xS : X.env.scope = scope := by rw [← hX]; rfl
  obtain ⟨hx, ta, tb, ha, hb2, h⟩ := hbody X H x vs Q E xK xm xP xN xS hsp
  obtain ⟨q1, q2, q3, q4⟩ := hh X.env
  have n0 : X.N[0]? = some ("self" : Str) := by
    rw [xN]
    have z := S.pre
    have z0 : (NN.take ((("self" : Str) :: ps).length + [("__class__" : Str)].length))[0]? = some ("self" : Str) := by rw [z]; rfl
    rwa [List.getElem?_take_of_lt (by show 0 < _; simp)] at z0
  have hin : interactive X.env = false := by
    unfold interactive
    rw [xS, S.kind]
    rfl
  have run := sup_run (body := .Expr (.Call (.Attribute (.Call (.Name "super" p0) [] [] p1) "__init__" p2) (e :: es) [] p3) p4 :: rest) (R := fun σ H1 => tb { nx := fun _ H' => Q .non H', rt := Q } σ H1) (by rw [xP, xK, xm]; exact Z) n0 (by show X.env.scope.names.lookup _ = _; rw [xS]; exact hks) (by show X.env.scope.names.lookup _ = _; rw [xS]; exact S.frk _ (List.mem_singleton.mpr rfl)) (by show X.env.scope.names.lookup _ = _; rw [xS]; exact S.par _ (List.mem_cons_self)) (by rw [← hX]; rfl) (by rw [← hX]; rfl) (by rw [← hX]; rfl) I rfl hx ha h hin q3 q1 q2 q4
  have key : _root_.PySem.wpAt (model P w) X.A (.func (.Expr (.Call (.Attribute (.Call (.Name "super" p0) [] [] p1) "__init__" p2) (e :: es) [] p3) p4 :: rest) X.env) (execs (.Expr (.Call (.Attribute (.Call (.Name "super" p0) [] [] p1) "__init__" p2) (e :: es) [] p3) p4 :: rest) X.env)
      (fun fl s' => CR CX outer P w H s Q E (.ok (.ret (match fl with | .ret v => v | _ => .none))) s') X.xe { s with heap := h₁, toks := s.toks + ((("self" : Str) :: ps).zip us).length } := by
    rw [xP, xw] at run
    refine PySem.ks_wpAt_execs_cons (PySem.ks_wpAt_mono run (fun fl s' hq => ?_) fun _ _ z => z)
    obtain ⟨rfl, H', J, q⟩ := hq
    have r2 := hb2.run [] s' _ H' _ J q
    rw [xP, xw] at r2
    refine wpAt_of_wpAny (wpAny_mono r2 (fun fl s' hs => ?_) fun _ _ z => z)
    have fin : ∀ {σ' : L2.St} {H' : Hp} {v : V} {u : Value}, Inv X [] σ' H' s' → RelV v u → Q v H' → CE outer P w H s Q u s' :=
      fun {σ' H' v u} J rv q => by
        subst hX
        exact ⟨v, H', J.os, J.bare, J.base, J.hok, rv, q⟩
    cases fl with
    | ret u =>
      obtain ⟨v, σ', H', J, rv, q⟩ := hs
      exact fin J rv q
    | next =>
      obtain ⟨σ', H', J, q⟩ := hs
      exact fin (v := V.non) (u := Value.none) J rfl q
    | brk =>
      obtain ⟨_, _, _, q⟩ := hs
      exact False.elim q
    | cont =>
      obtain ⟨_, _, _, q⟩ := hs
      exact False.elim q
  subst hX
  exact key
end
/-- isinstance(e, c), e the error that the suite holds, of the own class at D with its dict -/
def rIsX (K : PySem.W.Frag) (D a : Addr) (cls : Value) (d : Option Addr) : List V → Hp → VK → Prop := fun xs H Q => ∃ (c : V) (cv : Value) (b : Bool) (dd : Addr) (fs : List (Str × V)), xs = [.ref a, c] ∧ cls = .ref D ∧ d = some dd ∧ H dd = some (.xd fs) ∧ (∀ u, RelV c u → u = cv) ∧ PySem.W.kitOne K (.ref D) cv = some b ∧ Q (.bl b) H
theorem call_isX {X : Cx} {a D : Addr} {oe : Obj} {cls : Value} {d : Option Addr} {pn : List (Addr × Obj)} (C : ExcC X.K D) (hz : Zc cls d oe) (hf : ∃ vs, oe.data = .fields vs) : CallR (X.suite a ((a, oe) :: pn)) (.builtin "isinstance") (rIsX X.K D a cls d) := by
  intro pins s σ H xs us Q I r h
  obtain ⟨c, cv, b, dd, fs, rfl, rfl, rfl, hd, hcv, e, q⟩ := h
  obtain ⟨u1, u2, rfl, r1, r2⟩ := vals2 r
  obtain rfl : u1 = Value.ref a := r1
  obtain rfl := hcv _ r2
  have hget := (I.pin (a, oe) (List.mem_append.mpr (.inl List.mem_cons_self))).1
  obtain ⟨mA, hns, _⟩ := (show ObjOk X.prog X.w H s.heap dd (.xd fs) from I.hok dd _ hd)
  obtain ⟨od, ho, _⟩ := lookIn_ns hns
  obtain ⟨vs, hv⟩ := hf
  have J : PySem.W.InstAt s.heap a oe D (some od) := ⟨hget, hz.1, by unfold PySem.W.notCls; rw [hv] <;> rfl, by rw [hz.2]; exact ho⟩
  have hcl : (PySem.W.clsIn X.K D).isSome = true := by
    have z := C.hd
    unfold PySem.W.hasDictIn at z
    cases hc : PySem.W.clsIn X.K D with
    | none => rw [hc] at z; cases z
    | some _ => rfl
  exact PySem.W.kia_one (PySem.W.kitx_exc hcl C.hg C.hk C.hs C.ha C.hn C.ht C.hm) I.kIn J e (fun z => nomatch z) fun tk => ⟨.bl b, H, I.kept (t' := tk) fun _ _ z => z, rfl, q⟩
section
variable {X : Cx} {CX : CXT} {k : Nat} {f C : Addr} {fd : FuncData} {ps : List Str} {sp : Sp} {E : L2.St → XK} {m : Str} {pos apos : Pos} {e o : Expr} {es : List Expr} {ta : TE} {t : TA}
/-- o.m(e, ..), what it raises wished for at the caller's slots -/
def tMethS (C : Addr) (m : Str) (sp : Sp) (E : L2.St → XK) (to : TE) (ta : TA) : TE := fun σ H Q => to σ H fun x H1 => ∃ a dx fs, x = .ref a ∧ H1 a = some (.ins C dx fs) ∧ fs.lookup m = none ∧ ta σ H1 fun vs H2 => sp (.ref a :: vs) H2 Q (E σ)
theorem pe_methS {pl : Sem Bool} (he : PE X o ta) (c : Cls X.K C) (hm : Meth X.K C m f) (F : FnOk X.prog X.w X.K X.mg X.base CX k f fd ps sp) (hr : Room k X.A) (hb : Binds X.K fd ps []) (hx : ∀ σ, PassesAt CX X σ (E σ)) (ha : PA X (e :: es) t)
    (hst : starEach (e :: es) X.env = (false, eval e X.env) :: starEach es X.env := by rfl) (hpl : (backTo pos (starEach es X.env)).any (·.1) = false := by rfl)
    (ht : eval (.Call (.Attribute o m apos) (e :: es) [] pos) X.env = (do
      let ov ← eval o X.env
      standAt apos.atName
      let (f, first) ← holding [ov] (getMethod ov m pl)
      callWith pos f first (backTo pos (starEach (e :: es) X.env)) (backToKw pos (keywordEach [] X.env))) := by rfl) :
    PE X (.Call (.Attribute o m apos) (e :: es) [] pos) (tMethS C m sp E ta t) := by
  refine ⟨fun pins s σ H Q I h => ?_⟩
  refine PySem.W.methodCall_KW (pl := pl) (thn (he.run pins s σ H _ I h) fun u s1 hu => ?_) ht
  obtain ⟨x, H1, I1, rx, a, dx, fs, ex, ea, l, q⟩ := hu
  subst ex
  obtain rfl : u = Value.ref a := rx
  refine getmeth_ok I1 ea c hm l ?_
  refine PySem.W.callWith_K (first := [.ref a]) (h₀ := X.base) I.ok.mod.kin hm.kp (thn (ha.run pos pins s1 σ H1 _ I1 q) fun us s2 hv => ?_) hst hpl
  obtain ⟨vs, H2, I2, r, q2⟩ := hv
  exact ⟨I2.kIn, run_fnS (us := .ref a :: us) (vs := .ref a :: vs) F hr hb (hx σ) I2 (.cons rfl r) q2⟩
end
end SupX
namespace K4
open PySem PySem.Spec PyProof.Rows L2 SX SupX
open C8 (Cal pe_c pss_cut)
/-- what an own error's __init__ leaves: its dict d, new, with these fields -/
def ErrDone (C x : Addr) (H : Hp) (fs : List (Str × V)) (Q : VK) : Prop := ∀ (d : Addr) (H2 : Hp), H2 x = some (exo x C (some d)) → H2 d = some (exd d fs) → H d = none → d ≠ x → (∀ b o, b ≠ x → H b = some o → H2 b = some o) → Q .non H2
def spErr1 (C : Addr) (nm : Str) : Sp := fun vs H Q _ => ∃ (x : Addr) (i : Int), vs = [.ref x, .int i] ∧ H x = some (exo x C none) ∧ i.natAbs.log2 < 1920 ∧ ErrDone C x H [(nm, .int i)] Q
def spErr2 (C : Addr) (n1 n2 : Str) : Sp := fun vs H Q _ => ∃ (x : Addr) (i j : Int), vs = [.ref x, .int i, .int j] ∧ H x = some (exo x C none) ∧ i.natAbs.log2 < 1920 ∧ j.natAbs.log2 < 1920 ∧ ErrDone C x H [(n2, .int j), (n1, .int i)] Q
/-- an own error's class, ready to be raised -/
structure ErrAt (P : Program) (w : World) (K : PySem.W.Frag) (mg : Str → Option Value) (base : Heap) (x : Str) (C : Addr) (ps : List Str) (sp : Sp) : Prop where
  ex : OexC K C
  gm : mg x = some (.ref C)
  fn : ∃ (fI : Addr) (fd : FuncData), PySem.W.findIn K (.ref C) "__init__" = some (some (.ref fI)) ∧ PySem.W.typeIn K (.ref fI) = some (.type "function") ∧ FnOk P w K mg base CX0 1 fI fd ps sp ∧ Binds K fd ps []
theorem cat_le {a b : Str} {m n : Nat} (ha : a.length ≤ m) (hb : b.length ≤ n) : (a ++ b).length ≤ m + n := by
  rw [PySem.Str.length_append]
  omega
theorem itext_len {i : Int} (h : i.natAbs.log2 < 1920) : (Str.ofString (toString i)).length ≤ 1921 := by
  have e := PySem.int_text_length_le (k := 1920) (by decide) h
  rw [PySem.ofString_length]
  omega
section
variable {X : Cx} {x : Str} {C : Addr} {ps : List Str} {sp : Sp} {p pos : Pos} {e : Expr} {es : List Expr} {ta : TA}
theorem pmk_err (Z : ErrAt X.prog X.w X.K X.mg X.base x C ps sp) (hr : Room 2 X.A) (hg : Gl X x) (ha : PA X (e :: es) ta)
    (hdb : (x == ("__debug__" : Str)) = false := by decide) (he : starEach (e :: es) X.env = (false, eval e X.env) :: starEach es X.env := by rfl) (hpl : (backTo pos (starEach es X.env)).any (·.1) = false := by rfl) :
    PMk X (.Call (.Name x p) (e :: es) [] pos) (tMkO C sp [] ta) := by
  obtain ⟨fI, fd, iC, tI, F, b⟩ := Z.fn
  exact pmk_oex Z.ex iC tI F hr b .nil pass0 hg Z.gm ha hdb he hpl
end
section
variable {P : Program} {w : World} {K : PySem.W.Frag} {mg : Str → Option Value} {base : Heap}
theorem nsPl : NdefX.NScope ["self", "place", "__class__"] ["self", "place"] ["__class__"] (defScope sNoPlaceInit) := NdefX.nscope_by (by decide +kernel)
theorem nsPa : NdefX.NScope ["self", "start", "stop", "__class__"] ["self", "start", "stop"] ["__class__"] (defScope sNoPartInit) := NdefX.nscope_by (by decide +kernel)
theorem ok_noplace {C f cc ca : Addr} {dV kV doc pm ct : Value} {an : Option Addr} (Z : SupAt P K mg C f cc ca (PySem.W.fnX "__init__" "NoPlace.__init__" (defArgs sNoPlaceInit) (defBody sNoPlaceInit) (defScope sNoPlaceInit) [("__class__", cc)] dV kV doc pm an (.ref ca) ct)) (hcd : PySem.W.codeIn K (.ref ca) "NoPlace.__init__" = true) (nf : PySem.W.findIn K (.ref C) "place" = some none) :
    FnOk P w K mg base CX0 1 f (PySem.W.fnX "__init__" "NoPlace.__init__" (defArgs sNoPlaceInit) (defBody sNoPlaceInit) (defScope sNoPlaceInit) [("__class__", cc)] dV kV doc pm an (.ref ca) ct) ["self", "place"] (spErr1 C "place") := by
  refine fn_sup Z hcd nsPl (by decide +kernel) (fun vs H Q E h => ?_) (fun env => ⟨rfl, rfl, rfl, rfl⟩) (fun X H x vs Q E xK xm xP xN xS h => ?_) (fun vs H Q E h => ?_)
  · obtain ⟨x, i, rfl, _⟩ := h
    rfl
  · subst xK
    obtain ⟨x', i, ev, hx, hi, q⟩ := h
    cases ev
    refine ⟨hx, _, _, pa_cons (pe_joined (PJ.cons pe_str (PJ.cons (pe_fmt (pe_var (i := 1) (by rw [xN]; rfl) (by rw [xS]; exact .inl rfl))) PJ.nil))) pa_nil, pss_one (ps_ost (pe_var (i := 0) (by rw [xN]; rfl) (by rw [xS]; exact .inl rfl)) (pe_var (i := 1) (by rw [xN]; rfl) (by rw [xS]; exact .inl rfl))), ?_⟩
    refine ⟨_, rfl, sz (by decide), _, rfl, .inr ⟨i, rfl, hi, _, rfl, sz (Nat.le_trans (cat_le (m := 18) (by decide +kernel) (itext_len hi)) (by decide)), ?_⟩⟩
    refine ⟨by show 1 ≤ 1000; decide, hx, _, rfl, _, rfl, x, C, rfl, Z.ex, nf, .inl ⟨hx, fun dx nd ne => ?_⟩⟩
    refine q dx _ upd_same ?_ nd ne (fun b o hb e => ?_)
    · rw [upd_ne ne, upd_same]
    · rw [upd_ne hb, upd_ne (ne_of_none e nd)]
      exact e
  · obtain ⟨x, i, rfl, _⟩ := h
    exact ⟨x, _, rfl⟩
theorem ok_nopart {C f cc ca : Addr} {dV kV doc pm ct : Value} {an : Option Addr} (Z : SupAt P K mg C f cc ca (PySem.W.fnX "__init__" "NoPart.__init__" (defArgs sNoPartInit) (defBody sNoPartInit) (defScope sNoPartInit) [("__class__", cc)] dV kV doc pm an (.ref ca) ct)) (hcd : PySem.W.codeIn K (.ref ca) "NoPart.__init__" = true) (nf1 : PySem.W.findIn K (.ref C) "start" = some none) (nf2 : PySem.W.findIn K (.ref C) "stop" = some none) :
    FnOk P w K mg base CX0 1 f (PySem.W.fnX "__init__" "NoPart.__init__" (defArgs sNoPartInit) (defBody sNoPartInit) (defScope sNoPartInit) [("__class__", cc)] dV kV doc pm an (.ref ca) ct) ["self", "start", "stop"] (spErr2 C "start" "stop") := by
  refine fn_sup Z hcd nsPa (by decide +kernel) (fun vs H Q E h => ?_) (fun env => ⟨rfl, rfl, rfl, rfl⟩) (fun X H x vs Q E xK xm xP xN xS h => ?_) (fun vs H Q E h => ?_)
  · obtain ⟨x, i, j, rfl, _⟩ := h
    rfl
  · subst xK
    obtain ⟨x', i, j, ev, hx, hi, hj, q⟩ := h
    cases ev
    refine ⟨hx, _, _, pa_cons (pe_joined (PJ.cons pe_str (PJ.cons (pe_fmt (pe_var (i := 1) (by rw [xN]; rfl) (by rw [xS]; exact .inl rfl))) (PJ.cons pe_str (PJ.cons (pe_fmt (pe_var (i := 2) (by rw [xN]; rfl) (by rw [xS]; exact .inl rfl))) PJ.nil))))) pa_nil,
      pss_cons (ps_ost (pe_var (i := 0) (by rw [xN]; rfl) (by rw [xS]; exact .inl rfl)) (pe_var (i := 1) (by rw [xN]; rfl) (by rw [xS]; exact .inl rfl))) (pss_one (ps_ost (pe_var (i := 0) (by rw [xN]; rfl) (by rw [xS]; exact .inl rfl)) (pe_var (i := 2) (by rw [xN]; rfl) (by rw [xS]; exact .inl rfl)))), ?_⟩
    have a1 : (Str.empty ++ ("there is no part from " : Str)).length ≤ 22 := by decide +kernel
    have a2 := cat_le a1 (itext_len hi)
    have a3 := cat_le a2 (show (" to " : Str).length ≤ 4 by decide +kernel)
    have a4 := cat_le a3 (itext_len hj)
    refine ⟨_, rfl, sz (Nat.le_trans a1 (by decide)), _, rfl, .inr ⟨i, rfl, hi, _, rfl, sz (Nat.le_trans a2 (by decide)), _, rfl, sz (Nat.le_trans a3 (by decide)), _, rfl, .inr ⟨j, rfl, hj, _, rfl, sz (Nat.le_trans a4 (by decide)), ?_⟩⟩⟩
    refine ⟨by show 1 ≤ 1000; decide, hx, _, rfl, _, rfl, x, C, rfl, Z.ex, nf1, .inl ⟨hx, fun dx nd ne => ?_⟩⟩
    refine ⟨_, rfl, _, rfl, x, C, rfl, Z.ex, nf2, .inr ⟨dx, _, upd_same, by rw [upd_ne ne, upd_same], by show 1 ≤ 900; decide, ?_⟩⟩
    refine q dx _ (by rw [upd_ne ne.symm, upd_same]) upd_same nd ne (fun b o hb e => ?_)
    rw [upd_ne (ne_of_none e nd), upd_ne hb, upd_ne (ne_of_none e nd)]
    exact e
  · obtain ⟨x, i, j, rfl, _⟩ := h
    exact ⟨x, _, rfl⟩
end
section
variable {X : Cx}
/-- {x}: None, a text or an int, as a text -/
def tFmtN (te : TE) : TE := fun σ H Q => te σ H fun x H1 => (x = .non ∧ Q (.str "None") H1) ∨ (∃ y : Str, x = .str y ∧ y.length ≤ sizeLine ∧ Q (.str y) H1) ∨ ∃ i : Int, x = .int i ∧ i.natAbs.log2 < 1920 ∧ Q (.str (toString i)) H1
theorem pe_fmtN {e : Expr} {te : TE} {pos : Pos} (he : PE X e te) : PE X (.FormattedValue e (-1) none pos) (tFmtN te) := by
  refine ⟨fun pins s σ H Q I h => ?_⟩
  refine wpAny_FormattedValue_plain (thn (he.run pins s σ H _ I h) fun v s1 hv => ?_)
  obtain ⟨x, H1, I1, r1, q⟩ := hv
  rcases q with ⟨rfl, q⟩ | ⟨y, rfl, hz, q⟩ | ⟨i, rfl, hz, q⟩
  · obtain rfl : v = Value.none := r1
    exact wpAny_formatField_none ⟨.str "None", H1, I1.tok _, ⟨_, rfl⟩, q⟩
  · obtain ⟨t, rfl⟩ := r1
    exact wpAny_formatField_str ⟨.str y, H1, I1, ⟨t, rfl⟩, q⟩ ⟨.str y, H1, I1.tok _, ⟨_, rfl⟩, q⟩ hz
  · obtain ⟨t, rfl⟩ := r1
    exact wpAny_formatField_int hz ⟨.str (toString i), H1, I1.tok _, ⟨_, rfl⟩, q⟩
end
section
variable {X : Cx} {CX : CXT} {k : Nat} {f C : Addr} {fd : FuncData} {ps : List Str} {sp : Sp} {E : L2.St → XK} {x : Str} {p pos : Pos} {e : Expr} {es : List Expr} {t : TA}
theorem run_makeS {pins : List (Addr × Obj)} {σ : L2.St} {H : Hp} {s : Shared} {Q : VK} {us ds : List Value} {vs dvs : List V} (M : Mk X.K C f) (F : FnOk X.prog X.w X.K X.mg X.base CX k f fd ps sp) (hr : Room (k + 1) X.A) (hb : Binds X.K fd ps ds) (hd : Vals dvs ds)
    (hx : PassesAt CX X σ (E σ)) (I : Inv X pins σ H s) (r : Vals vs us)
    (h : ∀ x dx, H x = none → H dx = none → dx ≠ x → sp (.ref x :: (vs ++ dvs)) (upd (upd H dx (.own x)) x (.ins C dx [])) (fun v H2 => v = .non ∧ Q (.ref x) H2) (E σ)) :
    wpAny (model X.prog X.w) X.A (call (.ref C) us) (EP X pins σ Q) X.xe s := by
  have hq := h (s.heap.objs.size + 1) s.heap.objs.size (I.hok.fresh (Nat.le_succ _)) (I.hok.fresh (Nat.le_refl _)) (Nat.ne_of_lt (Nat.lt_succ_self _))
  have I2 := Inv.made (C := C) I
  have r2 : Vals (V.ref (s.heap.objs.size + 1) :: (vs ++ dvs)) (Value.ref (s.heap.objs.size + 1) :: (us ++ ds)) := .cons rfl (r.append hd)
  have hl : (Value.ref (s.heap.objs.size + 1) :: us ++ ds).length = ps.length := by
    have e := r2.length
    rw [F.len _ _ _ _ hq] at e
    exact e.symm
  have go := F.run _ X.stack _ _ ⟨Value.ref (s.heap.objs.size + 1) :: us, []⟩ (Value.ref (s.heap.objs.size + 1) :: (us ++ ds)) _ _ (E σ) (hr.make C us []) (I2.env0.make C us []) (hb _ (Value.ref (s.heap.objs.size + 1) :: us) I2.kIn hl) r2 hq
  refine wpAny_call (make_map (f := f) I.kIn M.makes M.init (beq_iff_eq.mp M.fn) (codeAny_mono go fun r s' hq' => ?_))
  cases r with
  | error e => exact hx pins _ _ e s' I2 hq'
  | ok fl =>
    cases fl with
    | ret u =>
      obtain ⟨v, H', I3, rv, ev, q3⟩ := I2.after hq'
      subst ev
      exact ⟨rv, ⟨V.ref (s.heap.objs.size + 1), H', I3, rfl, q3⟩⟩
    | next => exact False.elim hq'
    | brk => exact False.elim hq'
    | cont => exact False.elim hq'
/-- C(e, ..), what its __init__ raises wished for at the caller's slots -/
def tMakeS (C : Addr) (sp : Sp) (E : L2.St → XK) (t : TA) : TE := fun σ H Q => t σ H fun vs H1 => ∀ x dx, H1 x = none → H1 dx = none → dx ≠ x → sp (.ref x :: (vs ++ [])) (upd (upd H1 dx (.own x)) x (.ins C dx [])) (fun v H2 => v = .non ∧ Q (.ref x) H2) (E σ)
theorem pe_makeS (M : Mk X.K C f) (F : FnOk X.prog X.w X.K X.mg X.base CX k f fd ps sp) (hr : Room (k + 1) X.A) (hg : Gl X x) (hm : X.mg x = some (.ref C)) (hb : Binds X.K fd ps []) (hx : ∀ σ, PassesAt CX X σ (E σ))
    (ha : PA X (e :: es) t) (hdb : (x == ("__debug__" : Str)) = false := by decide) (he : starEach (e :: es) X.env = (false, eval e X.env) :: starEach es X.env := by rfl) (hpl : (backTo pos (starEach es X.env)).any (·.1) = false := by rfl) :
    PE X (.Call (.Name x p) (e :: es) [] pos) (tMakeS C sp E t) := by
  refine ⟨fun pins s σ H Q I h => ?_⟩
  refine wpAny_Call_Name_kw (ld_glob I hg hm ?_ hdb)
  refine PySem.W.callWith_K (h₀ := X.base) I.ok.mod.kin M.kp (thn (ha.run pos pins s σ H _ I h) fun us s1 ⟨vs, H1, I1, r, q⟩ => ⟨I1.kIn, ?_⟩) he hpl
  exact run_makeS M F hr hb .nil (hx σ) I1 r q
end
section
variable {P : Program} {w : World} {K : PySem.W.Frag} {mg : Str → Option Value} {base : Heap}
def spBad (C : Addr) : Sp := fun vs H Q _ => ∃ (x : Addr) (num : V) (z : Str), vs = [.ref x, num, .str z] ∧ H x = some (exo x C none) ∧ (num = .non ∨ ∃ i : Int, num = .int i ∧ i.natAbs.log2 < 1920) ∧ z.length ≤ 100 ∧ ErrDone C x H [("reason", .str z), ("number", num)] Q
theorem nsBad : NdefX.NScope ["self", "number", "reason", "__class__"] ["self", "number", "reason"] ["__class__"] (defScope sBadRulesInit) := NdefX.nscope_by (by decide +kernel)
theorem ok_bad {C f cc ca : Addr} {dV kV doc pm ct : Value} {an : Option Addr} (Z : SupAt P K mg C f cc ca (PySem.W.fnX "__init__" "BadRules.__init__" (defArgs sBadRulesInit) (defBody sBadRulesInit) (defScope sBadRulesInit) [("__class__", cc)] dV kV doc pm an (.ref ca) ct)) (hcd : PySem.W.codeIn K (.ref ca) "BadRules.__init__" = true) (nf1 : PySem.W.findIn K (.ref C) "number" = some none) (nf2 : PySem.W.findIn K (.ref C) "reason" = some none) :
    FnOk P w K mg base CX0 1 f (PySem.W.fnX "__init__" "BadRules.__init__" (defArgs sBadRulesInit) (defBody sBadRulesInit) (defScope sBadRulesInit) [("__class__", cc)] dV kV doc pm an (.ref ca) ct) ["self", "number", "reason"] (spBad C) := by
  refine fn_sup Z hcd nsBad (by decide +kernel) (fun vs H Q E h => ?_) (fun env => ⟨rfl, rfl, rfl, rfl⟩) (fun X H x vs Q E xK xm xP xN xS h => ?_) (fun vs H Q E h => ?_)
  · obtain ⟨x, num, z, rfl, _⟩ := h
    rfl
  · subst xK
    obtain ⟨x', num, z, ev, hx, hn, hz, q⟩ := h
    cases ev
    refine ⟨hx, _, _, pa_cons (pe_joined (PJ.cons pe_str (PJ.cons (pe_fmtN (pe_var (i := 1) (by rw [xN]; rfl) (by rw [xS]; exact .inl rfl))) (PJ.cons pe_str (PJ.cons (pe_fmtN (pe_var (i := 2) (by rw [xN]; rfl) (by rw [xS]; exact .inl rfl))) PJ.nil))))) pa_nil,
      pss_cons (ps_ost (pe_var (i := 0) (by rw [xN]; rfl) (by rw [xS]; exact .inl rfl)) (pe_var (i := 1) (by rw [xN]; rfl) (by rw [xS]; exact .inl rfl))) (pss_one (ps_ost (pe_var (i := 0) (by rw [xN]; rfl) (by rw [xS]; exact .inl rfl)) (pe_var (i := 2) (by rw [xN]; rfl) (by rw [xS]; exact .inl rfl)))), ?_⟩
    have a1 : (Str.empty ++ ("rule " : Str)).length ≤ 5 := by decide +kernel
    have a3 : (" is wrong: " : Str).length ≤ 11 := by decide +kernel
    have aN : ("None" : Str).length ≤ 4 := by decide +kernel
    have fin : ∀ y : Str, y.length ≤ 1921 → (Str.empty ++ ("rule " : Str) ++ y).length ≤ sizeLine ∧ ((Str.empty ++ ("rule " : Str) ++ y) ++ (" is wrong: " : Str)).length ≤ sizeLine ∧ (((Str.empty ++ ("rule " : Str) ++ y) ++ (" is wrong: " : Str)) ++ z).length ≤ sizeLine := fun y hy => by
      have b2 := cat_le a1 hy
      have b3 := cat_le b2 a3
      have b4 := cat_le b3 hz
      exact ⟨sz (Nat.le_trans b2 (by decide)), sz (Nat.le_trans b3 (by decide)), sz (Nat.le_trans b4 (by decide))⟩
    have zl : z.length ≤ sizeLine := sz (by omega)
    have rest : [V.str (((Str.empty ++ ("rule " : Str)) ++ z))].length ≤ 1000 := by show 1 ≤ 1000; decide
    refine ⟨_, rfl, sz (Nat.le_trans a1 (by decide)), _, rfl, ?_⟩
    rcases hn with rfl | ⟨i, rfl, hi⟩
    · obtain ⟨f1, f2, f3⟩ := fin "None" (Nat.le_trans aN (by decide))
      refine .inl ⟨rfl, _, rfl, f1, _, rfl, f2, _, rfl, .inr (.inl ⟨z, rfl, zl, _, rfl, f3, ?_⟩)⟩
      refine ⟨by show 1 ≤ 1000; decide, hx, _, rfl, _, rfl, x, C, rfl, Z.ex, nf1, .inl ⟨hx, fun dx nd ne => ?_⟩⟩
      refine ⟨_, rfl, _, rfl, x, C, rfl, Z.ex, nf2, .inr ⟨dx, _, upd_same, by rw [upd_ne ne, upd_same], by show 1 ≤ 900; decide, ?_⟩⟩
      refine q dx _ (by rw [upd_ne ne.symm, upd_same]) upd_same nd ne (fun b o hb e => ?_)
      rw [upd_ne (ne_of_none e nd), upd_ne hb, upd_ne (ne_of_none e nd)]
      exact e
    · obtain ⟨f1, f2, f3⟩ := fin (toString i) (itext_len hi)
      refine .inr (.inr ⟨i, rfl, hi, _, rfl, f1, _, rfl, f2, _, rfl, .inr (.inl ⟨z, rfl, zl, _, rfl, f3, ?_⟩)⟩)
      refine ⟨by show 1 ≤ 1000; decide, hx, _, rfl, _, rfl, x, C, rfl, Z.ex, nf1, .inl ⟨hx, fun dx nd ne => ?_⟩⟩
      refine ⟨_, rfl, _, rfl, x, C, rfl, Z.ex, nf2, .inr ⟨dx, _, upd_same, by rw [upd_ne ne, upd_same], by show 1 ≤ 900; decide, ?_⟩⟩
      refine q dx _ (by rw [upd_ne ne.symm, upd_same]) upd_same nd ne (fun b o hb e => ?_)
      rw [upd_ne (ne_of_none e nd), upd_ne hb, upd_ne (ne_of_none e nd)]
      exact e
  · obtain ⟨x, num, z, rfl, _⟩ := h
    exact ⟨x, _, rfl⟩
end
structure NoWord (K : PySem.W.Frag) (d : Addr) : Prop where
  n1 : PySem.W.nsIn K d "letter" = some none
  n2 : PySem.W.nsIn K d "" = some none
section
variable {P : Program} {w : World} {K : PySem.W.Frag} {mg : Str → Option Value} {base : Heap}
/-- begins with a word, or does not -/
def HW (vals : List V) (b : Bool) : Prop := (vals = [] ∧ b = false) ∨ (∃ s rest, vals = .str s :: rest ∧ (s = "letter" ∨ s = "") ∧ b = false) ∨ ∃ (r : Rule) (rest : List V), vals = .str (wordOf r) :: rest ∧ b = true
def spHasWordW : Sp := fun vs H Q _ => ∃ (a : Addr) (vals : List V) (b : Bool), vs = [.ref a] ∧ RA H a vals ∧ HW vals b ∧ ∀ H', Same H H' → Q (.bl b) H'
theorem ok_has_wordW {f d : Addr} {es : Array DictEntry} {n : Nat} {fd : FuncData} (F : Fun K "has_word" "has_word" sHasWord f fd) (hm : mg "has_word" = some (.ref f)) (b : Binds K fd ["rule"] []) (T : Txt mg) (Z : Sizes K w mg d es n) (NW : NoWord K d) : Cal P w K mg base 1 "has_word" spHasWordW [] := by
  refine mkCal F hm b scHw (fun vs H Q E h => ?_) (fun cdv A outer s H vs Q E hr h => ?_)
  · obtain ⟨a, vals, b, rfl, _⟩ := h
    rfl
  obtain ⟨a, vals, b, rfl, hA, hb, q⟩ := h
  refine ⟨_, (pss_cons (ps_if (PW.pt (pw_or (pt_not (pt_val (pe_callB call_isiT (by rfl) T.isinstance (by decide +kernel) (pa_cons (pv 0) (pa_cons (pe_tup (pa_cons (pe_bltn (v := .ty "tuple") (by rfl) T.tuple (by decide +kernel) rfl) (pa_cons (pe_bltn (v := .ty "list") (by rfl) T.list (by decide +kernel) rfl) pa_nil))) pa_nil))))) (pw_or1 (pt_not (pt_truth (pv 0) (by intro _; rfl)))))) (pss_one (ps_ret pe_bl)) pss_nil)
    (pss_one (ps_ret (pe_and (pe_callB call_isi (by rfl) T.isinstance (by decide +kernel) (pa_cons (pe_ix ix_seq (pv 0) pe_int (fun _ _ => rfl)) (pa_cons (pe_bltn (v := .ty "str") (by rfl) T.str (by decide +kernel) rfl) pa_nil))) (pe_one (pe_cmpR (op_in_kd Z.D) (pe_ix ix_seq (pv 0) pe_int (fun _ _ => rfl)) (C8.pe_gc (by rfl) Z.hd) (by rfl))))))), ?_⟩
  refine ⟨_, rfl, by show 2 ≤ sizeLine; decide, fun p np => ?_⟩
  have s1 := same_new (o := .tup [.ty "tuple", .ty "list"]) np
  have hA1 := hA.same s1
  obtain ⟨t, ht, hk⟩ := tl_any (K := K) hA1
  refine ⟨_, p, _, t, _, true, rfl, upd_same, .cons (.ty _) (.cons (.ty _) .nil), ht, hk, true, rfl, ifF rfl ?_⟩
  refine ⟨_, rfl, _, hA1.tru, ?_⟩
  rcases hb with ⟨rfl, rfl⟩ | ⟨s, rest, rfl, hs, rfl⟩ | ⟨r, rest, rfl, rfl⟩
  · exact ifT rfl (q _ s1)
  · refine ifF rfl ?_
    refine ⟨_, rfl, hA1.ix 0 rfl rfl ⟨_, _, _, _, true, rfl, .ty _, .base (.str _), kit_ty (by decide +kernel), true, rfl, ifT rfl ?_⟩⟩
    rcases hs with rfl | rfl
    · exact ⟨_, rfl, hA1.ix 0 rfl rfl ⟨_, _, rfl, rfl, NW.n1, q _ s1⟩⟩
    · exact ⟨_, rfl, hA1.ix 0 rfl rfl ⟨_, _, rfl, rfl, NW.n2, q _ s1⟩⟩
  · refine ifF rfl ?_
    refine ⟨_, rfl, hA1.ix 0 rfl rfl ⟨_, _, _, _, true, rfl, .ty _, .base (.str _), kit_ty (by decide +kernel), true, rfl, ifT rfl ?_⟩⟩
    obtain ⟨t, et⟩ := Z.at_ r
    exact ⟨_, rfl, hA1.ix 0 rfl rfl ⟨_, _, rfl, rfl, et, q _ s1⟩⟩
def spAreToldW : Sp := fun vs H Q _ => ∃ l : List Nat, vs = [.str (S l)] ∧ l.length ≤ 1000 ∧ (64 < l.length ∨ ∃ c ∈ l, c ∉ SL) ∧ ∀ H', Same H H' → Q (.bl false) H'
theorem ok_are_toldW {f : Addr} {fd : FuncData} (F : Fun K "are_told" "are_told" sAreTold f fd) (hm : mg "are_told" = some (.ref f)) (b : Binds K fd ["letters"] []) (T : Txt mg) : Cal P w K mg base 1 "are_told" spAreToldW [] := by
  refine mkCal F hm b scAt (fun vs H Q E h => ?_) (fun cdv A outer s H vs Q E hr h => ?_)
  · obtain ⟨l, rfl, _⟩ := h
    rfl
  obtain ⟨l, rfl, hl, hin, q⟩ := h
  refine ⟨_, (pss_cons (ps_if (PW.pt (pw_or (pt_not (pt_val (pe_callB call_isi (by rfl) T.isinstance (by decide +kernel) (pa_cons (pv 0) (pa_cons (pe_bltn (v := .ty "str") (by rfl) T.str (by decide +kernel) rfl) pa_nil))))) (pw_or1 (pt_cmpR op_gt (pe_callB call_len_str (by rfl) T.len PySem.boot_len (pa_cons (pv 0) pa_nil)) (C8.pe_gc (by rfl) T.MOST_TOLD) (nomark _))))) (pss_one (ps_ret pe_bl)) pss_nil)
    (pss_one (ps_ret (pe_callB (cr_all rfl) (by rfl) T.all (by decide +kernel) (pa_cons (pe_lc (own := [("letter", 1)]) (g := gName 1) (tt := tYes) rfl scAt.nd (pi_str (pv 0)) (blkOk_by (N := ["letters", "letter"]) (sc := defScope sAreTold) (by decide +kernel)) (fun _ _ _ _ _ => (pg_name (i := 1) scAt.nd rfl (.inl rfl))) (fun _ _ _ _ _ => pts_nil) (fun _ _ _ _ _ => (pe_cmpR op_in_sign (pv 1) (C8.pe_gc (by rfl) T.LETTERS) (by rfl)))) pa_nil))))), ?_⟩
  refine ⟨_, rfl, _, _, _, _, true, rfl, .ty _, .base (.str _), kit_ty (by decide +kernel), true, rfl, ifF rfl ?_⟩
  refine ⟨_, rfl, S l, rfl, Sz (by omega), _, _, rfl, rfl, _, rfl, ?_⟩
  rw [S_len]
  refine ite2 (fun z => q H (Same.refl H)) (fun z => ?_)
  have z1 : ¬ 64 < l.length := fun h => z (decide_eq_true (by omega))
  obtain ⟨c, hc, hcn⟩ := hin.resolve_left z1
  refine ⟨_, rfl, S l, rfl, fun D nD => ?_⟩
  have esz : (S l).cps.size = l.length := S_len l
  refine ⟨fun i m H' => i + m = l.length ∧ Same H H' ∧ H' D = some (.lst (((l.take i).map fun c => decide (c ∈ SL)).map V.bl)), ⟨l.length, by omega, same_new nD, upd_same⟩, ?_⟩
  rintro i m H1 ⟨him, s1, hD⟩
  by_cases hi : i < l.length
  · refine .inr ⟨by rw [← esz] at hi; exact hi, fun H' => Same H H' ∧ H' D = some (.lst (((l.take (i + 1)).map fun c => decide (c ∈ SL)).map V.bl)), fun H' h => ⟨m - 1, by omega, by omega, h⟩, ?_⟩
    rintro x H' ⟨rfl, c, hc, rfl⟩
    have hc' : l[i]? = some c := by simpa using hc
    refine ⟨rfl, _, rfl, c, LTR, rfl, rfl, ?_⟩
    rw [LTR_SL]
    refine ⟨_, hD, by rw [List.length_map, List.length_map, List.length_take]; exact small1000 (by omega), fun a o ha => ?_, ?_⟩
    · rw [upd_ne (ne_of_none ha nD)]
      exact s1 _ _ ha
    · rw [upd_same, List.take_add_one, hc', List.map_append, List.map_append]
      rfl
  · have ei : i = l.length := by omega
    subst ei
    refine .inl ⟨by rw [← esz]; exact Nat.le_refl _, D, (l.map fun c => decide (c ∈ SL)), rfl, SqL.of (by rw [List.take_length] at hD; exact hD), ?_⟩
    have ef : (l.map fun c => decide (c ∈ SL)).all id = false := by
      rw [Bool.eq_false_iff]
      intro h
      rw [List.all_eq_true] at h
      have := h _ (List.mem_map_of_mem (f := fun c => decide (c ∈ SL)) hc)
      exact hcn (of_decide_eq_true this)
    rw [ef]
    exact q _ s1
end
/-- what follows the word in a rule of numbers; the numbers of rules among them -/
def usedOf : Rule → List Int → List Int
  | .join _ _, is => is.take 2
  | _, is => is.take 1
def inR (n : Nat) (x : Int) : Bool := decide (0 ≤ x ∧ x < (n : Int))
def big12 : Int := 1000000000000
def Late (ts : List (List Nat)) : Rule → List Int → Str → Prop
  | .join _ _, is, z => ∃ i j : Nat, is = [(i : Int), (j : Int)] ∧ big12 < ((tx ts i).length : Int) + ((tx ts j).length : Int) ∧ z = "large"
  | .power _ _, is, z => ∃ (i : Nat) (k : Int), is = [(i : Int), k] ∧ ((¬ (0 ≤ k ∧ k ≤ big12) ∧ z = "power") ∨ ((0 ≤ k ∧ k ≤ big12) ∧ big12 < ((tx ts i).length : Int) * k ∧ z = "large"))
  | .part _ _ _, is, z => ∃ (i : Nat) (a b : Int), is = [(i : Int), a, b] ∧ ¬ (0 ≤ a ∧ a ≤ b ∧ b ≤ ((tx ts i).length : Int)) ∧ z = "part"
  | _, _, _ => False
inductive Wrong (ts : List (List Nat)) : List V → Str → Prop
  | nil : Wrong ts [] "word"
  | word (s : Str) (rest : List V) (h : s = "letter" ∨ s = "") : Wrong ts (.str s :: rest) "word"
  | len (r : Rule) (rest : List V) (h : rest.length + 1 ≠ r.vals.length) : Wrong ts (.str (wordOf r) :: rest) "length"
  | told (l : List Nat) (h : l.length ≤ 1000) (h2 : 64 < l.length ∨ ∃ c ∈ l, c ∉ SL) : Wrong ts [.str "letters", .str (S l)] "letters"
  | rule (r : Rule) (is : List Int) (hl : isL r = false) (h : is.length + 1 = r.vals.length) (h2 : (usedOf r is).all (inR ts.length) = false) : Wrong ts (.str (wordOf r) :: is.map V.int) "rule"
  | late (r : Rule) (is : List Int) (z : Str) (hl : isL r = false) (h : is.length + 1 = r.vals.length) (h2 : (usedOf r is).all (inR ts.length) = true) (h3 : Late ts r is z) : Wrong ts (.str (wordOf r) :: is.map V.int) z
theorem Wrong.split {ts : List (List Nat)} {vals : List V} {z : Str} (h : Wrong ts vals z) : (∃ r is, isL r = false ∧ is.length + 1 = r.vals.length ∧ vals = .str (wordOf r) :: is.map V.int ∧ (((usedOf r is).all (inR ts.length) = false ∧ z = "rule") ∨ ((usedOf r is).all (inR ts.length) = true ∧ Late ts r is z))) ∨
    (vals = [] ∧ z = "word") ∨ (∃ (s : Str) (rest : List V), (s = "letter" ∨ s = "") ∧ vals = .str s :: rest ∧ z = "word") ∨ (∃ r rest, rest.length + 1 ≠ r.vals.length ∧ vals = .str (wordOf r) :: rest ∧ z = "length") ∨ ∃ l : List Nat, l.length ≤ 1000 ∧ (64 < l.length ∨ ∃ c ∈ l, c ∉ SL) ∧ vals = [.str "letters", .str (S l)] ∧ z = "letters" := by
  cases h with
  | nil => exact .inr (.inl ⟨rfl, rfl⟩)
  | word s rest h => exact .inr (.inr (.inl ⟨s, rest, h, rfl, rfl⟩))
  | len r rest h => exact .inr (.inr (.inr (.inl ⟨r, rest, h, rfl, rfl⟩)))
  | told l h h2 => exact .inr (.inr (.inr (.inr ⟨l, h, h2, rfl, rfl⟩)))
  | rule r is hl h h2 => exact .inl ⟨r, is, hl, h, rfl, .inl ⟨h2, rfl⟩⟩
  | late r is _ hl h h2 h3 => exact .inl ⟨r, is, hl, h, rfl, .inr ⟨h2, h3⟩⟩
section
variable {P : Program} {w : World} {K : PySem.W.Frag} {mg : Str → Option Value} {base : Heap}
def spFaultW : Sp := fun vs H Q _ => ∃ (a L : Addr) (ts : List (List Nat)) (vals : List V) (z : Str), vs = [.ref a, .ref L] ∧ RA H a vals ∧ H L = some (.lst (ts.map lenV)) ∧ Wrong ts vals z ∧ (∀ l ∈ ts, l.length ≤ 1000000000000) ∧ ts.length ≤ 1000 ∧ ∀ H', Same H H' → Q (.str z) H'
theorem ok_fault_ofW {f d : Addr} {es : Array DictEntry} {n : Nat} {fd : FuncData} (F : Fun K "fault_of" "fault_of" sFaultOf f fd) (hm : mg "fault_of" = some (.ref f)) (b : Binds K fd ["rule", "lengths"] []) (T : Txt mg) (Z : Sizes K w mg d es n)
    (GHwW : Cal P w K mg base 1 "has_word" spHasWordW []) (GAtW : Cal P w K mg base 1 "are_told" spAreToldW []) (GIw : Cal P w K mg base 1 "is_whole" spIsWhole []) (GIp : Cal P w K mg base 1 "is_part" spIsPart []) (GLm : Cal P w K mg base 1 "length_made" spLengthMade []) : Cal P w K mg base 2 "fault_of" spFaultW [] := by
  refine mkCal F hm b scFo (fun vs H Q E h => ?_) (fun cdv A outer s H vs Q E hr h => ?_)
  · obtain ⟨a, L, ts, vals, z, rfl, _⟩ := h
    rfl
  obtain ⟨a, L, ts, vals, z, rfl, hA, hL, hW, hle, h1000, q⟩ := h
  refine ⟨_, (pss_cons (ps_if (pt_not (pt_val (pe_c GHwW hr (by decide) (by rfl) (pa_cons (pv 0) pa_nil)))) (pss_one (ps_ret pe_str)) pss_nil)
    (pss_cons (ps_set (i := 2) scFo.nd rfl (.inl rfl) (pe_ix ix_seq (pv 0) pe_int (fun _ _ => rfl)))
    (pss_cons (ps_if (pt_cmpR op_ne (pe_callB call_len_seq (by rfl) T.len PySem.boot_len (pa_cons (pv 0) pa_nil)) (pe_ix ix_kdict (C8.pe_gc (by rfl) Z.hd) (pv 2) (fun _ _ => rfl)) (nomark _)) (pss_one (ps_ret pe_str)) pss_nil)
    (pss_cons (ps_if (pt_cmpR op_eq (pv 2) pe_str (nomark _)) (pss_one (ps_ret (pe_ifExp (pt_val (pe_c GAtW hr (by decide) (by rfl) (pa_cons (pe_ix ix_seq (pv 0) pe_int (fun _ _ => rfl)) pa_nil))) pe_non pe_str))) pss_nil)
    (pss_cut (ps_set (i := 3) scFo.nd rfl (.inl rfl) (pe_ifExp (pt_cmpR op_eq (pv 2) pe_str (nomark _)) (pe_slice (SlR.or sl_list sl_tupA) (pv 0) (po_some pe_int) (po_some pe_int)) (pe_slice (SlR.or sl_list sl_tupA) (pv 0) (po_some pe_int) (po_some pe_int))))
    (pss_cut (ps_if (pt_not (pt_val (pe_callB (cr_all rfl) (by rfl) T.all (by decide +kernel) (pa_cons (pe_lc (own := [("number", 4)]) (g := gName 4) (te := tAndV (tCall spIsWhole [] C8.E0 (tCons (tVar 4) tNil)) (tChain (rI0 fun i j => .bl (decide (i ≤ j))) (rI0 fun i j => .bl (decide (i < j))) (tC (.int 0)) (tVar 4) (tCB (rLen K) (tCons (tVar 1) tNil)))) (tt := tYes) rfl scFo.nd (PI.or (pi_list (pv 3)) (pi_tup (pv 3))) (blkOk_by (N := ["rule", "lengths", "word", "used", "number"]) (sc := defScope sFaultOf) (by decide +kernel)) (fun _ _ _ _ _ => (pg_name (i := 4) scFo.nd rfl (.inl rfl))) (fun _ _ _ _ _ => pts_nil) (fun _ _ _ _ _ => (pe_and (pe_c GIw hr (by decide) (by rfl) (pa_cons (pv 4) pa_nil)) (pe_one (pe_chain op_le op_lt pe_int (pv 4) (pe_callB call_len_seq (by rfl) T.len PySem.boot_len (pa_cons (pv 1) pa_nil))))))) pa_nil)))) (pss_one (ps_ret pe_str)) pss_nil)
    (pss_cut (ps_if (pt_not (pt_val (pe_callB (cr_all rfl) (by rfl) T.all (by decide +kernel) (pa_cons (pe_lc (own := [("number", 4)]) (g := gName 4) (tt := tYes) rfl scFo.nd (PI.or (pi_list (pe_slice (SlR.or sl_list sl_tupA) (pv 0) (po_some pe_int) po_none)) (pi_tup (pe_slice (SlR.or sl_list sl_tupA) (pv 0) (po_some pe_int) po_none))) (blkOk_by (N := ["rule", "lengths", "word", "used", "number"]) (sc := defScope sFaultOf) (by decide +kernel)) (fun _ _ _ _ _ => (pg_name (i := 4) scFo.nd rfl (.inl rfl))) (fun _ _ _ _ _ => pts_nil) (fun _ _ _ _ _ => (pe_c GIw hr (by decide) (by rfl) (pa_cons (pv 4) pa_nil)))) pa_nil)))) (pss_one (ps_ret (pv 2))) pss_nil)
    (pss_cons (ps_if (PW.pt (pw_and (pt_cmpR op_eq (pv 2) pe_str (nomark _)) (pw_and1 (pt_not (pt_chain op_le op_le pe_int (pe_ix ix_seq (pv 0) pe_int (fun _ _ => rfl)) (C8.pe_gc (by rfl) T.MOST_TIMES)))))) (pss_one (ps_ret pe_str)) pss_nil)
    (pss_cons (ps_if (PW.pt (pw_and (pt_cmpR op_eq (pv 2) pe_str (nomark _)) (pw_and1 (pt_not (pt_val (pe_c GIp hr (by decide) (by rfl) (pa_cons (pe_ix ix_seq (pv 0) pe_int (fun _ _ => rfl)) (pa_cons (pe_ix ix_seq (pv 0) pe_int (fun _ _ => rfl)) (pa_cons (pe_ix ix_list (pv 1) (pe_ix ix_seq (pv 0) pe_int (fun _ _ => rfl)) (fun _ _ => rfl)) pa_nil))))))))) (pss_one (ps_ret pe_str)) pss_nil)
    (pss_one (ps_ret (pe_ifExp (pt_cmpR op_gt (pe_c GLm hr (by decide) (by rfl) (pa_cons (pv 0) (pa_cons (pv 1) pa_nil))) (C8.pe_gc (by rfl) T.MOST_LETTERS) (nomark _)) pe_str pe_non)))))))))))), ?_⟩
  have ell : (ts.map lenV).length = ts.length := List.length_map _
  rcases hW.split with ⟨r, is, hl, h, rfl, hz⟩ | ⟨rfl, rfl⟩ | ⟨s, rest, h, rfl, rfl⟩ | ⟨r, rest, h, rfl, rfl⟩ | ⟨l, h, h2, rfl, rfl⟩
  rotate_left
  · exact ⟨_, rfl, a, _, false, rfl, hA, .inl ⟨rfl, rfl⟩, fun H1 s1 => ⟨false, rfl, ifT rfl (q _ s1)⟩⟩
  · exact ⟨_, rfl, a, _, false, rfl, hA, .inr (.inl ⟨s, rest, rfl, h, rfl⟩), fun H1 s1 => ⟨false, rfl, ifT rfl (q _ s1)⟩⟩
  · refine ⟨_, rfl, a, _, true, rfl, hA, .inr (.inr ⟨r, rest, rfl, rfl⟩), fun H1 s1 => ⟨true, rfl, ifF rfl ?_⟩⟩
    refine ⟨_, rfl, (hA.same s1).ix 0 rfl rfl ?_⟩
    obtain ⟨t, et⟩ := Z.at_ r
    refine ⟨_, rfl, a, _, rfl, (hA.same s1).sq, _, rfl, d, wordOf r, .int (r.vals.length : Int), rfl, rfl, ⟨es, n, _, Z.D.at_, Z.D.lit, et, ⟨t, rfl⟩⟩, rfl, _, rfl, ifT ?_ (q _ s1)⟩
    have h' : ¬ ((((V.str (wordOf r) :: rest).length : Nat) : Int)) = ((r.vals.length : Nat) : Int) := fun e => h (Int.ofNat.inj e)
    rw [decide_eq_false (fun e => h' (V.int.inj e))]
    rfl
  · refine ⟨_, rfl, a, _, true, rfl, hA, .inr (.inr ⟨.letters l, [.str (S l)], rfl, rfl⟩), fun H1 s1 => ⟨true, rfl, ifF rfl ?_⟩⟩
    refine ⟨_, rfl, (hA.same s1).ix 0 rfl rfl ?_⟩
    obtain ⟨t, et⟩ := Z.at_ (.letters l)
    refine ⟨_, rfl, a, _, rfl, (hA.same s1).sq, _, rfl, d, "letters", .int 2, rfl, rfl, ⟨es, n, _, Z.D.at_, Z.D.lit, et, ⟨t, rfl⟩⟩, rfl, _, rfl, ifF (by simp) ?_⟩
    refine ⟨_, rfl, rfl, _, rfl, ifT (decide_eq_true rfl) ?_⟩
    exact ⟨_, rfl, (hA.same s1).ix 1 rfl rfl ⟨l, rfl, h, h2, fun H2 s2 => ⟨false, rfl, ifF rfl (q _ (s1.trans s2))⟩⟩⟩
  -- a rule of numbers
  refine ⟨_, rfl, a, _, true, rfl, hA, .inr (.inr ⟨r, is.map V.int, rfl, rfl⟩), fun H1 s1 => ⟨true, rfl, ifF rfl ?_⟩⟩
  refine ⟨_, rfl, (hA.same s1).ix 0 rfl rfl ?_⟩
  obtain ⟨t, et⟩ := Z.at_ r
  refine ⟨_, rfl, a, _, rfl, (hA.same s1).sq, _, rfl, d, wordOf r, .int (r.vals.length : Int), rfl, rfl, ⟨es, n, _, Z.D.at_, Z.D.lit, et, ⟨t, rfl⟩⟩, rfl, _, rfl, ifF ?_ ?_⟩
  · have h' : ((((V.str (wordOf r) :: is.map V.int).length : Nat) : Int)) = ((r.vals.length : Nat) : Int) := by rw [← h, List.length_cons, List.length_map]
    rw [decide_eq_true (congrArg V.int h')]
    rfl
  have hwl : wordOf r ≠ ("letters" : Str) := by
    cases r with
    | letters z => cases hl
    | join i j => exact nJL
    | power i k => exact nPL
    | part i x y => exact nAL
    | back i => exact nBL
  refine ⟨_, rfl, rfl, _, rfl, ifF (wordF hwl) ?_⟩
  refine ⟨fun σ H' => ∃ (U : Addr), σ = [some (.ref a), some (.ref L), some (.str (wordOf r)), some (.ref U), none] ∧ Same H H' ∧ RA H' U ((usedOf r is).map V.int), ?_, ?_⟩
  · cases r with
    | letters z => cases hl
    | join i j =>
      match is, h with
      | [i, j], _ =>
        refine ⟨_, rfl, rfl, _, rfl, ifT (wordT rfl) ?_⟩
        exact ⟨_, rfl, 1, rfl, 3, rfl, (hA.same s1).slice (by show ¬ (HT.sIx 3 0 (some 1) = 0 ∧ HT.sIx 3 3 (some 3) = 3); decide) fun p H2 np s2 hp => ⟨p, rfl, s1.trans s2, hp⟩⟩
    | power i k =>
      match is, h with
      | [i, j], _ =>
        refine ⟨_, rfl, rfl, _, rfl, ifF (wordF nPJ) ?_⟩
        exact ⟨_, rfl, 1, rfl, 2, rfl, (hA.same s1).slice (by show ¬ (HT.sIx 3 0 (some 1) = 0 ∧ HT.sIx 3 3 (some 2) = 3); decide) fun p H2 np s2 hp => ⟨p, rfl, s1.trans s2, hp⟩⟩
    | part i x y =>
      match is, h with
      | [i, j, k], _ =>
        refine ⟨_, rfl, rfl, _, rfl, ifF (wordF nAJ) ?_⟩
        exact ⟨_, rfl, 1, rfl, 2, rfl, (hA.same s1).slice (by show ¬ (HT.sIx 4 0 (some 1) = 0 ∧ HT.sIx 4 4 (some 2) = 4); decide) fun p H2 np s2 hp => ⟨p, rfl, s1.trans s2, hp⟩⟩
    | back i =>
      match is, h with
      | [i], _ =>
        refine ⟨_, rfl, rfl, _, rfl, ifF (wordF nBJ) ?_⟩
        exact ⟨_, rfl, 1, rfl, 2, rfl, (hA.same s1).slice (by show ¬ (HT.sIx 2 0 (some 1) = 0 ∧ HT.sIx 2 2 (some 2) = 2); decide) fun p H2 np s2 hp => ⟨p, rfl, s1.trans s2, hp⟩⟩
  rintro σ H2 ⟨U, rfl, s2, hU⟩
  have il : is.length ≤ 4 := by have := r.vals_len; omega
  have ul : (usedOf r is).length ≤ 4 := by
    have h1 : ∀ k, (is.take k).length ≤ 4 := fun k => by rw [List.length_take]; omega
    cases r <;> exact h1 _
  generalize hus : usedOf r is = us at hU hz ul
  have push : ∀ (H2 : Hp) (D : Addr) (bs : List Bool) (H3 : Hp), bs.length ≤ 100 → H2 D = none → Same H2 H3 → H3 D = some (.lst (bs.map V.bl)) → ∀ (c : Bool) (y : V), y = .bl c → ∃ acc, H3 D = some (.lst acc) ∧ acc.length < sizeLine ∧ (Same H2 (upd H3 D (.lst (acc ++ [y]))) ∧ (upd H3 D (.lst (acc ++ [y]))) D = some (.lst ((bs ++ [c]).map V.bl))) := by
    intro H2 D bs H3 hi nD s3 hD c y hy
    refine ⟨_, hD, by rw [List.length_map]; exact small1000 (by omega), fun c' o hc => ?_, by rw [upd_same, hy, List.map_append]; rfl⟩
    rw [upd_ne (ne_of_none hc nD)]
    exact s3 _ _ hc
  refine ⟨fun σ H' => σ = [some (.ref a), some (.ref L), some (.str (wordOf r)), some (.ref U), none] ∧ Same H H' ∧ us.all (inR ts.length) = true ∧ Late ts r is z, ?_, ?_⟩
  · have turn : ∀ (D : Addr) (i : Nat) (x : V) (H3 : Hp), H2 D = none → (us.map V.int)[i]? = some x → Same H2 H3 → H3 D = some (.lst ((us.take i).map fun y => V.bl (inR ts.length y))) → ∃ m : Int, x = .int m ∧ i ≤ 100 ∧ H3 L = some (.lst (ts.map lenV)) ∧ ((us.take (i + 1)).map fun y => V.bl (inR ts.length y)) = (us.take i).map (fun y => V.bl (inR ts.length y)) ++ [V.bl (inR ts.length m)] := by
      intro D i x H3 nD hi s3 hD
      have hi2 : i < us.length := by
        have := (List.getElem?_eq_some_iff.mp hi).1
        rwa [List.length_map] at this
      rw [List.getElem?_map, List.getElem?_eq_getElem hi2] at hi
      exact ⟨us[i], (Option.some.inj hi).symm, by omega, s3 _ _ (s2 _ _ hL), by rw [List.take_add_one, List.getElem?_eq_getElem hi2, List.map_append]; rfl⟩
    have put : ∀ (D : Addr) (i : Nat) (m : Int) (H3 : Hp) (c : Bool), i ≤ 100 → c = inR ts.length m → H2 D = none → Same H2 H3 → H3 D = some (.lst ((us.take i).map fun y => V.bl (inR ts.length y))) → ((us.take (i + 1)).map fun y => V.bl (inR ts.length y)) = (us.take i).map (fun y => V.bl (inR ts.length y)) ++ [V.bl (inR ts.length m)] →
        ∃ acc, H3 D = some (.lst acc) ∧ acc.length < sizeLine ∧ (Same H2 (upd H3 D (.lst (acc ++ [.bl c]))) ∧ (upd H3 D (.lst (acc ++ [.bl c]))) D = some (.lst ((us.take (i + 1)).map fun y => V.bl (inR ts.length y)))) := by
      intro D i m H3 c hi ec nD s3 hD et
      refine ⟨_, hD, by rw [List.length_map, List.length_take]; exact small1000 (by omega), fun c' o hc => ?_, by rw [upd_same, et, ec]⟩
      rw [upd_ne (ne_of_none hc nD)]
      exact s3 _ _ hc
    have fin : ∀ (D : Addr) (H3 : Hp), Same H2 H3 → H3 D = some (.lst ((us.take us.length).map fun y => V.bl (inR ts.length y))) → H3 D = some (.lst ((us.map (inR ts.length)).map V.bl)) ∧ (us.map (inR ts.length)).all id = us.all (inR ts.length) := fun D H3 s3 hD => by
      rw [List.take_length] at hD
      refine ⟨by rw [hD, List.map_map]; rfl, by rw [List.all_map]; rfl⟩
    rcases hU with hU | hU
    · refine .inr ⟨_, rfl, U, rfl, ⟨_, SqT.of hU⟩, fun D nD => lc_tup (K := K) (a := U) (xs := us.map V.int) (fun i H' => Same H2 H' ∧ H' D = some (.lst ((us.take i).map fun y => V.bl (inR ts.length y)))) ⟨same_new nD, upd_same⟩ (fun i H' _ h => SqT.of (h.1 _ _ hU)) ?_ ?_⟩
      · rintro i x H3 hi ⟨s3, hD⟩
        obtain ⟨m, rfl, hi100, hL3, et⟩ := turn D i x H3 nD hi s3 hD
        by_cases h0 : (0 : Int) ≤ m
        · refine ⟨rfl, _, rfl, m, rfl, true, rfl, ifT rfl ⟨_, rfl, _, _, rfl, rfl, _, rfl, ifT (decide_eq_true h0) ⟨_, rfl, L, _, rfl, .inl (SqL.of hL3), _, _, rfl, rfl, ?_⟩⟩⟩
          refine put D i m H3 _ hi100 ?_ nD s3 hD et
          rw [ell]
          exact decide_eq_decide.mpr ⟨fun h => ⟨h0, h⟩, fun h => h.2⟩
        · refine ⟨rfl, _, rfl, m, rfl, true, rfl, ifT rfl ⟨_, rfl, _, _, rfl, rfl, _, rfl, ifF (decide_eq_false h0) ?_⟩⟩
          exact put D i m H3 false hi100 (decide_eq_false fun h => h0 h.1).symm nD s3 hD et
      · rintro H3 ⟨s3, hD⟩
        rw [List.length_map] at hD
        obtain ⟨hD, ea⟩ := fin D H3 s3 hD
        refine ⟨D, _, rfl, SqL.of hD, _, rfl, ?_⟩
        rw [ea]
        rcases hz with ⟨e, rfl⟩ | ⟨e, hz⟩
        · exact ifT (by rw [e]; rfl) (q _ (s2.trans s3))
        · exact ifF (by rw [e]; rfl) ⟨rfl, s2.trans s3, e, hz⟩
    · refine .inl ⟨_, rfl, U, rfl, ⟨_, SqL.of hU⟩, fun D nD => lc_list (K := K) (a := U) (xs := us.map V.int) (fun i H' => Same H2 H' ∧ H' D = some (.lst ((us.take i).map fun y => V.bl (inR ts.length y)))) ⟨same_new nD, upd_same⟩ (fun i H' _ h => SqL.of (h.1 _ _ hU)) ?_ ?_⟩
      · rintro i x H3 hi ⟨s3, hD⟩
        obtain ⟨m, rfl, hi100, hL3, et⟩ := turn D i x H3 nD hi s3 hD
        by_cases h0 : (0 : Int) ≤ m
        · refine ⟨rfl, _, rfl, m, rfl, true, rfl, ifT rfl ⟨_, rfl, _, _, rfl, rfl, _, rfl, ifT (decide_eq_true h0) ⟨_, rfl, L, _, rfl, .inl (SqL.of hL3), _, _, rfl, rfl, ?_⟩⟩⟩
          refine put D i m H3 _ hi100 ?_ nD s3 hD et
          rw [ell]
          exact decide_eq_decide.mpr ⟨fun h => ⟨h0, h⟩, fun h => h.2⟩
        · refine ⟨rfl, _, rfl, m, rfl, true, rfl, ifT rfl ⟨_, rfl, _, _, rfl, rfl, _, rfl, ifF (decide_eq_false h0) ?_⟩⟩
          exact put D i m H3 false hi100 (decide_eq_false fun h => h0 h.1).symm nD s3 hD et
      · rintro H3 ⟨s3, hD⟩
        rw [List.length_map] at hD
        obtain ⟨hD, ea⟩ := fin D H3 s3 hD
        refine ⟨D, _, rfl, SqL.of hD, _, rfl, ?_⟩
        rw [ea]
        rcases hz with ⟨e, rfl⟩ | ⟨e, hz⟩
        · exact ifT (by rw [e]; rfl) (q _ (s2.trans s3))
        · exact ifF (by rw [e]; rfl) ⟨rfl, s2.trans s3, e, hz⟩
  rintro σ H3 ⟨rfl, s3, hall, hz⟩
  have h2 : 2 ≤ (V.str (wordOf r) :: is.map V.int).length := by
    rw [List.length_cons, List.length_map, h]
    cases r <;> simp [Rule.vals]
  have h5 : (V.str (wordOf r) :: is.map V.int).length ≤ 4 := by
    rw [List.length_cons, List.length_map, h]
    exact r.vals_len
  have hrest : ∀ x ∈ (V.str (wordOf r) :: is.map V.int).drop 2, ∃ m : Int, x = .int m := by
    intro x hx
    have hx2 : x ∈ is.map V.int := List.mem_of_mem_drop (i := 1) hx
    obtain ⟨m, _, e⟩ := List.mem_map.mp hx2
    exact ⟨m, e.symm⟩
  generalize hv : V.str (wordOf r) :: is.map V.int = vals at hA h2 h5 hrest
  refine ⟨fun σ H' => σ = [some (.ref a), some (.ref L), some (.str (wordOf r)), some (.ref U), none] ∧ Same H H', ?_, ?_⟩
  · have nw : ¬ (HT.sIx vals.length 0 (some 2) = 0 ∧ HT.sIx vals.length vals.length none = vals.length) := by
      rw [show (some (2 : Int)) = some ((2 : Nat) : Int) from rfl, HT.sIx_nat, Nat.min_eq_left h2]
      omega
    have cl : (cutV vals (some 2) none).length ≤ 4 := by
      unfold cutV
      rw [List.length_take, List.length_drop]
      omega
    have push : ∀ (H2 : Hp) (D : Addr) (i : Nat) (H3 : Hp), i ≤ 100 → H2 D = none → Same H2 H3 → H3 D = some (.lst (trues i)) → ∀ y : V, y = .bl true → ∃ acc, H3 D = some (.lst acc) ∧ acc.length < sizeLine ∧ (Same H2 (upd H3 D (.lst (acc ++ [y]))) ∧ (upd H3 D (.lst (acc ++ [y]))) D = some (.lst (trues (i + 1)))) := by
      intro H2 D i H3 hi nD s3 hD y hy
      refine ⟨_, hD, by rw [trues_len]; exact small1000 (by omega), fun c o hc => ?_, by rw [upd_same, hy, trues_add]⟩
      rw [upd_ne (ne_of_none hc nD)]
      exact s3 _ _ hc
    rcases hA.same s3 with hA3 | hA3
    · refine .inr ⟨_, rfl, 2, rfl, .inr ⟨a, _, rfl, SqT.of hA3, fun z => absurd z nw, fun _ p np => ?_⟩⟩
      have s4 := same_new (o := .tup (cutV vals (some 2) none)) np
      refine ⟨p, rfl, ⟨_, SqT.of upd_same⟩, fun D nD => lc_tup (K := K) (a := p) (xs := cutV vals (some 2) none) (fun i H' => Same (upd H3 p (.tup (cutV vals (some 2) none))) H' ∧ H' D = some (.lst (trues i))) ⟨same_new nD, upd_same⟩ (fun i H' _ h => SqT.of (h.1 _ _ upd_same)) ?_ ?_⟩
      · rintro i x H4 hi ⟨s5, hD⟩
        have hi2 := (List.getElem?_eq_some_iff.mp hi).1
        obtain ⟨m, rfl⟩ := hrest x (cut_rest (List.mem_of_getElem? hi))
        exact ⟨rfl, _, rfl, m, rfl, push _ D i H4 (by omega) nD s5 hD _ rfl⟩
      · rintro H4 ⟨s5, hD⟩
        exact ⟨D, List.replicate (cutV vals (some 2) none).length true, rfl, SqL.of hD, true, by rw [trues_all], ifF rfl ⟨rfl, (s3.trans s4).trans s5⟩⟩
    · refine .inl ⟨_, rfl, 2, rfl, .inl ⟨a, _, rfl, SqL.of hA3, fun p np => ?_⟩⟩
      have s4 := same_new (o := .lst (cutV vals (some 2) none)) np
      refine ⟨p, rfl, ⟨_, SqL.of upd_same⟩, fun D nD => lc_list (K := K) (a := p) (xs := cutV vals (some 2) none) (fun i H' => Same (upd H3 p (.lst (cutV vals (some 2) none))) H' ∧ H' D = some (.lst (trues i))) ⟨same_new nD, upd_same⟩ (fun i H' _ h => SqL.of (h.1 _ _ upd_same)) ?_ ?_⟩
      · rintro i x H4 hi ⟨s5, hD⟩
        have hi2 := (List.getElem?_eq_some_iff.mp hi).1
        obtain ⟨m, rfl⟩ := hrest x (cut_rest (List.mem_of_getElem? hi))
        exact ⟨rfl, _, rfl, m, rfl, push _ D i H4 (by omega) nD s5 hD _ rfl⟩
      · rintro H4 ⟨s5, hD⟩
        exact ⟨D, List.replicate (cutV vals (some 2) none).length true, rfl, SqL.of hD, true, by rw [trues_all], ifF rfl ⟨rfl, (s3.trans s4).trans s5⟩⟩
  rintro σ H4 ⟨rfl, s4⟩
  have hA4 := hA.same s4
  have hL4 := s4 _ _ hL
  have e12 : big12 = 1000000000000 := rfl
  cases r with
  | letters z => cases hl
  | back i => exact absurd hz (by intro z; exact z)
  | join i0 j0 =>
    obtain ⟨i, j, rfl, hbig, rfl⟩ := hz
    rw [← hus] at hall
    have hall' : (inR ts.length (i : Int) && (inR ts.length (j : Int) && true)) = true := hall
    rw [Bool.and_eq_true, Bool.and_eq_true] at hall'
    have hi := of_decide_eq_true hall'.1
    have hj := of_decide_eq_true hall'.2.1
    subst hv
    refine ⟨_, rfl, rfl, _, rfl, ifF (wordF nJP) (ifF rfl ?_)⟩
    refine ⟨_, rfl, rfl, _, rfl, ifF (wordF nJA) (ifF rfl ?_)⟩
    have em : ((made ts (.join i j)).length : Int) = ((tx ts i).length : Int) + ((tx ts j).length : Int) := by
      show ((tx ts i ++ tx ts j).length : Int) = _
      rw [List.length_append]
      omega
    exact ⟨_, rfl, _, rfl, a, L, ts, .join i j, rfl, hA4, hL4, ⟨by omega, by omega⟩, hle, _, _, rfl, rfl, _, rfl, ifT (decide_eq_true (by rw [em]; omega)) (q _ s4)⟩
  | power i0 k0 =>
    obtain ⟨i, k, hik, hz2⟩ := hz
    subst hik
    rw [← hus] at hall
    have hall' : (inR ts.length (i : Int) && true) = true := hall
    rw [Bool.and_eq_true] at hall'
    have hi := of_decide_eq_true hall'.1
    subst hv
    refine ⟨_, rfl, rfl, _, rfl, ifT (wordT rfl) ?_⟩
    rcases hz2 with ⟨hk, rfl⟩ | ⟨hk, hbig, rfl⟩
    · by_cases h0 : (0 : Int) ≤ k
      · refine ⟨_, rfl, hA4.ix 2 rfl rfl ⟨_, _, rfl, rfl, _, rfl, ifT (decide_eq_true h0) ⟨_, _, rfl, rfl, _, rfl, ifT ?_ (q _ s4)⟩⟩⟩
        rw [decide_eq_false (fun hh => hk ⟨h0, by rw [e12]; omega⟩)]
        rfl
      · exact ⟨_, rfl, hA4.ix 2 rfl rfl ⟨_, _, rfl, rfl, _, rfl, ifF (decide_eq_false h0) ⟨_, rfl, ifT rfl (q _ s4)⟩⟩⟩
    · obtain ⟨k, rfl⟩ := Int.eq_ofNat_of_zero_le hk.1
      have hk2 : (k : Int) ≤ 1000000000000 := hk.2
      refine ⟨_, rfl, hA4.ix 2 rfl rfl ⟨_, _, rfl, rfl, _, rfl, ifT (decide_eq_true (by omega)) ⟨_, _, rfl, rfl, _, rfl, ifF ?_ ?_⟩⟩⟩
      · rw [decide_eq_true (by omega)]
        rfl
      refine ⟨_, rfl, rfl, _, rfl, ifF (wordF nPA) (ifF rfl ?_)⟩
      have em : ((made ts (.power i k)).length : Int) = ((tx ts i).length : Int) * (k : Int) := by
        show ((pw (tx ts i) k).length : Int) = _
        rw [pw_len, Int.natCast_mul, Int.mul_comm]
      exact ⟨_, rfl, _, rfl, a, L, ts, .power i k, rfl, hA4, hL4, ⟨by omega, by show k ≤ 10 ^ 12; omega⟩, hle, _, _, rfl, rfl, _, rfl, ifT (decide_eq_true (by rw [em]; exact hbig)) (q _ s4)⟩
  | part i0 x0 y0 =>
    obtain ⟨i, x, y, rfl, hn, rfl⟩ := hz
    rw [← hus] at hall
    have hall' : (inR ts.length (i : Int) && true) = true := hall
    rw [Bool.and_eq_true] at hall'
    have hi := of_decide_eq_true hall'.1
    subst hv
    refine ⟨_, rfl, rfl, _, rfl, ifF (wordF nAP) (ifF rfl ?_)⟩
    refine ⟨_, rfl, rfl, _, rfl, ifT (wordT rfl) ?_⟩
    refine ⟨_, rfl, hA4.ix 2 rfl rfl ⟨_, rfl, hA4.ix 3 rfl rfl ⟨_, rfl, _, rfl, hA4.ix 1 rfl rfl ⟨L, _, (i : Int), _, rfl, rfl, SqL.of hL4, lenV_at (by omega), _, _, _, rfl, _, rfl, ifT ?_ (q _ s4)⟩⟩⟩⟩
    rw [decide_eq_false hn]
    rfl
end
theorem same_err {H1 H2 : Hp} {a d : Addr} {fs : List (Str × V)} {o : HO} (na : H1 a = none) (nd : (upd H1 a o) d = none) (ne : d ≠ a) (keep : ∀ b u, b ≠ a → (upd H1 a o) b = some u → H2 b = some u) : Same H1 (upd (del H2 a) d (.xd fs)) ∧ H1 d = none := by
  have n1 : H1 d = none := by rw [upd_ne ne] at nd; exact nd
  refine ⟨fun b u e => ?_, n1⟩
  have hb := ne_of_none e na
  rw [upd_ne (ne_of_none e n1), del_ne hb]
  exact keep b u hb (by rw [upd_ne hb]; exact e)
section
variable {P : Program} {w : World} {K : PySem.W.Frag} {mg : Str → Option Value} {base : Heap}
/-- rules that are refused: with this number and this reason -/
def Refused (H : Hp) (R : Addr) (num : V) (z : Str) : Prop := (∃ as : List Addr, RA H R (as.map V.ref) ∧ (as.length < 1 ∨ 60 < as.length) ∧ as.length ≤ 1000 ∧ num = .non ∧ z = "count") ∨
  ∃ (as as2 : List Addr) (a : Addr) (rs : List Rule) (ts : List (List Nat)) (vals : List V), RA H R ((as ++ a :: as2).map V.ref) ∧ RL H as (rs.map Rule.vals) ∧ Sound rs ts ∧ RA H a vals ∧ Wrong ts vals z ∧ (as ++ a :: as2).length ≤ 60 ∧ z.length ≤ 100 ∧ num = .int (rs.length : Int)
def spLengthsX (CB : Addr) : Sp := fun vs H _ E => ∃ (R : Addr) (num : V) (z : Str), vs = [.ref R] ∧ Refused H R num z ∧ ∀ d H', Same H H' → H' d = some (.xd [("reason", .str z), ("number", num)]) → E (.ref CB) (some d) H'
theorem ok_lengthsX {CB f : Addr} {fd : FuncData} (F : Fun K "lengths_checked" "lengths_checked" sLengthsChecked f fd) (T : Txt mg) (ZB : ErrAt P w K mg base "BadRules" CB ["self", "number", "reason"] (spBad CB)) (GFo : Cal P w K mg base 2 "fault_of" spFaultOf []) (GFoW : Cal P w K mg base 2 "fault_of" spFaultW []) (GLm : Cal P w K mg base 1 "length_made" spLengthMade []) :
    FnOk P w K mg base (L2.CX P w) 3 f fd ["rules"] (spLengthsX CB) := by
  refine F.okX scLc (fun vs H Q E h => ?_) (fun cdv A outer s H vs Q E hr h => ?_)
  · obtain ⟨R, num, z, rfl, _⟩ := h
    rfl
  obtain ⟨R, num, z, rfl, hRf, q⟩ := h
  refine ⟨_, (pss_cons (ps_if (pt_not (pt_chain op_le op_le pe_int (pe_callB call_len_seq (by rfl) T.len PySem.boot_len (pa_cons (pv 0) pa_nil)) (C8.pe_gc (by rfl) T.MOST_RULES))) (pss_one (ps_raise rfl (takes_of rfl rfl rfl rfl) (pmk_err ZB (hr.mono (by decide)) (by rfl) (pa_cons pe_non (pa_cons pe_str pa_nil))))) pss_nil)
    (pss_cons (ps_set (i := 1) scLc.nd rfl (.inl rfl) (pe_lst pa_nil))
    (pss_cons (ps_for (passes_of rfl) rfl (PI.or (pi_enum (by rfl) T.enumerate (pa_cons (pv 0) pa_nil)) (pi_enumT (by rfl) T.enumerate (pa_cons (pv 0) pa_nil))) (pg_tup rfl (pgs_cons (pg_name (i := 2) scLc.nd rfl (.inl rfl)) (pgs_cons (pg_name (i := 3) scLc.nd rfl (.inl rfl)) pgs_nil))) (pss_cons (ps_set (i := 4) scLc.nd rfl (.inl rfl) (PE.or (pe_c GFo hr (by decide) (by rfl) (pa_cons (pv 3) (pa_cons (pv 1) pa_nil))) (pe_c GFoW hr (by decide) (by rfl) (pa_cons (pv 3) (pa_cons (pv 1) pa_nil)))))
    (pss_cons (ps_if (pt_cmpR op_notN (pv 4) pe_non (nomark _)) (pss_one (ps_raise rfl (takes_of rfl rfl rfl rfl) (pmk_err ZB (hr.mono (by decide)) (by rfl) (pa_cons (pv 2) (pa_cons (pv 4) pa_nil))))) pss_nil)
    (pss_one (ps_expr (pe_bm PySem.F.plainAttrs_list PySem.F.slot_list_append PySem.F.type_list_append mt_append (pv 1) (pa_cons (pe_c GLm hr (by decide) (by rfl) (pa_cons (pv 3) (pa_cons (pv 1) pa_nil))) pa_nil)))))))
    (pss_one (ps_ret (pe_callTy call_tuple_of (by rfl) T.tuple (by decide +kernel) (pa_cons (pv 1) pa_nil))))))), ?_⟩
  have fin : ∀ (H' : Hp) (n' : V) (z' : Str), Same H H' → (n' = .non ∨ ∃ i : Int, n' = .int i ∧ i.natAbs.log2 < 1920) → z'.length ≤ 100 → (∀ d H', Same H H' → H' d = some (.xd [("reason", .str z'), ("number", n')]) → E (.ref CB) (some d) H') → ([n', V.str z'] : List V).length ≤ 1000 ∧ ∀ a, H' a = none → spBad CB (.ref a :: ([n', V.str z'] ++ [])) (upd H' a (exo a CB none)) (fun v H2 => v = .non ∧ ∃ (d : Addr) (fs : List (Str × V)), H2 a = some (exo a CB (some d)) ∧ H2 d = some (exd d fs) ∧ H' d = none ∧ E (.ref CB) (some d) (upd (del H2 a) d (.xd fs))) (fun _ _ _ => False) := fun H' n' z' s' hn hz q => ⟨by show 2 ≤ 1000; decide, fun a na => ⟨a, n', z', rfl, upd_same, hn, hz, fun d H2 hx2 hd2 nd ne keep => by
    obtain ⟨s2, n1⟩ := same_err (fs := [("reason", .str z'), ("number", n')]) na nd ne keep
    exact ⟨rfl, d, _, hx2, hd2, n1, q d _ (s'.trans s2) upd_same⟩⟩⟩
  rcases hRf with ⟨as, hR, hl, h1000, rfl, rfl⟩ | ⟨as, as2, a, rs, ts, vals, hR, hT, snd, ha, hW, h60, hz, rfl⟩
  · have cl : ("count" : Str).length ≤ 100 := by decide +kernel
    by_cases h1 : (1 : Int) ≤ ((as.map V.ref).length : Int)
    · refine ⟨_, rfl, R, _, rfl, hR.sq, _, _, rfl, rfl, _, rfl, ifT (decide_eq_true h1) ⟨_, _, rfl, rfl, _, rfl, ifT ?_ ?_⟩⟩
      · rw [decide_eq_false (by rw [List.length_map] at h1 ⊢; omega)]
        rfl
      · exact fin H .non "count" (Same.refl H) (.inl rfl) cl q
    · refine ⟨_, rfl, R, _, rfl, hR.sq, _, _, rfl, rfl, _, rfl, ifF (decide_eq_false h1) ⟨_, rfl, ifT rfl ?_⟩⟩
      exact fin H .non "count" (Same.refl H) (.inl rfl) cl q
  have al : as.length = ts.length := by rw [hT.1, List.length_map, snd.len]
  have eal : ((as ++ a :: as2).map V.ref).length = ts.length + 1 + as2.length := by rw [List.length_map, List.length_append, List.length_cons]; omega
  rw [List.length_append, List.length_cons] at h60
  refine ⟨_, rfl, R, _, rfl, hR.sq, _, _, rfl, rfl, _, rfl, ifT (decide_eq_true (by rw [eal]; omega)) ⟨_, _, rfl, rfl, _, rfl, ifF ?_ ?_⟩⟩
  · rw [decide_eq_true (by rw [eal]; omega)]
    rfl
  refine ⟨Nat.zero_le _, fun L nL => ?_⟩
  have sL := same_new (o := .lst []) nL
  have at_ : ∀ i, i < ts.length → ∃ (r : Rule) (b : Addr), rs[i]? = some r ∧ ((as ++ a :: as2).map V.ref)[i]? = some (.ref b) ∧ RA H b r.vals := by
    intro i hi
    obtain ⟨r, er⟩ := snd.rule hi
    obtain ⟨b, ea, hb⟩ := hT.2 i r.vals (by rw [List.getElem?_map, er]; rfl)
    exact ⟨r, b, er, by rw [List.getElem?_map, List.getElem?_append_left (by omega), ea]; rfl, hb⟩
  have put : ∀ (i : Nat) (H5 : Hp) (r : Rule), i < ts.length → rs[i]? = some r → Same H H5 → H5 L = some (.lst ((ts.take i).map lenV)) → ∃ l xs v, V.ref L = .ref l ∧ [V.int ((made (ts.take i) r).length : Int)] = [v] ∧ H5 l = some (.lst xs) ∧ xs.length < sizeLine ∧
      (Same H (upd H5 l (.lst (xs ++ [v]))) ∧ (upd H5 l (.lst (xs ++ [v]))) L = some (.lst ((ts.take (i + 1)).map lenV))) := by
    intro i H5 r hi er s5 hL
    refine ⟨L, _, _, rfl, rfl, hL, by rw [List.length_map, List.length_take]; exact small1000 (by omega), fun c o hc => ?_, ?_⟩
    · rw [upd_ne (ne_of_none hc nL)]
      exact s5 _ _ hc
    · rw [upd_same, take_succ_tx hi, List.map_append, ← snd.tx er]
      rfl
  have lens : ∀ i, ∀ l ∈ ts.take i, l.length ≤ 1000000000000 := fun i l hl => snd.le l (List.mem_of_mem_take hl)
  rcases hR with hR | hR
  · refine .inr ⟨_, rfl, R, _, rfl, SqT.of (sL _ _ hR), ?_⟩
    refine ⟨fun i m σ H' => i + m = ts.length ∧ (∃ v2 v3 v4 : Option V, σ = [some (.ref R), some (.ref L), v2, v3, v4]) ∧ Same H H' ∧ H' L = some (.lst ((ts.take i).map lenV)), ⟨ts.length, by omega, ⟨none, none, none, rfl⟩, sL, upd_same⟩, ?_⟩
    rintro i m σ H1 ⟨him, ⟨v2, v3, v4, rfl⟩, s1, hL⟩
    have hR1 := s1 _ _ hR
    refine .inr ?_
    by_cases hi : i < ts.length
    · obtain ⟨r, b, er, ea, hb⟩ := at_ i hi
      refine ⟨⟨_, _, SqT.of hR1, ea⟩, fun σ' H' => (∃ v2 v3 v4 : Option V, σ' = [some (.ref R), some (.ref L), v2, v3, v4]) ∧ Same H H' ∧ H' L = some (.lst ((ts.take (i + 1)).map lenV)), fun σ' H' h => ⟨m - 1, by omega, by omega, h⟩, ?_⟩
      rintro x H' ⟨t, y, rfl, nt, rfl, hy⟩
      have ey : y = .ref b := Option.some.inj ((hy _ (SqT.of hR1)).symm.trans ea)
      subst ey
      have st := same_new (o := .tup [.int (i : Nat), .ref b]) nt
      refine ⟨t, _, rfl, SqT.of upd_same, rfl, _, _, rfl, _, _, rfl, rfl, ?_⟩
      have o := (snd.ok i r er).1
      have hbig : (made (ts.take i) r).length ≤ 1000000000000 := by rw [← snd.tx er]; exact snd.big hi
      refine .inl ⟨_, rfl, _, rfl, b, L, ts.take i, r, rfl, hb.same (s1.trans st), st _ _ hL, o, lens i, hbig, by rw [List.length_take]; omega, fun H2 s2 => ?_⟩
      have s12 := (s1.trans st).trans s2
      have hL2 := s2 _ _ (st _ _ hL)
      refine ⟨_, rfl, rfl, _, rfl, ifF rfl ?_⟩
      refine ⟨_, rfl, .inl ⟨rfl, _, SqL.of hL2⟩, _, rfl, _, rfl, b, L, ts.take i, r, rfl, hb.same s12, hL2, o, lens i, ?_⟩
      obtain ⟨l, xs, v, e1, e2, e3, e4, e5, e6⟩ := put i H2 r hi er s12 hL2
      exact ⟨l, xs, v, e1, e2, e3, e4, ⟨_, _, _, rfl⟩, e5, e6⟩
    · have ei : i = ts.length := by omega
      subst ei
      rw [List.take_length] at hL
      have ea : ((as ++ a :: as2).map V.ref)[ts.length]? = some (.ref a) := by
        rw [List.getElem?_map, ← al, List.getElem?_append_right (Nat.le_refl _), Nat.sub_self]
        rfl
      refine ⟨⟨_, _, SqT.of hR1, ea⟩, fun _ _ => False, fun _ _ z => z.elim, ?_⟩
      rintro x H' ⟨t, y, rfl, nt, rfl, hy⟩
      have ey : y = .ref a := Option.some.inj ((hy _ (SqT.of hR1)).symm.trans ea)
      subst ey
      have st := same_new (o := .tup [.int (ts.length : Nat), .ref a]) nt
      refine ⟨t, _, rfl, SqT.of upd_same, rfl, _, _, rfl, _, _, rfl, rfl, ?_⟩
      refine .inr ⟨_, rfl, _, rfl, a, L, ts, vals, z, rfl, ha.same (s1.trans st), st _ _ hL, hW, snd.le, by omega, fun H2 s2 => ?_⟩
      have s12 := (s1.trans st).trans s2
      refine ⟨_, rfl, rfl, _, rfl, ifT rfl ?_⟩
      refine ⟨_, rfl, _, rfl, fin H2 _ z s12 (.inr ⟨_, rfl, ?_⟩) hz ?_⟩
      · exact Nat.lt_of_lt_of_le (PySem.Flt.log2_lt_of (k := 41) (by decide) (by omega)) (by decide)
      · rw [snd.len]
        exact q
  · refine .inl ⟨_, rfl, R, _, rfl, SqL.of (sL _ _ hR), ?_⟩
    refine ⟨fun i m σ H' => i + m = ts.length ∧ (∃ v2 v3 v4 : Option V, σ = [some (.ref R), some (.ref L), v2, v3, v4]) ∧ Same H H' ∧ H' L = some (.lst ((ts.take i).map lenV)), ⟨ts.length, by omega, ⟨none, none, none, rfl⟩, sL, upd_same⟩, ?_⟩
    rintro i m σ H1 ⟨him, ⟨v2, v3, v4, rfl⟩, s1, hL⟩
    have hR1 := s1 _ _ hR
    refine .inr ?_
    by_cases hi : i < ts.length
    · obtain ⟨r, b, er, ea, hb⟩ := at_ i hi
      refine ⟨⟨_, _, SqL.of hR1, ea⟩, fun σ' H' => (∃ v2 v3 v4 : Option V, σ' = [some (.ref R), some (.ref L), v2, v3, v4]) ∧ Same H H' ∧ H' L = some (.lst ((ts.take (i + 1)).map lenV)), fun σ' H' h => ⟨m - 1, by omega, by omega, h⟩, ?_⟩
      rintro x H' ⟨t, y, rfl, nt, rfl, hy⟩
      have ey : y = .ref b := Option.some.inj ((hy _ (SqL.of hR1)).symm.trans ea)
      subst ey
      have st := same_new (o := .tup [.int (i : Nat), .ref b]) nt
      refine ⟨t, _, rfl, SqT.of upd_same, rfl, _, _, rfl, _, _, rfl, rfl, ?_⟩
      have o := (snd.ok i r er).1
      have hbig : (made (ts.take i) r).length ≤ 1000000000000 := by rw [← snd.tx er]; exact snd.big hi
      refine .inl ⟨_, rfl, _, rfl, b, L, ts.take i, r, rfl, hb.same (s1.trans st), st _ _ hL, o, lens i, hbig, by rw [List.length_take]; omega, fun H2 s2 => ?_⟩
      have s12 := (s1.trans st).trans s2
      have hL2 := s2 _ _ (st _ _ hL)
      refine ⟨_, rfl, rfl, _, rfl, ifF rfl ?_⟩
      refine ⟨_, rfl, .inl ⟨rfl, _, SqL.of hL2⟩, _, rfl, _, rfl, b, L, ts.take i, r, rfl, hb.same s12, hL2, o, lens i, ?_⟩
      obtain ⟨l, xs, v, e1, e2, e3, e4, e5, e6⟩ := put i H2 r hi er s12 hL2
      exact ⟨l, xs, v, e1, e2, e3, e4, ⟨_, _, _, rfl⟩, e5, e6⟩
    · have ei : i = ts.length := by omega
      subst ei
      rw [List.take_length] at hL
      have ea : ((as ++ a :: as2).map V.ref)[ts.length]? = some (.ref a) := by
        rw [List.getElem?_map, ← al, List.getElem?_append_right (Nat.le_refl _), Nat.sub_self]
        rfl
      refine ⟨⟨_, _, SqL.of hR1, ea⟩, fun _ _ => False, fun _ _ z => z.elim, ?_⟩
      rintro x H' ⟨t, y, rfl, nt, rfl, hy⟩
      have ey : y = .ref a := Option.some.inj ((hy _ (SqL.of hR1)).symm.trans ea)
      subst ey
      have st := same_new (o := .tup [.int (ts.length : Nat), .ref a]) nt
      refine ⟨t, _, rfl, SqT.of upd_same, rfl, _, _, rfl, _, _, rfl, rfl, ?_⟩
      refine .inr ⟨_, rfl, _, rfl, a, L, ts, vals, z, rfl, ha.same (s1.trans st), st _ _ hL, hW, snd.le, by omega, fun H2 s2 => ?_⟩
      have s12 := (s1.trans st).trans s2
      refine ⟨_, rfl, rfl, _, rfl, ifT rfl ?_⟩
      refine ⟨_, rfl, _, rfl, fin H2 _ z s12 (.inr ⟨_, rfl, ?_⟩) hz ?_⟩
      · exact Nat.lt_of_lt_of_le (PySem.Flt.log2_lt_of (k := 41) (by decide) (by omega)) (by decide)
      · rw [snd.len]
        exact q
end
/-! ### more rules behind right ones -/
theorem tx_left {ts l : List (List Nat)} {i : Nat} (h : i < ts.length) : tx (ts ++ l) i = tx ts i := by
  unfold tx
  rw [List.getD_eq_getElem?_getD, List.getD_eq_getElem?_getD, List.getElem?_append_left h]
theorem tx_right {ts l : List (List Nat)} (j : Nat) : tx (ts ++ l) (ts.length + j) = tx l j := by
  unfold tx
  rw [List.getD_eq_getElem?_getD, List.getD_eq_getElem?_getD, List.getElem?_append_right (Nat.le_add_right _ _), Nat.add_sub_cancel_left]
theorem Sound.put {rs g : List Rule} {ts l : List (List Nat)} {r : Rule} {x : List Nat} (s : Sound (rs ++ g) (ts ++ l)) (o : Ok (ts ++ l) r) (e : made (ts ++ l) r = x) (h : x.length ≤ 1000000000000) : Sound (rs ++ (g ++ [r])) (ts ++ (l ++ [x])) := by
  rw [← List.append_assoc, ← List.append_assoc]
  generalize rs ++ g = rs' at s ⊢
  generalize ts ++ l = ts' at s o e ⊢
  refine ⟨by simp [s.len], fun k y ek => ?_, fun z hz => ?_⟩
  · by_cases hk : k < rs'.length
    · rw [List.getElem?_append_left hk] at ek
      rw [List.take_append_of_le_length (by rw [s.len]; omega), List.getElem?_append_left (by rw [s.len]; exact hk)]
      exact s.ok k y ek
    · have hk2 : k = rs'.length := by
        have := (List.getElem?_eq_some_iff.mp ek).1
        simp at this
        omega
      subst hk2
      rw [List.getElem?_append_right (Nat.le_refl _), Nat.sub_self] at ek
      obtain rfl : r = y := Option.some.inj ek
      rw [← s.len, List.take_append_of_le_length (Nat.le_refl _), List.take_length, List.getElem?_append_right (Nat.le_refl _), Nat.sub_self, e]
      exact ⟨o, rfl⟩
  · rcases List.mem_append.mp hz with q | q
    · exact s.le z q
    · rw [List.mem_singleton.mp q]
      exact h
theorem Sound.start {rs : List Rule} {ts : List (List Nat)} (s : Sound rs ts) : Sound (rs ++ []) (ts ++ []) := by rw [List.append_nil, List.append_nil]; exact s
theorem pw_mul (l : List Nat) (j k : Nat) : pw (pw l j) k = pw l (j * k) := by
  induction k with
  | zero => rfl
  | succ k ih => rw [pw_add, ih, pw_one, Nat.mul_succ, pw_add]
/-- text behind text, shifted by a part of it -/
theorem shift_pw (a b : List Nat) : ∀ k : Nat, a ++ (pw (b ++ a) k ++ b) = pw (a ++ b) (k + 1)
  | 0 => by
    show a ++ b = pw (a ++ b) 1
    rw [pw_one]
  | k + 1 => by
    have ih := shift_pw a b k
    rw [pw_add (b ++ a) k 1, pw_one, pw_add (a ++ b) (k + 1) 1, pw_one, ← ih]
    simp [List.append_assoc]
section
variable {rs : List Rule} {ts : List (List Nat)}
def grown (n cut size times first : Nat) : List Rule :=
  [.part (n - 1) 0 cut, .part (n - 1) cut size, .back (n + 1), .back n, .join (n + 2) (n + 3), .back (n + 4), .power (n + 5) first, .power (n + 6) (times / first), .power (n + 5) (times - times / first * first), .join (n + 7) (n + 8)]
theorem grown_sound {cut times first : Nat} (s : Sound rs ts) (h1 : 1 ≤ ts.length) (hc : cut ≤ (tx ts (ts.length - 1)).length) (hf : 1 ≤ first) (hft : first ≤ times) (ht : times * (tx ts (ts.length - 1)).length ≤ 1000000000000) (ht2 : times ≤ 1000000000000) :
    ∃ l : List (List Nat), l.length = 10 ∧ Sound (rs ++ grown ts.length cut (tx ts (ts.length - 1)).length times first) (ts ++ l) ∧ tx (ts ++ l) (ts.length + 9) = pw (tx ts (ts.length - 1)) times := by
  generalize ht0 : tx ts (ts.length - 1) = t at hc ht ⊢
  have hlast : ts.length - 1 < ts.length := by omega
  have big : t.length ≤ 1000000000000 := by rw [← ht0]; exact s.big hlast
  have lt0 : ∀ l : List (List Nat), tx (ts ++ l) (ts.length - 1) = t := fun l => by rw [tx_left hlast, ht0]
  have ltr : ∀ (l : List (List Nat)) (j : Nat), tx (ts ++ l) (ts.length + j) = tx l j := fun l j => tx_right j
  have hq : times / first * first ≤ times := Nat.div_mul_le_self _ _
  have e1 : sub t 0 cut ++ sub t cut t.length = t := by rw [← sub_cut (Nat.zero_le _) hc, sub_all]
  have lp : ∀ k, k ≤ times → (pw t k).length ≤ 1000000000000 := fun k hk => by
    rw [pw_len]
    exact Nat.le_trans (Nat.mul_le_mul_right _ hk) ht
  have s1 := s.start.put (r := .part (ts.length - 1) 0 cut) (x := sub t 0 cut) ⟨by simp; omega, Nat.zero_le _, by rw [lt0]; exact hc⟩ (by show sub (tx _ _) 0 cut = _; rw [lt0]) (by rw [sub_len hc]; omega)
  have s2 := s1.put (r := .part (ts.length - 1) cut t.length) (x := sub t cut t.length) ⟨by simp; omega, hc, by rw [lt0]; exact Nat.le_refl _⟩ (by show sub (tx _ _) cut t.length = _; rw [lt0]) (by rw [sub_len (Nat.le_refl _)]; omega)
  have s3 := s2.put (r := .back (ts.length + 1)) (x := (sub t cut t.length).reverse) (by show _ < _; simp) (by show (tx _ _).reverse = _; rw [ltr]; rfl) (by rw [List.length_reverse, sub_len (Nat.le_refl _)]; omega)
  have s4 := s3.put (r := .back ts.length) (x := (sub t 0 cut).reverse) (by show _ < _; simp) (by show (tx _ (ts.length + 0)).reverse = _; rw [ltr]; rfl) (by rw [List.length_reverse, sub_len hc]; omega)
  have s5 := s4.put (r := .join (ts.length + 2) (ts.length + 3)) (x := t.reverse) ⟨by simp, by simp⟩ (by show tx _ _ ++ tx _ _ = _; rw [ltr, ltr]; show (sub t cut t.length).reverse ++ (sub t 0 cut).reverse = _; rw [← List.reverse_append, e1]) (by rw [List.length_reverse]; exact big)
  have s6 := s5.put (r := .back (ts.length + 4)) (x := t) (by show _ < _; simp) (by show (tx _ _).reverse = _; rw [ltr]; show t.reverse.reverse = t; rw [List.reverse_reverse]) big
  have s7 := s6.put (r := .power (ts.length + 5) first) (x := pw t first) ⟨by simp, by omega⟩ (by show pw (tx _ _) first = _; rw [ltr]; rfl) (lp _ hft)
  have s8 := s7.put (r := .power (ts.length + 6) (times / first)) (x := pw t (first * (times / first))) ⟨by simp, Nat.le_trans (Nat.div_le_self _ _) ht2⟩ (by show pw (tx _ _) _ = _; rw [ltr]; exact pw_mul _ _ _) (lp _ (by rw [Nat.mul_comm]; exact hq))
  have s9 := s8.put (r := .power (ts.length + 5) (times - times / first * first)) (x := pw t (times - times / first * first)) ⟨by simp, by omega⟩ (by show pw (tx _ _) _ = _; rw [ltr]; rfl) (lp _ (by omega))
  have s10 := s9.put (r := .join (ts.length + 7) (ts.length + 8)) (x := pw t times) ⟨by simp, by simp⟩ (by show tx _ _ ++ tx _ _ = _; rw [ltr, ltr]; show pw t (first * (times / first)) ++ pw t (times - times / first * first) = _; rw [← pw_add, Nat.mul_comm]; congr 1; omega) (lp _ (Nat.le_refl _))
  exact ⟨_, rfl, s10, by rw [ltr]; rfl⟩
def shifted (n size cut times : Nat) : List Rule :=
  [.part (n - 1) 0 cut, .part (n - 1) cut size, .join (n + 1) n, .power (n + 2) (times - 1), .join n (n + 3), .join (n + 4) (n + 1)]
theorem shifted_sound {cut times : Nat} (s : Sound rs ts) (h1 : 1 ≤ ts.length) (hc : cut ≤ (tx ts (ts.length - 1)).length) (h0 : 1 ≤ times) (ht : times * (tx ts (ts.length - 1)).length ≤ 1000000000000) (ht2 : times ≤ 1000000000000) :
    ∃ l : List (List Nat), l.length = 6 ∧ Sound (rs ++ shifted ts.length (tx ts (ts.length - 1)).length cut times) (ts ++ l) ∧ tx (ts ++ l) (ts.length + 5) = pw (tx ts (ts.length - 1)) times := by
  generalize ht0 : tx ts (ts.length - 1) = t at hc ht ⊢
  have hlast : ts.length - 1 < ts.length := by omega
  have big : t.length ≤ 1000000000000 := by rw [← ht0]; exact s.big hlast
  have lt0 : ∀ l : List (List Nat), tx (ts ++ l) (ts.length - 1) = t := fun l => by rw [tx_left hlast, ht0]
  have ltr : ∀ (l : List (List Nat)) (j : Nat), tx (ts ++ l) (ts.length + j) = tx l j := fun l j => tx_right j
  have e1 : sub t 0 cut ++ sub t cut t.length = t := by rw [← sub_cut (Nat.zero_le _) hc, sub_all]
  have la : (sub t 0 cut).length = cut := by rw [sub_len hc]; omega
  have lb : (sub t cut t.length).length = t.length - cut := sub_len (Nat.le_refl _)
  have lba : (sub t cut t.length ++ sub t 0 cut).length = t.length := by rw [List.length_append, la, lb]; omega
  have lp : (times - 1) * t.length + t.length ≤ 1000000000000 := by
    have e : (times - 1) * t.length + t.length = times * t.length := by
      rw [← Nat.succ_mul]
      congr 1
      omega
    omega
  have s1 := s.start.put (r := .part (ts.length - 1) 0 cut) (x := sub t 0 cut) ⟨by simp; omega, Nat.zero_le _, by rw [lt0]; exact hc⟩ (by show sub (tx _ _) 0 cut = _; rw [lt0]) (by omega)
  have s2 := s1.put (r := .part (ts.length - 1) cut t.length) (x := sub t cut t.length) ⟨by simp; omega, hc, by rw [lt0]; exact Nat.le_refl _⟩ (by show sub (tx _ _) cut t.length = _; rw [lt0]) (by omega)
  have s3 := s2.put (r := .join (ts.length + 1) ts.length) (x := sub t cut t.length ++ sub t 0 cut) ⟨by simp, by simp⟩ (by show tx _ _ ++ tx _ (ts.length + 0) = _; rw [ltr, ltr]; rfl) (by omega)
  have s4 := s3.put (r := .power (ts.length + 2) (times - 1)) (x := pw (sub t cut t.length ++ sub t 0 cut) (times - 1)) ⟨by simp, by omega⟩ (by show pw (tx _ _) _ = _; rw [ltr]; rfl) (by rw [pw_len, lba]; omega)
  have s5 := s4.put (r := .join ts.length (ts.length + 3)) (x := sub t 0 cut ++ pw (sub t cut t.length ++ sub t 0 cut) (times - 1)) ⟨by simp, by simp⟩ (by show tx _ (ts.length + 0) ++ tx _ _ = _; rw [ltr, ltr]; rfl) (by rw [List.length_append, pw_len, lba]; omega)
  have e2 : (sub t 0 cut ++ pw (sub t cut t.length ++ sub t 0 cut) (times - 1)) ++ sub t cut t.length = pw t times := by
    rw [List.append_assoc, shift_pw, e1]
    congr 1
    omega
  have s6 := s5.put (r := .join (ts.length + 4) (ts.length + 1)) (x := pw t times) ⟨by simp, by simp⟩ (by show tx _ _ ++ tx _ _ = _; rw [ltr, ltr]; exact e2) (by rw [pw_len]; exact ht)
  exact ⟨_, rfl, s6, by rw [ltr]; rfl⟩
end
theorem LT.cat {H : Hp} {as : List Addr} {vss : List (List V)} : ∀ {bs : List Addr} {wss : List (List V)}, LT H as vss → LT H bs wss → LT H (as ++ bs) (vss ++ wss) := by
  intro bs wss h g
  refine ⟨by rw [List.length_append, List.length_append, h.1, g.1], fun k x e => ?_⟩
  by_cases hk : k < vss.length
  · rw [List.getElem?_append_left hk] at e
    obtain ⟨b, e1, e2⟩ := h.2 k x e
    exact ⟨b, by rw [List.getElem?_append_left (by rw [h.1]; exact hk)]; exact e1, e2⟩
  · rw [List.getElem?_append_right (by omega)] at e
    obtain ⟨b, e1, e2⟩ := g.2 _ x e
    exact ⟨b, by rw [List.getElem?_append_right (by rw [h.1]; omega), h.1]; exact e1, e2⟩
/-- a list of rules, as the program holds it -/
structure RLs (H : Hp) (R : Addr) (as : List Addr) (vss : List (List V)) : Prop where
  at_ : H R = some (.lst (as.map V.ref))
  lt : LT H as vss
theorem RLs.same {H H' : Hp} {R : Addr} {as : List Addr} {vss : List (List V)} (h : RLs H R as vss) (s : Same H H') : RLs H' R as vss := ⟨s _ _ h.at_, h.lt.same s⟩
/-- list + list -/
theorem RLs.cat {H : Hp} {R D p : Addr} {as bs : List Addr} {vss wss : List (List V)} (h : RLs H R as vss) (g : RLs H D bs wss) (n : H p = none) : RLs (upd H p (.lst (as.map V.ref ++ bs.map V.ref))) p (as ++ bs) (vss ++ wss) :=
  ⟨by rw [upd_same, List.map_append], (h.lt.cat g.lt).same (same_new n)⟩
theorem LT.put {H : Hp} {as : List Addr} {vss : List (List V)} {p : Addr} {xs : List V} (l : LT H as vss) (n : H p = none) : LT (upd H p (.tup xs)) (as ++ [p]) (vss ++ [xs]) := (l.same (same_new n)).add upd_same
theorem LT.lst {H : Hp} {as : List Addr} {vss : List (List V)} {p : Addr} {xs : List V} (l : LT H as vss) (n : H p = none) (e : xs = as.map V.ref) : RLs (upd H p (.lst xs)) p as vss := ⟨by rw [upd_same, e], l.same (same_new n)⟩
theorem RLs.len {H : Hp} {R : Addr} {as : List Addr} {vss : List (List V)} (h : RLs H R as vss) : (as.map V.ref).length = vss.length := by rw [List.length_map, h.lt.1]
theorem RLs.app {H : Hp} {R z : Addr} {as : List Addr} {vss : List (List V)} {vs : List V} (h : RLs H R as vss) (hz : H z = some (.tup vs)) : RLs (upd H R (.lst (as.map V.ref ++ [.ref z]))) R (as ++ [z]) (vss ++ [vs]) :=
  ⟨by rw [upd_same, List.map_append]; rfl, (h.lt.add hz).updL h.at_⟩
theorem RLs.frm {H H' : Hp} {p c R : Addr} {as : List Addr} {vss : List (List V)} (h : RLs H R as vss) (P : Pool H p c) (f : Frm p H H') (n : R ≠ p) : RLs H' R as vss := by
  obtain ⟨pos, left, seed, xs, hp⟩ := P
  exact ⟨f _ _ n h.at_, h.lt.1, fun k vs e => let ⟨a, e1, e2⟩ := h.lt.2 k vs e; ⟨a, e1, f _ _ (ne_of e2 hp.at_ (by intro z; cases z)) e2⟩⟩
theorem Sound.add1 {rs : List Rule} {ts : List (List Nat)} {r : Rule} {x : List Nat} (s : Sound rs ts) (o : Ok ts r) (e : made ts r = x) (h : x.length ≤ 1000000000000) : Sound (rs ++ [r]) (ts ++ [x]) := by
  have q := s.start.put (r := r) (x := x) (by rw [List.append_nil]; exact o) (by rw [List.append_nil]; exact e) h
  simpa using q
theorem tx_last1 {ts : List (List Nat)} {x : List Nat} : tx (ts ++ [x]) ((ts ++ [x]).length - 1) = x := by
  rw [List.length_append]
  exact tx_right (ts := ts) (l := [x]) 0
/-- the rules as the law goes on with them: their list, their texts, the last text -/
structure Run (H : Hp) (p c R : Addr) (n : Nat) (rs : List Rule) (ts : List (List Nat)) (l : List Nat) : Prop where
  ex : ∃ as, RLs H R as (rs.map Rule.vals)
  snd : Sound rs ts
  pos : 1 ≤ rs.length
  le : rs.length ≤ n
  last : tx ts (ts.length - 1) = l
  np : R ≠ p ∧ R ≠ c
theorem Run.same {H H' : Hp} {p c R : Addr} {n : Nat} {rs : List Rule} {ts : List (List Nat)} {l : List Nat} (h : Run H p c R n rs ts l) (s : Same H H') : Run H' p c R n rs ts l := ⟨let ⟨as, q⟩ := h.ex; ⟨as, q.same s⟩, h.snd, h.pos, h.le, h.last, h.np⟩
theorem Run.frm {H H' : Hp} {p c R : Addr} {n : Nat} {rs : List Rule} {ts : List (List Nat)} {l : List Nat} (h : Run H p c R n rs ts l) (P : Pool H p c) (f : Frm p H H') : Run H' p c R n rs ts l := ⟨let ⟨as, q⟩ := h.ex; ⟨as, q.frm P f h.np.1⟩, h.snd, h.pos, h.le, h.last, h.np⟩
theorem Run.mono {H : Hp} {p c R : Addr} {n m : Nat} {rs : List Rule} {ts : List (List Nat)} {l : List Nat} (h : Run H p c R n rs ts l) (e : n ≤ m) : Run H p c R m rs ts l := ⟨h.ex, h.snd, h.pos, Nat.le_trans h.le e, h.last, h.np⟩
/-- a rule more at the list's end -/
theorem Run.app {H : Hp} {p c R z : Addr} {n : Nat} {as : List Addr} {rs : List Rule} {ts : List (List Nat)} {l x : List Nat} {r : Rule} (h : Run H p c R n rs ts l) (ha : RLs H R as (rs.map Rule.vals)) (hz : H z = some (.tup r.vals)) (o : Ok ts r) (e : made ts r = x) (hx : x.length ≤ 1000000000000) :
    Run (upd H R (.lst (as.map V.ref ++ [.ref z]))) p c R (n + 1) (rs ++ [r]) (ts ++ [x]) x :=
  ⟨⟨as ++ [z], by rw [List.map_append]; exact ha.app hz⟩, h.snd.add1 o e hx, by simp, by have := h.le; simp; omega, tx_last1, h.np⟩
theorem Refused.same {H H' : Hp} {R : Addr} {num : V} {z : Str} (h : Refused H R num z) (s : Same H H') : Refused H' R num z := by
  rcases h with ⟨as, h1, h2⟩ | ⟨as, as2, a, rs, ts, vals, h1, h2, h3, h4, h5⟩
  · exact .inl ⟨as, h1.same s, h2⟩
  · exact .inr ⟨as, as2, a, rs, ts, vals, h1.same s, h2.same s, h3, h4.same s, h5⟩
section
variable {P : Program} {w : World} {K : PySem.W.Frag} {mg : Str → Option Value} {base : Heap}
def spInitX (CB : Addr) : Sp := fun vs H _ E => ∃ (x R : Addr) (num : V) (z : Str), vs = [.ref x, .ref R] ∧ Refused H R num z ∧ ∀ d H', Same H H' → H' d = some (.xd [("reason", .str z), ("number", num)]) → E (.ref CB) (some d) H'
theorem ok_initX {CB f f1 : Addr} {fd fd1 : FuncData} (F : Fun K "__init__" "Text.__init__" sInit f fd) (F1 : Fun K "lengths_checked" "lengths_checked" sLengthsChecked f1 fd1) (hmL : mg "lengths_checked" = some (.ref f1)) (bL : Binds K fd1 ["rules"] []) (GLcX : FnOk P w K mg base (L2.CX P w) 3 f1 fd1 ["rules"] (spLengthsX CB)) :
    FnOk P w K mg base (L2.CX P w) 4 f fd ["self", "rules"] (spInitX CB) := by
  refine F.okX scIn (fun vs H Q E h => ?_) (fun cdv A outer s H vs Q E hr h => ?_)
  · obtain ⟨x, R, num, z, rfl, _⟩ := h
    rfl
  obtain ⟨x, R, num, z, rfl, hR, q⟩ := h
  refine ⟨_, (pss_cons (ps_fld (pv 0) (pe_callS GLcX hr (by rfl) hmL F1.kp bL (fun σ => passAt (takes_of rfl rfl rfl rfl) σ) (pa_cons (pv 1) pa_nil)) rfl)
    pss_never), ?_⟩
  exact ⟨_, rfl, R, num, z, rfl, hR, q⟩
/-- an own error's class, ready to be caught and looked at; CH: HeldError -/
structure ErrUse (K : PySem.W.Frag) (C CH : Addr) : Prop where
  is : ExcC K C
  xf : XfC K C
  exm : PySem.W.exmOne K (.ref C) (.ref C) = some true
  kH : PySem.W.kitOne K (.ref C) (.ref CH) = some true
  kV : PySem.W.kitOne K (.ref C) (.type "ValueError") = some true
theorem mkT {C x dx R : Addr} {H1 : Hp} {as : List Addr} {rs : List Rule} {ts : List (List Nat)} {Q : Hp → Prop} {E : XK} (hR : RLs H1 R as (rs.map Rule.vals)) (snd : Sound rs ts) (h1 : 1 ≤ rs.length) (h60 : rs.length ≤ 60) (nx : H1 x = none) (nd : H1 dx = none) (ne : dx ≠ x)
    (q : ∀ H2, Same H1 H2 → TextAt C H2 x rs ts → Q H2) : spInit C [.ref x, .ref R] (upd (upd H1 dx (.own x)) x (.ins C dx [])) (fun v H2 => v = .non ∧ Q H2) E := by
  have nx' : (upd H1 dx (.own x)) x = none := by rw [upd_ne ne.symm]; exact nx
  have s : Same H1 (upd (upd H1 dx (.own x)) x (.ins C dx [])) := (same_new nd).trans (same_new nx')
  exact ⟨x, dx, R, as, rs, ts, rfl, upd_same, .inr (s _ _ hR.at_), (hR.lt.same s).rl, snd, h1, h60, fun LE RU as' H' keep hx hRU hLE hL => ⟨rfl, q H' (fun b o hb => keep b o (ne_of_none hb nx) (s _ _ hb)) ⟨dx, RU, LE, _, as', tF_text hx hRU hLE hL snd⟩⟩⟩
def spTold : Sp := fun vs H Q _ => ∃ R : Addr, vs = [.ref R] ∧ ((∃ (as : List Addr) (rs : List Rule) (ts : List (List Nat)), RLs H R as (rs.map Rule.vals) ∧ Sound rs ts ∧ 1 ≤ rs.length ∧ rs.length ≤ 60 ∧ ∀ H', Same H H' → Q .non H') ∨ ∃ (num : V) (z : Str), Refused H R num z ∧ ∀ t H', Same H H' → H' t = some (.tup [num, .str z]) → Q (.ref t) H')
theorem scTd : FnScope ["rules", "e"] ["rules"] (defScope sLTold) := ⟨rfl, rfl, rfl, by decide +kernel, rfl, by decide +kernel, by decide +kernel⟩
theorem ok_told {C CB CH f fI : Addr} {fd fdI : FuncData} (F : Fun K "_law_told" "_law_told" sLTold f fd) (hm : mg "_law_told" = some (.ref f)) (b : Binds K fd ["rules"] []) (T : Txt mg) (gP : mg "BadRules" = some (.ref CB)) (gH : ∃ u, mg "HeldError" = some u ∧ RelV (.ref CH) u) (gV : mg "ValueError" = none) (U : ErrUse K CB CH) (nf1 : PySem.W.findIn K (.ref CB) "number" = some none) (nf2 : PySem.W.findIn K (.ref CB) "reason" = some none)
    (MK : C8.Mak P w K mg base 4 "Text" C (spInit C) []) (M : Mk K C fI) (gC : mg "Text" = some (.ref C)) (bI : Binds K fdI ["self", "rules"] []) (GIX : FnOk P w K mg base (L2.CX P w) 4 fI fdI ["self", "rules"] (spInitX CB)) : Cal P w K mg base 6 "_law_told" spTold [] := by
  refine mkCal F hm b scTd (fun vs H Q E h => ?_) (fun cdv A outer s H vs Q E hr h => ?_)
  · obtain ⟨R, rfl, _⟩ := h
    rfl
  obtain ⟨R, rfl, h⟩ := h
  refine ⟨_, pss_cons (ps_try_as (i := 1) (tb := fun W => tDrop (fun σ H Q => tMake C (spInit C) [] C8.E0 (tCons (tVar 0) tNil) σ H Q ∨ tMakeS C (spInitX CB) (WE W) (tCons (tVar 0) tNil) σ H Q))
      (Wout := fun _ _ _ _ => False) rfl rfl scTd.nd rfl rfl ⟨rfl, by decide, Or.inl gP⟩ takes0
      (fun W pn xe tk _ => pss_one (ps_expr (by exact (PE.or (C8.pe_mk MK hr (by decide) (by rfl) (pa_cons (pv 0) pa_nil)) (pe_makeS M GIX (hr.mono (by decide)) (by rfl) gC bI (fun σ => passAt tk σ) (pa_cons (pv 0) pa_nil))))))
      (fun a oe cls d pn hz hf => pss_cons (ps_if (PW.pt (pw_and (pt_val (pe_callB (call_isX U.is hz hf) (by rfl) T.isinstance (by decide +kernel) (pa_cons (pv 1) (pa_cons (C8.pe_gc (by rfl) gH) pa_nil)))) (pw_and1 (pt_val (pe_callB (call_isX U.is hz hf) (by rfl) T.isinstance (by decide +kernel) (pa_cons (pv 1) (pa_cons (pe_bltn (v := .ty "ValueError") (by rfl) gV (by decide +kernel) rfl) pa_nil)))))))
        (pss_one (ps_ret (by exact (pe_tup (pa_cons (pe_xf U.xf nf1 hz hf (pv 1) rfl) (pa_cons (pe_xf U.xf nf2 hz hf (pv 1) rfl) pa_nil)))))) pss_nil) pss_never))
    (pss_one (ps_ret pe_non)), ?_⟩
  rcases h with ⟨as, rs, ts, hR, snd, h1, h60, q⟩ | ⟨num, z, hR, q⟩
  · exact .inl ⟨_, rfl, fun x dx nx nd ne => mkT hR snd h1 h60 nx nd ne fun H2 s2 _ => q H2 s2⟩
  · refine .inr ⟨_, rfl, fun x dx nx nd ne => ?_⟩
    have nx' : (upd H dx (.own x)) x = none := by rw [upd_ne ne.symm]; exact nx
    have s : Same H (upd (upd H dx (.own x)) x (.ins C dx [])) := (same_new nd).trans (same_new nx')
    refine ⟨x, R, num, z, rfl, hR.same s, fun d H' s' hd => ⟨true, U.exm, fun _ a na => ?_, fun z => Bool.noConfusion z⟩⟩
    refine ⟨_, rfl, .ref CH, .ref CH, true, d, _, rfl, rfl, rfl, hd, fun u r => r, U.kH, true, rfl, ifT rfl ?_⟩
    refine ⟨_, rfl, .ty "ValueError", .type "ValueError", true, d, _, rfl, rfl, rfl, hd, fun u r => r, U.kV, true, rfl, ifT rfl ?_⟩
    refine ⟨_, rfl, rfl, rfl, d, _, num, rfl, hd, rfl, _, rfl, rfl, rfl, d, _, .str z, rfl, hd, rfl, by show 2 ≤ sizeLine; decide, fun t nt => ?_⟩
    exact q t _ ((s.trans s').trans (same_new nt)) upd_same
end
/-- a wrong rule with its reason, as the law keeps it -/
def Bad (ts : List (List Nat)) (H : Hp) (b : Addr) : Prop := ∃ (ra : Addr) (vals : List V) (z : Str), H b = some (.tup [.ref ra, .str z]) ∧ H ra = some (.tup vals) ∧ Wrong ts vals z ∧ z.length ≤ 100
theorem Bad.same {ts : List (List Nat)} {H H' : Hp} {b : Addr} (h : Bad ts H b) (s : Same H H') : Bad ts H' b := by
  obtain ⟨ra, vals, z, h1, h2, h3⟩ := h
  exact ⟨ra, vals, z, s _ _ h1, s _ _ h2, h3⟩
theorem Bad.mk {ts : List (List Nat)} {H : Hp} {t u : Addr} {vals : List V} {z : Str} (w : Wrong ts vals z) (hz : z.length ≤ 100) (nt : H t = none) (nu : (upd H t (.tup vals)) u = none) : Bad ts (upd (upd H t (.tup vals)) u (.tup [.ref t, .str z])) u :=
  ⟨t, vals, z, upd_same, same_new nu _ _ upd_same, w, hz⟩
theorem pair_same {H : Hp} {t u : Addr} {o o2 : HO} (nt : H t = none) (nu : (upd H t o) u = none) : Same H (upd (upd H t o) u o2) := (same_new nt).trans (same_new nu)
/-- the rows of the law -/
structure Bads (ts : List (List Nat)) (H : Hp) (D : Addr) (bs : List Addr) : Prop where
  at_ : H D = some (.lst (bs.map V.ref))
  all : ∀ b ∈ bs, Bad ts H b
theorem ten_letters {l : List Nat} (h : l = [97, 10]) : ∃ c ∈ l, c ∉ SL := ⟨10, by rw [h]; simp, by decide +kernel⟩
theorem inR_out {n : Nat} {x : Int} (h : x < 0 ∨ (n : Int) ≤ x) : inR n x = false := decide_eq_false (by omega)
theorem inR_in {n : Nat} {x : Int} (h : 0 ≤ x ∧ x < (n : Int)) : inR n x = true := decide_eq_true h
theorem all1 {n : Nat} {x : Int} {r : List Int} (h : inR n x = false) : (x :: r).all (inR n) = false := by rw [List.all_cons, h]; rfl
theorem all2 {n : Nat} {x y : Int} (h : inR n y = false) : [x, y].all (inR n) = false := by rw [List.all_cons, List.all_cons, h]; cases inR n x <;> rfl
theorem allOne {n : Nat} {x : Int} (h : inR n x = true) : [x].all (inR n) = true := by rw [List.all_cons, h]; rfl
section
variable {P : Program} {w : World} {K : PySem.W.Frag} {mg : Str → Option Value} {base : Heap}
def spWrong : Sp := fun vs H Q _ => ∃ (p c : Addr) (ts : List (List Nat)) (sz : Nat), vs = [.ref p, .int (ts.length : Int), .int (sz : Int)] ∧ Pool H p c ∧ ts.length ≤ 20 ∧ sz ≤ 400 ∧ (0 < ts.length → sz = (tx ts (ts.length - 1)).length) ∧ (ts.length = 0 → sz = 0) ∧
  ∀ b H', Bad ts H' b → Frm p H H' → Pool H' p c → Q (.ref b) H'
theorem scWr : FnScope ["pool", "many", "size", "last", "rows"] ["pool", "many", "size"] (defScope sLWrong) := ⟨rfl, rfl, rfl, by decide +kernel, rfl, by decide +kernel, by decide +kernel⟩
theorem ok_wrong {f : Addr} {fd : FuncData} (F : Fun K "_law_wrong" "_law_wrong" sLWrong f fd) (hm : mg "_law_wrong" = some (.ref f)) (bb : Binds K fd ["pool", "many", "size"] []) (T : Txt mg) (G : Cal P w K mg base 2 "_law_take" spTake []) : Cal P w K mg base 3 "_law_wrong" spWrong [] := by
  refine mkCal F hm bb scWr (fun vs H Q E h => ?_) (fun cdv A outer s H vs Q E hr h => ?_)
  · obtain ⟨p, c, ts, sz, rfl, _⟩ := h
    rfl
  obtain ⟨p, c, ts, n0, rfl, hP, h20, h400, hsz, hs0, q⟩ := h
  refine ⟨_, (pss_cons (ps_set (i := 3) scWr.nd rfl (.inl rfl) (pe_op op_sub (pv 1) pe_int))
    (pss_cut (ps_set (i := 4) scWr.nd rfl (.inl rfl) (pe_lst (pa_cons (pe_tup (pa_cons (pe_tup (pa_cons pe_str (pa_cons pe_str pa_nil))) (pa_cons pe_str pa_nil))) (pa_cons (pe_tup (pa_cons (pe_tup pa_nil) (pa_cons pe_str pa_nil))) (pa_cons (pe_tup (pa_cons (pe_tup (pa_cons pe_str (pa_cons pe_int pa_nil))) (pa_cons pe_str pa_nil))) (pa_cons (pe_tup (pa_cons (pe_tup (pa_cons pe_str pa_nil)) (pa_cons pe_str pa_nil))) pa_nil))))))
    (pss_cut (ps_set (i := 4) scWr.nd rfl (.inl rfl) (pe_op op_cat (pv 4) (pe_lst (pa_cons (pe_tup (pa_cons (pe_tup (pa_cons pe_str (pa_cons pe_str (pa_cons pe_str pa_nil)))) (pa_cons pe_str pa_nil))) (pa_cons (pe_tup (pa_cons (pe_tup (pa_cons pe_str (pa_cons (pe_op op_mulS pe_str pe_int) pa_nil))) (pa_cons pe_str pa_nil))) (pa_cons (pe_tup (pa_cons (pe_tup (pa_cons pe_str (pa_cons pe_str pa_nil))) (pa_cons pe_str pa_nil))) pa_nil))))))
    (pss_cut (ps_set (i := 4) scWr.nd rfl (.inl rfl) (pe_op op_cat (pv 4) (pe_lst (pa_cons (pe_tup (pa_cons (pe_tup (pa_cons pe_str (pa_cons (pv 1) (pa_cons (pv 1) pa_nil)))) (pa_cons pe_str pa_nil))) (pa_cons (pe_tup (pa_cons (pe_tup (pa_cons pe_str (pa_cons (pe_un un_neg pe_int) (pa_cons pe_int pa_nil)))) (pa_cons pe_str pa_nil))) (pa_cons (pe_tup (pa_cons (pe_tup (pa_cons pe_str (pa_cons (pv 1) (pa_cons pe_int pa_nil)))) (pa_cons pe_str pa_nil))) pa_nil))))))
    (pss_cut (ps_set (i := 4) scWr.nd rfl (.inl rfl) (pe_op op_cat (pv 4) (pe_lst (pa_cons (pe_tup (pa_cons (pe_tup (pa_cons pe_str (pa_cons (pe_op op_add (pv 1) pe_int) (pa_cons pe_int (pa_cons pe_int pa_nil))))) (pa_cons pe_str pa_nil))) (pa_cons (pe_tup (pa_cons (pe_tup (pa_cons pe_str (pa_cons (pv 1) pa_nil))) (pa_cons pe_str pa_nil))) (pa_cons (pe_tup (pa_cons (pe_tup (pa_cons pe_str (pa_cons (pe_un un_neg pe_int) pa_nil))) (pa_cons pe_str pa_nil))) pa_nil))))))
    (pss_cut (ps_set (i := 4) scWr.nd rfl (.inl rfl) (pe_op op_cat (pv 4) (pe_lst (pa_cons (pe_tup (pa_cons (pe_tup (pa_cons pe_str (pa_cons (pv 1) (pa_cons (pe_un un_neg pe_int) pa_nil)))) (pa_cons pe_str pa_nil))) (pa_cons (pe_tup (pa_cons (pe_tup (pa_cons pe_str (pa_cons (pv 1) (pa_cons pe_int (pa_cons pe_int pa_nil))))) (pa_cons pe_str pa_nil))) (pa_cons (pe_tup (pa_cons (pe_tup (pa_cons pe_str (pa_cons (pv 1) pa_nil))) (pa_cons pe_str pa_nil))) pa_nil))))))
    (pss_cut (ps_set (i := 4) scWr.nd rfl (.inl rfl) (pe_op op_cat (pv 4) (pe_lst (pa_cons (pe_tup (pa_cons (pe_tup (pa_cons pe_str (pa_cons (pe_op op_mulS pe_str pe_int) (pa_cons pe_int pa_nil)))) (pa_cons pe_str pa_nil))) (pa_cons (pe_tup (pa_cons (pe_tup (pa_cons pe_str (pa_cons (pv 1) (pa_cons pe_int pa_nil)))) (pa_cons pe_str pa_nil))) pa_nil)))))
    (pss_cut (ps_if (pt_cmpR op_gt (pv 1) pe_int (nomark _)) (pss_cut (ps_set (i := 4) scWr.nd rfl (.inl rfl) (pe_op op_cat (pv 4) (pe_lst (pa_cons (pe_tup (pa_cons (pe_tup (pa_cons pe_str (pa_cons (pv 3) pa_nil))) (pa_cons pe_str pa_nil))) (pa_cons (pe_tup (pa_cons (pe_tup (pa_cons pe_str (pa_cons (pv 3) (pa_cons (pv 1) pa_nil)))) (pa_cons pe_str pa_nil))) (pa_cons (pe_tup (pa_cons (pe_tup (pa_cons pe_str (pa_cons (pv 3) (pa_cons (pe_un un_neg pe_int) pa_nil)))) (pa_cons pe_str pa_nil))) pa_nil))))))
    (pss_cut (ps_set (i := 4) scWr.nd rfl (.inl rfl) (pe_op op_cat (pv 4) (pe_lst (pa_cons (pe_tup (pa_cons (pe_tup (pa_cons pe_str (pa_cons (pv 3) (pa_cons (pe_op op_add (pe_op op_pow pe_int pe_int) pe_int) pa_nil)))) (pa_cons pe_str pa_nil))) (pa_cons (pe_tup (pa_cons (pe_tup (pa_cons pe_str (pa_cons (pv 3) (pa_cons pe_int (pa_cons (pe_op op_add (pv 2) pe_int) pa_nil))))) (pa_cons pe_str pa_nil))) pa_nil)))))
    (pss_cut (ps_set (i := 4) scWr.nd rfl (.inl rfl) (pe_op op_cat (pv 4) (pe_lst (pa_cons (pe_tup (pa_cons (pe_tup (pa_cons pe_str (pa_cons (pv 3) (pa_cons (pe_un un_neg pe_int) (pa_cons pe_int pa_nil))))) (pa_cons pe_str pa_nil))) (pa_cons (pe_tup (pa_cons (pe_tup (pa_cons pe_str (pa_cons (pv 3) (pa_cons (pe_op op_add (pv 2) pe_int) (pa_cons (pe_op op_add (pv 2) pe_int) pa_nil))))) (pa_cons pe_str pa_nil))) pa_nil)))))
    (pss_one (ps_set (i := 4) scWr.nd rfl (.inl rfl) (pe_op op_cat (pv 4) (pe_lst (pa_cons (pe_tup (pa_cons (pe_tup (pa_cons pe_str (pa_cons (pv 3) (pa_cons (pv 3) pa_nil)))) (pa_cons pe_str pa_nil))) (pa_cons (pe_tup (pa_cons (pe_tup (pa_cons pe_str (pa_cons (pv 3) (pa_cons pe_int pa_nil)))) (pa_cons pe_str pa_nil))) (pa_cons (pe_tup (pa_cons (pe_tup (pa_cons pe_str (pa_cons (pv 3) (pa_cons pe_int (pa_cons pe_int pa_nil))))) (pa_cons pe_str pa_nil))) pa_nil)))))))))) pss_nil)
    (pss_cut (ps_if (pt_cmpR op_gt (pv 2) pe_int (nomark _)) (pss_one (ps_set (i := 4) scWr.nd rfl (.inl rfl) (pe_op op_cat (pv 4) (pe_lst (pa_cons (pe_tup (pa_cons (pe_tup (pa_cons pe_str (pa_cons (pv 3) (pa_cons (pe_op op_add (pe_op op_fdivW (pe_op op_pow pe_int pe_int) (pv 2)) pe_int) pa_nil)))) (pa_cons pe_str pa_nil))) (pa_cons (pe_tup (pa_cons (pe_tup (pa_cons pe_str (pa_cons (pv 3) (pa_cons (pe_op op_pow pe_int pe_int) pa_nil)))) (pa_cons pe_str pa_nil))) pa_nil)))))) pss_nil)
    (pss_one (ps_ret (pe_ix ix_list (pv 4) (pe_c G hr (by decide) (by rfl) (pa_cons (pv 0) (pa_cons (pe_callB call_len_seq (by rfl) T.len PySem.boot_len (pa_cons (pv 4) pa_nil)) pa_nil))) (fun _ _ => rfl))))))))))))), ?_⟩
  refine ⟨_, rfl, _, _, rfl, rfl, ?_⟩
  generalize hn : ts.length = n at h20 hsz hs0 ⊢
  have zW : ("word" : Str).length ≤ 100 := by decide +kernel
  have zL : ("length" : Str).length ≤ 100 := by decide +kernel
  have zT : ("letters" : Str).length ≤ 100 := by decide +kernel
  have zR : ("rule" : Str).length ≤ 100 := by decide +kernel
  have zP : ("power" : Str).length ≤ 100 := by decide +kernel
  have zA : ("part" : Str).length ≤ 100 := by decide +kernel
  have zG : ("large" : Str).length ≤ 100 := by decide +kernel
  have two : (2 : Nat) ≤ sizeLine := by decide

  have e97 : V.str "a" = V.str (S [97]) := by rw [show ("a" : Str) = S [97] by decide +kernel]
  have eaN : ("a\n" : Str) = S [97, 10] := by decide +kernel
  have e12 : (10 : Int) ^ (12 : Int).toNat = big12 := by decide +kernel
  refine ⟨(fun σ H' => ∃ (D : Addr) (bs : List Addr), σ = [some (.ref p), some (.int (n : Int)), some (.int (n0 : Int)), some (.int ((n : Int) - 1)), some (.ref D)] ∧ Bads ts H' D bs ∧ 1 ≤ bs.length ∧ bs.length ≤ 4 ∧ Pool H' p c ∧ Same H H' ∧ D ≠ p), ?_, ?_⟩
  · have H0e : H = H := rfl
    have hS : Same H H := Same.refl H
    refine ⟨by show 2 ≤ sizeLine; decide, fun t0 nt0 => ⟨two, fun u0 nu0 => ?_⟩⟩
    have w0 : Wrong ts [.str "letter", .str "a"] "word" := .word _ _ (.inl rfl)
    have b0 := Bad.mk w0 zW nt0 nu0
    have s0 := pair_same (o := .tup [.str "letter", .str "a"]) (o2 := .tup [.ref t0, .str "word"]) nt0 nu0
    refine ⟨Nat.zero_le _, fun t1 nt1 => ⟨two, fun u1 nu1 => ?_⟩⟩
    have w1 : Wrong ts [] "word" := .nil
    have b1 := Bad.mk w1 zW nt1 nu1
    have s1 := pair_same (o := .tup []) (o2 := .tup [.ref t1, .str "word"]) nt1 nu1
    refine ⟨by show 2 ≤ sizeLine; decide, fun t2 nt2 => ⟨two, fun u2 nu2 => ?_⟩⟩
    have w2 : Wrong ts [.str "", .int 0] "word" := .word _ _ (.inr rfl)
    have b2 := Bad.mk w2 zW nt2 nu2
    have s2 := pair_same (o := .tup [.str "", .int 0]) (o2 := .tup [.ref t2, .str "word"]) nt2 nu2
    refine ⟨by show 1 ≤ sizeLine; decide, fun t3 nt3 => ⟨two, fun u3 nu3 => ?_⟩⟩
    have w3 : Wrong ts [.str "letters"] "length" := .len (.letters []) [] (by decide)
    have b3 := Bad.mk w3 zL nt3 nu3
    have s3 := pair_same (o := .tup [.str "letters"]) (o2 := .tup [.ref t3, .str "length"]) nt3 nu3
    refine ⟨by show 4 ≤ sizeLine; decide, fun l nl => ?_⟩
    have sl := same_new (o := .lst [.ref u0, .ref u1, .ref u2, .ref u3]) nl
    have sA := (((s0.trans s1).trans s2).trans s3).trans sl
    have f0 := (((b0.same s1).same s2).same s3).same sl
    have f1 := ((b1.same s2).same s3).same sl
    have f2 := (b2.same s3).same sl
    have f3 := b3.same sl
    exact ⟨l, [u0, u1, u2, u3], rfl, ⟨upd_same, fun b hb => by
      simp only [List.mem_cons, List.not_mem_nil, or_false] at hb
      rcases hb with rfl | rfl | rfl | rfl
      · exact f0
      · exact f1
      · exact f2
      · exact f3⟩, by show 1 ≤ 4; decide, by show 4 ≤ 4; decide, hP.same sA, sA, ((hP.same (((s0.trans s1).trans s2).trans s3)).ne nl).1⟩
  rintro σ H0 ⟨D, bs, rfl, hB, hb1, hbn, hP0, sH, hDp⟩
  refine ⟨(fun σ H' => ∃ (D : Addr) (bs : List Addr), σ = [some (.ref p), some (.int (n : Int)), some (.int (n0 : Int)), some (.int ((n : Int) - 1)), some (.ref D)] ∧ Bads ts H' D bs ∧ 1 ≤ bs.length ∧ bs.length ≤ 7 ∧ Pool H' p c ∧ Same H H' ∧ D ≠ p), ?_, ?_⟩
  · refine ⟨_, rfl, ?_⟩
    have hS : Same H0 H0 := Same.refl H0
    refine ⟨by show 3 ≤ sizeLine; decide, fun t0 nt0 => ⟨two, fun u0 nu0 => ?_⟩⟩
    have w0 : Wrong ts [.str "letters", .str "a", .str "b"] "length" := .len (.letters []) [.str "a", .str "b"] (by decide)
    have b0 := Bad.mk w0 zL nt0 nu0
    have s0 := pair_same (o := .tup [.str "letters", .str "a", .str "b"]) (o2 := .tup [.ref t0, .str "length"]) nt0 nu0
    refine ⟨[97], 65, e97, rfl, by decide, by decide, by decide, by show 2 ≤ sizeLine; decide, fun t1 nt1 => ⟨two, fun u1 nu1 => ?_⟩⟩
    have w1 : Wrong ts [.str "letters", .str (S (List.replicate 65 [97]).flatten)] "letters" := .told _ (by decide) (.inl (by decide))
    have b1 := Bad.mk w1 zT nt1 nu1
    have s1 := pair_same (o := .tup [.str "letters", .str (S (List.replicate 65 [97]).flatten)]) (o2 := .tup [.ref t1, .str "letters"]) nt1 nu1
    refine ⟨by show 2 ≤ sizeLine; decide, fun t2 nt2 => ⟨two, fun u2 nu2 => ?_⟩⟩
    have w2 : Wrong ts [.str "letters", .str "a\n"] "letters" := (by rw [eaN]; exact .told _ (by decide) (.inr (ten_letters rfl)))
    have b2 := Bad.mk w2 zT nt2 nu2
    have s2 := pair_same (o := .tup [.str "letters", .str "a\n"]) (o2 := .tup [.ref t2, .str "letters"]) nt2 nu2
    refine ⟨by show 3 ≤ sizeLine; decide, fun l nl => ?_⟩
    have sl := same_new (o := .lst [.ref u0, .ref u1, .ref u2]) nl
    have sA := ((s0.trans s1).trans s2).trans sl
    have f0 := ((b0.same s1).same s2).same sl
    have f1 := (b1.same s2).same sl
    have f2 := b2.same sl
    refine ⟨D, l, _, _, rfl, rfl, sA _ _ hB.at_, upd_same, by rw [List.length_map]; exact sz (show bs.length + 3 ≤ 100000 by omega), fun D2 nD2 => ?_⟩
    have sD2 := same_new (o := .lst (bs.map V.ref ++ [.ref u0, .ref u1, .ref u2])) nD2
    refine ⟨D2, bs ++ [u0, u1, u2], rfl, ⟨by rw [upd_same, List.map_append]; rfl, fun b hb => ?_⟩, by simp, by simp; omega, (hP0.same sA).same sD2, (sH.trans sA).trans sD2, ((hP0.same sA).ne nD2).1⟩
    rcases List.mem_append.mp hb with hb | hb
    · exact ((hB.all b hb).same sA).same sD2
    · simp only [List.mem_cons, List.not_mem_nil, or_false] at hb
      rcases hb with rfl | rfl | rfl
      · exact f0.same sD2
      · exact f1.same sD2
      · exact f2.same sD2
  rintro σ H0 ⟨D, bs, rfl, hB, hb1, hbn, hP0, sH, hDp⟩
  refine ⟨(fun σ H' => ∃ (D : Addr) (bs : List Addr), σ = [some (.ref p), some (.int (n : Int)), some (.int (n0 : Int)), some (.int ((n : Int) - 1)), some (.ref D)] ∧ Bads ts H' D bs ∧ 1 ≤ bs.length ∧ bs.length ≤ 10 ∧ Pool H' p c ∧ Same H H' ∧ D ≠ p), ?_, ?_⟩
  · refine ⟨_, rfl, ?_⟩
    have hS : Same H0 H0 := Same.refl H0
    refine ⟨_, rfl, _, rfl, by show 3 ≤ sizeLine; decide, fun t0 nt0 => ⟨two, fun u0 nu0 => ?_⟩⟩
    have w0 : Wrong ts [.str "join", .int (n : Int), .int (n : Int)] "rule" := .rule (.join 0 0) [(n : Int), (n : Int)] rfl rfl (all1 (inR_out (.inr (by omega))))
    have b0 := Bad.mk w0 zR nt0 nu0
    have s0 := pair_same (o := .tup [.str "join", .int (n : Int), .int (n : Int)]) (o2 := .tup [.ref t0, .str "rule"]) nt0 nu0
    refine ⟨_, rfl, by show 3 ≤ sizeLine; decide, fun t1 nt1 => ⟨two, fun u1 nu1 => ?_⟩⟩
    have w1 : Wrong ts [.str "join", .int (-1), .int 0] "rule" := .rule (.join 0 0) [-1, 0] rfl rfl (all1 (inR_out (.inl (by decide))))
    have b1 := Bad.mk w1 zR nt1 nu1
    have s1 := pair_same (o := .tup [.str "join", .int (-1), .int 0]) (o2 := .tup [.ref t1, .str "rule"]) nt1 nu1
    refine ⟨_, rfl, by show 3 ≤ sizeLine; decide, fun t2 nt2 => ⟨two, fun u2 nu2 => ?_⟩⟩
    have w2 : Wrong ts [.str "power", .int (n : Int), .int 2] "rule" := .rule (.power 0 0) [(n : Int), 2] rfl rfl (all1 (inR_out (.inr (by omega))))
    have b2 := Bad.mk w2 zR nt2 nu2
    have s2 := pair_same (o := .tup [.str "power", .int (n : Int), .int 2]) (o2 := .tup [.ref t2, .str "rule"]) nt2 nu2
    refine ⟨by show 3 ≤ sizeLine; decide, fun l nl => ?_⟩
    have sl := same_new (o := .lst [.ref u0, .ref u1, .ref u2]) nl
    have sA := ((s0.trans s1).trans s2).trans sl
    have f0 := ((b0.same s1).same s2).same sl
    have f1 := (b1.same s2).same sl
    have f2 := b2.same sl
    refine ⟨D, l, _, _, rfl, rfl, sA _ _ hB.at_, upd_same, by rw [List.length_map]; exact sz (show bs.length + 3 ≤ 100000 by omega), fun D2 nD2 => ?_⟩
    have sD2 := same_new (o := .lst (bs.map V.ref ++ [.ref u0, .ref u1, .ref u2])) nD2
    refine ⟨D2, bs ++ [u0, u1, u2], rfl, ⟨by rw [upd_same, List.map_append]; rfl, fun b hb => ?_⟩, by simp, by simp; omega, (hP0.same sA).same sD2, (sH.trans sA).trans sD2, ((hP0.same sA).ne nD2).1⟩
    rcases List.mem_append.mp hb with hb | hb
    · exact ((hB.all b hb).same sA).same sD2
    · simp only [List.mem_cons, List.not_mem_nil, or_false] at hb
      rcases hb with rfl | rfl | rfl
      · exact f0.same sD2
      · exact f1.same sD2
      · exact f2.same sD2
  rintro σ H0 ⟨D, bs, rfl, hB, hb1, hbn, hP0, sH, hDp⟩
  refine ⟨(fun σ H' => ∃ (D : Addr) (bs : List Addr), σ = [some (.ref p), some (.int (n : Int)), some (.int (n0 : Int)), some (.int ((n : Int) - 1)), some (.ref D)] ∧ Bads ts H' D bs ∧ 1 ≤ bs.length ∧ bs.length ≤ 13 ∧ Pool H' p c ∧ Same H H' ∧ D ≠ p), ?_, ?_⟩
  · refine ⟨_, rfl, ?_⟩
    have hS : Same H0 H0 := Same.refl H0
    refine ⟨_, rfl, _, _, rfl, rfl, by show 4 ≤ sizeLine; decide, fun t0 nt0 => ⟨two, fun u0 nu0 => ?_⟩⟩
    have w0 : Wrong ts [.str "part", .int ((n : Int) + 3), .int 0, .int 0] "rule" := .rule (.part 0 0 0) [(n : Int) + 3, 0, 0] rfl rfl (all1 (inR_out (.inr (by omega))))
    have b0 := Bad.mk w0 zR nt0 nu0
    have s0 := pair_same (o := .tup [.str "part", .int ((n : Int) + 3), .int 0, .int 0]) (o2 := .tup [.ref t0, .str "rule"]) nt0 nu0
    refine ⟨_, rfl, by show 2 ≤ sizeLine; decide, fun t1 nt1 => ⟨two, fun u1 nu1 => ?_⟩⟩
    have w1 : Wrong ts [.str "back", .int (n : Int)] "rule" := .rule (.back 0) [(n : Int)] rfl rfl (all1 (inR_out (.inr (by omega))))
    have b1 := Bad.mk w1 zR nt1 nu1
    have s1 := pair_same (o := .tup [.str "back", .int (n : Int)]) (o2 := .tup [.ref t1, .str "rule"]) nt1 nu1
    refine ⟨_, rfl, by show 2 ≤ sizeLine; decide, fun t2 nt2 => ⟨two, fun u2 nu2 => ?_⟩⟩
    have w2 : Wrong ts [.str "back", .int (-1)] "rule" := .rule (.back 0) [-1] rfl rfl (all1 (inR_out (.inl (by decide))))
    have b2 := Bad.mk w2 zR nt2 nu2
    have s2 := pair_same (o := .tup [.str "back", .int (-1)]) (o2 := .tup [.ref t2, .str "rule"]) nt2 nu2
    refine ⟨by show 3 ≤ sizeLine; decide, fun l nl => ?_⟩
    have sl := same_new (o := .lst [.ref u0, .ref u1, .ref u2]) nl
    have sA := ((s0.trans s1).trans s2).trans sl
    have f0 := ((b0.same s1).same s2).same sl
    have f1 := (b1.same s2).same sl
    have f2 := b2.same sl
    refine ⟨D, l, _, _, rfl, rfl, sA _ _ hB.at_, upd_same, by rw [List.length_map]; exact sz (show bs.length + 3 ≤ 100000 by omega), fun D2 nD2 => ?_⟩
    have sD2 := same_new (o := .lst (bs.map V.ref ++ [.ref u0, .ref u1, .ref u2])) nD2
    refine ⟨D2, bs ++ [u0, u1, u2], rfl, ⟨by rw [upd_same, List.map_append]; rfl, fun b hb => ?_⟩, by simp, by simp; omega, (hP0.same sA).same sD2, (sH.trans sA).trans sD2, ((hP0.same sA).ne nD2).1⟩
    rcases List.mem_append.mp hb with hb | hb
    · exact ((hB.all b hb).same sA).same sD2
    · simp only [List.mem_cons, List.not_mem_nil, or_false] at hb
      rcases hb with rfl | rfl | rfl
      · exact f0.same sD2
      · exact f1.same sD2
      · exact f2.same sD2
  rintro σ H0 ⟨D, bs, rfl, hB, hb1, hbn, hP0, sH, hDp⟩
  refine ⟨(fun σ H' => ∃ (D : Addr) (bs : List Addr), σ = [some (.ref p), some (.int (n : Int)), some (.int (n0 : Int)), some (.int ((n : Int) - 1)), some (.ref D)] ∧ Bads ts H' D bs ∧ 1 ≤ bs.length ∧ bs.length ≤ 16 ∧ Pool H' p c ∧ Same H H' ∧ D ≠ p), ?_, ?_⟩
  · refine ⟨_, rfl, ?_⟩
    have hS : Same H0 H0 := Same.refl H0
    refine ⟨_, rfl, _, rfl, by show 3 ≤ sizeLine; decide, fun t0 nt0 => ⟨two, fun u0 nu0 => ?_⟩⟩
    have w0 : Wrong ts [.str "power", .int (n : Int), .int (-1)] "rule" := .rule (.power 0 0) [(n : Int), -1] rfl rfl (all1 (inR_out (.inr (by omega))))
    have b0 := Bad.mk w0 zR nt0 nu0
    have s0 := pair_same (o := .tup [.str "power", .int (n : Int), .int (-1)]) (o2 := .tup [.ref t0, .str "rule"]) nt0 nu0
    refine ⟨_, rfl, by show 4 ≤ sizeLine; decide, fun t1 nt1 => ⟨two, fun u1 nu1 => ?_⟩⟩
    have w1 : Wrong ts [.str "part", .int (n : Int), .int 5, .int 2] "rule" := .rule (.part 0 0 0) [(n : Int), 5, 2] rfl rfl (all1 (inR_out (.inr (by omega))))
    have b1 := Bad.mk w1 zR nt1 nu1
    have s1 := pair_same (o := .tup [.str "part", .int (n : Int), .int 5, .int 2]) (o2 := .tup [.ref t1, .str "rule"]) nt1 nu1
    refine ⟨_, rfl, by show 2 ≤ sizeLine; decide, fun t2 nt2 => ⟨two, fun u2 nu2 => ?_⟩⟩
    have w2 : Wrong ts [.str "join", .int (n : Int)] "length" := .len (.join 0 0) [.int (n : Int)] (by simp [Rule.vals])
    have b2 := Bad.mk w2 zL nt2 nu2
    have s2 := pair_same (o := .tup [.str "join", .int (n : Int)]) (o2 := .tup [.ref t2, .str "length"]) nt2 nu2
    refine ⟨by show 3 ≤ sizeLine; decide, fun l nl => ?_⟩
    have sl := same_new (o := .lst [.ref u0, .ref u1, .ref u2]) nl
    have sA := ((s0.trans s1).trans s2).trans sl
    have f0 := ((b0.same s1).same s2).same sl
    have f1 := (b1.same s2).same sl
    have f2 := b2.same sl
    refine ⟨D, l, _, _, rfl, rfl, sA _ _ hB.at_, upd_same, by rw [List.length_map]; exact sz (show bs.length + 3 ≤ 100000 by omega), fun D2 nD2 => ?_⟩
    have sD2 := same_new (o := .lst (bs.map V.ref ++ [.ref u0, .ref u1, .ref u2])) nD2
    refine ⟨D2, bs ++ [u0, u1, u2], rfl, ⟨by rw [upd_same, List.map_append]; rfl, fun b hb => ?_⟩, by simp, by simp; omega, (hP0.same sA).same sD2, (sH.trans sA).trans sD2, ((hP0.same sA).ne nD2).1⟩
    rcases List.mem_append.mp hb with hb | hb
    · exact ((hB.all b hb).same sA).same sD2
    · simp only [List.mem_cons, List.not_mem_nil, or_false] at hb
      rcases hb with rfl | rfl | rfl
      · exact f0.same sD2
      · exact f1.same sD2
      · exact f2.same sD2
  rintro σ H0 ⟨D, bs, rfl, hB, hb1, hbn, hP0, sH, hDp⟩
  refine ⟨(fun σ H' => ∃ (D : Addr) (bs : List Addr), σ = [some (.ref p), some (.int (n : Int)), some (.int (n0 : Int)), some (.int ((n : Int) - 1)), some (.ref D)] ∧ Bads ts H' D bs ∧ 1 ≤ bs.length ∧ bs.length ≤ 18 ∧ Pool H' p c ∧ Same H H' ∧ D ≠ p), ?_, ?_⟩
  · refine ⟨_, rfl, ?_⟩
    have hS : Same H0 H0 := Same.refl H0
    refine ⟨[97], 65, e97, rfl, by decide, by decide, by decide, by show 3 ≤ sizeLine; decide, fun t0 nt0 => ⟨two, fun u0 nu0 => ?_⟩⟩
    have w0 : Wrong ts [.str "letters", .str (S (List.replicate 65 [97]).flatten), .int 1] "length" := .len (.letters []) [_, _] (by simp [Rule.vals])
    have b0 := Bad.mk w0 zL nt0 nu0
    have s0 := pair_same (o := .tup [.str "letters", .str (S (List.replicate 65 [97]).flatten), .int 1]) (o2 := .tup [.ref t0, .str "length"]) nt0 nu0
    refine ⟨_, rfl, by show 3 ≤ sizeLine; decide, fun t1 nt1 => ⟨two, fun u1 nu1 => ?_⟩⟩
    have w1 : Wrong ts [.str "part", .int (n : Int), .int 0] "length" := .len (.part 0 0 0) [_, _] (by simp [Rule.vals])
    have b1 := Bad.mk w1 zL nt1 nu1
    have s1 := pair_same (o := .tup [.str "part", .int (n : Int), .int 0]) (o2 := .tup [.ref t1, .str "length"]) nt1 nu1
    refine ⟨by show 2 ≤ sizeLine; decide, fun l nl => ?_⟩
    have sl := same_new (o := .lst [.ref u0, .ref u1]) nl
    have sA := (s0.trans s1).trans sl
    have f0 := (b0.same s1).same sl
    have f1 := b1.same sl
    refine ⟨D, l, _, _, rfl, rfl, sA _ _ hB.at_, upd_same, by rw [List.length_map]; exact sz (show bs.length + 2 ≤ 100000 by omega), fun D2 nD2 => ?_⟩
    have sD2 := same_new (o := .lst (bs.map V.ref ++ [.ref u0, .ref u1])) nD2
    refine ⟨D2, bs ++ [u0, u1], rfl, ⟨by rw [upd_same, List.map_append]; rfl, fun b hb => ?_⟩, by simp, by simp; omega, (hP0.same sA).same sD2, (sH.trans sA).trans sD2, ((hP0.same sA).ne nD2).1⟩
    rcases List.mem_append.mp hb with hb | hb
    · exact ((hB.all b hb).same sA).same sD2
    · simp only [List.mem_cons, List.not_mem_nil, or_false] at hb
      rcases hb with rfl | rfl
      · exact f0.same sD2
      · exact f1.same sD2
  rintro σ H0 ⟨D, bs, rfl, hB, hb1, hbn, hP0, sH, hDp⟩
  refine ⟨(fun σ H' => ∃ (D : Addr) (bs : List Addr), σ = [some (.ref p), some (.int (n : Int)), some (.int (n0 : Int)), some (.int ((n : Int) - 1)), some (.ref D)] ∧ Bads ts H' D bs ∧ 1 ≤ bs.length ∧ bs.length ≤ 28 ∧ Pool H' p c ∧ Same H H' ∧ D ≠ p), ?_, ?_⟩
  · refine ⟨_, rfl, _, _, rfl, rfl, _, rfl, ?_⟩
    refine ite2 (fun z => ?_) (fun _ => ⟨D, bs, rfl, hB, hb1, Nat.le_trans hbn (by decide), hP0, sH, hDp⟩)
    have np : 0 < n := by have : (0 : Int) < (n : Int) := of_decide_eq_true z; omega
    have eL : (n : Int) - 1 = ((n - 1 : Nat) : Int) := by omega
    have hlen := hsz np
    have hlenI : ((tx ts (n - 1)).length : Int) = (n0 : Int) := by rw [hlen]
    refine ⟨(fun σ H' => ∃ (D : Addr) (bs : List Addr), σ = [some (.ref p), some (.int (n : Int)), some (.int (n0 : Int)), some (.int ((n : Int) - 1)), some (.ref D)] ∧ Bads ts H' D bs ∧ 1 ≤ bs.length ∧ bs.length ≤ 21 ∧ Pool H' p c ∧ Same H H' ∧ D ≠ p), ?_, ?_⟩
    · refine ⟨_, rfl, ?_⟩
      have hS : Same H0 H0 := Same.refl H0
      refine ⟨_, rfl, by show 2 ≤ sizeLine; decide, fun t0 nt0 => ⟨two, fun u0 nu0 => ?_⟩⟩
      have w0 : Wrong ts [.str "join", .int ((n : Int) - 1)] "length" := .len (.join 0 0) [_] (by simp [Rule.vals])
      have b0 := Bad.mk w0 zL nt0 nu0
      have s0 := pair_same (o := .tup [.str "join", .int ((n : Int) - 1)]) (o2 := .tup [.ref t0, .str "length"]) nt0 nu0
      refine ⟨_, rfl, _, rfl, by show 3 ≤ sizeLine; decide, fun t1 nt1 => ⟨two, fun u1 nu1 => ?_⟩⟩
      have w1 : Wrong ts [.str "join", .int ((n : Int) - 1), .int (n : Int)] "rule" := .rule (.join 0 0) [((n : Int) - 1), (n : Int)] rfl rfl (all2 (inR_out (.inr (by omega))))
      have b1 := Bad.mk w1 zR nt1 nu1
      have s1 := pair_same (o := .tup [.str "join", .int ((n : Int) - 1), .int (n : Int)]) (o2 := .tup [.ref t1, .str "rule"]) nt1 nu1
      refine ⟨_, rfl, _, rfl, by show 3 ≤ sizeLine; decide, fun t2 nt2 => ⟨two, fun u2 nu2 => ?_⟩⟩
      have w2 : Wrong ts [.str "power", .int ((n : Int) - 1), .int (-1)] "power" := .late (.power 0 0) [((n : Int) - 1), -1] _ rfl rfl (allOne (inR_in ⟨by omega, by omega⟩)) ⟨n - 1, -1, by rw [eL], .inl ⟨by decide, rfl⟩⟩
      have b2 := Bad.mk w2 zP nt2 nu2
      have s2 := pair_same (o := .tup [.str "power", .int ((n : Int) - 1), .int (-1)]) (o2 := .tup [.ref t2, .str "power"]) nt2 nu2
      refine ⟨by show 3 ≤ sizeLine; decide, fun l nl => ?_⟩
      have sl := same_new (o := .lst [.ref u0, .ref u1, .ref u2]) nl
      have sA := ((s0.trans s1).trans s2).trans sl
      have f0 := ((b0.same s1).same s2).same sl
      have f1 := (b1.same s2).same sl
      have f2 := b2.same sl
      refine ⟨D, l, _, _, rfl, rfl, sA _ _ hB.at_, upd_same, by rw [List.length_map]; exact sz (show bs.length + 3 ≤ 100000 by omega), fun D2 nD2 => ?_⟩
      have sD2 := same_new (o := .lst (bs.map V.ref ++ [.ref u0, .ref u1, .ref u2])) nD2
      refine ⟨D2, bs ++ [u0, u1, u2], rfl, ⟨by rw [upd_same, List.map_append]; rfl, fun b hb => ?_⟩, by simp, by simp; omega, (hP0.same sA).same sD2, (sH.trans sA).trans sD2, ((hP0.same sA).ne nD2).1⟩
      rcases List.mem_append.mp hb with hb | hb
      · exact ((hB.all b hb).same sA).same sD2
      · simp only [List.mem_cons, List.not_mem_nil, or_false] at hb
        rcases hb with rfl | rfl | rfl
        · exact f0.same sD2
        · exact f1.same sD2
        · exact f2.same sD2
    rintro σ H0 ⟨D, bs, rfl, hB, hb1, hbn, hP0, sH, hDp⟩
    refine ⟨(fun σ H' => ∃ (D : Addr) (bs : List Addr), σ = [some (.ref p), some (.int (n : Int)), some (.int (n0 : Int)), some (.int ((n : Int) - 1)), some (.ref D)] ∧ Bads ts H' D bs ∧ 1 ≤ bs.length ∧ bs.length ≤ 23 ∧ Pool H' p c ∧ Same H H' ∧ D ≠ p), ?_, ?_⟩
    · refine ⟨_, rfl, ?_⟩
      have hS : Same H0 H0 := Same.refl H0
      refine ⟨_, rfl, _, _, rfl, rfl, ⟨by decide, by decide, by decide⟩, _, _, rfl, rfl, by show 3 ≤ sizeLine; decide, fun t0 nt0 => ⟨two, fun u0 nu0 => ?_⟩⟩
      have w0 : Wrong ts [.str "power", .int ((n : Int) - 1), .int ((10 : Int) ^ (12 : Int).toNat + 1)] "power" := .late (.power 0 0) [((n : Int) - 1), (10 : Int) ^ (12 : Int).toNat + 1] _ rfl rfl (allOne (inR_in ⟨by omega, by omega⟩)) ⟨n - 1, _, by rw [eL], .inl ⟨by rw [e12]; decide, rfl⟩⟩
      have b0 := Bad.mk w0 zP nt0 nu0
      have s0 := pair_same (o := .tup [.str "power", .int ((n : Int) - 1), .int ((10 : Int) ^ (12 : Int).toNat + 1)]) (o2 := .tup [.ref t0, .str "power"]) nt0 nu0
      refine ⟨_, rfl, _, rfl, _, _, rfl, rfl, by show 4 ≤ sizeLine; decide, fun t1 nt1 => ⟨two, fun u1 nu1 => ?_⟩⟩
      have w1 : Wrong ts [.str "part", .int ((n : Int) - 1), .int 0, .int ((n0 : Int) + 1)] "part" := .late (.part 0 0 0) [((n : Int) - 1), 0, (n0 : Int) + 1] _ rfl rfl (allOne (inR_in ⟨by omega, by omega⟩)) ⟨n - 1, _, _, by rw [eL], by omega, rfl⟩
      have b1 := Bad.mk w1 zA nt1 nu1
      have s1 := pair_same (o := .tup [.str "part", .int ((n : Int) - 1), .int 0, .int ((n0 : Int) + 1)]) (o2 := .tup [.ref t1, .str "part"]) nt1 nu1
      refine ⟨by show 2 ≤ sizeLine; decide, fun l nl => ?_⟩
      have sl := same_new (o := .lst [.ref u0, .ref u1]) nl
      have sA := (s0.trans s1).trans sl
      have f0 := (b0.same s1).same sl
      have f1 := b1.same sl
      refine ⟨D, l, _, _, rfl, rfl, sA _ _ hB.at_, upd_same, by rw [List.length_map]; exact sz (show bs.length + 2 ≤ 100000 by omega), fun D2 nD2 => ?_⟩
      have sD2 := same_new (o := .lst (bs.map V.ref ++ [.ref u0, .ref u1])) nD2
      refine ⟨D2, bs ++ [u0, u1], rfl, ⟨by rw [upd_same, List.map_append]; rfl, fun b hb => ?_⟩, by simp, by simp; omega, (hP0.same sA).same sD2, (sH.trans sA).trans sD2, ((hP0.same sA).ne nD2).1⟩
      rcases List.mem_append.mp hb with hb | hb
      · exact ((hB.all b hb).same sA).same sD2
      · simp only [List.mem_cons, List.not_mem_nil, or_false] at hb
        rcases hb with rfl | rfl
        · exact f0.same sD2
        · exact f1.same sD2
    rintro σ H0 ⟨D, bs, rfl, hB, hb1, hbn, hP0, sH, hDp⟩
    refine ⟨(fun σ H' => ∃ (D : Addr) (bs : List Addr), σ = [some (.ref p), some (.int (n : Int)), some (.int (n0 : Int)), some (.int ((n : Int) - 1)), some (.ref D)] ∧ Bads ts H' D bs ∧ 1 ≤ bs.length ∧ bs.length ≤ 25 ∧ Pool H' p c ∧ Same H H' ∧ D ≠ p), ?_, ?_⟩
    · refine ⟨_, rfl, ?_⟩
      have hS : Same H0 H0 := Same.refl H0
      refine ⟨_, rfl, _, rfl, by show 4 ≤ sizeLine; decide, fun t0 nt0 => ⟨two, fun u0 nu0 => ?_⟩⟩
      have w0 : Wrong ts [.str "part", .int ((n : Int) - 1), .int (-1), .int 0] "part" := .late (.part 0 0 0) [((n : Int) - 1), -1, 0] _ rfl rfl (allOne (inR_in ⟨by omega, by omega⟩)) ⟨n - 1, _, _, by rw [eL], by omega, rfl⟩
      have b0 := Bad.mk w0 zA nt0 nu0
      have s0 := pair_same (o := .tup [.str "part", .int ((n : Int) - 1), .int (-1), .int 0]) (o2 := .tup [.ref t0, .str "part"]) nt0 nu0
      refine ⟨_, rfl, _, rfl, _, _, rfl, rfl, _, rfl, _, _, rfl, rfl, by show 4 ≤ sizeLine; decide, fun t1 nt1 => ⟨two, fun u1 nu1 => ?_⟩⟩
      have w1 : Wrong ts [.str "part", .int ((n : Int) - 1), .int ((n0 : Int) + 1), .int ((n0 : Int) + 1)] "part" := .late (.part 0 0 0) [((n : Int) - 1), (n0 : Int) + 1, (n0 : Int) + 1] _ rfl rfl (allOne (inR_in ⟨by omega, by omega⟩)) ⟨n - 1, _, _, by rw [eL], by omega, rfl⟩
      have b1 := Bad.mk w1 zA nt1 nu1
      have s1 := pair_same (o := .tup [.str "part", .int ((n : Int) - 1), .int ((n0 : Int) + 1), .int ((n0 : Int) + 1)]) (o2 := .tup [.ref t1, .str "part"]) nt1 nu1
      refine ⟨by show 2 ≤ sizeLine; decide, fun l nl => ?_⟩
      have sl := same_new (o := .lst [.ref u0, .ref u1]) nl
      have sA := (s0.trans s1).trans sl
      have f0 := (b0.same s1).same sl
      have f1 := b1.same sl
      refine ⟨D, l, _, _, rfl, rfl, sA _ _ hB.at_, upd_same, by rw [List.length_map]; exact sz (show bs.length + 2 ≤ 100000 by omega), fun D2 nD2 => ?_⟩
      have sD2 := same_new (o := .lst (bs.map V.ref ++ [.ref u0, .ref u1])) nD2
      refine ⟨D2, bs ++ [u0, u1], rfl, ⟨by rw [upd_same, List.map_append]; rfl, fun b hb => ?_⟩, by simp, by simp; omega, (hP0.same sA).same sD2, (sH.trans sA).trans sD2, ((hP0.same sA).ne nD2).1⟩
      rcases List.mem_append.mp hb with hb | hb
      · exact ((hB.all b hb).same sA).same sD2
      · simp only [List.mem_cons, List.not_mem_nil, or_false] at hb
        rcases hb with rfl | rfl
        · exact f0.same sD2
        · exact f1.same sD2
    rintro σ H0 ⟨D, bs, rfl, hB, hb1, hbn, hP0, sH, hDp⟩
    · refine ⟨_, rfl, ?_⟩
      have hS : Same H0 H0 := Same.refl H0
      refine ⟨_, rfl, _, rfl, by show 3 ≤ sizeLine; decide, fun t0 nt0 => ⟨two, fun u0 nu0 => ?_⟩⟩
      have w0 : Wrong ts [.str "back", .int ((n : Int) - 1), .int ((n : Int) - 1)] "length" := .len (.back 0) [_, _] (by simp [Rule.vals])
      have b0 := Bad.mk w0 zL nt0 nu0
      have s0 := pair_same (o := .tup [.str "back", .int ((n : Int) - 1), .int ((n : Int) - 1)]) (o2 := .tup [.ref t0, .str "length"]) nt0 nu0
      refine ⟨_, rfl, by show 3 ≤ sizeLine; decide, fun t1 nt1 => ⟨two, fun u1 nu1 => ?_⟩⟩
      have w1 : Wrong ts [.str "part", .int ((n : Int) - 1), .int 0] "length" := .len (.part 0 0 0) [_, _] (by simp [Rule.vals])
      have b1 := Bad.mk w1 zL nt1 nu1
      have s1 := pair_same (o := .tup [.str "part", .int ((n : Int) - 1), .int 0]) (o2 := .tup [.ref t1, .str "length"]) nt1 nu1
      refine ⟨_, rfl, by show 4 ≤ sizeLine; decide, fun t2 nt2 => ⟨two, fun u2 nu2 => ?_⟩⟩
      have w2 : Wrong ts [.str "part", .int ((n : Int) - 1), .int 1, .int 0] "part" := .late (.part 0 0 0) [((n : Int) - 1), 1, 0] _ rfl rfl (allOne (inR_in ⟨by omega, by omega⟩)) ⟨n - 1, _, _, by rw [eL], by omega, rfl⟩
      have b2 := Bad.mk w2 zA nt2 nu2
      have s2 := pair_same (o := .tup [.str "part", .int ((n : Int) - 1), .int 1, .int 0]) (o2 := .tup [.ref t2, .str "part"]) nt2 nu2
      refine ⟨by show 3 ≤ sizeLine; decide, fun l nl => ?_⟩
      have sl := same_new (o := .lst [.ref u0, .ref u1, .ref u2]) nl
      have sA := ((s0.trans s1).trans s2).trans sl
      have f0 := ((b0.same s1).same s2).same sl
      have f1 := (b1.same s2).same sl
      have f2 := b2.same sl
      refine ⟨D, l, _, _, rfl, rfl, sA _ _ hB.at_, upd_same, by rw [List.length_map]; exact sz (show bs.length + 3 ≤ 100000 by omega), fun D2 nD2 => ?_⟩
      have sD2 := same_new (o := .lst (bs.map V.ref ++ [.ref u0, .ref u1, .ref u2])) nD2
      refine ⟨D2, bs ++ [u0, u1, u2], rfl, ⟨by rw [upd_same, List.map_append]; rfl, fun b hb => ?_⟩, by simp, by simp; omega, (hP0.same sA).same sD2, (sH.trans sA).trans sD2, ((hP0.same sA).ne nD2).1⟩
      rcases List.mem_append.mp hb with hb | hb
      · exact ((hB.all b hb).same sA).same sD2
      · simp only [List.mem_cons, List.not_mem_nil, or_false] at hb
        rcases hb with rfl | rfl | rfl
        · exact f0.same sD2
        · exact f1.same sD2
        · exact f2.same sD2
  rintro σ H0 ⟨D, bs, rfl, hB, hb1, hbn, hP0, sH, hDp⟩
  refine ⟨(fun σ H' => ∃ (D : Addr) (bs : List Addr), σ = [some (.ref p), some (.int (n : Int)), some (.int (n0 : Int)), some (.int ((n : Int) - 1)), some (.ref D)] ∧ Bads ts H' D bs ∧ 1 ≤ bs.length ∧ bs.length ≤ 30 ∧ Pool H' p c ∧ Same H H' ∧ D ≠ p), ?_, ?_⟩
  · refine ⟨_, rfl, _, _, rfl, rfl, _, rfl, ?_⟩
    refine ite2 (fun z => ?_) (fun _ => ⟨D, bs, rfl, hB, hb1, Nat.le_trans hbn (by decide), hP0, sH, hDp⟩)
    have n02 : 1 < n0 := by have : (1 : Int) < (n0 : Int) := of_decide_eq_true z; omega
    have np : 0 < n := by
      rcases Nat.eq_zero_or_pos n with e | e
      · have := hs0 e; omega
      · exact e
    have eL : (n : Int) - 1 = ((n - 1 : Nat) : Int) := by omega
    have hlen := hsz np
    have hlenI : ((tx ts (n - 1)).length : Int) = (n0 : Int) := by rw [hlen]
    have szp : (0 : Int) < (n0 : Int) := by omega
    have hdm := Int.mul_ediv_add_emod big12 (n0 : Int)
    have hmod := Int.emod_lt_of_pos big12 szp
    have hmod0 := Int.emod_nonneg big12 (show (n0 : Int) ≠ 0 by omega)
    have hq0 : 0 ≤ big12 / (n0 : Int) := Int.ediv_nonneg (by decide) (by omega)
    have hq2 : big12 / (n0 : Int) * 2 ≤ big12 := by
      have h1 : big12 / (n0 : Int) * 2 ≤ big12 / (n0 : Int) * (n0 : Int) := Int.mul_le_mul_of_nonneg_left (by omega) hq0
      rw [Int.mul_comm _ (n0 : Int)] at h1
      omega
    have b12 : big12 = 1000000000000 := rfl
    have kq : 0 ≤ (10 : Int) ^ (12 : Int).toNat / (n0 : Int) + 1 ∧ (10 : Int) ^ (12 : Int).toNat / (n0 : Int) + 1 ≤ big12 := by rw [e12]; omega
    have kbig : big12 < ((tx ts (n - 1)).length : Int) * ((10 : Int) ^ (12 : Int).toNat / (n0 : Int) + 1) := by
      rw [e12, hlenI, Int.mul_add]
      omega
    have tbig : big12 < ((tx ts (n - 1)).length : Int) * (10 : Int) ^ (12 : Int).toNat := by
      rw [e12, hlenI, b12]
      omega
    · refine ⟨_, rfl, ?_⟩
      have hS : Same H0 H0 := Same.refl H0
      refine ⟨_, rfl, _, _, rfl, rfl, ⟨by decide, by decide, by decide⟩, _, rfl, _, _, rfl, rfl, wide_div (b := 41) szp (by omega) (by decide) (by decide), _, _, rfl, rfl, by show 3 ≤ sizeLine; decide, fun t0 nt0 => ⟨two, fun u0 nu0 => ?_⟩⟩
      have w0 : Wrong ts [.str "power", .int ((n : Int) - 1), .int ((10 : Int) ^ (12 : Int).toNat / (n0 : Int) + 1)] "large" := .late (.power 0 0) [((n : Int) - 1), ((10 : Int) ^ (12 : Int).toNat / (n0 : Int) + 1)] _ rfl rfl (allOne (inR_in ⟨by omega, by omega⟩)) ⟨n - 1, _, by rw [eL], .inr ⟨kq, kbig, rfl⟩⟩
      have b0 := Bad.mk w0 zG nt0 nu0
      have s0 := pair_same (o := .tup [.str "power", .int ((n : Int) - 1), .int ((10 : Int) ^ (12 : Int).toNat / (n0 : Int) + 1)]) (o2 := .tup [.ref t0, .str "large"]) nt0 nu0
      refine ⟨_, rfl, _, _, rfl, rfl, ⟨by decide, by decide, by decide⟩, by show 3 ≤ sizeLine; decide, fun t1 nt1 => ⟨two, fun u1 nu1 => ?_⟩⟩
      have w1 : Wrong ts [.str "power", .int ((n : Int) - 1), .int ((10 : Int) ^ (12 : Int).toNat)] "large" := .late (.power 0 0) [((n : Int) - 1), (10 : Int) ^ (12 : Int).toNat] _ rfl rfl (allOne (inR_in ⟨by omega, by omega⟩)) ⟨n - 1, _, by rw [eL], .inr ⟨by rw [e12]; decide, tbig, rfl⟩⟩
      have b1 := Bad.mk w1 zG nt1 nu1
      have s1 := pair_same (o := .tup [.str "power", .int ((n : Int) - 1), .int ((10 : Int) ^ (12 : Int).toNat)]) (o2 := .tup [.ref t1, .str "large"]) nt1 nu1
      refine ⟨by show 2 ≤ sizeLine; decide, fun l nl => ?_⟩
      have sl := same_new (o := .lst [.ref u0, .ref u1]) nl
      have sA := (s0.trans s1).trans sl
      have f0 := (b0.same s1).same sl
      have f1 := b1.same sl
      refine ⟨D, l, _, _, rfl, rfl, sA _ _ hB.at_, upd_same, by rw [List.length_map]; exact sz (show bs.length + 2 ≤ 100000 by omega), fun D2 nD2 => ?_⟩
      have sD2 := same_new (o := .lst (bs.map V.ref ++ [.ref u0, .ref u1])) nD2
      refine ⟨D2, bs ++ [u0, u1], rfl, ⟨by rw [upd_same, List.map_append]; rfl, fun b hb => ?_⟩, by simp, by simp; omega, (hP0.same sA).same sD2, (sH.trans sA).trans sD2, ((hP0.same sA).ne nD2).1⟩
      rcases List.mem_append.mp hb with hb | hb
      · exact ((hB.all b hb).same sA).same sD2
      · simp only [List.mem_cons, List.not_mem_nil, or_false] at hb
        rcases hb with rfl | rfl
        · exact f0.same sD2
        · exact f1.same sD2
  rintro σ H0 ⟨D, bs, rfl, hB, hb1, hbn, hP0, sH, hDp⟩
  have lb : (bs.map V.ref).length = bs.length := List.length_map _
  refine ⟨_, rfl, _, rfl, _, rfl, D, _, rfl, .inl (SqL.of hB.at_), p, c, _, rfl, by rw [lb]; omega, by rw [lb]; omega, hP0, fun r H1 r0 r1 hP1 f1 => ?_⟩
  rw [lb] at r1
  obtain ⟨r, rfl⟩ := Int.eq_ofNat_of_zero_le r0
  have hr : r < bs.length := by omega
  have hD1 := f1 _ _ hDp hB.at_
  refine ⟨D, _, _, _, rfl, rfl, SqL.of hD1, atI_nat (v := .ref bs[r]) (by rw [List.getElem?_map, List.getElem?_eq_getElem hr]; rfl), ?_⟩
  obtain ⟨ra, vals, z, h1, h2, h3⟩ := hB.all _ (List.getElem_mem hr)
  have nep : ∀ {a : Addr} {xs : List V}, H0 a = some (.tup xs) → a ≠ p := fun e => by obtain ⟨_, _, _, _, hp⟩ := id hP0; exact ne_of e hp.at_ (by intro z; cases z)
  exact q _ H1 ⟨ra, vals, z, f1 _ _ (nep h1) h1, f1 _ _ (nep h2) h2, h3⟩ ((Same.frm sH).trans f1) hP1
end
theorem Sound.take {rs : List Rule} {ts : List (List Nat)} (s : Sound rs ts) (n : Nat) : Sound (rs.take n) (ts.take n) := by
  refine ⟨by rw [List.length_take, List.length_take, s.len], fun k r h => ?_, fun l hl => s.le l (List.mem_of_mem_take hl)⟩
  have hk : k < n := by
    have := (List.getElem?_eq_some_iff.mp h).1
    rw [List.length_take] at this
    omega
  rw [List.getElem?_take_of_lt hk] at h
  rw [List.take_take, Nat.min_eq_left (by omega), List.getElem?_take_of_lt hk]
  exact s.ok k r h
/-- six rules of a great text -/
theorem great_sound {t : Nat} (ht : t ≤ 1000000) : ∃ ts : List (List Nat), Sound [.letters [97, 98], .power 0 t, .power 1 100000, .letters [99], .power 3 (1000000000000 - 2 * t * 100000), .join 2 4] ts ∧ ts.length = 6 ∧ (tx ts 5).length = 1000000000000 := by
  have q0 : Sound [.letters [97, 98]] [[97, 98]] := one_sound (by decide) (by decide +kernel)
  obtain ⟨x1, e1⟩ : ∃ x, x = pw [97, 98] t := ⟨_, rfl⟩
  have l1 : x1.length = t * 2 := by rw [e1, pw_len]; rfl
  have q1 := q0.add1 (r := .power 0 t) (x := x1) ⟨by decide, by show t ≤ 10 ^ 12; omega⟩ (by rw [e1]; rfl) (by omega)
  obtain ⟨x2, e2⟩ : ∃ x, x = pw x1 100000 := ⟨_, rfl⟩
  have l2 : x2.length = 100000 * (t * 2) := by rw [e2, pw_len, l1]
  have q2 := q1.add1 (r := .power 1 100000) (x := x2) ⟨by show 1 < 2; decide, by decide⟩ (by rw [e2]; rfl) (by omega)
  have q3 := q2.add1 (r := .letters [99]) (x := [99]) ⟨by decide, by decide +kernel⟩ rfl (by decide)
  obtain ⟨x4, e4⟩ : ∃ x, x = pw [99] (1000000000000 - 2 * t * 100000) := ⟨_, rfl⟩
  have l4 : x4.length = 1000000000000 - 2 * t * 100000 := by rw [e4, pw_len]; simp
  have q4 := q3.add1 (r := .power 3 (1000000000000 - 2 * t * 100000)) (x := x4) ⟨by show 3 < 4; decide, by show _ ≤ 10 ^ 12; omega⟩ (by rw [e4]; rfl) (by omega)
  have l5 : (x2 ++ x4).length = 1000000000000 := by rw [List.length_append, l2, l4]; omega
  have q5 := q4.add1 (r := .join 2 4) (x := x2 ++ x4) ⟨by show 2 < 5; decide, by show 4 < 5; decide⟩ rfl (by omega)
  exact ⟨_, q5, rfl, l5⟩
section
variable {P : Program} {w : World} {K : PySem.W.Frag} {mg : Str → Option Value} {base : Heap}
def spGreat : Sp := fun vs H Q _ => ∃ p c : Addr, vs = [.ref p] ∧ Pool H p c ∧ ∀ (R : Addr) (as : List Addr) (rs : List Rule) (ts : List (List Nat)) (H' : Hp), RLs H' R as (rs.map Rule.vals) → Sound rs ts → rs.length = 6 → ts.length = 6 → (tx ts 5).length = 1000000000000 → Frm p H H' → Pool H' p c → Q (.ref R) H'
theorem scGr : FnScope ["pool", "times", "rest", "rules"] ["pool"] (defScope sLGreat) := ⟨rfl, rfl, rfl, by decide +kernel, rfl, by decide +kernel, by decide +kernel⟩
theorem ok_great {f : Addr} {fd : FuncData} (F : Fun K "_law_great" "_law_great" sLGreat f fd) (hm : mg "_law_great" = some (.ref f)) (bb : Binds K fd ["pool"] []) (T : Txt mg) (G : Cal P w K mg base 2 "_law_take" spTake []) : Cal P w K mg base 3 "_law_great" spGreat [] := by
  refine mkCal F hm bb scGr (fun vs H Q E h => ?_) (fun cdv A outer s H vs Q E hr h => ?_)
  · obtain ⟨p, c, rfl, _⟩ := h
    rfl
  obtain ⟨p, c, rfl, hP, q⟩ := h
  refine ⟨_, (pss_cons (ps_set (i := 1) scGr.nd rfl (.inl rfl) (pe_ix ix_tup (pe_tup (pa_cons pe_int (pa_cons pe_int (pa_cons (pe_op op_pow pe_int pe_int) (pa_cons pe_int pa_nil))))) (pe_c G hr (by decide) (by rfl) (pa_cons (pv 0) (pa_cons pe_int pa_nil))) (fun _ _ => rfl)))
    (pss_cons (ps_set (i := 2) scGr.nd rfl (.inl rfl) (pe_op op_sub (pe_op op_pow pe_int pe_int) (pe_op op_mul (pe_op op_mul pe_int (pv 1)) (pe_op op_pow pe_int pe_int))))
    (pss_cons (ps_set (i := 3) scGr.nd rfl (.inl rfl) (pe_lst (pa_cons (pe_tup (pa_cons pe_str (pa_cons pe_str pa_nil))) (pa_cons (pe_tup (pa_cons pe_str (pa_cons pe_int (pa_cons (pv 1) pa_nil)))) (pa_cons (pe_tup (pa_cons pe_str (pa_cons pe_int (pa_cons (pe_op op_pow pe_int pe_int) pa_nil)))) (pa_cons (pe_tup (pa_cons pe_str (pa_cons pe_str pa_nil))) (pa_cons (pe_tup (pa_cons pe_str (pa_cons pe_int (pa_cons (pv 2) pa_nil)))) pa_nil)))))))
    (pss_cons (ps_expr (pe_bm PySem.F.plainAttrs_list PySem.F.slot_list_append PySem.F.type_list_append mt_append (pv 3) (pa_cons (pe_tup (pa_cons pe_str (pa_cons pe_int (pa_cons pe_int pa_nil)))) pa_nil)))
    (pss_one (ps_ret (pv 3))))))), ?_⟩
  refine ⟨_, _, rfl, rfl, ⟨by decide, by decide, by decide⟩, by show 4 ≤ sizeLine; decide, fun u nu => ?_⟩
  have hup := hP.ne nu
  refine ⟨_, rfl, p, c, 4, rfl, by decide, by decide, hP.new nu, fun r H1 r0 r1 hP1 f1 => ?_⟩
  have eu := f1 u _ hup.1 upd_same
  obtain ⟨t, ht, et⟩ : ∃ t : Nat, t ≤ 1000000 ∧ atI [V.int 1, V.int 3, V.int ((10 : Int) ^ (6 : Int).toNat), V.int 999999] r = some (.int (t : Int)) := by
    have h3 : r = 0 ∨ r = 1 ∨ r = 2 ∨ r = 3 := by omega
    rcases h3 with rfl | rfl | rfl | rfl
    · exact ⟨1, by omega, atI_nat (j := 0) rfl⟩
    · exact ⟨3, by omega, atI_nat (j := 1) rfl⟩
    · exact ⟨1000000, by omega, atI_nat (j := 2) (by decide +kernel)⟩
    · exact ⟨999999, by omega, atI_nat (j := 3) rfl⟩
  refine ⟨u, _, r, _, rfl, rfl, SqT.of eu, et, ?_⟩
  have F1 : Frm p H H1 := (Frm.refl.new nu).trans f1
  have e12 : (10 : Int) ^ (12 : Int).toNat = 1000000000000 := by decide +kernel
  have e5 : (10 : Int) ^ (5 : Int).toNat = 100000 := by decide +kernel
  refine ⟨_, _, rfl, rfl, ⟨by decide, by decide, by decide⟩, _, rfl, _, _, rfl, rfl, .inl ⟨by decide, by decide⟩, _, _, rfl, rfl, ⟨by decide, by decide, by decide⟩, _, _, rfl, rfl, .inr ⟨by decide, by decide⟩, _, _, rfl, rfl, ?_⟩
  dsimp only
  rw [e12, e5, show (1000000000000 : Int) - 2 * (t : Int) * 100000 = ((1000000000000 - 2 * t * 100000 : Nat) : Int) by omega]
  generalize hre : 1000000000000 - 2 * t * 100000 = re
  refine ⟨by show 2 ≤ sizeLine; decide, fun t0 n0 => ⟨_, rfl, by show 3 ≤ sizeLine; decide, fun t1 n1 => ⟨_, _, rfl, rfl, ⟨by decide, by decide, by decide⟩, by show 3 ≤ sizeLine; decide, fun t2 n2 => ⟨by show 2 ≤ sizeLine; decide, fun t3 n3 => ⟨_, rfl, by show 3 ≤ sizeLine; decide, fun t4 n4 => ⟨by show 5 ≤ sizeLine; decide, fun R nR => ?_⟩⟩⟩⟩⟩⟩
  have g0 := ((((LT.nil.put (xs := [.str "letters", .str "ab"]) n0).put (xs := [.str "power", .int 0, .int (t : Int)]) n1).put (xs := [.str "power", .int 1, .int ((10 : Int) ^ (5 : Int).toNat)]) n2).put (xs := [.str "letters", .str "c"]) n3).put (xs := [.str "power", .int 3, .int (re : Int)]) n4
  have gR := g0.lst (xs := [.ref t0, .ref t1, .ref t2, .ref t3, .ref t4]) nR rfl
  have s5 := ((((same_new (o := .tup [.str "letters", .str "ab"]) n0).trans (same_new (o := .tup [.str "power", .int 0, .int (t : Int)]) n1)).trans (same_new (o := .tup [.str "power", .int 1, .int ((10 : Int) ^ (5 : Int).toNat)]) n2)).trans (same_new (o := .tup [.str "letters", .str "c"]) n3)).trans (same_new (o := .tup [.str "power", .int 3, .int (re : Int)]) n4)
  have sR := s5.trans (same_new (o := .lst [.ref t0, .ref t1, .ref t2, .ref t3, .ref t4]) nR)
  have hPR := hP1.same sR
  have hRp := (hP1.same s5).ne nR
  refine ⟨_, rfl, .inl ⟨rfl, _, SqL.of gR.at_⟩, by show 3 ≤ sizeLine; decide, fun t5 n5 => ?_⟩
  have st5 := same_new (o := .tup [.str "join", .int 2, .int 4]) n5
  have g5 := (gR.same st5).app (z := t5) upd_same
  refine ⟨R, _, _, rfl, rfl, (gR.same st5).at_, by show 5 < sizeLine; decide, ?_⟩
  obtain ⟨ts, hs, hl, h5⟩ := great_sound ht
  rw [hre] at hs
  have eab : ("ab" : Str) = S [97, 98] := by decide +kernel
  have ec : ("c" : Str) = S [99] := by decide +kernel
  refine ⟨_, rfl, q R _ _ ts _ (cast (congrArg (RLs _ R _) ?_) g5) hs rfl hl h5 ?_ ((hPR.same st5).upd hRp)⟩
  · rw [eab, ec, e5]
    rfl
  · exact (F1.trans (Same.frm (sR.trans st5))).updN (F1.none (s5.free nR) hRp.1)
end
theorem sz' {n : Nat} (h : n ≤ 1000) : n ≤ sizeLine := sz (by omega)
theorem cut_to {xs : List V} {n : Nat} : cutV xs none (some (n : Int)) = xs.take n := by
  unfold cutV
  rw [HT.sIx_none, HT.sIx_nat, List.drop_zero, Nat.sub_zero]
  rcases Nat.le_total n xs.length with h | h
  · rw [Nat.min_eq_left h]
  · rw [Nat.min_eq_right h, List.take_of_length_le h, List.take_length]
theorem cut_from {xs : List V} {n : Nat} (h : n ≤ xs.length) : cutV xs (some (n : Int)) none = xs.drop n := by
  unfold cutV
  rw [HT.sIx_none, HT.sIx_nat, Nat.min_eq_left h]
  apply List.take_of_length_le
  rw [List.length_drop]
  omega
theorem LT.part {H : Hp} {as : List Addr} {vss : List (List V)} (h : LT H as vss) (n : Nat) : LT H (as.take n) (vss.take n) ∧ LT H (as.drop n) (vss.drop n) := by
  refine ⟨⟨by rw [List.length_take, List.length_take, h.1], fun k vs e => ?_⟩, ⟨by rw [List.length_drop, List.length_drop, h.1], fun k vs e => ?_⟩⟩
  · have hk : k < n := by
      have := (List.getElem?_eq_some_iff.mp e).1
      rw [List.length_take] at this
      omega
    rw [List.getElem?_take_of_lt hk] at e ⊢
    exact h.2 k vs e
  · rw [List.getElem?_drop] at e ⊢
    exact h.2 _ vs e
theorem long_sound : ∀ n : Nat, Sound ([.letters [97]] ++ (List.range n).map Rule.back) (List.replicate (n + 1) [97])
  | 0 => one_sound (by decide) (by decide +kernel)
  | n + 1 => by
    have q := (long_sound n).add1 (r := .back n) (x := [97]) (by show n < _; rw [List.length_replicate]; omega) (by
      show (tx _ n).reverse = _
      unfold tx
      rw [List.getD_eq_getElem?_getD, List.getElem?_replicate, if_pos (by omega)]
      rfl) (by decide)
    rw [List.range_succ, List.map_append, ← List.append_assoc, List.replicate_succ']
    exact q
theorem split_at {α : Type} {l : List α} {n : Nat} (h : n < l.length) : l = l.take n ++ l[n] :: l.drop (n + 1) := by
  rw [← List.drop_eq_getElem_cons h, List.take_append_drop]
def rLstOf (K : PySem.W.Frag) : List V → Hp → VK → Prop := fun xs H Q => ∃ p ys, xs = [.ref p] ∧ (SqL K H p ys ∨ SqT K H p ys) ∧ ∀ l, H l = none → Q (.ref l) (upd H l (.lst ys))
theorem count_sh : SeqAt.shaped (.tuple [.none, .str "count"]) = true := by decide +kernel
theorem count_eqv : PyData.eqv (.tuple [.none, .str "count"]) (.tuple [.none, .str "count"]) = true := by simp [PyData.eqv, PyData.eqvAll]
section
variable {P : Program} {w : World} {K : PySem.W.Frag} {mg : Str → Option Value} {base : Heap}
def spLaw (K : PySem.W.Frag) : Sp := fun vs H Q _ => ∃ (a : Addr) (ns : List Int), vs = [.ref a] ∧ SqL K H a (ns.map V.int) ∧ ns.length ≤ 63 ∧ ∀ H', Q (.bl true) H'
theorem scL : FnScope ["script", "pool", "rules", "texts", "at", "size", "wrong", "reason", "spoilt", "rule", "long", "k", "great", "more"] ["script"] (defScope sLaw) := ⟨rfl, rfl, rfl, by decide +kernel, rfl, by decide +kernel, by decide +kernel⟩
theorem ok_law {f : Addr} {fd : FuncData} (F : Fun K "law" "law" sLaw f fd) (T : Txt mg) (GP : Cal P w K mg base 1 "_law_pool" (spPool K) []) (GR : Cal P w K mg base 5 "_law_rules" spRules []) (G : Cal P w K mg base 2 "_law_take" spTake []) (GS : Cal P w K mg base 4 "_law_same" (spSame 2) [])
    (GTd : Cal P w K mg base 6 "_law_told" spTold []) (GWr : Cal P w K mg base 3 "_law_wrong" spWrong []) (GGr : Cal P w K mg base 3 "_law_great" spGreat []) : FnOk P w K mg base CX0 7 f fd ["script"] (spLaw K) := by
  refine F.ok scL (fun vs H Q E h => ?_) (fun cdv A outer s H vs Q E hr h => ?_)
  · obtain ⟨a, ns, rfl, _⟩ := h
    rfl
  obtain ⟨a, ns, rfl, hS, hlen, q⟩ := h
  have hu : (A.deeper (envOfC "law" (defScope sLaw) s.heap.objs.size f cdv)).units + 64 < cLine := by have := hr.un; omega
  refine ⟨_, (pss_cons (ps_set (i := 1) scL.nd rfl (.inl rfl) (pe_c GP hr (by decide) (by rfl) (pa_cons (pv 0) pa_nil)))
    (pss_cons (ps_asg (pe_c GR hr (by decide) (by rfl) (pa_cons (pv 1) (pa_cons pe_int pa_nil))) (pg_tup rfl (pgs_cons (pg_name (i := 2) scL.nd rfl (.inl rfl)) (pgs_cons (pg_name (i := 3) scL.nd rfl (.inl rfl)) pgs_nil))))
    (pss_cons (ps_if (PW.pt (pw_or (pt_cmpR op_notN (pe_c GTd hr (by decide) (by rfl) (pa_cons (pv 2) pa_nil)) pe_non (nomark _)) (pw_or1 (pt_cmpR (r := rNeD K) (op_neD hu) (pe_c GTd hr (by decide) (by rfl) (pa_cons (pe_lst pa_nil) pa_nil)) (pe_tup (pa_cons pe_non (pa_cons pe_str pa_nil))) (nomark _))))) (pss_one (ps_ret pe_bl)) pss_nil)
    (pss_cons (ps_set (i := 4) scL.nd rfl (.inl rfl) (pe_c G hr (by decide) (by rfl) (pa_cons (pv 1) (pa_cons (pe_op op_add (pe_callB call_len_seq (by rfl) T.len PySem.boot_len (pa_cons (pv 2) pa_nil)) pe_int) pa_nil))))
    (pss_cons (ps_set (i := 5) scL.nd rfl (.inl rfl) pe_int)
    (pss_cut (ps_if (pt_cmpR op_gt (pv 4) pe_int (nomark _)) (pss_one (ps_set (i := 5) scL.nd rfl (.inl rfl) (pe_callB call_len_str (by rfl) T.len PySem.boot_len (pa_cons (pe_ix ix_list (pv 3) (pe_op op_sub (pv 4) pe_int) (fun _ _ => rfl)) pa_nil)))) pss_nil)
    (pss_cons (ps_asg (pe_c GWr hr (by decide) (by rfl) (pa_cons (pv 1) (pa_cons (pv 4) (pa_cons (pv 5) pa_nil)))) (pg_tup rfl (pgs_cons (pg_name (i := 6) scL.nd rfl (.inl rfl)) (pgs_cons (pg_name (i := 7) scL.nd rfl (.inl rfl)) pgs_nil))))
    (pss_cons (ps_set (i := 8) scL.nd rfl (.inl rfl) (pe_op op_cat (pe_op op_cat (pe_slice sl_list (pv 2) po_none (po_some (pv 4))) (pe_lst (pa_cons (pv 6) pa_nil))) (pe_slice sl_list (pv 2) (po_some (pv 4)) po_none)))
    (pss_cons (ps_if (PW.pt (pw_or (pt_not (pt_val (pe_c GS hr (by decide) (by rfl) (pa_cons (pe_c GTd hr (by decide) (by rfl) (pa_cons (pv 8) pa_nil)) (pa_cons (pe_tup (pa_cons (pv 4) (pa_cons (pv 7) pa_nil))) pa_nil))))) (pw_or1 (pt_not (pt_val (pe_c GS hr (by decide) (by rfl) (pa_cons (pe_c GTd hr (by decide) (by rfl) (pa_cons (pe_callTy call_tuple_of (by rfl) T.tuple (by decide +kernel) (pa_cons (pv 8) pa_nil)) pa_nil)) (pa_cons (pe_tup (pa_cons (pv 4) (pa_cons (pv 7) pa_nil))) pa_nil)))))))) (pss_one (ps_ret pe_bl)) pss_nil)
    (pss_cons (ps_if (pt_not (pt_val (pe_c GS hr (by decide) (by rfl) (pa_cons (pe_c GTd hr (by decide) (by rfl) (pa_cons (pe_lc (own := [("rule", 9)]) (g := gName 9) (te := tCB (rLstOf K) (tCons (tVar 9) tNil)) (tt := tYes) rfl scL.nd (pi_list (pv 8)) (blkOk_by (N := ["script", "pool", "rules", "texts", "at", "size", "wrong", "reason", "spoilt", "rule", "long", "k", "great", "more"]) (sc := defScope sLaw) (by decide +kernel)) (fun _ _ _ _ _ => (pg_name (i := 9) scL.nd rfl (.inl rfl))) (fun _ _ _ _ _ => pts_nil) (fun _ _ _ _ _ => (pe_callTy call_list_of (by rfl) T.list (by decide +kernel) (pa_cons (pv 9) pa_nil)))) pa_nil)) (pa_cons (pe_tup (pa_cons (pv 4) (pa_cons (pv 7) pa_nil))) pa_nil))))) (pss_one (ps_ret pe_bl)) pss_nil)
    (pss_cons (ps_if (pt_not (pt_val (pe_c GS hr (by decide) (by rfl) (pa_cons (pe_c GTd hr (by decide) (by rfl) (pa_cons (pe_op op_cat (pe_slice sl_list (pv 8) po_none (po_some (pe_op op_add (pv 4) pe_int))) (pe_lst (pa_cons (pe_tup (pa_cons pe_str (pa_cons pe_int pa_nil))) (pa_cons (pe_tup pa_nil) pa_nil)))) pa_nil)) (pa_cons (pe_tup (pa_cons (pv 4) (pa_cons (pv 7) pa_nil))) pa_nil))))) (pss_one (ps_ret pe_bl)) pss_nil)
    (pss_cons (ps_set (i := 10) scL.nd rfl (.inl rfl) (pe_op op_cat (pe_lst (pa_cons (pe_tup (pa_cons pe_str (pa_cons pe_str pa_nil))) pa_nil)) (pe_lc (own := [("k", 11)]) (g := gName 11) (tt := tYes) rfl scL.nd (pi_range1 (by rfl) T.range (pa_cons pe_int pa_nil)) (blkOk_by (N := ["script", "pool", "rules", "texts", "at", "size", "wrong", "reason", "spoilt", "rule", "long", "k", "great", "more"]) (sc := defScope sLaw) (by decide +kernel)) (fun _ _ _ _ _ => (pg_name (i := 11) scL.nd rfl (.inl rfl))) (fun _ _ _ _ _ => pts_nil) (fun _ _ _ _ _ => (pe_tup (pa_cons pe_str (pa_cons (pv 11) pa_nil)))))))
    (pss_cons (ps_if (PW.pt (pw_or (pt_cmpR op_notN (pe_c GTd hr (by decide) (by rfl) (pa_cons (pv 10) pa_nil)) pe_non (nomark _)) (pw_or1 (pt_cmpR (r := rNeD K) (op_neD hu) (pe_c GTd hr (by decide) (by rfl) (pa_cons (pe_op op_cat (pv 10) (pe_lst (pa_cons (pe_tup (pa_cons pe_str pa_nil)) pa_nil))) pa_nil)) (pe_tup (pa_cons pe_non (pa_cons pe_str pa_nil))) (nomark _))))) (pss_one (ps_ret pe_bl)) pss_nil)
    (pss_cons (ps_set (i := 12) scL.nd rfl (.inl rfl) (pe_c GGr hr (by decide) (by rfl) (pa_cons (pv 1) pa_nil)))
    (pss_cons (ps_if (pt_cmpR op_notN (pe_c GTd hr (by decide) (by rfl) (pa_cons (pv 12) pa_nil)) pe_non (nomark _)) (pss_one (ps_ret pe_bl)) pss_nil)
    (pss_cons (ps_set (i := 13) scL.nd rfl (.inl rfl) (pe_callB call_len_seq (by rfl) T.len PySem.boot_len (pa_cons (pv 12) pa_nil)))
    (pss_one (ps_ret (pe_c GS hr (by decide) (by rfl) (pa_cons (pe_c GTd hr (by decide) (by rfl) (pa_cons (pe_op op_cat (pv 12) (pe_lst (pa_cons (pe_tup (pa_cons pe_str (pa_cons pe_str pa_nil))) (pa_cons (pe_tup (pa_cons pe_str (pa_cons (pv 13) (pa_cons (pe_op op_sub (pv 13) pe_int) pa_nil)))) pa_nil)))) pa_nil)) (pa_cons (pe_tup (pa_cons (pe_op op_add (pv 13) pe_int) (pa_cons pe_str pa_nil))) pa_nil))))))))))))))))))))), ?_⟩
  refine ⟨_, rfl, a, ns, rfl, hS, hlen, fun p c H1 hP1 s1 np nc => ?_⟩
  refine ⟨_, rfl, p, c, rfl, hP1, fun q0 R U as rs ts H2 d2 hr1 hr20 hP2 f2 nR nU hR hU hq0 => ?_⟩
  refine ⟨q0, _, rfl, SqT.of hq0, rfl, _, _, rfl, _, _, rfl, rfl, ?_⟩
  have snd := d2.good.sound
  have rl : RLs H2 R as (rs.map Rule.vals) := ⟨d2.ra, d2.lt⟩
  have la : as.length = rs.length := by have := d2.lt.1; simpa using this
  have tl : ts.length = rs.length := d2.good.len
  -- right rules; no rules
  refine ⟨_, rfl, R, rfl, .inl ⟨as, rs, ts, rl, snd, hr1, by omega, fun H3 s3 => ⟨rfl, _, rfl, ifF rfl ?_⟩⟩⟩
  refine ⟨Nat.zero_le _, fun D nD => ?_⟩
  refine ⟨D, rfl, .inr ⟨.non, "count", .inl ⟨[], .inr upd_same, .inl (by decide), by decide, rfl, rfl⟩, fun t H4 s4 ht => ⟨by show 2 ≤ sizeLine; decide, fun u nu => ?_⟩⟩⟩
  have su := same_new (o := .tup [.non, .str "count"]) nu
  refine ⟨.tuple [.none, .str "count"], .tuple [.none, .str "count"], .tup (SqT.of (su _ _ ht)) (.cons .non (.cons (.str _) .nil)), .tup (SqT.of upd_same) (.cons .non (.cons (.str _) .nil)), count_sh, count_sh, _, rfl, ?_⟩
  rw [count_eqv]
  refine ifF rfl ?_
  have s5 := ((s3.trans (same_new (o := .lst []) nD)).trans s4).trans su
  have rl5 := rl.same s5
  have hP5 := hP2.same s5
  have hU5 := s5 _ _ d2.ta
  generalize upd H4 u (.tup [.non, .str "count"]) = H5 at rl5 hP5 hU5 ⊢
  clear s5 su s4 s3
  -- at
  have lR : (as.map V.ref).length = rs.length := by rw [List.length_map, la]
  refine ⟨_, rfl, _, rfl, R, _, rfl, .inl (SqL.of rl5.at_), _, _, rfl, rfl, p, c, _, rfl, by rw [lR]; omega, by rw [lR]; omega, hP5, fun at_ H6 a0 a1 hP6 f6 => ?_⟩
  rw [lR] at a1
  obtain ⟨n, rfl⟩ := Int.eq_ofNat_of_zero_le a0
  have hn : n ≤ rs.length := by omega
  have rl6 := rl5.frm hP5 f6 hR.1
  have hU6 := f6 _ _ hU.1 hU5
  -- size
  refine ⟨fun σ H' => H' = H6 ∧ ∃ sz : Nat, sz ≤ 400 ∧ (0 < n → sz = (tx ts (n - 1)).length) ∧ (n = 0 → sz = 0) ∧ σ = [some (.ref a), some (.ref p), some (.ref R), some (.ref U), some (.int (n : Int)), some (.int (sz : Int)), none, none, none, none, none, none, none, none], ?_, ?_⟩
  · refine ⟨_, rfl, _, _, rfl, rfl, _, rfl, ?_⟩
    refine ite2 (fun z => ?_) (fun z => ?_)
    · have z1 : 0 < n := by have : (0 : Int) < (n : Int) := of_decide_eq_true z; omega
      have hb : (tx ts (n - 1)).length ≤ 400 := d2.good.le _ (tx_mem (by omega))
      refine ⟨_, rfl, _, rfl, _, _, rfl, rfl, U, _, (n : Int) - 1, .str (S (tx ts (n - 1))), rfl, rfl, SqL.of hU6, ?_, S (tx ts (n - 1)), rfl, Sz (by omega), ?_⟩
      · rw [show (n : Int) - 1 = ((n - 1 : Nat) : Int) by omega]
        exact tV_at (by omega)
      · rw [S_len]
        exact ⟨rfl, _, hb, fun _ => rfl, fun h => by omega, rfl⟩
    · have z1 : n = 0 := by
        have : ¬ (0 : Int) < (n : Int) := fun h => z (decide_eq_true h)
        omega
      exact ⟨rfl, 0, by decide, fun h => by omega, fun _ => rfl, rfl⟩
  rintro σ H6' ⟨rfl, sz, sz400, sz1, sz0, rfl⟩
  have lt : (ts.take n).length = n := by rw [List.length_take]; omega
  refine ⟨_, rfl, _, rfl, _, rfl, p, c, ts.take n, sz, by rw [lt]; rfl, hP6, by rw [lt]; omega, sz400, fun h => ?_, fun h => sz0 (by rw [lt] at h; exact h), fun b H7 hb f7 hP7 => ?_⟩
  · rw [lt] at h ⊢
    rw [tx_take (by omega)]
    exact sz1 h
  obtain ⟨ra, vals, z, hbt, hra, hW, hz⟩ := hb
  refine ⟨b, _, rfl, SqT.of hbt, rfl, _, _, rfl, _, _, rfl, rfl, ?_⟩
  have rl7 := rl6.frm hP6 f7 hR.1
  -- spoilt
  have hat := rl7.at_
  refine ⟨_, rfl, _, rfl, (n : Int), rfl, R, _, rfl, SqL.of hat, fun D1 n1 => ?_⟩
  have t1 := same_new (o := .lst (cutV (as.map V.ref) none (some (n : Int)))) n1
  refine ⟨_, rfl, by show 1 ≤ sizeLine; decide, fun D2 n2 => ?_⟩
  have t2 := t1.trans (same_new (o := .lst [.ref ra]) n2)
  refine ⟨D1, D2, _, _, rfl, rfl, same_new n2 _ _ upd_same, upd_same, sz' (by have := cutV_length (as.map V.ref) none (some (n : Int)); rw [lR] at this; simp; omega), fun D3 n3 => ?_⟩
  have t3 := t2.trans (same_new (o := .lst (cutV (as.map V.ref) none (some (n : Int)) ++ [.ref ra])) n3)
  refine ⟨_, rfl, _, rfl, (n : Int), rfl, R, _, rfl, SqL.of (t3 _ _ hat), fun D4 n4 => ?_⟩
  have t4 := t3.trans (same_new (o := .lst (cutV (as.map V.ref) (some (n : Int)) none)) n4)
  refine ⟨D3, D4, _, _, rfl, rfl, same_new n4 _ _ upd_same, upd_same, sz' (by have h1 := cutV_length (as.map V.ref) none (some (n : Int)); have h2 := cutV_length (as.map V.ref) (some (n : Int)) none; rw [lR] at h1 h2; simp; omega), fun D5 n5 => ?_⟩
  have t5 := t4.trans (same_new (o := .lst ((cutV (as.map V.ref) none (some (n : Int)) ++ [.ref ra]) ++ cutV (as.map V.ref) (some (n : Int)) none)) n5)
  have hsp : (upd (upd (upd (upd (upd H7 D1 (.lst (cutV (as.map V.ref) none (some (n : Int))))) D2 (.lst [.ref ra])) D3 (.lst (cutV (as.map V.ref) none (some (n : Int)) ++ [.ref ra]))) D4 (.lst (cutV (as.map V.ref) (some (n : Int)) none))) D5 (.lst ((cutV (as.map V.ref) none (some (n : Int)) ++ [.ref ra]) ++ cutV (as.map V.ref) (some (n : Int)) none))) D5 = some (.lst ((as.take n ++ ra :: as.drop n).map V.ref)) := by
    rw [upd_same, cut_to, cut_from (by rw [lR]; exact hn), List.map_append, List.map_cons, List.map_take, List.map_drop]
    simp
  obtain ⟨H8, eH8⟩ : ∃ H8, H8 = (upd (upd (upd (upd (upd H7 D1 (.lst (cutV (as.map V.ref) none (some (n : Int))))) D2 (.lst [.ref ra])) D3 (.lst (cutV (as.map V.ref) none (some (n : Int)) ++ [.ref ra]))) D4 (.lst (cutV (as.map V.ref) (some (n : Int)) none))) D5 (.lst ((cutV (as.map V.ref) none (some (n : Int)) ++ [.ref ra]) ++ cutV (as.map V.ref) (some (n : Int)) none))) := ⟨_, rfl⟩
  rw [← eH8] at hsp t5 ⊢
  have hP8 := hP7.same t5
  have lt8 := rl7.lt.same t5
  have hra8 := t5 _ _ hra
  have lsp : (as.take n ++ ra :: as.drop n).length = rs.length + 1 := by rw [List.length_append, List.length_cons, List.length_take, List.length_drop]; omega
  have rlen : (rs.take n).length = n := by rw [List.length_take]; omega
  have ref : ∀ (H' : Hp) (R' : Addr) (X : List Addr), Same H8 H' → RA H' R' ((as.take n ++ ra :: X).map V.ref) → (as.take n ++ ra :: X).length ≤ 60 → Refused H' R' (.int (n : Int)) z := fun H' R' X s' hR' hl => by
    refine .inr ⟨as.take n, X, ra, rs.take n, ts.take n, vals, hR', ?_, snd.take n, .inl (s' _ _ hra8), hW, hl, hz, by rw [rlen]⟩
    have := ((lt8.same s').part n).1.rl
    rw [← List.map_take] at this
    exact this
  have chk : ∀ (H' : Hp) (t u : Addr), H' t = some (.tup [.int (n : Int), .str z]) → H' u = some (.tup [.int (n : Int), .str z]) → SameD 2 H' (.ref t) (.ref u) := fun H' t u h1 h2 => flat_same h1 h2 (by show 2 ≤ 1000; decide) (fun v hv => by
    simp only [List.mem_cons, List.not_mem_nil, or_false] at hv
    rcases hv with rfl | rfl
    · exact .inl ⟨_, rfl⟩
    · exact .inr ⟨_, rfl⟩)
  -- the list
  refine ⟨_, rfl, D5, rfl, .inr ⟨.int (n : Int), z, ref H8 D5 (as.drop n) (Same.refl _) (.inr hsp) (by omega), fun t H9 s9 ht => ⟨_, rfl, _, rfl, by show 2 ≤ sizeLine; decide, fun u nu => ?_⟩⟩⟩
  have su := same_new (o := .tup [.int (n : Int), .str z]) nu
  refine ⟨_, _, rfl, chk _ _ _ (su _ _ ht) upd_same, fun H10 s10 => ⟨true, rfl, ifF rfl ?_⟩⟩
  have s10 := (s9.trans su).trans s10
  clear su ht nu s9
  -- the tuple
  refine ⟨_, rfl, D5, _, rfl, .inl ⟨SqL.of (s10 _ _ hsp), fun R2 nR2 => ?_⟩⟩
  have sR2 := s10.trans (same_new (o := .tup ((as.take n ++ ra :: as.drop n).map V.ref)) nR2)
  refine ⟨R2, rfl, .inr ⟨.int (n : Int), z, ref _ R2 (as.drop n) sR2 (.inl upd_same) (by omega), fun t H11 s11 ht => ⟨_, rfl, _, rfl, by show 2 ≤ sizeLine; decide, fun u nu => ?_⟩⟩⟩
  have su := same_new (o := .tup [.int (n : Int), .str z]) nu
  refine ⟨_, _, rfl, chk _ _ _ (su _ _ ht) upd_same, fun H12 s12 => ⟨true, rfl, ifF rfl ?_⟩⟩
  have s12 := ((sR2.trans s11).trans su).trans s12
  clear su ht nu s11 sR2 s10 nR2
  -- lists of the rules
  have ltsp : LT H8 (as.take n ++ ra :: as.drop n) (((rs.map Rule.vals).take n) ++ vals :: ((rs.map Rule.vals).drop n)) := by
    have := ((lt8.part n).1.add hra8).cat (lt8.part n).2
    rw [List.append_assoc, List.append_assoc] at this
    exact this
  have lv : (((rs.map Rule.vals).take n) ++ vals :: ((rs.map Rule.vals).drop n)).length = rs.length + 1 := by rw [← ltsp.1]; exact lsp
  refine ⟨_, rfl, D5, rfl, ⟨_, SqL.of (s12 _ _ hsp)⟩, fun DL nDL => ?_⟩
  refine lc_list (K := K) (a := D5) (xs := (as.take n ++ ra :: as.drop n).map V.ref) (fun i H' => Same H12 H' ∧ ∃ bs : List Addr, bs.length = i ∧ H' DL = some (.lst (bs.map V.ref)) ∧ ∀ (k : Nat) (vs : List V), k < i → (((rs.map Rule.vals).take n) ++ vals :: ((rs.map Rule.vals).drop n))[k]? = some vs → ∃ b, bs[k]? = some b ∧ b ≠ DL ∧ H' b = some (.lst vs))
    ⟨same_new nDL, [], rfl, upd_same, fun k vs hk => by omega⟩ (fun i H' _ h => SqL.of (h.1 _ _ (s12 _ _ hsp))) ?_ ?_
  · rintro i y H13 hi ⟨s13, bs, lb, hDL, hbs⟩
    have hil : i < (as.take n ++ ra :: as.drop n).length := by
      have := (List.getElem?_eq_some_iff.mp hi).1
      rwa [List.length_map] at this
    obtain ⟨vs, hvs⟩ : ∃ vs, (((rs.map Rule.vals).take n) ++ vals :: ((rs.map Rule.vals).drop n))[i]? = some vs := ⟨_, List.getElem?_eq_getElem (by omega)⟩
    obtain ⟨e, ee, he⟩ := ltsp.2 i vs hvs
    rw [List.getElem?_map, ee] at hi
    obtain rfl : V.ref e = y := Option.some.inj hi
    have he13 := s13 _ _ (s12 _ _ he)
    refine ⟨rfl, _, rfl, e, _, rfl, .inr (SqT.of he13), fun l nl => ?_⟩
    have sl := same_new (o := .lst vs) nl
    have lD : l ≠ DL := (ne_of_none hDL nl).symm
    refine ⟨_, sl _ _ hDL, by rw [List.length_map]; exact small1000 (by omega), fun b' o hb' => ?_, bs ++ [l], by simp [lb], by rw [upd_same, List.map_append]; rfl, fun k vs' hk hv' => ?_⟩
    · rw [upd_ne (ne_of_none hb' nDL)]
      exact sl _ _ (s13 _ _ hb')
    · by_cases hki : k < i
      · obtain ⟨b, h1, h2, h3⟩ := hbs k vs' hki hv'
        exact ⟨b, by rw [List.getElem?_append_left (by omega)]; exact h1, h2, by rw [upd_ne h2]; exact sl _ _ h3⟩
      · obtain rfl : k = i := by omega
        rw [hvs] at hv'
        obtain rfl := Option.some.inj hv'
        exact ⟨l, by rw [← lb]; simp, lD, by rw [upd_ne lD]; exact upd_same⟩
  rintro H13 ⟨s13, bs, lb, hDL, hbs⟩
  rw [List.length_map, lsp] at lb hbs
  have hnb : n < bs.length := by omega
  have refL : Refused H13 DL (.int (n : Int)) z := by
    have hvn : (((rs.map Rule.vals).take n) ++ vals :: ((rs.map Rule.vals).drop n))[n]? = some vals := by
      rw [List.getElem?_append_right (by rw [List.length_take]; omega), List.length_take, List.length_map, Nat.min_eq_left hn, Nat.sub_self]
      rfl
    obtain ⟨b, h1, _, h3⟩ := hbs n vals (by omega) hvn
    rw [List.getElem?_eq_getElem hnb] at h1
    have eb : bs[n] = b := Option.some.inj h1
    refine .inr ⟨bs.take n, bs.drop (n + 1), bs[n], rs.take n, ts.take n, vals, .inr (by rw [← split_at hnb]; exact hDL), ⟨by rw [List.length_map, List.length_take, List.length_take]; omega, fun k vs e => ?_⟩, snd.take n, .inr (by rw [eb]; exact h3), hW, by rw [← split_at hnb]; omega, hz, by rw [rlen]⟩
    rw [List.map_take] at e
    have hk : k < n := by
      have := (List.getElem?_eq_some_iff.mp e).1
      rw [List.length_take] at this
      omega
    obtain ⟨b2, g1, _, g3⟩ := hbs k vs (by omega) (by rw [List.getElem?_append_left (by rw [List.length_take, List.length_map]; omega)]; exact e)
    exact ⟨b2, by rw [List.getElem?_take_of_lt hk]; exact g1, .inr g3⟩
  refine ⟨DL, rfl, .inr ⟨.int (n : Int), z, refL, fun t H14 s14 ht => ⟨_, rfl, _, rfl, by show 2 ≤ sizeLine; decide, fun u nu => ?_⟩⟩⟩
  have su := same_new (o := .tup [.int (n : Int), .str z]) nu
  refine ⟨_, _, rfl, chk _ _ _ (su _ _ ht) upd_same, fun H15 s15 => ⟨true, rfl, ifF rfl ?_⟩⟩
  have s15 := (((s12.trans s13).trans s14).trans su).trans s15
  clear su ht nu s14 refL hDL hbs lb hnb s13 s12
  -- a part of it, and other wrong ones
  refine ⟨_, rfl, _, rfl, _, _, rfl, rfl, (n : Int) + 1, rfl, D5, _, rfl, SqL.of (s15 _ _ hsp), fun E1 e1 => ?_⟩
  have hcut : cutV ((as.take n ++ ra :: as.drop n).map V.ref) none (some ((n : Int) + 1)) = (as.take n ++ [ra]).map V.ref := by
    rw [show (n : Int) + 1 = ((n + 1 : Nat) : Int) from rfl, cut_to, ← List.map_take, List.take_append, List.length_take, Nat.min_eq_left (by omega), List.take_of_length_le (by rw [List.length_take]; omega), show n + 1 - n = 1 by omega]
    rfl
  have v1 := same_new (o := .lst (cutV ((as.take n ++ ra :: as.drop n).map V.ref) none (some ((n : Int) + 1)))) e1
  refine ⟨by show 2 ≤ sizeLine; decide, fun E2 e2 => ⟨Nat.zero_le _, fun E3 e3 => ⟨by show 2 ≤ sizeLine; decide, fun E4 e4 => ?_⟩⟩⟩
  have v2 := v1.trans (same_new (o := .tup [.str "none", .int 1]) e2)
  have v3 := v2.trans (same_new (o := .tup []) e3)
  have w3 := (same_new (o := .tup [.str "none", .int 1]) e2).trans (same_new (o := .tup []) e3)
  have v4 := v3.trans (same_new (o := .lst [.ref E2, .ref E3]) e4)
  have w4 := w3.trans (same_new (o := .lst [.ref E2, .ref E3]) e4)
  have hE1 := w4 _ _ (upd_same : (upd H15 E1 (.lst (cutV ((as.take n ++ ra :: as.drop n).map V.ref) none (some ((n : Int) + 1))))) E1 = some _)
  have lA : (as.take n ++ [ra]).length ≤ 30 := by rw [List.length_append, List.length_take]; simp; omega
  refine ⟨E1, E4, _, _, rfl, rfl, hE1, upd_same, sz' (by rw [hcut, List.length_map]; show (as.take n ++ [ra]).length + 2 ≤ 1000; omega), fun E5 e5 => ?_⟩
  have v5 := v4.trans (same_new (o := .lst (cutV ((as.take n ++ ra :: as.drop n).map V.ref) none (some ((n : Int) + 1)) ++ [.ref E2, .ref E3])) e5)
  refine ⟨E5, rfl, .inr ⟨.int (n : Int), z, ref _ E5 [E2, E3] (s15.trans v5) (.inr ?_) ?_, fun t H16 s16 ht => ⟨_, rfl, _, rfl, by show 2 ≤ sizeLine; decide, fun u nu => ?_⟩⟩⟩
  · rw [upd_same, hcut, List.map_append, List.map_append, List.append_assoc]
    rfl
  · rw [List.length_append, List.length_take]
    show min n as.length + 3 ≤ 60
    omega
  have su := same_new (o := .tup [.int (n : Int), .str z]) nu
  refine ⟨_, _, rfl, chk _ _ _ (su _ _ ht) upd_same, fun H17 s17 => ⟨true, rfl, ifF rfl ?_⟩⟩
  have hP17 := hP8.same ((((s15.trans v5).trans s16).trans su).trans s17)
  clear su ht nu s16 s17 s15 v5 v4 v3 v2 v1 w3 w4 hE1 hcut ltsp lv hP8 lt8 hra8 ref chk hsp
  -- sixty rules
  refine ⟨by show 2 ≤ sizeLine; decide, fun A0 n0 => ⟨by show 1 ≤ sizeLine; decide, fun A1 n1' => ⟨_, rfl, by decide, by decide, fun A2 n2' => ?_⟩⟩⟩
  have hA1 : (upd (upd H17 A0 (.tup [.str "letters", .str "a"])) A1 (.lst [.ref A0])) A1 = some (.lst [.ref A0]) := upd_same
  have hA0 : (upd (upd H17 A0 (.tup [.str "letters", .str "a"])) A1 (.lst [.ref A0])) A0 = some (.tup [.str "letters", .str "a"]) := same_new n1' _ _ upd_same
  have hP18 := (hP17.new (o := .tup [.str "letters", .str "a"]) n0).new (o := .lst [.ref A0]) n1'
  obtain ⟨H18, eH18⟩ : ∃ H18, H18 = (upd (upd H17 A0 (.tup [.str "letters", .str "a"])) A1 (.lst [.ref A0])) := ⟨_, rfl⟩
  rw [← eH18] at hA1 hA0 hP18 n2' ⊢
  refine lc_range (lo := 0) (n := 59) (fun i H' => Same H18 H' ∧ ∃ bs : List Addr, H' A2 = some (.lst (bs.map V.ref)) ∧ LT H' bs (((List.range i).map Rule.back).map Rule.vals)) ⟨same_new n2', [], upd_same, LT.nil⟩ ?_ ?_
  · rintro i H19 hi ⟨s19, bs, hA2, hbs⟩
    have lb : bs.length = i := by have := hbs.1; simpa using this
    refine ⟨rfl, _, rfl, by show 2 ≤ sizeLine; decide, fun t nt => ?_⟩
    have st := same_new (o := .tup [.str "back", .int ((0 : Int) + (i : Int))]) nt
    refine ⟨_, st _ _ hA2, by rw [List.length_map]; exact small1000 (by omega), fun b' o hb' => ?_, bs ++ [t], by rw [upd_same, List.map_append]; rfl, ?_⟩
    · rw [upd_ne (ne_of_none hb' n2')]
      exact st _ _ (s19 _ _ hb')
    · rw [List.range_succ, List.map_append, List.map_append]
      refine ((hbs.same st).add ?_).updL (st _ _ hA2)
      rw [upd_same, Int.zero_add]
      rfl
  rintro H19 ⟨s19, bs, hA2, hbs⟩
  have lb : bs.length = 59 := by have := hbs.1; simpa using this
  refine ⟨A1, A2, _, _, rfl, rfl, s19 _ _ hA1, hA2, sz' (by simp [lb]), fun L nL => ?_⟩
  have sL := same_new (o := .lst ([.ref A0] ++ bs.map V.ref)) nL
  have ltL : LT (upd H19 L (.lst ([.ref A0] ++ bs.map V.ref))) ([A0] ++ bs) (([Rule.letters [97]] ++ (List.range 59).map Rule.back).map Rule.vals) := by
    rw [List.map_append]
    refine LT.cat (LT.nil.add (as := []) (vss := []) ?_) (hbs.same sL)
    rw [sL _ _ (s19 _ _ hA0), show ("a" : Str) = S [97] by decide +kernel]
    rfl
  have hL0 : (upd H19 L (.lst ([.ref A0] ++ bs.map V.ref))) L = some (.lst (([A0] ++ bs).map V.ref)) := by rw [upd_same, List.map_append]; rfl
  have hP19 := (hP18.same s19).same sL
  obtain ⟨H20, eH20⟩ : ∃ H20, H20 = upd H19 L (.lst ([.ref A0] ++ bs.map V.ref)) := ⟨_, rfl⟩
  rw [← eH20] at ltL hL0 hP19 ⊢
  refine ⟨_, rfl, L, rfl, .inl ⟨_, _, _, ⟨hL0, ltL⟩, long_sound 59, by simp, by simp, fun H21 s21 => ⟨rfl, _, rfl, ifF rfl ?_⟩⟩⟩
  refine ⟨_, rfl, by show 1 ≤ sizeLine; decide, fun B0 m0 => ⟨by show 1 ≤ sizeLine; decide, fun B1 m1 => ?_⟩⟩
  have s22 := (s21.trans (same_new (o := .tup [.str "nothing"]) m0)).trans (same_new (o := .lst [.ref B0]) m1)
  refine ⟨L, B1, _, _, rfl, rfl, s22 _ _ hL0, upd_same, sz' (by simp [lb]), fun B2 m2 => ?_⟩
  have s23 := s22.trans (same_new (o := .lst (([A0] ++ bs).map V.ref ++ [.ref B0])) m2)
  refine ⟨B2, rfl, .inr ⟨.non, "count", .inl ⟨([A0] ++ bs) ++ [B0], .inr (by rw [upd_same]; simp), .inr (by simp [lb]), by simp [lb], rfl, rfl⟩, fun t H24 s24 ht => ⟨by show 2 ≤ sizeLine; decide, fun u nu => ?_⟩⟩⟩
  have su := same_new (o := .tup [.non, .str "count"]) nu
  refine ⟨.tuple [.none, .str "count"], .tuple [.none, .str "count"], .tup (SqT.of (su _ _ ht)) (.cons .non (.cons (.str _) .nil)), .tup (SqT.of upd_same) (.cons .non (.cons (.str _) .nil)), count_sh, count_sh, _, rfl, ?_⟩
  rw [count_eqv]
  refine ifF rfl ?_
  have hP24 := hP19.same ((s23.trans s24).trans su)
  -- great
  refine ⟨_, rfl, p, c, rfl, hP24, fun GR' gs grs gts H25 hG gsnd glen gtl gbig f25 hP25 => ?_⟩
  have lg : gs.length = 6 := by have := hG.lt.1; rw [List.length_map] at this; omega
  refine ⟨_, rfl, GR', rfl, .inl ⟨gs, grs, gts, hG, gsnd, by omega, by omega, fun H26 s26 => ⟨rfl, _, rfl, ifF rfl ?_⟩⟩⟩
  have hG26 := hG.same s26
  refine ⟨_, rfl, GR', _, rfl, .inl (SqL.of hG26.at_), ?_⟩
  rw [show (((gs.map V.ref).length : Nat) : Int) = 6 by rw [List.length_map, lg]; rfl]
  refine ⟨_, rfl, by show 2 ≤ sizeLine; decide, fun C0 k0 => ⟨_, rfl, _, rfl, _, _, rfl, rfl, by show 3 ≤ sizeLine; decide, fun C1 k1 => ⟨by show 2 ≤ sizeLine; decide, fun C2 k2 => ?_⟩⟩⟩
  have c1 := (same_new (o := .tup [.str "letters", .str "d"]) k0).trans (same_new (o := .tup [.str "join", .int 6, .int ((6 : Int) - 1)]) k1)
  have c2 := c1.trans (same_new (o := .lst [.ref C0, .ref C1]) k2)
  refine ⟨GR', C2, _, _, rfl, rfl, c2 _ _ hG26.at_, upd_same, sz' (by simp [lg]), fun C3 k3 => ?_⟩
  have c3 := c2.trans (same_new (o := .lst (gs.map V.ref ++ [.ref C0, .ref C1])) k3)
  have hC0 := ((same_new (o := .tup [.str "join", .int 6, .int ((6 : Int) - 1)]) k1).trans (same_new (o := .lst [.ref C0, .ref C1]) k2)) _ _ (upd_same : (upd H26 C0 (.tup [.str "letters", .str "d"])) C0 = some _)
  have hC0' := same_new (o := .lst (gs.map V.ref ++ [.ref C0, .ref C1])) k3 _ _ hC0
  have hC1 := same_new (o := .lst (gs.map V.ref ++ [.ref C0, .ref C1])) k3 _ _ (same_new (o := .lst [.ref C0, .ref C1]) k2 _ _ (upd_same : (upd (upd H26 C0 (.tup [.str "letters", .str "d"])) C1 (.tup [.str "join", .int 6, .int ((6 : Int) - 1)])) C1 = some _))
  have q7 := gsnd.add1 (r := .letters [100]) (x := [100]) ⟨by decide, by decide +kernel⟩ rfl (by decide)
  have l7 : (gts ++ [[100]]).length = 7 := by rw [List.length_append, gtl]; rfl
  have t6 : tx (gts ++ [[100]]) 6 = [100] := by
    unfold tx
    rw [List.getD_eq_getElem?_getD, List.getElem?_append_right (by omega), gtl]
    rfl
  have t5' : tx (gts ++ [[100]]) 5 = tx gts 5 := by
    unfold tx
    rw [List.getD_eq_getElem?_getD, List.getD_eq_getElem?_getD, List.getElem?_append_left (by omega)]
  have hW' : Wrong (gts ++ [[100]]) [.str "join", .int 6, .int 5] "large" := .late (.join 0 0) [6, 5] _ rfl rfl (by show (inR _ 6 && (inR _ 5 && true)) = true; rw [l7]; decide) ⟨6, 5, rfl, by rw [t6, t5', gbig]; decide, rfl⟩
  have ed : ("d" : Str) = S [100] := by decide +kernel
  refine ⟨C3, rfl, .inr ⟨.int 7, "large", .inr ⟨gs ++ [C0], [], C1, grs ++ [.letters [100]], gts ++ [[100]], _, .inr (by rw [upd_same]; simp), ?_, q7, .inl hC1, hW', by simp [lg], by decide +kernel, by rw [List.length_append, glen]; rfl⟩, fun t H27 s27 ht => ⟨_, rfl, _, _, rfl, rfl, by show 2 ≤ sizeLine; decide, fun u nu => ?_⟩⟩⟩
  · have := ((hG26.lt.same c3).add hC0').rl
    rw [ed] at this
    rw [List.map_append]
    exact this
  have su := same_new (o := .tup [.int ((6 : Int) + 1), .str "large"]) nu
  refine ⟨_, _, rfl, flat_same (xs := [.int 7, .str "large"]) (su _ _ ht) upd_same (by decide) (fun v hv => ?_), fun H28 _ => q H28⟩
  simp only [List.mem_cons, List.not_mem_nil, or_false] at hv
  rcases hv with rfl | rfl
  · exact .inl ⟨_, rfl⟩
  · exact .inr ⟨_, rfl⟩
end
/-! ### what the top has written -/
def DefAt (K : PySem.W.Frag) (x : Str) (st : Stmt) : Prop := ∃ (f : Addr) (fd : FuncData), PySem.W.nsIn K mainGlobals x = some (some (.ref f)) ∧ Fun K x x st f fd
theorem def_mk {K : PySem.W.Frag} {x : Str} {st : Stmt} {f : Addr} {od an : Option Addr} {sl : Array (Option Value)} {oc kV dc pm cd ct : Value} (a : PySem.W.nsIn K mainGlobals x = some (some (.ref f)))
    (l : K.lookup f = some ⟨oc, od, .func (PySem.W.fnOf x x (defArgs st) (defBody st) (defScope st) .none kV dc pm an cd ct), sl⟩) (c : PySem.W.codeIn K cd x = true) (k : PySem.W.keepIn K (.ref f) = true) : DefAt K x st := ⟨f, _, a, fun_mk l c k⟩
def MethAt (K : PySem.W.Frag) (C : Addr) (m qual : Str) (st : Stmt) : Prop := ∃ (f : Addr) (fd : FuncData), Meth K C m f ∧ Fun K m qual st f fd
theorem meth_mk {K : PySem.W.Frag} {C : Addr} {m qual : Str} {st : Stmt} {f : Addr} {od an : Option Addr} {sl : Array (Option Value)} {oc kV dc pm cd ct : Value} (a : PySem.W.findIn K (.ref C) m = some (some (.ref f))) (i : PySem.W.isFn K (.ref f) = true)
    (l : K.lookup f = some ⟨oc, od, .func (PySem.W.fnOf m qual (defArgs st) (defBody st) (defScope st) .none kV dc pm an cd ct), sl⟩) (c : PySem.W.codeIn K cd qual = true) (k : PySem.W.keepIn K (.ref f) = true) : MethAt K C m qual st := ⟨f, _, ⟨a, i, k⟩, fun_mk l c k⟩
def CMethAt (K : PySem.W.Frag) (C : Addr) (mc : Value) (m qual : Str) (st : Stmt) : Prop := ∃ (p g : Addr) (fd : FuncData), ClX.CMet K C mc m p g ∧ Fun K m qual st g fd
theorem cmeth_mk {K : PySem.W.Frag} {C : Addr} {m qual : Str} {st : Stmt} {p g : Addr} {rest : List Value} {od an : Option Addr} {sl : Array (Option Value)} {oc kV dc pm cd ct : Value} (a : PySem.W.findCls K (.ref C) mc m = some (.get (.builtin "classmethod.__get__") (.ref p) .none (.ref C)))
    (r : PySem.W.recIn K p "classmethod" = some (.ref g :: rest)) (i : PySem.W.fnIn K g = true)
    (l : K.lookup g = some ⟨oc, od, .func (PySem.W.fnOf m qual (defArgs st) (defBody st) (defScope st) .none kV dc pm an cd ct), sl⟩) (c : PySem.W.codeIn K cd qual = true) (k : PySem.W.keepIn K (.ref g) = true) : CMethAt K C mc m qual st := ⟨p, g, _, ⟨a, ⟨rest, r⟩, i⟩, fun_mk l c k⟩
/-- an own error's class and its __init__, as the top has written them -/
structure ErrFacts (P : Program) (K : PySem.W.Frag) (x qual : Str) (C CH : Addr) (st : Stmt) : Prop where
  at_ : PySem.W.nsIn K mainGlobals x = some (some (.ref C))
  ex : OexC K C
  is : ExcC K C
  xf : XfC K C
  exm : PySem.W.exmOne K (.ref C) (.ref C) = some true
  kH : PySem.W.kitOne K (.ref C) (.ref CH) = some true
  kV : PySem.W.kitOne K (.ref C) (.type "ValueError") = some true
  fn : ∃ (fI cc ca : Addr) (kV doc pm ct : Value) (an : Option Addr), PySem.W.findIn K (.ref C) "__init__" = some (some (.ref fI)) ∧ PySem.W.typeIn K (.ref fI) = some (.type "function") ∧ PySem.W.codeIn K (.ref ca) qual = true ∧
    (∀ mg : Str → Option Value, mg "super" = none → SupAt P K mg C fI cc ca (PySem.W.fnX "__init__" qual (defArgs st) (defBody st) (defScope st) [("__class__", cc)] .none kV doc pm an (.ref ca) ct))
theorem err_mk {P : Program} {K : PySem.W.Frag} {x qual : Str} {C CH fI cc ca : Addr} {st : Stmt} {kV doc pm ct oc c1 c2 : Value} {an od d1 d2 : Option Addr} {sl sl1 sl2 : Array (Option Value)} {vs : Array Value} {file : Str} {tf : Tok} {ar : Arg}
    {nm q : Str} {N : Addr} {bs bm : List Value} {sn : List Str} {sub : List Value} {ab : Bool} {col : Option Bool} {dd : Option Addr} {k0 k1 k2 k3 k5 : Option Value}
    (a1 : PySem.W.nsIn K mainGlobals x = some (some (.ref C))) (a2 : K.lookup C = some (excClassObj nm q C N bs bm true sn sub ab col dd k0 k1 k2 k3 k5 "ValueError.__new__")) (a3 : PySem.HandSPX.refsVE bm = true) (a4 : PySem.W.findIn K (.ref C) "__setattr__" = some (some (.builtin "object.__setattr__")))
    (a5 : PySem.W.subIn K (.ref C) (.type "BaseException") = some true) (a6 : PySem.W.typeIn K (.ref C) = some (.type "type")) (a7 : PySem.W.keepIn K (.ref C) = true) (a8 : PySem.W.findIn K (.ref C) "__getattribute__" = some (some (.builtin "BaseException.__getattribute__"))) (a9 : PySem.W.findIn K (.ref C) "__getattr__" = some none) (b1 : PySem.W.hasDictIn K C = true)
    (b2 : PySem.W.findIn K (.ref C) "__class__" = some (some (.builtin "object.__class__"))) (b3 : PySem.W.specialIn K (.builtin "object.__class__") "__get__" = some (some (.builtin "getset_descriptor.__get__"))) (b4 : PySem.W.takesIn K (.builtin "object.__class__") = some true) (b5 : PySem.W.mroIn K C (.type "object") = some true)
    (b6 : PySem.W.exmOne K (.ref C) (.ref C) = some true) (b7 : PySem.W.kitOne K (.ref C) (.ref CH) = some true) (b8 : PySem.W.kitOne K (.ref C) (.type "ValueError") = some true)
    (c3 : PySem.W.findIn K (.ref C) "__init__" = some (some (.ref fI))) (c4 : PySem.W.typeIn K (.ref fI) = some (.type "function")) (c5 : K.lookup fI = some ⟨oc, od, .func (PySem.W.fnX "__init__" qual (defArgs st) (defBody st) (defScope st) [("__class__", cc)] .none kV doc pm an (.ref ca) ct), sl⟩) (c6 : PySem.W.codeIn K (.ref ca) qual = true)
    (c7 : K.lookup ca = some ⟨c1, d1, .fields vs, sl1⟩) (c8 : vs[2]? = some (.str file tf)) (c9 : ((P.main.file : Str) == file) = true) (e1 : K.lookup cc = some ⟨c2, d2, .cell (some (.ref C)), sl2⟩) (e2 : PySem.W.mroIn K C (.ref C) = some true) (e3 : PySem.W.ks_superIn K C C "__init__" = some (some (.builtin "ValueError.__init__")))
    (e4 : PySem.W.subIn K (.ref C) (.type "ValueError") = some true) (e5 : PySem.W.nsIn K cStatics "thirdparty.any" = some none) (e6 : (P.main.scope.names.lookup ("super" : Str)).isSome = false) (e7 : ((defArgs st).posonlyargs ++ (defArgs st).args).head? = some ar) (e8 : ar.arg = "self") : ErrFacts P K x qual C CH st :=
  ⟨a1, ⟨⟨_, _, _, _, _, _, _, _, _, _, _, _, _, _, _, a2, a3⟩, a4, a5, a6, a7⟩, ⟨a8, a9, a5, b1, b2, b3, b4, b5⟩, ⟨a8, a9, a5, b1⟩, b6, b7, b8, fI, cc, ca, kV, doc, pm, ct, an, c3, c4, c6, fun mg hs =>
    ⟨⟨⟨_, _, _, _, _, _, _, _, _, _, _, _, _, _, _, a2, a3⟩, a4, a5, a6, a7⟩, ⟨_, _, _, c5⟩, ⟨ar, e7, e8⟩, ⟨_, _, _, _, _, _, c7, c8, c9⟩, ⟨_, _, _, e1⟩, e2, e3, e4, e5, hs, e6⟩⟩
theorem all_mk {CB CH : Addr} {l : PySem.W.OpenLaw} {w : World} {K : PySem.W.Frag} {h : Heap} {mg : Str → Option Value} {fa C fL fI d : Addr} {es : Array DictEntry} {n : Nat} (X : K.In h) (G : h.Ns mainGlobals mg) (hfa : mg "law" = some (.ref fa))
    {odL anL odI anI : Option Addr} {slL slI : Array (Option Value)} {ocL kVL dcL pmL cdL ctL ocI kVI dcI pmI cdI ctI : Value} {t1 t2 t3 t4 t5 t6 k1 k2 k3 k4 k5 : Tok}
    (D_iw : DefAt K "is_whole" sIsWhole)
    (D_hw : DefAt K "has_word" sHasWord)
    (D_at : DefAt K "are_told" sAreTold)
    (D_ip : DefAt K "is_part" sIsPart)
    (D_lm : DefAt K "length_made" sLengthMade)
    (D_fo : DefAt K "fault_of" sFaultOf)
    (D_lc : DefAt K "lengths_checked" sLengthsChecked)
    (D_co : DefAt K "copied" sCopied)
    (D_pool : DefAt K "_law_pool" sPool)
    (D_take : DefAt K "_law_take" sTake)
    (D_wr : DefAt K "_law_written" sWritten)
    (D_nu : DefAt K "_law_number" sNumber)
    (D_nx : DefAt K "_law_next" sNext)
    (D_ma : DefAt K "_law_made" sMade)
    (D_ru : DefAt K "_law_rules" sRules)
    (D_ii : DefAt K "_law_is_integer" sIsInt)
    (D_sa : DefAt K "_law_same" sSame)
    (D_td : DefAt K "_law_told" sLTold)
    (D_wg : DefAt K "_law_wrong" sLWrong)
    (D_gt : DefAt K "_law_great" sLGreat)
    (aL : PySem.W.nsIn K mainGlobals "law" = some (some (.ref fL))) (lL : K.lookup fL = some ⟨ocL, odL, .func (PySem.W.fnOf "law" "law" (defArgs sLaw) (defBody sLaw) (defScope sLaw) .none kVL dcL pmL anL cdL ctL), slL⟩) (cL : PySem.W.codeIn K cdL "law" = true) (kL : PySem.W.keepIn K (.ref fL) = true)
    (aC : PySem.W.nsIn K mainGlobals "Text" = some (some (.ref C)))
    (aI : PySem.W.findIn K (.ref C) "__init__" = some (some (.ref fI))) (iI : PySem.W.isFn K (.ref fI) = true) (lI : K.lookup fI = some ⟨ocI, odI, .func (PySem.W.fnOf "__init__" "Text.__init__" (defArgs sInit) (defBody sInit) (defScope sInit) .none kVI dcI pmI anI cdI ctI), slI⟩) (cI : PySem.W.codeIn K cdI "Text.__init__" = true) (kI : PySem.W.keepIn K (.ref fI) = true)
    (pg : PySem.W.plainGet K C Str.empty = true) (hd : PySem.W.hasDictIn K C = true) (po : PySem.W.plainOver K C = true) (sa : PySem.W.findIn K (.ref C) "__setattr__" = some (some (.builtin "object.__setattr__"))) (mk : PySem.W.makesIn K C = true) (kc : PySem.W.keepIn K (.ref C) = true)
    (nR : PySem.W.findIn K (.ref C) "rules" = some none) (nE : PySem.W.findIn K (.ref C) "lengths" = some none) (nN : PySem.W.findIn K (.ref C) "length" = some none)
    (aH : PySem.W.nsIn K mainGlobals "HeldError" = some (some (.ref CH))) (xB : ErrFacts l.prog K "BadRules" "BadRules.__init__" CB CH sBadRulesInit) (nB1 : PySem.W.findIn K (.ref CB) "number" = some none) (nB2 : PySem.W.findIn K (.ref CB) "reason" = some none)
    (z_len : PySem.W.nsIn K mainGlobals "len" = some none)
    (z_int : PySem.W.nsIn K mainGlobals "int" = some none)
    (z_range : PySem.W.nsIn K mainGlobals "range" = some none)
    (z_tuple : PySem.W.nsIn K mainGlobals "tuple" = some none)
    (z_list : PySem.W.nsIn K mainGlobals "list" = some none)
    (z_isinstance : PySem.W.nsIn K mainGlobals "isinstance" = some none)
    (z_all : PySem.W.nsIn K mainGlobals "all" = some none)
    (z_reversed : PySem.W.nsIn K mainGlobals "reversed" = some none)
    (z_bool : PySem.W.nsIn K mainGlobals "bool" = some none)
    (z_str : PySem.W.nsIn K mainGlobals "str" = some none)
    (z_enumerate : PySem.W.nsIn K mainGlobals "enumerate" = some none)
    (z_ValueError : PySem.W.nsIn K mainGlobals "ValueError" = some none)
    (z_super : PySem.W.nsIn K mainGlobals "super" = some none)
    (i_MOST_RULES : PySem.W.nsIn K mainGlobals "MOST_RULES" = some (some (.int 60 t1)))
    (i_MOST_TOLD : PySem.W.nsIn K mainGlobals "MOST_TOLD" = some (some (.int 64 t2)))
    (i_MOST_TIMES : PySem.W.nsIn K mainGlobals "MOST_TIMES" = some (some (.int 1000000000000 t3)))
    (i_MOST_LETTERS : PySem.W.nsIn K mainGlobals "MOST_LETTERS" = some (some (.int 1000000000000 t4)))
    (i_MOST_SPELLED : PySem.W.nsIn K mainGlobals "MOST_SPELLED" = some (some (.int 1000 t5)))
    (i_LETTERS : PySem.W.nsIn K mainGlobals "LETTERS" = some (some (.str LTR t6))) (i_SIZES : PySem.W.nsIn K mainGlobals "SIZES" = some (some (.ref d))) (dl : K.lookup d = some ⟨.type "dict", none, .dict es n, #[]⟩) (dk : PySem.W.KeysLit w.params es.toList) (ds : (d == sysModules) = false)
    (s_letters : PySem.W.nsIn K d "letters" = some (some (.int 2 k1)))
    (s_join : PySem.W.nsIn K d "join" = some (some (.int 3 k2)))
    (s_power : PySem.W.nsIn K d "power" = some (some (.int 3 k3)))
    (s_part : PySem.W.nsIn K d "part" = some (some (.int 4 k4)))
    (s_back : PySem.W.nsIn K d "back" = some (some (.int 2 k5)))
    (w1 : PySem.W.nsIn K d "letter" = some none) (w2 : PySem.W.nsIn K d "" = some none)
    : ∃ fd : FuncData, (∀ (s : Shared) (v : Value), BindsTo s fd ⟨[v], []⟩ [("script", v)]) ∧ ∀ base : Heap, K.In base → base.Ns mainGlobals mg → FnOk l.prog w K mg base CX0 7 fa fd ["script"] (spLaw K) := by
  have e := hfa.symm.trans (PySem.W.mg_of X G aL)
  cases e
  have gl : ∀ {x : Str} {v : Value}, PySem.W.nsIn K mainGlobals x = some (some v) → mg x = some v := fun a => PySem.W.mg_of X G a
  have gn : ∀ {x : Str}, PySem.W.nsIn K mainGlobals x = some none → mg x = none := fun a => PySem.W.mg_none_of X G a
  have T : Txt mg := ⟨gn z_len, gn z_int, gn z_range, gn z_tuple, gn z_list, gn z_isinstance, gn z_all, gn z_reversed, gn z_bool, gn z_str, gn z_enumerate, ⟨_, gl i_MOST_RULES, ⟨_, rfl⟩⟩, ⟨_, gl i_MOST_TOLD, ⟨_, rfl⟩⟩, ⟨_, gl i_MOST_TIMES, ⟨_, rfl⟩⟩, ⟨_, gl i_MOST_LETTERS, ⟨_, rfl⟩⟩, ⟨_, gl i_LETTERS, ⟨_, rfl⟩⟩, ⟨_, gl i_MOST_SPELLED, ⟨_, rfl⟩⟩⟩
  have Z : Sizes K w mg d es n := ⟨⟨_, gl i_SIZES, rfl⟩, ⟨dl, dk, ds⟩, ⟨_, s_letters⟩, ⟨_, s_join⟩, ⟨_, s_power⟩, ⟨_, s_part⟩, ⟨_, s_back⟩⟩
  have NW : NoWord K d := ⟨w1, w2⟩
  have D : Cl K C := ⟨⟨pg, hd, po, sa⟩, nR, nE, nN⟩
  have M : Mk K C fI := ⟨mk, aI, iI, kc⟩
  have FI := fun_mk (st := sInit) lI cI kI
  have FL := fun_mk (st := sLaw) lL cL kL
  obtain ⟨f_D_iw, fd_D_iw, a_D_iw, F_D_iw⟩ := D_iw
  obtain ⟨f_D_hw, fd_D_hw, a_D_hw, F_D_hw⟩ := D_hw
  obtain ⟨f_D_at, fd_D_at, a_D_at, F_D_at⟩ := D_at
  obtain ⟨f_D_ip, fd_D_ip, a_D_ip, F_D_ip⟩ := D_ip
  obtain ⟨f_D_lm, fd_D_lm, a_D_lm, F_D_lm⟩ := D_lm
  obtain ⟨f_D_fo, fd_D_fo, a_D_fo, F_D_fo⟩ := D_fo
  obtain ⟨f_D_lc, fd_D_lc, a_D_lc, F_D_lc⟩ := D_lc
  obtain ⟨f_D_co, fd_D_co, a_D_co, F_D_co⟩ := D_co
  obtain ⟨f_D_pool, fd_D_pool, a_D_pool, F_D_pool⟩ := D_pool
  obtain ⟨f_D_take, fd_D_take, a_D_take, F_D_take⟩ := D_take
  obtain ⟨f_D_wr, fd_D_wr, a_D_wr, F_D_wr⟩ := D_wr
  obtain ⟨f_D_nu, fd_D_nu, a_D_nu, F_D_nu⟩ := D_nu
  obtain ⟨f_D_nx, fd_D_nx, a_D_nx, F_D_nx⟩ := D_nx
  obtain ⟨f_D_ma, fd_D_ma, a_D_ma, F_D_ma⟩ := D_ma
  obtain ⟨f_D_ru, fd_D_ru, a_D_ru, F_D_ru⟩ := D_ru
  obtain ⟨f_D_ii, fd_D_ii, a_D_ii, F_D_ii⟩ := D_ii
  obtain ⟨f_D_sa, fd_D_sa, a_D_sa, F_D_sa⟩ := D_sa
  obtain ⟨f_D_td, fd_D_td, a_D_td, F_D_td⟩ := D_td
  obtain ⟨f_D_wg, fd_D_wg, a_D_wg, F_D_wg⟩ := D_wg
  obtain ⟨f_D_gt, fd_D_gt, a_D_gt, F_D_gt⟩ := D_gt
  have bI : L2.Binds K _ ["self", "rules"] [] := (FI.binds (ps := ["self", "rules"]) fun _ _ _ _ _ _ us hl => match us, hl with | [_, _], _ => rfl)
  refine ⟨PySem.W.fnOf "law" "law" (defArgs sLaw) (defBody sLaw) (defScope sLaw) .none kVL dcL pmL anL cdL ctL, fun s v => .of_eq rfl, fun base _ _ => ?_⟩
  have G : Cal l.prog w K mg base 2 "_law_take" spTake [] := ok_take F_D_take (gl a_D_take) (F_D_take.binds (ps := ["pool", "many"]) fun _ _ _ _ _ _ us hl => match us, hl with | [_, _], _ => rfl) T
  have GW : Cal l.prog w K mg base 3 "_law_written" spWritten [] := ok_written F_D_wr (gl a_D_wr) (F_D_wr.binds (ps := ["pool"]) fun _ _ _ _ _ _ us hl => match us, hl with | [_], _ => rfl) T G
  have GN : Cal l.prog w K mg base 3 "_law_number" spNumber [] := ok_number F_D_nu (gl a_D_nu) (F_D_nu.binds (ps := ["pool", "many"]) fun _ _ _ _ _ _ us hl => match us, hl with | [_, _], _ => rfl) G
  have GX : Cal l.prog w K mg base 4 "_law_next" spNext [] := ok_next F_D_nx (gl a_D_nx) (F_D_nx.binds (ps := ["pool", "texts", "most"]) fun _ _ _ _ _ _ us hl => match us, hl with | [_, _, _], _ => rfl) T G GW GN
  have GM : Cal l.prog w K mg base 1 "_law_made" spMade [] := ok_made F_D_ma (gl a_D_ma) (F_D_ma.binds (ps := ["texts", "rule"]) fun _ _ _ _ _ _ us hl => match us, hl with | [_, _], _ => rfl) 
  have GR : Cal l.prog w K mg base 5 "_law_rules" spRules [] := ok_rules F_D_ru (gl a_D_ru) (F_D_ru.binds (ps := ["pool", "most"]) fun _ _ _ _ _ _ us hl => match us, hl with | [_, _], _ => rfl) T G GX GM
  have GP : Cal l.prog w K mg base 1 "_law_pool" (spPool K) [] := ok_pool F_D_pool (gl a_D_pool) (F_D_pool.binds (ps := ["script"]) fun _ _ _ _ _ _ us hl => match us, hl with | [_], _ => rfl) 
  have GIp : Cal l.prog w K mg base 1 "is_part" spIsPart [] := ok_is_part F_D_ip (gl a_D_ip) (F_D_ip.binds (ps := ["start", "stop", "length"]) fun _ _ _ _ _ _ us hl => match us, hl with | [_, _, _], _ => rfl) 
  have GLm : Cal l.prog w K mg base 1 "length_made" spLengthMade [] := ok_length_made F_D_lm (gl a_D_lm) (F_D_lm.binds (ps := ["rule", "lengths"]) fun _ _ _ _ _ _ us hl => match us, hl with | [_, _], _ => rfl) T
  have GCo : Cal l.prog w K mg base 1 "copied" spCopied [] := ok_copied F_D_co (gl a_D_co) (F_D_co.binds (ps := ["rules"]) fun _ _ _ _ _ _ us hl => match us, hl with | [_], _ => rfl) T
  have GIw : Cal l.prog w K mg base 1 "is_whole" spIsWhole [] := ok_is_whole F_D_iw (gl a_D_iw) (F_D_iw.binds (ps := ["value"]) fun _ _ _ _ _ _ us hl => match us, hl with | [_], _ => rfl) T
  have GHw : Cal l.prog w K mg base 1 "has_word" spHasWord [] := ok_has_word F_D_hw (gl a_D_hw) (F_D_hw.binds (ps := ["rule"]) fun _ _ _ _ _ _ us hl => match us, hl with | [_], _ => rfl) T Z
  have GAt : Cal l.prog w K mg base 1 "are_told" spAreTold [] := ok_are_told F_D_at (gl a_D_at) (F_D_at.binds (ps := ["letters"]) fun _ _ _ _ _ _ us hl => match us, hl with | [_], _ => rfl) T
  have GHwW : Cal l.prog w K mg base 1 "has_word" spHasWordW [] := ok_has_wordW F_D_hw (gl a_D_hw) (F_D_hw.binds (ps := ["rule"]) fun _ _ _ _ _ _ us hl => match us, hl with | [_], _ => rfl) T Z NW
  have GAtW : Cal l.prog w K mg base 1 "are_told" spAreToldW [] := ok_are_toldW F_D_at (gl a_D_at) (F_D_at.binds (ps := ["letters"]) fun _ _ _ _ _ _ us hl => match us, hl with | [_], _ => rfl) T
  have GFoW : Cal l.prog w K mg base 2 "fault_of" spFaultW [] := ok_fault_ofW F_D_fo (gl a_D_fo) (F_D_fo.binds (ps := ["rule", "lengths"]) fun _ _ _ _ _ _ us hl => match us, hl with | [_, _], _ => rfl) T Z GHwW GAtW GIw GIp GLm
  have GFo : Cal l.prog w K mg base 2 "fault_of" spFaultOf [] := ok_fault_of F_D_fo (gl a_D_fo) (F_D_fo.binds (ps := ["rule", "lengths"]) fun _ _ _ _ _ _ us hl => match us, hl with | [_, _], _ => rfl) T Z GHw GAt GIw GIp GLm
  have GLc : Cal l.prog w K mg base 3 "lengths_checked" spLengthsC [] := ok_lengths_checked F_D_lc (gl a_D_lc) (F_D_lc.binds (ps := ["rules"]) fun _ _ _ _ _ _ us hl => match us, hl with | [_], _ => rfl) T GFo GLm
  have GIs : Cal l.prog w K mg base 1 "_law_is_integer" spIsInteger [] := ok_is_integer F_D_ii (gl a_D_ii) (F_D_ii.binds (ps := ["actual"]) fun _ _ _ _ _ _ us hl => match us, hl with | [_], _ => rfl) T
  have GS0 : Cal l.prog w K mg base 2 "_law_same" (spSame 0) [] := ok_same0 F_D_sa (gl a_D_sa) (F_D_sa.binds (ps := ["actual", "due"]) fun _ _ _ _ _ _ us hl => match us, hl with | [_, _], _ => rfl) T GIs
  have GS1 : Cal l.prog w K mg base 3 "_law_same" (spSame 1) [] := ok_same1 F_D_sa (gl a_D_sa) (F_D_sa.binds (ps := ["actual", "due"]) fun _ _ _ _ _ _ us hl => match us, hl with | [_, _], _ => rfl) T GIs (by decide) rfl GS0
  have GS : Cal l.prog w K mg base 4 "_law_same" (spSame 2) [] := ok_same1 F_D_sa (gl a_D_sa) (F_D_sa.binds (ps := ["actual", "due"]) fun _ _ _ _ _ _ us hl => match us, hl with | [_, _], _ => rfl) T GIs (by decide) rfl GS1
  have GI : FnOk l.prog w K mg base CX0 4 fI _ ["self", "rules"] (spInit C) := ok_init FI T D GLc GCo
  have MK : C8.Mak l.prog w K mg base 4 "Text" C (spInit C) [] := ⟨fI, _, _, [], M, GI, gl aC, bI, .nil⟩
  have ZB : ErrAt l.prog w K mg base "BadRules" CB ["self", "number", "reason"] (spBad CB) := by
    obtain ⟨fI, cc, ca, kV, doc, pm, ct, an, h1, h2, h3, h4⟩ := xB.fn
    exact ⟨xB.ex, gl xB.at_, fI, _, h1, h2, ok_bad (h4 mg (gn z_super)) h3 nB1 nB2, fun s us _ hl => match us, hl with | [_, _, _], _ => .of_eq rfl⟩
  have bL : L2.Binds K fd_D_lc ["rules"] [] := (F_D_lc.binds (ps := ["rules"]) fun _ _ _ _ _ _ us hl => match us, hl with | [_], _ => rfl)
  have GLcX : FnOk l.prog w K mg base (L2.CX l.prog w) 3 f_D_lc fd_D_lc ["rules"] (spLengthsX CB) := ok_lengthsX F_D_lc T ZB GFo GFoW GLm
  have GIX : FnOk l.prog w K mg base (L2.CX l.prog w) 4 fI _ ["self", "rules"] (spInitX CB) := ok_initX FI F_D_lc (gl a_D_lc) bL GLcX
  have GTd : Cal l.prog w K mg base 6 "_law_told" spTold [] := ok_told (CH := CH) F_D_td (gl a_D_td) (F_D_td.binds (ps := ["rules"]) fun _ _ _ _ _ _ us hl => match us, hl with | [_], _ => rfl) T (gl xB.at_) ⟨_, gl aH, rfl⟩ (gn z_ValueError) ⟨xB.is, xB.xf, xB.exm, xB.kH, xB.kV⟩ nB1 nB2 MK M (gl aC) bI GIX
  have GWr : Cal l.prog w K mg base 3 "_law_wrong" spWrong [] := ok_wrong F_D_wg (gl a_D_wg) (F_D_wg.binds (ps := ["pool", "many", "size"]) fun _ _ _ _ _ _ us hl => match us, hl with | [_, _, _], _ => rfl) T G
  have GGr : Cal l.prog w K mg base 3 "_law_great" spGreat [] := ok_great F_D_gt (gl a_D_gt) (F_D_gt.binds (ps := ["pool"]) fun _ _ _ _ _ _ us hl => match us, hl with | [_], _ => rfl) T G
  exact ok_law FL T GP GR G GS GTd GWr GGr
end K4
open PySem PySem.W PyProof.Rows in
set_option maxRecDepth 100000 in
set_option maxHeartbeats 0 in
theorem PySem.Challenge.cw_shortheld_k03_rules_refused_holds : PySem.Challenge.rw_shortheld_k03_rules_refused.Holds := by
  w_on; o_law; k_head; (case hw => w_witness2)
  k_fill
  refine L2.walk_of (l := PySem.Challenge.rw_shortheld_k03_rules_refused) (n := 63) (k := 7) (x := "script") (CX := fun _ => L2.CX0) (sp := fun w => K4.spLaw _) rfl (by decide) rfl ⟨rfl, by decide, by decide⟩ (fun w h Y => PySem.W.kIn_of Y) ?F (fun _ _ a ns hl _ hS => ⟨a, ns, rfl, hS, hl, fun _ => rfl⟩) (fun _ _ _ _ _ h => h)
  case F =>
    intro w mg fa h KX G hmg
    refine' K4.all_mk KX G hmg ?D_iw ?D_hw ?D_at ?D_ip ?D_lm ?D_fo ?D_lc ?D_co ?D_pool ?D_take ?D_wr ?D_nu ?D_nx ?D_ma ?D_ru ?D_ii ?D_sa ?D_td ?D_wg ?D_gt ?aL ?lL ?cL ?kL ?aC ?aI ?iI ?lI ?cI ?kI ?pg ?hd ?po ?sa ?mk ?kc ?nR ?nE ?nN ?aH ?xB ?nB1 ?nB2 ?z_len ?z_int ?z_range ?z_tuple ?z_list ?z_isinstance ?z_all ?z_reversed ?z_bool ?z_str ?z_enumerate ?z_ValueError ?z_super ?i_MOST_RULES ?i_MOST_TOLD ?i_MOST_TIMES ?i_MOST_LETTERS ?i_MOST_SPELLED ?i_LETTERS ?i_SIZES ?dl ?dk ?ds ?s_letters ?s_join ?s_power ?s_part ?s_back ?w1 ?w2
    (case D_iw => refine' K4.def_mk ?a ?l ?c ?k; (case a => k_is); (case l => k_is); (case c => k_is); (case k => k_is))
    (case D_hw => refine' K4.def_mk ?a ?l ?c ?k; (case a => k_is); (case l => k_is); (case c => k_is); (case k => k_is))
    (case D_at => refine' K4.def_mk ?a ?l ?c ?k; (case a => k_is); (case l => k_is); (case c => k_is); (case k => k_is))
    (case D_ip => refine' K4.def_mk ?a ?l ?c ?k; (case a => k_is); (case l => k_is); (case c => k_is); (case k => k_is))
    (case D_lm => refine' K4.def_mk ?a ?l ?c ?k; (case a => k_is); (case l => k_is); (case c => k_is); (case k => k_is))
    (case D_fo => refine' K4.def_mk ?a ?l ?c ?k; (case a => k_is); (case l => k_is); (case c => k_is); (case k => k_is))
    (case D_lc => refine' K4.def_mk ?a ?l ?c ?k; (case a => k_is); (case l => k_is); (case c => k_is); (case k => k_is))
    (case D_co => refine' K4.def_mk ?a ?l ?c ?k; (case a => k_is); (case l => k_is); (case c => k_is); (case k => k_is))
    (case D_pool => refine' K4.def_mk ?a ?l ?c ?k; (case a => k_is); (case l => k_is); (case c => k_is); (case k => k_is))
    (case D_take => refine' K4.def_mk ?a ?l ?c ?k; (case a => k_is); (case l => k_is); (case c => k_is); (case k => k_is))
    (case D_wr => refine' K4.def_mk ?a ?l ?c ?k; (case a => k_is); (case l => k_is); (case c => k_is); (case k => k_is))
    (case D_nu => refine' K4.def_mk ?a ?l ?c ?k; (case a => k_is); (case l => k_is); (case c => k_is); (case k => k_is))
    (case D_nx => refine' K4.def_mk ?a ?l ?c ?k; (case a => k_is); (case l => k_is); (case c => k_is); (case k => k_is))
    (case D_ma => refine' K4.def_mk ?a ?l ?c ?k; (case a => k_is); (case l => k_is); (case c => k_is); (case k => k_is))
    (case D_ru => refine' K4.def_mk ?a ?l ?c ?k; (case a => k_is); (case l => k_is); (case c => k_is); (case k => k_is))
    (case D_ii => refine' K4.def_mk ?a ?l ?c ?k; (case a => k_is); (case l => k_is); (case c => k_is); (case k => k_is))
    (case D_sa => refine' K4.def_mk ?a ?l ?c ?k; (case a => k_is); (case l => k_is); (case c => k_is); (case k => k_is))
    (case D_td => refine' K4.def_mk ?a ?l ?c ?k; (case a => k_is); (case l => k_is); (case c => k_is); (case k => k_is))
    (case D_wg => refine' K4.def_mk ?a ?l ?c ?k; (case a => k_is); (case l => k_is); (case c => k_is); (case k => k_is))
    (case D_gt => refine' K4.def_mk ?a ?l ?c ?k; (case a => k_is); (case l => k_is); (case c => k_is); (case k => k_is))
    (case aL => k_is)
    (case lL => k_is)
    (case cL => k_is)
    (case kL => k_is)
    (case aC => k_is)
    (case aI => k_is)
    (case iI => k_is)
    (case lI => k_is)
    (case cI => k_is)
    (case kI => k_is)
    (case pg => k_is)
    (case hd => k_is)
    (case po => k_is)
    (case sa => k_is)
    (case mk => k_is)
    (case kc => k_is)
    (case nR => k_is)
    (case nE => k_is)
    (case nN => k_is)
    (case aH => k_is)
    (case xB => refine' K4.err_mk ?a1 ?a2 ?a3 ?a4 ?a5 ?a6 ?a7 ?a8 ?a9 ?b1 ?b2 ?b3 ?b4 ?b5 ?b6 ?b7 ?b8 ?c3 ?c4 ?c5 ?c6 ?c7 ?c8 ?c9 ?e1 ?e2 ?e3 ?e4 ?e5 ?e6 ?e7 ?e8; (case a1 => k_is); (case a2 => k_is); (case a3 => first | rfl | decide +kernel); (case a4 => k_is); (case a5 => k_is); (case a6 => k_is); (case a7 => k_is); (case a8 => k_is); (case a9 => k_is); (case b1 => k_is); (case b2 => k_is); (case b3 => k_is); (case b4 => first | k_is | rfl | kernel_rfl); (case b5 => first | k_is | rfl | kernel_rfl); (case b6 => first | k_is | rfl | kernel_rfl); (case b7 => first | k_is | rfl | kernel_rfl); (case b8 => first | k_is | rfl | kernel_rfl); (case c3 => k_is); (case c4 => k_is); (case c5 => k_is); (case c6 => k_is); (case c7 => k_is); (case c8 => first | rfl | decide +kernel); (case c9 => first | rfl | decide +kernel); (case e1 => k_is); (case e2 => first | k_is | rfl | kernel_rfl); (case e3 => first | ks_is | rfl | kernel_rfl); (case e4 => k_is); (case e5 => k_is); (case e6 => first | rfl | decide +kernel); (case e7 => first | rfl | decide +kernel); (case e8 => first | rfl | decide +kernel))
    (case nB1 => k_is)
    (case nB2 => k_is)
    (case z_len => k_is)
    (case z_int => k_is)
    (case z_range => k_is)
    (case z_tuple => k_is)
    (case z_list => k_is)
    (case z_isinstance => k_is)
    (case z_all => k_is)
    (case z_reversed => k_is)
    (case z_bool => k_is)
    (case z_str => k_is)
    (case z_enumerate => k_is)
    (case z_ValueError => k_is)
    (case z_super => k_is)
    (case i_MOST_RULES => k_is)
    (case i_MOST_TOLD => k_is)
    (case i_MOST_TIMES => k_is)
    (case i_MOST_LETTERS => k_is)
    (case i_MOST_SPELLED => k_is)
    (case i_LETTERS => k_is)
    (case i_SIZES => k_is)
    (case dl => k_is)
    (case dk => k_keys)
    (case ds => decide)
    (case s_letters => k_is)
    (case s_join => k_is)
    (case s_power => k_is)
    (case s_part => k_is)
    (case s_back => k_is)
    (case w1 => k_is)
    (case w2 => k_is)
