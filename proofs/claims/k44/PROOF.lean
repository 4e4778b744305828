import PyProof.Rows.All
import Wide.All
import OpenK.AllK
import Wide.FinOn
import HandS.ForMost
import HandS.Codes
import HandS.IsInst
import HandS.Star
import HandS.ClsMeth
import HandS.Style
import HandS.TupAny
import HandS.Flow
import HandS.Wide
import HandS.Nested
import HandS.ExcInit
import HandS.ExcField
import HandS.ExcIs
import HandS.TryOnly
import HandS.FStr
import HandS.WordsExc
import KE.KExcSuper
import HandS.CallSlots
import KE.KExcIs
import HandS.TryMany
import KE.GoesEnum
import PySem.Challenge.RW_shortheld_k44_great_changes
set_option Elab.async false
set_option linter.all false
set_option maxRecDepth 100000
set_option maxHeartbeats 4000000
namespace K4
open PySem PySem.Spec PyProof.Rows L2 SX
open C8 (Cal pe_c pss_cut)
def top (i : Nat) : Stmt := PySem.Challenge.pw_shortheld_k44_great_changes.main.body.getD i (.Pass ⟨0, 0, 0, 0⟩)
abbrev sBadRulesInit : Stmt := inClass (top 2) 0
abbrev sNoPlaceInit : Stmt := inClass (top 3) 0
abbrev sNoPartInit : Stmt := inClass (top 4) 0
abbrev sViewOf : Stmt := top 9
abbrev sSettled : Stmt := top 10
abbrev sDeeper : Stmt := top 11
abbrev sSpelledBy : Stmt := top 12
abbrev sDivided : Stmt := top 13
abbrev sDividedPower : Stmt := top 14
abbrev sIsWhole : Stmt := top 23
abbrev sHasWord : Stmt := top 24
abbrev sAreTold : Stmt := top 25
abbrev sIsPart : Stmt := top 26
abbrev sLengthMade : Stmt := top 27
abbrev sFaultOf : Stmt := top 28
abbrev sLengthsChecked : Stmt := top 29
abbrev sLengthsUnchecked : Stmt := top 30
abbrev sCopied : Stmt := top 31
abbrev sRulesOf : Stmt := top 32
abbrev sSpelled : Stmt := top 33
abbrev sInit : Stmt := inClass (top 34) 0
abbrev sOfLetters : Stmt := inClass (top 34) 1
abbrev sTextMade : Stmt := inClass (top 34) 2
abbrev sLetter : Stmt := inClass (top 34) 3
abbrev sLetters : Stmt := inClass (top 34) 4
abbrev sPlainInit : Stmt := inClass (top 36) 0
abbrev sPlainTell : Stmt := inClass (top 36) 1
abbrev sPlainNumberOf : Stmt := inClass (top 36) 2
abbrev sCheckPlace : Stmt := top 38
abbrev sCheckPart : Stmt := top 39
abbrev sMakingInit : Stmt := inClass (top 42) 0
abbrev sMakingNumberOf : Stmt := inClass (top 42) 1
abbrev sMakingTakenIn : Stmt := inClass (top 42) 2
abbrev sMakingPart : Stmt := inClass (top 42) 3
abbrev sMakingTurned : Stmt := inClass (top 42) 4
abbrev sMakingPower : Stmt := inClass (top 42) 5
abbrev sMakingJoined : Stmt := inClass (top 42) 6
abbrev sMakingText : Stmt := inClass (top 42) 7
abbrev sRenumbered : Stmt := top 43
abbrev sToldPlainly : Stmt := top 44
abbrev sCheckSize : Stmt := top 46
abbrev sPartOf : Stmt := top 47
abbrev sRemovePart : Stmt := top 48
abbrev sReplacePart : Stmt := top 49
abbrev sInsertAt : Stmt := top 50
abbrev sMovePart : Stmt := top 51
abbrev sTurnPart : Stmt := top 52
abbrev sRepeatPart : Stmt := top 53
abbrev sMadeAround : Stmt := top 54
abbrev sPool : Stmt := top 56
abbrev sTake : Stmt := top 57
abbrev sLSegLength : Stmt := top 58
abbrev sLSegLetter : Stmt := top 59
abbrev sLSegPart : Stmt := top 60
abbrev sLSegTurned : Stmt := top 61
abbrev sLSegAgrees : Stmt := top 62
abbrev sLGreat : Stmt := top 63
abbrev sIsInt : Stmt := top 64
abbrev sSame : Stmt := top 65
abbrev sLWanted : Stmt := top 66
abbrev sLDone : Stmt := top 67
abbrev sLTold : Stmt := top 68
abbrev sLIsFull : Stmt := top 69
abbrev sLaw : Stmt := top 70
def strOf : Stmt → Str
  | .Assign _ (.Constant (.str x) _ _) _ => x
  | _ => Str.empty
/-- LETTERS of the module -/
def LTR : Str := strOf (top 16)
/-- what the module's names are not bound to -/
structure Txt (mg : Str → Option Value) : Prop where
  len : mg "len" = none
  int : mg "int" = none
  range : mg "range" = none
  tuple : mg "tuple" = none
  list : mg "list" = none
  isinstance : mg "isinstance" = none
  all : mg "all" = none
  reversed : mg "reversed" = none
  bool : mg "bool" = none
  str : mg "str" = none
  enumerate : mg "enumerate" = none
  MOST_RULES : ∃ u, mg "MOST_RULES" = some u ∧ RelV (.int 60) u
  MOST_TOLD : ∃ u, mg "MOST_TOLD" = some u ∧ RelV (.int 64) u
  MOST_TIMES : ∃ u, mg "MOST_TIMES" = some u ∧ RelV (.int 1000000000000) u
  MOST_LETTERS : ∃ u, mg "MOST_LETTERS" = some u ∧ RelV (.int 1000000000000) u
  LETTERS : ∃ u, mg "LETTERS" = some u ∧ RelV (.str LTR) u
  MOST_SPELLED : ∃ u, mg "MOST_SPELLED" = some u ∧ RelV (.int 1000) u

/-! ### heaps -/
def Frm (p : Addr) (H H' : Hp) : Prop := ∀ b o, b ≠ p → H b = some o → H' b = some o
theorem Frm.refl {p : Addr} {H : Hp} : Frm p H H := fun _ _ _ h => h
theorem Frm.trans {p : Addr} {H H1 H2 : Hp} (a : Frm p H H1) (b : Frm p H1 H2) : Frm p H H2 := fun c o n h => b c o n (a c o n h)
theorem Frm.upd {p : Addr} {H H1 : Hp} {o : HO} (a : Frm p H H1) : Frm p H (upd H1 p o) := fun c u n h => by
  rw [upd_ne n]
  exact a c u n h
theorem Frm.new {p q : Addr} {H H1 : Hp} {o : HO} (a : Frm p H H1) (hq : H1 q = none) : Frm p H (L2.upd H1 q o) := fun c u n h => by
  have h1 := a c u n h
  rw [upd_ne (ne_of_none h1 hq)]
  exact h1
theorem Same.frm {p : Addr} {H H' : Hp} (s : Same H H') : Frm p H H' := fun b o _ h => s b o h
theorem same_new {H : Hp} {p : Addr} {o : HO} (h : H p = none) : Same H (upd H p o) := fun b u q => by rw [upd_ne (ne_of_none q h)]; exact q

/-! ### the pool -/
structure PoolIs (H : Hp) (p c : Addr) (pos left seed : Int) (xs : List Int) : Prop where
  at_ : H p = some (.lst [.ref c, .int pos, .int left, .int seed])
  cells : H c = some (.lst (xs.map V.int))
  ne : c ≠ p
  nn : ∀ x ∈ xs, (0 : Int) ≤ x
  pos0 : 0 ≤ pos
  left0 : 0 ≤ left
  seed0 : 0 ≤ seed
  seed1 : seed < 2147483647
  len : xs.length ≤ 63
def Pool (H : Hp) (p c : Addr) : Prop := ∃ pos left seed xs, PoolIs H p c pos left seed xs
theorem PoolIs.put {H : Hp} {p c : Addr} {pos left seed pos' left' seed' : Int} {xs : List Int} (h : PoolIs H p c pos left seed xs) (h1 : 0 ≤ pos') (h2 : 0 ≤ left') (h3 : 0 ≤ seed') (h4 : seed' < 2147483647) :
    PoolIs (upd H p (.lst [.ref c, .int pos', .int left', .int seed'])) p c pos' left' seed' xs :=
  ⟨upd_same, by rw [upd_ne h.ne]; exact h.cells, h.ne, h.nn, h1, h2, h3, h4, h.len⟩
theorem Pool.same {H H' : Hp} {p c : Addr} (h : Pool H p c) (s : Same H H') : Pool H' p c := by
  obtain ⟨pos, left, seed, xs, h⟩ := h
  exact ⟨pos, left, seed, xs, s _ _ h.at_, s _ _ h.cells, h.ne, h.nn, h.pos0, h.left0, h.seed0, h.seed1, h.len⟩
theorem Pool.new {H : Hp} {p c q : Addr} {o : HO} (h : Pool H p c) (n : H q = none) : Pool (upd H q o) p c := h.same (same_new n)
theorem Pool.ne {H : Hp} {p c q : Addr} (h : Pool H p c) (n : H q = none) : q ≠ p ∧ q ≠ c := by
  obtain ⟨pos, left, seed, xs, h⟩ := h
  exact ⟨(ne_of_none h.at_ n).symm, (ne_of_none h.cells n).symm⟩
theorem Pool.upd {H : Hp} {p c q : Addr} {o : HO} (h : Pool H p c) (n : q ≠ p ∧ q ≠ c) : Pool (L2.upd H q o) p c := by
  obtain ⟨pos, left, seed, xs, h⟩ := h
  exact ⟨pos, left, seed, xs, by rw [upd_ne n.1.symm]; exact h.at_, by rw [upd_ne n.2.symm]; exact h.cells, h.ne, h.nn, h.pos0, h.left0, h.seed0, h.seed1, h.len⟩
theorem Frm.none {H H' : Hp} {p q : Addr} (f : Frm p H H') (n : H' q = Option.none) (h : q ≠ p) : H q = Option.none := by
  cases e : H q with
  | none => rfl
  | some o =>
    rw [f q o h e] at n
    cases n
theorem Frm.updN {H H' : Hp} {p q : Addr} {o : HO} (f : Frm p H H') (n : H q = Option.none) : Frm p H (L2.upd H' q o) := fun b u hb e => by
  rw [upd_ne (ne_of_none e n)]
  exact f b u hb e

def mix (seed cell pos : Int) : Int := (seed * 48271 + cell * 69621 + (pos + 1) * 613) % 2147483647
def spTake1 : Sp := fun vs H Q _ => ∃ (p c : Addr) (many pos left seed : Int) (xs : List Int), vs = [.ref p, .int many] ∧ 0 < many ∧ many ≤ 2000000000000 ∧ PoolIs H p c pos left seed xs ∧ 0 < left ∧
  ∀ r H', 0 ≤ r → r < many → Pool H' p c → Frm p H H' → Q (.int r) H'
def spTake : Sp := fun vs H Q _ => ∃ (p c : Addr) (many : Int), vs = [.ref p, .int many] ∧ 0 < many ∧ many ≤ 2000000000000 ∧ Pool H p c ∧
  ∀ r H', 0 ≤ r → r < many → Pool H' p c → Frm p H H' → Q (.int r) H'

section
variable {P : Program} {w : World} {K : PySem.W.Frag} {mg : Str → Option Value} {base : Heap}
theorem mkCal {x : Str} {st : Stmt} {f : Addr} {fd : FuncData} {N ps : List Str} {k : Nat} {sp : Sp} (F : Fun K x x st f fd) (hm : mg x = some (.ref f)) (b : Binds K fd ps []) (S : FnScope N ps (defScope st)) (len : ∀ vs H Q E, sp vs H Q E → vs.length = ps.length)
    (hbody : ∀ (cdv : Value) (A : Around) (outer : List Env) (s : Shared) (H : Hp) (vs : List V) (Q : VK) (E : XK), Room k (A.deeper (envOfC x (defScope st) s.heap.objs.size f cdv)) → sp vs H Q E →
      ∃ t, PSs (cxOf CX0 P w K mg base N x (defScope st) f cdv A outer s H E).nox (defBody st) t ∧ t { nx := fun _ H' => Q .non H', rt := Q } (start N vs) H) : Cal P w K mg base (k + 1) x sp [] :=
  ⟨f, fd, ps, [], F.ok S len hbody, hm, F.kp, b, .nil⟩

theorem scTake : FnScope ["pool", "many", "digit", "cell", "mixed"] ["pool", "many"] (defScope sTake) := ⟨rfl, rfl, rfl, by decide +kernel, rfl, by decide +kernel, by decide +kernel⟩
theorem ok_take1 {f : Addr} {fd : FuncData} (F : Fun K "_law_take" "_law_take" sTake f fd) (hm : mg "_law_take" = some (.ref f)) (b : Binds K fd ["pool", "many"] []) (T : Txt mg) : Cal P w K mg base 1 "_law_take" spTake1 [] := by
  refine mkCal F hm b scTake (fun vs H Q E h => ?_) (fun cdv A outer s H vs Q E hr h => ?_)
  · obtain ⟨p, c, many, pos, left, seed, xs, rfl, _⟩ := h
    rfl
  obtain ⟨p, c, many, pos, left, seed, xs, rfl, m0, m1, hP, l0, q⟩ := h
  refine ⟨_, pss_cons (ps_if (pt_cmpR op_gt (pe_ix ix_list (pv 0) pe_int (fun _ _ => rfl)) pe_int (nomark _))
    (pss_cons (ps_set (i := 2) scTake.nd rfl (.inl rfl) (pe_op op_mod (pe_callTy call_int1 (by rfl) T.int (by decide +kernel) (pa_cons (pe_ix ix_list (pv 0) pe_int (fun _ _ => rfl)) pa_nil)) (pv 1)))
    (pss_cons (ps_asg (pe_op op_fdivW (pe_ix ix_list (pv 0) pe_int (fun _ _ => rfl)) (pv 1)) (pg_sub (pv 0) pe_int set_list))
    (pss_one (ps_ret (pv 2))))) pss_nil) pss_never, ?_⟩
  have hL : SqL K H p _ := SqL.of hP.at_
  refine ⟨_, rfl, p, _, 2, .int left, rfl, rfl, hL, at_of (j := 2) rfl rfl, left, 0, rfl, rfl, _, rfl, ?_⟩
  refine ite2 (fun _ => ?_) (fun z => absurd (decide_eq_true l0) z)
  refine ⟨_, rfl, p, _, 2, .int left, rfl, rfl, hL, at_of (j := 2) rfl rfl, .inl ⟨left, rfl, ?_⟩⟩
  refine ⟨_, rfl, left, many, rfl, rfl, m0, ?_⟩
  refine ⟨_, rfl, p, _, 2, .int left, rfl, rfl, hL, at_of (j := 2) rfl rfl, _, rfl, left, many, rfl, rfl, wide_div (b := 41) m0 (by omega) (by decide) (by decide), ?_⟩
  refine ⟨_, rfl, p, _, 2, 2, rfl, rfl, hP.at_, rfl, ?_⟩
  refine ⟨_, rfl, ?_⟩
  exact q _ _ (Int.emod_nonneg _ (by omega)) (Int.emod_lt_of_pos _ m0) ⟨pos, left / many, seed, xs, hP.put hP.pos0 (Int.ediv_nonneg hP.left0 (Int.le_of_lt m0)) hP.seed0 hP.seed1⟩ Frm.refl.upd
theorem ok_take {f : Addr} {fd : FuncData} (F : Fun K "_law_take" "_law_take" sTake f fd) (hm : mg "_law_take" = some (.ref f)) (b : Binds K fd ["pool", "many"] []) (T : Txt mg) : Cal P w K mg base 2 "_law_take" spTake [] := by
  have G : Cal P w K mg base 1 "_law_take" spTake1 [] := ok_take1 F hm b T
  refine mkCal F hm b scTake (fun vs H Q E h => ?_) (fun cdv A outer s H vs Q E hr h => ?_)
  · obtain ⟨p, c, many, rfl, _⟩ := h
    rfl
  obtain ⟨p, c, many, rfl, m0, m1, ⟨pos, left, seed, xs, hP⟩, q⟩ := h
  refine ⟨_, pss_cons (ps_if (pt_cmpR op_gt (pe_ix ix_list (pv 0) pe_int (fun _ _ => rfl)) pe_int (nomark _))
      (pss_cons (ps_set (i := 2) scTake.nd rfl (.inl rfl) (pe_op op_mod (pe_callTy call_int1 (by rfl) T.int (by decide +kernel) (pa_cons (pe_ix ix_list (pv 0) pe_int (fun _ _ => rfl)) pa_nil)) (pv 1)))
      (pss_cons (ps_asg (pe_op op_fdivW (pe_ix ix_list (pv 0) pe_int (fun _ _ => rfl)) (pv 1)) (pg_sub (pv 0) pe_int set_list))
      (pss_one (ps_ret (pv 2))))) pss_nil)
    (pss_cons (ps_set (i := 3) scTake.nd rfl (.inl rfl) pe_int)
    (pss_cut (ps_if (pt_cmpR op_lt (pe_ix ix_list (pv 0) pe_int (fun _ _ => rfl)) (pe_callB call_len_seq (by rfl) T.len PySem.boot_len (pa_cons (pe_ix ix_list (pv 0) pe_int (fun _ _ => rfl)) pa_nil)) (nomark _))
      (pss_one (ps_set (i := 3) scTake.nd rfl (.inl rfl) (pe_ix ix_list (pe_ix ix_list (pv 0) pe_int (fun _ _ => rfl)) (pe_ix ix_list (pv 0) pe_int (fun _ _ => rfl)) (fun _ _ => rfl)))) pss_nil)
    (pss_cons (ps_asg (pe_op op_add (pe_ix ix_list (pv 0) pe_int (fun _ _ => rfl)) pe_int) (pg_sub (pv 0) pe_int set_list))
    (pss_cons (ps_if (pt_cmpR op_ge (pv 3) (pe_op op_pow pe_int pe_int) (nomark _))
      (pss_cons (ps_asg (pe_op op_fdiv (pv 3) pe_int) (pg_sub (pv 0) pe_int set_list))
      (pss_one (ps_ret (pe_c G hr (by decide) (by rfl) (pa_cons (pv 0) (pa_cons (pv 1) pa_nil)))))) pss_nil)
    (pss_cons (ps_asg (pe_op op_mod (pe_callTy call_int1 (by rfl) T.int (by decide +kernel) (pa_cons (pe_op op_add (pe_op op_add (pe_op op_mul (pe_ix ix_list (pv 0) pe_int (fun _ _ => rfl)) pe_int) (pe_op op_mul (pv 3) pe_int)) (pe_op op_mul (pe_ix ix_list (pv 0) pe_int (fun _ _ => rfl)) pe_int)) pa_nil)) pe_int) (pg_sub (pv 0) pe_int set_list))
    (pss_cons (ps_set (i := 4) scTake.nd rfl (.inl rfl) (pe_op op_mod (pe_callTy call_int1 (by rfl) T.int (by decide +kernel) (pa_cons (pe_op op_add (pe_op op_add (pe_op op_mul (pe_ix ix_list (pv 0) pe_int (fun _ _ => rfl)) (pe_ix ix_list (pv 0) pe_int (fun _ _ => rfl))) (pe_op op_mul (pe_ix ix_list (pv 0) pe_int (fun _ _ => rfl)) pe_int)) pe_int) pa_nil)) pe_int))
    (pss_one (ps_ret (pe_op op_mod (pe_callTy call_int1 (by rfl) T.int (by decide +kernel) (pa_cons (pe_op op_fdiv (pv 4) pe_int) pa_nil)) (pv 1)))))))))), ?_⟩
  have hL : SqL K H p _ := SqL.of hP.at_
  have hC : SqL K H c _ := SqL.of hP.cells
  refine ⟨_, rfl, p, _, 2, .int left, rfl, rfl, hL, at_of (j := 2) rfl rfl, left, 0, rfl, rfl, _, rfl, ?_⟩
  refine ite2 (fun _ => ?_) (fun _ => ?_)
  · refine ⟨_, rfl, p, _, 2, .int left, rfl, rfl, hL, at_of (j := 2) rfl rfl, .inl ⟨left, rfl, ?_⟩⟩
    refine ⟨_, rfl, left, many, rfl, rfl, m0, ?_⟩
    refine ⟨_, rfl, p, _, 2, .int left, rfl, rfl, hL, at_of (j := 2) rfl rfl, _, rfl, left, many, rfl, rfl, wide_div (b := 41) m0 (by omega) (by decide) (by decide), ?_⟩
    refine ⟨_, rfl, p, _, 2, 2, rfl, rfl, hP.at_, rfl, ?_⟩
    refine ⟨_, rfl, ?_⟩
    exact q _ _ (Int.emod_nonneg _ (by omega)) (Int.emod_lt_of_pos _ m0) ⟨pos, left / many, seed, xs, hP.put hP.pos0 (Int.ediv_nonneg hP.left0 (Int.le_of_lt m0)) hP.seed0 hP.seed1⟩ Frm.refl.upd
  · -- cell = 0; if pool[1] < len(pool[0]): cell = pool[0][pool[1]]
    refine ⟨fun σ H1 => ∃ cell : Int, H1 = H ∧ 0 ≤ cell ∧ σ = [some (.ref p), some (.int many), none, some (.int cell), none], ?_, ?_⟩
    · refine ⟨_, rfl, p, _, 1, .int pos, rfl, rfl, hL, at_of (j := 1) rfl rfl, ?_⟩
      refine ⟨_, rfl, p, _, 0, .ref c, rfl, rfl, hL, at_of (j := 0) rfl rfl, c, _, rfl, .inl hC, pos, _, rfl, rfl, _, rfl, ?_⟩
      refine ite2 (fun z => ?_) (fun _ => ⟨0, rfl, by decide, rfl⟩)
      have z1 : pos < ((xs.map V.int).length : Int) := of_decide_eq_true z
      rw [List.length_map] at z1
      have hk : pos.toNat < xs.length := by have := hP.pos0; omega
      have e1 : pos = ((pos.toNat : Nat) : Int) := by have := hP.pos0; omega
      have g : (xs.map V.int)[pos.toNat]? = some (.int xs[pos.toNat]) := by
        rw [List.getElem?_map, List.getElem?_eq_getElem hk]
        rfl
      refine ⟨_, rfl, p, _, 0, .ref c, rfl, rfl, hL, at_of (j := 0) rfl rfl, _, rfl, p, _, 1, .int pos, rfl, rfl, hL, at_of (j := 1) rfl rfl, c, _, pos, _, rfl, rfl, hC, at_of e1 g, ?_⟩
      exact ⟨xs[pos.toNat], rfl, hP.nn _ (List.getElem_mem hk), rfl⟩
    · rintro σ H1 ⟨cell, rfl, c0, rfl⟩
      -- pool[1] = pool[1] + 1
      refine ⟨_, rfl, p, _, 1, .int pos, rfl, rfl, hL, at_of (j := 1) rfl rfl, pos, 1, rfl, rfl, ?_⟩
      refine ⟨_, rfl, p, _, 1, 1, rfl, rfl, hP.at_, rfl, ?_⟩
      have p1 : (0 : Int) ≤ pos + 1 := by have := hP.pos0; omega
      have hP1 : PoolIs (upd H1 p (.lst [.ref c, .int (pos + 1), .int left, .int seed])) p c (pos + 1) left seed xs := hP.put p1 hP.left0 hP.seed0 hP.seed1
      -- if cell >= 10 ** 18
      refine ⟨_, rfl, 10, 18, rfl, rfl, ⟨by decide, by decide, by decide⟩, cell, _, rfl, rfl, _, rfl, ?_⟩
      refine ite2 (fun z => ?_) (fun z => ?_)
      · have z1 : (10 : Int) ^ 18 ≤ cell := of_decide_eq_true z
        have z2 : (1000000000000000000 : Int) ≤ cell := z1
        refine ⟨_, rfl, cell, 2, rfl, rfl, ⟨by decide, by decide⟩, _, rfl, p, _, 2, 2, rfl, rfl, hP1.at_, rfl, ?_⟩
        have h2 : 0 < cell / 2 := by omega
        have hP2 : PoolIs _ p c (pos + 1) (cell / 2) seed xs := hP1.put p1 (by omega) hP.seed0 hP.seed1
        refine ⟨_, rfl, _, rfl, p, c, many, pos + 1, cell / 2, seed, xs, rfl, m0, m1, hP2, h2, fun r H' r0 r1 hp' fr => ?_⟩
        exact q r H' r0 r1 hp' ((Frm.refl.upd.upd).trans fr)
      · -- the mixing
        have s0 := hP.seed0
        have s1 := hP.seed1
        have hL1 : SqL K (upd H1 p (.lst [.ref c, .int (pos + 1), .int left, .int seed])) p _ := SqL.of hP1.at_
        refine ⟨_, rfl, p, _, 3, .int seed, rfl, rfl, hL1, at_of (j := 3) rfl rfl, seed, 48271, rfl, rfl, .inr ⟨by decide, by decide⟩, ?_⟩
        refine ⟨_, rfl, cell, 69621, rfl, rfl, .inr ⟨by decide, by decide⟩, _, _, rfl, rfl, ?_⟩
        refine ⟨_, rfl, p, _, 1, .int (pos + 1), rfl, rfl, hL1, at_of (j := 1) rfl rfl, pos + 1, 613, rfl, rfl, .inr ⟨by decide, by decide⟩, _, _, rfl, rfl, .inl ⟨_, rfl, ?_⟩⟩
        refine ⟨_, 2147483647, rfl, rfl, by show (0 : Int) < 2147483647; decide, _, rfl, p, _, 3, 3, rfl, rfl, hP1.at_, rfl, ?_⟩
        have hP3 : PoolIs _ p c (pos + 1) left (mix seed cell pos) xs := hP1.put p1 hP.left0 (Int.emod_nonneg _ (by decide)) (Int.emod_lt_of_pos _ (by decide))
        have hb : -(2 ^ 64) < mix seed cell pos ∧ mix seed cell pos < 2 ^ 64 := by
          have t0 := hP3.seed0
          have t1 := hP3.seed1
          constructor <;> omega
        have hL3 : SqL K _ p [.ref c, .int (pos + 1), .int left, .int (mix seed cell pos)] := SqL.of hP3.at_
        refine ⟨_, rfl, p, _, 3, .int (mix seed cell pos), rfl, rfl, hL3, at_of (j := 3) rfl rfl, _, rfl, p, _, 3, .int (mix seed cell pos), rfl, rfl, hL3, at_of (j := 3) rfl rfl, _, _, rfl, rfl, .inl hb, ?_⟩
        refine ⟨_, rfl, p, _, 3, .int (mix seed cell pos), rfl, rfl, hL3, at_of (j := 3) rfl rfl, _, 7919, rfl, rfl, .inr ⟨by decide, by decide⟩, _, _, rfl, rfl, _, 104729, rfl, rfl, .inl ⟨_, rfl, ?_⟩⟩
        refine ⟨_, 1000000007, rfl, rfl, by show (0 : Int) < 1000000007; decide, ?_⟩
        refine ⟨_, rfl, _, 3, rfl, rfl, ⟨by decide, by decide⟩, .inl ⟨_, rfl, ?_⟩⟩
        refine ⟨_, rfl, _, many, rfl, rfl, m0, ?_⟩
        exact q _ _ (Int.emod_nonneg _ (by omega)) (Int.emod_lt_of_pos _ m0) ⟨_, _, _, _, hP3⟩ (Frm.refl.upd.upd)
end
/-! ### small facts -/
theorem ifT {c : Bool} {A B : Prop} (h : c = true) (x : A) : if c = true then A else B := by rw [if_pos h]; exact x
theorem ifF {c : Bool} {A B : Prop} (h : c = false) (x : B) : if c = true then A else B := by rw [if_neg (by rw [h]; decide)]; exact x
theorem join_nil : ∀ ys : List (List Nat), TL.joinL [] ys = ys.flatten
  | [] => rfl
  | [x] => by simp [TL.joinL]
  | x :: y :: r => by
    have ih := join_nil (y :: r)
    simp only [TL.joinL, List.flatten_cons, List.append_nil, List.nil_append] at ih ⊢
    rw [ih]
theorem cut_S {l : List Nat} {a b : Nat} (h : b ≤ l.length) (h2 : a ≤ b) : cutS (S l) (some (a : Int)) (some (b : Int)) = S ((l.take b).drop a) := by
  unfold cutS
  have e : (S l).length = l.length := S_len l
  rw [e, HT.sIx_nat, HT.sIx_nat, Nat.min_eq_left h, Nat.min_eq_left (Nat.le_trans h2 h)]
  show S ((l.drop a).take (b - a)) = _
  rw [List.drop_take]
theorem S_nil : ("" : Str) = S [] := by decide +kernel
theorem flat_len (l : List Nat) : ∀ k : Nat, ((List.replicate k l).flatten).length = k * l.length
  | 0 => by simp
  | k + 1 => by
    rw [List.replicate_succ, List.flatten_cons, List.length_append, flat_len l k, Nat.succ_mul, Nat.add_comm]
theorem sz {n : Nat} (h : n ≤ 100000) : n ≤ sizeLine := Nat.le_trans h (by decide)
theorem Sz {l : List Nat} (h : l.length ≤ 100000) : (S l).length ≤ sizeLine := by rw [S_len]; exact sz h

/-! ### s[::-1], s * n -/
section
variable {X : Cx}
def tRevS (te : TE) : TE := fun σ H Q => te σ H fun x H1 => ∃ z : List Nat, x = .str (S z) ∧ z.length ≤ 100000 ∧ Q (.str (S z.reverse)) H1
theorem rev_made (z : List Nat) (t u : Tok) : sliceMade (S z) t none none (some (-1, u)) = .str (S z.reverse) := by
  unfold sliceMade
  have e0 : (((some ((-1 : Int), u)).map (·.1)).getD 1 == 1 && (slicePicked (S z) none none (some (-1, u))).length == (S z).length) = false := rfl
  rw [e0, if_neg (by decide)]
  congr 1
  have h := step_rev_list (S z) u
  unfold Txt.sliceBy at h
  have h1 : ¬ (((((some ((-1 : Int), u)).map (·.1)).getD 1 == 1) && ((slicePicked (S z) none none (some (-1, u))).length == (S z).length)) = true) := by rw [e0]; decide
  rw [if_neg h1] at h
  refine congrArg (fun a : Array Nat => (⟨a⟩ : Str)) ?_
  refine Array.toList_inj.mp ?_
  show ((slicePicked (S z) none none (some (-1, u))).filterMap ((S z).cps[·]?)).toArray.toList = z.reverse.toArray.toList
  refine Eq.trans h ?_
  rw [List.toList_toArray]
  refine List.ext_getElem (by simp [S_len]) fun i h1 h2 => ?_
  have hi : i < z.length := by simpa using h2
  rw [List.getElem_map, List.getElem_range, List.getElem_reverse, S_len]
  show (z.toArray).getD (z.length - 1 - i) 0 = _
  simp [Array.getD]
  rw [dif_pos (by omega)]
theorem pe_revS {e : Expr} {te : TE} {k : Nat} {p1 p2 p3 pos : Pos} (he : PE X e te) : PE X (.Subscript e (.Slice none none (some (.UnaryOp .USub (.Constant (.int 1) k p1) p2)) p3) pos) (tRevS te) where
  run := by
    intro pins s σ H Q inv hyp
    refine Subscript_ (thn (he.run pins s σ H _ inv hyp) ?_)
    rintro v s1 ⟨x, G, inv1, rel, z, rfl, hz, fin⟩
    obtain ⟨tok, rfl⟩ := rel
    have step := po_some (pe_un (X := X) (pos := p2) un_neg (pe_int (i := 1) (j := k) (pos := p1)))
    refine wpAny_Slice (thn (po_none.run pins s1 σ G (fun o G2 => o = none ∧ G2 = G) inv1 ⟨rfl, rfl⟩) ?_)
    rintro va s2 ⟨_, _, inv2, isA, rfl, rfl⟩
    refine thn (po_none.run pins s2 σ _ (fun o G2 => o = none ∧ G2 = _) inv2 ⟨rfl, rfl⟩) ?_
    rintro vb s3 ⟨_, _, inv3, isB, rfl, rfl⟩
    refine thn (step.run pins s3 σ _ (fun o G2 => o = some (-1) ∧ G2 = _) inv3 ⟨1, rfl, -1, rfl, rfl, rfl⟩) ?_
    rintro vc s4 ⟨_, G4, inv4, isC, rfl, rfl⟩
    obtain ⟨la, rfl, ea⟩ := IsPart.raw isA
    obtain ⟨lb, rfl, eb⟩ := IsPart.raw isB
    obtain ⟨lc, rfl, ec⟩ := IsPart.raw isC
    obtain rfl : la = none := by cases la with | none => rfl | some y => simp at ea
    obtain rfl : lb = none := by cases lb with | none => rfl | some y => simp at eb
    obtain ⟨u, rfl⟩ : ∃ u, lc = some (-1, u) := by
      cases lc with
      | none => simp at ec
      | some y => exact ⟨y.2, by simp at ec; rw [← ec]⟩
    have inv5 : Inv X pins σ G4 { s4 with heap := s4.heap.push { cls := .type "slice", data := .fields #[partValue none, partValue none, partValue (some (-1, u))] } } := inv4.kept (t' := s4.toks) fun _ _ r => Heap.get?_push_of_some _ r
    refine tail_any (ops := [.str (S z) tok, .ref s4.heap.objs.size]) (s := { s4 with heap := s4.heap.push { cls := .type "slice", data := .fields #[partValue none, partValue none, partValue (some (-1, u))] } }) (typeIs_str _ _ _) (F.slot_str_getitem.lookup) ?_ (by with_unfolding_all rfl)
    refine wpAny_getItem_str_slice (l := none) (u := none) (st := some (-1, u)) ⟨_, Heap.get?_push_size _ rfl, rfl, rfl⟩ rfl ?_
    rw [rev_made]
    exact ⟨by rw [S_len, List.length_reverse]; exact sz hz, .str _, G4, inv5.tok _, ⟨_, rfl⟩, fin⟩
theorem foldl_app (x : Array Nat) : ∀ (k : Nat) (acc : Array Nat), ((List.replicate k x).foldl (· ++ ·) acc).toList = acc.toList ++ (List.replicate k x.toList).flatten
  | 0, acc => by simp
  | k + 1, acc => by
    rw [List.replicate_succ, List.foldl_cons, foldl_app x k]
    simp [List.replicate_succ]
theorem mul_S (l : List Nat) (k : Nat) : Txt.mul (S l) (k : Int) = S (List.replicate k l).flatten := by
  unfold Txt.mul
  by_cases h : (k : Int) < 1
  · have e : k = 0 := by omega
    subst e
    rw [if_pos h]
    rfl
  · rw [if_neg h]
    by_cases h2 : ((k : Int) == 1 || (S l).length == 0) = true
    · rw [if_pos h2]
      rcases Bool.or_eq_true _ _ ▸ h2 with h3 | h3
      · have e : k = 1 := by have := eq_of_beq h3; omega
        subst e
        simp
      · have e : l = [] := by
          have := eq_of_beq h3
          rw [S_len] at this
          exact List.eq_nil_of_length_eq_zero this
        subst e
        simp
    · rw [if_neg h2]
      refine congrArg (fun a : Array Nat => (⟨a⟩ : Str)) ?_
      refine Array.toList_inj.mp ?_
      rw [Int.toNat_natCast, foldl_app]
      simp
theorem op_mulS : OpR X (binaryOp .Mult) (fun x y H Q => ∃ (l : List Nat) (k : Nat), x = .str (S l) ∧ y = .int (k : Int) ∧ l.length ≤ 100000 ∧ k * l.length ≤ 100000 ∧ k ≤ 10 ^ 13 ∧ Q (.str (S (List.replicate k l).flatten)) H) := by
  intro pins s σ H x y v u Q I rx ry h
  obtain ⟨l, k, rfl, rfl, hl, hk, hk2, q⟩ := h
  obtain ⟨t, rfl⟩ := rx
  obtain ⟨t', rfl⟩ := ry
  refine SB.mul ⟨?_, fun h1 h2 => ?_, fun h1 h2 => ?_⟩ fun t' tk => ?_
  · have h1 : ¬ ((k : Int) < -(2 ^ 63 : Int)) := by omega
    have h2 : ¬ ((k : Int) ≥ 2 ^ 63) := by omega
    simp only [h1, h2, decide_false, Bool.or_self]
  · rw [S_len]
    intro h3
    have hp : 0 < (k : Int) := by omega
    have h4 : ((2 ^ 63 - 1) / (k : Int)) * (k : Int) + (2 ^ 63 - 1) % (k : Int) = 2 ^ 63 - 1 := Int.ediv_mul_add_emod _ _
    have h5 : (2 ^ 63 - 1) % (k : Int) < (k : Int) := Int.emod_lt_of_pos _ hp
    have h6 : ((2 ^ 63 - 1) / (k : Int)) * (k : Int) ≤ (l.length : Int) * (k : Int) := Int.mul_le_mul_of_nonneg_right (Int.le_of_lt h3) (Int.le_of_lt hp)
    have h7 : (l.length : Int) * (k : Int) ≤ 100000 := by
      have := Int.ofNat_le.mpr hk
      rw [Int.natCast_mul, Int.mul_comm] at this
      exact this
    omega
  · rw [S_len, Int.toNat_natCast, Nat.mul_comm]
    unfold Builtin.Str.tooLong
    exact decide_eq_false (by have := sz hk; omega)
  · rw [mul_S]
    exact ⟨.str _, H, I.tok _, ⟨_, rfl⟩, q⟩
end
/-! ### the signs -/
def SG : Str := LTR
def SL : List Nat := SG.cps.toList
theorem SL_len : SL.length = 94 := by decide +kernel
theorem SG_len : SG.length ≤ sizeLine := by decide +kernel
theorem SL_a : 97 ∈ SL := by decide +kernel
theorem SL_b : 98 ∈ SL := by decide +kernel

/-! ### rules and texts -/
inductive Rule where
  | letters (s : List Nat) | join (i j : Nat) | power (i k : Nat) | part (i a b : Nat) | back (i : Nat)
def Rule.vals : Rule → List V
  | .letters s => [.str "letters", .str (S s)]
  | .join i j => [.str "join", .int (i : Int), .int (j : Int)]
  | .power i k => [.str "power", .int (i : Int), .int (k : Int)]
  | .part i a b => [.str "part", .int (i : Int), .int (a : Int), .int (b : Int)]
  | .back i => [.str "back", .int (i : Int)]
theorem Rule.vals_len (r : Rule) : r.vals.length ≤ 4 := by cases r <;> simp [Rule.vals]
def tx (ts : List (List Nat)) (i : Nat) : List Nat := ts.getD i []
def made (ts : List (List Nat)) : Rule → List Nat
  | .letters s => s
  | .join i j => tx ts i ++ tx ts j
  | .power i k => (List.replicate k (tx ts i)).flatten
  | .part i a b => ((tx ts i).take b).drop a
  | .back i => (tx ts i).reverse
def Ok (ts : List (List Nat)) : Rule → Prop
  | .letters s => s.length ≤ 64 ∧ ∀ c ∈ s, c ∈ SL
  | .join i j => i < ts.length ∧ j < ts.length
  | .power i k => i < ts.length ∧ k ≤ 10 ^ 12
  | .part i a b => i < ts.length ∧ a ≤ b ∧ b ≤ (tx ts i).length
  | .back i => i < ts.length
def tV (l : List Nat) : V := .str (S l)
theorem tx_at {ts : List (List Nat)} {i : Nat} (h : i < ts.length) : ts[i]? = some (tx ts i) := by
  unfold tx
  rw [List.getD_eq_getElem?_getD, List.getElem?_eq_getElem h]
  rfl
theorem tx_mem {ts : List (List Nat)} {i : Nat} (h : i < ts.length) : tx ts i ∈ ts := List.mem_of_getElem? (tx_at h)
theorem tV_at {ts : List (List Nat)} {i : Nat} (h : i < ts.length) : atI (ts.map tV) (i : Int) = some (.str (S (tx ts i))) := by
  refine atI_nat ?_
  rw [List.getElem?_map, tx_at h]
  rfl
theorem tx_take {ts : List (List Nat)} {i k : Nat} (h : i < k) : tx (ts.take k) i = tx ts i := by
  unfold tx
  rw [List.getD_eq_getElem?_getD, List.getD_eq_getElem?_getD, List.getElem?_take_of_lt h]
structure Good (rs : List Rule) (ts : List (List Nat)) : Prop where
  len : ts.length = rs.length
  ok : ∀ k r, rs[k]? = some r → Ok (ts.take k) r ∧ ts[k]? = some (made (ts.take k) r)
  le : ∀ l ∈ ts, l.length ≤ 400
theorem Good.nil : Good [] [] := ⟨rfl, fun k r h => by simp at h, fun l h => by simp at h⟩
theorem Good.add {rs : List Rule} {ts : List (List Nat)} {r : Rule} (g : Good rs ts) (o : Ok ts r) (h : (made ts r).length ≤ 400) : Good (rs ++ [r]) (ts ++ [made ts r]) := by
  refine ⟨by simp [g.len], fun k x e => ?_, fun l hl => ?_⟩
  · by_cases hk : k < rs.length
    · rw [List.getElem?_append_left hk] at e
      have := g.ok k x e
      rw [List.take_append_of_le_length (by rw [g.len]; omega), List.getElem?_append_left (by rw [g.len]; exact hk)]
      exact this
    · have hk2 : k = rs.length := by
        have := (List.getElem?_eq_some_iff.mp e).1
        simp at this
        omega
      subst hk2
      rw [List.getElem?_append_right (Nat.le_refl _), Nat.sub_self] at e
      have e' : r = x := Option.some.inj e
      subst e'
      rw [← g.len, List.take_append_of_le_length (Nat.le_refl _), List.take_length, List.getElem?_append_right (Nat.le_refl _), Nat.sub_self]
      exact ⟨o, rfl⟩
  · rcases List.mem_append.mp hl with h1 | h1
    · exact g.le l h1
    · rw [List.mem_singleton.mp h1]
      exact h

section
variable {P : Program} {w : World} {K : PySem.W.Frag} {mg : Str → Option Value} {base : Heap}
/-! ### _law_written -/
def sgs (ls : List Nat) : List V := ls.map fun c => V.str (S [c])
theorem sgs_add (ls : List Nat) (c : Nat) : sgs ls ++ [V.str (S [c])] = sgs (ls ++ [c]) := by simp [sgs]
theorem flat_one : ∀ ls : List Nat, (ls.map fun c => [c]).flatten = ls
  | [] => rfl
  | c :: r => by rw [List.map_cons, List.flatten_cons, flat_one r]; rfl
theorem sgs_join (ls : List Nat) : Txt.join ("" : Str) ((ls.map fun c => [c]).map S) = S ls := by
  rw [S_nil, join_S, join_nil, flat_one]
theorem sum_one : ∀ ls : List Nat, ((ls.map fun c => [c]).map (·.length)).sum = ls.length
  | [] => rfl
  | c :: r => by
    have ih := sum_one r
    simp only [List.map_cons, List.sum_cons, List.length_cons, List.length_nil] at ih ⊢
    omega
theorem join_size {ls : List Nat} (h : ls.length ≤ 100000) : (((ls.map fun c => [c]).map S).map (·.length)).sum + ((ls.map fun c => [c]).map S).length * ("" : Str).length ≤ 16777216 := by
  rw [lens, sum_one, show ("" : Str).length = 0 from by decide +kernel]
  omega
end


/-! ### the rules that are drawn, and their texts -/
structure Drawn (H : Hp) (R T : Addr) (as : List Addr) (rs : List Rule) (ts : List (List Nat)) : Prop where
  ra : H R = some (.lst (as.map V.ref))
  ta : H T = some (.lst (ts.map tV))
  la : as.length = rs.length
  el : ∀ (k : Nat) (r : Rule), rs[k]? = some r → ∃ a, as[k]? = some a ∧ H a = some (.tup r.vals)
  good : Good rs ts
  ne : R ≠ T
theorem Drawn.same {H H' : Hp} {R T : Addr} {as : List Addr} {rs : List Rule} {ts : List (List Nat)} (d : Drawn H R T as rs ts) (s : Same H H') : Drawn H' R T as rs ts :=
  ⟨s _ _ d.ra, s _ _ d.ta, d.la, fun k r h => let ⟨a, e, g⟩ := d.el k r h; ⟨a, e, s _ _ g⟩, d.good, d.ne⟩
theorem Drawn.frm {H H' : Hp} {p c R T : Addr} {as : List Addr} {rs : List Rule} {ts : List (List Nat)} (d : Drawn H R T as rs ts) (P : Pool H p c) (f : Frm p H H') (h1 : R ≠ p) (h2 : T ≠ p) : Drawn H' R T as rs ts :=
  ⟨f _ _ h1 d.ra, f _ _ h2 d.ta, d.la, fun k r h => by
    obtain ⟨a, e, g⟩ := d.el k r h
    obtain ⟨pos, left, seed, xs, hp⟩ := P
    exact ⟨a, e, f _ _ (ne_of g hp.at_ (by intro z; cases z)) g⟩, d.good, d.ne⟩
/-- one rule more -/
theorem Drawn.add {H : Hp} {R T a : Addr} {as : List Addr} {rs : List Rule} {ts : List (List Nat)} {r : Rule} (d : Drawn H R T as rs ts) (ha : H a = some (.tup r.vals)) (o : Ok ts r) (h : (made ts r).length ≤ 400) :
    Drawn (upd (upd H R (.lst (as.map V.ref ++ [.ref a]))) T (.lst (ts.map tV ++ [.str (S (made ts r))]))) R T (as ++ [a]) (rs ++ [r]) (ts ++ [made ts r]) := by
  have tupne : ∀ {b : Addr} {vs : List V}, H b = some (.tup vs) → b ≠ R ∧ b ≠ T := fun e => ⟨ne_of e d.ra (by intro z; cases z), ne_of e d.ta (by intro z; cases z)⟩
  refine ⟨?_, ?_, by simp [d.la], fun k x e => ?_, d.good.add o h, d.ne⟩
  · rw [upd_ne d.ne, upd_same]
    simp
  · rw [upd_same]
    simp [tV]
  · by_cases hk : k < rs.length
    · rw [List.getElem?_append_left hk] at e
      obtain ⟨b, e1, e2⟩ := d.el k x e
      refine ⟨b, by rw [List.getElem?_append_left (by rw [d.la]; exact hk)]; exact e1, ?_⟩
      rw [upd_ne (tupne e2).2, upd_ne (tupne e2).1]
      exact e2
    · have hk2 : k = rs.length := by
        have := (List.getElem?_eq_some_iff.mp e).1
        simp at this
        omega
      subst hk2
      rw [List.getElem?_append_right (Nat.le_refl _), Nat.sub_self] at e
      have e' : r = x := Option.some.inj e
      subst e'
      refine ⟨a, by rw [← d.la, List.getElem?_append_right (Nat.le_refl _), Nat.sub_self]; rfl, ?_⟩
      rw [upd_ne (tupne ha).2, upd_ne (tupne ha).1]
      exact ha
theorem made_take {ts : List (List Nat)} {r : Rule} : made (ts.take ts.length) r = made ts r := by rw [List.take_length]

section
variable {P : Program} {w : World} {K : PySem.W.Frag} {mg : Str → Option Value} {base : Heap}
/-! ### _law_rules -/
/-! ### _law_pool -/
def spPool (K : PySem.W.Frag) : Sp := fun vs H Q _ => ∃ (a : Addr) (ns : List Int), vs = [.ref a] ∧ SqL K H a (ns.map V.int) ∧ ns.length ≤ 63 ∧ ∀ (p c : Addr) (H' : Hp), Pool H' p c → Same H H' → H p = none → H c = none → Q (.ref p) H'
theorem scP : FnScope ["script", "cell"] ["script"] (defScope sPool) := ⟨rfl, rfl, rfl, by decide +kernel, rfl, by decide +kernel, by decide +kernel⟩
def nz (x : Int) : Int := if 0 ≤ x then 2 * x else -2 * x - 1
theorem nz_nn (x : Int) : 0 ≤ nz x := by
  unfold nz
  split <;> omega
theorem ok_pool {f : Addr} {fd : FuncData} (F : Fun K "_law_pool" "_law_pool" sPool f fd) (hm : mg "_law_pool" = some (.ref f)) (b : Binds K fd ["script"] []) : Cal P w K mg base 1 "_law_pool" (spPool K) [] := by
  refine mkCal F hm b scP (fun vs H Q E h => ?_) (fun cdv A outer s H vs Q E hr h => ?_)
  · obtain ⟨a, ns, rfl, _⟩ := h
    rfl
  obtain ⟨a, ns, rfl, hS, hlen, q⟩ := h
  refine ⟨_, (pss_one (ps_ret (pe_lst (pa_cons (pe_lc (own := [("cell", 1)]) (g := gName 1) (tt := tYes) rfl scP.nd (pi_list (pv 0)) (blkOk_by (N := ["script", "cell"]) (sc := defScope sPool) (by decide +kernel)) (fun _ _ _ _ _ => (pg_name (i := 1) scP.nd rfl (.inl rfl))) (fun _ _ _ _ _ => pts_nil) (fun _ _ _ _ _ => (pe_ifExp (pt_cmpR op_ge (pv 1) pe_int (nomark _)) (pe_op op_mul pe_int (pv 1)) (pe_op op_sub (pe_op op_mul (pe_un un_neg pe_int) (pv 1)) pe_int)))) (pa_cons pe_int (pa_cons pe_int (pa_cons pe_int pa_nil))))))), ?_⟩
  refine ⟨_, rfl, a, rfl, ⟨_, hS⟩, fun D nD => ?_⟩
  refine lc_list (K := K) (a := a) (xs := ns.map V.int) (fun i H' => Same H H' ∧ H' D = some (.lst (((ns.take i).map nz).map V.int))) ⟨same_new nD, upd_same⟩ (fun i H' _ h => h.1.seq hS) ?_ ?_
  · rintro i x H1 hi ⟨s1, e1⟩
    rw [List.getElem?_map] at hi
    cases e : ns[i]? with
    | none => rw [e] at hi; cases hi
    | some u =>
    rw [e] at hi
    have ex : V.int u = x := Option.some.inj hi
    subst ex
    have push : ∀ y : Int, y = nz u → ∃ acc, H1 D = some (.lst acc) ∧ acc.length < sizeLine ∧ (Same H (upd H1 D (.lst (acc ++ [V.int y]))) ∧ (upd H1 D (.lst (acc ++ [V.int y]))) D = some (.lst (((ns.take (i + 1)).map nz).map V.int))) := by
      intro y hy
      refine ⟨_, e1, ?_, fun b o h => ?_, ?_⟩
      · rw [List.length_map, List.length_map, List.length_take]
        exact small1000 (by omega)
      · rw [upd_ne (ne_of_none h nD)]
        exact s1 b o h
      · rw [upd_same, List.take_add_one, e, hy]
        simp
    refine ⟨rfl, _, rfl, _, _, rfl, rfl, _, rfl, ?_⟩
    refine ite2 (fun z => ?_) (fun z => ?_)
    · have z1 : (0 : Int) ≤ u := of_decide_eq_true z
      refine ⟨_, rfl, _, _, rfl, rfl, .inl ⟨by decide, by decide⟩, push _ (by unfold nz; rw [if_pos z1])⟩
    · have z1 : ¬ (0 : Int) ≤ u := fun h => z (decide_eq_true h)
      refine ⟨_, rfl, _, rfl, _, _, rfl, rfl, .inl ⟨by decide, by decide⟩, _, _, rfl, rfl, push _ (by unfold nz; rw [if_neg z1])⟩
  · rintro H1 ⟨s1, e1⟩
    rw [List.length_map, List.take_length] at e1
    refine ⟨by show 4 ≤ sizeLine; decide, fun p np => ?_⟩
    have hDp : D ≠ p := ne_of_none e1 np
    refine q p D _ ⟨0, 0, 17, ns.map nz, upd_same, by rw [upd_ne hDp]; exact e1, hDp, fun x hx => ?_, by decide, by decide, by decide, by decide, by rw [List.length_map]; exact hlen⟩ (s1.trans (same_new np)) (s1.free np) nD
    obtain ⟨y, _, rfl⟩ := List.mem_map.mp hx
    exact nz_nn y
end
/-! ### views: the mathematics -/
structure View where
  n : Nat
  a : Nat
  b : Nat
  t : Bool
def View.vals (v : View) : List V := [.int (v.n : Int), .int (v.a : Int), .int (v.b : Int), .bl v.t]
def sub (l : List Nat) (a b : Nat) : List Nat := (l.take b).drop a
def trn (t : Bool) (l : List Nat) : List Nat := if t then l.reverse else l
def vw (ts : List (List Nat)) (v : View) : List Nat := trn v.t (sub (tx ts v.n) v.a v.b)
structure Val (ts : List (List Nat)) (v : View) : Prop where
  n : v.n < ts.length
  ab : v.a < v.b
  b : v.b ≤ (tx ts v.n).length
theorem sub_len {l : List Nat} {a b : Nat} (h : b ≤ l.length) : (sub l a b).length = b - a := by
  unfold sub
  rw [List.length_drop, List.length_take]
  omega
theorem trn_len (t : Bool) (l : List Nat) : (trn t l).length = l.length := by cases t <;> simp [trn]
theorem Val.len {ts : List (List Nat)} {v : View} (h : Val ts v) : (vw ts v).length = v.b - v.a := by
  unfold vw
  rw [trn_len, sub_len h.b]
theorem trn_trn (s t : Bool) (l : List Nat) : trn s (trn t l) = trn (xor s t) l := by cases s <;> cases t <;> simp [trn]
theorem trn_app (l m : List Nat) : trn true (l ++ m) = trn true m ++ trn true l := by simp [trn]
theorem sub_all (l : List Nat) : sub l 0 l.length = l := by simp [sub]
theorem sub_sub {l : List Nat} {x y a b : Nat} (h : x + b ≤ y) : sub (sub l x y) a b = sub l (x + a) (x + b) := by
  unfold sub
  rw [List.take_drop, List.drop_drop, List.take_take, Nat.min_eq_left h]
theorem sub_appL {l m : List Nat} {a b : Nat} (h : b ≤ l.length) : sub (l ++ m) a b = sub l a b := by
  unfold sub
  rw [List.take_append_of_le_length h]
theorem sub_appR {l m : List Nat} {a b : Nat} (h : l.length ≤ a) : sub (l ++ m) a b = sub m (a - l.length) (b - l.length) := by
  unfold sub
  rw [List.drop_take, List.drop_append, List.drop_eq_nil_of_le h, List.nil_append, List.drop_take]
  congr 1
  omega
theorem sub_rev {l : List Nat} {a b : Nat} (h : b ≤ l.length) (h2 : a ≤ b) : sub l.reverse a b = (sub l (l.length - b) (l.length - a)).reverse := by
  unfold sub
  rw [List.drop_take, List.drop_reverse, List.take_reverse, List.length_take]
  congr 1
  have e1 : min (l.length - a) l.length = l.length - a := by omega
  rw [e1]
  congr 1
  omega
theorem sub_cut {l : List Nat} {a b c : Nat} (h1 : a ≤ b) (h2 : b ≤ c) : sub l a c = sub l a b ++ sub l b c := by
  unfold sub
  rw [← List.take_append_drop (b - a) ((l.take c).drop a)]
  congr 1
  · rw [List.take_drop, List.take_take]
    congr 2
    omega
  · rw [List.drop_drop]
    congr 1
    omega
theorem sub_nil (l : List Nat) (a : Nat) : sub l a a = [] := by
  unfold sub
  exact List.drop_eq_nil_of_le (by rw [List.length_take]; omega)
def pw (l : List Nat) (k : Nat) : List Nat := (List.replicate k l).flatten
theorem pw_len (l : List Nat) (k : Nat) : (pw l k).length = k * l.length := flat_len l k
theorem pw_add (l : List Nat) (j k : Nat) : pw l (j + k) = pw l j ++ pw l k := by
  unfold pw
  rw [← List.replicate_append_replicate, List.flatten_append]
theorem pw_one (l : List Nat) : pw l 1 = l := by simp [pw]
/-- a part of a power that lies within one time -/
theorem sub_pw1 {l : List Nat} {k j a b : Nat} (hj : j < k) (ha : j * l.length ≤ a) (hb : b ≤ j * l.length + l.length) : sub (pw l k) a b = sub l (a - j * l.length) (b - j * l.length) := by
  obtain ⟨m, rfl⟩ : ∃ m, k = j + (1 + m) := ⟨k - j - 1, by omega⟩
  rw [pw_add, sub_appR (by rw [pw_len]; exact ha), pw_len, pw_add, pw_one, sub_appL (by omega)]
/-- whole times of a power -/
theorem sub_pwk {l : List Nat} {k i j : Nat} (hij : i ≤ j) (hj : j ≤ k) : sub (pw l k) (i * l.length) (j * l.length) = pw l (j - i) := by
  obtain ⟨m, rfl⟩ : ∃ m, k = i + ((j - i) + m) := ⟨k - j, by omega⟩
  rw [pw_add, sub_appR (by rw [pw_len]; exact Nat.le_refl _), pw_len, Nat.sub_self, pw_add]
  have e : j * l.length - i * l.length = (pw l (j - i)).length := by rw [pw_len, Nat.sub_mul]
  rw [e, sub_appL (Nat.le_refl _), sub_all]
theorem trn_pw (t : Bool) (l : List Nat) (k : Nat) : trn t (pw l k) = pw (trn t l) k := by
  cases t with
  | false => rfl
  | true =>
    show (pw l k).reverse = pw l.reverse k
    unfold pw
    induction k with
    | zero => rfl
    | succ k ih => rw [List.replicate_succ, List.flatten_cons, List.reverse_append, ih, List.replicate_succ', List.flatten_append, List.flatten_cons, List.flatten_nil, List.append_nil]

theorem take_succ_tx {ts : List (List Nat)} {i : Nat} (h : i < ts.length) : ts.take (i + 1) = ts.take i ++ [tx ts i] := by
  rw [List.take_add_one, tx_at h]
  rfl
/-! ### rules that are right -/
structure Sound (rs : List Rule) (ts : List (List Nat)) : Prop where
  len : ts.length = rs.length
  ok : ∀ (k : Nat) (r : Rule), rs[k]? = some r → Ok (ts.take k) r ∧ ts[k]? = some (made (ts.take k) r)
  le : ∀ l ∈ ts, l.length ≤ 1000000000000
theorem Good.sound {rs : List Rule} {ts : List (List Nat)} (g : Good rs ts) : Sound rs ts := ⟨g.len, g.ok, fun l h => Nat.le_trans (g.le l h) (by decide)⟩
section
variable {rs : List Rule} {ts : List (List Nat)}
theorem Sound.tx {k : Nat} {r : Rule} (s : Sound rs ts) (h : rs[k]? = some r) : K4.tx ts k = made (ts.take k) r := by
  have e := (s.ok k r h).2
  unfold K4.tx
  rw [List.getD_eq_getElem?_getD, e]
  rfl
theorem Sound.lt {k : Nat} {r : Rule} (s : Sound rs ts) (h : rs[k]? = some r) : k < ts.length := by
  rw [s.len]
  exact (List.getElem?_eq_some_iff.mp h).1
theorem Sound.tk {k i : Nat} {r : Rule} (s : Sound rs ts) (h : rs[k]? = some r) (hi : i < (ts.take k).length) : i < k ∧ i < ts.length ∧ K4.tx (ts.take k) i = K4.tx ts i := by
  rw [List.length_take] at hi
  have h1 : i < k := by omega
  exact ⟨h1, by omega, tx_take h1⟩
/-- what deeper tells, of a view of the rule r -/
def deep (ts : List (List Nat)) : Rule → View → Option View
  | .letters _, _ => none
  | .part i x _, v => some ⟨i, x + v.a, x + v.b, v.t⟩
  | .back i, v => some ⟨i, (tx ts i).length - v.b, (tx ts i).length - v.a, !v.t⟩
  | .power i _, v => let s := v.a / (tx ts i).length * (tx ts i).length
    if v.b > s + (tx ts i).length then none else some ⟨i, v.a - s, v.b - s, v.t⟩
  | .join i j, v => if v.b ≤ (tx ts i).length then some ⟨i, v.a, v.b, v.t⟩ else if v.a ≥ (tx ts i).length then some ⟨j, v.a - (tx ts i).length, v.b - (tx ts i).length, v.t⟩ else none
theorem deep_ok {r : Rule} {v v' : View} (s : Sound rs ts) (h : rs[v.n]? = some r) (hv : Val ts v) (hd : deep ts r v = some v') : Val ts v' ∧ v'.n < v.n ∧ vw ts v' = vw ts v := by
  have hb := hv.b
  have hab := hv.ab
  have ho := (s.ok _ _ h).1
  have htx := s.tx h
  rw [htx] at hb
  cases r with
  | letters z => cases hd
  | part i x y =>
    obtain ⟨o1, o2, o3⟩ := ho
    obtain ⟨k1, k2, k3⟩ := s.tk h o1
    have e : v' = ⟨i, x + v.a, x + v.b, v.t⟩ := (Option.some.inj hd).symm
    subst e
    have hb' : v.b ≤ (sub (tx ts i) x y).length := by rw [← k3]; exact hb
    rw [k3] at o3
    rw [sub_len o3] at hb'
    refine ⟨⟨k2, by show x + v.a < x + v.b; omega, by show x + v.b ≤ (tx ts i).length; omega⟩, k1, ?_⟩
    show trn v.t (sub (tx ts i) (x + v.a) (x + v.b)) = trn v.t (sub (tx ts v.n) v.a v.b)
    rw [htx, show made (ts.take v.n) (.part i x y) = sub (tx (ts.take v.n) i) x y from rfl, k3, sub_sub (by omega)]
  | back i =>
    obtain ⟨k1, k2, k3⟩ := s.tk h ho
    have e : v' = ⟨i, (tx ts i).length - v.b, (tx ts i).length - v.a, !v.t⟩ := (Option.some.inj hd).symm
    subst e
    have hb' : v.b ≤ (tx ts i).reverse.length := by rw [← k3]; exact hb
    rw [List.length_reverse] at hb'
    refine ⟨⟨k2, by show (tx ts i).length - v.b < (tx ts i).length - v.a; omega, by show (tx ts i).length - v.a ≤ (tx ts i).length; omega⟩, k1, ?_⟩
    show trn (!v.t) (sub (tx ts i) _ _) = trn v.t (sub (tx ts v.n) v.a v.b)
    rw [htx, show made (ts.take v.n) (.back i) = (tx (ts.take v.n) i).reverse from rfl, k3, sub_rev hb' (Nat.le_of_lt hab)]
    cases v.t <;> simp [trn]
  | power i k =>
    obtain ⟨o1, o2⟩ := ho
    obtain ⟨k1, k2, k3⟩ := s.tk h o1
    have hb' : v.b ≤ (pw (tx ts i) k).length := by rw [← k3]; exact hb
    rw [pw_len] at hb'
    unfold deep at hd
    dsimp only at hd
    split at hd
    · cases hd
    rename_i hc
    have e := (Option.some.inj hd).symm
    subst e
    have hpos : 0 < (tx ts i).length := by
      rcases Nat.eq_zero_or_pos (tx ts i).length with z | z
      · rw [z] at hb'; omega
      · exact z
    have hd1 : v.a / (tx ts i).length * (tx ts i).length ≤ v.a := Nat.div_mul_le_self _ _
    have hjk : v.a / (tx ts i).length < k := by
      rw [Nat.div_lt_iff_lt_mul hpos]
      omega
    refine ⟨⟨k2, by dsimp only; omega, by dsimp only; omega⟩, k1, ?_⟩
    show trn v.t (sub (tx ts i) _ _) = trn v.t (sub (tx ts v.n) v.a v.b)
    rw [htx, show made (ts.take v.n) (.power i k) = pw (tx (ts.take v.n) i) k from rfl, k3, sub_pw1 hjk hd1 (by omega)]
  | join i j =>
    obtain ⟨o1, o2⟩ := ho
    obtain ⟨k1, k2, k3⟩ := s.tk h o1
    obtain ⟨l1, l2, l3⟩ := s.tk h o2
    have em : made (ts.take v.n) (.join i j) = tx ts i ++ tx ts j := by rw [show made (ts.take v.n) (.join i j) = tx (ts.take v.n) i ++ tx (ts.take v.n) j from rfl, k3, l3]
    rw [em, List.length_append] at hb
    unfold deep at hd
    dsimp only at hd
    split at hd
    · rename_i hc
      have e := (Option.some.inj hd).symm
      subst e
      refine ⟨⟨k2, hab, hc⟩, k1, ?_⟩
      show trn v.t (sub (tx ts i) _ _) = trn v.t (sub (tx ts v.n) v.a v.b)
      rw [htx, em, sub_appL hc]
    · split at hd
      · rename_i hc hc2
        have e := (Option.some.inj hd).symm
        subst e
        refine ⟨⟨l2, by dsimp only; omega, by dsimp only; omega⟩, l1, ?_⟩
        show trn v.t (sub (tx ts j) _ _) = trn v.t (sub (tx ts v.n) v.a v.b)
        rw [htx, em, sub_appR hc2]
      · cases hd
end
structure Pc where
  i : Nat
  a : Nat
  b : Nat
  k : Nat
def Pc.vals (q : Pc) : List V := [.int (q.i : Int), .int (q.a : Int), .int (q.b : Int), .int (q.k : Int)]
def pcv (ts : List (List Nat)) (q : Pc) : List Nat := pw (sub (tx ts q.i) q.a q.b) q.k
/-- the end of one time of the base, whole times, the beginning of another one -/
def divP (i n a b : Nat) : List Pc :=
  (if a % n = 0 then [] else [⟨i, a % n, n, 1⟩]) ++ (if b / n - (a + n - 1) / n = 0 then [] else [⟨i, 0, n, b / n - (a + n - 1) / n⟩]) ++ (if b % n = 0 then [] else [⟨i, 0, b % n, 1⟩])
def divs (ts : List (List Nat)) : Rule → View → List Pc
  | .join i j, v => [⟨i, v.a, (tx ts i).length, 1⟩, ⟨j, 0, v.b - (tx ts i).length, 1⟩]
  | .power i _, v => divP i (tx ts i).length v.a v.b
  | _, _ => []
structure PcOk (ts : List (List Nat)) (m : Nat) (q : Pc) : Prop where
  lt : q.i < m
  n : q.i < ts.length
  ab : q.a < q.b
  b : q.b ≤ (tx ts q.i).length
  k : 1 ≤ q.k
def isL : Rule → Bool
  | .letters _ => true
  | _ => false
theorem up_div {n a : Nat} (hn : 0 < n) : (a + n - 1) / n = if a % n = 0 then a / n else a / n + 1 := by
  have e := Nat.div_add_mod a n
  have hr := Nat.mod_lt a hn
  by_cases h : a % n = 0
  · rw [if_pos h]
    have e2 : a + n - 1 = n * (a / n) + (n - 1) := by omega
    have e3 : (n - 1) / n = 0 := Nat.div_eq_of_lt (by omega)
    rw [e2, Nat.mul_add_div hn, e3]
    rfl
  · rw [if_neg h]
    have e2 : a + n - 1 = n * (a / n + 1) + (a % n - 1) := by rw [Nat.mul_add, Nat.mul_one]; omega
    have e3 : (a % n - 1) / n = 0 := Nat.div_eq_of_lt (by omega)
    rw [e2, Nat.mul_add_div hn, e3]
theorem divP_ok {ts : List (List Nat)} {i m k a b : Nat} (him : i < m) (hi : i < ts.length) (hab : a < b) (hb : b ≤ k * (tx ts i).length) (hs : b > a / (tx ts i).length * (tx ts i).length + (tx ts i).length) :
    (∀ q ∈ divP i (tx ts i).length a b, PcOk ts m q) ∧ ((divP i (tx ts i).length a b).map (pcv ts)).flatten = sub (pw (tx ts i) k) a b := by
  generalize hl : tx ts i = l at hb hs ⊢
  have hn : 0 < l.length := by
    rcases Nat.eq_zero_or_pos l.length with z | z
    · rw [z] at hb; omega
    · exact z
  have ea := Nat.div_add_mod a l.length
  have eb := Nat.div_add_mod b l.length
  have ra := Nat.mod_lt a hn
  have rb := Nat.mod_lt b hn
  rw [Nat.mul_comm] at ea eb
  have hk : b / l.length ≤ k := Nat.div_le_of_le_mul (by rw [Nat.mul_comm]; exact hb)
  have hq : a / l.length + 1 ≤ b / l.length := by
    rw [Nat.le_div_iff_mul_le hn, Nat.add_mul, Nat.one_mul]
    omega
  -- what the last piece is
  have last : sub (pw l k) (b / l.length * l.length) b = if b % l.length = 0 then [] else sub l 0 (b % l.length) := by
    by_cases h : b % l.length = 0
    · rw [if_pos h]
      have e : b / l.length * l.length = b := by omega
      rw [e, sub_nil]
    · rw [if_neg h]
      have hlt : b / l.length < k := by
        rcases Nat.lt_or_ge (b / l.length) k with z | z
        · exact z
        · have z2 := Nat.mul_le_mul_right l.length z
          omega
      rw [sub_pw1 hlt (Nat.le_refl _) (by omega)]
      congr 1 <;> omega
  have wholeq : ∀ j, j ≤ b / l.length → ((if b / l.length - j = 0 then [] else [(⟨i, 0, l.length, b / l.length - j⟩ : Pc)]).map (pcv ts)).flatten = sub (pw l k) (j * l.length) (b / l.length * l.length) := by
    intro j hj
    rw [sub_pwk hj hk]
    by_cases h : b / l.length - j = 0
    · rw [if_pos h, h]
      rfl
    · rw [if_neg h]
      show (pcv ts ⟨i, 0, l.length, b / l.length - j⟩ ++ []) = _
      rw [List.append_nil]
      unfold pcv
      rw [hl, sub_all]
  have lastq : ((if b % l.length = 0 then [] else [(⟨i, 0, b % l.length, 1⟩ : Pc)]).map (pcv ts)).flatten = sub (pw l k) (b / l.length * l.length) b := by
    rw [last]
    by_cases h : b % l.length = 0
    · rw [if_pos h, if_pos h]
      rfl
    · rw [if_neg h, if_neg h]
      show (pcv ts ⟨i, 0, b % l.length, 1⟩ ++ []) = _
      rw [List.append_nil]
      unfold pcv
      rw [hl, pw_one]
  constructor
  · intro q hq'
    unfold divP at hq'
    rcases List.mem_append.mp hq' with h1 | h1
    · rcases List.mem_append.mp h1 with h2 | h2
      · split at h2
        · cases h2
        · rename_i hz
          have e := List.mem_singleton.mp h2
          subst e
          exact ⟨him, hi, ra, by rw [hl]; exact Nat.le_refl _, Nat.le_refl _⟩
      · split at h2
        · cases h2
        · rename_i hz
          have e := List.mem_singleton.mp h2
          subst e
          exact ⟨him, hi, hn, by rw [hl]; exact Nat.le_refl _, Nat.one_le_iff_ne_zero.mpr hz⟩
    · split at h1
      · cases h1
      · rename_i hz
        have e := List.mem_singleton.mp h1
        subst e
        exact ⟨him, hi, Nat.pos_of_ne_zero hz, by rw [hl]; exact Nat.le_of_lt rb, Nat.le_refl _⟩
  · unfold divP
    rw [List.map_append, List.map_append, List.flatten_append, List.flatten_append, lastq, up_div hn]
    by_cases h : a % l.length = 0
    · rw [if_pos h, if_pos h, wholeq _ (by omega)]
      have e : a / l.length * l.length = a := by omega
      rw [e]
      show ([] ++ _) ++ _ = _
      rw [List.nil_append, ← sub_cut (by rw [← e]; exact Nat.mul_le_mul_right _ (by omega)) (by omega)]
    · rw [if_neg h, if_neg h, wholeq _ hq]
      show ((pcv ts ⟨i, a % l.length, l.length, 1⟩ ++ []) ++ _) ++ _ = _
      rw [List.append_nil]
      have e1 : pcv ts ⟨i, a % l.length, l.length, 1⟩ = sub (pw l k) a ((a / l.length + 1) * l.length) := by
        unfold pcv
        rw [hl, pw_one, sub_pw1 (j := a / l.length) (by omega) (by omega) (by rw [Nat.add_mul]; omega)]
        rw [Nat.add_mul, Nat.one_mul]
        dsimp only
        congr 1 <;> omega
      have h3 : (a / l.length + 1) * l.length ≤ b / l.length * l.length := Nat.mul_le_mul_right _ hq
      rw [e1, ← sub_cut (by rw [Nat.add_mul]; omega) h3, ← sub_cut (by rw [Nat.add_mul] at h3; omega) (by omega)]
section
variable {rs : List Rule} {ts : List (List Nat)}
theorem divs_ok {r : Rule} {v : View} (s : Sound rs ts) (h : rs[v.n]? = some r) (hv : Val ts v) (hd : deep ts r v = none) (hl : isL r = false) :
    (∀ q ∈ divs ts r v, PcOk ts v.n q) ∧ ((divs ts r v).map (pcv ts)).flatten = sub (tx ts v.n) v.a v.b := by
  have hb := hv.b
  have hab := hv.ab
  have ho := (s.ok _ _ h).1
  have htx := s.tx h
  rw [htx] at hb
  cases r with
  | letters z => cases hl
  | part i x y => cases hd
  | back i => cases hd
  | power i k =>
    obtain ⟨o1, o2⟩ := ho
    obtain ⟨k1, k2, k3⟩ := s.tk h o1
    have em : made (ts.take v.n) (.power i k) = pw (tx ts i) k := by rw [show made (ts.take v.n) (.power i k) = pw (tx (ts.take v.n) i) k from rfl, k3]
    rw [em, pw_len] at hb
    unfold deep at hd
    dsimp only at hd
    split at hd
    · rename_i hc
      rw [htx, em]
      exact divP_ok k1 k2 hab hb hc
    · cases hd
  | join i j =>
    obtain ⟨o1, o2⟩ := ho
    obtain ⟨k1, k2, k3⟩ := s.tk h o1
    obtain ⟨l1, l2, l3⟩ := s.tk h o2
    have em : made (ts.take v.n) (.join i j) = tx ts i ++ tx ts j := by rw [show made (ts.take v.n) (.join i j) = tx (ts.take v.n) i ++ tx (ts.take v.n) j from rfl, k3, l3]
    rw [em, List.length_append] at hb
    unfold deep at hd
    dsimp only at hd
    split at hd
    · cases hd
    split at hd
    · cases hd
    rename_i h1 h2
    constructor
    · intro q hq
      rcases List.mem_cons.mp hq with e | e
      · subst e
        exact ⟨k1, k2, by dsimp only; omega, Nat.le_refl _, Nat.le_refl _⟩
      · have e := List.mem_singleton.mp e
        subst e
        exact ⟨l1, l2, by dsimp only; omega, by dsimp only; omega, Nat.le_refl _⟩
    · show pcv ts _ ++ (pcv ts _ ++ []) = _
      unfold pcv
      rw [List.append_nil, pw_one, pw_one, htx, em, sub_cut (a := v.a) (b := (tx ts i).length) (c := v.b) (by omega) (by omega), sub_appL (Nat.le_refl _), sub_appR (Nat.le_refl _), Nat.sub_self]
theorem trn_flat (t : Bool) (L : List (List Nat)) : trn t L.flatten = ((if t then L.reverse else L).map (trn t)).flatten := by
  cases t with
  | false =>
    show L.flatten = (L.map (trn false)).flatten
    rw [show trn false = id from rfl, List.map_id]
  | true =>
    show L.flatten.reverse = (L.reverse.map (trn true)).flatten
    rw [show trn true = List.reverse from rfl, List.reverse_flatten, List.map_reverse]
/-- the pieces in their order -/
def parts (ts : List (List Nat)) (r : Rule) (v : View) : List Pc := if v.t then (divs ts r v).reverse else divs ts r v
theorem parts_ok {r : Rule} {v : View} (s : Sound rs ts) (h : rs[v.n]? = some r) (hv : Val ts v) (hd : deep ts r v = none) (hl : isL r = false) :
    (∀ q ∈ parts ts r v, PcOk ts v.n q) ∧ ((parts ts r v).map fun q => pw (trn v.t (sub (tx ts q.i) q.a q.b)) q.k).flatten = vw ts v := by
  obtain ⟨h1, h2⟩ := divs_ok s h hv hd hl
  constructor
  · intro q hq
    unfold parts at hq
    split at hq
    · exact h1 q (List.mem_reverse.mp hq)
    · exact h1 q hq
  · unfold vw
    rw [← h2, trn_flat]
    congr 1
    unfold parts
    cases hvt : v.t with
    | false => simp [pcv, trn_pw]
    | true =>
      simp only [if_true]
      rw [← List.map_reverse, List.map_map]
      refine List.map_congr_left fun q _ => ?_
      show _ = trn true (pcv ts q)
      unfold pcv
      rw [trn_pw]
end
/-! ### a text as it stands -/
structure Cl (K : PySem.W.Frag) (C : Addr) : Prop where
  cl : Cls K C
  nR : NoAttr K C "rules"
  nE : NoAttr K C "lengths"
  nN : NoAttr K C "length"
def LT (H : Hp) (as : List Addr) (vss : List (List V)) : Prop := as.length = vss.length ∧ ∀ (k : Nat) (vs : List V), vss[k]? = some vs → ∃ a, as[k]? = some a ∧ H a = some (.tup vs)
theorem LT.same {H H' : Hp} {as : List Addr} {vss : List (List V)} (h : LT H as vss) (s : Same H H') : LT H' as vss := ⟨h.1, fun k vs e => let ⟨a, e1, e2⟩ := h.2 k vs e; ⟨a, e1, s _ _ e2⟩⟩
theorem LT.updL {H : Hp} {as : List Addr} {vss : List (List V)} {D : Addr} {xs : List V} {o : HO} (h : LT H as vss) (hD : H D = some (.lst xs)) : LT (upd H D o) as vss :=
  ⟨h.1, fun k vs e => let ⟨a, e1, e2⟩ := h.2 k vs e; ⟨a, e1, by rw [upd_ne (ne_of e2 hD (by intro z; cases z))]; exact e2⟩⟩
theorem LT.nil {H : Hp} : LT H [] [] := ⟨rfl, fun k vs e => by simp at e⟩
theorem LT.add {H : Hp} {as : List Addr} {vss : List (List V)} {a : Addr} {vs : List V} (h : LT H as vss) (ha : H a = some (.tup vs)) : LT H (as ++ [a]) (vss ++ [vs]) := by
  refine ⟨by simp [h.1], fun k x e => ?_⟩
  by_cases hk : k < vss.length
  · rw [List.getElem?_append_left hk] at e
    obtain ⟨b, e1, e2⟩ := h.2 k x e
    exact ⟨b, by rw [List.getElem?_append_left (by rw [h.1]; exact hk)]; exact e1, e2⟩
  · have hk2 : k = vss.length := by
      have := (List.getElem?_eq_some_iff.mp e).1
      simp at this
      omega
    subst hk2
    rw [List.getElem?_append_right (Nat.le_refl _), Nat.sub_self] at e
    have e' : vs = x := Option.some.inj e
    subst e'
    exact ⟨a, by rw [← h.1, List.getElem?_append_right (Nat.le_refl _), Nat.sub_self]; rfl, ha⟩
structure TextIs (C : Addr) (H : Hp) (x : Addr) (rs : List Rule) (ts : List (List Nat)) (dx RU LE : Addr) (fs : List (Str × V)) (as : List Addr) : Prop where
  at_ : H x = some (.ins C dx fs)
  fR : fs.lookup ("rules" : Str) = some (.ref RU)
  fE : fs.lookup ("lengths" : Str) = some (.ref LE)
  fN : fs.lookup ("length" : Str) = some (.int ((tx ts (ts.length - 1)).length : Int))
  m1 : fs.lookup ("letter" : Str) = none
  m2 : fs.lookup ("letters" : Str) = none
  hR : H RU = some (.tup (as.map V.ref))
  hE : H LE = some (.tup (ts.map fun l => V.int (l.length : Int)))
  hA : LT H as (rs.map Rule.vals)
  sound : Sound rs ts
def TextAt (C : Addr) (H : Hp) (x : Addr) (rs : List Rule) (ts : List (List Nat)) : Prop := ∃ dx RU LE fs as, TextIs C H x rs ts dx RU LE fs as
theorem TextIs.same {C : Addr} {H H' : Hp} {x : Addr} {rs : List Rule} {ts : List (List Nat)} {dx RU LE : Addr} {fs : List (Str × V)} {as : List Addr} (h : TextIs C H x rs ts dx RU LE fs as) (s : Same H H') : TextIs C H' x rs ts dx RU LE fs as :=
  ⟨s _ _ h.at_, h.fR, h.fE, h.fN, h.m1, h.m2, s _ _ h.hR, s _ _ h.hE, h.hA.same s, h.sound⟩
theorem TextAt.same {C : Addr} {H H' : Hp} {x : Addr} {rs : List Rule} {ts : List (List Nat)} (h : TextAt C H x rs ts) (s : Same H H') : TextAt C H' x rs ts := by
  obtain ⟨dx, RU, LE, fs, as, h⟩ := h
  exact ⟨dx, RU, LE, fs, as, h.same s⟩
section
variable {C : Addr} {H : Hp} {x : Addr} {rs : List Rule} {ts : List (List Nat)} {dx RU LE : Addr} {fs : List (Str × V)} {as : List Addr}
theorem TextIs.rule (h : TextIs C H x rs ts dx RU LE fs as) {k : Nat} {r : Rule} (e : rs[k]? = some r) : ∃ a, atI (as.map V.ref) (k : Int) = some (.ref a) ∧ H a = some (.tup r.vals) := by
  obtain ⟨a, e1, e2⟩ := h.hA.2 k r.vals (by rw [List.getElem?_map, e]; rfl)
  exact ⟨a, atI_nat (by rw [List.getElem?_map, e1]; rfl), e2⟩
theorem len_at {ts : List (List Nat)} {k : Nat} (h : k < ts.length) : atI (ts.map fun l => V.int (l.length : Int)) (k : Int) = some (.int ((tx ts k).length : Int)) :=
  atI_nat (by rw [List.getElem?_map, tx_at h]; rfl)
theorem Sound.rule (s : Sound rs ts) {k : Nat} (h : k < ts.length) : ∃ r, rs[k]? = some r := ⟨rs[k]'(by rw [← s.len]; exact h), List.getElem?_eq_getElem _⟩
theorem Sound.big (s : Sound rs ts) {k : Nat} (h : k < ts.length) : (K4.tx ts k).length ≤ 1000000000000 := s.le _ (tx_mem h)
end
theorem divW {n : Nat} (h0 : 0 < n) (h : n ≤ 1000000000000) (i : Int) : CDivW i (n : Int) := wide_div (b := 41) (by omega) (by rw [Int.natAbs_natCast]; omega) (by decide) (by decide)

section
variable {P : Program} {w : World} {K : PySem.W.Frag} {mg : Str → Option Value} {base : Heap}
/-! ### deeper -/
def spDeeper (C : Addr) : Sp := fun vs H Q _ => ∃ (x y : Addr) (rs : List Rule) (ts : List (List Nat)) (v : View) (r : Rule), vs = [.ref x, .ref y] ∧ TextAt C H x rs ts ∧ H y = some (.tup v.vals) ∧ Val ts v ∧ rs[v.n]? = some r ∧
  (deep ts r v = none → Q .non H) ∧ ∀ v' z H', deep ts r v = some v' → Same H H' → H' z = some (.tup v'.vals) → Q (.ref z) H'
theorem scDe : FnScope ["text", "view", "number", "start", "stop", "turned", "rule", "word", "size", "skipped"] ["text", "view"] (defScope sDeeper) := ⟨rfl, rfl, rfl, by decide +kernel, rfl, by decide +kernel, by decide +kernel⟩
theorem ok_deeper {C f : Addr} {fd : FuncData} (F : Fun K "deeper" "deeper" sDeeper f fd) (hm : mg "deeper" = some (.ref f)) (b : Binds K fd ["text", "view"] []) (D : Cl K C) : Cal P w K mg base 1 "deeper" (spDeeper C) [] := by
  refine mkCal F hm b scDe (fun vs H Q E h => ?_) (fun cdv A outer s H vs Q E hr h => ?_)
  · obtain ⟨x, y, rs, ts, v, r, rfl, _⟩ := h
    rfl
  obtain ⟨x, y, rs, ts, v, r, rfl, ⟨dx, RU, LE, fs, as, hX⟩, hy, hv, er, q0, q1⟩ := h
  refine ⟨_, (pss_cons (ps_asg (pv 1) (pg_tup rfl (pgs_cons (pg_name (i := 2) scDe.nd rfl (.inl rfl)) (pgs_cons (pg_name (i := 3) scDe.nd rfl (.inl rfl)) (pgs_cons (pg_name (i := 4) scDe.nd rfl (.inl rfl)) (pgs_cons (pg_name (i := 5) scDe.nd rfl (.inl rfl)) pgs_nil))))))
    (pss_cons (ps_set (i := 6) scDe.nd rfl (.inl rfl) (pe_ix ix_tup (pe_fld (pv 0) rfl) (pv 2) (fun _ _ => rfl)))
    (pss_cons (ps_set (i := 7) scDe.nd rfl (.inl rfl) (pe_ix ix_tup (pv 6) pe_int (fun _ _ => rfl)))
    (pss_cons (ps_if (pt_cmpR op_eq (pv 7) pe_str (nomark _)) (pss_one (ps_ret pe_non)) pss_nil)
    (pss_cons (ps_if (pt_cmpR op_eq (pv 7) pe_str (nomark _)) (pss_one (ps_ret (pe_tup (pa_cons (pe_ix ix_tup (pv 6) pe_int (fun _ _ => rfl)) (pa_cons (pe_op op_add (pe_ix ix_tup (pv 6) pe_int (fun _ _ => rfl)) (pv 3)) (pa_cons (pe_op op_add (pe_ix ix_tup (pv 6) pe_int (fun _ _ => rfl)) (pv 4)) (pa_cons (pv 5) pa_nil))))))) pss_nil)
    (pss_cons (ps_set (i := 8) scDe.nd rfl (.inl rfl) (pe_ix ix_tup (pe_fld (pv 0) rfl) (pe_ix ix_tup (pv 6) pe_int (fun _ _ => rfl)) (fun _ _ => rfl)))
    (pss_cons (ps_if (pt_cmpR op_eq (pv 7) pe_str (nomark _)) (pss_one (ps_ret (pe_tup (pa_cons (pe_ix ix_tup (pv 6) pe_int (fun _ _ => rfl)) (pa_cons (pe_op op_sub (pv 8) (pv 4)) (pa_cons (pe_op op_sub (pv 8) (pv 3)) (pa_cons (pe_not (pv 5)) pa_nil))))))) pss_nil)
    (pss_cons (ps_if (pt_cmpR op_eq (pv 7) pe_str (nomark _)) (pss_cons (ps_set (i := 9) scDe.nd rfl (.inl rfl) (pe_op op_mul (pe_op op_fdivW (pv 3) (pv 8)) (pv 8)))
    (pss_cons (ps_if (pt_cmpR op_gt (pv 4) (pe_op op_add (pv 9) (pv 8)) (nomark _)) (pss_one (ps_ret pe_non)) pss_nil)
    (pss_one (ps_ret (pe_tup (pa_cons (pe_ix ix_tup (pv 6) pe_int (fun _ _ => rfl)) (pa_cons (pe_op op_sub (pv 3) (pv 9)) (pa_cons (pe_op op_sub (pv 4) (pv 9)) (pa_cons (pv 5) pa_nil))))))))) pss_nil)
    (pss_cons (ps_if (pt_cmpR op_le (pv 4) (pv 8) (nomark _)) (pss_one (ps_ret (pe_tup (pa_cons (pe_ix ix_tup (pv 6) pe_int (fun _ _ => rfl)) (pa_cons (pv 3) (pa_cons (pv 4) (pa_cons (pv 5) pa_nil))))))) pss_nil)
    (pss_cons (ps_if (pt_cmpR op_ge (pv 3) (pv 8) (nomark _)) (pss_one (ps_ret (pe_tup (pa_cons (pe_ix ix_tup (pv 6) pe_int (fun _ _ => rfl)) (pa_cons (pe_op op_sub (pv 3) (pv 8)) (pa_cons (pe_op op_sub (pv 4) (pv 8)) (pa_cons (pv 5) pa_nil))))))) pss_nil)
    (pss_one (ps_ret pe_non)))))))))))), ?_⟩
  obtain ⟨a, ea, ha⟩ := hX.rule er
  have hA : SqT K H a r.vals := SqT.of ha
  have s := hX.sound
  refine ⟨_, rfl, y, _, rfl, SqT.of hy, rfl, _, _, rfl, _, _, rfl, _, _, rfl, _, _, rfl, rfl, ?_⟩
  refine ⟨_, rfl, x, C, dx, _, _, rfl, hX.at_, D.cl, D.nR, hX.fR, _, rfl, RU, _, (v.n : Int), _, rfl, rfl, SqT.of hX.hR, ea, ?_⟩
  have fin : ∀ (v' : View) (vs : List V), vs = v'.vals → deep ts r v = some v' → vs.length ≤ sizeLine ∧ ∀ p, H p = none → Q (.ref p) (upd H p (.tup vs)) := by
    intro v' vs e hd
    subst e
    exact ⟨by show 4 ≤ sizeLine; decide, fun p np => q1 v' p _ hd (same_new np) upd_same⟩
  have ho := (s.ok _ _ er).1
  have hb := hv.b
  have hab := hv.ab
  rw [s.tx er] at hb
  have szat : ∀ {i : Nat}, i < ts.length → atI (ts.map fun l => V.int (l.length : Int)) (i : Int) = some (.int ((tx ts i).length : Int)) := fun h => len_at h
  cases r with
  | letters z =>
    refine ⟨_, rfl, a, _, 0, _, rfl, rfl, hA, atI_nat (j := 0) rfl, ?_⟩
    refine ⟨_, rfl, rfl, _, rfl, ifT (by decide +kernel) ?_⟩
    exact q0 rfl
  | part i l u =>
    refine ⟨_, rfl, a, _, 0, _, rfl, rfl, hA, atI_nat (j := 0) rfl, ?_⟩
    refine ⟨_, rfl, rfl, _, rfl, ifF (by decide +kernel) ?_⟩
    refine ⟨_, rfl, rfl, _, rfl, ifT (by decide +kernel) ?_⟩
    refine ⟨_, rfl, a, _, 1, _, rfl, rfl, hA, atI_nat (j := 1) rfl, ?_⟩
    refine ⟨_, rfl, a, _, 2, _, rfl, rfl, hA, atI_nat (j := 2) rfl, _, rfl, _, _, rfl, rfl, ?_⟩
    refine ⟨_, rfl, a, _, 2, _, rfl, rfl, hA, atI_nat (j := 2) rfl, _, rfl, _, _, rfl, rfl, _, rfl, ?_⟩
    exact fin _ _ rfl rfl
  | back i =>
    obtain ⟨k1, k2, k3⟩ := s.tk er ho
    refine ⟨_, rfl, a, _, 0, _, rfl, rfl, hA, atI_nat (j := 0) rfl, ?_⟩
    refine ⟨_, rfl, rfl, _, rfl, ifF (by decide +kernel) ?_⟩
    refine ⟨_, rfl, rfl, _, rfl, ifF (by decide +kernel) ?_⟩
    refine ⟨_, rfl, x, C, dx, _, _, rfl, hX.at_, D.cl, D.nE, hX.fE, _, rfl, a, _, 1, _, rfl, rfl, hA, atI_nat (j := 1) rfl, LE, _, (i : Int), _, rfl, rfl, SqT.of hX.hE, szat k2, ?_⟩
    refine ⟨_, rfl, rfl, _, rfl, ifT (by decide +kernel) ?_⟩
    refine ⟨_, rfl, a, _, 1, _, rfl, rfl, hA, atI_nat (j := 1) rfl, ?_⟩
    refine ⟨_, rfl, _, rfl, _, _, rfl, rfl, _, rfl, _, rfl, _, _, rfl, rfl, _, rfl, v.t, rfl, ?_⟩
    refine fin ⟨i, (tx ts i).length - v.b, (tx ts i).length - v.a, !v.t⟩ _ ?_ rfl
    have hb' : v.b ≤ (tx (ts.take v.n) i).reverse.length := hb
    rw [List.length_reverse, k3] at hb'
    simp only [View.vals, List.cons.injEq, V.int.injEq, true_and, and_true]
    omega
  | power i k =>
    obtain ⟨o1, o2⟩ := ho
    obtain ⟨k1, k2, k3⟩ := s.tk er o1
    have hb' : v.b ≤ (pw (tx ts i) k).length := by rw [← k3]; exact hb
    rw [pw_len] at hb'
    have hpos : 0 < (tx ts i).length := by
      rcases Nat.eq_zero_or_pos (tx ts i).length with z | z
      · rw [z] at hb'; omega
      · exact z
    have hbig := s.big k2
    refine ⟨_, rfl, a, _, 0, _, rfl, rfl, hA, atI_nat (j := 0) rfl, ?_⟩
    refine ⟨_, rfl, rfl, _, rfl, ifF (by decide +kernel) ?_⟩
    refine ⟨_, rfl, rfl, _, rfl, ifF (by decide +kernel) ?_⟩
    refine ⟨_, rfl, x, C, dx, _, _, rfl, hX.at_, D.cl, D.nE, hX.fE, _, rfl, a, _, 1, _, rfl, rfl, hA, atI_nat (j := 1) rfl, LE, _, (i : Int), _, rfl, rfl, SqT.of hX.hE, szat k2, ?_⟩
    refine ⟨_, rfl, rfl, _, rfl, ifF (by decide +kernel) ?_⟩
    refine ⟨_, rfl, rfl, _, rfl, ifT (by decide +kernel) ?_⟩
    have esk : ((v.a : Int) / ((tx ts i).length : Int)) * ((tx ts i).length : Int) = ((v.a / (tx ts i).length * (tx ts i).length : Nat) : Int) := rfl
    have hd1 : v.a / (tx ts i).length * (tx ts i).length ≤ v.a := Nat.div_mul_le_self _ _
    refine ⟨_, rfl, _, rfl, _, _, rfl, rfl, divW hpos hbig _, _, rfl, _, _, rfl, rfl, .inr ⟨by omega, by omega⟩, ?_⟩
    refine ⟨_, rfl, _, rfl, _, rfl, _, _, rfl, rfl, _, _, rfl, rfl, _, rfl, ?_⟩
    have ed : deep ts (.power i k) v = if v.b > v.a / (tx ts i).length * (tx ts i).length + (tx ts i).length then none else some ⟨i, v.a - v.a / (tx ts i).length * (tx ts i).length, v.b - v.a / (tx ts i).length * (tx ts i).length, v.t⟩ := rfl
    refine ite2 (fun z => ?_) (fun z => ?_)
    · have z1 : ((v.a : Int) / ((tx ts i).length : Int)) * ((tx ts i).length : Int) + ((tx ts i).length : Int) < (v.b : Int) := of_decide_eq_true z
      rw [esk] at z1
      exact q0 (by rw [ed, if_pos (by omega)])
    · have z1 : ¬ ((v.a : Int) / ((tx ts i).length : Int)) * ((tx ts i).length : Int) + ((tx ts i).length : Int) < (v.b : Int) := fun h => z (decide_eq_true h)
      rw [esk] at z1
      refine ⟨_, rfl, a, _, 1, _, rfl, rfl, hA, atI_nat (j := 1) rfl, ?_⟩
      refine ⟨_, rfl, _, rfl, _, _, rfl, rfl, _, rfl, _, rfl, _, _, rfl, rfl, _, rfl, ?_⟩
      refine fin ⟨i, v.a - v.a / (tx ts i).length * (tx ts i).length, v.b - v.a / (tx ts i).length * (tx ts i).length, v.t⟩ _ ?_ (by rw [ed, if_neg (by omega)])
      simp only [View.vals, List.cons.injEq, V.int.injEq, true_and, and_true]
      rw [esk]
      omega
  | join i j =>
    obtain ⟨o1, o2⟩ := ho
    obtain ⟨k1, k2, k3⟩ := s.tk er o1
    refine ⟨_, rfl, a, _, 0, _, rfl, rfl, hA, atI_nat (j := 0) rfl, ?_⟩
    refine ⟨_, rfl, rfl, _, rfl, ifF (by decide +kernel) ?_⟩
    refine ⟨_, rfl, rfl, _, rfl, ifF (by decide +kernel) ?_⟩
    refine ⟨_, rfl, x, C, dx, _, _, rfl, hX.at_, D.cl, D.nE, hX.fE, _, rfl, a, _, 1, _, rfl, rfl, hA, atI_nat (j := 1) rfl, LE, _, (i : Int), _, rfl, rfl, SqT.of hX.hE, szat k2, ?_⟩
    refine ⟨_, rfl, rfl, _, rfl, ifF (by decide +kernel) ?_⟩
    refine ⟨_, rfl, rfl, _, rfl, ifF (by decide +kernel) ?_⟩
    have ed : deep ts (.join i j) v = if v.b ≤ (tx ts i).length then some ⟨i, v.a, v.b, v.t⟩ else if v.a ≥ (tx ts i).length then some ⟨j, v.a - (tx ts i).length, v.b - (tx ts i).length, v.t⟩ else none := rfl
    refine ⟨_, rfl, _, rfl, _, _, rfl, rfl, _, rfl, ?_⟩
    refine ite2 (fun z => ?_) (fun z => ?_)
    · have z1 : (v.b : Int) ≤ ((tx ts i).length : Int) := of_decide_eq_true z
      refine ⟨_, rfl, a, _, 1, _, rfl, rfl, hA, atI_nat (j := 1) rfl, ?_⟩
      refine ⟨_, rfl, _, rfl, _, rfl, ?_⟩
      exact fin ⟨i, v.a, v.b, v.t⟩ _ rfl (by rw [ed, if_pos (by omega)])
    · have z1 : ¬ (v.b : Int) ≤ ((tx ts i).length : Int) := fun h => z (decide_eq_true h)
      refine ⟨_, rfl, _, rfl, _, _, rfl, rfl, _, rfl, ?_⟩
      refine ite2 (fun z => ?_) (fun z => ?_)
      · have z2 : ((tx ts i).length : Int) ≤ (v.a : Int) := of_decide_eq_true z
        refine ⟨_, rfl, a, _, 2, _, rfl, rfl, hA, atI_nat (j := 2) rfl, ?_⟩
        refine ⟨_, rfl, _, rfl, _, _, rfl, rfl, _, rfl, _, rfl, _, _, rfl, rfl, _, rfl, ?_⟩
        refine fin ⟨j, v.a - (tx ts i).length, v.b - (tx ts i).length, v.t⟩ _ ?_ (by rw [ed, if_neg (by omega), if_pos (by omega)])
        simp only [View.vals, List.cons.injEq, V.int.injEq, true_and, and_true]
        omega
      · have z2 : ¬ ((tx ts i).length : Int) ≤ (v.a : Int) := fun h => z (decide_eq_true h)
        exact q0 (by rw [ed, if_neg (by omega), if_neg (by omega)])
end
section
variable {P : Program} {w : World} {K : PySem.W.Frag} {mg : Str → Option Value} {base : Heap}
/-! ### settled, view_of -/
structure Sett (rs : List Rule) (ts : List (List Nat)) (v : View) (r : Rule) : Prop where
  val : Val ts v
  rule : rs[v.n]? = some r
  deep : deep ts r v = none
def spSettled (C : Addr) : Sp := fun vs H Q _ => ∃ (x y : Addr) (rs : List Rule) (ts : List (List Nat)) (v : View), vs = [.ref x, .ref y] ∧ TextAt C H x rs ts ∧ H y = some (.tup v.vals) ∧ Val ts v ∧
  ∀ v' z r H', Same H H' → H' z = some (.tup v'.vals) → Sett rs ts v' r → vw ts v' = vw ts v → v'.n ≤ v.n → Q (.ref z) H'
theorem scSe : FnScope ["text", "view", "found"] ["text", "view"] (defScope sSettled) := ⟨rfl, rfl, rfl, by decide +kernel, rfl, by decide +kernel, by decide +kernel⟩
theorem ok_settled {C f : Addr} {fd : FuncData} (F : Fun K "settled" "settled" sSettled f fd) (hm : mg "settled" = some (.ref f)) (b : Binds K fd ["text", "view"] []) (GD : Cal P w K mg base 1 "deeper" (spDeeper C) []) : Cal P w K mg base 2 "settled" (spSettled C) [] := by
  refine mkCal F hm b scSe (fun vs H Q E h => ?_) (fun cdv A outer s H vs Q E hr h => ?_)
  · obtain ⟨x, y, rs, ts, v, rfl, _⟩ := h
    rfl
  obtain ⟨x, y, rs, ts, v, rfl, hX, hy, hv, q⟩ := h
  have snd : Sound rs ts := by obtain ⟨_, _, _, _, _, h⟩ := hX; exact h.sound
  refine ⟨_, (pss_cons (ps_set (i := 2) scSe.nd rfl (.inl rfl) (pv 1))
    (pss_cons (ps_while PassesOwn.never (pt_cmpR op_notN (pv 2) pe_non (nomark _)) (pss_cons (ps_set (i := 1) scSe.nd rfl (.inl rfl) (pv 2))
    (pss_one (ps_set (i := 2) scSe.nd rfl (.inl rfl) (pe_c GD hr (by decide) (by rfl) (pa_cons (pv 0) (pa_cons (pv 1) pa_nil)))))))
    (pss_one (ps_ret (pv 1))))), ?_⟩
  refine ⟨_, rfl, fun m σ H' => Same H H' ∧ ∃ (v' : View) (z : Addr), H' z = some (.tup v'.vals) ∧ Val ts v' ∧ vw ts v' = vw ts v ∧ v'.n ≤ v.n ∧
      ((∃ u, σ = [some (.ref x), some u, some (.ref z)] ∧ m = v'.n + 1) ∨ (σ = [some (.ref x), some (.ref z), some .non] ∧ m = 0 ∧ ∃ r, Sett rs ts v' r)),
    ⟨v.n + 1, Same.refl H, v, y, hy, hv, rfl, Nat.le_refl _, .inl ⟨_, rfl, rfl⟩⟩, ?_⟩
  rintro m σ H1 ⟨s1, v', z, hz, hv', e', hn', ⟨u, rfl, rfl⟩ | ⟨rfl, rfl, r, hs⟩⟩
  · refine ⟨_, rfl, rfl, _, rfl, ifT rfl ?_⟩
    refine ⟨fun σ' H' => ∃ m' < v'.n + 1, Same H H' ∧ ∃ (v2 : View) (z : Addr), H' z = some (.tup v2.vals) ∧ Val ts v2 ∧ vw ts v2 = vw ts v ∧ v2.n ≤ v.n ∧
      ((∃ u, σ' = [some (.ref x), some u, some (.ref z)] ∧ m' = v2.n + 1) ∨ (σ' = [some (.ref x), some (.ref z), some .non] ∧ m' = 0 ∧ ∃ r, Sett rs ts v2 r)), fun σ' H' h => h, ?_⟩
    obtain ⟨r, er⟩ := snd.rule hv'.n
    refine ⟨_, rfl, _, rfl, _, rfl, x, z, rs, ts, v', r, rfl, hX.same s1, hz, hv', er, fun hd => ?_, fun v2 z2 H2 hd s2 hz2 => ?_⟩
    · exact ⟨0, Nat.succ_pos _, s1, v', z, hz, hv', e', hn', .inr ⟨rfl, rfl, r, hv', er, hd⟩⟩
    · obtain ⟨h1, h2, h3⟩ := deep_ok snd er hv' hd
      exact ⟨v2.n + 1, by omega, s1.trans s2, v2, z2, hz2, h1, h3.trans e', by omega, .inl ⟨_, rfl, rfl⟩⟩
  · refine ⟨_, rfl, rfl, _, rfl, ifF rfl ?_⟩
    exact ⟨_, rfl, q v' z r H1 s1 hz hs e' hn'⟩
def spViewOf (C : Addr) : Sp := fun vs H Q _ => ∃ (x : Addr) (rs : List Rule) (ts : List (List Nat)) (a b : Nat), vs = [.ref x, .int (a : Int), .int (b : Int)] ∧ TextAt C H x rs ts ∧ 0 < ts.length ∧ a < b ∧ b ≤ (tx ts (ts.length - 1)).length ∧
  ∀ v' z r H', Same H H' → H' z = some (.tup v'.vals) → Sett rs ts v' r → vw ts v' = sub (tx ts (ts.length - 1)) a b → Q (.ref z) H'
theorem scVo : FnScope ["text", "start", "stop"] ["text", "start", "stop"] (defScope sViewOf) := ⟨rfl, rfl, rfl, by decide +kernel, rfl, by decide +kernel, by decide +kernel⟩
theorem ok_view_of {C f : Addr} {fd : FuncData} (F : Fun K "view_of" "view_of" sViewOf f fd) (hm : mg "view_of" = some (.ref f)) (b : Binds K fd ["text", "start", "stop"] []) (T : Txt mg) (D : Cl K C) (GSe : Cal P w K mg base 2 "settled" (spSettled C) []) : Cal P w K mg base 3 "view_of" (spViewOf C) [] := by
  refine mkCal F hm b scVo (fun vs H Q E h => ?_) (fun cdv A outer s H vs Q E hr h => ?_)
  · obtain ⟨x, rs, ts, a, b, rfl, _⟩ := h
    rfl
  obtain ⟨x, rs, ts, a, b, rfl, hX, h0, hab, hb, q⟩ := h
  refine ⟨_, (pss_one (ps_ret (pe_c GSe hr (by decide) (by rfl) (pa_cons (pv 0) (pa_cons (pe_tup (pa_cons (pe_op op_sub (pe_callB call_len_seq (by rfl) T.len PySem.boot_len (pa_cons (pe_fld (pv 0) rfl) pa_nil)) pe_int) (pa_cons (pv 1) (pa_cons (pv 2) (pa_cons pe_bl pa_nil))))) pa_nil))))), ?_⟩
  have hX' := hX
  obtain ⟨dx, RU, LE, fs, as, hI⟩ := hX'
  have elen : (as.map V.ref).length = ts.length := by rw [List.length_map, hI.hA.1, List.length_map, hI.sound.len]
  refine ⟨_, rfl, _, rfl, x, C, dx, _, _, rfl, hI.at_, D.cl, D.nR, hI.fR, RU, _, rfl, .inr (SqT.of hI.hR), _, _, rfl, rfl, _, rfl, _, rfl, by show 4 ≤ sizeLine; decide, fun y ny => ?_⟩
  refine ⟨x, y, rs, ts, ⟨ts.length - 1, a, b, false⟩, rfl, hX.same (same_new ny), ?_, ⟨by dsimp only; omega, hab, hb⟩, fun v' z r H' s' hz hs e' hn => ?_⟩
  · rw [upd_same, elen]
    simp only [View.vals, Option.some.injEq, HO.tup.injEq, List.cons.injEq, V.int.injEq, true_and, and_true]
    omega
  · exact q v' z r H' ((same_new ny).trans s') hz hs e'
/-! ### spelled_by -/
def spSpelledBy (C : Addr) : Sp := fun vs H Q _ => ∃ (x y : Addr) (rs : List Rule) (ts : List (List Nat)) (v : View) (r : Rule), vs = [.ref x, .ref y] ∧ TextAt C H x rs ts ∧ H y = some (.tup v.vals) ∧ Val ts v ∧ rs[v.n]? = some r ∧
  (isL r = true → Q (.str (S (vw ts v))) H) ∧ (isL r = false → Q .non H)
theorem scSb : FnScope ["text", "view", "number", "start", "stop", "turned", "rule", "letters"] ["text", "view"] (defScope sSpelledBy) := ⟨rfl, rfl, rfl, by decide +kernel, rfl, by decide +kernel, by decide +kernel⟩
theorem ok_spelled_by {C f : Addr} {fd : FuncData} (F : Fun K "spelled_by" "spelled_by" sSpelledBy f fd) (hm : mg "spelled_by" = some (.ref f)) (b : Binds K fd ["text", "view"] []) (D : Cl K C) : Cal P w K mg base 1 "spelled_by" (spSpelledBy C) [] := by
  refine mkCal F hm b scSb (fun vs H Q E h => ?_) (fun cdv A outer s H vs Q E hr h => ?_)
  · obtain ⟨x, y, rs, ts, v, r, rfl, _⟩ := h
    rfl
  obtain ⟨x, y, rs, ts, v, r, rfl, ⟨dx, RU, LE, fs, as, hX⟩, hy, hv, er, q1, q0⟩ := h
  refine ⟨_, (pss_cons (ps_asg (pv 1) (pg_tup rfl (pgs_cons (pg_name (i := 2) scSb.nd rfl (.inl rfl)) (pgs_cons (pg_name (i := 3) scSb.nd rfl (.inl rfl)) (pgs_cons (pg_name (i := 4) scSb.nd rfl (.inl rfl)) (pgs_cons (pg_name (i := 5) scSb.nd rfl (.inl rfl)) pgs_nil))))))
    (pss_cons (ps_set (i := 6) scSb.nd rfl (.inl rfl) (pe_ix ix_tup (pe_fld (pv 0) rfl) (pv 2) (fun _ _ => rfl)))
    (pss_cons (ps_if (pt_cmpR op_ne (pe_ix ix_tup (pv 6) pe_int (fun _ _ => rfl)) pe_str (nomark _)) (pss_one (ps_ret pe_non)) pss_nil)
    (pss_cons (ps_set (i := 7) scSb.nd rfl (.inl rfl) (pe_slice sl_str (pe_ix ix_tup (pv 6) pe_int (fun _ _ => rfl)) (po_some (pv 3)) (po_some (pv 4))))
    (pss_one (ps_ret (pe_ifExp (pt_val (pv 5)) (pe_revS (pv 7)) (pv 7)))))))), ?_⟩
  obtain ⟨a, ea, ha⟩ := hX.rule er
  have hA : SqT K H a r.vals := SqT.of ha
  have s := hX.sound
  refine ⟨_, rfl, y, _, rfl, SqT.of hy, rfl, _, _, rfl, _, _, rfl, _, _, rfl, _, _, rfl, rfl, ?_⟩
  refine ⟨_, rfl, x, C, dx, _, _, rfl, hX.at_, D.cl, D.nR, hX.fR, _, rfl, RU, _, (v.n : Int), _, rfl, rfl, SqT.of hX.hR, ea, ?_⟩
  have hb := hv.b
  have hab := hv.ab
  have etx := s.tx er
  cases r with
  | letters z =>
    have ho := (s.ok _ _ er).1
    have etz : tx ts v.n = z := etx
    rw [etz] at hb
    have evw : vw ts v = trn v.t (sub z v.a v.b) := by unfold vw; rw [etz]
    refine ⟨_, rfl, a, _, 0, _, rfl, rfl, hA, atI_nat (j := 0) rfl, rfl, _, rfl, ifF (by decide +kernel) ?_⟩
    refine ⟨_, rfl, a, _, 1, _, rfl, rfl, hA, atI_nat (j := 1) rfl, _, rfl, _, rfl, _, rfl, _, rfl, S z, rfl, Sz (by have := ho.1; omega), ?_⟩
    rw [cut_S hb (Nat.le_of_lt hab)]
    have q' := q1 rfl
    rw [evw] at q'
    have hlen : ((z.take v.b).drop v.a).length ≤ 64 := by
      rw [List.length_drop, List.length_take]
      have := ho.1
      omega
    refine ⟨_, rfl, v.t, rfl, ?_⟩
    cases hvt : v.t with
    | true =>
      rw [hvt] at q'
      exact ifT rfl ⟨_, rfl, _, rfl, by omega, q'⟩
    | false =>
      rw [hvt] at q'
      exact ifF rfl ⟨_, rfl, q'⟩
  | part i l u => exact ⟨_, rfl, a, _, 0, _, rfl, rfl, hA, atI_nat (j := 0) rfl, rfl, _, rfl, ifT (by decide +kernel) (q0 rfl)⟩
  | back i => exact ⟨_, rfl, a, _, 0, _, rfl, rfl, hA, atI_nat (j := 0) rfl, rfl, _, rfl, ifT (by decide +kernel) (q0 rfl)⟩
  | power i k => exact ⟨_, rfl, a, _, 0, _, rfl, rfl, hA, atI_nat (j := 0) rfl, rfl, _, rfl, ifT (by decide +kernel) (q0 rfl)⟩
  | join i j => exact ⟨_, rfl, a, _, 0, _, rfl, rfl, hA, atI_nat (j := 0) rfl, rfl, _, rfl, ifT (by decide +kernel) (q0 rfl)⟩
/-! ### divided_power -/
def spDivP : Sp := fun vs H Q _ => ∃ i n a b : Nat, vs = [.int (i : Int), .int (n : Int), .int (a : Int), .int (b : Int)] ∧ 0 < n ∧ n ≤ 1000000000000 ∧ (a + n - 1) / n ≤ b / n ∧
  ∀ (D : Addr) (as : List Addr) H', Same H H' → H D = none → H' D = some (.lst (as.map V.ref)) → LT H' as ((divP i n a b).map Pc.vals) → Q (.ref D) H'
theorem scDp : FnScope ["base", "size", "start", "stop", "parts", "whole"] ["base", "size", "start", "stop"] (defScope sDividedPower) := ⟨rfl, rfl, rfl, by decide +kernel, rfl, by decide +kernel, by decide +kernel⟩
theorem ok_divP {f : Addr} {fd : FuncData} (F : Fun K "divided_power" "divided_power" sDividedPower f fd) (hm : mg "divided_power" = some (.ref f)) (b : Binds K fd ["base", "size", "start", "stop"] []) : Cal P w K mg base 1 "divided_power" spDivP [] := by
  refine mkCal F hm b scDp (fun vs H Q E h => ?_) (fun cdv A outer s H vs Q E hr h => ?_)
  · obtain ⟨i, n, a, b, rfl, _⟩ := h
    rfl
  obtain ⟨i, n, a, b, rfl, hn, hbig, hle, q⟩ := h
  refine ⟨_, (pss_cons (ps_set (i := 4) scDp.nd rfl (.inl rfl) (pe_lst pa_nil))
    (pss_cut (ps_if (pt_truth (pe_op op_mod (pv 2) (pv 1)) (by intro _; rfl)) (pss_one (ps_expr (pe_bm PySem.F.plainAttrs_list PySem.F.slot_list_append PySem.F.type_list_append mt_append (pv 4) (pa_cons (pe_tup (pa_cons (pv 0) (pa_cons (pe_op op_mod (pv 2) (pv 1)) (pa_cons (pv 1) (pa_cons pe_int pa_nil))))) pa_nil)))) pss_nil)
    (pss_cons (ps_set (i := 5) scDp.nd rfl (.inl rfl) (pe_op op_sub (pe_op op_fdivW (pv 3) (pv 1)) (pe_op op_fdivW (pe_op op_sub (pe_op op_add (pv 2) (pv 1)) pe_int) (pv 1))))
    (pss_cut (ps_if (pt_truth (pv 5) (by intro _; rfl)) (pss_one (ps_expr (pe_bm PySem.F.plainAttrs_list PySem.F.slot_list_append PySem.F.type_list_append mt_append (pv 4) (pa_cons (pe_tup (pa_cons (pv 0) (pa_cons pe_int (pa_cons (pv 1) (pa_cons (pv 5) pa_nil))))) pa_nil)))) pss_nil)
    (pss_cut (ps_if (pt_truth (pe_op op_mod (pv 3) (pv 1)) (by intro _; rfl)) (pss_one (ps_expr (pe_bm PySem.F.plainAttrs_list PySem.F.slot_list_append PySem.F.type_list_append mt_append (pv 4) (pa_cons (pe_tup (pa_cons (pv 0) (pa_cons pe_int (pa_cons (pe_op op_mod (pv 3) (pv 1)) (pa_cons pe_int pa_nil))))) pa_nil)))) pss_nil)
    (pss_one (ps_ret (pv 4)))))))), ?_⟩
  refine ⟨Nat.zero_le _, fun D nD => ?_⟩
  -- a piece more
  have push : ∀ (H1 : Hp) (as : List Addr) (qs : List Pc) (pc : Pc) (vs : List V), vs = pc.vals → Same H H1 → H1 D = some (.lst (as.map V.ref)) → LT H1 as (qs.map Pc.vals) → qs.length ≤ 10 → ∀ (R : Hp → Prop),
      (∀ as' H2, Same H H2 → H2 D = some (.lst (as'.map V.ref)) → LT H2 as' ((qs ++ [pc]).map Pc.vals) → R H2) →
      vs.length ≤ sizeLine ∧ ∀ p, H1 p = none → ∃ l xs v, V.ref D = .ref l ∧ [V.ref p] = [v] ∧ (upd H1 p (.tup vs)) l = some (.lst xs) ∧ xs.length < sizeLine ∧ R (upd (upd H1 p (.tup vs)) l (.lst (xs ++ [v]))) := by
    intro H1 as qs pc vs e s1 hD hL hq R hR
    subst e
    refine ⟨by show 4 ≤ sizeLine; decide, fun p np => ?_⟩
    have hDp : D ≠ p := ne_of_none hD np
    have hD' : (upd H1 p (.tup pc.vals)) D = some (.lst (as.map V.ref)) := by rw [upd_ne hDp]; exact hD
    refine ⟨D, _, _, rfl, rfl, hD', by rw [List.length_map, hL.1, List.length_map]; exact small1000 (by omega), ?_⟩
    refine hR (as ++ [p]) _ (fun c o hc => ?_) (by rw [upd_same]; simp) ?_
    · rw [upd_ne (ne_of_none hc nD), upd_ne (ne_of_none (s1 _ _ hc) np)]
      exact s1 _ _ hc
    · rw [List.map_append]
      exact ((hL.same (same_new np)).add upd_same).updL hD'
  refine ⟨fun σ H' => ∃ as, σ = [some (.int (i : Int)), some (.int (n : Int)), some (.int (a : Int)), some (.int (b : Int)), some (.ref D), none] ∧ Same H H' ∧ H' D = some (.lst (as.map V.ref)) ∧ LT H' as ((if a % n = 0 then [] else [(⟨i, a % n, n, 1⟩ : Pc)]).map Pc.vals), ?_, ?_⟩
  · refine ⟨_, rfl, _, rfl, _, _, rfl, rfl, by omega, _, rfl, ?_⟩
    by_cases hz : a % n = 0
    · refine ifF ?_ ⟨[], rfl, same_new nD, upd_same, by rw [if_pos hz]; exact LT.nil⟩
      have e : ((a : Int) % (n : Int)) = 0 := by omega
      show (((a : Int) % (n : Int)) != 0) = false
      rw [e]
      rfl
    · refine ifT ?_ ?_
      · have e : ((a : Int) % (n : Int)) ≠ 0 := by omega
        show (((a : Int) % (n : Int)) != 0) = true
        exact bne_iff_ne.mpr e
      · refine ⟨_, rfl, .inl ⟨rfl, _, SqL.of upd_same⟩, ?_⟩
        refine ⟨_, rfl, _, rfl, _, rfl, _, _, rfl, rfl, by omega, _, rfl, ?_⟩
        refine push _ [] [] ⟨i, a % n, n, 1⟩ _ rfl (same_new nD) upd_same LT.nil (by decide) _ fun as' H2 s2 hD2 hL2 => ?_
        exact ⟨as', rfl, s2, hD2, by rw [if_neg hz]; exact hL2⟩
  · rintro σ H1 ⟨as, rfl, s1, hD1, hL1⟩
    have esub : ((b : Int) / (n : Int)) - ((a : Int) + (n : Int) - 1) / (n : Int) = ((b / n - (a + n - 1) / n : Nat) : Int) := by
      have e1 : ((a : Int) + (n : Int) - 1) = ((a + n - 1 : Nat) : Int) := by omega
      rw [e1, show ((b : Int) / (n : Int)) = ((b / n : Nat) : Int) from rfl, show (((a + n - 1 : Nat) : Int) / (n : Int)) = (((a + n - 1) / n : Nat) : Int) from rfl]
      omega
    refine ⟨_, rfl, _, rfl, _, _, rfl, rfl, divW hn hbig _, _, rfl, _, rfl, _, _, rfl, rfl, _, _, rfl, rfl, _, rfl, _, _, rfl, rfl, divW hn hbig _, _, _, rfl, rfl, ?_⟩
    generalize hw : b / n - (a + n - 1) / n = wh at esub
    show gName 5 (V.int ((b : Int) / (n : Int) - ((a : Int) + (n : Int) - 1) / (n : Int))) _ _ _
    rw [esub]
    refine ⟨fun σ H' => ∃ as, σ = [some (.int (i : Int)), some (.int (n : Int)), some (.int (a : Int)), some (.int (b : Int)), some (.ref D), some (.int (wh : Int))] ∧ Same H H' ∧ H' D = some (.lst (as.map V.ref)) ∧
      LT H' as (((if a % n = 0 then [] else [(⟨i, a % n, n, 1⟩ : Pc)]) ++ (if wh = 0 then [] else [(⟨i, 0, n, wh⟩ : Pc)])).map Pc.vals), ?_, ?_⟩
    · refine ⟨_, rfl, _, rfl, ?_⟩
      by_cases hz : wh = 0
      · refine ifF (by rw [hz]; rfl) ⟨as, rfl, s1, hD1, ?_⟩
        rw [if_pos hz, List.append_nil]
        exact hL1
      · refine ifT (bne_iff_ne.mpr (by omega)) ?_
        refine ⟨_, rfl, .inl ⟨rfl, _, SqL.of hD1⟩, ?_⟩
        refine ⟨_, rfl, _, rfl, _, rfl, ?_⟩
        refine push _ as _ ⟨i, 0, n, wh⟩ _ rfl s1 hD1 hL1 (by split <;> simp) _ fun as' H2 s2 hD2 hL2 => ?_
        exact ⟨as', rfl, s2, hD2, by rw [if_neg hz]; exact hL2⟩
    · rintro σ H2 ⟨as2, rfl, s2, hD2, hL2⟩
      refine ⟨fun σ H' => ∃ as, σ = [some (.int (i : Int)), some (.int (n : Int)), some (.int (a : Int)), some (.int (b : Int)), some (.ref D), some (.int (wh : Int))] ∧ Same H H' ∧ H' D = some (.lst (as.map V.ref)) ∧
        LT H' as ((divP i n a b).map Pc.vals), ?_, ?_⟩
      · refine ⟨_, rfl, _, rfl, _, _, rfl, rfl, by omega, _, rfl, ?_⟩
        unfold divP
        rw [hw]
        by_cases hz : b % n = 0
        · refine ifF ?_ ⟨as2, rfl, s2, hD2, ?_⟩
          · have e : ((b : Int) % (n : Int)) = 0 := by omega
            show (((b : Int) % (n : Int)) != 0) = false
            rw [e]
            rfl
          · rw [if_pos hz, List.append_nil]
            exact hL2
        · refine ifT ?_ ?_
          · have e : ((b : Int) % (n : Int)) ≠ 0 := by omega
            show (((b : Int) % (n : Int)) != 0) = true
            exact bne_iff_ne.mpr e
          · refine ⟨_, rfl, .inl ⟨rfl, _, SqL.of hD2⟩, ?_⟩
            refine ⟨_, rfl, _, rfl, _, rfl, _, _, rfl, rfl, by omega, ?_⟩
            refine push _ as2 _ ⟨i, 0, b % n, 1⟩ _ rfl s2 hD2 hL2 (by split <;> split <;> simp) _ fun as' H3 s3 hD3 hL3 => ?_
            exact ⟨as', rfl, s3, hD3, by rw [if_neg hz]; exact hL3⟩
      · rintro σ H3 ⟨as3, rfl, s3, hD3, hL3⟩
        exact ⟨_, rfl, q D as3 H3 s3 nD hD3 hL3⟩
end
/-! ### the mathematics of a division -/
def rep (p : View × Nat) : List View := List.replicate p.2 p.1
def wv (ts : List (List Nat)) (p : View × Nat) : List Nat := pw (vw ts p.1) p.2
def mu (ts : List (List Nat)) (st : List View) : Nat := (st.map fun v => (v.n + 1) * (vw ts v).length).sum
def tot (ts : List (List Nat)) (st : List View) : List Nat := (st.reverse.map (vw ts)).flatten
theorem rep_rev (ws : List (View × Nat)) : (ws.reverse.flatMap rep).reverse = ws.flatMap rep := by
  induction ws with
  | nil => rfl
  | cons p ws ih =>
    rw [List.reverse_cons, List.flatMap_append, List.reverse_append, ih, List.flatMap_cons, List.flatMap_cons, List.flatMap_nil, List.append_nil]
    congr 1
    unfold rep
    rw [List.reverse_replicate]
theorem rep_tot (ts : List (List Nat)) (ws : List (View × Nat)) : ((ws.flatMap rep).map (vw ts)).flatten = (ws.map (wv ts)).flatten := by
  induction ws with
  | nil => rfl
  | cons p ws ih =>
    rw [List.flatMap_cons, List.map_append, List.flatten_append, ih, List.map_cons, List.flatten_cons]
    congr 1
    unfold rep wv pw
    rw [List.map_replicate]
theorem mu_app (ts : List (List Nat)) (a b : List View) : mu ts (a ++ b) = mu ts a + mu ts b := by
  unfold mu
  rw [List.map_append, List.sum_append]
theorem mu_rev (ts : List (List Nat)) (a : List View) : mu ts a.reverse = mu ts a := by
  unfold mu
  rw [List.map_reverse, List.sum_reverse]
theorem tot_app (ts : List (List Nat)) (a b : List View) : tot ts (a ++ b) = tot ts b ++ tot ts a := by
  unfold tot
  rw [List.reverse_append, List.map_append, List.flatten_append]
theorem mu_rep1 (ts : List (List Nat)) (v : View) (k : Nat) : mu ts (List.replicate k v) = k * ((v.n + 1) * (vw ts v).length) := by
  unfold mu
  rw [List.map_replicate, List.sum_replicate_nat]
theorem mu_rep {ts : List (List Nat)} {N : Nat} {ws : List (View × Nat)} (h : ∀ p ∈ ws, p.1.n + 1 ≤ N) : mu ts (ws.flatMap rep) ≤ N * ((ws.map (wv ts)).flatten).length := by
  induction ws with
  | nil => exact Nat.zero_le _
  | cons p ws ih =>
    rw [List.flatMap_cons, mu_app, List.map_cons, List.flatten_cons, List.length_append, Nat.mul_add]
    refine Nat.add_le_add ?_ (ih fun q hq => h q (List.mem_cons_of_mem _ hq))
    unfold rep wv
    rw [mu_rep1, pw_len]
    have h1 := h p List.mem_cons_self
    calc p.2 * ((p.1.n + 1) * (vw ts p.1).length) = (p.1.n + 1) * (p.2 * (vw ts p.1).length) := by rw [Nat.mul_left_comm]
      _ ≤ N * (p.2 * (vw ts p.1).length) := Nat.mul_le_mul_right _ h1
theorem rep_len {ts : List (List Nat)} {ws : List (View × Nat)} (h : ∀ p ∈ ws, 1 ≤ (vw ts p.1).length) : (ws.flatMap rep).length ≤ ((ws.map (wv ts)).flatten).length := by
  induction ws with
  | nil => exact Nat.le_refl _
  | cons p ws ih =>
    rw [List.flatMap_cons, List.length_append, List.map_cons, List.flatten_cons, List.length_append]
    refine Nat.add_le_add ?_ (ih fun q hq => h q (List.mem_cons_of_mem _ hq))
    unfold rep wv
    rw [List.length_replicate, pw_len]
    exact Nat.le_mul_of_pos_right _ (h p List.mem_cons_self)
theorem flat_le {α : Type} {L : List (List α)} {x : List α} (h : x ∈ L) : x.length ≤ L.flatten.length := by
  induction L with
  | nil => cases h
  | cons y L ih =>
    rw [List.flatten_cons, List.length_append]
    rcases List.mem_cons.mp h with e | e
    · subst e
      omega
    · have := ih e
      omega
theorem stk_len {ts : List (List Nat)} {st : List View} (h : ∀ v ∈ st, 1 ≤ (vw ts v).length) : st.length ≤ (tot ts st).length := by
  induction st with
  | nil => exact Nat.le_refl _
  | cons v st ih =>
    have e : v :: st = [v] ++ st := rfl
    rw [e, tot_app, List.length_append, List.length_append]
    have h1 := ih fun u hu => h u (List.mem_cons_of_mem _ hu)
    have h2 := h v List.mem_cons_self
    have e3 : tot ts [v] = vw ts v := by simp [tot]
    rw [e3]
    simp only [List.length_cons, List.length_nil]
    omega
theorem LT.rev {H : Hp} {as : List Addr} {vss : List (List V)} (h : LT H as vss) : LT H as.reverse vss.reverse := by
  refine ⟨by simp [h.1], fun k vs e => ?_⟩
  have hk : k < vss.length := by
    have := (List.getElem?_eq_some_iff.mp e).1
    simpa using this
  rw [List.getElem?_reverse hk] at e
  obtain ⟨a, e1, e2⟩ := h.2 _ vs e
  exact ⟨a, by rw [List.getElem?_reverse (by rw [h.1]; exact hk), h.1]; exact e1, e2⟩
theorem divs_len (ts : List (List Nat)) (r : Rule) (v : View) : (divs ts r v).length ≤ 3 := by
  cases r with
  | power i k =>
    show (divP _ _ _ _).length ≤ 3
    unfold divP
    rw [List.length_append, List.length_append]
    split <;> split <;> split <;> simp
  | join i j => show 2 ≤ 3; decide
  | letters z => exact Nat.zero_le _
  | part i a b => exact Nat.zero_le _
  | back i => exact Nat.zero_le _
theorem parts_len (ts : List (List Nat)) (r : Rule) (v : View) : (parts ts r v).length ≤ 3 := by
  unfold parts
  split
  · rw [List.length_reverse]
    exact divs_len ts r v
  · exact divs_len ts r v
def DL (H : Hp) (as : List Addr) (ws : List (View × Nat)) : Prop := as.length = ws.length ∧ ∀ (j : Nat) (p : View × Nat), ws[j]? = some p → ∃ a z, as[j]? = some a ∧ H a = some (.tup [.ref z, .int (p.2 : Int)]) ∧ H z = some (.tup p.1.vals)
theorem DL.same {H H' : Hp} {as : List Addr} {ws : List (View × Nat)} (h : DL H as ws) (s : Same H H') : DL H' as ws := ⟨h.1, fun j p e => let ⟨a, z, e1, e2, e3⟩ := h.2 j p e; ⟨a, z, e1, s _ _ e2, s _ _ e3⟩⟩
theorem DL.updL {H : Hp} {as : List Addr} {ws : List (View × Nat)} {D : Addr} {xs : List V} {o : HO} (h : DL H as ws) (hD : H D = some (.lst xs)) : DL (upd H D o) as ws :=
  ⟨h.1, fun j p e => let ⟨a, z, e1, e2, e3⟩ := h.2 j p e; ⟨a, z, e1, by rw [upd_ne (ne_of e2 hD (by intro z; cases z))]; exact e2, by rw [upd_ne (ne_of e3 hD (by intro z; cases z))]; exact e3⟩⟩
theorem DL.add {H : Hp} {as : List Addr} {ws : List (View × Nat)} {a z : Addr} {p : View × Nat} (h : DL H as ws) (ha : H a = some (.tup [.ref z, .int (p.2 : Int)])) (hz : H z = some (.tup p.1.vals)) : DL H (as ++ [a]) (ws ++ [p]) := by
  refine ⟨by simp [h.1], fun k x e => ?_⟩
  by_cases hk : k < ws.length
  · rw [List.getElem?_append_left hk] at e
    obtain ⟨b, y, e1, e2⟩ := h.2 k x e
    exact ⟨b, y, by rw [List.getElem?_append_left (by rw [h.1]; exact hk)]; exact e1, e2⟩
  · have hk2 : k = ws.length := by
      have := (List.getElem?_eq_some_iff.mp e).1
      simp at this
      omega
    subst hk2
    rw [List.getElem?_append_right (Nat.le_refl _), Nat.sub_self] at e
    have e' : p = x := Option.some.inj e
    subst e'
    exact ⟨a, z, by rw [← h.1, List.getElem?_append_right (Nat.le_refl _), Nat.sub_self]; rfl, ha, hz⟩
section
variable {P : Program} {w : World} {K : PySem.W.Frag} {mg : Str → Option Value} {base : Heap}
/-! ### divided -/
def spDivided (C : Addr) : Sp := fun vs H Q _ => ∃ (x y : Addr) (rs : List Rule) (ts : List (List Nat)) (v : View) (r : Rule), vs = [.ref x, .ref y] ∧ TextAt C H x rs ts ∧ H y = some (.tup v.vals) ∧ Sett rs ts v r ∧ isL r = false ∧
  ∀ (D : Addr) (as : List Addr) (ws : List (View × Nat)) H', Same H H' → H D = none → H' D = some (.lst (as.map V.ref)) → DL H' as ws → (∀ p ∈ ws, (∃ r', Sett rs ts p.1 r') ∧ p.1.n < v.n ∧ 1 ≤ p.2) → (ws.map (wv ts)).flatten = vw ts v → Q (.ref D) H'
theorem scDi : FnScope ["text", "view", "number", "start", "stop", "turned", "rule", "size", "parts", "base", "low", "high", "times"] ["text", "view"] (defScope sDivided) := ⟨rfl, rfl, rfl, by decide +kernel, rfl, by decide +kernel, by decide +kernel⟩
theorem ok_divided {C f : Addr} {fd : FuncData} (F : Fun K "divided" "divided" sDivided f fd) (hm : mg "divided" = some (.ref f)) (b : Binds K fd ["text", "view"] []) (D : Cl K C) (GDp : Cal P w K mg base 1 "divided_power" spDivP []) (GSe : Cal P w K mg base 2 "settled" (spSettled C) []) : Cal P w K mg base 3 "divided" (spDivided C) [] := by
  refine mkCal F hm b scDi (fun vs H Q E h => ?_) (fun cdv A outer s H vs Q E hr h => ?_)
  · obtain ⟨x, y, rs, ts, v, r, rfl, _⟩ := h
    rfl
  obtain ⟨x, y, rs, ts, v, r, rfl, hX0, hy, hs, hl, q⟩ := h
  have hX1 := hX0
  obtain ⟨dx, RU, LE, fs, as, hX⟩ := hX1
  refine ⟨_, (pss_cons (ps_asg (pv 1) (pg_tup rfl (pgs_cons (pg_name (i := 2) scDi.nd rfl (.inl rfl)) (pgs_cons (pg_name (i := 3) scDi.nd rfl (.inl rfl)) (pgs_cons (pg_name (i := 4) scDi.nd rfl (.inl rfl)) (pgs_cons (pg_name (i := 5) scDi.nd rfl (.inr rfl)) pgs_nil))))))
    (pss_cons (ps_set (i := 6) scDi.nd rfl (.inl rfl) (pe_ix ix_tup (pe_fld (pv 0) rfl) (pv 2) (fun _ _ => rfl)))
    (pss_cut (ps_if (pt_cmpR op_eq (pe_ix ix_tup (pv 6) pe_int (fun _ _ => rfl)) pe_str (nomark _)) (pss_cons (ps_set (i := 7) scDi.nd rfl (.inl rfl) (pe_ix ix_tup (pe_fld (pv 0) rfl) (pe_ix ix_tup (pv 6) pe_int (fun _ _ => rfl)) (fun _ _ => rfl)))
    (pss_one (ps_set (i := 8) scDi.nd rfl (.inl rfl) (pe_lst (pa_cons (pe_tup (pa_cons (pe_ix ix_tup (pv 6) pe_int (fun _ _ => rfl)) (pa_cons (pv 3) (pa_cons (pv 7) (pa_cons pe_int pa_nil))))) (pa_cons (pe_tup (pa_cons (pe_ix ix_tup (pv 6) pe_int (fun _ _ => rfl)) (pa_cons pe_int (pa_cons (pe_op op_sub (pv 4) (pv 7)) (pa_cons pe_int pa_nil))))) pa_nil)))))) (pss_one (ps_set (i := 8) scDi.nd rfl (.inl rfl) (pe_c GDp hr (by decide) (by rfl) (pa_cons (pe_ix ix_tup (pv 6) pe_int (fun _ _ => rfl)) (pa_cons (pe_ix ix_tup (pe_fld (pv 0) rfl) (pe_ix ix_tup (pv 6) pe_int (fun _ _ => rfl)) (fun _ _ => rfl)) (pa_cons (pv 3) (pa_cons (pv 4) pa_nil))))))))
    (pss_cut (ps_if (pt_val (pv 5)) (pss_one (ps_set (i := 8) scDi.nd rfl (.inl rfl) (pe_revL (pv 8)))) pss_nil)
    (pss_one (ps_ret (pe_lc (own := [("base", 9), ("low", 10), ("high", 11), ("times", 12)]) (g := gTup K 4 (gCons (gName 9) (gCons (gName 10) (gCons (gName 11) (gCons (gName 12) gNil))))) (tt := tYes) rfl scDi.nd (pi_list (pv 8)) (blkOk_by (N := ["text", "view", "number", "start", "stop", "turned", "rule", "size", "parts", "base", "low", "high", "times"]) (sc := defScope sDivided) (by decide +kernel)) (fun _ _ _ _ _ => (pg_tup rfl (pgs_cons (pg_name (i := 9) scDi.nd rfl (.inl rfl)) (pgs_cons (pg_name (i := 10) scDi.nd rfl (.inl rfl)) (pgs_cons (pg_name (i := 11) scDi.nd rfl (.inl rfl)) (pgs_cons (pg_name (i := 12) scDi.nd rfl (.inl rfl)) pgs_nil)))))) (fun _ _ _ _ _ => pts_nil) (fun _ _ _ _ _ => (pe_tup (pa_cons (pe_c GSe hr (by decide) (by rfl) (pa_cons (pv 0) (pa_cons (pe_tup (pa_cons (pv 9) (pa_cons (pv 10) (pa_cons (pv 11) (pa_cons (pv 5) pa_nil))))) pa_nil))) (pa_cons (pv 12) pa_nil))))))))))), ?_⟩
  obtain ⟨ra, era, hra⟩ := hX.rule hs.rule
  have hA : SqT K H ra r.vals := SqT.of hra
  have snd := hX.sound
  have hv := hs.val
  refine ⟨_, rfl, y, _, rfl, SqT.of hy, rfl, _, _, rfl, _, _, rfl, _, _, rfl, _, _, rfl, rfl, ?_⟩
  refine ⟨_, rfl, x, C, dx, _, _, rfl, hX.at_, D.cl, D.nR, hX.fR, _, rfl, RU, _, (v.n : Int), _, rfl, rfl, SqT.of hX.hR, era, ?_⟩
  refine ⟨fun σ H' => ∃ (s7 : Option V) (L : Addr) (as : List Addr), σ = [some (.ref x), some (.ref y), some (.int (v.n : Int)), some (.int (v.a : Int)), some (.int (v.b : Int)), some (.bl v.t), some (.ref ra), s7, some (.ref L), none, none, none, none] ∧
    Same H H' ∧ H L = none ∧ H' L = some (.lst (as.map V.ref)) ∧ LT H' as ((divs ts r v).map Pc.vals), ?_, ?_⟩
  · have ho := (snd.ok _ _ hs.rule).1
    have hb := hv.b
    have hab := hv.ab
    have hd := hs.deep
    rw [snd.tx hs.rule] at hb
    cases r with
    | letters z => cases hl
    | part i a b => cases hd
    | back i => cases hd
    | join i j =>
      obtain ⟨o1, o2⟩ := ho
      obtain ⟨k1, k2, k3⟩ := snd.tk hs.rule o1
      have ed : deep ts (.join i j) v = if v.b ≤ (tx ts i).length then some ⟨i, v.a, v.b, v.t⟩ else if v.a ≥ (tx ts i).length then some ⟨j, v.a - (tx ts i).length, v.b - (tx ts i).length, v.t⟩ else none := rfl
      rw [ed] at hd
      have c1 : ¬ v.b ≤ (tx ts i).length := fun h => by rw [if_pos h] at hd; cases hd
      refine ⟨_, rfl, ra, _, 0, _, rfl, rfl, hA, atI_nat (j := 0) rfl, rfl, _, rfl, ifT (by decide +kernel) ?_⟩
      refine ⟨_, rfl, x, C, dx, _, _, rfl, hX.at_, D.cl, D.nE, hX.fE, _, rfl, ra, _, 1, _, rfl, rfl, hA, atI_nat (j := 1) rfl, LE, _, (i : Int), _, rfl, rfl, SqT.of hX.hE, len_at k2, ?_⟩
      refine ⟨_, rfl, ra, _, 1, _, rfl, rfl, hA, atI_nat (j := 1) rfl, _, rfl, _, rfl, by show 4 ≤ sizeLine; decide, fun p1 n1 => ?_⟩
      have s1 : Same H (upd H p1 (.tup [.int (i : Int), .int (v.a : Int), .int ((tx ts i).length : Int), .int 1])) := same_new n1
      refine ⟨_, rfl, ra, _, 2, _, rfl, rfl, (SqT.of (s1 _ _ hra) : SqT K _ ra (Rule.join i j).vals), atI_nat (j := 2) rfl, _, rfl, _, rfl, _, _, rfl, rfl, by show 4 ≤ sizeLine; decide, fun p2 n2 => ?_⟩
      have n12 : p1 ≠ p2 := ne_of_none (upd_same) n2
      refine ⟨by show 2 ≤ sizeLine; decide, fun L nL => ?_⟩
      have n1L := ne_of_none (H := upd (upd H p1 (.tup [.int (i : Int), .int (v.a : Int), .int ((tx ts i).length : Int), .int 1])) p2 (.tup [.int (j : Int), .int 0, .int ((v.b : Int) - ((tx ts i).length : Int)), .int 1])) (a := p1) (by rw [upd_ne n12]; exact upd_same) nL
      have n2L := ne_of_none (H := upd (upd H p1 (.tup [.int (i : Int), .int (v.a : Int), .int ((tx ts i).length : Int), .int 1])) p2 (.tup [.int (j : Int), .int 0, .int ((v.b : Int) - ((tx ts i).length : Int)), .int 1])) (a := p2) upd_same nL
      have s2 := s1.trans (same_new (o := .tup [.int (j : Int), .int 0, .int ((v.b : Int) - ((tx ts i).length : Int)), .int 1]) n2)
      refine ⟨_, L, [p1, p2], rfl, s2.trans (same_new nL), s2.free nL, upd_same, ?_⟩
      have e2 : [.int (j : Int), .int 0, .int ((v.b : Int) - ((tx ts i).length : Int)), .int 1] = Pc.vals ⟨j, 0, v.b - (tx ts i).length, 1⟩ := by
        simp only [Pc.vals, List.cons.injEq, V.int.injEq, true_and, and_true]
        omega
      refine (LT.nil.add (a := p1) ?_).add (a := p2) ?_
      · rw [upd_ne n1L, upd_ne n12, upd_same]
        rfl
      · rw [upd_ne n2L, upd_same, e2]
    | power i k =>
      obtain ⟨o1, o2⟩ := ho
      obtain ⟨k1, k2, k3⟩ := snd.tk hs.rule o1
      have hb' : v.b ≤ (pw (tx ts i) k).length := by rw [← k3]; exact hb
      rw [pw_len] at hb'
      have hpos : 0 < (tx ts i).length := by
        rcases Nat.eq_zero_or_pos (tx ts i).length with z | z
        · rw [z] at hb'; omega
        · exact z
      have ed : deep ts (.power i k) v = if v.b > v.a / (tx ts i).length * (tx ts i).length + (tx ts i).length then none else some ⟨i, v.a - v.a / (tx ts i).length * (tx ts i).length, v.b - v.a / (tx ts i).length * (tx ts i).length, v.t⟩ := rfl
      rw [ed] at hd
      have c1 : v.b > v.a / (tx ts i).length * (tx ts i).length + (tx ts i).length := by
        by_cases h : v.b > v.a / (tx ts i).length * (tx ts i).length + (tx ts i).length
        · exact h
        · rw [if_neg h] at hd; cases hd
      have hup : (v.a + (tx ts i).length - 1) / (tx ts i).length ≤ v.b / (tx ts i).length := by
        rw [up_div hpos]
        have hq : v.a / (tx ts i).length + 1 ≤ v.b / (tx ts i).length := by
          rw [Nat.le_div_iff_mul_le hpos, Nat.add_mul, Nat.one_mul]
          omega
        split <;> omega
      refine ⟨_, rfl, ra, _, 0, _, rfl, rfl, hA, atI_nat (j := 0) rfl, rfl, _, rfl, ifF (by decide +kernel) ?_⟩
      refine ⟨_, rfl, ra, _, 1, _, rfl, rfl, hA, atI_nat (j := 1) rfl, ?_⟩
      refine ⟨_, rfl, x, C, dx, _, _, rfl, hX.at_, D.cl, D.nE, hX.fE, _, rfl, ra, _, 1, _, rfl, rfl, hA, atI_nat (j := 1) rfl, LE, _, (i : Int), _, rfl, rfl, SqT.of hX.hE, len_at k2, ?_⟩
      refine ⟨_, rfl, _, rfl, i, (tx ts i).length, v.a, v.b, rfl, hpos, snd.big k2, hup, fun L as H1 s1 nL hL hT => ?_⟩
      exact ⟨_, L, as, rfl, s1, nL, hL, hT⟩
  · rintro σ H1 ⟨s7, L, as1, rfl, s1, nL, hL, hT⟩
    refine ⟨fun σ H' => ∃ (L : Addr) (as : List Addr), σ = [some (.ref x), some (.ref y), some (.int (v.n : Int)), some (.int (v.a : Int)), some (.int (v.b : Int)), some (.bl v.t), some (.ref ra), s7, some (.ref L), none, none, none, none] ∧
      Same H H' ∧ H' L = some (.lst (as.map V.ref)) ∧ LT H' as ((parts ts r v).map Pc.vals), ?_, ?_⟩
    · refine ⟨_, rfl, v.t, rfl, ?_⟩
      cases hvt : v.t with
      | true =>
        refine ifT rfl ⟨_, rfl, L, _, rfl, SqL.of hL, fun L2 nL2 => ?_⟩
        refine ⟨L2, as1.reverse, rfl, s1.trans (same_new nL2), by rw [upd_same, List.map_reverse], ?_⟩
        unfold parts
        rw [hvt, if_pos rfl, List.map_reverse]
        exact (hT.same (same_new nL2)).rev
      | false =>
        refine ifF rfl ⟨L, as1, rfl, s1, hL, ?_⟩
        unfold parts
        rw [hvt, if_neg (by decide)]
        exact hT
    · rintro σ H2 ⟨L, as2, rfl, s2, hL2, hT2⟩
      obtain ⟨pok, psum⟩ := parts_ok snd hs.rule hv hs.deep hl
      have plen := parts_len ts r v
      refine ⟨_, rfl, L, rfl, ⟨_, SqL.of hL2⟩, fun D2 nD2 => ?_⟩
      refine lc_list (K := K) (a := L) (xs := as2.map V.ref) (fun i H' => Same H2 H' ∧ ∃ (as : List Addr) (ws : List (View × Nat)), H' D2 = some (.lst (as.map V.ref)) ∧ DL H' as ws ∧ ws.length = i ∧
          ∀ (j : Nat) (p : View × Nat), ws[j]? = some p → ∃ (q : Pc) (r' : Rule), (parts ts r v)[j]? = some q ∧ p.2 = q.k ∧ vw ts p.1 = trn v.t (sub (tx ts q.i) q.a q.b) ∧ Sett rs ts p.1 r' ∧ p.1.n ≤ q.i)
        ⟨same_new nD2, [], [], upd_same, ⟨rfl, fun j p e => by simp at e⟩, rfl, fun j p e => by simp at e⟩ (fun i H' _ h => h.1.seq (SqL.of hL2)) ?_ ?_
      · rintro i xx H3 hi ⟨s3, as3, ws, hD3, hDL, hwl, hrel⟩
        have hi2 : i < as2.length := by
          have := (List.getElem?_eq_some_iff.mp hi).1
          rwa [List.length_map] at this
        rw [List.getElem?_map, List.getElem?_eq_getElem hi2] at hi
        have exx := Option.some.inj hi
        subst exx
        have hip : i < (parts ts r v).length := by rw [hT2.1, List.length_map] at hi2; exact hi2
        obtain ⟨a, ea, ha⟩ := hT2.2 i ((parts ts r v)[i]).vals (by rw [List.getElem?_map, List.getElem?_eq_getElem hip]; rfl)
        rw [List.getElem?_eq_getElem hi2] at ea
        have eaa := Option.some.inj ea
        have hpc := pok _ (List.getElem_mem hip)
        generalize hqq : (parts ts r v)[i] = pc at ha hpc
        rw [eaa]
        have ha3 := s3 _ _ ha
        refine ⟨a, pc.vals, rfl, SqT.of ha3, rfl, _, _, rfl, _, _, rfl, _, _, rfl, _, _, rfl, rfl, rfl, ?_⟩
        refine ⟨_, rfl, _, rfl, _, rfl, _, rfl, _, rfl, by show 4 ≤ sizeLine; decide, fun y2 ny2 => ?_⟩
        have s4 := same_new (o := .tup [.int (pc.i : Int), .int (pc.a : Int), .int (pc.b : Int), .bl v.t]) ny2
        refine ⟨x, y2, rs, ts, ⟨pc.i, pc.a, pc.b, v.t⟩, rfl, hX0.same ((s2.trans s3).trans s4), upd_same, ⟨hpc.n, hpc.ab, hpc.b⟩, fun v' z r' H5 s5 hz hs5 e5 hn5 => ?_⟩
        refine ⟨_, rfl, by show 2 ≤ sizeLine; decide, fun pp npp => ?_⟩
        have s35 := s4.trans s5
        have hD5 := s35 _ _ hD3
        have nDp : D2 ≠ pp := ne_of_none hD5 npp
        have nzp : z ≠ pp := ne_of_none hz npp
        have hD6 : (upd H5 pp (.tup [.ref z, .int (pc.k : Int)])) D2 = some (.lst (as3.map V.ref)) := by rw [upd_ne nDp]; exact hD5
        refine ⟨_, hD6, by rw [List.length_map, hDL.1, hwl]; exact small1000 (by omega), ?_, as3 ++ [pp], ws ++ [(v', pc.k)], by rw [upd_same]; simp, ?_, by simp [hwl], fun j p e => ?_⟩
        · intro b o hb
          rw [upd_ne (ne_of_none hb nD2)]
          exact same_new npp _ _ (s35 _ _ (s3 _ _ hb))
        · refine ((hDL.same (s35.trans (same_new npp))).add upd_same ?_).updL hD6
          rw [upd_ne nzp]
          exact hz
        · by_cases hj : j < ws.length
          · rw [List.getElem?_append_left hj] at e
            exact hrel j p e
          · have hj2 : j = ws.length := by
              have := (List.getElem?_eq_some_iff.mp e).1
              simp at this
              omega
            subst hj2
            rw [List.getElem?_append_right (Nat.le_refl _), Nat.sub_self] at e
            have e' : (v', pc.k) = p := Option.some.inj e
            subst e'
            refine ⟨pc, r', by rw [hwl, List.getElem?_eq_getElem hip, hqq], rfl, e5, hs5, hn5⟩
      · rintro H3 ⟨s3, as3, ws, hD3, hDL, hwl, hrel⟩
        rw [List.length_map, hT2.1, List.length_map] at hwl
        refine q D2 as3 ws H3 (s2.trans s3) (s2.free nD2) hD3 hDL (fun p hp => ?_) ?_
        · obtain ⟨j, hj, e⟩ := List.mem_iff_getElem.mp hp
          obtain ⟨q', r', e1, e2, e3, e4, e5⟩ := hrel j p (by rw [List.getElem?_eq_getElem hj, e])
          have := pok q' (List.mem_of_getElem? e1)
          exact ⟨⟨r', e4⟩, by have := this.lt; omega, by rw [e2]; exact this.k⟩
        · rw [← psum]
          congr 1
          refine List.ext_getElem? fun j => ?_
          rw [List.getElem?_map, List.getElem?_map]
          cases e : ws[j]? with
          | none =>
            have : (parts ts r v)[j]? = none := by
              rw [List.getElem?_eq_none_iff] at e ⊢
              omega
            rw [this]
            rfl
          | some p =>
            obtain ⟨q', r', e1, e2, e3, e4, e5⟩ := hrel j p e
            rw [e1]
            show some (pw (vw ts p.1) p.2) = some (pw (trn v.t (sub (tx ts q'.i) q'.a q'.b)) q'.k)
            rw [e2, e3]
end
section
variable {P : Program} {w : World} {K : PySem.W.Frag} {mg : Str → Option Value} {base : Heap}
def spSpelled (C : Addr) : Sp := fun vs H Q _ => ∃ (x : Addr) (rs : List Rule) (ts : List (List Nat)) (a b : Nat), vs = [.ref x, .int (a : Int), .int (b : Int)] ∧ TextAt C H x rs ts ∧ 0 < ts.length ∧ a ≤ b ∧ b ≤ (tx ts (ts.length - 1)).length ∧ b - a ≤ 1000 ∧
  ∀ H', Same H H' → Q (.str (S (sub (tx ts (ts.length - 1)) a b))) H'
theorem scSp : FnScope ["text", "start", "stop", "waiting", "pieces", "view", "letters", "part", "times"] ["text", "start", "stop"] (defScope sSpelled) := ⟨rfl, rfl, rfl, by decide +kernel, rfl, by decide +kernel, by decide +kernel⟩
theorem tot_nil (ts : List (List Nat)) : tot ts [] = [] := rfl
theorem tot_one (ts : List (List Nat)) (v : View) : tot ts [v] = vw ts v := by simp [tot]
theorem join_parts (ps : List (List Nat)) : Txt.join ("" : Str) (ps.map S) = S ps.flatten := by rw [S_nil, join_S, join_nil]
theorem sum_flat (ps : List (List Nat)) : (ps.map (·.length)).sum = ps.flatten.length := by rw [List.length_flatten]
theorem ok_spelled {C f : Addr} {fd : FuncData} (F : Fun K "spelled" "spelled" sSpelled f fd) (hm : mg "spelled" = some (.ref f)) (b : Binds K fd ["text", "start", "stop"] []) (T : Txt mg) (GVo : Cal P w K mg base 3 "view_of" (spViewOf C) []) (GSb : Cal P w K mg base 1 "spelled_by" (spSpelledBy C) []) (GDi : Cal P w K mg base 3 "divided" (spDivided C) []) :
    Cal P w K mg base 4 "spelled" (spSpelled C) [] := by
  refine mkCal F hm b scSp (fun vs H Q E h => ?_) (fun cdv A outer s H vs Q E hr h => ?_)
  · obtain ⟨x, rs, ts, a, b, rfl, _⟩ := h
    rfl
  obtain ⟨x, rs, ts, a, b, rfl, hX, h0, hab, hb, h1000, q⟩ := h
  refine ⟨_, (pss_cons (ps_if (pt_cmpR op_eq (pv 1) (pv 2) (nomark _)) (pss_one (ps_ret pe_str)) pss_nil)
    (pss_cons (ps_set (i := 3) scSp.nd rfl (.inl rfl) (pe_lst (pa_cons (pe_c GVo hr (by decide) (by rfl) (pa_cons (pv 0) (pa_cons (pv 1) (pa_cons (pv 2) pa_nil)))) pa_nil)))
    (pss_cons (ps_set (i := 4) scSp.nd rfl (.inl rfl) (pe_lst pa_nil))
    (pss_cons (ps_while PassesOwn.never (pt_truth (pv 3) (by intro _; rfl)) (pss_cons (ps_set (i := 5) scSp.nd rfl (.inl rfl) (pe_bm0 PySem.F.plainAttrs_list PySem.F.slot_list_pop PySem.F.type_list_pop mt_pop (pv 3)))
    (pss_cons (ps_set (i := 6) scSp.nd rfl (.inl rfl) (pe_c GSb hr (by decide) (by rfl) (pa_cons (pv 0) (pa_cons (pv 5) pa_nil))))
    (pss_one (ps_if (pt_cmpR op_notN (pv 6) pe_non (nomark _)) (pss_one (ps_expr (pe_bm PySem.F.plainAttrs_list PySem.F.slot_list_append PySem.F.type_list_append mt_append (pv 4) (pa_cons (pv 6) pa_nil)))) (pss_one (ps_for PassesOwn.never rfl (pi_reversed (by rfl) T.reversed (pa_cons (pe_c GDi hr (by decide) (by rfl) (pa_cons (pv 0) (pa_cons (pv 5) pa_nil))) pa_nil)) (pg_tup rfl (pgs_cons (pg_name (i := 7) scSp.nd rfl (.inl rfl)) (pgs_cons (pg_name (i := 8) scSp.nd rfl (.inl rfl)) pgs_nil))) (pss_one (ps_expr (pe_bm PySem.F.plainAttrs_list PySem.F.slot_list_extend PySem.F.type_list_extend mt_extend (pv 3) (pa_cons (pe_op op_rep (pe_lst (pa_cons (pv 7) pa_nil)) (pv 8)) pa_nil)))))))))))
    (pss_one (ps_ret (pe_join pe_str (pv 4)))))))), ?_⟩
  refine ⟨_, rfl, _, rfl, rfl, _, rfl, ?_⟩
  refine ite2 (fun z => ?_) (fun z => ?_)
  · have z1 : (a : Int) = (b : Int) := V.int.inj (of_decide_eq_true z)
    have e : a = b := by omega
    subst e
    have q' := q H (Same.refl H)
    rw [sub_nil, ← S_nil] at q'
    exact q'
  have z1 : ¬ (a : Int) = (b : Int) := fun h => z (decide_eq_true (congrArg V.int h))
  have hlt : a < b := by omega
  generalize hgoal : sub (tx ts (ts.length - 1)) a b = goal at q
  have glen : goal.length ≤ 1000 := by rw [← hgoal, sub_len hb]; exact h1000
  refine ⟨_, rfl, _, rfl, _, rfl, x, rs, ts, a, b, rfl, hX, h0, hlt, hb, fun v0 z0 r0 H1 s1 hz0 hs0 e0 => ?_⟩
  refine ⟨by show 1 ≤ sizeLine; decide, fun W nW => ⟨Nat.zero_le _, fun PP nP => ?_⟩⟩
  have nWP : W ≠ PP := ne_of_none upd_same nP
  have hW0 : (upd (upd H1 W (.lst [.ref z0])) PP (.lst [])) W = some (.lst [.ref z0]) := by rw [upd_ne nWP]; exact upd_same
  have s13 : Same H1 (upd (upd H1 W (.lst [.ref z0])) PP (.lst [])) := (same_new nW).trans (same_new nP)
  have nWH := s1.free nW
  have nPH := s1.free (Same.free (same_new nW) nP)
  refine ⟨fun m σ H' => ∃ (zs : List Addr) (st : List View) (ps : List (List Nat)) (u5 u6 u7 u8 : Option V), σ = [some (.ref x), some (.int (a : Int)), some (.int (b : Int)), some (.ref W), some (.ref PP), u5, u6, u7, u8] ∧ Same H H' ∧
      H' W = some (.lst (zs.map V.ref)) ∧ H' PP = some (.lst (ps.map tV)) ∧ LT H' zs (st.map View.vals) ∧ (∀ v ∈ st, ∃ r, Sett rs ts v r) ∧ ps.flatten ++ tot ts st = goal ∧ ps.length ≤ ps.flatten.length ∧ m = mu ts st,
    ⟨mu ts [v0], [z0], [v0], [], none, none, none, none, rfl, s1.trans s13, hW0, upd_same, LT.nil.add (s13 _ _ hz0), fun v hv => ⟨r0, by rw [List.mem_singleton.mp hv]; exact hs0⟩, by rw [tot_one, e0, hgoal]; rfl, Nat.le_refl _, rfl⟩, ?_⟩
  rintro m σ H2 ⟨zs, st, ps, u5, u6, u7, u8, rfl, s2, hW, hPP, hL, hst, hsum, hps, rfl⟩
  have pos : ∀ v, (∃ r, Sett rs ts v r) → 1 ≤ (vw ts v).length := fun v ⟨r, h⟩ => by rw [h.val.len]; have := h.val.ab; omega
  have stl : st.length ≤ 1000 := by
    have h1 := stk_len (ts := ts) (st := st) fun v hv => pos v (hst v hv)
    have h2 := congrArg List.length hsum
    rw [List.length_append] at h2
    omega
  have psl : ps.length ≤ 1000 := by
    have h2 := congrArg List.length hsum
    rw [List.length_append] at h2
    omega
  rcases List.eq_nil_or_concat st with e | ⟨st0, v, e⟩
  · -- nothing is left
    subst e
    have ez : zs = [] := List.eq_nil_of_length_eq_zero hL.1
    subst ez
    refine ⟨_, rfl, false, .inl ⟨_, SqL.of hW, rfl⟩, ifF rfl ?_⟩
    have e1 : ps.map tV = (ps.map S).map V.str := by simp [tV]
    have eg : ps.flatten = goal := by rw [← hsum, tot_nil, List.append_nil]
    refine ⟨⟨_, rfl⟩, _, rfl, _, PP, ps.map S, rfl, rfl, .inl (SqL.of (by rw [hPP, e1])), ?_, ?_⟩
    · rw [lens, sum_flat, eg, show ("" : Str).length = 0 from by decide +kernel]
      omega
    · show Q (V.str (Txt.join ("" : Str) _)) H2
      rw [join_parts, eg]
      exact q H2 s2
  · -- the last view
    rw [List.concat_eq_append] at e
    subst e
    obtain ⟨z0, z, ez⟩ : ∃ z0 z, zs = z0 ++ [z] := by
      rcases List.eq_nil_or_concat zs with e | ⟨z0, z, e⟩
      · have := hL.1
        rw [e] at this
        simp at this
      · exact ⟨z0, z, by rw [e, List.concat_eq_append]⟩
    subst ez
    have zl : z0.length = st0.length := by
      have := hL.1
      simp at this
      exact this
    have hz : H2 z = some (.tup v.vals) := by
      obtain ⟨a', e1, e2⟩ := hL.2 st0.length v.vals (by rw [List.map_append, List.getElem?_append_right (by rw [List.length_map]; exact Nat.le_refl _), List.length_map, Nat.sub_self]; rfl)
      rw [List.getElem?_append_right (by rw [zl]; exact Nat.le_refl _), zl, Nat.sub_self] at e1
      have e3 : z = a' := Option.some.inj e1
      rw [e3]
      exact e2
    have hL0 : LT H2 z0 (st0.map View.vals) := by
      refine ⟨by rw [zl, List.length_map], fun k vs e => ?_⟩
      have hk : k < st0.length := by
        have := (List.getElem?_eq_some_iff.mp e).1
        rwa [List.length_map] at this
      obtain ⟨a', e1, e2⟩ := hL.2 k vs (by rw [List.map_append, List.getElem?_append_left (by rw [List.length_map]; exact hk)]; exact e)
      rw [List.getElem?_append_left (by rw [zl]; exact hk)] at e1
      exact ⟨a', e1, e2⟩
    obtain ⟨r, hs⟩ := hst v (List.mem_append_right _ (List.mem_singleton.mpr rfl))
    have hst0 : ∀ u ∈ st0, ∃ r, Sett rs ts u r := fun u hu => hst u (List.mem_append_left _ hu)
    rw [tot_app, tot_one] at hsum
    rw [List.map_append] at hW
    have ne1 : (z0.map V.ref ++ [z].map V.ref).isEmpty = false := by cases z0 <;> rfl
    refine ⟨_, rfl, true, .inl ⟨_, SqL.of hW, by rw [ne1]; rfl⟩, ifT rfl ?_⟩
    refine ⟨fun σ' H' => ∃ m' < mu ts (st0 ++ [v]), ∃ (zs : List Addr) (st : List View) (ps : List (List Nat)) (u5 u6 u7 u8 : Option V), σ' = [some (.ref x), some (.int (a : Int)), some (.int (b : Int)), some (.ref W), some (.ref PP), u5, u6, u7, u8] ∧ Same H H' ∧
      H' W = some (.lst (zs.map V.ref)) ∧ H' PP = some (.lst (ps.map tV)) ∧ LT H' zs (st.map View.vals) ∧ (∀ v ∈ st, ∃ r, Sett rs ts v r) ∧ ps.flatten ++ tot ts st = goal ∧ ps.length ≤ ps.flatten.length ∧ m' = mu ts st, fun _ _ h => h, ?_⟩
    refine ⟨_, rfl, .inl ⟨rfl, _, SqL.of hW⟩, W, _, .ref z, rfl, rfl, hW, by rw [List.length_append, List.getElem?_append_right (by simp)]; simp, ?_⟩
    have edl : (z0.map V.ref ++ [z].map V.ref).dropLast = z0.map V.ref := by simp
    rw [edl]
    -- behind the pop
    have hPW : PP ≠ W := nWP.symm
    have hP3 : (upd H2 W (.lst (z0.map V.ref))) PP = some (.lst (ps.map tV)) := by rw [upd_ne hPW]; exact hPP
    have s3 : Same H (upd H2 W (.lst (z0.map V.ref))) := fun c o hc => by rw [upd_ne (ne_of_none hc nWH)]; exact s2 _ _ hc
    have hz3 : (upd H2 W (.lst (z0.map V.ref))) z = some (.tup v.vals) := by rw [upd_ne (ne_of hz hW (by intro z; cases z))]; exact hz
    have hL3 : LT (upd H2 W (.lst (z0.map V.ref))) z0 (st0.map View.vals) := hL0.updL hW
    have hW3 : (upd H2 W (.lst (z0.map V.ref))) W = some (.lst (z0.map V.ref)) := upd_same
    generalize upd H2 W (.lst (z0.map V.ref)) = H3 at hP3 s3 hz3 hL3 hW3 ⊢
    refine ⟨_, rfl, _, rfl, x, z, rs, ts, v, r, rfl, hX.same s3, hz3, hs.val, hs.rule, fun hl => ?_, fun hl => ?_⟩
    · -- letters
      refine ⟨_, rfl, rfl, _, rfl, ifT rfl ?_⟩
      refine ⟨_, rfl, .inl ⟨rfl, _, SqL.of hP3⟩, _, rfl, PP, _, _, rfl, rfl, hP3, by rw [List.length_map]; exact small1000 psl, ?_⟩
      have hvl := pos v ⟨r, hs⟩
      refine ⟨mu ts st0, ?_, z0, st0, ps ++ [vw ts v], _, _, _, _, rfl, ?_, ?_, ?_, hL3.updL hP3, hst0, ?_, ?_, rfl⟩
      · rw [mu_app]
        have : mu ts [v] = (v.n + 1) * (vw ts v).length := by simp [mu]
        rw [this, Nat.add_mul, Nat.one_mul]
        omega
      · intro c o hc
        rw [upd_ne (ne_of_none hc nPH)]
        exact s3 _ _ hc
      · rw [upd_ne nWP]
        exact hW3
      · rw [upd_same]
        simp [tV]
      · rw [List.flatten_append, List.append_assoc]
        simpa using hsum
      · rw [List.flatten_append, List.length_append, List.length_append]
        simp only [List.length_cons, List.length_nil, List.flatten_cons, List.flatten_nil, List.append_nil]
        omega
    · -- a join or a power
      refine ⟨_, rfl, rfl, _, rfl, ifF rfl ?_⟩
      refine ⟨_, rfl, _, rfl, x, z, rs, ts, v, r, rfl, hX.same s3, hz3, hs, hl, fun D as ws H4 s4 nD hD hDL hws hsumw => ?_⟩
      have hW4 := s4 _ _ hW3
      have hP4 := s4 _ _ hP3
      have hL4 := hL3.same s4
      have hDW : D ≠ W := fun e => by rw [e, hW3] at nD; cases nD
      have hDP : D ≠ PP := fun e => by rw [e, hP3] at nD; cases nD
      have posw : ∀ p ∈ ws, 1 ≤ (vw ts p.1).length := fun p hp => pos p.1 (hws p hp).1
      have wsum : (vw ts v).length ≤ 1000 := by
        have h2 := congrArg List.length hsum
        rw [List.length_append, List.length_append] at h2
        omega
      have wl : (ws.flatMap rep).length ≤ 1000 := Nat.le_trans (rep_len posw) (by rw [hsumw]; exact wsum)
      have wle : ∀ p ∈ ws, p.2 ≤ 1000 := fun p hp => by
        have h1 : (wv ts p).length ≤ ((ws.map (wv ts)).flatten).length := flat_le (List.mem_map_of_mem hp)
        unfold wv at h1
        rw [pw_len] at h1
        have h2 := Nat.le_mul_of_pos_right p.2 (posw p hp)
        have h3 : ((ws.map (wv ts)).flatten).length ≤ 1000 := by rw [hsumw]; exact wsum
        unfold wv at h3
        omega
      have tl : ∀ i, ((ws.reverse.take i).flatMap rep).length ≤ 1000 := fun i => by
        have h1 : ((ws.reverse.flatMap rep).reverse).length ≤ 1000 := by rw [rep_rev]; exact wl
        rw [List.length_reverse] at h1
        have h2 : ws.reverse = ws.reverse.take i ++ ws.reverse.drop i := (List.take_append_drop i _).symm
        rw [h2, List.flatMap_append, List.length_append] at h1
        omega
      refine ⟨D, _, rfl, SqL.of hD, ?_⟩
      have eal : (as.map V.ref).length = ws.length := by rw [List.length_map, hDL.1]
      rw [eal]
      refine ⟨fun i m σ H' => i + m = ws.length ∧ ∃ (zs : List Addr) (u5 u6 u7 u8 : Option V), σ = [some (.ref x), some (.int (a : Int)), some (.int (b : Int)), some (.ref W), some (.ref PP), u5, u6, u7, u8] ∧ Same H H' ∧
          H' D = some (.lst (as.map V.ref)) ∧ DL H' as ws ∧ H' W = some (.lst (zs.map V.ref)) ∧ H' PP = some (.lst (ps.map tV)) ∧ LT H' zs ((st0 ++ (ws.reverse.take i).flatMap rep).map View.vals),
        ⟨ws.length, by omega, z0, _, _, _, _, rfl, s3.trans s4, hD, hDL, hW4, hP4, by simpa using hL4⟩, ?_⟩
      rintro i m σ H5 ⟨him, zs5, v5, v6, v7, v8, rfl, s5, hD5, hDL5, hW5, hP5, hL5⟩
      by_cases hi : i < ws.length
      · have hj : ws.length - 1 - i < ws.length := by omega
        obtain ⟨pa, zp, e1, e2, e3⟩ := hDL5.2 (ws.length - 1 - i) ws[ws.length - 1 - i] (List.getElem?_eq_getElem hj)
        generalize hpp : ws[ws.length - 1 - i] = pp at e2 e3
        have hpm : pp ∈ ws := by rw [← hpp]; exact List.getElem_mem hj
        have erev : ws.reverse.take (i + 1) = ws.reverse.take i ++ [pp] := by
          rw [List.take_add_one, List.getElem?_reverse hi, List.getElem?_eq_getElem hj, hpp]
          rfl
        have eg : (as.map V.ref)[ws.length - 1 - i]? = some (.ref pa) := by rw [List.getElem?_map, e1]; rfl
        refine .inr ⟨⟨hi, _, _, SqL.of hD5, eg⟩, fun σ' H' => ∃ (zs : List Addr) (u5 u6 u7 u8 : Option V), σ' = [some (.ref x), some (.int (a : Int)), some (.int (b : Int)), some (.ref W), some (.ref PP), u5, u6, u7, u8] ∧ Same H H' ∧
          H' D = some (.lst (as.map V.ref)) ∧ DL H' as ws ∧ H' W = some (.lst (zs.map V.ref)) ∧ H' PP = some (.lst (ps.map tV)) ∧ LT H' zs ((st0 ++ (ws.reverse.take (i + 1)).flatMap rep).map View.vals), fun σ' H' h => ⟨m - 1, by omega, by omega, h⟩, ?_⟩
        rintro xx H5' ⟨rfl, hxx⟩
        have exx : xx = .ref pa := Option.some.inj ((hxx _ (SqL.of hD5)).symm.trans eg)
        subst exx
        refine ⟨pa, _, rfl, SqT.of e2, rfl, _, _, rfl, _, _, rfl, rfl, ?_⟩
        refine ⟨_, rfl, .inl ⟨rfl, _, SqL.of hW5⟩, ?_⟩
        refine ⟨_, rfl, by show 1 ≤ sizeLine; decide, fun l1 nl1 => ?_⟩
        have hk := wle pp hpm
        refine ⟨_, rfl, l1, _, _, rfl, rfl, upd_same, by omega, by omega, ?_, fun l2 nl2 => ?_⟩
        · rw [Int.toNat_natCast]
          show 1 * pp.2 ≤ sizeLine
          exact sz (by omega)
        have sl : Same H5' (upd (upd H5' l1 (.lst [.ref zp])) l2 (.lst (List.replicate ((pp.2 : Int)).toNat [V.ref zp]).flatten)) := (same_new nl1).trans (same_new nl2)
        have zsl : zs5.length ≤ 2000 := by
          rw [hL5.1, List.length_map, List.length_append]
          have := tl i
          simp at stl
          omega
        have efl : (List.replicate ((pp.2 : Int)).toNat [V.ref zp]).flatten = (List.replicate pp.2 zp).map V.ref := by
          rw [Int.toNat_natCast]
          generalize pp.2 = k
          induction k with
          | zero => rfl
          | succ k ih => rw [List.replicate_succ, List.flatten_cons, ih, List.replicate_succ]; rfl
        refine ⟨W, l2, _, _, rfl, rfl, sl _ _ hW5, upd_same, ?_, ?_⟩
        · rw [efl, List.length_map, List.length_map, List.length_replicate]
          exact sz (by omega)
        refine ⟨zs5 ++ List.replicate pp.2 zp, _, _, _, _, rfl, fun c o hc => ?_, ?_, ?_, ?_, ?_, ?_⟩
        · rw [upd_ne (ne_of_none hc nWH)]
          exact sl _ _ (s5 _ _ hc)
        · rw [upd_ne hDW]
          exact sl _ _ hD5
        · exact (hDL5.same sl).updL (sl _ _ hW5)
        · rw [upd_same, efl, List.map_append]
        · rw [upd_ne hPW]
          exact sl _ _ hP5
        · refine LT.updL ?_ (sl _ _ hW5)
          rw [erev, List.flatMap_append, ← List.append_assoc]
          have hz5 := sl _ _ e3
          have step : ∀ (k : Nat) (zs : List Addr) (st : List View) (H6 : Hp), LT H6 zs (st.map View.vals) → H6 zp = some (.tup pp.1.vals) → LT H6 (zs ++ List.replicate k zp) ((st ++ List.replicate k pp.1).map View.vals) := by
            intro k
            induction k with
            | zero => intro zs st H6 h _; simpa using h
            | succ k ih =>
              intro zs st H6 h hz6
              have h1 := ih (zs ++ [zp]) (st ++ [pp.1]) H6 (by rw [List.map_append]; exact h.add hz6) hz6
              rw [List.append_assoc, List.append_assoc] at h1
              rw [List.replicate_succ, List.replicate_succ]
              exact h1
          have h2 := step pp.2 zs5 _ _ (hL5.same sl) hz5
          have e4 : [pp].flatMap rep = List.replicate pp.2 pp.1 := by simp [rep]
          rw [e4]
          exact h2
      · have ei : i = ws.length := by omega
        subst ei
        refine .inl ⟨Nat.le_refl _, ?_⟩
        rw [← List.length_reverse, List.take_length] at hL5
        refine ⟨mu ts (st0 ++ ws.reverse.flatMap rep), ?_, zs5, st0 ++ ws.reverse.flatMap rep, ps, _, _, _, _, rfl, s5, hW5, hP5, hL5, ?_, ?_, hps, rfl⟩
        · rw [mu_app, mu_app, ← mu_rev ts (ws.reverse.flatMap rep), rep_rev]
          have h1 := mu_rep (ts := ts) (N := v.n) (ws := ws) fun p hp => (hws p hp).2.1
          rw [hsumw] at h1
          have h2 : mu ts [v] = (v.n + 1) * (vw ts v).length := by simp [mu]
          have h3 := pos v ⟨r, hs⟩
          rw [h2, Nat.add_mul, Nat.one_mul]
          omega
        · intro u hu
          rcases List.mem_append.mp hu with h1 | h1
          · exact hst0 u h1
          · obtain ⟨p, hp, hup⟩ := List.mem_flatMap.mp h1
            have := (hws p (List.mem_reverse.mp hp)).1
            rw [(List.mem_replicate.mp hup).2]
            exact this
        · have e5 : tot ts (ws.reverse.flatMap rep) = vw ts v := by
            unfold tot
            rw [rep_rev, rep_tot, hsumw]
          rw [tot_app, e5]
          exact hsum
end
/-! ### enumerate over a tuple -/
/-- the tuple at a, its items in new pairs -/
def IteT (K : PySem.W.Frag) (a : Addr) : It where
  go := fun i H => ∃ (ys : List V) (y : V), SqT K H a ys ∧ ys[i]? = some y
  yld := fun i H v H' => ∃ (p : Addr) (y : V), v = .ref p ∧ H p = none ∧ H' = upd H p (.tup [.int (i : Nat), y]) ∧ ∀ ys, SqT K H a ys → ys[i]? = some y
  stop := fun i H => ∃ ys : List V, SqT K H a ys ∧ ys.length = i
def EnT (a e it : Addr) (i : Nat) (h : Heap) : Prop := (∃ z, IsEnum h e it (0 + ((i : Nat) : Int)) z) ∧ h.IsTupleIter it a i ∧ e ≠ it ∧ a ≠ it ∧ e ≠ a
theorem walk_en {prog : Program} {w : World} {A : Around} (hA : A.handled = none) {a e it : Addr} (h1 : e ≠ it) (h2 : a ≠ it) (h3 : e ≠ a) (ys : Array Value) :
    WalksT prog w A e (e :: [it, a]) [e, it] ys.size (fun i vals => ∃ t x, ys[i]? = some x ∧ vals = #[.int (0 + (i : Int)) t, x]) (fun i h => (∃ z, IsEnum h e it (0 + (i : Int)) z) ∧ h.IsTupleIter it a i ∧ h.IsTuple a ys)
      (fun i p h => (∃ x, IsEnumOut h e it (0 + (i : Int) + 1) x p) ∧ (h.IsTupleIter it a (i + 1) ∧ h.IsTuple a ys) ∧ p ≠ e ∧ p ≠ it) :=
  WalksT.enumFrom 0 (Draws.tuple (A := A.in1) hA it a h2 ys) e h1 (by simp [h1, h3]) (by simp)
theorem turn_enT {P : Program} {w : World} {K : PySem.W.Frag} {elts : List Expr} {kk : Nat} {tpos : Pos} (a e it : Addr) : Turn P w K (.Tuple elts kk tpos) (IteT K a) [e, it] e (EnT a e it) where
  mem := List.mem_cons_self
  obj := by
    rintro i h ⟨⟨z, hz⟩, ⟨o, ho, _, hd⟩, _⟩ b hb
    rcases List.mem_cons.mp hb with q | q
    · subst q
      exact ⟨_, hz, fun v x => by
        have x' : Data.fields _ = Data.cell v := x
        cases x'⟩
    · exact ⟨o, (List.mem_singleton.mp q) ▸ ho, fun v x => by rw [hd] at x; cases x⟩
  keep := by
    rintro i h h' ⟨⟨z, hz⟩, ht, r⟩ kept
    exact ⟨⟨z, kept e List.mem_cons_self _ hz⟩, ht.at fun o q => kept it (List.mem_cons_of_mem _ List.mem_cons_self) o q, r⟩
  item := by
    intro X hP hw hK calm i pins s σ H E inv fpk st ⟨ys, y, hys, hy⟩
    subst hP hw hK
    obtain ⟨⟨z, hz⟩, ht, h1, h2, h3⟩ := st
    obtain ⟨vals, rel, tup, _⟩ := inv.tuple hys
    obtain ⟨u, hu, ru⟩ := rel.get hy
    have wk := walk_en (prog := X.prog) (w := X.w) (inv.ok.hd calm) h1 h2 h3 vals.toArray
    have hlt : i < vals.toArray.size := by
      have := (List.getElem?_eq_some_iff.mp hu).1
      simpa using this
    refine wk.item i s _ E hlt ⟨⟨z, hz⟩, ht, tup⟩ fun p vs h' tk ⟨t, x, hx, ev⟩ hp hpt mid kept => ⟨_, rfl, ?_⟩
    have exu : x = u := by
      have : vals[i]? = some x := by simpa using hx
      rw [hu] at this
      exact (Option.some.inj this).symm
    subst exu ev
    refine wk.go elts kk tpos i p { s with heap := h', toks := tk } _ E mid fun h2' st2 kept2 => ?_
    have hpw : p ∉ [e, it] := wk.apart _ _ _ mid
    obtain ⟨o, ho, hoc, n, hod⟩ := hpt
    have h0 : (0 : Int) + ((i : Nat) : Int) = ((i : Nat) : Int) := Int.zero_add _
    have obj : ObjOk X.prog X.w (upd H p (.tup [.int (i : Nat), y])) h2' p (.tup [.int (i : Nat), y]) :=
      ⟨by show 2 ≤ sizeLine; decide, [.int (0 + ((i : Nat) : Int)) t, x], .cons ⟨t, by rw [h0]⟩ (.cons ru .nil), ⟨o, kept2 _ _ hpw ho, hoc, n, hod⟩⟩
    have inv2 : Inv X pins σ (upd H p (.tup [.int (i : Nat), y])) { s with heap := h2', toks := tk } :=
      inv.turnedNew (ch := [e, it]) (fun c oc hc q => kept2 _ _ hc (kept _ _ hc q)) fpk hp obj
    refine ⟨.ref p, _, inv2, rfl, ⟨p, y, rfl, inv.hok.fresh hp, rfl, fun zs hzs => by rw [inv.tuple_inj hzs hys]; exact hy⟩, ⟨st2.1, st2.2.1, h1, h2, h3⟩, fun c hc => ?_⟩
    have ncp : c ≠ p := fun q => hpw (q ▸ hc)
    rw [upd_ne ncp]
    exact (fpk c hc).1
  done := by
    intro X hP hw hK calm i pins s σ H E inv fpk st ⟨ys, hys, hlen⟩
    subst hP hw hK
    obtain ⟨⟨z, hz⟩, ht, h1, h2, h3⟩ := st
    obtain ⟨vals, rel, tup, _⟩ := inv.tuple hys
    have wk := walk_en (prog := X.prog) (w := X.w) (inv.ok.hd calm) h1 h2 h3 vals.toArray
    have hsz : i = vals.toArray.size := by
      have := rel.length
      simp
      omega
    subst hsz
    exact wk.done s _ E ⟨⟨z, hz⟩, ht, tup⟩ fun h' tk kept => ⟨rfl, inv.turnedL (ch := [e, it]) (fun c o hc q => kept c o hc q) fpk⟩
  self := fun A i s Q E st h => by
    obtain ⟨⟨z, hz⟩, _⟩ := st
    exact wpAny_pyIter_enum hz h
set_option maxHeartbeats 8000000 in
theorem enum_newB {v : Value} {o : Obj} {Hh : Heap → Prop} (B : Begins v o Hh) :
    Meets (Builtin.«enumerate.__new__» ⟨[.type "enumerate", v], []⟩) (fun _ R s => Hh s.heap ∧
      R (.ok (.ret (.ref (s.heap.push o).objs.size))) { s with heap := (s.heap.push o).push { cls := .type "enumerate", data := .fields #[.none, .bool false, .ref s.heap.objs.size, rawInt 0, .none, .none] } }) := by
  refine .of_wp fun prog w A R s hs => ?_
  obtain ⟨hp, g, d, tk, os⟩ := s
  obtain ⟨hb, hR⟩ := hs
  have hsub := sub_enumerate
  have step : ∀ {A' : Around} {E : Value → Shared → Prop} {Q : Value → Shared → Prop}, Q (.ref hp.objs.size) ⟨hp.push o, g, d, tk, os⟩ → wpAny (model prog w) A' (pyIter v) Q E ⟨hp, g, d, tk, os⟩ := fun q => B.iter prog w _ _ _ _ hb q
  wp_walk using step
  refine wpAny_stack_any fun st => wpAny_pure ?_
  split
  next c _ _ _ _ _ =>
    cases (c == Value.type "enumerate") <;> (wp_walk using step; exact ⟨_, rfl, hR⟩)
  next => wp_walk using step; exact ⟨_, rfl, hR⟩
def iEnumT (K : PySem.W.Frag) (ta : TA) : TI := fun σ H R => ta σ H fun vs H1 => ∃ (a : Addr) (ys : List V), vs = [.ref a] ∧ SqT K H1 a ys ∧ R (IteT K a) H1
theorem pi_enumT {X : Cx} {e : Expr} {ta : TA} {p pos tpos : Pos} {elts : List Expr} {kk : Nat} (hg : Gl X "enumerate") (hm : X.mg "enumerate" = none) (ha : PA X [e] ta) (hs : starEach [e] X.env = [(false, eval e X.env)] := by rfl) :
    PI X (.Tuple elts kk tpos) (.Call (.Name "enumerate" p) [e] [] pos) (iEnumT X.K ta) where
  run := by
    intro pins s σ H R inv hR
    refine Call_ (ld_blt inv hg hm boot_enumerate (PyProof.Rows.callWith_type1 (thn (ha.run pos pins s σ H _ inv hR) ?_) hs rfl))
    rintro us s1 ⟨vs, H1, inv1, rel, a, ys, rfl, hys, hR1⟩
    obtain ⟨u, rfl, ru⟩ : ∃ u, us = [u] ∧ RelV (.ref a) u := by
      cases rel with
      | cons r rr => cases rr; exact ⟨_, rfl, r⟩
    obtain rfl : u = .ref a := ru
    obtain ⟨vals, rv, tup, _⟩ := inv1.tuple hys
    have B := begins_tuple a vals.toArray
    refine callType_new F.called_enumerate (by decide) (F.typeCall_enumerate_1 _) (F.newCall_enumerate_1 _) (fun ob => F.args_object_init_2 ob _) F.entry_enumerate_new (enum_newB B) ⟨tup, ?_⟩
    obtain ⟨hp, g, d, tk, os⟩ := s1
    have hz : (hp.push { cls := .type "tuple_iterator", data := .fields #[.ref a, .int 0 0] }).objs.size = hp.objs.size + 1 := Heap.size_push ..
    have grown : ∀ c oc, hp.get? c = some oc → ((hp.push { cls := .type "tuple_iterator", data := .fields #[.ref a, .int 0 0] }).push { cls := .type "enumerate", data := .fields #[.none, .bool false, .ref hp.objs.size, rawInt 0, .none, .none] }).get? c = some oc := fun c oc q => Heap.get?_push_of_some _ (Heap.get?_push_of_some _ q)
    have he : IsEnum ((hp.push { cls := .type "tuple_iterator", data := .fields #[.ref a, .int 0 0] }).push { cls := .type "enumerate", data := .fields #[.none, .bool false, .ref hp.objs.size, rawInt 0, .none, .none] }) (hp.objs.size + 1) hp.objs.size 0 .none := by
      rw [← hz]
      exact Heap.get?_push_size _ rfl
    have hal : a < hp.objs.size := by
      obtain ⟨o, ho, _⟩ := tup
      exact Heap.lt_size ho
    have inv2 : Inv X pins σ H1 ⟨(hp.push { cls := .type "tuple_iterator", data := .fields #[.ref a, .int 0 0] }).push { cls := .type "enumerate", data := .fields #[.none, .bool false, .ref hp.objs.size, rawInt 0, .none, .none] }, g, d, tk, os⟩ := inv1.kept (t' := tk) grown
    show _ ∧ _
    rw [hz]
    refine ⟨⟨_, he, rfl⟩, wpAny_pyIter_enum he ?_⟩
    refine ⟨hp.objs.size + 1, [hp.objs.size + 1, hp.objs.size], EnT a (hp.objs.size + 1) hp.objs.size, IteT X.K a, H1, rfl, inv2, turn_enT a _ _,
      ⟨⟨.none, he⟩, ⟨_, Heap.get?_push_of_some _ (Heap.get?_push_size _ rfl), rfl, rfl⟩, Nat.succ_ne_self _, Nat.ne_of_lt hal, Nat.ne_of_gt (Nat.lt_succ_of_lt hal)⟩, fun c hc => ?_, hR1⟩
    have hcle : hp.objs.size ≤ c := by
      rcases List.mem_cons.mp hc with q | q
      · rw [q]; exact Nat.le_succ _
      · rw [List.mem_singleton.mp q]; exact Nat.le_refl _
    exact inv1.fpOk (s := ⟨hp, g, d, tk, os⟩) hcle (inv1.hok.fresh hcle)
/-- either of two readings -/
theorem PI.or {X : Cx} {tg it : Expr} {w1 w2 : TI} (h1 : PI X tg it w1) (h2 : PI X tg it w2) : PI X tg it (fun σ H R => w1 σ H R ∨ w2 σ H R) :=
  ⟨fun pins s σ H R inv h => h.elim (h1.run pins s σ H R inv) (h2.run pins s σ H R inv)⟩
theorem PE.or {X : Cx} {e : Expr} {t1 t2 : TE} (h1 : PE X e t1) (h2 : PE X e t2) : PE X e (fun σ H Q => t1 σ H Q ∨ t2 σ H Q) :=
  ⟨fun pins s σ H Q inv h => h.elim (h1.run pins s σ H Q inv) (h2.run pins s σ H Q inv)⟩
/-! ### a <= b <= c <= d -/
section
variable {X : Cx}
def tChain3 (r1 r2 r3 : R2) (ta tb tc td : TE) : TE := fun σ H Q => ta σ H fun x H1 => tb σ H1 fun y H2 => r1 x y H2 fun z H3 => ∃ k, z = .bl k ∧
  (if k = true then tc σ H3 fun u H4 => r2 y u H4 fun z2 H5 => ∃ k2, z2 = .bl k2 ∧ (if k2 = true then td σ H5 fun t H6 => r3 u t H6 Q else Q (.bl false) H5) else Q (.bl false) H3)
theorem pe_chain3 {a b c d : Expr} {pos : Pos} {ta tb tc td : TE} {o1 o2 o3 : CmpOp} {r1 r2 r3 : R2} (h1 : OpR X (compareOp o1) r1) (h2 : OpR X (compareOp o2) r2) (h3 : OpR X (compareOp o3) r3) (ha : PE X a ta) (hb : PE X b tb) (hc : PE X c tc) (hd : PE X d td)
    (hm : lastMarks [o1, o2, o3] [b, c, d] = false := by with_unfolding_all rfl) : PE X (.Compare a [o1, o2, o3] [b, c, d] pos) (tChain3 r1 r2 r3 ta tb tc td) where
  run := by
    intro pins s σ H Q inv h
    refine Compare_chain (thn (ha.run pins s σ H _ inv h) ?_) hm
    rintro va s1 ⟨xa, H1, i1, ra, qa⟩
    refine chain_link (thn (hb.run pins s1 σ H1 _ i1 qa) ?_)
    rintro vb s2 ⟨xb, H2, i2, rb, qb⟩
    refine thn (h1 pins s2 σ H2 xa xb va vb _ i2 ra rb qb) ?_
    rintro k1 s3 ⟨_, H3, i3, rk, k, rfl, q3⟩
    obtain rfl : k1 = .bool k := rk
    refine wpAny_truthy_bool ?_
    cases k with
    | false => exact ite_ff ⟨.bl false, H3, i3, rfl, q3⟩
    | true =>
      refine ite_tt (chain_link (thn (hc.run pins s3 σ H3 _ i3 q3) ?_))
      rintro vc s4 ⟨xc, H4, i4, rc, qc⟩
      refine thn (h2 pins s4 σ H4 xb xc vb vc _ i4 rb rc qc) ?_
      rintro k2 s5 ⟨_, H5, i5, rk2, j, rfl, q5⟩
      obtain rfl : k2 = .bool j := rk2
      refine wpAny_truthy_bool ?_
      cases j with
      | false => exact ite_ff ⟨.bl false, H5, i5, rfl, q5⟩
      | true =>
        refine ite_tt (chain_last (thn (hd.run pins s5 σ H5 _ i5 q5) ?_))
        rintro vd s6 ⟨xd, H6, i6, rd, qd⟩
        exact h3 pins s6 σ H6 xc xd vc vd Q i6 rc rd qd
theorem pt_chain3 {a b c d : Expr} {pos : Pos} {ta tb tc td : TE} {o1 o2 o3 : CmpOp} {r1 r2 r3 : R2} (h1 : OpR X (compareOp o1) r1) (h2 : OpR X (compareOp o2) r2) (h3 : OpR X (compareOp o3) r3) (ha : PE X a ta) (hb : PE X b tb) (hc : PE X c tc) (hd : PE X d td)
    (hm : lastMarks [o1, o2, o3] [b, c, d] = false := by with_unfolding_all rfl) : PT X (.Compare a [o1, o2, o3] [b, c, d] pos) (tTest (tChain3 r1 r2 r3 ta tb tc td)) where
  run := by
    intro pins s σ H Q inv h
    refine isTrue_chain (thn (ha.run pins s σ H _ inv h) ?_) hm
    rintro va s1 ⟨xa, H1, i1, ra, qa⟩
    refine test_link (thn (hb.run pins s1 σ H1 _ i1 qa) ?_)
    rintro vb s2 ⟨xb, H2, i2, rb, qb⟩
    refine thn (h1 pins s2 σ H2 xa xb va vb _ i2 ra rb qb) ?_
    rintro k1 s3 ⟨_, H3, i3, rk, k, rfl, q3⟩
    obtain rfl : k1 = .bool k := rk
    refine wpAny_truthy_bool ?_
    cases k with
    | false =>
      obtain ⟨k', e', q'⟩ := q3
      obtain rfl := V.bl.inj e'
      exact ite_ff ⟨H3, i3, q'⟩
    | true =>
      refine ite_tt (test_link (thn (hc.run pins s3 σ H3 _ i3 q3) ?_))
      rintro vc s4 ⟨xc, H4, i4, rc, qc⟩
      refine thn (h2 pins s4 σ H4 xb xc vb vc _ i4 rb rc qc) ?_
      rintro k2 s5 ⟨_, H5, i5, rk2, j, rfl, q5⟩
      obtain rfl : k2 = .bool j := rk2
      refine wpAny_truthy_bool ?_
      cases j with
      | false =>
        obtain ⟨k', e', q'⟩ := q5
        obtain rfl := V.bl.inj e'
        exact ite_ff ⟨H5, i5, q'⟩
      | true =>
        refine ite_tt (test_last (thn (hd.run pins s5 σ H5 _ i5 q5) ?_))
        rintro vd s6 ⟨xd, H6, i6, rd, qd⟩
        refine thn (h3 pins s6 σ H6 xc xd vc vd _ i6 rc rd qd) ?_
        rintro k3 s7 ⟨_, H7, i7, rk3, l, rfl, q7⟩
        obtain rfl : k3 = .bool l := rk3
        exact wpAny_truthy_bool ⟨H7, i7, q7⟩
end
/-! ### a rule as a tuple or a list -/
def RA (H : Hp) (a : Addr) (vals : List V) : Prop := H a = some (.tup vals) ∨ H a = some (.lst vals)
theorem RA.same {H H' : Hp} {a : Addr} {vals : List V} (h : RA H a vals) (s : Same H H') : RA H' a vals := h.elim (fun x => .inl (s _ _ x)) fun x => .inr (s _ _ x)
theorem RA.ix {K : PySem.W.Frag} {H : Hp} {a : Addr} {vals : List V} (h : RA H a vals) (j : Nat) {z : Int} {v : V} (ez : z = (j : Int)) (e : vals[j]? = some v) {Q : VK} (q : Q v H) : rIx K (.ref a) (.int z) H Q := by
  rcases h with h | h
  · exact .inr (.inl ⟨a, vals, z, v, rfl, rfl, SqT.of h, at_of ez e, q⟩)
  · exact .inl ⟨a, vals, z, v, rfl, rfl, SqL.of h, at_of ez e, q⟩
theorem RA.sq {K : PySem.W.Frag} {H : Hp} {a : Addr} {vals : List V} (h : RA H a vals) : SqL K H a vals ∨ SqT K H a vals := h.elim (fun x => .inr (SqT.of x)) fun x => .inl (SqL.of x)
def lenV (l : List Nat) : V := .int (l.length : Int)
theorem lenV_at {ts : List (List Nat)} {i : Nat} (h : i < ts.length) : atI (ts.map lenV) (i : Int) = some (.int ((tx ts i).length : Int)) := len_at h
section
variable {P : Program} {w : World} {K : PySem.W.Frag} {mg : Str → Option Value} {base : Heap}
/-! ### length_made -/
def spLengthMade : Sp := fun vs H Q _ => ∃ (a L : Addr) (ts : List (List Nat)) (r : Rule), vs = [.ref a, .ref L] ∧ RA H a r.vals ∧ H L = some (.lst (ts.map lenV)) ∧ Ok ts r ∧ (∀ l ∈ ts, l.length ≤ 1000000000000) ∧ Q (.int ((made ts r).length : Int)) H
theorem scLm : FnScope ["rule", "lengths", "word"] ["rule", "lengths"] (defScope sLengthMade) := ⟨rfl, rfl, rfl, by decide +kernel, rfl, by decide +kernel, by decide +kernel⟩
theorem ok_length_made {f : Addr} {fd : FuncData} (F : Fun K "length_made" "length_made" sLengthMade f fd) (hm : mg "length_made" = some (.ref f)) (b : Binds K fd ["rule", "lengths"] []) (T : Txt mg) : Cal P w K mg base 1 "length_made" spLengthMade [] := by
  refine mkCal F hm b scLm (fun vs H Q E h => ?_) (fun cdv A outer s H vs Q E hr h => ?_)
  · obtain ⟨a, L, ts, r, rfl, _⟩ := h
    rfl
  obtain ⟨a, L, ts, r, rfl, hA, hL, ok, hle, q⟩ := h
  refine ⟨_, (pss_cons (ps_set (i := 2) scLm.nd rfl (.inl rfl) (pe_ix ix_seq (pv 0) pe_int (fun _ _ => rfl)))
    (pss_cons (ps_if (pt_cmpR op_eq (pv 2) pe_str (nomark _)) (pss_one (ps_ret (pe_callB call_len_str (by rfl) T.len PySem.boot_len (pa_cons (pe_ix ix_seq (pv 0) pe_int (fun _ _ => rfl)) pa_nil)))) pss_nil)
    (pss_cons (ps_if (pt_cmpR op_eq (pv 2) pe_str (nomark _)) (pss_one (ps_ret (pe_op op_add (pe_ix ix_list (pv 1) (pe_ix ix_seq (pv 0) pe_int (fun _ _ => rfl)) (fun _ _ => rfl)) (pe_ix ix_list (pv 1) (pe_ix ix_seq (pv 0) pe_int (fun _ _ => rfl)) (fun _ _ => rfl))))) pss_nil)
    (pss_cons (ps_if (pt_cmpR op_eq (pv 2) pe_str (nomark _)) (pss_one (ps_ret (pe_op op_mul (pe_ix ix_list (pv 1) (pe_ix ix_seq (pv 0) pe_int (fun _ _ => rfl)) (fun _ _ => rfl)) (pe_ix ix_seq (pv 0) pe_int (fun _ _ => rfl))))) pss_nil)
    (pss_cons (ps_if (pt_cmpR op_eq (pv 2) pe_str (nomark _)) (pss_one (ps_ret (pe_op op_sub (pe_ix ix_seq (pv 0) pe_int (fun _ _ => rfl)) (pe_ix ix_seq (pv 0) pe_int (fun _ _ => rfl))))) pss_nil)
    (pss_one (ps_ret (pe_ix ix_list (pv 1) (pe_ix ix_seq (pv 0) pe_int (fun _ _ => rfl)) (fun _ _ => rfl))))))))), ?_⟩
  have hL' : SqL K H L (ts.map lenV) := SqL.of hL
  cases r with
  | letters z =>
    refine ⟨_, rfl, hA.ix 0 rfl rfl ?_⟩
    refine ⟨_, rfl, rfl, _, rfl, ifT (by decide +kernel) ?_⟩
    refine ⟨_, rfl, hA.ix 1 rfl rfl ⟨S z, rfl, Sz (by have := ok.1; omega), ?_⟩⟩
    rw [S_len]
    exact q
  | join i j =>
    refine ⟨_, rfl, hA.ix 0 rfl rfl ?_⟩
    refine ⟨_, rfl, rfl, _, rfl, ifF (by decide +kernel) ?_⟩
    refine ⟨_, rfl, rfl, _, rfl, ifT (by decide +kernel) ?_⟩
    refine ⟨_, rfl, _, rfl, hA.ix 1 rfl rfl ⟨L, _, (i : Int), _, rfl, rfl, hL', lenV_at ok.1, ?_⟩⟩
    refine ⟨_, rfl, _, rfl, hA.ix 2 rfl rfl ⟨L, _, (j : Int), _, rfl, rfl, hL', lenV_at ok.2, _, _, rfl, rfl, ?_⟩⟩
    have e : ((made ts (.join i j)).length : Int) = ((tx ts i).length : Int) + ((tx ts j).length : Int) := by
      show ((tx ts i ++ tx ts j).length : Int) = _
      rw [List.length_append]
      omega
    rw [e] at q
    exact q
  | power i k =>
    refine ⟨_, rfl, hA.ix 0 rfl rfl ?_⟩
    refine ⟨_, rfl, rfl, _, rfl, ifF (by decide +kernel) ?_⟩
    refine ⟨_, rfl, rfl, _, rfl, ifF (by decide +kernel) ?_⟩
    refine ⟨_, rfl, rfl, _, rfl, ifT (by decide +kernel) ?_⟩
    have hb := hle _ (tx_mem ok.1)
    refine ⟨_, rfl, _, rfl, hA.ix 1 rfl rfl ⟨L, _, (i : Int), _, rfl, rfl, hL', lenV_at ok.1, ?_⟩⟩
    refine ⟨_, rfl, hA.ix 2 rfl rfl ⟨_, _, rfl, rfl, .inl ⟨by omega, by omega⟩, ?_⟩⟩
    have e : ((made ts (.power i k)).length : Int) = ((tx ts i).length : Int) * (k : Int) := by
      show ((pw (tx ts i) k).length : Int) = _
      rw [pw_len, Int.natCast_mul, Int.mul_comm]
    rw [e] at q
    exact q
  | part i x y =>
    refine ⟨_, rfl, hA.ix 0 rfl rfl ?_⟩
    refine ⟨_, rfl, rfl, _, rfl, ifF (by decide +kernel) ?_⟩
    refine ⟨_, rfl, rfl, _, rfl, ifF (by decide +kernel) ?_⟩
    refine ⟨_, rfl, rfl, _, rfl, ifF (by decide +kernel) ?_⟩
    refine ⟨_, rfl, rfl, _, rfl, ifT (by decide +kernel) ?_⟩
    refine ⟨_, rfl, hA.ix 3 rfl rfl ⟨_, rfl, hA.ix 2 rfl rfl ⟨_, _, rfl, rfl, ?_⟩⟩⟩
    have e : ((made ts (.part i x y)).length : Int) = (y : Int) - (x : Int) := by
      show ((sub (tx ts i) x y).length : Int) = _
      rw [sub_len ok.2.2]
      have := ok.2.1
      omega
    rw [e] at q
    exact q
  | back i =>
    refine ⟨_, rfl, hA.ix 0 rfl rfl ?_⟩
    refine ⟨_, rfl, rfl, _, rfl, ifF (by decide +kernel) ?_⟩
    refine ⟨_, rfl, rfl, _, rfl, ifF (by decide +kernel) ?_⟩
    refine ⟨_, rfl, rfl, _, rfl, ifF (by decide +kernel) ?_⟩
    refine ⟨_, rfl, rfl, _, rfl, ifF (by decide +kernel) ?_⟩
    refine ⟨_, rfl, _, rfl, hA.ix 1 rfl rfl ⟨L, _, (i : Int), _, rfl, rfl, hL', lenV_at ok, ?_⟩⟩
    have e : ((made ts (.back i)).length : Int) = ((tx ts i).length : Int) := by
      show ((tx ts i).reverse.length : Int) = _
      rw [List.length_reverse]
    rw [e] at q
    exact q
/-! ### lengths_unchecked -/
def spLengthsU : Sp := fun vs H Q _ => ∃ (R : Addr) (as : List Addr) (rs : List Rule) (ts : List (List Nat)), vs = [.ref R] ∧ H R = some (.tup (as.map V.ref)) ∧ LT H as (rs.map Rule.vals) ∧ Sound rs ts ∧ ts.length ≤ 1000 ∧
  ∀ q H', Same H H' → H' q = some (.tup (ts.map lenV)) → Q (.ref q) H'
theorem scLu : FnScope ["rules", "lengths", "rule"] ["rules"] (defScope sLengthsUnchecked) := ⟨rfl, rfl, rfl, by decide +kernel, rfl, by decide +kernel, by decide +kernel⟩
theorem ok_lengths_unchecked {f : Addr} {fd : FuncData} (F : Fun K "lengths_unchecked" "lengths_unchecked" sLengthsUnchecked f fd) (hm : mg "lengths_unchecked" = some (.ref f)) (b : Binds K fd ["rules"] []) (T : Txt mg) (GLm : Cal P w K mg base 1 "length_made" spLengthMade []) : Cal P w K mg base 2 "lengths_unchecked" spLengthsU [] := by
  refine mkCal F hm b scLu (fun vs H Q E h => ?_) (fun cdv A outer s H vs Q E hr h => ?_)
  · obtain ⟨R, as, rs, ts, rfl, _⟩ := h
    rfl
  obtain ⟨R, as, rs, ts, rfl, hR, hT, snd, hlen, q⟩ := h
  refine ⟨_, (pss_cons (ps_set (i := 1) scLu.nd rfl (.inl rfl) (pe_lst pa_nil))
    (pss_cons (ps_for PassesOwn.never rfl (pi_tup (pv 0)) (pg_name (i := 2) scLu.nd rfl (.inl rfl)) (pss_one (ps_expr (pe_bm PySem.F.plainAttrs_list PySem.F.slot_list_append PySem.F.type_list_append mt_append (pv 1) (pa_cons (pe_c GLm hr (by decide) (by rfl) (pa_cons (pv 2) (pa_cons (pv 1) pa_nil))) pa_nil)))))
    (pss_one (ps_ret (pe_callTy call_tuple_of (by rfl) T.tuple (by decide +kernel) (pa_cons (pv 1) pa_nil)))))), ?_⟩
  have eal : (as.map V.ref).length = ts.length := by rw [List.length_map, hT.1, List.length_map, snd.len]
  refine ⟨Nat.zero_le _, fun L nL => ?_⟩
  refine ⟨_, rfl, R, rfl, ⟨_, SqT.of (same_new nL _ _ hR)⟩, for_tup (K := K) (a := R) (xs := as.map V.ref) (fun i σ H' => ∃ v2 : Option V, σ = [some (.ref R), some (.ref L), v2] ∧ Same H H' ∧ H' L = some (.lst ((ts.take i).map lenV)))
    ⟨none, rfl, same_new nL, upd_same⟩ (fun i σ H' _ ⟨_, _, s, _⟩ => SqT.of (s _ _ hR)) ?_ ?_⟩
  · rintro i x σ H1 hi ⟨v2, rfl, s1, hL⟩
    have hi2 : i < ts.length := by
      have := (List.getElem?_eq_some_iff.mp hi).1
      omega
    obtain ⟨r, er⟩ := snd.rule hi2
    obtain ⟨a, ea, ha⟩ := hT.2 i r.vals (by rw [List.getElem?_map, er]; rfl)
    rw [List.getElem?_map, ea] at hi
    have ex := Option.some.inj hi
    subst ex
    refine ⟨_, rfl, .inl ⟨rfl, _, SqL.of hL⟩, _, rfl, _, rfl, a, L, ts.take i, r, rfl, .inl (s1 _ _ ha), hL, (snd.ok i r er).1, fun l hl => snd.le l (List.mem_of_mem_take hl), ?_⟩
    refine ⟨L, _, _, rfl, rfl, hL, by rw [List.length_map, List.length_take]; exact small1000 (by omega), _, rfl, fun c o hc => ?_, ?_⟩
    · rw [upd_ne (ne_of_none hc nL)]
      exact s1 _ _ hc
    · rw [upd_same, take_succ_tx hi2, List.map_append, ← snd.tx er]
      rfl
  · rintro σ H1 ⟨v2, rfl, s1, hL⟩
    rw [eal, List.take_length] at hL
    refine ⟨_, rfl, L, _, rfl, .inl ⟨SqL.of hL, fun t nt => ?_⟩⟩
    exact q t _ (s1.trans (same_new nt)) upd_same
/-! ### copied -/
def rTupOf (K : PySem.W.Frag) : List V → Hp → VK → Prop := fun xs H Q => ∃ p ys, xs = [.ref p] ∧ ((SqL K H p ys ∧ ∀ l, H l = none → Q (.ref l) (upd H l (.tup ys))) ∨ (SqT K H p ys ∧ Q (.ref p) H))
def spCopied : Sp := fun vs H Q _ => ∃ (R : Addr) (as : List Addr) (vss : List (List V)), vs = [.ref R] ∧ RA H R (as.map V.ref) ∧ as.length = vss.length ∧ (∀ (k : Nat) (vs : List V), vss[k]? = some vs → ∃ a, as[k]? = some a ∧ RA H a vs) ∧ vss.length ≤ 1000 ∧
  ∀ q as' H', Same H H' → H' q = some (.tup (as'.map V.ref)) → LT H' as' vss → Q (.ref q) H'
theorem scCo : FnScope ["rules", "rule"] ["rules"] (defScope sCopied) := ⟨rfl, rfl, rfl, by decide +kernel, rfl, by decide +kernel, by decide +kernel⟩
theorem ok_copied {f : Addr} {fd : FuncData} (F : Fun K "copied" "copied" sCopied f fd) (hm : mg "copied" = some (.ref f)) (b : Binds K fd ["rules"] []) (T : Txt mg) : Cal P w K mg base 1 "copied" spCopied [] := by
  refine mkCal F hm b scCo (fun vs H Q E h => ?_) (fun cdv A outer s H vs Q E hr h => ?_)
  · obtain ⟨R, as, vss, rfl, _⟩ := h
    rfl
  obtain ⟨R, as, vss, rfl, hR, hl, hel, h1000, q⟩ := h
  refine ⟨_, (pss_one (ps_ret (pe_callTy call_tuple_of (by rfl) T.tuple (by decide +kernel) (pa_cons (pe_lc (own := [("rule", 1)]) (g := gName 1) (te := tCB (rTupOf K) (tCons (tVar 1) tNil)) (tt := tYes) rfl scCo.nd (PI.or (pi_list (pv 0)) (pi_tup (pv 0))) (blkOk_by (N := ["rules", "rule"]) (sc := defScope sCopied) (by decide +kernel)) (fun _ _ _ _ _ => (pg_name (i := 1) scCo.nd rfl (.inl rfl))) (fun _ _ _ _ _ => pts_nil) (fun _ _ _ _ _ => (pe_callTy call_tuple_of (by rfl) T.tuple (by decide +kernel) (pa_cons (pv 1) pa_nil)))) pa_nil)))), ?_⟩
  have eal : (as.map V.ref).length = vss.length := by rw [List.length_map, hl]
  -- one turn, the end
  have turn : ∀ (D : Addr) (i : Nat) (xx : V) (H1 : Hp), H D = none → (as.map V.ref)[i]? = some xx → Same H H1 → (∃ as', H1 D = some (.lst (as'.map V.ref)) ∧ LT H1 as' (vss.take i)) → ∃ a, xx = .ref a ∧
      ∀ (R' : V → Hp → Prop), (∀ y H2, (∃ acc, H2 D = some (.lst acc) ∧ acc.length < sizeLine ∧ (Same H (upd H2 D (.lst (acc ++ [y]))) ∧ ∃ as', (upd H2 D (.lst (acc ++ [y]))) D = some (.lst (as'.map V.ref)) ∧ LT (upd H2 D (.lst (acc ++ [y]))) as' (vss.take (i + 1)))) → R' y H2) →
        ∃ p ys, [V.ref a] = [.ref p] ∧ ((SqL K H1 p ys ∧ ∀ l, H1 l = none → R' (.ref l) (upd H1 l (.tup ys))) ∨ (SqT K H1 p ys ∧ R' (.ref p) H1)) := by
    intro D i xx H1 nD hi s1 ⟨as', hD, hT⟩
    have hi2 : i < vss.length := by
      have := (List.getElem?_eq_some_iff.mp hi).1
      omega
    obtain ⟨a, ea, ha⟩ := hel i vss[i] (List.getElem?_eq_getElem hi2)
    rw [List.getElem?_map, ea] at hi
    have ex := Option.some.inj hi
    subst ex
    refine ⟨a, rfl, fun R' hR' => ?_⟩
    have etk : vss.take (i + 1) = vss.take i ++ [vss[i]] := by
      rw [List.take_add_one, List.getElem?_eq_getElem hi2]
      rfl
    have put : ∀ (H2 : Hp) (p : Addr), Same H1 H2 → H2 p = some (.tup vss[i]) → ∃ acc, H2 D = some (.lst acc) ∧ acc.length < sizeLine ∧ (Same H (upd H2 D (.lst (acc ++ [.ref p]))) ∧ ∃ as', (upd H2 D (.lst (acc ++ [.ref p]))) D = some (.lst (as'.map V.ref)) ∧ LT (upd H2 D (.lst (acc ++ [.ref p]))) as' (vss.take (i + 1))) := by
      intro H2 p s2 hp
      have hD2 := s2 _ _ hD
      refine ⟨_, hD2, by rw [List.length_map, hT.1, List.length_take]; exact small1000 (by omega), fun c o hc => ?_, as' ++ [p], by rw [upd_same]; simp, ?_⟩
      · rw [upd_ne (ne_of_none hc nD)]
        exact s2 _ _ (s1 _ _ hc)
      · rw [etk]
        exact ((hT.same s2).add hp).updL hD2
    rcases ha.same s1 with h | h
    · exact ⟨a, _, rfl, .inr ⟨SqT.of h, hR' _ _ (put H1 a (Same.refl H1) h)⟩⟩
    · exact ⟨a, _, rfl, .inl ⟨SqL.of h, fun l nl => hR' _ _ (put _ l (same_new nl) upd_same)⟩⟩
  have fin : ∀ (D : Addr) (H1 : Hp), Same H H1 → (∃ as', H1 D = some (.lst (as'.map V.ref)) ∧ LT H1 as' (vss.take vss.length)) → ∃ p ys, [V.ref D] = [.ref p] ∧ ((SqL K H1 p ys ∧ ∀ l, H1 l = none → Q (.ref l) (upd H1 l (.tup ys))) ∨ (SqT K H1 p ys ∧ Q (.ref p) H1)) := by
    rintro D H1 s1 ⟨as', hD, hT⟩
    rw [List.take_length] at hT
    exact ⟨D, _, rfl, .inl ⟨SqL.of hD, fun t nt => q t as' _ (s1.trans (same_new nt)) upd_same (hT.same (same_new nt))⟩⟩
  rcases hR with hR | hR
  · refine .inr ⟨_, rfl, R, rfl, ⟨_, SqT.of hR⟩, fun D nD => ?_⟩
    refine lc_tup (K := K) (a := R) (xs := as.map V.ref) (fun i H' => Same H H' ∧ ∃ as', H' D = some (.lst (as'.map V.ref)) ∧ LT H' as' (vss.take i)) ⟨same_new nD, [], upd_same, LT.nil⟩ (fun i H' _ h => SqT.of (h.1 _ _ hR)) ?_ ?_
    · rintro i xx H1 hi ⟨s1, h1⟩
      obtain ⟨a, rfl, h⟩ := turn D i xx H1 nD hi s1 h1
      exact ⟨rfl, _, rfl, h _ fun y H2 hh => hh⟩
    · rintro H1 ⟨s1, h1⟩
      rw [eal] at h1
      exact fin D H1 s1 h1
  · refine .inl ⟨_, rfl, R, rfl, ⟨_, SqL.of hR⟩, fun D nD => ?_⟩
    refine lc_list (K := K) (a := R) (xs := as.map V.ref) (fun i H' => Same H H' ∧ ∃ as', H' D = some (.lst (as'.map V.ref)) ∧ LT H' as' (vss.take i)) ⟨same_new nD, [], upd_same, LT.nil⟩ (fun i H' _ h => SqL.of (h.1 _ _ hR)) ?_ ?_
    · rintro i xx H1 hi ⟨s1, h1⟩
      obtain ⟨a, rfl, h⟩ := turn D i xx H1 nD hi s1 h1
      exact ⟨rfl, _, rfl, h _ fun y H2 hh => hh⟩
    · rintro H1 ⟨s1, h1⟩
      rw [eal] at h1
      exact fin D H1 s1 h1
/-! ### is_part, letter, letters -/
def spIsPart : Sp := fun vs H Q _ => ∃ a b n : Int, vs = [.int a, .int b, .int n] ∧ Q (.bl (decide (0 ≤ a ∧ a ≤ b ∧ b ≤ n))) H
theorem scIp : FnScope ["start", "stop", "length"] ["start", "stop", "length"] (defScope sIsPart) := ⟨rfl, rfl, rfl, by decide +kernel, rfl, by decide +kernel, by decide +kernel⟩
theorem ok_is_part {f : Addr} {fd : FuncData} (F : Fun K "is_part" "is_part" sIsPart f fd) (hm : mg "is_part" = some (.ref f)) (b : Binds K fd ["start", "stop", "length"] []) : Cal P w K mg base 1 "is_part" spIsPart [] := by
  refine mkCal F hm b scIp (fun vs H Q E h => ?_) (fun cdv A outer s H vs Q E hr h => ?_)
  · obtain ⟨a, b, n, rfl, _⟩ := h
    rfl
  obtain ⟨a, b, n, rfl, q⟩ := h
  refine ⟨_, (pss_one (ps_ret (pe_chain3 op_le op_le op_le pe_int (pv 0) (pv 1) (pv 2)))), ?_⟩
  refine ⟨_, rfl, _, _, rfl, rfl, _, rfl, ?_⟩
  have fls : ¬ (0 ≤ a ∧ a ≤ b ∧ b ≤ n) → Q (.bl false) H := fun h => by rw [decide_eq_false h] at q; exact q
  refine ite2 (fun z => ?_) (fun z => fls fun h => z (decide_eq_true h.1))
  have z1 : (0 : Int) ≤ a := of_decide_eq_true z
  refine ⟨_, rfl, _, _, rfl, rfl, _, rfl, ?_⟩
  refine ite2 (fun z => ?_) (fun z => fls fun h => z (decide_eq_true h.2.1))
  have z2 : a ≤ b := of_decide_eq_true z
  refine ⟨_, rfl, _, _, rfl, rfl, ?_⟩
  have e : decide (0 ≤ a ∧ a ≤ b ∧ b ≤ n) = decide (b ≤ n) := by
    by_cases h : b ≤ n
    · rw [decide_eq_true h, decide_eq_true ⟨z1, z2, h⟩]
    · rw [decide_eq_false h, decide_eq_false fun x => h x.2.2]
  rw [e] at q
  exact q
end
theorem LTR_SL : LTR.cps.toList = SL := by decide +kernel
theorem RA.ty {K : PySem.W.Frag} {H : Hp} {a : Addr} {vals : List V} (h : RA H a vals) : (TyX K H (.ref a) (.type "tuple")) ∨ (TyX K H (.ref a) (.type "list")) := h.elim (fun x => .inl (.base (.tup x))) fun x => .inr (.base (.lst x))
def rLen (K : PySem.W.Frag) : List V → Hp → VK → Prop := fun xs H Q => ∃ p ys, xs = [.ref p] ∧ (SqL K H p ys ∨ SqT K H p ys) ∧ Q (.int (ys.length : Int)) H
structure Sizes (K : PySem.W.Frag) (w : World) (mg : Str → Option Value) (d : Addr) (es : Array DictEntry) (n : Nat) : Prop where
  hd : ∃ u, mg "SIZES" = some u ∧ RelV (.ref d) u
  D : KDict K w d es n
  s1 : ∃ t, PySem.W.nsIn K d "letters" = some (some (.int 2 t))
  s2 : ∃ t, PySem.W.nsIn K d "join" = some (some (.int 3 t))
  s3 : ∃ t, PySem.W.nsIn K d "power" = some (some (.int 3 t))
  s4 : ∃ t, PySem.W.nsIn K d "part" = some (some (.int 4 t))
  s5 : ∃ t, PySem.W.nsIn K d "back" = some (some (.int 2 t))
def wordOf : Rule → Str
  | .letters _ => "letters"
  | .join _ _ => "join"
  | .power _ _ => "power"
  | .part _ _ _ => "part"
  | .back _ => "back"
theorem Sizes.at_ {K : PySem.W.Frag} {w : World} {mg : Str → Option Value} {d : Addr} {es : Array DictEntry} {n : Nat} (Z : Sizes K w mg d es n) (r : Rule) : ∃ t, PySem.W.nsIn K d (wordOf r) = some (some (.int (r.vals.length : Int) t)) := by
  cases r with
  | letters z => exact Z.s1
  | join i j => exact Z.s2
  | power i k => exact Z.s3
  | part i a b => exact Z.s4
  | back i => exact Z.s5
theorem vals_word (r : Rule) : r.vals[0]? = some (.str (wordOf r)) := by cases r <;> rfl
section
variable {P : Program} {w : World} {K : PySem.W.Frag} {mg : Str → Option Value} {base : Heap}
/-! ### is_whole, has_word, are_told -/
def spIsWhole : Sp := fun vs H Q _ => ∃ i : Int, vs = [.int i] ∧ Q (.bl true) H
theorem scIw : FnScope ["value"] ["value"] (defScope sIsWhole) := ⟨rfl, rfl, rfl, by decide +kernel, rfl, by decide +kernel, by decide +kernel⟩
theorem ok_is_whole {f : Addr} {fd : FuncData} (F : Fun K "is_whole" "is_whole" sIsWhole f fd) (hm : mg "is_whole" = some (.ref f)) (b : Binds K fd ["value"] []) (T : Txt mg) : Cal P w K mg base 1 "is_whole" spIsWhole [] := by
  refine mkCal F hm b scIw (fun vs H Q E h => ?_) (fun cdv A outer s H vs Q E hr h => ?_)
  · obtain ⟨i, rfl, _⟩ := h
    rfl
  obtain ⟨i, rfl, q⟩ := h
  refine ⟨_, (pss_one (ps_ret (pe_and (pe_callB call_isi (by rfl) T.isinstance (by decide +kernel) (pa_cons (pv 0) (pa_cons (pe_bltn (v := .ty "int") (by rfl) T.int (by decide +kernel) rfl) pa_nil))) (pe_one (pe_not (pe_callB call_isi (by rfl) T.isinstance (by decide +kernel) (pa_cons (pv 0) (pa_cons (pe_bltn (v := .ty "bool") (by rfl) T.bool (by decide +kernel) rfl) pa_nil)))))))), ?_⟩
  refine ⟨_, rfl, _, _, _, _, true, rfl, .ty _, .base (.int i), kit_ty (by decide +kernel), true, rfl, ifT rfl ?_⟩
  exact ⟨_, rfl, _, _, _, _, false, rfl, .ty _, .base (.int i), kit_ty (by decide +kernel), false, rfl, q⟩
def spHasWord : Sp := fun vs H Q _ => ∃ (a : Addr) (r : Rule), vs = [.ref a] ∧ RA H a r.vals ∧ ∀ H', Same H H' → Q (.bl true) H'
theorem scHw : FnScope ["rule"] ["rule"] (defScope sHasWord) := ⟨rfl, rfl, rfl, by decide +kernel, rfl, by decide +kernel, by decide +kernel⟩
theorem tl_any {K : PySem.W.Frag} {H : Hp} {a : Addr} {vals : List V} (h : RA H a vals) : ∃ t, TyX K H (.ref a) t ∧ PySem.W.kitAny K t [.type "tuple", .type "list"] = some true := by
  rcases h.ty (K := K) with h | h
  · exact ⟨_, h, kitAny_cons (b := true) (kit_ty (by decide +kernel)) (fun z => nomatch z) fun _ => rfl⟩
  · exact ⟨_, h, kitAny_cons (b := false) (kit_ty (by decide +kernel)) (fun _ => kitAny_cons (b := true) (kit_ty (by decide +kernel)) (fun z => nomatch z) fun _ => rfl) fun z => nomatch z⟩
theorem RA.tru {K : PySem.W.Frag} {H : Hp} {a : Addr} {vals : List V} (h : RA H a vals) : TruV K (.ref a) H (!vals.isEmpty) := by
  rcases h with h | h
  · exact .inr (.inl ⟨_, SqT.of h, rfl⟩)
  · exact .inl ⟨_, SqL.of h, rfl⟩
theorem ok_has_word {f d : Addr} {es : Array DictEntry} {n : Nat} {fd : FuncData} (F : Fun K "has_word" "has_word" sHasWord f fd) (hm : mg "has_word" = some (.ref f)) (b : Binds K fd ["rule"] []) (T : Txt mg) (Z : Sizes K w mg d es n) : Cal P w K mg base 1 "has_word" spHasWord [] := by
  refine mkCal F hm b scHw (fun vs H Q E h => ?_) (fun cdv A outer s H vs Q E hr h => ?_)
  · obtain ⟨a, r, rfl, _⟩ := h
    rfl
  obtain ⟨a, r, rfl, hA, q⟩ := h
  refine ⟨_, (pss_cons (ps_if (PW.pt (pw_or (pt_not (pt_val (pe_callB call_isiT (by rfl) T.isinstance (by decide +kernel) (pa_cons (pv 0) (pa_cons (pe_tup (pa_cons (pe_bltn (v := .ty "tuple") (by rfl) T.tuple (by decide +kernel) rfl) (pa_cons (pe_bltn (v := .ty "list") (by rfl) T.list (by decide +kernel) rfl) pa_nil))) pa_nil))))) (pw_or1 (pt_not (pt_truth (pv 0) (by intro _; rfl)))))) (pss_one (ps_ret pe_bl)) pss_nil)
    (pss_one (ps_ret (pe_and (pe_callB call_isi (by rfl) T.isinstance (by decide +kernel) (pa_cons (pe_ix ix_seq (pv 0) pe_int (fun _ _ => rfl)) (pa_cons (pe_bltn (v := .ty "str") (by rfl) T.str (by decide +kernel) rfl) pa_nil))) (pe_one (pe_cmpR (op_in_kd Z.D) (pe_ix ix_seq (pv 0) pe_int (fun _ _ => rfl)) (C8.pe_gc (by rfl) Z.hd) (by rfl))))))), ?_⟩
  refine ⟨_, rfl, by show 2 ≤ sizeLine; decide, fun p np => ?_⟩
  have s1 := same_new (o := .tup [.ty "tuple", .ty "list"]) np
  have hA1 := hA.same s1
  obtain ⟨t, ht, hk⟩ := tl_any (K := K) hA1
  refine ⟨_, p, _, t, _, true, rfl, upd_same, .cons (.ty _) (.cons (.ty _) .nil), ht, hk, true, rfl, ifF rfl ?_⟩
  have hne : r.vals.isEmpty = false := by cases r <;> rfl
  refine ⟨_, rfl, _, hA1.tru, ?_⟩
  rw [hne]
  refine ifF rfl ?_
  refine ⟨_, rfl, hA1.ix 0 rfl (vals_word r) ⟨_, _, _, _, true, rfl, .ty _, .base (.str _), kit_ty (by decide +kernel), true, rfl, ifT rfl ?_⟩⟩
  obtain ⟨t, et⟩ := Z.at_ r
  exact ⟨_, rfl, hA1.ix 0 rfl (vals_word r) ⟨_, _, rfl, rfl, et, q _ s1⟩⟩
def spAreTold : Sp := fun vs H Q _ => ∃ l : List Nat, vs = [.str (S l)] ∧ l.length ≤ 64 ∧ (∀ c ∈ l, c ∈ SL) ∧ ∀ H', Same H H' → Q (.bl true) H'
theorem scAt : FnScope ["letters", "letter"] ["letters"] (defScope sAreTold) := ⟨rfl, rfl, rfl, by decide +kernel, rfl, by decide +kernel, by decide +kernel⟩
def trues (n : Nat) : List V := (List.replicate n true).map V.bl
theorem trues_add (n : Nat) : trues n ++ [.bl true] = trues (n + 1) := by
  unfold trues
  rw [List.replicate_succ', List.map_append]
  rfl
theorem trues_len (n : Nat) : (trues n).length = n := by simp [trues]
theorem trues_all (n : Nat) : (List.replicate n true).all id = true := by simp
theorem ok_are_told {f : Addr} {fd : FuncData} (F : Fun K "are_told" "are_told" sAreTold f fd) (hm : mg "are_told" = some (.ref f)) (b : Binds K fd ["letters"] []) (T : Txt mg) : Cal P w K mg base 1 "are_told" spAreTold [] := by
  refine mkCal F hm b scAt (fun vs H Q E h => ?_) (fun cdv A outer s H vs Q E hr h => ?_)
  · obtain ⟨l, rfl, _⟩ := h
    rfl
  obtain ⟨l, rfl, hl, hin, q⟩ := h
  refine ⟨_, (pss_cons (ps_if (PW.pt (pw_or (pt_not (pt_val (pe_callB call_isi (by rfl) T.isinstance (by decide +kernel) (pa_cons (pv 0) (pa_cons (pe_bltn (v := .ty "str") (by rfl) T.str (by decide +kernel) rfl) pa_nil))))) (pw_or1 (pt_cmpR op_gt (pe_callB call_len_str (by rfl) T.len PySem.boot_len (pa_cons (pv 0) pa_nil)) (C8.pe_gc (by rfl) T.MOST_TOLD) (nomark _))))) (pss_one (ps_ret pe_bl)) pss_nil)
    (pss_one (ps_ret (pe_callB (cr_all rfl) (by rfl) T.all (by decide +kernel) (pa_cons (pe_lc (own := [("letter", 1)]) (g := gName 1) (tt := tYes) rfl scAt.nd (pi_str (pv 0)) (blkOk_by (N := ["letters", "letter"]) (sc := defScope sAreTold) (by decide +kernel)) (fun _ _ _ _ _ => (pg_name (i := 1) scAt.nd rfl (.inl rfl))) (fun _ _ _ _ _ => pts_nil) (fun _ _ _ _ _ => (pe_cmpR op_in_sign (pv 1) (C8.pe_gc (by rfl) T.LETTERS) (by rfl)))) pa_nil))))), ?_⟩
  refine ⟨_, rfl, _, _, _, _, true, rfl, .ty _, .base (.str _), kit_ty (by decide +kernel), true, rfl, ifF rfl ?_⟩
  refine ⟨_, rfl, S l, rfl, Sz (by omega), _, _, rfl, rfl, _, rfl, ifF ?_ ?_⟩
  · rw [S_len]
    exact decide_eq_false (by omega)
  refine ⟨_, rfl, S l, rfl, fun D nD => ?_⟩
  have esz : (S l).cps.size = l.length := S_len l
  refine ⟨fun i m H' => i + m = l.length ∧ Same H H' ∧ H' D = some (.lst (trues i)), ⟨l.length, by omega, same_new nD, upd_same⟩, ?_⟩
  rintro i m H1 ⟨him, s1, hD⟩
  by_cases hi : i < l.length
  · refine .inr ⟨by rw [← esz] at hi; exact hi, fun H' => Same H H' ∧ H' D = some (.lst (trues (i + 1))), fun H' h => ⟨m - 1, by omega, by omega, h⟩, ?_⟩
    rintro x H' ⟨rfl, c, hc, rfl⟩
    have hc' : l[i]? = some c := by simpa using hc
    have hcm := hin c (List.mem_of_getElem? hc')
    refine ⟨rfl, _, rfl, c, LTR, rfl, rfl, ?_⟩
    rw [LTR_SL, decide_eq_true hcm]
    refine ⟨_, hD, by rw [trues_len]; exact small1000 (by omega), fun a o ha => ?_, ?_⟩
    · rw [upd_ne (ne_of_none ha nD)]
      exact s1 _ _ ha
    · rw [upd_same, trues_add]
  · have ei : i = l.length := by omega
    subst ei
    refine .inl ⟨by rw [← esz]; exact Nat.le_refl _, D, List.replicate l.length true, rfl, SqL.of hD, ?_⟩
    rw [trues_all]
    exact q _ s1
end
theorem RA.slice {K : PySem.W.Frag} {H : Hp} {a : Addr} {vals : List V} (h : RA H a vals) {lo hi : Option Int} (nw : ¬ (HT.sIx vals.length 0 lo = 0 ∧ HT.sIx vals.length vals.length hi = vals.length)) {Q : VK}
    (q : ∀ p H', H p = none → Same H H' → RA H' p (cutV vals lo hi) → Q (.ref p) H') : rSlL K (.ref a) lo hi H Q ∨ rSlA K (.ref a) lo hi H Q := by
  rcases h with h | h
  · exact .inr ⟨a, vals, rfl, SqT.of h, fun z => absurd z nw, fun _ p np => q p _ np (same_new np) (.inl upd_same)⟩
  · exact .inl ⟨a, vals, rfl, SqL.of h, fun p np => q p _ np (same_new np) (.inr upd_same)⟩
theorem cut_rest {vals : List V} {x : V} (h : x ∈ cutV vals (some 2) none) : x ∈ vals.drop 2 := by
  unfold cutV at h
  rw [HT.sIx_none, show (some (2 : Int)) = some ((2 : Nat) : Int) from rfl, HT.sIx_nat] at h
  have h1 := List.mem_of_mem_take h
  rcases Nat.le_total 2 vals.length with z | z
  · rwa [Nat.min_eq_left z] at h1
  · rw [Nat.min_eq_right z, List.drop_length] at h1
    cases h1
theorem wordT {r : Rule} {x : Str} (h : wordOf r = x) : decide (V.str (wordOf r) = V.str x) = true := by rw [h]; exact decide_eq_true rfl
theorem wordF {r : Rule} {x : Str} (h : wordOf r ≠ x) : decide (V.str (wordOf r) = V.str x) = false := decide_eq_false fun e => h (V.str.inj e)
theorem nJL : ("join" : Str) ≠ "letters" := by decide +kernel
theorem nPL : ("power" : Str) ≠ "letters" := by decide +kernel
theorem nAL : ("part" : Str) ≠ "letters" := by decide +kernel
theorem nBL : ("back" : Str) ≠ "letters" := by decide +kernel
theorem nPJ : ("power" : Str) ≠ "join" := by decide +kernel
theorem nAJ : ("part" : Str) ≠ "join" := by decide +kernel
theorem nBJ : ("back" : Str) ≠ "join" := by decide +kernel
theorem nJP : ("join" : Str) ≠ "power" := by decide +kernel
theorem nAP : ("part" : Str) ≠ "power" := by decide +kernel
theorem nBP : ("back" : Str) ≠ "power" := by decide +kernel
theorem nJA : ("join" : Str) ≠ "part" := by decide +kernel
theorem nPA : ("power" : Str) ≠ "part" := by decide +kernel
theorem nBA : ("back" : Str) ≠ "part" := by decide +kernel
section
variable {P : Program} {w : World} {K : PySem.W.Frag} {mg : Str → Option Value} {base : Heap}
/-! ### fault_of, of a right rule -/
def spFaultOf : Sp := fun vs H Q _ => ∃ (a L : Addr) (ts : List (List Nat)) (r : Rule), vs = [.ref a, .ref L] ∧ RA H a r.vals ∧ H L = some (.lst (ts.map lenV)) ∧ Ok ts r ∧ (∀ l ∈ ts, l.length ≤ 1000000000000) ∧ (made ts r).length ≤ 1000000000000 ∧ ts.length ≤ 1000 ∧
  ∀ H', Same H H' → Q .non H'
theorem scFo : FnScope ["rule", "lengths", "word", "used", "number"] ["rule", "lengths"] (defScope sFaultOf) := ⟨rfl, rfl, rfl, by decide +kernel, rfl, by decide +kernel, by decide +kernel⟩
theorem ok_fault_of {f d : Addr} {es : Array DictEntry} {n : Nat} {fd : FuncData} (F : Fun K "fault_of" "fault_of" sFaultOf f fd) (hm : mg "fault_of" = some (.ref f)) (b : Binds K fd ["rule", "lengths"] []) (T : Txt mg) (Z : Sizes K w mg d es n)
    (GHw : Cal P w K mg base 1 "has_word" spHasWord []) (GAt : Cal P w K mg base 1 "are_told" spAreTold []) (GIw : Cal P w K mg base 1 "is_whole" spIsWhole []) (GIp : Cal P w K mg base 1 "is_part" spIsPart []) (GLm : Cal P w K mg base 1 "length_made" spLengthMade []) : Cal P w K mg base 2 "fault_of" spFaultOf [] := by
  refine mkCal F hm b scFo (fun vs H Q E h => ?_) (fun cdv A outer s H vs Q E hr h => ?_)
  · obtain ⟨a, L, ts, r, rfl, _⟩ := h
    rfl
  obtain ⟨a, L, ts, r, rfl, hA, hL, ok, hle, h12, h1000, q⟩ := h
  refine ⟨_, (pss_cons (ps_if (pt_not (pt_val (pe_c GHw hr (by decide) (by rfl) (pa_cons (pv 0) pa_nil)))) (pss_one (ps_ret pe_str)) pss_nil)
    (pss_cons (ps_set (i := 2) scFo.nd rfl (.inl rfl) (pe_ix ix_seq (pv 0) pe_int (fun _ _ => rfl)))
    (pss_cons (ps_if (pt_cmpR op_ne (pe_callB call_len_seq (by rfl) T.len PySem.boot_len (pa_cons (pv 0) pa_nil)) (pe_ix ix_kdict (C8.pe_gc (by rfl) Z.hd) (pv 2) (fun _ _ => rfl)) (nomark _)) (pss_one (ps_ret pe_str)) pss_nil)
    (pss_cons (ps_if (pt_cmpR op_eq (pv 2) pe_str (nomark _)) (pss_one (ps_ret (pe_ifExp (pt_val (pe_c GAt hr (by decide) (by rfl) (pa_cons (pe_ix ix_seq (pv 0) pe_int (fun _ _ => rfl)) pa_nil))) pe_non pe_str))) pss_nil)
    (pss_cut (ps_set (i := 3) scFo.nd rfl (.inl rfl) (pe_ifExp (pt_cmpR op_eq (pv 2) pe_str (nomark _)) (pe_slice (SlR.or sl_list sl_tupA) (pv 0) (po_some pe_int) (po_some pe_int)) (pe_slice (SlR.or sl_list sl_tupA) (pv 0) (po_some pe_int) (po_some pe_int))))
    (pss_cut (ps_if (pt_not (pt_val (pe_callB (cr_all rfl) (by rfl) T.all (by decide +kernel) (pa_cons (pe_lc (own := [("number", 4)]) (g := gName 4) (te := tAndV (tCall spIsWhole [] C8.E0 (tCons (tVar 4) tNil)) (tChain (rI0 fun i j => .bl (decide (i ≤ j))) (rI0 fun i j => .bl (decide (i < j))) (tC (.int 0)) (tVar 4) (tCB (rLen K) (tCons (tVar 1) tNil)))) (tt := tYes) rfl scFo.nd (PI.or (pi_list (pv 3)) (pi_tup (pv 3))) (blkOk_by (N := ["rule", "lengths", "word", "used", "number"]) (sc := defScope sFaultOf) (by decide +kernel)) (fun _ _ _ _ _ => (pg_name (i := 4) scFo.nd rfl (.inl rfl))) (fun _ _ _ _ _ => pts_nil) (fun _ _ _ _ _ => (pe_and (pe_c GIw hr (by decide) (by rfl) (pa_cons (pv 4) pa_nil)) (pe_one (pe_chain op_le op_lt pe_int (pv 4) (pe_callB call_len_seq (by rfl) T.len PySem.boot_len (pa_cons (pv 1) pa_nil))))))) pa_nil)))) (pss_one (ps_ret pe_str)) pss_nil)
    (pss_cut (ps_if (pt_not (pt_val (pe_callB (cr_all rfl) (by rfl) T.all (by decide +kernel) (pa_cons (pe_lc (own := [("number", 4)]) (g := gName 4) (tt := tYes) rfl scFo.nd (PI.or (pi_list (pe_slice (SlR.or sl_list sl_tupA) (pv 0) (po_some pe_int) po_none)) (pi_tup (pe_slice (SlR.or sl_list sl_tupA) (pv 0) (po_some pe_int) po_none))) (blkOk_by (N := ["rule", "lengths", "word", "used", "number"]) (sc := defScope sFaultOf) (by decide +kernel)) (fun _ _ _ _ _ => (pg_name (i := 4) scFo.nd rfl (.inl rfl))) (fun _ _ _ _ _ => pts_nil) (fun _ _ _ _ _ => (pe_c GIw hr (by decide) (by rfl) (pa_cons (pv 4) pa_nil)))) pa_nil)))) (pss_one (ps_ret (pv 2))) pss_nil)
    (pss_cons (ps_if (PW.pt (pw_and (pt_cmpR op_eq (pv 2) pe_str (nomark _)) (pw_and1 (pt_not (pt_chain op_le op_le pe_int (pe_ix ix_seq (pv 0) pe_int (fun _ _ => rfl)) (C8.pe_gc (by rfl) T.MOST_TIMES)))))) (pss_one (ps_ret pe_str)) pss_nil)
    (pss_cons (ps_if (PW.pt (pw_and (pt_cmpR op_eq (pv 2) pe_str (nomark _)) (pw_and1 (pt_not (pt_val (pe_c GIp hr (by decide) (by rfl) (pa_cons (pe_ix ix_seq (pv 0) pe_int (fun _ _ => rfl)) (pa_cons (pe_ix ix_seq (pv 0) pe_int (fun _ _ => rfl)) (pa_cons (pe_ix ix_list (pv 1) (pe_ix ix_seq (pv 0) pe_int (fun _ _ => rfl)) (fun _ _ => rfl)) pa_nil))))))))) (pss_one (ps_ret pe_str)) pss_nil)
    (pss_one (ps_ret (pe_ifExp (pt_cmpR op_gt (pe_c GLm hr (by decide) (by rfl) (pa_cons (pv 0) (pa_cons (pv 1) pa_nil))) (C8.pe_gc (by rfl) T.MOST_LETTERS) (nomark _)) pe_str pe_non)))))))))))), ?_⟩
  have ell : (ts.map lenV).length = ts.length := List.length_map _
  refine ⟨_, rfl, a, r, rfl, hA, fun H1 s1 => ⟨true, rfl, ifF rfl ?_⟩⟩
  refine ⟨_, rfl, (hA.same s1).ix 0 rfl (vals_word r) ?_⟩
  obtain ⟨t, et⟩ := Z.at_ r
  refine ⟨_, rfl, a, _, rfl, (hA.same s1).sq, _, rfl, d, wordOf r, .int (r.vals.length : Int), rfl, rfl, ⟨es, n, _, Z.D.at_, Z.D.lit, et, ⟨t, rfl⟩⟩, rfl, _, rfl, ifF (by simp) ?_⟩
  refine ⟨_, rfl, rfl, _, rfl, ?_⟩
  -- behind used = ..
  have h3 : r.vals.length ≤ 4 := r.vals_len
  by_cases hl : isL r = true
  · cases r with
    | letters z =>
      refine ifT (wordT rfl) ?_
      refine ⟨_, rfl, (hA.same s1).ix 1 rfl rfl ⟨z, rfl, ok.1, ok.2, fun H2 s2 => ⟨true, rfl, ifT rfl ?_⟩⟩⟩
      exact q _ (s1.trans s2)
    | join i j => cases hl
    | power i k => cases hl
    | part i x y => cases hl
    | back i => cases hl
  have hwl : wordOf r ≠ ("letters" : Str) := by
    cases r with
    | letters z => exact absurd rfl hl
    | join i j => exact nJL
    | power i k => exact nPL
    | part i x y => exact nAL
    | back i => exact nBL
  refine ifF (wordF hwl) ?_
  refine ⟨fun σ H' => ∃ (U : Addr) (us : List V), σ = [some (.ref a), some (.ref L), some (.str (wordOf r)), some (.ref U), none] ∧ Same H H' ∧ RA H' U us ∧ us.length ≤ 10 ∧ ∀ x ∈ us, ∃ m : Nat, x = .int (m : Int) ∧ m < ts.length, ?_, ?_⟩
  · cases r with
    | letters z => exact absurd rfl hl
    | join i j =>
      refine ⟨_, rfl, rfl, _, rfl, ifT (wordT rfl) ?_⟩
      refine ⟨_, rfl, 1, rfl, 3, rfl, (hA.same s1).slice (by show ¬ (HT.sIx 3 0 (some 1) = 0 ∧ HT.sIx 3 3 (some 3) = 3); decide) fun p H2 np s2 hp => ⟨p, [.int (i : Int), .int (j : Int)], rfl, s1.trans s2, hp, by show 2 ≤ 10; decide, fun x hx => ?_⟩⟩
      rcases List.mem_cons.mp hx with e | e
      · exact ⟨i, e, ok.1⟩
      · exact ⟨j, List.mem_singleton.mp e, ok.2⟩
    | power i k =>
      refine ⟨_, rfl, rfl, _, rfl, ifF (wordF nPJ) ?_⟩
      refine ⟨_, rfl, 1, rfl, 2, rfl, (hA.same s1).slice (by show ¬ (HT.sIx 3 0 (some 1) = 0 ∧ HT.sIx 3 3 (some 2) = 3); decide) fun p H2 np s2 hp => ⟨p, [.int (i : Int)], rfl, s1.trans s2, hp, by show 1 ≤ 10; decide, fun x hx => ⟨i, List.mem_singleton.mp hx, ok.1⟩⟩⟩
    | part i x y =>
      refine ⟨_, rfl, rfl, _, rfl, ifF (wordF nAJ) ?_⟩
      refine ⟨_, rfl, 1, rfl, 2, rfl, (hA.same s1).slice (by show ¬ (HT.sIx 4 0 (some 1) = 0 ∧ HT.sIx 4 4 (some 2) = 4); decide) fun p H2 np s2 hp => ⟨p, [.int (i : Int)], rfl, s1.trans s2, hp, by show 1 ≤ 10; decide, fun x hx => ⟨i, List.mem_singleton.mp hx, ok.1⟩⟩⟩
    | back i =>
      refine ⟨_, rfl, rfl, _, rfl, ifF (wordF nBJ) ?_⟩
      refine ⟨_, rfl, 1, rfl, 2, rfl, (hA.same s1).slice (by show ¬ (HT.sIx 2 0 (some 1) = 0 ∧ HT.sIx 2 2 (some 2) = 2); decide) fun p H2 np s2 hp => ⟨p, [.int (i : Int)], rfl, s1.trans s2, hp, by show 1 ≤ 10; decide, fun x hx => ⟨i, List.mem_singleton.mp hx, ok⟩⟩⟩
  · rintro σ H2 ⟨U, us, rfl, s2, hU, hus, hall⟩
    have fin : ∀ (k : Nat) (R : Hp → Prop) (D : Addr) (H3 : Hp), H3 D = some (.lst (trues k)) → R H3 → ∃ (a : Addr) (bs : List Bool), [V.ref D] = [.ref a] ∧ SqL K H3 a (bs.map V.bl) ∧ ∃ c, V.bl (bs.all id) = .bl c ∧ ∀ (A : Prop), (if (!c) = true then A else R H3) := by
      intro k R D H3 hD hR
      exact ⟨D, List.replicate k true, rfl, SqL.of hD, true, by rw [trues_all], fun _ => ifF rfl hR⟩
    have push : ∀ (H2 : Hp) (D : Addr) (i : Nat) (H3 : Hp), i ≤ 100 → H2 D = none → Same H2 H3 → H3 D = some (.lst (trues i)) → ∀ y : V, y = .bl true → ∃ acc, H3 D = some (.lst acc) ∧ acc.length < sizeLine ∧ (Same H2 (upd H3 D (.lst (acc ++ [y]))) ∧ (upd H3 D (.lst (acc ++ [y]))) D = some (.lst (trues (i + 1)))) := by
      intro H2 D i H3 hi nD s3 hD y hy
      refine ⟨_, hD, by rw [trues_len]; exact small1000 (by omega), fun c o hc => ?_, by rw [upd_same, hy, trues_add]⟩
      rw [upd_ne (ne_of_none hc nD)]
      exact s3 _ _ hc
    refine ⟨fun σ H' => σ = [some (.ref a), some (.ref L), some (.str (wordOf r)), some (.ref U), none] ∧ Same H H', ?_, ?_⟩
    · -- the numbers of rules
      have elt : ∀ (D : Addr) (i : Nat) (x : V) (H3 : Hp), H2 D = none → us[i]? = some x → Same H2 H3 → H3 D = some (.lst (trues i)) → ∃ m : Nat, x = .int (m : Int) ∧ m < ts.length ∧ H3 L = some (.lst (ts.map lenV)) ∧ i ≤ 100 := by
        intro D i x H3 nD hi s3 hD
        obtain ⟨m, e, hm⟩ := hall x (List.mem_of_getElem? hi)
        have hi2 := (List.getElem?_eq_some_iff.mp hi).1
        exact ⟨m, e, hm, s3 _ _ (s2 _ _ hL), by omega⟩
      rcases hU with hU | hU
      · refine .inr ⟨_, rfl, U, rfl, ⟨_, SqT.of hU⟩, fun D nD => lc_tup (K := K) (a := U) (xs := us) (fun i H' => Same H2 H' ∧ H' D = some (.lst (trues i))) ⟨same_new nD, upd_same⟩ (fun i H' _ h => SqT.of (h.1 _ _ hU)) ?_ ?_⟩
        · rintro i x H3 hi ⟨s3, hD⟩
          obtain ⟨m, rfl, hm, hL3, hi100⟩ := elt D i x H3 nD hi s3 hD
          refine ⟨rfl, _, rfl, (m : Int), rfl, true, rfl, ifT rfl ⟨_, rfl, _, _, rfl, rfl, _, rfl, ifT (decide_eq_true (by omega)) ⟨_, rfl, L, _, rfl, .inl (SqL.of hL3), _, _, rfl, rfl, ?_⟩⟩⟩
          exact push H2 D i H3 hi100 nD s3 hD _ (congrArg V.bl (decide_eq_true (by rw [ell]; omega)))
        · rintro H3 ⟨s3, hD⟩
          exact ⟨D, List.replicate us.length true, rfl, SqL.of hD, true, by rw [trues_all], ifF rfl ⟨rfl, s2.trans s3⟩⟩
      · refine .inl ⟨_, rfl, U, rfl, ⟨_, SqL.of hU⟩, fun D nD => lc_list (K := K) (a := U) (xs := us) (fun i H' => Same H2 H' ∧ H' D = some (.lst (trues i))) ⟨same_new nD, upd_same⟩ (fun i H' _ h => SqL.of (h.1 _ _ hU)) ?_ ?_⟩
        · rintro i x H3 hi ⟨s3, hD⟩
          obtain ⟨m, rfl, hm, hL3, hi100⟩ := elt D i x H3 nD hi s3 hD
          refine ⟨rfl, _, rfl, (m : Int), rfl, true, rfl, ifT rfl ⟨_, rfl, _, _, rfl, rfl, _, rfl, ifT (decide_eq_true (by omega)) ⟨_, rfl, L, _, rfl, .inl (SqL.of hL3), _, _, rfl, rfl, ?_⟩⟩⟩
          exact push H2 D i H3 hi100 nD s3 hD _ (congrArg V.bl (decide_eq_true (by rw [ell]; omega)))
        · rintro H3 ⟨s3, hD⟩
          exact ⟨D, List.replicate us.length true, rfl, SqL.of hD, true, by rw [trues_all], ifF rfl ⟨rfl, s2.trans s3⟩⟩
    · rintro σ H3 ⟨rfl, s3⟩
      refine ⟨fun σ H' => σ = [some (.ref a), some (.ref L), some (.str (wordOf r)), some (.ref U), none] ∧ Same H H', ?_, ?_⟩
      · -- the other elements
        have hrest : ∀ x ∈ r.vals.drop 2, ∃ m : Int, x = .int m := by
          intro x hx
          cases r with
          | letters z => exact absurd rfl hl
          | join i j => exact ⟨_, List.mem_singleton.mp hx⟩
          | power i k => exact ⟨_, List.mem_singleton.mp hx⟩
          | part i l u =>
            rcases List.mem_cons.mp hx with e | e
            · exact ⟨_, e⟩
            · exact ⟨_, List.mem_singleton.mp e⟩
          | back i => cases hx
        have nw : ¬ (HT.sIx r.vals.length 0 (some 2) = 0 ∧ HT.sIx r.vals.length r.vals.length none = r.vals.length) := by
          have h2 : 2 ≤ r.vals.length := by cases r <;> simp [Rule.vals]
          rw [show (some (2 : Int)) = some ((2 : Nat) : Int) from rfl, HT.sIx_nat, Nat.min_eq_left h2]
          omega
        have cl : (cutV r.vals (some 2) none).length ≤ 4 := by
          unfold cutV
          rw [List.length_take, List.length_drop]
          omega
        rcases hA.same s3 with hA3 | hA3
        · refine .inr ⟨_, rfl, 2, rfl, .inr ⟨a, _, rfl, SqT.of hA3, fun z => absurd z nw, fun _ p np => ?_⟩⟩
          have s4 := same_new (o := .tup (cutV r.vals (some 2) none)) np
          refine ⟨p, rfl, ⟨_, SqT.of upd_same⟩, fun D nD => lc_tup (K := K) (a := p) (xs := cutV r.vals (some 2) none) (fun i H' => Same (upd H3 p (.tup (cutV r.vals (some 2) none))) H' ∧ H' D = some (.lst (trues i))) ⟨same_new nD, upd_same⟩ (fun i H' _ h => SqT.of (h.1 _ _ upd_same)) ?_ ?_⟩
          · rintro i x H4 hi ⟨s5, hD⟩
            have hi2 := (List.getElem?_eq_some_iff.mp hi).1
            obtain ⟨m, rfl⟩ := hrest x (cut_rest (List.mem_of_getElem? hi))
            exact ⟨rfl, _, rfl, m, rfl, push _ D i H4 (by omega) nD s5 hD _ rfl⟩
          · rintro H4 ⟨s5, hD⟩
            exact ⟨D, List.replicate (cutV r.vals (some 2) none).length true, rfl, SqL.of hD, true, by rw [trues_all], ifF rfl ⟨rfl, (s3.trans s4).trans s5⟩⟩
        · refine .inl ⟨_, rfl, 2, rfl, .inl ⟨a, _, rfl, SqL.of hA3, fun p np => ?_⟩⟩
          have s4 := same_new (o := .lst (cutV r.vals (some 2) none)) np
          refine ⟨p, rfl, ⟨_, SqL.of upd_same⟩, fun D nD => lc_list (K := K) (a := p) (xs := cutV r.vals (some 2) none) (fun i H' => Same (upd H3 p (.lst (cutV r.vals (some 2) none))) H' ∧ H' D = some (.lst (trues i))) ⟨same_new nD, upd_same⟩ (fun i H' _ h => SqL.of (h.1 _ _ upd_same)) ?_ ?_⟩
          · rintro i x H4 hi ⟨s5, hD⟩
            have hi2 := (List.getElem?_eq_some_iff.mp hi).1
            obtain ⟨m, rfl⟩ := hrest x (cut_rest (List.mem_of_getElem? hi))
            exact ⟨rfl, _, rfl, m, rfl, push _ D i H4 (by omega) nD s5 hD _ rfl⟩
          · rintro H4 ⟨s5, hD⟩
            exact ⟨D, List.replicate (cutV r.vals (some 2) none).length true, rfl, SqL.of hD, true, by rw [trues_all], ifF rfl ⟨rfl, (s3.trans s4).trans s5⟩⟩
      · rintro σ H4 ⟨rfl, s4⟩
        have hA4 := hA.same s4
        have hL4 := s4 _ _ hL
        have big : decide ((1000000000000 : Int) < ((made ts r).length : Int)) = false := decide_eq_false (by omega)
        cases r with
        | letters z => exact absurd rfl hl
        | join i j =>
          refine ⟨_, rfl, rfl, _, rfl, ifF (wordF nJP) (ifF rfl ?_)⟩
          refine ⟨_, rfl, rfl, _, rfl, ifF (wordF nJA) (ifF rfl ?_)⟩
          exact ⟨_, rfl, _, rfl, a, L, ts, _, rfl, hA4, hL4, ok, hle, _, _, rfl, rfl, _, rfl, ifF big (q _ s4)⟩
        | power i k =>
          refine ⟨_, rfl, rfl, _, rfl, ifT (wordT rfl) ?_⟩
          refine ⟨_, rfl, hA4.ix 2 rfl rfl ⟨_, _, rfl, rfl, _, rfl, ifT (decide_eq_true (by omega)) ⟨_, _, rfl, rfl, _, rfl, ifF ?_ ?_⟩⟩⟩
          · have := ok.2
            rw [decide_eq_true (by omega)]
            rfl
          refine ⟨_, rfl, rfl, _, rfl, ifF (wordF nPA) (ifF rfl ?_)⟩
          exact ⟨_, rfl, _, rfl, a, L, ts, _, rfl, hA4, hL4, ok, hle, _, _, rfl, rfl, _, rfl, ifF big (q _ s4)⟩
        | part i x y =>
          refine ⟨_, rfl, rfl, _, rfl, ifF (wordF nAP) (ifF rfl ?_)⟩
          refine ⟨_, rfl, rfl, _, rfl, ifT (wordT rfl) ?_⟩
          refine ⟨_, rfl, hA4.ix 2 rfl rfl ⟨_, rfl, hA4.ix 3 rfl rfl ⟨_, rfl, _, rfl, hA4.ix 1 rfl rfl ⟨L, _, (i : Int), _, rfl, rfl, SqL.of hL4, lenV_at ok.1, _, _, _, rfl, _, rfl, ifF ?_ ?_⟩⟩⟩⟩
          · have h1 := ok.2.1
            have h2 := ok.2.2
            rw [decide_eq_true (by omega)]
            rfl
          exact ⟨_, rfl, _, rfl, a, L, ts, _, rfl, hA4, hL4, ok, hle, _, _, rfl, rfl, _, rfl, ifF big (q _ s4)⟩
        | back i =>
          refine ⟨_, rfl, rfl, _, rfl, ifF (wordF nBP) (ifF rfl ?_)⟩
          refine ⟨_, rfl, rfl, _, rfl, ifF (wordF nBA) (ifF rfl ?_)⟩
          exact ⟨_, rfl, _, rfl, a, L, ts, _, rfl, hA4, hL4, ok, hle, _, _, rfl, rfl, _, rfl, ifF big (q _ s4)⟩
end
def RL (H : Hp) (as : List Addr) (vss : List (List V)) : Prop := as.length = vss.length ∧ ∀ (k : Nat) (vs : List V), vss[k]? = some vs → ∃ a, as[k]? = some a ∧ RA H a vs
theorem RL.same {H H' : Hp} {as : List Addr} {vss : List (List V)} (h : RL H as vss) (s : Same H H') : RL H' as vss := ⟨h.1, fun k vs e => let ⟨a, e1, e2⟩ := h.2 k vs e; ⟨a, e1, e2.same s⟩⟩
theorem LT.rl {H : Hp} {as : List Addr} {vss : List (List V)} (h : LT H as vss) : RL H as vss := ⟨h.1, fun k vs e => let ⟨a, e1, e2⟩ := h.2 k vs e; ⟨a, e1, .inl e2⟩⟩
section
variable {P : Program} {w : World} {K : PySem.W.Frag} {mg : Str → Option Value} {base : Heap}
/-! ### lengths_checked, of right rules -/
def spLengthsC : Sp := fun vs H Q _ => ∃ (R : Addr) (as : List Addr) (rs : List Rule) (ts : List (List Nat)), vs = [.ref R] ∧ RA H R (as.map V.ref) ∧ RL H as (rs.map Rule.vals) ∧ Sound rs ts ∧ 1 ≤ rs.length ∧ rs.length ≤ 60 ∧
  ∀ q H', Same H H' → H' q = some (.tup (ts.map lenV)) → Q (.ref q) H'
theorem scLc : FnScope ["rules", "lengths", "number", "rule", "reason"] ["rules"] (defScope sLengthsChecked) := ⟨rfl, rfl, rfl, by decide +kernel, rfl, by decide +kernel, by decide +kernel⟩
theorem ok_lengths_checked {f : Addr} {fd : FuncData} (F : Fun K "lengths_checked" "lengths_checked" sLengthsChecked f fd) (hm : mg "lengths_checked" = some (.ref f)) (b : Binds K fd ["rules"] []) (T : Txt mg) (GFo : Cal P w K mg base 2 "fault_of" spFaultOf []) (GLm : Cal P w K mg base 1 "length_made" spLengthMade []) : Cal P w K mg base 3 "lengths_checked" spLengthsC [] := by
  refine mkCal F hm b scLc (fun vs H Q E h => ?_) (fun cdv A outer s H vs Q E hr h => ?_)
  · obtain ⟨R, as, rs, ts, rfl, _⟩ := h
    rfl
  obtain ⟨R, as, rs, ts, rfl, hR, hT, snd, h1, h60, q⟩ := h
  refine ⟨_, (pss_cons (ps_if (pt_not (pt_chain op_le op_le pe_int (pe_callB call_len_seq (by rfl) T.len PySem.boot_len (pa_cons (pv 0) pa_nil)) (C8.pe_gc (by rfl) T.MOST_RULES))) (pss_one ps_never) pss_nil)
    (pss_cons (ps_set (i := 1) scLc.nd rfl (.inl rfl) (pe_lst pa_nil))
    (pss_cons (ps_for PassesOwn.never rfl (PI.or (pi_enum (by rfl) T.enumerate (pa_cons (pv 0) pa_nil)) (pi_enumT (by rfl) T.enumerate (pa_cons (pv 0) pa_nil))) (pg_tup rfl (pgs_cons (pg_name (i := 2) scLc.nd rfl (.inl rfl)) (pgs_cons (pg_name (i := 3) scLc.nd rfl (.inl rfl)) pgs_nil))) (pss_cons (ps_set (i := 4) scLc.nd rfl (.inl rfl) (pe_c GFo hr (by decide) (by rfl) (pa_cons (pv 3) (pa_cons (pv 1) pa_nil))))
    (pss_cons (ps_if (pt_cmpR op_notN (pv 4) pe_non (nomark _)) (pss_one ps_never) pss_nil)
    (pss_one (ps_expr (pe_bm PySem.F.plainAttrs_list PySem.F.slot_list_append PySem.F.type_list_append mt_append (pv 1) (pa_cons (pe_c GLm hr (by decide) (by rfl) (pa_cons (pv 3) (pa_cons (pv 1) pa_nil))) pa_nil)))))))
    (pss_one (ps_ret (pe_callTy call_tuple_of (by rfl) T.tuple (by decide +kernel) (pa_cons (pv 1) pa_nil))))))), ?_⟩
  have eal : (as.map V.ref).length = ts.length := by rw [List.length_map, hT.1, List.length_map, snd.len]
  have h1' : 1 ≤ ts.length := by rw [snd.len]; exact h1
  have h60' : ts.length ≤ 60 := by rw [snd.len]; exact h60
  refine ⟨_, rfl, R, _, rfl, hR.sq, _, _, rfl, rfl, _, rfl, ifT (decide_eq_true (by rw [eal]; omega)) ⟨_, _, rfl, rfl, _, rfl, ifF ?_ ?_⟩⟩
  · rw [decide_eq_true (by rw [eal]; omega)]
    rfl
  refine ⟨Nat.zero_le _, fun L nL => ?_⟩
  have sL := same_new (o := .lst []) nL
  -- one turn
  have at_ : ∀ i, i < ts.length → ∃ (r : Rule) (a : Addr), rs[i]? = some r ∧ (as.map V.ref)[i]? = some (.ref a) ∧ RA H a r.vals := by
    intro i hi
    obtain ⟨r, er⟩ := snd.rule hi
    obtain ⟨a, ea, ha⟩ := hT.2 i r.vals (by rw [List.getElem?_map, er]; rfl)
    exact ⟨r, a, er, by rw [List.getElem?_map, ea]; rfl, ha⟩
  have put : ∀ (i : Nat) (H5 : Hp) (r : Rule), i < ts.length → rs[i]? = some r → Same H H5 → H5 L = some (.lst ((ts.take i).map lenV)) → ∃ l xs v, V.ref L = .ref l ∧ [V.int ((made (ts.take i) r).length : Int)] = [v] ∧ H5 l = some (.lst xs) ∧ xs.length < sizeLine ∧
      (Same H (upd H5 l (.lst (xs ++ [v]))) ∧ (upd H5 l (.lst (xs ++ [v]))) L = some (.lst ((ts.take (i + 1)).map lenV))) := by
    intro i H5 r hi er s5 hL
    refine ⟨L, _, _, rfl, rfl, hL, by rw [List.length_map, List.length_take]; exact small1000 (by omega), fun c o hc => ?_, ?_⟩
    · rw [upd_ne (ne_of_none hc nL)]
      exact s5 _ _ hc
    · rw [upd_same, take_succ_tx hi, List.map_append, ← snd.tx er]
      rfl
  have lens : ∀ i, ∀ l ∈ ts.take i, l.length ≤ 1000000000000 := fun i l hl => snd.le l (List.mem_of_mem_take hl)
  rcases hR with hR | hR
  · refine .inr ⟨_, rfl, R, _, rfl, SqT.of (sL _ _ hR), ?_⟩
    refine ⟨fun i m σ H' => i + m = ts.length ∧ (∃ v2 v3 v4 : Option V, σ = [some (.ref R), some (.ref L), v2, v3, v4]) ∧ Same H H' ∧ H' L = some (.lst ((ts.take i).map lenV)), ⟨ts.length, by omega, ⟨none, none, none, rfl⟩, sL, upd_same⟩, ?_⟩
    rintro i m σ H1 ⟨him, ⟨v2, v3, v4, rfl⟩, s1, hL⟩
    have hR1 := s1 _ _ hR
    by_cases hi : i < ts.length
    · obtain ⟨r, a, er, ea, ha⟩ := at_ i hi
      refine .inr ⟨⟨_, _, SqT.of hR1, ea⟩, fun σ' H' => (∃ v2 v3 v4 : Option V, σ' = [some (.ref R), some (.ref L), v2, v3, v4]) ∧ Same H H' ∧ H' L = some (.lst ((ts.take (i + 1)).map lenV)), fun σ' H' h => ⟨m - 1, by omega, by omega, h⟩, ?_⟩
      rintro x H' ⟨t, y, rfl, nt, rfl, hy⟩
      have ey : y = .ref a := Option.some.inj ((hy _ (SqT.of hR1)).symm.trans ea)
      subst ey
      have st := same_new (o := .tup [.int (i : Nat), .ref a]) nt
      refine ⟨t, _, rfl, SqT.of upd_same, rfl, _, _, rfl, _, _, rfl, rfl, ?_⟩
      have o := (snd.ok i r er).1
      have hbig : (made (ts.take i) r).length ≤ 1000000000000 := by rw [← snd.tx er]; exact snd.big hi
      refine ⟨_, rfl, _, rfl, a, L, ts.take i, r, rfl, ha.same (s1.trans st), st _ _ hL, o, lens i, hbig, by rw [List.length_take]; omega, fun H2 s2 => ?_⟩
      have s12 := (s1.trans st).trans s2
      have hL2 := s2 _ _ (st _ _ hL)
      refine ⟨_, rfl, rfl, _, rfl, ifF rfl ?_⟩
      refine ⟨_, rfl, .inl ⟨rfl, _, SqL.of hL2⟩, _, rfl, _, rfl, a, L, ts.take i, r, rfl, ha.same s12, hL2, o, lens i, ?_⟩
      obtain ⟨l, xs, v, e1, e2, e3, e4, e5, e6⟩ := put i H2 r hi er s12 hL2
      exact ⟨l, xs, v, e1, e2, e3, e4, ⟨_, _, _, rfl⟩, e5, e6⟩
    · refine .inl ⟨⟨_, SqT.of hR1, by rw [eal]; omega⟩, ?_⟩
      have ei : i = ts.length := by omega
      rw [ei, List.take_length] at hL
      exact ⟨_, rfl, L, _, rfl, .inl ⟨SqL.of hL, fun t nt => q t _ (s1.trans (same_new nt)) upd_same⟩⟩
  · refine .inl ⟨_, rfl, R, _, rfl, SqL.of (sL _ _ hR), ?_⟩
    refine ⟨fun i m σ H' => i + m = ts.length ∧ (∃ v2 v3 v4 : Option V, σ = [some (.ref R), some (.ref L), v2, v3, v4]) ∧ Same H H' ∧ H' L = some (.lst ((ts.take i).map lenV)), ⟨ts.length, by omega, ⟨none, none, none, rfl⟩, sL, upd_same⟩, ?_⟩
    rintro i m σ H1 ⟨him, ⟨v2, v3, v4, rfl⟩, s1, hL⟩
    have hR1 := s1 _ _ hR
    by_cases hi : i < ts.length
    · obtain ⟨r, a, er, ea, ha⟩ := at_ i hi
      refine .inr ⟨⟨_, _, SqL.of hR1, ea⟩, fun σ' H' => (∃ v2 v3 v4 : Option V, σ' = [some (.ref R), some (.ref L), v2, v3, v4]) ∧ Same H H' ∧ H' L = some (.lst ((ts.take (i + 1)).map lenV)), fun σ' H' h => ⟨m - 1, by omega, by omega, h⟩, ?_⟩
      rintro x H' ⟨t, y, rfl, nt, rfl, hy⟩
      have ey : y = .ref a := Option.some.inj ((hy _ (SqL.of hR1)).symm.trans ea)
      subst ey
      have st := same_new (o := .tup [.int (i : Nat), .ref a]) nt
      refine ⟨t, _, rfl, SqT.of upd_same, rfl, _, _, rfl, _, _, rfl, rfl, ?_⟩
      have o := (snd.ok i r er).1
      have hbig : (made (ts.take i) r).length ≤ 1000000000000 := by rw [← snd.tx er]; exact snd.big hi
      refine ⟨_, rfl, _, rfl, a, L, ts.take i, r, rfl, ha.same (s1.trans st), st _ _ hL, o, lens i, hbig, by rw [List.length_take]; omega, fun H2 s2 => ?_⟩
      have s12 := (s1.trans st).trans s2
      have hL2 := s2 _ _ (st _ _ hL)
      refine ⟨_, rfl, rfl, _, rfl, ifF rfl ?_⟩
      refine ⟨_, rfl, .inl ⟨rfl, _, SqL.of hL2⟩, _, rfl, _, rfl, a, L, ts.take i, r, rfl, ha.same s12, hL2, o, lens i, ?_⟩
      obtain ⟨l, xs, v, e1, e2, e3, e4, e5, e6⟩ := put i H2 r hi er s12 hL2
      exact ⟨l, xs, v, e1, e2, e3, e4, ⟨_, _, _, rfl⟩, e5, e6⟩
    · refine .inl ⟨⟨_, SqL.of hR1, by rw [eal]; omega⟩, ?_⟩
      have ei : i = ts.length := by omega
      rw [ei, List.take_length] at hL
      exact ⟨_, rfl, L, _, rfl, .inl ⟨SqL.of hL, fun t nt => q t _ (s1.trans (same_new nt)) upd_same⟩⟩
/-! ### Text.__init__ -/
theorem f_ge : ¬ (("lengths" : Str) = "length") := by decide +kernel
theorem f_rg : ¬ (("rules" : Str) = "length") := by decide +kernel
theorem f_re : ¬ (("rules" : Str) = "lengths") := by decide +kernel
theorem f_eg : ¬ (("length" : Str) = "lengths") := by decide +kernel
theorem f_gr : ¬ (("length" : Str) = "rules") := by decide +kernel
theorem f_er : ¬ (("lengths" : Str) = "rules") := by decide +kernel
theorem last_len {ts : List (List Nat)} (h : 1 ≤ ts.length) : atI (ts.map lenV) (-1) = some (.int ((tx ts (ts.length - 1)).length : Int)) := by
  have e : ts = ts.take (ts.length - 1) ++ [tx ts (ts.length - 1)] := by
    rw [← take_succ_tx (by omega), Nat.sub_add_cancel h, List.take_length]
  have e2 : ts.map lenV = (ts.take (ts.length - 1)).map lenV ++ [lenV (tx ts (ts.length - 1))] := by
    rw [← List.map_singleton, ← List.map_append, ← e]
  rw [e2]
  exact atI_last _ _
def tF (LE RU : Addr) (n : Int) : List (Str × V) := putF "rules" (.ref RU) (putF "length" (.int n) (putF "lengths" (.ref LE) []))
def spInit (C : Addr) : Sp := fun vs H Q _ => ∃ (x dx R : Addr) (as : List Addr) (rs : List Rule) (ts : List (List Nat)), vs = [.ref x, .ref R] ∧ H x = some (.ins C dx []) ∧ RA H R (as.map V.ref) ∧ RL H as (rs.map Rule.vals) ∧ Sound rs ts ∧ 1 ≤ rs.length ∧ rs.length ≤ 60 ∧
  ∀ (LE RU : Addr) (as' : List Addr) (H' : Hp), (∀ b o, b ≠ x → H b = some o → H' b = some o) → H' x = some (.ins C dx (tF LE RU ((tx ts (ts.length - 1)).length : Int))) → H' RU = some (.tup (as'.map V.ref)) → H' LE = some (.tup (ts.map lenV)) → LT H' as' (rs.map Rule.vals) → Q .non H'
theorem scIn : FnScope ["self", "rules"] ["self", "rules"] (defScope sInit) := ⟨rfl, rfl, rfl, by decide +kernel, rfl, by decide +kernel, by decide +kernel⟩
theorem ok_init {C f : Addr} {fd : FuncData} (F : Fun K "__init__" "Text.__init__" sInit f fd) (T : Txt mg) (D : Cl K C) (GLc : Cal P w K mg base 3 "lengths_checked" spLengthsC []) (GCo : Cal P w K mg base 1 "copied" spCopied []) : FnOk P w K mg base CX0 4 f fd ["self", "rules"] (spInit C) := by
  refine F.ok scIn (fun vs H Q E h => ?_) (fun cdv A outer s H vs Q E hr h => ?_)
  · obtain ⟨x, dx, R, as, rs, ts, rfl, _⟩ := h
    rfl
  obtain ⟨x, dx, R, as, rs, ts, rfl, hx, hR, hT, snd, h1, h60, q⟩ := h
  refine ⟨_, (pss_cons (ps_fld (pv 0) (pe_c GLc hr (by decide) (by rfl) (pa_cons (pv 1) pa_nil)) rfl)
    (pss_cons (ps_fld (pv 0) (pe_ix ix_tup (pe_fld (pv 0) rfl) (pe_un un_neg pe_int) (fun _ _ => rfl)) rfl)
    (pss_one (ps_fld (pv 0) (pe_c GCo hr (by decide) (by rfl) (pa_cons (pv 1) pa_nil)) rfl)))), ?_⟩
  have h1' : 1 ≤ ts.length := by rw [snd.len]; exact h1
  refine ⟨_, rfl, R, as, rs, ts, rfl, hR, hT, snd, h1, h60, fun LE H1 s1 hLE => ?_⟩
  refine ⟨_, rfl, x, C, dx, [], rfl, s1 _ _ hx, D.cl, D.nE, (by show 0 < 1000; decide), ?_⟩
  have hLEx : LE ≠ x := ne_of hLE (s1 _ _ hx) (by intro z; cases z)
  refine ⟨_, rfl, x, C, dx, _, .ref LE, rfl, upd_same, D.cl, D.nE, by rw [lookup_putF, if_pos rfl], 1, rfl, LE, _, -1, _, rfl, rfl, SqT.of (by rw [upd_ne hLEx]; exact hLE), last_len h1', ?_⟩
  refine ⟨_, rfl, x, C, dx, _, rfl, upd_same, D.cl, D.nN, (by show 1 < 1000; decide), ?_⟩
  -- copied
  have hRx : R ≠ x := by
    rcases hR with h | h
    · exact ne_of h hx (by intro z; cases z)
    · exact ne_of h hx (by intro z; cases z)
  rw [upd_upd]
  generalize hfs : putF ("length" : Str) (V.int ((tx ts (ts.length - 1)).length : Int)) (putF "lengths" (.ref LE) []) = fs2
  have keep : ∀ b o, b ≠ x → H b = some o → (upd H1 x (.ins C dx fs2)) b = some o := fun b o hb e => by rw [upd_ne hb]; exact s1 _ _ e
  have hR2 : RA (upd H1 x (.ins C dx fs2)) R (as.map V.ref) := hR.elim (fun h => .inl (keep _ _ hRx h)) fun h => .inr (keep _ _ hRx h)
  have hT2 : RL (upd H1 x (.ins C dx fs2)) as (rs.map Rule.vals) := ⟨hT.1, fun k vs e => by
    obtain ⟨a, e1, e2⟩ := hT.2 k vs e
    refine ⟨a, e1, ?_⟩
    rcases e2 with h | h
    · exact .inl (keep _ _ (ne_of h hx (by intro z; cases z)) h)
    · exact .inr (keep _ _ (ne_of h hx (by intro z; cases z)) h)⟩
  refine ⟨_, rfl, R, as, rs.map Rule.vals, rfl, hR2, hT2.1, hT2.2, by rw [List.length_map]; omega, fun RU as' H3 s3 hRU hL3 => ?_⟩
  have hx3 := s3 _ _ (upd_same : (upd H1 x (.ins C dx fs2)) x = some (.ins C dx fs2))
  have hLE3 := s3 LE _ (by rw [upd_ne hLEx]; exact hLE)
  have hRUx : RU ≠ x := ne_of hRU hx3 (by intro z; cases z)
  refine ⟨_, rfl, x, C, dx, _, rfl, hx3, D.cl, D.nR, (by rw [← hfs]; show 2 < 1000; decide), ?_⟩
  refine q LE RU as' _ (fun b o hb e => by rw [upd_ne hb]; exact s3 _ _ (keep b o hb e)) ?_ (by rw [upd_ne hRUx]; exact hRU) (by rw [upd_ne hLEx]; exact hLE3) ?_
  · rw [upd_same, ← hfs]
    rfl
  · exact ⟨hL3.1, fun k vs e => by
      obtain ⟨a, e1, e2⟩ := hL3.2 k vs e
      exact ⟨a, e1, by rw [upd_ne (ne_of e2 hx3 (by intro z; cases z))]; exact e2⟩⟩
theorem tF_rules (LE RU : Addr) (n : Int) : (tF LE RU n).lookup ("rules" : Str) = some (.ref RU) := by
  unfold tF
  rw [lookup_putF, if_pos rfl]
theorem tF_length (LE RU : Addr) (n : Int) : (tF LE RU n).lookup ("length" : Str) = some (.int n) := by
  unfold tF
  rw [lookup_putF, if_neg f_gr, lookup_putF, if_pos rfl]
theorem tF_lengths (LE RU : Addr) (n : Int) : (tF LE RU n).lookup ("lengths" : Str) = some (.ref LE) := by
  unfold tF
  rw [lookup_putF, if_neg f_er, lookup_putF, if_neg f_ge, lookup_putF, if_pos rfl]
theorem tF_none (LE RU : Addr) (n : Int) {m : Str} (h1 : ¬ m = "rules") (h2 : ¬ m = "length") (h3 : ¬ m = "lengths") : (tF LE RU n).lookup m = none := by
  unfold tF
  rw [lookup_putF, if_neg h1, lookup_putF, if_neg h2, lookup_putF, if_neg h3]
  rfl
/-- what __init__ leaves is the text -/
theorem tF_text {C x dx LE RU : Addr} {as : List Addr} {rs : List Rule} {ts : List (List Nat)} {H : Hp} (hx : H x = some (.ins C dx (tF LE RU ((tx ts (ts.length - 1)).length : Int)))) (hRU : H RU = some (.tup (as.map V.ref))) (hLE : H LE = some (.tup (ts.map lenV)))
    (hT : LT H as (rs.map Rule.vals)) (s : Sound rs ts) : TextIs C H x rs ts dx RU LE (tF LE RU ((tx ts (ts.length - 1)).length : Int)) as :=
  ⟨hx, tF_rules _ _ _, tF_lengths _ _ _, tF_length _ _ _, tF_none _ _ _ (by decide +kernel) (by decide +kernel) (by decide +kernel), tF_none _ _ _ (by decide +kernel) (by decide +kernel) (by decide +kernel), hRU, hLE, hT, s⟩
end
/-! ### range with a step -/
def upN (a b c : Int) : Nat := if a < b then ((b - a - 1) / c + 1).toNat else 0
theorem rg_up {a b c : Int} (h0 : 0 ≤ a) (hb : 0 ≤ b) (ha' : a < 2 ^ 62) (hb' : b < 2 ^ 62) (hc : 0 < c) (hc' : c < 1073741824) : RgC a b c (upN a b c) := by
  have e : Builtin.Range.rangeSize a b c = ((upN a b c : Nat) : Int) := by
    unfold Builtin.Range.rangeSize upN
    rw [if_pos hc]
    split
    · have h1 : 0 ≤ (b - a - 1) / c := Int.ediv_nonneg (by omega) (by omega)
      omega
    · rfl
  have hn : ((upN a b c : Nat) : Int) ≤ 2 ^ 62 := by
    unfold upN
    split
    · have h1 : 0 ≤ (b - a - 1) / c := Int.ediv_nonneg (by omega) (by omega)
      have h2 : (b - a - 1) / c ≤ b - a - 1 := Int.ediv_le_self _ (by omega)
      omega
    · decide
  refine ⟨by omega, by omega, ?_, e⟩
  unfold Builtin.Range.small
  rw [e]
  simp only [Builtin.Range.rangeFitsLong, Bool.and_eq_true, Bool.or_eq_true, decide_eq_true_eq, beq_iff_eq]
  rw [if_pos hc]
  simp only [decide_eq_true_eq, Bool.and_eq_true]
  refine ⟨⟨⟨⟨?_, ?_⟩, ?_⟩, ?_⟩, .inr ?_⟩ <;> omega
theorem up_lt {b c : Int} {i : Nat} (hc : 0 < c) (hi : i < upN 0 b c) : (0 : Int) + (i : Int) * c < b := by
  unfold upN at hi
  split at hi
  · have h1 : (i : Int) ≤ (b - 0 - 1) / c := by omega
    have h2 : (i : Int) * c ≤ (b - 0 - 1) / c * c := Int.mul_le_mul_of_nonneg_right h1 (Int.le_of_lt hc)
    have h3 : (b - 0 - 1) / c * c ≤ b - 0 - 1 := Int.ediv_mul_le _ (by omega)
    omega
  · omega
/-! ### cls(..), the class in a slot -/
def tMakeL (i : Nat) (C : Addr) (sp : Sp) (E : XK) (t : TA) : TE := fun σ H Q => σ[i]? = some (some (.ref C)) ∧ t σ H fun vs H1 => ∀ x dx, H1 x = none → H1 dx = none → dx ≠ x → sp (.ref x :: vs) (upd (upd H1 dx (.own x)) x (.ins C dx [])) (fun v H2 => v = .non ∧ Q (.ref x) H2) E
theorem pe_makeL {X : Cx} {CX : CXT} {k i : Nat} {f C : Addr} {fd : FuncData} {ps : List Str} {sp : Sp} {E : XK} {x : Str} {p pos : Pos} {e : Expr} {es : List Expr} {t : TA} (M : Mk X.K C f) (F : FnOk X.prog X.w X.K X.mg X.base CX k f fd ps sp) (hr : Room (k + 1) X.A) (hN : X.N[i]? = some x) (hv : Vis X.env.scope x)
    (hb : Binds X.K fd ps []) (hx : Passes CX X E) (ha : PA X (e :: es) t) (hdb : (x == ("__debug__" : Str)) = false := by decide) (hcd : (x == ("__classdict__" : Str)) = false := by decide)
    (he : starEach (e :: es) X.env = (false, eval e X.env) :: starEach es X.env := by rfl) (hpl : (backTo pos (starEach es X.env)).any (·.1) = false := by rfl) : PE X (.Call (.Name x p) (e :: es) [] pos) (tMakeL i C sp E t) where
  run := by
    rintro pins s σ H Q inv ⟨hs, ht⟩
    have ld := (pe_var (pos := p) hN hv hdb hcd).run pins s σ H (fun v H1 => v = .ref C ∧ H1 = H) inv ⟨_, hs, rfl, rfl⟩
    refine wpAny_Call_Name_kw (thn ld ?_)
    rintro u s1 ⟨_, _, inv1, rel, rfl, rfl⟩
    obtain rfl : u = .ref C := rel
    refine PySem.W.callWith_K (h₀ := X.base) inv1.ok.mod.kin M.kp (thn (ha.run pos pins s1 σ _ _ inv1 ht) ?_) he hpl
    rintro us s2 ⟨vs, H2, inv2, rv, q⟩
    refine ⟨inv2.kIn, run_make (dvs := []) M F hr hb .nil hx inv2 rv fun y dy ny ndy ne => ?_⟩
    rw [List.append_nil]
    exact q y dy ny ndy ne
theorem tF_eq (LE RU : Addr) (n : Int) : tF LE RU n = ([(("lengths" : Str), V.ref LE), (("length" : Str), V.int n), (("rules" : Str), V.ref RU)] : List (Str × V)) := by
  unfold tF
  have e1 : putF ("length" : Str) (V.int n) (putF "lengths" (.ref LE) []) = ([(("lengths" : Str), V.ref LE), (("length" : Str), V.int n)] : List (Str × V)) := by
    show (if ("lengths" : Str) = "length" then _ else (("lengths" : Str), V.ref LE) :: putF "length" (V.int n) []) = _
    rw [if_neg f_ge]
    rfl
  rw [e1]
  show (if ("lengths" : Str) = "rules" then _ else (("lengths" : Str), V.ref LE) :: (if ("length" : Str) = "rules" then _ else (("length" : Str), V.int n) :: putF "rules" (V.ref RU) [])) = _
  rw [if_neg f_er, if_neg f_gr]
  rfl
theorem tF_putR (LE RU R2 : Addr) (n : Int) : putF "rules" (.ref R2) (tF LE RU n) = tF LE R2 n := by
  rw [tF_eq, tF_eq]
  show (if ("lengths" : Str) = "rules" then _ else (("lengths" : Str), V.ref LE) :: (if ("length" : Str) = "rules" then _ else (("length" : Str), V.int n) :: (if ("rules" : Str) = "rules" then [(("rules" : Str), V.ref R2)] else _))) = _
  rw [if_neg f_er, if_neg f_gr, if_pos rfl]
theorem tF_putE (LE L2' RU : Addr) (n : Int) : putF "lengths" (.ref L2') (tF LE RU n) = tF L2' RU n := by
  rw [tF_eq, tF_eq]
  show (if ("lengths" : Str) = "lengths" then (("lengths" : Str), V.ref L2') :: _ else _) = _
  rw [if_pos rfl]
theorem tF_putN (LE RU : Addr) (n n2 : Int) : putF "length" (.int n2) (tF LE RU n) = tF LE RU n2 := by
  rw [tF_eq, tF_eq]
  show (if ("lengths" : Str) = "length" then _ else (("lengths" : Str), V.ref LE) :: (if ("length" : Str) = "length" then (("length" : Str), V.int n2) :: _ else _)) = _
  rw [if_neg f_ge, if_pos rfl]
theorem tF_small (LE RU : Addr) (n : Int) : (tF LE RU n).length < 1000 := by rw [tF_eq]; show 3 < 1000; decide
theorem one_sound {l : List Nat} (h : l.length ≤ 64) (h2 : ∀ c ∈ l, c ∈ SL) : Sound [.letters l] [l] := by
  refine ⟨rfl, fun k r e => ?_, fun m hm => ?_⟩
  · cases k with
    | zero =>
      have er : Rule.letters l = r := Option.some.inj e
      subst er
      exact ⟨⟨h, h2⟩, rfl⟩
    | succ k => simp at e
  · rw [List.mem_singleton.mp hm]
    omega
section
variable {P : Program} {w : World} {K : PySem.W.Frag} {mg : Str → Option Value} {base : Heap}
/-! ### rules_of -/
structure LsAt (H : Hp) (D : Addr) (as : List Addr) (rs : List Rule) : Prop where
  at_ : H D = some (.lst (as.map V.ref))
  lt : LT H as (rs.map Rule.vals)
theorem LsAt.same {H H' : Hp} {D : Addr} {as : List Addr} {rs : List Rule} (h : LsAt H D as rs) (s : Same H H') : LsAt H' D as rs := ⟨s _ _ h.at_, h.lt.same s⟩
theorem LsAt.put {H : Hp} {D a : Addr} {as : List Addr} {rs : List Rule} {r : Rule} (h : LsAt H D as rs) (ha : H a = some (.tup r.vals)) : LsAt (upd H D (.lst (as.map V.ref ++ [.ref a]))) D (as ++ [a]) (rs ++ [r]) := by
  refine ⟨by rw [upd_same, List.map_append]; rfl, ?_⟩
  rw [List.map_append]
  exact (h.lt.add ha).updL h.at_
theorem LsAt.len {H : Hp} {D : Addr} {as : List Addr} {rs : List Rule} (h : LsAt H D as rs) : (as.map V.ref).length = rs.length := by rw [List.length_map, h.lt.1, List.length_map]
theorem Sound.more {rs : List Rule} {ts : List (List Nat)} {r : Rule} (s : Sound rs ts) (o : Ok ts r) (h : (made ts r).length ≤ 1000000000000) : Sound (rs ++ [r]) (ts ++ [made ts r]) := by
  refine ⟨by simp [s.len], fun k x e => ?_, fun l hl => ?_⟩
  · by_cases hk : k < rs.length
    · rw [List.getElem?_append_left hk] at e
      obtain ⟨h1, h2⟩ := s.ok k x e
      have hk' : k < ts.length := by rw [s.len]; exact hk
      rw [List.take_append_of_le_length (Nat.le_of_lt hk'), List.getElem?_append_left hk']
      exact ⟨h1, h2⟩
    · have hk2 : k = rs.length := by
        have := (List.getElem?_eq_some_iff.mp e).1
        simp at this
        omega
      subst hk2
      rw [List.getElem?_append_right (Nat.le_refl _), Nat.sub_self] at e
      have e' : r = x := Option.some.inj e
      subst e'
      rw [← s.len, List.take_append_of_le_length (Nat.le_refl _), List.take_length, List.getElem?_append_right (Nat.le_refl _), Nat.sub_self]
      exact ⟨o, rfl⟩
  · rcases List.mem_append.mp hl with hl | hl
    · exact s.le l hl
    · rw [List.mem_singleton.mp hl]
      exact h
theorem tx_snoc (ts : List (List Nat)) (l : List Nat) : tx (ts ++ [l]) ts.length = l := by
  unfold tx
  rw [List.getD_eq_getElem?_getD, List.getElem?_append_right (Nat.le_refl _), Nat.sub_self]
  rfl
theorem tx_front {ts : List (List Nat)} {l : List Nat} {i : Nat} (h : i < ts.length) : tx (ts ++ [l]) i = tx ts i := by
  unfold tx
  rw [List.getD_eq_getElem?_getD, List.getD_eq_getElem?_getD, List.getElem?_append_left h]
def spRulesOf : Sp := fun vs H Q _ => ∃ l : List Nat, vs = [.str (S l)] ∧ l.length ≤ 1000 ∧ (∀ c ∈ l, c ∈ SL) ∧ ∀ (D : Addr) (as : List Addr) (rs : List Rule) (ts : List (List Nat)) H', Same H H' → H D = none → LsAt H' D as rs → Sound rs ts → 1 ≤ rs.length → rs.length ≤ 33 → tx ts (ts.length - 1) = l → (l.length ≤ 64 → rs = [.letters l] ∧ ts = [l]) → Q (.ref D) H'
theorem scRo : FnScope ["letters", "rules", "start"] ["letters"] (defScope sRulesOf) := ⟨rfl, rfl, rfl, by decide +kernel, rfl, by decide +kernel, by decide +kernel⟩
theorem cut_first (l : List Nat) : cutS (S l) none (some 64) = S (l.take 64) := by
  unfold cutS
  rw [HT.sIx_none, show (some (64 : Int)) = some ((64 : Nat) : Int) from rfl, HT.sIx_nat, S_len, List.drop_zero, Nat.sub_zero]
  show S (l.take (min 64 l.length)) = S (l.take 64)
  by_cases h : 64 ≤ l.length
  · rw [Nat.min_eq_left h]
  · rw [Nat.min_eq_right (by omega), List.take_length, List.take_of_length_le (by omega)]
theorem cut_any {l : List Nat} {a b : Nat} (h : a ≤ b) : cutS (S l) (some (a : Int)) (some (b : Int)) = S ((l.take b).drop a) := by
  unfold cutS
  have e : (S l).length = l.length := S_len l
  rw [e, HT.sIx_nat, HT.sIx_nat]
  show S ((l.drop (min a l.length)).take (min b l.length - min a l.length)) = _
  congr 1
  by_cases h1 : b ≤ l.length
  · rw [Nat.min_eq_left h1, Nat.min_eq_left (by omega), List.drop_take]
  · rw [List.take_of_length_le (l := l) (i := b) (by omega), Nat.min_eq_right (by omega : l.length ≤ b)]
    by_cases h2 : a ≤ l.length
    · rw [Nat.min_eq_left h2]
      exact List.take_of_length_le (by rw [List.length_drop]; omega)
    · rw [Nat.min_eq_right (by omega), Nat.sub_self, List.take_zero, List.drop_eq_nil_of_le (by omega)]
theorem up64 {L : Nat} : ∀ {n : Nat}, n = upN 64 (L : Int) 64 → (∀ i, i < n → 64 + i * 64 < L) ∧ L ≤ 64 + n * 64 ∧ n ≤ L / 64 := by
  intro n hn
  unfold upN at hn
  split at hn
  · rename_i h
    refine ⟨fun i hi => ?_, ?_, ?_⟩ <;> omega
  · refine ⟨fun i hi => ?_, ?_, ?_⟩ <;> omega
theorem one_sound' {l : List Nat} (h : l.length ≤ 64) (h2 : ∀ c ∈ l, c ∈ SL) : Sound [.letters l] [l] := one_sound h h2
theorem ok_rules_of {f : Addr} {fd : FuncData} (F : Fun K "rules_of" "rules_of" sRulesOf f fd) (hm : mg "rules_of" = some (.ref f)) (b : Binds K fd ["letters"] []) (T : Txt mg) : Cal P w K mg base 1 "rules_of" spRulesOf [] := by
  refine mkCal F hm b scRo (fun vs H Q E h => ?_) (fun cdv A outer s H vs Q E hr h => ?_)
  · obtain ⟨l, rfl, _⟩ := h
    rfl
  obtain ⟨l, rfl, hl, hin, q⟩ := h
  refine ⟨_, (pss_cons (ps_set (i := 1) scRo.nd rfl (.inl rfl) (pe_lst (pa_cons (pe_tup (pa_cons pe_str (pa_cons (pe_slice sl_str (pv 0) po_none (po_some (C8.pe_gc (by rfl) T.MOST_TOLD))) pa_nil))) pa_nil)))
    (pss_cons (ps_for PassesOwn.never rfl (pi_range3 (by rfl) T.range (pa_cons (C8.pe_gc (by rfl) T.MOST_TOLD) (pa_cons (pe_callB call_len_str (by rfl) T.len PySem.boot_len (pa_cons (pv 0) pa_nil)) (pa_cons (C8.pe_gc (by rfl) T.MOST_TOLD) pa_nil)))) (pg_name (i := 2) scRo.nd rfl (.inl rfl)) (pss_cons (ps_expr (pe_bm PySem.F.plainAttrs_list PySem.F.slot_list_append PySem.F.type_list_append mt_append (pv 1) (pa_cons (pe_tup (pa_cons pe_str (pa_cons (pe_slice sl_str (pv 0) (po_some (pv 2)) (po_some (pe_op op_add (pv 2) (C8.pe_gc (by rfl) T.MOST_TOLD)))) pa_nil))) pa_nil)))
    (pss_one (ps_expr (pe_bm PySem.F.plainAttrs_list PySem.F.slot_list_append PySem.F.type_list_append mt_append (pv 1) (pa_cons (pe_tup (pa_cons pe_str (pa_cons (pe_op op_sub (pe_callB call_len_seq (by rfl) T.len PySem.boot_len (pa_cons (pv 1) pa_nil)) pe_int) (pa_cons (pe_op op_sub (pe_callB call_len_seq (by rfl) T.len PySem.boot_len (pa_cons (pv 1) pa_nil)) pe_int) pa_nil)))) pa_nil))))))
    (pss_one (ps_ret (pv 1))))), ?_⟩
  have sl : (S l).length ≤ sizeLine := Sz (by omega)
  refine ⟨_, rfl, 64, rfl, S l, rfl, sl, by show 2 ≤ sizeLine; decide, fun a na => ⟨by show 1 ≤ sizeLine; decide, fun D nD => ?_⟩⟩
  rw [cut_first] at nD ⊢
  have s0 := same_new (o := .tup [.str "letters", .str (S (l.take 64))]) na
  have nD0 : H D = none := Same.free s0 nD
  have s1 := s0.trans (same_new (o := .lst [.ref a]) nD)
  have h0 : LsAt (upd (upd H a (.tup [.str "letters", .str (S (l.take 64))])) D (.lst [.ref a])) D [a] [.letters (l.take 64)] := by
    refine ⟨upd_same, rfl, fun k vs e => ?_⟩
    cases k with
    | zero =>
      have ev : (Rule.letters (l.take 64)).vals = vs := Option.some.inj e
      subst ev
      exact ⟨a, rfl, by rw [upd_ne (ne_of_none upd_same nD)]; exact upd_same⟩
    | succ k => simp at e
  have snd0 : Sound [.letters (l.take 64)] [l.take 64] := one_sound (by rw [List.length_take]; omega) (fun c hc => hin c (List.mem_of_mem_take hc))
  obtain ⟨u1, u2, u3⟩ := up64 (L := l.length) rfl
  refine ⟨_, rfl, S l, rfl, sl, 64, _, 64, _, rfl, rg_up (a := 64) (b := (((S l).length : Nat) : Int)) (c := 64) (by decide) (by omega) (by decide) (by rw [S_len]; omega) (by decide) (by decide), ?_⟩
  have eS : ((S l).length : Int) = (l.length : Int) := by rw [S_len]
  rw [eS]
  generalize hn : upN 64 (l.length : Int) 64 = n at u1 u2 u3
  generalize upd (upd H a (.tup [.str "letters", .str (S (l.take 64))])) D (.lst [.ref a]) = H1 at h0 s1 ⊢
  refine for_rangeC (lo := 64) (c := 64) (n := n) (fun i σ H' => ∃ (as : List Addr) (rs : List Rule) (ts : List (List Nat)) (v2 : Option V), σ = [some (.str (S l)), some (.ref D), v2] ∧ Same H H' ∧ LsAt H' D as rs ∧ Sound rs ts ∧ rs.length = 2 * i + 1 ∧ tx ts (ts.length - 1) = l.take (64 + 64 * i) ∧ (i = 0 → rs = [.letters (l.take 64)] ∧ ts = [l.take 64]))
    ⟨[a], _, _, none, rfl, s1, h0, snd0, rfl, rfl, fun _ => ⟨rfl, rfl⟩⟩ ?_ ?_
  · rintro i σ H2 hi ⟨as, rs, ts, v2, rfl, s2, hA, snd, el, et, _⟩
    have hi2 := u1 i hi
    have tl := snd.len
    refine ⟨_, rfl, .inl ⟨rfl, _, SqL.of hA.at_⟩, _, rfl, _, rfl, _, rfl, _, rfl, _, _, rfl, rfl, _, rfl, S l, rfl, sl, by show 2 ≤ sizeLine; decide, fun b nb => ?_⟩
    have ec : ((64 : Int) + (i : Int) * 64) = ((64 + i * 64 : Nat) : Int) := by omega
    have ec2 : ((64 : Int) + (i : Int) * 64 + 64) = ((64 + i * 64 + 64 : Nat) : Int) := by omega
    rw [ec2, ec, cut_any (by omega)]
    generalize hz : (l.take (64 + i * 64 + 64)).drop (64 + i * 64) = z
    have zl : z.length ≤ 64 := by rw [← hz, List.length_drop, List.length_take]; omega
    have zin : ∀ c ∈ z, c ∈ SL := fun c hc => hin c (List.mem_of_mem_take (List.mem_of_mem_drop (by rw [hz]; exact hc)))
    have sb := same_new (o := .tup [.str "letters", .str (S z)]) nb
    have hA1 := hA.same sb
    have hb1 : (upd H2 b (.tup [.str "letters", .str (S z)])) b = some (.tup (Rule.letters z).vals) := upd_same
    have len1 : (as.map V.ref).length = rs.length := hA.len
    refine ⟨D, _, _, rfl, rfl, hA1.at_, by rw [len1]; exact small1000 (by omega), ?_⟩
    have hA2 := hA1.put hb1
    have snd1 : Sound (rs ++ [.letters z]) (ts ++ [z]) := snd.more (r := .letters z) ⟨zl, zin⟩ (by show z.length ≤ _; omega)
    have s3 : Same H (upd (upd H2 b (.tup [.str "letters", .str (S z)])) D (.lst (as.map V.ref ++ [.ref b]))) := fun c o hc => by rw [upd_ne (ne_of_none hc nD0)]; exact sb _ _ (s2 _ _ hc)
    generalize upd (upd H2 b (.tup [.str "letters", .str (S z)])) D (.lst (as.map V.ref ++ [.ref b])) = H3 at hA2 s3 ⊢
    have len2 : ((as ++ [b]).map V.ref).length = rs.length + 1 := by rw [hA2.len, List.length_append]; rfl
    refine ⟨_, rfl, .inl ⟨rfl, _, SqL.of hA2.at_⟩, _, rfl, D, _, rfl, .inl (SqL.of hA2.at_), _, _, rfl, rfl, _, rfl, D, _, rfl, .inl (SqL.of hA2.at_), _, _, rfl, rfl, by show 3 ≤ sizeLine; decide, fun e ne => ?_⟩
    have ev : [V.str "join", V.int (((as ++ [b]).map V.ref).length - 2 : Int), V.int (((as ++ [b]).map V.ref).length - 1 : Int)] = (Rule.join (rs.length - 1) rs.length).vals := by
      rw [len2]
      show _ = [V.str "join", V.int ((rs.length - 1 : Nat) : Int), V.int (rs.length : Int)]
      congr 2
      · congr 1
        omega
      · congr 2
        omega
    have se := same_new (o := .tup [V.str "join", V.int (((as ++ [b]).map V.ref).length - 2 : Int), V.int (((as ++ [b]).map V.ref).length - 1 : Int)]) ne
    have hA3 := hA2.same se
    have he3 : (upd H3 e (.tup [V.str "join", V.int (((as ++ [b]).map V.ref).length - 2 : Int), V.int (((as ++ [b]).map V.ref).length - 1 : Int)])) e = some (.tup (Rule.join (rs.length - 1) rs.length).vals) := by rw [upd_same, ev]
    refine ⟨D, _, _, rfl, rfl, hA3.at_, by rw [len2]; exact small1000 (by omega), ?_⟩
    have t1 : (ts ++ [z]).length = rs.length + 1 := by rw [List.length_append, tl]; rfl
    have m1 : made (ts ++ [z]) (.join (rs.length - 1) rs.length) = l.take (64 + 64 * (i + 1)) := by
      show tx (ts ++ [z]) (rs.length - 1) ++ tx (ts ++ [z]) rs.length = _
      rw [tx_front (by omega), ← tl, tx_snoc, et, ← hz, show 64 + i * 64 + 64 = 64 + 64 * (i + 1) by omega, show 64 + i * 64 = 64 + 64 * i by omega]
      have h5 : l.take (64 + 64 * i) = (l.take (64 + 64 * (i + 1))).take (64 + 64 * i) := by rw [List.take_take, Nat.min_eq_left (by omega)]
      rw [h5, List.take_append_drop]
    refine ⟨(as ++ [b]) ++ [e], (rs ++ [.letters z]) ++ [.join (rs.length - 1) rs.length], (ts ++ [z]) ++ [made (ts ++ [z]) (.join (rs.length - 1) rs.length)], _, rfl, fun c o hc => by rw [upd_ne (ne_of_none hc nD0)]; exact se _ _ (s3 _ _ hc), hA3.put he3, snd1.more (r := .join (rs.length - 1) rs.length) ⟨by omega, by omega⟩ (by rw [m1, List.length_take]; omega), by simp; omega, ?_, fun h => by omega⟩
    rw [List.length_append, show ∀ (r : Rule), [made (ts ++ [z]) r].length = 1 from fun _ => rfl, Nat.add_sub_cancel, tx_snoc, m1]
  · rintro σ H2 ⟨as, rs, ts, v2, rfl, s2, hA, snd, el, et, e0⟩
    refine ⟨_, rfl, q D as rs ts H2 s2 nD0 hA snd (by omega) (by omega) (by rw [et, List.take_of_length_le (by omega)]) fun h64 => ?_⟩
    have n0 : n = 0 := by
      rcases Nat.eq_zero_or_pos n with h | h
      · exact h
      · have := u1 0 h
        omega
    have := e0 n0
    rwa [List.take_of_length_le h64] at this
/-! ### Text.made, Text.of_letters -/
def spTextMade (C : Addr) : Sp := fun vs H Q _ => ∃ (R : Addr) (as : List Addr) (rs : List Rule) (ts : List (List Nat)), vs = [.ref C, .ref R] ∧ RA H R (as.map V.ref) ∧ RL H as (rs.map Rule.vals) ∧ Sound rs ts ∧ 1 ≤ rs.length ∧ rs.length ≤ 1000 ∧
  ∀ (x : Addr) (H' : Hp), Same H H' → H x = none → TextAt C H' x rs ts → Q (.ref x) H'
theorem scTm : FnScope ["cls", "rules", "text"] ["cls", "rules"] (defScope sTextMade) := ⟨rfl, rfl, rfl, by decide +kernel, rfl, by decide +kernel, by decide +kernel⟩
theorem nil_sound : Sound [.letters []] [[]] := one_sound (by decide) (fun c h => by cases h)
theorem ok_text_made {C f fI : Addr} {fd fdI : FuncData} (F : Fun K "made" "Text.made" sTextMade f fd) (D : Cl K C) (M : Mk K C fI) (GI : FnOk P w K mg base CX0 4 fI fdI ["self", "rules"] (spInit C)) (bI : L2.Binds K fdI ["self", "rules"] [])
    (GCo : Cal P w K mg base 1 "copied" spCopied []) (GLu : Cal P w K mg base 2 "lengths_unchecked" spLengthsU []) : FnOk P w K mg base CX0 6 f fd ["cls", "rules"] (spTextMade C) := by
  refine F.ok scTm (fun vs H Q E h => ?_) (fun cdv A outer s H vs Q E hr h => ?_)
  · obtain ⟨R, as, rs, ts, rfl, _⟩ := h
    rfl
  obtain ⟨R, as, rs, ts, rfl, hR, hT, snd, h1, h1000, q⟩ := h
  refine ⟨_, (pss_cons (ps_set (i := 2) scTm.nd rfl (.inl rfl) (pe_makeL (i := 0) M GI hr rfl (.inl rfl) bI pass0 (pa_cons (pe_tup (pa_cons (pe_tup (pa_cons pe_str (pa_cons pe_str pa_nil))) pa_nil)) pa_nil)))
    (pss_cons (ps_fld (pv 2) (pe_c GCo hr (by decide) (by rfl) (pa_cons (pv 1) pa_nil)) rfl)
    (pss_cons (ps_fld (pv 2) (pe_c GLu hr (by decide) (by rfl) (pa_cons (pe_fld (pv 2) rfl) pa_nil)) rfl)
    (pss_cons (ps_fld (pv 2) (pe_ix ix_tup (pe_fld (pv 2) rfl) (pe_un un_neg pe_int) (fun _ _ => rfl)) rfl)
    (pss_one (ps_ret (pv 2))))))), ?_⟩
  have h1' : 1 ≤ ts.length := by rw [snd.len]; exact h1
  refine ⟨rfl, by show 2 ≤ sizeLine; decide, fun p1 n1 => ⟨by show 1 ≤ sizeLine; decide, fun p2 n2 => fun x dx nx ndx nex => ?_⟩⟩
  have n12 : p1 ≠ p2 := ne_of_none upd_same n2
  have s2 := (same_new (o := .tup [.str "letters", .str ""]) n1).trans (same_new (o := .tup [.ref p1]) n2)
  have h1p : (upd (upd H p1 (.tup [.str "letters", .str ""])) p2 (.tup [.ref p1])) p1 = some (.tup [.str "letters", .str ""]) := by rw [upd_ne n12]; exact upd_same
  have h2p : (upd (upd H p1 (.tup [.str "letters", .str ""])) p2 (.tup [.ref p1])) p2 = some (.tup [.ref p1]) := upd_same
  generalize upd (upd H p1 (.tup [.str "letters", .str ""])) p2 (.tup [.ref p1]) = H2 at s2 h1p h2p nx ndx ⊢
  have nxH : H x = Option.none := s2.free nx
  have keepI : ∀ b o, H2 b = some o → (upd (upd H2 dx (.own x)) x (.ins C dx [])) b = some o := fun b o e => by rw [upd_ne (ne_of_none e nx), upd_ne (ne_of_none e ndx)]; exact e
  refine ⟨x, dx, p2, [p1], [.letters []], [[]], rfl, upd_same, .inl (keepI _ _ h2p), ⟨rfl, fun k vs e => ?_⟩, nil_sound, by decide, by decide, fun LE RU as' H3 kp hx hRU hLE hL => ⟨rfl, ?_⟩⟩
  · cases k with
    | zero =>
      have ev : [V.str "letters", V.str (S [])] = vs := Option.some.inj e
      subst ev
      exact ⟨p1, rfl, .inl (by rw [← S_nil]; exact keepI _ _ h1p)⟩
    | succ k => simp at e
  obtain ⟨n0, hx⟩ : ∃ n0 : Int, H3 x = some (.ins C dx (tF LE RU n0)) := ⟨_, hx⟩
  have s3 : Same H H3 := fun b o e => kp b o (ne_of_none e nxH) (keepI _ _ (s2 _ _ e))
  refine ⟨_, rfl, R, as, rs.map Rule.vals, rfl, hR.same s3, hT.1, (hT.same s3).2, by rw [List.length_map]; exact h1000, fun RU2 as2 H4 s4 hRU2 hL4 => ?_⟩
  refine ⟨_, rfl, x, C, dx, _, rfl, s4 _ _ hx, D.cl, D.nR, tF_small _ _ _, ?_⟩
  rw [tF_putR]
  have hx4 := s4 _ _ hx
  have r2x : RU2 ≠ x := ne_of hRU2 hx4 (by intro z; cases z)
  have hR5 : (upd H4 x (.ins C dx (tF LE RU2 n0))) RU2 = some (.tup (as2.map V.ref)) := by rw [upd_ne r2x]; exact hRU2
  have hx5 : (upd H4 x (.ins C dx (tF LE RU2 n0))) x = some (.ins C dx (tF LE RU2 n0)) := upd_same
  have hL5 : LT (upd H4 x (.ins C dx (tF LE RU2 n0))) as2 (rs.map Rule.vals) := ⟨hL4.1, fun k vs e => by
    obtain ⟨a, e1, e2⟩ := hL4.2 k vs e
    exact ⟨a, e1, by rw [upd_ne (ne_of e2 hx4 (by intro z; cases z))]; exact e2⟩⟩
  have s5 : Same H (upd H4 x (.ins C dx (tF LE RU2 n0))) := fun b o e => by rw [upd_ne (ne_of_none e nxH)]; exact s4 _ _ (s3 _ _ e)
  generalize upd H4 x (.ins C dx (tF LE RU2 n0)) = H5 at hR5 hx5 hL5 s5 ⊢
  refine ⟨_, rfl, x, C, dx, _, _, rfl, hx5, D.cl, D.nR, tF_rules _ _ _, RU2, as2, rs, ts, rfl, hR5, hL5, snd, by rw [snd.len]; exact h1000, fun LE2 H6 s6 hLE2 => ?_⟩
  have hx6 := s6 _ _ hx5
  refine ⟨_, rfl, x, C, dx, _, rfl, hx6, D.cl, D.nE, tF_small _ _ _, ?_⟩
  rw [tF_putE]
  have e2x : LE2 ≠ x := ne_of hLE2 hx6 (by intro z; cases z)
  refine ⟨_, rfl, x, C, dx, _, _, rfl, upd_same, D.cl, D.nE, tF_lengths _ _ _, 1, rfl, LE2, _, -1, _, rfl, rfl, SqT.of (by rw [upd_ne e2x]; exact hLE2), last_len h1', ?_⟩
  refine ⟨_, rfl, x, C, dx, _, rfl, upd_same, D.cl, D.nN, tF_small _ _ _, ?_⟩
  rw [tF_putN, upd_upd]
  have hR6 := s6 _ _ hR5
  have r2x' : RU2 ≠ x := ne_of hR6 hx6 (by intro z; cases z)
  refine ⟨_, rfl, q x _ (fun b o e => ?_) nxH ⟨dx, RU2, LE2, _, as2, tF_text upd_same (by rw [upd_ne r2x']; exact hR6) (by rw [upd_ne e2x]; exact hLE2) ?_ snd⟩⟩
  · rw [upd_ne (ne_of_none e nxH)]
    exact s6 _ _ (s5 _ _ e)
  · have hL6 := hL5.same s6
    exact ⟨hL6.1, fun k vs e => by
      obtain ⟨a, e1, e2⟩ := hL6.2 k vs e
      exact ⟨a, e1, by rw [upd_ne (ne_of e2 hx6 (by intro z; cases z))]; exact e2⟩⟩
def spOfLetters (C : Addr) : Sp := fun vs H Q _ => ∃ l : List Nat, vs = [.ref C, .str (S l)] ∧ l.length ≤ 1000 ∧ (∀ c ∈ l, c ∈ SL) ∧ ∀ (x : Addr) (rs : List Rule) (ts : List (List Nat)) (H' : Hp), Same H H' → H x = none → TextAt C H' x rs ts → 1 ≤ rs.length → rs.length ≤ 33 → tx ts (ts.length - 1) = l → (l.length ≤ 64 → rs = [.letters l] ∧ ts = [l]) → Q (.ref x) H'
theorem scOl : FnScope ["cls", "letters", "rules"] ["cls", "letters"] (defScope sOfLetters) := ⟨rfl, rfl, rfl, by decide +kernel, rfl, by decide +kernel, by decide +kernel⟩
theorem ok_of_letters {C f fI : Addr} {fd fdI : FuncData} (F : Fun K "of_letters" "Text.of_letters" sOfLetters f fd) (T : Txt mg) (D : Cl K C) (M : Mk K C fI) (GI : FnOk P w K mg base CX0 4 fI fdI ["self", "rules"] (spInit C)) (bI : L2.Binds K fdI ["self", "rules"] [])
    (GRo : Cal P w K mg base 1 "rules_of" spRulesOf []) : FnOk P w K mg base CX0 6 f fd ["cls", "letters"] (spOfLetters C) := by
  refine F.ok scOl (fun vs H Q E h => ?_) (fun cdv A outer s H vs Q E hr h => ?_)
  · obtain ⟨l, rfl, _⟩ := h
    rfl
  obtain ⟨l, rfl, hl, hin, q⟩ := h
  refine ⟨_, (pss_cons (ps_set (i := 2) scOl.nd rfl (.inl rfl) (pe_c GRo hr (by decide) (by rfl) (pa_cons (pv 1) pa_nil)))
    (pss_cons (ps_if (pt_cmpR op_gt (pe_callB call_len_seq (by rfl) T.len PySem.boot_len (pa_cons (pv 2) pa_nil)) (C8.pe_gc (by rfl) T.MOST_RULES) (nomark _)) pss_never pss_nil)
    (pss_one (ps_ret (pe_makeL (i := 0) M GI hr rfl (.inl rfl) bI pass0 (pa_cons (pv 2) pa_nil)))))), ?_⟩
  refine ⟨_, rfl, l, rfl, hl, hin, fun R as rs ts H1 s1 nR hR snd h1 h33 el e64 => ?_⟩
  refine ⟨_, rfl, R, _, rfl, .inl (SqL.of hR.at_), _, _, rfl, rfl, _, rfl, ifF (decide_eq_false (by rw [hR.len]; omega)) ?_⟩
  refine ⟨rfl, _, rfl, fun x dx nx ndx nex => ?_⟩
  have nxH : H x = Option.none := s1.free nx
  have keepI : Same H1 (upd (upd H1 dx (.own x)) x (.ins C dx [])) := fun b o e => by rw [upd_ne (ne_of_none e nx), upd_ne (ne_of_none e ndx)]; exact e
  refine ⟨x, dx, R, as, rs, ts, rfl, upd_same, .inr (keepI _ _ hR.at_), (hR.lt.same keepI).rl, snd, h1, by omega, fun LE RU as' H3 kp hx hRU hLE hL => ⟨rfl, ?_⟩⟩
  exact q x rs ts H3 (fun b o e => kp b o (ne_of_none e nxH) (keepI _ _ (s1 _ _ e))) nxH ⟨dx, RU, LE, _, as', tF_text hx hRU hLE hL snd⟩ h1 h33 el e64
/-! ### letter, letters -/
def spLetter (C : Addr) : Sp := fun vs H Q _ => ∃ (x : Addr) (rs : List Rule) (ts : List (List Nat)) (k : Nat), vs = [.ref x, .int (k : Int)] ∧ TextAt C H x rs ts ∧ 0 < ts.length ∧ k < (tx ts (ts.length - 1)).length ∧ ∀ H', Same H H' → Q (.str (S (sub (tx ts (ts.length - 1)) k (k + 1)))) H'
theorem scLe : FnScope ["self", "place"] ["self", "place"] (defScope sLetter) := ⟨rfl, rfl, rfl, by decide +kernel, rfl, by decide +kernel, by decide +kernel⟩
theorem ok_letter {C f : Addr} {fd : FuncData} (F : Fun K "letter" "Text.letter" sLetter f fd) (D : Cl K C) (GSp : Cal P w K mg base 4 "spelled" (spSpelled C) []) : FnOk P w K mg base CX0 5 f fd ["self", "place"] (spLetter C) := by
  refine F.ok scLe (fun vs H Q E h => ?_) (fun cdv A outer s H vs Q E hr h => ?_)
  · obtain ⟨x, rs, ts, k, rfl, _⟩ := h
    rfl
  obtain ⟨x, rs, ts, k, rfl, hX, h0, hk, q⟩ := h
  refine ⟨_, (pss_cons (ps_if (pt_not (pt_chain op_le op_lt pe_int (pv 1) (pe_fld (pv 0) rfl))) (pss_one ps_never) pss_nil)
    (pss_one (ps_ret (pe_c GSp hr (by decide) (by rfl) (pa_cons (pv 0) (pa_cons (pv 1) (pa_cons (pe_op op_add (pv 1) pe_int) pa_nil))))))), ?_⟩
  have hX' := hX
  obtain ⟨dx, RU, LE, fs, as, hI⟩ := hX'
  refine ⟨_, rfl, _, _, rfl, rfl, _, rfl, ifT (decide_eq_true (by omega)) ⟨_, rfl, x, C, dx, _, _, rfl, hI.at_, D.cl, D.nN, hI.fN, _, _, rfl, rfl, _, rfl, ifF ?_ ?_⟩⟩
  · rw [decide_eq_true (by omega)]
    rfl
  exact ⟨_, rfl, _, rfl, _, rfl, _, _, rfl, rfl, x, rs, ts, k, k + 1, rfl, hX, h0, by omega, by omega, by omega, q⟩
def spLetters (C : Addr) : Sp := fun vs H Q _ => ∃ (x : Addr) (rs : List Rule) (ts : List (List Nat)) (a b : Nat), vs = [.ref x, .int (a : Int), .int (b : Int)] ∧ TextAt C H x rs ts ∧ 0 < ts.length ∧ a ≤ b ∧ b ≤ (tx ts (ts.length - 1)).length ∧ b - a ≤ 1000 ∧
  ∀ H', Same H H' → Q (.str (S (sub (tx ts (ts.length - 1)) a b))) H'
theorem scLs : FnScope ["self", "start", "stop"] ["self", "start", "stop"] (defScope sLetters) := ⟨rfl, rfl, rfl, by decide +kernel, rfl, by decide +kernel, by decide +kernel⟩
theorem ok_letters {C f : Addr} {fd : FuncData} (F : Fun K "letters" "Text.letters" sLetters f fd) (T : Txt mg) (D : Cl K C) (GSp : Cal P w K mg base 4 "spelled" (spSpelled C) []) (GIp : Cal P w K mg base 1 "is_part" spIsPart []) : FnOk P w K mg base CX0 5 f fd ["self", "start", "stop"] (spLetters C) := by
  refine F.ok scLs (fun vs H Q E h => ?_) (fun cdv A outer s H vs Q E hr h => ?_)
  · obtain ⟨x, rs, ts, a, b, rfl, _⟩ := h
    rfl
  obtain ⟨x, rs, ts, a, b, rfl, hX, h0, hab, hb, h1000, q⟩ := h
  refine ⟨_, (pss_cons (ps_if (pt_not (pt_val (pe_c GIp hr (by decide) (by rfl) (pa_cons (pv 1) (pa_cons (pv 2) (pa_cons (pe_fld (pv 0) rfl) pa_nil)))))) (pss_one ps_never) pss_nil)
    (pss_cons (ps_if (pt_cmpR op_gt (pe_op op_sub (pv 2) (pv 1)) (C8.pe_gc (by rfl) T.MOST_SPELLED) (nomark _)) (pss_one ps_never) pss_nil)
    (pss_one (ps_ret (pe_c GSp hr (by decide) (by rfl) (pa_cons (pv 0) (pa_cons (pv 1) (pa_cons (pv 2) pa_nil)))))))), ?_⟩
  have hX' := hX
  obtain ⟨dx, RU, LE, fs, as, hI⟩ := hX'
  refine ⟨_, rfl, _, rfl, _, rfl, x, C, dx, _, _, rfl, hI.at_, D.cl, D.nN, hI.fN, _, _, _, rfl, _, rfl, ifF ?_ ?_⟩
  · rw [decide_eq_true (by omega)]
    rfl
  refine ⟨_, rfl, _, rfl, _, _, rfl, rfl, _, _, rfl, rfl, _, rfl, ifF (decide_eq_false (by omega)) ?_⟩
  exact ⟨_, rfl, _, rfl, _, rfl, x, rs, ts, a, b, rfl, hX, h0, hab, hb, h1000, q⟩
/-! ### _law_is_integer, _law_same -/
def spIsInteger : Sp := fun vs H Q _ => ∃ i : Int, vs = [.int i] ∧ Q (.bl true) H
theorem scI : FnScope ["actual"] ["actual"] (defScope sIsInt) := ⟨rfl, rfl, rfl, by decide +kernel, rfl, by decide +kernel, by decide +kernel⟩
theorem ok_is_integer {f : Addr} {fd : FuncData} (F : Fun K "_law_is_integer" "_law_is_integer" sIsInt f fd) (hm : mg "_law_is_integer" = some (.ref f)) (b : Binds K fd ["actual"] []) (T : Txt mg) : Cal P w K mg base 1 "_law_is_integer" spIsInteger [] := by
  refine mkCal F hm b scI (fun vs H Q E h => ?_) (fun cdv A outer s H vs Q E hr h => ?_)
  · obtain ⟨i, rfl, _⟩ := h
    rfl
  obtain ⟨i, rfl, q⟩ := h
  refine ⟨_, (pss_one (ps_ret (pe_and (pe_callB call_isi (by rfl) T.isinstance (by decide +kernel) (pa_cons (pv 0) (pa_cons (pe_bltn (v := .ty "int") (by rfl) T.int (by decide +kernel) rfl) pa_nil))) (pe_one (pe_not (pe_callB call_isi (by rfl) T.isinstance (by decide +kernel) (pa_cons (pv 0) (pa_cons (pe_bltn (v := .ty "bool") (by rfl) T.bool (by decide +kernel) rfl) pa_nil)))))))), ?_⟩
  refine ⟨_, rfl, _, _, _, _, true, rfl, .ty _, .base (.int i), kit_ty (by decide +kernel), true, rfl, ifT rfl ?_⟩
  exact ⟨_, rfl, _, _, _, _, false, rfl, .ty _, .base (.int i), kit_ty (by decide +kernel), false, rfl, q⟩
def SameD : Nat → Hp → V → V → Prop
  | 0, _, x, y => (∃ i, x = .int i ∧ y = .int i) ∨ (∃ z, x = .str z ∧ y = .str z) ∨ (∃ b, x = .bl b ∧ y = .bl b)
  | n + 1, H, x, y => ((∃ i, x = .int i ∧ y = .int i) ∨ (∃ z, x = .str z ∧ y = .str z) ∨ (∃ b, x = .bl b ∧ y = .bl b)) ∨ ∃ (a b : Addr) (xs ys : List V), x = .ref a ∧ y = .ref b ∧ H a = some (.tup xs) ∧ H b = some (.tup ys) ∧ xs.length = ys.length ∧ xs.length ≤ 1000 ∧
      ∀ (k : Nat) (u v : V), xs[k]? = some u → ys[k]? = some v → SameD n H u v
theorem SameD.same : ∀ {n : Nat} {H H' : Hp} {x y : V}, SameD n H x y → Same H H' → SameD n H' x y
  | 0, _, _, _, _, h, _ => h
  | n + 1, _, _, _, _, h, s => by
    rcases h with h | ⟨a, b, xs, ys, rfl, rfl, h1, h2, h3, h4, h5⟩
    · exact .inl h
    · exact .inr ⟨a, b, xs, ys, rfl, rfl, s _ _ h1, s _ _ h2, h3, h4, fun k u v e1 e2 => (h5 k u v e1 e2).same s⟩
def spSame (n : Nat) : Sp := fun vs H Q _ => ∃ x y : V, vs = [x, y] ∧ SameD n H x y ∧ ∀ H', Same H H' → Q (.bl true) H'
theorem scS : FnScope ["actual", "due", "k"] ["actual", "due"] (defScope sSame) := ⟨rfl, rfl, rfl, by decide +kernel, rfl, by decide +kernel, by decide +kernel⟩
theorem ok_same0 {f : Addr} {fd : FuncData} (F : Fun K "_law_same" "_law_same" sSame f fd) (hm : mg "_law_same" = some (.ref f)) (b : Binds K fd ["actual", "due"] []) (T : Txt mg) (GIs : Cal P w K mg base 1 "_law_is_integer" spIsInteger []) : Cal P w K mg base 2 "_law_same" (spSame 0) [] := by
  refine mkCal F hm b scS (fun vs H Q E h => ?_) (fun cdv A outer s H vs Q E hr h => ?_)
  · obtain ⟨x, y, rfl, _⟩ := h
    rfl
  obtain ⟨x, y, rfl, hxy, q⟩ := h
  refine ⟨_, (pss_cons (ps_if (pt_val (pe_callB call_isi (by rfl) T.isinstance (by decide +kernel) (pa_cons (pv 1) (pa_cons (pe_bltn (v := .ty "tuple") (by rfl) T.tuple (by decide +kernel) rfl) pa_nil)))) pss_never pss_nil)
    (pss_cons (ps_if (pt_val (pe_callB call_isi (by rfl) T.isinstance (by decide +kernel) (pa_cons (pv 1) (pa_cons (pe_bltn (v := .ty "list") (by rfl) T.list (by decide +kernel) rfl) pa_nil)))) pss_never pss_nil)
    (pss_cons (ps_if (pt_cmpR op_isN (pv 1) pe_non (nomark _)) (pss_one (ps_ret (pe_cmpR op_isN (pv 0) pe_non (nomark _)))) pss_nil)
    (pss_cons (ps_if (pt_val (pe_callB call_isi (by rfl) T.isinstance (by decide +kernel) (pa_cons (pv 1) (pa_cons (pe_bltn (v := .ty "bool") (by rfl) T.bool (by decide +kernel) rfl) pa_nil)))) (pss_one (ps_ret (pe_and (pe_callB call_isi (by rfl) T.isinstance (by decide +kernel) (pa_cons (pv 0) (pa_cons (pe_bltn (v := .ty "bool") (by rfl) T.bool (by decide +kernel) rfl) pa_nil))) (pe_one (pe_cmpR op_eq (pv 0) (pv 1) (nomark _)))))) pss_nil)
    (pss_cons (ps_if (pt_val (pe_callB call_isi (by rfl) T.isinstance (by decide +kernel) (pa_cons (pv 1) (pa_cons (pe_bltn (v := .ty "str") (by rfl) T.str (by decide +kernel) rfl) pa_nil)))) (pss_one (ps_ret (pe_and (pe_callB call_isi (by rfl) T.isinstance (by decide +kernel) (pa_cons (pv 0) (pa_cons (pe_bltn (v := .ty "str") (by rfl) T.str (by decide +kernel) rfl) pa_nil))) (pe_one (pe_cmpR op_eq (pv 0) (pv 1) (nomark _)))))) pss_nil)
    (pss_one (ps_ret (pe_and (pe_c GIs hr (by decide) (by rfl) (pa_cons (pv 0) pa_nil)) (pe_one (pe_cmpR op_eq (pv 0) (pv 1) (nomark _))))))))))), ?_⟩
  rcases hxy with ⟨i, rfl, rfl⟩ | ⟨z, rfl, rfl⟩ | ⟨c, rfl, rfl⟩
  · refine ⟨_, rfl, _, _, _, _, false, rfl, .ty _, .base (.int i), kit_ty (by decide +kernel), _, rfl, ifF rfl ?_⟩
    refine ⟨_, rfl, _, _, _, _, false, rfl, .ty _, .base (.int i), kit_ty (by decide +kernel), _, rfl, ifF rfl ?_⟩
    refine ⟨_, rfl, rfl, _, rfl, ifF rfl ?_⟩
    refine ⟨_, rfl, _, _, _, _, false, rfl, .ty _, .base (.int i), kit_ty (by decide +kernel), _, rfl, ifF rfl ?_⟩
    refine ⟨_, rfl, _, _, _, _, false, rfl, .ty _, .base (.int i), kit_ty (by decide +kernel), _, rfl, ifF rfl ?_⟩
    refine ⟨_, rfl, i, rfl, true, rfl, ifT rfl ⟨_, rfl, _, rfl, rfl, ?_⟩⟩
    rw [decide_eq_true rfl]
    exact q H (Same.refl H)
  · refine ⟨_, rfl, _, _, _, _, false, rfl, .ty _, .base (.str z), kit_ty (by decide +kernel), _, rfl, ifF rfl ?_⟩
    refine ⟨_, rfl, _, _, _, _, false, rfl, .ty _, .base (.str z), kit_ty (by decide +kernel), _, rfl, ifF rfl ?_⟩
    refine ⟨_, rfl, rfl, _, rfl, ifF rfl ?_⟩
    refine ⟨_, rfl, _, _, _, _, false, rfl, .ty _, .base (.str z), kit_ty (by decide +kernel), _, rfl, ifF rfl ?_⟩
    refine ⟨_, rfl, _, _, _, _, true, rfl, .ty _, .base (.str z), kit_ty (by decide +kernel), _, rfl, ifT rfl ?_⟩
    refine ⟨_, rfl, _, _, _, _, true, rfl, .ty _, .base (.str z), kit_ty (by decide +kernel), true, rfl, ifT rfl ⟨_, rfl, _, rfl, rfl, ?_⟩⟩
    rw [decide_eq_true rfl]
    exact q H (Same.refl H)
  · refine ⟨_, rfl, _, _, _, _, false, rfl, .ty _, .base (.bl c), kit_ty (by decide +kernel), _, rfl, ifF rfl ?_⟩
    refine ⟨_, rfl, _, _, _, _, false, rfl, .ty _, .base (.bl c), kit_ty (by decide +kernel), _, rfl, ifF rfl ?_⟩
    refine ⟨_, rfl, rfl, _, rfl, ifF rfl ?_⟩
    refine ⟨_, rfl, _, _, _, _, true, rfl, .ty _, .base (.bl c), kit_ty (by decide +kernel), _, rfl, ifT rfl ?_⟩
    refine ⟨_, rfl, _, _, _, _, true, rfl, .ty _, .base (.bl c), kit_ty (by decide +kernel), true, rfl, ifT rfl ⟨_, rfl, _, rfl, rfl, ?_⟩⟩
    rw [decide_eq_true rfl]
    exact q H (Same.refl H)
theorem ok_same1 {n k : Nat} {f : Addr} {fd : FuncData} (F : Fun K "_law_same" "_law_same" sSame f fd) (hm : mg "_law_same" = some (.ref f)) (b : Binds K fd ["actual", "due"] []) (T : Txt mg) (GIs : Cal P w K mg base 1 "_law_is_integer" spIsInteger []) (hk : 1 ≤ k)
    {sp : Sp} (esp : sp = spSame n) (GS : Cal P w K mg base k "_law_same" sp []) : Cal P w K mg base (k + 1) "_law_same" (spSame (n + 1)) [] := by
  refine mkCal F hm b scS (fun vs H Q E h => ?_) (fun cdv A outer s H vs Q E hr h => ?_)
  · obtain ⟨x, y, rfl, _⟩ := h
    rfl
  obtain ⟨x, y, rfl, hxy, q⟩ := h
  refine ⟨_, (pss_cons (ps_if (pt_val (pe_callB call_isi (by rfl) T.isinstance (by decide +kernel) (pa_cons (pv 1) (pa_cons (pe_bltn (v := .ty "tuple") (by rfl) T.tuple (by decide +kernel) rfl) pa_nil)))) (pss_cons (ps_if (PW.pt (pw_or (pt_not (pt_val (pe_callB call_isi (by rfl) T.isinstance (by decide +kernel) (pa_cons (pv 0) (pa_cons (pe_bltn (v := .ty "tuple") (by rfl) T.tuple (by decide +kernel) rfl) pa_nil))))) (pw_or1 (pt_cmpR op_ne (pe_callB call_len_seq (by rfl) T.len PySem.boot_len (pa_cons (pv 0) pa_nil)) (pe_callB call_len_seq (by rfl) T.len PySem.boot_len (pa_cons (pv 1) pa_nil)) (nomark _))))) (pss_one (ps_ret pe_bl)) pss_nil)
    (pss_one (ps_ret (pe_callB (cr_all rfl) (by rfl) T.all (by decide +kernel) (pa_cons (pe_lc (own := [("k", 2)]) (g := gName 2) (te := tCall sp [] C8.E0 (tCons (tOp (rIxT K) (tVar 0) (tVar 2)) (tCons (tOp (rIxT K) (tVar 1) (tVar 2)) tNil))) (tt := tYes) rfl scS.nd (pi_range1 (by rfl) T.range (pa_cons (pe_callB call_len_seq (by rfl) T.len PySem.boot_len (pa_cons (pv 1) pa_nil)) pa_nil)) (blkOk_by (N := ["actual", "due", "k"]) (sc := defScope sSame) (by decide +kernel)) (fun _ _ _ _ _ => (pg_name (i := 2) scS.nd rfl (.inl rfl))) (fun _ _ _ _ _ => pts_nil) (fun _ _ _ _ _ => (pe_c GS hr (Nat.le_refl _) (by rfl) (pa_cons (pe_ix ix_tup (pv 0) (pv 2) (fun _ _ => rfl)) (pa_cons (pe_ix ix_tup (pv 1) (pv 2) (fun _ _ => rfl)) pa_nil))))) pa_nil))))) pss_nil)
    (pss_cons (ps_if (pt_val (pe_callB call_isi (by rfl) T.isinstance (by decide +kernel) (pa_cons (pv 1) (pa_cons (pe_bltn (v := .ty "list") (by rfl) T.list (by decide +kernel) rfl) pa_nil)))) pss_never pss_nil)
    (pss_cons (ps_if (pt_cmpR op_isN (pv 1) pe_non (nomark _)) (pss_one (ps_ret (pe_cmpR op_isN (pv 0) pe_non (nomark _)))) pss_nil)
    (pss_cons (ps_if (pt_val (pe_callB call_isi (by rfl) T.isinstance (by decide +kernel) (pa_cons (pv 1) (pa_cons (pe_bltn (v := .ty "bool") (by rfl) T.bool (by decide +kernel) rfl) pa_nil)))) (pss_one (ps_ret (pe_and (pe_callB call_isi (by rfl) T.isinstance (by decide +kernel) (pa_cons (pv 0) (pa_cons (pe_bltn (v := .ty "bool") (by rfl) T.bool (by decide +kernel) rfl) pa_nil))) (pe_one (pe_cmpR op_eq (pv 0) (pv 1) (nomark _)))))) pss_nil)
    (pss_cons (ps_if (pt_val (pe_callB call_isi (by rfl) T.isinstance (by decide +kernel) (pa_cons (pv 1) (pa_cons (pe_bltn (v := .ty "str") (by rfl) T.str (by decide +kernel) rfl) pa_nil)))) (pss_one (ps_ret (pe_and (pe_callB call_isi (by rfl) T.isinstance (by decide +kernel) (pa_cons (pv 0) (pa_cons (pe_bltn (v := .ty "str") (by rfl) T.str (by decide +kernel) rfl) pa_nil))) (pe_one (pe_cmpR op_eq (pv 0) (pv 1) (nomark _)))))) pss_nil)
    (pss_one (ps_ret (pe_and (pe_c GIs hr hk (by rfl) (pa_cons (pv 0) pa_nil)) (pe_one (pe_cmpR op_eq (pv 0) (pv 1) (nomark _))))))))))), ?_⟩
  rcases hxy with (⟨i, rfl, rfl⟩ | ⟨z, rfl, rfl⟩ | ⟨c, rfl, rfl⟩) | ⟨a, b, xs, ys, rfl, rfl, hx, hy, hl, h1000, hall⟩
  · refine ⟨_, rfl, _, _, _, _, false, rfl, .ty _, .base (.int i), kit_ty (by decide +kernel), _, rfl, ifF rfl ?_⟩
    refine ⟨_, rfl, _, _, _, _, false, rfl, .ty _, .base (.int i), kit_ty (by decide +kernel), _, rfl, ifF rfl ?_⟩
    refine ⟨_, rfl, rfl, _, rfl, ifF rfl ?_⟩
    refine ⟨_, rfl, _, _, _, _, false, rfl, .ty _, .base (.int i), kit_ty (by decide +kernel), _, rfl, ifF rfl ?_⟩
    refine ⟨_, rfl, _, _, _, _, false, rfl, .ty _, .base (.int i), kit_ty (by decide +kernel), _, rfl, ifF rfl ?_⟩
    refine ⟨_, rfl, i, rfl, true, rfl, ifT rfl ⟨_, rfl, _, rfl, rfl, ?_⟩⟩
    rw [decide_eq_true rfl]
    exact q H (Same.refl H)
  · refine ⟨_, rfl, _, _, _, _, false, rfl, .ty _, .base (.str z), kit_ty (by decide +kernel), _, rfl, ifF rfl ?_⟩
    refine ⟨_, rfl, _, _, _, _, false, rfl, .ty _, .base (.str z), kit_ty (by decide +kernel), _, rfl, ifF rfl ?_⟩
    refine ⟨_, rfl, rfl, _, rfl, ifF rfl ?_⟩
    refine ⟨_, rfl, _, _, _, _, false, rfl, .ty _, .base (.str z), kit_ty (by decide +kernel), _, rfl, ifF rfl ?_⟩
    refine ⟨_, rfl, _, _, _, _, true, rfl, .ty _, .base (.str z), kit_ty (by decide +kernel), _, rfl, ifT rfl ?_⟩
    refine ⟨_, rfl, _, _, _, _, true, rfl, .ty _, .base (.str z), kit_ty (by decide +kernel), true, rfl, ifT rfl ⟨_, rfl, _, rfl, rfl, ?_⟩⟩
    rw [decide_eq_true rfl]
    exact q H (Same.refl H)
  · refine ⟨_, rfl, _, _, _, _, false, rfl, .ty _, .base (.bl c), kit_ty (by decide +kernel), _, rfl, ifF rfl ?_⟩
    refine ⟨_, rfl, _, _, _, _, false, rfl, .ty _, .base (.bl c), kit_ty (by decide +kernel), _, rfl, ifF rfl ?_⟩
    refine ⟨_, rfl, rfl, _, rfl, ifF rfl ?_⟩
    refine ⟨_, rfl, _, _, _, _, true, rfl, .ty _, .base (.bl c), kit_ty (by decide +kernel), _, rfl, ifT rfl ?_⟩
    refine ⟨_, rfl, _, _, _, _, true, rfl, .ty _, .base (.bl c), kit_ty (by decide +kernel), true, rfl, ifT rfl ⟨_, rfl, _, rfl, rfl, ?_⟩⟩
    rw [decide_eq_true rfl]
    exact q H (Same.refl H)
  · refine ⟨_, rfl, _, _, _, _, true, rfl, .ty _, .base (.tup hy), kit_ty (by decide +kernel), _, rfl, ifT rfl ?_⟩
    refine ⟨_, rfl, _, _, _, _, true, rfl, .ty _, .base (.tup hx), kit_ty (by decide +kernel), _, rfl, ifF rfl ?_⟩
    refine ⟨_, rfl, a, _, rfl, .inr (SqT.of hx), _, rfl, b, _, rfl, .inr (SqT.of hy), rfl, _, rfl, ifF ?_ ?_⟩
    · rw [hl, decide_eq_true rfl]
      rfl
    refine ⟨_, rfl, b, _, rfl, .inr (SqT.of hy), _, rfl, by omega, by omega, fun D nD => ?_⟩
    refine lc_range (lo := 0) (n := ((ys.length : Int)).toNat) (fun i H' => Same H H' ∧ H' D = some (.lst (trues i))) ⟨same_new nD, upd_same⟩ ?_ ?_
    · rintro i H1 hi ⟨s1, hD⟩
      have hi1 : i < xs.length := by omega
      have hi2 : i < ys.length := by omega
      have g1 : atI xs ((0 : Int) + (i : Int)) = some xs[i] := at_of (j := i) (by omega) (List.getElem?_eq_getElem hi1)
      have g2 : atI ys ((0 : Int) + (i : Int)) = some ys[i] := at_of (j := i) (by omega) (List.getElem?_eq_getElem hi2)
      refine ⟨rfl, _, rfl, _, rfl, a, _, _, _, rfl, rfl, SqT.of (s1 _ _ hx), g1, _, rfl, _, rfl, b, _, _, _, rfl, rfl, SqT.of (s1 _ _ hy), g2, ?_⟩
      rw [esp]
      refine ⟨_, _, rfl, (hall i _ _ (List.getElem?_eq_getElem hi1) (List.getElem?_eq_getElem hi2)).same s1, fun H2 s2 => ?_⟩
      refine ⟨_, s2 _ _ hD, by rw [trues_len]; exact small1000 (by omega), fun c o hc => ?_, by rw [upd_same, trues_add]⟩
      rw [upd_ne (ne_of_none hc nD)]
      exact s2 _ _ (s1 _ _ hc)
    · rintro H1 ⟨s1, hD⟩
      refine ⟨D, List.replicate _ true, rfl, SqL.of hD, ?_⟩
      rw [trues_all]
      exact q H1 s1
end
section
variable {C : Addr} {H H' : Hp} {x : Addr} {rs : List Rule} {ts : List (List Nat)}
theorem TextAt.snd (h : TextAt C H x rs ts) : Sound rs ts := by
  obtain ⟨_, _, _, _, _, h⟩ := h
  exact h.sound
theorem TextAt.frm {p c : Addr} (h : TextAt C H x rs ts) (P : Pool H p c) (f : Frm p H H') : TextAt C H' x rs ts := by
  obtain ⟨dx, RU, LE, fs, as, h⟩ := h
  obtain ⟨pos, left, seed, xs, hp⟩ := P
  have tup : ∀ {a : Addr} {vs : List V}, H a = some (.tup vs) → H' a = some (.tup vs) := fun e => f _ _ (ne_of e hp.at_ (by intro z; cases z)) e
  exact ⟨dx, RU, LE, fs, as, f _ _ (ne_of h.at_ hp.at_ (by intro z; cases z)) h.at_, h.fR, h.fE, h.fN, h.m1, h.m2, tup h.hR, tup h.hE, ⟨h.hA.1, fun k vs e => let ⟨a, e1, e2⟩ := h.hA.2 k vs e; ⟨a, e1, tup e2⟩⟩, h.sound⟩
theorem TextAt.updL {D : Addr} {ys : List V} {o : HO} (h : TextAt C H x rs ts) (hD : H D = some (.lst ys)) : TextAt C (upd H D o) x rs ts := by
  obtain ⟨dx, RU, LE, fs, as, h⟩ := h
  have tup : ∀ {a : Addr} {vs : List V}, H a = some (.tup vs) → (upd H D o) a = some (.tup vs) := fun e => by rw [upd_ne (ne_of e hD (by intro z; cases z))]; exact e
  exact ⟨dx, RU, LE, fs, as, by rw [upd_ne (ne_of h.at_ hD (by intro z; cases z))]; exact h.at_, h.fR, h.fE, h.fN, h.m1, h.m2, tup h.hR, tup h.hE, h.hA.updL hD, h.sound⟩
end
theorem Drawn.updL {H : Hp} {R T D : Addr} {as : List Addr} {rs : List Rule} {ts : List (List Nat)} {ys : List V} {o : HO} (d : Drawn H R T as rs ts) (hD : H D = some (.lst ys)) (h1 : R ≠ D) (h2 : T ≠ D) : Drawn (upd H D o) R T as rs ts :=
  ⟨by rw [upd_ne h1]; exact d.ra, by rw [upd_ne h2]; exact d.ta, d.la, fun k r h => by
    obtain ⟨a, e, g⟩ := d.el k r h
    exact ⟨a, e, by rw [upd_ne (ne_of g hD (by intro z; cases z))]; exact g⟩, d.good, d.ne⟩
theorem Drawn.lt {H : Hp} {R T : Addr} {as : List Addr} {rs : List Rule} {ts : List (List Nat)} (d : Drawn H R T as rs ts) : LT H as (rs.map Rule.vals) :=
  ⟨by rw [d.la, List.length_map], fun k vs e => by
    rw [List.getElem?_map] at e
    cases er : rs[k]? with
    | none => rw [er] at e; cases e
    | some r =>
      rw [er] at e
      have ev : r.vals = vs := Option.some.inj e
      subst ev
      exact d.el k r er⟩
theorem vals_same {H : Hp} {r : Rule} {j : Nat} {u v : V} (h1 : r.vals[j]? = some u) (h2 : r.vals[j]? = some v) : SameD 0 H u v := by
  rw [h1] at h2
  cases h2
  have hm := List.mem_of_getElem? h1
  cases r with
  | letters z => simp [Rule.vals] at hm; rcases hm with rfl | rfl <;> first | exact .inl ⟨_, rfl, rfl⟩ | exact .inr (.inl ⟨_, rfl, rfl⟩)
  | join i k => simp [Rule.vals] at hm; rcases hm with rfl | rfl | rfl <;> first | exact .inl ⟨_, rfl, rfl⟩ | exact .inr (.inl ⟨_, rfl, rfl⟩)
  | power i k => simp [Rule.vals] at hm; rcases hm with rfl | rfl | rfl <;> first | exact .inl ⟨_, rfl, rfl⟩ | exact .inr (.inl ⟨_, rfl, rfl⟩)
  | part i a b => simp [Rule.vals] at hm; rcases hm with rfl | rfl | rfl | rfl <;> first | exact .inl ⟨_, rfl, rfl⟩ | exact .inr (.inl ⟨_, rfl, rfl⟩)
  | back i => simp [Rule.vals] at hm; rcases hm with rfl | rfl <;> first | exact .inl ⟨_, rfl, rfl⟩ | exact .inr (.inl ⟨_, rfl, rfl⟩)
/-- two tuples of the same rules -/
theorem rules_same {H : Hp} {a b : Addr} {as bs : List Addr} {rs : List Rule} (ha : H a = some (.tup (as.map V.ref))) (hb : H b = some (.tup (bs.map V.ref))) (la : LT H as (rs.map Rule.vals)) (lb : LT H bs (rs.map Rule.vals)) (h : rs.length ≤ 1000) : SameD 2 H (.ref a) (.ref b) := by
  have l1 := la.1
  have l2 := lb.1
  rw [List.length_map] at l1 l2
  refine .inr ⟨a, b, _, _, rfl, rfl, ha, hb, by rw [List.length_map, List.length_map, l1, l2], by rw [List.length_map, l1]; exact h, fun k u v e1 e2 => ?_⟩
  have hk : k < rs.length := by
    have := (List.getElem?_eq_some_iff.mp e1).1
    rwa [List.length_map, l1] at this
  have er : (rs.map Rule.vals)[k]? = some (rs[k]).vals := by rw [List.getElem?_map, List.getElem?_eq_getElem hk]; rfl
  obtain ⟨x, x1, x2⟩ := la.2 k _ er
  obtain ⟨y, y1, y2⟩ := lb.2 k _ er
  rw [List.getElem?_map, x1] at e1
  rw [List.getElem?_map, y1] at e2
  cases Option.some.inj e1
  cases Option.some.inj e2
  exact .inr ⟨x, y, _, _, rfl, rfl, x2, y2, rfl, Nat.le_trans (Rule.vals_len _) (by decide), fun j u v h1 h2 => vals_same h1 h2⟩
/-- two tuples of the same numbers and texts -/
theorem flat_same {H : Hp} {a b : Addr} {xs : List V} (ha : H a = some (.tup xs)) (hb : H b = some (.tup xs)) (h : xs.length ≤ 1000) (hf : ∀ u ∈ xs, (∃ i, u = .int i) ∨ ∃ z, u = .str z) : SameD 2 H (.ref a) (.ref b) := by
  refine .inr ⟨a, b, xs, xs, rfl, rfl, ha, hb, rfl, h, fun k u v e1 e2 => ?_⟩
  rw [e1] at e2
  cases e2
  rcases hf u (List.mem_of_getElem? e1) with ⟨i, rfl⟩ | ⟨z, rfl⟩
  · exact .inl (.inl ⟨i, rfl, rfl⟩)
  · exact .inl (.inr (.inl ⟨z, rfl, rfl⟩))
theorem int_same {H : Hp} (i : Int) : SameD 2 H (.int i) (.int i) := .inl (.inl ⟨i, rfl, rfl⟩)
theorem str_same {H : Hp} (z : Str) : SameD 2 H (.str z) (.str z) := .inl (.inr (.inl ⟨z, rfl, rfl⟩))
theorem bool_same {H : Hp} (c : Bool) : SameD 2 H (.bl c) (.bl c) := .inl (.inr (.inr ⟨c, rfl, rfl⟩))
theorem last_tx {ts : List (List Nat)} (h : 1 ≤ ts.length) : atI (ts.map tV) (-1) = some (.str (S (tx ts (ts.length - 1)))) := by
  have e : ts = ts.take (ts.length - 1) ++ [tx ts (ts.length - 1)] := by
    rw [← take_succ_tx (by omega), Nat.sub_add_cancel h, List.take_length]
  have e2 : ts.map tV = (ts.take (ts.length - 1)).map tV ++ [tV (tx ts (ts.length - 1))] := by
    rw [← List.map_singleton, ← List.map_append, ← e]
  rw [e2]
  exact atI_last _ _
theorem sub_one {l : List Nat} {k : Nat} (h : k < l.length) : sub l k (k + 1) = [l[k]] := by
  unfold sub
  rw [List.take_add_one, List.getElem?_eq_getElem h, List.drop_append_of_le_length (by rw [List.length_take]; omega), List.drop_eq_nil_of_le (by rw [List.length_take]; omega)]
  rfl
/-! ### rules as keys -/
def Rule.key : Rule → List Key
  | .letters z => [.inr "letters", .inr (S z)]
  | .join i j => [.inr "join", .inl (i : Int), .inl (j : Int)]
  | .power i k => [.inr "power", .inl (i : Int), .inl (k : Int)]
  | .part i a b => [.inr "part", .inl (i : Int), .inl (a : Int), .inl (b : Int)]
  | .back i => [.inr "back", .inl (i : Int)]
theorem Rule.key_vals (r : Rule) : r.key.map kV = r.vals := by cases r <;> rfl
theorem Rule.key_inj {r r' : Rule} (h : r.key = r'.key) : r = r' := by
  have h0 : r.key.head? = r'.key.head? := by rw [h]
  cases r <;> cases r' <;> first
    | (exfalso; revert h0; show ¬ (some (Sum.inr _ : Key) = some (Sum.inr _)); intro h0; have h1 := Sum.inr.inj (Option.some.inj h0); exact absurd h1 (by decide +kernel))
    | (simp only [Rule.key, List.cons.injEq, Sum.inl.injEq, Sum.inr.injEq, and_true, true_and, Int.ofNat_inj] at h)
  · rw [S_inj h]
  · rw [h.1, h.2]
  · rw [h.1, h.2]
  · rw [h.1, h.2.1, h.2.2]
  · rw [h]
/-! ### texts behind texts -/
def Ext (ts ts' : List (List Nat)) : Prop := ∃ l, ts' = ts ++ l
theorem Ext.refl (ts : List (List Nat)) : Ext ts ts := ⟨[], (List.append_nil ts).symm⟩
theorem Ext.trans {a b c : List (List Nat)} (h : Ext a b) (g : Ext b c) : Ext a c := by
  obtain ⟨l, rfl⟩ := h
  obtain ⟨m, rfl⟩ := g
  exact ⟨l ++ m, List.append_assoc a l m⟩
theorem Ext.len {a b : List (List Nat)} (h : Ext a b) : a.length ≤ b.length := by
  obtain ⟨l, rfl⟩ := h
  rw [List.length_append]
  omega
theorem Ext.tx {a b : List (List Nat)} (h : Ext a b) {i : Nat} (hi : i < a.length) : tx b i = tx a i := by
  obtain ⟨l, rfl⟩ := h
  unfold K4.tx
  rw [List.getD_eq_getElem?_getD, List.getD_eq_getElem?_getD, List.getElem?_append_left hi]
theorem Ext.lt {a b : List (List Nat)} (h : Ext a b) {i : Nat} (hi : i < a.length) : i < b.length := Nat.lt_of_lt_of_le hi h.len
theorem Ext.ok {a b : List (List Nat)} (h : Ext a b) {r : Rule} (o : Ok a r) : Ok b r := by
  cases r with
  | letters z => exact o
  | join i j => exact ⟨h.lt o.1, h.lt o.2⟩
  | power i k => exact ⟨h.lt o.1, o.2⟩
  | part i x y => exact ⟨h.lt o.1, o.2.1, by rw [h.tx o.1]; exact o.2.2⟩
  | back i => exact h.lt o
theorem Ext.made {a b : List (List Nat)} (h : Ext a b) {r : Rule} (o : Ok a r) : K4.made b r = K4.made a r := by
  cases r with
  | letters z => rfl
  | join i j =>
    show K4.tx b i ++ K4.tx b j = K4.tx a i ++ K4.tx a j
    rw [h.tx o.1, h.tx o.2]
  | power i k =>
    show pw (K4.tx b i) k = pw (K4.tx a i) k
    rw [h.tx o.1]
  | part i x y =>
    show sub (K4.tx b i) x y = sub (K4.tx a i) x y
    rw [h.tx o.1]
  | back i =>
    show (K4.tx b i).reverse = (K4.tx a i).reverse
    rw [h.tx o]
theorem Sound.take {rs : List Rule} {ts : List (List Nat)} (s : Sound rs ts) (n : Nat) : Sound (rs.take n) (ts.take n) := by
  refine ⟨by rw [List.length_take, List.length_take, s.len], fun k r h => ?_, fun l hl => s.le l (List.mem_of_mem_take hl)⟩
  rw [List.getElem?_take] at h
  split at h
  · rename_i hk
    obtain ⟨h1, h2⟩ := s.ok k r h
    rw [List.take_take, Nat.min_eq_left (Nat.le_of_lt hk), List.getElem?_take, if_pos hk]
    exact ⟨h1, h2⟩
  · cases h
theorem Sound.add {rs : List Rule} {ts : List (List Nat)} {r : Rule} (s : Sound rs ts) (o : Ok ts r) (h : (K4.made ts r).length ≤ 1000000000000) : Sound (rs ++ [r]) (ts ++ [K4.made ts r]) := by
  refine ⟨by simp [s.len], fun k x e => ?_, fun l hl => ?_⟩
  · by_cases hk : k < rs.length
    · rw [List.getElem?_append_left hk] at e
      obtain ⟨h1, h2⟩ := s.ok k x e
      have hk' : k < ts.length := by rw [s.len]; exact hk
      rw [List.take_append_of_le_length (Nat.le_of_lt hk'), List.getElem?_append_left hk']
      exact ⟨h1, h2⟩
    · have hk2 : k = rs.length := by
        have := (List.getElem?_eq_some_iff.mp e).1
        simp at this
        omega
      subst hk2
      rw [List.getElem?_append_right (Nat.le_refl _), Nat.sub_self] at e
      have e' : r = x := Option.some.inj e
      subst e'
      rw [← s.len, List.take_append_of_le_length (Nat.le_refl _), List.take_length, List.getElem?_append_right (Nat.le_refl _), Nat.sub_self]
      exact ⟨o, rfl⟩
  · rcases List.mem_append.mp hl with hl | hl
    · exact s.le l hl
    · rw [List.mem_singleton.mp hl]
      exact h
theorem tx_end (ts : List (List Nat)) (l : List Nat) : tx (ts ++ [l]) ts.length = l := by
  unfold tx
  rw [List.getD_eq_getElem?_getD, List.getElem?_append_right (Nat.le_refl _), Nat.sub_self]
  rfl
/-! ### a making -/
structure MakS (CM : Addr) (H : Hp) (m dx MR ML MN : Addr) (fs : List (Str × V)) (as : List Addr) (kvs : List (List Key × V)) (rs : List Rule) (ts : List (List Nat)) : Prop where
  at_ : H m = some (.ins CM dx fs)
  fR : fs.lookup ("rules" : Str) = some (.ref MR)
  fL : fs.lookup ("lengths" : Str) = some (.ref ML)
  fN : fs.lookup ("numbers" : Str) = some (.ref MN)
  hR : H MR = some (.lst (as.map V.ref))
  hL : H ML = some (.lst (ts.map lenV))
  hN : H MN = some (.dT kvs)
  hA : LT H as (rs.map Rule.vals)
  kv : ∀ k v, valV kvs k = some v → ∃ (i : Nat) (r : Rule), v = .int (i : Int) ∧ rs[i]? = some r ∧ r.key = k
  kl : kvs.length ≤ rs.length
  sound : Sound rs ts
  ne : MR ≠ ML
def mF3 (MR ML MN : Addr) : List (Str × V) := putF "numbers" (.ref MN) (putF "lengths" (.ref ML) (putF "rules" (.ref MR) []))
def mF (MR ML MN : Addr) (q : Int) : List (Str × V) := putF "most_taken" (.int q) (putF "nothing" (.int 0) (mF3 MR ML MN))
theorem m_rl : ¬ (("rules" : Str) = "lengths") := by decide +kernel
theorem m_rn : ¬ (("rules" : Str) = "numbers") := by decide +kernel
theorem m_ln : ¬ (("lengths" : Str) = "numbers") := by decide +kernel
theorem m_ro : ¬ (("rules" : Str) = "nothing") := by decide +kernel
theorem m_lo : ¬ (("lengths" : Str) = "nothing") := by decide +kernel
theorem m_no : ¬ (("numbers" : Str) = "nothing") := by decide +kernel
theorem m_rm : ¬ (("rules" : Str) = "most_taken") := by decide +kernel
theorem m_lm : ¬ (("lengths" : Str) = "most_taken") := by decide +kernel
theorem m_nm : ¬ (("numbers" : Str) = "most_taken") := by decide +kernel
theorem m_om : ¬ (("nothing" : Str) = "most_taken") := by decide +kernel
theorem mF3_R (MR ML MN : Addr) : (mF3 MR ML MN).lookup ("rules" : Str) = some (.ref MR) := by
  unfold mF3
  rw [lookup_putF, if_neg m_rn, lookup_putF, if_neg m_rl, lookup_putF, if_pos rfl]
theorem mF3_L (MR ML MN : Addr) : (mF3 MR ML MN).lookup ("lengths" : Str) = some (.ref ML) := by
  unfold mF3
  rw [lookup_putF, if_neg m_ln, lookup_putF, if_pos rfl]
theorem mF3_N (MR ML MN : Addr) : (mF3 MR ML MN).lookup ("numbers" : Str) = some (.ref MN) := by
  unfold mF3
  rw [lookup_putF, if_pos rfl]
theorem mF_3 (MR ML MN : Addr) (q : Int) {x : Str} (h1 : ¬ (x = "most_taken")) (h2 : ¬ (x = "nothing")) : (mF MR ML MN q).lookup x = (mF3 MR ML MN).lookup x := by
  unfold mF
  rw [lookup_putF, if_neg h1, lookup_putF, if_neg h2]
theorem mF_R (MR ML MN : Addr) (q : Int) : (mF MR ML MN q).lookup ("rules" : Str) = some (.ref MR) := by rw [mF_3 _ _ _ _ m_rm m_ro, mF3_R]
theorem mF_L (MR ML MN : Addr) (q : Int) : (mF MR ML MN q).lookup ("lengths" : Str) = some (.ref ML) := by rw [mF_3 _ _ _ _ m_lm m_lo, mF3_L]
theorem mF_N (MR ML MN : Addr) (q : Int) : (mF MR ML MN q).lookup ("numbers" : Str) = some (.ref MN) := by rw [mF_3 _ _ _ _ m_nm m_no, mF3_N]
theorem mF_O (MR ML MN : Addr) (q : Int) : (mF MR ML MN q).lookup ("nothing" : Str) = some (.int 0) := by
  unfold mF
  rw [lookup_putF, if_neg m_om, lookup_putF, if_pos rfl]
theorem mF_M (MR ML MN : Addr) (q : Int) : (mF MR ML MN q).lookup ("most_taken" : Str) = some (.int q) := by
  unfold mF
  rw [lookup_putF, if_pos rfl]
theorem mF3_eq (MR ML MN : Addr) : mF3 MR ML MN = ([(("rules" : Str), V.ref MR), (("lengths" : Str), V.ref ML), (("numbers" : Str), V.ref MN)] : List (Str × V)) := by
  unfold mF3
  show putF "numbers" (V.ref MN) (if ("rules" : Str) = "lengths" then _ else (("rules" : Str), V.ref MR) :: [(("lengths" : Str), V.ref ML)]) = _
  rw [if_neg m_rl]
  show (if ("rules" : Str) = "numbers" then _ else (("rules" : Str), V.ref MR) :: (if ("lengths" : Str) = "numbers" then _ else (("lengths" : Str), V.ref ML) :: [(("numbers" : Str), V.ref MN)])) = _
  rw [if_neg m_rn, if_neg m_ln]
theorem mF_eq (MR ML MN : Addr) (q : Int) : mF MR ML MN q = ([(("rules" : Str), V.ref MR), (("lengths" : Str), V.ref ML), (("numbers" : Str), V.ref MN), (("nothing" : Str), V.int 0), (("most_taken" : Str), V.int q)] : List (Str × V)) := by
  unfold mF
  rw [mF3_eq]
  have e : putF "nothing" (V.int 0) ([(("rules" : Str), V.ref MR), (("lengths" : Str), V.ref ML), (("numbers" : Str), V.ref MN)] : List (Str × V)) = ([(("rules" : Str), V.ref MR), (("lengths" : Str), V.ref ML), (("numbers" : Str), V.ref MN), (("nothing" : Str), V.int 0)] : List (Str × V)) := by
    show (if ("rules" : Str) = "nothing" then _ else (("rules" : Str), V.ref MR) :: (if ("lengths" : Str) = "nothing" then _ else (("lengths" : Str), V.ref ML) :: (if ("numbers" : Str) = "nothing" then _ else (("numbers" : Str), V.ref MN) :: [(("nothing" : Str), V.int 0)]))) = _
    rw [if_neg m_ro, if_neg m_lo, if_neg m_no]
  rw [e]
  show (if ("rules" : Str) = "most_taken" then _ else (("rules" : Str), V.ref MR) :: (if ("lengths" : Str) = "most_taken" then _ else (("lengths" : Str), V.ref ML) :: (if ("numbers" : Str) = "most_taken" then _ else (("numbers" : Str), V.ref MN) :: (if ("nothing" : Str) = "most_taken" then _ else (("nothing" : Str), V.int 0) :: [(("most_taken" : Str), V.int q)])))) = _
  rw [if_neg m_rm, if_neg m_lm, if_neg m_nm, if_neg m_om]
theorem mF_putM (MR ML MN : Addr) (q q' : Int) : putF "most_taken" (.int q') (mF MR ML MN q) = mF MR ML MN q' := by
  rw [mF_eq, mF_eq]
  show (if ("rules" : Str) = "most_taken" then _ else (("rules" : Str), V.ref MR) :: (if ("lengths" : Str) = "most_taken" then _ else (("lengths" : Str), V.ref ML) :: (if ("numbers" : Str) = "most_taken" then _ else (("numbers" : Str), V.ref MN) :: (if ("nothing" : Str) = "most_taken" then _ else (("nothing" : Str), V.int 0) :: (if ("most_taken" : Str) = "most_taken" then [(("most_taken" : Str), V.int q')] else _))))) = _
  rw [if_neg m_rm, if_neg m_lm, if_neg m_nm, if_neg m_om, if_pos rfl]
theorem mF_small (MR ML MN : Addr) (q : Int) : (mF MR ML MN q).length < 1000 := by rw [mF_eq]; show 5 < 1000; decide
theorem mF_no (MR ML MN : Addr) (q : Int) {x : Str} (h1 : ¬ (x = "most_taken")) (h2 : ¬ (x = "nothing")) (h3 : ¬ (x = "numbers")) (h4 : ¬ (x = "lengths")) (h5 : ¬ (x = "rules")) : (mF MR ML MN q).lookup x = none := by
  rw [mF_3 _ _ _ _ h1 h2]
  unfold mF3
  rw [lookup_putF, if_neg h3, lookup_putF, if_neg h4, lookup_putF, if_neg h5]
  rfl
/-- a making, ready -/
def Mkg (CM : Addr) (H : Hp) (m MR ML MN : Addr) (rs : List Rule) (ts : List (List Nat)) : Prop := ∃ (dx : Addr) (as : List Addr) (kvs : List (List Key × V)) (q : Int), MakS CM H m dx MR ML MN (mF MR ML MN q) as kvs rs ts ∧ 0 < ts.length ∧ tx ts 0 = [] ∧ 0 ≤ q
/-- all else stays -/
def FrM (m MR ML MN : Addr) (H H' : Hp) : Prop := ∀ b o, b ≠ m → b ≠ MR → b ≠ ML → b ≠ MN → H b = some o → H' b = some o
theorem FrM.refl {m MR ML MN : Addr} {H : Hp} : FrM m MR ML MN H H := fun _ _ _ _ _ _ e => e
theorem FrM.trans {m MR ML MN : Addr} {H H1 H2 : Hp} (a : FrM m MR ML MN H H1) (b : FrM m MR ML MN H1 H2) : FrM m MR ML MN H H2 := fun c o h1 h2 h3 h4 e => b c o h1 h2 h3 h4 (a c o h1 h2 h3 h4 e)
theorem Same.frM {m MR ML MN : Addr} {H H' : Hp} (s : Same H H') : FrM m MR ML MN H H' := fun b o _ _ _ _ e => s b o e
theorem MakS.same {CM : Addr} {H H' : Hp} {m dx MR ML MN : Addr} {fs : List (Str × V)} {as : List Addr} {kvs : List (List Key × V)} {rs : List Rule} {ts : List (List Nat)} (h : MakS CM H m dx MR ML MN fs as kvs rs ts) (s : Same H H') : MakS CM H' m dx MR ML MN fs as kvs rs ts :=
  ⟨s _ _ h.at_, h.fR, h.fL, h.fN, s _ _ h.hR, s _ _ h.hL, s _ _ h.hN, h.hA.same s, h.kv, h.kl, h.sound, h.ne⟩
theorem Mkg.same {CM : Addr} {H H' : Hp} {m MR ML MN : Addr} {rs : List Rule} {ts : List (List Nat)} (h : Mkg CM H m MR ML MN rs ts) (s : Same H H') : Mkg CM H' m MR ML MN rs ts :=
  let ⟨dx, as, kvs, q, h1, h2, h3, h4⟩ := h
  ⟨dx, as, kvs, q, h1.same s, h2, h3, h4⟩
theorem MakS.mark {CM : Addr} {H : Hp} {m dx MR ML MN : Addr} {fs fs' : List (Str × V)} {as : List Addr} {kvs : List (List Key × V)} {rs : List Rule} {ts : List (List Nat)} (h : MakS CM H m dx MR ML MN fs as kvs rs ts) (h1 : fs'.lookup ("rules" : Str) = some (.ref MR)) (h2 : fs'.lookup ("lengths" : Str) = some (.ref ML)) (h3 : fs'.lookup ("numbers" : Str) = some (.ref MN)) :
    MakS CM (upd H m (.ins CM dx fs')) m dx MR ML MN fs' as kvs rs ts := by
  have k1 : ∀ {b : Addr} {xs : List V}, H b = some (.lst xs) → (upd H m (.ins CM dx fs')) b = some (.lst xs) := fun e => by rw [upd_ne (ne_of e h.at_ (by intro z; cases z))]; exact e
  refine ⟨upd_same, h1, h2, h3, k1 h.hR, k1 h.hL, by rw [upd_ne (ne_of h.hN h.at_ (by intro z; cases z))]; exact h.hN, ⟨h.hA.1, fun k vs e => ?_⟩, h.kv, h.kl, h.sound, h.ne⟩
  obtain ⟨a, e1, e2⟩ := h.hA.2 k vs e
  exact ⟨a, e1, by rw [upd_ne (ne_of e2 h.at_ (by intro z; cases z))]; exact e2⟩
theorem MakS.updL {CM : Addr} {H : Hp} {m dx MR ML MN D : Addr} {fs : List (Str × V)} {as : List Addr} {kvs : List (List Key × V)} {rs : List Rule} {ts : List (List Nat)} {xs : List V} {o : HO} (h : MakS CM H m dx MR ML MN fs as kvs rs ts) (hD : H D = some (.lst xs)) (h1 : D ≠ MR) (h2 : D ≠ ML) : MakS CM (upd H D o) m dx MR ML MN fs as kvs rs ts :=
  ⟨by rw [upd_ne (ne_of h.at_ hD (by intro z; cases z))]; exact h.at_, h.fR, h.fL, h.fN, by rw [upd_ne h1.symm]; exact h.hR, by rw [upd_ne h2.symm]; exact h.hL, by rw [upd_ne (ne_of h.hN hD (by intro z; cases z))]; exact h.hN, h.hA.updL hD, h.kv, h.kl, h.sound, h.ne⟩
theorem Mkg.updL {CM : Addr} {H : Hp} {m MR ML MN D : Addr} {rs : List Rule} {ts : List (List Nat)} {xs : List V} {o : HO} (h : Mkg CM H m MR ML MN rs ts) (hD : H D = some (.lst xs)) (h1 : D ≠ MR) (h2 : D ≠ ML) : Mkg CM (upd H D o) m MR ML MN rs ts :=
  let ⟨dx, as, kvs, q, h3, h4, h5, h6⟩ := h
  ⟨dx, as, kvs, q, h3.updL hD h1 h2, h4, h5, h6⟩
structure ClM (K : PySem.W.Frag) (CM : Addr) : Prop where
  cl : Cls K CM
  nR : NoAttr K CM "rules"
  nL : NoAttr K CM "lengths"
  nN : NoAttr K CM "numbers"
  nO : NoAttr K CM "nothing"
  nM : NoAttr K CM "most_taken"
def Fr3 (MR ML MN : Addr) (H H' : Hp) : Prop := ∀ b o, b ≠ MR → b ≠ ML → b ≠ MN → H b = some o → H' b = some o
theorem Fr3.frM {m MR ML MN : Addr} {H H' : Hp} (f : Fr3 MR ML MN H H') : FrM m MR ML MN H H' := fun b o _ h2 h3 h4 e => f b o h2 h3 h4 e
theorem Fr3.refl {MR ML MN : Addr} {H : Hp} : Fr3 MR ML MN H H := fun _ _ _ _ _ e => e
section
variable {P : Program} {w : World} {K : PySem.W.Frag} {mg : Str → Option Value} {base : Heap}
def spNumberOf (CM : Addr) : Sp := fun vs H Q _ => ∃ (m a dx MR ML MN : Addr) (fs : List (Str × V)) (as : List Addr) (kvs : List (List Key × V)) (rs : List Rule) (ts : List (List Nat)) (r : Rule), vs = [.ref m, .ref a] ∧ MakS CM H m dx MR ML MN fs as kvs rs ts ∧ H a = some (.tup r.vals) ∧ Ok ts r ∧ (made ts r).length ≤ 1000000000000 ∧ rs.length ≤ 900 ∧
  ∀ (as' : List Addr) (kvs' : List (List Key × V)) (rs' : List Rule) (ts' : List (List Nat)) (i : Nat) (H' : Hp), MakS CM H' m dx MR ML MN fs as' kvs' rs' ts' → Ext ts ts' → i < ts'.length → tx ts' i = made ts r → rs'.length ≤ rs.length + 1 → (rs' = rs ∨ rs' = rs ++ [r]) → Fr3 MR ML MN H H' → Q (.int (i : Int)) H'
theorem scNo : FnScope ["self", "rule"] ["self", "rule"] (defScope sMakingNumberOf) := ⟨rfl, rfl, rfl, by decide +kernel, rfl, by decide +kernel, by decide +kernel⟩
theorem ok_number_of {CM f : Addr} {fd : FuncData} (F : Fun K "number_of" "Making.number_of" sMakingNumberOf f fd) (T : Txt mg) (D : ClM K CM) (GLm : Cal P w K mg base 1 "length_made" spLengthMade []) : FnOk P w K mg base CX0 2 f fd ["self", "rule"] (spNumberOf CM) := by
  refine F.ok scNo (fun vs H Q E h => ?_) (fun cdv A outer s H vs Q E hr h => ?_)
  · obtain ⟨m, a, dx, MR, ML, MN, fs, as, kvs, rs, ts, r, rfl, _⟩ := h
    rfl
  obtain ⟨m, a, dx, MR, ML, MN, fs, as, kvs, rs, ts, r, rfl, hM, ha, ok, hl, h900, q⟩ := h
  have hu := hu_of hr
  refine ⟨_, (pss_cut (ps_if (pt_cmp (pc_dnotin hu (pv 1) (pe_fld (pv 0) rfl))) (pss_cons (ps_dput hu (pe_fld (pv 0) rfl) (pv 1) (pe_callB call_len_seq (by rfl) T.len PySem.boot_len (pa_cons (pe_fld (pv 0) rfl) pa_nil)) rfl)
    (pss_cons (ps_expr (pe_bm PySem.F.plainAttrs_list PySem.F.slot_list_append PySem.F.type_list_append mt_append (pe_fld (pv 0) rfl) (pa_cons (pv 1) pa_nil)))
    (pss_one (ps_expr (pe_bm PySem.F.plainAttrs_list PySem.F.slot_list_append PySem.F.type_list_append mt_append (pe_fld (pv 0) rfl) (pa_cons (pe_c GLm hr (by decide) (by rfl) (pa_cons (pv 1) (pa_cons (pe_fld (pv 0) rfl) pa_nil))) pa_nil)))))) pss_nil)
    (pss_one (ps_ret (pe_dget hu (pe_fld (pv 0) rfl) (pv 1) (fun _ _ => rfl))))), ?_⟩
  have ha' : ∀ {H' : Hp}, H' a = some (.tup r.vals) → H' a = some (.tup (r.key.map kV)) := fun e => by rw [r.key_vals]; exact e
  refine ⟨fun σ H' => ∃ (as' : List Addr) (kvs' : List (List Key × V)) (rs' : List Rule) (ts' : List (List Nat)) (i : Nat), σ = [some (.ref m), some (.ref a)] ∧ MakS CM H' m dx MR ML MN fs as' kvs' rs' ts' ∧ Ext ts ts' ∧ i < ts'.length ∧ tx ts' i = made ts r ∧ rs'.length ≤ rs.length + 1 ∧ (rs' = rs ∨ rs' = rs ++ [r]) ∧ Fr3 MR ML MN H H' ∧ H' a = some (.tup r.vals) ∧ valV kvs' r.key = some (.int (i : Int)), ?_, ?_⟩
  · refine ⟨_, rfl, _, rfl, m, CM, dx, _, _, rfl, hM.at_, D.cl, D.nN, hM.fN, MN, _, rfl, DGet.t hM.hN (ha' ha), _, rfl, ?_⟩
    cases e : valV kvs r.key with
    | some v =>
      obtain ⟨i, r', rfl, e1, e2⟩ := hM.kv _ _ e
      have er := Rule.key_inj e2
      subst er
      refine iteF ?_
      exact ⟨as, kvs, rs, ts, i, rfl, hM, Ext.refl ts, hM.sound.lt e1, by rw [hM.sound.tx e1]; exact (Ext.made (a := ts.take i) (b := ts) ⟨ts.drop i, (List.take_append_drop i ts).symm⟩ (hM.sound.ok i _ e1).1).symm, Nat.le_succ _, .inl rfl, Fr3.refl, ha, e⟩
    | none =>
      refine iteT ?_
      have lenA : (as.map V.ref).length = rs.length := by rw [List.length_map, hM.hA.1, List.length_map]
      have mNm := ne_of hM.at_ hM.hN (by intro z; cases z)
      have rNm := ne_of hM.hR hM.hN (by intro z; cases z)
      have lNm := ne_of hM.hL hM.hN (by intro z; cases z)
      have aNm := ne_of ha hM.hN (by intro z; cases z)
      have mRm := ne_of hM.at_ hM.hR (by intro z; cases z)
      have mLm := ne_of hM.at_ hM.hL (by intro z; cases z)
      have aRm := ne_of ha hM.hR (by intro z; cases z)
      have aLm := ne_of ha hM.hL (by intro z; cases z)
      refine ⟨_, rfl, m, CM, dx, _, _, rfl, hM.at_, D.cl, D.nR, hM.fR, MR, _, rfl, .inl (SqL.of hM.hR), ?_⟩
      refine ⟨_, rfl, m, CM, dx, _, _, rfl, hM.at_, D.cl, D.nN, hM.fN, _, rfl, MN, _, rfl, DPut.t hM.hN (ha' ha) (small1000 (by have := hM.kl; omega)), ?_⟩
      generalize hk' : putK kvs r.key (V.int ((as.map V.ref).length : Int)) = kvs'
      have hkl : kvs'.length ≤ kvs.length + 1 := by rw [← hk']; exact length_putK _ _ _
      have hkv : ∀ k, valV kvs' k = if k = r.key then some (V.int ((as.map V.ref).length : Int)) else valV kvs k := fun k => by rw [← hk']; exact valV_put _ _ _ _
      -- self.rules.append(rule)
      have m1 : (upd H MN (.dT kvs')) m = some (.ins CM dx fs) := by rw [upd_ne mNm]; exact hM.at_
      have r1 : (upd H MN (.dT kvs')) MR = some (.lst (as.map V.ref)) := by rw [upd_ne rNm]; exact hM.hR
      have l1 : (upd H MN (.dT kvs')) ML = some (.lst (ts.map lenV)) := by rw [upd_ne lNm]; exact hM.hL
      have a1 : (upd H MN (.dT kvs')) a = some (.tup r.vals) := by rw [upd_ne aNm]; exact ha
      refine ⟨_, rfl, m, CM, dx, _, _, rfl, m1, D.cl, D.nR, hM.fR, .inl ⟨rfl, _, SqL.of r1⟩, _, rfl, MR, _, _, rfl, rfl, r1, by rw [lenA]; exact small1000 (by omega), ?_⟩
      have m2 : (upd (upd H MN (.dT kvs')) MR (.lst (as.map V.ref ++ [.ref a]))) m = some (.ins CM dx fs) := by rw [upd_ne mRm]; exact m1
      have l2 : (upd (upd H MN (.dT kvs')) MR (.lst (as.map V.ref ++ [.ref a]))) ML = some (.lst (ts.map lenV)) := by rw [upd_ne hM.ne.symm]; exact l1
      have a2 : (upd (upd H MN (.dT kvs')) MR (.lst (as.map V.ref ++ [.ref a]))) a = some (.tup r.vals) := by rw [upd_ne aRm]; exact a1
      refine ⟨_, rfl, m, CM, dx, _, _, rfl, m2, D.cl, D.nL, hM.fL, .inl ⟨rfl, _, SqL.of l2⟩, _, rfl, _, rfl, m, CM, dx, _, _, rfl, m2, D.cl, D.nL, hM.fL, a, ML, ts, r, rfl, .inl a2, l2, ok, fun l hl => hM.sound.le l hl, ?_⟩
      have tl := hM.sound.len
      refine ⟨ML, _, _, rfl, rfl, l2, by rw [List.length_map]; exact small1000 (by omega), ?_⟩
      have tup3 : ∀ {b : Addr} {vs : List V}, H b = some (.tup vs) → (upd (upd (upd H MN (.dT kvs')) MR (.lst (as.map V.ref ++ [.ref a]))) ML (.lst (ts.map lenV ++ [V.int ((made ts r).length : Int)]))) b = some (.tup vs) := fun {b vs} e => by
        rw [upd_ne (ne_of e hM.hL (by intro z; cases z)), upd_ne (ne_of e hM.hR (by intro z; cases z)), upd_ne (ne_of e hM.hN (by intro z; cases z))]
        exact e
      refine ⟨as ++ [a], kvs', rs ++ [r], ts ++ [made ts r], ts.length, rfl, ⟨?_, hM.fR, hM.fL, hM.fN, ?_, ?_, ?_, ?_, ?_, ?_, hM.sound.add ok hl, hM.ne⟩, ⟨[made ts r], rfl⟩, by rw [List.length_append]; exact Nat.lt_succ_self _, tx_end _ _, by rw [List.length_append]; exact Nat.le_refl _, .inr rfl, ?_, tup3 ha, ?_⟩
      · rw [upd_ne mLm]; exact m2
      · rw [upd_ne hM.ne, upd_same, List.map_append]
        rfl
      · rw [upd_same, List.map_append]
        rfl
      · rw [upd_ne lNm.symm, upd_ne rNm.symm, upd_same]
      · have h0 : LT (upd (upd (upd H MN (.dT kvs')) MR (.lst (as.map V.ref ++ [.ref a]))) ML (.lst (ts.map lenV ++ [V.int ((made ts r).length : Int)]))) as (rs.map Rule.vals) := ⟨hM.hA.1, fun k vs e => let ⟨b, e1, e2⟩ := hM.hA.2 k vs e; ⟨b, e1, tup3 e2⟩⟩
        rw [List.map_append]
        exact h0.add (tup3 ha)
      · intro k v hv
        rw [hkv] at hv
        split at hv
        · rename_i ek
          refine ⟨rs.length, r, ?_, ?_, ek.symm⟩
          · rw [← Option.some.inj hv, lenA]
          · rw [List.getElem?_append_right (Nat.le_refl _), Nat.sub_self]
            rfl
        · obtain ⟨i, r', e1, e2, e3⟩ := hM.kv k v hv
          exact ⟨i, r', e1, by rw [List.getElem?_append_left (List.getElem?_eq_some_iff.mp e2).1]; exact e2, e3⟩
      · rw [List.length_append]
        have := hM.kl
        show kvs'.length ≤ rs.length + 1
        omega
      · intro b o h1 h2 h3 eb
        rw [upd_ne h2, upd_ne h1, upd_ne h3]
        exact eb
      · rw [hkv, if_pos rfl, lenA, tl]
  · rintro σ H' ⟨as', kvs', rs', ts', i, rfl, hM', he, hi, ht, hlen, hor, hf, ha2, hv⟩
    have hD : DGet H' MN (.ref a) (some (V.int (i : Int))) := by
      rw [← hv]
      exact DGet.t hM'.hN (ha' ha2)
    exact ⟨_, rfl, m, CM, dx, _, _, rfl, hM'.at_, D.cl, D.nN, hM'.fN, _, rfl, MN, _, rfl, hD, q as' kvs' rs' ts' i H' hM' he hi ht hlen hor hf⟩
end
theorem MakS.tup {CM : Addr} {H H' : Hp} {m dx MR ML MN : Addr} {fs : List (Str × V)} {as : List Addr} {kvs : List (List Key × V)} {rs : List Rule} {ts : List (List Nat)} (h : MakS CM H m dx MR ML MN fs as kvs rs ts) (f : FrM m MR ML MN H H') {b : Addr} {vs : List V} (e : H b = some (.tup vs)) : H' b = some (.tup vs) :=
  f b _ (ne_of e h.at_ (by intro z; cases z)) (ne_of e h.hR (by intro z; cases z)) (ne_of e h.hL (by intro z; cases z)) (ne_of e h.hN (by intro z; cases z)) e
theorem Mkg.tup {CM : Addr} {H H' : Hp} {m MR ML MN : Addr} {rs : List Rule} {ts : List (List Nat)} (h : Mkg CM H m MR ML MN rs ts) (f : FrM m MR ML MN H H') {b : Addr} {vs : List V} (e : H b = some (.tup vs)) : H' b = some (.tup vs) := by
  obtain ⟨dx, as, kvs, q, h, _⟩ := h
  exact h.tup f e
/-- a text stays -/
theorem Mkg.text {C CM : Addr} {H H' : Hp} {m MR ML MN x : Addr} {rs rs0 : List Rule} {ts ts0 : List (List Nat)} (h : Mkg CM H m MR ML MN rs ts) (f : FrM m MR ML MN H H') (t : TextAt C H x rs0 ts0) (hx : x ≠ m) : TextAt C H' x rs0 ts0 := by
  obtain ⟨dx, RU, LE, fs, as, t⟩ := t
  obtain ⟨dx', as', kvs, q, h, _⟩ := h
  have tup : ∀ {b : Addr} {vs : List V}, H b = some (.tup vs) → H' b = some (.tup vs) := fun e => h.tup f e
  exact ⟨dx, RU, LE, fs, as, f x _ hx (ne_of t.at_ h.hR (by intro z; cases z)) (ne_of t.at_ h.hL (by intro z; cases z)) (ne_of t.at_ h.hN (by intro z; cases z)) t.at_, t.fR, t.fE, t.fN, t.m1, t.m2, tup t.hR, tup t.hE, ⟨t.hA.1, fun k vs e => let ⟨a, e1, e2⟩ := t.hA.2 k vs e; ⟨a, e1, tup e2⟩⟩, t.sound⟩
def nums (is : List Nat) : List V := is.map fun (j : Nat) => V.int (j : Int)
theorem nums_len (is : List Nat) : (nums is).length = is.length := List.length_map ..
theorem nums_add (is : List Nat) (j : Nat) : nums is ++ [V.int (j : Int)] = nums (is ++ [j]) := by simp [nums]
theorem nums_at {is : List Nat} {k : Nat} (h : k < is.length) : atI (nums is) (k : Int) = some (.int ((is.getD k 0 : Nat) : Int)) := atI_nat (by
  unfold nums
  rw [List.getElem?_map, List.getD_eq_getElem?_getD, List.getElem?_eq_getElem h]
  rfl)
/-- other numbers for the rules that a rule uses -/
def Rule.ren (is : List Nat) : Rule → Rule
  | .letters z => .letters z
  | .join i j => .join (is.getD i 0) (is.getD j 0)
  | .power i k => .power (is.getD i 0) k
  | .part i a b => .part (is.getD i 0) a b
  | .back i => .back (is.getD i 0)
theorem ren_ok {ts0 ts' : List (List Nat)} {is : List Nat} {k : Nat} {r : Rule} (hk : k ≤ ts0.length) (hl : is.length = k) (hs : ∀ j, j < k → is.getD j 0 < ts'.length ∧ tx ts' (is.getD j 0) = tx ts0 j) (o : Ok (ts0.take k) r) : Ok ts' (r.ren is) ∧ made ts' (r.ren is) = made (ts0.take k) r := by
  have lt : (ts0.take k).length = k := by rw [List.length_take]; omega
  have tk : ∀ {j}, j < (ts0.take k).length → is.getD j 0 < ts'.length ∧ tx ts' (is.getD j 0) = tx (ts0.take k) j := fun {j} h => by
    rw [lt] at h
    obtain ⟨h1, h2⟩ := hs j h
    exact ⟨h1, by rw [h2, tx_take h]⟩
  cases r with
  | letters z => exact ⟨o, rfl⟩
  | join i j =>
    obtain ⟨a1, a2⟩ := tk o.1
    obtain ⟨b1, b2⟩ := tk o.2
    exact ⟨⟨a1, b1⟩, by show tx ts' _ ++ tx ts' _ = tx _ _ ++ tx _ _; rw [a2, b2]⟩
  | power i t =>
    obtain ⟨a1, a2⟩ := tk o.1
    exact ⟨⟨a1, o.2⟩, by show pw (tx ts' _) _ = pw (tx _ _) _; rw [a2]⟩
  | part i a b =>
    obtain ⟨a1, a2⟩ := tk o.1
    exact ⟨⟨a1, o.2.1, by rw [a2]; exact o.2.2⟩, by show sub (tx ts' _) _ _ = sub (tx _ _) _ _; rw [a2]⟩
  | back i =>
    obtain ⟨a1, a2⟩ := tk o
    exact ⟨a1, by show (tx ts' _).reverse = (tx _ _).reverse; rw [a2]⟩
section
variable {P : Program} {w : World} {K : PySem.W.Frag} {mg : Str → Option Value} {base : Heap}
/-! ### Making() -/
def spMakingInit (CM : Addr) : Sp := fun vs H Q _ => ∃ (m dx : Addr), vs = [.ref m] ∧ H m = some (.ins CM dx []) ∧ ∀ (MR ML MN : Addr) (rs : List Rule) (ts : List (List Nat)) (H' : Hp), Mkg CM H' m MR ML MN rs ts → rs.length ≤ 1 → (∀ b o, b ≠ m → H b = some o → H' b = some o) → H MR = none → H ML = none → H MN = none → Q .non H'
theorem scMi : FnScope ["self"] ["self"] (defScope sMakingInit) := ⟨rfl, rfl, rfl, by decide +kernel, rfl, by decide +kernel, by decide +kernel⟩
theorem m_meth (MR ML MN : Addr) : (mF3 MR ML MN).lookup ("number_of" : Str) = none := by
  unfold mF3
  rw [lookup_putF, if_neg (by decide +kernel), lookup_putF, if_neg (by decide +kernel), lookup_putF, if_neg (by decide +kernel)]
  rfl
theorem ok_making_init {CM f : Addr} {fd : FuncData} (F : Fun K "__init__" "Making.__init__" sMakingInit f fd) (D : ClM K CM) (GNo : C8.Met P w K mg base 2 CM "number_of" (spNumberOf CM) []) : FnOk P w K mg base CX0 3 f fd ["self"] (spMakingInit CM) := by
  refine F.ok scMi (fun vs H Q E h => ?_) (fun cdv A outer s H vs Q E hr h => ?_)
  · obtain ⟨m, dx, rfl, _⟩ := h
    rfl
  obtain ⟨m, dx, rfl, hm, q⟩ := h
  refine ⟨_, (pss_cons (ps_fld (pv 0) (pe_lst pa_nil) rfl)
    (pss_cons (ps_fld (pv 0) (pe_lst pa_nil) rfl)
    (pss_cons (ps_fld (pv 0) pe_dnewT rfl)
    (pss_cons (ps_fld (pv 0) (C8.pe_mt GNo hr (by decide) (pv 0) (pa_cons (pe_tup (pa_cons pe_str (pa_cons pe_str pa_nil))) pa_nil)) rfl)
    (pss_one (ps_fld (pv 0) pe_int rfl)))))), ?_⟩
  refine ⟨Nat.zero_le _, fun MR nR => ?_⟩
  have mR := ne_of_none hm nR
  refine ⟨_, rfl, m, CM, dx, [], rfl, (by rw [upd_ne mR]; exact hm), D.cl, D.nR, (by show 0 < 1000; decide), ?_⟩
  refine ⟨Nat.zero_le _, fun ML nL => ?_⟩
  have mL := ne_of_none (upd_same (H := upd H MR (.lst [])) (a := m) (o := .ins CM dx (putF "rules" (.ref MR) []))) nL
  have nL1 : (upd H MR (.lst [])) ML = none := by rw [upd_ne mL.symm] at nL; exact nL
  have RL : MR ≠ ML := ne_of_none upd_same nL1
  have nL0 : H ML = none := by rw [upd_ne RL.symm] at nL1; exact nL1
  refine ⟨_, rfl, m, CM, dx, _, rfl, (by rw [upd_ne mL]; exact upd_same), D.cl, D.nL, (by show 1 < 1000; decide), ?_⟩
  intro MN nN
  have mN := ne_of_none upd_same nN
  rw [upd_ne mN.symm] at nN
  have LN : ML ≠ MN := ne_of_none upd_same nN
  rw [upd_ne LN.symm, upd_ne mN.symm] at nN
  have RN : MR ≠ MN := ne_of_none upd_same nN
  rw [upd_ne RN.symm] at nN
  refine ⟨_, rfl, m, CM, dx, _, rfl, (by rw [upd_ne mN]; exact upd_same), D.cl, D.nN, (by show 2 < 1000; decide), ?_⟩
  generalize hH : upd (upd (upd (upd (upd (upd H MR (.lst [])) m (.ins CM dx (putF "rules" (V.ref MR) []))) ML (.lst [])) m (.ins CM dx (putF "lengths" (V.ref ML) (putF "rules" (V.ref MR) [])))) MN (.dT [])) m (.ins CM dx (putF "numbers" (V.ref MN) (putF "lengths" (V.ref ML) (putF "rules" (V.ref MR) [])))) = H1
  have M1 : MakS CM H1 m dx MR ML MN (mF3 MR ML MN) [] [] [] [] := by
    rw [← hH]
    refine ⟨upd_same, mF3_R _ _ _, mF3_L _ _ _, mF3_N _ _ _, ?_, ?_, ?_, LT.nil, fun k v e => (by cases e), Nat.le_refl _, ⟨rfl, fun k r h => by simp at h, fun l h => by cases h⟩, RL⟩
    · rw [upd_ne mR.symm, upd_ne RN, upd_ne mR.symm, upd_ne RL, upd_ne mR.symm, upd_same]
      rfl
    · rw [upd_ne mL.symm, upd_ne LN, upd_ne mL.symm, upd_same]
      rfl
    · rw [upd_ne mN.symm, upd_same]
  have k1 : ∀ b o, b ≠ m → H b = some o → H1 b = some o := fun b o hb e => by
    rw [← hH, upd_ne hb, upd_ne (ne_of_none e nN), upd_ne hb, upd_ne (ne_of_none e nL0), upd_ne hb, upd_ne (ne_of_none e nR)]
    exact e

  refine ⟨_, rfl, m, dx, _, rfl, M1.at_, m_meth _ _ _, by show 2 ≤ sizeLine; decide, fun a na => ?_⟩
  have sa := same_new (o := .tup [.str "letters", .str ""]) na
  have M2 := M1.same sa
  have ea : (upd H1 a (.tup [.str "letters", .str ""])) a = some (.tup (Rule.letters []).vals) := by
    rw [upd_same]
    show _ = some (HO.tup [.str "letters", .str (S [])])
    rw [← S_nil]
  refine ⟨m, a, dx, MR, ML, MN, _, [], [], [], [], .letters [], rfl, M2, ea, ⟨by decide, fun c h => by cases h⟩, by decide, by decide, fun as' kvs' rs' ts' i H2 M3 ex hi ht hl hor f3 => ?_⟩
  have tl := M3.sound.len
  have hl1 : rs'.length = 1 := by
    have : rs'.length ≤ 1 := hl
    omega
  have i0 : i = 0 := by omega
  subst i0
  have k2 : ∀ b o, b ≠ m → H b = some o → H2 b = some o := fun b o hb e => f3 b o (ne_of_none e nR) (ne_of_none e nL0) (ne_of_none e nN) (sa _ _ (k1 b o hb e))
  refine ⟨_, rfl, m, CM, dx, _, rfl, M3.at_, D.cl, D.nO, (by rw [mF3_eq]; show 3 < 1000; decide), ?_⟩
  refine ⟨_, rfl, m, CM, dx, _, rfl, upd_same, D.cl, D.nM, ?_, ?_⟩
  · show (putF "nothing" (V.int ((0 : Nat) : Int)) (mF3 MR ML MN)).length < 1000
    rw [mF3_eq]
    show (if ("rules" : Str) = "nothing" then _ else (("rules" : Str), V.ref MR) :: (if ("lengths" : Str) = "nothing" then _ else (("lengths" : Str), V.ref ML) :: (if ("numbers" : Str) = "nothing" then _ else (("numbers" : Str), V.ref MN) :: [(("nothing" : Str), V.int ((0 : Nat) : Int))]))).length < 1000
    rw [if_neg m_ro, if_neg m_lo, if_neg m_no]
    show 4 < 1000
    decide
  rw [upd_upd]
  have M4 : MakS CM (upd H2 m (.ins CM dx (mF MR ML MN 0))) m dx MR ML MN (mF MR ML MN 0) as' kvs' rs' ts' := M3.mark (mF_R _ _ _ _) (mF_L _ _ _ _) (mF_N _ _ _ _)
  exact q MR ML MN rs' ts' _ ⟨dx, as', kvs', 0, M4, by omega, by rw [ht]; rfl, Int.le_refl _⟩ (by omega) (fun b o hb e => by rw [upd_ne hb]; exact k2 b o hb e) nR nL0 nN
end
section
variable {P : Program} {w : World} {K : PySem.W.Frag} {mg : Str → Option Value} {base : Heap}
/-! ### renumbered -/
def spRenumbered : Sp := fun vs H Q _ => ∃ (a NL : Addr) (is : List Nat) (tk : List (List Nat)) (r : Rule), vs = [.ref a, .ref NL] ∧ H a = some (.tup r.vals) ∧ H NL = some (.lst (nums is)) ∧ Ok tk r ∧ tk.length = is.length ∧ ∀ b H', Same H H' → H' b = some (.tup (r.ren is).vals) → Q (.ref b) H'
theorem scRn : FnScope ["rule", "numbers", "word"] ["rule", "numbers"] (defScope sRenumbered) := ⟨rfl, rfl, rfl, by decide +kernel, rfl, by decide +kernel, by decide +kernel⟩
theorem ok_renumbered {f : Addr} {fd : FuncData} (F : Fun K "renumbered" "renumbered" sRenumbered f fd) (hm : mg "renumbered" = some (.ref f)) (b : Binds K fd ["rule", "numbers"] []) : Cal P w K mg base 1 "renumbered" spRenumbered [] := by
  refine mkCal F hm b scRn (fun vs H Q E h => ?_) (fun cdv A outer s H vs Q E hr h => ?_)
  · obtain ⟨a, NL, is, tk, r, rfl, _⟩ := h
    rfl
  obtain ⟨a, NL, is, tk, r, rfl, ha, hN, ok, hl, q⟩ := h
  refine ⟨_, (pss_cons (ps_set (i := 2) scRn.nd rfl (.inl rfl) (pe_ix ix_tup (pv 0) pe_int (fun _ _ => rfl)))
    (pss_cons (ps_if (pt_cmpR op_eq (pv 2) pe_str (nomark _)) (pss_one (ps_ret (pv 0))) pss_nil)
    (pss_cons (ps_if (pt_cmpR op_eq (pv 2) pe_str (nomark _)) (pss_one (ps_ret (pe_tup (pa_cons (pv 2) (pa_cons (pe_ix ix_list (pv 1) (pe_ix ix_tup (pv 0) pe_int (fun _ _ => rfl)) (fun _ _ => rfl)) (pa_cons (pe_ix ix_list (pv 1) (pe_ix ix_tup (pv 0) pe_int (fun _ _ => rfl)) (fun _ _ => rfl)) pa_nil)))))) pss_nil)
    (pss_one (ps_ret (pe_tup (pa_cons (pv 2) (pa_cons (pe_ix ix_list (pv 1) (pe_ix ix_tup (pv 0) pe_int (fun _ _ => rfl)) (fun _ _ => rfl)) (StX.pa_star (pe_slice sl_tupA (pv 0) (po_some pe_int) po_none) pa_nil))))))))), ?_⟩
  have hA : SqT K H a r.vals := SqT.of ha
  have hL : SqL K H NL (nums is) := SqL.of hN
  have fin : ∀ (r' : Rule) (vs : List V), vs = r'.vals → r' = r.ren is → vs.length ≤ sizeLine ∧ ∀ p, H p = none → Q (.ref p) (upd H p (.tup vs)) := fun r' vs e1 e2 => by
    subst e1 e2
    exact ⟨Nat.le_trans (Rule.vals_len _) (by decide), fun p np => q p _ (same_new np) upd_same⟩
  have fin2 : ∀ (r' : Rule) (vs : List V) (H1 : Hp), Same H H1 → vs = r'.vals → r' = r.ren is → vs.length ≤ sizeLine ∧ ∀ p, H1 p = none → Q (.ref p) (upd H1 p (.tup vs)) := fun r' vs H1 s1 e1 e2 => by
    subst e1 e2
    exact ⟨Nat.le_trans (Rule.vals_len _) (by decide), fun p np => q p _ (s1.trans (same_new np)) upd_same⟩
  cases r with
  | letters z =>
    refine ⟨_, rfl, a, _, 0, _, rfl, rfl, hA, atI_nat (j := 0) rfl, ?_⟩
    refine ⟨_, rfl, rfl, _, rfl, ifT (by decide +kernel) ?_⟩
    exact ⟨_, rfl, q a H (Same.refl H) ha⟩
  | join i j =>
    refine ⟨_, rfl, a, _, 0, _, rfl, rfl, hA, atI_nat (j := 0) rfl, ?_⟩
    refine ⟨_, rfl, rfl, _, rfl, ifF (by decide +kernel) ?_⟩
    refine ⟨_, rfl, rfl, _, rfl, ifT (by decide +kernel) ?_⟩
    refine ⟨_, rfl, _, rfl, _, rfl, a, _, 1, _, rfl, rfl, hA, atI_nat (j := 1) rfl, NL, _, (i : Int), _, rfl, rfl, hL, nums_at (by rw [← hl]; exact ok.1), ?_⟩
    refine ⟨_, rfl, _, rfl, a, _, 2, _, rfl, rfl, hA, atI_nat (j := 2) rfl, NL, _, (j : Int), _, rfl, rfl, hL, nums_at (by rw [← hl]; exact ok.2), ?_⟩
    exact fin (.join (is.getD i 0) (is.getD j 0)) _ rfl rfl
  | power i k =>
    refine ⟨_, rfl, a, _, 0, _, rfl, rfl, hA, atI_nat (j := 0) rfl, ?_⟩
    refine ⟨_, rfl, rfl, _, rfl, ifF (by decide +kernel) ?_⟩
    refine ⟨_, rfl, rfl, _, rfl, ifF (by decide +kernel) ?_⟩
    refine ⟨_, rfl, _, rfl, _, rfl, a, _, 1, _, rfl, rfl, hA, atI_nat (j := 1) rfl, NL, _, (i : Int), _, rfl, rfl, hL, nums_at (by rw [← hl]; exact ok.1), ?_⟩
    refine ⟨_, rfl, 2, rfl, a, _, rfl, hA, fun z => absurd z (by show ¬ (HT.sIx 3 0 (some 2) = 0 ∧ HT.sIx 3 3 none = 3); decide), fun _ p np => ?_⟩
    exact ⟨p, _, rfl, .inl (SqT.of upd_same), fin2 (.power (is.getD i 0) k) _ _ (same_new np) rfl rfl⟩
  | part i x y =>
    refine ⟨_, rfl, a, _, 0, _, rfl, rfl, hA, atI_nat (j := 0) rfl, ?_⟩
    refine ⟨_, rfl, rfl, _, rfl, ifF (by decide +kernel) ?_⟩
    refine ⟨_, rfl, rfl, _, rfl, ifF (by decide +kernel) ?_⟩
    refine ⟨_, rfl, _, rfl, _, rfl, a, _, 1, _, rfl, rfl, hA, atI_nat (j := 1) rfl, NL, _, (i : Int), _, rfl, rfl, hL, nums_at (by rw [← hl]; exact ok.1), ?_⟩
    refine ⟨_, rfl, 2, rfl, a, _, rfl, hA, fun z => absurd z (by show ¬ (HT.sIx 4 0 (some 2) = 0 ∧ HT.sIx 4 4 none = 4); decide), fun _ p np => ?_⟩
    exact ⟨p, _, rfl, .inl (SqT.of upd_same), fin2 (.part (is.getD i 0) x y) _ _ (same_new np) rfl rfl⟩
  | back i =>
    refine ⟨_, rfl, a, _, 0, _, rfl, rfl, hA, atI_nat (j := 0) rfl, ?_⟩
    refine ⟨_, rfl, rfl, _, rfl, ifF (by decide +kernel) ?_⟩
    refine ⟨_, rfl, rfl, _, rfl, ifF (by decide +kernel) ?_⟩
    refine ⟨_, rfl, _, rfl, _, rfl, a, _, 1, _, rfl, rfl, hA, atI_nat (j := 1) rfl, NL, _, (i : Int), _, rfl, rfl, hL, nums_at (by rw [← hl]; exact ok), ?_⟩
    refine ⟨_, rfl, 2, rfl, a, _, rfl, hA, fun z => absurd z (by show ¬ (HT.sIx 2 0 (some 2) = 0 ∧ HT.sIx 2 2 none = 2); decide), fun _ p np => ?_⟩
    exact ⟨p, _, rfl, .inl (SqT.of upd_same), fin2 (.back (is.getD i 0)) _ _ (same_new np) rfl rfl⟩
/-! ### number_of, of a making that is ready -/
theorem nf_number (MR ML MN : Addr) (q : Int) : (mF MR ML MN q).lookup ("number_of" : Str) = none := mF_no _ _ _ _ (by decide +kernel) (by decide +kernel) (by decide +kernel) (by decide +kernel) (by decide +kernel)
theorem number_mk {CM m a dx MR ML MN : Addr} {H : Hp} {as : List Addr} {kvs : List (List Key × V)} {rs : List Rule} {ts : List (List Nat)} {z : Int} {r : Rule} {Q : VK} {E : XK} (hM : MakS CM H m dx MR ML MN (mF MR ML MN z) as kvs rs ts) (h0 : 0 < ts.length) (h1 : tx ts 0 = []) (hz : 0 ≤ z) (ha : H a = some (.tup r.vals)) (ok : Ok ts r) (hl : (made ts r).length ≤ 1000000000000) (h9 : rs.length ≤ 900)
    (q : ∀ (rs' : List Rule) (ts' : List (List Nat)) (i : Nat) (H' : Hp), Mkg CM H' m MR ML MN rs' ts' → Ext ts ts' → i < ts'.length → tx ts' i = made ts r → rs'.length ≤ rs.length + 1 → Fr3 MR ML MN H H' → Q (.int (i : Int)) H') : spNumberOf CM [.ref m, .ref a] H Q E :=
  ⟨m, a, dx, MR, ML, MN, _, as, kvs, rs, ts, r, rfl, hM, ha, ok, hl, h9, fun as' kvs' rs' ts' i H' hM' ex hi ht hl' _ f => q rs' ts' i H' ⟨dx, as', kvs', z, hM', Nat.lt_of_lt_of_le h0 ex.len, by rw [ex.tx h0, h1], hz⟩ ex hi ht hl' f⟩
/-! ### part -/
def spPart (CM : Addr) : Sp := fun vs H Q _ => ∃ (m MR ML MN : Addr) (rs : List Rule) (ts : List (List Nat)) (i a b : Nat), vs = [.ref m, .int (i : Int), .int (a : Int), .int (b : Int)] ∧ Mkg CM H m MR ML MN rs ts ∧ i < ts.length ∧ a ≤ b ∧ b ≤ (tx ts i).length ∧ rs.length ≤ 900 ∧
  ∀ (rs' : List Rule) (ts' : List (List Nat)) (j : Nat) (H' : Hp), Mkg CM H' m MR ML MN rs' ts' → Ext ts ts' → j < ts'.length → tx ts' j = sub (tx ts i) a b → rs'.length ≤ rs.length + 1 → FrM m MR ML MN H H' → Q (.int (j : Int)) H'
theorem scPt : FnScope ["self", "number", "start", "stop"] ["self", "number", "start", "stop"] (defScope sMakingPart) := ⟨rfl, rfl, rfl, by decide +kernel, rfl, by decide +kernel, by decide +kernel⟩
theorem ok_part {CM f : Addr} {fd : FuncData} (F : Fun K "part" "Making.part" sMakingPart f fd) (T : Txt mg) (D : ClM K CM) (GNo : C8.Met P w K mg base 2 CM "number_of" (spNumberOf CM) []) : FnOk P w K mg base CX0 3 f fd ["self", "number", "start", "stop"] (spPart CM) := by
  refine F.ok scPt (fun vs H Q E h => ?_) (fun cdv A outer s H vs Q E hr h => ?_)
  · obtain ⟨m, MR, ML, MN, rs, ts, i, a, b, rfl, _⟩ := h
    rfl
  obtain ⟨m, MR, ML, MN, rs, ts, i, a, b, rfl, hM, hi, hab, hb, h9, q⟩ := h
  refine ⟨_, (pss_cons (ps_if (pt_cmpR op_eq (pv 2) (pv 3) (nomark _)) (pss_one (ps_ret (pe_fld (pv 0) rfl))) pss_nil)
    (pss_cons (ps_if (pt_cmpR op_eq (pe_op op_sub (pv 3) (pv 2)) (pe_ix ix_list (pe_fld (pv 0) rfl) (pv 1) (fun _ _ => rfl)) (nomark _)) (pss_one (ps_ret (pv 1))) pss_nil)
    (pss_one (ps_ret (C8.pe_mt GNo hr (by decide) (pv 0) (pa_cons (pe_tup (pa_cons pe_str (pa_cons (pv 1) (pa_cons (pv 2) (pa_cons (pv 3) pa_nil))))) pa_nil)))))), ?_⟩
  have hM' := hM
  obtain ⟨dx, as, kvs, z, M, h0, h1, hz⟩ := hM'
  refine ⟨_, rfl, _, rfl, rfl, _, rfl, ?_⟩
  refine ite2 (fun e => ?_) (fun e => ?_)
  · have e1 : (a : Int) = (b : Int) := V.int.inj (of_decide_eq_true e)
    have e2 : a = b := by omega
    subst e2
    refine ⟨_, rfl, m, CM, dx, _, _, rfl, M.at_, D.cl, D.nO, mF_O _ _ _ _, ?_⟩
    exact q rs ts 0 H hM (Ext.refl ts) h0 (by rw [h1, sub_nil]) (Nat.le_succ _) FrM.refl
  have e1 : a ≠ b := fun h => e (by rw [h]; exact decide_eq_true rfl)
  refine ⟨_, rfl, _, rfl, _, _, rfl, rfl, _, rfl, m, CM, dx, _, _, rfl, M.at_, D.cl, D.nL, mF_L _ _ _ _, _, rfl, ML, _, (i : Int), _, rfl, rfl, SqL.of M.hL, lenV_at hi, rfl, _, rfl, ?_⟩
  refine ite2 (fun e => ?_) (fun e => ?_)
  · have e2 : (b : Int) - (a : Int) = ((tx ts i).length : Int) := V.int.inj (of_decide_eq_true e)
    have e3 : a = 0 := by omega
    have e4 : b = (tx ts i).length := by omega
    subst e3 e4
    exact ⟨_, rfl, q rs ts i H hM (Ext.refl ts) hi (by rw [sub_all]) (Nat.le_succ _) FrM.refl⟩
  · refine ⟨_, rfl, m, dx, _, rfl, M.at_, nf_number _ _ _ _, _, rfl, _, rfl, _, rfl, by show 4 ≤ sizeLine; decide, fun t nt => ?_⟩
    have st := same_new (o := .tup [V.str "part", V.int (i : Int), V.int (a : Int), V.int (b : Int)]) nt
    exact number_mk (E := C8.E0) (r := .part i a b) (M.same st) h0 h1 hz upd_same ⟨hi, hab, hb⟩ (by show (sub (tx ts i) a b).length ≤ _; rw [sub_len hb]; have := M.sound.big hi; omega) h9 fun rs' ts' j H' M' ex hj ht hl f => q rs' ts' j H' M' ex hj ht hl ((Same.frM st).trans f.frM)
/-! ### turned -/
def spTurned (CM : Addr) : Sp := fun vs H Q _ => ∃ (m MR ML MN : Addr) (rs : List Rule) (ts : List (List Nat)) (i : Nat), vs = [.ref m, .int (i : Int)] ∧ Mkg CM H m MR ML MN rs ts ∧ i < ts.length ∧ rs.length ≤ 900 ∧
  ∀ (rs' : List Rule) (ts' : List (List Nat)) (j : Nat) (H' : Hp), Mkg CM H' m MR ML MN rs' ts' → Ext ts ts' → j < ts'.length → tx ts' j = (tx ts i).reverse → rs'.length ≤ rs.length + 1 → FrM m MR ML MN H H' → Q (.int (j : Int)) H'
theorem scTn : FnScope ["self", "number"] ["self", "number"] (defScope sMakingTurned) := ⟨rfl, rfl, rfl, by decide +kernel, rfl, by decide +kernel, by decide +kernel⟩
theorem ok_turned {CM f : Addr} {fd : FuncData} (F : Fun K "turned" "Making.turned" sMakingTurned f fd) (T : Txt mg) (D : ClM K CM) (GNo : C8.Met P w K mg base 2 CM "number_of" (spNumberOf CM) []) : FnOk P w K mg base CX0 3 f fd ["self", "number"] (spTurned CM) := by
  refine F.ok scTn (fun vs H Q E h => ?_) (fun cdv A outer s H vs Q E hr h => ?_)
  · obtain ⟨m, MR, ML, MN, rs, ts, i, rfl, _⟩ := h
    rfl
  obtain ⟨m, MR, ML, MN, rs, ts, i, rfl, hM, hi, h9, q⟩ := h
  refine ⟨_, (pss_one (ps_ret (C8.pe_mt GNo hr (by decide) (pv 0) (pa_cons (pe_tup (pa_cons pe_str (pa_cons (pv 1) pa_nil))) pa_nil)))), ?_⟩
  obtain ⟨dx, as, kvs, z, M, h0, h1, hz⟩ := hM
  refine ⟨_, rfl, m, dx, _, rfl, M.at_, nf_number _ _ _ _, _, rfl, by show 2 ≤ sizeLine; decide, fun t nt => ?_⟩
  have st := same_new (o := .tup [V.str "back", V.int (i : Int)]) nt
  exact number_mk (E := C8.E0) (r := .back i) (M.same st) h0 h1 hz upd_same hi (by show (tx ts i).reverse.length ≤ _; rw [List.length_reverse]; exact M.sound.big hi) h9 fun rs' ts' j H' M' ex hj ht hl f => q rs' ts' j H' M' ex hj ht hl ((Same.frM st).trans f.frM)
/-! ### power -/
def spPower (CM : Addr) : Sp := fun vs H Q _ => ∃ (m MR ML MN : Addr) (rs : List Rule) (ts : List (List Nat)) (i k : Nat), vs = [.ref m, .int (i : Int), .int (k : Int)] ∧ Mkg CM H m MR ML MN rs ts ∧ i < ts.length ∧ k ≤ 1000000000000 ∧ k * (tx ts i).length ≤ 1000000000000 ∧ rs.length ≤ 900 ∧
  ∀ (rs' : List Rule) (ts' : List (List Nat)) (j : Nat) (H' : Hp), Mkg CM H' m MR ML MN rs' ts' → Ext ts ts' → j < ts'.length → tx ts' j = pw (tx ts i) k → rs'.length ≤ rs.length + 1 → FrM m MR ML MN H H' → Q (.int (j : Int)) H'
theorem scPw : FnScope ["self", "number", "times"] ["self", "number", "times"] (defScope sMakingPower) := ⟨rfl, rfl, rfl, by decide +kernel, rfl, by decide +kernel, by decide +kernel⟩
theorem ok_power {CM f : Addr} {fd : FuncData} (F : Fun K "power" "Making.power" sMakingPower f fd) (T : Txt mg) (D : ClM K CM) (GNo : C8.Met P w K mg base 2 CM "number_of" (spNumberOf CM) []) : FnOk P w K mg base CX0 3 f fd ["self", "number", "times"] (spPower CM) := by
  refine F.ok scPw (fun vs H Q E h => ?_) (fun cdv A outer s H vs Q E hr h => ?_)
  · obtain ⟨m, MR, ML, MN, rs, ts, i, k, rfl, _⟩ := h
    rfl
  obtain ⟨m, MR, ML, MN, rs, ts, i, k, rfl, hM, hi, hk, hl, h9, q⟩ := h
  refine ⟨_, (pss_one (ps_ret (pe_ifExp (pt_cmpR op_eq (pv 2) pe_int (nomark _)) (pv 1) (C8.pe_mt GNo hr (by decide) (pv 0) (pa_cons (pe_tup (pa_cons pe_str (pa_cons (pv 1) (pa_cons (pv 2) pa_nil)))) pa_nil))))), ?_⟩
  have hM' := hM
  obtain ⟨dx, as, kvs, z, M, h0, h1, hz⟩ := hM'
  refine ⟨_, rfl, rfl, _, rfl, ?_⟩
  refine ite2 (fun e => ?_) (fun e => ?_)
  · have e1 : (k : Int) = 1 := V.int.inj (of_decide_eq_true e)
    have e2 : k = 1 := by omega
    subst e2
    exact ⟨_, rfl, q rs ts i H hM (Ext.refl ts) hi (by rw [pw_one]) (Nat.le_succ _) FrM.refl⟩
  · refine ⟨_, rfl, m, dx, _, rfl, M.at_, nf_number _ _ _ _, _, rfl, _, rfl, by show 3 ≤ sizeLine; decide, fun t nt => ?_⟩
    have st := same_new (o := .tup [V.str "power", V.int (i : Int), V.int (k : Int)]) nt
    exact number_mk (E := C8.E0) (r := .power i k) (M.same st) h0 h1 hz upd_same ⟨hi, hk⟩ (by show (pw (tx ts i) k).length ≤ _; rw [pw_len]; exact hl) h9 fun rs' ts' j H' M' ex hj ht hl f => q rs' ts' j H' M' ex hj ht hl ((Same.frM st).trans f.frM)
end
theorem nums_last {is : List Nat} (h : 1 ≤ is.length) : atI (nums is) (-1) = some (.int ((is.getD (is.length - 1) 0 : Nat) : Int)) := by
  have hd : is ≠ [] := fun e => by rw [e] at h; exact absurd h (by decide)
  have e : is = is.dropLast ++ [is.getD (is.length - 1) 0] := by
    have e1 := (List.dropLast_concat_getLast hd).symm
    rw [List.getLast_eq_getElem] at e1
    rw [List.getD_eq_getElem?_getD, List.getElem?_eq_getElem (by omega : is.length - 1 < is.length)]
    exact e1
  have e2 : nums is = nums is.dropLast ++ [V.int ((is.getD (is.length - 1) 0 : Nat) : Int)] := by
    rw [nums_add, ← e]
  rw [e2]
  exact atI_last _ _
theorem getD_snoc (is : List Nat) (j k : Nat) : (is ++ [j]).getD k 0 = if k < is.length then is.getD k 0 else if k = is.length then j else 0 := by
  rw [List.getD_eq_getElem?_getD, List.getElem?_append]
  split
  · rw [List.getD_eq_getElem?_getD]
  · split
    · rename_i h
      rw [h, Nat.sub_self]
      rfl
    · rename_i h1 h2
      rw [List.getElem?_eq_none (by simp; omega)]
      rfl
theorem Sound.sl {rs : List Rule} {ts : List (List Nat)} (s : Sound rs ts) : ∀ (n k : Nat), k < n → k < ts.length → ∀ c ∈ K4.tx ts k, c ∈ SL := by
  intro n
  induction n with
  | zero => intro k h; exact absurd h (Nat.not_lt_zero _)
  | succ n ih =>
    intro k hk hlt c hc
    obtain ⟨r, er⟩ := s.rule hlt
    rw [s.tx er] at hc
    have o := (s.ok k r er).1
    cases r with
    | letters z => exact o.2 c hc
    | join i j =>
      obtain ⟨a1, a2, a3⟩ := s.tk er o.1
      obtain ⟨b1, b2, b3⟩ := s.tk er o.2
      rcases List.mem_append.mp hc with h | h
      · rw [a3] at h
        exact ih i (by omega) a2 c h
      · rw [b3] at h
        exact ih j (by omega) b2 c h
    | power i t =>
      obtain ⟨a1, a2, a3⟩ := s.tk er o.1
      have hc' : c ∈ (List.replicate t (K4.tx (ts.take k) i)).flatten := hc
      obtain ⟨l, hl, hcl⟩ := List.mem_flatten.mp hc'
      rw [List.eq_of_mem_replicate hl, a3] at hcl
      exact ih i (by omega) a2 c hcl
    | part i a b =>
      obtain ⟨a1, a2, a3⟩ := s.tk er o.1
      have hc' : c ∈ ((K4.tx (ts.take k) i).take b).drop a := hc
      have := List.mem_of_mem_take (List.mem_of_mem_drop hc')
      rw [a3] at this
      exact ih i (by omega) a2 c this
    | back i =>
      obtain ⟨a1, a2, a3⟩ := s.tk er o
      have hc' : c ∈ (K4.tx (ts.take k) i).reverse := hc
      rw [List.mem_reverse, a3] at hc'
      exact ih i (by omega) a2 c hc'
def flatOf (ts : List (List Nat)) (is : List Nat) : List Nat := (is.map (tx ts)).flatten
theorem flat_snoc (ts : List (List Nat)) (is : List Nat) (j : Nat) : flatOf ts (is ++ [j]) = flatOf ts is ++ tx ts j := by simp [flatOf]
theorem flat_sl {rs : List Rule} {ts : List (List Nat)} (s : Sound rs ts) {is : List Nat} (h : ∀ j ∈ is, j < ts.length) : ∀ c ∈ flatOf ts is, c ∈ SL := by
  intro c hc
  obtain ⟨l, hl, hcl⟩ := List.mem_flatten.mp hc
  obtain ⟨j, hj, rfl⟩ := List.mem_map.mp hl
  exact s.sl ts.length j (h j hj) (h j hj) c hcl
theorem flat_take_le (ts : List (List Nat)) (is : List Nat) (n : Nat) : (flatOf ts (is.take n)).length ≤ (flatOf ts is).length := by
  have e : flatOf ts is = flatOf ts (is.take n) ++ flatOf ts (is.drop n) := by
    unfold flatOf
    rw [← List.flatten_append, ← List.map_append, List.take_append_drop]
  rw [e, List.length_append]
  omega
theorem FrM.none {m MR ML MN x : Addr} {H H' : Hp} (f : FrM m MR ML MN H H') (n : H' x = Option.none) (h1 : H' m ≠ Option.none) (h2 : H' MR ≠ Option.none) (h3 : H' ML ≠ Option.none) (h4 : H' MN ≠ Option.none) : H x = Option.none := by
  cases e : H x with
  | none => rfl
  | some o =>
    have := f x o (fun z => h1 (z ▸ n)) (fun z => h2 (z ▸ n)) (fun z => h3 (z ▸ n)) (fun z => h4 (z ▸ n)) e
    rw [n] at this
    cases this
theorem MakS.none {CM : Addr} {H H' : Hp} {m dx MR ML MN x : Addr} {fs : List (Str × V)} {as : List Addr} {kvs : List (List Key × V)} {rs : List Rule} {ts : List (List Nat)} (h : MakS CM H' m dx MR ML MN fs as kvs rs ts) (f : FrM m MR ML MN H H') (n : H' x = Option.none) : H x = Option.none :=
  f.none n (by rw [h.at_]; exact fun z => by cases z) (by rw [h.hR]; exact fun z => by cases z) (by rw [h.hL]; exact fun z => by cases z) (by rw [h.hN]; exact fun z => by cases z)
section
variable {P : Program} {w : World} {K : PySem.W.Frag} {mg : Str → Option Value} {base : Heap}
/-! ### taken_in -/
def spTakenIn (C CM : Addr) : Sp := fun vs H Q _ => ∃ (m x MR ML MN : Addr) (rs rs0 : List Rule) (ts ts0 : List (List Nat)), vs = [.ref m, .ref x] ∧ Mkg CM H m MR ML MN rs ts ∧ TextAt C H x rs0 ts0 ∧ x ≠ m ∧ 1 ≤ ts0.length ∧ rs.length + rs0.length ≤ 900 ∧
  ∀ (rs' : List Rule) (ts' : List (List Nat)) (j : Nat) (H' : Hp), Mkg CM H' m MR ML MN rs' ts' → Ext ts ts' → j < ts'.length → tx ts' j = tx ts0 (ts0.length - 1) → rs'.length ≤ rs.length + rs0.length → FrM m MR ML MN H H' → Q (.int (j : Int)) H'
theorem scTi : FnScope ["self", "text", "numbers", "rule"] ["self", "text"] (defScope sMakingTakenIn) := ⟨rfl, rfl, rfl, by decide +kernel, rfl, by decide +kernel, by decide +kernel⟩
theorem ok_taken_in {C CM f : Addr} {fd : FuncData} (F : Fun K "taken_in" "Making.taken_in" sMakingTakenIn f fd) (T : Txt mg) (hmax : mg "max" = none) (Dc : Cl K C) (D : ClM K CM) (GRn : Cal P w K mg base 1 "renumbered" spRenumbered []) (GNo : C8.Met P w K mg base 2 CM "number_of" (spNumberOf CM) []) : FnOk P w K mg base CX0 3 f fd ["self", "text"] (spTakenIn C CM) := by
  refine F.ok scTi (fun vs H Q E h => ?_) (fun cdv A outer s H vs Q E hr h => ?_)
  · obtain ⟨m, x, MR, ML, MN, rs, rs0, ts, ts0, rfl, _⟩ := h
    rfl
  obtain ⟨m, x, MR, ML, MN, rs, rs0, ts, ts0, rfl, hM, hX, hxm, h1, h9, q⟩ := h
  refine ⟨_, (pss_cons (ps_fld (pv 0) (pe_callB (call_max2 rfl) (by rfl) hmax (by decide +kernel) (pa_cons (pe_fld (pv 0) rfl) (pa_cons (pe_callB call_len_seq (by rfl) T.len PySem.boot_len (pa_cons (pe_fld (pv 1) rfl) pa_nil)) pa_nil))) rfl)
    (pss_cons (ps_set (i := 2) scTi.nd rfl (.inl rfl) (pe_lst pa_nil))
    (pss_cons (ps_for PassesOwn.never rfl (pi_list (pe_callTy call_list_of (by rfl) T.list (by decide +kernel) (pa_cons (pe_fld (pv 1) rfl) pa_nil))) (pg_name (i := 3) scTi.nd rfl (.inl rfl)) (pss_one (ps_expr (pe_bm PySem.F.plainAttrs_list PySem.F.slot_list_append PySem.F.type_list_append mt_append (pv 2) (pa_cons (C8.pe_mt GNo hr (by decide) (pv 0) (pa_cons (pe_c GRn hr (by decide) (by rfl) (pa_cons (pv 3) (pa_cons (pv 2) pa_nil))) pa_nil)) pa_nil)))))
    (pss_one (ps_ret (pe_ix ix_list (pv 2) (pe_un un_neg pe_int) (fun _ _ => rfl))))))), ?_⟩
  have hM' := hM
  have hX' := hX
  obtain ⟨dx, as, kvs, z, M, h0, ht0, hz⟩ := hM'
  obtain ⟨dy, RU, LE, fs, as0, hI⟩ := hX'
  have snd0 := hI.sound
  refine ⟨_, rfl, m, CM, dx, _, _, rfl, M.at_, D.cl, D.nM, mF_M _ _ _ _, _, rfl, x, C, dy, _, _, rfl, hI.at_, Dc.cl, Dc.nR, hI.fR, RU, _, rfl, .inr (SqT.of hI.hR), _, _, rfl, ?_⟩
  have lenA : (as0.map V.ref).length = rs0.length := by rw [List.length_map, hI.hA.1, List.length_map]
  rw [lenA]
  obtain ⟨z', ez, hz'⟩ : ∃ z' : Int, (if (rs0.length : Int) > z then (rs0.length : Int) else z) = z' ∧ 0 ≤ z' := ⟨_, rfl, by split <;> omega⟩
  rw [ez]
  refine ⟨_, rfl, m, CM, dx, _, rfl, M.at_, D.cl, D.nM, mF_small _ _ _ _, ?_⟩
  rw [mF_putM]
  have M1 : MakS CM (upd H m (.ins CM dx (mF MR ML MN z'))) m dx MR ML MN (mF MR ML MN z') as kvs rs ts := M.mark (mF_R _ _ _ _) (mF_L _ _ _ _) (mF_N _ _ _ _)
  have f1 : FrM m MR ML MN H (upd H m (.ins CM dx (mF MR ML MN z'))) := fun b o hb _ _ _ e => by rw [upd_ne hb]; exact e
  generalize upd H m (.ins CM dx (mF MR ML MN z')) = H1 at M1 f1 ⊢
  have hM1 : Mkg CM H1 m MR ML MN rs ts := ⟨dx, as, kvs, z', M1, h0, ht0, hz'⟩
  have hX1 := hM.text f1 hX hxm
  refine ⟨Nat.zero_le _, fun NL nL => ?_⟩
  have s2 := same_new (o := .lst []) nL
  have nm := ne_of_none M1.at_ nL
  have nR := ne_of_none M1.hR nL
  have nLn := ne_of_none M1.hL nL
  have nN := ne_of_none M1.hN nL
  have hM2 := hM1.same s2
  have hX2 := hX1.same s2
  have eNL : (upd H1 NL (.lst [])) NL = some (.lst []) := upd_same
  have f2 := f1.trans (Same.frM (m := m) (MR := MR) (ML := ML) (MN := MN) s2)
  have hI2 : TextIs C (upd H1 NL (.lst [])) x rs0 ts0 dy RU LE fs as0 := ⟨f2 x _ hxm (ne_of hI.at_ M.hR (by intro z; cases z)) (ne_of hI.at_ M.hL (by intro z; cases z)) (ne_of hI.at_ M.hN (by intro z; cases z)) hI.at_, hI.fR, hI.fE, hI.fN, hI.m1, hI.m2, hM.tup f2 hI.hR, hM.tup f2 hI.hE, ⟨hI.hA.1, fun k vs e => let ⟨a, e1, e2⟩ := hI.hA.2 k vs e; ⟨a, e1, hM.tup f2 e2⟩⟩, hI.sound⟩
  generalize upd H1 NL (.lst []) = H2 at hM2 hX2 eNL f2 hI2 ⊢
  refine ⟨_, rfl, x, C, dy, _, _, rfl, hI2.at_, Dc.cl, Dc.nR, hI2.fR, RU, _, rfl, .inr (SqT.of hI2.hR), fun LD nD => ?_⟩
  have s3 := same_new (o := .lst (as0.map V.ref)) nD
  have nDN := ne_of_none eNL nD
  have hM3 := hM2.same s3
  have eNL3 := s3 _ _ eNL
  have eLD : (upd H2 LD (.lst (as0.map V.ref))) LD = some (.lst (as0.map V.ref)) := upd_same
  have f3 := f2.trans (Same.frM (m := m) (MR := MR) (ML := ML) (MN := MN) s3)
  have dm : LD ≠ m ∧ LD ≠ MR ∧ LD ≠ ML ∧ LD ≠ MN := by
    obtain ⟨dx2, as2, kvs2, z2, M2, _⟩ := hM2
    exact ⟨(ne_of_none M2.at_ nD).symm, (ne_of_none M2.hR nD).symm, (ne_of_none M2.hL nD).symm, (ne_of_none M2.hN nD).symm⟩
  have nLD : H LD = none := by
    obtain ⟨dx2, as2, kvs2, z2, M2, _⟩ := hM2
    exact M2.none f2 nD
  have nNL : H NL = none := M1.none f1 nL
  generalize upd H2 LD (.lst (as0.map V.ref)) = H3 at hM3 eNL3 eLD f3 ⊢
  have tl0 := snd0.len
  refine ⟨LD, rfl, ⟨_, SqL.of eLD⟩, for_list (K := K) (a := LD) (xs := as0.map V.ref) (fun i σ H' => ∃ (is : List Nat) (rs' : List Rule) (ts' : List (List Nat)) (v3 : Option V), σ = [some (.ref m), some (.ref x), some (.ref NL), v3] ∧ Mkg CM H' m MR ML MN rs' ts' ∧ Ext ts ts' ∧ rs'.length ≤ rs.length + i ∧ is.length = i ∧ (∀ j, j < i → is.getD j 0 < ts'.length ∧ tx ts' (is.getD j 0) = tx ts0 j) ∧ H' NL = some (.lst (nums is)) ∧ H' LD = some (.lst (as0.map V.ref)) ∧ FrM m MR ML MN H H')
    ⟨[], rs, ts, none, rfl, hM3, Ext.refl ts, Nat.le_refl _, rfl, fun j hj => absurd hj (Nat.not_lt_zero _), eNL3, eLD, f3⟩ (fun i σ H' _ ⟨_, _, _, _, _, _, _, _, _, _, _, h, _⟩ => SqL.of h) ?_ ?_⟩
  · rintro i y σ H4 hi ⟨is, rs', ts', v3, rfl, hM4, ex, hl, hli, hs, eN, eD, f4⟩
    have hi2 : i < rs0.length := by
      have := (List.getElem?_eq_some_iff.mp hi).1
      rwa [lenA] at this
    have hi3 : i < ts0.length := by omega
    obtain ⟨r, er⟩ := snd0.rule hi3
    obtain ⟨a, ea, ha⟩ := hI.hA.2 i r.vals (by rw [List.getElem?_map, er]; rfl)
    rw [List.getElem?_map, ea] at hi
    have ey := Option.some.inj hi
    subst ey
    have ha4 := hM.tup f4 ha
    obtain ⟨dx4, as4, kvs4, z4, M4, h04, ht4, hz4⟩ := hM4
    obtain ⟨o1, o2⟩ := ren_ok (by omega) hli hs (snd0.ok i r er).1
    refine ⟨_, rfl, .inl ⟨rfl, _, SqL.of eN⟩, _, rfl, m, dx4, _, rfl, M4.at_, nf_number _ _ _ _, _, rfl, _, rfl, a, NL, is, ts0.take i, r, rfl, ha4, eN, (snd0.ok i r er).1, by rw [List.length_take]; omega, fun b H5 s5 hb => ?_⟩
    refine ⟨m, b, dx4, MR, ML, MN, _, as4, kvs4, rs', ts', r.ren is, rfl, M4.same s5, hb, o1, by rw [o2, ← snd0.tx er]; exact snd0.big hi3, by omega, fun as6 kvs6 rs6 ts6 j H6 M6' ex6 hj hj2 hl6 _ f6 => ?_⟩
    have M6 : Mkg CM H6 m MR ML MN rs6 ts6 := ⟨dx4, as6, kvs6, z4, M6', Nat.lt_of_lt_of_le h04 ex6.len, by rw [ex6.tx h04, ht4], hz4⟩
    have eN6 : H6 NL = some (.lst (nums is)) := f6 NL _ nR.symm nLn.symm nN.symm (s5 _ _ eN)
    have eD6 : H6 LD = some (.lst (as0.map V.ref)) := f6 LD _ dm.2.1 dm.2.2.1 dm.2.2.2 (s5 _ _ eD)
    refine ⟨NL, _, _, rfl, rfl, eN6, by rw [nums_len]; exact small1000 (by omega), ?_⟩
    rw [nums_add]
    refine ⟨is ++ [j], rs6, ts6, _, rfl, M6.updL eN6 nR.symm nLn.symm, ex.trans ex6, by omega, by rw [List.length_append, hli]; rfl, fun t ht => ?_, upd_same, by rw [upd_ne nDN.symm]; exact eD6, fun b o h1 h2 h3 h4 e => ?_⟩
    · rw [getD_snoc]
      by_cases h : t < is.length
      · rw [if_pos h]
        obtain ⟨g1, g2⟩ := hs t (by omega)
        exact ⟨ex6.lt g1, by rw [ex6.tx g1, g2]⟩
      · have et : t = is.length := by omega
        rw [if_neg h, if_pos et]
        refine ⟨hj, ?_⟩
        rw [hj2, o2, ← snd0.tx er, et, hli]
    · rw [upd_ne (ne_of_none e nNL)]
      exact f6 b o h2 h3 h4 (s5 _ _ (f4 b o h1 h2 h3 h4 e))
  · rintro σ H4 ⟨is, rs', ts', v3, rfl, hM4, ex, hl, hli, hs, eN, eD, f4⟩
    rw [lenA] at hl hli hs
    obtain ⟨g1, g2⟩ := hs (is.length - 1) (by omega)
    refine ⟨_, rfl, 1, rfl, NL, _, -1, _, rfl, rfl, SqL.of eN, nums_last (by omega), ?_⟩
    exact q rs' ts' _ H4 hM4 ex g1 (by rw [g2, hli, tl0]) hl f4
/-! ### joined -/
def spJoined (CM : Addr) : Sp := fun vs H Q _ => ∃ (m D MR ML MN : Addr) (rs : List Rule) (ts : List (List Nat)) (is : List Nat), vs = [.ref m, .ref D] ∧ Mkg CM H m MR ML MN rs ts ∧ H D = some (.lst (nums is)) ∧ D ≠ MR ∧ D ≠ ML ∧ (∀ j ∈ is, j < ts.length) ∧ (flatOf ts is).length ≤ 1000000000000 ∧ rs.length + is.length ≤ 900 ∧
  ∀ (rs' : List Rule) (ts' : List (List Nat)) (j : Nat) (H' : Hp), Mkg CM H' m MR ML MN rs' ts' → Ext ts ts' → j < ts'.length → tx ts' j = flatOf ts is → rs'.length ≤ rs.length + is.length → FrM m MR ML MN H H' → Q (.int (j : Int)) H'
theorem scJo : FnScope ["self", "numbers", "joined", "number"] ["self", "numbers"] (defScope sMakingJoined) := ⟨rfl, rfl, rfl, by decide +kernel, rfl, by decide +kernel, by decide +kernel⟩
theorem ok_joined {CM f : Addr} {fd : FuncData} (F : Fun K "joined" "Making.joined" sMakingJoined f fd) (T : Txt mg) (D : ClM K CM) (GNo : C8.Met P w K mg base 2 CM "number_of" (spNumberOf CM) []) : FnOk P w K mg base CX0 3 f fd ["self", "numbers"] (spJoined CM) := by
  refine F.ok scJo (fun vs H Q E h => ?_) (fun cdv A outer s H vs Q E hr h => ?_)
  · obtain ⟨m, D, MR, ML, MN, rs, ts, is, rfl, _⟩ := h
    rfl
  obtain ⟨m, L, MR, ML, MN, rs, ts, is, rfl, hM, hL, nR, nL, hin, htot, h9, q⟩ := h
  refine ⟨_, (pss_cons (ps_set (i := 2) scJo.nd rfl (.inl rfl) (pe_fld (pv 0) rfl))
    (pss_cut (ps_for PassesOwn.never rfl (pi_list (pv 1)) (pg_name (i := 3) scJo.nd rfl (.inl rfl)) (pss_one (ps_if (pt_cmpR op_eq (pe_ix ix_list (pe_fld (pv 0) rfl) (pv 2) (fun _ _ => rfl)) pe_int (nomark _)) (pss_one (ps_set (i := 2) scJo.nd rfl (.inl rfl) (pv 3))) (pss_one (ps_if (pt_truth (pe_ix ix_list (pe_fld (pv 0) rfl) (pv 3) (fun _ _ => rfl)) (by intro _; rfl)) (pss_one (ps_set (i := 2) scJo.nd rfl (.inl rfl) (C8.pe_mt GNo hr (by decide) (pv 0) (pa_cons (pe_tup (pa_cons pe_str (pa_cons (pv 2) (pa_cons (pv 3) pa_nil)))) pa_nil)))) pss_nil)))))
    (pss_one (ps_ret (pv 2))))), ?_⟩
  have hM' := hM
  obtain ⟨dx, as, kvs, z, M, h0, ht0, hz⟩ := hM'
  have Lm := ne_of hL M.at_ (by intro z; cases z)
  have LN := ne_of hL M.hN (by intro z; cases z)
  refine ⟨_, rfl, m, CM, dx, _, _, rfl, M.at_, D.cl, D.nO, mF_O _ _ _ _, ?_⟩
  refine ⟨fun σ H' => ∃ (j : Nat) (rs' : List Rule) (ts' : List (List Nat)) (v3 : Option V), σ = [some (.ref m), some (.ref L), some (.int (j : Int)), v3] ∧ Mkg CM H' m MR ML MN rs' ts' ∧ Ext ts ts' ∧ j < ts'.length ∧ tx ts' j = flatOf ts is ∧ rs'.length ≤ rs.length + is.length ∧ FrM m MR ML MN H H', ?_, ?_⟩
  · refine ⟨_, rfl, L, rfl, ⟨_, SqL.of hL⟩, for_list (K := K) (a := L) (xs := nums is) (fun i σ H' => ∃ (j : Nat) (rs' : List Rule) (ts' : List (List Nat)) (v3 : Option V), σ = [some (.ref m), some (.ref L), some (.int (j : Int)), v3] ∧ Mkg CM H' m MR ML MN rs' ts' ∧ Ext ts ts' ∧ j < ts'.length ∧ tx ts' j = flatOf ts (is.take i) ∧ rs'.length ≤ rs.length + i ∧ FrM m MR ML MN H H' ∧ H' L = some (.lst (nums is)))
      ⟨0, rs, ts, none, rfl, hM, Ext.refl ts, h0, ht0, Nat.le_refl _, FrM.refl, hL⟩ (fun i σ H' _ ⟨_, _, _, _, _, _, _, _, _, _, _, h⟩ => SqL.of h) ?_ ?_⟩
    · rintro i y σ H4 hi ⟨j, rs', ts', v3, rfl, hM4, ex, hj, hj2, hl, f4, hL4⟩
      have hi2 : i < is.length := by
        have := (List.getElem?_eq_some_iff.mp hi).1
        rwa [nums_len] at this
      have ey : y = V.int ((is[i] : Nat) : Int) := by
        unfold nums at hi
        rw [List.getElem?_map, List.getElem?_eq_getElem hi2] at hi
        exact (Option.some.inj hi).symm
      subst ey
      have hn : is[i] < ts.length := hin _ (List.getElem_mem hi2)
      generalize en : is[i] = n at hn
      have etk : flatOf ts (is.take (i + 1)) = flatOf ts (is.take i) ++ tx ts n := by
        rw [List.take_add_one, List.getElem?_eq_getElem hi2, en]
        exact flat_snoc _ _ _
      obtain ⟨dx4, as4, kvs4, z4, M4, h04, ht4, hz4⟩ := id hM4
      refine ⟨_, rfl, m, CM, dx4, _, _, rfl, M4.at_, D.cl, D.nL, mF_L _ _ _ _, _, rfl, ML, _, (j : Int), _, rfl, rfl, SqL.of M4.hL, lenV_at hj, rfl, _, rfl, ?_⟩
      refine ite2 (fun e => ?_) (fun e => ?_)
      · have e1 : ((tx ts' j).length : Int) = 0 := V.int.inj (of_decide_eq_true e)
        have e2 : tx ts' j = [] := List.eq_nil_of_length_eq_zero (by omega)
        refine ⟨_, rfl, n, rs', ts', _, rfl, hM4, ex, ex.lt hn, ?_, by omega, f4, hL4⟩
        rw [ex.tx hn, etk, ← hj2, e2, List.nil_append]
      · refine ⟨_, rfl, m, CM, dx4, _, _, rfl, M4.at_, D.cl, D.nL, mF_L _ _ _ _, _, rfl, ML, _, (n : Int), _, rfl, rfl, SqL.of M4.hL, lenV_at (ex.lt hn), _, rfl, ?_⟩
        rw [ex.tx hn]
        by_cases hz0 : (tx ts n).length = 0
        · refine ifF (by rw [hz0]; rfl) ?_
          refine ⟨j, rs', ts', _, rfl, hM4, ex, hj, ?_, by omega, f4, hL4⟩
          rw [etk, List.eq_nil_of_length_eq_zero hz0, List.append_nil, hj2]
        · refine ifT (bne_iff_ne.mpr (by omega)) ?_
          refine ⟨_, rfl, m, dx4, _, rfl, M4.at_, nf_number _ _ _ _, _, rfl, _, rfl, by show 3 ≤ sizeLine; decide, fun t nt => ?_⟩
          have st := same_new (o := .tup [V.str "join", V.int (j : Int), V.int (n : Int)]) nt
          have em : made ts' (.join j n) = flatOf ts (is.take (i + 1)) := by
            show tx ts' j ++ tx ts' n = _
            rw [hj2, ex.tx hn, etk]
          refine ⟨m, t, dx4, MR, ML, MN, _, as4, kvs4, rs', ts', .join j n, rfl, M4.same st, upd_same, ⟨hj, ex.lt hn⟩, by rw [em]; exact Nat.le_trans (flat_take_le _ _ _) htot, by omega, fun as6 kvs6 rs6 ts6 k H6 M6' ex6 hk hk2 hl6 _ f6 => ?_⟩
          have M6 : Mkg CM H6 m MR ML MN rs6 ts6 := ⟨dx4, as6, kvs6, z4, M6', Nat.lt_of_lt_of_le h04 ex6.len, by rw [ex6.tx h04, ht4], hz4⟩
          exact ⟨k, rs6, ts6, _, rfl, M6, ex.trans ex6, hk, by rw [hk2, em], by omega, f4.trans ((Same.frM st).trans f6.frM), f6 L _ nR nL LN (st _ _ hL4)⟩
    · rintro σ H4 ⟨j, rs', ts', v3, rfl, hM4, ex, hj, hj2, hl, f4, hL4⟩
      rw [nums_len] at hj2 hl
      rw [List.take_length] at hj2
      exact ⟨j, rs', ts', _, rfl, hM4, ex, hj, hj2, hl, f4⟩
  · rintro σ H4 ⟨j, rs', ts', v3, rfl, hM4, ex, hj, hj2, hl, f4⟩
    exact ⟨_, rfl, q rs' ts' j H4 hM4 ex hj hj2 hl f4⟩
end
theorem LT.take {H : Hp} {as : List Addr} {vss : List (List V)} (h : LT H as vss) (n : Nat) : LT H (as.take n) (vss.take n) := by
  refine ⟨by rw [List.length_take, List.length_take, h.1], fun k vs e => ?_⟩
  rw [List.getElem?_take] at e
  split at e
  · rename_i hk
    obtain ⟨a, e1, e2⟩ := h.2 k vs e
    exact ⟨a, by rw [List.getElem?_take, if_pos hk]; exact e1, e2⟩
  · cases e
theorem cut_take {as : List Addr} {n : Nat} (h : n ≤ as.length) : cutV (as.map V.ref) none (some (n : Int)) = (as.take n).map V.ref := by
  unfold cutV
  rw [HT.sIx_none, HT.sIx_nat, List.length_map, Nat.min_eq_left h, List.drop_zero, Nat.sub_zero, List.map_take]
theorem nf_joined (MR ML MN : Addr) (q : Int) : (mF MR ML MN q).lookup ("joined" : Str) = none := mF_no _ _ _ _ (by decide +kernel) (by decide +kernel) (by decide +kernel) (by decide +kernel) (by decide +kernel)
section
variable {P : Program} {w : World} {K : PySem.W.Frag} {mg : Str → Option Value} {base : Heap}
def spMText (C CM : Addr) : Sp := fun vs H Q _ => ∃ (m D MR ML MN : Addr) (rs : List Rule) (ts : List (List Nat)) (is : List Nat), vs = [.ref m, .ref D] ∧ Mkg CM H m MR ML MN rs ts ∧ H D = some (.lst (nums is)) ∧ D ≠ MR ∧ D ≠ ML ∧ (∀ j ∈ is, j < ts.length) ∧ (flatOf ts is).length ≤ 1000000000000 ∧ rs.length + is.length ≤ 499 ∧
  ∀ (x : Addr) (rs2 : List Rule) (ts2 : List (List Nat)) (H' : Hp), TextAt C H' x rs2 ts2 → 1 ≤ ts2.length → tx ts2 (ts2.length - 1) = flatOf ts is → rs2.length ≤ max 33 (rs.length + is.length) → FrM m MR ML MN H H' → H x = none → Q (.ref x) H'
theorem scMt : FnScope ["self", "numbers", "text", "plain"] ["self", "numbers"] (defScope sMakingText) := ⟨rfl, rfl, rfl, by decide +kernel, rfl, by decide +kernel, by decide +kernel⟩
theorem ok_mtext {C CM f p1 g1 p2 g2 : Addr} {mc : Value} {fd : FuncData} (F : Fun K "text" "Making.text" sMakingText f fd) (T : Txt mg) (gMany : ∃ u, mg "MANY_RULES" = some u ∧ RelV (.int 500) u) (gT : ∃ u, mg "Text" = some u ∧ RelV (.ref C) u) (Dc : Cl K C) (D : ClM K CM)
    (rd : ClX.CRead K C mc) (cm1 : ClX.CMet K C mc "made" p1 g1) (cm2 : ClX.CMet K C mc "of_letters" p2 g2) (FM : FnR P w K mg base CX0 6 g1 (spTextMade C)) (FO : FnR P w K mg base CX0 6 g2 (spOfLetters C))
    (GJo : C8.Met P w K mg base 3 CM "joined" (spJoined CM) []) (GLs : C8.Met P w K mg base 5 C "letters" (spLetters C) []) : FnOk P w K mg base CX0 7 f fd ["self", "numbers"] (spMText C CM) := by
  refine F.ok scMt (fun vs H Q E h => ?_) (fun cdv A outer s H vs Q E hr h => ?_)
  · obtain ⟨m, D, MR, ML, MN, rs, ts, is, rfl, _⟩ := h
    rfl
  obtain ⟨m, L, MR, ML, MN, rs, ts, is, rfl, hM, hL, nR, nL, hin, htot, h9, q⟩ := h
  refine ⟨_, (pss_cons (ps_set (i := 2) scMt.nd rfl (.inl rfl) (ClX.pe_cmeth (C8.pe_gc (by rfl) gT) rd cm1 FM (hr.mono (by decide)) pass0 (pa_cons (pe_slice sl_list (pe_fld (pv 0) rfl) po_none (po_some (pe_op op_add (C8.pe_mt GJo hr (by decide) (pv 0) (pa_cons (pv 1) pa_nil)) pe_int))) pa_nil)))
    (pss_cons (ps_if (pt_cmpR op_le (pe_fld (pv 2) rfl) (C8.pe_gc (by rfl) T.MOST_SPELLED) (nomark _)) (pss_one (ps_ret (ClX.pe_cmeth (C8.pe_gc (by rfl) gT) rd cm2 FO (hr.mono (by decide)) pass0 (pa_cons (C8.pe_mt GLs hr (by decide) (pv 2) (pa_cons pe_int (pa_cons (pe_fld (pv 2) rfl) pa_nil))) pa_nil)))) pss_nil)
    (pss_cons (ps_if (pt_cmpR op_le (pe_op op_fdiv (pe_callB call_len_seq (by rfl) T.len PySem.boot_len (pa_cons (pe_fld (pv 2) rfl) pa_nil)) (C8.pe_gc (by rfl) gMany)) (pe_op op_fdiv (pe_fld (pv 0) rfl) (C8.pe_gc (by rfl) gMany)) (nomark _)) (pss_one (ps_ret (pv 2))) pss_nil)
    pss_never))), ?_⟩
  have hM' := hM
  obtain ⟨dx, as, kvs, z, M, h0, ht0, hz⟩ := hM'
  have eR := M.fR
  have eA := M.at_
  refine ⟨rfl, _, rfl, m, CM, dx, _, _, rfl, M.at_, D.cl, D.nR, mF_R _ _ _ _, _, rfl, m, dx, _, rfl, M.at_, nf_joined _ _ _ _, _, rfl, m, L, MR, ML, MN, rs, ts, is, rfl, hM, hL, nR, nL, hin, htot, by omega, fun rs' ts' j H1 hM1 ex hj hj2 hl f1 => ?_⟩
  obtain ⟨dx1, as1, kvs1, z1, M1, h01, ht01, hz1⟩ := hM1
  have tl1 := M1.sound.len
  have la1 : as1.length = rs'.length := by rw [M1.hA.1, List.length_map]
  have ej : ((j : Int) + 1) = ((j + 1 : Nat) : Int) := by omega
  refine ⟨_, _, rfl, rfl, _, rfl, MR, _, rfl, SqL.of M1.hR, fun R nRr => ?_⟩
  rw [ej, cut_take (by omega)]
  have s2 := same_new (o := .lst ((as1.take (j + 1)).map V.ref)) nRr
  have snd2 := M1.sound.take (j + 1)
  have hA2 : LT (upd H1 R (.lst ((as1.take (j + 1)).map V.ref))) (as1.take (j + 1)) ((rs'.take (j + 1)).map Rule.vals) := by
    rw [List.map_take (f := Rule.vals)]
    exact (M1.hA.take _).same s2
  have lr : (rs'.take (j + 1)).length = j + 1 := by rw [List.length_take]; omega
  have lt2 : (ts'.take (j + 1)).length = j + 1 := by rw [List.length_take]; omega
  refine ⟨R, _, _, _, rfl, .inr upd_same, hA2.rl, snd2, by omega, by omega, fun x H2 s3 nx tX => ?_⟩
  have M2 := (M1.same s2).same s3
  have f2 := f1.trans ((Same.frM (m := m) (MR := MR) (ML := ML) (MN := MN) s2).trans (Same.frM s3))
  have nx1 : H x = none := by
    have h1 : H1 x = none := s2.free nx
    exact M1.none f1 h1
  have el : tx (ts'.take (j + 1)) ((ts'.take (j + 1)).length - 1) = flatOf ts is := by rw [lt2, Nat.add_sub_cancel, tx_take (Nat.lt_succ_self j), hj2]
  have tX' := tX
  obtain ⟨dy, RU, LE, fs, as2, hX⟩ := tX'
  have hsl : ∀ c ∈ flatOf ts is, c ∈ SL := flat_sl M.sound hin
  refine ⟨_, rfl, x, C, dy, _, _, rfl, hX.at_, Dc.cl, Dc.nN, hX.fN, _, _, rfl, rfl, _, rfl, ?_⟩
  refine ite2 (fun e => ?_) (fun e => ?_)
  · have e1 : ((tx (ts'.take (j + 1)) ((ts'.take (j + 1)).length - 1)).length : Int) ≤ 1000 := of_decide_eq_true e
    refine ⟨rfl, _, rfl, x, dy, _, rfl, hX.at_, hX.m2, _, rfl, x, C, dy, _, _, rfl, hX.at_, Dc.cl, Dc.nN, hX.fN, x, _, _, 0, _, rfl, tX, by omega, Nat.zero_le _, Nat.le_refl _, by omega, fun H3 s4 => ?_⟩
    rw [sub_all, el]
    rw [el] at e1
    refine ⟨_, rfl, by omega, hsl, fun x2 rs2 ts2 H4 s5 nx2 tX2 h1 h33 el2 _ => ?_⟩
    have nx3 : H x2 = none := by
      have h1 : H2 x2 = none := s4.free nx2
      exact M2.none f2 h1
    exact q x2 rs2 ts2 H4 tX2 (by have := tX2.snd.len; omega) el2 (by omega) (f2.trans ((Same.frM s4).trans (Same.frM s5))) nx3
  · refine ⟨_, rfl, x, C, dy, _, _, rfl, hX.at_, Dc.cl, Dc.nR, hX.fR, RU, _, rfl, .inr (SqT.of hX.hR), _, _, rfl, rfl, ⟨by decide, by decide⟩, _, rfl, m, CM, dx1, _, _, rfl, M2.at_, D.cl, D.nM, mF_M _ _ _ _, _, _, rfl, rfl, ⟨by decide, by decide⟩, _, _, rfl, rfl, _, rfl, ifT ?_ ?_⟩
    · refine decide_eq_true ?_
      have la2 : (as2.map V.ref).length = j + 1 := by rw [List.length_map, hX.hA.1, List.length_map, lr]
      rw [la2]
      omega
    · exact ⟨_, rfl, q x _ _ H2 tX (by omega) el (by omega) f2 nx1⟩
end
end K4
namespace SupX
open PySem PySem.Spec PyProof.Rows L2
section
variable {X : Cx} {pins : List (Addr × Obj)} {σ : L2.St} {H : Hp} {s : Shared} {x C f cc ca : Addr} {of : Obj} {e : Expr} {es : List Expr} {ta : TA} {body : List Stmt} {p0 p1 p2 p3 p4 : Pos}
/-- what the written part says of an own error's class and of the def of its __init__ -/
structure SupAt (P : Program) (K : PySem.W.Frag) (mg : Str → Option Value) (C f cc ca : Addr) (fd : FuncData) : Prop where
  ex : OexC K C
  fn : ∃ oc od sl, K.lookup f = some ⟨oc, od, .func fd, sl⟩
  head : ∃ ar : Arg, (fd.params.posonlyargs ++ fd.params.args).head? = some ar ∧ ar.arg = "self"
  code : ∃ c d vs sl file tf, K.lookup ca = some ⟨c, d, .fields vs, sl⟩ ∧ vs[2]? = some (.str file tf) ∧ ((P.main.file : Str) == file) = true
  cell : ∃ c d sl, K.lookup cc = some ⟨c, d, .cell (some (.ref C)), sl⟩
  own : PySem.W.mroIn K C (.ref C) = some true
  up : PySem.W.ks_superIn K C C "__init__" = some (some (.builtin "ValueError.__init__"))
  val : PySem.W.subIn K (.ref C) (.type "ValueError") = some true
  opq : PySem.W.nsIn K cStatics "thirdparty.any" = some none
  sup : mg "super" = none
  top : (P.main.scope.names.lookup ("super" : Str)).isSome = false
/-- the bound ValueError.__init__, called -/
theorem bound_ok {u : Addr} {us : List Value} {A : Around} {Q : Value → Shared → Prop} {E : Value → Shared → Prop} (T : OexC X.K C) (I : Inv X pins σ H s) (hx : H x = some (exo x C none)) (hu : s.heap.get? u = some (PySem.W.kxs_mw "ValueError.__init__" x)) (hl : us.length ≤ sizeLine) (h : ∀ s', Inv X pins σ H s' → Q .none s') :
    wpAny (model X.prog X.w) A (call (.ref u) us) Q E s := by
  obtain ⟨nm, q, N, bs, bm, sn, sub, ab, col, dd, k0, k1, k2, k3, k5, hC, hbm⟩ := T.cls
  obtain ⟨t1, ho⟩ := exo_at I.hok hx
  have hC' := I.kIn _ _ hC
  obtain ⟨hp, g, d, t, os⟩ := s
  refine wpAny_call (codeAny_of_tree ?_)
  show wpAny _ A.in1 (callAny (.ref u) ⟨us, []⟩) _ _ _
  simp only [callAny]
  refine wpAny_bind (wpAny_load hu ?_)
  simp only [PySem.W.kxs_mw]
  refine PySem.W.KFB.if_so (by decide) ?_
  refine wpAny_bind (PySem.W.check_bound_init F.excBase_ValueError.toExcCallFacts hC' ho rfl ?_)
  refine wpAny_bind (wpAny_pure (wpAny_pure ?_))
  refine ⟨plainId_quiet F.excBase_ValueError.init.plain _, codeAny_builtin F.excBase_ValueError.initEntry ?_⟩
  refine PySem.W.exc_init_tree (cls := .ref C) (t0 := t1) (dv := none) (c2 := .none) (c3 := .none) (b4 := .bool false) ho hl fun h' k hx' _ => ?_
  have J := I.write (t' := t) (x := x) (e := x) (o := exo x C none) (by rw [hx]; exact True.intro) (.inl rfl) k ⟨_, hx'⟩ (exo_ok hx')
  have eu : upd H x (exo x C none) = H := by
    funext b
    by_cases hb : b = x
    · rw [hb, upd_same, hx]
    · rw [upd_ne hb]
  rw [eu] at J
  exact h _ J
/-- super().__init__(e, ..) as a statement -/
theorem sup_run {pl : Sem Bool} {fd : FuncData} {R : L2.St → Hp → Prop} (Z : SupAt X.prog X.K X.mg C f cc ca fd) (hN : X.N[0]? = some ("self" : Str)) (hks : X.env.kindOf ("super" : Str) = some .globalImplicit) (hkc : X.env.kindOf ("__class__" : Str) = some .free) (hka : X.env.kindOf ("self" : Str) = some .local) (hfu : X.env.func = some f) (hco : X.env.code = .ref ca)
    (hcl : X.env.cells.lookup ("__class__" : Str) = some cc) (I : Inv X pins σ H s) (h0 : σ[0]? = some (some (.ref x))) (hx : H x = some (exo x C none)) (ha : PA X (e :: es) ta) (h : ta σ H fun vs H1 => vs.length ≤ 1000 ∧ H1 x = some (exo x C none) ∧ R σ H1)
    (hi : interactive X.env = false := by rfl) (hs : swapsWith (.Call (.Attribute (.Call (.Name "super" p0) [] [] p1) "__init__" p2) (e :: es) [] p3) none p4.line X.env = pure false := by rfl)
    (he : starEach (e :: es) X.env = (false, eval e X.env) :: starEach es X.env := by rfl) (hpl : (backTo p3 (starEach es X.env)).any (·.1) = false := by rfl)
    (heq : eval (.Call (.Attribute (.Call (.Name "super" p0) [] [] p1) "__init__" p2) (e :: es) [] p3) X.env = (do
      let ov ← attributeBase (.Call (.Name "super" p0) [] [] p1) "__init__" X.env (eval (.Call (.Name "super" p0) [] [] p1) X.env)
      standAt p2.atName
      let (f, first) ← holding [ov] (getMethod ov "__init__" pl)
      callWith p3 f first (backTo p3 (starEach (e :: es) X.env)) []) := by rfl) :
    _root_.PySem.wpAt (model X.prog X.w) X.A (.func body X.env) (exec (.Expr (.Call (.Attribute (.Call (.Name "super" p0) [] [] p1) "__init__" p2) (e :: es) [] p3) p4) X.env) (fun fl s' => fl = .next ∧ ∃ H', Inv X pins σ H' s' ∧ R σ H') X.xe s := by
  obtain ⟨oc, od, sl, hf⟩ := Z.fn
  obtain ⟨ar, hp, har⟩ := Z.head
  obtain ⟨cc1, cc2, vs, cc3, file, tf, hcode, hvs, hfile⟩ := Z.code
  obtain ⟨b1, b2, b3, hcell⟩ := Z.cell
  refine PySem.ks_wpAt_Expr_any ?_ hi hs
  refine PySem.ks_wpAt_MethodCall ?_ heq
  refine PySem.ks_wpAt_super_base hks hkc rfl hfu (I.kIn _ _ hf) rfl hp hco (I.kIn _ _ hcode) rfl hvs hfile Z.top ?_
  obtain ⟨mb, g1, g2⟩ := I.mod.blt
  refine PySem.W.ks_loadName_global I.ok.kind hks (PySem.Calls.loadGlobal_builtin (by rw [I.ok.glob]; exact I.mod.glob.keeps I.bk) Z.sup (by rw [I.ok.blt]; exact g1.keeps I.bk) ((g2 ("super" : Str) (by decide)).trans PyProof.Rows.Boot.«super») ⟨rfl, ?_⟩)
  refine wpAny_loadName_free I.ok.kind hkc hcl ⟨_, I.kIn _ _ hcell, rfl⟩ ?_
  obtain ⟨m, hns, hl⟩ := I.loc
  obtain ⟨u, ru, lk⟩ := hl 0 ("self" : Str) _ hN h0 (.inl hka)
  have hu : m ("self" : Str) = some (.ref x) := by
    obtain rfl : u = Value.ref x := ru
    rcases lk with ⟨_, lk⟩ | ⟨lk | lk, _⟩
    · exact lk
    · rw [hka] at lk; cases lk
    · rw [hka] at lk; cases lk
  rw [har]
  refine wpAny_loadName_local I.ok.kind hka hns hu ?_
  obtain ⟨nm, q, N, bs, bm, sn, sub, ab, col, dd, k0, k1, k2, k3, k5, hC, hbm⟩ := Z.ex.cls
  have hC' := I.kIn _ _ hC
  obtain ⟨t1, ho⟩ := exo_at I.hok hx
  have hcd : PySem.W.clsIn X.K C = some { name := nm, bases := bs, mro := .ref C :: bm, ns := N, qualname := q, hasDict := true, slotNames := sn, subclasses := sub, abstract := ab, collection := col, hasDel := false } := by
    unfold PySem.W.clsIn
    rw [hC] <;> rfl
  refine PySem.ks_wpAny_isType_cls hC' rfl ⟨rfl, ?_⟩
  obtain ⟨hp0, g, d, t, os⟩ := s
  refine PySem.ks_wpAny_call_super hC' rfl ho rfl (fun c => by intro z; cases z) (PySem.W.looks_mroIn I.kIn Z.own) fun h1 eso kp => ?_
  have I1 : Inv X pins σ H ⟨h1, g, d, t, os⟩ := I.kept (t' := t) kp
  have X1 := I1.kIn
  have A1 : PySem.W.InstAt h1 x _ C none := ⟨kp _ _ ho, rfl, rfl, trivial⟩
  have up := Z.up
  unfold PySem.W.ks_superIn at up
  rw [hcd] at up
  refine PySem.W.kxs_getMethod PySem.W.kxs_ValueError eso (PySem.W.looks_opaque X1 Z.opq) (l₀ := .ref C :: bm) ((PySem.W.looks_clsIn X1 hcd).andThen .now) rfl X1 up (A1.type.andThen (PySem.W.looks_subIn X1 Z.val)) (PySem.W.ks_ne X1 A1 hcd) (by decide) ?_
  have I2 : Inv X pins σ H ⟨h1.push (PySem.W.kxs_mw "ValueError.__init__" x), g, d, t + 1, os⟩ := I1.kept (t' := t + 1) fun b o e => Heap.get?_push_of_some _ e
  have I3 : Inv X (pins ++ [(h1.objs.size, PySem.W.kxs_mw "ValueError.__init__" x)]) σ H ⟨h1.push (PySem.W.kxs_mw "ValueError.__init__" x), g, d, t + 1, os⟩ := I2.pins_of fun p hp => by
    rcases List.mem_append.mp hp with z | z
    · exact I2.pin p (List.mem_append_right _ z)
    · obtain rfl := List.mem_singleton.mp z
      exact ⟨Heap.get?_push_at rfl rfl, I1.hok.fresh (Nat.le_refl _), (Nat.ne_of_lt I1.lt).symm, I1.nofs (Nat.le_refl _), fun v z => by cases z⟩
  show wpAny _ _ (callWith p3 (.ref h1.objs.size) [] (backTo p3 (starEach (e :: es) X.env)) []) _ _ _
  rw [he]
  refine PySem.W.kxs_callWith (i := "ValueError.__init__") (x := x) (by show (false || (backTo p3 (starEach es X.env)).any (·.1)) = false; rw [hpl]; rfl) (PySem.Calls.evalArgs_plain ?_)
  have run := ha.run p3 _ _ σ H _ I3 h
  rw [he] at run
  refine thn run fun us s1 ⟨vs', H1, I4, rv, hlen, hx1, q⟩ => ?_
  have hu4 := (I4.pin (h1.objs.size, PySem.W.kxs_mw "ValueError.__init__" x) (List.mem_append_right _ (List.mem_append_right _ (List.mem_singleton.mpr rfl)))).1
  have I5 : Inv X pins σ H1 s1 := I4.pins_of fun p hp => I4.pin p (List.mem_append_right _ (List.mem_append_left _ hp))
  exact ⟨hu4, bound_ok Z.ex I5 hx1 hu4 (by show us.length ≤ sizeLine; rw [← Paired.length rv, sizeLine_eq]; omega) fun s' J => ⟨rfl, H1, J, q⟩⟩
end
section
open NdefX
variable {CX : CXT} {P : Program} {w : World} {K : PySem.W.Frag} {mg : Str → Option Value} {base : Heap} {k : Nat} {C f cc ca : Addr} {NN ps : List Str} {sp : Sp} {p0 p1 p2 p3 p4 : Pos} {e : Expr} {es : List Expr} {rest : List Stmt}
/-- an own error's __init__(self, ..): super().__init__(e, ..), then rest -/
theorem fn_sup {name qual : Str} {params : Arguments} {scope : Scope} {dV kV doc pm ct : Value} {an : Option Addr} {pl : Env → Sem Bool}
    (Z : SupAt P K mg C f cc ca (PySem.W.fnX name qual params (.Expr (.Call (.Attribute (.Call (.Name "super" p0) [] [] p1) "__init__" p2) (e :: es) [] p3) p4 :: rest) scope [("__class__", cc)] dV kV doc pm an (.ref ca) ct)) (hcd : PySem.W.codeIn K (.ref ca) qual = true)
    (S : NScope NN ("self" :: ps) ["__class__"] scope) (hks : scope.names.lookup ("super" : Str) = some .globalImplicit) (len : ∀ vs H Q E, sp vs H Q E → vs.length = ps.length + 1)
    (hh : ∀ env : Env, (starEach (e :: es) env = (false, eval e env) :: starEach es env) ∧ (backTo p3 (starEach es env)).any (·.1) = false ∧ swapsWith (.Call (.Attribute (.Call (.Name "super" p0) [] [] p1) "__init__" p2) (e :: es) [] p3) none p4.line env = pure false ∧
      eval (.Call (.Attribute (.Call (.Name "super" p0) [] [] p1) "__init__" p2) (e :: es) [] p3) env = (do
        let ov ← attributeBase (.Call (.Name "super" p0) [] [] p1) "__init__" env (eval (.Call (.Name "super" p0) [] [] p1) env)
        standAt p2.atName
        let (f, first) ← holding [ov] (getMethod ov "__init__" (pl env))
        callWith p3 f first (backTo p3 (starEach (e :: es) env)) []))
    (hbody : ∀ (X : Cx) (H : Hp) (x : Addr) (vs : List V) (Q : VK) (E : XK), X.K = K → X.mg = mg → X.prog = P → X.N = NN → X.env.scope = scope → sp (.ref x :: vs) H Q E →
      H x = some (exo x C none) ∧ ∃ ta tb, PA X (e :: es) ta ∧ PSs X rest tb ∧ ta (startF NN (.ref x :: vs) [some (.ref C)]) H fun us H1 => us.length ≤ 1000 ∧ H1 x = some (exo x C none) ∧ tb { nx := fun _ H' => Q .non H', rt := Q } (startF NN (.ref x :: vs) [some (.ref C)]) H1)
    (hself : ∀ vs H Q E, sp vs H Q E → ∃ x us, vs = .ref x :: us) :
    FnOk P w K mg base CX (k + 1) f (PySem.W.fnX name qual params (.Expr (.Call (.Attribute (.Call (.Name "super" p0) [] [] p1) "__init__" p2) (e :: es) [] p3) p4 :: rest) scope [("__class__", cc)] dV kV doc pm an (.ref ca) ct) ("self" :: ps) sp := by
  refine ⟨len, fun A outer s H args us vs Q E hr e0 hb r hsp => ?_⟩
  have hl : vs.length = ("self" :: ps : List Str).length := len _ _ _ _ hsp
  have KX : K.In s.heap := e0.mod.kin.keeps fun b o e => (e0.bs b o e).1
  have lim : s.heap.NoLimit := e0.mod.nolimit.keeps fun b o e => (e0.bs b o e).1
  obtain ⟨oc, od, sl, hf⟩ := Z.fn
  obtain ⟨x, vs, rfl⟩ := hself _ _ _ _ hsp
  obtain ⟨b1, b2, b3, hcell⟩ := Z.cell
  refine PySem.ks_codeAny_call_defAt (binds := (("self" : Str) :: ps).zip us) hr.depth (KX _ _ hf) rfl lim (PySem.W.codeRec_of KX hcd) rfl hb (fun y hy => S.nocell y hy) (fun y hy => S.par _ (List.of_mem_zip hy).1) (fun h₁ hns hk => ?_) S.co S.gen S.kind
  have cells : CellsAt [(("__class__" : Str), cc)] ["__class__"] [some (V.ref C)] s.heap H := by
    have q := e0.bs _ _ (e0.mod.kin _ _ hcell)
    have only : ∀ (y : Str) (c : Addr), List.lookup y [(("__class__" : Str), cc)] = some c → y = "__class__" ∧ c = cc := fun y c z => by
      by_cases hy : y = "__class__"
      · subst hy
        exact ⟨rfl, (Option.some.inj (by simpa [List.lookup] using z)).symm⟩
      · have : (y == ("__class__" : Str)) = false := by simpa using hy
        simp [List.lookup, this] at z
    refine ⟨rfl, fun y c z => ?_, fun y z c h1 h2 => (only y c h1).1.trans (only z c h2).1.symm, fun i y z => ?_⟩
    · rw [(only y c z).2]
      exact ⟨q.2, _, _, q.1, rfl⟩
    · cases i with
      | zero =>
        obtain rfl : ("__class__" : Str) = y := Option.some.inj z
        exact ⟨cc, by simp [List.lookup], fun v hv => by
          obtain rfl : V.ref C = v := Option.some.inj (Option.some.inj hv)
          exact ⟨.ref C, rfl, _, q.1, rfl⟩⟩
      | succ i => simp at z
  have I := inv_startN (CX := CX) (E := E) (F := ⟨name, qual, params, .Expr (.Call (.Attribute (.Call (.Name "super" p0) [] [] p1) "__init__" p2) (e :: es) [] p3) p4 :: rest, scope, [("__class__", cc)], ca⟩) (f := f) (tk := s.toks + ((("self" : Str) :: ps).zip us).length) S hr.hd e0 hl r cells hns hk
  generalize hX : ncx CX P w K mg base NN ⟨name, qual, params, .Expr (.Call (.Attribute (.Call (.Name "super" p0) [] [] p1) "__init__" p2) (e :: es) [] p3) p4 :: rest, scope, [("__class__", cc)], ca⟩ f A outer s H E = X at I
  have xP : X.prog = P := by rw [← hX]; rfl
  have xw : X.w = w := by rw [← hX]; rfl
  have xK : X.K = K := by rw [← hX]; rfl
  have xm : X.mg = mg := by rw [← hX]; rfl
  have xN : X.N = NN := by rw [← hX]; rfl
  have xS : X.env.scope = scope := by rw [← hX]; rfl
  obtain ⟨hx, ta, tb, ha, hb2, h⟩ := hbody X H x vs Q E xK xm xP xN xS hsp
  obtain ⟨q1, q2, q3, q4⟩ := hh X.env
  have n0 : X.N[0]? = some ("self" : Str) := by
    rw [xN]
    have z := S.pre
    have z0 : (NN.take ((("self" : Str) :: ps).length + [("__class__" : Str)].length))[0]? = some ("self" : Str) := by rw [z]; rfl
    rwa [List.getElem?_take_of_lt (by show 0 < _; simp)] at z0
  have hin : interactive X.env = false := by
    unfold interactive
    rw [xS, S.kind]
    rfl
  have run := sup_run (body := .Expr (.Call (.Attribute (.Call (.Name "super" p0) [] [] p1) "__init__" p2) (e :: es) [] p3) p4 :: rest) (R := fun σ H1 => tb { nx := fun _ H' => Q .non H', rt := Q } σ H1) (by rw [xP, xK, xm]; exact Z) n0 (by show X.env.scope.names.lookup _ = _; rw [xS]; exact hks) (by show X.env.scope.names.lookup _ = _; rw [xS]; exact S.frk _ (List.mem_singleton.mpr rfl)) (by show X.env.scope.names.lookup _ = _; rw [xS]; exact S.par _ (List.mem_cons_self)) (by rw [← hX]; rfl) (by rw [← hX]; rfl) (by rw [← hX]; rfl) I rfl hx ha h hin q3 q1 q2 q4
  have key : _root_.PySem.wpAt (model P w) X.A (.func (.Expr (.Call (.Attribute (.Call (.Name "super" p0) [] [] p1) "__init__" p2) (e :: es) [] p3) p4 :: rest) X.env) (execs (.Expr (.Call (.Attribute (.Call (.Name "super" p0) [] [] p1) "__init__" p2) (e :: es) [] p3) p4 :: rest) X.env)
      (fun fl s' => CR CX outer P w H s Q E (.ok (.ret (match fl with | .ret v => v | _ => .none))) s') X.xe { s with heap := h₁, toks := s.toks + ((("self" : Str) :: ps).zip us).length } := by
    rw [xP, xw] at run
    refine PySem.ks_wpAt_execs_cons (PySem.ks_wpAt_mono run (fun fl s' hq => ?_) fun _ _ z => z)
    obtain ⟨rfl, H', J, q⟩ := hq
    have r2 := hb2.run [] s' _ H' _ J q
    rw [xP, xw] at r2
    refine wpAt_of_wpAny (wpAny_mono r2 (fun fl s' hs => ?_) fun _ _ z => z)
    have fin : ∀ {σ' : L2.St} {H' : Hp} {v : V} {u : Value}, Inv X [] σ' H' s' → RelV v u → Q v H' → CE outer P w H s Q u s' :=
      fun {σ' H' v u} J rv q => by
        subst hX
        exact ⟨v, H', J.os, J.bare, J.base, J.hok, rv, q⟩
    cases fl with
    | ret u =>
      obtain ⟨v, σ', H', J, rv, q⟩ := hs
      exact fin J rv q
    | next =>
      obtain ⟨σ', H', J, q⟩ := hs
      exact fin (v := V.non) (u := Value.none) J rfl q
    | brk =>
      obtain ⟨_, _, _, q⟩ := hs
      exact False.elim q
    | cont =>
      obtain ⟨_, _, _, q⟩ := hs
      exact False.elim q
  subst hX
  exact key
end
/-- isinstance(e, c), e the error that the suite holds, of the own class at D with its dict -/
def rIsX (K : PySem.W.Frag) (D a : Addr) (cls : Value) (d : Option Addr) : List V → Hp → VK → Prop := fun xs H Q => ∃ (c : V) (cv : Value) (b : Bool) (dd : Addr) (fs : List (Str × V)), xs = [.ref a, c] ∧ cls = .ref D ∧ d = some dd ∧ H dd = some (.xd fs) ∧ (∀ u, RelV c u → u = cv) ∧ PySem.W.kitOne K (.ref D) cv = some b ∧ Q (.bl b) H
theorem call_isX {X : Cx} {a D : Addr} {oe : Obj} {cls : Value} {d : Option Addr} {pn : List (Addr × Obj)} (C : ExcC X.K D) (hz : Zc cls d oe) (hf : ∃ vs, oe.data = .fields vs) : CallR (X.suite a ((a, oe) :: pn)) (.builtin "isinstance") (rIsX X.K D a cls d) := by
  intro pins s σ H xs us Q I r h
  obtain ⟨c, cv, b, dd, fs, rfl, rfl, rfl, hd, hcv, e, q⟩ := h
  obtain ⟨u1, u2, rfl, r1, r2⟩ := vals2 r
  obtain rfl : u1 = Value.ref a := r1
  obtain rfl := hcv _ r2
  have hget := (I.pin (a, oe) (List.mem_append.mpr (.inl List.mem_cons_self))).1
  obtain ⟨mA, hns, _⟩ := (show ObjOk X.prog X.w H s.heap dd (.xd fs) from I.hok dd _ hd)
  obtain ⟨od, ho, _⟩ := lookIn_ns hns
  obtain ⟨vs, hv⟩ := hf
  have J : PySem.W.InstAt s.heap a oe D (some od) := ⟨hget, hz.1, by unfold PySem.W.notCls; rw [hv] <;> rfl, by rw [hz.2]; exact ho⟩
  have hcl : (PySem.W.clsIn X.K D).isSome = true := by
    have z := C.hd
    unfold PySem.W.hasDictIn at z
    cases hc : PySem.W.clsIn X.K D with
    | none => rw [hc] at z; cases z
    | some _ => rfl
  exact PySem.W.kia_one (PySem.W.kitx_exc hcl C.hg C.hk C.hs C.ha C.hn C.ht C.hm) I.kIn J e (fun z => nomatch z) fun tk => ⟨.bl b, H, I.kept (t' := tk) fun _ _ z => z, rfl, q⟩
section
variable {X : Cx} {CX : CXT} {k : Nat} {f C : Addr} {fd : FuncData} {ps : List Str} {sp : Sp} {E : L2.St → XK} {m : Str} {pos apos : Pos} {e o : Expr} {es : List Expr} {ta : TE} {t : TA}
/-- o.m(e, ..), what it raises wished for at the caller's slots -/
def tMethS (C : Addr) (m : Str) (sp : Sp) (E : L2.St → XK) (to : TE) (ta : TA) : TE := fun σ H Q => to σ H fun x H1 => ∃ a dx fs, x = .ref a ∧ H1 a = some (.ins C dx fs) ∧ fs.lookup m = none ∧ ta σ H1 fun vs H2 => sp (.ref a :: vs) H2 Q (E σ)
theorem pe_methS {pl : Sem Bool} (he : PE X o ta) (c : Cls X.K C) (hm : Meth X.K C m f) (F : FnOk X.prog X.w X.K X.mg X.base CX k f fd ps sp) (hr : Room k X.A) (hb : Binds X.K fd ps []) (hx : ∀ σ, PassesAt CX X σ (E σ)) (ha : PA X (e :: es) t)
    (hst : starEach (e :: es) X.env = (false, eval e X.env) :: starEach es X.env := by rfl) (hpl : (backTo pos (starEach es X.env)).any (·.1) = false := by rfl)
    (ht : eval (.Call (.Attribute o m apos) (e :: es) [] pos) X.env = (do
      let ov ← eval o X.env
      standAt apos.atName
      let (f, first) ← holding [ov] (getMethod ov m pl)
      callWith pos f first (backTo pos (starEach (e :: es) X.env)) (backToKw pos (keywordEach [] X.env))) := by rfl) :
    PE X (.Call (.Attribute o m apos) (e :: es) [] pos) (tMethS C m sp E ta t) := by
  refine ⟨fun pins s σ H Q I h => ?_⟩
  refine PySem.W.methodCall_KW (pl := pl) (thn (he.run pins s σ H _ I h) fun u s1 hu => ?_) ht
  obtain ⟨x, H1, I1, rx, a, dx, fs, ex, ea, l, q⟩ := hu
  subst ex
  obtain rfl : u = Value.ref a := rx
  refine getmeth_ok I1 ea c hm l ?_
  refine PySem.W.callWith_K (first := [.ref a]) (h₀ := X.base) I.ok.mod.kin hm.kp (thn (ha.run pos pins s1 σ H1 _ I1 q) fun us s2 hv => ?_) hst hpl
  obtain ⟨vs, H2, I2, r, q2⟩ := hv
  exact ⟨I2.kIn, run_fnS (us := .ref a :: us) (vs := .ref a :: vs) F hr hb (hx σ) I2 (.cons rfl r) q2⟩
end
/-- a wish for errors that the first clause, which names them, takes -/
def wAsF (K : PySem.W.Frag) (c : Value) (i : Nat) (ts : Addr → Value → Option Addr → TS) (D : Ends) : WX := fun cls d σ H =>
  PySem.W.exmOne K cls c = some true ∧ ∀ a, H a = none → ts a cls d { nx := fun σ' H' => D.nx (σ'.set i none) H', rt := D.rt, bk := fun σ' H' => D.bk (σ'.set i none) H', ct := fun σ' H' => D.ct (σ'.set i none) H' } (σ.set i (some (.ref a))) H
section
variable {X : Cx} {x n : Str} {c : Value} {i : Nat} {body suite : List Stmt} {b₀ : Stmt} {np pos pos' : Pos} {tb : WX → TS} {ts : Addr → Value → Option Addr → TS} {more : List ExceptHandler}
theorem ps_try_asF (st : X.stack = X.env :: X.outer) (fr : X.env.frame = some X.env.locals) (nd : X.N.Nodup) (hi : X.N[i]? = some n) (hln : X.env.kindOf n = some .local) (hc : Names X x c)
    (hb : ∀ (W : WX) (pn : List (Addr × Obj)) (xe : Value → Shared → Prop), Takes (X.tr pn xe) W → PassesOwn (model X.prog X.w) X.A X.env xe → PSs (X.tr pn xe) body (tb W))
    (hsu : ∀ (a : Addr) (oe : Obj) (cls : Value) (d : Option Addr) (pn : List (Addr × Obj)), Zc cls d oe → (∃ vs, oe.data = .fields vs) → PSs (X.suite a ((a, oe) :: pn)) (b₀ :: suite) (ts a cls d)) :
    PS X (.Try body (.ExceptHandler (some (.Name x np)) (some n) (b₀ :: suite) pos' :: more) [] [] pos) (fun D σ H => tb (wAsF X.K c i ts D) D σ H) := by
  constructor
  intro pins s σ H D I0 h0
  have Ok := I0.ok
  have fA : X.A.frames = some (X.env :: X.outer) := Ok.frames.trans (by rw [st])
  apply wpAny_Try_except
  have caught : ∀ (u : Value) (s' : Shared), XE (X.tr (X.pn ++ pins) fun e s₁ => wpAny (model X.prog X.w) X.A (noteFrame e X.env) (fun _ s₂ => wpAny (model X.prog X.w) X.A (setFlight e none) (fun _ s₃ =>
      wpAny (model X.prog X.w) X.A (handleBy e X.env (.ExceptHandler (some (.Name x np)) (some n) (b₀ :: suite) pos' :: more)) (SP X pins D) X.xe s₃) X.xe s₂) X.xe s₁) (wAsF X.K c i ts D) u s' →
      wpAny (model X.prog X.w) X.A (noteFrame u X.env) (fun _ s₂ => wpAny (model X.prog X.w) X.A (setFlight u none) (fun _ s₃ =>
      wpAny (model X.prog X.w) X.A (handleBy u X.env (.ExceptHandler (some (.Name x np)) (some n) (b₀ :: suite) pos' :: more)) (SP X pins D) X.xe s₃) X.xe s₂) X.xe s' := by
    rintro u s' ⟨a, B, sI, pins1, σ1, H1, cls, d, rfl, It, nb, up, sky, na, os, ag, hm, hts⟩
    have I1 : Inv X pins σ1 H1 sI := It.ofTry Ok
    refine Sky.land Zc.steady fA fr (show Sky B (X.env :: X.outer) a (Zc cls d) X.env.locals s'.heap by rw [← st]; exact sky) fun h2 fly up2 => ?_
    have I2 : Inv X pins σ1 H1 { s' with heap := h2 } := I1.landed nb fly.1 (up.trans up2) os ag
    obtain ⟨o2, v2, g2, z2, d2⟩ := fly.there
    have apart : a ∉ frs (X.env :: X.outer) := fun q => by
      obtain ⟨_, o', e', no⟩ := fly.2.2.1.mem q
      rw [g2] at e'
      cases e'
      exact no _ d2
    have aL : a ≠ X.env.locals := fun z => apart (List.mem_filterMap.mpr ⟨X.env, .head _, by rw [fr, z]⟩)
    have aF : a ∉ X.fs := fun q => by
      obtain ⟨y, hy, q⟩ := List.mem_filterMap.mp q
      exact apart (List.mem_filterMap.mpr ⟨y, .tail _ hy, q⟩)
    have S2 := I2.suite g2 d2 na aL aF
    refine wpAny_handleBy_cons (codeAny_handlers_test ?_) (by intro q; cases q)
    have ask := PySem.W.exm_one (M := model X.prog X.w) I2.kIn (show PySem.W.Looks (model X.prog X.w) h2 (typeOf (.ref a)) cls from fun A Q E s k q => wpAny_typeOf_ref (k _ _ g2) (by rw [z2.1]; exact q)) hm
    have name : ∀ {Q : Value → Shared → Prop} {E : Value → Shared → Prop}, Q c { s' with heap := h2 } → wpAny (model X.prog X.w) (X.A.mark (some (.ref a))) (eval (.Name x np) X.env) Q E { s' with heap := h2 } := fun {Q E} q => by
      rcases hc with ⟨gl, db, mm | ⟨mm, bv, nn⟩⟩
      · exact ld_glob (X := X.suite a ((a, o2) :: (X.pn ++ pins))) S2 gl mm q db
      · exact ld_blt (X := X.suite a ((a, o2) :: (X.pn ++ pins))) S2 gl mm bv q nn db
    refine name (ask.here (codeAny_handlers_suite_as (HandSPX.lands_againZ fly fun h3 fly3 up3 => ?_)))
    have I3 : Inv X pins σ1 H1 { s' with heap := h3 } := I1.landed nb fly3.1 ((up.trans up2).trans up3) os ag
    obtain ⟨o3, v3, g3, z3, d3⟩ := fly3.there
    refine store_ok (X := X.suite a ((a, o3) :: (X.pn ++ pins))) (v := .ref a) (I3.suite g3 d3 na aL aF) nd hi (.inl hln) rfl (fun s4 S4 => ?_) (.inr hln)
    refine wpAny_mono ((hsu a o3 cls d (X.pn ++ pins) z3 ⟨_, d3⟩).run [] s4 _ H1 _ S4 (hts a na)) (fun fl s5 hq => ?_) fun _ _ z => z.elim
    have leave : ∀ {σ5 : L2.St} {H5 : Hp} {Q : Shared → Prop}, Inv (X.suite a ((a, o3) :: (X.pn ++ pins))) [] σ5 H5 s5 → (∀ s6, Inv X pins (σ5.set i none) H5 s6 → Q s6) →
        wpAny (model X.prog X.w) X.A (do bindName X.env n .none; unbindBehindTheSuite X.env n pos') (fun _ s6 => Q s6) X.xe s5 := fun {σ5 H5 Q} S5 k => gone_ok (S5.unsuite Ok) nd hi hln k
    rcases fl with _ | _ | _ | u
    all_goals first
      | (obtain ⟨v5, σ5, H5, S5, r5, q5⟩ := hq; exact leave S5 fun s6 J => ⟨_, _, _, J, r5, q5⟩)
      | (obtain ⟨σ5, H5, S5, q5⟩ := hq; exact leave S5 fun s6 J => ⟨_, _, J, q5⟩)
  refine wpAny_mono ((hb (wAsF X.K c i ts D) (X.pn ++ pins) _ (fun u s' hx => caught u s' hx) PassesOwn.looking).run [] s σ H D (I0.toTry _) h0) (fun fl s1 hq => ?_) fun _ _ z => z
  rcases fl with _ | _ | _ | u
  all_goals first
    | (obtain ⟨v1, σ1, H1, J, r, q⟩ := hq; exact ⟨v1, σ1, H1, J.ofTry Ok, r, q⟩)
    | (obtain ⟨σ1, H1, J, q⟩ := hq; first | exact wpAny_execs_nil ⟨σ1, H1, J.ofTry Ok, q⟩ | exact ⟨σ1, H1, J.ofTry Ok, q⟩)
end
/-- the ends of a suite, behind which its name is gone -/
def goneE (i : Nat) (D : Ends) : Ends := { nx := fun σ' H' => D.nx (σ'.set i none) H', rt := D.rt, bk := fun σ' H' => D.bk (σ'.set i none) H', ct := fun σ' H' => D.ct (σ'.set i none) H' }
/-- clauses with names, one of which takes the error -/
def wManyAs (K : PySem.W.Frag) (D : Ends) : List (Value × Nat × (Addr → Value → Option Addr → TS)) → WX
  | [] => fun _ _ _ _ => False
  | (c, i, ts) :: r => fun cls d σ H => ∃ b, PySem.W.exmOne K cls c = some b ∧ (b = true → ∀ a, H a = none → ts a cls d (goneE i D) (σ.set i (some (.ref a))) H) ∧ (b = false → wManyAs K D r cls d σ H)
inductive AsOk (X : Cx) : List ExceptHandler → List (Value × Nat × (Addr → Value → Option Addr → TS)) → Prop
  | nil : AsOk X [] []
  | cons {x n : Str} {c : Value} {i : Nat} {ts : Addr → Value → Option Addr → TS} {b₀ : Stmt} {suite : List Stmt} {np pos' : Pos} {more : List ExceptHandler} {l : List (Value × Nat × (Addr → Value → Option Addr → TS))} (hc : Names X x c) (hi : X.N[i]? = some n) (hln : X.env.kindOf n = some .local)
      (hsu : ∀ (a : Addr) (oe : Obj) (cls : Value) (d : Option Addr) (pn : List (Addr × Obj)), Zc cls d oe → (∃ vs, oe.data = .fields vs) → PSs (X.suite a ((a, oe) :: pn)) (b₀ :: suite) (ts a cls d)) (r : AsOk X more l) :
      AsOk X (.ExceptHandler (some (.Name x np)) (some n) (b₀ :: suite) pos' :: more) ((c, i, ts) :: l)
section
variable {X : Cx} {body : List Stmt} {h₀ : ExceptHandler} {hs : List ExceptHandler} {l : List (Value × Nat × (Addr → Value → Option Addr → TS))} {pos : Pos} {tb : WX → TS}
theorem ps_try_manyAs (st : X.stack = X.env :: X.outer) (fr : X.env.frame = some X.env.locals) (nd : X.N.Nodup)
    (hb : ∀ (W : WX) (pn : List (Addr × Obj)) (xe : Value → Shared → Prop), Takes (X.tr pn xe) W → PassesOwn (model X.prog X.w) X.A X.env xe → PSs (X.tr pn xe) body (tb W))
    (hh : AsOk X (h₀ :: hs) l) : PS X (.Try body (h₀ :: hs) [] [] pos) (fun D σ H => tb (wManyAs X.K D l) D σ H) := by
  constructor
  intro pins s σ H D I0 h0
  have Ok := I0.ok
  have fA : X.A.frames = some (X.env :: X.outer) := Ok.frames.trans (by rw [st])
  apply wpAny_Try_except
  have caught : ∀ (u : Value) (s' : Shared), XE (X.tr (X.pn ++ pins) fun e s₁ => wpAny (model X.prog X.w) X.A (noteFrame e X.env) (fun _ s₂ => wpAny (model X.prog X.w) X.A (setFlight e none) (fun _ s₃ =>
      wpAny (model X.prog X.w) X.A (handleBy e X.env (h₀ :: hs)) (SP X pins D) X.xe s₃) X.xe s₂) X.xe s₁) (wManyAs X.K D l) u s' →
      wpAny (model X.prog X.w) X.A (noteFrame u X.env) (fun _ s₂ => wpAny (model X.prog X.w) X.A (setFlight u none) (fun _ s₃ =>
      wpAny (model X.prog X.w) X.A (handleBy u X.env (h₀ :: hs)) (SP X pins D) X.xe s₃) X.xe s₂) X.xe s' := by
    rintro u s' ⟨a, B, sI, pins1, σ1, H1, cls, d, rfl, It, nb, up, sky, na, os, ag, hw⟩
    have I1 : Inv X pins σ1 H1 sI := It.ofTry Ok
    refine Sky.land Zc.steady fA fr (show Sky B (X.env :: X.outer) a (Zc cls d) X.env.locals s'.heap by rw [← st]; exact sky) fun h2 fly up2 => ?_
    have I2 : Inv X pins σ1 H1 { s' with heap := h2 } := I1.landed nb fly.1 (up.trans up2) os ag
    obtain ⟨o2, v2, g2, z2, d2⟩ := fly.there
    have apart : a ∉ frs (X.env :: X.outer) := fun q => by
      obtain ⟨_, o', e', no⟩ := fly.2.2.1.mem q
      rw [g2] at e'
      cases e'
      exact no _ d2
    have aL : a ≠ X.env.locals := fun z => apart (List.mem_filterMap.mpr ⟨X.env, .head _, by rw [fr, z]⟩)
    have aF : a ∉ X.fs := fun q => by
      obtain ⟨y, hy, q⟩ := List.mem_filterMap.mp q
      exact apart (List.mem_filterMap.mpr ⟨y, .tail _ hy, q⟩)
    have S2 := I2.suite g2 d2 na aL aF
    suffices walk : ∀ {hs' : List ExceptHandler} {l' : List (Value × Nat × (Addr → Value → Option Addr → TS))}, AsOk X hs' l' → wManyAs X.K D l' cls d σ1 H1 → wpAny (model X.prog X.w) X.A (handleBy (.ref a) X.env hs') (SP X pins D) X.xe { s' with heap := h2 } from walk hh hw
    intro hs' l' ok
    induction ok with
    | nil => exact fun z => z.elim
    | @cons x n c i ts b₀ suite np pos' more l2 hc hi hln hsu r ih =>
      rintro ⟨b, hm, yes, no⟩
      refine wpAny_handleBy_cons (codeAny_handlers_test ?_) (by intro q; cases q)
      have ask := PySem.W.exm_one (M := model X.prog X.w) I2.kIn (show PySem.W.Looks (model X.prog X.w) h2 (typeOf (.ref a)) cls from fun A Q E s k q => wpAny_typeOf_ref (k _ _ g2) (by rw [z2.1]; exact q)) hm
      have name : ∀ {Q : Value → Shared → Prop} {E : Value → Shared → Prop}, Q c { s' with heap := h2 } → wpAny (model X.prog X.w) (X.A.mark (some (.ref a))) (eval (.Name x np) X.env) Q E { s' with heap := h2 } := fun {Q E} q => by
        rcases hc with ⟨gl, db, mm | ⟨mm, bv, nn⟩⟩
        · exact ld_glob (X := X.suite a ((a, o2) :: (X.pn ++ pins))) S2 gl mm q db
        · exact ld_blt (X := X.suite a ((a, o2) :: (X.pn ++ pins))) S2 gl mm bv q nn db
      cases b with
      | false =>
        refine name (ask.here ?_)
        show wpAny _ X.A (handleBy (.ref a) X.env more) _ _ _
        exact ih (no rfl)
      | true =>
        refine name (ask.here (codeAny_handlers_suite_as (HandSPX.lands_againZ fly fun h3 fly3 up3 => ?_)))
        have I3 : Inv X pins σ1 H1 { s' with heap := h3 } := I1.landed nb fly3.1 ((up.trans up2).trans up3) os ag
        obtain ⟨o3, v3, g3, z3, d3⟩ := fly3.there
        refine store_ok (X := X.suite a ((a, o3) :: (X.pn ++ pins))) (v := .ref a) (I3.suite g3 d3 na aL aF) nd hi (.inl hln) rfl (fun s4 S4 => ?_) (.inr hln)
        refine wpAny_mono ((hsu a o3 cls d (X.pn ++ pins) z3 ⟨_, d3⟩).run [] s4 _ H1 _ S4 (yes rfl a na)) (fun fl s5 hq => ?_) fun _ _ z => z.elim
        have leave : ∀ {σ5 : L2.St} {H5 : Hp} {Q : Shared → Prop}, Inv (X.suite a ((a, o3) :: (X.pn ++ pins))) [] σ5 H5 s5 → (∀ s6, Inv X pins (σ5.set i none) H5 s6 → Q s6) →
            wpAny (model X.prog X.w) X.A (do bindName X.env n .none; unbindBehindTheSuite X.env n pos') (fun _ s6 => Q s6) X.xe s5 := fun {σ5 H5 Q} S5 k => gone_ok (S5.unsuite Ok) nd hi hln k
        rcases fl with _ | _ | _ | u
        all_goals first
          | (obtain ⟨v5, σ5, H5, S5, r5, q5⟩ := hq; exact leave S5 fun s6 J => ⟨_, _, _, J, r5, q5⟩)
          | (obtain ⟨σ5, H5, S5, q5⟩ := hq; exact leave S5 fun s6 J => ⟨_, _, J, q5⟩)
  refine wpAny_mono ((hb (wManyAs X.K D l) (X.pn ++ pins) _ (fun u s' hx => caught u s' hx) PassesOwn.looking).run [] s σ H D (I0.toTry _) h0) (fun fl s1 hq => ?_) fun _ _ z => z
  rcases fl with _ | _ | _ | u
  all_goals first
    | (obtain ⟨v1, σ1, H1, J, r, q⟩ := hq; exact ⟨v1, σ1, H1, J.ofTry Ok, r, q⟩)
    | (obtain ⟨σ1, H1, J, q⟩ := hq; first | exact wpAny_execs_nil ⟨σ1, H1, J.ofTry Ok, q⟩ | exact ⟨σ1, H1, J.ofTry Ok, q⟩)
end
end SupX
namespace K4
open PySem PySem.Spec PyProof.Rows L2 SX SupX
open C8 (Cal pe_c pss_cut)
/-- what an own error's __init__ leaves: its dict d, new, with these fields -/
def ErrDone (C x : Addr) (H : Hp) (fs : List (Str × V)) (Q : VK) : Prop := ∀ (d : Addr) (H2 : Hp), H2 x = some (exo x C (some d)) → H2 d = some (exd d fs) → H d = none → d ≠ x → (∀ b o, b ≠ x → H b = some o → H2 b = some o) → Q .non H2
def spErr1 (C : Addr) (nm : Str) : Sp := fun vs H Q _ => ∃ (x : Addr) (i : Int), vs = [.ref x, .int i] ∧ H x = some (exo x C none) ∧ i.natAbs.log2 < 1920 ∧ ErrDone C x H [(nm, .int i)] Q
def spErr2 (C : Addr) (n1 n2 : Str) : Sp := fun vs H Q _ => ∃ (x : Addr) (i j : Int), vs = [.ref x, .int i, .int j] ∧ H x = some (exo x C none) ∧ i.natAbs.log2 < 1920 ∧ j.natAbs.log2 < 1920 ∧ ErrDone C x H [(n2, .int j), (n1, .int i)] Q
/-- an own error's class, ready to be raised -/
structure ErrAt (P : Program) (w : World) (K : PySem.W.Frag) (mg : Str → Option Value) (base : Heap) (x : Str) (C : Addr) (ps : List Str) (sp : Sp) : Prop where
  ex : OexC K C
  gm : mg x = some (.ref C)
  fn : ∃ (fI : Addr) (fd : FuncData), PySem.W.findIn K (.ref C) "__init__" = some (some (.ref fI)) ∧ PySem.W.typeIn K (.ref fI) = some (.type "function") ∧ FnOk P w K mg base CX0 1 fI fd ps sp ∧ Binds K fd ps []
theorem cat_le {a b : Str} {m n : Nat} (ha : a.length ≤ m) (hb : b.length ≤ n) : (a ++ b).length ≤ m + n := by
  rw [PySem.Str.length_append]
  omega
theorem itext_len {i : Int} (h : i.natAbs.log2 < 1920) : (Str.ofString (toString i)).length ≤ 1921 := by
  have e := PySem.int_text_length_le (k := 1920) (by decide) h
  rw [PySem.ofString_length]
  omega
section
variable {X : Cx} {x : Str} {C : Addr} {ps : List Str} {sp : Sp} {p pos : Pos} {e : Expr} {es : List Expr} {ta : TA}
theorem pmk_err (Z : ErrAt X.prog X.w X.K X.mg X.base x C ps sp) (hr : Room 2 X.A) (hg : Gl X x) (ha : PA X (e :: es) ta)
    (hdb : (x == ("__debug__" : Str)) = false := by decide) (he : starEach (e :: es) X.env = (false, eval e X.env) :: starEach es X.env := by rfl) (hpl : (backTo pos (starEach es X.env)).any (·.1) = false := by rfl) :
    PMk X (.Call (.Name x p) (e :: es) [] pos) (tMkO C sp [] ta) := by
  obtain ⟨fI, fd, iC, tI, F, b⟩ := Z.fn
  exact pmk_oex Z.ex iC tI F hr b .nil pass0 hg Z.gm ha hdb he hpl
end
section
variable {P : Program} {w : World} {K : PySem.W.Frag} {mg : Str → Option Value} {base : Heap}
theorem nsPl : NdefX.NScope ["self", "place", "__class__"] ["self", "place"] ["__class__"] (defScope sNoPlaceInit) := NdefX.nscope_by (by decide +kernel)
theorem nsPa : NdefX.NScope ["self", "start", "stop", "__class__"] ["self", "start", "stop"] ["__class__"] (defScope sNoPartInit) := NdefX.nscope_by (by decide +kernel)
theorem ok_noplace {C f cc ca : Addr} {dV kV doc pm ct : Value} {an : Option Addr} (Z : SupAt P K mg C f cc ca (PySem.W.fnX "__init__" "NoPlace.__init__" (defArgs sNoPlaceInit) (defBody sNoPlaceInit) (defScope sNoPlaceInit) [("__class__", cc)] dV kV doc pm an (.ref ca) ct)) (hcd : PySem.W.codeIn K (.ref ca) "NoPlace.__init__" = true) (nf : PySem.W.findIn K (.ref C) "place" = some none) :
    FnOk P w K mg base CX0 1 f (PySem.W.fnX "__init__" "NoPlace.__init__" (defArgs sNoPlaceInit) (defBody sNoPlaceInit) (defScope sNoPlaceInit) [("__class__", cc)] dV kV doc pm an (.ref ca) ct) ["self", "place"] (spErr1 C "place") := by
  refine fn_sup Z hcd nsPl (by decide +kernel) (fun vs H Q E h => ?_) (fun env => ⟨rfl, rfl, rfl, rfl⟩) (fun X H x vs Q E xK xm xP xN xS h => ?_) (fun vs H Q E h => ?_)
  · obtain ⟨x, i, rfl, _⟩ := h
    rfl
  · subst xK
    obtain ⟨x', i, ev, hx, hi, q⟩ := h
    cases ev
    refine ⟨hx, _, _, pa_cons (pe_joined (PJ.cons pe_str (PJ.cons (pe_fmt (pe_var (i := 1) (by rw [xN]; rfl) (by rw [xS]; exact .inl rfl))) PJ.nil))) pa_nil, pss_one (ps_ost (pe_var (i := 0) (by rw [xN]; rfl) (by rw [xS]; exact .inl rfl)) (pe_var (i := 1) (by rw [xN]; rfl) (by rw [xS]; exact .inl rfl))), ?_⟩
    refine ⟨_, rfl, sz (by decide), _, rfl, .inr ⟨i, rfl, hi, _, rfl, sz (Nat.le_trans (cat_le (m := 18) (by decide +kernel) (itext_len hi)) (by decide)), ?_⟩⟩
    refine ⟨by show 1 ≤ 1000; decide, hx, _, rfl, _, rfl, x, C, rfl, Z.ex, nf, .inl ⟨hx, fun dx nd ne => ?_⟩⟩
    refine q dx _ upd_same ?_ nd ne (fun b o hb e => ?_)
    · rw [upd_ne ne, upd_same]
    · rw [upd_ne hb, upd_ne (ne_of_none e nd)]
      exact e
  · obtain ⟨x, i, rfl, _⟩ := h
    exact ⟨x, _, rfl⟩
theorem ok_nopart {C f cc ca : Addr} {dV kV doc pm ct : Value} {an : Option Addr} (Z : SupAt P K mg C f cc ca (PySem.W.fnX "__init__" "NoPart.__init__" (defArgs sNoPartInit) (defBody sNoPartInit) (defScope sNoPartInit) [("__class__", cc)] dV kV doc pm an (.ref ca) ct)) (hcd : PySem.W.codeIn K (.ref ca) "NoPart.__init__" = true) (nf1 : PySem.W.findIn K (.ref C) "start" = some none) (nf2 : PySem.W.findIn K (.ref C) "stop" = some none) :
    FnOk P w K mg base CX0 1 f (PySem.W.fnX "__init__" "NoPart.__init__" (defArgs sNoPartInit) (defBody sNoPartInit) (defScope sNoPartInit) [("__class__", cc)] dV kV doc pm an (.ref ca) ct) ["self", "start", "stop"] (spErr2 C "start" "stop") := by
  refine fn_sup Z hcd nsPa (by decide +kernel) (fun vs H Q E h => ?_) (fun env => ⟨rfl, rfl, rfl, rfl⟩) (fun X H x vs Q E xK xm xP xN xS h => ?_) (fun vs H Q E h => ?_)
  · obtain ⟨x, i, j, rfl, _⟩ := h
    rfl
  · subst xK
    obtain ⟨x', i, j, ev, hx, hi, hj, q⟩ := h
    cases ev
    refine ⟨hx, _, _, pa_cons (pe_joined (PJ.cons pe_str (PJ.cons (pe_fmt (pe_var (i := 1) (by rw [xN]; rfl) (by rw [xS]; exact .inl rfl))) (PJ.cons pe_str (PJ.cons (pe_fmt (pe_var (i := 2) (by rw [xN]; rfl) (by rw [xS]; exact .inl rfl))) PJ.nil))))) pa_nil,
      pss_cons (ps_ost (pe_var (i := 0) (by rw [xN]; rfl) (by rw [xS]; exact .inl rfl)) (pe_var (i := 1) (by rw [xN]; rfl) (by rw [xS]; exact .inl rfl))) (pss_one (ps_ost (pe_var (i := 0) (by rw [xN]; rfl) (by rw [xS]; exact .inl rfl)) (pe_var (i := 2) (by rw [xN]; rfl) (by rw [xS]; exact .inl rfl)))), ?_⟩
    have a1 : (Str.empty ++ ("there is no part from " : Str)).length ≤ 22 := by decide +kernel
    have a2 := cat_le a1 (itext_len hi)
    have a3 := cat_le a2 (show (" to " : Str).length ≤ 4 by decide +kernel)
    have a4 := cat_le a3 (itext_len hj)
    refine ⟨_, rfl, sz (Nat.le_trans a1 (by decide)), _, rfl, .inr ⟨i, rfl, hi, _, rfl, sz (Nat.le_trans a2 (by decide)), _, rfl, sz (Nat.le_trans a3 (by decide)), _, rfl, .inr ⟨j, rfl, hj, _, rfl, sz (Nat.le_trans a4 (by decide)), ?_⟩⟩⟩
    refine ⟨by show 1 ≤ 1000; decide, hx, _, rfl, _, rfl, x, C, rfl, Z.ex, nf1, .inl ⟨hx, fun dx nd ne => ?_⟩⟩
    refine ⟨_, rfl, _, rfl, x, C, rfl, Z.ex, nf2, .inr ⟨dx, _, upd_same, by rw [upd_ne ne, upd_same], by show 1 ≤ 900; decide, ?_⟩⟩
    refine q dx _ (by rw [upd_ne ne.symm, upd_same]) upd_same nd ne (fun b o hb e => ?_)
    rw [upd_ne (ne_of_none e nd), upd_ne hb, upd_ne (ne_of_none e nd)]
    exact e
  · obtain ⟨x, i, j, rfl, _⟩ := h
    exact ⟨x, _, rfl⟩
end
/-! ### defs that may raise -/
structure CalX (P : Program) (w : World) (K : PySem.W.Frag) (mg : Str → Option Value) (base : Heap) (k : Nat) (x : Str) (sp : Sp) : Prop where
  ex : ∃ (f : Addr) (fd : FuncData) (ps : List Str), FnOk P w K mg base (L2.CX P w) k f fd ps sp ∧ mg x = some (.ref f) ∧ PySem.W.keepIn K (.ref f) = true ∧ Binds K fd ps []
section
variable {X : Cx} {k j : Nat} {x : Str} {C : Addr} {sp : Sp} {dvs : List V} {W : WX} {p pos : Pos} {e : Expr} {es : List Expr} {t : TA}
theorem pe_cX (c : CalX X.prog X.w X.K X.mg X.base k x sp) (hr : Room j X.A) (hk : k ≤ j) (hg : Gl X x) (tk : Takes X W) (ha : PA X (e :: es) t)
    (hdb : (x == ("__debug__" : Str)) = false := by decide) (he : starEach (e :: es) X.env = (false, eval e X.env) :: starEach es X.env := by rfl) (hpl : (backTo pos (starEach es X.env)).any (·.1) = false := by rfl) :
    PE X (.Call (.Name x p) (e :: es) [] pos) (tCallS sp (WE W) t) := by
  obtain ⟨f, fd, ps, F, hm, kp, b⟩ := c.ex
  exact pe_callS F (hr.mono hk) hg hm kp b (fun σ => passAt tk σ) ha hdb he hpl
theorem pe_mak0 (c : C8.Mak X.prog X.w X.K X.mg X.base k x C sp dvs) (hr : Room j X.A) (hk : k + 1 ≤ j) (hg : Gl X x)
    (hdb : (x == ("__debug__" : Str)) = false := by decide) : PE X (.Call (.Name x p) [] [] pos) (tMake C sp dvs C8.E0 tNil) := by
  obtain ⟨f, fd, ps, ds, M, F, hm, b, d⟩ := c.ex
  exact pe_make0 M F (hr.mono hk) hg hm b d pass0 hdb
end
/-- an own error without an __init__ of its own, over an own error over ValueError -/
structure PlainErr (K : PySem.W.Frag) (mg : Str → Option Value) (x : Str) (CT : Addr) : Prop where
  ex : ∃ bmB, ExcBaseFacts "ValueError" "ValueError.__new__" "ValueError.__init__" bmB ∧ PySem.W.excIn K CT bmB "ValueError.__new__" = true
  gT : mg x = some (.ref CT)
  kT : PySem.W.keepIn K (.ref CT) = true
  eT : PySem.W.subIn K (.ref CT) (.type "BaseException") = some true
  tT : PySem.W.typeIn K (.ref CT) = some (.type "type")
def NoPartE (CP : Addr) (H : Hp) (i j : Int) (E : XK) : Prop := ∀ d H', Same H H' → H' d = some (.xd [("stop", .int j), ("start", .int i)]) → E (.ref CP) (some d) H'
def NoPlaceE (CQ : Addr) (H : Hp) (i : Int) (E : XK) : Prop := ∀ d H', Same H H' → H' d = some (.xd [("place", .int i)]) → E (.ref CQ) (some d) H'
def NewText (C : Addr) (H : Hp) (L : List Nat) (n : Nat) (Q : VK) : Prop := ∀ (x : Addr) (rs : List Rule) (ts : List (List Nat)) (H' : Hp), TextAt C H' x rs ts → 1 ≤ ts.length → tx ts (ts.length - 1) = L → rs.length ≤ n → Same H H' → H x = none → Q (.ref x) H'
/-- a text that is passed: its letters L, at most n rules -/
structure TxIs (C : Addr) (H : Hp) (x : Addr) (L : List Nat) (n : Nat) (rs : List Rule) (ts : List (List Nat)) : Prop where
  at_ : TextAt C H x rs ts
  one : 1 ≤ ts.length
  eL : tx ts (ts.length - 1) = L
  le : rs.length ≤ n
def Tx (C : Addr) (H : Hp) (x : Addr) (L : List Nat) (n : Nat) : Prop := ∃ rs ts, TxIs C H x L n rs ts
theorem Tx.same {C : Addr} {H H' : Hp} {x : Addr} {L : List Nat} {n : Nat} (h : Tx C H x L n) (s : Same H H') : Tx C H' x L n := let ⟨rs, ts, a, b, c, d⟩ := h; ⟨rs, ts, a.same s, b, c, d⟩
theorem Tx.big {C : Addr} {H : Hp} {x : Addr} {L : List Nat} {n : Nat} (h : Tx C H x L n) : L.length ≤ 1000000000000 := by
  obtain ⟨rs, ts, a, b, rfl, d⟩ := h
  exact a.snd.big (by omega)
theorem Tx.mono {C : Addr} {H : Hp} {x : Addr} {L : List Nat} {n n' : Nat} (h : Tx C H x L n) (l : n ≤ n') : Tx C H x L n' := let ⟨rs, ts, a, b, c, d⟩ := h; ⟨rs, ts, a, b, c, Nat.le_trans d l⟩
def inPart (i j : Int) (n : Nat) : Prop := 0 ≤ i ∧ i ≤ j ∧ j ≤ (n : Int)
instance {i j : Int} {n : Nat} : Decidable (inPart i j n) := by unfold inPart; infer_instance
theorem FrM.back {m MR ML MN : Addr} {H H1 H' : Hp} (s : Same H H1) (f : FrM m MR ML MN H1 H') (h1 : H m = Option.none) (h2 : H MR = Option.none) (h3 : H ML = Option.none) (h4 : H MN = Option.none) : Same H H' := fun b o e => f b o (ne_of_none e h1) (ne_of_none e h2) (ne_of_none e h3) (ne_of_none e h4) (s _ _ e)
theorem making_mk {CM : Addr} {H : Hp} {Q : VK} {E : XK} (q : ∀ (m MR ML MN : Addr) (rs : List Rule) (ts : List (List Nat)) (H1 : Hp), Mkg CM H1 m MR ML MN rs ts → rs.length ≤ 1 → Same H H1 → H m = none → H MR = none → H ML = none → H MN = none → Q (.ref m) H1) :
    ∀ m dx, H m = none → H dx = none → dx ≠ m → spMakingInit CM [.ref m] (upd (upd H dx (.own m)) m (.ins CM dx [])) (fun v H2 => v = .non ∧ Q (.ref m) H2) E := fun m dx nm nd ne => by
  have nm' : (upd H dx (.own m)) m = none := by rw [upd_ne ne.symm]; exact nm
  have s : Same H (upd (upd H dx (.own m)) m (.ins CM dx [])) := (same_new nd).trans (same_new nm')
  exact ⟨m, dx, rfl, upd_same, fun MR ML MN rs ts H' M hl keep nR nL nN => ⟨rfl, q m MR ML MN rs ts H' M hl (fun b o hb => keep b o (ne_of_none hb nm) (s _ _ hb)) nm (s.free nR) (s.free nL) (s.free nN)⟩⟩
theorem nf_m {x : Str} (h1 : ¬ (x = "most_taken")) (h2 : ¬ (x = "nothing")) (h3 : ¬ (x = "numbers")) (h4 : ¬ (x = "lengths")) (h5 : ¬ (x = "rules")) (MR ML MN : Addr) (q : Int) : (mF MR ML MN q).lookup x = none := mF_no _ _ _ _ h1 h2 h3 h4 h5
theorem nf_part (MR ML MN : Addr) (q : Int) : (mF MR ML MN q).lookup ("part" : Str) = none := nf_m (by decide +kernel) (by decide +kernel) (by decide +kernel) (by decide +kernel) (by decide +kernel) _ _ _ _
theorem nf_text (MR ML MN : Addr) (q : Int) : (mF MR ML MN q).lookup ("text" : Str) = none := nf_m (by decide +kernel) (by decide +kernel) (by decide +kernel) (by decide +kernel) (by decide +kernel) _ _ _ _
theorem nf_taken (MR ML MN : Addr) (q : Int) : (mF MR ML MN q).lookup ("taken_in" : Str) = none := nf_m (by decide +kernel) (by decide +kernel) (by decide +kernel) (by decide +kernel) (by decide +kernel) _ _ _ _
theorem nf_turned (MR ML MN : Addr) (q : Int) : (mF MR ML MN q).lookup ("turned" : Str) = none := nf_m (by decide +kernel) (by decide +kernel) (by decide +kernel) (by decide +kernel) (by decide +kernel) _ _ _ _
theorem nf_power (MR ML MN : Addr) (q : Int) : (mF MR ML MN q).lookup ("power" : Str) = none := nf_m (by decide +kernel) (by decide +kernel) (by decide +kernel) (by decide +kernel) (by decide +kernel) _ _ _ _
theorem same_err {H1 H2 : Hp} {a d : Addr} {fs : List (Str × V)} {o : HO} (na : H1 a = none) (nd : (upd H1 a o) d = none) (ne : d ≠ a) (keep : ∀ b u, b ≠ a → (upd H1 a o) b = some u → H2 b = some u) : Same H1 (upd (del H2 a) d (.xd fs)) ∧ H1 d = none := by
  have n1 : H1 d = none := by rw [upd_ne ne] at nd; exact nd
  refine ⟨fun b u e => ?_, n1⟩
  have hb := ne_of_none e na
  rw [upd_ne (ne_of_none e n1), del_ne hb]
  exact keep b u hb (by rw [upd_ne hb]; exact e)
section
variable {P : Program} {w : World} {K : PySem.W.Frag} {mg : Str → Option Value} {base : Heap}
/-! ### check_part, check_place, check_size -/
def spCheckPart (C CP : Addr) : Sp := fun vs H Q E => ∃ (x : Addr) (L : List Nat) (n : Nat) (i j : Int), vs = [.ref x, .int i, .int j] ∧ Tx C H x L n ∧ i.natAbs.log2 < 1920 ∧ j.natAbs.log2 < 1920 ∧ (inPart i j L.length → Q .non H) ∧ (¬ inPart i j L.length → NoPartE CP H i j E)
theorem scCp : FnScope ["text", "start", "stop"] ["text", "start", "stop"] (defScope sCheckPart) := ⟨rfl, rfl, rfl, by decide +kernel, rfl, by decide +kernel, by decide +kernel⟩
theorem ok_check_part {C CP f : Addr} {fd : FuncData} (F : Fun K "check_part" "check_part" sCheckPart f fd) (hm : mg "check_part" = some (.ref f)) (b : Binds K fd ["text", "start", "stop"] []) (D : Cl K C) (ZP : ErrAt P w K mg base "NoPart" CP ["self", "start", "stop"] (spErr2 CP "start" "stop")) (GIp : Cal P w K mg base 1 "is_part" spIsPart []) : CalX P w K mg base 4 "check_part" (spCheckPart C CP) := by
  refine ⟨f, fd, _, F.okX scCp (fun vs H Q E h => ?_) (fun cdv A outer s H vs Q E hr h => ?_), hm, F.kp, b⟩
  · obtain ⟨x, L, n, i, j, rfl, _⟩ := h
    rfl
  obtain ⟨x, L, n, i, j, rfl, ⟨rs, ts, ⟨dx, RU, LE, fs, as, hI⟩, h1, rfl, _⟩, hi, hj, q, qe⟩ := h
  refine ⟨_, (pss_one (ps_if (pt_not (pt_val (pe_c GIp hr (by decide) (by rfl) (pa_cons (pv 1) (pa_cons (pv 2) (pa_cons (pe_fld (pv 0) rfl) pa_nil)))))) (pss_one (ps_raise rfl (takes_of rfl rfl rfl rfl) (pmk_err ZP (hr.mono (by decide)) (by rfl) (pa_cons (pv 1) (pa_cons (pv 2) pa_nil))))) pss_nil)), ?_⟩
  have fin : ¬ inPart i j (tx ts (ts.length - 1)).length → ([V.int i, V.int j] : List V).length ≤ 1000 ∧ ∀ a, H a = none → spErr2 CP "start" "stop" (.ref a :: ([V.int i, V.int j] ++ [])) (upd H a (exo a CP none)) (fun v H2 => v = .non ∧ ∃ (d : Addr) (fs : List (Str × V)), H2 a = some (exo a CP (some d)) ∧ H2 d = some (exd d fs) ∧ H d = none ∧ E (.ref CP) (some d) (upd (del H2 a) d (.xd fs))) (fun _ _ _ => False) := fun hn => ⟨by show 2 ≤ 1000; decide, fun a na => ⟨a, i, j, rfl, upd_same, hi, hj, fun d H2 hx2 hd2 nd ne keep => by
    obtain ⟨s2, n1⟩ := same_err (fs := [("stop", .int j), ("start", .int i)]) na nd ne keep
    exact ⟨rfl, d, _, hx2, hd2, n1, qe hn d _ s2 upd_same⟩⟩⟩
  by_cases hp : inPart i j (tx ts (ts.length - 1)).length
  · refine ⟨_, rfl, _, rfl, _, rfl, x, C, dx, _, _, rfl, hI.at_, D.cl, D.nN, hI.fN, _, _, _, rfl, _, rfl, ifF ?_ ?_⟩
    · rw [decide_eq_true (show 0 ≤ i ∧ i ≤ j ∧ j ≤ ((tx ts (ts.length - 1)).length : Int) from hp)]
      rfl
    · exact q hp
  · refine ⟨_, rfl, _, rfl, _, rfl, x, C, dx, _, _, rfl, hI.at_, D.cl, D.nN, hI.fN, _, _, _, rfl, _, rfl, ifT ?_ ?_⟩
    · rw [decide_eq_false (show ¬ (0 ≤ i ∧ i ≤ j ∧ j ≤ ((tx ts (ts.length - 1)).length : Int)) from hp)]
      rfl
    · exact ⟨_, rfl, _, rfl, fin hp⟩
def spCheckPlace (C CQ : Addr) : Sp := fun vs H Q E => ∃ (x : Addr) (L : List Nat) (n : Nat) (i : Int), vs = [.ref x, .int i] ∧ Tx C H x L n ∧ i.natAbs.log2 < 1920 ∧ (0 ≤ i ∧ i ≤ (L.length : Int) → Q .non H) ∧ (¬ (0 ≤ i ∧ i ≤ (L.length : Int)) → NoPlaceE CQ H i E)
theorem scCq : FnScope ["text", "place"] ["text", "place"] (defScope sCheckPlace) := ⟨rfl, rfl, rfl, by decide +kernel, rfl, by decide +kernel, by decide +kernel⟩
theorem noplace_fin {CQ : Addr} {H : Hp} {i : Int} {E : XK} (hi : i.natAbs.log2 < 1920) (qe : NoPlaceE CQ H i E) : ([V.int i] : List V).length ≤ 1000 ∧ ∀ a, H a = none → spErr1 CQ "place" (.ref a :: ([V.int i] ++ [])) (upd H a (exo a CQ none)) (fun v H2 => v = .non ∧ ∃ (d : Addr) (fs : List (Str × V)), H2 a = some (exo a CQ (some d)) ∧ H2 d = some (exd d fs) ∧ H d = none ∧ E (.ref CQ) (some d) (upd (del H2 a) d (.xd fs))) (fun _ _ _ => False) :=
  ⟨by show 1 ≤ 1000; decide, fun a na => ⟨a, i, rfl, upd_same, hi, fun d H2 hx2 hd2 nd ne keep => by
    obtain ⟨s2, n1⟩ := same_err (fs := [("place", .int i)]) na nd ne keep
    exact ⟨rfl, d, _, hx2, hd2, n1, qe d _ s2 upd_same⟩⟩⟩
theorem ok_check_place {C CQ f : Addr} {fd : FuncData} (F : Fun K "check_place" "check_place" sCheckPlace f fd) (hm : mg "check_place" = some (.ref f)) (b : Binds K fd ["text", "place"] []) (D : Cl K C) (ZQ : ErrAt P w K mg base "NoPlace" CQ ["self", "place"] (spErr1 CQ "place")) : CalX P w K mg base 4 "check_place" (spCheckPlace C CQ) := by
  refine ⟨f, fd, _, F.okX scCq (fun vs H Q E h => ?_) (fun cdv A outer s H vs Q E hr h => ?_), hm, F.kp, b⟩
  · obtain ⟨x, L, n, i, rfl, _⟩ := h
    rfl
  obtain ⟨x, L, n, i, rfl, ⟨rs, ts, ⟨dx, RU, LE, fs, as, hI⟩, h1, rfl, _⟩, hi, q, qe⟩ := h
  refine ⟨_, (pss_one (ps_if (pt_not (pt_chain op_le op_le pe_int (pv 1) (pe_fld (pv 0) rfl))) (pss_one (ps_raise rfl (takes_of rfl rfl rfl rfl) (pmk_err ZQ (hr.mono (by decide)) (by rfl) (pa_cons (pv 1) pa_nil)))) pss_nil)), ?_⟩
  by_cases h0 : (0 : Int) ≤ i
  · by_cases h2 : i ≤ ((tx ts (ts.length - 1)).length : Int)
    · refine ⟨_, rfl, _, _, rfl, rfl, _, rfl, ifT (decide_eq_true h0) ⟨_, rfl, x, C, dx, _, _, rfl, hI.at_, D.cl, D.nN, hI.fN, _, _, rfl, rfl, _, rfl, ifF ?_ (q ⟨h0, h2⟩)⟩⟩
      rw [decide_eq_true h2]
      rfl
    · refine ⟨_, rfl, _, _, rfl, rfl, _, rfl, ifT (decide_eq_true h0) ⟨_, rfl, x, C, dx, _, _, rfl, hI.at_, D.cl, D.nN, hI.fN, _, _, rfl, rfl, _, rfl, ifT ?_ ⟨_, rfl, noplace_fin hi (qe fun z => h2 z.2)⟩⟩⟩
      rw [decide_eq_false h2]
      rfl
  · exact ⟨_, rfl, _, _, rfl, rfl, _, rfl, ifF (decide_eq_false h0) ⟨_, rfl, ifT rfl ⟨_, rfl, noplace_fin hi (qe fun z => h0 z.1)⟩⟩⟩
def spCheckSize (CL : Addr) : Sp := fun vs H Q E => ∃ i : Int, vs = [.int i] ∧ (i ≤ 1000000000000 → Q .non H) ∧ (¬ i ≤ 1000000000000 → E (.ref CL) none H)
theorem scCs : FnScope ["length"] ["length"] (defScope sCheckSize) := ⟨rfl, rfl, rfl, by decide +kernel, rfl, by decide +kernel, by decide +kernel⟩
theorem ok_check_size {CL f : Addr} {fd : FuncData} (F : Fun K "check_size" "check_size" sCheckSize f fd) (hm : mg "check_size" = some (.ref f)) (b : Binds K fd ["length"] []) (T : Txt mg) (Z : PlainErr K mg "TooLarge" CL) : CalX P w K mg base 1 "check_size" (spCheckSize CL) := by
  refine ⟨f, fd, _, F.okX scCs (fun vs H Q E h => ?_) (fun cdv A outer s H vs Q E hr h => ?_), hm, F.kp, b⟩
  · obtain ⟨i, rfl, _⟩ := h
    rfl
  obtain ⟨i, rfl, q, qe⟩ := h
  obtain ⟨bmB, FBL, qTL⟩ := Z.ex
  have gTL := Z.gT
  have kTL := Z.kT
  have rT : ∀ X : Cx, X.K = K → Raises X (.ref CL) := fun X e => raises_own (by rw [e]; exact Z.eT) (by rw [e]; exact Z.tT)
  have rTL := rT (cxOf (L2.CX P w) P w K mg base ["length"] "check_size" (defScope sCheckSize) f cdv A outer s H E) rfl
  refine ⟨_, (pss_one (ps_if (pt_cmpR op_gt (pv 0) (C8.pe_gc (by rfl) T.MOST_LETTERS) (nomark _)) (pss_one (ps_raise rfl (takes_of rfl rfl rfl rfl) (pmk_own FBL qTL gTL kTL rTL (by rfl)))) pss_nil)), ?_⟩
  by_cases h : i ≤ 1000000000000
  · exact ⟨_, rfl, _, _, rfl, rfl, _, rfl, ifF (decide_eq_false (by omega)) (q h)⟩
  · exact ⟨_, rfl, _, _, rfl, rfl, _, rfl, ifT (decide_eq_true (by omega)) (qe h)⟩
/-! ### made_around -/
def spMadeAround (C CM : Addr) : Sp := fun vs H Q _ => ∃ (m MR ML MN : Addr) (rs : List Rule) (ts : List (List Nat)) (i a b k : Nat), vs = [.ref m, .int (i : Int), .int (a : Int), .int (b : Int), .int (k : Int)] ∧ Mkg CM H m MR ML MN rs ts ∧ i < ts.length ∧ k < ts.length ∧ a ≤ b ∧ b ≤ (tx ts i).length ∧ a + (tx ts k).length + ((tx ts i).length - b) ≤ 1000000000000 ∧ rs.length ≤ 490 ∧
  ∀ (x : Addr) (rs2 : List Rule) (ts2 : List (List Nat)) (H' : Hp), TextAt C H' x rs2 ts2 → 1 ≤ ts2.length → tx ts2 (ts2.length - 1) = sub (tx ts i) 0 a ++ (tx ts k ++ sub (tx ts i) b (tx ts i).length) → rs2.length ≤ max 33 (rs.length + 5) → FrM m MR ML MN H H' → H x = none → Q (.ref x) H'
theorem scMa : FnScope ["making", "number", "start", "stop", "middle", "head", "tail"] ["making", "number", "start", "stop", "middle"] (defScope sMadeAround) := ⟨rfl, rfl, rfl, by decide +kernel, rfl, by decide +kernel, by decide +kernel⟩
theorem ok_made_around {C CM f : Addr} {fd : FuncData} (F : Fun K "made_around" "made_around" sMadeAround f fd) (hm : mg "made_around" = some (.ref f)) (b : Binds K fd ["making", "number", "start", "stop", "middle"] []) (D : ClM K CM) (GPt : C8.Met P w K mg base 3 CM "part" (spPart CM) []) (GMt : C8.Met P w K mg base 7 CM "text" (spMText C CM) []) : Cal P w K mg base 8 "made_around" (spMadeAround C CM) [] := by
  refine mkCal F hm b scMa (fun vs H Q E h => ?_) (fun cdv A outer s H vs Q E hr h => ?_)
  · obtain ⟨m, MR, ML, MN, rs, ts, i, a, b, k, rfl, _⟩ := h
    rfl
  obtain ⟨m, MR, ML, MN, rs, ts, i, a, b, k, rfl, hM, hi, hk, hab, hb, htot, h9, q⟩ := h
  refine ⟨_, (pss_cons (ps_set (i := 5) scMa.nd rfl (.inl rfl) (C8.pe_mt GPt hr (by decide) (pv 0) (pa_cons (pv 1) (pa_cons pe_int (pa_cons (pv 2) pa_nil)))))
    (pss_cons (ps_set (i := 6) scMa.nd rfl (.inl rfl) (C8.pe_mt GPt hr (by decide) (pv 0) (pa_cons (pv 1) (pa_cons (pv 3) (pa_cons (pe_ix ix_list (pe_fld (pv 0) rfl) (pv 1) (fun _ _ => rfl)) pa_nil)))))
    (pss_one (ps_ret (C8.pe_mt GMt hr (by decide) (pv 0) (pa_cons (pe_lst (pa_cons (pv 5) (pa_cons (pv 4) (pa_cons (pv 6) pa_nil)))) pa_nil)))))), ?_⟩
  obtain ⟨dx, as, kvs, z, M, h0, ht0, hz⟩ := id hM
  refine ⟨_, rfl, m, dx, _, rfl, M.at_, nf_part _ _ _ _, _, rfl, _, rfl, m, MR, ML, MN, rs, ts, i, 0, a, rfl, hM, hi, Nat.zero_le _, by omega, by omega, fun rs1 ts1 j1 H1 hM1 ex1 hj1 e1 l1 f1 => ?_⟩
  obtain ⟨dx1, as1, kvs1, z1, M1, h01, ht01, hz1⟩ := id hM1
  refine ⟨_, rfl, m, dx1, _, rfl, M1.at_, nf_part _ _ _ _, _, rfl, _, rfl, _, rfl, m, CM, dx1, _, _, rfl, M1.at_, D.cl, D.nL, mF_L _ _ _ _, _, rfl, ML, _, (i : Int), _, rfl, rfl, SqL.of M1.hL, lenV_at (ex1.lt hi), m, MR, ML, MN, rs1, ts1, i, b, _, rfl, hM1, ex1.lt hi, by rw [ex1.tx hi]; exact hb, Nat.le_refl _, by omega, fun rs2 ts2 j2 H2 hM2 ex2 hj2 e2 l2 f2 => ?_⟩
  rw [ex1.tx hi] at e2
  obtain ⟨dx2, as2, kvs2, z2, M2, h02, ht02, hz2⟩ := id hM2
  refine ⟨_, rfl, m, dx2, _, rfl, M2.at_, nf_text _ _ _ _, _, rfl, _, rfl, _, rfl, by show 3 ≤ sizeLine; decide, fun L nL => ?_⟩
  have s3 := same_new (o := .lst [V.int (j1 : Int), V.int (k : Int), V.int (j2 : Int)]) nL
  have ex := ex1.trans ex2
  have efl : flatOf ts2 [j1, k, j2] = sub (tx ts i) 0 a ++ (tx ts k ++ sub (tx ts i) b (tx ts i).length) := by
    show ([tx ts2 j1, tx ts2 k, tx ts2 j2] : List (List Nat)).flatten = _
    rw [ex2.tx hj1, e1, ex.tx hk, e2]
    simp
  refine ⟨m, L, MR, ML, MN, rs2, ts2, [j1, k, j2], rfl, hM2.same s3, upd_same, (ne_of_none M2.hR nL).symm, (ne_of_none M2.hL nL).symm, ?_, ?_, by show rs2.length + 3 ≤ 499; omega, fun x rs3 ts3 H3 tX h1 el lr f3 nx => ?_⟩
  · intro j hj
    simp only [List.mem_cons, List.not_mem_nil, or_false] at hj
    rcases hj with rfl | rfl | rfl
    · exact ex2.lt hj1
    · exact ex.lt hk
    · exact hj2
  · rw [efl, List.length_append, List.length_append, sub_len (by omega), sub_len (Nat.le_refl _)]
    omega
  · have f := (f1.trans f2).trans (Same.frM s3)
    have nx2 : H2 x = none := s3.free nx
    exact q x rs3 ts3 H3 tX h1 (by rw [el, efl]) (Nat.le_trans lr (by show max 33 (rs2.length + 3) ≤ _; omega)) (f.trans f3) (M2.none (f1.trans f2) nx2)
end
theorem making_facts {H H1 : Hp} {C m dx MR ML MN : Addr} {fs : List (Str × V)} (nm : H m = none) (nd : H dx = none) (ne : dx ≠ m) (keep : ∀ b o, b ≠ m → (upd (upd H dx (.own m)) m (.ins C dx fs)) b = some o → H1 b = some o) (nR : (upd (upd H dx (.own m)) m (.ins C dx fs)) MR = none) (nL : (upd (upd H dx (.own m)) m (.ins C dx fs)) ML = none) (nN : (upd (upd H dx (.own m)) m (.ins C dx fs)) MN = none) :
    Same H H1 ∧ H MR = none ∧ H ML = none ∧ H MN = none := by
  have nm' : (upd H dx (.own m)) m = none := by rw [upd_ne ne.symm]; exact nm
  have s : Same H (upd (upd H dx (.own m)) m (.ins C dx fs)) := (same_new nd).trans (same_new nm')
  exact ⟨fun b o hb => keep b o (ne_of_none hb nm) (s _ _ hb), s.free nR, s.free nL, s.free nN⟩
theorem new_back {CM : Addr} {H H1 H3 : Hp} {m MR ML MN x : Addr} {rs : List Rule} {ts : List (List Nat)} (s : Same H H1) (f : FrM m MR ML MN H1 H3) (M : Mkg CM H3 m MR ML MN rs ts) (n : H3 x = none) : H x = none := by
  obtain ⟨dx, as, kvs, z, M, _⟩ := M
  have h1 : H1 x = none := M.none f n
  exact s.free h1
theorem Mkg.at {CM : Addr} {H : Hp} {m MR ML MN : Addr} {rs : List Rule} {ts : List (List Nat)} (M : Mkg CM H m MR ML MN rs ts) : ∃ dx q, H m = some (.ins CM dx (mF MR ML MN q)) := let ⟨dx, _, _, q, M, _⟩ := M; ⟨dx, q, M.at_⟩
theorem Mkg.neL {CM : Addr} {H : Hp} {m MR ML MN D : Addr} {rs : List Rule} {ts : List (List Nat)} (M : Mkg CM H m MR ML MN rs ts) (n : H D = none) : D ≠ MR ∧ D ≠ ML := by
  obtain ⟨dx, as, kvs, z, M, _⟩ := M
  exact ⟨(ne_of_none M.hR n).symm, (ne_of_none M.hL n).symm⟩
theorem Mkg.zero {CM : Addr} {H : Hp} {m MR ML MN : Addr} {rs : List Rule} {ts : List (List Nat)} (M : Mkg CM H m MR ML MN rs ts) : 0 < ts.length ∧ tx ts 0 = [] := let ⟨_, _, _, _, _, h1, h2, _⟩ := M; ⟨h1, h2⟩
theorem Mkg.big {CM : Addr} {H : Hp} {m MR ML MN : Addr} {rs : List Rule} {ts : List (List Nat)} (M : Mkg CM H m MR ML MN rs ts) {i : Nat} (h : i < ts.length) : (tx ts i).length ≤ 1000000000000 := let ⟨_, _, _, _, M, _⟩ := M; M.sound.big h
section
variable {P : Program} {w : World} {K : PySem.W.Frag} {mg : Str → Option Value} {base : Heap}
/-! ### part_of -/
def spPartOf (C CP : Addr) : Sp := fun vs H Q E => ∃ (x : Addr) (L : List Nat) (n : Nat) (i j : Int), vs = [.ref x, .int i, .int j] ∧ Tx C H x L n ∧ n ≤ 220 ∧ i.natAbs.log2 < 1920 ∧ j.natAbs.log2 < 1920 ∧ (¬ inPart i j L.length → NoPartE CP H i j E) ∧ (inPart i j L.length → NewText C H (sub L i.toNat j.toNat) (max 33 (n + 10)) Q)
theorem scPo : FnScope ["text", "start", "stop", "making"] ["text", "start", "stop"] (defScope sPartOf) := ⟨rfl, rfl, rfl, by decide +kernel, rfl, by decide +kernel, by decide +kernel⟩
theorem ok_part_of {C CM CP f : Addr} {fd : FuncData} (F : Fun K "part_of" "part_of" sPartOf f fd) (hm : mg "part_of" = some (.ref f)) (b : Binds K fd ["text", "start", "stop"] []) (GCp : CalX P w K mg base 4 "check_part" (spCheckPart C CP)) (MKg : C8.Mak P w K mg base 3 "Making" CM (spMakingInit CM) [])
    (GTi : C8.Met P w K mg base 3 CM "taken_in" (spTakenIn C CM) []) (GPt : C8.Met P w K mg base 3 CM "part" (spPart CM) []) (GMt : C8.Met P w K mg base 7 CM "text" (spMText C CM) []) : CalX P w K mg base 9 "part_of" (spPartOf C CP) := by
  refine ⟨f, fd, _, F.okX scPo (fun vs H Q E h => ?_) (fun cdv A outer s H vs Q E hr h => ?_), hm, F.kp, b⟩
  · obtain ⟨x, L, n, i, j, rfl, _⟩ := h
    rfl
  obtain ⟨x, L, n, i, j, rfl, hX, hn, hi, hj, qe, q⟩ := h
  refine ⟨_, (pss_cons (ps_expr (pe_cX GCp hr (by decide) (by rfl) (takes_of rfl rfl rfl rfl) (pa_cons (pv 0) (pa_cons (pv 1) (pa_cons (pv 2) pa_nil)))))
    (pss_cons (ps_set (i := 3) scPo.nd rfl (.inl rfl) (pe_mak0 MKg hr (by decide) (by rfl)))
    (pss_one (ps_ret (C8.pe_mt GMt hr (by decide) (pv 3) (pa_cons (pe_lst (pa_cons (C8.pe_mt GPt hr (by decide) (pv 3) (pa_cons (C8.pe_mt GTi hr (by decide) (pv 3) (pa_cons (pv 0) pa_nil)) (pa_cons (pv 1) (pa_cons (pv 2) pa_nil)))) pa_nil)) pa_nil)))))), ?_⟩
  by_cases hp : inPart i j L.length
  · have q := q hp
    obtain ⟨p1, p2, p3⟩ := id hp
    refine ⟨_, rfl, _, rfl, _, rfl, x, L, n, i, j, rfl, hX, hi, hj, fun _ => ?_, fun z => absurd hp z⟩
    refine fun m dx nm nd ne => ⟨m, dx, rfl, upd_same, fun MR ML MN rs1 ts1 H1 hM1 l1 keep nR0 nL0 nN0 => ⟨rfl, ?_⟩⟩
    obtain ⟨s1, nR, nL, nN⟩ := making_facts nm nd ne keep nR0 nL0 nN0
    obtain ⟨rs, ts, tX, one, eL, hle⟩ := hX
    have hxm : x ≠ m := by
      obtain ⟨_, _, _, _, _, hI⟩ := tX
      exact ne_of_none hI.at_ nm
    obtain ⟨d1, z1, a1⟩ := hM1.at
    refine ⟨_, rfl, m, d1, _, rfl, a1, nf_text _ _ _ _, _, rfl, m, d1, _, rfl, a1, nf_part _ _ _ _, _, rfl, m, d1, _, rfl, a1, nf_taken _ _ _ _, _, rfl, m, x, MR, ML, MN, rs1, rs, ts1, ts, rfl, hM1, tX.same s1, hxm, one, by omega, fun rs2 ts2 k H2 hM2 ex2 hk ek l2 f2 => ?_⟩
    rw [eL] at ek
    refine ⟨_, rfl, _, rfl, m, MR, ML, MN, rs2, ts2, k, i.toNat, j.toNat, by rw [Int.toNat_of_nonneg p1, Int.toNat_of_nonneg (Int.le_trans p1 p2)]; rfl, hM2, hk, by omega, by rw [ek]; omega, by omega, fun rs3 ts3 k3 H3 hM3 ex3 hk3 ek3 l3 f3 => ?_⟩
    rw [ek] at ek3
    refine ⟨by show 1 ≤ sizeLine; decide, fun D nD => ?_⟩
    have s4 := same_new (o := .lst [V.int (k3 : Int)]) nD
    obtain ⟨n1, n2⟩ := hM3.neL nD
    have efl : flatOf ts3 [k3] = sub L i.toNat j.toNat := by
      show ([tx ts3 k3] : List (List Nat)).flatten = _
      rw [ek3]
      simp
    refine ⟨m, D, MR, ML, MN, rs3, ts3, [k3], rfl, hM3.same s4, upd_same, n1, n2, fun t ht => ?_, ?_, by show rs3.length + 1 ≤ 499; omega, fun x2 rs4 ts4 H4 tX4 h4 el4 lr4 f4 nx4 => ?_⟩
    · rw [List.mem_singleton.mp ht]
      exact hk3
    · rw [efl, ← ek3]
      exact hM3.big hk3
    · refine q x2 rs4 ts4 H4 tX4 h4 (by rw [el4, efl]) (Nat.le_trans lr4 (by show max 33 (rs3.length + 1) ≤ _; omega)) (((f2.trans f3).trans ((Same.frM s4).trans f4)).back s1 nm nR nL nN) (new_back s1 (f2.trans f3) hM3 (s4.free nx4))
  · exact ⟨_, rfl, _, rfl, _, rfl, x, L, n, i, j, rfl, hX, hi, hj, fun z => absurd z hp, qe⟩
/-! ### remove_part -/
def spRemovePart (C CP : Addr) : Sp := fun vs H Q E => ∃ (x : Addr) (L : List Nat) (n : Nat) (i j : Int), vs = [.ref x, .int i, .int j] ∧ Tx C H x L n ∧ n ≤ 220 ∧ i.natAbs.log2 < 1920 ∧ j.natAbs.log2 < 1920 ∧ (¬ inPart i j L.length → NoPartE CP H i j E) ∧ (inPart i j L.length → NewText C H (sub L 0 i.toNat ++ sub L j.toNat L.length) (max 33 (n + 10)) Q)
theorem scRp : FnScope ["text", "start", "stop", "making"] ["text", "start", "stop"] (defScope sRemovePart) := ⟨rfl, rfl, rfl, by decide +kernel, rfl, by decide +kernel, by decide +kernel⟩
theorem ok_remove_part {C CM CP f : Addr} {fd : FuncData} (F : Fun K "remove_part" "remove_part" sRemovePart f fd) (hm : mg "remove_part" = some (.ref f)) (b : Binds K fd ["text", "start", "stop"] []) (D : ClM K CM) (GCp : CalX P w K mg base 4 "check_part" (spCheckPart C CP)) (MKg : C8.Mak P w K mg base 3 "Making" CM (spMakingInit CM) [])
    (GTi : C8.Met P w K mg base 3 CM "taken_in" (spTakenIn C CM) []) (GMa : Cal P w K mg base 8 "made_around" (spMadeAround C CM) []) : CalX P w K mg base 9 "remove_part" (spRemovePart C CP) := by
  refine ⟨f, fd, _, F.okX scRp (fun vs H Q E h => ?_) (fun cdv A outer s H vs Q E hr h => ?_), hm, F.kp, b⟩
  · obtain ⟨x, L, n, i, j, rfl, _⟩ := h
    rfl
  obtain ⟨x, L, n, i, j, rfl, hX, hn, hi, hj, qe, q⟩ := h
  refine ⟨_, (pss_cons (ps_expr (pe_cX GCp hr (by decide) (by rfl) (takes_of rfl rfl rfl rfl) (pa_cons (pv 0) (pa_cons (pv 1) (pa_cons (pv 2) pa_nil)))))
    (pss_cons (ps_set (i := 3) scRp.nd rfl (.inl rfl) (pe_mak0 MKg hr (by decide) (by rfl)))
    (pss_one (ps_ret (pe_c GMa hr (by decide) (by rfl) (pa_cons (pv 3) (pa_cons (C8.pe_mt GTi hr (by decide) (pv 3) (pa_cons (pv 0) pa_nil)) (pa_cons (pv 1) (pa_cons (pv 2) (pa_cons (pe_fld (pv 3) rfl) pa_nil)))))))))), ?_⟩
  by_cases hp : inPart i j L.length
  · have q := q hp
    obtain ⟨p1, p2, p3⟩ := id hp
    refine ⟨_, rfl, _, rfl, _, rfl, x, L, n, i, j, rfl, hX, hi, hj, fun _ => ?_, fun z => absurd hp z⟩
    refine fun m dx nm nd ne => ⟨m, dx, rfl, upd_same, fun MR ML MN rs1 ts1 H1 hM1 l1 keep nR0 nL0 nN0 => ⟨rfl, ?_⟩⟩
    obtain ⟨s1, nR, nL, nN⟩ := making_facts nm nd ne keep nR0 nL0 nN0
    have hbig := hX.big
    obtain ⟨rs, ts, tX, one, eL, hle⟩ := hX
    have hxm : x ≠ m := by
      obtain ⟨_, _, _, _, _, hI⟩ := tX
      exact ne_of_none hI.at_ nm
    obtain ⟨d1, z1, a1⟩ := hM1.at
    refine ⟨_, rfl, _, rfl, m, d1, _, rfl, a1, nf_taken _ _ _ _, _, rfl, m, x, MR, ML, MN, rs1, rs, ts1, ts, rfl, hM1, tX.same s1, hxm, one, by omega, fun rs2 ts2 k H2 hM2 ex2 hk ek l2 f2 => ?_⟩
    rw [eL] at ek
    obtain ⟨d2, z2, a2⟩ := hM2.at
    obtain ⟨t0, t1⟩ := hM2.zero
    refine ⟨_, rfl, _, rfl, _, rfl, m, CM, d2, _, _, rfl, a2, D.cl, D.nO, mF_O _ _ _ _, m, MR, ML, MN, rs2, ts2, k, i.toNat, j.toNat, 0, by rw [Int.toNat_of_nonneg p1, Int.toNat_of_nonneg (Int.le_trans p1 p2)]; rfl, hM2, hk, t0, by omega, by rw [ek]; omega, by rw [t1, ek]; simp only [List.length_nil]; omega, by omega, fun x2 rs4 ts4 H4 tX4 h4 el4 lr4 f4 nx4 => ?_⟩
    exact q x2 rs4 ts4 H4 tX4 h4 (by rw [el4, t1, ek, List.nil_append]) (by omega) ((f2.trans f4).back s1 nm nR nL nN) (new_back s1 f2 hM2 nx4)
  · exact ⟨_, rfl, _, rfl, _, rfl, x, L, n, i, j, rfl, hX, hi, hj, fun z => absurd z hp, qe⟩
/-! ### replace_part, insert_at -/
def spReplacePart (C CP CL : Addr) : Sp := fun vs H Q E => ∃ (x y : Addr) (L O : List Nat) (n n2 : Nat) (i j : Int), vs = [.ref x, .int i, .int j, .ref y] ∧ Tx C H x L n ∧ Tx C H y O n2 ∧ n ≤ 220 ∧ n2 ≤ 220 ∧ i.natAbs.log2 < 1920 ∧ j.natAbs.log2 < 1920 ∧ (¬ inPart i j L.length → NoPartE CP H i j E) ∧
  (inPart i j L.length → ¬ (L.length : Int) - (j - i) + (O.length : Int) ≤ 1000000000000 → E (.ref CL) none H) ∧ (inPart i j L.length → (L.length : Int) - (j - i) + (O.length : Int) ≤ 1000000000000 → NewText C H (sub L 0 i.toNat ++ (O ++ sub L j.toNat L.length)) (max 33 (n + n2 + 10)) Q)
theorem scRl : FnScope ["text", "start", "stop", "other", "making"] ["text", "start", "stop", "other"] (defScope sReplacePart) := ⟨rfl, rfl, rfl, by decide +kernel, rfl, by decide +kernel, by decide +kernel⟩
theorem ok_replace_part {C CM CP CL f : Addr} {fd : FuncData} (F : Fun K "replace_part" "replace_part" sReplacePart f fd) (hm : mg "replace_part" = some (.ref f)) (b : Binds K fd ["text", "start", "stop", "other"] []) (Dc : Cl K C) (GCp : CalX P w K mg base 4 "check_part" (spCheckPart C CP)) (GCs : CalX P w K mg base 1 "check_size" (spCheckSize CL)) (MKg : C8.Mak P w K mg base 3 "Making" CM (spMakingInit CM) [])
    (GTi : C8.Met P w K mg base 3 CM "taken_in" (spTakenIn C CM) []) (GMa : Cal P w K mg base 8 "made_around" (spMadeAround C CM) []) : CalX P w K mg base 9 "replace_part" (spReplacePart C CP CL) := by
  refine ⟨f, fd, _, F.okX scRl (fun vs H Q E h => ?_) (fun cdv A outer s H vs Q E hr h => ?_), hm, F.kp, b⟩
  · obtain ⟨x, y, L, O, n, n2, i, j, rfl, _⟩ := h
    rfl
  obtain ⟨x, y, L, O, n, n2, i, j, rfl, hX, hY, hn, hn2, hi, hj, qe, qt, q⟩ := h
  refine ⟨_, (pss_cons (ps_expr (pe_cX GCp hr (by decide) (by rfl) (takes_of rfl rfl rfl rfl) (pa_cons (pv 0) (pa_cons (pv 1) (pa_cons (pv 2) pa_nil)))))
    (pss_cons (ps_expr (pe_cX GCs hr (by decide) (by rfl) (takes_of rfl rfl rfl rfl) (pa_cons (pe_op op_add (pe_op op_sub (pe_fld (pv 0) rfl) (pe_op op_sub (pv 2) (pv 1))) (pe_fld (pv 3) rfl)) pa_nil)))
    (pss_cons (ps_set (i := 4) scRl.nd rfl (.inl rfl) (pe_mak0 MKg hr (by decide) (by rfl)))
    (pss_one (ps_ret (pe_c GMa hr (by decide) (by rfl) (pa_cons (pv 4) (pa_cons (C8.pe_mt GTi hr (by decide) (pv 4) (pa_cons (pv 0) pa_nil)) (pa_cons (pv 1) (pa_cons (pv 2) (pa_cons (C8.pe_mt GTi hr (by decide) (pv 4) (pa_cons (pv 3) pa_nil)) pa_nil))))))))))), ?_⟩
  by_cases hp : inPart i j L.length
  · have q := q hp
    have qt := qt hp
    obtain ⟨p1, p2, p3⟩ := id hp
    refine ⟨_, rfl, _, rfl, _, rfl, x, L, n, i, j, rfl, hX, hi, hj, fun _ => ?_, fun z => absurd hp z⟩
    obtain ⟨rs, ts, tX, one, eL, hle⟩ := id hX
    obtain ⟨rsy, tsy, tY, oney, eO, hley⟩ := id hY
    obtain ⟨dx0, RU, LE, fs, as, hI⟩ := id tX
    obtain ⟨dy0, RU2, LE2, fs2, as2, hJ⟩ := id tY
    have lx := hI.fN
    have ly := hJ.fN
    rw [eL] at lx
    rw [eO] at ly
    refine ⟨_, rfl, x, C, dx0, _, _, rfl, hI.at_, Dc.cl, Dc.nN, lx, _, rfl, _, rfl, _, _, rfl, rfl, _, _, rfl, rfl, _, rfl, y, C, dy0, _, _, rfl, hJ.at_, Dc.cl, Dc.nN, ly, _, _, rfl, rfl, _, rfl, fun hs => ?_, fun hs => qt hs⟩
    have q := q hs
    refine fun m dx nm nd ne => ⟨m, dx, rfl, upd_same, fun MR ML MN rs1 ts1 H1 hM1 l1 keep nR0 nL0 nN0 => ⟨rfl, ?_⟩⟩
    obtain ⟨s1, nR, nL, nN⟩ := making_facts nm nd ne keep nR0 nL0 nN0
    have hxm : x ≠ m := ne_of_none hI.at_ nm
    have hym : y ≠ m := ne_of_none hJ.at_ nm
    obtain ⟨d1, z1, a1⟩ := hM1.at
    refine ⟨_, rfl, _, rfl, m, d1, _, rfl, a1, nf_taken _ _ _ _, _, rfl, m, x, MR, ML, MN, rs1, rs, ts1, ts, rfl, hM1, tX.same s1, hxm, one, by omega, fun rs2 ts2 k H2 hM2 ex2 hk ek l2 f2 => ?_⟩
    rw [eL] at ek
    obtain ⟨d2, z2, a2⟩ := hM2.at
    have tY2 := hM1.text f2 (tY.same s1) hym
    refine ⟨_, rfl, _, rfl, _, rfl, m, d2, _, rfl, a2, nf_taken _ _ _ _, _, rfl, m, y, MR, ML, MN, rs2, rsy, ts2, tsy, rfl, hM2, tY2, hym, oney, by omega, fun rs3 ts3 k3 H3 hM3 ex3 hk3 ek3 l3 f3 => ?_⟩
    rw [eO] at ek3
    have ek' : tx ts3 k = L := by rw [ex3.tx hk, ek]
    refine ⟨m, MR, ML, MN, rs3, ts3, k, i.toNat, j.toNat, k3, by rw [Int.toNat_of_nonneg p1, Int.toNat_of_nonneg (Int.le_trans p1 p2)]; rfl, hM3, ex3.lt hk, hk3, by omega, by rw [ek']; omega, by rw [ek', ek3]; omega, by omega, fun x2 rs4 ts4 H4 tX4 h4 el4 lr4 f4 nx4 => ?_⟩
    exact q x2 rs4 ts4 H4 tX4 h4 (by rw [el4, ek', ek3]) (by omega) (((f2.trans f3).trans f4).back s1 nm nR nL nN) (new_back s1 (f2.trans f3) hM3 nx4)
  · exact ⟨_, rfl, _, rfl, _, rfl, x, L, n, i, j, rfl, hX, hi, hj, fun z => absurd z hp, qe⟩
def spInsertAt (C CQ CL : Addr) : Sp := fun vs H Q E => ∃ (x y : Addr) (L O : List Nat) (n n2 : Nat) (i : Int), vs = [.ref x, .int i, .ref y] ∧ Tx C H x L n ∧ Tx C H y O n2 ∧ n ≤ 220 ∧ n2 ≤ 220 ∧ i.natAbs.log2 < 1920 ∧ (¬ (0 ≤ i ∧ i ≤ (L.length : Int)) → NoPlaceE CQ H i E) ∧
  (0 ≤ i ∧ i ≤ (L.length : Int) → ¬ (L.length : Int) + (O.length : Int) ≤ 1000000000000 → E (.ref CL) none H) ∧ (0 ≤ i ∧ i ≤ (L.length : Int) → (L.length : Int) + (O.length : Int) ≤ 1000000000000 → NewText C H (sub L 0 i.toNat ++ (O ++ sub L i.toNat L.length)) (max 33 (n + n2 + 10)) Q)
theorem scIa : FnScope ["text", "place", "other"] ["text", "place", "other"] (defScope sInsertAt) := ⟨rfl, rfl, rfl, by decide +kernel, rfl, by decide +kernel, by decide +kernel⟩
theorem ok_insert_at {C CP CQ CL f : Addr} {fd : FuncData} (F : Fun K "insert_at" "insert_at" sInsertAt f fd) (hm : mg "insert_at" = some (.ref f)) (b : Binds K fd ["text", "place", "other"] []) (GCq : CalX P w K mg base 4 "check_place" (spCheckPlace C CQ)) (GRp : CalX P w K mg base 9 "replace_part" (spReplacePart C CP CL)) : CalX P w K mg base 10 "insert_at" (spInsertAt C CQ CL) := by
  refine ⟨f, fd, _, F.okX scIa (fun vs H Q E h => ?_) (fun cdv A outer s H vs Q E hr h => ?_), hm, F.kp, b⟩
  · obtain ⟨x, y, L, O, n, n2, i, rfl, _⟩ := h
    rfl
  obtain ⟨x, y, L, O, n, n2, i, rfl, hX, hY, hn, hn2, hi, qe, qt, q⟩ := h
  refine ⟨_, (pss_cons (ps_expr (pe_cX GCq hr (by decide) (by rfl) (takes_of rfl rfl rfl rfl) (pa_cons (pv 0) (pa_cons (pv 1) pa_nil))))
    (pss_one (ps_ret (pe_cX GRp hr (by decide) (by rfl) (takes_of rfl rfl rfl rfl) (pa_cons (pv 0) (pa_cons (pv 1) (pa_cons (pv 1) (pa_cons (pv 2) pa_nil)))))))), ?_⟩
  by_cases hp : 0 ≤ i ∧ i ≤ (L.length : Int)
  · have q := q hp
    have qt := qt hp
    have hq : inPart i i L.length := ⟨hp.1, Int.le_refl _, hp.2⟩
    have e : (L.length : Int) - (i - i) + (O.length : Int) = (L.length : Int) + (O.length : Int) := by omega
    exact ⟨_, rfl, _, rfl, x, L, n, i, rfl, hX, hi, fun _ => ⟨_, rfl, _, rfl, _, rfl, _, rfl, x, y, L, O, n, n2, i, i, rfl, hX, hY, hn, hn2, hi, hi, fun z => absurd hq z, fun _ h => qt (by rw [← e]; exact h), fun _ h => q (by rw [← e]; exact h)⟩, fun z => absurd hp z⟩
  · exact ⟨_, rfl, _, rfl, x, L, n, i, rfl, hX, hi, fun z => absurd z hp, qe⟩
end
theorem TextAt.len_at {C : Addr} {H : Hp} {x : Addr} {rs : List Rule} {ts : List (List Nat)} {L : List Nat} (t : TextAt C H x rs ts) (e : tx ts (ts.length - 1) = L) : ∃ dx fs, H x = some (.ins C dx fs) ∧ fs.lookup ("length" : Str) = some (.int (L.length : Int)) := by
  obtain ⟨dx, RU, LE, fs, as, h⟩ := t
  exact ⟨dx, fs, h.at_, by rw [← e]; exact h.fN⟩
section
variable {P : Program} {w : World} {K : PySem.W.Frag} {mg : Str → Option Value} {base : Heap}
/-! ### move_part -/
def without (L : List Nat) (a b : Nat) : List Nat := sub L 0 a ++ sub L b L.length
theorem without_len {L : List Nat} {a b : Nat} (h : a ≤ b) (h2 : b ≤ L.length) : (without L a b).length = L.length - (b - a) := by
  unfold without
  rw [List.length_append, sub_len (by omega), sub_len (Nat.le_refl _)]
  omega
def spMovePart (C CP CQ : Addr) : Sp := fun vs H Q E => ∃ (x : Addr) (L : List Nat) (n : Nat) (i j t : Int), vs = [.ref x, .int i, .int j, .int t] ∧ Tx C H x L n ∧ n ≤ 220 ∧ i.natAbs.log2 < 1920 ∧ j.natAbs.log2 < 1920 ∧ t.natAbs.log2 < 1920 ∧ (¬ inPart i j L.length → NoPartE CP H i j E) ∧
  (inPart i j L.length → ¬ (0 ≤ t ∧ t ≤ (L.length : Int) - (j - i)) → NoPlaceE CQ H t E) ∧ (inPart i j L.length → 0 ≤ t ∧ t ≤ (L.length : Int) - (j - i) → NewText C H (sub (without L i.toNat j.toNat) 0 t.toNat ++ (sub L i.toNat j.toNat ++ sub (without L i.toNat j.toNat) t.toNat (without L i.toNat j.toNat).length)) (max 33 (n + 15)) Q)
theorem scMp : FnScope ["text", "start", "stop", "place", "making", "number", "rest"] ["text", "start", "stop", "place"] (defScope sMovePart) := ⟨rfl, rfl, rfl, by decide +kernel, rfl, by decide +kernel, by decide +kernel⟩
theorem ok_move_part {C CM CP CQ f : Addr} {fd : FuncData} (F : Fun K "move_part" "move_part" sMovePart f fd) (hm : mg "move_part" = some (.ref f)) (b : Binds K fd ["text", "start", "stop", "place"] []) (Dc : Cl K C) (GCp : CalX P w K mg base 4 "check_part" (spCheckPart C CP)) (ZQ : ErrAt P w K mg base "NoPlace" CQ ["self", "place"] (spErr1 CQ "place")) (MKg : C8.Mak P w K mg base 3 "Making" CM (spMakingInit CM) [])
    (GTi : C8.Met P w K mg base 3 CM "taken_in" (spTakenIn C CM) []) (GPt : C8.Met P w K mg base 3 CM "part" (spPart CM) []) (GJo : C8.Met P w K mg base 3 CM "joined" (spJoined CM) []) (GMa : Cal P w K mg base 8 "made_around" (spMadeAround C CM) []) : CalX P w K mg base 9 "move_part" (spMovePart C CP CQ) := by
  refine ⟨f, fd, _, F.okX scMp (fun vs H Q E h => ?_) (fun cdv A outer s H vs Q E hr h => ?_), hm, F.kp, b⟩
  · obtain ⟨x, L, n, i, j, t, rfl, _⟩ := h
    rfl
  obtain ⟨x, L, n, i, j, t, rfl, hX, hn, hi, hj, ht, qe, qp, q⟩ := h
  refine ⟨_, (pss_cons (ps_expr (pe_cX GCp hr (by decide) (by rfl) (takes_of rfl rfl rfl rfl) (pa_cons (pv 0) (pa_cons (pv 1) (pa_cons (pv 2) pa_nil)))))
    (pss_cons (ps_if (pt_not (pt_chain op_le op_le pe_int (pv 3) (pe_op op_sub (pe_fld (pv 0) rfl) (pe_op op_sub (pv 2) (pv 1))))) (pss_one (ps_raise rfl (takes_of rfl rfl rfl rfl) (pmk_err ZQ (hr.mono (by decide)) (by rfl) (pa_cons (pv 3) pa_nil)))) pss_nil)
    (pss_cons (ps_set (i := 4) scMp.nd rfl (.inl rfl) (pe_mak0 MKg hr (by decide) (by rfl)))
    (pss_cons (ps_set (i := 5) scMp.nd rfl (.inl rfl) (C8.pe_mt GTi hr (by decide) (pv 4) (pa_cons (pv 0) pa_nil)))
    (pss_cons (ps_set (i := 6) scMp.nd rfl (.inl rfl) (C8.pe_mt GJo hr (by decide) (pv 4) (pa_cons (pe_lst (pa_cons (C8.pe_mt GPt hr (by decide) (pv 4) (pa_cons (pv 5) (pa_cons pe_int (pa_cons (pv 1) pa_nil)))) (pa_cons (C8.pe_mt GPt hr (by decide) (pv 4) (pa_cons (pv 5) (pa_cons (pv 2) (pa_cons (pe_fld (pv 0) rfl) pa_nil)))) pa_nil))) pa_nil)))
    (pss_one (ps_ret (pe_c GMa hr (by decide) (by rfl) (pa_cons (pv 4) (pa_cons (pv 6) (pa_cons (pv 3) (pa_cons (pv 3) (pa_cons (C8.pe_mt GPt hr (by decide) (pv 4) (pa_cons (pv 5) (pa_cons (pv 1) (pa_cons (pv 2) pa_nil)))) pa_nil))))))))))))), ?_⟩
  by_cases hp : inPart i j L.length
  · have q := q hp
    have qp := qp hp
    obtain ⟨p1, p2, p3⟩ := id hp
    refine ⟨_, rfl, _, rfl, _, rfl, x, L, n, i, j, rfl, hX, hi, hj, fun _ => ?_, fun z => absurd hp z⟩
    have hbig := hX.big
    obtain ⟨rs, ts, tX, one, eL, hle⟩ := id hX
    obtain ⟨dx0, fs0, x0, lx⟩ := tX.len_at eL
    by_cases h0 : (0 : Int) ≤ t
    · by_cases h2 : t ≤ (L.length : Int) - (j - i)
      · have q := q ⟨h0, h2⟩
        refine ⟨_, rfl, _, _, rfl, rfl, _, rfl, ifT (decide_eq_true h0) ⟨_, rfl, x, C, dx0, _, _, rfl, x0, Dc.cl, Dc.nN, lx, _, rfl, _, rfl, _, _, rfl, rfl, _, _, rfl, rfl, _, _, rfl, rfl, _, rfl, ifF (by rw [decide_eq_true h2]; rfl) ?_⟩⟩
        refine fun m dx nm nd ne => ⟨m, dx, rfl, upd_same, fun MR ML MN rs1 ts1 H1 hM1 l1 keep nR0 nL0 nN0 => ⟨rfl, ?_⟩⟩
        obtain ⟨s1, nR, nL, nN⟩ := making_facts nm nd ne keep nR0 nL0 nN0
        have hxm : x ≠ m := ne_of_none x0 nm
        obtain ⟨d1, z1, a1⟩ := hM1.at
        refine ⟨_, rfl, m, d1, _, rfl, a1, nf_taken _ _ _ _, _, rfl, m, x, MR, ML, MN, rs1, rs, ts1, ts, rfl, hM1, tX.same s1, hxm, one, by omega, fun rs2 ts2 k H2 hM2 ex2 hk ek l2 f2 => ?_⟩
        rw [eL] at ek
        obtain ⟨d2, z2, a2⟩ := hM2.at
        refine ⟨_, rfl, m, d2, _, rfl, a2, nf_joined _ _ _ _, _, rfl, m, d2, _, rfl, a2, nf_part _ _ _ _, _, rfl, _, rfl, m, MR, ML, MN, rs2, ts2, k, 0, i.toNat, by rw [Int.toNat_of_nonneg p1]; rfl, hM2, hk, Nat.zero_le _, by rw [ek]; omega, by omega, fun rs3 ts3 k3 H3 hM3 ex3 hk3 ek3 l3 f3 => ?_⟩
        rw [ek] at ek3
        obtain ⟨d3, z3, a3⟩ := hM3.at
        have tX3 := hM1.text (f2.trans f3) (tX.same s1) hxm
        obtain ⟨dx3, fs3, x3, lx3⟩ := tX3.len_at eL
        have ek' : tx ts3 k = L := by rw [ex3.tx hk, ek]
        refine ⟨_, rfl, m, d3, _, rfl, a3, nf_part _ _ _ _, _, rfl, _, rfl, _, rfl, x, C, dx3, _, _, rfl, x3, Dc.cl, Dc.nN, lx3, m, MR, ML, MN, rs3, ts3, k, j.toNat, L.length, by rw [Int.toNat_of_nonneg (Int.le_trans p1 p2)]; rfl, hM3, ex3.lt hk, by omega, by rw [ek']; exact Nat.le_refl _, by omega, fun rs4 ts4 k4 H4 hM4 ex4 hk4 ek4 l4 f4 => ?_⟩
        rw [ek'] at ek4
        refine ⟨by show 2 ≤ sizeLine; decide, fun D nD => ?_⟩
        have s5 := same_new (o := .lst [V.int (k3 : Int), V.int (k4 : Int)]) nD
        obtain ⟨n1, n2⟩ := hM4.neL nD
        have efl : flatOf ts4 [k3, k4] = without L i.toNat j.toNat := by
          show ([tx ts4 k3, tx ts4 k4] : List (List Nat)).flatten = _
          rw [ex4.tx hk3, ek3, ek4]
          simp [without]
        have wl := without_len (L := L) (a := i.toNat) (b := j.toNat) (by omega) (by omega)
        refine ⟨m, D, MR, ML, MN, rs4, ts4, [k3, k4], rfl, hM4.same s5, upd_same, n1, n2, fun u hu => ?_, by rw [efl, wl]; omega, by show rs4.length + 2 ≤ 900; omega, fun rs6 ts6 r H6 hM6 ex6 hr6 er l6 f6 => ?_⟩
        · simp only [List.mem_cons, List.not_mem_nil, or_false] at hu
          rcases hu with rfl | rfl
          · exact ex4.lt hk3
          · exact hk4
        rw [efl] at er
        have l6' : rs6.length ≤ rs4.length + 2 := l6
        obtain ⟨d6, z6, a6⟩ := hM6.at
        have exA := (ex3.trans ex4).trans ex6
        have ek6 : tx ts6 k = L := by rw [exA.tx hk, ek]
        have F6 := ((f2.trans f3).trans f4).trans ((Same.frM s5).trans f6)
        refine ⟨_, rfl, _, rfl, _, rfl, _, rfl, _, rfl, m, d6, _, rfl, a6, nf_part _ _ _ _, _, rfl, _, rfl, _, rfl, m, MR, ML, MN, rs6, ts6, k, i.toNat, j.toNat, by rw [Int.toNat_of_nonneg p1, Int.toNat_of_nonneg (Int.le_trans p1 p2)]; rfl, hM6, exA.lt hk, by omega, by rw [ek6]; omega, by omega, fun rs7 ts7 k7 H7 hM7 ex7 hk7 ek7 l7 f7 => ?_⟩
        rw [ek6] at ek7
        have er7 : tx ts7 r = without L i.toNat j.toNat := by rw [ex7.tx hr6, er]
        refine ⟨m, MR, ML, MN, rs7, ts7, r, t.toNat, t.toNat, k7, by rw [Int.toNat_of_nonneg h0]; rfl, hM7, ex7.lt hr6, hk7, Nat.le_refl _, by rw [er7, wl]; omega, by rw [er7, wl, ek7, sub_len (by omega)]; omega, by omega, fun x2 rs8 ts8 H8 tX8 h8 el8 lr8 f8 nx8 => ?_⟩
        exact q x2 rs8 ts8 H8 tX8 h8 (by rw [el8, er7, ek7]) (by omega) (((F6.trans f7).trans f8).back s1 nm nR nL nN) (new_back s1 (F6.trans f7) hM7 nx8)
      · exact ⟨_, rfl, _, _, rfl, rfl, _, rfl, ifT (decide_eq_true h0) ⟨_, rfl, x, C, dx0, _, _, rfl, x0, Dc.cl, Dc.nN, lx, _, rfl, _, rfl, _, _, rfl, rfl, _, _, rfl, rfl, _, _, rfl, rfl, _, rfl, ifT (by rw [decide_eq_false h2]; rfl) ⟨_, rfl, noplace_fin ht (qp fun z => h2 z.2)⟩⟩⟩
    · exact ⟨_, rfl, _, _, rfl, rfl, _, rfl, ifF (decide_eq_false h0) ⟨_, rfl, ifT rfl ⟨_, rfl, noplace_fin ht (qp fun z => h0 z.1)⟩⟩⟩
  · exact ⟨_, rfl, _, rfl, _, rfl, x, L, n, i, j, rfl, hX, hi, hj, fun z => absurd z hp, qe⟩
/-! ### turn_part -/
def spTurnPart (C CP : Addr) : Sp := fun vs H Q E => ∃ (x : Addr) (L : List Nat) (n : Nat) (i j : Int), vs = [.ref x, .int i, .int j] ∧ Tx C H x L n ∧ n ≤ 220 ∧ i.natAbs.log2 < 1920 ∧ j.natAbs.log2 < 1920 ∧ (¬ inPart i j L.length → NoPartE CP H i j E) ∧ (inPart i j L.length → NewText C H (sub L 0 i.toNat ++ ((sub L i.toNat j.toNat).reverse ++ sub L j.toNat L.length)) (max 33 (n + 10)) Q)
theorem scTp : FnScope ["text", "start", "stop", "making", "number"] ["text", "start", "stop"] (defScope sTurnPart) := ⟨rfl, rfl, rfl, by decide +kernel, rfl, by decide +kernel, by decide +kernel⟩
theorem ok_turn_part {C CM CP f : Addr} {fd : FuncData} (F : Fun K "turn_part" "turn_part" sTurnPart f fd) (hm : mg "turn_part" = some (.ref f)) (b : Binds K fd ["text", "start", "stop"] []) (GCp : CalX P w K mg base 4 "check_part" (spCheckPart C CP)) (MKg : C8.Mak P w K mg base 3 "Making" CM (spMakingInit CM) [])
    (GTi : C8.Met P w K mg base 3 CM "taken_in" (spTakenIn C CM) []) (GPt : C8.Met P w K mg base 3 CM "part" (spPart CM) []) (GTn : C8.Met P w K mg base 3 CM "turned" (spTurned CM) []) (GMa : Cal P w K mg base 8 "made_around" (spMadeAround C CM) []) : CalX P w K mg base 9 "turn_part" (spTurnPart C CP) := by
  refine ⟨f, fd, _, F.okX scTp (fun vs H Q E h => ?_) (fun cdv A outer s H vs Q E hr h => ?_), hm, F.kp, b⟩
  · obtain ⟨x, L, n, i, j, rfl, _⟩ := h
    rfl
  obtain ⟨x, L, n, i, j, rfl, hX, hn, hi, hj, qe, q⟩ := h
  refine ⟨_, (pss_cons (ps_expr (pe_cX GCp hr (by decide) (by rfl) (takes_of rfl rfl rfl rfl) (pa_cons (pv 0) (pa_cons (pv 1) (pa_cons (pv 2) pa_nil)))))
    (pss_cons (ps_set (i := 3) scTp.nd rfl (.inl rfl) (pe_mak0 MKg hr (by decide) (by rfl)))
    (pss_cons (ps_set (i := 4) scTp.nd rfl (.inl rfl) (C8.pe_mt GTi hr (by decide) (pv 3) (pa_cons (pv 0) pa_nil)))
    (pss_one (ps_ret (pe_c GMa hr (by decide) (by rfl) (pa_cons (pv 3) (pa_cons (pv 4) (pa_cons (pv 1) (pa_cons (pv 2) (pa_cons (C8.pe_mt GTn hr (by decide) (pv 3) (pa_cons (C8.pe_mt GPt hr (by decide) (pv 3) (pa_cons (pv 4) (pa_cons (pv 1) (pa_cons (pv 2) pa_nil)))) pa_nil)) pa_nil))))))))))), ?_⟩
  by_cases hp : inPart i j L.length
  · have q := q hp
    obtain ⟨p1, p2, p3⟩ := id hp
    refine ⟨_, rfl, _, rfl, _, rfl, x, L, n, i, j, rfl, hX, hi, hj, fun _ => ?_, fun z => absurd hp z⟩
    have hbig := hX.big
    obtain ⟨rs, ts, tX, one, eL, hle⟩ := id hX
    obtain ⟨dx0, fs0, x0, lx⟩ := tX.len_at eL
    refine fun m dx nm nd ne => ⟨m, dx, rfl, upd_same, fun MR ML MN rs1 ts1 H1 hM1 l1 keep nR0 nL0 nN0 => ⟨rfl, ?_⟩⟩
    obtain ⟨s1, nR, nL, nN⟩ := making_facts nm nd ne keep nR0 nL0 nN0
    have hxm : x ≠ m := ne_of_none x0 nm
    obtain ⟨d1, z1, a1⟩ := hM1.at
    refine ⟨_, rfl, m, d1, _, rfl, a1, nf_taken _ _ _ _, _, rfl, m, x, MR, ML, MN, rs1, rs, ts1, ts, rfl, hM1, tX.same s1, hxm, one, by omega, fun rs2 ts2 k H2 hM2 ex2 hk ek l2 f2 => ?_⟩
    rw [eL] at ek
    obtain ⟨d2, z2, a2⟩ := hM2.at
    refine ⟨_, rfl, _, rfl, _, rfl, _, rfl, _, rfl, m, d2, _, rfl, a2, nf_turned _ _ _ _, _, rfl, m, d2, _, rfl, a2, nf_part _ _ _ _, _, rfl, _, rfl, _, rfl, m, MR, ML, MN, rs2, ts2, k, i.toNat, j.toNat, by rw [Int.toNat_of_nonneg p1, Int.toNat_of_nonneg (Int.le_trans p1 p2)]; rfl, hM2, hk, by omega, by rw [ek]; omega, by omega, fun rs3 ts3 k3 H3 hM3 ex3 hk3 ek3 l3 f3 => ?_⟩
    rw [ek] at ek3
    refine ⟨m, MR, ML, MN, rs3, ts3, k3, rfl, hM3, hk3, by omega, fun rs4 ts4 k4 H4 hM4 ex4 hk4 ek4 l4 f4 => ?_⟩
    rw [ek3] at ek4
    have exA := ex3.trans ex4
    have ek' : tx ts4 k = L := by rw [exA.tx hk, ek]
    have F4 := (f2.trans f3).trans f4
    refine ⟨m, MR, ML, MN, rs4, ts4, k, i.toNat, j.toNat, k4, by rw [Int.toNat_of_nonneg p1, Int.toNat_of_nonneg (Int.le_trans p1 p2)]; rfl, hM4, exA.lt hk, hk4, by omega, by rw [ek']; omega, by rw [ek', ek4, List.length_reverse, sub_len (by omega)]; omega, by omega, fun x2 rs8 ts8 H8 tX8 h8 el8 lr8 f8 nx8 => ?_⟩
    exact q x2 rs8 ts8 H8 tX8 h8 (by rw [el8, ek', ek4]) (by omega) ((F4.trans f8).back s1 nm nR nL nN) (new_back s1 F4 hM4 nx8)
  · exact ⟨_, rfl, _, rfl, _, rfl, x, L, n, i, j, rfl, hX, hi, hj, fun z => absurd z hp, qe⟩
/-! ### repeat_part -/
def spRepeatPart (C CP CT CL : Addr) : Sp := fun vs H Q E => ∃ (x : Addr) (L : List Nat) (n : Nat) (i j t : Int), vs = [.ref x, .int i, .int j, .int t] ∧ Tx C H x L n ∧ n ≤ 220 ∧ i.natAbs.log2 < 1920 ∧ j.natAbs.log2 < 1920 ∧ (¬ inPart i j L.length → NoPartE CP H i j E) ∧
  (inPart i j L.length → ¬ (0 ≤ t ∧ t ≤ 1000000000000) → E (.ref CT) none H) ∧ (inPart i j L.length → 0 ≤ t ∧ t ≤ 1000000000000 → ¬ (L.length : Int) + (j - i) * (t - 1) ≤ 1000000000000 → E (.ref CL) none H) ∧
  (inPart i j L.length → 0 ≤ t ∧ t ≤ 1000000000000 → (L.length : Int) + (j - i) * (t - 1) ≤ 1000000000000 → NewText C H (sub L 0 i.toNat ++ (pw (sub L i.toNat j.toNat) t.toNat ++ sub L j.toNat L.length)) (max 33 (n + 10)) Q)
theorem scRt : FnScope ["text", "start", "stop", "times", "making", "number"] ["text", "start", "stop", "times"] (defScope sRepeatPart) := ⟨rfl, rfl, rfl, by decide +kernel, rfl, by decide +kernel, by decide +kernel⟩
theorem ok_repeat_part {C CM CP CT CL f : Addr} {fd : FuncData} (F : Fun K "repeat_part" "repeat_part" sRepeatPart f fd) (hm : mg "repeat_part" = some (.ref f)) (b : Binds K fd ["text", "start", "stop", "times"] []) (T : Txt mg) (Dc : Cl K C) (GCp : CalX P w K mg base 4 "check_part" (spCheckPart C CP)) (GCs : CalX P w K mg base 1 "check_size" (spCheckSize CL)) (Z : PlainErr K mg "BadTimes" CT) (MKg : C8.Mak P w K mg base 3 "Making" CM (spMakingInit CM) [])
    (GTi : C8.Met P w K mg base 3 CM "taken_in" (spTakenIn C CM) []) (GPt : C8.Met P w K mg base 3 CM "part" (spPart CM) []) (GPw : C8.Met P w K mg base 3 CM "power" (spPower CM) []) (GMa : Cal P w K mg base 8 "made_around" (spMadeAround C CM) []) : CalX P w K mg base 9 "repeat_part" (spRepeatPart C CP CT CL) := by
  refine ⟨f, fd, _, F.okX scRt (fun vs H Q E h => ?_) (fun cdv A outer s H vs Q E hr h => ?_), hm, F.kp, b⟩
  · obtain ⟨x, L, n, i, j, t, rfl, _⟩ := h
    rfl
  obtain ⟨x, L, n, i, j, t, rfl, hX, hn, hi, hj, qe, qb, qt, q⟩ := h
  obtain ⟨bmB, FBT, qTT⟩ := Z.ex
  have gTT := Z.gT
  have kTT := Z.kT
  have rT : ∀ X : Cx, X.K = K → Raises X (.ref CT) := fun X e => raises_own (by rw [e]; exact Z.eT) (by rw [e]; exact Z.tT)
  have rTT := rT (cxOf (L2.CX P w) P w K mg base ["text", "start", "stop", "times", "making", "number"] "repeat_part" (defScope sRepeatPart) f cdv A outer s H E) rfl
  refine ⟨_, (pss_cons (ps_expr (pe_cX GCp hr (by decide) (by rfl) (takes_of rfl rfl rfl rfl) (pa_cons (pv 0) (pa_cons (pv 1) (pa_cons (pv 2) pa_nil)))))
    (pss_cons (ps_if (pt_not (pt_chain op_le op_le pe_int (pv 3) (C8.pe_gc (by rfl) T.MOST_TIMES))) (pss_one (ps_raise rfl (takes_of rfl rfl rfl rfl) (pmk_own FBT qTT gTT kTT rTT (by rfl)))) pss_nil)
    (pss_cons (ps_expr (pe_cX GCs hr (by decide) (by rfl) (takes_of rfl rfl rfl rfl) (pa_cons (pe_op op_add (pe_fld (pv 0) rfl) (pe_op op_mul (pe_op op_sub (pv 2) (pv 1)) (pe_op op_sub (pv 3) pe_int))) pa_nil)))
    (pss_cons (ps_set (i := 4) scRt.nd rfl (.inl rfl) (pe_mak0 MKg hr (by decide) (by rfl)))
    (pss_cons (ps_set (i := 5) scRt.nd rfl (.inl rfl) (C8.pe_mt GTi hr (by decide) (pv 4) (pa_cons (pv 0) pa_nil)))
    (pss_one (ps_ret (pe_c GMa hr (by decide) (by rfl) (pa_cons (pv 4) (pa_cons (pv 5) (pa_cons (pv 1) (pa_cons (pv 2) (pa_cons (C8.pe_mt GPw hr (by decide) (pv 4) (pa_cons (C8.pe_mt GPt hr (by decide) (pv 4) (pa_cons (pv 5) (pa_cons (pv 1) (pa_cons (pv 2) pa_nil)))) (pa_cons (pv 3) pa_nil))) pa_nil))))))))))))), ?_⟩
  by_cases hp : inPart i j L.length
  · have q := q hp
    have qt := qt hp
    have qb := qb hp
    obtain ⟨p1, p2, p3⟩ := id hp
    refine ⟨_, rfl, _, rfl, _, rfl, x, L, n, i, j, rfl, hX, hi, hj, fun _ => ?_, fun z => absurd hp z⟩
    have hbig := hX.big
    obtain ⟨rs, ts, tX, one, eL, hle⟩ := id hX
    obtain ⟨dx0, fs0, x0, lx⟩ := tX.len_at eL
    by_cases h0 : (0 : Int) ≤ t
    · by_cases h2 : t ≤ 1000000000000
      · have q := q ⟨h0, h2⟩
        have qt := qt ⟨h0, h2⟩
        refine ⟨_, rfl, _, _, rfl, rfl, _, rfl, ifT (decide_eq_true h0) ⟨_, _, rfl, rfl, _, rfl, ifF (by rw [decide_eq_true h2]; rfl) ?_⟩⟩
        refine ⟨_, rfl, x, C, dx0, _, _, rfl, x0, Dc.cl, Dc.nN, lx, _, rfl, _, rfl, _, _, rfl, rfl, _, rfl, _, _, rfl, rfl, _, _, rfl, rfl, .inl ⟨by omega, by omega⟩, _, _, rfl, rfl, _, rfl, fun hs => ?_, fun hs => qt hs⟩
        have q := q hs
        have e1 : (j - i) * (t - 1) = (j - i) * t - (j - i) := by rw [Int.mul_sub, Int.mul_one]
        have e2 : ((t.toNat * (j.toNat - i.toNat) : Nat) : Int) = (j - i) * t := by
          rw [Int.natCast_mul, Int.toNat_of_nonneg h0, Int.mul_comm]
          congr 1
          omega
        rw [e1] at hs
        generalize (j - i) * t = pr at e2 hs
        refine fun m dx nm nd ne => ⟨m, dx, rfl, upd_same, fun MR ML MN rs1 ts1 H1 hM1 l1 keep nR0 nL0 nN0 => ⟨rfl, ?_⟩⟩
        obtain ⟨s1, nR, nL, nN⟩ := making_facts nm nd ne keep nR0 nL0 nN0
        have hxm : x ≠ m := ne_of_none x0 nm
        obtain ⟨d1, z1, a1⟩ := hM1.at
        refine ⟨_, rfl, m, d1, _, rfl, a1, nf_taken _ _ _ _, _, rfl, m, x, MR, ML, MN, rs1, rs, ts1, ts, rfl, hM1, tX.same s1, hxm, one, by omega, fun rs2 ts2 k H2 hM2 ex2 hk ek l2 f2 => ?_⟩
        rw [eL] at ek
        obtain ⟨d2, z2, a2⟩ := hM2.at
        refine ⟨_, rfl, _, rfl, _, rfl, _, rfl, _, rfl, m, d2, _, rfl, a2, nf_power _ _ _ _, _, rfl, m, d2, _, rfl, a2, nf_part _ _ _ _, _, rfl, _, rfl, _, rfl, m, MR, ML, MN, rs2, ts2, k, i.toNat, j.toNat, by rw [Int.toNat_of_nonneg p1, Int.toNat_of_nonneg (Int.le_trans p1 p2)]; rfl, hM2, hk, by omega, by rw [ek]; omega, by omega, fun rs3 ts3 k3 H3 hM3 ex3 hk3 ek3 l3 f3 => ?_⟩
        rw [ek] at ek3
        have l3' : (tx ts3 k3).length = j.toNat - i.toNat := by rw [ek3, sub_len (by omega)]
        refine ⟨_, rfl, m, MR, ML, MN, rs3, ts3, k3, t.toNat, by rw [Int.toNat_of_nonneg h0]; rfl, hM3, hk3, by omega, by rw [l3']; omega, by omega, fun rs4 ts4 k4 H4 hM4 ex4 hk4 ek4 l4 f4 => ?_⟩
        rw [ek3] at ek4
        have exA := ex3.trans ex4
        have ek' : tx ts4 k = L := by rw [exA.tx hk, ek]
        have F4 := (f2.trans f3).trans f4
        refine ⟨m, MR, ML, MN, rs4, ts4, k, i.toNat, j.toNat, k4, by rw [Int.toNat_of_nonneg p1, Int.toNat_of_nonneg (Int.le_trans p1 p2)]; rfl, hM4, exA.lt hk, hk4, by omega, by rw [ek']; omega, by rw [ek', ek4, pw_len, sub_len (by omega)]; omega, by omega, fun x2 rs8 ts8 H8 tX8 h8 el8 lr8 f8 nx8 => ?_⟩
        exact q x2 rs8 ts8 H8 tX8 h8 (by rw [el8, ek', ek4]) (by omega) ((F4.trans f8).back s1 nm nR nL nN) (new_back s1 F4 hM4 nx8)
      · exact ⟨_, rfl, _, _, rfl, rfl, _, rfl, ifT (decide_eq_true h0) ⟨_, _, rfl, rfl, _, rfl, ifT (by rw [decide_eq_false h2]; rfl) (qb fun z => h2 z.2)⟩⟩
    · exact ⟨_, rfl, _, _, rfl, rfl, _, rfl, ifF (decide_eq_false h0) ⟨_, rfl, ifT rfl (qb fun z => h0 z.1)⟩⟩
  · exact ⟨_, rfl, _, rfl, _, rfl, x, L, n, i, j, rfl, hX, hi, hj, fun z => absurd z hp, qe⟩
end
/-! ### segments -/
theorem sub_app (l m : List Nat) (a b : Nat) : sub (l ++ m) a b = sub l a b ++ sub m (a - l.length) (b - l.length) := by
  unfold sub
  rw [List.take_append, List.drop_append, List.length_take]
  by_cases h : b ≤ l.length
  · rw [Nat.sub_eq_zero_of_le h, List.take_zero, List.drop_nil, List.drop_nil]
  · rw [Nat.min_eq_right (by omega)]
theorem sub_none {l : List Nat} {a b : Nat} (h : b ≤ a) : sub l a b = [] := by
  unfold sub
  exact List.drop_eq_nil_of_le (by rw [List.length_take]; omega)
theorem sub_hi {l : List Nat} {a b : Nat} (h : l.length ≤ b) : sub l a b = sub l a l.length := by
  unfold sub
  rw [List.take_of_length_le h, List.take_length]
theorem pw_take {w : List Nat} {n : Nat} : ∀ {k j : Nat}, n ≤ k * w.length → n ≤ j * w.length → (pw w k).take n = (pw w j).take n := by
  have go : ∀ (k d : Nat), n ≤ k * w.length → (pw w (k + d)).take n = (pw w k).take n := fun k d h => by
    rw [pw_add, List.take_append_of_le_length (by rw [pw_len]; exact h)]
  intro k j hk hj
  by_cases h : k ≤ j
  · obtain ⟨d, rfl⟩ := Nat.le.dest h
    exact (go k d hk).symm
  · obtain ⟨d, rfl⟩ := Nat.le.dest (show j ≤ k by omega)
    exact go j d hj
structure Seg where
  b : List Nat
  s : Nat
  e : Nat
  t : Bool
structure Seg.ok (g : Seg) : Prop where
  b1 : 1 ≤ g.b.length
  b7 : g.b.length ≤ 64
  le : g.s ≤ g.e
def Seg.vals (g : Seg) : List V := [.str (S g.b), .int (g.s : Int), .int (g.e : Int), .bl g.t]
def Seg.n (g : Seg) : Nat := g.e - g.s
def Seg.L (g : Seg) : List Nat := trn g.t (sub (pw g.b g.e) g.s g.e)
theorem Seg.ok.big {g : Seg} (h : g.ok) : g.e ≤ (pw g.b g.e).length := by
  rw [pw_len]
  exact Nat.le_mul_of_pos_right _ h.b1
theorem Seg.len {g : Seg} (h : g.ok) : g.L.length = g.n := by
  unfold Seg.L Seg.n
  rw [trn_len, sub_len h.big]
/-- a part of a segment -/
def Seg.cut (g : Seg) (a c : Nat) : Seg := if g.t then ⟨g.b, g.e - c, g.e - a, true⟩ else ⟨g.b, g.s + a, g.s + c, false⟩
theorem Seg.cut_ok {g : Seg} (h : g.ok) {a c : Nat} (h1 : a ≤ c) : (g.cut a c).ok := by
  unfold Seg.cut
  split
  · exact ⟨h.b1, h.b7, by show g.e - c ≤ g.e - a; omega⟩
  · exact ⟨h.b1, h.b7, by show g.s + a ≤ g.s + c; omega⟩
theorem sub_pw_any {b : List Nat} {k j a c : Nat} (h : 1 ≤ b.length) (h1 : c ≤ k) (h2 : c ≤ j) : sub (pw b k) a c = sub (pw b j) a c := by
  unfold sub
  rw [pw_take (Nat.le_trans h1 (Nat.le_mul_of_pos_right _ h)) (Nat.le_trans h2 (Nat.le_mul_of_pos_right _ h))]
theorem Seg.cut_L {g : Seg} (h : g.ok) {a c : Nat} (h1 : a ≤ c) (h2 : c ≤ g.n) : (g.cut a c).L = sub g.L a c := by
  have hb := h.big
  have hle := h.le
  obtain ⟨b, s, e, t⟩ := g
  unfold Seg.n at h2
  simp only at h2 hb hle
  cases t with
  | false =>
    show sub (pw b (s + c)) (s + a) (s + c) = sub (sub (pw b e) s e) a c
    rw [sub_sub (by omega)]
    exact sub_pw_any h.b1 (Nat.le_refl _) (by omega)
  | true =>
    show (sub (pw b (e - a)) (e - c) (e - a)).reverse = sub (sub (pw b e) s e).reverse a c
    have hl : (sub (pw b e) s e).length = e - s := sub_len hb
    rw [sub_rev (by omega) h1, hl, sub_sub (by omega), show s + (e - s - c) = e - c by omega, show s + (e - s - a) = e - a by omega, sub_pw_any h.b1 (show e - a ≤ e - a by omega) (show e - a ≤ e by omega)]
/-! ### rows of them -/
def rowL (gs : List Seg) : List Nat := (gs.map Seg.L).flatten
def rowN (gs : List Seg) : Nat := (gs.map Seg.n).sum
def Oks (gs : List Seg) : Prop := ∀ g ∈ gs, g.ok
theorem rowL_cons (g : Seg) (gs : List Seg) : rowL (g :: gs) = g.L ++ rowL gs := rfl
theorem rowN_cons (g : Seg) (gs : List Seg) : rowN (g :: gs) = g.n + rowN gs := by simp [rowN]
theorem rowL_app (gs hs : List Seg) : rowL (gs ++ hs) = rowL gs ++ rowL hs := by simp [rowL]
theorem rowN_app (gs hs : List Seg) : rowN (gs ++ hs) = rowN gs + rowN hs := by simp [rowN]
theorem row_len : ∀ {gs : List Seg}, Oks gs → (rowL gs).length = rowN gs
  | [], _ => rfl
  | g :: gs, h => by
    rw [rowL_cons, rowN_cons, List.length_append, Seg.len (h g (List.mem_cons_self ..)), row_len fun x hx => h x (List.mem_cons_of_mem _ hx)]
/-- the part of a row from a to c, by segments -/
def oneR (g : Seg) (a c : Nat) : List Seg := if a < min c g.n then [g.cut a (min c g.n)] else []
def partR : List Seg → Nat → Nat → List Seg
  | [], _, _ => []
  | g :: gs, a, c => oneR g a c ++ partR gs (a - g.n) (c - g.n)
theorem oneR_ok {g : Seg} (h : g.ok) (a c : Nat) : Oks (oneR g a c) := by
  unfold oneR
  intro x hx
  split at hx
  · rw [List.mem_singleton.mp hx]
    exact Seg.cut_ok h (by omega)
  · cases hx
theorem oneR_L {g : Seg} (h : g.ok) (a c : Nat) : rowL (oneR g a c) = sub g.L a c := by
  have hl := Seg.len h
  unfold oneR
  split
  · rename_i hlt
    show (g.cut a (min c g.n)).L ++ [] = _
    rw [List.append_nil, Seg.cut_L h (by omega) (Nat.min_le_right _ _)]
    by_cases hc : c ≤ g.n
    · rw [Nat.min_eq_left hc]
    · rw [Nat.min_eq_right (by omega), sub_hi (show g.L.length ≤ c by omega), hl]
  · rename_i hlt
    show [] = _
    by_cases hc : c ≤ g.n
    · rw [sub_none (by omega)]
    · rw [sub_hi (show g.L.length ≤ c by omega), sub_none (by omega)]
theorem partR_ok : ∀ {gs : List Seg}, Oks gs → ∀ a c, Oks (partR gs a c)
  | [], _, _, _ => fun g hg => by cases hg
  | g :: gs, h, a, c => fun x hx => by
    rcases List.mem_append.mp hx with hx | hx
    · exact oneR_ok (h g (List.mem_cons_self ..)) a c x hx
    · exact partR_ok (fun y hy => h y (List.mem_cons_of_mem _ hy)) _ _ x hx
theorem partR_L : ∀ {gs : List Seg}, Oks gs → ∀ a c, rowL (partR gs a c) = sub (rowL gs) a c
  | [], _, a, c => by show [] = sub [] a c; simp [sub]
  | g :: gs, h, a, c => by
    show rowL (oneR g a c ++ partR gs (a - g.n) (c - g.n)) = _
    rw [rowL_app, rowL_cons, sub_app, oneR_L (h g (List.mem_cons_self ..)), partR_L (fun y hy => h y (List.mem_cons_of_mem _ hy)), Seg.len (h g (List.mem_cons_self ..))]
theorem partR_snoc : ∀ (gs : List Seg) (g : Seg) (a c : Nat), partR (gs ++ [g]) a c = partR gs a c ++ oneR g (a - rowN gs) (c - rowN gs)
  | [], g, a, c => by show oneR g a c ++ [] = [] ++ oneR g (a - 0) (c - 0); simp
  | h :: gs, g, a, c => by
    show oneR h a c ++ partR (gs ++ [g]) (a - h.n) (c - h.n) = (oneR h a c ++ partR gs (a - h.n) (c - h.n)) ++ _
    rw [partR_snoc gs g, rowN_cons, List.append_assoc, Nat.sub_sub, Nat.sub_sub]
theorem partR_few : ∀ (gs : List Seg) (a c : Nat), (partR gs a c).length ≤ gs.length
  | [], _, _ => Nat.le_refl _
  | g :: gs, a, c => by
    have := partR_few gs (a - g.n) (c - g.n)
    show (oneR g a c ++ partR gs (a - g.n) (c - g.n)).length ≤ gs.length + 1
    rw [List.length_append]
    unfold oneR
    split
    · show 1 + _ ≤ _; omega
    · show 0 + _ ≤ _; omega
def Seg.flip (g : Seg) : Seg := ⟨g.b, g.s, g.e, !g.t⟩
theorem Seg.flip_L (g : Seg) : g.flip.L = g.L.reverse := by
  obtain ⟨b, s, e, t⟩ := g
  cases t
  · rfl
  · show sub (pw b e) s e = ((sub (pw b e) s e).reverse).reverse
    rw [List.reverse_reverse]
def turnR (gs : List Seg) : List Seg := gs.reverse.map Seg.flip
theorem turnR_L (gs : List Seg) : rowL (turnR gs) = (rowL gs).reverse := by
  unfold rowL turnR
  rw [List.reverse_flatten, List.map_map, List.map_reverse, List.map_map]
  congr 2
  exact List.map_congr_left fun g _ => Seg.flip_L g
theorem turnR_ok {gs : List Seg} (h : Oks gs) : Oks (turnR gs) := fun g hg => by
  obtain ⟨x, hx, rfl⟩ := List.mem_map.mp hg
  have := h x (List.mem_reverse.mp hx)
  exact ⟨this.b1, this.b7, this.le⟩
/-- a row of segments, as a list of tuples -/
structure RowAt (H : Hp) (D : Addr) (as : List Addr) (gs : List Seg) : Prop where
  at_ : H D = some (.lst (as.map V.ref))
  lt : LT H as (gs.map Seg.vals)
theorem RowAt.same {H H' : Hp} {D : Addr} {as : List Addr} {gs : List Seg} (h : RowAt H D as gs) (s : Same H H') : RowAt H' D as gs := ⟨s _ _ h.at_, h.lt.same s⟩
theorem RowAt.len {H : Hp} {D : Addr} {as : List Addr} {gs : List Seg} (h : RowAt H D as gs) : as.length = gs.length := by rw [h.lt.1, List.length_map]
theorem RowAt.el {H : Hp} {D : Addr} {as : List Addr} {gs : List Seg} (h : RowAt H D as gs) {i : Nat} {v : V} (hi : (as.map V.ref)[i]? = some v) : ∃ (g : Seg) (a : Addr), v = .ref a ∧ gs[i]? = some g ∧ H a = some (.tup g.vals) := by
  have hl : i < gs.length := by
    have := (List.getElem?_eq_some_iff.mp hi).1
    rw [List.length_map, h.len] at this
    exact this
  have e := List.getElem?_eq_getElem hl
  obtain ⟨a, e1, e2⟩ := h.lt.2 i gs[i].vals (by rw [List.getElem?_map, e]; rfl)
  rw [List.getElem?_map, e1] at hi
  exact ⟨gs[i], a, (Option.some.inj hi).symm, e, e2⟩
theorem sum_rowN : ∀ gs : List Seg, (∀ g ∈ gs, g.ok) → (gs.map fun g => (g.e : Int) - (g.s : Int)).sum = (rowN gs : Int)
  | [], _ => rfl
  | g :: gs, h => by
    have := (h g (List.mem_cons_self ..)).le
    rw [List.map_cons, List.sum_cons, sum_rowN gs fun x hx => h x (List.mem_cons_of_mem _ hx), rowN_cons]
    unfold Seg.n
    omega
theorem q1x {H : Hp} {l : Addr} {o : HO} (_ : H l = none) : (upd H l o) l = some o := upd_same
section
variable {P : Program} {w : World} {K : PySem.W.Frag} {mg : Str → Option Value} {base : Heap}
/-! ### _law_seg_length -/
def spSegLen : Sp := fun vs H Q _ => ∃ (D : Addr) (as : List Addr) (gs : List Seg), vs = [.ref D] ∧ RowAt H D as gs ∧ Oks gs ∧ gs.length ≤ 1000 ∧ ∀ H', Same H H' → Q (.int (rowN gs : Int)) H'
theorem scSgl : FnScope ["row", "seg"] ["row"] (defScope sLSegLength) := ⟨rfl, rfl, rfl, by decide +kernel, rfl, by decide +kernel, by decide +kernel⟩
theorem ok_seglen {f : Addr} {fd : FuncData} (F : Fun K "_law_seg_length" "_law_seg_length" sLSegLength f fd) (hm : mg "_law_seg_length" = some (.ref f)) (b : Binds K fd ["row"] []) (T : Txt mg) (hsum : mg "sum" = none) : Cal P w K mg base 1 "_law_seg_length" spSegLen [] := by
  refine mkCal F hm b scSgl (fun vs H Q E h => ?_) (fun cdv A outer s H vs Q E hr h => ?_)
  · obtain ⟨D, as, gs, rfl, _⟩ := h
    rfl
  obtain ⟨D, as, gs, rfl, hR, ok, h1000, q⟩ := h
  refine ⟨_, (pss_one (ps_ret (pe_callB (cr_sum rfl) (by rfl) hsum (by decide +kernel) (pa_cons (pe_lc (own := [("seg", 1)]) (g := gName 1) (te := (tOp (rI0 fun i j => V.int (i - j)) (tOp (rIxT K) (tVar 1) (tC (V.int 2))) (tOp (rIxT K) (tVar 1) (tC (V.int 1))))) (tt := tYes) rfl scSgl.nd (pi_list (pv 0)) (blkOk_by (N := ["row", "seg"]) (sc := defScope sLSegLength) (by decide +kernel)) (fun _ _ _ _ _ => (pg_name (i := 1) scSgl.nd rfl (.inl rfl))) (fun _ _ _ _ _ => pts_nil) (fun _ _ _ _ _ => (pe_op op_sub (pe_ix ix_tup (pv 1) pe_int (fun _ _ => rfl)) (pe_ix ix_tup (pv 1) pe_int (fun _ _ => rfl))))) pa_nil)))), ?_⟩
  refine ⟨_, rfl, D, rfl, ⟨_, SqL.of hR.at_⟩, fun D1 nD => ?_⟩
  refine lc_list (K := K) (a := D) (xs := as.map V.ref) (fun i H' => Same H H' ∧ H' D1 = some (.lst (((gs.take i).map fun g => (g.e : Int) - (g.s : Int)).map V.int))) ⟨same_new nD, upd_same⟩ (fun i H' _ h => SqL.of (h.1 _ _ hR.at_)) ?_ ?_
  · rintro i v H1 hi ⟨s1, eD⟩
    obtain ⟨g, a, rfl, eg, ha⟩ := (hR.same s1).el hi
    have hi2 : i < gs.length := (List.getElem?_eq_some_iff.mp eg).1
    refine ⟨rfl, _, rfl, a, _, 2, _, rfl, rfl, SqT.of ha, atI_nat (j := 2) rfl, _, rfl, a, _, 1, _, rfl, rfl, SqT.of ha, atI_nat (j := 1) rfl, _, _, rfl, rfl, _, eD, ?_, ?_, ?_⟩
    · rw [List.length_map, List.length_map, List.length_take]
      exact small1000 (by omega)
    · exact fun c o hc => by rw [upd_ne (ne_of_none hc nD)]; exact s1 _ _ hc
    · rw [upd_same, List.take_add_one, eg, List.map_append, List.map_append]
      rfl
  · rintro H1 ⟨s1, eD⟩
    rw [show (as.map V.ref).length = gs.length by rw [List.length_map, hR.len], List.take_length] at eD
    refine ⟨D1, _, rfl, SqL.of eD, ?_⟩
    rw [sum_rowN gs ok]
    exact q H1 s1
/-! ### _law_seg_turned -/
def spSegTurn : Sp := fun vs H Q _ => ∃ (D : Addr) (as : List Addr) (gs : List Seg), vs = [.ref D] ∧ RowAt H D as gs ∧ gs.length ≤ 1000 ∧ ∀ (D' : Addr) (as' : List Addr) (H' : Hp), RowAt H' D' as' (turnR gs) → Same H H' → H D' = none → Q (.ref D') H'
theorem scSgt : FnScope ["row", "base", "start", "stop", "is_turned"] ["row"] (defScope sLSegTurned) := ⟨rfl, rfl, rfl, by decide +kernel, rfl, by decide +kernel, by decide +kernel⟩
theorem ok_segturn {f : Addr} {fd : FuncData} (F : Fun K "_law_seg_turned" "_law_seg_turned" sLSegTurned f fd) (hm : mg "_law_seg_turned" = some (.ref f)) (b : Binds K fd ["row"] []) (T : Txt mg) : Cal P w K mg base 1 "_law_seg_turned" spSegTurn [] := by
  refine mkCal F hm b scSgt (fun vs H Q E h => ?_) (fun cdv A outer s H vs Q E hr h => ?_)
  · obtain ⟨D, as, gs, rfl, _⟩ := h
    rfl
  obtain ⟨D, as, gs, rfl, hR, h1000, q⟩ := h
  refine ⟨_, (pss_one (ps_ret (pe_lc (own := [("base", 1), ("start", 2), ("stop", 3), ("is_turned", 4)]) (g := gTup K 4 (gCons (gName 1) (gCons (gName 2) (gCons (gName 3) (gCons (gName 4) gNil))))) (tt := tYes) rfl scSgt.nd (pi_list (pe_revL (pv 0))) (blkOk_by (N := ["row", "base", "start", "stop", "is_turned"]) (sc := defScope sLSegTurned) (by decide +kernel)) (fun _ _ _ _ _ => (pg_tup rfl (pgs_cons (pg_name (i := 1) scSgt.nd rfl (.inl rfl)) (pgs_cons (pg_name (i := 2) scSgt.nd rfl (.inl rfl)) (pgs_cons (pg_name (i := 3) scSgt.nd rfl (.inl rfl)) (pgs_cons (pg_name (i := 4) scSgt.nd rfl (.inl rfl)) pgs_nil)))))) (fun _ _ _ _ _ => pts_nil) (fun _ _ _ _ _ => (pe_tup (pa_cons (pv 1) (pa_cons (pv 2) (pa_cons (pv 3) (pa_cons (pe_not (pv 4)) pa_nil))))))))), ?_⟩
  refine ⟨_, rfl, D, _, rfl, SqL.of hR.at_, fun D0 nD0 => ?_⟩
  have s0 := same_new (o := .lst (as.map V.ref).reverse) nD0
  have e0 := q1x (o := .lst (as.map V.ref).reverse) nD0
  have hR0 : RowAt (upd H D0 (.lst (as.map V.ref).reverse)) D0 as.reverse gs.reverse := ⟨by rw [e0, List.map_reverse], by rw [List.map_reverse]; exact (hR.lt.same s0).rev⟩
  generalize upd H D0 (.lst (as.map V.ref).reverse) = H0 at s0 hR0 e0 ⊢
  refine ⟨D0, rfl, ⟨_, SqL.of e0⟩, fun D1 nD => ?_⟩
  refine lc_list (K := K) (a := D0) (xs := (as.map V.ref).reverse) (fun i H' => Same H0 H' ∧ ∃ bs : List Addr, H' D1 = some (.lst (bs.map V.ref)) ∧ LT H' bs (((gs.reverse.take i).map Seg.flip).map Seg.vals)) ⟨same_new nD, [], upd_same, LT.nil⟩ (fun i H' _ h => SqL.of (h.1 _ _ e0)) ?_ ?_
  · rintro i v H1 hi ⟨s1, bs, eD, lt⟩
    rw [← List.map_reverse] at hi
    obtain ⟨g, a, rfl, eg, ha⟩ := (hR0.same s1).el hi
    have hi2 : i < gs.length := by
      have := (List.getElem?_eq_some_iff.mp eg).1
      rw [List.length_reverse] at this
      exact this
    have hb := lt.1
    rw [List.length_map, List.length_map, List.length_take, List.length_reverse] at hb
    refine ⟨a, _, rfl, SqT.of ha, rfl, _, _, rfl, _, _, rfl, _, _, rfl, _, _, rfl, rfl, rfl, _, rfl, _, rfl, _, rfl, _, rfl, _, rfl, by show 4 ≤ sizeLine; decide, fun u nu => ⟨_, same_new nu _ _ eD, ?_, ?_, bs ++ [u], ?_, ?_⟩⟩
    · rw [List.length_map, hb]
      exact small1000 (by omega)
    · exact fun c o hc => by rw [upd_ne (ne_of_none hc nD)]; exact same_new nu _ _ (s1 _ _ hc)
    · rw [upd_same, List.map_append]
      rfl
    · rw [List.take_add_one, eg, List.map_append, List.map_append]
      exact ((lt.same (same_new nu)).add (vs := g.flip.vals) upd_same).updL (same_new nu _ _ eD)
  · rintro H1 ⟨s1, bs, eD, lt⟩
    rw [List.length_reverse, List.length_map, hR.len, ← List.length_reverse, List.take_length] at lt
    exact q D1 bs H1 ⟨eD, lt⟩ (s0.trans s1) (s0.free nD)
end
section
variable {P : Program} {w : World} {K : PySem.W.Frag} {mg : Str → Option Value} {base : Heap}
/-! ### _law_seg_part -/
def spSegPart : Sp := fun vs H Q _ => ∃ (D : Addr) (as : List Addr) (gs : List Seg) (a c : Nat), vs = [.ref D, .int (a : Int), .int (c : Int)] ∧ RowAt H D as gs ∧ Oks gs ∧ gs.length ≤ 1000 ∧ ∀ (D' : Addr) (as' : List Addr) (H' : Hp), RowAt H' D' as' (partR gs a c) → Same H H' → H D' = none → Q (.ref D') H'
theorem scSgp : FnScope ["row", "first", "last", "found", "at", "base", "start", "stop", "is_turned", "size", "low", "high"] ["row", "first", "last"] (defScope sLSegPart) := ⟨rfl, rfl, rfl, by decide +kernel, rfl, by decide +kernel, by decide +kernel⟩
theorem ok_segpart {f : Addr} {fd : FuncData} (F : Fun K "_law_seg_part" "_law_seg_part" sLSegPart f fd) (hm : mg "_law_seg_part" = some (.ref f)) (b : Binds K fd ["row", "first", "last"] []) (T : Txt mg) (hmax : mg "max" = none) (hmin : mg "min" = none) : Cal P w K mg base 1 "_law_seg_part" spSegPart [] := by
  refine mkCal F hm b scSgp (fun vs H Q E h => ?_) (fun cdv A outer sh H vs Q E hr h => ?_)
  · obtain ⟨D, as, gs, a, c, rfl, _⟩ := h
    rfl
  obtain ⟨D, as, gs, a, c, rfl, hR, ok, h1000, q⟩ := h
  refine ⟨_, (pss_cons (ps_set (i := 3) scSgp.nd rfl (.inl rfl) (pe_lst pa_nil))
    (pss_cons (ps_set (i := 4) scSgp.nd rfl (.inl rfl) pe_int)
    (pss_cons (ps_for PassesOwn.never rfl (pi_list (pv 0)) (pg_tup rfl (pgs_cons (pg_name (i := 5) scSgp.nd rfl (.inl rfl)) (pgs_cons (pg_name (i := 6) scSgp.nd rfl (.inl rfl)) (pgs_cons (pg_name (i := 7) scSgp.nd rfl (.inl rfl)) (pgs_cons (pg_name (i := 8) scSgp.nd rfl (.inl rfl)) pgs_nil))))) (pss_cons (ps_set (i := 9) scSgp.nd rfl (.inl rfl) (pe_op op_sub (pv 7) (pv 6)))
    (pss_cons (ps_set (i := 10) scSgp.nd rfl (.inl rfl) (pe_callB (call_max2 rfl) (by rfl) hmax (by decide +kernel) (pa_cons (pe_op op_sub (pv 1) (pv 4)) (pa_cons pe_int pa_nil))))
    (pss_cons (ps_set (i := 11) scSgp.nd rfl (.inl rfl) (pe_callB (call_min2 rfl) (by rfl) hmin (by decide +kernel) (pa_cons (pe_op op_sub (pv 2) (pv 4)) (pa_cons (pv 9) pa_nil))))
    (pss_cut (ps_if (pt_cmpR op_lt (pv 10) (pv 11) (nomark _)) (pss_one (ps_if (pt_val (pv 8)) (pss_one (ps_expr (pe_bm PySem.F.plainAttrs_list PySem.F.slot_list_append PySem.F.type_list_append mt_append (pv 3) (pa_cons (pe_tup (pa_cons (pv 5) (pa_cons (pe_op op_sub (pv 7) (pv 11)) (pa_cons (pe_op op_sub (pv 7) (pv 10)) (pa_cons pe_bl pa_nil))))) pa_nil)))) (pss_one (ps_expr (pe_bm PySem.F.plainAttrs_list PySem.F.slot_list_append PySem.F.type_list_append mt_append (pv 3) (pa_cons (pe_tup (pa_cons (pv 5) (pa_cons (pe_op op_add (pv 6) (pv 10)) (pa_cons (pe_op op_add (pv 6) (pv 11)) (pa_cons pe_bl pa_nil))))) pa_nil)))))) pss_nil)
    (pss_one (ps_set (i := 4) scSgp.nd rfl (.inl rfl) (pe_op op_add (pv 4) (pv 9)))))))))
    (pss_one (ps_ret (pv 3)))))), ?_⟩
  refine ⟨Nat.zero_le _, fun F0 nF => ?_⟩
  have s0 := same_new (o := .lst []) nF
  have hR0 := hR.same s0
  have eF0 := q1x (o := .lst []) nF
  generalize upd H F0 (.lst []) = H0 at s0 hR0 eF0 ⊢
  have neDF : D ≠ F0 := ne_of_none hR.at_ nF
  refine ⟨_, rfl, D, rfl, ⟨_, SqL.of hR0.at_⟩, for_list (K := K) (a := D) (xs := as.map V.ref) (fun i σ H' => ∃ (bs : List Addr) (v5 v6 v7 v8 v9 v10 v11 : Option V), σ = [some (.ref D), some (.int (a : Int)), some (.int (c : Int)), some (.ref F0), some (.int (rowN (gs.take i) : Int)), v5, v6, v7, v8, v9, v10, v11] ∧ Same H H' ∧ H' F0 = some (.lst (bs.map V.ref)) ∧ LT H' bs ((partR (gs.take i) a c).map Seg.vals))
    ⟨[], none, none, none, none, none, none, none, rfl, s0, eF0, LT.nil⟩ (fun i σ H' _ ⟨_, _, _, _, _, _, _, _, _, h, _⟩ => SqL.of (h _ _ hR.at_)) ?_ ?_⟩
  · rintro i v σ H1 hi ⟨bs, v5, v6, v7, v8, v9, v10, v11, rfl, s1, eF, lt⟩
    obtain ⟨g, u, rfl, eg, hu⟩ := (hR.same s1).el hi
    have hi2 : i < gs.length := (List.getElem?_eq_some_iff.mp eg).1
    have okg := ok g (List.mem_of_getElem? eg)
    have hle := okg.le
    refine ⟨u, _, rfl, SqT.of hu, rfl, _, _, rfl, _, _, rfl, _, _, rfl, _, _, rfl, rfl, ?_⟩
    refine ⟨_, rfl, _, rfl, _, _, rfl, rfl, ?_⟩
    refine ⟨_, rfl, _, rfl, _, _, rfl, rfl, _, _, rfl, ?_⟩
    refine ⟨_, rfl, _, rfl, _, _, rfl, rfl, _, rfl, _, _, rfl, ?_⟩
    obtain ⟨lo, elo, hlo⟩ : ∃ lo : Nat, (if (0 : Int) > (a : Int) - (rowN (gs.take i) : Int) then (0 : Int) else (a : Int) - (rowN (gs.take i) : Int)) = (lo : Int) ∧ lo = a - rowN (gs.take i) := ⟨a - rowN (gs.take i), by split <;> omega, rfl⟩
    obtain ⟨hz, ehz, hz1, hz2⟩ : ∃ hz : Int, (if (g.e : Int) - (g.s : Int) < (c : Int) - (rowN (gs.take i) : Int) then (g.e : Int) - (g.s : Int) else (c : Int) - (rowN (gs.take i) : Int)) = hz ∧ ((lo : Int) < hz → lo < min (c - rowN (gs.take i)) g.n ∧ hz = ((min (c - rowN (gs.take i)) g.n : Nat) : Int)) ∧ (¬ (lo : Int) < hz → ¬ lo < min (c - rowN (gs.take i)) g.n) := by
      refine ⟨_, rfl, ?_, ?_⟩ <;> unfold Seg.n <;> split <;> omega
    show gName 11 (V.int (if (g.e : Int) - (g.s : Int) < (c : Int) - (rowN (gs.take i) : Int) then (g.e : Int) - (g.s : Int) else (c : Int) - (rowN (gs.take i) : Int))) _ _ _
    rw [ehz]
    have ep : partR (gs.take (i + 1)) a c = partR (gs.take i) a c ++ oneR g lo (c - rowN (gs.take i)) := by
      rw [List.take_add_one, eg, hlo]
      exact partR_snoc _ g a c
    have hb := lt.1
    rw [List.length_map] at hb
    have hfew := partR_few (gs.take i) a c
    rw [List.length_take] at hfew
    refine ⟨fun σ H' => σ = [some (.ref D), some (.int (a : Int)), some (.int (c : Int)), some (.ref F0), some (.int (rowN (gs.take i) : Int)), some (.str (S g.b)), some (.int (g.s : Int)), some (.int (g.e : Int)), some (.bl g.t), some (.int ((g.e : Int) - (g.s : Int))), some (.int (lo : Int)), some (.int hz)] ∧ Same H H' ∧ ∃ bs' : List Addr, H' F0 = some (.lst (bs'.map V.ref)) ∧ LT H' bs' ((partR (gs.take (i + 1)) a c).map Seg.vals), ?_, ?_⟩
    · rw [← elo]
      refine ⟨_, rfl, _, rfl, _, _, rfl, rfl, _, rfl, ?_⟩
      rw [elo]
      refine ite2 (fun z => ?_) (fun z => ?_)
      · obtain ⟨z1, z2⟩ := hz1 (of_decide_eq_true z)
        have e0 : oneR g lo (c - rowN (gs.take i)) = [g.cut lo (min (c - rowN (gs.take i)) g.n)] := by unfold oneR; rw [if_pos z1]
        generalize hm2 : min (c - rowN (gs.take i)) g.n = hn at z1 z2 e0
        have hhn : hn ≤ g.n := by omega
        have hne : g.n = g.e - g.s := rfl
        subst z2
        have fin : ∀ (u2 : Addr) (H2 : Hp), Same H H2 → H2 F0 = some (.lst (bs.map V.ref)) → LT H2 bs ((partR (gs.take i) a c).map Seg.vals) → H2 u2 = some (.tup (g.cut lo hn).vals) → Same H (upd H2 F0 (.lst (bs.map V.ref ++ [.ref u2]))) ∧ ∃ bs' : List Addr, (upd H2 F0 (.lst (bs.map V.ref ++ [.ref u2]))) F0 = some (.lst (bs'.map V.ref)) ∧ LT (upd H2 F0 (.lst (bs.map V.ref ++ [.ref u2]))) bs' ((partR (gs.take (i + 1)) a c).map Seg.vals) := fun u2 H2 s2 eF2 lt2 hu2 => by
          refine ⟨fun o oo ho => by rw [upd_ne (ne_of_none ho nF)]; exact s2 _ _ ho, bs ++ [u2], by rw [upd_same, List.map_append]; rfl, ?_⟩
          rw [ep, e0, List.map_append]
          exact (lt2.add hu2).updL eF2
        have sm : (bs.map V.ref).length < sizeLine := small1000 (by rw [List.length_map]; omega)
        have hE : hn ≤ g.e := by omega
        obtain ⟨gb, gS, gE, gt⟩ := g
        simp only at hE
        cases gt with
        | true =>
          refine ⟨_, rfl, true, rfl, ifT rfl ?_⟩
          refine ⟨_, rfl, .inl ⟨rfl, _, SqL.of eF⟩, _, rfl, _, rfl, _, rfl, _, _, rfl, rfl, _, rfl, _, rfl, _, _, rfl, rfl, by show 4 ≤ sizeLine; decide, fun u2 nu2 => ⟨F0, _, _, rfl, rfl, same_new nu2 _ _ eF, sm, ?_⟩⟩
          refine ⟨rfl, fin u2 _ (s1.trans (same_new nu2)) (same_new nu2 _ _ eF) (lt.same (same_new nu2)) ?_⟩
          rw [upd_same]
          show _ = some (HO.tup [.str (S gb), .int ((gE - hn : Nat) : Int), .int ((gE - lo : Nat) : Int), .bl true])
          rw [show ((gE - hn : Nat) : Int) = (gE : Int) - (hn : Int) by omega, show ((gE - lo : Nat) : Int) = (gE : Int) - (lo : Int) by omega]
        | false =>
          refine ⟨_, rfl, false, rfl, ifF rfl ?_⟩
          refine ⟨_, rfl, .inl ⟨rfl, _, SqL.of eF⟩, _, rfl, _, rfl, _, rfl, _, _, rfl, rfl, _, rfl, _, rfl, _, _, rfl, rfl, by show 4 ≤ sizeLine; decide, fun u2 nu2 => ⟨F0, _, _, rfl, rfl, same_new nu2 _ _ eF, sm, ?_⟩⟩
          refine ⟨rfl, fin u2 _ (s1.trans (same_new nu2)) (same_new nu2 _ _ eF) (lt.same (same_new nu2)) ?_⟩
          rw [upd_same]
          show _ = some (HO.tup [.str (S gb), .int ((gS + lo : Nat) : Int), .int ((gS + hn : Nat) : Int), .bl false])
          rw [show ((gS + lo : Nat) : Int) = (gS : Int) + (lo : Int) by omega, show ((gS + hn : Nat) : Int) = (gS : Int) + (hn : Int) by omega]
      · have z1 := hz2 fun h => z (decide_eq_true h)
        have e0 : oneR g lo (c - rowN (gs.take i)) = [] := by unfold oneR; rw [if_neg z1]
        refine ⟨rfl, s1, bs, eF, ?_⟩
        rw [ep, e0, List.append_nil]
        exact lt
    · rintro σ H2 ⟨rfl, s2, bs', eF2, lt2⟩
      refine ⟨_, rfl, _, rfl, _, _, rfl, rfl, bs', some (.str (S g.b)), some (.int (g.s : Int)), some (.int (g.e : Int)), some (.bl g.t), some (.int ((g.e : Int) - (g.s : Int))), some (.int (lo : Int)), some (.int hz), ?_, s2, eF2, lt2⟩
      rw [List.take_add_one, eg, rowN_app]
      show _ = [some (V.ref D), some (V.int (a : Int)), some (.int (c : Int)), some (.ref F0), some (.int ((rowN (gs.take i) + rowN [g] : Nat) : Int)), _, _, _, _, _, _, _]
      have e1 : ((rowN (gs.take i) + rowN [g] : Nat) : Int) = (rowN (gs.take i) : Int) + ((g.e : Int) - (g.s : Int)) := by
        rw [rowN_cons]
        show ((rowN (gs.take i) + (g.n + 0) : Nat) : Int) = _
        unfold Seg.n
        omega
      rw [e1]
      rfl
  · rintro σ H1 ⟨bs, v5, v6, v7, v8, v9, v10, v11, rfl, s1, eF, lt⟩
    rw [List.length_map, hR.len, List.take_length] at lt
    exact ⟨_, rfl, q F0 bs H1 ⟨eF, lt⟩ s1 nF⟩
end
theorem pw_at {W : List Nat} {m k : Nat} (h : 0 < W.length) (hk : k < m) : sub (pw W m) k (k + 1) = sub W (k % W.length) (k % W.length + 1) := by
  have dm := Nat.div_add_mod k W.length
  have ml := Nat.mod_lt k h
  have dl := Nat.div_le_self k W.length
  rw [Nat.mul_comm] at dm
  generalize k / W.length = q at dm dl
  generalize k % W.length = r at dm ml ⊢
  rw [sub_pw1 (j := q) (by omega) (by omega) (by omega), show k - q * W.length = r by omega, show k + 1 - q * W.length = r + 1 by omega]
def Seg.ix (g : Seg) (k : Nat) : Nat := if g.t then g.e - 1 - k else g.s + k
theorem Seg.letter {g : Seg} (h : g.ok) {k : Nat} (hk : k < g.n) : sub g.L k (k + 1) = sub g.b (g.ix k % g.b.length) (g.ix k % g.b.length + 1) := by
  rw [← Seg.cut_L h (Nat.le_succ k) hk]
  have hle := h.le
  have hb := h.b1
  obtain ⟨b, s, e, t⟩ := g
  unfold Seg.n at hk
  simp only at hk hle hb
  cases t with
  | false =>
    show sub (pw b (s + (k + 1))) (s + k) (s + (k + 1)) = sub b ((s + k) % b.length) ((s + k) % b.length + 1)
    exact pw_at hb (by omega)
  | true =>
    show (sub (pw b (e - k)) (e - (k + 1)) (e - k)).reverse = sub b ((e - 1 - k) % b.length) ((e - 1 - k) % b.length + 1)
    rw [show e - (k + 1) = e - 1 - k by omega, show sub (pw b (e - k)) (e - 1 - k) (e - k) = sub (pw b (e - k)) (e - 1 - k) (e - 1 - k + 1) by rw [show e - 1 - k + 1 = e - k by omega], pw_at hb (by omega)]
    have hm : (e - 1 - k) % b.length < b.length := Nat.mod_lt _ hb
    rw [sub_one hm]
    rfl
theorem row_letter {gs : List Seg} (ok : Oks gs) {i k : Nat} {g : Seg} (eg : gs[i]? = some g) (h1 : rowN (gs.take i) ≤ k) (h2 : k - rowN (gs.take i) < g.n) : sub (rowL gs) k (k + 1) = sub g.L (k - rowN (gs.take i)) (k - rowN (gs.take i) + 1) := by
  have hi : i < gs.length := (List.getElem?_eq_some_iff.mp eg).1
  have okt : Oks (gs.take i) := fun x hx => ok x (List.mem_of_mem_take hx)
  have okg := ok g (List.mem_of_getElem? eg)
  have e : gs = gs.take i ++ (g :: gs.drop (i + 1)) := by
    have e1 : gs[i] = g := (List.getElem?_eq_some_iff.mp eg).2
    rw [← e1, ← List.drop_eq_getElem_cons hi, List.take_append_drop]
  have hl := row_len okt
  have hg := Seg.len okg
  rw [show rowL gs = rowL (gs.take i) ++ (g.L ++ rowL (gs.drop (i + 1))) by rw [← rowL_cons, ← rowL_app, ← e], sub_appR (by omega), sub_appL (by omega), hl, show k + 1 - rowN (gs.take i) = k - rowN (gs.take i) + 1 by omega]
section
variable {P : Program} {w : World} {K : PySem.W.Frag} {mg : Str → Option Value} {base : Heap}
/-! ### _law_seg_letter -/
def spSegLetter : Sp := fun vs H Q _ => ∃ (D : Addr) (as : List Addr) (gs : List Seg) (k : Nat), vs = [.ref D, .int (k : Int)] ∧ RowAt H D as gs ∧ Oks gs ∧ gs.length ≤ 1000 ∧ k < rowN gs ∧ Q (.str (S (sub (rowL gs) k (k + 1)))) H
theorem scSge : FnScope ["row", "place", "base", "start", "stop", "is_turned"] ["row", "place"] (defScope sLSegLetter) := ⟨rfl, rfl, rfl, by decide +kernel, rfl, by decide +kernel, by decide +kernel⟩
theorem ok_segletter {f : Addr} {fd : FuncData} (F : Fun K "_law_seg_letter" "_law_seg_letter" sLSegLetter f fd) (hm : mg "_law_seg_letter" = some (.ref f)) (b : Binds K fd ["row", "place"] []) (T : Txt mg) : Cal P w K mg base 1 "_law_seg_letter" spSegLetter [] := by
  refine mkCal F hm b scSge (fun vs H Q E h => ?_) (fun cdv A outer sh H vs Q E hr h => ?_)
  · obtain ⟨D, as, gs, k, rfl, _⟩ := h
    rfl
  obtain ⟨D, as, gs, k, rfl, hR, ok, h1000, hk, q⟩ := h
  refine ⟨_, (pss_cons (ps_for PassesOwn.never rfl (pi_list (pv 0)) (pg_tup rfl (pgs_cons (pg_name (i := 2) scSge.nd rfl (.inl rfl)) (pgs_cons (pg_name (i := 3) scSge.nd rfl (.inl rfl)) (pgs_cons (pg_name (i := 4) scSge.nd rfl (.inl rfl)) (pgs_cons (pg_name (i := 5) scSge.nd rfl (.inl rfl)) pgs_nil))))) (pss_cons (ps_if (pt_cmpR op_lt (pv 1) (pe_op op_sub (pv 4) (pv 3)) (nomark _)) (pss_cons (ps_if (pt_val (pv 5)) (pss_one (ps_ret (pe_ix ix_str (pv 2) (pe_op op_mod (pe_op op_sub (pe_op op_sub (pv 4) pe_int) (pv 1)) (pe_callB call_len_str (by rfl) T.len PySem.boot_len (pa_cons (pv 2) pa_nil))) (fun _ _ => rfl)))) pss_nil)
    (pss_one (ps_ret (pe_ix ix_str (pv 2) (pe_op op_mod (pe_op op_add (pv 3) (pv 1)) (pe_callB call_len_str (by rfl) T.len PySem.boot_len (pa_cons (pv 2) pa_nil))) (fun _ _ => rfl))))) pss_nil)
    (pss_one (ps_set (i := 1) scSge.nd rfl (.inl rfl) (pe_op op_sub (pv 1) (pe_op op_sub (pv 4) (pv 3)))))))
    (pss_one (ps_ret pe_str))), ?_⟩
  refine ⟨_, rfl, D, rfl, ⟨_, SqL.of hR.at_⟩, for_list (K := K) (a := D) (xs := as.map V.ref) (fun i σ H' => ∃ v2 v3 v4 v5 : Option V, rowN (gs.take i) ≤ k ∧ H' = H ∧ σ = [some (.ref D), some (.int ((k - rowN (gs.take i) : Nat) : Int)), v2, v3, v4, v5])
    ⟨none, none, none, none, Nat.zero_le _, rfl, rfl⟩ (fun i σ H' _ ⟨_, _, _, _, _, h, _⟩ => by subst h; exact SqL.of hR.at_) ?_ ?_⟩
  · rintro i v σ H1 hi ⟨v2, v3, v4, v5, hle, rfl, rfl⟩
    obtain ⟨g, u, rfl, eg, hu⟩ := hR.el hi
    have okg := ok g (List.mem_of_getElem? eg)
    have hse := okg.le
    have hb1 := okg.b1
    refine ⟨u, _, rfl, SqT.of hu, rfl, _, _, rfl, _, _, rfl, _, _, rfl, _, _, rfl, rfl, ?_⟩
    refine ⟨_, rfl, _, rfl, _, rfl, _, _, rfl, rfl, _, _, rfl, rfl, _, rfl, ?_⟩
    refine ite2 (fun z => ?_) (fun z => ?_)
    · have z : ((k - rowN (gs.take i) : Nat) : Int) < (g.e : Int) - (g.s : Int) := of_decide_eq_true z
      have z1 : k - rowN (gs.take i) < g.n := by unfold Seg.n; omega
      rw [row_letter ok eg hle z1, Seg.letter okg z1] at q
      generalize hkk : k - rowN (gs.take i) = j at z z1 q ⊢
      have hm : g.ix j % g.b.length < g.b.length := Nat.mod_lt _ hb1
      rw [sub_one hm] at q
      have hat : atI (S g.b).cps.toList ((g.ix j : Int) % (g.b.length : Int)) = some (g.b[g.ix j % g.b.length]) := by
        have : (S g.b).cps.toList = g.b := by simp [S]
        rw [this, ← Int.natCast_emod]
        exact atI_nat (List.getElem?_eq_getElem hm)
      obtain ⟨gb, gS, gE, gt⟩ := g
      cases gt with
      | true =>
        refine ⟨_, rfl, true, rfl, ifT rfl ?_⟩
        have h64 : gb.length ≤ 64 := okg.b7
        have h1b : 1 ≤ gb.length := hb1
        have hat : atI (S gb).cps.toList (((gE : Int) - 1 - (j : Int)) % ((S gb).length : Int)) = some (gb[(gE - 1 - j) % gb.length]'hm) := by
          rw [S_len, show (gE : Int) - 1 - (j : Int) = ((gE - 1 - j : Nat) : Int) by have h3 : j < gE - gS := z1; omega]
          exact hat
        refine ⟨_, rfl, _, rfl, _, _, rfl, rfl, _, rfl, _, _, rfl, rfl, _, rfl, S gb, rfl, Sz (by omega), (gE : Int) - 1 - (j : Int), ((S gb).length : Int), rfl, rfl, (by show (0 : Int) < ((S gb).length : Int); rw [S_len]; show (0 : Int) < (gb.length : Int); omega), S gb, _, _, rfl, rfl, Sz (by omega), hat, q⟩
      | false =>
        refine ⟨_, rfl, false, rfl, ifF rfl ?_⟩
        have h64 : gb.length ≤ 64 := okg.b7
        have h1b : 1 ≤ gb.length := hb1
        have hat : atI (S gb).cps.toList (((gS : Int) + (j : Int)) % ((S gb).length : Int)) = some (gb[(gS + j) % gb.length]'hm) := by
          rw [S_len, show (gS : Int) + (j : Int) = ((gS + j : Nat) : Int) by omega]
          exact hat
        refine ⟨_, rfl, _, rfl, _, rfl, _, _, rfl, rfl, _, rfl, S gb, rfl, Sz (by omega), (gS : Int) + (j : Int), ((S gb).length : Int), rfl, rfl, (by show (0 : Int) < ((S gb).length : Int); rw [S_len]; show (0 : Int) < (gb.length : Int); omega), S gb, _, _, rfl, rfl, Sz (by omega), hat, q⟩
    · have z : ¬ ((k - rowN (gs.take i) : Nat) : Int) < (g.e : Int) - (g.s : Int) := fun h => z (decide_eq_true h)
      have e1 : rowN (gs.take (i + 1)) = rowN (gs.take i) + g.n := by
        rw [List.take_add_one, eg, rowN_app]
        show _ + rowN [g] = _
        rw [rowN_cons]
        rfl
      have hn : g.n = g.e - g.s := rfl
      refine ⟨_, rfl, _, rfl, _, rfl, _, _, rfl, rfl, _, _, rfl, rfl, some (.str (S g.b)), some (.int (g.s : Int)), some (.int (g.e : Int)), some (.bl g.t), by omega, rfl, ?_⟩
      show _ = [some (V.ref D), some (V.int ((k - rowN (gs.take (i + 1)) : Nat) : Int)), _, _, _, _]
      rw [show ((k - rowN (gs.take (i + 1)) : Nat) : Int) = ((k - rowN (gs.take i) : Nat) : Int) - ((g.e : Int) - (g.s : Int)) by omega]
      rfl
  · rintro σ H1 ⟨v2, v3, v4, v5, hle, rfl, rfl⟩
    rw [List.length_map, hR.len, List.take_length] at hle
    omega
end
theorem Tx.frm {C : Addr} {H H' : Hp} {x p c : Addr} {L : List Nat} {n : Nat} (h : Tx C H x L n) (P : Pool H p c) (f : Frm p H H') : Tx C H' x L n := let ⟨rs, ts, a, b, e, d⟩ := h; ⟨rs, ts, a.frm P f, b, e, d⟩
theorem lt_cons1 {H : Hp} {a : Addr} {v : List V} (h : H a = some (.tup v)) : LT H [a] [v] := ⟨rfl, fun k u e => by
  cases k with
  | zero => rw [← Option.some.inj e]; exact ⟨a, rfl, h⟩
  | succ k => simp at e⟩
section
variable {P : Program} {w : World} {K : PySem.W.Frag} {mg : Str → Option Value} {base : Heap}
/-! ### _law_great -/
def spGreat (C : Addr) : Sp := fun vs H Q _ => ∃ p c : Addr, vs = [.ref p] ∧ Pool H p c ∧ ∀ (q x l u : Addr) (g : Seg) (H' : Hp), H' q = some (.tup [.ref x, .ref l]) → Tx C H' x (rowL [g]) 2 → RowAt H' l [u] [g] → g.ok → g.n ≤ 700000000000 → Pool H' p c → Frm p H H' → l ≠ p → Q (.ref q) H'
theorem scGr : FnScope ["pool", "base", "times"] ["pool"] (defScope sLGreat) := ⟨rfl, rfl, rfl, by decide +kernel, rfl, by decide +kernel, by decide +kernel⟩
theorem ok_great {C f : Addr} {fd : FuncData} (F : Fun K "_law_great" "_law_great" sLGreat f fd) (hm : mg "_law_great" = some (.ref f)) (b : Binds K fd ["pool"] []) (T : Txt mg) (G : Cal P w K mg base 2 "_law_take" spTake []) (MK : C8.Mak P w K mg base 4 "Text" C (spInit C) []) : Cal P w K mg base 6 "_law_great" (spGreat C) [] := by
  refine mkCal F hm b scGr (fun vs H Q E h => ?_) (fun cdv A outer s H vs Q E hr h => ?_)
  · obtain ⟨p, c, rfl, _⟩ := h
    rfl
  obtain ⟨p, c, rfl, hP, q⟩ := h
  refine ⟨_, (pss_cons (ps_set (i := 1) scGr.nd rfl (.inl rfl) (pe_ix ix_tup (pe_tup (pa_cons pe_str (pa_cons pe_str (pa_cons pe_str (pa_cons pe_str (pa_cons pe_str pa_nil)))))) (pe_c G hr (by decide) (by rfl) (pa_cons (pv 0) (pa_cons pe_int pa_nil))) (fun _ _ => rfl)))
    (pss_cons (ps_set (i := 2) scGr.nd rfl (.inl rfl) (pe_ix ix_tup (pe_tup (pa_cons (pe_op op_add pe_int (pe_c G hr (by decide) (by rfl) (pa_cons (pv 0) (pa_cons (pe_op op_pow pe_int pe_int) pa_nil)))) (pa_cons (pe_op op_add pe_int (pe_c G hr (by decide) (by rfl) (pa_cons (pv 0) (pa_cons pe_int pa_nil)))) pa_nil))) (pe_op op_fdiv (pe_c G hr (by decide) (by rfl) (pa_cons (pv 0) (pa_cons pe_int pa_nil))) pe_int) (fun _ _ => rfl)))
    (pss_one (ps_ret (pe_tup (pa_cons (C8.pe_mk MK hr (by decide) (by rfl) (pa_cons (pe_tup (pa_cons (pe_tup (pa_cons pe_str (pa_cons (pv 1) pa_nil))) (pa_cons (pe_tup (pa_cons pe_str (pa_cons pe_int (pa_cons (pv 2) pa_nil)))) pa_nil))) pa_nil)) (pa_cons (pe_lst (pa_cons (pe_tup (pa_cons (pv 1) (pa_cons pe_int (pa_cons (pe_op op_mul (pe_callB call_len_str (by rfl) T.len PySem.boot_len (pa_cons (pv 1) pa_nil)) (pv 2)) (pa_cons pe_bl pa_nil))))) pa_nil)) pa_nil))))))), ?_⟩
  refine ⟨by show 5 ≤ sizeLine; decide, fun u nu => ?_⟩
  have eu : (upd H u (.tup [.str "ab", .str "abc", .str "a", .str "aabab", .str "xyzzy.q"])) u = some (.tup [.str "ab", .str "abc", .str "a", .str "aabab", .str "xyzzy.q"]) := upd_same
  have hP0 := hP.new (o := .tup [.str "ab", .str "abc", .str "a", .str "aabab", .str "xyzzy.q"]) nu
  refine ⟨_, rfl, p, c, 5, rfl, by decide, by decide, hP0, fun r H1 r0 r1 hP1 f1 => ?_⟩
  have eu1 := f1 u _ (hP.ne nu).1 eu
  obtain ⟨bl, eb, b1, b7, bS⟩ : ∃ bl : List Nat, atI [V.str "ab", V.str "abc", V.str "a", V.str "aabab", V.str "xyzzy.q"] r = some (.str (S bl)) ∧ 1 ≤ bl.length ∧ bl.length ≤ 7 ∧ ∀ c ∈ bl, c ∈ SL := by
    have h5 : r = 0 ∨ r = 1 ∨ r = 2 ∨ r = 3 ∨ r = 4 := by omega
    rcases h5 with rfl | rfl | rfl | rfl | rfl
    · exact ⟨[97, 98], by rw [show S [97, 98] = "ab" by decide +kernel]; exact atI_nat (j := 0) rfl, by decide, by decide, by decide +kernel⟩
    · exact ⟨[97, 98, 99], by rw [show S [97, 98, 99] = "abc" by decide +kernel]; exact atI_nat (j := 1) rfl, by decide, by decide, by decide +kernel⟩
    · exact ⟨[97], by rw [show S [97] = "a" by decide +kernel]; exact atI_nat (j := 2) rfl, by decide, by decide, by decide +kernel⟩
    · exact ⟨[97, 97, 98, 97, 98], by rw [show S [97, 97, 98, 97, 98] = "aabab" by decide +kernel]; exact atI_nat (j := 3) rfl, by decide, by decide, by decide +kernel⟩
    · exact ⟨[120, 121, 122, 122, 121, 46, 113], by rw [show S [120, 121, 122, 122, 121, 46, 113] = "xyzzy.q" by decide +kernel]; exact atI_nat (j := 4) rfl, by decide, by decide, by decide +kernel⟩
  refine ⟨u, _, r, _, rfl, rfl, SqT.of eu1, eb, ?_⟩
  -- times
  have e11 : (10 : Int) ^ (11 : Int).toNat = 100000000000 := by decide +kernel
  refine ⟨_, rfl, 10, 11, rfl, rfl, ⟨by decide, by decide, by decide⟩, p, c, (10 : Int) ^ (11 : Int).toNat, rfl, by rw [e11]; decide, by rw [e11]; decide, hP1, fun t1 H2 t10 t11 hP2 f2 => ?_⟩
  rw [e11] at t11
  refine ⟨1, t1, rfl, rfl, _, rfl, p, c, 30, rfl, by decide, by decide, hP2, fun t2 H3 t20 t21 hP3 f3 => ?_⟩
  refine ⟨1, t2, rfl, rfl, by show 2 ≤ sizeLine; decide, fun u2 nu2 => ?_⟩
  have eu2 : (upd H3 u2 (.tup [.int (1 + t1), .int (1 + t2)])) u2 = some (.tup [.int (1 + t1), .int (1 + t2)]) := upd_same
  have hP4 := hP3.new (o := .tup [.int (1 + t1), .int (1 + t2)]) nu2
  refine ⟨_, rfl, p, c, 3, rfl, by decide, by decide, hP4, fun t3 H4 t30 t31 hP5 f4 => ?_⟩
  have eu4 := f4 u2 _ (hP3.ne nu2).1 eu2
  have fA : Frm p H H4 := ((((Frm.refl.new nu).trans f1).trans (f2.trans f3)).new nu2).trans f4
  obtain ⟨tt, et, tt1, tt2⟩ : ∃ tt : Nat, atI [V.int (1 + t1), V.int (1 + t2)] (t3 / 2) = some (.int (tt : Int)) ∧ 1 ≤ tt ∧ tt ≤ 100000000000 := by
    have h3 : t3 = 0 ∨ t3 = 1 ∨ t3 = 2 := by omega
    rcases h3 with rfl | rfl | rfl
    · exact ⟨(1 + t1).toNat, by rw [show (((1 + t1).toNat : Nat) : Int) = 1 + t1 by omega]; exact atI_nat (j := 0) rfl, by omega, by omega⟩
    · exact ⟨(1 + t1).toNat, by rw [show (((1 + t1).toNat : Nat) : Int) = 1 + t1 by omega]; exact atI_nat (j := 0) rfl, by omega, by omega⟩
    · exact ⟨(1 + t2).toNat, by rw [show (((1 + t2).toNat : Nat) : Int) = 1 + t2 by omega]; exact atI_nat (j := 1) rfl, by omega, by omega⟩
  refine ⟨_, _, rfl, rfl, ⟨by omega, by omega⟩, u2, _, _, _, rfl, rfl, SqT.of eu4, et, ?_⟩
  -- the text
  refine ⟨_, rfl, by show 2 ≤ sizeLine; decide, fun u3 nu3 => ⟨_, rfl, by show 3 ≤ sizeLine; decide, fun u4 nu4 => ⟨by show 2 ≤ sizeLine; decide, fun u5 nu5 => fun x dx nx ndx ne => ?_⟩⟩⟩
  have s3 := (same_new (o := .tup [.str "letters", .str (S bl)]) nu3)
  have s4 := (same_new (o := .tup [.str "power", .int 0, .int (tt : Int)]) nu4)
  have s5 := (same_new (o := .tup [.ref u3, .ref u4]) nu5)
  have e3 := (s4.trans s5) u3 _ upd_same
  have e4 := s5 u4 _ upd_same
  have e5 : (upd (upd (upd H4 u3 (.tup [.str "letters", .str (S bl)])) u4 (.tup [.str "power", .int 0, .int (tt : Int)])) u5 (.tup [.ref u3, .ref u4])) u5 = some (.tup [.ref u3, .ref u4]) := upd_same
  have s6 := (s3.trans s4).trans s5
  generalize (upd (upd (upd H4 u3 (.tup [.str "letters", .str (S bl)])) u4 (.tup [.str "power", .int 0, .int (tt : Int)])) u5 (.tup [.ref u3, .ref u4])) = H5 at e3 e4 e5 s6 nx ndx ne ⊢
  have nx' : (upd H5 dx (.own x)) x = none := by rw [upd_ne ne.symm]; exact nx
  have s7 : Same H5 (upd (upd H5 dx (.own x)) x (.ins C dx [])) := (same_new ndx).trans (same_new nx')
  have eP : ((List.replicate tt bl).flatten).length = tt * bl.length := pw_len bl tt
  have hle : tt * bl.length ≤ 700000000000 := Nat.le_trans (Nat.mul_le_mul tt2 b7) (by decide)
  have snd : Sound [Rule.letters bl, .power 0 tt] [bl, (List.replicate tt bl).flatten] := by
    refine ⟨rfl, fun k r e => ?_, fun l hl => ?_⟩
    · match k, e with
      | 0, e => rw [← Option.some.inj e]; exact ⟨⟨by omega, bS⟩, rfl⟩
      | 1, e => rw [← Option.some.inj e]; exact ⟨⟨by show 0 < 1; decide, Nat.le_trans tt2 (by decide)⟩, rfl⟩
      | k + 2, e => simp at e
    · rcases List.mem_cons.mp hl with rfl | hl
      · omega
      · rw [List.mem_singleton.mp hl, eP]
        exact Nat.le_trans hle (by decide)
  refine ⟨x, dx, u5, [u3, u4], [.letters bl, .power 0 tt], [bl, (List.replicate tt bl).flatten], rfl, upd_same, .inl (s7 _ _ e5), ⟨rfl, fun k vs e => ?_⟩, snd, by show 1 ≤ 2; decide, by show 2 ≤ 60; decide, fun LE RU as' H6 keep hx hRU hLE hL => ⟨rfl, ?_⟩⟩
  · match k, e with
    | 0, e => rw [← Option.some.inj e]; exact ⟨u3, rfl, .inl (s7 _ _ e3)⟩
    | 1, e => rw [← Option.some.inj e]; exact ⟨u4, rfl, .inl (s7 _ _ e4)⟩
    | k + 2, e => simp at e
  have s8 : Same H4 H6 := fun b o hb => keep b o (ne_of_none (s6 _ _ hb) nx) (s7 _ _ (s6 _ _ hb))
  have tX : Tx C H6 x ((List.replicate tt bl).flatten) 2 := ⟨_, _, ⟨dx, RU, LE, _, as', tF_text hx hRU hLE hL snd⟩, by show 1 ≤ 2; decide, rfl, Nat.le_refl _⟩
  -- the row
  refine ⟨_, rfl, _, rfl, S bl, rfl, Sz (by omega), _, rfl, _, _, rfl, rfl, ?_⟩
  refine ⟨.inl ⟨by rw [S_len]; omega, by rw [S_len]; omega⟩, by show 4 ≤ sizeLine; decide, fun u6 nu6 => ⟨by show 1 ≤ sizeLine; decide, fun u7 nu7 => ⟨by show 2 ≤ sizeLine; decide, fun u8 nu8 => ?_⟩⟩⟩
  have s67 := (same_new (o := .tup [.str (S bl), .int 0, .int (((S bl).length : Int) * (tt : Int)), .bl false]) nu6)
  have s78 := (same_new (o := .lst [.ref u6]) nu7)
  have s89 := (same_new (o := .tup [.ref x, .ref u7]) nu8)
  have s9 := (s67.trans s78).trans s89
  have okg : (Seg.mk bl 0 (bl.length * tt) false).ok := ⟨b1, Nat.le_trans b7 (by decide), Nat.zero_le _⟩
  have eL : rowL [Seg.mk bl 0 (bl.length * tt) false] = (List.replicate tt bl).flatten := by
    show sub (pw bl (bl.length * tt)) 0 (bl.length * tt) ++ [] = pw bl tt
    rw [List.append_nil]
    show ((pw bl (bl.length * tt)).take (bl.length * tt)).drop 0 = _
    rw [List.drop_zero, pw_take (k := bl.length * tt) (j := tt) (Nat.le_mul_of_pos_right _ b1) (by rw [Nat.mul_comm]; exact Nat.le_refl _), List.take_of_length_le (by rw [pw_len, Nat.mul_comm]; exact Nat.le_refl _)]
  refine q u8 x u7 u6 (Seg.mk bl 0 (bl.length * tt) false) _ upd_same (by rw [eL]; exact tX.same s9) ⟨s89 _ _ upd_same, ?_⟩ okg (by show bl.length * tt - 0 ≤ _; rw [Nat.mul_comm]; exact hle) ((hP5.same s8).same s9) (fA.trans fun b o hb e => s9 _ _ (s8 _ _ e)) ((hP5.same s8).same s67 |>.ne nu7).1
  refine lt_cons1 ?_
  rw [s89 _ _ (s78 _ _ upd_same), S_len]
  show _ = some (HO.tup [.str (S bl), .int ((0 : Nat) : Int), .int ((bl.length * tt : Nat) : Int), .bl false])
  rw [Int.natCast_mul]
  rfl
end
theorem LT.frm {H H' : Hp} {p c : Addr} {as : List Addr} {vss : List (List V)} (h : LT H as vss) (P : Pool H p c) (f : Frm p H H') : LT H' as vss := ⟨h.1, fun k vs e => by
  obtain ⟨a, e1, e2⟩ := h.2 k vs e
  obtain ⟨pos, left, seed, xs, hp⟩ := id P
  exact ⟨a, e1, f _ _ (ne_of e2 hp.at_ (by intro z; cases z)) e2⟩⟩
theorem RowAt.frm {H H' : Hp} {p c D : Addr} {as : List Addr} {gs : List Seg} (h : RowAt H D as gs) (P : Pool H p c) (f : Frm p H H') (ne : D ≠ p) : RowAt H' D as gs := ⟨f _ _ ne h.at_, h.lt.frm P f⟩
theorem Tx.at_len46 {C x : Addr} {H : Hp} {L : List Nat} {n : Nat} (h : Tx C H x L n) : ∃ dx fs, H x = some (.ins C dx fs) ∧ fs.lookup ("length" : Str) = some (.int (L.length : Int)) := by
  obtain ⟨rs, ts, t, _, e, _⟩ := h
  exact t.len_at e
section
variable {P : Program} {w : World} {K : PySem.W.Frag} {mg : Str → Option Value} {base : Heap}
/-! ### _law_seg_agrees -/
def spSegAgrees (C : Addr) : Sp := fun vs H Q _ => ∃ (p c x D : Addr) (as : List Addr) (gs : List Seg) (n : Nat), vs = [.ref p, .ref x, .ref D] ∧ Pool H p c ∧ Tx C H x (rowL gs) n ∧ RowAt H D as gs ∧ D ≠ p ∧ Oks gs ∧ gs.length ≤ 100 ∧ ∀ H', Pool H' p c → Frm p H H' → Q (.bl true) H'
theorem scSga : FnScope ["pool", "text", "row", "length", "places", "at", "seg", "k", "place", "far", "due", "one"] ["pool", "text", "row"] (defScope sLSegAgrees) := ⟨rfl, rfl, rfl, by decide +kernel, rfl, by decide +kernel, by decide +kernel⟩
theorem ok_segagrees {C f : Addr} {fd : FuncData} (F : Fun K "_law_seg_agrees" "_law_seg_agrees" sLSegAgrees f fd) (hm : mg "_law_seg_agrees" = some (.ref f)) (b : Binds K fd ["pool", "text", "row"] []) (T : Txt mg) (Dc : Cl K C) (hmax : mg "max" = none) (hmin : mg "min" = none) (G : Cal P w K mg base 2 "_law_take" spTake []) (GS : Cal P w K mg base 5 "_law_same" (spSame 3) [])
    (GSl : Cal P w K mg base 1 "_law_seg_length" spSegLen []) (GSe : Cal P w K mg base 1 "_law_seg_letter" spSegLetter []) (GLe : C8.Met P w K mg base 5 C "letter" (spLetter C) []) (GLs : C8.Met P w K mg base 5 C "letters" (spLetters C) []) : Cal P w K mg base 6 "_law_seg_agrees" (spSegAgrees C) [] := by
  refine mkCal F hm b scSga (fun vs H Q E h => ?_) (fun cdv A outer sh H vs Q E hr h => ?_)
  · obtain ⟨p, c, x, D, as, gs, n, rfl, _⟩ := h
    rfl
  obtain ⟨p, c, x, D, as, gs, n, rfl, hP, hX, hR, nDp, ok, h100, q⟩ := h
  refine ⟨_, (pss_cons (ps_set (i := 3) scSga.nd rfl (.inl rfl) (pe_c GSl hr (by decide) (by rfl) (pa_cons (pv 2) pa_nil)))
    (pss_cons (ps_if (pt_not (pt_val (pe_c GS hr (by decide) (by rfl) (pa_cons (pe_fld (pv 1) rfl) (pa_cons (pv 3) pa_nil))))) (pss_one (ps_ret pe_bl)) pss_nil)
    (pss_cons (ps_set (i := 4) scSga.nd rfl (.inl rfl) (pe_lst (pa_cons pe_int (pa_cons (pe_op op_sub (pv 3) pe_int) pa_nil))))
    (pss_cons (ps_set (i := 5) scSga.nd rfl (.inl rfl) pe_int)
    (pss_cut (ps_for PassesOwn.never rfl (pi_list (pv 2)) (pg_name (i := 6) scSga.nd rfl (.inl rfl)) (pss_cons (ps_set (i := 5) scSga.nd rfl (.inl rfl) (pe_op op_sub (pe_op op_add (pv 5) (pe_ix ix_tup (pv 6) pe_int (fun _ _ => rfl))) (pe_ix ix_tup (pv 6) pe_int (fun _ _ => rfl))))
    (pss_one (ps_set (i := 4) scSga.nd rfl (.inl rfl) (pe_op op_cat (pv 4) (pe_lst (pa_cons (pe_op op_sub (pv 5) pe_int) (pa_cons (pv 5) pa_nil))))))))
    (pss_cut (ps_for PassesOwn.never rfl (pi_range1 (by rfl) T.range (pa_cons pe_int pa_nil)) (pg_name (i := 7) scSga.nd rfl (.inl rfl)) (pss_one (ps_expr (pe_bm PySem.F.plainAttrs_list PySem.F.slot_list_append PySem.F.type_list_append mt_append (pv 4) (pa_cons (pe_c G hr (by decide) (by rfl) (pa_cons (pv 0) (pa_cons (pe_callB (call_max2 rfl) (by rfl) hmax (by decide +kernel) (pa_cons pe_int (pa_cons (pv 3) pa_nil))) pa_nil))) pa_nil)))))
    (pss_cons (ps_for PassesOwn.never rfl (pi_list (pv 4)) (pg_name (i := 8) scSga.nd rfl (.inl rfl)) (pss_one (ps_if (pt_chain op_le op_lt pe_int (pv 8) (pv 3)) (pss_cons (ps_if (pt_not (pt_val (pe_c GS hr (by decide) (by rfl) (pa_cons (C8.pe_mt GLe hr (by decide) (pv 1) (pa_cons (pv 8) pa_nil)) (pa_cons (pe_c GSe hr (by decide) (by rfl) (pa_cons (pv 2) (pa_cons (pv 8) pa_nil))) pa_nil))))) (pss_one (ps_ret pe_bl)) pss_nil)
    (pss_cons (ps_set (i := 9) scSga.nd rfl (.inl rfl) (pe_callB (call_min2 rfl) (by rfl) hmin (by decide +kernel) (pa_cons (pv 3) (pa_cons (pe_op op_add (pv 8) pe_int) pa_nil))))
    (pss_cons (ps_set (i := 10) scSga.nd rfl (.inl rfl) (pe_join pe_str (pe_lc (own := [("one", 11)]) (g := gName 11) (tt := tYes) rfl scSga.nd (pi_range2 (by rfl) T.range (pa_cons (pv 8) (pa_cons (pv 9) pa_nil))) (blkOk_by (N := ["pool", "text", "row", "length", "places", "at", "seg", "k", "place", "far", "due", "one"]) (sc := defScope sLSegAgrees) (by decide +kernel)) (fun _ _ _ _ _ => (pg_name (i := 11) scSga.nd rfl (.inl rfl))) (fun _ _ _ _ _ => pts_nil) (fun _ _ _ _ _ => (pe_c GSe hr (by decide) (by rfl) (pa_cons (pv 2) (pa_cons (pv 11) pa_nil)))))))
    (pss_one (ps_if (pt_not (pt_val (pe_c GS hr (by decide) (by rfl) (pa_cons (C8.pe_mt GLs hr (by decide) (pv 1) (pa_cons (pv 8) (pa_cons (pv 9) pa_nil))) (pa_cons (pv 10) pa_nil))))) (pss_one (ps_ret pe_bl)) pss_nil))))) pss_nil)))
    (pss_one (ps_ret pe_bl))))))))), ?_⟩
  have big := hX.big
  rw [row_len ok] at big
  obtain ⟨dx, fs, ax, lx⟩ := hX.at_len46
  rw [row_len ok] at lx
  refine ⟨_, rfl, D, as, gs, rfl, hR, ok, by omega, fun H1 s1 => ?_⟩
  refine ⟨_, rfl, x, C, dx, _, _, rfl, s1 _ _ ax, Dc.cl, Dc.nN, lx, _, rfl, _, _, rfl, .inl (.inl ⟨_, rfl, rfl⟩), fun H2 s2 => ⟨true, rfl, ifF rfl ?_⟩⟩
  have s12 := s1.trans s2
  refine ⟨_, rfl, _, _, rfl, rfl, by show 2 ≤ sizeLine; decide, fun l1 nl1 => ?_⟩
  have e1 := q1x (o := .lst [.int 0, .int ((rowN gs : Int) - 1)]) nl1
  have sH := s12.trans (same_new (o := .lst [.int 0, .int ((rowN gs : Int) - 1)]) nl1)
  have n1p := (hP.same s12).ne nl1
  generalize upd H2 l1 _ = H3 at e1 sH ⊢
  -- the seams
  refine ⟨fun σ H' => ∃ (l : Addr) (zs : List Int) (z : Int) (v6 : Option V), σ = [some (.ref p), some (.ref x), some (.ref D), some (.int (rowN gs : Int)), some (.ref l), some (.int z), v6, none, none, none, none, none] ∧ H' l = some (.lst (zs.map V.int)) ∧ l ≠ p ∧ l ≠ c ∧ H l = none ∧ zs.length ≤ 2 + 2 * gs.length ∧ Same H H', ?_, ?_⟩
  · refine ⟨_, rfl, D, rfl, ⟨_, SqL.of (sH _ _ hR.at_)⟩, for_list (K := K) (a := D) (xs := as.map V.ref) (fun i σ H' => ∃ (l : Addr) (zs : List Int) (z : Int) (v6 : Option V), σ = [some (.ref p), some (.ref x), some (.ref D), some (.int (rowN gs : Int)), some (.ref l), some (.int z), v6, none, none, none, none, none] ∧ H' l = some (.lst (zs.map V.int)) ∧ l ≠ p ∧ l ≠ c ∧ H l = none ∧ zs.length ≤ 2 + 2 * i ∧ Same H H')
      ⟨l1, [0, (rowN gs : Int) - 1], 0, none, rfl, e1, n1p.1, n1p.2, s12.free nl1, Nat.le_refl _, sH⟩ (fun i σ H' _ ⟨_, _, _, _, _, _, _, _, _, _, h⟩ => SqL.of (h _ _ hR.at_)) ?_ ?_⟩
    · rintro i v σ H4 hi ⟨l, zs, z, v6, rfl, el, h1, h2, h3, hz, s4⟩
      obtain ⟨g, a, rfl, eg, ha⟩ := (hR.same s4).el hi
      have hi2 : i < gs.length := (List.getElem?_eq_some_iff.mp eg).1
      refine ⟨_, rfl, _, rfl, a, _, 2, _, rfl, rfl, SqT.of ha, atI_nat (j := 2) rfl, _, _, rfl, rfl, _, rfl, a, _, 1, _, rfl, rfl, SqT.of ha, atI_nat (j := 1) rfl, _, _, rfl, rfl, ?_⟩
      refine ⟨_, rfl, _, rfl, _, _, rfl, rfl, _, rfl, by show 2 ≤ sizeLine; decide, fun l2 nl2 => ?_⟩
      refine ⟨l, l2, _, _, rfl, rfl, same_new nl2 _ _ el, upd_same, sz (by rw [List.length_map]; show zs.length + 2 ≤ 100000; omega), fun l3 nl3 => ?_⟩
      have s5 := s4.trans ((same_new nl2).trans (same_new (o := .lst (zs.map V.int ++ [.int (z + (g.e : Int) - (g.s : Int) - 1), .int (z + (g.e : Int) - (g.s : Int))])) nl3))
      have n3 := (hP.same (s4.trans (same_new nl2))).ne nl3
      refine ⟨l3, zs ++ [z + (g.e : Int) - (g.s : Int) - 1, z + (g.e : Int) - (g.s : Int)], z + (g.e : Int) - (g.s : Int), some (.ref a), rfl, ?_, n3.1, n3.2, (s4.trans (same_new nl2)).free nl3, by rw [List.length_append]; show zs.length + 2 ≤ _; omega, s5⟩
      rw [upd_same, List.map_append]
      rfl
    · rintro σ H4 ⟨l, zs, z, v6, rfl, el, h1, h2, h3, hz, s4⟩
      exact ⟨l, zs, z, v6, rfl, el, h1, h2, h3, by rw [List.length_map, hR.len] at hz; exact hz, s4⟩
  rintro σ H4 ⟨l, zs, z, v6, rfl, el, lp, lc, nl, hz, s4⟩
  -- four places
  refine ⟨fun σ H' => ∃ (ps : List Int) (v7 : Option V), σ = [some (.ref p), some (.ref x), some (.ref D), some (.int (rowN gs : Int)), some (.ref l), some (.int z), v6, v7, none, none, none, none] ∧ H' l = some (.lst (ps.map V.int)) ∧ Pool H' p c ∧ Frm p H H', ?_, ?_⟩
  · refine ⟨4, rfl, by omega, by omega, for_range (lo := 0) (n := (4 : Int).toNat) (fun i σ H' => ∃ (ps : List Int) (v7 : Option V), σ = [some (.ref p), some (.ref x), some (.ref D), some (.int (rowN gs : Int)), some (.ref l), some (.int z), v6, v7, none, none, none, none] ∧ H' l = some (.lst (ps.map V.int)) ∧ ps.length ≤ 1000 + i ∧ Pool H' p c ∧ Frm p H H')
      ⟨zs, none, rfl, el, by omega, hP.same s4, fun _ _ _ e => s4 _ _ e⟩ ?_ ?_⟩
    · rintro i σ H5 hi ⟨ps, v7, rfl, el5, hps, hP5, f5⟩
      have hi4 : i < 4 := hi
      refine ⟨_, rfl, .inl ⟨rfl, _, SqL.of el5⟩, _, rfl, _, rfl, _, _, rfl, p, c, _, rfl, by split <;> omega, by split <;> omega, hP5, fun r H6 r0 r1 hP6 f6 => ?_⟩
      have el6 := f6 _ _ lp el5
      refine ⟨l, _, _, rfl, rfl, el6, Nat.lt_of_lt_of_le (by rw [List.length_map]; exact Nat.lt_succ_of_le hps) (sz (by omega)), ps ++ [r], _, rfl, by rw [upd_same, List.map_append]; rfl, by rw [List.length_append]; show ps.length + 1 ≤ _; omega, hP6.upd ⟨lp, lc⟩, (f5.trans f6).updN nl⟩
    · rintro σ H5 ⟨ps, v7, rfl, el5, hps, hP5, f5⟩
      exact ⟨ps, v7, rfl, el5, hP5, f5⟩
  rintro σ H5 ⟨ps, v7, rfl, el5, hP5, f5⟩
  refine ⟨_, rfl, l, rfl, ⟨_, SqL.of el5⟩, for_list (K := K) (a := l) (xs := ps.map V.int) (fun i σ H' => (∃ v8 v9 v10 : Option V, σ = [some (.ref p), some (.ref x), some (.ref D), some (.int (rowN gs : Int)), some (.ref l), some (.int z), v6, v7, v8, v9, v10, none]) ∧ Pool H' p c ∧ Frm p H H' ∧ H' l = some (.lst (ps.map V.int)))
    ⟨⟨_, _, _, rfl⟩, hP5, f5, el5⟩ (fun i σ H' _ ⟨_, _, _, h⟩ => SqL.of h) ?_ ?_⟩
  · rintro i y σ H6 hi ⟨⟨v8, v9, v10, rfl⟩, hP6, f6, e6⟩
    obtain ⟨pl, rfl⟩ : ∃ pl : Int, y = .int pl := by
      rw [List.getElem?_map] at hi
      cases e : ps[i]? with
      | none => rw [e] at hi; cases hi
      | some z => rw [e] at hi; exact ⟨z, (Option.some.inj hi).symm⟩
    have fin : ∀ {H' : Hp}, Pool H' p c → Frm p H H' → H' l = some (.lst (ps.map V.int)) → ∀ (v8 v9 v10 : Option V), (∃ a1 a2 a3 : Option V, [some (V.ref p), some (.ref x), some (.ref D), some (.int (rowN gs : Int)), some (.ref l), some (.int z), v6, v7, v8, v9, v10, none] = [some (V.ref p), some (.ref x), some (.ref D), some (.int (rowN gs : Int)), some (.ref l), some (.int z), v6, v7, a1, a2, a3, none]) ∧ Pool H' p c ∧ Frm p H H' ∧ H' l = some (.lst (ps.map V.int)) := fun h1 h2 h3 v8 v9 v10 => ⟨⟨_, _, _, rfl⟩, h1, h2, h3⟩
    by_cases h0 : 0 ≤ pl
    · by_cases h1 : pl < (rowN gs : Int)
      · refine ⟨_, rfl, _, _, rfl, rfl, _, rfl, ifT (decide_eq_true h0) ⟨_, rfl, _, _, rfl, rfl, _, rfl, ifT (decide_eq_true h1) ?_⟩⟩
        obtain ⟨k, rfl⟩ := Int.eq_ofNat_of_zero_le h0
        have hk : k < rowN gs := by omega
        have hlen := row_len ok
        obtain ⟨rs, ts, tA, o1, eL, _⟩ := hX.frm hP f6
        obtain ⟨dx6, RU6, LE6, fs6, as6, hI6⟩ := id tA
        have hR6 := hR.frm hP f6 nDp
        refine ⟨_, rfl, x, dx6, fs6, rfl, hI6.at_, hI6.m1, _, rfl, x, rs, ts, k, rfl, tA, by omega, by rw [eL]; omega, fun H7 s7 => ?_⟩
        rw [eL]
        refine ⟨_, rfl, _, rfl, D, as, gs, k, rfl, hR6.same s7, ok, by omega, hk, ?_⟩
        refine ⟨_, _, rfl, .inl (.inr (.inl ⟨_, rfl, rfl⟩)), fun H8 s8 => ⟨true, rfl, ifF rfl ?_⟩⟩
        have sA := s7.trans s8
        -- far
        refine ⟨_, rfl, _, rfl, _, _, rfl, rfl, _, _, rfl, ?_⟩
        obtain ⟨fr, efr, fr1, fr2, fr3⟩ : ∃ fr : Nat, (if (k : Int) + 12 < (rowN gs : Int) then (k : Int) + 12 else (rowN gs : Int)) = (fr : Int) ∧ k ≤ fr ∧ fr ≤ rowN gs ∧ fr - k ≤ 1000 := by
          refine ⟨(if (k : Int) + 12 < (rowN gs : Int) then (k : Int) + 12 else (rowN gs : Int)).toNat, ?_, ?_, ?_, ?_⟩ <;> split <;> omega
        rw [efr]
        refine ⟨⟨_, rfl⟩, ?_⟩
        refine ⟨_, rfl, _, rfl, (k : Int), (fr : Int), rfl, ⟨by omega, by omega, by omega, by omega⟩, fun D1 nD => lc_range (lo := (k : Int)) (n := ((fr : Int) - (k : Int)).toNat) (fun i H' => Same H8 H' ∧ H' D1 = some (.lst (sgs (sub (rowL gs) k (k + i))))) ⟨same_new nD, by rw [Nat.add_zero, sub_nil]; exact upd_same⟩ ?_ ?_⟩
        · rintro j H9 hj ⟨s9, eD⟩
          have hj2 : k + j < rowN gs := by omega
          have hj3 : k + j < (rowL gs).length := by omega
          refine ⟨rfl, _, rfl, _, rfl, D, as, gs, k + j, by rw [Int.natCast_add]; rfl, (hR6.same sA).same s9, ok, by omega, hj2, _, eD, ?_, ?_, ?_⟩
          · rw [sgs, List.length_map, sub_len (by omega)]
            exact small1000 (by omega)
          · exact fun o oo ho => by rw [upd_ne (ne_of_none ho nD)]; exact s9 _ _ ho
          · rw [upd_same, sub_one hj3, sub_cut (a := k) (b := k + j) (c := k + (j + 1)) (by omega) (by omega), show k + (j + 1) = k + j + 1 by omega, sub_one hj3, sgs_add]
        rintro H9 ⟨s9, eD⟩
        rw [show k + ((fr : Int) - (k : Int)).toNat = fr by omega] at eD
        have e1 : sgs (sub (rowL gs) k fr) = (((sub (rowL gs) k fr).map fun c => [c]).map S).map V.str := by simp [sgs]
        have le : (sub (rowL gs) k fr).length ≤ 1000 := by rw [sub_len (by omega)]; exact fr3
        refine ⟨_, D1, ((sub (rowL gs) k fr).map fun c => [c]).map S, rfl, rfl, .inl (SqL.of (by rw [eD, e1])), join_size (by omega), ?_⟩
        rw [sgs_join]
        have sB := sA.trans s9
        refine ⟨_, rfl, x, dx6, fs6, rfl, sB _ _ hI6.at_, hI6.m2, _, rfl, _, rfl, x, rs, ts, k, fr, rfl, tA.same sB, by omega, fr1, by rw [eL]; omega, fr3, fun H10 s10 => ?_⟩
        rw [eL]
        refine ⟨_, rfl, _, _, rfl, .inl (.inr (.inl ⟨_, rfl, rfl⟩)), fun H11 s11 => ⟨true, rfl, ifF rfl ?_⟩⟩
        have sC := sB.trans (s10.trans s11)
        exact fin (hP6.same sC) (f6.trans fun b o hb e => sC _ _ e) (sC _ _ e6) _ _ _
      · exact ⟨_, rfl, _, _, rfl, rfl, _, rfl, ifT (decide_eq_true h0) ⟨_, rfl, _, _, rfl, rfl, _, rfl, ifF (decide_eq_false h1) (fin hP6 f6 e6 _ _ _)⟩⟩
    · exact ⟨_, rfl, _, _, rfl, rfl, _, rfl, ifF (decide_eq_false h0) ⟨_, rfl, ifF rfl (fin hP6 f6 e6 _ _ _)⟩⟩
  · rintro σ H6 ⟨⟨v8, v9, v10, rfl⟩, hP6, f6, e6⟩
    exact q H6 hP6 f6
end
theorem lgN {k : Nat} (h : k ≤ 2000000000000) : (k : Int).natAbs.log2 < 1920 := Nat.lt_of_lt_of_le (PySem.Flt.log2_lt_of (k := 41) (by decide) (by omega)) (by decide)
theorem NewText.mono {C : Addr} {H : Hp} {L : List Nat} {n m : Nat} {Q : VK} (h : NewText C H L n Q) (l : m ≤ n) : NewText C H L m Q := fun x rs ts H' a b c d e f => h x rs ts H' a b c (Nat.le_trans d l) e f
section
variable {L O : List Nat} {s t pl : Nat}
def insL (L : List Nat) (s : Nat) (O : List Nat) : List Nat := sub L 0 s ++ (O ++ sub L s L.length)
def turnL (L : List Nat) (s t : Nat) : List Nat := sub L 0 s ++ ((sub L s t).reverse ++ sub L t L.length)
def repL (L : List Nat) (s t : Nat) (O : List Nat) : List Nat := sub L 0 s ++ (O ++ sub L t L.length)
theorem insL_len (h : s ≤ L.length) : (insL L s O).length = L.length + O.length := by
  unfold insL
  rw [List.length_append, List.length_append, sub_len h, sub_len (Nat.le_refl _)]
  omega
theorem turnL_len (h1 : s ≤ t) (h2 : t ≤ L.length) : (turnL L s t).length = L.length := by
  unfold turnL
  rw [List.length_append, List.length_append, List.length_reverse, sub_len (by omega), sub_len h2, sub_len (Nat.le_refl _)]
  omega
def movedTo (L : List Nat) (s t pl : Nat) : List Nat := sub (without L s t) 0 pl ++ (sub L s t ++ sub (without L s t) pl (without L s t).length)
theorem moved_len (h1 : s ≤ t) (h2 : t ≤ L.length) (h3 : pl ≤ L.length - (t - s)) : (movedTo L s t pl).length = L.length := by
  have := without_len h1 h2
  unfold movedTo
  rw [List.length_append, List.length_append, sub_len (by omega), sub_len h2, sub_len (Nat.le_refl _)]
  omega
end
theorem repL_len {L O : List Nat} {s t : Nat} (h1 : s ≤ t) (h2 : t ≤ L.length) : (repL L s t O).length = L.length - (t - s) + O.length := by
  unfold repL
  rw [List.length_append, List.length_append, sub_len (by omega), sub_len (Nat.le_refl _)]
  omega
/-! ### _law_done -/
inductive Chg where
  | part (s t : Nat) | remove (s t : Nat) | replace (s t : Nat) | insert (s : Nat) | move (s t pl : Nat) | turn (s t : Nat) | rep (s t k : Nat)
def Chg.vals : Chg → List V
  | .part s t => [.str "part", .int (s : Int), .int (t : Int)]
  | .remove s t => [.str "remove", .int (s : Int), .int (t : Int)]
  | .replace s t => [.str "replace", .int (s : Int), .int (t : Int)]
  | .insert s => [.str "insert", .int (s : Int)]
  | .move s t pl => [.str "move", .int (s : Int), .int (t : Int), .int (pl : Int)]
  | .turn s t => [.str "turn", .int (s : Int), .int (t : Int)]
  | .rep s t k => [.str "repeat", .int (s : Int), .int (t : Int), .int (k : Int)]
def Chg.ok (n : Nat) : Chg → Prop
  | .part s t | .remove s t | .replace s t | .turn s t => s ≤ t ∧ t ≤ n
  | .insert s => s ≤ n
  | .move s t pl => s ≤ t ∧ t ≤ n ∧ pl ≤ n - (t - s)
  | .rep s t k => s ≤ t ∧ t ≤ n ∧ k ≤ 4
def Chg.out (L O : List Nat) : Chg → List Nat
  | .part s t => sub L s t
  | .remove s t => without L s t
  | .replace s t => repL L s t O
  | .insert s => insL L s O
  | .move s t pl => movedTo L s t pl
  | .turn s t => turnL L s t
  | .rep s t k => repL L s t (pw (sub L s t) k)
section
variable {P : Program} {w : World} {K : PySem.W.Frag} {mg : Str → Option Value} {base : Heap}
def spDone (C CL : Addr) : Sp := fun vs H Q E => ∃ (x y u : Addr) (L O : List Nat) (n n2 : Nat) (ch : Chg), vs = [.ref x, .ref y, .ref u] ∧ Tx C H x L n ∧ Tx C H y O n2 ∧ n ≤ 200 ∧ n2 ≤ 200 ∧ H u = some (.tup ch.vals) ∧ ch.ok L.length ∧
  ((ch.out L O).length ≤ 1000000000000 → NewText C H (ch.out L O) (max 33 (n + n2 + 15)) Q) ∧ (¬ (ch.out L O).length ≤ 1000000000000 → E (.ref CL) none H)
theorem scDo : FnScope ["text", "other", "call"] ["text", "other", "call"] (defScope sLDone) := ⟨rfl, rfl, rfl, by decide +kernel, rfl, by decide +kernel, by decide +kernel⟩
theorem ok_done {C CP CQ CT CL f : Addr} {fd : FuncData} (F : Fun K "_law_done" "_law_done" sLDone f fd) (hm : mg "_law_done" = some (.ref f)) (b : Binds K fd ["text", "other", "call"] []) (GPo : CalX P w K mg base 9 "part_of" (spPartOf C CP)) (GRm : CalX P w K mg base 9 "remove_part" (spRemovePart C CP)) (GRp : CalX P w K mg base 9 "replace_part" (spReplacePart C CP CL)) (GIa : CalX P w K mg base 10 "insert_at" (spInsertAt C CQ CL))
    (GMv : CalX P w K mg base 9 "move_part" (spMovePart C CP CQ)) (GTp : CalX P w K mg base 9 "turn_part" (spTurnPart C CP)) (GRt : CalX P w K mg base 9 "repeat_part" (spRepeatPart C CP CT CL)) : CalX P w K mg base 11 "_law_done" (spDone C CL) := by
  refine ⟨f, fd, _, F.okX scDo (fun vs H Q E h => ?_) (fun cdv A outer sh H vs Q E hr h => ?_), hm, F.kp, b⟩
  · obtain ⟨x, y, u, L, O, n, n2, ch, rfl, _⟩ := h
    rfl
  obtain ⟨x, y, u, L, O, n, n2, ch, rfl, hX, hY, hn, hn2, hu, ok, q, qe⟩ := h
  have big := hX.big
  have bigO := hY.big
  refine ⟨_, (pss_cons (ps_if (pt_cmpR op_eq (pe_ix ix_tup (pv 2) pe_int (fun _ _ => rfl)) pe_str (nomark _)) (pss_one (ps_ret (pe_cX GPo hr (by decide) (by rfl) (takes_of rfl rfl rfl rfl) (pa_cons (pv 0) (pa_cons (pe_ix ix_tup (pv 2) pe_int (fun _ _ => rfl)) (pa_cons (pe_ix ix_tup (pv 2) pe_int (fun _ _ => rfl)) pa_nil)))))) pss_nil)
    (pss_cons (ps_if (pt_cmpR op_eq (pe_ix ix_tup (pv 2) pe_int (fun _ _ => rfl)) pe_str (nomark _)) (pss_one (ps_ret (pe_cX GRm hr (by decide) (by rfl) (takes_of rfl rfl rfl rfl) (pa_cons (pv 0) (pa_cons (pe_ix ix_tup (pv 2) pe_int (fun _ _ => rfl)) (pa_cons (pe_ix ix_tup (pv 2) pe_int (fun _ _ => rfl)) pa_nil)))))) pss_nil)
    (pss_cons (ps_if (pt_cmpR op_eq (pe_ix ix_tup (pv 2) pe_int (fun _ _ => rfl)) pe_str (nomark _)) (pss_one (ps_ret (pe_cX GRp hr (by decide) (by rfl) (takes_of rfl rfl rfl rfl) (pa_cons (pv 0) (pa_cons (pe_ix ix_tup (pv 2) pe_int (fun _ _ => rfl)) (pa_cons (pe_ix ix_tup (pv 2) pe_int (fun _ _ => rfl)) (pa_cons (pv 1) pa_nil))))))) pss_nil)
    (pss_cons (ps_if (pt_cmpR op_eq (pe_ix ix_tup (pv 2) pe_int (fun _ _ => rfl)) pe_str (nomark _)) (pss_one (ps_ret (pe_cX GIa hr (by decide) (by rfl) (takes_of rfl rfl rfl rfl) (pa_cons (pv 0) (pa_cons (pe_ix ix_tup (pv 2) pe_int (fun _ _ => rfl)) (pa_cons (pv 1) pa_nil)))))) pss_nil)
    (pss_cons (ps_if (pt_cmpR op_eq (pe_ix ix_tup (pv 2) pe_int (fun _ _ => rfl)) pe_str (nomark _)) (pss_one (ps_ret (pe_cX GMv hr (by decide) (by rfl) (takes_of rfl rfl rfl rfl) (pa_cons (pv 0) (pa_cons (pe_ix ix_tup (pv 2) pe_int (fun _ _ => rfl)) (pa_cons (pe_ix ix_tup (pv 2) pe_int (fun _ _ => rfl)) (pa_cons (pe_ix ix_tup (pv 2) pe_int (fun _ _ => rfl)) pa_nil))))))) pss_nil)
    (pss_cons (ps_if (pt_cmpR op_eq (pe_ix ix_tup (pv 2) pe_int (fun _ _ => rfl)) pe_str (nomark _)) (pss_one (ps_ret (pe_cX GTp hr (by decide) (by rfl) (takes_of rfl rfl rfl rfl) (pa_cons (pv 0) (pa_cons (pe_ix ix_tup (pv 2) pe_int (fun _ _ => rfl)) (pa_cons (pe_ix ix_tup (pv 2) pe_int (fun _ _ => rfl)) pa_nil)))))) pss_nil)
    (pss_one (ps_ret (pe_cX GRt hr (by decide) (by rfl) (takes_of rfl rfl rfl rfl) (pa_cons (pv 0) (pa_cons (pe_ix ix_tup (pv 2) pe_int (fun _ _ => rfl)) (pa_cons (pe_ix ix_tup (pv 2) pe_int (fun _ _ => rfl)) (pa_cons (pe_ix ix_tup (pv 2) pe_int (fun _ _ => rfl)) pa_nil))))))))))))), ?_⟩
  cases ch with
  | part s t =>
    refine ⟨_, rfl, u, _, 0, _, rfl, rfl, SqT.of hu, atI_nat (j := 0) rfl, rfl, _, rfl, ifT (by decide +kernel) ?_⟩
    obtain ⟨h1, h2⟩ := ok
    have gs : (s : Int).natAbs.log2 < 1920 := lgN (by omega)
    have gt : (t : Int).natAbs.log2 < 1920 := lgN (by omega)
    have hin : inPart (s : Int) (t : Int) L.length := ⟨by omega, by omega, by omega⟩
    exact ⟨_, rfl, _, rfl, u, _, 1, _, rfl, rfl, SqT.of hu, atI_nat (j := 1) rfl, _, rfl, u, _, 2, _, rfl, rfl, SqT.of hu, atI_nat (j := 2) rfl, x, L, n, (s : Int), (t : Int), rfl, hX, by omega, gs, gt, fun z => absurd hin z, fun _ => (q (by show (sub L s t).length ≤ _; rw [sub_len h2]; omega)).mono (by omega)⟩
  | remove s t =>
    refine ⟨_, rfl, u, _, 0, _, rfl, rfl, SqT.of hu, atI_nat (j := 0) rfl, rfl, _, rfl, ifF (by decide +kernel) ⟨_, rfl, u, _, 0, _, rfl, rfl, SqT.of hu, atI_nat (j := 0) rfl, rfl, _, rfl, ifT (by decide +kernel) ?_⟩⟩
    obtain ⟨h1, h2⟩ := ok
    have gs : (s : Int).natAbs.log2 < 1920 := lgN (by omega)
    have gt : (t : Int).natAbs.log2 < 1920 := lgN (by omega)
    have hin : inPart (s : Int) (t : Int) L.length := ⟨by omega, by omega, by omega⟩
    exact ⟨_, rfl, _, rfl, u, _, 1, _, rfl, rfl, SqT.of hu, atI_nat (j := 1) rfl, _, rfl, u, _, 2, _, rfl, rfl, SqT.of hu, atI_nat (j := 2) rfl, x, L, n, (s : Int), (t : Int), rfl, hX, by omega, gs, gt, fun z => absurd hin z, fun _ => (q (by show (without L s t).length ≤ _; rw [without_len h1 h2]; omega)).mono (by omega)⟩
  | replace s t =>
    refine ⟨_, rfl, u, _, 0, _, rfl, rfl, SqT.of hu, atI_nat (j := 0) rfl, rfl, _, rfl, ifF (by decide +kernel) ⟨_, rfl, u, _, 0, _, rfl, rfl, SqT.of hu, atI_nat (j := 0) rfl, rfl, _, rfl, ifF (by decide +kernel) ⟨_, rfl, u, _, 0, _, rfl, rfl, SqT.of hu, atI_nat (j := 0) rfl, rfl, _, rfl, ifT (by decide +kernel) ?_⟩⟩⟩
    obtain ⟨h1, h2⟩ := ok
    have gs : (s : Int).natAbs.log2 < 1920 := lgN (by omega)
    have gt : (t : Int).natAbs.log2 < 1920 := lgN (by omega)
    have hin : inPart (s : Int) (t : Int) L.length := ⟨by omega, by omega, by omega⟩
    have hl : (repL L s t O).length = L.length - (t - s) + O.length := repL_len h1 h2
    exact ⟨_, rfl, _, rfl, u, _, 1, _, rfl, rfl, SqT.of hu, atI_nat (j := 1) rfl, _, rfl, u, _, 2, _, rfl, rfl, SqT.of hu, atI_nat (j := 2) rfl, _, rfl, x, y, L, O, n, n2, (s : Int), (t : Int), rfl, hX, hY, by omega, by omega, gs, gt, fun z => absurd hin z, fun _ z => qe (by show ¬ (repL L s t O).length ≤ _; rw [hl]; omega), fun _ z => (q (by show (repL L s t O).length ≤ _; rw [hl]; omega)).mono (by omega)⟩
  | insert s =>
    refine ⟨_, rfl, u, _, 0, _, rfl, rfl, SqT.of hu, atI_nat (j := 0) rfl, rfl, _, rfl, ifF (by decide +kernel) ⟨_, rfl, u, _, 0, _, rfl, rfl, SqT.of hu, atI_nat (j := 0) rfl, rfl, _, rfl, ifF (by decide +kernel) ⟨_, rfl, u, _, 0, _, rfl, rfl, SqT.of hu, atI_nat (j := 0) rfl, rfl, _, rfl, ifF (by decide +kernel) ⟨_, rfl, u, _, 0, _, rfl, rfl, SqT.of hu, atI_nat (j := 0) rfl, rfl, _, rfl, ifT (by decide +kernel) ?_⟩⟩⟩⟩
    have h2 : s ≤ L.length := ok
    have gs : (s : Int).natAbs.log2 < 1920 := lgN (by omega)
    have hp : 0 ≤ (s : Int) ∧ (s : Int) ≤ (L.length : Int) := ⟨by omega, by omega⟩
    have hl : (insL L s O).length = L.length + O.length := insL_len h2
    exact ⟨_, rfl, _, rfl, u, _, 1, _, rfl, rfl, SqT.of hu, atI_nat (j := 1) rfl, _, rfl, x, y, L, O, n, n2, (s : Int), rfl, hX, hY, by omega, by omega, gs, fun z => absurd hp z, fun _ z => qe (by show ¬ (insL L s O).length ≤ _; rw [hl]; omega), fun _ z => (q (by show (insL L s O).length ≤ _; rw [hl]; omega)).mono (by omega)⟩
  | move s t pl =>
    refine ⟨_, rfl, u, _, 0, _, rfl, rfl, SqT.of hu, atI_nat (j := 0) rfl, rfl, _, rfl, ifF (by decide +kernel) ⟨_, rfl, u, _, 0, _, rfl, rfl, SqT.of hu, atI_nat (j := 0) rfl, rfl, _, rfl, ifF (by decide +kernel) ⟨_, rfl, u, _, 0, _, rfl, rfl, SqT.of hu, atI_nat (j := 0) rfl, rfl, _, rfl, ifF (by decide +kernel) ⟨_, rfl, u, _, 0, _, rfl, rfl, SqT.of hu, atI_nat (j := 0) rfl, rfl, _, rfl, ifF (by decide +kernel) ⟨_, rfl, u, _, 0, _, rfl, rfl, SqT.of hu, atI_nat (j := 0) rfl, rfl, _, rfl, ifT (by decide +kernel) ?_⟩⟩⟩⟩⟩
    obtain ⟨h1, h2, h3⟩ := ok
    have gs : (s : Int).natAbs.log2 < 1920 := lgN (by omega)
    have gt : (t : Int).natAbs.log2 < 1920 := lgN (by omega)
    have hin : inPart (s : Int) (t : Int) L.length := ⟨by omega, by omega, by omega⟩
    have gp : (pl : Int).natAbs.log2 < 1920 := lgN (by omega)
    have hp : 0 ≤ (pl : Int) ∧ (pl : Int) ≤ (L.length : Int) - ((t : Int) - (s : Int)) := ⟨by omega, by omega⟩
    exact ⟨_, rfl, _, rfl, u, _, 1, _, rfl, rfl, SqT.of hu, atI_nat (j := 1) rfl, _, rfl, u, _, 2, _, rfl, rfl, SqT.of hu, atI_nat (j := 2) rfl, _, rfl, u, _, 3, _, rfl, rfl, SqT.of hu, atI_nat (j := 3) rfl, x, L, n, (s : Int), (t : Int), (pl : Int), rfl, hX, by omega, gs, gt, gp, fun z => absurd hin z, fun _ z => absurd hp z, fun _ _ => (q (by show (movedTo L s t pl).length ≤ _; rw [moved_len h1 h2 h3]; omega)).mono (by omega)⟩
  | turn s t =>
    refine ⟨_, rfl, u, _, 0, _, rfl, rfl, SqT.of hu, atI_nat (j := 0) rfl, rfl, _, rfl, ifF (by decide +kernel) ⟨_, rfl, u, _, 0, _, rfl, rfl, SqT.of hu, atI_nat (j := 0) rfl, rfl, _, rfl, ifF (by decide +kernel) ⟨_, rfl, u, _, 0, _, rfl, rfl, SqT.of hu, atI_nat (j := 0) rfl, rfl, _, rfl, ifF (by decide +kernel) ⟨_, rfl, u, _, 0, _, rfl, rfl, SqT.of hu, atI_nat (j := 0) rfl, rfl, _, rfl, ifF (by decide +kernel) ⟨_, rfl, u, _, 0, _, rfl, rfl, SqT.of hu, atI_nat (j := 0) rfl, rfl, _, rfl, ifF (by decide +kernel) ⟨_, rfl, u, _, 0, _, rfl, rfl, SqT.of hu, atI_nat (j := 0) rfl, rfl, _, rfl, ifT (by decide +kernel) ?_⟩⟩⟩⟩⟩⟩
    obtain ⟨h1, h2⟩ := ok
    have gs : (s : Int).natAbs.log2 < 1920 := lgN (by omega)
    have gt : (t : Int).natAbs.log2 < 1920 := lgN (by omega)
    have hin : inPart (s : Int) (t : Int) L.length := ⟨by omega, by omega, by omega⟩
    exact ⟨_, rfl, _, rfl, u, _, 1, _, rfl, rfl, SqT.of hu, atI_nat (j := 1) rfl, _, rfl, u, _, 2, _, rfl, rfl, SqT.of hu, atI_nat (j := 2) rfl, x, L, n, (s : Int), (t : Int), rfl, hX, by omega, gs, gt, fun z => absurd hin z, fun _ => (q (by show (turnL L s t).length ≤ _; rw [turnL_len h1 h2]; omega)).mono (by omega)⟩
  | rep s t k =>
    refine ⟨_, rfl, u, _, 0, _, rfl, rfl, SqT.of hu, atI_nat (j := 0) rfl, rfl, _, rfl, ifF (by decide +kernel) ⟨_, rfl, u, _, 0, _, rfl, rfl, SqT.of hu, atI_nat (j := 0) rfl, rfl, _, rfl, ifF (by decide +kernel) ⟨_, rfl, u, _, 0, _, rfl, rfl, SqT.of hu, atI_nat (j := 0) rfl, rfl, _, rfl, ifF (by decide +kernel) ⟨_, rfl, u, _, 0, _, rfl, rfl, SqT.of hu, atI_nat (j := 0) rfl, rfl, _, rfl, ifF (by decide +kernel) ⟨_, rfl, u, _, 0, _, rfl, rfl, SqT.of hu, atI_nat (j := 0) rfl, rfl, _, rfl, ifF (by decide +kernel) ⟨_, rfl, u, _, 0, _, rfl, rfl, SqT.of hu, atI_nat (j := 0) rfl, rfl, _, rfl, ifF (by decide +kernel) ?_⟩⟩⟩⟩⟩⟩
    obtain ⟨h1, h2, h3⟩ := ok
    have gs : (s : Int).natAbs.log2 < 1920 := lgN (by omega)
    have gt : (t : Int).natAbs.log2 < 1920 := lgN (by omega)
    have hin : inPart (s : Int) (t : Int) L.length := ⟨by omega, by omega, by omega⟩
    have hl : ((repL L s t (pw (sub L s t) k)).length : Int) = (L.length : Int) + ((t : Int) - (s : Int)) * ((k : Int) - 1) := by
      rw [repL_len h1 h2, pw_len, sub_len h2]
      have e1 : ((k * (t - s) : Nat) : Int) = (k : Int) * ((t : Int) - (s : Int)) := by rw [Int.natCast_mul, show ((t - s : Nat) : Int) = (t : Int) - (s : Int) by omega]
      have e2 : ((t : Int) - (s : Int)) * ((k : Int) - 1) = (k : Int) * ((t : Int) - (s : Int)) - ((t : Int) - (s : Int)) := by rw [Int.mul_sub, Int.mul_one, Int.mul_comm]
      rw [e2, ← e1]
      omega
    have hk : 0 ≤ (k : Int) ∧ (k : Int) ≤ 1000000000000 := ⟨by omega, by omega⟩
    exact ⟨_, rfl, _, rfl, u, _, 1, _, rfl, rfl, SqT.of hu, atI_nat (j := 1) rfl, _, rfl, u, _, 2, _, rfl, rfl, SqT.of hu, atI_nat (j := 2) rfl, _, rfl, u, _, 3, _, rfl, rfl, SqT.of hu, atI_nat (j := 3) rfl, x, L, n, (s : Int), (t : Int), (k : Int), rfl, hX, by omega, gs, gt, fun z => absurd hin z, fun _ z => absurd hk z, fun _ _ z => qe (by show ¬ (repL L s t (pw (sub L s t) k)).length ≤ _; omega), fun _ _ z => (q (by show (repL L s t (pw (sub L s t) k)).length ≤ _; omega)).mono (by omega)⟩
end
def rIsN (K : PySem.W.Frag) (D a : Addr) (cls : Value) (d : Option Addr) : List V → Hp → VK → Prop := fun xs H Q => ∃ (c : V) (cv : Value) (b : Bool), xs = [.ref a, c] ∧ cls = .ref D ∧ d = none ∧ (∀ u, RelV c u → u = cv) ∧ PySem.W.kitOne K (.ref D) cv = some b ∧ Q (.bl b) H
theorem call_isN {X : Cx} {a D : Addr} {oe : Obj} {cls : Value} {d : Option Addr} {pn : List (Addr × Obj)} (C : ExcC X.K D) (hz : Zc cls d oe) (hf : ∃ vs, oe.data = .fields vs) : CallR (X.suite a ((a, oe) :: pn)) (.builtin "isinstance") (rIsN X.K D a cls d) := by
  intro pins s σ H xs us Q I r h
  obtain ⟨c, cv, b, rfl, rfl, rfl, hcv, e, q⟩ := h
  exact call_isE C hz hf pins s σ H _ us Q I r ⟨c, cv, b, rfl, hcv, e, q⟩
section
variable {P : Program} {w : World} {K : PySem.W.Frag} {mg : Str → Option Value} {base : Heap}
/-! ### _law_told -/
def spTold (C : Addr) : Sp := fun vs H Q _ => ∃ (x y u : Addr) (L O : List Nat) (n n2 : Nat) (ch : Chg), vs = [.ref x, .ref y, .ref u] ∧ Tx C H x L n ∧ Tx C H y O n2 ∧ n ≤ 200 ∧ n2 ≤ 200 ∧ H u = some (.tup ch.vals) ∧ ch.ok L.length ∧
  ((ch.out L O).length ≤ 1000000000000 → NewText C H (ch.out L O) (max 33 (n + n2 + 15)) Q) ∧ (¬ (ch.out L O).length ≤ 1000000000000 → ∀ H', Same H H' → Q .non H')
theorem scTo : FnScope ["text", "other", "call", "e"] ["text", "other", "call"] (defScope sLTold) := ⟨rfl, rfl, rfl, by decide +kernel, rfl, by decide +kernel, by decide +kernel⟩
theorem ok_told {C CL CH f : Addr} {fd : FuncData} (F : Fun K "_law_told" "_law_told" sLTold f fd) (hm : mg "_law_told" = some (.ref f)) (b : Binds K fd ["text", "other", "call"] []) (T : Txt mg) (gL : mg "TooLarge" = some (.ref CL)) (gH : ∃ u, mg "HeldError" = some u ∧ RelV (.ref CH) u)
    (UL : ExcC K CL) (eL : PySem.W.exmOne K (.ref CL) (.ref CL) = some true) (kL : PySem.W.kitOne K (.ref CL) (.ref CH) = some true) (GDn : CalX P w K mg base 11 "_law_done" (spDone C CL)) : Cal P w K mg base 12 "_law_told" (spTold C) [] := by
  refine mkCal F hm b scTo (fun vs H Q E h => ?_) (fun cdv A outer s H vs Q E hr h => ?_)
  · obtain ⟨x, y, u, L, O, n, n2, ch, rfl, _⟩ := h
    rfl
  obtain ⟨x, y, u, L, O, n, n2, ch, rfl, hX, hY, hn, hn2, hu, ok, q, qe⟩ := h
  refine ⟨_, pss_cons (ps_try_manyAs (tb := fun W => tRet (tCallS (spDone C CL) (WE W) (tCons (tVar 0) (tCons (tVar 1) (tCons (tVar 2) tNil))))) rfl rfl scTo.nd
      (fun W pn xe tk _ => pss_one (ps_ret (by exact (pe_cX GDn hr (by decide) (by rfl) tk (pa_cons (pv 0) (pa_cons (pv 1) (pa_cons (pv 2) pa_nil)))))))
      (.cons (i := 3) ⟨rfl, by decide, Or.inl gL⟩ rfl rfl (fun a oe cls d pn hz hf => pss_one (ps_if (pt_val (by exact (pe_callB (call_isN UL hz hf) (by rfl) T.isinstance (by decide +kernel) (pa_cons (pv 3) (pa_cons (C8.pe_gc (by rfl) gH) pa_nil))))) (pss_one (ps_ret pe_non)) pss_nil)) .nil))
    (pss_one (ps_ret pe_bl)), ?_⟩
  refine ⟨_, rfl, _, rfl, _, rfl, x, y, u, L, O, n, n2, ch, rfl, hX, hY, hn, hn2, hu, ok, fun hb => ?_, fun hb => ?_⟩
  · exact q hb
  · refine ⟨true, eL, fun _ a na => ?_, fun z => Bool.noConfusion z⟩
    exact ⟨_, rfl, .ref CH, .ref CH, true, rfl, rfl, rfl, fun u r => r, kL, true, rfl, ifT rfl (qe hb _ (Same.refl _))⟩
end
theorem lt_cat {H : Hp} : ∀ {as bs : List Addr} {us vs : List (List V)}, LT H as us → LT H bs vs → LT H (as ++ bs) (us ++ vs) := fun {as bs us vs} h k => ⟨by rw [List.length_append, List.length_append, h.1, k.1], fun i w e => by
  by_cases hi : i < us.length
  · rw [List.getElem?_append_left hi] at e
    obtain ⟨a, e1, e2⟩ := h.2 i w e
    exact ⟨a, by rw [List.getElem?_append_left (by rw [h.1]; exact hi)]; exact e1, e2⟩
  · rw [List.getElem?_append_right (by omega)] at e
    obtain ⟨a, e1, e2⟩ := k.2 _ w e
    exact ⟨a, by rw [List.getElem?_append_right (by rw [h.1]; omega), h.1]; exact e1, e2⟩⟩
theorem RowAt.cat {H : Hp} {A B q : Addr} {as bs : List Addr} {gs hs : List Seg} (h : RowAt H A as gs) (k : RowAt H B bs hs) (nq : H q = none) : RowAt (upd H q (.lst (as.map V.ref ++ bs.map V.ref))) q (as ++ bs) (gs ++ hs) :=
  ⟨by rw [upd_same, List.map_append], by rw [List.map_append]; exact (lt_cat h.lt k.lt).same (same_new nq)⟩
theorem RowAt.cat2 {H : Hp} {A B q : Addr} {as bs : List Addr} {xs ys : List V} {gs hs : List Seg} (h : RowAt H A as gs) (k : RowAt H B bs hs) (hx : xs = as.map V.ref) (hy : ys = bs.map V.ref) (nq : H q = none) : RowAt (upd H q (.lst (xs ++ ys))) q (as ++ bs) (gs ++ hs) := by
  subst hx hy
  exact h.cat k nq
theorem Oks.cat {gs hs : List Seg} (h : Oks gs) (k : Oks hs) : Oks (gs ++ hs) := fun g hg => by
  rcases List.mem_append.mp hg with hg | hg
  · exact h g hg
  · exact k g hg
theorem rep_map {α β : Type} (f : α → β) (l : List α) (k : Nat) : ((List.replicate k l).flatten).map f = (List.replicate k (l.map f)).flatten := by
  rw [List.map_flatten, List.map_replicate]
theorem lt_rep {H : Hp} {as : List Addr} {us : List (List V)} (h : LT H as us) : ∀ k : Nat, LT H (List.replicate k as).flatten (List.replicate k us).flatten
  | 0 => LT.nil
  | k + 1 => by
    rw [List.replicate_succ, List.replicate_succ, List.flatten_cons, List.flatten_cons]
    exact lt_cat h (lt_rep h k)
theorem RowAt.rep {H : Hp} {A q : Addr} {as : List Addr} {gs : List Seg} (h : RowAt H A as gs) (k : Nat) (nq : H q = none) : RowAt (upd H q (.lst (List.replicate k (as.map V.ref)).flatten)) q (List.replicate k as).flatten (List.replicate k gs).flatten :=
  ⟨by rw [upd_same, rep_map], by rw [rep_map]; exact (lt_rep h.lt k).same (same_new nq)⟩
theorem Oks.rep {gs : List Seg} (h : Oks gs) (k : Nat) : Oks (List.replicate k gs).flatten := fun g hg => by
  obtain ⟨l, hl, hg⟩ := List.mem_flatten.mp hg
  rw [(List.mem_replicate.mp hl).2] at hg
  exact h g hg
theorem rowL_rep (gs : List Seg) : ∀ k : Nat, rowL (List.replicate k gs).flatten = pw (rowL gs) k
  | 0 => rfl
  | k + 1 => by
    rw [List.replicate_succ, List.flatten_cons, rowL_app, rowL_rep gs k]
    unfold pw
    rw [List.replicate_succ, List.flatten_cons]
section
variable {P : Program} {w : World} {K : PySem.W.Frag} {mg : Str → Option Value} {base : Heap}
/-! ### _law_wanted -/
def spWanted : Sp := fun vs H Q _ => ∃ (p c D M : Addr) (as ms : List Addr) (gs hs : List Seg), vs = [.ref p, .ref D, .ref M] ∧ Pool H p c ∧ RowAt H D as gs ∧ RowAt H M ms hs ∧ D ≠ p ∧ M ≠ p ∧ Oks gs ∧ Oks hs ∧ gs.length ≤ 40 ∧ hs.length ≤ 40 ∧ rowN gs ≤ 1000000000000 ∧
  ∀ (q u D' : Addr) (as' : List Addr) (gs' : List Seg) (ch : Chg) (H' : Hp), H' q = some (.tup [.ref u, .ref D']) → H' u = some (.tup ch.vals) → ch.ok (rowN gs) → RowAt H' D' as' gs' → Oks gs' → rowL gs' = ch.out (rowL gs) (rowL hs) → gs'.length ≤ 1000 → D' ≠ p → Pool H' p c → Frm p H H' → Q (.ref q) H'
theorem scWa : FnScope ["pool", "row", "other", "size", "start", "stop", "part", "head", "tail", "kind", "left", "place", "behind", "times"] ["pool", "row", "other"] (defScope sLWanted) := ⟨rfl, rfl, rfl, by decide +kernel, rfl, by decide +kernel, by decide +kernel⟩
theorem ok_wanted {f : Addr} {fd : FuncData} (F : Fun K "_law_wanted" "_law_wanted" sLWanted f fd) (hm : mg "_law_wanted" = some (.ref f)) (b : Binds K fd ["pool", "row", "other"] []) (T : Txt mg) (hmin : mg "min" = none) (G : Cal P w K mg base 2 "_law_take" spTake []) (GSl : Cal P w K mg base 1 "_law_seg_length" spSegLen []) (GSp : Cal P w K mg base 1 "_law_seg_part" spSegPart []) (GSt : Cal P w K mg base 1 "_law_seg_turned" spSegTurn []) : Cal P w K mg base 3 "_law_wanted" spWanted [] := by
  refine mkCal F hm b scWa (fun vs H Q E h => ?_) (fun cdv A outer sh H vs Q E hr h => ?_)
  · obtain ⟨p, c, D, M, as, ms, gs, hs, rfl, _⟩ := h
    rfl
  obtain ⟨p, c, D, M, as, ms, gs, hs, rfl, hP, hR, hM, nDp, nMp, ok, okh, h40, hh40, hbig, q⟩ := h
  refine ⟨_, (pss_cons (ps_set (i := 3) scWa.nd rfl (.inl rfl) (pe_c GSl hr (by decide) (by rfl) (pa_cons (pv 1) pa_nil)))
    (pss_cons (ps_set (i := 4) scWa.nd rfl (.inl rfl) (pe_ix ix_tup (pe_tup (pa_cons (pe_c G hr (by decide) (by rfl) (pa_cons (pv 0) (pa_cons (pe_op op_add (pv 3) pe_int) pa_nil))) (pa_cons (pe_c G hr (by decide) (by rfl) (pa_cons (pv 0) (pa_cons (pe_op op_add (pe_callB (call_min2 rfl) (by rfl) hmin (by decide +kernel) (pa_cons (pv 3) (pa_cons pe_int pa_nil))) pe_int) pa_nil))) pa_nil))) (pe_c G hr (by decide) (by rfl) (pa_cons (pv 0) (pa_cons pe_int pa_nil))) (fun _ _ => rfl)))
    (pss_cons (ps_set (i := 5) scWa.nd rfl (.inl rfl) (pe_ix ix_tup (pe_tup (pa_cons (pe_op op_add (pv 4) (pe_c G hr (by decide) (by rfl) (pa_cons (pv 0) (pa_cons (pe_op op_add (pe_op op_sub (pv 3) (pv 4)) pe_int) pa_nil)))) (pa_cons (pe_callB (call_min2 rfl) (by rfl) hmin (by decide +kernel) (pa_cons (pv 3) (pa_cons (pe_op op_add (pv 4) (pe_c G hr (by decide) (by rfl) (pa_cons (pv 0) (pa_cons pe_int pa_nil)))) pa_nil))) pa_nil))) (pe_c G hr (by decide) (by rfl) (pa_cons (pv 0) (pa_cons pe_int pa_nil))) (fun _ _ => rfl)))
    (pss_cons (ps_set (i := 6) scWa.nd rfl (.inl rfl) (pe_c GSp hr (by decide) (by rfl) (pa_cons (pv 1) (pa_cons (pv 4) (pa_cons (pv 5) pa_nil)))))
    (pss_cons (ps_set (i := 7) scWa.nd rfl (.inl rfl) (pe_c GSp hr (by decide) (by rfl) (pa_cons (pv 1) (pa_cons pe_int (pa_cons (pv 4) pa_nil)))))
    (pss_cons (ps_set (i := 8) scWa.nd rfl (.inl rfl) (pe_c GSp hr (by decide) (by rfl) (pa_cons (pv 1) (pa_cons (pv 5) (pa_cons (pv 3) pa_nil)))))
    (pss_cons (ps_set (i := 9) scWa.nd rfl (.inl rfl) (pe_c G hr (by decide) (by rfl) (pa_cons (pv 0) (pa_cons pe_int pa_nil))))
    (pss_cons (ps_if (pt_cmpR op_eq (pv 9) pe_int (nomark _)) (pss_one (ps_ret (pe_tup (pa_cons (pe_tup (pa_cons pe_str (pa_cons (pv 4) (pa_cons (pv 5) pa_nil)))) (pa_cons (pv 6) pa_nil))))) pss_nil)
    (pss_cons (ps_if (pt_cmpR op_eq (pv 9) pe_int (nomark _)) (pss_one (ps_ret (pe_tup (pa_cons (pe_tup (pa_cons pe_str (pa_cons (pv 4) (pa_cons (pv 5) pa_nil)))) (pa_cons (pe_op op_cat (pv 7) (pv 8)) pa_nil))))) pss_nil)
    (pss_cons (ps_if (pt_cmpR op_eq (pv 9) pe_int (nomark _)) (pss_one (ps_ret (pe_tup (pa_cons (pe_tup (pa_cons pe_str (pa_cons (pv 4) (pa_cons (pv 5) pa_nil)))) (pa_cons (pe_op op_cat (pe_op op_cat (pv 7) (pv 2)) (pv 8)) pa_nil))))) pss_nil)
    (pss_cons (ps_if (pt_cmpR op_eq (pv 9) pe_int (nomark _)) (pss_one (ps_ret (pe_tup (pa_cons (pe_tup (pa_cons pe_str (pa_cons (pv 4) pa_nil))) (pa_cons (pe_op op_cat (pe_op op_cat (pe_op op_cat (pv 7) (pv 2)) (pv 6)) (pv 8)) pa_nil))))) pss_nil)
    (pss_cons (ps_if (pt_cmpR op_eq (pv 9) pe_int (nomark _)) (pss_cons (ps_set (i := 10) scWa.nd rfl (.inl rfl) (pe_op op_cat (pv 7) (pv 8)))
    (pss_cons (ps_set (i := 11) scWa.nd rfl (.inl rfl) (pe_c G hr (by decide) (by rfl) (pa_cons (pv 0) (pa_cons (pe_op op_add (pe_c GSl hr (by decide) (by rfl) (pa_cons (pv 10) pa_nil)) pe_int) pa_nil))))
    (pss_cons (ps_set (i := 12) scWa.nd rfl (.inl rfl) (pe_c GSp hr (by decide) (by rfl) (pa_cons (pv 10) (pa_cons (pv 11) (pa_cons (pe_c GSl hr (by decide) (by rfl) (pa_cons (pv 10) pa_nil)) pa_nil)))))
    (pss_one (ps_ret (pe_tup (pa_cons (pe_tup (pa_cons pe_str (pa_cons (pv 4) (pa_cons (pv 5) (pa_cons (pv 11) pa_nil))))) (pa_cons (pe_op op_cat (pe_op op_cat (pe_c GSp hr (by decide) (by rfl) (pa_cons (pv 10) (pa_cons pe_int (pa_cons (pv 11) pa_nil)))) (pv 6)) (pv 12)) pa_nil)))))))) pss_nil)
    (pss_cons (ps_if (pt_cmpR op_eq (pv 9) pe_int (nomark _)) (pss_one (ps_ret (pe_tup (pa_cons (pe_tup (pa_cons pe_str (pa_cons (pv 4) (pa_cons (pv 5) pa_nil)))) (pa_cons (pe_op op_cat (pe_op op_cat (pv 7) (pe_c GSt hr (by decide) (by rfl) (pa_cons (pv 6) pa_nil))) (pv 8)) pa_nil))))) pss_nil)
    (pss_cons (ps_set (i := 13) scWa.nd rfl (.inl rfl) (pe_c G hr (by decide) (by rfl) (pa_cons (pv 0) (pa_cons pe_int pa_nil))))
    (pss_one (ps_ret (pe_tup (pa_cons (pe_tup (pa_cons pe_str (pa_cons (pv 4) (pa_cons (pv 5) (pa_cons (pv 13) pa_nil))))) (pa_cons (pe_op op_cat (pe_op op_cat (pv 7) (pe_op op_rep (pv 6) (pv 13))) (pv 8)) pa_nil))))))))))))))))))), ?_⟩
  refine ⟨_, rfl, D, as, gs, rfl, hR, ok, by omega, fun H1 s1 => ?_⟩
  have hP1 := hP.same s1
  -- start
  refine ⟨_, rfl, _, rfl, _, _, rfl, rfl, p, c, _, rfl, by omega, by omega, hP1, fun r1 H2 a1 a2 hP2 f2 => ?_⟩
  refine ⟨_, rfl, _, rfl, _, _, rfl, _, _, rfl, rfl, p, c, _, rfl, by split <;> omega, by split <;> omega, hP2, fun r2 H3 b1 b2 hP3 f3 => ⟨by show 2 ≤ sizeLine; decide, fun u1 nu1 => ?_⟩⟩
  have eu1 := q1x (o := .tup [.int r1, .int r2]) nu1
  have hP3' := hP3.new (o := .tup [.int r1, .int r2]) nu1
  refine ⟨_, rfl, p, c, 2, rfl, by decide, by decide, hP3', fun i1 H4 c1 c2 hP4 f4 => ?_⟩
  obtain ⟨s, es, hs1⟩ : ∃ s : Nat, atI [V.int r1, V.int r2] i1 = some (.int (s : Int)) ∧ s ≤ rowN gs := by
    have h2 : i1 = 0 ∨ i1 = 1 := by omega
    rcases h2 with rfl | rfl
    · exact ⟨r1.toNat, by rw [Int.toNat_of_nonneg a1]; exact atI_nat (j := 0) rfl, by omega⟩
    · exact ⟨r2.toNat, by rw [Int.toNat_of_nonneg b1]; exact atI_nat (j := 1) rfl, by split at b2 <;> omega⟩
  refine ⟨u1, _, i1, _, rfl, rfl, SqT.of (f4 _ _ (hP3.ne nu1).1 eu1), es, ?_⟩
  -- stop
  refine ⟨_, rfl, _, rfl, _, rfl, _, rfl, _, _, rfl, rfl, _, _, rfl, rfl, p, c, _, rfl, by omega, by omega, hP4, fun r3 H5 d1 d2 hP5 f5 => ⟨_, _, rfl, rfl, ?_⟩⟩
  refine ⟨_, rfl, _, rfl, _, rfl, p, c, 9, rfl, by decide, by decide, hP5, fun r4 H6 g1 g2 hP6 f6 => ⟨_, _, rfl, rfl, _, _, rfl, by show 2 ≤ sizeLine; decide, fun u2 nu2 => ?_⟩⟩
  have eu2 := q1x (o := .tup [.int ((s : Int) + r3), .int (if (s : Int) + r4 < (rowN gs : Int) then (s : Int) + r4 else (rowN gs : Int))]) nu2
  have hP6' := hP6.new (o := .tup [.int ((s : Int) + r3), .int (if (s : Int) + r4 < (rowN gs : Int) then (s : Int) + r4 else (rowN gs : Int))]) nu2
  refine ⟨_, rfl, p, c, 2, rfl, by decide, by decide, hP6', fun i2 H7 k1 k2 hP7 f7 => ?_⟩
  obtain ⟨t, et, h1, h2⟩ : ∃ t : Nat, atI [V.int ((s : Int) + r3), V.int (if (s : Int) + r4 < (rowN gs : Int) then (s : Int) + r4 else (rowN gs : Int))] i2 = some (.int (t : Int)) ∧ s ≤ t ∧ t ≤ rowN gs := by
    have h2 : i2 = 0 ∨ i2 = 1 := by omega
    rcases h2 with rfl | rfl
    · exact ⟨((s : Int) + r3).toNat, by rw [Int.toNat_of_nonneg (by omega)]; exact atI_nat (j := 0) rfl, by omega, by omega⟩
    · exact ⟨(if (s : Int) + r4 < (rowN gs : Int) then (s : Int) + r4 else (rowN gs : Int)).toNat, by rw [Int.toNat_of_nonneg (by split <;> omega)]; exact atI_nat (j := 1) rfl, by split <;> omega, by split <;> omega⟩
  refine ⟨u2, _, i2, _, rfl, rfl, SqT.of (f7 _ _ (hP6.ne nu2).1 eu2), et, ?_⟩
  have fA : Frm p H H7 := ((((((Frm.trans (fun _ _ _ e => s1 _ _ e) f2).trans f3).new nu1).trans f4).trans (f5.trans f6)).new nu2).trans f7
  have hR7 := hR.frm hP fA nDp
  have hM7 := hM.frm hP fA nMp
  clear eu1 eu2 hP1 hP2 hP3 hP3' hP4 hP5 hP6 hP6' f2 f3 f4 f5 f6 f7 s1 es et nu1 nu2
  -- part, head, tail
  refine ⟨_, rfl, _, rfl, _, rfl, D, as, gs, s, t, rfl, hR7, ok, by omega, fun PA pas H8 hPA s8 nPA => ?_⟩
  refine ⟨_, rfl, _, rfl, D, as, gs, 0, s, rfl, hR7.same s8, ok, by omega, fun HE hes H9 hHE s9 nHE => ?_⟩
  refine ⟨_, rfl, _, rfl, _, rfl, D, as, gs, t, rowN gs, rfl, hR7.same (s8.trans s9), ok, by omega, fun TA tas H10 hTA s10 nTA => ?_⟩
  have s810 := (s8.trans s9).trans s10
  have hP10 := hP7.same s810
  have hPA := hPA.same (s9.trans s10)
  have hHE := hHE.same s10
  have hM10 := hM7.same s810
  have fB : Frm p H H10 := fA.trans fun _ _ _ e => s810 _ _ e
  have pPA := (hP7.ne nPA).1
  have pHE := ((hP7.same s8).ne nHE).1
  have pTA := ((hP7.same (s8.trans s9)).ne nTA).1
  have lP := partR_L ok s t
  have lH := partR_L ok 0 s
  have oP := partR_ok ok s t
  have oH := partR_ok ok 0 s
  have oT := partR_ok ok t (rowN gs)
  have wP := partR_few gs s t
  have wH := partR_few gs 0 s
  have wT := partR_few gs t (rowN gs)
  have hl := row_len ok
  have lT : rowL (partR gs t (rowN gs)) = sub (rowL gs) t (rowL gs).length := by rw [hl]; exact partR_L ok t (rowN gs)
  generalize partR gs s t = gP at hPA lP oP wP
  generalize partR gs 0 s = gH at hHE lH oH wH
  generalize partR gs t (rowN gs) = gT at hTA lT oT wT
  clear hR7 hM7 hP7 fA s8 s9 s10 s810 nPA nHE nTA
  -- kind
  refine ⟨_, rfl, p, c, 7, rfl, by decide, by decide, hP10, fun kd H11 kd0 kd1 hP11 f11 => ?_⟩
  have hPA := hPA.frm hP10 f11 pPA
  have hHE := hHE.frm hP10 f11 pHE
  have hTA := hTA.frm hP10 f11 pTA
  have hM11 := hM10.frm hP10 f11 nMp
  have fC := fB.trans f11
  clear hP10 hM10 fB f11
  have done : ∀ (H2 : Hp) (u D' : Addr) (as' : List Addr) (gs' : List Seg) (ch : Chg), Frm p H H2 → Pool H2 p c → H2 u = some (.tup ch.vals) → ch.ok (rowN gs) → RowAt H2 D' as' gs' → Oks gs' → rowL gs' = ch.out (rowL gs) (rowL hs) → gs'.length ≤ 1000 → D' ≠ p → ∀ qq, H2 qq = none → Q (.ref qq) (upd H2 qq (.tup [.ref u, .ref D'])) :=
    fun H2 u D' as' gs' ch f hp hu hok hr hks hl2 h10 nd qq nq => q qq u D' as' gs' ch _ upd_same (same_new nq _ _ hu) hok (hr.same (same_new nq)) hks hl2 h10 nd (hp.same (same_new nq)) (f.trans fun _ _ _ e => same_new nq _ _ e)
  have z3 : 3 ≤ sizeLine := by decide
  have z2 : 2 ≤ sizeLine := by decide
  have sml : ∀ {as bs : List Addr} {A B : Addr} {gA gB : List Seg} {H2 : Hp}, RowAt H2 A as gA → RowAt H2 B bs gB → gA.length + gB.length ≤ 1000 → (as.map V.ref).length + (bs.map V.ref).length ≤ sizeLine := fun h k l => by
    rw [List.length_map, List.length_map, h.len, k.len]
    exact Nat.le_of_lt (small1000 l)
  refine ⟨_, rfl, rfl, _, rfl, ite2 (fun _ => ?_) (fun _ => ?_)⟩
  · -- part
    refine ⟨_, rfl, _, rfl, z3, fun u nu => ⟨_, rfl, z2, fun qq nq => ?_⟩⟩
    have s1 := same_new (o := .tup [.str "part", .int (s : Int), .int (t : Int)]) nu
    exact done _ u PA pas gP (.part s t) (fC.trans fun _ _ _ e => s1 _ _ e) (hP11.same s1) upd_same ⟨h1, h2⟩ (hPA.same s1) oP lP (by omega) pPA qq nq
  refine ⟨_, rfl, rfl, _, rfl, ite2 (fun _ => ?_) (fun _ => ?_)⟩
  · -- remove
    refine ⟨_, rfl, _, rfl, z3, fun u nu => ?_⟩
    have s1 := same_new (o := .tup [.str "remove", .int (s : Int), .int (t : Int)]) nu
    have eu := q1x (o := .tup [.str "remove", .int (s : Int), .int (t : Int)]) nu
    have hHE := hHE.same s1
    have hTA := hTA.same s1
    have hP12 := hP11.same s1
    have fD := fC.trans fun _ _ _ e => s1 _ _ e
    refine ⟨_, rfl, _, rfl, HE, TA, _, _, rfl, rfl, hHE.at_, hTA.at_, sml hHE hTA (by omega), fun D1 n1 => ⟨z2, fun qq nq => ?_⟩⟩
    have r1 := hHE.cat hTA n1
    exact done _ u D1 _ _ (.remove s t) (fD.trans fun _ _ _ e => same_new n1 _ _ e) (hP12.same (same_new n1)) (same_new n1 _ _ eu) ⟨h1, h2⟩ r1 (oH.cat oT) (by rw [rowL_app, lH, lT]; rfl) (by rw [List.length_append]; omega) (hP12.ne n1).1 qq nq
  refine ⟨_, rfl, rfl, _, rfl, ite2 (fun _ => ?_) (fun _ => ?_)⟩
  · -- replace
    refine ⟨_, rfl, _, rfl, z3, fun u nu => ?_⟩
    have s1 := same_new (o := .tup [.str "replace", .int (s : Int), .int (t : Int)]) nu
    have eu := q1x (o := .tup [.str "replace", .int (s : Int), .int (t : Int)]) nu
    have hHE := hHE.same s1
    have hTA := hTA.same s1
    have hM11 := hM11.same s1
    have hP12 := hP11.same s1
    have fD := fC.trans fun _ _ _ e => s1 _ _ e
    refine ⟨_, rfl, _, rfl, HE, M, _, _, rfl, rfl, hHE.at_, hM11.at_, sml hHE hM11 (by omega), fun D1 n1 => ?_⟩
    have r1 := hHE.cat hM11 n1
    have t1 := hTA.same (same_new n1 (o := .lst (hes.map V.ref ++ ms.map V.ref)))
    have hP13 := hP12.same (same_new n1 (o := .lst (hes.map V.ref ++ ms.map V.ref)))
    refine ⟨_, rfl, D1, TA, _, _, rfl, rfl, upd_same, t1.at_, by rw [← List.map_append]; exact sml r1 t1 (by rw [List.length_append]; omega), fun D2 n2 => ⟨z2, fun qq nq => ?_⟩⟩
    have r2 := r1.cat2 t1 (List.map_append ..).symm rfl n2
    exact done _ u D2 _ _ (.replace s t) ((fD.trans fun _ _ _ e => same_new n1 _ _ e).trans fun _ _ _ e => same_new n2 _ _ e) (hP13.same (same_new n2)) (same_new n2 _ _ (same_new n1 _ _ eu)) ⟨h1, h2⟩ r2 ((oH.cat okh).cat oT) (by rw [rowL_app, rowL_app, lH, lT, List.append_assoc]; rfl) (by rw [List.length_append, List.length_append]; omega) (hP13.ne n2).1 qq nq
  refine ⟨_, rfl, rfl, _, rfl, ite2 (fun _ => ?_) (fun _ => ?_)⟩
  · -- insert
    refine ⟨_, rfl, z2, fun u nu => ?_⟩
    have s1 := same_new (o := .tup [.str "insert", .int (s : Int)]) nu
    have eu := q1x (o := .tup [.str "insert", .int (s : Int)]) nu
    have hHE := hHE.same s1
    have hTA := hTA.same s1
    have hPA := hPA.same s1
    have hM11 := hM11.same s1
    have hP12 := hP11.same s1
    have fD := fC.trans fun _ _ _ e => s1 _ _ e
    refine ⟨_, rfl, _, rfl, HE, M, _, _, rfl, rfl, hHE.at_, hM11.at_, sml hHE hM11 (by omega), fun D1 n1 => ?_⟩
    have r1 := hHE.cat hM11 n1
    have s2 := same_new n1 (o := .lst (hes.map V.ref ++ ms.map V.ref))
    have t1 := hTA.same s2
    have p1 := hPA.same s2
    have hP13 := hP12.same s2
    refine ⟨_, rfl, D1, PA, _, _, rfl, rfl, upd_same, p1.at_, by rw [← List.map_append]; exact sml r1 p1 (by rw [List.length_append]; omega), fun D2 n2 => ?_⟩
    have r2 := r1.cat2 p1 (List.map_append ..).symm rfl n2
    have s3 := same_new n2 (o := .lst (hes.map V.ref ++ ms.map V.ref ++ pas.map V.ref))
    have t2 := t1.same s3
    have hP14 := hP13.same s3
    refine ⟨_, rfl, D2, TA, _, _, rfl, rfl, upd_same, t2.at_, by rw [← List.map_append, ← List.map_append]; exact sml r2 t2 (by rw [List.length_append, List.length_append]; omega), fun D3 n3 => ⟨z2, fun qq nq => ?_⟩⟩
    have r3 := r2.cat2 t2 (by rw [List.map_append, List.map_append]) rfl n3
    exact done _ u D3 _ _ (.insert s) (((fD.trans fun _ _ _ e => s2 _ _ e).trans fun _ _ _ e => s3 _ _ e).trans fun _ _ _ e => same_new n3 _ _ e) (hP14.same (same_new n3)) (same_new n3 _ _ (s3 _ _ (s2 _ _ eu))) (Nat.le_trans h1 h2) r3 (((oH.cat okh).cat oP).cat oT) (by rw [rowL_app, rowL_app, rowL_app, lH, lP, lT, List.append_assoc, List.append_assoc, ← sub_cut (c := (rowL gs).length) h1 (by omega)]; rfl) (by rw [List.length_append, List.length_append, List.length_append]; omega) (hP14.ne n3).1 qq nq
  refine ⟨_, rfl, rfl, _, rfl, ite2 (fun _ => ?_) (fun _ => ?_)⟩
  · -- move
    refine ⟨_, rfl, _, rfl, HE, TA, _, _, rfl, rfl, hHE.at_, hTA.at_, sml hHE hTA (by omega), fun LL nL => ?_⟩
    have r1 := hHE.cat hTA nL
    have s1 := same_new nL (o := .lst (hes.map V.ref ++ tas.map V.ref))
    have oL := oH.cat oT
    have lL : rowL (gH ++ gT) = without (rowL gs) s t := by rw [rowL_app, lH, lT]; rfl
    have wL : (gH ++ gT).length ≤ 80 := by rw [List.length_append]; omega
    have nLen := row_len oL
    have wo := without_len h1 (show t ≤ (rowL gs).length by omega)
    rw [lL] at nLen
    have nLp := (hP11.ne nL).1
    refine ⟨_, rfl, _, rfl, LL, _, _, rfl, r1, oL, by omega, fun H12 s2 => ⟨_, _, rfl, rfl, p, c, _, rfl, by omega, by omega, (hP11.same s1).same s2, fun r H13 ra rb hP13 f13 => ?_⟩⟩
    obtain ⟨pl, rfl⟩ : ∃ n : Nat, r = (n : Int) := ⟨r.toNat, by omega⟩
    have r2 := (r1.same s2).frm ((hP11.same s1).same s2) f13 nLp
    have s12 := s1.trans s2
    have hPA := (hPA.same s12).frm ((hP11.same s1).same s2) f13 pPA
    have fD := (fC.trans fun _ _ _ e => s12 _ _ e).trans f13
    refine ⟨_, rfl, _, rfl, _, rfl, LL, _, _, rfl, r2, oL, by omega, fun H14 s3 => ⟨LL, _, _, pl, rowN (gH ++ gT), rfl, r2.same s3, oL, by omega, fun BE bes H15 hBE s4 nBE => ?_⟩⟩
    have s34 := s3.trans s4
    have r3 := r2.same s34
    have hPA := hPA.same s34
    have hP15 := hP13.same s34
    have fE := fD.trans fun _ _ _ e => s34 _ _ e
    refine ⟨_, rfl, _, rfl, _, rfl, by show 4 ≤ sizeLine; decide, fun u nu => ?_⟩
    have s5 := same_new (o := .tup [.str "move", .int (s : Int), .int (t : Int), .int (pl : Int)]) nu
    have eu := q1x (o := .tup [.str "move", .int (s : Int), .int (t : Int), .int (pl : Int)]) nu
    refine ⟨_, rfl, _, rfl, LL, _, _, 0, pl, rfl, r3.same s5, oL, by omega, fun BB bbs H16 hBB s6 nBB => ?_⟩
    have s56 := s5.trans s6
    have hPA := hPA.same s56
    have hBE := hBE.same s56
    have wB := partR_few (gH ++ gT) 0 pl
    have wE := partR_few (gH ++ gT) pl (rowN (gH ++ gT))
    have lB := partR_L oL 0 pl
    have lE : rowL (partR (gH ++ gT) pl (rowN (gH ++ gT))) = sub (without (rowL gs) s t) pl (without (rowL gs) s t).length := by rw [nLen, ← lL]; exact partR_L oL pl _
    rw [lL] at lB
    refine ⟨_, rfl, BB, PA, _, _, rfl, rfl, hBB.at_, hPA.at_, sml hBB hPA (by omega), fun D1 n1 => ?_⟩
    have q1 := hBB.cat hPA n1
    have s7 := same_new n1 (o := .lst (bbs.map V.ref ++ pas.map V.ref))
    have b1 := hBE.same s7
    refine ⟨_, rfl, D1, BE, _, _, rfl, rfl, upd_same, b1.at_, by rw [← List.map_append]; exact sml q1 b1 (by rw [List.length_append]; omega), fun D2 n2 => ⟨z2, fun qq nq => ?_⟩⟩
    have q2 := q1.cat2 b1 (List.map_append ..).symm rfl n2
    have hP17 := (hP15.same s56).same s7
    have s8 := same_new n2 (o := .lst (bbs.map V.ref ++ pas.map V.ref ++ bes.map V.ref))
    exact done _ u D2 _ _ (.move s t pl) (((fE.trans fun _ _ _ e => s56 _ _ e).trans fun _ _ _ e => s7 _ _ e).trans fun _ _ _ e => s8 _ _ e) (hP17.same s8) (s8 _ _ (s7 _ _ (s6 _ _ eu))) ⟨h1, h2, by omega⟩ q2 (((partR_ok oL _ _).cat oP).cat (partR_ok oL _ _)) (by rw [rowL_app, rowL_app, lB, lP, lE, List.append_assoc]; rfl) (by rw [List.length_append, List.length_append]; omega) (hP17.ne n2).1 qq nq
  refine ⟨_, rfl, rfl, _, rfl, ite2 (fun _ => ?_) (fun _ => ?_)⟩
  · -- turn
    refine ⟨_, rfl, _, rfl, z3, fun u nu => ?_⟩
    have s1 := same_new (o := .tup [.str "turn", .int (s : Int), .int (t : Int)]) nu
    have eu := q1x (o := .tup [.str "turn", .int (s : Int), .int (t : Int)]) nu
    refine ⟨_, rfl, _, rfl, PA, pas, gP, rfl, hPA.same s1, by omega, fun TU tus H12 hTU s2 nTU => ?_⟩
    have s12 := s1.trans s2
    have hHE := hHE.same s12
    have hTA := hTA.same s12
    have hP12 := hP11.same s12
    have fD := fC.trans fun _ _ _ e => s12 _ _ e
    have wU : (turnR gP).length = gP.length := by simp [turnR]
    refine ⟨HE, TU, _, _, rfl, rfl, hHE.at_, hTU.at_, sml hHE hTU (by omega), fun D1 n1 => ?_⟩
    have r1 := hHE.cat hTU n1
    have s3 := same_new n1 (o := .lst (hes.map V.ref ++ tus.map V.ref))
    have t1 := hTA.same s3
    have hP13 := hP12.same s3
    refine ⟨_, rfl, D1, TA, _, _, rfl, rfl, upd_same, t1.at_, by rw [← List.map_append]; exact sml r1 t1 (by rw [List.length_append]; omega), fun D2 n2 => ⟨z2, fun qq nq => ?_⟩⟩
    have r2 := r1.cat2 t1 (List.map_append ..).symm rfl n2
    have s4 := same_new n2 (o := .lst (hes.map V.ref ++ tus.map V.ref ++ tas.map V.ref))
    exact done _ u D2 _ _ (.turn s t) ((fD.trans fun _ _ _ e => s3 _ _ e).trans fun _ _ _ e => s4 _ _ e) (hP13.same s4) (s4 _ _ (s3 _ _ (s2 _ _ eu))) ⟨h1, h2⟩ r2 ((oH.cat (turnR_ok oP)).cat oT) (by rw [rowL_app, rowL_app, lH, turnR_L, lP, lT, List.append_assoc]; rfl) (by rw [List.length_append, List.length_append]; omega) (hP13.ne n2).1 qq nq
  -- repeat
  refine ⟨_, rfl, p, c, 5, rfl, by decide, by decide, hP11, fun r H12 ra rb hP12 f12 => ?_⟩
  obtain ⟨k, rfl⟩ : ∃ n : Nat, r = (n : Int) := ⟨r.toNat, by omega⟩
  have hPA := hPA.frm hP11 f12 pPA
  have hHE := hHE.frm hP11 f12 pHE
  have hTA := hTA.frm hP11 f12 pTA
  have fD := fC.trans f12
  refine ⟨_, rfl, _, rfl, _, rfl, by show 4 ≤ sizeLine; decide, fun u nu => ?_⟩
  have s1 := same_new (o := .tup [.str "repeat", .int (s : Int), .int (t : Int), .int (k : Int)]) nu
  have eu := q1x (o := .tup [.str "repeat", .int (s : Int), .int (t : Int), .int (k : Int)]) nu
  have hHE := hHE.same s1
  have hTA := hTA.same s1
  have hPA := hPA.same s1
  have hP13 := hP12.same s1
  have wR : (List.replicate k gP).flatten.length ≤ 160 := by
    rw [List.length_flatten, List.map_replicate, List.sum_replicate_nat]
    exact Nat.le_trans (Nat.mul_le_mul (show k ≤ 4 by omega) (show gP.length ≤ 40 by omega)) (by decide)
  have sR : (pas.map V.ref).length * (k : Int).toNat ≤ sizeLine := by
    rw [List.length_map, hPA.len, Int.toNat_natCast]
    exact Nat.le_trans (Nat.mul_le_mul (show gP.length ≤ 40 by omega) (show k ≤ 4 by omega)) (by decide)
  refine ⟨_, rfl, _, rfl, _, rfl, PA, (k : Int), _, rfl, rfl, hPA.at_, by omega, by omega, sR, fun RE nR => ?_⟩
  rw [Int.toNat_natCast]
  have hRE := hPA.rep k nR
  have s2 := same_new nR (o := .lst (List.replicate k (pas.map V.ref)).flatten)
  have hHE := hHE.same s2
  have hTA := hTA.same s2
  have hP14 := hP13.same s2
  refine ⟨HE, RE, _, _, rfl, rfl, hHE.at_, upd_same, by rw [← rep_map]; exact sml hHE hRE (by omega), fun D1 n1 => ?_⟩
  have r1 := hHE.cat2 hRE rfl (rep_map ..).symm n1
  have s3 := same_new n1 (o := .lst (hes.map V.ref ++ (List.replicate k (pas.map V.ref)).flatten))
  have t1 := hTA.same s3
  have hP15 := hP14.same s3
  refine ⟨_, rfl, D1, TA, _, _, rfl, rfl, upd_same, t1.at_, by rw [← rep_map, ← List.map_append]; exact sml r1 t1 (by rw [List.length_append]; omega), fun D2 n2 => ⟨z2, fun qq nq => ?_⟩⟩
  have r2 := r1.cat2 t1 (by rw [List.map_append, rep_map]) rfl n2
  have s4 := same_new n2 (o := .lst (hes.map V.ref ++ (List.replicate k (pas.map V.ref)).flatten ++ tas.map V.ref))
  exact done _ u D2 _ _ (.rep s t k) (((fD.trans fun _ _ _ e => s1 _ _ e).trans fun _ _ _ e => s2 _ _ e).trans fun _ _ _ e => s4 _ _ (s3 _ _ e)) (hP15.same s4) (s4 _ _ (s3 _ _ (s2 _ _ eu))) ⟨h1, h2, by omega⟩ r2 ((oH.cat (oP.rep k)).cat oT) (by rw [rowL_app, rowL_app, lH, rowL_rep, lP, lT, List.append_assoc]; rfl) (by rw [List.length_append, List.length_append]; omega) (hP15.ne n2).1 qq nq
end
theorem Tx.ins {C : Addr} {H : Hp} {x : Addr} {L : List Nat} {n : Nat} (h : Tx C H x L n) : ∃ dx fs, H x = some (.ins C dx fs) := by
  obtain ⟨rs, ts, ⟨dx, RU, LE, fs, as, h⟩, _⟩ := h
  exact ⟨dx, fs, h.at_⟩
/-- Text((("letters", b), ("power", 0, k))) -/
theorem mkPow {C x dx u3 u4 u5 : Addr} {H1 : Hp} {b : List Nat} {k : Nat} {Q : Hp → Prop} {E : XK} (e3 : H1 u3 = some (.tup [.str "letters", .str (S b)])) (e4 : H1 u4 = some (.tup [.str "power", .int 0, .int (k : Int)])) (e5 : H1 u5 = some (.tup [.ref u3, .ref u4]))
    (b64 : b.length ≤ 64) (bS : ∀ c ∈ b, c ∈ SL) (k12 : k ≤ 1000000000000) (h12 : k * b.length ≤ 1000000000000) (nx : H1 x = none) (nd : H1 dx = none) (ne : dx ≠ x) (q : ∀ H2 : Hp, Same H1 H2 → Tx C H2 x (pw b k) 2 → Q H2) :
    spInit C [.ref x, .ref u5] (upd (upd H1 dx (.own x)) x (.ins C dx [])) (fun v H2 => v = .non ∧ Q H2) E := by
  have nx' : (upd H1 dx (.own x)) x = none := by rw [upd_ne ne.symm]; exact nx
  have s7 : Same H1 (upd (upd H1 dx (.own x)) x (.ins C dx [])) := (same_new nd).trans (same_new nx')
  have snd : Sound [Rule.letters b, .power 0 k] [b, pw b k] := by
    refine ⟨rfl, fun j r e => ?_, fun l hl => ?_⟩
    · match j, e with
      | 0, e => rw [← Option.some.inj e]; exact ⟨⟨by omega, bS⟩, rfl⟩
      | 1, e => rw [← Option.some.inj e]; exact ⟨⟨by show 0 < 1; decide, k12⟩, rfl⟩
      | j + 2, e => simp at e
    · rcases List.mem_cons.mp hl with rfl | hl
      · omega
      · rw [List.mem_singleton.mp hl, pw_len]
        exact h12
  refine ⟨x, dx, u5, [u3, u4], [.letters b, .power 0 k], [b, pw b k], rfl, upd_same, .inl (s7 _ _ e5), ⟨rfl, fun j vs e => ?_⟩, snd, by show 1 ≤ 2; decide, by show 2 ≤ 60; decide, fun LE RU as' H6 keep hx hRU hLE hL => ⟨rfl, ?_⟩⟩
  · match j, e with
    | 0, e => rw [← Option.some.inj e]; exact ⟨u3, rfl, .inl (s7 _ _ e3)⟩
    | 1, e => rw [← Option.some.inj e]; exact ⟨u4, rfl, .inl (s7 _ _ e4)⟩
    | j + 2, e => simp at e
  exact q H6 (fun o v hb => keep o v (ne_of_none hb nx) (s7 _ _ hb)) ⟨_, _, ⟨dx, RU, LE, _, as', tF_text hx hRU hLE hL snd⟩, by show 1 ≤ 2; decide, rfl, Nat.le_refl _⟩
section
variable {P : Program} {w : World} {K : PySem.W.Frag} {mg : Str → Option Value} {base : Heap}
/-! ### _law_is_full -/
def spIsFull (C : Addr) : Sp := fun vs H Q _ => ∃ (p c x D : Addr) (as : List Addr) (gs : List Seg) (n : Nat), vs = [.ref p, .ref x, .ref D] ∧ Pool H p c ∧ Tx C H x (rowL gs) n ∧ n ≤ 152 ∧ RowAt H D as gs ∧ D ≠ p ∧ Oks gs ∧ gs.length ≤ 40 ∧ ∀ H', Q (.bl true) H'
theorem scIf : FnScope ["pool", "text", "row", "left", "place", "call", "rest", "due", "full"] ["pool", "text", "row"] (defScope sLIsFull) := ⟨rfl, rfl, rfl, by decide +kernel, rfl, by decide +kernel, by decide +kernel⟩
theorem ok_isfull {C f p2 g2 : Addr} {mc : Value} {fd : FuncData} (F : Fun K "_law_is_full" "_law_is_full" sLIsFull f fd) (hm : mg "_law_is_full" = some (.ref f)) (b : Binds K fd ["pool", "text", "row"] []) (T : Txt mg) (gT : ∃ u, mg "Text" = some u ∧ RelV (.ref C) u) (IC : C8.InsC K C) (rd : ClX.CRead K C mc) (cm2 : ClX.CMet K C mc "of_letters" p2 g2) (FO : FnR P w K mg base CX0 6 g2 (spOfLetters C)) (G : Cal P w K mg base 2 "_law_take" spTake []) (MK : C8.Mak P w K mg base 4 "Text" C (spInit C) [])
    (GSl : Cal P w K mg base 1 "_law_seg_length" spSegLen []) (GSp : Cal P w K mg base 1 "_law_seg_part" spSegPart []) (GSa : Cal P w K mg base 6 "_law_seg_agrees" (spSegAgrees C) []) (GTo : Cal P w K mg base 12 "_law_told" (spTold C) []) : Cal P w K mg base 13 "_law_is_full" (spIsFull C) [] := by
  refine mkCal F hm b scIf (fun vs H Q E h => ?_) (fun cdv A outer sh H vs Q E hr h => ?_)
  · obtain ⟨p, c, x, D, as, gs, n, rfl, _⟩ := h
    rfl
  obtain ⟨p, c, x, D, as, gs, n, rfl, hP, hX, hn, hR, nDp, ok, h40, q⟩ := h
  have hN := row_len ok
  have big := hX.big
  rw [hN] at big
  refine ⟨_, (pss_cons (ps_set (i := 3) scIf.nd rfl (.inl rfl) (pe_op op_sub (pe_op op_pow pe_int pe_int) (pe_c GSl hr (by decide) (by rfl) (pa_cons (pv 2) pa_nil))))
    (pss_cons (ps_set (i := 4) scIf.nd rfl (.inl rfl) (pe_c G hr (by decide) (by rfl) (pa_cons (pv 0) (pa_cons (pe_op op_add (pe_c GSl hr (by decide) (by rfl) (pa_cons (pv 2) pa_nil)) pe_int) pa_nil))))
    (pss_cons (ps_set (i := 5) scIf.nd rfl (.inl rfl) (pe_tup (pa_cons pe_str (pa_cons (pv 4) pa_nil))))
    (pss_cons (ps_set (i := 6) scIf.nd rfl (.inl rfl) (pe_c GSp hr (by decide) (by rfl) (pa_cons (pv 2) (pa_cons (pv 4) (pa_cons (pe_c GSl hr (by decide) (by rfl) (pa_cons (pv 2) pa_nil)) pa_nil)))))
    (pss_cons (ps_set (i := 7) scIf.nd rfl (.inl rfl) (pe_op op_cat (pe_op op_cat (pe_c GSp hr (by decide) (by rfl) (pa_cons (pv 2) (pa_cons pe_int (pa_cons (pv 4) pa_nil)))) (pe_lst (pa_cons (pe_tup (pa_cons pe_str (pa_cons pe_int (pa_cons (pv 3) (pa_cons pe_bl pa_nil))))) pa_nil))) (pv 6)))
    (pss_cons (ps_set (i := 8) scIf.nd rfl (.inl rfl) (pe_c GTo hr (by decide) (by rfl) (pa_cons (pv 1) (pa_cons (C8.pe_mk MK hr (by decide) (by rfl) (pa_cons (pe_tup (pa_cons (pe_tup (pa_cons pe_str (pa_cons pe_str pa_nil))) (pa_cons (pe_tup (pa_cons pe_str (pa_cons pe_int (pa_cons (pv 3) pa_nil)))) pa_nil))) pa_nil)) (pa_cons (pv 5) pa_nil)))))
    (pss_cons (ps_if (PW.pt (pw_or (pt_not (pt_val (pe_callB (C8.call_isC IC) (by rfl) T.isinstance (by decide +kernel) (pa_cons (pv 8) (pa_cons (C8.pe_gc (by rfl) gT) pa_nil))))) (pw_or1 (pt_not (pt_val (pe_c GSa hr (by decide) (by rfl) (pa_cons (pv 0) (pa_cons (pv 8) (pa_cons (pv 7) pa_nil))))))))) (pss_one (ps_ret pe_bl)) pss_nil)
    (pss_cons (ps_if (PW.pt (pw_or (pt_cmpR op_notN (pe_c GTo hr (by decide) (by rfl) (pa_cons (pv 8) (pa_cons (ClX.pe_cmeth (C8.pe_gc (by rfl) gT) rd cm2 FO (hr.mono (by decide)) pass0 (pa_cons pe_str pa_nil)) (pa_cons (pv 5) pa_nil)))) pe_non (nomark _)) (pw_or1 (pt_cmpR op_notN (pe_c GTo hr (by decide) (by rfl) (pa_cons (pv 8) (pa_cons (ClX.pe_cmeth (C8.pe_gc (by rfl) gT) rd cm2 FO (hr.mono (by decide)) pass0 (pa_cons pe_str pa_nil)) (pa_cons (pe_tup (pa_cons pe_str (pa_cons pe_int (pa_cons pe_int pa_nil)))) pa_nil)))) pe_non (nomark _))))) (pss_one (ps_ret pe_bl)) pss_nil)
    (pss_one (ps_ret (pe_and (pe_cmpR op_isN (pe_c GTo hr (by decide) (by rfl) (pa_cons (pv 8) (pa_cons (pv 1) (pa_cons (pe_tup (pa_cons pe_str (pa_cons pe_int (pa_cons pe_int (pa_cons pe_int pa_nil))))) pa_nil)))) pe_non (nomark _)) (pe_one (pe_callB (C8.call_isC IC) (by rfl) T.isinstance (by decide +kernel) (pa_cons (pe_c GTo hr (by decide) (by rfl) (pa_cons (pv 8) (pa_cons (pv 1) (pa_cons (pe_tup (pa_cons pe_str (pa_cons pe_int (pa_cons pe_int (pa_cons pe_int pa_nil))))) pa_nil)))) (pa_cons (C8.pe_gc (by rfl) gT) pa_nil))))))))))))))), ?_⟩
  have e12 : (10 : Int) ^ (12 : Int).toNat = 1000000000000 := by decide +kernel
  -- left
  refine ⟨10, 12, rfl, rfl, ⟨by decide, by decide, by decide⟩, _, rfl, D, as, gs, rfl, hR, ok, by omega, fun H1 s1 => ⟨_, _, rfl, rfl, ?_⟩⟩
  show gName 3 (V.int ((10 : Int) ^ (12 : Int).toNat - (rowN gs : Int))) _ _ _
  obtain ⟨lf, elf, hlf⟩ : ∃ lf : Nat, (10 : Int) ^ (12 : Int).toNat - (rowN gs : Int) = (lf : Int) ∧ rowN gs + lf = 1000000000000 := ⟨1000000000000 - rowN gs, by rw [e12]; omega, by omega⟩
  rw [elf]
  have hP1 := hP.same s1
  have hX1 := hX.same s1
  have hR1 := hR.same s1
  clear hP hX hR s1 elf
  -- place
  refine ⟨_, rfl, _, rfl, D, as, gs, rfl, hR1, ok, by omega, fun H2 s2 => ⟨_, _, rfl, rfl, p, c, _, rfl, by omega, by omega, hP1.same s2, fun r H3 r0 r1 hP3 f3 => ?_⟩⟩
  obtain ⟨pl, rfl⟩ : ∃ n : Nat, r = (n : Int) := ⟨r.toNat, by omega⟩
  have hR3 := (hR1.same s2).frm (hP1.same s2) f3 nDp
  have hX3 := (hX1.same s2).frm (hP1.same s2) f3
  clear hP1 hX1 hR1 s2 f3
  -- call
  refine ⟨_, rfl, by show 2 ≤ sizeLine; decide, fun u nu => ?_⟩
  have s4 := same_new (o := .tup [.str "insert", .int (pl : Int)]) nu
  have eu := q1x (o := .tup [.str "insert", .int (pl : Int)]) nu
  have hP4 := hP3.same s4
  have hX4 := hX3.same s4
  have hR4 := hR3.same s4
  have hu4 := hP3.ne nu
  generalize upd H3 u (.tup [.str "insert", .int (pl : Int)]) = H4 at s4 eu hP4 hX4 hR4 ⊢
  clear hP3 hX3 hR3 s4 nu
  -- rest
  refine ⟨_, rfl, _, rfl, _, rfl, D, as, gs, rfl, hR4, ok, by omega, fun H5 s5 => ⟨D, as, gs, pl, rowN gs, rfl, hR4.same s5, ok, by omega, fun RE res H6 hRE s6 nRE => ?_⟩⟩
  have s56 := s5.trans s6
  -- due
  refine ⟨_, rfl, _, rfl, D, as, gs, 0, pl, rfl, hR4.same s56, ok, by omega, fun HE hes H7 hHE s7 nHE => ?_⟩
  refine ⟨_, rfl, by show 4 ≤ sizeLine; decide, fun u2 nu2 => ⟨by show 1 ≤ sizeLine; decide, fun l nl => ?_⟩⟩
  have s8 := same_new (o := .tup [.str "z", .int 0, .int (lf : Int), .bl false]) nu2
  have s9 := same_new (o := .lst [.ref u2]) nl
  have e2 := s9 _ _ (q1x (o := .tup [.str "z", .int 0, .int (lf : Int), .bl false]) nu2)
  have el := q1x (o := .lst [.ref u2]) nl
  have hZ : RowAt (upd (upd H7 u2 (.tup [.str "z", .int 0, .int (lf : Int), .bl false])) l (.lst [.ref u2])) l [u2] [Seg.mk [122] 0 lf false] := ⟨el, lt_cons1 (by rw [e2]; show some (HO.tup [.str "z", _, _, _]) = some (HO.tup [.str (S [122]), _, _, _]); rw [show S [122] = ("z" : Str) by decide +kernel]; rfl)⟩
  have s89 := s8.trans s9
  have hHE := hHE.same s89
  have hRE := (hRE.same s7).same s89
  have sA := (s56.trans s7).trans s89
  have hP8 := hP4.same sA
  have hX8 := hX4.same sA
  have eu8 := sA _ _ eu
  generalize upd (upd H7 u2 (.tup [.str "z", .int 0, .int (lf : Int), .bl false])) l (.lst [.ref u2]) = H8 at hZ hHE hRE hP8 hX8 eu8 ⊢
  clear sA s89 s8 s9 e2 el s56 s7 s5 s6 eu hP4 hX4 hR4 nu2 nl
  have wH := partR_few gs 0 pl
  have wR := partR_few gs pl (rowN gs)
  have lH := partR_L ok 0 pl
  have lR : rowL (partR gs pl (rowN gs)) = sub (rowL gs) pl (rowL gs).length := by rw [hN]; exact partR_L ok pl (rowN gs)
  have oH := partR_ok ok 0 pl
  have oR := partR_ok ok pl (rowN gs)
  generalize partR gs 0 pl = gH at hHE wH lH oH
  generalize partR gs pl (rowN gs) = gR at hRE wR lR oR
  have sml : ∀ {as bs : List Addr} {A B : Addr} {gA gB : List Seg} {H2 : Hp}, RowAt H2 A as gA → RowAt H2 B bs gB → gA.length + gB.length ≤ 1000 → (as.map V.ref).length + (bs.map V.ref).length ≤ sizeLine := fun h k l => by
    rw [List.length_map, List.length_map, h.len, k.len]
    exact Nat.le_of_lt (small1000 l)
  refine ⟨HE, l, _, _, rfl, rfl, hHE.at_, hZ.at_, sml hHE hZ (by show gH.length + 1 ≤ 1000; omega), fun D1 n1 => ?_⟩
  have r1 := hHE.cat2 hZ rfl rfl n1
  have b1 := hRE.same (same_new (o := .lst (hes.map V.ref ++ [u2].map V.ref)) n1)
  refine ⟨_, rfl, D1, RE, _, _, rfl, rfl, upd_same, b1.at_, by rw [← List.map_append]; exact sml r1 b1 (by rw [List.length_append]; show gH.length + 1 + _ ≤ 1000; omega), fun D2 n2 => ?_⟩
  have r2 := r1.cat2 b1 (List.map_append ..).symm rfl n2
  have sB := (same_new (o := .lst (hes.map V.ref ++ [u2].map V.ref)) n1).trans (same_new (o := .lst (hes.map V.ref ++ [u2].map V.ref ++ res.map V.ref)) n2)
  have nD2 := ((hP8.same (same_new (o := .lst (hes.map V.ref ++ [u2].map V.ref)) n1)).ne n2).1
  have hP9 := hP8.same sB
  have hX9 := hX8.same sB
  have eu9 := sB _ _ eu8
  generalize upd (upd H8 D1 (.lst (hes.map V.ref ++ [u2].map V.ref))) D2 (.lst (hes.map V.ref ++ [u2].map V.ref ++ res.map V.ref)) = H9 at r2 hP9 hX9 eu9 ⊢
  clear sB hP8 hX8 eu8 r1 b1 hZ hHE hRE n1 n2
  have oZ : Oks [Seg.mk [122] 0 lf false] := fun g hg => by
    rw [List.mem_singleton.mp hg]
    exact ⟨by show 1 ≤ 1; decide, by show 1 ≤ 64; decide, Nat.zero_le _⟩
  have okd := (oH.cat oZ).cat oR
  have lZ : rowL [Seg.mk [122] 0 lf false] = pw [122] lf := by
    show sub (pw [122] lf) 0 lf ++ [] = _
    have e : (pw [122] lf).length = lf := by rw [pw_len]; exact Nat.mul_one lf
    rw [List.append_nil]
    conv => lhs; rw [← e]
    rw [e, show sub (pw [122] lf) 0 lf = sub (pw [122] lf) 0 (pw [122] lf).length by rw [e], sub_all]
  have eD : rowL (gH ++ [Seg.mk [122] 0 lf false] ++ gR) = (Chg.insert pl).out (rowL gs) (pw [122] lf) := by
    rw [rowL_app, rowL_app, lH, lZ, lR, List.append_assoc]
    rfl
  have hpl : pl ≤ (rowL gs).length := by omega
  have lD : ((Chg.insert pl).out (rowL gs) (pw [122] lf)).length = 1000000000000 := by
    show (insL (rowL gs) pl (pw [122] lf)).length = _
    rw [insL_len hpl, hN, pw_len]
    show rowN gs + lf * 1 = _
    omega
  -- full
  refine ⟨_, rfl, by show 2 ≤ sizeLine; decide, fun u3 nu3 => ⟨_, rfl, by show 3 ≤ sizeLine; decide, fun u4 nu4 => ⟨by show 2 ≤ sizeLine; decide, fun u5 nu5 => fun y dy ny ndy ney => ?_⟩⟩⟩
  have s3 := (same_new (o := .tup [.str "letters", .str "z"]) nu3)
  have s4 := (same_new (o := .tup [.str "power", .int 0, .int (lf : Int)]) nu4)
  have s5 := (same_new (o := .tup [.ref u3, .ref u4]) nu5)
  have e3 := (s4.trans s5) u3 _ upd_same
  have e4 := s5 u4 _ upd_same
  have e5 := q1x (o := .tup [.ref u3, .ref u4]) nu5
  have s6 := (s3.trans s4).trans s5
  generalize (upd (upd (upd H9 u3 (.tup [.str "letters", .str "z"])) u4 (.tup [.str "power", .int 0, .int (lf : Int)])) u5 (.tup [.ref u3, .ref u4])) = HA at e3 e4 e5 s6 ny ndy ney ⊢
  refine mkPow (b := [122]) (k := lf) (by rw [e3, show S [122] = ("z" : Str) by decide +kernel]) e4 e5 (by decide) (by decide +kernel) (by omega) (by show lf * 1 ≤ _; omega) ny ndy ney fun HB sB tY => ?_
  have sC := s6.trans sB
  refine ⟨_, rfl, x, y, u, rowL gs, pw [122] lf, n, 2, .insert pl, rfl, hX9.same sC, tY, by omega, by decide, sC _ _ eu9, hpl, fun _ fu rs ts HC hF h1 hL hrs sD nF => ?_, fun z => absurd (Nat.le_of_eq lD) z⟩
  have tF : Tx C HC fu ((Chg.insert pl).out (rowL gs) (pw [122] lf)) (max 33 (n + 2 + 15)) := ⟨rs, ts, hF, h1, hL, hrs⟩
  have sE := sC.trans sD
  obtain ⟨dxF, fsF, atF⟩ := tF.ins
  have tF2 := tF
  rw [← eD] at tF2
  have rC := r2.same sE
  have hPC := hP9.same sE
  have hXC := hX9.same sE
  have euC := sE _ _ eu9
  refine ⟨_, rfl, fu, dxF, fsF, rfl, atF, true, rfl, ifF rfl ?_⟩
  refine ⟨_, rfl, _, rfl, _, rfl, p, c, fu, D2, _, _, _, rfl, hPC, tF2, rC, nD2, okd, by rw [List.length_append, List.length_append]; show gH.length + 1 + gR.length ≤ 100; omega, fun HD hPD fD => ⟨true, rfl, ifF rfl ?_⟩⟩
  have tFD := tF.frm hPC fD
  have tXD := hXC.frm hPC fD
  have euD := fD _ _ hu4.1 euC
  clear tF2 rC hPC hXC euC tF atF hF sD nF sE sC sB s6 s5 s4 s3 e3 e4 e5 hX9 eu9 hP9 r2 tY ny ndy ney nu3 nu4 nu5
  generalize (Chg.insert pl).out (rowL gs) (pw [122] lf) = LF at lD tFD
  have nf : ¬ (LF.length + 1 ≤ 1000000000000) := by omega
  refine ⟨_, rfl, rfl, [97], by rw [show S [97] = ("a" : Str) by decide +kernel], by decide, by decide +kernel, fun a1 rs1 ts1 HE1 sE1 na1 tA1 ha1 ha33 ea1 _ => ?_⟩
  have tA : Tx C HE1 a1 [97] 33 := ⟨rs1, ts1, tA1, by rw [tA1.snd.len]; exact ha1, ea1, ha33⟩
  refine ⟨_, rfl, fu, a1, u, LF, [97], max 33 (n + 2 + 15), 33, .insert pl, rfl, tFD.same sE1, tA, by omega, by decide, sE1 _ _ euD, by show pl ≤ LF.length; omega, fun z => ?_, fun _ HF sF => ?_⟩
  · have e : ((Chg.insert pl).out LF [97]).length = LF.length + 1 := insL_len (by omega)
    rw [e] at z
    exact absurd z nf
  refine ⟨rfl, _, rfl, ifF (by decide) ?_⟩
  have tFF := (tFD.same sE1).same sF
  have tXF := (tXD.same sE1).same sF
  clear tA tA1 euD
  refine ⟨_, rfl, rfl, [97], by rw [show S [97] = ("a" : Str) by decide +kernel], by decide, by decide +kernel, fun a2 rs2 ts2 HG sG na2 tA2 ha2 hb33 ea2 _ => ?_⟩
  have tA : Tx C HG a2 [97] 33 := ⟨rs2, ts2, tA2, by rw [tA2.snd.len]; exact ha2, ea2, hb33⟩
  refine ⟨by show 3 ≤ sizeLine; decide, fun u6 nu6 => ?_⟩
  have s10 := same_new (o := .tup [.str "replace", .int 0, .int 0]) nu6
  refine ⟨fu, a2, u6, LF, [97], max 33 (n + 2 + 15), 33, .replace 0 0, rfl, (tFF.same sG).same s10, tA.same s10, by omega, by decide, upd_same, ⟨Nat.le_refl 0, Nat.zero_le _⟩, fun z => ?_, fun _ HI sI => ?_⟩
  · have e : ((Chg.replace 0 0).out LF [97]).length = LF.length - (0 - 0) + 1 := repL_len (Nat.le_refl 0) (Nat.zero_le _)
    rw [e] at z
    exact absurd (show LF.length + 1 ≤ 1000000000000 from z) nf
  refine ⟨rfl, _, rfl, ifF (by decide) ?_⟩
  have tFI := ((tFF.same sG).same s10).same sI
  have tXI := ((tXF.same sG).same s10).same sI
  have l1 : 1 ≤ LF.length := by omega
  have ls : (sub LF 0 1).length = 1 := sub_len l1
  refine ⟨_, rfl, _, rfl, by show 4 ≤ sizeLine; decide, fun u7 nu7 => ?_⟩
  have s11 := same_new (o := .tup [.str "repeat", .int 0, .int 1, .int 2]) nu7
  refine ⟨fu, x, u7, LF, rowL gs, max 33 (n + 2 + 15), n, .rep 0 1 2, rfl, tFI.same s11, tXI.same s11, by omega, by omega, upd_same, ⟨Nat.zero_le 1, l1, by decide⟩, fun z => ?_, fun _ HJ sJ => ?_⟩
  · have e : ((Chg.rep 0 1 2).out LF (rowL gs)).length = LF.length - (1 - 0) + (pw (sub LF 0 1) 2).length := repL_len (Nat.zero_le 1) l1
    rw [e, pw_len, ls] at z
    omega
  refine ⟨rfl, true, rfl, ifT rfl ?_⟩
  have tFJ := (tFI.same s11).same sJ
  have tXJ := (tXI.same s11).same sJ
  refine ⟨_, rfl, _, rfl, by show 4 ≤ sizeLine; decide, fun u8 nu8 => ?_⟩
  have s12 := same_new (o := .tup [.str "repeat", .int 0, .int 1, .int 1]) nu8
  refine ⟨fu, x, u8, LF, rowL gs, max 33 (n + 2 + 15), n, .rep 0 1 1, rfl, tFJ.same s12, tXJ.same s12, by omega, by omega, upd_same, ⟨Nat.zero_le 1, l1, by decide⟩, fun _ z rs9 ts9 HK hK h1K hLK hrK sK nK => ?_, fun z => ?_⟩
  · obtain ⟨dx, RU, LE, fs, as9, h9⟩ := hK
    exact ⟨z, dx, fs, rfl, h9.at_, q HK⟩
  · exfalso
    apply z
    have e : ((Chg.rep 0 1 1).out LF (rowL gs)).length = LF.length - (1 - 0) + (pw (sub LF 0 1) 1).length := repL_len (Nat.zero_le 1) l1
    rw [e, pw_len, ls]
    omega
end
/-- what stands at each turn -/
structure Tn (C : Addr) (H : Hp) (p c x D y M : Addr) (as ms : List Addr) (gs hs : List Seg) (n : Nat) : Prop where
  po : Pool H p c
  x : Tx C H x (rowL gs) n
  row : RowAt H D as gs
  nD : D ≠ p
  ok : Oks gs
  few : gs.length ≤ 40
  y : Tx C H y (rowL hs) 2
  more : RowAt H M ms hs
theorem Tn.same {C : Addr} {H H' : Hp} {p c x D y M : Addr} {as ms : List Addr} {gs hs : List Seg} {n : Nat} (h : Tn C H p c x D y M as ms gs hs n) (s : Same H H') : Tn C H' p c x D y M as ms gs hs n := ⟨h.po.same s, h.x.same s, h.row.same s, h.nD, h.ok, h.few, h.y.same s, h.more.same s⟩
theorem Tn.frm {C : Addr} {H H' : Hp} {p c x D y M : Addr} {as ms : List Addr} {gs hs : List Seg} {n : Nat} (h : Tn C H p c x D y M as ms gs hs n) (nM : M ≠ p) (f : Frm p H H') (P : Pool H' p c) : Tn C H' p c x D y M as ms gs hs n := ⟨P, h.x.frm h.po f, h.row.frm h.po f h.nD, h.nD, h.ok, h.few, h.y.frm h.po f, h.more.frm h.po f nM⟩
section
variable {P : Program} {w : World} {K : PySem.W.Frag} {mg : Str → Option Value} {base : Heap}
def spLaw (K : PySem.W.Frag) : Sp := fun vs H Q _ => ∃ (a : Addr) (ns : List Int), vs = [.ref a] ∧ SqL K H a (ns.map V.int) ∧ ns.length ≤ 63 ∧ ∀ H', Q (.bl true) H'
theorem scL : FnScope ["script", "pool", "text", "row", "other", "more", "turn", "call", "due", "actual"] ["script"] (defScope sLaw) := ⟨rfl, rfl, rfl, by decide +kernel, rfl, by decide +kernel, by decide +kernel⟩
theorem ok_law {C f : Addr} {fd : FuncData} (F : Fun K "law" "law" sLaw f fd) (T : Txt mg) (Dc : Cl K C) (gT : ∃ u, mg "Text" = some u ∧ RelV (.ref C) u) (IC : C8.InsC K C) (GP : Cal P w K mg base 1 "_law_pool" (spPool K) []) (G : Cal P w K mg base 2 "_law_take" spTake []) (GGr : Cal P w K mg base 6 "_law_great" (spGreat C) []) (GWa : Cal P w K mg base 3 "_law_wanted" spWanted []) (GS : Cal P w K mg base 5 "_law_same" (spSame 3) [])
    (GSl : Cal P w K mg base 1 "_law_seg_length" spSegLen []) (GSa : Cal P w K mg base 6 "_law_seg_agrees" (spSegAgrees C) []) (GTo : Cal P w K mg base 12 "_law_told" (spTold C) []) (GIf : Cal P w K mg base 13 "_law_is_full" (spIsFull C) []) : FnOk P w K mg base CX0 14 f fd ["script"] (spLaw K) := by
  refine F.ok scL (fun vs H Q E h => ?_) (fun cdv A outer sh H vs Q E hr h => ?_)
  · obtain ⟨a, ns, rfl, _⟩ := h
    rfl
  obtain ⟨sc, ns, rfl, hS, hlen, q⟩ := h
  refine ⟨_, (pss_cons (ps_set (i := 1) scL.nd rfl (.inl rfl) (pe_c GP hr (by decide) (by rfl) (pa_cons (pv 0) pa_nil)))
    (pss_cons (ps_asg (pe_c GGr hr (by decide) (by rfl) (pa_cons (pv 1) pa_nil)) (pg_tup rfl (pgs_cons (pg_name (i := 2) scL.nd rfl (.inl rfl)) (pgs_cons (pg_name (i := 3) scL.nd rfl (.inl rfl)) pgs_nil))))
    (pss_cons (ps_asg (pe_c GGr hr (by decide) (by rfl) (pa_cons (pv 1) pa_nil)) (pg_tup rfl (pgs_cons (pg_name (i := 4) scL.nd rfl (.inl rfl)) (pgs_cons (pg_name (i := 5) scL.nd rfl (.inl rfl)) pgs_nil))))
    (pss_cut (ps_for PassesOwn.never rfl (pi_range1 (by rfl) T.range (pa_cons (pe_op op_add pe_int (pe_c G hr (by decide) (by rfl) (pa_cons (pv 1) (pa_cons pe_int pa_nil)))) pa_nil)) (pg_name (i := 6) scL.nd rfl (.inl rfl)) (pss_cons (ps_asg (pe_c GWa hr (by decide) (by rfl) (pa_cons (pv 1) (pa_cons (pv 3) (pa_cons (pv 5) pa_nil)))) (pg_tup rfl (pgs_cons (pg_name (i := 7) scL.nd rfl (.inl rfl)) (pgs_cons (pg_name (i := 8) scL.nd rfl (.inl rfl)) pgs_nil))))
    (pss_cons (ps_if (pt_cmpR op_gt (pe_callB call_len_seq (by rfl) T.len PySem.boot_len (pa_cons (pv 8) pa_nil)) pe_int (nomark _)) (pss_one ps_break) pss_nil)
    (pss_cons (ps_set (i := 9) scL.nd rfl (.inl rfl) (pe_c GTo hr (by decide) (by rfl) (pa_cons (pv 2) (pa_cons (pv 4) (pa_cons (pv 7) pa_nil)))))
    (pss_one (ps_if (pt_cmpR op_gt (pe_c GSl hr (by decide) (by rfl) (pa_cons (pv 8) pa_nil)) (pe_op op_pow pe_int pe_int) (nomark _)) (pss_one (ps_if (PW.pt (pw_or (pt_cmpR op_notN (pv 9) pe_non (nomark _)) (pw_or1 (pt_not (pt_val (pe_c GS hr (by decide) (by rfl) (pa_cons (pe_fld (pv 2) rfl) (pa_cons (pe_c GSl hr (by decide) (by rfl) (pa_cons (pv 3) pa_nil)) pa_nil)))))))) (pss_one (ps_ret pe_bl)) pss_nil)) (pss_cons (ps_if (PW.pt (pw_or (pt_not (pt_val (pe_callB (C8.call_isC IC) (by rfl) T.isinstance (by decide +kernel) (pa_cons (pv 9) (pa_cons (C8.pe_gc (by rfl) gT) pa_nil))))) (pw_or1 (pt_not (pt_val (pe_c GSa hr (by decide) (by rfl) (pa_cons (pv 1) (pa_cons (pv 9) (pa_cons (pv 8) pa_nil))))))))) (pss_one (ps_ret pe_bl)) pss_nil)
    (pss_cons (ps_set (i := 2) scL.nd rfl (.inl rfl) (pv 9))
    (pss_one (ps_set (i := 3) scL.nd rfl (.inl rfl) (pv 8)))))))))))
    (pss_one (ps_ret (pe_c GIf hr (by decide) (by rfl) (pa_cons (pv 1) (pa_cons (pv 2) (pa_cons (pv 3) pa_nil)))))))))), ?_⟩
  refine ⟨_, rfl, sc, ns, rfl, hS, hlen, fun p c H1 hP1 s1 np nc => ?_⟩
  refine ⟨_, rfl, p, c, rfl, hP1, fun q1 x D u1 g H2 hq1 tX hR okg hg hP2 f2 nD => ⟨q1, _, rfl, SqT.of hq1, rfl, _, _, rfl, _, _, rfl, rfl, ?_⟩⟩
  refine ⟨_, rfl, p, c, rfl, hP2, fun q2 y M u2 g2 H3 hq2 tY hM okg2 hg2 hP3 f3 nM => ⟨q2, _, rfl, SqT.of hq2, rfl, _, _, rfl, _, _, rfl, rfl, ?_⟩⟩
  have ok1 : Oks [g] := fun z hz => by rw [List.mem_singleton.mp hz]; exact okg
  have ok2 : Oks [g2] := fun z hz => by rw [List.mem_singleton.mp hz]; exact okg2
  have st : Tn C H3 p c x D y M [u1] [u2] [g] [g2] 2 := ⟨hP3, tX.frm hP2 f3, hR.frm hP2 f3 nD, nD, ok1, by show 1 ≤ 40; decide, tY, hM⟩
  refine ⟨fun σ H' => ∃ (x D : Addr) (as : List Addr) (gs : List Seg) (n : Nat) (v6 v7 v8 v9 : Option V), n ≤ 152 ∧ Tn C H' p c x D y M as [u2] gs [g2] n ∧ σ = [some (.ref sc), some (.ref p), some (.ref x), some (.ref D), some (.ref y), some (.ref M), v6, v7, v8, v9], ?_, ?_⟩
  · refine ⟨_, rfl, p, c, 7, rfl, by decide, by decide, hP3, fun r H4 r0 r1 hP4 f4 => ⟨_, _, rfl, rfl, _, rfl, by omega, by omega, ?_⟩⟩
    have st4 := st.frm nM f4 hP4
    refine for_range (lo := 0) (n := (1 + r).toNat) (fun i σ H' => ∃ (x D : Addr) (as : List Addr) (gs : List Seg) (n : Nat) (v6 v7 v8 v9 : Option V), n ≤ 33 + 17 * i ∧ Tn C H' p c x D y M as [u2] gs [g2] n ∧ σ = [some (.ref sc), some (.ref p), some (.ref x), some (.ref D), some (.ref y), some (.ref M), v6, v7, v8, v9])
      ⟨x, D, _, _, 2, none, none, none, none, by omega, st4, rfl⟩ ?_ ?_
    · rintro i σ H5 hi ⟨x5, D5, as, gs, n, v6, v7, v8, v9, hn, t5, rfl⟩
      have hi7 : i < 7 := by omega
      have big := t5.x.big
      have hN := row_len t5.ok
      refine ⟨_, rfl, _, rfl, _, rfl, p, c, D5, M, as, [u2], gs, [g2], rfl, t5.po, t5.row, t5.more, t5.nD, nM, t5.ok, ok2, t5.few, by show 1 ≤ 40; decide, by omega, fun q5 u D' as' gs' ch H6 hq hu okc hR' ok' el hl nD' hP6 f6 => ⟨q5, _, rfl, SqT.of hq, rfl, _, _, rfl, _, _, rfl, rfl, ?_⟩⟩
      have t6 := t5.frm nM f6 hP6
      refine ⟨_, rfl, D', _, rfl, .inl (SqL.of hR'.at_), _, _, rfl, rfl, _, rfl, ?_⟩
      refine ite2 (fun _ => ?_) (fun z => ?_)
      · exact ⟨x5, D5, as, gs, n, _, _, _, _, by omega, t6, rfl⟩
      have h40 : gs'.length ≤ 40 := by
        have z : ¬ ((as'.map V.ref).length : Int) > 40 := fun h => z (decide_eq_true h)
        rw [List.length_map, hR'.len] at z
        omega
      rw [← hN] at okc
      have e12 : (10 : Int) ^ (12 : Int).toNat = 1000000000000 := by decide +kernel
      have hN' := row_len ok'
      refine ⟨_, rfl, _, rfl, _, rfl, x5, y, u, rowL gs, rowL [g2], n, 2, ch, rfl, t6.x, t6.y, by omega, by decide, hu, okc, fun hb a rs ts H7 hT h1 hL hrs s7 na => ?_, fun hb H7 s7 => ?_⟩
      · rw [← el] at hb hL
        have tA : Tx C H7 a (rowL gs') (max 33 (n + 2 + 15)) := ⟨rs, ts, hT, h1, hL, hrs⟩
        have t7 := t6.same s7
        refine ⟨_, rfl, D', as', gs', rfl, hR'.same s7, ok', hl, fun H8 s8 => ⟨10, 12, rfl, rfl, ⟨by decide, by decide, by decide⟩, _, _, rfl, rfl, _, rfl, ite2 (fun z => ?_) (fun _ => ?_)⟩⟩
        · exfalso
          have z : (rowN gs' : Int) > (10 : Int) ^ (12 : Int).toNat := of_decide_eq_true z
          rw [e12] at z
          omega
        have tA8 := tA.same s8
        have t8 := t7.same s8
        have hR8 := (hR'.same s7).same s8
        obtain ⟨dx, fs, hat⟩ := tA8.ins
        refine ⟨_, rfl, a, dx, fs, rfl, hat, true, rfl, ifF rfl ?_⟩
        refine ⟨_, rfl, _, rfl, _, rfl, p, c, a, D', as', gs', _, rfl, t8.po, tA8, hR8, nD', ok', by omega, fun H9 hP9 f9 => ⟨true, rfl, ifF rfl ?_⟩⟩
        exact ⟨_, rfl, _, rfl, a, D', as', gs', _, _, _, _, _, by omega, ⟨hP9, tA8.frm t8.po f9, hR8.frm t8.po f9 nD', nD', ok', h40, t8.y.frm t8.po f9, t8.more.frm t8.po f9 nM⟩, rfl⟩
      · rw [← el] at hb
        have t7 := t6.same s7
        refine ⟨_, rfl, D', as', gs', rfl, hR'.same s7, ok', hl, fun H8 s8 => ⟨10, 12, rfl, rfl, ⟨by decide, by decide, by decide⟩, _, _, rfl, rfl, _, rfl, ite2 (fun _ => ?_) (fun z => ?_)⟩⟩
        · have t8 := t7.same s8
          obtain ⟨dx, fs, ax, lx⟩ := t8.x.at_len46
          rw [hN] at lx
          refine ⟨_, rfl, rfl, _, rfl, ifF (by decide) ?_⟩
          refine ⟨_, rfl, x5, C, dx, _, _, rfl, ax, Dc.cl, Dc.nN, lx, _, rfl, D5, as, gs, rfl, t8.row, t8.ok, by have := t8.few; omega, fun H9 s9 => ⟨_, _, rfl, .inl (.inl ⟨_, rfl, rfl⟩), fun H10 s10 => ⟨true, rfl, ifF rfl ?_⟩⟩⟩
          exact ⟨x5, D5, as, gs, n, _, _, _, _, by omega, (t8.same s9).same s10, rfl⟩
        · exfalso
          apply hb
          have z : ¬ (rowN gs' : Int) > (10 : Int) ^ (12 : Int).toNat := fun h => z (decide_eq_true h)
          rw [e12] at z
          omega
    · rintro σ H5 ⟨x5, D5, as, gs, n, v6, v7, v8, v9, hn, t5, rfl⟩
      exact ⟨x5, D5, as, gs, n, v6, v7, v8, v9, by omega, t5, rfl⟩
  rintro σ H5 ⟨x5, D5, as, gs, n, v6, v7, v8, v9, hn, t5, rfl⟩
  exact ⟨_, rfl, _, rfl, _, rfl, p, c, x5, D5, as, gs, n, rfl, t5.po, t5.x, hn, t5.row, t5.nD, t5.ok, t5.few, fun H' => q H'⟩
end
/-! ### what the top has written -/
def DefAt (K : PySem.W.Frag) (x : Str) (st : Stmt) : Prop := ∃ (f : Addr) (fd : FuncData), PySem.W.nsIn K mainGlobals x = some (some (.ref f)) ∧ Fun K x x st f fd
theorem def_mk {K : PySem.W.Frag} {x : Str} {st : Stmt} {f : Addr} {od an : Option Addr} {sl : Array (Option Value)} {oc kV dc pm cd ct : Value} (a : PySem.W.nsIn K mainGlobals x = some (some (.ref f)))
    (l : K.lookup f = some ⟨oc, od, .func (PySem.W.fnOf x x (defArgs st) (defBody st) (defScope st) .none kV dc pm an cd ct), sl⟩) (c : PySem.W.codeIn K cd x = true) (k : PySem.W.keepIn K (.ref f) = true) : DefAt K x st := ⟨f, _, a, fun_mk l c k⟩
def MethAt (K : PySem.W.Frag) (C : Addr) (m qual : Str) (st : Stmt) : Prop := ∃ (f : Addr) (fd : FuncData), Meth K C m f ∧ Fun K m qual st f fd
theorem meth_mk {K : PySem.W.Frag} {C : Addr} {m qual : Str} {st : Stmt} {f : Addr} {od an : Option Addr} {sl : Array (Option Value)} {oc kV dc pm cd ct : Value} (a : PySem.W.findIn K (.ref C) m = some (some (.ref f))) (i : PySem.W.isFn K (.ref f) = true)
    (l : K.lookup f = some ⟨oc, od, .func (PySem.W.fnOf m qual (defArgs st) (defBody st) (defScope st) .none kV dc pm an cd ct), sl⟩) (c : PySem.W.codeIn K cd qual = true) (k : PySem.W.keepIn K (.ref f) = true) : MethAt K C m qual st := ⟨f, _, ⟨a, i, k⟩, fun_mk l c k⟩
def CMethAt (K : PySem.W.Frag) (C : Addr) (mc : Value) (m qual : Str) (st : Stmt) : Prop := ∃ (p g : Addr) (fd : FuncData), ClX.CMet K C mc m p g ∧ Fun K m qual st g fd
theorem cmeth_mk {K : PySem.W.Frag} {C : Addr} {m qual : Str} {st : Stmt} {p g : Addr} {rest : List Value} {od an : Option Addr} {sl : Array (Option Value)} {oc kV dc pm cd ct : Value} (a : PySem.W.findCls K (.ref C) mc m = some (.get (.builtin "classmethod.__get__") (.ref p) .none (.ref C)))
    (r : PySem.W.recIn K p "classmethod" = some (.ref g :: rest)) (i : PySem.W.fnIn K g = true)
    (l : K.lookup g = some ⟨oc, od, .func (PySem.W.fnOf m qual (defArgs st) (defBody st) (defScope st) .none kV dc pm an cd ct), sl⟩) (c : PySem.W.codeIn K cd qual = true) (k : PySem.W.keepIn K (.ref g) = true) : CMethAt K C mc m qual st := ⟨p, g, _, ⟨a, ⟨rest, r⟩, i⟩, fun_mk l c k⟩
/-- an own error's class and its __init__, as the top has written them -/
structure ErrFacts (P : Program) (K : PySem.W.Frag) (x qual : Str) (C CH : Addr) (st : Stmt) : Prop where
  at_ : PySem.W.nsIn K mainGlobals x = some (some (.ref C))
  ex : OexC K C
  is : ExcC K C
  xf : XfC K C
  exm : PySem.W.exmOne K (.ref C) (.ref C) = some true
  kH : PySem.W.kitOne K (.ref C) (.ref CH) = some true
  kV : PySem.W.kitOne K (.ref C) (.type "ValueError") = some true
  fn : ∃ (fI cc ca : Addr) (kV doc pm ct : Value) (an : Option Addr), PySem.W.findIn K (.ref C) "__init__" = some (some (.ref fI)) ∧ PySem.W.typeIn K (.ref fI) = some (.type "function") ∧ PySem.W.codeIn K (.ref ca) qual = true ∧
    (∀ mg : Str → Option Value, mg "super" = none → SupAt P K mg C fI cc ca (PySem.W.fnX "__init__" qual (defArgs st) (defBody st) (defScope st) [("__class__", cc)] .none kV doc pm an (.ref ca) ct))
theorem err_mk {P : Program} {K : PySem.W.Frag} {x qual : Str} {C CH fI cc ca : Addr} {st : Stmt} {kV doc pm ct oc c1 c2 : Value} {an od d1 d2 : Option Addr} {sl sl1 sl2 : Array (Option Value)} {vs : Array Value} {file : Str} {tf : Tok} {ar : Arg}
    {nm q : Str} {N : Addr} {bs bm : List Value} {sn : List Str} {sub : List Value} {ab : Bool} {col : Option Bool} {dd : Option Addr} {k0 k1 k2 k3 k5 : Option Value}
    (a1 : PySem.W.nsIn K mainGlobals x = some (some (.ref C))) (a2 : K.lookup C = some (excClassObj nm q C N bs bm true sn sub ab col dd k0 k1 k2 k3 k5 "ValueError.__new__")) (a3 : PySem.HandSPX.refsVE bm = true) (a4 : PySem.W.findIn K (.ref C) "__setattr__" = some (some (.builtin "object.__setattr__")))
    (a5 : PySem.W.subIn K (.ref C) (.type "BaseException") = some true) (a6 : PySem.W.typeIn K (.ref C) = some (.type "type")) (a7 : PySem.W.keepIn K (.ref C) = true) (a8 : PySem.W.findIn K (.ref C) "__getattribute__" = some (some (.builtin "BaseException.__getattribute__"))) (a9 : PySem.W.findIn K (.ref C) "__getattr__" = some none) (b1 : PySem.W.hasDictIn K C = true)
    (b2 : PySem.W.findIn K (.ref C) "__class__" = some (some (.builtin "object.__class__"))) (b3 : PySem.W.specialIn K (.builtin "object.__class__") "__get__" = some (some (.builtin "getset_descriptor.__get__"))) (b4 : PySem.W.takesIn K (.builtin "object.__class__") = some true) (b5 : PySem.W.mroIn K C (.type "object") = some true)
    (b6 : PySem.W.exmOne K (.ref C) (.ref C) = some true) (b7 : PySem.W.kitOne K (.ref C) (.ref CH) = some true) (b8 : PySem.W.kitOne K (.ref C) (.type "ValueError") = some true)
    (c3 : PySem.W.findIn K (.ref C) "__init__" = some (some (.ref fI))) (c4 : PySem.W.typeIn K (.ref fI) = some (.type "function")) (c5 : K.lookup fI = some ⟨oc, od, .func (PySem.W.fnX "__init__" qual (defArgs st) (defBody st) (defScope st) [("__class__", cc)] .none kV doc pm an (.ref ca) ct), sl⟩) (c6 : PySem.W.codeIn K (.ref ca) qual = true)
    (c7 : K.lookup ca = some ⟨c1, d1, .fields vs, sl1⟩) (c8 : vs[2]? = some (.str file tf)) (c9 : ((P.main.file : Str) == file) = true) (e1 : K.lookup cc = some ⟨c2, d2, .cell (some (.ref C)), sl2⟩) (e2 : PySem.W.mroIn K C (.ref C) = some true) (e3 : PySem.W.ks_superIn K C C "__init__" = some (some (.builtin "ValueError.__init__")))
    (e4 : PySem.W.subIn K (.ref C) (.type "ValueError") = some true) (e5 : PySem.W.nsIn K cStatics "thirdparty.any" = some none) (e6 : (P.main.scope.names.lookup ("super" : Str)).isSome = false) (e7 : ((defArgs st).posonlyargs ++ (defArgs st).args).head? = some ar) (e8 : ar.arg = "self") : ErrFacts P K x qual C CH st :=
  ⟨a1, ⟨⟨_, _, _, _, _, _, _, _, _, _, _, _, _, _, _, a2, a3⟩, a4, a5, a6, a7⟩, ⟨a8, a9, a5, b1, b2, b3, b4, b5⟩, ⟨a8, a9, a5, b1⟩, b6, b7, b8, fI, cc, ca, kV, doc, pm, ct, an, c3, c4, c6, fun mg hs =>
    ⟨⟨⟨_, _, _, _, _, _, _, _, _, _, _, _, _, _, _, a2, a3⟩, a4, a5, a6, a7⟩, ⟨_, _, _, c5⟩, ⟨ar, e7, e8⟩, ⟨_, _, _, _, _, _, c7, c8, c9⟩, ⟨_, _, _, e1⟩, e2, e3, e4, e5, hs, e6⟩⟩

/-- an own error without an __init__ of its own -/
structure PlainFacts (K : PySem.W.Frag) (x : Str) (CT CH : Addr) : Prop where
  at_ : PySem.W.nsIn K mainGlobals x = some (some (.ref CT))
  x : PySem.W.excIn K CT [.type "ValueError", .type "Exception", .type "BaseException", .type "object"] "ValueError.__new__" = true
  k : PySem.W.keepIn K (.ref CT) = true
  e : PySem.W.subIn K (.ref CT) (.type "BaseException") = some true
  t : PySem.W.typeIn K (.ref CT) = some (.type "type")
  is : ExcC K CT
  exm : PySem.W.exmOne K (.ref CT) (.ref CT) = some true
  kH : PySem.W.kitOne K (.ref CT) (.ref CH) = some true
theorem plain_mk {K : PySem.W.Frag} {x : Str} {CT CH : Addr} (a1 : PySem.W.nsIn K mainGlobals x = some (some (.ref CT))) (x1 : PySem.W.excIn K CT [.type "ValueError", .type "Exception", .type "BaseException", .type "object"] "ValueError.__new__" = true)
    (a5 : PySem.W.subIn K (.ref CT) (.type "BaseException") = some true) (a6 : PySem.W.typeIn K (.ref CT) = some (.type "type")) (a7 : PySem.W.keepIn K (.ref CT) = true) (a8 : PySem.W.findIn K (.ref CT) "__getattribute__" = some (some (.builtin "BaseException.__getattribute__"))) (a9 : PySem.W.findIn K (.ref CT) "__getattr__" = some none) (b1 : PySem.W.hasDictIn K CT = true)
    (b2 : PySem.W.findIn K (.ref CT) "__class__" = some (some (.builtin "object.__class__"))) (b3 : PySem.W.specialIn K (.builtin "object.__class__") "__get__" = some (some (.builtin "getset_descriptor.__get__"))) (b4 : PySem.W.takesIn K (.builtin "object.__class__") = some true) (b5 : PySem.W.mroIn K CT (.type "object") = some true)
    (b6 : PySem.W.exmOne K (.ref CT) (.ref CT) = some true) (b7 : PySem.W.kitOne K (.ref CT) (.ref CH) = some true) : PlainFacts K x CT CH :=
  ⟨a1, x1, a7, a5, a6, ⟨a8, a9, a5, b1, b2, b3, b4, b5⟩, b6, b7⟩
/-- a class with its __init__ -/
structure ClassAt (K : PySem.W.Frag) (x qual : Str) (C : Addr) (st : Stmt) : Prop where
  at_ : PySem.W.nsIn K mainGlobals x = some (some (.ref C))
  cl : Cls K C
  ini : ∃ (f : Addr) (fd : FuncData), Mk K C f ∧ Fun K "__init__" qual st f fd
theorem class_mk {K : PySem.W.Frag} {x qual : Str} {C f : Addr} {st : Stmt} {od an : Option Addr} {sl : Array (Option Value)} {oc kV dc pm cd ct : Value} (a1 : PySem.W.nsIn K mainGlobals x = some (some (.ref C)))
    (a2 : PySem.W.plainGet K C Str.empty = true) (a3 : PySem.W.hasDictIn K C = true) (a4 : PySem.W.plainOver K C = true) (a5 : PySem.W.findIn K (.ref C) "__setattr__" = some (some (.builtin "object.__setattr__"))) (a6 : PySem.W.makesIn K C = true) (a7 : PySem.W.keepIn K (.ref C) = true)
    (b1 : PySem.W.findIn K (.ref C) "__init__" = some (some (.ref f))) (b2 : PySem.W.isFn K (.ref f) = true) (b3 : K.lookup f = some ⟨oc, od, .func (PySem.W.fnOf "__init__" qual (defArgs st) (defBody st) (defScope st) .none kV dc pm an cd ct), sl⟩) (b4 : PySem.W.codeIn K cd qual = true) (b5 : PySem.W.keepIn K (.ref f) = true) : ClassAt K x qual C st :=
  ⟨a1, ⟨a2, a3, a4, a5⟩, f, _, ⟨a6, b1, b2, a7⟩, fun_mk b3 b4 b5⟩
theorem insc_mk {K : PySem.W.Frag} {C : Addr} (cl : Cls K C) (a1 : PySem.W.findIn K (.ref C) "__class__" = some (some (.builtin "object.__class__"))) (a2 : PySem.W.specialIn K (.builtin "object.__class__") "__get__" = some (some (.builtin "getset_descriptor.__get__"))) (a3 : PySem.W.takesIn K (.builtin "object.__class__") = some true) (a4 : PySem.W.mroIn K C (.type "object") = some true) (a5 : PySem.W.kitOne K (.ref C) (.ref C) = some true) : C8.InsC K C := ⟨cl, a1, a2, a3, a4, a5⟩

theorem all_mk {C CM CP CQ CT CL CH fL d : Addr} {l : PySem.W.OpenLaw} {w : World} {K : PySem.W.Frag} {h : Heap} {mg : Str → Option Value} {fa : Addr} {es : Array DictEntry} {n : Nat} (X : K.In h) (G : h.Ns mainGlobals mg) (hfa : mg "law" = some (.ref fa))
    {odL anL : Option Addr} {slL : Array (Option Value)} {ocL kVL dcL pmL cdL ctL : Value} {t0 t1 t2 t3 t4 t5 t6 k1 k2 k3 k4 k5 : Tok}
    (aL : PySem.W.nsIn K mainGlobals "law" = some (some (.ref fL))) (lL : K.lookup fL = some ⟨ocL, odL, .func (PySem.W.fnOf "law" "law" (defArgs sLaw) (defBody sLaw) (defScope sLaw) .none kVL dcL pmL anL cdL ctL), slL⟩) (cL : PySem.W.codeIn K cdL "law" = true) (kL : PySem.W.keepIn K (.ref fL) = true)
    (D_vo : DefAt K "view_of" sViewOf)
    (D_se : DefAt K "settled" sSettled)
    (D_de : DefAt K "deeper" sDeeper)
    (D_sb : DefAt K "spelled_by" sSpelledBy)
    (D_di : DefAt K "divided" sDivided)
    (D_dp : DefAt K "divided_power" sDividedPower)
    (D_iw : DefAt K "is_whole" sIsWhole)
    (D_hw : DefAt K "has_word" sHasWord)
    (D_at : DefAt K "are_told" sAreTold)
    (D_ip : DefAt K "is_part" sIsPart)
    (D_lm : DefAt K "length_made" sLengthMade)
    (D_fo : DefAt K "fault_of" sFaultOf)
    (D_lc : DefAt K "lengths_checked" sLengthsChecked)
    (D_lu : DefAt K "lengths_unchecked" sLengthsUnchecked)
    (D_co : DefAt K "copied" sCopied)
    (D_ro : DefAt K "rules_of" sRulesOf)
    (D_sp : DefAt K "spelled" sSpelled)
    (D_rn : DefAt K "renumbered" sRenumbered)
    (D_pool : DefAt K "_law_pool" sPool)
    (D_take : DefAt K "_law_take" sTake)
    (D_ii : DefAt K "_law_is_integer" sIsInt)
    (D_sa : DefAt K "_law_same" sSame)
    (T' : ClassAt K "Text" "Text.__init__" C sInit)
    (n_T_rules : PySem.W.findIn K (.ref C) "rules" = some none)
    (n_T_lengths : PySem.W.findIn K (.ref C) "lengths" = some none)
    (n_T_length : PySem.W.findIn K (.ref C) "length" = some none)
    (M' : ClassAt K "Making" "Making.__init__" CM sMakingInit)
    (n_M_rules : PySem.W.findIn K (.ref CM) "rules" = some none)
    (n_M_lengths : PySem.W.findIn K (.ref CM) "lengths" = some none)
    (n_M_numbers : PySem.W.findIn K (.ref CM) "numbers" = some none)
    (n_M_nothing : PySem.W.findIn K (.ref CM) "nothing" = some none)
    (n_M_most_taken : PySem.W.findIn K (.ref CM) "most_taken" = some none)
    (mM : CMethAt K C (.type "type") "made" "Text.made" sTextMade)
    (mO : CMethAt K C (.type "type") "of_letters" "Text.of_letters" sOfLetters)
    (mE : MethAt K C "letter" "Text.letter" sLetter)
    (mS : MethAt K C "letters" "Text.letters" sLetters)
    (mNo : MethAt K CM "number_of" "Making.number_of" sMakingNumberOf)
    (mTi : MethAt K CM "taken_in" "Making.taken_in" sMakingTakenIn)
    (mPt : MethAt K CM "part" "Making.part" sMakingPart)
    (mTn : MethAt K CM "turned" "Making.turned" sMakingTurned)
    (mPw : MethAt K CM "power" "Making.power" sMakingPower)
    (mJo : MethAt K CM "joined" "Making.joined" sMakingJoined)
    (mMt : MethAt K CM "text" "Making.text" sMakingText)
    (z_len : PySem.W.nsIn K mainGlobals "len" = some none)
    (z_int : PySem.W.nsIn K mainGlobals "int" = some none)
    (z_range : PySem.W.nsIn K mainGlobals "range" = some none)
    (z_tuple : PySem.W.nsIn K mainGlobals "tuple" = some none)
    (z_list : PySem.W.nsIn K mainGlobals "list" = some none)
    (z_isinstance : PySem.W.nsIn K mainGlobals "isinstance" = some none)
    (z_all : PySem.W.nsIn K mainGlobals "all" = some none)
    (z_reversed : PySem.W.nsIn K mainGlobals "reversed" = some none)
    (z_bool : PySem.W.nsIn K mainGlobals "bool" = some none)
    (z_str : PySem.W.nsIn K mainGlobals "str" = some none)
    (z_enumerate : PySem.W.nsIn K mainGlobals "enumerate" = some none)
    (z_max : PySem.W.nsIn K mainGlobals "max" = some none)
    (z_min : PySem.W.nsIn K mainGlobals "min" = some none)
    (z_super : PySem.W.nsIn K mainGlobals "super" = some none)
    (i_MOST_RULES : PySem.W.nsIn K mainGlobals "MOST_RULES" = some (some (.int 60 t1)))
    (i_MOST_TOLD : PySem.W.nsIn K mainGlobals "MOST_TOLD" = some (some (.int 64 t2)))
    (i_MOST_TIMES : PySem.W.nsIn K mainGlobals "MOST_TIMES" = some (some (.int 1000000000000 t3)))
    (i_MOST_LETTERS : PySem.W.nsIn K mainGlobals "MOST_LETTERS" = some (some (.int 1000000000000 t4)))
    (i_MOST_SPELLED : PySem.W.nsIn K mainGlobals "MOST_SPELLED" = some (some (.int 1000 t5)))
    (i_MANY_RULES : PySem.W.nsIn K mainGlobals "MANY_RULES" = some (some (.int 500 t6)))
    (aH : PySem.W.nsIn K mainGlobals "HeldError" = some (some (.ref CH)))
    (xP : ErrFacts l.prog K "NoPart" "NoPart.__init__" CP CH sNoPartInit)
    (n_xP_start : PySem.W.findIn K (.ref CP) "start" = some none)
    (n_xP_stop : PySem.W.findIn K (.ref CP) "stop" = some none)
    (xQ : ErrFacts l.prog K "NoPlace" "NoPlace.__init__" CQ CH sNoPlaceInit)
    (n_xQ_place : PySem.W.findIn K (.ref CQ) "place" = some none)
    (xT : PlainFacts K "BadTimes" CT CH)
    (xL : PlainFacts K "TooLarge" CL CH)
    (D_cq : DefAt K "check_place" sCheckPlace)
    (D_cp : DefAt K "check_part" sCheckPart)
    (D_cs : DefAt K "check_size" sCheckSize)
    (D_po : DefAt K "part_of" sPartOf)
    (D_rm : DefAt K "remove_part" sRemovePart)
    (D_rp : DefAt K "replace_part" sReplacePart)
    (D_ia : DefAt K "insert_at" sInsertAt)
    (D_mv : DefAt K "move_part" sMovePart)
    (D_tp : DefAt K "turn_part" sTurnPart)
    (D_rt : DefAt K "repeat_part" sRepeatPart)
    (D_ar : DefAt K "made_around" sMadeAround)
    (D_sl : DefAt K "_law_seg_length" sLSegLength)
    (D_sle : DefAt K "_law_seg_letter" sLSegLetter)
    (D_spa : DefAt K "_law_seg_part" sLSegPart)
    (D_stu : DefAt K "_law_seg_turned" sLSegTurned)
    (D_sag : DefAt K "_law_seg_agrees" sLSegAgrees)
    (D_gr : DefAt K "_law_great" sLGreat)
    (D_wa : DefAt K "_law_wanted" sLWanted)
    (D_dn : DefAt K "_law_done" sLDone)
    (D_to : DefAt K "_law_told" sLTold)
    (D_if : DefAt K "_law_is_full" sLIsFull)
    (ic1 : PySem.W.findIn K (.ref C) "__class__" = some (some (.builtin "object.__class__")))
    (ic2 : PySem.W.specialIn K (.builtin "object.__class__") "__get__" = some (some (.builtin "getset_descriptor.__get__")))
    (ic3 : PySem.W.takesIn K (.builtin "object.__class__") = some true)
    (ic4 : PySem.W.mroIn K C (.type "object") = some true)
    (ic5 : PySem.W.kitOne K (.ref C) (.ref C) = some true)
    (z_sum : PySem.W.nsIn K mainGlobals "sum" = some none)
    (rd1 : PySem.W.readsIn K C (.type "type") = true) (rd2 : PySem.W.specialIn K (.ref C) "__getattribute__" = some (some (.builtin "type.__getattribute__")))
    (i_LETTERS : PySem.W.nsIn K mainGlobals "LETTERS" = some (some (.str LTR t0))) (i_SIZES : PySem.W.nsIn K mainGlobals "SIZES" = some (some (.ref d))) (dl : K.lookup d = some ⟨.type "dict", none, .dict es n, #[]⟩) (dk : PySem.W.KeysLit w.params es.toList) (ds : (d == sysModules) = false)
    (s_letters : PySem.W.nsIn K d "letters" = some (some (.int 2 k1)))
    (s_join : PySem.W.nsIn K d "join" = some (some (.int 3 k2)))
    (s_power : PySem.W.nsIn K d "power" = some (some (.int 3 k3)))
    (s_part : PySem.W.nsIn K d "part" = some (some (.int 4 k4)))
    (s_back : PySem.W.nsIn K d "back" = some (some (.int 2 k5)))
    : ∃ fd : FuncData, (∀ (s : Shared) (v : Value), BindsTo s fd ⟨[v], []⟩ [("script", v)]) ∧ ∀ base : Heap, K.In base → base.Ns mainGlobals mg → FnOk l.prog w K mg base CX0 14 fa fd ["script"] (spLaw K) := by
  have e := hfa.symm.trans (PySem.W.mg_of X G aL)
  cases e
  have gl : ∀ {x : Str} {v : Value}, PySem.W.nsIn K mainGlobals x = some (some v) → mg x = some v := fun a => PySem.W.mg_of X G a
  have gn : ∀ {x : Str}, PySem.W.nsIn K mainGlobals x = some none → mg x = none := fun a => PySem.W.mg_none_of X G a
  have T : Txt mg := ⟨gn z_len, gn z_int, gn z_range, gn z_tuple, gn z_list, gn z_isinstance, gn z_all, gn z_reversed, gn z_bool, gn z_str, gn z_enumerate, ⟨_, gl i_MOST_RULES, ⟨_, rfl⟩⟩, ⟨_, gl i_MOST_TOLD, ⟨_, rfl⟩⟩, ⟨_, gl i_MOST_TIMES, ⟨_, rfl⟩⟩, ⟨_, gl i_MOST_LETTERS, ⟨_, rfl⟩⟩, ⟨_, gl i_LETTERS, ⟨_, rfl⟩⟩, ⟨_, gl i_MOST_SPELLED, ⟨_, rfl⟩⟩⟩
  have Z : Sizes K w mg d es n := ⟨⟨_, gl i_SIZES, rfl⟩, ⟨dl, dk, ds⟩, ⟨_, s_letters⟩, ⟨_, s_join⟩, ⟨_, s_power⟩, ⟨_, s_part⟩, ⟨_, s_back⟩⟩
  have FL := fun_mk (st := sLaw) lL cL kL
  obtain ⟨f_D_vo, fd_D_vo, a_D_vo, F_D_vo⟩ := D_vo
  obtain ⟨f_D_se, fd_D_se, a_D_se, F_D_se⟩ := D_se
  obtain ⟨f_D_de, fd_D_de, a_D_de, F_D_de⟩ := D_de
  obtain ⟨f_D_sb, fd_D_sb, a_D_sb, F_D_sb⟩ := D_sb
  obtain ⟨f_D_di, fd_D_di, a_D_di, F_D_di⟩ := D_di
  obtain ⟨f_D_dp, fd_D_dp, a_D_dp, F_D_dp⟩ := D_dp
  obtain ⟨f_D_iw, fd_D_iw, a_D_iw, F_D_iw⟩ := D_iw
  obtain ⟨f_D_hw, fd_D_hw, a_D_hw, F_D_hw⟩ := D_hw
  obtain ⟨f_D_at, fd_D_at, a_D_at, F_D_at⟩ := D_at
  obtain ⟨f_D_ip, fd_D_ip, a_D_ip, F_D_ip⟩ := D_ip
  obtain ⟨f_D_lm, fd_D_lm, a_D_lm, F_D_lm⟩ := D_lm
  obtain ⟨f_D_fo, fd_D_fo, a_D_fo, F_D_fo⟩ := D_fo
  obtain ⟨f_D_lc, fd_D_lc, a_D_lc, F_D_lc⟩ := D_lc
  obtain ⟨f_D_lu, fd_D_lu, a_D_lu, F_D_lu⟩ := D_lu
  obtain ⟨f_D_co, fd_D_co, a_D_co, F_D_co⟩ := D_co
  obtain ⟨f_D_ro, fd_D_ro, a_D_ro, F_D_ro⟩ := D_ro
  obtain ⟨f_D_sp, fd_D_sp, a_D_sp, F_D_sp⟩ := D_sp
  obtain ⟨f_D_rn, fd_D_rn, a_D_rn, F_D_rn⟩ := D_rn
  obtain ⟨f_D_pool, fd_D_pool, a_D_pool, F_D_pool⟩ := D_pool
  obtain ⟨f_D_take, fd_D_take, a_D_take, F_D_take⟩ := D_take
  obtain ⟨f_D_ii, fd_D_ii, a_D_ii, F_D_ii⟩ := D_ii
  obtain ⟨f_D_sa, fd_D_sa, a_D_sa, F_D_sa⟩ := D_sa
  obtain ⟨fI_T, fdI_T, M_T, FI_T⟩ := T'.ini
  obtain ⟨fI_M, fdI_M, M_M, FI_M⟩ := M'.ini
  obtain ⟨p_mM, f_mM, fd_mM, h_mM, F_mM⟩ := mM
  obtain ⟨p_mO, f_mO, fd_mO, h_mO, F_mO⟩ := mO
  obtain ⟨f_mE, fd_mE, h_mE, F_mE⟩ := mE
  obtain ⟨f_mS, fd_mS, h_mS, F_mS⟩ := mS
  obtain ⟨f_mNo, fd_mNo, h_mNo, F_mNo⟩ := mNo
  obtain ⟨f_mTi, fd_mTi, h_mTi, F_mTi⟩ := mTi
  obtain ⟨f_mPt, fd_mPt, h_mPt, F_mPt⟩ := mPt
  obtain ⟨f_mTn, fd_mTn, h_mTn, F_mTn⟩ := mTn
  obtain ⟨f_mPw, fd_mPw, h_mPw, F_mPw⟩ := mPw
  obtain ⟨f_mJo, fd_mJo, h_mJo, F_mJo⟩ := mJo
  obtain ⟨f_mMt, fd_mMt, h_mMt, F_mMt⟩ := mMt
  obtain ⟨f_D_cq, fd_D_cq, a_D_cq, F_D_cq⟩ := D_cq
  obtain ⟨f_D_cp, fd_D_cp, a_D_cp, F_D_cp⟩ := D_cp
  obtain ⟨f_D_cs, fd_D_cs, a_D_cs, F_D_cs⟩ := D_cs
  obtain ⟨f_D_po, fd_D_po, a_D_po, F_D_po⟩ := D_po
  obtain ⟨f_D_rm, fd_D_rm, a_D_rm, F_D_rm⟩ := D_rm
  obtain ⟨f_D_rp, fd_D_rp, a_D_rp, F_D_rp⟩ := D_rp
  obtain ⟨f_D_ia, fd_D_ia, a_D_ia, F_D_ia⟩ := D_ia
  obtain ⟨f_D_mv, fd_D_mv, a_D_mv, F_D_mv⟩ := D_mv
  obtain ⟨f_D_tp, fd_D_tp, a_D_tp, F_D_tp⟩ := D_tp
  obtain ⟨f_D_rt, fd_D_rt, a_D_rt, F_D_rt⟩ := D_rt
  obtain ⟨f_D_ar, fd_D_ar, a_D_ar, F_D_ar⟩ := D_ar
  obtain ⟨f_D_sl, fd_D_sl, a_D_sl, F_D_sl⟩ := D_sl
  obtain ⟨f_D_sle, fd_D_sle, a_D_sle, F_D_sle⟩ := D_sle
  obtain ⟨f_D_spa, fd_D_spa, a_D_spa, F_D_spa⟩ := D_spa
  obtain ⟨f_D_stu, fd_D_stu, a_D_stu, F_D_stu⟩ := D_stu
  obtain ⟨f_D_sag, fd_D_sag, a_D_sag, F_D_sag⟩ := D_sag
  obtain ⟨f_D_gr, fd_D_gr, a_D_gr, F_D_gr⟩ := D_gr
  obtain ⟨f_D_wa, fd_D_wa, a_D_wa, F_D_wa⟩ := D_wa
  obtain ⟨f_D_dn, fd_D_dn, a_D_dn, F_D_dn⟩ := D_dn
  obtain ⟨f_D_to, fd_D_to, a_D_to, F_D_to⟩ := D_to
  obtain ⟨f_D_if, fd_D_if, a_D_if, F_D_if⟩ := D_if
  refine ⟨PySem.W.fnOf "law" "law" (defArgs sLaw) (defBody sLaw) (defScope sLaw) .none kVL dcL pmL anL cdL ctL, fun s v => .of_eq rfl, fun base _ _ => ?_⟩
  have D : Cl K C := ⟨T'.cl, n_T_rules, n_T_lengths, n_T_length⟩
  have DM : ClM K CM := ⟨M'.cl, n_M_rules, n_M_lengths, n_M_numbers, n_M_nothing, n_M_most_taken⟩
  have bI : L2.Binds K _ ["self", "rules"] [] := (FI_T.binds (ps := ["self", "rules"]) fun _ _ _ _ _ _ us hl => match us, hl with | [_, _], _ => rfl)
  have bM : L2.Binds K _ ["self"] [] := (FI_M.binds (ps := ["self"]) fun _ _ _ _ _ _ us hl => match us, hl with | [_], _ => rfl)
  have gT : ∃ u, mg "Text" = some u ∧ RelV (.ref C) u := ⟨_, gl T'.at_, rfl⟩
  have G : Cal l.prog w K mg base 2 "_law_take" spTake [] := ok_take F_D_take (gl a_D_take) (F_D_take.binds (ps := ["pool", "many"]) fun _ _ _ _ _ _ us hl => match us, hl with | [_, _], _ => rfl) T
  have GP : Cal l.prog w K mg base 1 "_law_pool" (spPool K) [] := ok_pool F_D_pool (gl a_D_pool) (F_D_pool.binds (ps := ["script"]) fun _ _ _ _ _ _ us hl => match us, hl with | [_], _ => rfl) 
  have GDe : Cal l.prog w K mg base 1 "deeper" (spDeeper C) [] := ok_deeper F_D_de (gl a_D_de) (F_D_de.binds (ps := ["text", "view"]) fun _ _ _ _ _ _ us hl => match us, hl with | [_, _], _ => rfl) D
  have GSe : Cal l.prog w K mg base 2 "settled" (spSettled C) [] := ok_settled F_D_se (gl a_D_se) (F_D_se.binds (ps := ["text", "view"]) fun _ _ _ _ _ _ us hl => match us, hl with | [_, _], _ => rfl) GDe
  have GVo : Cal l.prog w K mg base 3 "view_of" (spViewOf C) [] := ok_view_of F_D_vo (gl a_D_vo) (F_D_vo.binds (ps := ["text", "start", "stop"]) fun _ _ _ _ _ _ us hl => match us, hl with | [_, _, _], _ => rfl) T D GSe
  have GSb : Cal l.prog w K mg base 1 "spelled_by" (spSpelledBy C) [] := ok_spelled_by F_D_sb (gl a_D_sb) (F_D_sb.binds (ps := ["text", "view"]) fun _ _ _ _ _ _ us hl => match us, hl with | [_, _], _ => rfl) D
  have GDp : Cal l.prog w K mg base 1 "divided_power" spDivP [] := ok_divP F_D_dp (gl a_D_dp) (F_D_dp.binds (ps := ["base", "size", "start", "stop"]) fun _ _ _ _ _ _ us hl => match us, hl with | [_, _, _, _], _ => rfl) 
  have GDi : Cal l.prog w K mg base 3 "divided" (spDivided C) [] := ok_divided F_D_di (gl a_D_di) (F_D_di.binds (ps := ["text", "view"]) fun _ _ _ _ _ _ us hl => match us, hl with | [_, _], _ => rfl) D GDp GSe
  have GSp : Cal l.prog w K mg base 4 "spelled" (spSpelled C) [] := ok_spelled F_D_sp (gl a_D_sp) (F_D_sp.binds (ps := ["text", "start", "stop"]) fun _ _ _ _ _ _ us hl => match us, hl with | [_, _, _], _ => rfl) T GVo GSb GDi
  have GIp : Cal l.prog w K mg base 1 "is_part" spIsPart [] := ok_is_part F_D_ip (gl a_D_ip) (F_D_ip.binds (ps := ["start", "stop", "length"]) fun _ _ _ _ _ _ us hl => match us, hl with | [_, _, _], _ => rfl) 
  have GLm : Cal l.prog w K mg base 1 "length_made" spLengthMade [] := ok_length_made F_D_lm (gl a_D_lm) (F_D_lm.binds (ps := ["rule", "lengths"]) fun _ _ _ _ _ _ us hl => match us, hl with | [_, _], _ => rfl) T
  have GLu : Cal l.prog w K mg base 2 "lengths_unchecked" spLengthsU [] := ok_lengths_unchecked F_D_lu (gl a_D_lu) (F_D_lu.binds (ps := ["rules"]) fun _ _ _ _ _ _ us hl => match us, hl with | [_], _ => rfl) T GLm
  have GCo : Cal l.prog w K mg base 1 "copied" spCopied [] := ok_copied F_D_co (gl a_D_co) (F_D_co.binds (ps := ["rules"]) fun _ _ _ _ _ _ us hl => match us, hl with | [_], _ => rfl) T
  have GIw : Cal l.prog w K mg base 1 "is_whole" spIsWhole [] := ok_is_whole F_D_iw (gl a_D_iw) (F_D_iw.binds (ps := ["value"]) fun _ _ _ _ _ _ us hl => match us, hl with | [_], _ => rfl) T
  have GHw : Cal l.prog w K mg base 1 "has_word" spHasWord [] := ok_has_word F_D_hw (gl a_D_hw) (F_D_hw.binds (ps := ["rule"]) fun _ _ _ _ _ _ us hl => match us, hl with | [_], _ => rfl) T Z
  have GAt : Cal l.prog w K mg base 1 "are_told" spAreTold [] := ok_are_told F_D_at (gl a_D_at) (F_D_at.binds (ps := ["letters"]) fun _ _ _ _ _ _ us hl => match us, hl with | [_], _ => rfl) T
  have GFo : Cal l.prog w K mg base 2 "fault_of" spFaultOf [] := ok_fault_of F_D_fo (gl a_D_fo) (F_D_fo.binds (ps := ["rule", "lengths"]) fun _ _ _ _ _ _ us hl => match us, hl with | [_, _], _ => rfl) T Z GHw GAt GIw GIp GLm
  have GLc : Cal l.prog w K mg base 3 "lengths_checked" spLengthsC [] := ok_lengths_checked F_D_lc (gl a_D_lc) (F_D_lc.binds (ps := ["rules"]) fun _ _ _ _ _ _ us hl => match us, hl with | [_], _ => rfl) T GFo GLm
  have GRo : Cal l.prog w K mg base 1 "rules_of" spRulesOf [] := ok_rules_of F_D_ro (gl a_D_ro) (F_D_ro.binds (ps := ["letters"]) fun _ _ _ _ _ _ us hl => match us, hl with | [_], _ => rfl) T
  have GIs : Cal l.prog w K mg base 1 "_law_is_integer" spIsInteger [] := ok_is_integer F_D_ii (gl a_D_ii) (F_D_ii.binds (ps := ["actual"]) fun _ _ _ _ _ _ us hl => match us, hl with | [_], _ => rfl) T
  have GS0 : Cal l.prog w K mg base 2 "_law_same" (spSame 0) [] := ok_same0 F_D_sa (gl a_D_sa) (F_D_sa.binds (ps := ["actual", "due"]) fun _ _ _ _ _ _ us hl => match us, hl with | [_, _], _ => rfl) T GIs
  have GS1 : Cal l.prog w K mg base 3 "_law_same" (spSame 1) [] := ok_same1 F_D_sa (gl a_D_sa) (F_D_sa.binds (ps := ["actual", "due"]) fun _ _ _ _ _ _ us hl => match us, hl with | [_, _], _ => rfl) T GIs (by decide) rfl GS0
  have GS2 : Cal l.prog w K mg base 4 "_law_same" (spSame 2) [] := ok_same1 F_D_sa (gl a_D_sa) (F_D_sa.binds (ps := ["actual", "due"]) fun _ _ _ _ _ _ us hl => match us, hl with | [_, _], _ => rfl) T GIs (by decide) rfl GS1
  have GS : Cal l.prog w K mg base 5 "_law_same" (spSame 3) [] := ok_same1 F_D_sa (gl a_D_sa) (F_D_sa.binds (ps := ["actual", "due"]) fun _ _ _ _ _ _ us hl => match us, hl with | [_, _], _ => rfl) T GIs (by decide) rfl GS2
  have GI : FnOk l.prog w K mg base CX0 4 fI_T _ ["self", "rules"] (spInit C) := ok_init FI_T T D GLc GCo
  have MK : C8.Mak l.prog w K mg base 4 "Text" C (spInit C) [] := ⟨fI_T, _, _, [], M_T, GI, gl T'.at_, bI, .nil⟩
  have OM : FnOk l.prog w K mg base CX0 6 f_mM _ ["cls", "rules"] (spTextMade C) := ok_text_made F_mM D M_T GI bI GCo GLu
  have OO : FnOk l.prog w K mg base CX0 6 f_mO _ ["cls", "letters"] (spOfLetters C) := ok_of_letters F_mO T D M_T GI bI GRo
  have FM : FnR l.prog w K mg base CX0 6 f_mM (spTextMade C) := (OM.raw (F_mM.binds (ps := ["cls", "rules"]) fun _ _ _ _ _ _ us hl => match us, hl with | [_, _], _ => rfl) .nil).imp fun vs H Q E h => by rw [List.append_nil]; exact h
  have FO : FnR l.prog w K mg base CX0 6 f_mO (spOfLetters C) := (OO.raw (F_mO.binds (ps := ["cls", "letters"]) fun _ _ _ _ _ _ us hl => match us, hl with | [_, _], _ => rfl) .nil).imp fun vs H Q E h => by rw [List.append_nil]; exact h
  have GLe : C8.Met l.prog w K mg base 5 C "letter" (spLetter C) [] := ⟨f_mE, fd_mE, _, [], D.cl, h_mE, ok_letter F_mE D GSp, (F_mE.binds (ps := ["self", "place"]) fun _ _ _ _ _ _ us hl => match us, hl with | [_, _], _ => rfl), .nil⟩
  have GLs : C8.Met l.prog w K mg base 5 C "letters" (spLetters C) [] := ⟨f_mS, fd_mS, _, [], D.cl, h_mS, ok_letters F_mS T D GSp GIp, (F_mS.binds (ps := ["self", "start", "stop"]) fun _ _ _ _ _ _ us hl => match us, hl with | [_, _, _], _ => rfl), .nil⟩
  have GRn : Cal l.prog w K mg base 1 "renumbered" spRenumbered [] := ok_renumbered F_D_rn (gl a_D_rn) (F_D_rn.binds (ps := ["rule", "numbers"]) fun _ _ _ _ _ _ us hl => match us, hl with | [_, _], _ => rfl) 
  have GNo : C8.Met l.prog w K mg base 2 CM "number_of" (spNumberOf CM) [] := ⟨f_mNo, fd_mNo, _, [], DM.cl, h_mNo, ok_number_of F_mNo T DM GLm, (F_mNo.binds (ps := ["self", "rule"]) fun _ _ _ _ _ _ us hl => match us, hl with | [_, _], _ => rfl), .nil⟩
  have GMi : FnOk l.prog w K mg base CX0 3 fI_M _ ["self"] (spMakingInit CM) := ok_making_init FI_M DM GNo
  have MKg : C8.Mak l.prog w K mg base 3 "Making" CM (spMakingInit CM) [] := ⟨fI_M, _, _, [], M_M, GMi, gl M'.at_, bM, .nil⟩
  have GTi : C8.Met l.prog w K mg base 3 CM "taken_in" (spTakenIn C CM) [] := ⟨f_mTi, fd_mTi, _, [], DM.cl, h_mTi, ok_taken_in F_mTi T (gn z_max) D DM GRn GNo, (F_mTi.binds (ps := ["self", "text"]) fun _ _ _ _ _ _ us hl => match us, hl with | [_, _], _ => rfl), .nil⟩
  have GPt : C8.Met l.prog w K mg base 3 CM "part" (spPart CM) [] := ⟨f_mPt, fd_mPt, _, [], DM.cl, h_mPt, ok_part F_mPt T DM GNo, (F_mPt.binds (ps := ["self", "number", "start", "stop"]) fun _ _ _ _ _ _ us hl => match us, hl with | [_, _, _, _], _ => rfl), .nil⟩
  have GTn : C8.Met l.prog w K mg base 3 CM "turned" (spTurned CM) [] := ⟨f_mTn, fd_mTn, _, [], DM.cl, h_mTn, ok_turned F_mTn T DM GNo, (F_mTn.binds (ps := ["self", "number"]) fun _ _ _ _ _ _ us hl => match us, hl with | [_, _], _ => rfl), .nil⟩
  have GPw : C8.Met l.prog w K mg base 3 CM "power" (spPower CM) [] := ⟨f_mPw, fd_mPw, _, [], DM.cl, h_mPw, ok_power F_mPw T DM GNo, (F_mPw.binds (ps := ["self", "number", "times"]) fun _ _ _ _ _ _ us hl => match us, hl with | [_, _, _], _ => rfl), .nil⟩
  have GJo : C8.Met l.prog w K mg base 3 CM "joined" (spJoined CM) [] := ⟨f_mJo, fd_mJo, _, [], DM.cl, h_mJo, ok_joined F_mJo T DM GNo, (F_mJo.binds (ps := ["self", "numbers"]) fun _ _ _ _ _ _ us hl => match us, hl with | [_, _], _ => rfl), .nil⟩
  have GMt : C8.Met l.prog w K mg base 7 CM "text" (spMText C CM) [] := ⟨f_mMt, fd_mMt, _, [], DM.cl, h_mMt, ok_mtext F_mMt T ⟨_, gl i_MANY_RULES, ⟨_, rfl⟩⟩ gT D DM ⟨rd1, rd2⟩ h_mM h_mO FM FO GJo GLs, (F_mMt.binds (ps := ["self", "numbers"]) fun _ _ _ _ _ _ us hl => match us, hl with | [_, _], _ => rfl), .nil⟩
  have ZP : ErrAt l.prog w K mg base "NoPart" CP ["self", "start", "stop"] (spErr2 CP "start" "stop") := by
    obtain ⟨fI, cc, ca, kV, doc, pm, ct, an, h1, h2, h3, h4⟩ := xP.fn
    exact ⟨xP.ex, gl xP.at_, fI, _, h1, h2, ok_nopart (h4 mg (gn z_super)) h3 n_xP_start n_xP_stop, fun s us _ hl => match us, hl with | [_, _, _], _ => .of_eq rfl⟩
  have ZQ : ErrAt l.prog w K mg base "NoPlace" CQ ["self", "place"] (spErr1 CQ "place") := by
    obtain ⟨fI, cc, ca, kV, doc, pm, ct, an, h1, h2, h3, h4⟩ := xQ.fn
    exact ⟨xQ.ex, gl xQ.at_, fI, _, h1, h2, ok_noplace (h4 mg (gn z_super)) h3 n_xQ_place, fun s us _ hl => match us, hl with | [_, _], _ => .of_eq rfl⟩
  have PT : PlainErr K mg "BadTimes" CT := ⟨⟨_, PySem.F.excBase_ValueError, xT.x⟩, gl xT.at_, xT.k, xT.e, xT.t⟩
  have PL : PlainErr K mg "TooLarge" CL := ⟨⟨_, PySem.F.excBase_ValueError, xL.x⟩, gl xL.at_, xL.k, xL.e, xL.t⟩
  have GCp : CalX l.prog w K mg base 4 "check_part" (spCheckPart C CP) := ok_check_part F_D_cp (gl a_D_cp) (F_D_cp.binds (ps := ["text", "start", "stop"]) fun _ _ _ _ _ _ us hl => match us, hl with | [_, _, _], _ => rfl) D ZP GIp
  have GCq : CalX l.prog w K mg base 4 "check_place" (spCheckPlace C CQ) := ok_check_place F_D_cq (gl a_D_cq) (F_D_cq.binds (ps := ["text", "place"]) fun _ _ _ _ _ _ us hl => match us, hl with | [_, _], _ => rfl) D ZQ
  have GCs : CalX l.prog w K mg base 1 "check_size" (spCheckSize CL) := ok_check_size F_D_cs (gl a_D_cs) (F_D_cs.binds (ps := ["length"]) fun _ _ _ _ _ _ us hl => match us, hl with | [_], _ => rfl) T PL
  have GMa : Cal l.prog w K mg base 8 "made_around" (spMadeAround C CM) [] := ok_made_around F_D_ar (gl a_D_ar) (F_D_ar.binds (ps := ["making", "number", "start", "stop", "middle"]) fun _ _ _ _ _ _ us hl => match us, hl with | [_, _, _, _, _], _ => rfl) DM GPt GMt
  have GPo : CalX l.prog w K mg base 9 "part_of" (spPartOf C CP) := ok_part_of F_D_po (gl a_D_po) (F_D_po.binds (ps := ["text", "start", "stop"]) fun _ _ _ _ _ _ us hl => match us, hl with | [_, _, _], _ => rfl) GCp MKg GTi GPt GMt
  have GRm : CalX l.prog w K mg base 9 "remove_part" (spRemovePart C CP) := ok_remove_part F_D_rm (gl a_D_rm) (F_D_rm.binds (ps := ["text", "start", "stop"]) fun _ _ _ _ _ _ us hl => match us, hl with | [_, _, _], _ => rfl) DM GCp MKg GTi GMa
  have GRp : CalX l.prog w K mg base 9 "replace_part" (spReplacePart C CP CL) := ok_replace_part F_D_rp (gl a_D_rp) (F_D_rp.binds (ps := ["text", "start", "stop", "other"]) fun _ _ _ _ _ _ us hl => match us, hl with | [_, _, _, _], _ => rfl) D GCp GCs MKg GTi GMa
  have GIa : CalX l.prog w K mg base 10 "insert_at" (spInsertAt C CQ CL) := ok_insert_at F_D_ia (gl a_D_ia) (F_D_ia.binds (ps := ["text", "place", "other"]) fun _ _ _ _ _ _ us hl => match us, hl with | [_, _, _], _ => rfl) GCq GRp
  have GMv : CalX l.prog w K mg base 9 "move_part" (spMovePart C CP CQ) := ok_move_part F_D_mv (gl a_D_mv) (F_D_mv.binds (ps := ["text", "start", "stop", "place"]) fun _ _ _ _ _ _ us hl => match us, hl with | [_, _, _, _], _ => rfl) D GCp ZQ MKg GTi GPt GJo GMa
  have GTp : CalX l.prog w K mg base 9 "turn_part" (spTurnPart C CP) := ok_turn_part F_D_tp (gl a_D_tp) (F_D_tp.binds (ps := ["text", "start", "stop"]) fun _ _ _ _ _ _ us hl => match us, hl with | [_, _, _], _ => rfl) GCp MKg GTi GPt GTn GMa
  have GRt : CalX l.prog w K mg base 9 "repeat_part" (spRepeatPart C CP CT CL) := ok_repeat_part F_D_rt (gl a_D_rt) (F_D_rt.binds (ps := ["text", "start", "stop", "times"]) fun _ _ _ _ _ _ us hl => match us, hl with | [_, _, _, _], _ => rfl) T D GCp GCs PT MKg GTi GPt GPw GMa
  have GSl : Cal l.prog w K mg base 1 "_law_seg_length" spSegLen [] := ok_seglen F_D_sl (gl a_D_sl) (F_D_sl.binds (ps := ["row"]) fun _ _ _ _ _ _ us hl => match us, hl with | [_], _ => rfl) T (gn z_sum)
  have GSle : Cal l.prog w K mg base 1 "_law_seg_letter" spSegLetter [] := ok_segletter F_D_sle (gl a_D_sle) (F_D_sle.binds (ps := ["row", "place"]) fun _ _ _ _ _ _ us hl => match us, hl with | [_, _], _ => rfl) T
  have GSpa : Cal l.prog w K mg base 1 "_law_seg_part" spSegPart [] := ok_segpart F_D_spa (gl a_D_spa) (F_D_spa.binds (ps := ["row", "first", "last"]) fun _ _ _ _ _ _ us hl => match us, hl with | [_, _, _], _ => rfl) T (gn z_max) (gn z_min)
  have GSt : Cal l.prog w K mg base 1 "_law_seg_turned" spSegTurn [] := ok_segturn F_D_stu (gl a_D_stu) (F_D_stu.binds (ps := ["row"]) fun _ _ _ _ _ _ us hl => match us, hl with | [_], _ => rfl) T
  have GSa : Cal l.prog w K mg base 6 "_law_seg_agrees" (spSegAgrees C) [] := ok_segagrees F_D_sag (gl a_D_sag) (F_D_sag.binds (ps := ["pool", "text", "row"]) fun _ _ _ _ _ _ us hl => match us, hl with | [_, _, _], _ => rfl) T D (gn z_max) (gn z_min) G GS GSl GSle GLe GLs
  have GGr : Cal l.prog w K mg base 6 "_law_great" (spGreat C) [] := ok_great F_D_gr (gl a_D_gr) (F_D_gr.binds (ps := ["pool"]) fun _ _ _ _ _ _ us hl => match us, hl with | [_], _ => rfl) T G MK
  have GWa : Cal l.prog w K mg base 3 "_law_wanted" spWanted [] := ok_wanted F_D_wa (gl a_D_wa) (F_D_wa.binds (ps := ["pool", "row", "other"]) fun _ _ _ _ _ _ us hl => match us, hl with | [_, _, _], _ => rfl) T (gn z_min) G GSl GSpa GSt
  have GDn : CalX l.prog w K mg base 11 "_law_done" (spDone C CL) := ok_done (CP := CP) (CQ := CQ) (CT := CT) F_D_dn (gl a_D_dn) (F_D_dn.binds (ps := ["text", "other", "call"]) fun _ _ _ _ _ _ us hl => match us, hl with | [_, _, _], _ => rfl) GPo GRm GRp GIa GMv GTp GRt
  have GTo : Cal l.prog w K mg base 12 "_law_told" (spTold C) [] := ok_told (CL := CL) (CH := CH) F_D_to (gl a_D_to) (F_D_to.binds (ps := ["text", "other", "call"]) fun _ _ _ _ _ _ us hl => match us, hl with | [_, _, _], _ => rfl) T (gl xL.at_) ⟨_, gl aH, rfl⟩ xL.is xL.exm xL.kH GDn
  have IC : C8.InsC K C := ⟨T'.cl, ic1, ic2, ic3, ic4, ic5⟩
  have GIf : Cal l.prog w K mg base 13 "_law_is_full" (spIsFull C) [] := ok_isfull F_D_if (gl a_D_if) (F_D_if.binds (ps := ["pool", "text", "row"]) fun _ _ _ _ _ _ us hl => match us, hl with | [_, _, _], _ => rfl) T gT IC ⟨rd1, rd2⟩ h_mO FO G MK GSl GSpa GSa GTo
  exact ok_law FL T D gT IC GP G GGr GWa GS GSl GSa GTo GIf
end K4
open PySem PySem.W PyProof.Rows in
set_option maxRecDepth 100000 in
set_option maxHeartbeats 0 in
theorem PySem.Challenge.cw_shortheld_k44_great_changes_holds : PySem.Challenge.rw_shortheld_k44_great_changes.Holds := by
  w_on; o_law; k_head; (case hw => w_witness2)
  k_fill
  refine L2.walk_of (l := PySem.Challenge.rw_shortheld_k44_great_changes) (n := 63) (k := 14) (x := "script") (CX := fun _ => L2.CX0) (sp := fun w => K4.spLaw _) rfl (by decide) rfl ⟨rfl, by decide, by decide⟩ (fun w h Y => PySem.W.kIn_of Y) ?F (fun _ _ a ns hl _ hS => ⟨a, ns, rfl, hS, hl, fun _ => rfl⟩) (fun _ _ _ _ _ h => h)
  case F =>
    intro w mg fa h KX G hmg
    refine' K4.all_mk KX G hmg ?aL ?lL ?cL ?kL ?D_vo ?D_se ?D_de ?D_sb ?D_di ?D_dp ?D_iw ?D_hw ?D_at ?D_ip ?D_lm ?D_fo ?D_lc ?D_lu ?D_co ?D_ro ?D_sp ?D_rn ?D_pool ?D_take ?D_ii ?D_sa ?T' ?n_T_rules ?n_T_lengths ?n_T_length ?M' ?n_M_rules ?n_M_lengths ?n_M_numbers ?n_M_nothing ?n_M_most_taken ?mM ?mO ?mE ?mS ?mNo ?mTi ?mPt ?mTn ?mPw ?mJo ?mMt ?z_len ?z_int ?z_range ?z_tuple ?z_list ?z_isinstance ?z_all ?z_reversed ?z_bool ?z_str ?z_enumerate ?z_max ?z_min ?z_super ?i_MOST_RULES ?i_MOST_TOLD ?i_MOST_TIMES ?i_MOST_LETTERS ?i_MOST_SPELLED ?i_MANY_RULES ?aH ?xP ?n_xP_start ?n_xP_stop ?xQ ?n_xQ_place ?xT ?xL ?D_cq ?D_cp ?D_cs ?D_po ?D_rm ?D_rp ?D_ia ?D_mv ?D_tp ?D_rt ?D_ar ?D_sl ?D_sle ?D_spa ?D_stu ?D_sag ?D_gr ?D_wa ?D_dn ?D_to ?D_if ?ic1 ?ic2 ?ic3 ?ic4 ?ic5 ?z_sum ?rd1 ?rd2 ?i_LETTERS ?i_SIZES ?dl ?dk ?ds ?s_letters ?s_join ?s_power ?s_part ?s_back
    (case aL => k_is)
    (case lL => k_is)
    (case cL => k_is)
    (case kL => k_is)
    (case D_vo => refine' K4.def_mk ?a ?l ?c ?k; (case a => k_is); (case l => k_is); (case c => k_is); (case k => k_is))
    (case D_se => refine' K4.def_mk ?a ?l ?c ?k; (case a => k_is); (case l => k_is); (case c => k_is); (case k => k_is))
    (case D_de => refine' K4.def_mk ?a ?l ?c ?k; (case a => k_is); (case l => k_is); (case c => k_is); (case k => k_is))
    (case D_sb => refine' K4.def_mk ?a ?l ?c ?k; (case a => k_is); (case l => k_is); (case c => k_is); (case k => k_is))
    (case D_di => refine' K4.def_mk ?a ?l ?c ?k; (case a => k_is); (case l => k_is); (case c => k_is); (case k => k_is))
    (case D_dp => refine' K4.def_mk ?a ?l ?c ?k; (case a => k_is); (case l => k_is); (case c => k_is); (case k => k_is))
    (case D_iw => refine' K4.def_mk ?a ?l ?c ?k; (case a => k_is); (case l => k_is); (case c => k_is); (case k => k_is))
    (case D_hw => refine' K4.def_mk ?a ?l ?c ?k; (case a => k_is); (case l => k_is); (case c => k_is); (case k => k_is))
    (case D_at => refine' K4.def_mk ?a ?l ?c ?k; (case a => k_is); (case l => k_is); (case c => k_is); (case k => k_is))
    (case D_ip => refine' K4.def_mk ?a ?l ?c ?k; (case a => k_is); (case l => k_is); (case c => k_is); (case k => k_is))
    (case D_lm => refine' K4.def_mk ?a ?l ?c ?k; (case a => k_is); (case l => k_is); (case c => k_is); (case k => k_is))
    (case D_fo => refine' K4.def_mk ?a ?l ?c ?k; (case a => k_is); (case l => k_is); (case c => k_is); (case k => k_is))
    (case D_lc => refine' K4.def_mk ?a ?l ?c ?k; (case a => k_is); (case l => k_is); (case c => k_is); (case k => k_is))
    (case D_lu => refine' K4.def_mk ?a ?l ?c ?k; (case a => k_is); (case l => k_is); (case c => k_is); (case k => k_is))
    (case D_co => refine' K4.def_mk ?a ?l ?c ?k; (case a => k_is); (case l => k_is); (case c => k_is); (case k => k_is))
    (case D_ro => refine' K4.def_mk ?a ?l ?c ?k; (case a => k_is); (case l => k_is); (case c => k_is); (case k => k_is))
    (case D_sp => refine' K4.def_mk ?a ?l ?c ?k; (case a => k_is); (case l => k_is); (case c => k_is); (case k => k_is))
    (case D_rn => refine' K4.def_mk ?a ?l ?c ?k; (case a => k_is); (case l => k_is); (case c => k_is); (case k => k_is))
    (case D_pool => refine' K4.def_mk ?a ?l ?c ?k; (case a => k_is); (case l => k_is); (case c => k_is); (case k => k_is))
    (case D_take => refine' K4.def_mk ?a ?l ?c ?k; (case a => k_is); (case l => k_is); (case c => k_is); (case k => k_is))
    (case D_ii => refine' K4.def_mk ?a ?l ?c ?k; (case a => k_is); (case l => k_is); (case c => k_is); (case k => k_is))
    (case D_sa => refine' K4.def_mk ?a ?l ?c ?k; (case a => k_is); (case l => k_is); (case c => k_is); (case k => k_is))
    (case T' => refine' K4.class_mk ?a1 ?a2 ?a3 ?a4 ?a5 ?a6 ?a7 ?b1 ?b2 ?b3 ?b4 ?b5; (case a1 => k_is); (case a2 => k_is); (case a3 => k_is); (case a4 => k_is); (case a5 => k_is); (case a6 => k_is); (case a7 => k_is); (case b1 => k_is); (case b2 => k_is); (case b3 => k_is); (case b4 => k_is); (case b5 => k_is))
    (case n_T_rules => k_is)
    (case n_T_lengths => k_is)
    (case n_T_length => k_is)
    (case M' => refine' K4.class_mk ?a1 ?a2 ?a3 ?a4 ?a5 ?a6 ?a7 ?b1 ?b2 ?b3 ?b4 ?b5; (case a1 => k_is); (case a2 => k_is); (case a3 => k_is); (case a4 => k_is); (case a5 => k_is); (case a6 => k_is); (case a7 => k_is); (case b1 => k_is); (case b2 => k_is); (case b3 => k_is); (case b4 => k_is); (case b5 => k_is))
    (case n_M_rules => k_is)
    (case n_M_lengths => k_is)
    (case n_M_numbers => k_is)
    (case n_M_nothing => k_is)
    (case n_M_most_taken => k_is)
    (case mM => refine' K4.cmeth_mk ?a ?r ?i ?l ?c ?k; (case a => k_is); (case r => k_is); (case i => k_is); (case l => k_is); (case c => k_is); (case k => k_is))
    (case mO => refine' K4.cmeth_mk ?a ?r ?i ?l ?c ?k; (case a => k_is); (case r => k_is); (case i => k_is); (case l => k_is); (case c => k_is); (case k => k_is))
    (case mE => refine' K4.meth_mk ?a ?i ?l ?c ?k; (case a => k_is); (case i => k_is); (case l => k_is); (case c => k_is); (case k => k_is))
    (case mS => refine' K4.meth_mk ?a ?i ?l ?c ?k; (case a => k_is); (case i => k_is); (case l => k_is); (case c => k_is); (case k => k_is))
    (case mNo => refine' K4.meth_mk ?a ?i ?l ?c ?k; (case a => k_is); (case i => k_is); (case l => k_is); (case c => k_is); (case k => k_is))
    (case mTi => refine' K4.meth_mk ?a ?i ?l ?c ?k; (case a => k_is); (case i => k_is); (case l => k_is); (case c => k_is); (case k => k_is))
    (case mPt => refine' K4.meth_mk ?a ?i ?l ?c ?k; (case a => k_is); (case i => k_is); (case l => k_is); (case c => k_is); (case k => k_is))
    (case mTn => refine' K4.meth_mk ?a ?i ?l ?c ?k; (case a => k_is); (case i => k_is); (case l => k_is); (case c => k_is); (case k => k_is))
    (case mPw => refine' K4.meth_mk ?a ?i ?l ?c ?k; (case a => k_is); (case i => k_is); (case l => k_is); (case c => k_is); (case k => k_is))
    (case mJo => refine' K4.meth_mk ?a ?i ?l ?c ?k; (case a => k_is); (case i => k_is); (case l => k_is); (case c => k_is); (case k => k_is))
    (case mMt => refine' K4.meth_mk ?a ?i ?l ?c ?k; (case a => k_is); (case i => k_is); (case l => k_is); (case c => k_is); (case k => k_is))
    (case z_len => k_is)
    (case z_int => k_is)
    (case z_range => k_is)
    (case z_tuple => k_is)
    (case z_list => k_is)
    (case z_isinstance => k_is)
    (case z_all => k_is)
    (case z_reversed => k_is)
    (case z_bool => k_is)
    (case z_str => k_is)
    (case z_enumerate => k_is)
    (case z_max => k_is)
    (case z_min => k_is)
    (case z_super => k_is)
    (case i_MOST_RULES => k_is)
    (case i_MOST_TOLD => k_is)
    (case i_MOST_TIMES => k_is)
    (case i_MOST_LETTERS => k_is)
    (case i_MOST_SPELLED => k_is)
    (case i_MANY_RULES => k_is)
    (case aH => k_is)
    (case xP => refine' K4.err_mk ?a1 ?a2 ?a3 ?a4 ?a5 ?a6 ?a7 ?a8 ?a9 ?b1 ?b2 ?b3 ?b4 ?b5 ?b6 ?b7 ?b8 ?c3 ?c4 ?c5 ?c6 ?c7 ?c8 ?c9 ?e1 ?e2 ?e3 ?e4 ?e5 ?e6 ?e7 ?e8; (case a1 => k_is); (case a2 => k_is); (case a3 => first | rfl | decide +kernel); (case a4 => k_is); (case a5 => k_is); (case a6 => k_is); (case a7 => k_is); (case a8 => k_is); (case a9 => k_is); (case b1 => k_is); (case b2 => k_is); (case b3 => k_is); (case b4 => first | k_is | rfl | kernel_rfl); (case b5 => first | k_is | rfl | kernel_rfl); (case b6 => first | k_is | rfl | kernel_rfl); (case b7 => first | k_is | rfl | kernel_rfl); (case b8 => first | k_is | rfl | kernel_rfl); (case c3 => k_is); (case c4 => k_is); (case c5 => k_is); (case c6 => k_is); (case c7 => k_is); (case c8 => first | rfl | decide +kernel); (case c9 => first | rfl | decide +kernel); (case e1 => k_is); (case e2 => first | k_is | rfl | kernel_rfl); (case e3 => first | ks_is | rfl | kernel_rfl); (case e4 => k_is); (case e5 => k_is); (case e6 => first | rfl | decide +kernel); (case e7 => first | rfl | decide +kernel); (case e8 => first | rfl | decide +kernel))
    (case n_xP_start => k_is)
    (case n_xP_stop => k_is)
    (case xQ => refine' K4.err_mk ?a1 ?a2 ?a3 ?a4 ?a5 ?a6 ?a7 ?a8 ?a9 ?b1 ?b2 ?b3 ?b4 ?b5 ?b6 ?b7 ?b8 ?c3 ?c4 ?c5 ?c6 ?c7 ?c8 ?c9 ?e1 ?e2 ?e3 ?e4 ?e5 ?e6 ?e7 ?e8; (case a1 => k_is); (case a2 => k_is); (case a3 => first | rfl | decide +kernel); (case a4 => k_is); (case a5 => k_is); (case a6 => k_is); (case a7 => k_is); (case a8 => k_is); (case a9 => k_is); (case b1 => k_is); (case b2 => k_is); (case b3 => k_is); (case b4 => first | k_is | rfl | kernel_rfl); (case b5 => first | k_is | rfl | kernel_rfl); (case b6 => first | k_is | rfl | kernel_rfl); (case b7 => first | k_is | rfl | kernel_rfl); (case b8 => first | k_is | rfl | kernel_rfl); (case c3 => k_is); (case c4 => k_is); (case c5 => k_is); (case c6 => k_is); (case c7 => k_is); (case c8 => first | rfl | decide +kernel); (case c9 => first | rfl | decide +kernel); (case e1 => k_is); (case e2 => first | k_is | rfl | kernel_rfl); (case e3 => first | ks_is | rfl | kernel_rfl); (case e4 => k_is); (case e5 => k_is); (case e6 => first | rfl | decide +kernel); (case e7 => first | rfl | decide +kernel); (case e8 => first | rfl | decide +kernel))
    (case n_xQ_place => k_is)
    (case xT => refine' K4.plain_mk ?a1 ?x1 ?a5 ?a6 ?a7 ?a8 ?a9 ?b1 ?b2 ?b3 ?b4 ?b5 ?b6 ?b7; (case a1 => k_is); (case x1 => k_exc); (case a5 => k_is); (case a6 => k_is); (case a7 => k_is); (case a8 => k_is); (case a9 => k_is); (case b1 => k_is); (case b2 => k_is); (case b3 => k_is); (case b4 => first | k_is | rfl | kernel_rfl); (case b5 => first | k_is | rfl | kernel_rfl); (case b6 => first | k_is | rfl | kernel_rfl); (case b7 => first | k_is | rfl | kernel_rfl))
    (case xL => refine' K4.plain_mk ?a1 ?x1 ?a5 ?a6 ?a7 ?a8 ?a9 ?b1 ?b2 ?b3 ?b4 ?b5 ?b6 ?b7; (case a1 => k_is); (case x1 => k_exc); (case a5 => k_is); (case a6 => k_is); (case a7 => k_is); (case a8 => k_is); (case a9 => k_is); (case b1 => k_is); (case b2 => k_is); (case b3 => k_is); (case b4 => first | k_is | rfl | kernel_rfl); (case b5 => first | k_is | rfl | kernel_rfl); (case b6 => first | k_is | rfl | kernel_rfl); (case b7 => first | k_is | rfl | kernel_rfl))
    (case D_cq => refine' K4.def_mk ?a ?l ?c ?k; (case a => k_is); (case l => k_is); (case c => k_is); (case k => k_is))
    (case D_cp => refine' K4.def_mk ?a ?l ?c ?k; (case a => k_is); (case l => k_is); (case c => k_is); (case k => k_is))
    (case D_cs => refine' K4.def_mk ?a ?l ?c ?k; (case a => k_is); (case l => k_is); (case c => k_is); (case k => k_is))
    (case D_po => refine' K4.def_mk ?a ?l ?c ?k; (case a => k_is); (case l => k_is); (case c => k_is); (case k => k_is))
    (case D_rm => refine' K4.def_mk ?a ?l ?c ?k; (case a => k_is); (case l => k_is); (case c => k_is); (case k => k_is))
    (case D_rp => refine' K4.def_mk ?a ?l ?c ?k; (case a => k_is); (case l => k_is); (case c => k_is); (case k => k_is))
    (case D_ia => refine' K4.def_mk ?a ?l ?c ?k; (case a => k_is); (case l => k_is); (case c => k_is); (case k => k_is))
    (case D_mv => refine' K4.def_mk ?a ?l ?c ?k; (case a => k_is); (case l => k_is); (case c => k_is); (case k => k_is))
    (case D_tp => refine' K4.def_mk ?a ?l ?c ?k; (case a => k_is); (case l => k_is); (case c => k_is); (case k => k_is))
    (case D_rt => refine' K4.def_mk ?a ?l ?c ?k; (case a => k_is); (case l => k_is); (case c => k_is); (case k => k_is))
    (case D_ar => refine' K4.def_mk ?a ?l ?c ?k; (case a => k_is); (case l => k_is); (case c => k_is); (case k => k_is))
    (case D_sl => refine' K4.def_mk ?a ?l ?c ?k; (case a => k_is); (case l => k_is); (case c => k_is); (case k => k_is))
    (case D_sle => refine' K4.def_mk ?a ?l ?c ?k; (case a => k_is); (case l => k_is); (case c => k_is); (case k => k_is))
    (case D_spa => refine' K4.def_mk ?a ?l ?c ?k; (case a => k_is); (case l => k_is); (case c => k_is); (case k => k_is))
    (case D_stu => refine' K4.def_mk ?a ?l ?c ?k; (case a => k_is); (case l => k_is); (case c => k_is); (case k => k_is))
    (case D_sag => refine' K4.def_mk ?a ?l ?c ?k; (case a => k_is); (case l => k_is); (case c => k_is); (case k => k_is))
    (case D_gr => refine' K4.def_mk ?a ?l ?c ?k; (case a => k_is); (case l => k_is); (case c => k_is); (case k => k_is))
    (case D_wa => refine' K4.def_mk ?a ?l ?c ?k; (case a => k_is); (case l => k_is); (case c => k_is); (case k => k_is))
    (case D_dn => refine' K4.def_mk ?a ?l ?c ?k; (case a => k_is); (case l => k_is); (case c => k_is); (case k => k_is))
    (case D_to => refine' K4.def_mk ?a ?l ?c ?k; (case a => k_is); (case l => k_is); (case c => k_is); (case k => k_is))
    (case D_if => refine' K4.def_mk ?a ?l ?c ?k; (case a => k_is); (case l => k_is); (case c => k_is); (case k => k_is))
    (case ic1 => first | k_is | rfl | kernel_rfl)
    (case ic2 => first | k_is | rfl | kernel_rfl)
    (case ic3 => first | k_is | rfl | kernel_rfl)
    (case ic4 => first | k_is | rfl | kernel_rfl)
    (case ic5 => first | k_is | rfl | kernel_rfl)
    (case z_sum => k_is)
    (case rd1 => k_is)
    (case rd2 => k_is)
    (case i_LETTERS => k_is)
    (case i_SIZES => k_is)
    (case dl => k_is)
    (case dk => k_keys)
    (case ds => decide)
    (case s_letters => k_is)
    (case s_join => k_is)
    (case s_power => k_is)
    (case s_part => k_is)
    (case s_back => k_is)
