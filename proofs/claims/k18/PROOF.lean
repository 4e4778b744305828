import PyProof.Rows.All
import Wide.All
import OpenK.AllK
import Wide.FinOn
import HandS.ForMost
import HandS.Codes
import HandS.IsInst
import HandS.Star
import HandS.Style
import HandS.TupAny
import HandS.Flow
import HandS.Wide
import PySem.Challenge.RW_shortheld_k18_progressions
set_option Elab.async false
set_option linter.all false
set_option maxRecDepth 100000
set_option maxHeartbeats 4000000
namespace K4
open PySem PySem.Spec PyProof.Rows L2 SX
open C8 (Cal pe_c pss_cut)
def top (i : Nat) : Stmt := PySem.Challenge.pw_shortheld_k18_progressions.main.body.getD i (.Pass ⟨0, 0, 0, 0⟩)
abbrev sCut : Stmt := top 1
abbrev sMany : Stmt := top 2
abbrev sLonger : Stmt := top 3
abbrev sPool : Stmt := top 5
abbrev sTake : Stmt := top 6
abbrev sIsInt : Stmt := top 7
abbrev sSame : Stmt := top 8
abbrev sLCut : Stmt := top 9
abbrev sLRows : Stmt := top 10
abbrev sLaw : Stmt := top 11
structure Txt (mg : Str → Option Value) : Prop where
  len : mg "len" = none
  int : mg "int" = none
  range : mg "range" = none
  tuple : mg "tuple" = none
  list : mg "list" = none
  isinstance : mg "isinstance" = none
  all : mg "all" = none
  bool : mg "bool" = none
  str : mg "str" = none
  max : mg "max" = none

/-! ### heaps -/
def Frm (p : Addr) (H H' : Hp) : Prop := ∀ b o, b ≠ p → H b = some o → H' b = some o
theorem Frm.refl {p : Addr} {H : Hp} : Frm p H H := fun _ _ _ h => h
theorem Frm.trans {p : Addr} {H H1 H2 : Hp} (a : Frm p H H1) (b : Frm p H1 H2) : Frm p H H2 := fun c o n h => b c o n (a c o n h)
theorem Frm.upd {p : Addr} {H H1 : Hp} {o : HO} (a : Frm p H H1) : Frm p H (upd H1 p o) := fun c u n h => by
  rw [upd_ne n]
  exact a c u n h
theorem Frm.new {p q : Addr} {H H1 : Hp} {o : HO} (a : Frm p H H1) (hq : H1 q = none) : Frm p H (L2.upd H1 q o) := fun c u n h => by
  have h1 := a c u n h
  rw [upd_ne (ne_of_none h1 hq)]
  exact h1
theorem Same.frm {p : Addr} {H H' : Hp} (s : Same H H') : Frm p H H' := fun b o _ h => s b o h
theorem same_new {H : Hp} {p : Addr} {o : HO} (h : H p = none) : Same H (upd H p o) := fun b u q => by rw [upd_ne (ne_of_none q h)]; exact q

/-! ### the pool -/
structure PoolIs (H : Hp) (p c : Addr) (pos left seed : Int) (xs : List Int) : Prop where
  at_ : H p = some (.lst [.ref c, .int pos, .int left, .int seed])
  cells : H c = some (.lst (xs.map V.int))
  ne : c ≠ p
  nn : ∀ x ∈ xs, (0 : Int) ≤ x
  pos0 : 0 ≤ pos
  left0 : 0 ≤ left
  seed0 : 0 ≤ seed
  seed1 : seed < 2147483647
  len : xs.length ≤ 63
def Pool (H : Hp) (p c : Addr) : Prop := ∃ pos left seed xs, PoolIs H p c pos left seed xs
theorem PoolIs.put {H : Hp} {p c : Addr} {pos left seed pos' left' seed' : Int} {xs : List Int} (h : PoolIs H p c pos left seed xs) (h1 : 0 ≤ pos') (h2 : 0 ≤ left') (h3 : 0 ≤ seed') (h4 : seed' < 2147483647) :
    PoolIs (upd H p (.lst [.ref c, .int pos', .int left', .int seed'])) p c pos' left' seed' xs :=
  ⟨upd_same, by rw [upd_ne h.ne]; exact h.cells, h.ne, h.nn, h1, h2, h3, h4, h.len⟩
theorem Pool.same {H H' : Hp} {p c : Addr} (h : Pool H p c) (s : Same H H') : Pool H' p c := by
  obtain ⟨pos, left, seed, xs, h⟩ := h
  exact ⟨pos, left, seed, xs, s _ _ h.at_, s _ _ h.cells, h.ne, h.nn, h.pos0, h.left0, h.seed0, h.seed1, h.len⟩
theorem Pool.new {H : Hp} {p c q : Addr} {o : HO} (h : Pool H p c) (n : H q = none) : Pool (upd H q o) p c := h.same (same_new n)
theorem Pool.ne {H : Hp} {p c q : Addr} (h : Pool H p c) (n : H q = none) : q ≠ p ∧ q ≠ c := by
  obtain ⟨pos, left, seed, xs, h⟩ := h
  exact ⟨(ne_of_none h.at_ n).symm, (ne_of_none h.cells n).symm⟩
theorem Pool.upd {H : Hp} {p c q : Addr} {o : HO} (h : Pool H p c) (n : q ≠ p ∧ q ≠ c) : Pool (L2.upd H q o) p c := by
  obtain ⟨pos, left, seed, xs, h⟩ := h
  exact ⟨pos, left, seed, xs, by rw [upd_ne n.1.symm]; exact h.at_, by rw [upd_ne n.2.symm]; exact h.cells, h.ne, h.nn, h.pos0, h.left0, h.seed0, h.seed1, h.len⟩
theorem Frm.none {H H' : Hp} {p q : Addr} (f : Frm p H H') (n : H' q = Option.none) (h : q ≠ p) : H q = Option.none := by
  cases e : H q with
  | none => rfl
  | some o =>
    rw [f q o h e] at n
    cases n
theorem Frm.updN {H H' : Hp} {p q : Addr} {o : HO} (f : Frm p H H') (n : H q = Option.none) : Frm p H (L2.upd H' q o) := fun b u hb e => by
  rw [upd_ne (ne_of_none e n)]
  exact f b u hb e

def mix (seed cell pos : Int) : Int := (seed * 48271 + cell * 69621 + (pos + 1) * 613) % 2147483647
def spTake1 : Sp := fun vs H Q _ => ∃ (p c : Addr) (many pos left seed : Int) (xs : List Int), vs = [.ref p, .int many] ∧ 0 < many ∧ many ≤ 2000000000000 ∧ PoolIs H p c pos left seed xs ∧ 0 < left ∧
  ∀ r H', 0 ≤ r → r < many → Pool H' p c → Frm p H H' → Q (.int r) H'
def spTake : Sp := fun vs H Q _ => ∃ (p c : Addr) (many : Int), vs = [.ref p, .int many] ∧ 0 < many ∧ many ≤ 2000000000000 ∧ Pool H p c ∧
  ∀ r H', 0 ≤ r → r < many → Pool H' p c → Frm p H H' → Q (.int r) H'

section
variable {P : Program} {w : World} {K : PySem.W.Frag} {mg : Str → Option Value} {base : Heap}
theorem mkCal {x : Str} {st : Stmt} {f : Addr} {fd : FuncData} {N ps : List Str} {k : Nat} {sp : Sp} (F : Fun K x x st f fd) (hm : mg x = some (.ref f)) (b : Binds K fd ps []) (S : FnScope N ps (defScope st)) (len : ∀ vs H Q E, sp vs H Q E → vs.length = ps.length)
    (hbody : ∀ (cdv : Value) (A : Around) (outer : List Env) (s : Shared) (H : Hp) (vs : List V) (Q : VK) (E : XK), Room k (A.deeper (envOfC x (defScope st) s.heap.objs.size f cdv)) → sp vs H Q E →
      ∃ t, PSs (cxOf CX0 P w K mg base N x (defScope st) f cdv A outer s H E).nox (defBody st) t ∧ t { nx := fun _ H' => Q .non H', rt := Q } (start N vs) H) : Cal P w K mg base (k + 1) x sp [] :=
  ⟨f, fd, ps, [], F.ok S len hbody, hm, F.kp, b, .nil⟩

theorem scTake : FnScope ["pool", "many", "digit", "cell", "mixed"] ["pool", "many"] (defScope sTake) := ⟨rfl, rfl, rfl, by decide +kernel, rfl, by decide +kernel, by decide +kernel⟩
theorem ok_take1 {f : Addr} {fd : FuncData} (F : Fun K "_law_take" "_law_take" sTake f fd) (hm : mg "_law_take" = some (.ref f)) (b : Binds K fd ["pool", "many"] []) (T : Txt mg) : Cal P w K mg base 1 "_law_take" spTake1 [] := by
  refine mkCal F hm b scTake (fun vs H Q E h => ?_) (fun cdv A outer s H vs Q E hr h => ?_)
  · obtain ⟨p, c, many, pos, left, seed, xs, rfl, _⟩ := h
    rfl
  obtain ⟨p, c, many, pos, left, seed, xs, rfl, m0, m1, hP, l0, q⟩ := h
  refine ⟨_, pss_cons (ps_if (pt_cmpR op_gt (pe_ix ix_list (pv 0) pe_int (fun _ _ => rfl)) pe_int (nomark _))
    (pss_cons (ps_set (i := 2) scTake.nd rfl (.inl rfl) (pe_op op_mod (pe_callTy call_int1 (by rfl) T.int (by decide +kernel) (pa_cons (pe_ix ix_list (pv 0) pe_int (fun _ _ => rfl)) pa_nil)) (pv 1)))
    (pss_cons (ps_asg (pe_op op_fdivW (pe_ix ix_list (pv 0) pe_int (fun _ _ => rfl)) (pv 1)) (pg_sub (pv 0) pe_int set_list))
    (pss_one (ps_ret (pv 2))))) pss_nil) pss_never, ?_⟩
  have hL : SqL K H p _ := SqL.of hP.at_
  refine ⟨_, rfl, p, _, 2, .int left, rfl, rfl, hL, at_of (j := 2) rfl rfl, left, 0, rfl, rfl, _, rfl, ?_⟩
  refine ite2 (fun _ => ?_) (fun z => absurd (decide_eq_true l0) z)
  refine ⟨_, rfl, p, _, 2, .int left, rfl, rfl, hL, at_of (j := 2) rfl rfl, .inl ⟨left, rfl, ?_⟩⟩
  refine ⟨_, rfl, left, many, rfl, rfl, m0, ?_⟩
  refine ⟨_, rfl, p, _, 2, .int left, rfl, rfl, hL, at_of (j := 2) rfl rfl, _, rfl, left, many, rfl, rfl, wide_div (b := 41) m0 (by omega) (by decide) (by decide), ?_⟩
  refine ⟨_, rfl, p, _, 2, 2, rfl, rfl, hP.at_, rfl, ?_⟩
  refine ⟨_, rfl, ?_⟩
  exact q _ _ (Int.emod_nonneg _ (by omega)) (Int.emod_lt_of_pos _ m0) ⟨pos, left / many, seed, xs, hP.put hP.pos0 (Int.ediv_nonneg hP.left0 (Int.le_of_lt m0)) hP.seed0 hP.seed1⟩ Frm.refl.upd
theorem ok_take {f : Addr} {fd : FuncData} (F : Fun K "_law_take" "_law_take" sTake f fd) (hm : mg "_law_take" = some (.ref f)) (b : Binds K fd ["pool", "many"] []) (T : Txt mg) : Cal P w K mg base 2 "_law_take" spTake [] := by
  have G : Cal P w K mg base 1 "_law_take" spTake1 [] := ok_take1 F hm b T
  refine mkCal F hm b scTake (fun vs H Q E h => ?_) (fun cdv A outer s H vs Q E hr h => ?_)
  · obtain ⟨p, c, many, rfl, _⟩ := h
    rfl
  obtain ⟨p, c, many, rfl, m0, m1, ⟨pos, left, seed, xs, hP⟩, q⟩ := h
  refine ⟨_, pss_cons (ps_if (pt_cmpR op_gt (pe_ix ix_list (pv 0) pe_int (fun _ _ => rfl)) pe_int (nomark _))
      (pss_cons (ps_set (i := 2) scTake.nd rfl (.inl rfl) (pe_op op_mod (pe_callTy call_int1 (by rfl) T.int (by decide +kernel) (pa_cons (pe_ix ix_list (pv 0) pe_int (fun _ _ => rfl)) pa_nil)) (pv 1)))
      (pss_cons (ps_asg (pe_op op_fdivW (pe_ix ix_list (pv 0) pe_int (fun _ _ => rfl)) (pv 1)) (pg_sub (pv 0) pe_int set_list))
      (pss_one (ps_ret (pv 2))))) pss_nil)
    (pss_cons (ps_set (i := 3) scTake.nd rfl (.inl rfl) pe_int)
    (pss_cut (ps_if (pt_cmpR op_lt (pe_ix ix_list (pv 0) pe_int (fun _ _ => rfl)) (pe_callB call_len_seq (by rfl) T.len PySem.boot_len (pa_cons (pe_ix ix_list (pv 0) pe_int (fun _ _ => rfl)) pa_nil)) (nomark _))
      (pss_one (ps_set (i := 3) scTake.nd rfl (.inl rfl) (pe_ix ix_list (pe_ix ix_list (pv 0) pe_int (fun _ _ => rfl)) (pe_ix ix_list (pv 0) pe_int (fun _ _ => rfl)) (fun _ _ => rfl)))) pss_nil)
    (pss_cons (ps_asg (pe_op op_add (pe_ix ix_list (pv 0) pe_int (fun _ _ => rfl)) pe_int) (pg_sub (pv 0) pe_int set_list))
    (pss_cons (ps_if (pt_cmpR op_ge (pv 3) (pe_op op_pow pe_int pe_int) (nomark _))
      (pss_cons (ps_asg (pe_op op_fdiv (pv 3) pe_int) (pg_sub (pv 0) pe_int set_list))
      (pss_one (ps_ret (pe_c G hr (by decide) (by rfl) (pa_cons (pv 0) (pa_cons (pv 1) pa_nil)))))) pss_nil)
    (pss_cons (ps_asg (pe_op op_mod (pe_callTy call_int1 (by rfl) T.int (by decide +kernel) (pa_cons (pe_op op_add (pe_op op_add (pe_op op_mul (pe_ix ix_list (pv 0) pe_int (fun _ _ => rfl)) pe_int) (pe_op op_mul (pv 3) pe_int)) (pe_op op_mul (pe_ix ix_list (pv 0) pe_int (fun _ _ => rfl)) pe_int)) pa_nil)) pe_int) (pg_sub (pv 0) pe_int set_list))
    (pss_cons (ps_set (i := 4) scTake.nd rfl (.inl rfl) (pe_op op_mod (pe_callTy call_int1 (by rfl) T.int (by decide +kernel) (pa_cons (pe_op op_add (pe_op op_add (pe_op op_mul (pe_ix ix_list (pv 0) pe_int (fun _ _ => rfl)) (pe_ix ix_list (pv 0) pe_int (fun _ _ => rfl))) (pe_op op_mul (pe_ix ix_list (pv 0) pe_int (fun _ _ => rfl)) pe_int)) pe_int) pa_nil)) pe_int))
    (pss_one (ps_ret (pe_op op_mod (pe_callTy call_int1 (by rfl) T.int (by decide +kernel) (pa_cons (pe_op op_fdiv (pv 4) pe_int) pa_nil)) (pv 1)))))))))), ?_⟩
  have hL : SqL K H p _ := SqL.of hP.at_
  have hC : SqL K H c _ := SqL.of hP.cells
  refine ⟨_, rfl, p, _, 2, .int left, rfl, rfl, hL, at_of (j := 2) rfl rfl, left, 0, rfl, rfl, _, rfl, ?_⟩
  refine ite2 (fun _ => ?_) (fun _ => ?_)
  · refine ⟨_, rfl, p, _, 2, .int left, rfl, rfl, hL, at_of (j := 2) rfl rfl, .inl ⟨left, rfl, ?_⟩⟩
    refine ⟨_, rfl, left, many, rfl, rfl, m0, ?_⟩
    refine ⟨_, rfl, p, _, 2, .int left, rfl, rfl, hL, at_of (j := 2) rfl rfl, _, rfl, left, many, rfl, rfl, wide_div (b := 41) m0 (by omega) (by decide) (by decide), ?_⟩
    refine ⟨_, rfl, p, _, 2, 2, rfl, rfl, hP.at_, rfl, ?_⟩
    refine ⟨_, rfl, ?_⟩
    exact q _ _ (Int.emod_nonneg _ (by omega)) (Int.emod_lt_of_pos _ m0) ⟨pos, left / many, seed, xs, hP.put hP.pos0 (Int.ediv_nonneg hP.left0 (Int.le_of_lt m0)) hP.seed0 hP.seed1⟩ Frm.refl.upd
  · -- cell = 0; if pool[1] < len(pool[0]): cell = pool[0][pool[1]]
    refine ⟨fun σ H1 => ∃ cell : Int, H1 = H ∧ 0 ≤ cell ∧ σ = [some (.ref p), some (.int many), none, some (.int cell), none], ?_, ?_⟩
    · refine ⟨_, rfl, p, _, 1, .int pos, rfl, rfl, hL, at_of (j := 1) rfl rfl, ?_⟩
      refine ⟨_, rfl, p, _, 0, .ref c, rfl, rfl, hL, at_of (j := 0) rfl rfl, c, _, rfl, .inl hC, pos, _, rfl, rfl, _, rfl, ?_⟩
      refine ite2 (fun z => ?_) (fun _ => ⟨0, rfl, by decide, rfl⟩)
      have z1 : pos < ((xs.map V.int).length : Int) := of_decide_eq_true z
      rw [List.length_map] at z1
      have hk : pos.toNat < xs.length := by have := hP.pos0; omega
      have e1 : pos = ((pos.toNat : Nat) : Int) := by have := hP.pos0; omega
      have g : (xs.map V.int)[pos.toNat]? = some (.int xs[pos.toNat]) := by
        rw [List.getElem?_map, List.getElem?_eq_getElem hk]
        rfl
      refine ⟨_, rfl, p, _, 0, .ref c, rfl, rfl, hL, at_of (j := 0) rfl rfl, _, rfl, p, _, 1, .int pos, rfl, rfl, hL, at_of (j := 1) rfl rfl, c, _, pos, _, rfl, rfl, hC, at_of e1 g, ?_⟩
      exact ⟨xs[pos.toNat], rfl, hP.nn _ (List.getElem_mem hk), rfl⟩
    · rintro σ H1 ⟨cell, rfl, c0, rfl⟩
      -- pool[1] = pool[1] + 1
      refine ⟨_, rfl, p, _, 1, .int pos, rfl, rfl, hL, at_of (j := 1) rfl rfl, pos, 1, rfl, rfl, ?_⟩
      refine ⟨_, rfl, p, _, 1, 1, rfl, rfl, hP.at_, rfl, ?_⟩
      have p1 : (0 : Int) ≤ pos + 1 := by have := hP.pos0; omega
      have hP1 : PoolIs (upd H1 p (.lst [.ref c, .int (pos + 1), .int left, .int seed])) p c (pos + 1) left seed xs := hP.put p1 hP.left0 hP.seed0 hP.seed1
      -- if cell >= 10 ** 18
      refine ⟨_, rfl, 10, 18, rfl, rfl, ⟨by decide, by decide, by decide⟩, cell, _, rfl, rfl, _, rfl, ?_⟩
      refine ite2 (fun z => ?_) (fun z => ?_)
      · have z1 : (10 : Int) ^ 18 ≤ cell := of_decide_eq_true z
        have z2 : (1000000000000000000 : Int) ≤ cell := z1
        refine ⟨_, rfl, cell, 2, rfl, rfl, ⟨by decide, by decide⟩, _, rfl, p, _, 2, 2, rfl, rfl, hP1.at_, rfl, ?_⟩
        have h2 : 0 < cell / 2 := by omega
        have hP2 : PoolIs _ p c (pos + 1) (cell / 2) seed xs := hP1.put p1 (by omega) hP.seed0 hP.seed1
        refine ⟨_, rfl, _, rfl, p, c, many, pos + 1, cell / 2, seed, xs, rfl, m0, m1, hP2, h2, fun r H' r0 r1 hp' fr => ?_⟩
        exact q r H' r0 r1 hp' ((Frm.refl.upd.upd).trans fr)
      · -- the mixing
        have s0 := hP.seed0
        have s1 := hP.seed1
        have hL1 : SqL K (upd H1 p (.lst [.ref c, .int (pos + 1), .int left, .int seed])) p _ := SqL.of hP1.at_
        refine ⟨_, rfl, p, _, 3, .int seed, rfl, rfl, hL1, at_of (j := 3) rfl rfl, seed, 48271, rfl, rfl, .inr ⟨by decide, by decide⟩, ?_⟩
        refine ⟨_, rfl, cell, 69621, rfl, rfl, .inr ⟨by decide, by decide⟩, _, _, rfl, rfl, ?_⟩
        refine ⟨_, rfl, p, _, 1, .int (pos + 1), rfl, rfl, hL1, at_of (j := 1) rfl rfl, pos + 1, 613, rfl, rfl, .inr ⟨by decide, by decide⟩, _, _, rfl, rfl, .inl ⟨_, rfl, ?_⟩⟩
        refine ⟨_, 2147483647, rfl, rfl, by show (0 : Int) < 2147483647; decide, _, rfl, p, _, 3, 3, rfl, rfl, hP1.at_, rfl, ?_⟩
        have hP3 : PoolIs _ p c (pos + 1) left (mix seed cell pos) xs := hP1.put p1 hP.left0 (Int.emod_nonneg _ (by decide)) (Int.emod_lt_of_pos _ (by decide))
        have hb : -(2 ^ 64) < mix seed cell pos ∧ mix seed cell pos < 2 ^ 64 := by
          have t0 := hP3.seed0
          have t1 := hP3.seed1
          constructor <;> omega
        have hL3 : SqL K _ p [.ref c, .int (pos + 1), .int left, .int (mix seed cell pos)] := SqL.of hP3.at_
        refine ⟨_, rfl, p, _, 3, .int (mix seed cell pos), rfl, rfl, hL3, at_of (j := 3) rfl rfl, _, rfl, p, _, 3, .int (mix seed cell pos), rfl, rfl, hL3, at_of (j := 3) rfl rfl, _, _, rfl, rfl, .inl hb, ?_⟩
        refine ⟨_, rfl, p, _, 3, .int (mix seed cell pos), rfl, rfl, hL3, at_of (j := 3) rfl rfl, _, 7919, rfl, rfl, .inr ⟨by decide, by decide⟩, _, _, rfl, rfl, _, 104729, rfl, rfl, .inl ⟨_, rfl, ?_⟩⟩
        refine ⟨_, 1000000007, rfl, rfl, by show (0 : Int) < 1000000007; decide, ?_⟩
        refine ⟨_, rfl, _, 3, rfl, rfl, ⟨by decide, by decide⟩, .inl ⟨_, rfl, ?_⟩⟩
        refine ⟨_, rfl, _, many, rfl, rfl, m0, ?_⟩
        exact q _ _ (Int.emod_nonneg _ (by omega)) (Int.emod_lt_of_pos _ m0) ⟨_, _, _, _, hP3⟩ (Frm.refl.upd.upd)
end
theorem ifT {c : Bool} {A B : Prop} (h : c = true) (x : A) : if c = true then A else B := by rw [if_pos h]; exact x
theorem ifF {c : Bool} {A B : Prop} (h : c = false) (x : B) : if c = true then A else B := by rw [if_neg (by rw [h]; decide)]; exact x
theorem sz {n : Nat} (h : n ≤ 100000) : n ≤ sizeLine := Nat.le_trans h (by decide)
def LT (H : Hp) (as : List Addr) (vss : List (List V)) : Prop := as.length = vss.length ∧ ∀ (k : Nat) (vs : List V), vss[k]? = some vs → ∃ a, as[k]? = some a ∧ H a = some (.tup vs)
theorem LT.same {H H' : Hp} {as : List Addr} {vss : List (List V)} (h : LT H as vss) (s : Same H H') : LT H' as vss := ⟨h.1, fun k vs e => let ⟨a, e1, e2⟩ := h.2 k vs e; ⟨a, e1, s _ _ e2⟩⟩
theorem LT.updL {H : Hp} {as : List Addr} {vss : List (List V)} {D : Addr} {xs : List V} {o : HO} (h : LT H as vss) (hD : H D = some (.lst xs)) : LT (upd H D o) as vss :=
  ⟨h.1, fun k vs e => let ⟨a, e1, e2⟩ := h.2 k vs e; ⟨a, e1, by rw [upd_ne (ne_of e2 hD (by intro z; cases z))]; exact e2⟩⟩
theorem LT.nil {H : Hp} : LT H [] [] := ⟨rfl, fun k vs e => by simp at e⟩
theorem LT.add {H : Hp} {as : List Addr} {vss : List (List V)} {a : Addr} {vs : List V} (h : LT H as vss) (ha : H a = some (.tup vs)) : LT H (as ++ [a]) (vss ++ [vs]) := by
  refine ⟨by simp [h.1], fun k x e => ?_⟩
  by_cases hk : k < vss.length
  · rw [List.getElem?_append_left hk] at e
    obtain ⟨b, e1, e2⟩ := h.2 k x e
    exact ⟨b, by rw [List.getElem?_append_left (by rw [h.1]; exact hk)]; exact e1, e2⟩
  · have hk2 : k = vss.length := by
      have := (List.getElem?_eq_some_iff.mp e).1
      simp at this
      omega
    subst hk2
    rw [List.getElem?_append_right (Nat.le_refl _), Nat.sub_self] at e
    have e' : vs = x := Option.some.inj e
    subst e'
    exact ⟨a, by rw [← h.1, List.getElem?_append_right (Nat.le_refl _), Nat.sub_self]; rfl, ha⟩

def trues (n : Nat) : List V := (List.replicate n true).map V.bl
theorem trues_add (n : Nat) : trues n ++ [.bl true] = trues (n + 1) := by
  unfold trues
  rw [List.replicate_succ', List.map_append]
  rfl
theorem trues_len (n : Nat) : (trues n).length = n := by simp [trues]
theorem trues_all (n : Nat) : (List.replicate n true).all id = true := by simp
section
variable {P : Program} {w : World} {K : PySem.W.Frag} {mg : Str → Option Value} {base : Heap}
def spPool (K : PySem.W.Frag) : Sp := fun vs H Q _ => ∃ (a : Addr) (ns : List Int), vs = [.ref a] ∧ SqL K H a (ns.map V.int) ∧ ns.length ≤ 63 ∧ ∀ (p c : Addr) (H' : Hp), Pool H' p c → Same H H' → H p = none → H c = none → Q (.ref p) H'
theorem scP : FnScope ["script", "cell"] ["script"] (defScope sPool) := ⟨rfl, rfl, rfl, by decide +kernel, rfl, by decide +kernel, by decide +kernel⟩
def nz (x : Int) : Int := if 0 ≤ x then 2 * x else -2 * x - 1
theorem nz_nn (x : Int) : 0 ≤ nz x := by
  unfold nz
  split <;> omega
theorem ok_pool {f : Addr} {fd : FuncData} (F : Fun K "_law_pool" "_law_pool" sPool f fd) (hm : mg "_law_pool" = some (.ref f)) (b : Binds K fd ["script"] []) : Cal P w K mg base 1 "_law_pool" (spPool K) [] := by
  refine mkCal F hm b scP (fun vs H Q E h => ?_) (fun cdv A outer s H vs Q E hr h => ?_)
  · obtain ⟨a, ns, rfl, _⟩ := h
    rfl
  obtain ⟨a, ns, rfl, hS, hlen, q⟩ := h
  refine ⟨_, (pss_one (ps_ret (pe_lst (pa_cons (pe_lc (own := [("cell", 1)]) (g := gName 1) (tt := tYes) rfl scP.nd (pi_list (pv 0)) (blkOk_by (N := ["script", "cell"]) (sc := defScope sPool) (by decide +kernel)) (fun _ _ _ _ _ => (pg_name (i := 1) scP.nd rfl (.inl rfl))) (fun _ _ _ _ _ => pts_nil) (fun _ _ _ _ _ => (pe_ifExp (pt_cmpR op_ge (pv 1) pe_int (nomark _)) (pe_op op_mul pe_int (pv 1)) (pe_op op_sub (pe_op op_mul (pe_un un_neg pe_int) (pv 1)) pe_int)))) (pa_cons pe_int (pa_cons pe_int (pa_cons pe_int pa_nil))))))), ?_⟩
  refine ⟨_, rfl, a, rfl, ⟨_, hS⟩, fun D nD => ?_⟩
  refine lc_list (K := K) (a := a) (xs := ns.map V.int) (fun i H' => Same H H' ∧ H' D = some (.lst (((ns.take i).map nz).map V.int))) ⟨same_new nD, upd_same⟩ (fun i H' _ h => h.1.seq hS) ?_ ?_
  · rintro i x H1 hi ⟨s1, e1⟩
    rw [List.getElem?_map] at hi
    cases e : ns[i]? with
    | none => rw [e] at hi; cases hi
    | some u =>
    rw [e] at hi
    have ex : V.int u = x := Option.some.inj hi
    subst ex
    have push : ∀ y : Int, y = nz u → ∃ acc, H1 D = some (.lst acc) ∧ acc.length < sizeLine ∧ (Same H (upd H1 D (.lst (acc ++ [V.int y]))) ∧ (upd H1 D (.lst (acc ++ [V.int y]))) D = some (.lst (((ns.take (i + 1)).map nz).map V.int))) := by
      intro y hy
      refine ⟨_, e1, ?_, fun b o h => ?_, ?_⟩
      · rw [List.length_map, List.length_map, List.length_take]
        exact small1000 (by omega)
      · rw [upd_ne (ne_of_none h nD)]
        exact s1 b o h
      · rw [upd_same, List.take_add_one, e, hy]
        simp
    refine ⟨rfl, _, rfl, _, _, rfl, rfl, _, rfl, ?_⟩
    refine ite2 (fun z => ?_) (fun z => ?_)
    · have z1 : (0 : Int) ≤ u := of_decide_eq_true z
      refine ⟨_, rfl, _, _, rfl, rfl, .inl ⟨by decide, by decide⟩, push _ (by unfold nz; rw [if_pos z1])⟩
    · have z1 : ¬ (0 : Int) ≤ u := fun h => z (decide_eq_true h)
      refine ⟨_, rfl, _, rfl, _, _, rfl, rfl, .inl ⟨by decide, by decide⟩, _, _, rfl, rfl, push _ (by unfold nz; rw [if_neg z1])⟩
  · rintro H1 ⟨s1, e1⟩
    rw [List.length_map, List.take_length] at e1
    refine ⟨by show 4 ≤ sizeLine; decide, fun p np => ?_⟩
    have hDp : D ≠ p := ne_of_none e1 np
    refine q p D _ ⟨0, 0, 17, ns.map nz, upd_same, by rw [upd_ne hDp]; exact e1, hDp, fun x hx => ?_, by decide, by decide, by decide, by decide, by rw [List.length_map]; exact hlen⟩ (s1.trans (same_new np)) (s1.free np) nD
    obtain ⟨y, _, rfl⟩ := List.mem_map.mp hx
    exact nz_nn y
def spIsInteger : Sp := fun vs H Q _ => ∃ i : Int, vs = [.int i] ∧ Q (.bl true) H
theorem scI : FnScope ["actual"] ["actual"] (defScope sIsInt) := ⟨rfl, rfl, rfl, by decide +kernel, rfl, by decide +kernel, by decide +kernel⟩
theorem ok_is_integer {f : Addr} {fd : FuncData} (F : Fun K "_law_is_integer" "_law_is_integer" sIsInt f fd) (hm : mg "_law_is_integer" = some (.ref f)) (b : Binds K fd ["actual"] []) (T : Txt mg) : Cal P w K mg base 1 "_law_is_integer" spIsInteger [] := by
  refine mkCal F hm b scI (fun vs H Q E h => ?_) (fun cdv A outer s H vs Q E hr h => ?_)
  · obtain ⟨i, rfl, _⟩ := h
    rfl
  obtain ⟨i, rfl, q⟩ := h
  refine ⟨_, (pss_one (ps_ret (pe_and (pe_callB call_isi (by rfl) T.isinstance (by decide +kernel) (pa_cons (pv 0) (pa_cons (pe_bltn (v := .ty "int") (by rfl) T.int (by decide +kernel) rfl) pa_nil))) (pe_one (pe_not (pe_callB call_isi (by rfl) T.isinstance (by decide +kernel) (pa_cons (pv 0) (pa_cons (pe_bltn (v := .ty "bool") (by rfl) T.bool (by decide +kernel) rfl) pa_nil)))))))), ?_⟩
  refine ⟨_, rfl, _, _, _, _, true, rfl, .ty _, .base (.int i), kit_ty (by decide +kernel), true, rfl, ifT rfl ?_⟩
  exact ⟨_, rfl, _, _, _, _, false, rfl, .ty _, .base (.int i), kit_ty (by decide +kernel), false, rfl, q⟩
def SameD : Nat → Hp → V → V → Prop
  | 0, _, x, y => (∃ i, x = .int i ∧ y = .int i) ∨ (∃ z, x = .str z ∧ y = .str z)
  | n + 1, H, x, y => ((∃ i, x = .int i ∧ y = .int i) ∨ (∃ z, x = .str z ∧ y = .str z)) ∨ ∃ (a b : Addr) (xs ys : List V), x = .ref a ∧ y = .ref b ∧ H a = some (.tup xs) ∧ H b = some (.tup ys) ∧ xs.length = ys.length ∧ xs.length ≤ 1000 ∧
      ∀ (k : Nat) (u v : V), xs[k]? = some u → ys[k]? = some v → SameD n H u v
theorem SameD.same : ∀ {n : Nat} {H H' : Hp} {x y : V}, SameD n H x y → Same H H' → SameD n H' x y
  | 0, _, _, _, _, h, _ => h
  | n + 1, _, _, _, _, h, s => by
    rcases h with h | ⟨a, b, xs, ys, rfl, rfl, h1, h2, h3, h4, h5⟩
    · exact .inl h
    · exact .inr ⟨a, b, xs, ys, rfl, rfl, s _ _ h1, s _ _ h2, h3, h4, fun k u v e1 e2 => (h5 k u v e1 e2).same s⟩
def spSame (n : Nat) : Sp := fun vs H Q _ => ∃ x y : V, vs = [x, y] ∧ SameD n H x y ∧ ∀ H', Same H H' → Q (.bl true) H'
theorem scS : FnScope ["actual", "due", "k"] ["actual", "due"] (defScope sSame) := ⟨rfl, rfl, rfl, by decide +kernel, rfl, by decide +kernel, by decide +kernel⟩
theorem ok_same0 {f : Addr} {fd : FuncData} (F : Fun K "_law_same" "_law_same" sSame f fd) (hm : mg "_law_same" = some (.ref f)) (b : Binds K fd ["actual", "due"] []) (T : Txt mg) (GIs : Cal P w K mg base 1 "_law_is_integer" spIsInteger []) : Cal P w K mg base 2 "_law_same" (spSame 0) [] := by
  refine mkCal F hm b scS (fun vs H Q E h => ?_) (fun cdv A outer s H vs Q E hr h => ?_)
  · obtain ⟨x, y, rfl, _⟩ := h
    rfl
  obtain ⟨x, y, rfl, hxy, q⟩ := h
  refine ⟨_, (pss_cons (ps_if (pt_val (pe_callB call_isi (by rfl) T.isinstance (by decide +kernel) (pa_cons (pv 1) (pa_cons (pe_bltn (v := .ty "tuple") (by rfl) T.tuple (by decide +kernel) rfl) pa_nil)))) pss_never pss_nil)
    (pss_cons (ps_if (pt_val (pe_callB call_isi (by rfl) T.isinstance (by decide +kernel) (pa_cons (pv 1) (pa_cons (pe_bltn (v := .ty "list") (by rfl) T.list (by decide +kernel) rfl) pa_nil)))) pss_never pss_nil)
    (pss_cons (ps_if (pt_cmpR op_isN (pv 1) pe_non (nomark _)) (pss_one (ps_ret (pe_cmpR op_isN (pv 0) pe_non (nomark _)))) pss_nil)
    (pss_cons (ps_if (pt_val (pe_callB call_isi (by rfl) T.isinstance (by decide +kernel) (pa_cons (pv 1) (pa_cons (pe_bltn (v := .ty "bool") (by rfl) T.bool (by decide +kernel) rfl) pa_nil)))) (pss_one (ps_ret (pe_and (pe_callB call_isi (by rfl) T.isinstance (by decide +kernel) (pa_cons (pv 0) (pa_cons (pe_bltn (v := .ty "bool") (by rfl) T.bool (by decide +kernel) rfl) pa_nil))) (pe_one (pe_cmpR op_eq (pv 0) (pv 1) (nomark _)))))) pss_nil)
    (pss_cons (ps_if (pt_val (pe_callB call_isi (by rfl) T.isinstance (by decide +kernel) (pa_cons (pv 1) (pa_cons (pe_bltn (v := .ty "str") (by rfl) T.str (by decide +kernel) rfl) pa_nil)))) (pss_one (ps_ret (pe_and (pe_callB call_isi (by rfl) T.isinstance (by decide +kernel) (pa_cons (pv 0) (pa_cons (pe_bltn (v := .ty "str") (by rfl) T.str (by decide +kernel) rfl) pa_nil))) (pe_one (pe_cmpR op_eq (pv 0) (pv 1) (nomark _)))))) pss_nil)
    (pss_one (ps_ret (pe_and (pe_c GIs hr (by decide) (by rfl) (pa_cons (pv 0) pa_nil)) (pe_one (pe_cmpR op_eq (pv 0) (pv 1) (nomark _))))))))))), ?_⟩
  rcases hxy with ⟨i, rfl, rfl⟩ | ⟨z, rfl, rfl⟩
  · refine ⟨_, rfl, _, _, _, _, false, rfl, .ty _, .base (.int i), kit_ty (by decide +kernel), _, rfl, ifF rfl ?_⟩
    refine ⟨_, rfl, _, _, _, _, false, rfl, .ty _, .base (.int i), kit_ty (by decide +kernel), _, rfl, ifF rfl ?_⟩
    refine ⟨_, rfl, rfl, _, rfl, ifF rfl ?_⟩
    refine ⟨_, rfl, _, _, _, _, false, rfl, .ty _, .base (.int i), kit_ty (by decide +kernel), _, rfl, ifF rfl ?_⟩
    refine ⟨_, rfl, _, _, _, _, false, rfl, .ty _, .base (.int i), kit_ty (by decide +kernel), _, rfl, ifF rfl ?_⟩
    refine ⟨_, rfl, i, rfl, true, rfl, ifT rfl ⟨_, rfl, _, rfl, rfl, ?_⟩⟩
    rw [decide_eq_true rfl]
    exact q H (Same.refl H)
  · refine ⟨_, rfl, _, _, _, _, false, rfl, .ty _, .base (.str z), kit_ty (by decide +kernel), _, rfl, ifF rfl ?_⟩
    refine ⟨_, rfl, _, _, _, _, false, rfl, .ty _, .base (.str z), kit_ty (by decide +kernel), _, rfl, ifF rfl ?_⟩
    refine ⟨_, rfl, rfl, _, rfl, ifF rfl ?_⟩
    refine ⟨_, rfl, _, _, _, _, false, rfl, .ty _, .base (.str z), kit_ty (by decide +kernel), _, rfl, ifF rfl ?_⟩
    refine ⟨_, rfl, _, _, _, _, true, rfl, .ty _, .base (.str z), kit_ty (by decide +kernel), _, rfl, ifT rfl ?_⟩
    refine ⟨_, rfl, _, _, _, _, true, rfl, .ty _, .base (.str z), kit_ty (by decide +kernel), true, rfl, ifT rfl ⟨_, rfl, _, rfl, rfl, ?_⟩⟩
    rw [decide_eq_true rfl]
    exact q H (Same.refl H)
theorem ok_same1 {n k : Nat} {f : Addr} {fd : FuncData} (F : Fun K "_law_same" "_law_same" sSame f fd) (hm : mg "_law_same" = some (.ref f)) (b : Binds K fd ["actual", "due"] []) (T : Txt mg) (GIs : Cal P w K mg base 1 "_law_is_integer" spIsInteger []) (hk : 1 ≤ k)
    {sp : Sp} (esp : sp = spSame n) (GS : Cal P w K mg base k "_law_same" sp []) : Cal P w K mg base (k + 1) "_law_same" (spSame (n + 1)) [] := by
  refine mkCal F hm b scS (fun vs H Q E h => ?_) (fun cdv A outer s H vs Q E hr h => ?_)
  · obtain ⟨x, y, rfl, _⟩ := h
    rfl
  obtain ⟨x, y, rfl, hxy, q⟩ := h
  refine ⟨_, (pss_cons (ps_if (pt_val (pe_callB call_isi (by rfl) T.isinstance (by decide +kernel) (pa_cons (pv 1) (pa_cons (pe_bltn (v := .ty "tuple") (by rfl) T.tuple (by decide +kernel) rfl) pa_nil)))) (pss_cons (ps_if (PW.pt (pw_or (pt_not (pt_val (pe_callB call_isi (by rfl) T.isinstance (by decide +kernel) (pa_cons (pv 0) (pa_cons (pe_bltn (v := .ty "tuple") (by rfl) T.tuple (by decide +kernel) rfl) pa_nil))))) (pw_or1 (pt_cmpR op_ne (pe_callB call_len_seq (by rfl) T.len PySem.boot_len (pa_cons (pv 0) pa_nil)) (pe_callB call_len_seq (by rfl) T.len PySem.boot_len (pa_cons (pv 1) pa_nil)) (nomark _))))) (pss_one (ps_ret pe_bl)) pss_nil)
    (pss_one (ps_ret (pe_callB (cr_all rfl) (by rfl) T.all (by decide +kernel) (pa_cons (pe_lc (own := [("k", 2)]) (g := gName 2) (te := tCall sp [] C8.E0 (tCons (tOp (rIxT K) (tVar 0) (tVar 2)) (tCons (tOp (rIxT K) (tVar 1) (tVar 2)) tNil))) (tt := tYes) rfl scS.nd (pi_range1 (by rfl) T.range (pa_cons (pe_callB call_len_seq (by rfl) T.len PySem.boot_len (pa_cons (pv 1) pa_nil)) pa_nil)) (blkOk_by (N := ["actual", "due", "k"]) (sc := defScope sSame) (by decide +kernel)) (fun _ _ _ _ _ => (pg_name (i := 2) scS.nd rfl (.inl rfl))) (fun _ _ _ _ _ => pts_nil) (fun _ _ _ _ _ => (pe_c GS hr (Nat.le_refl _) (by rfl) (pa_cons (pe_ix ix_tup (pv 0) (pv 2) (fun _ _ => rfl)) (pa_cons (pe_ix ix_tup (pv 1) (pv 2) (fun _ _ => rfl)) pa_nil))))) pa_nil))))) pss_nil)
    (pss_cons (ps_if (pt_val (pe_callB call_isi (by rfl) T.isinstance (by decide +kernel) (pa_cons (pv 1) (pa_cons (pe_bltn (v := .ty "list") (by rfl) T.list (by decide +kernel) rfl) pa_nil)))) pss_never pss_nil)
    (pss_cons (ps_if (pt_cmpR op_isN (pv 1) pe_non (nomark _)) (pss_one (ps_ret (pe_cmpR op_isN (pv 0) pe_non (nomark _)))) pss_nil)
    (pss_cons (ps_if (pt_val (pe_callB call_isi (by rfl) T.isinstance (by decide +kernel) (pa_cons (pv 1) (pa_cons (pe_bltn (v := .ty "bool") (by rfl) T.bool (by decide +kernel) rfl) pa_nil)))) (pss_one (ps_ret (pe_and (pe_callB call_isi (by rfl) T.isinstance (by decide +kernel) (pa_cons (pv 0) (pa_cons (pe_bltn (v := .ty "bool") (by rfl) T.bool (by decide +kernel) rfl) pa_nil))) (pe_one (pe_cmpR op_eq (pv 0) (pv 1) (nomark _)))))) pss_nil)
    (pss_cons (ps_if (pt_val (pe_callB call_isi (by rfl) T.isinstance (by decide +kernel) (pa_cons (pv 1) (pa_cons (pe_bltn (v := .ty "str") (by rfl) T.str (by decide +kernel) rfl) pa_nil)))) (pss_one (ps_ret (pe_and (pe_callB call_isi (by rfl) T.isinstance (by decide +kernel) (pa_cons (pv 0) (pa_cons (pe_bltn (v := .ty "str") (by rfl) T.str (by decide +kernel) rfl) pa_nil))) (pe_one (pe_cmpR op_eq (pv 0) (pv 1) (nomark _)))))) pss_nil)
    (pss_one (ps_ret (pe_and (pe_c GIs hr hk (by rfl) (pa_cons (pv 0) pa_nil)) (pe_one (pe_cmpR op_eq (pv 0) (pv 1) (nomark _))))))))))), ?_⟩
  rcases hxy with (⟨i, rfl, rfl⟩ | ⟨z, rfl, rfl⟩) | ⟨a, b, xs, ys, rfl, rfl, hx, hy, hl, h1000, hall⟩
  · refine ⟨_, rfl, _, _, _, _, false, rfl, .ty _, .base (.int i), kit_ty (by decide +kernel), _, rfl, ifF rfl ?_⟩
    refine ⟨_, rfl, _, _, _, _, false, rfl, .ty _, .base (.int i), kit_ty (by decide +kernel), _, rfl, ifF rfl ?_⟩
    refine ⟨_, rfl, rfl, _, rfl, ifF rfl ?_⟩
    refine ⟨_, rfl, _, _, _, _, false, rfl, .ty _, .base (.int i), kit_ty (by decide +kernel), _, rfl, ifF rfl ?_⟩
    refine ⟨_, rfl, _, _, _, _, false, rfl, .ty _, .base (.int i), kit_ty (by decide +kernel), _, rfl, ifF rfl ?_⟩
    refine ⟨_, rfl, i, rfl, true, rfl, ifT rfl ⟨_, rfl, _, rfl, rfl, ?_⟩⟩
    rw [decide_eq_true rfl]
    exact q H (Same.refl H)
  · refine ⟨_, rfl, _, _, _, _, false, rfl, .ty _, .base (.str z), kit_ty (by decide +kernel), _, rfl, ifF rfl ?_⟩
    refine ⟨_, rfl, _, _, _, _, false, rfl, .ty _, .base (.str z), kit_ty (by decide +kernel), _, rfl, ifF rfl ?_⟩
    refine ⟨_, rfl, rfl, _, rfl, ifF rfl ?_⟩
    refine ⟨_, rfl, _, _, _, _, false, rfl, .ty _, .base (.str z), kit_ty (by decide +kernel), _, rfl, ifF rfl ?_⟩
    refine ⟨_, rfl, _, _, _, _, true, rfl, .ty _, .base (.str z), kit_ty (by decide +kernel), _, rfl, ifT rfl ?_⟩
    refine ⟨_, rfl, _, _, _, _, true, rfl, .ty _, .base (.str z), kit_ty (by decide +kernel), true, rfl, ifT rfl ⟨_, rfl, _, rfl, rfl, ?_⟩⟩
    rw [decide_eq_true rfl]
    exact q H (Same.refl H)
  · refine ⟨_, rfl, _, _, _, _, true, rfl, .ty _, .base (.tup hy), kit_ty (by decide +kernel), _, rfl, ifT rfl ?_⟩
    refine ⟨_, rfl, _, _, _, _, true, rfl, .ty _, .base (.tup hx), kit_ty (by decide +kernel), _, rfl, ifF rfl ?_⟩
    refine ⟨_, rfl, a, _, rfl, .inr (SqT.of hx), _, rfl, b, _, rfl, .inr (SqT.of hy), rfl, _, rfl, ifF ?_ ?_⟩
    · rw [hl, decide_eq_true rfl]
      rfl
    refine ⟨_, rfl, b, _, rfl, .inr (SqT.of hy), _, rfl, by omega, by omega, fun D nD => ?_⟩
    refine lc_range (lo := 0) (n := ((ys.length : Int)).toNat) (fun i H' => Same H H' ∧ H' D = some (.lst (trues i))) ⟨same_new nD, upd_same⟩ ?_ ?_
    · rintro i H1 hi ⟨s1, hD⟩
      have hi1 : i < xs.length := by omega
      have hi2 : i < ys.length := by omega
      have g1 : atI xs ((0 : Int) + (i : Int)) = some xs[i] := at_of (j := i) (by omega) (List.getElem?_eq_getElem hi1)
      have g2 : atI ys ((0 : Int) + (i : Int)) = some ys[i] := at_of (j := i) (by omega) (List.getElem?_eq_getElem hi2)
      refine ⟨rfl, _, rfl, _, rfl, a, _, _, _, rfl, rfl, SqT.of (s1 _ _ hx), g1, _, rfl, _, rfl, b, _, _, _, rfl, rfl, SqT.of (s1 _ _ hy), g2, ?_⟩
      rw [esp]
      refine ⟨_, _, rfl, (hall i _ _ (List.getElem?_eq_getElem hi1) (List.getElem?_eq_getElem hi2)).same s1, fun H2 s2 => ?_⟩
      refine ⟨_, s2 _ _ hD, by rw [trues_len]; exact small1000 (by omega), fun c o hc => ?_, by rw [upd_same, trues_add]⟩
      rw [upd_ne (ne_of_none hc nD)]
      exact s2 _ _ (s1 _ _ hc)
    · rintro H1 ⟨s1, hD⟩
      refine ⟨D, List.replicate _ true, rfl, SqL.of hD, ?_⟩
      rw [trues_all]
      exact q H1 s1
end
/-! ### progressions: the last one stands first -/
abbrev PG := Int × Int × Nat
def pushR : List PG → Int → List PG
  | [], x => [(x, 0, 1)]
  | (f, d, m) :: r, x => if m = 1 then (f, x - f, 2) :: r else if x = f + d * (m : Int) then (f, d, m + 1) :: r else (x, 0, 1) :: (f, d, m) :: r
def run (R : List PG) (x s : Int) : Nat → List PG
  | 0 => R
  | n + 1 => pushR (run R x s n) (x + s * (n : Int))
def good (s nx : Int) (R : List PG) : Prop := ∃ (g e : Int) (m : Nat) (r : List PG), R = (g, e, m) :: r ∧ 1 ≤ m ∧ (m ≠ 1 → e = s) ∧ g + s * (m : Int) = nx
theorem good_new (s x : Int) (r : List PG) : good s (x + s) ((x, 0, 1) :: r) := ⟨x, 0, 1, r, rfl, Nat.le_refl _, fun h => absurd rfl h, by simp⟩
/-- a push onto a good one goes on with it -/
theorem push_good {s nx : Int} {R : List PG} (h : good s nx R) : ∃ (g : Int) (m : Nat) (r : List PG), pushR R nx = (g, s, m) :: r ∧ 2 ≤ m ∧ g + s * (m : Int) = nx + s ∧ R.length = r.length + 1 := by
  obtain ⟨g, e, m, r, rfl, m1, me, hn⟩ := h
  by_cases h1 : m = 1
  · subst h1
    refine ⟨g, 2, r, ?_, Nat.le_refl _, ?_, rfl⟩
    · show (if (1 : Nat) = 1 then (g, nx - g, 2) :: r else if nx = g + e * ((1 : Nat) : Int) then (g, e, 1 + 1) :: r else (nx, 0, 1) :: (g, e, 1) :: r) = _
      rw [if_pos rfl, ← hn]
      congr 2
      simp
      omega
    · rw [← hn]
      push_cast
      omega
  · obtain rfl := me h1
    refine ⟨g, m + 1, r, ?_, by omega, ?_, rfl⟩
    · show (if m = 1 then _ else _) = _
      rw [if_neg h1, if_pos hn.symm]
    · rw [← hn]
      push_cast
      rw [Int.mul_add]
      omega
theorem push_good' {s nx : Int} {R : List PG} (h : good s nx R) : good s (nx + s) (pushR R nx) ∧ (pushR R nx).length = R.length := by
  obtain ⟨g, m, r, e, m2, hn, hl⟩ := push_good h
  exact ⟨⟨g, s, m, r, e, by omega, fun _ => rfl, hn⟩, by rw [e, hl]; rfl⟩
theorem push_any (s x : Int) (R : List PG) : (pushR R x).length = R.length ∨ ((pushR R x).length = R.length + 1 ∧ good s (x + s) (pushR R x)) := by
  match R with
  | [] => exact .inr ⟨rfl, good_new s x []⟩
  | (f, d, m) :: r =>
    show (if m = 1 then (f, x - f, 2) :: r else if x = f + d * (m : Int) then (f, d, m + 1) :: r else (x, 0, 1) :: (f, d, m) :: r).length = _ ∨ ((if m = 1 then (f, x - f, 2) :: r else if x = f + d * (m : Int) then (f, d, m + 1) :: r else (x, 0, 1) :: (f, d, m) :: r).length = _ ∧ good s (x + s) (if m = 1 then (f, x - f, 2) :: r else if x = f + d * (m : Int) then (f, d, m + 1) :: r else (x, 0, 1) :: (f, d, m) :: r))
    by_cases h1 : m = 1
    · rw [if_pos h1]
      exact .inl rfl
    · rw [if_neg h1]
      by_cases h2 : x = f + d * (m : Int)
      · rw [if_pos h2]
        exact .inl rfl
      · rw [if_neg h2]
        exact .inr ⟨rfl, good_new s x _⟩
theorem at_succ (x s : Int) (n : Nat) : x + s * ((n + 1 : Nat) : Int) = (x + s * (n : Int)) + s := by
  push_cast
  rw [Int.mul_add]
  omega
theorem run_len (R : List PG) (x s : Int) : ∀ n, (run R x s n).length = R.length ∨ ((run R x s n).length = R.length + 1 ∧ good s (x + s * (n : Int)) (run R x s n))
  | 0 => .inl rfl
  | n + 1 => by
    rcases run_len R x s n with h | ⟨h, g⟩
    · show (pushR _ _).length = _ ∨ _
      rcases push_any s (x + s * (n : Int)) (run R x s n) with e | ⟨e, g⟩
      · exact .inl (e.trans h)
      · exact .inr ⟨by rw [← h]; exact e, by rw [at_succ]; exact g⟩
    · obtain ⟨g2, e⟩ := push_good' g
      exact .inr ⟨e.trans h, by rw [at_succ]; exact g2⟩
theorem run_le (R : List PG) (x s : Int) (n : Nat) : (run R x s n).length ≤ R.length + 1 := by
  rcases run_len R x s n with h | ⟨h, _⟩ <;> omega
/-- all progressions have a number -/
def wf (R : List PG) : Prop := ∀ p ∈ R, 1 ≤ p.2.2
theorem wf_push {R : List PG} {x : Int} (h : wf R) : wf (pushR R x) := by
  match R, h with
  | [], _ => intro p hp; obtain rfl := List.mem_singleton.mp hp; exact Nat.le_refl _
  | (f, d, m) :: r, h =>
    have hr : ∀ p ∈ r, 1 ≤ p.2.2 := fun p hp => h p (List.mem_cons_of_mem _ hp)
    intro p hp
    have hp' : p ∈ (if m = 1 then (f, x - f, 2) :: r else if x = f + d * (m : Int) then (f, d, m + 1) :: r else (x, 0, 1) :: (f, d, m) :: r) := hp
    by_cases h1 : m = 1
    · rw [if_pos h1] at hp'
      rcases List.mem_cons.mp hp' with rfl | q
      · show 1 ≤ 2; decide
      · exact hr p q
    · rw [if_neg h1] at hp'
      by_cases h2 : x = f + d * (m : Int)
      · rw [if_pos h2] at hp'
        rcases List.mem_cons.mp hp' with rfl | q
        · show 1 ≤ m + 1; omega
        · exact hr p q
      · rw [if_neg h2] at hp'
        rcases List.mem_cons.mp hp' with rfl | q
        · exact Nat.le_refl _
        · exact h p q
theorem wf_run {R : List PG} {x s : Int} (h : wf R) : ∀ n, wf (run R x s n)
  | 0 => h
  | n + 1 => wf_push (wf_run h n)
/-- many numbers at once -/
theorem run_bulk {f s : Int} {m : Nat} {r : List PG} (h : m ≠ 1) (h1 : 1 ≤ m) : ∀ n, run ((f, s, m) :: r) (f + s * (m : Int)) s n = (f, s, m + n) :: r
  | 0 => rfl
  | n + 1 => by
    show pushR (run _ _ _ n) _ = _
    rw [run_bulk h h1 n]
    show (if m + n = 1 then _ else if _ = f + s * ((m + n : Nat) : Int) then _ else _) = _
    rw [if_neg (by omega), if_pos (by push_cast; rw [Int.mul_add]; omega)]
    rfl
theorem run_add (R : List PG) (x s : Int) (a : Nat) : ∀ b, run R x s (a + b) = run (run R x s a) (x + s * (a : Int)) s b
  | 0 => rfl
  | b + 1 => by
    show pushR (run R x s (a + b)) _ = pushR (run _ _ _ b) _
    rw [run_add R x s a b]
    congr 1
    show x + s * ((a + b : Nat) : Int) = _
    rw [Int.natCast_add, Int.mul_add]
    omega
/-- behind two numbers of one step -/
theorem run_two {R : List PG} (h : wf R) (x s : Int) : good s (x + s * (2 : Int)) (run R x s 2) := by
  have e2 : x + s * (2 : Int) = (x + s) + s := by omega
  have er : run R x s 2 = pushR (pushR R x) (x + s) := by
    show pushR (pushR R (x + s * ((0 : Nat) : Int))) (x + s * ((1 : Nat) : Int)) = _
    congr 2 <;> simp
  rw [er, e2]
  match R, h with
  | [], _ => exact (push_good' (good_new s x [])).1
  | (f, d, m) :: r, h =>
    have m1 : 1 ≤ m := h _ (List.mem_cons_self ..)
    have step : ∀ (d' : Int) (m' : Nat), 2 ≤ m' → f + d' * (m' : Int) = x + d' → good s (x + s + s) (pushR ((f, d', m') :: r) (x + s)) := fun d' m' h2 he => by
      show good s _ (if m' = 1 then _ else if x + s = f + d' * (m' : Int) then (f, d', m' + 1) :: r else (x + s, 0, 1) :: (f, d', m') :: r)
      rw [if_neg (by omega)]
      by_cases hs : x + s = f + d' * (m' : Int)
      · rw [if_pos hs]
        have : d' = s := by omega
        subst this
        exact ⟨f, d', m' + 1, r, rfl, by omega, fun _ => rfl, by rw [at_succ, he]⟩
      · rw [if_neg hs]
        exact good_new s (x + s) _
    show good s _ (pushR (if m = 1 then (f, x - f, 2) :: r else if x = f + d * (m : Int) then (f, d, m + 1) :: r else (x, 0, 1) :: (f, d, m) :: r) _)
    by_cases h1 : m = 1
    · rw [if_pos h1]
      exact step _ 2 (Nat.le_refl _) (by push_cast; omega)
    · rw [if_neg h1]
      by_cases h2 : x = f + d * (m : Int)
      · rw [if_pos h2]
        exact step _ (m + 1) (by omega) (by rw [at_succ, ← h2])
      · rw [if_neg h2]
        exact (push_good' (good_new s x _)).1
/-- behind three and more: the last one goes on for ever -/
theorem run_more {R : List PG} (h : wf R) (x s : Int) (n k : Nat) : ∃ (g : Int) (m : Nat) (r : List PG), run R x s (n + 3) = (g, s, m) :: r ∧ run R x s (n + 3 + k) = (g, s, m + k) :: r := by
  have goods : ∀ n, good s (x + s * ((n + 2 : Nat) : Int)) (run R x s (n + 2)) := by
    intro n
    induction n with
    | zero => exact run_two h x s
    | succ n ih =>
      have := (push_good' ih).1
      rw [show n + 1 + 2 = (n + 2) + 1 by omega, at_succ]
      exact this
  obtain ⟨g, m, r, e, m2, hn, _⟩ := push_good (goods n)
  have e3 : run R x s (n + 3) = (g, s, m) :: r := e
  refine ⟨g, m, r, e3, ?_⟩
  rw [run_add, e3, show x + s * ((n + 3 : Nat) : Int) = g + s * (m : Int) by rw [show n + 3 = (n + 2) + 1 by omega, at_succ, hn]]
  exact run_bulk (by omega) (by omega) k
/-- rows of progressions, one behind the other -/
def cutR (R : List PG) : List PG → List PG
  | [] => R
  | p :: ps => cutR (run R p.1 p.2.1 p.2.2) ps
theorem cutR_app (R : List PG) : ∀ a b : List PG, cutR R (a ++ b) = cutR (cutR R a) b
  | [], b => rfl
  | p :: a, b => cutR_app _ a b
theorem wf_cut : ∀ (ps R : List PG), wf R → wf (cutR R ps)
  | [], R, h => h
  | p :: ps, R, h => wf_cut ps _ (wf_run h _)
theorem cut_le : ∀ (ps R : List PG), (cutR R ps).length ≤ R.length + ps.length
  | [], R => Nat.le_refl _
  | p :: ps, R => by
    have h1 := run_le R p.1 p.2.1 p.2.2
    have h2 := cut_le ps (run R p.1 p.2.1 p.2.2)
    show (cutR _ ps).length ≤ R.length + (ps.length + 1)
    omega
/-- as the cut leaves them -/
def canon : List PG → Prop
  | [] => True
  | [p] => 1 ≤ p.2.2 ∧ (p.2.2 = 1 → p.2.1 = 0)
  | p :: q :: r => (1 ≤ p.2.2 ∧ (p.2.2 = 1 → p.2.1 = 0)) ∧ q.2.2 ≠ 1 ∧ p.1 ≠ q.1 + q.2.1 * (q.2.2 : Int) ∧ canon (q :: r)
theorem canon_head {f d d' : Int} {m m' : Nat} {r : List PG} (h : canon ((f, d, m) :: r)) (h1 : 1 ≤ m') (h2 : m' = 1 → d' = 0) : canon ((f, d', m') :: r) := by
  match r, h with
  | [], _ => exact ⟨h1, h2⟩
  | q :: r, h => exact ⟨⟨h1, h2⟩, h.2⟩
theorem canon_push {R : List PG} (h : canon R) (x : Int) : canon (pushR R x) := by
  match R, h with
  | [], _ => exact ⟨Nat.le_refl _, fun _ => rfl⟩
  | (f, d, m) :: r, h =>
    show canon (if m = 1 then (f, x - f, 2) :: r else if x = f + d * (m : Int) then (f, d, m + 1) :: r else (x, 0, 1) :: (f, d, m) :: r)
    by_cases h1 : m = 1
    · rw [if_pos h1]
      exact canon_head h (by decide) (fun z => by cases z)
    · rw [if_neg h1]
      by_cases h2 : x = f + d * (m : Int)
      · rw [if_pos h2]
        exact canon_head h (by omega) (fun z => by
          have : 1 ≤ m := by
            match r, h with
            | [], h => exact h.1
            | _ :: _, h => exact h.1.1
          omega)
      · rw [if_neg h2]
        exact ⟨⟨Nat.le_refl _, fun _ => rfl⟩, h1, h2, h⟩
theorem canon_run {R : List PG} (h : canon R) (x s : Int) : ∀ n, canon (run R x s n)
  | 0 => h
  | n + 1 => canon_push (canon_run h x s n) _
theorem canon_cut : ∀ (ps R : List PG), canon R → canon (cutR R ps)
  | [], R, h => h
  | p :: ps, R, h => canon_cut ps _ (canon_run h _ _ _)
theorem canon_one {p : PG} {r : List PG} (h : canon (p :: r)) : 1 ≤ p.2.2 ∧ (p.2.2 = 1 → p.2.1 = 0) := by
  match r, h with
  | [], h => exact h
  | _ :: _, h => exact h.1
theorem canon_tail {p : PG} {r : List PG} (h : canon (p :: r)) : canon r := by
  match r, h with
  | [], _ => trivial
  | _ :: _, h => exact h.2.2.2
theorem canon_new {p : PG} {r : List PG} (h : canon (p :: r)) : pushR r p.1 = (p.1, 0, 1) :: r := by
  match r, h with
  | [], _ => rfl
  | (f, d, m) :: r, h =>
    show (if m = 1 then _ else if p.1 = f + d * (m : Int) then _ else _) = _
    rw [if_neg h.2.1, if_neg h.2.2.1]
theorem run_canon {p : PG} {r : List PG} (h : canon (p :: r)) : run r p.1 p.2.1 p.2.2 = p :: r := by
  obtain ⟨f, d, m⟩ := p
  obtain ⟨m1, md⟩ := canon_one h
  have first : run r f d 1 = (f, 0, 1) :: r := by
    show pushR r (f + d * ((0 : Nat) : Int)) = _
    rw [show f + d * ((0 : Nat) : Int) = f by simp]
    exact canon_new h
  by_cases h1 : m = 1
  · subst h1
    have : d = 0 := md rfl
    subst this
    exact first
  · have m2 : 2 ≤ m := by have : 1 ≤ m := m1; omega
    have second : run r f d 2 = (f, d, 2) :: r := by
      show pushR (run r f d 1) (f + d * ((1 : Nat) : Int)) = _
      rw [first]
      show (if (1 : Nat) = 1 then (f, f + d * ((1 : Nat) : Int) - f, 2) :: r else if f + d * ((1 : Nat) : Int) = f + 0 * ((1 : Nat) : Int) then (f, 0, 1 + 1) :: r else (f + d * ((1 : Nat) : Int), 0, 1) :: (f, 0, 1) :: r) = _
      rw [if_pos rfl]
      congr 2
      simp
      omega
    obtain ⟨k, rfl⟩ : ∃ k, m = 2 + k := ⟨m - 2, by omega⟩
    show run r f d (2 + k) = _
    rw [run_add, second]
    exact run_bulk (by decide) (by decide) k
/-- the cut of a cut -/
theorem cut_canon : ∀ R : List PG, canon R → cutR [] R.reverse = R
  | [], _ => rfl
  | p :: r, h => by
    rw [List.reverse_cons, cutR_app, cut_canon r (canon_tail h)]
    exact run_canon h
/-- the numbers of rows -/
def numsP (p : PG) : List Int := (List.range p.2.2).map fun k : Nat => p.1 + p.2.1 * (k : Int)
theorem numsP_run (R : List PG) (x s : Int) : ∀ n : Nat, ((List.range n).map fun k => x + s * ((k : Nat) : Int)).foldl pushR R = run R x s n
  | 0 => rfl
  | n + 1 => by
    rw [List.range_succ, List.map_append, List.foldl_append, numsP_run R x s n]
    rfl
theorem cut_fold : ∀ (ps R : List PG), (ps.flatMap numsP).foldl pushR R = cutR R ps
  | [], R => rfl
  | p :: ps, R => by
    rw [List.flatMap_cons, List.foldl_append]
    show (ps.flatMap numsP).foldl pushR (((List.range p.2.2).map fun k : Nat => p.1 + p.2.1 * (k : Int)).foldl pushR R) = _
    rw [numsP_run, cut_fold ps]
    rfl
def sumC : List PG → Nat
  | [] => 0
  | p :: r => p.2.2 + sumC r
theorem sumC_push (R : List PG) (x : Int) : sumC (pushR R x) = sumC R + 1 := by
  match R with
  | [] => rfl
  | (f, d, m) :: r =>
    show sumC (if m = 1 then (f, x - f, 2) :: r else if x = f + d * (m : Int) then (f, d, m + 1) :: r else (x, 0, 1) :: (f, d, m) :: r) = m + sumC r + 1
    by_cases h1 : m = 1
    · rw [if_pos h1]
      show 2 + sumC r = _
      omega
    · rw [if_neg h1]
      by_cases h2 : x = f + d * (m : Int)
      · rw [if_pos h2]
        show m + 1 + sumC r = _
        omega
      · rw [if_neg h2]
        show 1 + (m + sumC r) = _
        omega
theorem sumC_run (R : List PG) (x s : Int) : ∀ n, sumC (run R x s n) = sumC R + n
  | 0 => rfl
  | n + 1 => by
    show sumC (pushR _ _) = _
    rw [sumC_push, sumC_run R x s n]
    rfl
theorem sumC_cut : ∀ ps R : List PG, sumC (cutR R ps) = sumC R + sumC ps
  | [], R => rfl
  | p :: ps, R => by
    show sumC (cutR (run R p.1 p.2.1 p.2.2) ps) = _
    rw [sumC_cut ps, sumC_run]
    show _ = sumC R + (p.2.2 + sumC ps)
    omega
theorem sumC_mem {R : List PG} {p : PG} (h : p ∈ R) : p.2.2 ≤ sumC R := by
  induction R with
  | nil => cases h
  | cons q r ih =>
    show _ ≤ q.2.2 + sumC r
    rcases List.mem_cons.mp h with rfl | h
    · omega
    · have := ih h
      omega
theorem sumC_app : ∀ a b : List PG, sumC (a ++ b) = sumC a + sumC b
  | [], b => by show sumC b = 0 + sumC b; omega
  | p :: a, b => by
    show p.2.2 + sumC (a ++ b) = p.2.2 + sumC a + sumC b
    rw [sumC_app a b]
    omega
theorem PI.or {X : Cx} {tg it : Expr} {w1 w2 : TI} (h1 : PI X tg it w1) (h2 : PI X tg it w2) : PI X tg it (fun σ H R => w1 σ H R ∨ w2 σ H R) :=
  ⟨fun pins s σ H R inv h => h.elim (h1.run pins s σ H R inv) (h2.run pins s σ H R inv)⟩
def PG.vals (p : PG) : List V := [.int p.1, .int p.2.1, .int ((p.2.2 : Nat) : Int)]
/-- a list of progressions, the last one first in R -/
structure Holds (H : Hp) (D : Addr) (as : List Addr) (R : List PG) : Prop where
  at_ : H D = some (.lst (as.map V.ref))
  lt : LT H as (R.reverse.map PG.vals)
theorem LT.last {H : Hp} {as : List Addr} {vss : List (List V)} {vs : List V} (h : LT H as (vss ++ [vs])) : ∃ (bs : List Addr) (a : Addr), as = bs ++ [a] ∧ LT H bs vss ∧ H a = some (.tup vs) := by
  obtain ⟨hl, hk⟩ := h
  rcases List.eq_nil_or_concat as with e | ⟨bs, a, e⟩
  · subst e
    simp at hl
  · rw [List.concat_eq_append] at e
    subst e
    have hl' : bs.length = vss.length := by simpa using hl
    refine ⟨bs, a, rfl, ⟨hl', fun k x e => ?_⟩, ?_⟩
    · have hlt : k < vss.length := (List.getElem?_eq_some_iff.mp e).1
      obtain ⟨c, e1, e2⟩ := hk k x (by rw [List.getElem?_append_left hlt]; exact e)
      exact ⟨c, by rw [List.getElem?_append_left (by omega)] at e1; exact e1, e2⟩
    · obtain ⟨c, e1, e2⟩ := hk vss.length vs (by simp)
      rw [← hl'] at e1
      simp at e1
      rw [e1]
      exact e2
theorem Holds.cons {H : Hp} {D : Addr} {as : List Addr} {p : PG} {r : List PG} (h : Holds H D as (p :: r)) : ∃ (bs : List Addr) (a : Addr), as = bs ++ [a] ∧ LT H bs (r.reverse.map PG.vals) ∧ H a = some (.tup p.vals) := by
  have := h.lt
  rw [List.reverse_cons, List.map_append] at this
  exact this.last
section
variable {P : Program} {w : World} {K : PySem.W.Frag} {mg : Str → Option Value} {base : Heap}
def manyF (R : List PG) (place step : Int) (count : Nat) : Nat := match R with
  | [] => 0
  | (f, d, m) :: _ => if m = 1 then 1 else if place = f + d * (m : Int) then (if step = d then count else 1) else 0
def spMany : Sp := fun vs H Q _ => ∃ (D : Addr) (as : List Addr) (R : List PG) (place step : Int) (count : Nat), vs = [.ref D, .int place, .int step, .int (count : Int)] ∧ Holds H D as R ∧ R.length ≤ 1000 ∧ (∀ p ∈ R, p.2.2 ≤ 1000000000000) ∧ Q (.int (manyF R place step count : Nat)) H
theorem scMa : FnScope ["done", "place", "step", "count", "first", "distance", "many"] ["done", "place", "step", "count"] (defScope sMany) := ⟨rfl, rfl, rfl, by decide +kernel, rfl, by decide +kernel, by decide +kernel⟩
theorem ok_many {f : Addr} {fd : FuncData} (F : Fun K "many_taken" "many_taken" sMany f fd) (hm : mg "many_taken" = some (.ref f)) (bb : Binds K fd ["done", "place", "step", "count"] []) (T : Txt mg) : Cal P w K mg base 1 "many_taken" spMany [] := by
  refine mkCal F hm bb scMa (fun vs H Q E h => ?_) (fun cdv A outer s H vs Q E hr h => ?_)
  · obtain ⟨D, as, R, place, step, count, rfl, _⟩ := h
    rfl
  obtain ⟨D, as, R, place, step, count, rfl, hD, hl, hm, q⟩ := h
  refine ⟨_, (pss_cons (ps_if (pt_not (pt_truth (pv 0) (by intro _; rfl))) (pss_one (ps_ret pe_int)) pss_nil)
    (pss_cons (ps_asg (pe_ix ix_list (pv 0) (pe_un un_neg pe_int) (fun _ _ => rfl)) (pg_tup rfl (pgs_cons (pg_name (i := 4) scMa.nd rfl (.inl rfl)) (pgs_cons (pg_name (i := 5) scMa.nd rfl (.inl rfl)) (pgs_cons (pg_name (i := 6) scMa.nd rfl (.inl rfl)) pgs_nil)))))
    (pss_cons (ps_if (pt_cmpR op_eq (pv 6) pe_int (nomark _)) (pss_one (ps_ret pe_int)) pss_nil)
    (pss_cons (ps_if (pt_cmpR op_ne (pv 1) (pe_op op_add (pv 4) (pe_op op_mul (pv 5) (pv 6))) (nomark _)) (pss_one (ps_ret pe_int)) pss_nil)
    (pss_one (ps_ret (pe_ifExp (pt_cmpR op_eq (pv 2) (pv 5) (nomark _)) (pv 3) pe_int))))))), ?_⟩
  match R, hD, hl, hm, q with
  | [], hD, hl, hm, q =>
    have ea : as = [] := List.eq_nil_of_length_eq_zero (by have := hD.lt.1; simpa using this)
    subst ea
    exact ⟨_, rfl, _, .inl ⟨[], SqL.of hD.at_, rfl⟩, ifT rfl q⟩
  | (g, d, m) :: r, hD, hl, hm, q =>
    obtain ⟨bs, a, ea, hbs, ha⟩ := hD.cons
    subst ea
    have hD0 := hD.at_
    have hm1 : (m : Int) ≤ 1000000000000 := by have : m ≤ 1000000000000 := hm _ (List.mem_cons_self ..); omega
    have b64 : -(2 ^ 64 : Int) < (m : Int) ∧ (m : Int) < 2 ^ 64 := ⟨by omega, by omega⟩
    rw [List.map_append] at hD0
    refine ⟨_, rfl, _, .inl ⟨_, SqL.of hD0, rfl⟩, ifF (by simp) ?_⟩
    refine ⟨_, rfl, 1, rfl, D, _, -1, _, rfl, rfl, SqL.of hD0, atI_last _ _, ?_⟩
    refine ⟨a, _, rfl, SqT.of ha, rfl, _, _, rfl, _, _, rfl, _, _, rfl, rfl, ?_⟩
    refine ⟨_, rfl, rfl, _, rfl, ?_⟩
    refine ite2 (fun z => ?_) (fun z => ?_)
    · have z1 : m = 1 := by have : (m : Int) = 1 := V.int.inj (of_decide_eq_true z); omega
      have e : manyF ((g, d, m) :: r) place step count = 1 := by show (if m = 1 then 1 else _) = 1; rw [if_pos z1]
      rw [e] at q
      exact q
    have z1 : m ≠ 1 := fun h => z (decide_eq_true (by rw [h]; rfl))
    refine ⟨_, rfl, _, rfl, _, rfl, _, rfl, _, _, rfl, rfl, .inr b64, _, _, rfl, rfl, rfl, _, rfl, ?_⟩
    have em : manyF ((g, d, m) :: r) place step count = if place = g + d * (m : Int) then (if step = d then count else 1) else 0 := by show (if m = 1 then 1 else _) = _; rw [if_neg z1]
    rw [em] at q
    refine ite2 (fun z => ?_) (fun z => ?_)
    · rw [if_neg (fun h => ?_)] at q
      · exact q
      · rw [h] at z
        simp at z
    have z2 : place = g + d * (m : Int) := by
      have := (Decidable.not_not.mp fun h => z (by rw [decide_eq_false h]; rfl) : V.int place = V.int (g + d * (m : Int)))
      exact V.int.inj this
    rw [if_pos z2] at q
    refine ⟨_, rfl, _, rfl, rfl, _, rfl, ?_⟩
    refine ite2 (fun z => ?_) (fun z => ?_)
    · rw [if_pos (V.int.inj (of_decide_eq_true z))] at q
      exact ⟨_, rfl, q⟩
    · rw [if_neg fun h => z (decide_eq_true (congrArg V.int h))] at q
      exact q
def spLonger : Sp := fun vs H Q _ => ∃ (a : Addr) (p : PG) (place : Int) (many : Nat), vs = [.ref a, .int place, .int (many : Int)] ∧ H a = some (.tup p.vals) ∧ ∀ t, H t = none → Q (.ref t) (upd H t (.tup (PG.vals (p.1, (if p.2.2 = 1 then place - p.1 else p.2.1), p.2.2 + many))))
theorem scLo : FnScope ["row", "place", "many", "first", "step", "count"] ["row", "place", "many"] (defScope sLonger) := ⟨rfl, rfl, rfl, by decide +kernel, rfl, by decide +kernel, by decide +kernel⟩
theorem ok_longer {f : Addr} {fd : FuncData} (F : Fun K "longer" "longer" sLonger f fd) (hm : mg "longer" = some (.ref f)) (bb : Binds K fd ["row", "place", "many"] []) (T : Txt mg) : Cal P w K mg base 1 "longer" spLonger [] := by
  refine mkCal F hm bb scLo (fun vs H Q E h => ?_) (fun cdv A outer s H vs Q E hr h => ?_)
  · obtain ⟨a, p, place, many, rfl, _⟩ := h
    rfl
  obtain ⟨a, ⟨g, d, m⟩, place, many, rfl, ha, q⟩ := h
  refine ⟨_, (pss_cons (ps_asg (pv 0) (pg_tup rfl (pgs_cons (pg_name (i := 3) scLo.nd rfl (.inl rfl)) (pgs_cons (pg_name (i := 4) scLo.nd rfl (.inl rfl)) (pgs_cons (pg_name (i := 5) scLo.nd rfl (.inl rfl)) pgs_nil)))))
    (pss_one (ps_ret (pe_tup (pa_cons (pv 3) (pa_cons (pe_ifExp (pt_cmpR op_eq (pv 5) pe_int (nomark _)) (pe_op op_sub (pv 1) (pv 3)) (pv 4)) (pa_cons (pe_op op_add (pv 5) (pv 2)) pa_nil))))))), ?_⟩
  refine ⟨_, rfl, a, _, rfl, SqT.of ha, rfl, _, _, rfl, _, _, rfl, _, _, rfl, rfl, ?_⟩
  have fin : ∀ d' : Int, d' = (if m = 1 then place - g else d) → ∀ t, H t = none → Q (.ref t) (upd H t (.tup [.int g, .int d', .int ((m : Int) + (many : Int))])) := fun d' e t nt => by
    have := q t nt
    rw [e]
    exact this
  refine ⟨_, rfl, _, rfl, rfl, _, rfl, ?_⟩
  refine ite2 (fun z => ?_) (fun z => ?_)
  · have z1 : m = 1 := by have : (m : Int) = 1 := V.int.inj (of_decide_eq_true z); omega
    exact ⟨_, rfl, _, rfl, _, _, rfl, rfl, _, rfl, _, rfl, _, _, rfl, rfl, by show 3 ≤ sizeLine; decide, fin _ (by rw [if_pos z1])⟩
  · have z1 : m ≠ 1 := fun h => z (decide_eq_true (by rw [h]; rfl))
    exact ⟨_, rfl, _, rfl, _, rfl, _, _, rfl, rfl, by show 3 ≤ sizeLine; decide, fin _ (by rw [if_neg z1])⟩
end
theorem taken_none {R : List PG} {place step : Int} {n : Nat} (h : manyF R place step n = 0) (hn : 1 ≤ n) : (place, 0, 1) :: R = run R place step 1 := by
  show _ = pushR R (place + step * ((0 : Nat) : Int))
  rw [show place + step * ((0 : Nat) : Int) = place by simp]
  match R, h with
  | [], _ => rfl
  | (f, d, m) :: r, h =>
    have h' : (if m = 1 then 1 else if place = f + d * (m : Int) then (if step = d then n else 1) else 0) = 0 := h
    show _ = if m = 1 then _ else if place = f + d * (m : Int) then _ else _
    by_cases h1 : m = 1
    · rw [if_pos h1] at h'
      cases h'
    · rw [if_neg h1] at h' ⊢
      by_cases h2 : place = f + d * (m : Int)
      · rw [if_pos h2] at h'
        split at h' <;> omega
      · rw [if_neg h2]
theorem taken_some {R : List PG} {place step : Int} {n : Nat} (h : manyF R place step n ≠ 0) (w : wf R) (hn : 1 ≤ n) : ∃ (p : PG) (r : List PG), R = p :: r ∧ (p.1, (if p.2.2 = 1 then place - p.1 else p.2.1), p.2.2 + manyF R place step n) :: r = run R place step (manyF R place step n) ∧ manyF R place step n ≤ n := by
  match R, h, w with
  | [], h, _ => exact absurd rfl h
  | (f, d, m) :: r, h, w =>
    refine ⟨(f, d, m), r, rfl, ?_⟩
    have m1 : 1 ≤ m := w _ (List.mem_cons_self ..)
    have e : manyF ((f, d, m) :: r) place step n = (if m = 1 then 1 else if place = f + d * (m : Int) then (if step = d then n else 1) else 0) := rfl
    have one : ∀ (z : PG), z = (f, (if m = 1 then place - f else d), m + 1) → (if m = 1 then (f, place - f, 2) :: r else if place = f + d * (m : Int) then (f, d, m + 1) :: r else (place, 0, 1) :: (f, d, m) :: r) = z :: r → z :: r = run ((f, d, m) :: r) place step 1 := fun z _ hz => by
      show _ = pushR ((f, d, m) :: r) (place + step * ((0 : Nat) : Int))
      rw [show place + step * ((0 : Nat) : Int) = place by simp]
      exact hz.symm
    by_cases h1 : m = 1
    · have hM : manyF ((f, d, m) :: r) place step n = 1 := by rw [e, if_pos h1]
      rw [hM]
      refine ⟨one _ rfl ?_, hn⟩
      rw [if_pos h1, if_pos h1, h1]
    · by_cases h2 : place = f + d * (m : Int)
      · by_cases h3 : step = d
        · have hM : manyF ((f, d, m) :: r) place step n = n := by rw [e, if_neg h1, if_pos h2, if_pos h3]
          rw [hM]
          subst h3
          refine ⟨?_, Nat.le_refl _⟩
          rw [h2, run_bulk h1 m1 n]
          show (f, (if m = 1 then _ else step), m + n) :: r = _
          rw [if_neg h1]
        · have hM : manyF ((f, d, m) :: r) place step n = 1 := by rw [e, if_neg h1, if_pos h2, if_neg h3]
          rw [hM]
          refine ⟨one _ rfl ?_, hn⟩
          rw [if_neg h1, if_pos h2, if_neg h1]
      · exact absurd (by rw [e, if_neg h1, if_neg h2]) h
theorem LT.snoc {H : Hp} {as : List Addr} {R : List PG} {a : Addr} {p : PG} (h : LT H as (R.reverse.map PG.vals)) (ha : H a = some (.tup p.vals)) : LT H (as ++ [a]) ((p :: R).reverse.map PG.vals) := by
  rw [List.reverse_cons, List.map_append]
  exact h.add ha
theorem max1 (n : Nat) : (if (1 : Int) > (n : Int) then (1 : Int) else (n : Int)) = ((max n 1 : Nat) : Int) := by
  by_cases h : (1 : Int) > (n : Int)
  · rw [if_pos h]
    omega
  · rw [if_neg h]
    omega
section
variable {P : Program} {w : World} {K : PySem.W.Frag} {mg : Str → Option Value} {base : Heap}
def spCut : Sp := fun vs H Q _ => ∃ (A : Addr) (as : List Addr) (ps : List PG), vs = [.ref A] ∧ (H A = some (.lst (as.map V.ref)) ∨ H A = some (.tup (as.map V.ref))) ∧ LT H as (ps.map PG.vals) ∧ ps.length ≤ 100 ∧ sumC ps ≤ 1000000000000 ∧
  ∀ (T : Addr) (bs : List Addr) (H' : Hp), Same H H' → H' T = some (.tup (bs.map V.ref)) → LT H' bs ((cutR [] ps).reverse.map PG.vals) → Q (.ref T) H'
theorem scCu : FnScope ["rows", "done", "first", "step", "count", "at", "place", "many"] ["rows"] (defScope sCut) := ⟨rfl, rfl, rfl, by decide +kernel, rfl, by decide +kernel, by decide +kernel⟩
theorem ok_cut {f : Addr} {fd : FuncData} (F : Fun K "cut" "cut" sCut f fd) (hm : mg "cut" = some (.ref f)) (bb : Binds K fd ["rows"] []) (T : Txt mg) (GMa : Cal P w K mg base 1 "many_taken" spMany []) (GLo : Cal P w K mg base 1 "longer" spLonger []) : Cal P w K mg base 2 "cut" spCut [] := by
  refine mkCal F hm bb scCu (fun vs H Q E h => ?_) (fun cdv A outer s H vs Q E hr h => ?_)
  · obtain ⟨A, as, ps, rfl, _⟩ := h
    rfl
  obtain ⟨A, as, ps, rfl, hA, hL, l100, hs, q⟩ := h
  refine ⟨_, (pss_cons (ps_set (i := 1) scCu.nd rfl (.inl rfl) (pe_lst pa_nil))
    (pss_cons (ps_for PassesOwn.never rfl (PI.or (pi_list (pv 0)) (pi_tup (pv 0))) (pg_tup rfl (pgs_cons (pg_name (i := 2) scCu.nd rfl (.inl rfl)) (pgs_cons (pg_name (i := 3) scCu.nd rfl (.inl rfl)) (pgs_cons (pg_name (i := 4) scCu.nd rfl (.inl rfl)) pgs_nil)))) (pss_cons (ps_set (i := 5) scCu.nd rfl (.inl rfl) pe_int)
    (pss_one (ps_while PassesOwn.never (pt_cmpR op_lt (pv 5) (pv 4) (nomark _)) (pss_cons (ps_set (i := 6) scCu.nd rfl (.inl rfl) (pe_op op_add (pv 2) (pe_op op_mul (pv 3) (pv 5))))
    (pss_cons (ps_set (i := 7) scCu.nd rfl (.inl rfl) (pe_c GMa hr (by decide) (by rfl) (pa_cons (pv 1) (pa_cons (pv 6) (pa_cons (pv 3) (pa_cons (pe_op op_sub (pv 4) (pv 5)) pa_nil))))))
    (pss_cut (ps_if (pt_truth (pv 7) (by intro _; rfl)) (pss_one (ps_expr (pe_bm PySem.F.plainAttrs_list PySem.F.slot_list_append PySem.F.type_list_append mt_append (pv 1) (pa_cons (pe_c GLo hr (by decide) (by rfl) (pa_cons (pe_bm0 PySem.F.plainAttrs_list PySem.F.slot_list_pop PySem.F.type_list_pop mt_pop (pv 1)) (pa_cons (pv 6) (pa_cons (pv 7) pa_nil)))) pa_nil)))) (pss_one (ps_expr (pe_bm PySem.F.plainAttrs_list PySem.F.slot_list_append PySem.F.type_list_append mt_append (pv 1) (pa_cons (pe_tup (pa_cons (pv 6) (pa_cons pe_int (pa_cons pe_int pa_nil)))) pa_nil)))))
    (pss_one (ps_aug (i := 5) scCu.nd rfl (.inl rfl) (pe_callB (call_max2 rfl) (by rfl) T.max (by decide +kernel) (pa_cons (pv 7) (pa_cons pe_int pa_nil))) ip_add)))))))))
    (pss_one (ps_ret (pe_callTy call_tuple_of (by rfl) T.tuple (by decide +kernel) (pa_cons (pv 1) pa_nil)))))), ?_⟩
  refine ⟨Nat.zero_le _, fun D nD => ?_⟩
  have sD := same_new (o := .lst []) nD
  have al : as.length = ps.length := by have := hL.1; simpa using this
  rcases hA with hA | hA
  · refine .inl ⟨_, rfl, A, rfl, ⟨_, SqL.of (sD _ _ hA)⟩, for_list (K := K) (a := A) (xs := as.map V.ref) (fun i σ H' => ∃ (v2 v3 v4 v5 v6 v7 : Option V) (bs : List Addr), σ = [some (.ref A), some (.ref D), v2, v3, v4, v5, v6, v7] ∧ Same H H' ∧ Holds H' D bs (cutR [] (ps.take i)))
      ⟨_, _, _, _, _, _, [], rfl, sD, ⟨upd_same, LT.nil⟩⟩ (fun i σ H' _ h => let ⟨_, _, _, _, _, _, _, _, s, _⟩ := h; SqL.of (s _ _ hA)) ?_ ?_⟩
    · rintro i y σ H1 hi ⟨v2, v3, v4, v5, v6, v7, bs, rfl, s1, hD⟩
      have hil : i < as.length := by
        have := (List.getElem?_eq_some_iff.mp hi).1
        rwa [List.length_map] at this
      obtain ⟨⟨x, s, n⟩, hp⟩ : ∃ p : PG, ps[i]? = some p := ⟨_, List.getElem?_eq_getElem (by omega)⟩
      obtain ⟨a, ea, ha⟩ := hL.2 i (PG.vals (x, s, n)) (by rw [List.getElem?_map, hp]; rfl)
      rw [List.getElem?_map, ea] at hi
      obtain rfl : V.ref a = y := Option.some.inj hi
      have et : ps.take (i + 1) = ps.take i ++ [(x, s, n)] := by rw [List.take_add_one, hp]; rfl
      have ec : cutR [] (ps.take (i + 1)) = run (cutR [] (ps.take i)) x s n := by rw [et, cutR_app]; rfl
      have hsum : sumC (ps.take i) + n ≤ 1000000000000 := by
        have e1 : sumC (ps.take (i + 1)) + sumC (ps.drop (i + 1)) = sumC ps := by rw [← sumC_app, List.take_append_drop]
        rw [et, sumC_app] at e1
        have e2 : sumC [(x, s, n)] = n := rfl
        omega
      have hR0 : wf (cutR [] (ps.take i)) := wf_cut _ _ (fun p hp => (by cases hp))
      have hRl : (cutR [] (ps.take i)).length ≤ 100 := by
        have := cut_le (ps.take i) []
        simp at this
        omega
      have hRs : sumC (cutR [] (ps.take i)) = sumC (ps.take i) := by rw [sumC_cut]; show 0 + _ = _; omega
      rw [ec]
      generalize cutR [] (ps.take i) = R0 at hD hR0 hRl hRs ⊢
      refine ⟨a, _, rfl, SqT.of (s1 _ _ ha), rfl, _, _, rfl, _, _, rfl, _, _, rfl, rfl, ?_⟩
      refine while_by (fun σ H' => ∃ (k : Nat) (v6 v7 : Option V) (bs : List Addr), σ = [some (.ref A), some (.ref D), some (.int x), some (.int s), some (.int (n : Int)), some (.int (k : Int)), v6, v7] ∧ k ≤ n ∧ Same H H' ∧ Holds H' D bs (run R0 x s k))
        (fun σ _ => match σ with | [_, _, _, _, _, some (.int k), _, _] => n - k.toNat | _ => 0) ⟨0, _, _, bs, rfl, Nat.zero_le _, s1, hD⟩ ?_ ?_
      · rintro σ H2 ⟨k, v6, v7, cs, rfl, hk, s2, hD2⟩
        refine ⟨_, rfl, _, rfl, _, _, rfl, rfl, _, rfl, ?_⟩
        refine ite2 (fun z => ?_) (fun z => ?_)
        · have z1 : (k : Int) < (n : Int) := of_decide_eq_true z
          refine ⟨_, rfl, _, rfl, _, rfl, _, _, rfl, rfl, .inr ⟨by omega, by omega⟩, _, _, rfl, rfl, ?_⟩
          dsimp only
          have hlen : (run R0 x s k).length ≤ 101 := Nat.le_trans (run_le R0 x s k) (by omega)
          have hsm : ∀ p ∈ run R0 x s k, p.2.2 ≤ 1000000000000 := fun p hp => by
            have h1 := sumC_mem hp
            rw [sumC_run, hRs] at h1
            omega
          have hwf := wf_run (x := x) (s := s) hR0 k
          refine ⟨_, rfl, _, rfl, _, rfl, _, rfl, _, rfl, _, _, rfl, rfl, D, cs, run R0 x s k, x + s * (k : Int), s, n - k, by rw [show ((n - k : Nat) : Int) = (n : Int) - (k : Int) by omega]; rfl, hD2, by omega, hsm, ?_⟩
          generalize hmy : manyF (run R0 x s k) (x + s * (k : Int)) s (n - k) = my
          refine ⟨fun σ H' => ∃ ds : List Addr, σ = [some (.ref A), some (.ref D), some (.int x), some (.int s), some (.int (n : Int)), some (.int (k : Int)), some (.int (x + s * (k : Int))), some (.int (my : Int))] ∧ Same H H' ∧ Holds H' D ds (run R0 x s (k + max my 1)) ∧ k + max my 1 ≤ n, ?_, ?_⟩
          · by_cases h0 : my = 0
            · refine ⟨_, rfl, false, by rw [h0]; rfl, ifF rfl ?_⟩
              refine ⟨_, rfl, .inl ⟨rfl, _, SqL.of hD2.at_⟩, _, rfl, by show 3 ≤ sizeLine; decide, fun t nt => ?_⟩
              have st := same_new (o := .tup [.int (x + s * (k : Int)), .int 0, .int 1]) nt
              refine ⟨D, _, _, rfl, rfl, st _ _ hD2.at_, by rw [List.length_map, hD2.lt.1, List.length_map, List.length_reverse]; exact small1000 (by omega), ?_⟩
              have e1 : k + max my 1 = k + 1 := by omega
              refine ⟨cs ++ [t], by rw [h0]; rfl, fun b o hb => ?_, ⟨by rw [upd_same, List.map_append]; rfl, ?_⟩, by omega⟩
              · rw [upd_ne (ne_of_none hb nD)]
                exact st _ _ (s2 _ _ hb)
              · have := ((hD2.lt.same st).snoc (p := (x + s * (k : Int), 0, 1)) (a := t) upd_same).updL (o := .lst (cs.map V.ref ++ [.ref t])) (st _ _ hD2.at_)
                rw [taken_none (step := s) (n := n - k) (by rw [hmy, h0]) (by omega), ← run_add] at this
                rw [e1]
                exact this
            · obtain ⟨⟨g, d, m⟩, r, eR, en, hle⟩ := taken_some (R := run R0 x s k) (place := x + s * (k : Int)) (step := s) (n := n - k) (by rw [hmy]; exact h0) hwf (by omega)
              rw [hmy] at en hle
              rw [eR] at hD2
              obtain ⟨cs', a', rfl, hcs, ha'⟩ := hD2.cons
              have hat := hD2.at_
              rw [List.map_append] at hat
              have m1 : max my 1 = my := by omega
              refine ⟨_, rfl, true, ?_, ifT rfl ?_⟩
              · show true = (((my : Nat) : Int) != 0)
                simp [h0]
              refine ⟨_, rfl, .inl ⟨rfl, _, SqL.of hat⟩, _, rfl, .inl ⟨rfl, _, SqL.of hat⟩, D, _, .ref a', rfl, rfl, hat, by simp, _, rfl, _, rfl, ?_⟩
              have ed : (cs'.map V.ref ++ [a'].map V.ref).dropLast = cs'.map V.ref := List.dropLast_concat
              rw [ed]
              have haD : a' ≠ D := ne_of ha' hat (by intro z; cases z)
              refine ⟨a', (g, d, m), _, my, rfl, by rw [upd_ne haD]; exact ha', fun t nt => ?_⟩
              have nt2 : H2 t = none := by
                by_cases e : t = D
                · rw [e, upd_same] at nt
                  cases nt
                · rw [upd_ne e] at nt
                  exact nt
              have tD : t ≠ D := fun e => by rw [e, upd_same] at nt; cases nt
              refine ⟨D, _, _, rfl, rfl, by rw [upd_ne tD.symm, upd_same], by have := hcs.1; rw [eR] at hlen; simp at this hlen; rw [List.length_map]; exact small1000 (by omega), ?_⟩
              refine ⟨cs' ++ [t], rfl, fun b o hb => ?_, ⟨by rw [upd_same, List.map_append]; rfl, ?_⟩, by omega⟩
              · have hbD := ne_of_none hb nD
                rw [upd_ne hbD, upd_ne (ne_of_none (s2 _ _ hb) nt2), upd_ne hbD]
                exact s2 _ _ hb
              · rw [m1, run_add, ← en]
                have h1 : LT (upd H2 D (.lst (cs'.map V.ref))) cs' (r.reverse.map PG.vals) := hcs.updL hat
                have h2 := ((h1.same (same_new (o := .tup (PG.vals (g, (if m = 1 then x + s * (k : Int) - g else d), m + my))) nt)).snoc (p := (g, (if m = 1 then x + s * (k : Int) - g else d), m + my)) (a := t) upd_same)
                exact h2.updL (xs := cs'.map V.ref) (by rw [upd_ne tD.symm, upd_same])
          · rintro σ H3 ⟨ds, rfl, s3, hD3, hkn⟩
            refine ⟨_, rfl, _, rfl, _, _, rfl, ?_⟩
            rw [max1]
            refine ⟨_, _, rfl, rfl, ⟨k + max my 1, _, _, ds, rfl, hkn, s3, hD3⟩, ?_⟩
            show n - ((k : Int) + ((max my 1 : Nat) : Int)).toNat < n - (k : Int).toNat
            omega
        · have z1 : ¬ (k : Int) < (n : Int) := fun h => z (decide_eq_true h)
          have e : k = n := by omega
          subst e
          exact ⟨_, _, _, _, _, _, cs, rfl, s2, hD2⟩
      · rintro σ H' Q Q' h ⟨u, e1, v, e2, i, j, f1, f2, b, f3, q⟩
        exact ⟨u, e1, v, e2, i, j, f1, f2, b, f3, h _ _ q⟩
    · rintro σ H1 ⟨v2, v3, v4, v5, v6, v7, bs, rfl, s1, hD⟩
      rw [List.length_map, al, List.take_length] at hD
      refine ⟨_, rfl, D, _, rfl, .inl ⟨SqL.of hD.at_, fun t nt => ?_⟩⟩
      exact q t bs _ (s1.trans (same_new nt)) upd_same (hD.lt.same (same_new nt))
  · refine .inr ⟨_, rfl, A, rfl, ⟨_, SqT.of (sD _ _ hA)⟩, for_tup (K := K) (a := A) (xs := as.map V.ref) (fun i σ H' => ∃ (v2 v3 v4 v5 v6 v7 : Option V) (bs : List Addr), σ = [some (.ref A), some (.ref D), v2, v3, v4, v5, v6, v7] ∧ Same H H' ∧ Holds H' D bs (cutR [] (ps.take i)))
      ⟨_, _, _, _, _, _, [], rfl, sD, ⟨upd_same, LT.nil⟩⟩ (fun i σ H' _ h => let ⟨_, _, _, _, _, _, _, _, s, _⟩ := h; SqT.of (s _ _ hA)) ?_ ?_⟩
    · rintro i y σ H1 hi ⟨v2, v3, v4, v5, v6, v7, bs, rfl, s1, hD⟩
      have hil : i < as.length := by
        have := (List.getElem?_eq_some_iff.mp hi).1
        rwa [List.length_map] at this
      obtain ⟨⟨x, s, n⟩, hp⟩ : ∃ p : PG, ps[i]? = some p := ⟨_, List.getElem?_eq_getElem (by omega)⟩
      obtain ⟨a, ea, ha⟩ := hL.2 i (PG.vals (x, s, n)) (by rw [List.getElem?_map, hp]; rfl)
      rw [List.getElem?_map, ea] at hi
      obtain rfl : V.ref a = y := Option.some.inj hi
      have et : ps.take (i + 1) = ps.take i ++ [(x, s, n)] := by rw [List.take_add_one, hp]; rfl
      have ec : cutR [] (ps.take (i + 1)) = run (cutR [] (ps.take i)) x s n := by rw [et, cutR_app]; rfl
      have hsum : sumC (ps.take i) + n ≤ 1000000000000 := by
        have e1 : sumC (ps.take (i + 1)) + sumC (ps.drop (i + 1)) = sumC ps := by rw [← sumC_app, List.take_append_drop]
        rw [et, sumC_app] at e1
        have e2 : sumC [(x, s, n)] = n := rfl
        omega
      have hR0 : wf (cutR [] (ps.take i)) := wf_cut _ _ (fun p hp => (by cases hp))
      have hRl : (cutR [] (ps.take i)).length ≤ 100 := by
        have := cut_le (ps.take i) []
        simp at this
        omega
      have hRs : sumC (cutR [] (ps.take i)) = sumC (ps.take i) := by rw [sumC_cut]; show 0 + _ = _; omega
      rw [ec]
      generalize cutR [] (ps.take i) = R0 at hD hR0 hRl hRs ⊢
      refine ⟨a, _, rfl, SqT.of (s1 _ _ ha), rfl, _, _, rfl, _, _, rfl, _, _, rfl, rfl, ?_⟩
      refine while_by (fun σ H' => ∃ (k : Nat) (v6 v7 : Option V) (bs : List Addr), σ = [some (.ref A), some (.ref D), some (.int x), some (.int s), some (.int (n : Int)), some (.int (k : Int)), v6, v7] ∧ k ≤ n ∧ Same H H' ∧ Holds H' D bs (run R0 x s k))
        (fun σ _ => match σ with | [_, _, _, _, _, some (.int k), _, _] => n - k.toNat | _ => 0) ⟨0, _, _, bs, rfl, Nat.zero_le _, s1, hD⟩ ?_ ?_
      · rintro σ H2 ⟨k, v6, v7, cs, rfl, hk, s2, hD2⟩
        refine ⟨_, rfl, _, rfl, _, _, rfl, rfl, _, rfl, ?_⟩
        refine ite2 (fun z => ?_) (fun z => ?_)
        · have z1 : (k : Int) < (n : Int) := of_decide_eq_true z
          refine ⟨_, rfl, _, rfl, _, rfl, _, _, rfl, rfl, .inr ⟨by omega, by omega⟩, _, _, rfl, rfl, ?_⟩
          dsimp only
          have hlen : (run R0 x s k).length ≤ 101 := Nat.le_trans (run_le R0 x s k) (by omega)
          have hsm : ∀ p ∈ run R0 x s k, p.2.2 ≤ 1000000000000 := fun p hp => by
            have h1 := sumC_mem hp
            rw [sumC_run, hRs] at h1
            omega
          have hwf := wf_run (x := x) (s := s) hR0 k
          refine ⟨_, rfl, _, rfl, _, rfl, _, rfl, _, rfl, _, _, rfl, rfl, D, cs, run R0 x s k, x + s * (k : Int), s, n - k, by rw [show ((n - k : Nat) : Int) = (n : Int) - (k : Int) by omega]; rfl, hD2, by omega, hsm, ?_⟩
          generalize hmy : manyF (run R0 x s k) (x + s * (k : Int)) s (n - k) = my
          refine ⟨fun σ H' => ∃ ds : List Addr, σ = [some (.ref A), some (.ref D), some (.int x), some (.int s), some (.int (n : Int)), some (.int (k : Int)), some (.int (x + s * (k : Int))), some (.int (my : Int))] ∧ Same H H' ∧ Holds H' D ds (run R0 x s (k + max my 1)) ∧ k + max my 1 ≤ n, ?_, ?_⟩
          · by_cases h0 : my = 0
            · refine ⟨_, rfl, false, by rw [h0]; rfl, ifF rfl ?_⟩
              refine ⟨_, rfl, .inl ⟨rfl, _, SqL.of hD2.at_⟩, _, rfl, by show 3 ≤ sizeLine; decide, fun t nt => ?_⟩
              have st := same_new (o := .tup [.int (x + s * (k : Int)), .int 0, .int 1]) nt
              refine ⟨D, _, _, rfl, rfl, st _ _ hD2.at_, by rw [List.length_map, hD2.lt.1, List.length_map, List.length_reverse]; exact small1000 (by omega), ?_⟩
              have e1 : k + max my 1 = k + 1 := by omega
              refine ⟨cs ++ [t], by rw [h0]; rfl, fun b o hb => ?_, ⟨by rw [upd_same, List.map_append]; rfl, ?_⟩, by omega⟩
              · rw [upd_ne (ne_of_none hb nD)]
                exact st _ _ (s2 _ _ hb)
              · have := ((hD2.lt.same st).snoc (p := (x + s * (k : Int), 0, 1)) (a := t) upd_same).updL (o := .lst (cs.map V.ref ++ [.ref t])) (st _ _ hD2.at_)
                rw [taken_none (step := s) (n := n - k) (by rw [hmy, h0]) (by omega), ← run_add] at this
                rw [e1]
                exact this
            · obtain ⟨⟨g, d, m⟩, r, eR, en, hle⟩ := taken_some (R := run R0 x s k) (place := x + s * (k : Int)) (step := s) (n := n - k) (by rw [hmy]; exact h0) hwf (by omega)
              rw [hmy] at en hle
              rw [eR] at hD2
              obtain ⟨cs', a', rfl, hcs, ha'⟩ := hD2.cons
              have hat := hD2.at_
              rw [List.map_append] at hat
              have m1 : max my 1 = my := by omega
              refine ⟨_, rfl, true, ?_, ifT rfl ?_⟩
              · show true = (((my : Nat) : Int) != 0)
                simp [h0]
              refine ⟨_, rfl, .inl ⟨rfl, _, SqL.of hat⟩, _, rfl, .inl ⟨rfl, _, SqL.of hat⟩, D, _, .ref a', rfl, rfl, hat, by simp, _, rfl, _, rfl, ?_⟩
              have ed : (cs'.map V.ref ++ [a'].map V.ref).dropLast = cs'.map V.ref := List.dropLast_concat
              rw [ed]
              have haD : a' ≠ D := ne_of ha' hat (by intro z; cases z)
              refine ⟨a', (g, d, m), _, my, rfl, by rw [upd_ne haD]; exact ha', fun t nt => ?_⟩
              have nt2 : H2 t = none := by
                by_cases e : t = D
                · rw [e, upd_same] at nt
                  cases nt
                · rw [upd_ne e] at nt
                  exact nt
              have tD : t ≠ D := fun e => by rw [e, upd_same] at nt; cases nt
              refine ⟨D, _, _, rfl, rfl, by rw [upd_ne tD.symm, upd_same], by have := hcs.1; rw [eR] at hlen; simp at this hlen; rw [List.length_map]; exact small1000 (by omega), ?_⟩
              refine ⟨cs' ++ [t], rfl, fun b o hb => ?_, ⟨by rw [upd_same, List.map_append]; rfl, ?_⟩, by omega⟩
              · have hbD := ne_of_none hb nD
                rw [upd_ne hbD, upd_ne (ne_of_none (s2 _ _ hb) nt2), upd_ne hbD]
                exact s2 _ _ hb
              · rw [m1, run_add, ← en]
                have h1 : LT (upd H2 D (.lst (cs'.map V.ref))) cs' (r.reverse.map PG.vals) := hcs.updL hat
                have h2 := ((h1.same (same_new (o := .tup (PG.vals (g, (if m = 1 then x + s * (k : Int) - g else d), m + my))) nt)).snoc (p := (g, (if m = 1 then x + s * (k : Int) - g else d), m + my)) (a := t) upd_same)
                exact h2.updL (xs := cs'.map V.ref) (by rw [upd_ne tD.symm, upd_same])
          · rintro σ H3 ⟨ds, rfl, s3, hD3, hkn⟩
            refine ⟨_, rfl, _, rfl, _, _, rfl, ?_⟩
            rw [max1]
            refine ⟨_, _, rfl, rfl, ⟨k + max my 1, _, _, ds, rfl, hkn, s3, hD3⟩, ?_⟩
            show n - ((k : Int) + ((max my 1 : Nat) : Int)).toNat < n - (k : Int).toNat
            omega
        · have z1 : ¬ (k : Int) < (n : Int) := fun h => z (decide_eq_true h)
          have e : k = n := by omega
          subst e
          exact ⟨_, _, _, _, _, _, cs, rfl, s2, hD2⟩
      · rintro σ H' Q Q' h ⟨u, e1, v, e2, i, j, f1, f2, b, f3, q⟩
        exact ⟨u, e1, v, e2, i, j, f1, f2, b, f3, h _ _ q⟩
    · rintro σ H1 ⟨v2, v3, v4, v5, v6, v7, bs, rfl, s1, hD⟩
      rw [List.length_map, al, List.take_length] at hD
      refine ⟨_, rfl, D, _, rfl, .inl ⟨SqL.of hD.at_, fun t nt => ?_⟩⟩
      exact q t bs _ (s1.trans (same_new nt)) upd_same (hD.lt.same (same_new nt))
end
theorem set_last {xs : List V} {v w : V} : (xs ++ [v]).set xs.length w = xs ++ [w] := by
  induction xs with
  | nil => rfl
  | cons x xs ih => show x :: (xs ++ [v]).set xs.length w = _; rw [ih]; rfl
theorem ix_last {xs : List V} {v : V} : ixN (xs ++ [v]).length (-1) = some xs.length := by
  unfold ixN
  rw [if_neg (by decide), if_pos (by simp; omega), List.length_append]
  simp
  omega
theorem sumC_fold (ns : List Int) : ∀ R : List PG, sumC (ns.foldl pushR R) = sumC R + ns.length := by
  induction ns with
  | nil => intro R; rfl
  | cons x ns ih => intro R; show sumC (ns.foldl pushR (pushR R x)) = _; rw [ih, sumC_push]; simp; omega
theorem push_le (R : List PG) (x : Int) : (pushR R x).length ≤ R.length + 1 := by
  rcases push_any 0 x R with h | ⟨h, _⟩ <;> omega
theorem fold_le (ns : List Int) : ∀ R : List PG, (ns.foldl pushR R).length ≤ R.length + ns.length := by
  induction ns with
  | nil => intro R; exact Nat.le_refl _
  | cons x ns ih =>
    intro R
    have h1 := ih (pushR R x)
    have h2 := push_le R x
    show (ns.foldl pushR (pushR R x)).length ≤ R.length + (ns.length + 1)
    omega
section
variable {P : Program} {w : World} {K : PySem.W.Frag} {mg : Str → Option Value} {base : Heap}
def spLCut : Sp := fun vs H Q _ => ∃ (N : Addr) (ns : List Int), vs = [.ref N] ∧ H N = some (.lst (ns.map V.int)) ∧ ns.length ≤ 900 ∧
  ∀ (T : Addr) (bs : List Addr) (H' : Hp), Same H H' → H' T = some (.tup (bs.map V.ref)) → LT H' bs ((ns.foldl pushR []).reverse.map PG.vals) → Q (.ref T) H'
theorem scLc : FnScope ["numbers", "found", "number"] ["numbers"] (defScope sLCut) := ⟨rfl, rfl, rfl, by decide +kernel, rfl, by decide +kernel, by decide +kernel⟩
theorem ok_lcut {f : Addr} {fd : FuncData} (F : Fun K "_law_cut" "_law_cut" sLCut f fd) (hm : mg "_law_cut" = some (.ref f)) (bb : Binds K fd ["numbers"] []) (T : Txt mg) : Cal P w K mg base 1 "_law_cut" spLCut [] := by
  refine mkCal F hm bb scLc (fun vs H Q E h => ?_) (fun cdv A outer s H vs Q E hr h => ?_)
  · obtain ⟨N, ns, rfl, _⟩ := h
    rfl
  obtain ⟨N, ns, rfl, hN, hl, q⟩ := h
  refine ⟨_, (pss_cons (ps_set (i := 1) scLc.nd rfl (.inl rfl) (pe_lst pa_nil))
    (pss_cons (ps_for PassesOwn.never rfl (pi_list (pv 0)) (pg_name (i := 2) scLc.nd rfl (.inl rfl)) (pss_one (ps_if (PW.pt (pw_and (pt_truth (pv 1) (by intro _; rfl)) (pw_and1 (pt_cmpR op_eq (pe_ix ix_tup (pe_ix ix_list (pv 1) (pe_un un_neg pe_int) (fun _ _ => rfl)) pe_int (fun _ _ => rfl)) pe_int (nomark _))))) (pss_one (ps_asg (pe_tup (pa_cons (pe_ix ix_tup (pe_ix ix_list (pv 1) (pe_un un_neg pe_int) (fun _ _ => rfl)) pe_int (fun _ _ => rfl)) (pa_cons (pe_op op_sub (pv 2) (pe_ix ix_tup (pe_ix ix_list (pv 1) (pe_un un_neg pe_int) (fun _ _ => rfl)) pe_int (fun _ _ => rfl))) (pa_cons pe_int pa_nil)))) (pg_sub (pv 1) (pe_un un_neg pe_int) set_list))) (pss_one (ps_if (PW.pt (pw_and (pt_truth (pv 1) (by intro _; rfl)) (pw_and1 (pt_cmpR op_eq (pv 2) (pe_op op_add (pe_ix ix_tup (pe_ix ix_list (pv 1) (pe_un un_neg pe_int) (fun _ _ => rfl)) pe_int (fun _ _ => rfl)) (pe_op op_mul (pe_ix ix_tup (pe_ix ix_list (pv 1) (pe_un un_neg pe_int) (fun _ _ => rfl)) pe_int (fun _ _ => rfl)) (pe_ix ix_tup (pe_ix ix_list (pv 1) (pe_un un_neg pe_int) (fun _ _ => rfl)) pe_int (fun _ _ => rfl)))) (nomark _))))) (pss_one (ps_asg (pe_tup (pa_cons (pe_ix ix_tup (pe_ix ix_list (pv 1) (pe_un un_neg pe_int) (fun _ _ => rfl)) pe_int (fun _ _ => rfl)) (pa_cons (pe_ix ix_tup (pe_ix ix_list (pv 1) (pe_un un_neg pe_int) (fun _ _ => rfl)) pe_int (fun _ _ => rfl)) (pa_cons (pe_op op_add (pe_ix ix_tup (pe_ix ix_list (pv 1) (pe_un un_neg pe_int) (fun _ _ => rfl)) pe_int (fun _ _ => rfl)) pe_int) pa_nil)))) (pg_sub (pv 1) (pe_un un_neg pe_int) set_list))) (pss_one (ps_expr (pe_bm PySem.F.plainAttrs_list PySem.F.slot_list_append PySem.F.type_list_append mt_append (pv 1) (pa_cons (pe_tup (pa_cons (pv 2) (pa_cons pe_int (pa_cons pe_int pa_nil)))) pa_nil)))))))))
    (pss_one (ps_ret (pe_callTy call_tuple_of (by rfl) T.tuple (by decide +kernel) (pa_cons (pv 1) pa_nil)))))), ?_⟩
  refine ⟨Nat.zero_le _, fun D nD => ?_⟩
  have sD := same_new (o := .lst []) nD
  refine ⟨_, rfl, N, rfl, ⟨_, SqL.of (sD _ _ hN)⟩, for_list (K := K) (a := N) (xs := ns.map V.int) (fun i σ H' => ∃ (v2 : Option V) (bs : List Addr), σ = [some (.ref N), some (.ref D), v2] ∧ Same H H' ∧ Holds H' D bs ((ns.take i).foldl pushR []))
      ⟨_, [], rfl, sD, ⟨upd_same, LT.nil⟩⟩ (fun i σ H' _ h => let ⟨_, _, _, s, _⟩ := h; SqL.of (s _ _ hN)) ?_ ?_⟩
  · rintro i y σ H1 hi ⟨v2, bs, rfl, s1, hD⟩
    have hil : i < ns.length := by
      have := (List.getElem?_eq_some_iff.mp hi).1
      rwa [List.length_map] at this
    rw [List.getElem?_map, List.getElem?_eq_getElem hil] at hi
    obtain rfl : V.int ns[i] = y := Option.some.inj hi
    have et : (ns.take (i + 1)).foldl pushR [] = pushR ((ns.take i).foldl pushR []) ns[i] := by
      rw [List.take_add_one, List.getElem?_eq_getElem hil, List.foldl_append]
      rfl
    have hRl : ((ns.take i).foldl pushR []).length ≤ 900 := by
      have := fold_le (ns.take i) []
      simp at this
      omega
    have hRs : ∀ p ∈ (ns.take i).foldl pushR [], p.2.2 ≤ 900 := fun p hp => by
      have h1 := sumC_mem hp
      rw [sumC_fold] at h1
      have : sumC [] = 0 := rfl
      rw [List.length_take] at h1
      omega
    rw [et]
    generalize (ns.take i).foldl pushR [] = R at hD hRl hRs
    generalize ns[i] = x
    clear et
    match R, hD, hRl, hRs with
    | [], hD, hRl, hRs =>
      have ea : bs = [] := List.eq_nil_of_length_eq_zero (by have := hD.lt.1; simpa using this)
      subst ea
      refine ⟨_, rfl, false, .inl ⟨[], SqL.of hD.at_, rfl⟩, ifF rfl ?_⟩
      refine ⟨_, rfl, false, .inl ⟨[], SqL.of hD.at_, rfl⟩, ifF rfl ?_⟩
      refine ⟨_, rfl, .inl ⟨rfl, _, SqL.of hD.at_⟩, _, rfl, by show 3 ≤ sizeLine; decide, fun t nt => ?_⟩
      have st := same_new (o := .tup [.int x, .int 0, .int 1]) nt
      refine ⟨D, _, _, rfl, rfl, st _ _ hD.at_, by decide, _, [t], rfl, fun b o hb => ?_, ⟨by rw [upd_same]; rfl, ?_⟩⟩
      · rw [upd_ne (ne_of_none hb nD)]
        exact st _ _ (s1 _ _ hb)
      · exact ((hD.lt.same st).snoc (p := (x, 0, 1)) (a := t) upd_same).updL (xs := []) (st _ _ hD.at_)
    | (g, d, m) :: r, hD, hRl, hRs =>
      obtain ⟨cs, a, rfl, hcs, ha⟩ := hD.cons
      have hat := hD.at_
      rw [List.map_append] at hat
      have m9 : m ≤ 900 := hRs _ (List.mem_cons_self ..)
      have hL : SqL K H1 D _ := SqL.of hat
      have hT : SqT K H1 a _ := SqT.of ha
      refine ⟨_, rfl, true, .inl ⟨_, hL, by simp⟩, ifT rfl ?_⟩
      have il : atI (cs.map V.ref ++ [a].map V.ref) (-1) = some (.ref a) := atI_last _ _
      have put : ∀ (z : PG) (t : Addr), pushR ((g, d, m) :: r) x = z :: r → H1 t = none → ∃ (v2 : Option V) (bs : List Addr), [some (V.ref N), some (V.ref D), some (V.int x)] = [some (.ref N), some (.ref D), v2] ∧ Same H (upd (upd H1 t (.tup z.vals)) D (.lst ((cs.map V.ref ++ [a].map V.ref).set (cs.map V.ref).length (.ref t)))) ∧ Holds (upd (upd H1 t (.tup z.vals)) D (.lst ((cs.map V.ref ++ [a].map V.ref).set (cs.map V.ref).length (.ref t)))) D bs (pushR ((g, d, m) :: r) x) := fun z t ez nt => by
        have st := same_new (o := .tup z.vals) nt
        have es : (cs.map V.ref ++ [a].map V.ref).set (cs.map V.ref).length (.ref t) = cs.map V.ref ++ [.ref t] := set_last
        rw [es, ez]
        refine ⟨_, cs ++ [t], rfl, fun b o hb => ?_, ⟨by rw [upd_same, List.map_append]; rfl, ?_⟩⟩
        · rw [upd_ne (ne_of_none hb nD)]
          exact st _ _ (s1 _ _ hb)
        · exact ((hcs.same st).snoc (p := z) (a := t) upd_same).updL (st _ _ hat)
      refine ⟨_, rfl, 1, rfl, D, _, -1, _, rfl, rfl, hL, il, a, _, 2, _, rfl, rfl, hT, atI_nat (j := 2) rfl, rfl, _, rfl, ?_⟩
      have ep : pushR ((g, d, m) :: r) x = if m = 1 then (g, x - g, 2) :: r else if x = g + d * (m : Int) then (g, d, m + 1) :: r else (x, 0, 1) :: (g, d, m) :: r := rfl
      refine ite2 (fun z => ?_) (fun z => ?_)
      · have z1 : m = 1 := by have : (m : Int) = 1 := V.int.inj (of_decide_eq_true z); omega
        refine ⟨_, rfl, 1, rfl, D, _, -1, _, rfl, rfl, hL, il, a, _, 0, _, rfl, rfl, hT, atI_nat (j := 0) rfl, ?_⟩
        refine ⟨_, rfl, _, rfl, 1, rfl, D, _, -1, _, rfl, rfl, hL, il, a, _, 0, _, rfl, rfl, hT, atI_nat (j := 0) rfl, _, _, rfl, rfl, by show 3 ≤ sizeLine; decide, fun t nt => ?_⟩
        refine ⟨_, rfl, 1, rfl, D, _, _, _, rfl, rfl, same_new nt _ _ hat, ix_last, ?_⟩
        exact put (g, x - g, 2) t (by rw [ep, if_pos z1]) nt
      have z1 : m ≠ 1 := fun h => z (decide_eq_true (by rw [h]; rfl))
      refine ⟨_, rfl, true, .inl ⟨_, hL, by simp⟩, ifT rfl ?_⟩
      refine ⟨_, rfl, _, rfl, 1, rfl, D, _, -1, _, rfl, rfl, hL, il, a, _, 0, _, rfl, rfl, hT, atI_nat (j := 0) rfl, ?_⟩
      refine ⟨_, rfl, 1, rfl, D, _, -1, _, rfl, rfl, hL, il, a, _, 1, _, rfl, rfl, hT, atI_nat (j := 1) rfl, ?_⟩
      have b64 : -(2 ^ 64 : Int) < (m : Int) ∧ (m : Int) < 2 ^ 64 := ⟨by omega, by omega⟩
      refine ⟨_, rfl, 1, rfl, D, _, -1, _, rfl, rfl, hL, il, a, _, 2, _, rfl, rfl, hT, atI_nat (j := 2) rfl, _, _, rfl, rfl, .inr b64, _, _, rfl, rfl, rfl, _, rfl, ?_⟩
      refine ite2 (fun z => ?_) (fun z => ?_)
      · have z2 : x = g + d * (m : Int) := V.int.inj (of_decide_eq_true z)
        refine ⟨_, rfl, 1, rfl, D, _, -1, _, rfl, rfl, hL, il, a, _, 0, _, rfl, rfl, hT, atI_nat (j := 0) rfl, ?_⟩
        refine ⟨_, rfl, 1, rfl, D, _, -1, _, rfl, rfl, hL, il, a, _, 1, _, rfl, rfl, hT, atI_nat (j := 1) rfl, ?_⟩
        refine ⟨_, rfl, 1, rfl, D, _, -1, _, rfl, rfl, hL, il, a, _, 2, _, rfl, rfl, hT, atI_nat (j := 2) rfl, _, _, rfl, rfl, by show 3 ≤ sizeLine; decide, fun t nt => ?_⟩
        refine ⟨_, rfl, 1, rfl, D, _, _, _, rfl, rfl, same_new nt _ _ hat, ix_last, ?_⟩
        exact put (g, d, m + 1) t (by rw [ep, if_neg z1, if_pos z2]) nt
      · have z2 : ¬ x = g + d * (m : Int) := fun h => z (decide_eq_true (congrArg V.int h))
        refine ⟨_, rfl, .inl ⟨rfl, _, hL⟩, _, rfl, by show 3 ≤ sizeLine; decide, fun t nt => ?_⟩
        have st := same_new (o := .tup [.int x, .int 0, .int 1]) nt
        refine ⟨D, _, _, rfl, rfl, st _ _ hat, ?_, _, (cs ++ [a]) ++ [t], rfl, fun b o hb => ?_, ⟨by rw [upd_same, List.map_append, List.map_append]; rfl, ?_⟩⟩
        · have := hcs.1
          simp at this hRl ⊢
          exact small1000 (by omega)
        · rw [upd_ne (ne_of_none hb nD)]
          exact st _ _ (s1 _ _ hb)
        · rw [ep, if_neg z1, if_neg z2]
          exact ((hD.lt.same st).snoc (p := (x, 0, 1)) (a := t) upd_same).updL (st _ _ hat)
  · rintro σ H1 ⟨v2, bs, rfl, s1, hD⟩
    rw [List.length_map, List.take_length] at hD
    exact ⟨_, rfl, D, _, rfl, .inl ⟨SqL.of hD.at_, fun t nt => q t bs _ (s1.trans (same_new nt)) upd_same (hD.lt.same (same_new nt))⟩⟩
end
theorem LT.frm {H H' : Hp} {p c : Addr} {as : List Addr} {vss : List (List V)} (h : LT H as vss) (P : Pool H p c) (f : Frm p H H') : LT H' as vss := by
  obtain ⟨pos, left, seed, xs, hp⟩ := P
  exact ⟨h.1, fun k vs e => let ⟨a, e1, e2⟩ := h.2 k vs e; ⟨a, e1, f _ _ (ne_of e2 hp.at_ (by intro z; cases z)) e2⟩⟩
section
variable {P : Program} {w : World} {K : PySem.W.Frag} {mg : Str → Option Value} {base : Heap}
def spRows : Sp := fun vs H Q _ => ∃ p c : Addr, vs = [.ref p] ∧ Pool H p c ∧ ∀ (R : Addr) (as : List Addr) (ps : List PG) (H' : Hp), H' R = some (.lst (as.map V.ref)) → LT H' as (ps.map PG.vals) → 1 ≤ ps.length → ps.length ≤ 7 → (∀ q ∈ ps, 1 ≤ q.2.2 ∧ q.2.2 ≤ 6) → Pool H' p c → Frm p H H' → H R = none → (R ≠ p ∧ R ≠ c) → Q (.ref R) H'
theorem scRo : FnScope ["pool", "rows", "at", "step", "k", "gap", "count", "first"] ["pool"] (defScope sLRows) := ⟨rfl, rfl, rfl, by decide +kernel, rfl, by decide +kernel, by decide +kernel⟩
theorem ok_rows {f : Addr} {fd : FuncData} (F : Fun K "_law_rows" "_law_rows" sLRows f fd) (hm : mg "_law_rows" = some (.ref f)) (bb : Binds K fd ["pool"] []) (T : Txt mg) (G : Cal P w K mg base 2 "_law_take" spTake []) : Cal P w K mg base 3 "_law_rows" spRows [] := by
  refine mkCal F hm bb scRo (fun vs H Q E h => ?_) (fun cdv A outer s H vs Q E hr h => ?_)
  · obtain ⟨p, c, rfl, _⟩ := h
    rfl
  obtain ⟨p, c, rfl, hP, q⟩ := h
  refine ⟨_, (pss_cons (ps_set (i := 1) scRo.nd rfl (.inl rfl) (pe_lst pa_nil))
    (pss_cons (ps_set (i := 2) scRo.nd rfl (.inl rfl) (pe_op op_sub (pe_c G hr (by decide) (by rfl) (pa_cons (pv 0) (pa_cons pe_int pa_nil))) pe_int))
    (pss_cons (ps_set (i := 3) scRo.nd rfl (.inl rfl) (pe_op op_add pe_int (pe_c G hr (by decide) (by rfl) (pa_cons (pv 0) (pa_cons pe_int pa_nil)))))
    (pss_cons (ps_for PassesOwn.never rfl (pi_range1 (by rfl) T.range (pa_cons (pe_op op_add pe_int (pe_c G hr (by decide) (by rfl) (pa_cons (pv 0) (pa_cons pe_int pa_nil)))) pa_nil)) (pg_name (i := 4) scRo.nd rfl (.inl rfl)) (pss_cut (ps_set (i := 5) scRo.nd rfl (.inl rfl) (pe_ifExp (pt_cmpR op_eq (pe_c G hr (by decide) (by rfl) (pa_cons (pv 0) (pa_cons pe_int pa_nil))) pe_int (nomark _)) (pv 3) (pe_op op_add pe_int (pe_c G hr (by decide) (by rfl) (pa_cons (pv 0) (pa_cons pe_int pa_nil))))))
    (pss_cut (ps_if (pt_cmpR op_eq (pe_c G hr (by decide) (by rfl) (pa_cons (pv 0) (pa_cons pe_int pa_nil))) pe_int (nomark _)) (pss_one (ps_set (i := 3) scRo.nd rfl (.inl rfl) (pe_op op_mul (pe_op op_add pe_int (pe_c G hr (by decide) (by rfl) (pa_cons (pv 0) (pa_cons pe_int pa_nil)))) (pe_ix ix_tup (pe_tup (pa_cons pe_int (pa_cons (pe_op op_pow pe_int pe_int) pa_nil))) (pe_callTy call_int1 (by rfl) T.int (by decide +kernel) (pa_cons (pe_cmpR op_eq (pe_c G hr (by decide) (by rfl) (pa_cons (pv 0) (pa_cons pe_int pa_nil))) pe_int (nomark _)) pa_nil)) (fun _ _ => rfl))))) pss_nil)
    (pss_cons (ps_set (i := 6) scRo.nd rfl (.inl rfl) (pe_op op_add pe_int (pe_c G hr (by decide) (by rfl) (pa_cons (pv 0) (pa_cons pe_int pa_nil)))))
    (pss_cons (ps_set (i := 7) scRo.nd rfl (.inl rfl) (pe_op op_add (pv 2) (pv 5)))
    (pss_cons (ps_expr (pe_bm PySem.F.plainAttrs_list PySem.F.slot_list_append PySem.F.type_list_append mt_append (pv 1) (pa_cons (pe_tup (pa_cons (pv 7) (pa_cons (pe_ifExp (pt_cmpR op_gt (pv 6) pe_int (nomark _)) (pv 3) pe_int) (pa_cons (pv 6) pa_nil)))) pa_nil)))
    (pss_one (ps_set (i := 2) scRo.nd rfl (.inl rfl) (pe_op op_add (pv 7) (pe_op op_mul (pv 3) (pe_op op_sub (pv 6) pe_int)))))))))))
    (pss_one (ps_ret (pv 1))))))), ?_⟩
  refine ⟨Nat.zero_le _, fun R nR => ?_⟩
  have hRp := hP.ne nR
  have hP0 := hP.new (o := .lst []) nR
  have f0 : Frm p H (upd H R (.lst [])) := Frm.refl.new nR
  refine ⟨_, rfl, p, c, 10, rfl, by decide, by decide, hP0, fun a H1 a0 a1 hP1 f1 => ⟨_, _, rfl, rfl, ?_⟩⟩
  refine ⟨_, rfl, p, c, 5, rfl, by decide, by decide, hP1, fun b H2 b0 b1 hP2 f2 => ⟨_, _, rfl, rfl, ?_⟩⟩
  refine ⟨_, rfl, p, c, 7, rfl, by decide, by decide, hP2, fun m H3 m0 m1 hP3 f3 => ⟨_, _, rfl, rfl, ?_⟩⟩
  obtain ⟨m, rfl⟩ := Int.eq_ofNat_of_zero_le m0
  have hR3 : H3 R = some (.lst (([] : List Addr).map V.ref)) := f3 _ _ hRp.1 (f2 _ _ hRp.1 (f1 _ _ hRp.1 upd_same))
  refine ⟨_, rfl, by omega, by omega, for_range (lo := 0) (n := (1 + (m : Int)).toNat) (fun i σ H' => ∃ (at_ st : Int) (v4 v5 v6 v7 : Option V) (as : List Addr) (ps : List PG), σ = [some (.ref p), some (.ref R), some (.int at_), some (.int st), v4, v5, v6, v7] ∧
      H' R = some (.lst (as.map V.ref)) ∧ LT H' as (ps.map PG.vals) ∧ ps.length = i ∧ (∀ q ∈ ps, 1 ≤ q.2.2 ∧ q.2.2 ≤ 6) ∧ Pool H' p c ∧ Frm p H H')
    ⟨_, _, _, _, _, _, [], [], rfl, hR3, LT.nil, rfl, fun q hq => (by cases hq), hP3, ((f0.trans f1).trans f2).trans f3⟩ ?_ ?_⟩
  · rintro i σ H4 hi ⟨at_, st, v4, v5, v6, v7, as, ps, rfl, hR, hL, hl, hq, hP4, f4⟩
    -- gap
    refine ⟨fun σ H' => ∃ (gap : Int), σ = [some (.ref p), some (.ref R), some (.int at_), some (.int st), some (.int ((0 : Int) + (i : Int))), some (.int gap), v6, v7] ∧ H' R = some (.lst (as.map V.ref)) ∧ LT H' as (ps.map PG.vals) ∧ Pool H' p c ∧ Frm p H H', ?_, ?_⟩
    · refine ⟨_, rfl, p, c, 2, rfl, by decide, by decide, hP4, fun r H5 r0 r1 hP5 f5 => ⟨rfl, _, rfl, ?_⟩⟩
      have hR5 := f5 _ _ hRp.1 hR
      have hL5 := hL.frm hP4 f5
      refine ite2 (fun _ => ?_) (fun _ => ?_)
      · exact ⟨_, rfl, st, rfl, hR5, hL5, hP5, f4.trans f5⟩
      · refine ⟨_, rfl, p, c, 8, rfl, by decide, by decide, hP5, fun r2 H6 _ _ hP6 f6 => ⟨_, _, rfl, rfl, _, rfl, f6 _ _ hRp.1 hR5, hL5.frm hP5 f6, hP6, (f4.trans f5).trans f6⟩⟩
    rintro σ H5 ⟨gap, rfl, hR5, hL5, hP5, f5⟩
    refine ⟨fun σ H' => ∃ (st : Int), σ = [some (.ref p), some (.ref R), some (.int at_), some (.int st), some (.int ((0 : Int) + (i : Int))), some (.int gap), v6, v7] ∧ H' R = some (.lst (as.map V.ref)) ∧ LT H' as (ps.map PG.vals) ∧ Pool H' p c ∧ Frm p H H', ?_, ?_⟩
    · refine ⟨_, rfl, p, c, 3, rfl, by decide, by decide, hP5, fun r H6 r0 r1 hP6 f6 => ⟨rfl, _, rfl, ?_⟩⟩
      have hR6 := f6 _ _ hRp.1 hR5
      have hL6 := hL5.frm hP5 f6
      have f6 := f5.trans f6
      refine ite2 (fun _ => ?_) (fun _ => ⟨_, rfl, hR6, hL6, hP6, f6⟩)
      refine ⟨_, rfl, p, c, 5, rfl, by decide, by decide, hP6, fun a H7 a0 a1 hP7 f7 => ⟨_, _, rfl, rfl, ?_⟩⟩
      refine ⟨_, _, rfl, rfl, ⟨by decide, by decide, by decide⟩, by show 2 ≤ sizeLine; decide, fun u nu => ?_⟩
      have hup := hP7.ne nu
      refine ⟨_, rfl, p, c, 5, rfl, by decide, by decide, hP7.new nu, fun r3 H8 _ _ hP8 f8 => ⟨rfl, .inr ⟨_, rfl, ?_⟩⟩⟩
      have eu := f8 u _ hup.1 upd_same
      have F8 := ((f6.trans f7).new nu).trans f8
      have g8 : Frm p H6 H8 := (f7.new nu).trans f8
      obtain ⟨w, ew⟩ : ∃ w : Int, atI [V.int 1, V.int (10 ^ (9 : Int).toNat)] (if decide (V.int r3 = V.int 0) then 1 else 0) = some (.int w) := by
        cases decide (V.int r3 = V.int 0) with
        | true => exact ⟨_, atI_nat (j := 1) rfl⟩
        | false => exact ⟨_, atI_nat (j := 0) rfl⟩
      refine ⟨u, _, _, _, rfl, rfl, SqT.of eu, ew, _, _, rfl, rfl, .inl ⟨by omega, by omega⟩, ?_⟩
      exact ⟨_, rfl, g8 _ _ hRp.1 hR6, hL6.frm hP6 g8, hP8, F8⟩
    rintro σ H6 ⟨st, rfl, hR6, hL6, hP6, f6⟩
    refine ⟨_, rfl, p, c, 6, rfl, by decide, by decide, hP6, fun n H7 n0 n1 hP7 f7 => ⟨_, _, rfl, rfl, ?_⟩⟩
    obtain ⟨n, rfl⟩ := Int.eq_ofNat_of_zero_le n0
    have hR7 := f7 _ _ hRp.1 hR6
    have hL7 := hL6.frm hP6 f7
    have F7 := f6.trans f7
    refine ⟨_, rfl, _, rfl, _, _, rfl, rfl, ?_⟩
    refine ⟨_, rfl, .inl ⟨rfl, _, SqL.of hR7⟩, _, rfl, ?_⟩
    have e1 : (1 : Int) + (n : Int) = ((n + 1 : Nat) : Int) := by omega
    have small : (as.map V.ref).length < sizeLine := by
      have := hL7.1
      rw [List.length_map] at this
      rw [List.length_map, this]
      exact small1000 (by omega)
    have fin : ∀ (s' : Int) (t : Addr), H7 t = none → LT (upd (upd H7 t (.tup [.int (at_ + gap), .int s', .int (1 + (n : Int))])) R (.lst (as.map V.ref ++ [.ref t]))) (as ++ [t]) ((ps ++ [(at_ + gap, s', n + 1)]).map PG.vals) := fun s' t nt => by
      have st' := same_new (o := .tup [.int (at_ + gap), .int s', .int (1 + (n : Int))]) nt
      rw [List.map_append]
      refine ((hL7.same st').add ?_).updL (st' _ _ hR7)
      rw [upd_same, e1]
      rfl
    have hq2 : ∀ s' : Int, ∀ q ∈ ps ++ [((at_ + gap, s', n + 1) : PG)], 1 ≤ q.2.2 ∧ q.2.2 ≤ 6 := fun s' q hq' => by
      rcases List.mem_append.mp hq' with h | h
      · exact hq q h
      · obtain rfl := List.mem_singleton.mp h
        exact ⟨by show 1 ≤ n + 1; omega, by show n + 1 ≤ 6; omega⟩
    have b64 : -(2 ^ 64 : Int) < (1 + (n : Int) - 1) ∧ (1 + (n : Int) - 1) < 2 ^ 64 := ⟨by omega, by omega⟩
    refine ⟨_, rfl, _, _, rfl, rfl, _, rfl, ?_⟩
    refine ite2 (fun _ => ?_) (fun _ => ?_)
    · refine ⟨_, rfl, _, rfl, by show 3 ≤ sizeLine; decide, fun t nt => ?_⟩
      refine ⟨R, _, _, rfl, rfl, same_new nt _ _ hR7, small, ?_⟩
      refine ⟨_, rfl, _, rfl, _, rfl, _, _, rfl, rfl, _, _, rfl, rfl, .inr b64, _, _, rfl, rfl, ?_⟩
      exact ⟨_, _, _, _, _, _, as ++ [t], ps ++ [(at_ + gap, st, n + 1)], rfl, by rw [upd_same, List.map_append]; rfl, fin st t nt, by simp [hl], hq2 st, (hP7.new nt).upd hRp, (F7.new nt).updN nR⟩
    · refine ⟨_, rfl, by show 3 ≤ sizeLine; decide, fun t nt => ?_⟩
      refine ⟨R, _, _, rfl, rfl, same_new nt _ _ hR7, small, ?_⟩
      refine ⟨_, rfl, _, rfl, _, rfl, _, _, rfl, rfl, _, _, rfl, rfl, .inr b64, _, _, rfl, rfl, ?_⟩
      exact ⟨_, _, _, _, _, _, as ++ [t], ps ++ [(at_ + gap, 0, n + 1)], rfl, by rw [upd_same, List.map_append]; rfl, fin 0 t nt, by simp [hl], hq2 0, (hP7.new nt).upd hRp, (F7.new nt).updN nR⟩
  · rintro σ H4 ⟨at_, st, v4, v5, v6, v7, as, ps, rfl, hR, hL, hl, hq, hP4, f4⟩
    exact ⟨_, rfl, q R as ps _ hR hL (by omega) (by omega) hq hP4 f4 nR hRp⟩
end
theorem sumC_rev (R : List PG) : sumC R.reverse = sumC R := by
  induction R with
  | nil => rfl
  | cons p r ih =>
    rw [List.reverse_cons, sumC_app, ih]
    show sumC r + (p.2.2 + 0) = p.2.2 + sumC r
    omega
theorem sumC_six : ∀ ps : List PG, (∀ q ∈ ps, 1 ≤ q.2.2 ∧ q.2.2 ≤ 6) → sumC ps ≤ 6 * ps.length
  | [], _ => Nat.le_refl _
  | p :: r, h => by
    have h1 := h p (List.mem_cons_self ..)
    have h2 := sumC_six r fun q hq => h q (List.mem_cons_of_mem _ hq)
    show p.2.2 + sumC r ≤ 6 * (r.length + 1)
    omega
theorem nums_len (ps : List PG) : (ps.flatMap numsP).length = sumC ps := by
  induction ps with
  | nil => rfl
  | cons p r ih =>
    rw [List.flatMap_cons, List.length_append, ih]
    show (numsP p).length + _ = p.2.2 + _
    simp [numsP]
theorem vals_int {H : Hp} (p : PG) : ∀ (j : Nat) (u v : V), p.vals[j]? = some u → p.vals[j]? = some v → SameD 0 H u v := fun j u v h1 h2 => by
  rw [h1] at h2
  cases h2
  have hm := List.mem_of_getElem? h1
  simp [PG.vals] at hm
  rcases hm with rfl | rfl | rfl <;> exact .inl ⟨_, rfl, rfl⟩
theorem progs_same {H : Hp} {a b : Addr} {as bs : List Addr} {ps : List PG} (ha : H a = some (.tup (as.map V.ref))) (hb : H b = some (.tup (bs.map V.ref))) (la : LT H as (ps.map PG.vals)) (lb : LT H bs (ps.map PG.vals)) (h : ps.length ≤ 1000) : SameD 2 H (.ref a) (.ref b) := by
  have l1 := la.1
  have l2 := lb.1
  rw [List.length_map] at l1 l2
  refine .inr ⟨a, b, _, _, rfl, rfl, ha, hb, by rw [List.length_map, List.length_map, l1, l2], by rw [List.length_map, l1]; exact h, fun k u v e1 e2 => ?_⟩
  have hk : k < ps.length := by
    have := (List.getElem?_eq_some_iff.mp e1).1
    rwa [List.length_map, l1] at this
  have er : (ps.map PG.vals)[k]? = some (ps[k]).vals := by rw [List.getElem?_map, List.getElem?_eq_getElem hk]; rfl
  obtain ⟨x, x1, x2⟩ := la.2 k _ er
  obtain ⟨y, y1, y2⟩ := lb.2 k _ er
  rw [List.getElem?_map, x1] at e1
  rw [List.getElem?_map, y1] at e2
  cases Option.some.inj e1
  cases Option.some.inj e2
  exact .inr ⟨x, y, _, _, rfl, rfl, x2, y2, rfl, (by decide : (3 : Nat) ≤ 1000), fun j u v h1 h2 => vals_int _ j u v h1 h2⟩
section
variable {P : Program} {w : World} {K : PySem.W.Frag} {mg : Str → Option Value} {base : Heap}
def spLaw (K : PySem.W.Frag) : Sp := fun vs H Q _ => ∃ (a : Addr) (ns : List Int), vs = [.ref a] ∧ SqL K H a (ns.map V.int) ∧ ns.length ≤ 63 ∧ ∀ H', Q (.bl true) H'
theorem scL : FnScope ["script", "pool", "rows", "numbers", "first", "step", "count", "k", "due", "last", "more", "told"] ["script"] (defScope sLaw) := ⟨rfl, rfl, rfl, by decide +kernel, rfl, by decide +kernel, by decide +kernel⟩
theorem ok_law {f : Addr} {fd : FuncData} (F : Fun K "law" "law" sLaw f fd) (T : Txt mg) (G : Cal P w K mg base 2 "_law_take" spTake []) (GP : Cal P w K mg base 1 "_law_pool" (spPool K) []) (GR : Cal P w K mg base 3 "_law_rows" spRows [])
    (GLc : Cal P w K mg base 1 "_law_cut" spLCut []) (GC : Cal P w K mg base 2 "cut" spCut []) (GS : Cal P w K mg base 4 "_law_same" (spSame 2) []) : FnOk P w K mg base CX0 5 f fd ["script"] (spLaw K) := by
  refine F.ok scL (fun vs H Q E h => ?_) (fun cdv A outer s H vs Q E hr h => ?_)
  · obtain ⟨a, ns, rfl, _⟩ := h
    rfl
  obtain ⟨a, ns, rfl, hS, hlen, q⟩ := h
  refine ⟨_, (pss_cons (ps_set (i := 1) scL.nd rfl (.inl rfl) (pe_c GP hr (by decide) (by rfl) (pa_cons (pv 0) pa_nil)))
    (pss_cons (ps_set (i := 2) scL.nd rfl (.inl rfl) (pe_c GR hr (by decide) (by rfl) (pa_cons (pv 1) pa_nil)))
    (pss_cons (ps_set (i := 3) scL.nd rfl (.inl rfl) (pe_lst pa_nil))
    (pss_cons (ps_for PassesOwn.never rfl (pi_list (pv 2)) (pg_tup rfl (pgs_cons (pg_name (i := 4) scL.nd rfl (.inr rfl)) (pgs_cons (pg_name (i := 5) scL.nd rfl (.inr rfl)) (pgs_cons (pg_name (i := 6) scL.nd rfl (.inl rfl)) pgs_nil)))) (pss_one (ps_expr (pe_bm PySem.F.plainAttrs_list PySem.F.slot_list_extend PySem.F.type_list_extend mt_extend (pv 3) (pa_cons (pe_lc (own := [("k", 7)]) (g := gName 7) (tt := tYes) rfl scL.nd (pi_range1 (by rfl) T.range (pa_cons (pv 6) pa_nil)) (blkOk_by (N := ["script", "pool", "rows", "numbers", "first", "step", "count", "k", "due", "last", "more", "told"]) (sc := defScope sLaw) (by decide +kernel)) (fun _ _ _ _ _ => (pg_name (i := 7) scL.nd rfl (.inl rfl))) (fun _ _ _ _ _ => pts_nil) (fun _ _ _ _ _ => (pe_op op_add (pv 4) (pe_op op_mul (pv 5) (pv 7))))) pa_nil)))))
    (pss_cons (ps_set (i := 8) scL.nd rfl (.inl rfl) (pe_callTy call_list_of (by rfl) T.list (by decide +kernel) (pa_cons (pe_c GLc hr (by decide) (by rfl) (pa_cons (pv 3) pa_nil)) pa_nil)))
    (pss_cons (ps_set (i := 9) scL.nd rfl (.inl rfl) (pe_ix ix_list (pv 2) (pe_un un_neg pe_int) (fun _ _ => rfl)))
    (pss_cut (ps_if (PW.pt (pw_and (pt_cmpR op_gt (pe_ix ix_tup (pv 9) pe_int (fun _ _ => rfl)) pe_int (nomark _)) (pw_and1 (pt_cmpR op_eq (pe_c G hr (by decide) (by rfl) (pa_cons (pv 1) (pa_cons pe_int pa_nil))) pe_int (nomark _))))) (pss_cons (ps_set (i := 10) scL.nd rfl (.inl rfl) (pe_c G hr (by decide) (by rfl) (pa_cons (pv 1) (pa_cons (pe_op op_pow pe_int pe_int) pa_nil))))
    (pss_cons (ps_asg (pe_tup (pa_cons (pe_ix ix_tup (pv 9) pe_int (fun _ _ => rfl)) (pa_cons (pe_ix ix_tup (pv 9) pe_int (fun _ _ => rfl)) (pa_cons (pe_op op_add (pe_ix ix_tup (pv 9) pe_int (fun _ _ => rfl)) (pv 10)) pa_nil)))) (pg_sub (pv 2) (pe_un un_neg pe_int) set_list))
    (pss_one (ps_asg (pe_tup (pa_cons (pe_ix ix_tup (pe_ix ix_list (pv 8) (pe_un un_neg pe_int) (fun _ _ => rfl)) pe_int (fun _ _ => rfl)) (pa_cons (pe_ix ix_tup (pe_ix ix_list (pv 8) (pe_un un_neg pe_int) (fun _ _ => rfl)) pe_int (fun _ _ => rfl)) (pa_cons (pe_op op_add (pe_ix ix_tup (pe_ix ix_list (pv 8) (pe_un un_neg pe_int) (fun _ _ => rfl)) pe_int (fun _ _ => rfl)) (pv 10)) pa_nil)))) (pg_sub (pv 8) (pe_un un_neg pe_int) set_list))))) pss_nil)
    (pss_cons (ps_set (i := 11) scL.nd rfl (.inl rfl) (pe_c GC hr (by decide) (by rfl) (pa_cons (pe_callTy call_list_of (by rfl) T.list (by decide +kernel) (pa_cons (pv 2) pa_nil)) pa_nil)))
    (pss_one (ps_ret (pe_and (pe_c GS hr (by decide) (by rfl) (pa_cons (pv 11) (pa_cons (pe_callTy call_tuple_of (by rfl) T.tuple (by decide +kernel) (pa_cons (pv 8) pa_nil)) pa_nil))) (pe_and (pe_c GS hr (by decide) (by rfl) (pa_cons (pe_c GC hr (by decide) (by rfl) (pa_cons (pe_callTy call_tuple_of (by rfl) T.tuple (by decide +kernel) (pa_cons (pv 2) pa_nil)) pa_nil)) (pa_cons (pv 11) pa_nil))) (pe_one (pe_c GS hr (by decide) (by rfl) (pa_cons (pe_c GC hr (by decide) (by rfl) (pa_cons (pv 11) pa_nil)) (pa_cons (pv 11) pa_nil)))))))))))))))), ?_⟩
  refine ⟨_, rfl, a, ns, rfl, hS, hlen, fun p c H1 hP1 s1 np nc => ?_⟩
  refine ⟨_, rfl, p, c, rfl, hP1, fun R as ps H2 hR hL l1 l7 hq hP2 f2 nR hRp => ?_⟩
  have hs6 := sumC_six ps hq
  refine ⟨Nat.zero_le _, fun N nN => ?_⟩
  have sN := same_new (o := .lst []) nN
  have al : as.length = ps.length := by have := hL.1; simpa using this
  have hNp := hP2.ne nN
  have hRN : R ≠ N := ne_of_none hR nN
  refine ⟨_, rfl, R, rfl, ⟨_, SqL.of (sN _ _ hR)⟩, for_list (K := K) (a := R) (xs := as.map V.ref) (fun i σ H' => ∃ (v4 v5 v6 v7 : Option V), σ = [some (.ref a), some (.ref p), some (.ref R), some (.ref N), v4, v5, v6, v7, none, none, none, none] ∧ H' R = some (.lst (as.map V.ref)) ∧ LT H' as (ps.map PG.vals) ∧ Pool H' p c ∧ H' N = some (.lst (((ps.take i).flatMap numsP).map V.int)))
      ⟨_, _, _, _, rfl, sN _ _ hR, hL.same sN, hP2.same sN, upd_same⟩ (fun i σ H' _ h => let ⟨_, _, _, _, _, h, _⟩ := h; SqL.of h) ?_ ?_⟩
  · rintro i y σ H3 hi ⟨v4, v5, v6, v7, rfl, hR3, hL3, hP3, hN3⟩
    have hil : i < as.length := by
      have := (List.getElem?_eq_some_iff.mp hi).1
      rwa [List.length_map] at this
    obtain ⟨⟨x, s, n⟩, hp⟩ : ∃ p : PG, ps[i]? = some p := ⟨_, List.getElem?_eq_getElem (by omega)⟩
    obtain ⟨b, eb, hb⟩ := hL3.2 i (PG.vals (x, s, n)) (by rw [List.getElem?_map, hp]; rfl)
    rw [List.getElem?_map, eb] at hi
    obtain rfl : V.ref b = y := Option.some.inj hi
    have et : (ps.take (i + 1)).flatMap numsP = (ps.take i).flatMap numsP ++ numsP (x, s, n) := by rw [List.take_add_one, hp, List.flatMap_append]; simp
    have hn6 : 1 ≤ n ∧ n ≤ 6 := hq _ (List.mem_of_getElem? hp)
    refine ⟨b, _, rfl, SqT.of hb, rfl, _, _, rfl, _, _, rfl, _, _, rfl, rfl, ?_⟩
    refine ⟨_, rfl, .inl ⟨rfl, _, SqL.of hN3⟩, _, rfl, n, rfl, by omega, by omega, fun D nD => ?_⟩
    have hDp := hP3.ne nD
    have hDR : R ≠ D := ne_of_none hR3 nD
    have hDN : N ≠ D := ne_of_none hN3 nD
    refine lc_range (lo := 0) (n := ((n : Nat) : Int).toNat) (fun j H' => Same H3 H' ∧ H' D = some (.lst (((List.range j).map fun k : Nat => x + s * (k : Int)).map V.int))) ⟨same_new nD, upd_same⟩ ?_ ?_
    · rintro j H4 hj ⟨s4, hD⟩
      refine ⟨rfl, _, rfl, _, rfl, _, rfl, _, _, rfl, rfl, .inr ⟨by omega, by omega⟩, _, _, rfl, rfl, _, hD, by rw [List.length_map, List.length_map, List.length_range]; exact small1000 (by omega), fun b' o hb' => ?_, ?_⟩
      · rw [upd_ne (ne_of_none hb' nD)]
        exact s4 _ _ hb'
      · rw [upd_same, List.range_succ, List.map_append, List.map_append, Int.zero_add]
        rfl
    · rintro H4 ⟨s4, hD⟩
      have hN4 := s4 _ _ hN3
      refine ⟨N, D, _, _, rfl, rfl, hN4, hD, ?_, ?_⟩
      · rw [List.length_map, List.length_map, List.length_map, nums_len, List.length_range]
        have e1 : sumC (ps.take i) + sumC (ps.drop i) = sumC ps := by rw [← sumC_app, List.take_append_drop]
        exact sz (by omega)
      · refine ⟨_, _, _, _, rfl, by rw [upd_ne hRN]; exact s4 _ _ hR3, (hL3.same s4).updL hN4, (hP3.same s4).upd hNp, ?_⟩
        rw [upd_same, et, List.map_append]
        rfl
  rintro σ H3 ⟨v4, v5, v6, v7, rfl, hR3, hL3, hP3, hN3⟩
  rw [List.length_map, al, List.take_length] at hN3
  refine ⟨_, rfl, N, _, rfl, hN3, by rw [nums_len]; omega, fun U bs H4 s4 hU hLU => ?_⟩
  rw [cut_fold] at hLU
  have hP4 := hP3.same s4
  have hR4 := s4 _ _ hR3
  have hL4 := hL3.same s4
  refine ⟨U, _, rfl, .inr (SqT.of hU), fun D nD => ?_⟩
  have sD := same_new (o := .lst (bs.map V.ref)) nD
  have hDp := hP4.ne nD
  have hRD : R ≠ D := ne_of_none hR4 nD
  have hR5 := sD _ _ hR4
  have hL5 := hL4.same sD
  have hP5 := hP4.same sD
  have hLU5 := hLU.same sD
  have hD5 : (upd H4 D (.lst (bs.map V.ref))) D = some (.lst (bs.map V.ref)) := upd_same
  generalize upd H4 D (.lst (bs.map V.ref)) = H5 at hR5 hL5 hP5 hLU5 hD5 ⊢
  clear hLU hU hL4 hR4 hP4 hN3 hP3 hL3 hR3 sD nD
  -- the last row
  obtain ⟨ps0, ⟨x, s, n⟩, rfl⟩ : ∃ (ps0 : List PG) (z : PG), ps = ps0 ++ [z] := by
    rcases List.eq_nil_or_concat ps with e | ⟨ps0, z, e⟩
    · rw [e] at l1
      simp at l1
    · exact ⟨ps0, z, by rw [e, List.concat_eq_append]⟩
  have hn6 : 1 ≤ n ∧ n ≤ 6 := hq (x, s, n) (by simp)
  rw [List.map_append] at hL5
  obtain ⟨as0, e0, rfl, hL0, he0⟩ := hL5.last
  have hat := hR5
  rw [List.map_append] at hat
  have il : atI (as0.map V.ref ++ [e0].map V.ref) (-1) = some (.ref e0) := atI_last _ _
  refine ⟨_, rfl, 1, rfl, R, _, -1, _, rfl, rfl, SqL.of hat, il, ?_⟩
  refine ⟨fun σ H' => ∃ (as2 bs2 : List Addr) (ps2 : List PG) (v10 : Option V), σ = [some (.ref a), some (.ref p), some (.ref R), some (.ref N), v4, v5, v6, v7, some (.ref D), some (.ref e0), v10, none] ∧ H' R = some (.lst (as2.map V.ref)) ∧ LT H' as2 (ps2.map PG.vals) ∧ H' D = some (.lst (bs2.map V.ref)) ∧ LT H' bs2 ((cutR [] ps2).reverse.map PG.vals) ∧ ps2.length ≤ 7 ∧ sumC ps2 ≤ 2000000000, ?_, ?_⟩
  · refine ⟨_, rfl, e0, _, 2, _, rfl, rfl, SqT.of he0, atI_nat (j := 2) rfl, _, _, rfl, rfl, _, rfl, ?_⟩
    have keep : ∀ H' v10, H' R = some (.lst ((as0 ++ [e0]).map V.ref)) → LT H' (as0 ++ [e0]) ((ps0 ++ [(x, s, n)]).map PG.vals) → H' D = some (.lst (bs.map V.ref)) → LT H' bs ((cutR [] (ps0 ++ [(x, s, n)])).reverse.map PG.vals) → ∃ (as2 bs2 : List Addr) (ps2 : List PG) (v10' : Option V), [some (V.ref a), some (.ref p), some (.ref R), some (.ref N), v4, v5, v6, v7, some (.ref D), some (.ref e0), v10, none] = [some (.ref a), some (.ref p), some (.ref R), some (.ref N), v4, v5, v6, v7, some (.ref D), some (.ref e0), v10', none] ∧ H' R = some (.lst (as2.map V.ref)) ∧ LT H' as2 (ps2.map PG.vals) ∧ H' D = some (.lst (bs2.map V.ref)) ∧ LT H' bs2 ((cutR [] ps2).reverse.map PG.vals) ∧ ps2.length ≤ 7 ∧ sumC ps2 ≤ 2000000000 := fun H' v10 h1 h2 h3 h4 => ⟨_, _, _, _, rfl, h1, h2, h3, h4, l7, by omega⟩
    have hL5' : LT H5 (as0 ++ [e0]) ((ps0 ++ [(x, s, n)]).map PG.vals) := by rw [List.map_append]; exact hL5
    refine ite2 (fun z => ?_) (fun _ => keep H5 none hR5 hL5' hD5 hLU5)
    have z1 : (n : Int) > 4 := of_decide_eq_true z
    refine ⟨_, rfl, p, c, 2, rfl, by decide, by decide, hP5, fun r H6 r0 r1 hP6 f6 => ⟨rfl, _, rfl, ?_⟩⟩
    refine ite2 (fun _ => ?_) (fun _ => keep H6 none (f6 _ _ hRp.1 hR5) (hL5'.frm hP5 f6) (f6 _ _ hDp.1 hD5) (hLU5.frm hP5 f6))
    have e9 : (10 : Int) ^ (9 : Int).toNat = 1000000000 := by decide +kernel
    refine ⟨_, rfl, _, _, rfl, rfl, ⟨by decide, by decide, by decide⟩, p, c, _, rfl, by rw [e9]; decide, by rw [e9]; decide, hP6, fun more H7 m0 m1 hP7 f7 => ?_⟩
    rw [e9] at m1
    obtain ⟨more, rfl⟩ := Int.eq_ofNat_of_zero_le m0
    have F7 := f6.trans f7
    have hR7 := F7 _ _ hRp.1 hat
    have hL7 : LT H7 as0 (ps0.map PG.vals) := (hL0.frm hP5 F7)
    have he7 : H7 e0 = some (.tup (PG.vals (x, s, n))) := by
      obtain ⟨_, _, _, _, hpp⟩ := id hP5
      exact F7 e0 _ (ne_of he0 hpp.at_ (by intro z; cases z)) he0
    have hD7 := F7 _ _ hDp.1 hD5
    have hLU7 := hLU5.frm hP5 F7
    obtain ⟨j, rfl⟩ : ∃ j, n = j + 3 := ⟨n - 3, by omega⟩
    obtain ⟨g, m, rr, e1, e2⟩ := run_more (R := cutR [] ps0) (wf_cut _ _ (fun p hp => (by cases hp))) x s j more
    have ec1 : cutR [] (ps0 ++ [(x, s, j + 3)]) = (g, s, m) :: rr := by rw [cutR_app]; exact e1
    have ec2 : cutR [] (ps0 ++ [(x, s, j + 3 + more)]) = (g, s, m + more) :: rr := by rw [cutR_app]; exact e2
    rw [ec1] at hLU7
    obtain ⟨bs0, d0, rfl, hB0, hd0⟩ := (show Holds H7 D _ _ from ⟨hD7, hLU7⟩).cons
    rw [List.map_append] at hD7
    have hT7 : SqT K H7 e0 _ := SqT.of he7
    refine ⟨_, rfl, e0, _, 0, _, rfl, rfl, hT7, atI_nat (j := 0) rfl, ?_⟩
    refine ⟨_, rfl, e0, _, 1, _, rfl, rfl, hT7, atI_nat (j := 1) rfl, ?_⟩
    refine ⟨_, rfl, e0, _, 2, _, rfl, rfl, hT7, atI_nat (j := 2) rfl, _, rfl, _, _, rfl, rfl, by show 3 ≤ sizeLine; decide, fun t nt => ?_⟩
    have st := same_new (o := .tup (PG.vals (x, s, j + 3 + more))) nt
    have e4 : ((j + 3 : Nat) : Int) + (more : Int) = ((j + 3 + more : Nat) : Int) := rfl
    refine ⟨_, rfl, 1, rfl, R, _, _, _, rfl, rfl, same_new nt _ _ hR7, ix_last, ?_⟩
    have es : (as0.map V.ref ++ [e0].map V.ref).set (as0.map V.ref).length (.ref t) = as0.map V.ref ++ [.ref t] := set_last
    rw [es]
    have hD8 : (upd (upd H7 t (.tup (PG.vals (x, s, j + 3 + more)))) R (.lst (as0.map V.ref ++ [.ref t]))) D = some (.lst (bs0.map V.ref ++ [d0].map V.ref)) := by rw [upd_ne hRD.symm]; exact st _ _ hD7
    have hd8 : (upd (upd H7 t (.tup (PG.vals (x, s, j + 3 + more)))) R (.lst (as0.map V.ref ++ [.ref t]))) d0 = some (.tup (PG.vals (g, s, m))) := by rw [upd_ne (ne_of hd0 hR7 (by intro z; cases z))]; exact st _ _ hd0
    have hL8 : LT (upd (upd H7 t (.tup (PG.vals (x, s, j + 3 + more)))) R (.lst (as0.map V.ref ++ [.ref t]))) (as0 ++ [t]) ((ps0 ++ [(x, s, j + 3 + more)]).map PG.vals) := by
      rw [List.map_append]
      exact ((hL7.same st).add upd_same).updL (st _ _ hR7)
    have hB8 : LT (upd (upd H7 t (.tup (PG.vals (x, s, j + 3 + more)))) R (.lst (as0.map V.ref ++ [.ref t]))) bs0 (rr.reverse.map PG.vals) := (hB0.same st).updL (st _ _ hR7)
    have hR8 : (upd (upd H7 t (.tup (PG.vals (x, s, j + 3 + more)))) R (.lst (as0.map V.ref ++ [.ref t]))) R = some (.lst ((as0 ++ [t]).map V.ref)) := by rw [upd_same, List.map_append]; rfl
    have ild : atI (bs0.map V.ref ++ [d0].map V.ref) (-1) = some (.ref d0) := atI_last _ _
    obtain ⟨H8, hH8⟩ : ∃ H8, H8 = upd (upd H7 t (.tup (PG.vals (x, s, j + 3 + more)))) R (.lst (as0.map V.ref ++ [.ref t])) := ⟨_, rfl⟩
    rw [← hH8] at hD8 hd8 hL8 hB8 hR8
    have hT8 : SqT K H8 d0 _ := SqT.of hd8
    have fin : ∀ (v10 : Option V) (t2 : Addr), H8 t2 = none → ∃ (as2 bs2 : List Addr) (ps2 : List PG) (v10' : Option V), [some (V.ref a), some (.ref p), some (.ref R), some (.ref N), v4, v5, v6, v7, some (.ref D), some (.ref e0), v10, none] = [some (.ref a), some (.ref p), some (.ref R), some (.ref N), v4, v5, v6, v7, some (.ref D), some (.ref e0), v10', none] ∧ (upd (upd H8 t2 (.tup (PG.vals (g, s, m + more)))) D (.lst ((bs0.map V.ref ++ [d0].map V.ref).set (bs0.map V.ref).length (.ref t2)))) R = some (.lst (as2.map V.ref)) ∧ LT (upd (upd H8 t2 (.tup (PG.vals (g, s, m + more)))) D (.lst ((bs0.map V.ref ++ [d0].map V.ref).set (bs0.map V.ref).length (.ref t2)))) as2 (ps2.map PG.vals) ∧ (upd (upd H8 t2 (.tup (PG.vals (g, s, m + more)))) D (.lst ((bs0.map V.ref ++ [d0].map V.ref).set (bs0.map V.ref).length (.ref t2)))) D = some (.lst (bs2.map V.ref)) ∧ LT (upd (upd H8 t2 (.tup (PG.vals (g, s, m + more)))) D (.lst ((bs0.map V.ref ++ [d0].map V.ref).set (bs0.map V.ref).length (.ref t2)))) bs2 ((cutR [] ps2).reverse.map PG.vals) ∧ ps2.length ≤ 7 ∧ sumC ps2 ≤ 2000000000 := fun v10 t2 nt2 => by
      have st2 := same_new (o := .tup (PG.vals (g, s, m + more))) nt2
      have es2 : (bs0.map V.ref ++ [d0].map V.ref).set (bs0.map V.ref).length (.ref t2) = bs0.map V.ref ++ [.ref t2] := set_last
      rw [es2]
      refine ⟨as0 ++ [t], bs0 ++ [t2], ps0 ++ [(x, s, j + 3 + more)], _, rfl, by rw [upd_ne hRD]; exact st2 _ _ hR8, (hL8.same st2).updL (st2 _ _ hD8), by rw [upd_same, List.map_append]; rfl, ?_, by simp at l7 ⊢; omega, ?_⟩
      · rw [ec2]
        exact ((hB8.same st2).snoc (p := (g, s, m + more)) (a := t2) upd_same).updL (st2 _ _ hD8)
      · rw [sumC_app] at hs6 ⊢
        have q1 : sumC [(x, s, j + 3)] = j + 3 := rfl
        have q2 : sumC [(x, s, j + 3 + more)] = j + 3 + more := rfl
        omega
    have em : ((m + more : Nat) : Int) = (m : Int) + (more : Int) := rfl
    rw [hH8] at hD8 hT8 fin
    refine ⟨_, rfl, 1, rfl, D, _, -1, _, rfl, rfl, SqL.of hD8, ild, d0, _, 0, _, rfl, rfl, hT8, atI_nat (j := 0) rfl, ?_⟩
    refine ⟨_, rfl, 1, rfl, D, _, -1, _, rfl, rfl, SqL.of hD8, ild, d0, _, 1, _, rfl, rfl, hT8, atI_nat (j := 1) rfl, ?_⟩
    refine ⟨_, rfl, 1, rfl, D, _, -1, _, rfl, rfl, SqL.of hD8, ild, d0, _, 2, _, rfl, rfl, hT8, atI_nat (j := 2) rfl, _, rfl, _, _, rfl, rfl, by show 3 ≤ sizeLine; decide, fun t2 nt2 => ?_⟩
    refine ⟨_, rfl, 1, rfl, D, _, _, _, rfl, rfl, same_new nt2 _ _ hD8, ix_last, ?_⟩
    exact fin _ t2 nt2
  rintro σ H6 ⟨as2, bs2, ps2, v10, rfl, hR6, hL6, hD6, hB6, l7', hs⟩
  -- told
  refine ⟨_, rfl, R, _, rfl, .inl (SqL.of hR6), fun R2 nR2 => ?_⟩
  have sR2 := same_new (o := .lst (as2.map V.ref)) nR2
  refine ⟨R2, as2, ps2, rfl, .inl upd_same, hL6.same sR2, by omega, by omega, fun X xs H7 s7 hX hLX => ?_⟩
  have s7' := sR2.trans s7
  have hcl : (cutR [] ps2).length ≤ 7 := by
    have := cut_le ps2 []
    simp at this
    omega
  have hcl2 : (cutR [] ps2).reverse.length ≤ 1000 := by rw [List.length_reverse]; omega
  have hcan : canon (cutR [] ps2) := canon_cut _ _ trivial
  refine ⟨_, rfl, _, rfl, D, _, rfl, .inl ⟨SqL.of (s7' _ _ hD6), fun Y nY => ?_⟩⟩
  have sY := same_new (o := .tup (bs2.map V.ref)) nY
  refine ⟨_, _, rfl, progs_same (sY _ _ hX) upd_same (hLX.same sY) ((hB6.same s7').same sY) hcl2, fun H8 s8 => ⟨true, rfl, ifT rfl ?_⟩⟩
  have s8' := s7'.trans (sY.trans s8)
  have hX8 := (sY.trans s8) _ _ hX
  have hLX8 := hLX.same (sY.trans s8)
  refine ⟨_, rfl, R, _, rfl, .inl ⟨SqL.of (s8' _ _ hR6), fun R3 nR3 => ?_⟩⟩
  have sR3 := same_new (o := .tup (as2.map V.ref)) nR3
  refine ⟨R3, as2, ps2, rfl, .inr upd_same, (hL6.same s8').same sR3, by omega, by omega, fun X2 xs2 H9 s9 hX2 hLX2 => ?_⟩
  have s9' := sR3.trans s9
  refine ⟨_, rfl, _, _, rfl, progs_same hX2 (s9' _ _ hX8) hLX2 (hLX8.same s9') hcl2, fun H10 s10 => ⟨true, rfl, ifT rfl ?_⟩⟩
  have s10' := s9'.trans s10
  refine ⟨_, rfl, X, xs, (cutR [] ps2).reverse, rfl, .inr (s10' _ _ hX8), hLX8.same s10', by rw [List.length_reverse]; omega, ?_, fun X3 xs3 H11 s11 hX3 hLX3 => ?_⟩
  · rw [sumC_rev, sumC_cut]
    show 0 + _ ≤ _
    omega
  rw [cut_canon _ hcan] at hLX3
  have s11' := s10'.trans s11
  exact ⟨_, rfl, _, _, rfl, progs_same hX3 (s11' _ _ hX8) hLX3 (hLX8.same s11') hcl2, fun H12 _ => q H12⟩
end
/-! ### what the top has written -/
def DefAt (K : PySem.W.Frag) (x : Str) (st : Stmt) : Prop := ∃ (f : Addr) (fd : FuncData), PySem.W.nsIn K mainGlobals x = some (some (.ref f)) ∧ Fun K x x st f fd
theorem def_mk {K : PySem.W.Frag} {x : Str} {st : Stmt} {f : Addr} {od an : Option Addr} {sl : Array (Option Value)} {oc kV dc pm cd ct : Value} (a : PySem.W.nsIn K mainGlobals x = some (some (.ref f)))
    (l : K.lookup f = some ⟨oc, od, .func (PySem.W.fnOf x x (defArgs st) (defBody st) (defScope st) .none kV dc pm an cd ct), sl⟩) (c : PySem.W.codeIn K cd x = true) (k : PySem.W.keepIn K (.ref f) = true) : DefAt K x st := ⟨f, _, a, fun_mk l c k⟩
theorem all_mk {l : PySem.W.OpenLaw} {w : World} {K : PySem.W.Frag} {h : Heap} {mg : Str → Option Value} {fa fL : Addr} (X : K.In h) (G : h.Ns mainGlobals mg) (hfa : mg "law" = some (.ref fa))
    {odL anL : Option Addr} {slL : Array (Option Value)} {ocL kVL dcL pmL cdL ctL : Value}
    (D_cu : DefAt K "cut" sCut)
    (D_ma : DefAt K "many_taken" sMany)
    (D_lo : DefAt K "longer" sLonger)
    (D_pool : DefAt K "_law_pool" sPool)
    (D_take : DefAt K "_law_take" sTake)
    (D_ii : DefAt K "_law_is_integer" sIsInt)
    (D_sa : DefAt K "_law_same" sSame)
    (D_lc : DefAt K "_law_cut" sLCut)
    (D_ro : DefAt K "_law_rows" sLRows)
    (aL : PySem.W.nsIn K mainGlobals "law" = some (some (.ref fL))) (lL : K.lookup fL = some ⟨ocL, odL, .func (PySem.W.fnOf "law" "law" (defArgs sLaw) (defBody sLaw) (defScope sLaw) .none kVL dcL pmL anL cdL ctL), slL⟩) (cL : PySem.W.codeIn K cdL "law" = true) (kL : PySem.W.keepIn K (.ref fL) = true)
    (z_len : PySem.W.nsIn K mainGlobals "len" = some none)
    (z_int : PySem.W.nsIn K mainGlobals "int" = some none)
    (z_range : PySem.W.nsIn K mainGlobals "range" = some none)
    (z_tuple : PySem.W.nsIn K mainGlobals "tuple" = some none)
    (z_list : PySem.W.nsIn K mainGlobals "list" = some none)
    (z_isinstance : PySem.W.nsIn K mainGlobals "isinstance" = some none)
    (z_all : PySem.W.nsIn K mainGlobals "all" = some none)
    (z_bool : PySem.W.nsIn K mainGlobals "bool" = some none)
    (z_str : PySem.W.nsIn K mainGlobals "str" = some none)
    (z_max : PySem.W.nsIn K mainGlobals "max" = some none)
    : ∃ fd : FuncData, (∀ (s : Shared) (v : Value), BindsTo s fd ⟨[v], []⟩ [("script", v)]) ∧ ∀ base : Heap, K.In base → base.Ns mainGlobals mg → FnOk l.prog w K mg base CX0 5 fa fd ["script"] (spLaw K) := by
  have e := hfa.symm.trans (PySem.W.mg_of X G aL)
  cases e
  have gl : ∀ {x : Str} {v : Value}, PySem.W.nsIn K mainGlobals x = some (some v) → mg x = some v := fun a => PySem.W.mg_of X G a
  have gn : ∀ {x : Str}, PySem.W.nsIn K mainGlobals x = some none → mg x = none := fun a => PySem.W.mg_none_of X G a
  have T : Txt mg := ⟨gn z_len, gn z_int, gn z_range, gn z_tuple, gn z_list, gn z_isinstance, gn z_all, gn z_bool, gn z_str, gn z_max⟩
  have FL := fun_mk (st := sLaw) lL cL kL
  obtain ⟨f_D_cu, fd_D_cu, a_D_cu, F_D_cu⟩ := D_cu
  obtain ⟨f_D_ma, fd_D_ma, a_D_ma, F_D_ma⟩ := D_ma
  obtain ⟨f_D_lo, fd_D_lo, a_D_lo, F_D_lo⟩ := D_lo
  obtain ⟨f_D_pool, fd_D_pool, a_D_pool, F_D_pool⟩ := D_pool
  obtain ⟨f_D_take, fd_D_take, a_D_take, F_D_take⟩ := D_take
  obtain ⟨f_D_ii, fd_D_ii, a_D_ii, F_D_ii⟩ := D_ii
  obtain ⟨f_D_sa, fd_D_sa, a_D_sa, F_D_sa⟩ := D_sa
  obtain ⟨f_D_lc, fd_D_lc, a_D_lc, F_D_lc⟩ := D_lc
  obtain ⟨f_D_ro, fd_D_ro, a_D_ro, F_D_ro⟩ := D_ro
  refine ⟨PySem.W.fnOf "law" "law" (defArgs sLaw) (defBody sLaw) (defScope sLaw) .none kVL dcL pmL anL cdL ctL, fun s v => .of_eq rfl, fun base _ _ => ?_⟩
  have G : Cal l.prog w K mg base 2 "_law_take" spTake [] := ok_take F_D_take (gl a_D_take) (F_D_take.binds (ps := ["pool", "many"]) fun _ _ _ _ _ _ us hl => match us, hl with | [_, _], _ => rfl) T
  have GP : Cal l.prog w K mg base 1 "_law_pool" (spPool K) [] := ok_pool F_D_pool (gl a_D_pool) (F_D_pool.binds (ps := ["script"]) fun _ _ _ _ _ _ us hl => match us, hl with | [_], _ => rfl) 
  have GMa : Cal l.prog w K mg base 1 "many_taken" spMany [] := ok_many F_D_ma (gl a_D_ma) (F_D_ma.binds (ps := ["done", "place", "step", "count"]) fun _ _ _ _ _ _ us hl => match us, hl with | [_, _, _, _], _ => rfl) T
  have GLo : Cal l.prog w K mg base 1 "longer" spLonger [] := ok_longer F_D_lo (gl a_D_lo) (F_D_lo.binds (ps := ["row", "place", "many"]) fun _ _ _ _ _ _ us hl => match us, hl with | [_, _, _], _ => rfl) T
  have GC : Cal l.prog w K mg base 2 "cut" spCut [] := ok_cut F_D_cu (gl a_D_cu) (F_D_cu.binds (ps := ["rows"]) fun _ _ _ _ _ _ us hl => match us, hl with | [_], _ => rfl) T GMa GLo
  have GLc : Cal l.prog w K mg base 1 "_law_cut" spLCut [] := ok_lcut F_D_lc (gl a_D_lc) (F_D_lc.binds (ps := ["numbers"]) fun _ _ _ _ _ _ us hl => match us, hl with | [_], _ => rfl) T
  have GR : Cal l.prog w K mg base 3 "_law_rows" spRows [] := ok_rows F_D_ro (gl a_D_ro) (F_D_ro.binds (ps := ["pool"]) fun _ _ _ _ _ _ us hl => match us, hl with | [_], _ => rfl) T G
  have GIs : Cal l.prog w K mg base 1 "_law_is_integer" spIsInteger [] := ok_is_integer F_D_ii (gl a_D_ii) (F_D_ii.binds (ps := ["actual"]) fun _ _ _ _ _ _ us hl => match us, hl with | [_], _ => rfl) T
  have GS0 : Cal l.prog w K mg base 2 "_law_same" (spSame 0) [] := ok_same0 F_D_sa (gl a_D_sa) (F_D_sa.binds (ps := ["actual", "due"]) fun _ _ _ _ _ _ us hl => match us, hl with | [_, _], _ => rfl) T GIs
  have GS1 : Cal l.prog w K mg base 3 "_law_same" (spSame 1) [] := ok_same1 F_D_sa (gl a_D_sa) (F_D_sa.binds (ps := ["actual", "due"]) fun _ _ _ _ _ _ us hl => match us, hl with | [_, _], _ => rfl) T GIs (by decide) rfl GS0
  have GS : Cal l.prog w K mg base 4 "_law_same" (spSame 2) [] := ok_same1 F_D_sa (gl a_D_sa) (F_D_sa.binds (ps := ["actual", "due"]) fun _ _ _ _ _ _ us hl => match us, hl with | [_, _], _ => rfl) T GIs (by decide) rfl GS1
  exact ok_law FL T G GP GR GLc GC GS
end K4
open PySem PySem.W PyProof.Rows in
set_option maxRecDepth 100000 in
set_option maxHeartbeats 0 in
theorem PySem.Challenge.cw_shortheld_k18_progressions_holds : PySem.Challenge.rw_shortheld_k18_progressions.Holds := by
  w_on; o_law; k_head; (case hw => w_witness2)
  k_fill
  refine L2.walk_of (l := PySem.Challenge.rw_shortheld_k18_progressions) (n := 63) (k := 5) (x := "script") (CX := fun _ => L2.CX0) (sp := fun w => K4.spLaw _) rfl (by decide) rfl ⟨rfl, by decide, by decide⟩ (fun w h Y => PySem.W.kIn_of Y) ?F (fun _ _ a ns hl _ hS => ⟨a, ns, rfl, hS, hl, fun _ => rfl⟩) (fun _ _ _ _ _ h => h)
  case F =>
    intro w mg fa h KX G hmg
    refine' K4.all_mk KX G hmg ?D_cu ?D_ma ?D_lo ?D_pool ?D_take ?D_ii ?D_sa ?D_lc ?D_ro ?aL ?lL ?cL ?kL ?z_len ?z_int ?z_range ?z_tuple ?z_list ?z_isinstance ?z_all ?z_bool ?z_str ?z_max
    (case D_cu => refine' K4.def_mk ?a ?l ?c ?k; (case a => k_is); (case l => k_is); (case c => k_is); (case k => k_is))
    (case D_ma => refine' K4.def_mk ?a ?l ?c ?k; (case a => k_is); (case l => k_is); (case c => k_is); (case k => k_is))
    (case D_lo => refine' K4.def_mk ?a ?l ?c ?k; (case a => k_is); (case l => k_is); (case c => k_is); (case k => k_is))
    (case D_pool => refine' K4.def_mk ?a ?l ?c ?k; (case a => k_is); (case l => k_is); (case c => k_is); (case k => k_is))
    (case D_take => refine' K4.def_mk ?a ?l ?c ?k; (case a => k_is); (case l => k_is); (case c => k_is); (case k => k_is))
    (case D_ii => refine' K4.def_mk ?a ?l ?c ?k; (case a => k_is); (case l => k_is); (case c => k_is); (case k => k_is))
    (case D_sa => refine' K4.def_mk ?a ?l ?c ?k; (case a => k_is); (case l => k_is); (case c => k_is); (case k => k_is))
    (case D_lc => refine' K4.def_mk ?a ?l ?c ?k; (case a => k_is); (case l => k_is); (case c => k_is); (case k => k_is))
    (case D_ro => refine' K4.def_mk ?a ?l ?c ?k; (case a => k_is); (case l => k_is); (case c => k_is); (case k => k_is))
    (case aL => k_is)
    (case lL => k_is)
    (case cL => k_is)
    (case kL => k_is)
    (case z_len => k_is)
    (case z_int => k_is)
    (case z_range => k_is)
    (case z_tuple => k_is)
    (case z_list => k_is)
    (case z_isinstance => k_is)
    (case z_all => k_is)
    (case z_bool => k_is)
    (case z_str => k_is)
    (case z_max => k_is)
