import PyProof.Rows.All
import Wide.All
import OpenK.AllK
import Wide.FinOn
import HandS.ForMost
import HandS.Codes
import HandS.Wide
import HandS.EndBits
import HandS.IsInst
import HandS.Style
import HandS.Star
import HandS.Defaults
import KE.KExcIs
import KE.KIsAll
import HandS.Exc
import HandS.ExcInit
import HandS.ExcField
import HandS.ExcIs
import HandS.DeepEq
import HandS.ExcValue
import HandS.OwnEq
import HandS.DictComp
import PyProof.InstNe
import PyProof.Rows.PlainNe
import HandS.TupSets
import HandS.SetKeys
import HandS.ReCall
import HandS.Deep
import PyProof.ReprHeadsTuple
import PySem.Challenge.RW_allnear_k01_checks_of_any_value
set_option Elab.async false
set_option linter.all false
set_option maxRecDepth 100000
/-! What all the laws' proofs share: the well that draws numbers out of the script. -/
namespace My
open PySem PySem.Spec PyProof.Rows L2
/-- all of H but what stands at p is kept -/
def Keep (p : Addr) (H H' : Hp) : Prop := ∀ b o, H b = some o → b ≠ p → H' b = some o
theorem Keep.refl {p : Addr} {H : Hp} : Keep p H H := fun _ _ h _ => h
theorem Keep.trans {p : Addr} {H H1 H2 : Hp} (a : Keep p H H1) (b : Keep p H1 H2) : Keep p H H2 := fun c o h n => b c o (a c o h n) n
theorem Keep.of {p : Addr} {H H' : Hp} (a : Same H H') : Keep p H H' := fun c o h _ => a c o h
theorem Keep.upd {p : Addr} {H H' : Hp} {u : HO} (a : Keep p H H') : Keep p H (upd H' p u) := fun c o h n => by
  rw [upd_ne n]
  exact a c o h n
theorem same_new {H : Hp} {p : Addr} (h : H p = none) (o : HO) : Same H (upd H p o) := fun b u q => by
  rw [upd_ne (ne_of_none q h)]
  exact q
theorem Same.keep {p : Addr} {H H1 H2 : Hp} (a : Same H H1) (b : Keep p H1 H2) (n : H p = none) : Same H H2 := fun c o h => b c o (a c o h) (ne_of_none h n)
/-- at p a well with its cells at c; n draws may still be made -/
def Well (H : Hp) (p c : Addr) (n : Nat) : Prop := ∃ (cells : List Int) (t r : Int), H p = some (.lst [.ref c, .int t, .int r]) ∧ H c = some (.lst (cells.map V.int)) ∧ cells.length ≤ 63 ∧ 0 ≤ t ∧ t + n ≤ 1000000
theorem Well.same {H H' : Hp} {p c : Addr} {n : Nat} (e : Same H H') (w : Well H p c n) : Well H' p c n := by
  obtain ⟨cells, t, r, h1, h2, h3⟩ := w
  exact ⟨cells, t, r, e _ _ h1, e _ _ h2, h3⟩
theorem Well.less {H : Hp} {p c : Addr} {n m : Nat} (h : m ≤ n) (w : Well H p c n) : Well H p c m := by
  obtain ⟨cells, t, r, h1, h2, h3, h4, h5⟩ := w
  exact ⟨cells, t, r, h1, h2, h3, h4, by omega⟩
theorem Well.ne {H : Hp} {p c : Addr} {n : Nat} (w : Well H p c n) : c ≠ p := by
  obtain ⟨cells, t, r, h1, h2, _⟩ := w
  intro e
  subst e
  rw [h1] at h2
  have e := Option.some.inj h2
  injection e with e
  cases cells with
  | nil => cases e
  | cons a b => injection e with e _; cases e
def spWell (K : PySem.W.Frag) : Sp := fun vs H Q _ => ∃ (a : Addr) (ns : List Int), vs = [.ref a] ∧ SqL K H a (ns.map V.int) ∧ ns.length ≤ 63 ∧
  ∀ (p c : Addr) (H' : Hp), H p = none → H c = none → Same H H' → Well H' p c 1000000 → Q (.ref p) H'
def spPail : Sp := fun vs H Q _ => ∃ (p c : Addr) (n : Nat) (m : Int), vs = [.ref p, .int m] ∧ Well H p c (n + 1) ∧ 0 < m ∧ m ≤ 10 ^ 40 ∧
  ∀ (z : Int) (H' : Hp), 0 ≤ z → z < m → Keep p H H' → Well H' p c n → Q (.int z) H'
def spOf (K : PySem.W.Frag) : Sp := fun vs H Q _ => ∃ (p c l : Addr) (n : Nat) (xs : List V), vs = [.ref p, .ref l] ∧ Well H p c (n + 1) ∧ SqL K H l xs ∧ l ≠ p ∧ 0 < xs.length ∧ xs.length ≤ 1000 ∧
  ∀ (v : V) (H' : Hp), v ∈ xs → Keep p H H' → Well H' p c n → Q v H'
/-- a def of the module that takes all its arguments -/
def DefB (K : PySem.W.Frag) (mg : Str → Option Value) (x : Str) (st : Stmt) (ps : List Str) : Prop := ∃ (f : Addr) (fd : FuncData), C8.Def K mg x st f fd ∧ Binds K fd ps []
section
variable {P : Program} {w : World} {K : PySem.W.Frag} {mg : Str → Option Value} {base : Heap}
theorem calB {x : Str} {st : Stmt} {N ps : List Str} {k : Nat} {sp : Sp} (D : DefB K mg x st ps) (S : FnScope N ps (C8.fnScope st)) (len : ∀ vs H Q E, sp vs H Q E → vs.length = ps.length)
    (hbody : ∀ (f : Addr) (cdv : Value) (A : Around) (outer : List Env) (s : Shared) (H : Hp) (vs : List V) (Q : VK) (E : XK), Room k (A.deeper (envOfC x (C8.fnScope st) s.heap.objs.size f cdv)) → sp vs H Q E →
      ∃ t, PSs (cxOf CX0 P w K mg base N x (C8.fnScope st) f cdv A outer s H E).nox (C8.fnBody st) t ∧ t { nx := fun _ H' => Q .non H', rt := Q } (start N vs) H) : C8.Cal P w K mg base (k + 1) x sp [] := by
  obtain ⟨f, fd, F, b⟩ := D
  exact C8.cal0 F b .nil S len (hbody f)
end
theorem lg_le {m : Int} (h : m ≤ 10 ^ 40) (h0 : 0 < m) : m.natAbs.log2 < 9000 := by
  have : m.natAbs < 2 ^ 200 := Nat.lt_of_le_of_lt (by omega : m.natAbs ≤ 10 ^ 40) (by decide)
  exact Nat.lt_of_lt_of_le (PySem.Flt.log2_lt_of (by decide) this) (by decide)
theorem Keep.seqL {K : PySem.W.Frag} {p l : Addr} {H H' : Hp} {xs : List V} (e : Keep p H H') (h : SqL K H l xs) (n : l ≠ p) : SqL K H' l xs := by
  rcases h with (h | ⟨o, h⟩) | h
  · exact .inl (.inl (e _ _ h n))
  · exact .inl (.inr ⟨o, e _ _ h n⟩)
  · exact .inr h
theorem Keep.seqT {K : PySem.W.Frag} {p l : Addr} {H H' : Hp} {xs : List V} (e : Keep p H H') (h : SqT K H l xs) (n : l ≠ p) : SqT K H' l xs := by
  rcases h with (h | ⟨o, h⟩) | h
  · exact .inl (.inl (e _ _ h n))
  · exact .inl (.inr ⟨o, e _ _ h n⟩)
  · exact .inr h
theorem at_int {xs : List V} {z : Int} (h0 : 0 ≤ z) (h : z < (xs.length : Int)) : ∃ v, atI xs z = some v ∧ v ∈ xs := by
  have hk : z.toNat < xs.length := by omega
  have e : ((z.toNat : Nat) : Int) = z := by omega
  have q := atI_nat (xs := xs) (j := z.toNat) (v := xs[z.toNat]) (by simp [hk])
  rw [e] at q
  exact ⟨_, q, List.getElem_mem hk⟩
theorem dp_ints {K : PySem.W.Frag} {H : Hp} : ∀ ns : List Int, DpAll K H (ns.map V.int) (ns.map PyData.int)
  | [] => .nil
  | n :: r => .cons (.int n) (dp_ints r)
theorem ints_lay : ∀ ns : List Int, PyData.canLayAll0 (ns.map PyData.int) = true
  | [] => by simp [PyData.canLayAll0]
  | n :: r => by simp [PyData.canLayAll0, PyData.canLay0, ints_lay r]
theorem ints_depth : ∀ ns : List Int, PyData.depthAll (ns.map PyData.int) = 0
  | [] => by simp [PyData.depthAll]
  | n :: r => by simp [PyData.depthAll, PyData.depth, ints_depth r]
theorem shaped_by {d : PyData} (h : d.canLay0 = true) (h2 : d.depth ≤ 64) : SeqAt.shaped d = true := by
  show (d.canLay0 && decide (d.depth ≤ 64)) = true
  rw [Bool.and_eq_true]
  exact ⟨h, decide_eq_true h2⟩
theorem ints_shapedL (ns : List Int) : SeqAt.shaped (.list (ns.map PyData.int)) = true :=
  shaped_by (by simp only [PyData.canLay0]; exact ints_lay ns) (by simp only [PyData.depth, ints_depth]; omega)
theorem ints_shapedT (ns : List Int) : SeqAt.shaped (.tuple (ns.map PyData.int)) = true :=
  shaped_by (by simp only [PyData.canLay0]; exact ints_lay ns) (by simp only [PyData.depth, ints_depth]; omega)
theorem eqv_intsA : ∀ as bs : List Int, PyData.eqvAll (as.map PyData.int) (bs.map PyData.int) = decide (as = bs)
  | [], [] => by simp [PyData.eqvAll]
  | [], b :: bs => by simp [PyData.eqvAll]
  | a :: as, [] => by simp [PyData.eqvAll]
  | a :: as, b :: bs => by
    simp only [List.map_cons, PyData.eqvAll, PyData.eqv, eqv_intsA as bs]
    by_cases h : a = b
    · subst h
      simp
    · have e : (a == b) = false := beq_eq_false_iff_ne.mpr h
      rw [e, Bool.false_and]
      exact (decide_eq_false (fun z => h (List.cons.inj z).1)).symm
theorem eqv_intsL (as bs : List Int) : PyData.eqv (.list (as.map PyData.int)) (.list (bs.map PyData.int)) = decide (as = bs) := by
  simp only [PyData.eqv, eqv_intsA]
theorem eqv_intsT (as bs : List Int) : PyData.eqv (.tuple (as.map PyData.int)) (.tuple (bs.map PyData.int)) = decide (as = bs) := by
  simp only [PyData.eqv, eqv_intsA]
theorem pow_lt {a b : Nat} {i : Int} (h0 : 0 ≤ i) (h1 : i < b) : i.natAbs < b := by omega
theorem mix_lt {v t A B C : Int} (hA : 0 ≤ A ∧ A < 100000) (hB : 0 ≤ B ∧ B < 1000000) (hC : 0 ≤ C ∧ C < 1000000) (h0 : 0 ≤ v) (h1 : v ≤ 2147483647) (t0 : 0 ≤ t) (t1 : t ≤ 1000000) : (v * (2 * t + A) + B * t * t + C).natAbs < 2 ^ 64 := by
  have a1 : 0 ≤ v * (2 * t + A) := Int.mul_nonneg h0 (by omega)
  have a2 : v * (2 * t + A) ≤ 2147483647 * 2100000 := Int.le_trans (Int.mul_le_mul_of_nonneg_right h1 (by omega)) (Int.mul_le_mul_of_nonneg_left (by omega) (by decide))
  have b1 : 0 ≤ B * t := Int.mul_nonneg hB.1 t0
  have b2 : B * t ≤ 1000000 * 1000000 := Int.le_trans (Int.mul_le_mul_of_nonneg_right (Int.le_of_lt hB.2) t0) (Int.mul_le_mul_of_nonneg_left t1 (by decide))
  have c1 : 0 ≤ B * t * t := Int.mul_nonneg b1 t0
  have c2 : B * t * t ≤ 1000000 * 1000000 * 1000000 := Int.le_trans (Int.mul_le_mul_of_nonneg_right b2 t0) (Int.mul_le_mul_of_nonneg_left t1 (by decide))
  omega
theorem cut_ints {ns : List Int} {lo hi : Option Int} : ∃ cells : List Int, cutV (ns.map V.int) lo hi = cells.map V.int ∧ cells.length ≤ ns.length := by
  refine ⟨(ns.drop (HT.sIx (ns.map V.int).length 0 lo)).take (HT.sIx (ns.map V.int).length (ns.map V.int).length hi - HT.sIx (ns.map V.int).length 0 lo), ?_, ?_⟩
  · unfold cutV
    rw [← List.map_drop, ← List.map_take]
  · rw [List.length_take, List.length_drop]
    omega
theorem mem_cut_int {ns : List Int} {lo hi : Option Int} {y : V} (h : y ∈ cutV (ns.map V.int) lo hi) : ∃ z, y = V.int z := by
  obtain ⟨cells, e, _⟩ := cut_ints (ns := ns) (lo := lo) (hi := hi)
  rw [e] at h
  obtain ⟨z, _, rfl⟩ := List.mem_map.mp h
  exact ⟨z, rfl⟩
/-! ### comprehensions: P tells what is made so far; it does not hang on the list that grows (D) -/
theorem lc_acc {K : PySem.W.Frag} {a : Addr} {xs : List V} {g : TG} {tt : TT} {te : TE} {vs : List Nat} {σ : L2.St} {H1 : Hp} {D : Addr} {Qd : Hp → Prop} (P : Nat → List V → Hp → Prop) (hx : SqL K H1 a xs) (hD : H1 D = none) (hz : xs.length ≤ 100000)
    (mono : ∀ i acc H H', Keep D H H' → P i acc H → P i acc H') (h0 : P 0 [] H1)
    (hs : ∀ (i : Nat) (x : V) (acc : List V) (H : Hp) (Kc : V → Hp → Prop) (Nc : Hp → Prop), xs[i]? = some x → Same H1 H → H D = some (.lst acc) → P i acc H → (∀ y H4, Same H H4 → P (i + 1) (acc ++ [y]) H4 → Kc y H4) → (∀ H4, Same H H4 → P (i + 1) acc H4 → Nc H4) →
      g x (wipe σ vs) H fun σ2 H2 => wipe σ2 vs = wipe σ vs ∧ tt σ2 H2 fun b H3 => if b = true then te σ2 H3 Kc else Nc H3)
    (hd : ∀ acc H, Same H1 H → H D = some (.lst acc) → acc.length ≤ xs.length → P xs.length acc H → Qd H) :
    ∃ W : Nat → Nat → Hp → Prop, (∃ m, W 0 m (upd H1 D (.lst []))) ∧ ∀ i m H, W i m H →
      ((Itl K a).stop i H ∧ Qd H) ∨ ((Itl K a).go i H ∧ ∃ Nx : Hp → Prop, (∀ H', Nx H' → ∃ m', m' < m ∧ W (i + 1) m' H') ∧ ∀ x H', (Itl K a).yld i H x H' → g x (wipe σ vs) H' fun σ2 H2 => wipe σ2 vs = wipe σ vs ∧ tt σ2 H2 fun b H3 =>
        if b = true then te σ2 H3 fun y H4 => ∃ acc, H4 D = some (.lst acc) ∧ acc.length < sizeLine ∧ Nx (upd H4 D (.lst (acc ++ [y]))) else Nx H3) := by
  refine lc_list (K := K) (a := a) (xs := xs) (fun i H => ∃ acc, Same H1 H ∧ H D = some (.lst acc) ∧ acc.length ≤ i ∧ P i acc H) ⟨[], same_new hD _, upd_same, Nat.le_refl _, mono _ _ _ _ (Keep.of (same_new hD _)) h0⟩ (fun i H _ ⟨acc, e, _⟩ => e.seq hx) ?_ (fun H ⟨acc, e, h, hl, p⟩ => hd acc H e h hl p)
  rintro i x H hi ⟨acc, e, h, hl, p⟩
  have hil : i < xs.length := (List.getElem?_eq_some_iff.mp hi).1
  refine hs i x acc H _ _ hi e h p (fun y H4 e4 p4 => ?_) (fun H4 e4 p4 => ⟨acc, e.trans e4, e4 _ _ h, by omega, p4⟩)
  refine ⟨acc, e4 _ _ h, Nat.lt_of_lt_of_le (by omega : acc.length < 100000) (by decide), acc ++ [y], fun b o hb => ?_, upd_same, by rw [List.length_append, List.length_singleton]; omega, mono _ _ _ _ Keep.refl.upd p4⟩
  rw [upd_ne (ne_of_none hb hD)]
  exact e4 _ _ (e b o hb)
theorem same_seqT {K : PySem.W.Frag} {H H' : Hp} {a : Addr} {xs : List V} (e : Same H H') (h : SqT K H a xs) : SqT K H' a xs := by
  rcases h with (h | ⟨o, h⟩) | h
  · exact .inl (.inl (e _ _ h))
  · exact .inl (.inr ⟨o, e _ _ h⟩)
  · exact .inr h
theorem lc_accT {K : PySem.W.Frag} {a : Addr} {xs : List V} {g : TG} {tt : TT} {te : TE} {vs : List Nat} {σ : L2.St} {H1 : Hp} {D : Addr} {Qd : Hp → Prop} (P : Nat → List V → Hp → Prop) (hx : SqT K H1 a xs) (hD : H1 D = none) (hz : xs.length ≤ 100000)
    (mono : ∀ i acc H H', Keep D H H' → P i acc H → P i acc H') (h0 : P 0 [] H1)
    (hs : ∀ (i : Nat) (x : V) (acc : List V) (H : Hp) (Kc : V → Hp → Prop) (Nc : Hp → Prop), xs[i]? = some x → Same H1 H → H D = some (.lst acc) → P i acc H → (∀ y H4, Same H H4 → P (i + 1) (acc ++ [y]) H4 → Kc y H4) → (∀ H4, Same H H4 → P (i + 1) acc H4 → Nc H4) →
      g x (wipe σ vs) H fun σ2 H2 => wipe σ2 vs = wipe σ vs ∧ tt σ2 H2 fun b H3 => if b = true then te σ2 H3 Kc else Nc H3)
    (hd : ∀ acc H, Same H1 H → H D = some (.lst acc) → acc.length ≤ xs.length → P xs.length acc H → Qd H) :
    ∃ W : Nat → Nat → Hp → Prop, (∃ m, W 0 m (upd H1 D (.lst []))) ∧ ∀ i m H, W i m H →
      ((Itt K a).stop i H ∧ Qd H) ∨ ((Itt K a).go i H ∧ ∃ Nx : Hp → Prop, (∀ H', Nx H' → ∃ m', m' < m ∧ W (i + 1) m' H') ∧ ∀ x H', (Itt K a).yld i H x H' → g x (wipe σ vs) H' fun σ2 H2 => wipe σ2 vs = wipe σ vs ∧ tt σ2 H2 fun b H3 =>
        if b = true then te σ2 H3 fun y H4 => ∃ acc, H4 D = some (.lst acc) ∧ acc.length < sizeLine ∧ Nx (upd H4 D (.lst (acc ++ [y]))) else Nx H3) := by
  refine lc_tup (K := K) (a := a) (xs := xs) (fun i H => ∃ acc, Same H1 H ∧ H D = some (.lst acc) ∧ acc.length ≤ i ∧ P i acc H) ⟨[], same_new hD _, upd_same, Nat.le_refl _, mono _ _ _ _ (Keep.of (same_new hD _)) h0⟩ (fun i H _ ⟨acc, e, _⟩ => same_seqT e hx) ?_ (fun H ⟨acc, e, h, hl, p⟩ => hd acc H e h hl p)
  rintro i x H hi ⟨acc, e, h, hl, p⟩
  have hil : i < xs.length := (List.getElem?_eq_some_iff.mp hi).1
  refine hs i x acc H _ _ hi e h p (fun y H4 e4 p4 => ?_) (fun H4 e4 p4 => ⟨acc, e.trans e4, e4 _ _ h, by omega, p4⟩)
  refine ⟨acc, e4 _ _ h, Nat.lt_of_lt_of_le (by omega : acc.length < 100000) (by decide), acc ++ [y], fun b o hb => ?_, upd_same, by rw [List.length_append, List.length_singleton]; omega, mono _ _ _ _ Keep.refl.upd p4⟩
  rw [upd_ne (ne_of_none hb hD)]
  exact e4 _ _ (e b o hb)
/-- each item gives a value by itself, none is left out -/
theorem lc_map {K : PySem.W.Frag} {a : Addr} {xs : List V} {g : TG} {tt : TT} {te : TE} {vs : List Nat} {σ : L2.St} {H1 : Hp} {D : Addr} {Qd : Hp → Prop} (f : V → V) (hx : SqL K H1 a xs) (hD : H1 D = none) (hz : xs.length ≤ 100000)
    (hs : ∀ (i : Nat) (x : V) (H : Hp) (Kc : V → Hp → Prop) (Nc : Hp → Prop), xs[i]? = some x → Same H1 H → (∀ H4, Same H H4 → Kc (f x) H4) →
      g x (wipe σ vs) H fun σ2 H2 => wipe σ2 vs = wipe σ vs ∧ tt σ2 H2 fun b H3 => if b = true then te σ2 H3 Kc else Nc H3)
    (hd : ∀ H, Same H1 H → H D = some (.lst (xs.map f)) → Qd H) :
    ∃ W : Nat → Nat → Hp → Prop, (∃ m, W 0 m (upd H1 D (.lst []))) ∧ ∀ i m H, W i m H →
      ((Itl K a).stop i H ∧ Qd H) ∨ ((Itl K a).go i H ∧ ∃ Nx : Hp → Prop, (∀ H', Nx H' → ∃ m', m' < m ∧ W (i + 1) m' H') ∧ ∀ x H', (Itl K a).yld i H x H' → g x (wipe σ vs) H' fun σ2 H2 => wipe σ2 vs = wipe σ vs ∧ tt σ2 H2 fun b H3 =>
        if b = true then te σ2 H3 fun y H4 => ∃ acc, H4 D = some (.lst acc) ∧ acc.length < sizeLine ∧ Nx (upd H4 D (.lst (acc ++ [y]))) else Nx H3) := by
  refine lc_acc (K := K) (fun i acc _ => acc = (xs.take i).map f) hx hD hz (fun _ _ _ _ _ h => h) rfl (fun i x acc H Kc Nc hi e _ p h1 _ => hs i x H Kc Nc hi e fun H4 e4 => h1 _ H4 e4 ?_) (fun acc H e h _ p => hd H e (by rw [h, p, List.take_length]))
  rw [p]
  have hil : i < xs.length := (List.getElem?_eq_some_iff.mp hi).1
  have ex : xs[i] = x := (List.getElem?_eq_some_iff.mp hi).2
  rw [List.take_succ_eq_append_getElem hil, List.map_append, ex]
  rfl
/-- for i, x in enumerate(a list) -/
theorem for_enumL {K : PySem.W.Frag} {a : Addr} {xs : List V} {g : TG} {tb : TS} {D : Ends} {σ : L2.St} {H : Hp} (Pv : Nat → L2.St → Hp → Prop) (h0 : Pv 0 σ H) (hl : ∀ i σ H, i ≤ xs.length → Pv i σ H → SqL K H a xs)
    (hs : ∀ (i : Nat) (x : V) (T : Addr) (σ : L2.St) (H : Hp), xs[i]? = some x → H T = none → Pv i σ H → g (.ref T) σ (upd H T (.tup [.int (i : Nat), x])) fun σ2 H2 => tb { D with nx := Pv (i + 1), ct := Pv (i + 1), bk := D.nx } σ2 H2) (hd : ∀ σ H, Pv xs.length σ H → D.nx σ H) :
    ∃ W : Nat → Nat → L2.St → Hp → Prop, (∃ m, W 0 m σ H) ∧ ∀ i m σ H, W i m σ H →
      ((Ite K a).stop i H ∧ D.nx σ H) ∨ ((Ite K a).go i H ∧ ∃ N : L2.St → Hp → Prop, (∀ σ' H', N σ' H' → ∃ m', m' < m ∧ W (i + 1) m' σ' H') ∧ ∀ x H', (Ite K a).yld i H x H' → g x σ H' fun σ2 H2 => tb { D with nx := N, ct := N, bk := D.nx } σ2 H2) := by
  refine ⟨fun i m σ H => m = xs.length - i ∧ i ≤ xs.length ∧ Pv i σ H, ⟨_, rfl, Nat.zero_le _, h0⟩, fun i m σ1 H1 h => ?_⟩
  obtain ⟨em, hi, p⟩ := h
  have seq := hl i σ1 H1 hi p
  by_cases lt : i < xs.length
  · refine .inr ⟨⟨xs, xs[i], seq, by simp [lt]⟩, Pv (i + 1), fun σ2 H2 p2 => ⟨xs.length - (i + 1), by omega, rfl, lt, p2⟩, fun v H2 y => ?_⟩
    obtain ⟨T, x, ev, nT, eH, hx⟩ := y
    subst ev eH
    exact hs i x T σ1 H1 (hx xs seq) nT p
  · have e : i = xs.length := by omega
    subst e
    exact .inl ⟨⟨xs, seq, Nat.le_refl _⟩, hd σ1 H1 p⟩
/-- over a range: no item is left out, the value of the i-th is told by R -/
theorem lc_accR {lo : Int} {n : Nat} {g : TG} {tt : TT} {te : TE} {vs : List Nat} {σ : L2.St} {H1 : Hp} {D : Addr} {Qd : Hp → Prop} (P : Nat → List V → Hp → Prop) (hD : H1 D = none) (hz : n ≤ 100000)
    (mono : ∀ i acc H H', Keep D H H' → P i acc H → P i acc H') (h0 : P 0 [] H1)
    (hs : ∀ (i : Nat) (acc : List V) (H : Hp) (Kc : V → Hp → Prop) (Nc : Hp → Prop), i < n → Same H1 H → H D = some (.lst acc) → P i acc H → (∀ y H4, Same H H4 → P (i + 1) (acc ++ [y]) H4 → Kc y H4) → (∀ H4, Same H H4 → P (i + 1) acc H4 → Nc H4) →
      g (.int (lo + i)) (wipe σ vs) H fun σ2 H2 => wipe σ2 vs = wipe σ vs ∧ tt σ2 H2 fun b H3 => if b = true then te σ2 H3 Kc else Nc H3)
    (hd : ∀ acc H, Same H1 H → H D = some (.lst acc) → acc.length ≤ n → P n acc H → Qd H) :
    ∃ W : Nat → Nat → Hp → Prop, (∃ m, W 0 m (upd H1 D (.lst []))) ∧ ∀ i m H, W i m H →
      ((Itr lo n).stop i H ∧ Qd H) ∨ ((Itr lo n).go i H ∧ ∃ Nx : Hp → Prop, (∀ H', Nx H' → ∃ m', m' < m ∧ W (i + 1) m' H') ∧ ∀ x H', (Itr lo n).yld i H x H' → g x (wipe σ vs) H' fun σ2 H2 => wipe σ2 vs = wipe σ vs ∧ tt σ2 H2 fun b H3 =>
        if b = true then te σ2 H3 fun y H4 => ∃ acc, H4 D = some (.lst acc) ∧ acc.length < sizeLine ∧ Nx (upd H4 D (.lst (acc ++ [y]))) else Nx H3) := by
  refine lc_range (lo := lo) (n := n) (fun i H => ∃ acc, Same H1 H ∧ H D = some (.lst acc) ∧ acc.length ≤ i ∧ P i acc H) ⟨[], same_new hD _, upd_same, Nat.le_refl _, mono _ _ _ _ (Keep.of (same_new hD _)) h0⟩ ?_ (fun H ⟨acc, e, h, hl, p⟩ => hd acc H e h hl p)
  rintro i H hi ⟨acc, e, h, hl, p⟩
  refine hs i acc H _ _ hi e h p (fun y H4 e4 p4 => ?_) (fun H4 e4 p4 => ⟨acc, e.trans e4, e4 _ _ h, by omega, p4⟩)
  refine ⟨acc, e4 _ _ h, Nat.lt_of_lt_of_le (by omega : acc.length < 100000) (by decide), acc ++ [y], fun b o hb => ?_, upd_same, by rw [List.length_append, List.length_singleton]; omega, mono _ _ _ _ Keep.refl.upd p4⟩
  rw [upd_ne (ne_of_none hb hD)]
  exact e4 _ _ (e b o hb)
end My


set_option Elab.async false
set_option linter.all false
set_option maxRecDepth 100000
set_option maxHeartbeats 2000000
/-! Exceptions of own classes as values: made, their fields read, asked by isinstance. -/
namespace My
open PySem PySem.Spec PyProof.Rows L2
/-- what stands at a: an exception of the class at C whose fields are fs -/
def ErrAt (H : Hp) (a C : Addr) (fs : List (Str × V)) : Prop := ∃ d, H a = some (exo a C (some d)) ∧ H d = some (exd d fs)
theorem ErrAt.same {H H' : Hp} {a C : Addr} {fs : List (Str × V)} (e : Same H H') (h : ErrAt H a C fs) : ErrAt H' a C fs := by
  obtain ⟨d, h1, h2⟩ := h
  exact ⟨d, e _ _ h1, e _ _ h2⟩
/-- what the written part says of an own exception class -/
structure ErrC (K : PySem.W.Frag) (C : Addr) : Prop where
  ox : OexC K C
  xf : XfC K C
  ec : ExcC K C
/-- C(e, ..) as a value, C's own __init__ keeping sp -/
def tMkV (C : Addr) (sp : Sp) (ta : TA) : TE := fun σ H Q => ta σ H fun vs H1 => vs.length ≤ 1000 ∧ ∀ a, H1 a = none → sp (.ref a :: vs) (upd H1 a (exo a C none)) (fun v H2 => v = .non ∧ Q (.ref a) H2) (fun _ _ _ => False)
section
variable {X : Cx} {e : Expr} {es : List Expr} {te : TE} {ta : TA} {p pos : Pos}
theorem run_err {pins : List (Addr × Obj)} {σ : L2.St} {H1 : Hp} {s1 : Shared} {Q : VK} {us : List Value} {vs : List V} {C fI : Addr} {k : Nat} {fd : FuncData} {ps : List Str} {sp : Sp} (T : OexC X.K C) (iC : PySem.W.findIn X.K (.ref C) "__init__" = some (some (.ref fI)))
    (tI : PySem.W.typeIn X.K (.ref fI) = some (.type "function")) (F1 : FnOk X.prog X.w X.K X.mg X.base CX0 k fI fd ps sp) (hr : Room (k + 1) X.A) (hb : Binds X.K fd ps []) (I1 : Inv X pins σ H1 s1) (r1 : Vals vs us) (hz : vs.length ≤ 1000)
    (q1 : ∀ a, H1 a = none → sp (.ref a :: vs) (upd H1 a (exo a C none)) (fun v H2 => v = .non ∧ Q (.ref a) H2) (fun _ _ _ => False)) :
    wpAny (model X.prog X.w) X.A (call (.ref C) us) (EP X pins σ Q) X.xe s1 := by
  obtain ⟨nm, q, N, bs, bm, sn, sub, ab, col, dd, k0, k1, k2, k3, k5, hC, hbm⟩ := T.cls
  obtain ⟨hp, g, dr, tk, os⟩ := s1
  have up1 : hp.objs.size ≤ hp.objs.size + 1 := Nat.le_succ _
  have free1 : H1 (hp.objs.size + 1) = none := I1.hok.fresh up1
  have want := q1 _ free1
  have stay : ∀ b o, hp.get? b = some o → ((hp.push (PySem.W.kdv_tup us)).push (PySem.HandSPX.excO C hp.objs.size)).get? b = some o := fun b o e => Heap.get?_push_of_some _ (Heap.get?_push_of_some _ e)
  have there : ((hp.push (PySem.W.kdv_tup us)).push (PySem.HandSPX.excO C hp.objs.size)).get? (hp.objs.size + 1) = some (PySem.HandSPX.excO C hp.objs.size) := by heap_get
  have I2 : Inv X pins σ (upd H1 (hp.objs.size + 1) (exo (hp.objs.size + 1) C none)) ⟨(hp.push (PySem.W.kdv_tup us)).push (PySem.HandSPX.excO C hp.objs.size), g, dr, tk, os⟩ := I1.laid (t' := tk) stay up1 (exo_ok there)
  have r2 : Vals (V.ref (hp.objs.size + 1) :: vs) (Value.ref (hp.objs.size + 1) :: us) := .cons rfl r1
  have many : (Value.ref (hp.objs.size + 1) :: us).length = ps.length := by rw [← r2.length, F1.len _ _ _ _ want]
  have few : us.length ≤ sizeLine := by
    rw [← Paired.length r1]
    exact Nat.le_trans hz (by decide)
  have hb2 := hb _ (Value.ref (hp.objs.size + 1) :: us) I2.kIn (by rw [List.append_nil]; exact many)
  rw [List.append_nil] at hb2
  refine wpAny_call (PySem.HandSPX.call_own F.excBase_ValueError (fun Y => PySem.HandSPX.refsVE_contains Y bm hbm) (I1.kIn _ _ hC) (PySem.W.looks_findIn I1.kIn iC) (fun self => PySem.W.bind_fn I1.kIn self tI) few ?_)
  refine codeAny_mono (F1.run _ X.stack _ _ ⟨Value.ref (hp.objs.size + 1) :: us, []⟩ _ _ _ (fun _ _ _ => False) (hr.make C us []) (I2.env0.make C us []) hb2 r2 want) fun r s' back => ?_
  cases r with
  | error er => exact False.elim back
  | ok fl =>
    cases fl with
    | ret u =>
      obtain ⟨v, H2, J, rv, ev, q3⟩ := I2.after back
      subst ev
      exact ⟨rv, V.ref (hp.objs.size + 1), H2, J, rfl, q3⟩
    | next => exact False.elim back
    | brk => exact False.elim back
    | cont => exact False.elim back
theorem pe_err {x : Str} {C fI : Addr} {k j : Nat} {fd : FuncData} {ps : List Str} {sp : Sp} (T : OexC X.K C) (iC : PySem.W.findIn X.K (.ref C) "__init__" = some (some (.ref fI))) (tI : PySem.W.typeIn X.K (.ref fI) = some (.type "function"))
    (F1 : FnOk X.prog X.w X.K X.mg X.base CX0 k fI fd ps sp) (hr : Room j X.A) (hj : k + 1 ≤ j) (hb : Binds X.K fd ps []) (hg : Gl X x) (hm : X.mg x = some (.ref C)) (ha : PA X (e :: es) ta)
    (hdb : (x == ("__debug__" : Str)) = false := by decide) (he : starEach (e :: es) X.env = (false, eval e X.env) :: starEach es X.env := by rfl) (hpl : (backTo pos (starEach es X.env)).any (·.1) = false := by rfl) :
    PE X (.Call (.Name x p) (e :: es) [] pos) (tMkV C sp ta) := by
  refine ⟨fun pins s σ H Q I h => ?_⟩
  refine wpAny_Call_Name_kw (ld_glob I hg hm ?_ hdb)
  refine PySem.W.callWith_K (h₀ := X.base) I.ok.mod.kin T.kC (thn (ha.run pos pins s σ H _ I h) fun us s1 ⟨vs, H1, I1, r1, hz, q1⟩ => ⟨I1.kIn, ?_⟩) he hpl
  exact run_err T iC tI F1 (hr.mono hj) hb I1 r1 hz q1
/-- e.n of such a value -/
def tErrF (K : PySem.W.Frag) (n : Str) (te : TE) : TE := fun σ H Q => te σ H fun x H1 => ∃ (a C : Addr) (fs : List (Str × V)) (v : V), x = .ref a ∧ ErrAt H1 a C fs ∧ XfC K C ∧ PySem.W.findIn K (.ref C) n = some none ∧ fs.lookup n = some v ∧ Q v H1
theorem errAt_inst {pins : List (Addr × Obj)} {σ : L2.St} {H : Hp} {s : Shared} {a C : Addr} {fs : List (Str × V)} (I : Inv X pins σ H s) (h : ErrAt H a C fs) :
    ∃ (oe od : Obj) (mA : Str → Option Value), PySem.W.InstAt s.heap a oe C (some od) ∧ (∀ n, PySem.W.lookIn n od = some (mA n)) ∧ ∀ f, RelO (fs.lookup f) (mA f) := by
  obtain ⟨d, ha, hd⟩ := h
  obtain ⟨t1, ho⟩ := exo_at I.hok ha
  obtain ⟨mA, hns, rel⟩ := exd_at I.hok hd
  obtain ⟨od, hod, hl⟩ := lookIn_ns hns
  exact ⟨_, od, mA, ⟨ho, rfl, rfl, hod⟩, hl, rel⟩
theorem pe_errF {n : Str} (he : PE X e te) (hb : attributeBase e n X.env (eval e X.env) = eval e X.env := by rfl) : PE X (.Attribute e n pos) (tErrF X.K n te) := by
  refine ⟨fun pins s σ H Q I h => ?_⟩
  refine attr_of hb (thn (he.run pins s σ H _ I h) fun u s1 ⟨x, H1, I1, rx, a, C, fs, v, ex, ea, T, hno, l, q⟩ => ?_)
  subst ex
  obtain rfl : u = Value.ref a := rx
  obtain ⟨oe, od, mA, J, hl, rel⟩ := errAt_inst I1 ea
  obtain ⟨u, hu, ru⟩ := RelO.some_of (v := v) (o := mA n) (by rw [← l]; exact rel n)
  exact HandSPX.exc_get I1.kIn J T.ga T.gg T.exC (PySem.W.findObj_own T.hdC hno rfl (by rw [hl, hu])) (handed_of ru) ⟨v, H1, I1.tok _, ru, q⟩
/-- an exception of the class at C: with fields, or of a class without an __init__ of its own -/
def ErrO (H : Hp) (a C : Addr) : Prop := (∃ fs, ErrAt H a C fs) ∨ H a = some (ExO (.ref C) a)
theorem ErrO.same {H H' : Hp} {a C : Addr} (e : Same H H') (h : ErrO H a C) : ErrO H' a C := by
  rcases h with ⟨fs, h⟩ | h
  · exact .inl ⟨fs, h.same e⟩
  · exact .inr (e _ _ h)
theorem errO_inst {pins : List (Addr × Obj)} {σ : L2.St} {H : Hp} {s : Shared} {a C : Addr} (I : Inv X pins σ H s) (h : ErrO H a C) : ∃ (oe : Obj) (od : Option Obj), PySem.W.InstAt s.heap a oe C od := by
  rcases h with ⟨fs, h⟩ | h
  · obtain ⟨oe, od, _, J, _⟩ := errAt_inst I h
    exact ⟨oe, some od, J⟩
  · obtain ⟨⟨oe, vs, ho, hz, hd, _⟩, _, _⟩ := I.hok a _ h
    obtain ⟨oc, odc, oda, osl⟩ := oe
    obtain ⟨h1, h2⟩ := hz
    dsimp only at h1 h2 hd
    subst h1 h2 hd
    exact ⟨_, none, ho, rfl, rfl, trivial⟩
/-- isinstance(e, c), isinstance(e, (c, ..)) -/
def rIsV (K : PySem.W.Frag) : List V → Hp → VK → Prop := fun xs H Q => ∃ (a C : Addr) (c : V) (cv : Value) (b : Bool), xs = [.ref a, c] ∧ ErrO H a C ∧ ExcC K C ∧ ClsV c cv ∧ PySem.W.kitOne K (.ref C) cv = some b ∧ Q (.bl b) H
def rIsVT (K : PySem.W.Frag) : List V → Hp → VK → Prop := fun xs H Q => ∃ (a C tp : Addr) (cs : List V) (us : List Value) (b : Bool), xs = [.ref a, .ref tp] ∧ ErrO H a C ∧ ExcC K C ∧ H tp = some (.tup cs) ∧ Paired ClsV cs us ∧ PySem.W.kitAny K (.ref C) us = some b ∧ Q (.bl b) H
theorem err_kit {K : PySem.W.Frag} {a C : Addr} {od : Option Obj} {oe : Obj} (T : ExcC K C) : PySem.W.KitX K (.ref a) (.ref C) (fun h => PySem.W.InstAt h a oe C od) := by
  obtain ⟨cd, hc, _⟩ := PySem.W.any_some T.hd
  exact PySem.W.kitx_exc (by rw [hc]; rfl) T.hg T.hk T.hs T.ha T.hn T.ht T.hm
theorem call_isV : CallR X (.builtin "isinstance") (rIsV X.K) := by
  intro pins s σ H xs us Q I r h
  obtain ⟨a, C, c, cv, b, rfl, ea, T, hc, e, q⟩ := h
  obtain ⟨u1, u2, rfl, r1, r2⟩ := vals2 r
  cases r1
  have ec := hc.eq r2
  subst ec
  obtain ⟨oe, od, J⟩ := errO_inst I ea
  exact PySem.W.kia_one (err_kit T) I.kIn J e (fun z => nomatch z) fun tk => ⟨.bl b, H, I.tok tk, rfl, q⟩
theorem call_isVT : CallR X (.builtin "isinstance") (rIsVT X.K) := by
  intro pins s σ H xs us Q I r h
  obtain ⟨a, C, tp, cs, ws, b, rfl, ea, T, hT, k, e, q⟩ := h
  obtain ⟨u1, u2, rfl, r1, r2⟩ := vals2 r
  cases r1
  cases (show u2 = Value.ref tp from r2)
  obtain ⟨oe, od, J⟩ := errO_inst I ea
  obtain ⟨_, its, rv, o, h1, h2, n, h3⟩ := (show ObjOk X.prog X.w H s.heap tp (.tup cs) from I.hok tp _ hT)
  have e3 := ClsV.all k rv
  subst e3
  obtain ⟨oc, od', dt, sl⟩ := o
  simp only at h2 h3
  subst h2 h3
  exact PySem.W.kia_tup (err_kit T) I.kIn J h1 e (fun z => nomatch z) fun tk => ⟨.bl b, H, I.tok tk, rfl, q⟩
/-- C() of a class without an __init__ of its own -/
theorem pe_err0 {x : Str} {C : Addr} {bmB : List Value} {B newId initId : String} (F : ExcBaseFacts B newId initId bmB) (q : PySem.W.excIn X.K C bmB newId = true) (gC : X.mg x = some (.ref C)) (kC : PySem.W.keepIn X.K (.ref C) = true) (hg : Gl X x)
    (hdb : (x == ("__debug__" : Str)) = false := by decide) : PE X (.Call (.Name x p) [] [] pos) (fun _ H Q => ∀ a, H a = none → Q (.ref a) (upd H a (ExO (.ref C) a))) := by
  refine ⟨fun pins s σ H Q I h => ?_⟩
  refine wpAny_Call_Name_kw (ld_glob I hg gC ?_ hdb)
  refine PySem.W.callWith_K0 I.kIn kC ?_
  obtain ⟨bm, N, nm, qn, bs, hdct, sn, sub, ab, col, dd, k0, k1, k2, k3, k5, mN, hC, hN, hni, T⟩ := exc_obj I.kIn q
  refine wpAny_call_exc_subT F T hC hN hni (fun h' a hm => ?_) (by show 0 ≤ sizeLine; exact Nat.zero_le _)
  have free : H a = none := I.hok.gone hm.new
  obtain ⟨t, ht, _, _⟩ := hm.there
  exact ⟨.ref a, upd H a (ExO (.ref C) a), I.laidN hm.keeps hm.new free (exO_ok ht ⟨rfl, rfl⟩ rfl rfl rfl (show 4 < 6 by decide)), rfl, h a free⟩
/-- a != b of two lists of the very same things: False -/
def Selfy (v : V) : Prop := flatB v = true ∨ ∃ r, v = .ref r
def rNeS (K : PySem.W.Frag) : R2 := fun x y H Q => ∃ (a b : Addr) (vs : List V), x = .ref a ∧ y = .ref b ∧ SqL K H a vs ∧ SqL K H b vs ∧ (∀ v ∈ vs, Selfy v) ∧ Q (.bl false) H
theorem selfy_eq {A : Around} {s : Shared} {v : V} {u u' : Value} (h : Selfy v) (r : RelV v u) (r' : RelV v u') : SeqAt.EqAt A s u u' true := by
  rcases h with h | ⟨a, rfl⟩
  · exact eqAt_same r r' h
  · cases r
    cases r'
    exact SeqAt.EqAt.same _
theorem op_neS (hu : X.A.units + 64 < cLine) : OpR X (compareOp .NotEq) (rNeS X.K) := by
  intro pins s σ H x y v u Q I rx ry h
  obtain ⟨a, b, vs, rfl, rfl, ha, hb, hs, q⟩ := h
  cases rx
  cases ry
  obtain ⟨us, r1, p1, _⟩ := I.list ha
  obtain ⟨ws, r2, p2, _⟩ := I.list hb
  have size : us.toArray.size = ws.toArray.size := by
    rw [List.size_toArray, List.size_toArray, ← r1.length, ← r2.length]
  have each : ∀ j (j1 : j < us.toArray.size) (j2 : j < ws.toArray.size), SeqAt.EqAt X.A.in1 s us.toArray[j] ws.toArray[j] ((fun _ => true) j) := fun j j1 j2 => by
    have j0 : j < vs.length := by
      rw [r1.length]
      exact j1
    obtain ⟨u1, e1, k1⟩ := r1.get (i := j) (x := vs[j]) (by simp [j0])
    obtain ⟨u2, e2, k2⟩ := r2.get (i := j) (x := vs[j]) (by simp [j0])
    have f1 : us.toArray[j] = u1 := by
      have z := (List.getElem?_eq_some_iff.mp e1).2
      simpa using z
    have f2 : ws.toArray[j] = u2 := by
      have z := (List.getElem?_eq_some_iff.mp e2).2
      simpa using z
    rw [f1, f2]
    exact selfy_eq (hs _ (List.getElem_mem j0)) k1 k2
  have R := SeqAt.RcNeAt.lists (A := X.A) p1.isList p2.isList size (by omega) each
  have all1 : ((List.range us.toArray.size).all fun _ => true) = true := List.all_eq_true.mpr fun _ _ => rfl
  rw [all1] at R
  exact R X.prog X.w X.xe _ ⟨.bl false, H, I, rfl, q⟩
end
end My


set_option Elab.async false
set_option linter.all false
set_option maxRecDepth 100000
set_option maxHeartbeats 4000000
namespace My
open PySem PySem.HandSPX Builtin Builtin.ObjectAttr
section
variable {M : Model} {prog : Program} {w : World} {A : Around} {E : Value → Shared → Prop} {h : Heap} {g : Array GenState} {d : Drawn} {t : Nat} {os : OsState} {nm q : Str} {C N : Addr} {bs bm bmB : List Value} {hdct : Bool} {sn : List Str} {sub : List Value} {ab : Bool} {col : Option Bool} {dd : Option Addr}
  {k0 k1 k2 k3 k5 : Option Value} {B newId initId : String} {kw : List (Str × Value)}
theorem kw_check (F : ExcBaseFacts B newId initId bmB) (hT : ∀ X : String, bm.contains (.type X) = bmB.contains (.type X)) {Q : Unit → Shared → Prop}
    (hC : h.get? C = some (excClassObj nm q C N bs bm hdct sn sub ab col dd k0 k1 k2 k3 k5 newId)) (want : Q () ⟨h, g, d, t, os⟩) : wpAny M A (checkBuiltinCall newId ⟨[.ref C], kw⟩) Q E ⟨h, g, d, t, os⟩ := by
  have below : (Value.ref C :: bm).contains (.type B) = true := by
    rw [List.contains_cons, hT, F.hasB, Bool.or_true]
  have star := F.noStar
  simp only [checkBuiltinCall, F.newKind, F.newSplit, F.newRow]
  repeat (first
    | refine wpAny_loadPart_at hC ?_
    | (refine wpAny_isSubtype_exc hC ?_
       rw [below])
    | refine wpAny_staticBase_exc hC ?_
    | refine wpAny_madeBy_exc hC ?_
    | simp only [bne_self_eq_false, Bool.false_eq_true, if_false]
    | wp_step)
  exact want
theorem kw_new (F : ExcBaseFacts B newId initId bmB) (hT : ∀ X : String, bm.contains (.type X) = bmB.contains (.type X)) {R : Result → Shared → Prop} (hC : h.get? C = some (excClassObj nm q C N bs bm hdct sn sub ab col dd k0 k1 k2 k3 k5 newId))
    (want : R (.ok (.ret (.ref (h.objs.size + 1)))) ⟨(h.push (W.kdv_tup [])).push (excO C h.objs.size), g, d, t, os⟩) : codeAny (model prog w) A (.builtin newId ⟨[.ref C], kw⟩) R ⟨h, g, d, t, os⟩ := by
  have ends := F.ends
  have inB : (Value.ref C :: bm).contains (.type B) = true := by
    rw [List.contains_cons, hT, F.hasB, Bool.or_true]
  have notA : (Value.ref C :: bm).contains (.type "AttributeError") = false := by
    rw [List.contains_cons, hT, F.noAttr] <;> rfl
  have notN : (Value.ref C :: bm).contains (.type "NameError") = false := by
    rw [List.contains_cons, hT, F.noName] <;> rfl
  refine codeAny_builtinAt F.entry ?_
  unfold Builtin.«BaseException.__new__»
  refine wpAt_bind ?_
  show wpAt _ _ _ (stack >>= _) _ _ _
  refine wpAt_bind (wpAt_stack fun top under => wpAt_of_wpAny ?_)
  wp_walk
  refine wpAt_of_wpAny ?_
  rw [F.owner]
  repeat (first
    | with_reducible refine wpAny_madeHere_exc F.canon hC ?_
    | with_reducible refine wpAny_loadPart_at hC ?_
    | (with_reducible refine wpAny_isSubtype_exc hC ?_
       first | rw [inB] | rw [notA] | rw [notN])
    | wp_step)
  show R _ _
  rw [Heap.size_push]
  exact want
theorem kw_type_call (F : ExcBaseFacts B newId initId bmB) (hT : ∀ X : String, bm.contains (.type X) = bmB.contains (.type X)) {fI : Addr} {Q : Fin → Shared → Prop} (hC : h.get? C = some (excClassObj nm q C N bs bm hdct sn sub ab col dd k0 k1 k2 k3 k5 newId))
    (looks : W.Looks (model prog w) h (typeLookup (.ref C) "__init__") (some (.ref fI))) (bind : ∀ self, W.Looks (model prog w) h (bindSpecial (.ref fI) self) (.ref fI, [self]))
    (want : codeAny (model prog w) A (.call (.ref fI) ⟨[.ref (h.objs.size + 1)], kw⟩) (fun r s' => match r with | .ok (.ret v) => v = .none ∧ Q (.done (.ret (.ref (h.objs.size + 1)))) s' | .ok _ => False | .error e => E e s')
      ⟨(h.push (W.kdv_tup [])).push (excO C h.objs.size), g, d, t, os⟩) : wpAny (model prog w) A (Builtin.«type.__call__» ⟨[.ref C], kw⟩) Q E ⟨h, g, d, t, os⟩ := by
  repeat (first
    | with_reducible refine wpAny_loadPart_at hC ?_
    | with_reducible refine wpAny_madeBy_exc hC ?_
    | wp_step)
  refine codeAny_call_builtin_code (Code.quiet_builtin _ F.quiet) (kw_check F hT hC ?_)
  refine kw_new F hT hC ?_
  show wpAny _ _ _ _ _ _
  have stay : ∀ b o, h.get? b = some o → ((h.push (W.kdv_tup [])).push (excO C h.objs.size)).get? b = some o := fun b o e => Heap.get?_push_of_some _ (Heap.get?_push_of_some _ e)
  have cls1 := stay _ _ hC
  have made : ((h.push (W.kdv_tup [])).push (excO C h.objs.size)).get? (h.objs.size + 1) = some (excO C h.objs.size) := by heap_get
  have self0 : (Value.ref C :: bm).contains (.ref C) = true := by simp
  have looks1 := looks.keeps stay
  have bind1 := (bind (.ref (h.objs.size + 1))).keeps stay
  unfold isInstance
  repeat (first
    | with_reducible refine wpAny_loadPart_at made ?_
    | (with_reducible refine wpAny_isSubtype_exc cls1 ?_
       rw [self0])
    | wp_step)
  show wpAny _ _ (typeLookup (.ref C) _) _ _ _
  refine looks1.at ?_
  refine wpAny_holding (wpAny_bind (bind1.at ?_))
  refine wpAny_bind (wpAny_call (codeAny_mono want fun r s' z => ?_))
  cases r with
  | error e => exact z
  | ok fl =>
    cases fl with
    | ret v =>
      obtain ⟨ev, z⟩ := z
      subst ev
      first
        | exact wpAny_pure (wpAny_pure z)
        | (wp_walk
           exact z)
    | next => exact z.elim
    | brk => exact z.elim
    | cont => exact z.elim
theorem kw_call (F : ExcBaseFacts B newId initId bmB) (hT : ∀ X : String, bm.contains (.type X) = bmB.contains (.type X)) {fI : Addr} {R : Result → Shared → Prop} (hC : h.get? C = some (excClassObj nm q C N bs bm hdct sn sub ab col dd k0 k1 k2 k3 k5 newId))
    (looks : W.Looks (model prog w) h (typeLookup (.ref C) "__init__") (some (.ref fI))) (bind : ∀ self, W.Looks (model prog w) h (bindSpecial (.ref fI) self) (.ref fI, [self]))
    (want : codeAny (model prog w) (A.under (.builtin "type.__call__" ⟨[.ref C], kw⟩)) (.call (.ref fI) ⟨[.ref (h.objs.size + 1)], kw⟩) (W.InitBack (h.objs.size + 1) R) ⟨(h.push (W.kdv_tup [])).push (excO C h.objs.size), g, d, t, os⟩) :
    codeAny (model prog w) A (.call (.ref C) ⟨[], kw⟩) R ⟨h, g, d, t, os⟩ := by
  have look := tc_lookup
  have bound := tc_bind (.ref C)
  have meta0 : (⟨h, g, d, t, os⟩ : Shared).TypeIs (.ref C) "type" := ⟨_, hC, rfl⟩
  refine codeAny_of_tree ?_
  show wpAny _ _ (callAny (.ref C) _) _ _ _
  repeat (any_goals (first
    | assumption
    | with_reducible refine wpAny_loadPart_at hC ?_
    | wp_step))
  refine ⟨rfl, ?_⟩
  refine codeAny_call_builtin_at (Code.quiet_builtin _ (by decide +kernel)) entry_typeCall (wpAny_check_type_call_sub hC (kw_type_call F hT hC looks bind ?_))
  refine codeAny_mono want fun r s' z => ?_
  cases r with
  | error e => exact z
  | ok fl => cases fl <;> exact z
end
end My
namespace My
open PySem PySem.Spec PyProof.Rows L2
/-- C(k = v, ..) as a value, C's own __init__ keeping sp -/
def tMkVK (C : Addr) (m : Nat) (sp : Sp) (gV : List V → List V → List V) (tk : TA) : TE := fun σ H Q => tk σ H fun zs H2 => zs.length = m ∧ zs.length ≤ 1000 ∧ ∀ a, H2 a = none → sp (gV [.ref a] zs) (upd H2 a (exo a C none)) (fun v H3 => v = .non ∧ Q (.ref a) H3) (fun _ _ _ => False)
section
variable {X : Cx} {kws : List Keyword} {tk : TA} {p pos : Pos} {ks : List Str} {g : List Value → List Value → List Value} {gV : List V → List V → List V}
theorem run_errK {pins : List (Addr × Obj)} {σ : L2.St} {H2 : Hp} {s2 : Shared} {Q : VK} {ws : List Value} {zs : List V} {C fI : Addr} {k : Nat} {fd : FuncData} {ps : List Str} {sp : Sp} (T : OexC X.K C) (iC : PySem.W.findIn X.K (.ref C) "__init__" = some (some (.ref fI))) (tI : PySem.W.typeIn X.K (.ref fI) = some (.type "function"))
    (F1 : FnOk X.prog X.w X.K X.mg X.base CX0 k fI fd ps sp) (hr : Room (k + 1) X.A) (hb : KBn X.K fd ps 1 ks g gV) (I2 : Inv X pins σ H2 s2) (rz : Vals zs ws) (l2 : zs.length = ks.length)
    (q2 : ∀ a, H2 a = none → sp (gV [.ref a] zs) (upd H2 a (exo a C none)) (fun v H3 => v = .non ∧ Q (.ref a) H3) (fun _ _ _ => False)) : wpAny (model X.prog X.w) X.A (call (.ref C) [] (ks.zip ws)) (EP X pins σ Q) X.xe s2 := by
  obtain ⟨nm, q, N, bs, bm, sn, sub, ab, col, dd, k0, k1, k2, k3, k5, hC, hbm⟩ := T.cls
  obtain ⟨hp, g0, dr, t, os⟩ := s2
  have up1 : hp.objs.size ≤ hp.objs.size + 1 := Nat.le_succ _
  have free1 : H2 (hp.objs.size + 1) = none := I2.hok.fresh up1
  have want := q2 _ free1
  have stay : ∀ b o, hp.get? b = some o → ((hp.push (PySem.W.kdv_tup [])).push (PySem.HandSPX.excO C hp.objs.size)).get? b = some o := fun b o e => Heap.get?_push_of_some _ (Heap.get?_push_of_some _ e)
  have there : ((hp.push (PySem.W.kdv_tup [])).push (PySem.HandSPX.excO C hp.objs.size)).get? (hp.objs.size + 1) = some (PySem.HandSPX.excO C hp.objs.size) := by heap_get
  have J : Inv X pins σ (upd H2 (hp.objs.size + 1) (exo (hp.objs.size + 1) C none)) ⟨(hp.push (PySem.W.kdv_tup [])).push (PySem.HandSPX.excO C hp.objs.size), g0, dr, t, os⟩ := I2.laid (t' := t) stay up1 (exo_ok there)
  have r1 : Vals [V.ref (hp.objs.size + 1)] [Value.ref (hp.objs.size + 1)] := .cons rfl .nil
  have r2 := hb.rel r1 rz
  refine wpAny_call (kw_call F.excBase_ValueError (fun Y => PySem.HandSPX.refsVE_contains Y bm hbm) (I2.kIn _ _ hC) (PySem.W.looks_findIn I2.kIn iC) (fun self => PySem.W.bind_fn I2.kIn self tI) ?_)
  refine codeAny_mono (F1.run _ X.stack _ _ ⟨[Value.ref (hp.objs.size + 1)], ks.zip ws⟩ _ _ _ (fun _ _ _ => False) (hr.make C [] (ks.zip ws)) (J.env0.make C [] (ks.zip ws)) (hb.to _ [Value.ref (hp.objs.size + 1)] ws J.kIn rfl (rz.length.symm.trans l2)) r2 want) fun r s' back => ?_
  cases r with
  | error er => exact False.elim back
  | ok fl =>
    cases fl with
    | ret u =>
      obtain ⟨v, H3, J3, rv, ev, q3⟩ := J.after back
      subst ev
      exact ⟨rv, V.ref (hp.objs.size + 1), H3, J3, rfl, q3⟩
    | next => exact False.elim back
    | brk => exact False.elim back
    | cont => exact False.elim back
theorem pe_errK {x : Str} {C fI : Addr} {k j : Nat} {fd : FuncData} {ps : List Str} {sp : Sp} (T : OexC X.K C) (iC : PySem.W.findIn X.K (.ref C) "__init__" = some (some (.ref fI))) (tI : PySem.W.typeIn X.K (.ref fI) = some (.type "function"))
    (F1 : FnOk X.prog X.w X.K X.mg X.base CX0 k fI fd ps sp) (hr : Room j X.A) (hj : k + 1 ≤ j) (hb : KBn X.K fd ps 1 ks g gV) (hg : Gl X x) (hm : X.mg x = some (.ref C)) (hkw : PK X kws tk)
    (hall : (backToKw pos (keywordEach kws X.env)).all (·.1.isSome) = true := by rfl) (hks : (backToKw pos (keywordEach kws X.env)).filterMap (·.1) = ks := by rfl) (hdb : (x == ("__debug__" : Str)) = false := by decide)
    (hpl : ((backTo pos (starEach [] X.env)).any (·.1) || (backToKw pos (keywordEach kws X.env)).any (·.1.isNone)) = false := by rfl) : PE X (.Call (.Name x p) [] kws pos) (tMkVK C ks.length sp gV tk) := by
  refine ⟨fun pins s σ H Q I h => ?_⟩
  refine wpAny_Call_Name_kw (ld_glob I hg hm ?_ hdb)
  refine PySem.W.callWith_KW0 (h₀ := X.base) I.ok.mod.kin T.kC hall ?_ hpl
  refine thn (hkw.run pos pins s σ H _ I h) fun ws s2 ⟨zs, H2, I2, rz, l2, hz, q2⟩ => ⟨I2.kIn, ?_⟩
  rw [hks]
  exact run_errK T iC tI F1 (hr.mono hj) hb I2 rz l2 q2
end
end My


set_option Elab.async false
set_option linter.all false
set_option maxRecDepth 100000
set_option maxHeartbeats 2000000
/-! Own error classes: how they are made, of one field or two. -/
namespace My
open PySem PySem.Spec PyProof.Rows L2
/-- self.n = n in an __init__ of one field -/
def spInit1 (K : PySem.W.Frag) (n : Str) : Sp := fun vs H Q _ => ∃ (a C : Addr) (y : V), vs = [.ref a, y] ∧ OexC K C ∧ PySem.W.findIn K (.ref C) n = some none ∧ H a = some (exo a C none) ∧
  ∀ d, H d = none → d ≠ a → Q .non (upd (upd H d (exd d [(n, y)])) a (exo a C (some d)))
def spInit2 (K : PySem.W.Frag) (n m : Str) : Sp := fun vs H Q _ => ∃ (a C : Addr) (y z : V), vs = [.ref a, y, z] ∧ OexC K C ∧ PySem.W.findIn K (.ref C) n = some none ∧ PySem.W.findIn K (.ref C) m = some none ∧ H a = some (exo a C none) ∧
  ∀ d, H d = none → d ≠ a → Q .non (upd (upd (upd H d (exd d [(n, y)])) a (exo a C (some d))) d (exd d [(m, z), (n, y)]))
structure Mk1 (P : Program) (w : World) (K : PySem.W.Frag) (mg : Str → Option Value) (base : Heap) (k : Nat) (x : Str) (C : Addr) (n : Str) : Prop where
  ex : ∃ (fI : Addr) (fd : FuncData), PySem.W.findIn K (.ref C) "__init__" = some (some (.ref fI)) ∧ PySem.W.typeIn K (.ref fI) = some (.type "function") ∧ FnOk P w K mg base CX0 k fI fd ["self", n] (spInit1 K n) ∧ Binds K fd ["self", n] [] ∧
    KBn K fd ["self", n] 1 [n] (fun us ws => us ++ ws) (fun us ws => us ++ ws)
  er : ErrC K C
  no : PySem.W.findIn K (.ref C) n = some none
  mgC : mg x = some (.ref C)
structure Mk2 (P : Program) (w : World) (K : PySem.W.Frag) (mg : Str → Option Value) (base : Heap) (k : Nat) (x : Str) (C : Addr) (n m : Str) : Prop where
  ex : ∃ (fI : Addr) (fd : FuncData), PySem.W.findIn K (.ref C) "__init__" = some (some (.ref fI)) ∧ PySem.W.typeIn K (.ref fI) = some (.type "function") ∧ FnOk P w K mg base CX0 k fI fd ["self", n, m] (spInit2 K n m) ∧ Binds K fd ["self", n, m] [] ∧
    KBn K fd ["self", n, m] 1 [n, m] (fun us ws => us ++ ws) (fun us ws => us ++ ws) ∧ KBn K fd ["self", n, m] 1 [m, n] (fun us ws => us ++ ws.reverse) (fun us ws => us ++ ws.reverse)
  er : ErrC K C
  no : PySem.W.findIn K (.ref C) n = some none
  no2 : PySem.W.findIn K (.ref C) m = some none
  mgC : mg x = some (.ref C)
def tE1 (C : Addr) (n : Str) (ta : TA) : TE := fun σ H Q => ta σ H fun vs H1 => ∃ y, vs = [y] ∧ ∀ a H2, H1 a = none → Same H1 H2 → ErrAt H2 a C [(n, y)] → Q (.ref a) H2
def tE2 (C : Addr) (n m : Str) (ta : TA) : TE := fun σ H Q => ta σ H fun vs H1 => ∃ y z, vs = [y, z] ∧ ∀ a H2, H1 a = none → Same H1 H2 → ErrAt H2 a C [(m, z), (n, y)] → Q (.ref a) H2
theorem made1 {H1 : Hp} {a C d : Addr} {n : Str} {y : V} (ha : H1 a = none) (hd : (upd H1 a (exo a C none)) d = none) (ne : d ≠ a) : Same H1 (upd (upd (upd H1 a (exo a C none)) d (exd d [(n, y)])) a (exo a C (some d))) ∧ ErrAt (upd (upd (upd H1 a (exo a C none)) d (exd d [(n, y)])) a (exo a C (some d))) a C [(n, y)] := by
  rw [upd_ne ne] at hd
  refine ⟨fun b o h => ?_, d, upd_same, ?_⟩
  · rw [upd_ne (ne_of_none h ha), upd_ne (ne_of_none h hd), upd_ne (ne_of_none h ha)]
    exact h
  · rw [upd_ne ne, upd_same]
theorem made2 {H1 : Hp} {a C d : Addr} {n m : Str} {y z : V} (ha : H1 a = none) (hd : (upd H1 a (exo a C none)) d = none) (ne : d ≠ a) :
    Same H1 (upd (upd (upd (upd H1 a (exo a C none)) d (exd d [(n, y)])) a (exo a C (some d))) d (exd d [(m, z), (n, y)])) ∧ ErrAt (upd (upd (upd (upd H1 a (exo a C none)) d (exd d [(n, y)])) a (exo a C (some d))) d (exd d [(m, z), (n, y)])) a C [(m, z), (n, y)] := by
  rw [upd_ne ne] at hd
  refine ⟨fun b o h => ?_, d, ?_, upd_same⟩
  · rw [upd_ne (ne_of_none h hd), upd_ne (ne_of_none h ha), upd_ne (ne_of_none h hd), upd_ne (ne_of_none h ha)]
    exact h
  · rw [upd_ne (Ne.symm ne), upd_same]
section
variable {X : Cx} {e e2 : Expr} {ta tk : TA} {p pos p1 p2 : Pos} {j k : Nat} {x : Str} {C : Addr} {n m : Str}
theorem pe_e1 (M : Mk1 X.prog X.w X.K X.mg X.base k x C n) (hr : Room j X.A) (hk : k + 1 ≤ j) (hg : Gl X x) (ha : PA X [e] ta) (hdb : (x == ("__debug__" : Str)) = false := by decide)
    (he : starEach [e] X.env = (false, eval e X.env) :: starEach [] X.env := by rfl) (hpl : (backTo pos (starEach [] X.env)).any (·.1) = false := by rfl) : PE X (.Call (.Name x p) [e] [] pos) (tE1 C n ta) := by
  obtain ⟨fI, fd, iC, tI, F, b, _⟩ := M.ex
  refine ⟨fun pins s σ H Q I h => ?_⟩
  refine wpAny_Call_Name_kw (ld_glob I hg M.mgC ?_ hdb)
  refine PySem.W.callWith_K (h₀ := X.base) I.ok.mod.kin M.er.ox.kC (thn (ha.run pos pins s σ H _ I h) fun us s1 ⟨vs, H1, I1, r1, y, ev, q1⟩ => ⟨I1.kIn, ?_⟩) he hpl
  subst ev
  refine run_err M.er.ox iC tI F (hr.mono hk) b I1 r1 (by show 1 ≤ 1000; decide) fun a na => ⟨a, C, y, rfl, M.er.ox, M.no, upd_same, fun d nd ne => ?_⟩
  obtain ⟨z1, z2⟩ := made1 (n := n) (y := y) (C := C) na nd ne
  exact ⟨rfl, q1 a _ na z1 z2⟩
theorem pe_e2 (M : Mk2 X.prog X.w X.K X.mg X.base k x C n m) (hr : Room j X.A) (hk : k + 1 ≤ j) (hg : Gl X x) (ha : PA X [e, e2] ta) (hdb : (x == ("__debug__" : Str)) = false := by decide)
    (he : starEach [e, e2] X.env = (false, eval e X.env) :: starEach [e2] X.env := by rfl) (hpl : (backTo pos (starEach [e2] X.env)).any (·.1) = false := by rfl) : PE X (.Call (.Name x p) [e, e2] [] pos) (tE2 C n m ta) := by
  obtain ⟨fI, fd, iC, tI, F, b, _⟩ := M.ex
  refine ⟨fun pins s σ H Q I h => ?_⟩
  refine wpAny_Call_Name_kw (ld_glob I hg M.mgC ?_ hdb)
  refine PySem.W.callWith_K (h₀ := X.base) I.ok.mod.kin M.er.ox.kC (thn (ha.run pos pins s σ H _ I h) fun us s1 ⟨vs, H1, I1, r1, y, z, ev, q1⟩ => ⟨I1.kIn, ?_⟩) he hpl
  subst ev
  refine run_err M.er.ox iC tI F (hr.mono hk) b I1 r1 (by show 2 ≤ 1000; decide) fun a na => ⟨a, C, y, z, rfl, M.er.ox, M.no, M.no2, upd_same, fun d nd ne => ?_⟩
  obtain ⟨z1, z2⟩ := made2 (n := n) (m := m) (y := y) (z := z) (C := C) na nd ne
  exact ⟨rfl, q1 a _ na z1 z2⟩
theorem pe_e1k (M : Mk1 X.prog X.w X.K X.mg X.base k x C n) (hr : Room j X.A) (hk : k + 1 ≤ j) (hg : Gl X x) (hkw : PK X [⟨some n, e, p1⟩] tk)
    (hall : (backToKw pos (keywordEach [⟨some n, e, p1⟩] X.env)).all (·.1.isSome) = true := by rfl) (hks : (backToKw pos (keywordEach [⟨some n, e, p1⟩] X.env)).filterMap (·.1) = [n] := by rfl) (hdb : (x == ("__debug__" : Str)) = false := by decide)
    (hpl : ((backTo pos (starEach [] X.env)).any (·.1) || (backToKw pos (keywordEach [⟨some n, e, p1⟩] X.env)).any (·.1.isNone)) = false := by rfl) : PE X (.Call (.Name x p) [] [⟨some n, e, p1⟩] pos) (tE1 C n tk) := by
  obtain ⟨fI, fd, iC, tI, F, _, kb⟩ := M.ex
  refine ⟨fun pins s σ H Q I h => ?_⟩
  refine wpAny_Call_Name_kw (ld_glob I hg M.mgC ?_ hdb)
  refine PySem.W.callWith_KW0 (h₀ := X.base) I.ok.mod.kin M.er.ox.kC hall ?_ hpl
  refine thn (hkw.run pos pins s σ H _ I h) fun ws s2 ⟨zs, H2, I2, rz, y, ev, q1⟩ => ⟨I2.kIn, ?_⟩
  rw [hks]
  subst ev
  refine run_errK M.er.ox iC tI F (hr.mono hk) kb I2 rz rfl fun a na => ⟨a, C, y, rfl, M.er.ox, M.no, upd_same, fun d nd ne => ?_⟩
  obtain ⟨z1, z2⟩ := made1 (n := n) (y := y) (C := C) na nd ne
  exact ⟨rfl, q1 a _ na z1 z2⟩
/-- the keywords in the other order -/
def tE2r (C : Addr) (n m : Str) (ta : TA) : TE := fun σ H Q => ta σ H fun vs H1 => ∃ y z, vs = [z, y] ∧ ∀ a H2, H1 a = none → Same H1 H2 → ErrAt H2 a C [(m, z), (n, y)] → Q (.ref a) H2
theorem pe_e2r (M : Mk2 X.prog X.w X.K X.mg X.base k x C n m) (hr : Room j X.A) (hk : k + 1 ≤ j) (hg : Gl X x) (hkw : PK X [⟨some m, e, p1⟩, ⟨some n, e2, p2⟩] tk)
    (hall : (backToKw pos (keywordEach [⟨some m, e, p1⟩, ⟨some n, e2, p2⟩] X.env)).all (·.1.isSome) = true := by rfl) (hks : (backToKw pos (keywordEach [⟨some m, e, p1⟩, ⟨some n, e2, p2⟩] X.env)).filterMap (·.1) = [m, n] := by rfl) (hdb : (x == ("__debug__" : Str)) = false := by decide)
    (hpl : ((backTo pos (starEach [] X.env)).any (·.1) || (backToKw pos (keywordEach [⟨some m, e, p1⟩, ⟨some n, e2, p2⟩] X.env)).any (·.1.isNone)) = false := by rfl) : PE X (.Call (.Name x p) [] [⟨some m, e, p1⟩, ⟨some n, e2, p2⟩] pos) (tE2r C n m tk) := by
  obtain ⟨fI, fd, iC, tI, F, _, _, kb⟩ := M.ex
  refine ⟨fun pins s σ H Q I h => ?_⟩
  refine wpAny_Call_Name_kw (ld_glob I hg M.mgC ?_ hdb)
  refine PySem.W.callWith_KW0 (h₀ := X.base) I.ok.mod.kin M.er.ox.kC hall ?_ hpl
  refine thn (hkw.run pos pins s σ H _ I h) fun ws s2 ⟨zs, H2, I2, rz, y, z, ev, q1⟩ => ⟨I2.kIn, ?_⟩
  rw [hks]
  subst ev
  refine run_errK M.er.ox iC tI F (hr.mono hk) kb I2 rz rfl fun a na => ⟨a, C, y, z, rfl, M.er.ox, M.no, M.no2, upd_same, fun d nd ne => ?_⟩
  obtain ⟨z1, z2⟩ := made2 (n := n) (m := m) (y := y) (z := z) (C := C) na nd ne
  exact ⟨rfl, q1 a _ na z1 z2⟩
end
end My


set_option Elab.async false
set_option linter.all false
set_option maxRecDepth 100000
set_option maxHeartbeats 2000000
namespace My
open PySem PySem.Spec PyProof.Rows L2
theorem tyx_L {K : PySem.W.Frag} {H : Hp} {a : Addr} {xs : List V} (h : SqL K H a xs) : TyX K H (.ref a) (.type "list") := by
  rcases h with (h | ⟨o, h⟩) | ⟨o, its, n, h1, h2, _⟩
  · exact .base (.lst h)
  · exact .base (.frz h)
  · exact .kList h1 h2
theorem tyx_T {K : PySem.W.Frag} {H : Hp} {a : Addr} {xs : List V} (h : SqT K H a xs) : TyX K H (.ref a) (.type "tuple") := by
  rcases h with (h | ⟨o, h⟩) | ⟨o, its, n, h1, h2, _⟩
  · exact .base (.tup h)
  · exact .fTuple h
  · exact .kTuple h1 h2
theorem TyX.same {K : PySem.W.Frag} {H H' : Hp} {v : V} {t : Value} (e : Same H H') (h : TyX K H v t) : TyX K H' v t := by
  cases h with
  | base b =>
    cases b with
    | non => exact .base .non
    | bl x => exact .base (.bl x)
    | int i => exact .base (.int i)
    | str x => exact .base (.str x)
    | flt x => exact .base (.flt x)
    | lst h => exact .base (.lst (e _ _ h))
    | frz h => exact .base (.frz (e _ _ h))
    | tup h => exact .base (.tup (e _ _ h))
    | dK h => exact .base (.dK (e _ _ h))
    | dT h => exact .base (.dT (e _ _ h))
    | ins h cl ha hn htk hm => exact .base (.ins (e _ _ h) cl ha hn htk hm)
  | byt b => exact .byt b
  | set h => exact .set (e _ _ h)
  | kList h c => exact .kList h c
  | kTuple h c => exact .kTuple h c
  | kDict h c => exact .kDict h c
  | fTuple h => exact .fTuple (e _ _ h)
  | fDict h => exact .fDict (e _ _ h)
/-- nested lists and tuples over other things, below this depth -/
def Nest (K : PySem.W.Frag) (H : Hp) : Nat → V → Prop
  | 0 => fun _ => False
  | n + 1 => fun v => (Selfy v ∧ ∃ t, TyX K H v t ∧ PySem.W.kitAny K t [.type "list", .type "tuple"] = some false) ∨
      ∃ a xs, v = .ref a ∧ (SqL K H a xs ∨ SqT K H a xs) ∧ xs.length ≤ 1000 ∧ ∀ x ∈ xs, Nest K H n x
theorem Nest.same {K : PySem.W.Frag} {H H' : Hp} (e : Same H H') : ∀ (n : Nat) {v : V}, Nest K H n v → Nest K H' n v
  | 0, _, h => h
  | n + 1, v, h => by
    rcases h with ⟨s, t, ht, k⟩ | ⟨a, xs, rfl, h, hl, hx⟩
    · exact .inl ⟨s, t, TyX.same e ht, k⟩
    · exact .inr ⟨a, xs, rfl, h.elim (fun h => .inl (e.seq h)) (fun h => .inr (same_seqT e h)), hl, fun x m => Nest.same e n (hx x m)⟩
/-- what fixed gives back, seen from above -/
def Fixed1 (K : PySem.W.Frag) (H H' : Hp) (v v' : V) : Prop := (∃ a xs q ys, v = .ref a ∧ (SqL K H a xs ∨ SqT K H a xs) ∧ v' = .ref q ∧ H' q = some (.tup ys) ∧ ys.length = xs.length ∧ ∀ y ∈ ys, Selfy y) ∨ (v' = v ∧ Selfy v)
theorem Fixed1.selfy {K : PySem.W.Frag} {H H' : Hp} {v v' : V} (h : Fixed1 K H H' v v') : Selfy v' := by
  rcases h with ⟨_, _, q, _, _, _, rfl, _⟩ | ⟨rfl, h⟩
  · exact .inr ⟨q, rfl⟩
  · exact h
def spFixed (K : PySem.W.Frag) (n : Nat) : Sp := fun vs H Q _ => ∃ v, vs = [v] ∧ Nest K H n v ∧ ∀ v' H', Same H H' → Fixed1 K H H' v v' → Q v' H'
theorem kit_lt {K : PySem.W.Frag} : PySem.W.kitAny K (.type "list") [.type "list", .type "tuple"] = some true := kitAny_cons (b := true) (kit_ty (by decide +kernel)) (fun z => nomatch z) (fun _ => rfl)
theorem kit_tt {K : PySem.W.Frag} : PySem.W.kitAny K (.type "tuple") [.type "list", .type "tuple"] = some true := kitAny_cons (b := false) (kit_ty (by decide +kernel)) (fun _ => kitAny_cons (b := true) (kit_ty (by decide +kernel)) (fun z => nomatch z) (fun _ => rfl)) (fun z => nomatch z)
section
variable {X : Cx}
theorem self_each {A : Around} {s : Shared} {vs : List V} {us ws : List Value} (r1 : Vals vs us) (r2 : Vals vs ws) (hs : ∀ v ∈ vs, Selfy v) : ∀ j (j1 : j < us.toArray.size) (j2 : j < ws.toArray.size), SeqAt.EqAt A s us.toArray[j] ws.toArray[j] ((fun _ => true) j) := fun j j1 j2 => by
  have j0 : j < vs.length := by
    rw [r1.length]
    exact j1
  obtain ⟨u1, e1, k1⟩ := r1.get (i := j) (x := vs[j]) (by simp [j0])
  obtain ⟨u2, e2, k2⟩ := r2.get (i := j) (x := vs[j]) (by simp [j0])
  have f1 : us.toArray[j] = u1 := by
    have z := (List.getElem?_eq_some_iff.mp e1).2
    simpa using z
  have f2 : ws.toArray[j] = u2 := by
    have z := (List.getElem?_eq_some_iff.mp e2).2
    simpa using z
  rw [f1, f2]
  exact selfy_eq (hs _ (List.getElem_mem j0)) k1 k2
theorem all_true (n : Nat) : ((List.range n).all fun _ => true) = true := List.all_eq_true.mpr fun _ _ => rfl
/-- == of two lists, of two tuples, that hold the very same things -/
def rEqS (K : PySem.W.Frag) : R2 := fun x y H Q => ∃ (a b : Addr) (vs : List V), x = .ref a ∧ y = .ref b ∧ ((SqL K H a vs ∧ SqL K H b vs) ∨ (SqT K H a vs ∧ SqT K H b vs)) ∧ (∀ v ∈ vs, Selfy v) ∧ Q (.bl true) H
def rNeT (K : PySem.W.Frag) : R2 := fun x y H Q => ∃ (a b : Addr) (vs : List V), x = .ref a ∧ y = .ref b ∧ SqT K H a vs ∧ SqT K H b vs ∧ (∀ v ∈ vs, Selfy v) ∧ Q (.bl false) H
theorem op_eqS (hu : X.A.units + 64 < cLine) : OpR X (compareOp .Eq) (rEqS X.K) := by
  intro pins s σ H x y v u Q I rx ry h
  obtain ⟨a, b, vs, rfl, rfl, h | h, hs, q⟩ := h
  · cases rx
    cases ry
    obtain ⟨us, r1, p1, _⟩ := I.list h.1
    obtain ⟨ws, r2, p2, _⟩ := I.list h.2
    have size : us.toArray.size = ws.toArray.size := by
      rw [List.size_toArray, List.size_toArray, ← r1.length, ← r2.length]
    have R := SeqAt.RcAt.lists (A := X.A) p1.isList p2.isList size (by omega) (self_each r1 r2 hs)
    rw [all_true] at R
    exact R X.prog X.w X.xe _ ⟨.bl true, H, I, rfl, q⟩
  · cases rx
    cases ry
    obtain ⟨us, r1, p1, _⟩ := I.tuple h.1
    obtain ⟨ws, r2, p2, _⟩ := I.tuple h.2
    have size : us.toArray.size = ws.toArray.size := by
      rw [List.size_toArray, List.size_toArray, ← r1.length, ← r2.length]
    have R := SeqAt.RcAt.tuples (A := X.A) p1 p2 (by omega) (self_each r1 r2 hs)
    rw [all_true, size, beq_self_eq_true, Bool.and_true] at R
    exact R X.prog X.w X.xe _ ⟨.bl true, H, I, rfl, q⟩
theorem op_neT (hu : X.A.units + 64 < cLine) : OpR X (compareOp .NotEq) (rNeT X.K) := by
  intro pins s σ H x y v u Q I rx ry h
  obtain ⟨a, b, vs, rfl, rfl, ha, hb, hs, q⟩ := h
  cases rx
  cases ry
  obtain ⟨us, r1, p1, _⟩ := I.tuple ha
  obtain ⟨ws, r2, p2, _⟩ := I.tuple hb
  have size : us.toArray.size = ws.toArray.size := by
    rw [List.size_toArray, List.size_toArray, ← r1.length, ← r2.length]
  have R := SeqAt.RcNeAt.tuples (A := X.A) p1 p2 (by omega) (self_each r1 r2 hs)
  rw [all_true, size, beq_self_eq_true, Bool.and_true] at R
  exact R X.prog X.w X.xe _ ⟨.bl false, H, I, rfl, q⟩
/-! ### a Paper -/
/-- at a a paper of the class at C with this word and these parts -/
def PaperAt (K : PySem.W.Frag) (H : Hp) (a C : Addr) (word : V) (ys : List V) : Prop := ∃ (dx q : Addr), H a = some (.ins C dx [("word", word), ("parts", .ref q)]) ∧ H q = some (.tup ys) ∧ ∀ y ∈ ys, Selfy y
theorem PaperAt.same {K : PySem.W.Frag} {H H' : Hp} {a C : Addr} {word : V} {ys : List V} (e : Same H H') (h : PaperAt K H a C word ys) : PaperAt K H' a C word ys := by
  obtain ⟨dx, q, h1, h2, h3⟩ := h
  exact ⟨dx, q, e _ _ h1, e _ _ h2, h3⟩
/-- a paper equals itself -/
def SelfR (K : PySem.W.Frag) (C : Addr) : Addr → Addr → Hp → Prop := fun a b H => a = b ∧ ∃ (z : Str) (ys : List V), PaperAt K H a C (.str z) ys
/-- what the written part says of the class with an own == -/
structure OwnEq (K : PySem.W.Frag) (C f : Addr) : Prop where
  cls : ∃ nm q N bs sn sub ab col dd k0 k1 k2 k3 k5 newId, K.lookup C = some (excClassObj nm q C N bs [.type "object"] true sn sub ab col dd k0 k1 k2 k3 k5 newId) ∧ PySem.W.nsOkIn K N = true ∧ PySem.W.nsIn K N "__eq__" = some (some (.ref f)) ∧ PySem.W.nsIn K N "__ne__" = some none
  ft : PySem.W.typeIn K (.ref f) = some (.type "function")
  eq : PySem.W.findIn K (.ref C) "__eq__" = some (some (.ref f))
  fn : PySem.W.isFn K (.ref f) = true
theorem ns_at {K : PySem.W.Frag} {h : Heap} {N : Addr} {m : Str → Option Value} {x : Str} {v : Value} (kin : K.In h) (G : h.Ns N m) (e : PySem.W.nsIn K N x = some (some v)) : m x = some v := by
  obtain ⟨o, es, ep, ho, hd, keys, find⟩ := G
  unfold PySem.W.nsIn at e
  split at e
  · rename_i c d es' n' sl hk
    have same := kin _ _ hk
    rw [ho] at same
    have same' := Option.some.inj same
    subst same'
    have ed : Data.dict es' n' = Data.dict es ep := hd
    injection ed with e1 _
    subst e1
    split at e
    · rename_i en he
      rw [← find x, ← Option.some.inj (Option.some.inj e)]
      unfold nsFind findBy
      rw [← Array.find?_toList, he]
      rfl
    · split at e <;> cases e
  · cases e
theorem ns_off {K : PySem.W.Frag} {h : Heap} {N : Addr} {x : Str} (kin : K.In h) (ok : PySem.W.nsOkIn K N = true) (e : PySem.W.nsIn K N x = some none) : h.nsMap N x = none := PySem.W.nsMap_none_of_in kin ok e
theorem own_noNe {pins : List (Addr × Obj)} {σ : L2.St} {H : Hp} {s : Shared} {a C f dx : Addr} {fs : List (Str × V)} (I : Inv X pins σ H s) (O : OwnEq X.K C f) (ha : H a = some (.ins C dx fs)) :
    s.heap.OwnEqNoNe a C f "object" [.type "object"] ∧ ∃ o, s.heap.get? a = some o ∧ o.cls = .ref C := by
  obtain ⟨nm, q, N, bs, sn, sub, ab, col, dd, k0, k1, k2, k3, k5, newId, hC, ok, heq, hne⟩ := O.cls
  obtain ⟨_, _, _, hx, _⟩ := (show ObjOk X.prog X.w H s.heap a (.ins C dx fs) from I.hok a _ ha)
  obtain ⟨of, hof, ef⟩ := Option.map_eq_some_iff.mp (show (X.K.lookup f).map (·.cls) = some (.type "function") from O.ft)
  exact ⟨⟨_, of, nm, q, N, bs, true, sn, sub, ab, col, dd, k0, k1, k2, k3, k5, newId, _, _, hx, rfl, I.kIn _ _ hC, .of_isNs (PySem.W.isNs_of_in I.kIn ok), ns_at I.kIn (.of_isNs (PySem.W.isNs_of_in I.kIn ok)) heq, I.kIn _ _ hof, ef, PySem.F.mro_object, PySem.F.cmp_object.eq.lookup, ns_off I.kIn ok hne⟩, _, hx, rfl⟩
/-- a == a, a != a of a paper -/
def rEqP (K : PySem.W.Frag) (C : Addr) : R2 := fun x y H Q => ∃ (a : Addr) (z : Str) (ys : List V), x = .ref a ∧ y = .ref a ∧ PaperAt K H a C (.str z) ys ∧ ∀ H', Same H H' → Q (.bl true) H'
def rNeP (K : PySem.W.Frag) (C : Addr) : R2 := fun x y H Q => ∃ (a : Addr) (z : Str) (ys : List V), x = .ref a ∧ y = .ref a ∧ PaperAt K H a C (.str z) ys ∧ ∀ H', Same H H' → Q (.bl false) H'
theorem op_eqP {C f : Addr} {fd : FuncData} {ps : List Str} {n j : Nat} (F : FnOk X.prog X.w X.K X.mg X.base CX0 n f fd ps (spEq (SelfR X.K C))) (O : OwnEq X.K C f) (b : Binds X.K fd ps []) (hr : Room j X.A) (hj : n ≤ j) : OpR X (compareOp .Eq) (rEqP X.K C) := by
  intro pins s σ H x y v u Q I rx ry h
  obtain ⟨a, z, ys, rfl, rfl, hp, q⟩ := h
  obtain ⟨dx, q0, h1, _⟩ := id hp
  exact op_eqG (rcG_ins F O.eq O.fn b pass0) (hr.mono hj) pins s σ H _ _ _ _ Q I rx ry ⟨⟨a, a, dx, dx, _, _, rfl, rfl, h1, h1, rfl, z, ys, hp⟩, q⟩
theorem op_neP {C f : Addr} {fd : FuncData} {ps : List Str} {n j : Nat} (F : FnOk X.prog X.w X.K X.mg X.base CX0 n f fd ps (spEq (SelfR X.K C))) (O : OwnEq X.K C f) (b : Binds X.K fd ps []) (hr : Room j X.A) (hj : n + 1 ≤ j) : OpR X (compareOp .NotEq) (rNeP X.K C) := by
  intro pins s σ H x y v u Q I rx ry h
  obtain ⟨a, z, ys, rfl, rfl, hp, q⟩ := h
  cases rx
  cases ry
  obtain ⟨dx, q0, h1, _⟩ := id hp
  obtain ⟨own, oy, hy, hyc⟩ := own_noNe I O h1
  have room : Sub X n X.A.in1 := Sub.in1 ⟨hr.mono hj, rfl⟩
  have e0 : Env0 X.prog X.w X.K X.mg X.base X.A.in1 X.stack s H := { I.env0 with frames := (by rw [room.fr]; exact I.env0.frames) }
  have want : spEq (SelfR X.K C) [.ref a, .ref a] H (fun v H' => v = .bl true ∧ Ext H H') (fun _ _ _ => False) := ⟨a, a, rfl, ⟨rfl, z, ys, hp⟩, fun H' e => ⟨rfl, e⟩⟩
  have r2 : Vals [V.ref a, V.ref a] [Value.ref a, Value.ref a] := .cons rfl (.cons rfl .nil)
  have hl := F.len _ _ _ _ want
  have hb := b s [.ref a, .ref a] I.kIn (by simpa using hl)
  rw [List.append_nil] at hb
  obtain ⟨hh, g, d, t, os⟩ := s
  refine compareOp_ne_ownEq PySem.F.cmp_object own hy hyc (by have := hr.units; omega) ?_
  refine wpAny_call (codeAny_mono (F.run X.A.in1 X.stack _ H ⟨[.ref a, .ref a], []⟩ _ _ _ (fun _ _ _ => False) room.room e0 hb r2 want) fun r s' back => ?_)
  cases r with
  | error e => exact False.elim back
  | ok fl =>
    cases fl with
    | ret u =>
      obtain ⟨v, H', J, rv, ev, ex⟩ := I.after back
      subst ev
      cases rv
      exact ⟨true, rfl, .bl false, H', J, rfl, q H' ex⟩
    | next => exact False.elim back
    | brk => exact False.elim back
    | cont => exact False.elim back
/-- one of several rules -/
theorem op_or {f : Value → Value → Sem Value} {r r' : R2} (h : OpR X f r) (h' : OpR X f r') : OpR X f (fun x y H Q => r x y H Q ∨ r' x y H Q) := fun pins s σ H x y v u Q I rx ry z => z.elim (h pins s σ H x y v u Q I rx ry) (h' pins s σ H x y v u Q I rx ry)
end
theorem clsLT : Paired ClsV [.ty "list", .ty "tuple"] [.type "list", .type "tuple"] := .cons (.ty _) (.cons (.ty _) .nil)
end My


set_option Elab.async false
set_option linter.all false
set_option maxRecDepth 100000
/-! Sets whose members are tuples of texts and integers: asked and added to. -/
namespace My
open PySem PySem.Spec PyProof.Rows L2
/-- a member: where it stands, what it holds -/
abbrev Mem := Addr × List Key
def hsh (P : Program) (w : World) (k : List Key) : Int := tupleKeyHash (mixKind P w) k
abbrev IsM (P : Program) (w : World) (h : Heap) (k : List Key) (b : Addr) : Prop := IsTupleKey (mixKind P w) h k b
def hasKey (ks : List (List Key)) (k : List Key) : Bool := ks.any fun j => decide (j = k)
theorem hasKey_yes {ks : List (List Key)} {k : List Key} (h : k ∈ ks) : hasKey ks k = true := List.any_eq_true.mpr ⟨k, h, decide_eq_true rfl⟩
theorem hasKey_no {ks : List (List Key)} {k : List Key} (h : k ∉ ks) : hasKey ks k = false := by
  cases e : hasKey ks k with
  | false => rfl
  | true =>
    obtain ⟨j, j1, j2⟩ := List.any_eq_true.mp e
    rw [of_decide_eq_true j2] at j1
    exact absurd j1 h
def entry (P : Program) (w : World) (r : Mem) : Int × Value := (hsh P w r.2, .ref r.1)
/-- the c-th stand of the way of a hash -/
def spot (m : Nat) (H : Int) (c : Nat) : SetTable.Probe := nth m (runAt m (SetTable.bits H % (m + 1)) (SetTable.bits H)) c
theorem spot_more (m : Nat) (H : Int) (c q : Nat) : nth m (spot m H c) q = spot m H (c + q) := (nth_add m c _ q).symm
theorem spot_clear (m : Nat) (H : Int) (c : Nat) : (spot m H c).dummy = none := by
  induction c with
  | zero => rfl
  | succ c ih =>
    have e : spot m H (c + 1) = adv m (spot m H c) := nth_succ m _ c
    rw [e]; unfold adv; split <;> exact ih
/-- what a look from the c-th stand on finds -/
theorem look {t : SetTable} {hs : List Int} (T : TabOk t hs) (g : Nat → Int) {H : Int} {K c : Nat} (lim : K < 10 * SetTable.turns t.mask) (free : way t.mask H K ∉ t.place.toList)
    (full : ∀ q, q < K → way t.mask H q ∈ t.place.toList) (le : c ≤ K) :
    (∃ q i, c ≤ q ∧ q < K ∧ t.place.toList[i]? = some (way t.mask H q) ∧ g i = H ∧ (∀ r j, c ≤ r → r < q → t.place.toList[j]? = some (way t.mask H r) → g j ≠ H) ∧
      t.probe g H (spot t.mask H c) = some (.candidate (way t.mask H q) i (spot t.mask H (q + 1)))) ∨
    ((∀ r j, c ≤ r → r < K → t.place.toList[j]? = some (way t.mask H r) → g j ≠ H) ∧ t.probe g H (spot t.mask H c) = some (.empty (way t.mask H K) none)) := by
  have wj : ∀ q, (nth t.mask (spot t.mask H c) q).j = way t.mask H (c + q) := fun q => by rw [spot_more]; rfl
  have far : ∀ r, c ≤ r → c + (r - c) = r := fun r h => by omega
  rcases go_spec t T.ris T.dm g H (10 * SetTable.turns t.mask) (K - c) (spot t.mask H c) (spot_clear _ _ _) (by omega) (fun q h => by rw [wj]; exact full _ (by omega)) (by rw [wj, far K le]; exact free) with
    ⟨q, i, a1, a2, a3, a4, a5⟩ | ⟨a1, a2⟩
  · rw [wj] at a2 a5
    rw [spot_more] at a5
    refine .inl ⟨c + q, i, by omega, by omega, a2, a3, fun r j b1 b2 b3 => a4 (r - c) j (by omega) (by rw [wj, far r b1]; exact b3), a5⟩
  · rw [wj, far K le] at a2
    exact .inr ⟨fun r j b1 b2 b3 => a1 (r - c) j (by omega) (by rw [wj, far r b1]; exact b3), a2⟩
section
variable {P : Program} {w : World} {A : Around} {E : Value → Shared → Prop} {s : Shared}
/-- an item that is a text or an integer -/
def Flat1 (v : Value) : Prop := (∃ i t, v = .int i t) ∨ ∃ x t, v = .str x t
theorem items_flat {k : List Key} {vs : List Value} (h : ItemsAre (mixKind P w) k vs) : ∀ v ∈ vs, Flat1 v := by
  induction h with
  | nil => exact fun v hv => nomatch hv
  | cons h1 _ ih =>
    refine fun v hv => (List.mem_cons.mp hv).elim (fun e => ?_) (ih v)
    subst e
    rcases keyIs_shape h1 with ⟨i, t, _, e⟩ | ⟨x, t, _, e⟩
    · exact .inl ⟨i, t, e⟩
    · exact .inr ⟨x, t, e⟩
theorem Flat1.noClass {v : Value} (h : Flat1 v) (n : Nat) : ofAClassStatement n v = pure false := by
  rcases h with ⟨i, t, rfl⟩ | ⟨x, t, rfl⟩ <;> cases n <;> rfl
theorem Flat1.hashed {v : Value} (h : Flat1 v) (n : Nat) : ∃ b, hashByValue n v = pure b := by
  rcases h with ⟨i, t, rfl⟩ | ⟨x, t, rfl⟩ <;> cases n <;> exact ⟨_, rfl⟩
theorem class_m {k : List Key} {b : Addr} {Q : Bool → Shared → Prop} (x : IsM P w s.heap k b) (h : Q false s) : wpAny (model P w) A (ofAClassStatement 8 (.ref b)) Q E s := by
  have ty := x.typeIs
  obtain ⟨o, its, n, ho, _, hd, hi⟩ := x
  have fl := items_flat hi
  unfold ofAClassStatement
  refine wpAny_bind (wpAny_typeOf ty ?_)
  have e : (("tuple" : String) == "tuple") = true := by decide
  simp only [e, if_true, Bool.not_true, Bool.false_eq_true, if_false]
  refine wpAny_bind (wpAny_pure ?_)
  refine wpAny_bind (wpAny_seqItems ho hd (wpAny_bind ?_))
  rw [← Array.forIn_toList]
  refine wpAny_forIn_list _ (fun left r s' => (r.1 = none ∧ s' = s) ∧ ∀ v ∈ left, Flat1 v) _ (fun v left r s' ⟨⟨_, e⟩, f⟩ => ?_) (fun r s' ⟨⟨e1, e2⟩, _⟩ => ?_) _ _ ⟨⟨rfl, rfl⟩, fl⟩
  · subst e
    rw [(f v List.mem_cons_self).noClass]
    exact wpAny_bind (wpAny_pure (wpAny_pure ⟨⟨rfl, rfl⟩, fun u hu => f u (.tail _ hu)⟩))
  · obtain ⟨r1, r2⟩ := r
    cases e1
    subst e2
    exact wpAny_pure h
theorem hashed_m {k : List Key} {b : Addr} {Q : Bool → Shared → Prop} (x : IsM P w s.heap k b) (h : ∀ c, Q c s) : wpAny (model P w) A (hashByValue 8 (.ref b)) Q E s := by
  have ty := x.typeIs
  obtain ⟨o, its, n, ho, _, hd, hi⟩ := x
  have fl := items_flat hi
  unfold hashByValue
  refine wpAny_bind (wpAny_specialOf ty F.slot_tuple_hash.lookup (wpAny_bind (wpAny_seqItems ho hd (wpAny_bind ?_))))
  rw [← Array.forIn_toList]
  refine wpAny_forIn_list _ (fun left r s' => s' = s ∧ ∀ v ∈ left, Flat1 v) _ (fun v left r s' ⟨e, f⟩ => ?_) (fun r s' ⟨e, _⟩ => ?_) _ _ ⟨rfl, fl⟩
  · subst e
    obtain ⟨b, hb⟩ := (f v List.mem_cons_self).hashed 7
    rw [hb]
    refine wpAny_bind (wpAny_pure ?_)
    cases b
    · exact wpAny_pure (wpAny_pure (h _))
    · exact wpAny_pure ⟨rfl, fun u hu => f u (.tail _ hu)⟩
  · subst e
    obtain ⟨r1, r2⟩ := r
    cases r1
    · exact wpAny_pure (h _)
    · exact wpAny_pure (h _)
/-- looking among such members shows nothing -/
theorem quiet_m {k : List Key} {b : Addr} {Q : Bool → Shared → Prop} (x : IsM P w s.heap k b) {ys : List Value} (all : ∀ y ∈ ys, ∃ k' c, y = .ref c ∧ IsM P w s.heap k' c) (h : Q false s) :
    wpAny (model P w) A (searchCouldBeSeen (.ref b) ys) Q E s := by
  unfold searchCouldBeSeen
  refine wpAny_bind (wpAny_forIn_list _ (fun left r s' => (r.1 = none ∧ s' = s) ∧ ∀ y ∈ left, ∃ k' c, y = .ref c ∧ IsM P w s.heap k' c) _ (fun y left r s' ⟨⟨_, e⟩, f⟩ => ?_) (fun r s' ⟨⟨e1, e2⟩, _⟩ => ?_) _ _ ⟨⟨rfl, rfl⟩, all⟩)
  · subst e
    obtain ⟨k', c, e, y1⟩ := f y List.mem_cons_self
    subst e
    have go : ∀ u ∈ left, ∃ k' c, u = Value.ref c ∧ IsM P w s'.heap k' c := fun u hu => f u (.tail _ hu)
    dsimp only
    by_cases z : (b == c || (carriedByValue (.ref b) && carriedByValue (.ref c))) = true
    · exact wp_if_pos z (wpAny_pure ⟨⟨rfl, rfl⟩, go⟩)
    · refine wp_if_neg z (wpAny_bind (wpAny_eqIsQuiet_tuple x (wpAny_bind (wpAny_eqIsQuiet_tuple y1 (wpAny_bind (class_m x (wpAny_bind (class_m y1 ?_))))))))
      exact wpAny_pure ⟨⟨rfl, rfl⟩, go⟩
  · obtain ⟨r1, r2⟩ := r
    cases e1
    subst e2
    exact wpAny_pure h
/-- a set of such members, by its rows and its table -/
structure Held (P : Program) (w : World) (h : Heap) (a : Addr) (L : List Mem) (t : SetTable) : Prop where
  it : ∃ o ep, h.get? a = some o ∧ o.ExactSet ∧ o.data = .set (L.map (entry P w)).toArray ep t
  tab : TabOk t (L.map fun r => hsh P w r.2)
  once : (L.map (·.2)).Nodup
  room : L.length * 5 < t.mask * 3
  few : L.length < 64
variable {a : Addr} {L : List Mem} {t : SetTable}
theorem fits_of {t : SetTable} {hs : List Int} (T : TabOk t hs) {n : Nat} (e : n = hs.length) (le : n ≤ t.mask) : t.fits n = true := by
  have z := T.sz
  unfold SetTable.fits SetTable.fill
  rw [T.dm, Bool.and_eq_true, beq_iff_eq, decide_eq_true_eq]
  refine ⟨by omega, ?_⟩
  show t.place.size + 0 ≤ t.mask
  omega
theorem Held.fits (R : Held P w s.heap a L t) : t.fits (L.map (entry P w)).toArray.size = true :=
  fits_of R.tab (by simp) (by have := R.room; simp; omega)
theorem gave_not {t : SetTable} {hs : List Int} (T : TabOk t hs) : ¬ t.gaveWay = true := by
  unfold SetTable.gaveWay
  rw [mask_odd T.mok]
  decide
theorem same_mem (t : SetTable) : t.sameMemory t.moves t.mask = some true := by
  unfold SetTable.sameMemory
  exact if_pos (beq_self_eq_true _)
/-- the search, from the c-th stand on -/
theorem seek (R : Held P w s.heap a L t) (tup : ∀ r ∈ L, IsM P w s.heap r.2 r.1) {x : Addr} {k : List Key} (hx : IsM P w s.heap k x) (hu : A.units < cLine) (ad : Bool) {K : Nat}
    (lim : K < 10 * SetTable.turns t.mask) (free : way t.mask (hsh P w k) K ∉ t.place.toList) (full : ∀ q, q < K → way t.mask (hsh P w k) q ∈ t.place.toList) {Q : SetFound → Shared → Prop}
    (yes : k ∈ L.map (·.2) → ∀ i : Option Nat, (ad = false → i.isSome = true) → Q (.there i) s) (no : k ∉ L.map (·.2) → Q (.free (way t.mask (hsh P w k) K) false) s) :
    ∀ (f c : Nat) (st : Option SetTable.Probe), st.getD (t.probeStart (hsh P w k)) = spot t.mask (hsh P w k) c → c ≤ K → K < c + f →
      (∀ (i : Nat) (r : Mem), L[i]? = some r → r.2 = k → ∃ q, c ≤ q ∧ q < K ∧ t.place.toList[i]? = some (way t.mask (hsh P w k) q)) →
      wpAny (model P w) A (setSearchFrom a (.ref x) (hsh P w k) ad f st) Q E s := by
  intro f
  induction f with
  | zero => intro c st _ h1 h2; omega
  | succ f ih =>
    intro c st hst hc hf ahead
    obtain ⟨o, ep, ho, hex, hd⟩ := R.it
    have g1 : ∀ (i : Nat) (r : Mem), L[i]? = some r → (L.map (entry P w)).toArray[i]? = some (entry P w r) := fun i r h => by rw [List.getElem?_toArray, List.getElem?_map, h]; rfl
    have g2 : ∀ (i : Nat) (r : Mem), L[i]? = some r → (((L.map (entry P w)).toArray[i]?).map (·.1)).getD 0 = hsh P w r.2 := fun i r h => by rw [g1 i r h]; rfl
    rw [setSearchFrom_succ]
    refine wpAny_bind (wpAny_setState_of ho hd R.fits (wp_if_neg (gave_not R.tab) ?_))
    rw [hst]
    rcases look R.tab (fun i => (((L.map (entry P w)).toArray[i]?).map (·.1)).getD 0) lim free full hc with ⟨q, i, c1, c2, c3, c4, c5, c6⟩ | ⟨c1, c2⟩
    · rw [c6]
      have il : i < L.length := by
        have z1 := (List.getElem?_eq_some_iff.mp c3).1
        have z2 := R.tab.sz
        simp only [List.length_map, Array.length_toList] at z1 z2
        omega
      obtain ⟨r, hr⟩ : ∃ r, L[i]? = some r := ⟨_, List.getElem?_eq_getElem il⟩
      have rin := List.mem_of_getElem? hr
      have on : wpAny (model P w) A (searchRest a (.ref x) (hsh P w k) ad f (L.map (entry P w)).toArray t (way t.mask (hsh P w k) q) i (spot t.mask (hsh P w k) (q + 1))) Q E s := by
        unfold searchRest
        rw [g1 i r hr]
        refine wpAny_bind (wpAny_holding (wpAny_eqBool_tuple hu (tup r rin) hx (wpAny_bind (wpAny_setState_of ho hd R.fits ?_))))
        have live := slot_live R.tab.ris c3
        by_cases kk : r.2 = k
        · have yk : k ∈ L.map (·.2) := List.mem_map.mpr ⟨r, rin, kk⟩
          cases ad with
          | true => exact wp_if_pos (by simp [kk]) (wpAny_pure (yes yk none fun z => nomatch z))
          | false =>
            refine wp_if_neg (by simp) ?_
            rw [same_mem]
            simp only [if_true, live, g1 i r hr]
            refine wpAny_bind (wpAny_isSame_ref_self (wpAny_bind (wpAny_pure ?_)))
            simp only [if_true]
            exact wp_if_pos (by simp [kk]) (wpAny_pure (yes yk (some i) fun _ => rfl))
        · refine wp_if_neg (by simp [kk]) ?_
          rw [same_mem]
          simp only [if_true, live, g1 i r hr]
          refine wpAny_bind (wpAny_isSame_ref_self (wpAny_bind (wpAny_pure ?_)))
          simp only [if_true]
          refine wp_if_neg (by simp [kk]) (ih (q + 1) _ rfl (by omega) (by omega) fun j u hj hk => ?_)
          obtain ⟨p, p1, p2, p3⟩ := ahead j u hj hk
          refine ⟨p, ?_, p2, p3⟩
          have hh : (((L.map (entry P w)).toArray[j]?).map (·.1)).getD 0 = hsh P w k := by rw [g2 j u hj, hk]
          have n1 : ¬ p < q := fun z => c5 p j p1 z p3 hh
          have n2 : p ≠ q := fun z => by
            subst z
            have l2 := slot_live R.tab.ris p3
            rw [live] at l2
            injection l2 with l2
            rw [← l2, hr] at hj
            exact kk ((congrArg Prod.snd (Option.some.inj hj)).trans hk)
          omega
      by_cases hl : t.led = true
      · exact wp_if_neg (by simp [hl]) on
      · refine wp_if_pos (by simp [hl]) (wpAny_bind (quiet_m hx (fun y hy => ?_) (wp_if_neg (by decide) on)))
        obtain ⟨e, he, ee⟩ := List.mem_map.mp hy
        have he : e ∈ L.map (entry P w) := by
          have := (Array.mem_filter.mp (Array.mem_toList_iff.mp he)).1
          simpa using this
        obtain ⟨u, hu2, e2⟩ := List.mem_map.mp he
        exact ⟨u.2, u.1, by rw [← ee, ← e2]; rfl, tup u hu2⟩
    · rw [c2]
      refine wpAny_pure (no fun hm => ?_)
      obtain ⟨u, hu2, e2⟩ := List.mem_map.mp hm
      obtain ⟨j, hj⟩ := List.getElem?_of_mem hu2
      obtain ⟨p, p1, p2, p3⟩ := ahead j u hj e2
      exact c1 p j p1 p2 p3 (by rw [g2 j u hj, e2])
theorem seek0 (R : Held P w s.heap a L t) (tup : ∀ r ∈ L, IsM P w s.heap r.2 r.1) {x : Addr} {k : List Key} (hx : IsM P w s.heap k x) (hu : A.units < cLine) (ad : Bool) {Q : SetFound → Shared → Prop}
    (yes : k ∈ L.map (·.2) → ∀ i : Option Nat, (ad = false → i.isSome = true) → Q (.there i) s)
    (no : k ∉ L.map (·.2) → ∀ K, way t.mask (hsh P w k) K ∉ t.place.toList → (∀ q, q < K → way t.mask (hsh P w k) q ∈ t.place.toList) → Q (.free (way t.mask (hsh P w k) K) false) s) :
    wpAny (model P w) A (setSearch a (.ref x) (hsh P w k) ad) Q E s := by
  have few := R.few
  obtain ⟨K, lim, free, full⟩ := R.tab.first (by have := R.room; rw [List.length_map]; omega) (hsh P w k)
  have small : 10 * SetTable.turns t.mask ≤ 1420 := by
    unfold SetTable.turns
    rcases R.tab.mok with e | e | e <;> omega
  refine seek R tup hx hu ad lim free full yes (fun h => no h K free full) 100000 0 none rfl (Nat.zero_le _) (by omega) fun i r hr hk => ?_
  have il := (List.getElem?_eq_some_iff.mp hr).1
  have iz : i < t.place.toList.length := by
    have z := R.tab.sz
    simp only [List.length_map] at z
    rw [Array.length_toList]; omega
  obtain ⟨q, q1, q2⟩ := R.tab.before (h := hsh P w k) (i := i) free (by rw [List.getElem?_map, hr, ← hk]; rfl) (List.getElem?_eq_getElem iz)
  exact ⟨q, Nat.zero_le _, q1, by rw [q2]; exact List.getElem?_eq_getElem iz⟩
theorem Held.typeIs (R : Held P w s.heap a L t) : s.TypeIs (.ref a) "set" := by
  obtain ⟨o, _, ho, hex, _⟩ := R.it
  exact ⟨o, ho, hex.1⟩
theorem Held.noDict (R : Held P w s.heap a L t) : ∀ b, Value.ref a = .ref b → ∃ ob, s.heap.get? b = some ob ∧ ob.dict = none := by
  obtain ⟨o, _, ho, hex, _⟩ := R.it
  intro b e
  cases e
  exact ⟨o, ho, hex.2.1⟩
theorem find_m (R : Held P w s.heap a L t) (tup : ∀ r ∈ L, IsM P w s.heap r.2 r.1) {x : Addr} {k : List Key} (hx : IsM P w s.heap k x) (hu : A.units < cLine) {Q : Option Nat → Shared → Prop}
    (h : ∀ r : Option Nat, r.isSome = hasKey (L.map (·.2)) k → Q r s) : wpAny (model P w) A (setFind a (.ref x) (hsh P w k)) Q E s := by
  obtain ⟨o, ep, ho, hex, hd⟩ := R.it
  unfold setFind setFindIn
  refine wpAny_bind (wpAny_setState_of ho hd R.fits (wp_if_neg (by simp [byScan, Value.scannable]) (wpAny_bind (seek0 R tup hx hu false (fun m i hi => ?_) fun m K _ _ => ?_))))
  · exact wpAny_pure (h i (by rw [hi rfl, hasKey_yes m]))
  · exact wpAny_pure (h none (by rw [hasKey_no m]; rfl))
theorem has_m (R : Held P w s.heap a L t) (tup : ∀ r ∈ L, IsM P w s.heap r.2 r.1) {x : Addr} {k : List Key} (hx : IsM P w s.heap k x) (hu : A.units + 8 < cLine) {Q : Bool → Shared → Prop}
    (h : ∀ n, Q (hasKey (L.map (·.2)) k) { s with toks := s.toks + n }) : wpAny (model P w) A (contains (.ref a) (.ref x)) Q E s := by
  unfold contains
  try with_reducible refine wpAny_holding ?_
  refine wpAny_bind (wpAny_specialOf R.typeIs F.slot_set_contains.lookup ?_)
  show wpAny _ _ (if (some (Value.builtin "set.__contains__") == some Value.none) = true then _ else _) _ E s
  rw [beq_builtin_none, if_neg Bool.false_ne_true]
  refine wpAny_bind (wpAny_callSpecialUnlessNone?_slot (name := Str.ofString "__contains__") R.typeIs F.slot_set_contains (wpAny_call_entry F.slot_set_contains R.typeIs entry_set_contains ?_ (F.args_set_contains_2 _ _)))
  unfold Builtin.«frozenset.__contains__» Builtin.Frozenset.oneOther Builtin.Frozenset.addrOf Builtin.Frozenset.withSetAsKey setContains
  simp only [List.isEmpty_nil, bind_assoc]
  refine wpAny_bind (wpAny_pure (wpAny_bind (wpAny_pure ?_)))
  try dsimp only
  refine wpAny_bind (wpAny_tryCatch (wpAny_holding (wpAny_bind (wpAny_pyHash_tuple (knd := mixKind P w) ?_ hx (wpAny_bind (find_m (s := { s with toks := s.toks + (k.length + 1) }) R tup hx ?_ fun r hr => wpAny_pure ?_))))))
  · show A.units + 1 < cLine
    omega
  · show A.units + 1 < cLine
    omega
  · show wpAny _ _ (ret (Value.bool r.isSome)) _ _ _
    rw [hr]
    exact wpAny_pure ⟨_, rfl, wpAny_truthy_bool (h _)⟩
theorem pick_all {α : Type} (l : List α) : (List.range l.length).filterMap (fun i => l[i]?) = l := by
  induction l with
  | nil => rfl
  | cons x l ih =>
    rw [List.length_cons, List.range_succ_eq_map, List.filterMap_cons_some (f := fun i => (x :: l)[i]?) (a := 0) (b := x) rfl, List.filterMap_map]
    exact congrArg (x :: ·) ih
theorem pick_hash {L : List Mem} : ∀ l : List Nat, (∀ i ∈ l, i < L.length) → ((l.filterMap fun i => L[i]?).map fun r => hsh P w r.2) = l.map fun i => ((L.map (entry P w)).toArray.map (·.1)).getD i 0
  | [], _ => rfl
  | i :: l, h => by
    have hi := List.getElem?_eq_getElem (h i List.mem_cons_self)
    rw [List.filterMap_cons_some hi, List.map_cons, List.map_cons, pick_hash l fun j hj => h j (.tail _ hj)]
    congr 1
    rw [Array.getD_eq_getD_getElem?, Array.getElem?_map, List.getElem?_toArray, List.getElem?_map, hi]
    rfl
theorem pick_rows {L : List Mem} (l : List Nat) : l.filterMap (fun i => (L.map (entry P w)).toArray[i]?) = (l.filterMap fun i => L[i]?).map (entry P w) := by
  rw [List.map_filterMap]
  refine congrArg (fun f => List.filterMap f l) (funext fun i => ?_)
  rw [List.getElem?_toArray, List.getElem?_map]
theorem keeps_m {h h' : Heap} {k : List Key} {b : Addr} {o : Obj} {es : Array (Int × Value)} {ep : Nat} {t : SetTable} (x : IsM P w h k b) (ho : h.get? a = some o) (hd : o.data = .set es ep t) (sb : Heap.SameBut a h h') : IsM P w h' k b := by
  obtain ⟨u, its, n, hu, c, d, i⟩ := x
  refine ⟨u, its, n, (sb.2 b fun e => ?_).trans hu, c, d, i⟩
  rw [e, ho] at hu
  cases hu
  rw [hd] at d
  cases d
theorem relay_m {o : Obj} {ep : Nat} (ho : s.heap.get? a = some o) (hex : o.ExactSet) (hd : o.data = .set (L.map (entry P w)).toArray ep t) (T : TabOk t (L.map fun r => hsh P w r.2)) (le : L.length ≤ t.mask)
    (once : (L.map (·.2)).Nodup) (few : L.length < 64) {n M : Nat} (hM : SetTable.sizeAbove n - 1 = M) (ok : MaskOk M) (most : SetTable.sizeAbove n ≤ 128) (room : L.length * 5 < M * 3) {Q : Unit → Shared → Prop}
    (h : ∀ h' L' t', Heap.SameBut a s.heap h' → Held P w h' a L' t' → L'.Perm L → Q () { s with heap := h' }) : wpAny (model P w) A (setRelay a n) Q E s := by
  have fit : t.fits (L.map (entry P w)).toArray.size = true := fits_of T (by simp) (by simpa using le)
  obtain ⟨t', order, e, perm, T', em, el, _, _⟩ := relaid_ok t (hs := (L.map (entry P w)).toArray.map (·.1)) (wanted := n) hM ok (by simp; omega)
  have perm : order.toList.Perm (List.range L.length) := by simpa using perm
  have inR : ∀ i ∈ order.toList, i < L.length := fun i hi => List.mem_range.mp (perm.mem_iff.mp hi)
  obtain ⟨L', hL⟩ : ∃ L', L' = order.toList.filterMap fun i => L[i]? := ⟨_, rfl⟩
  have pm : L'.Perm L := by
    have z := perm.filterMap fun i => L[i]?
    rw [pick_all, ← hL] at z
    exact z
  have rows : order.filterMap (fun i => (L.map (entry P w)).toArray[i]?) = (L'.map (entry P w)).toArray := by
    apply Array.toList_inj.mp
    rw [Array.toList_filterMap, pick_rows, ← hL]
  rw [← pick_hash order.toList inR, ← hL] at T'
  have size : (order.filterMap (fun i => (L.map (entry P w)).toArray[i]?)).size = L.length := by rw [rows]; simp [pm.length_eq]
  rw [setRelay_eq]
  refine wpAny_bind (wpAny_setState_of ho hd fit (wp_if_neg (by rw [sizeLine_eq]; omega) ?_))
  rw [e]
  refine wpAny_bind (wp_if_neg (by rw [size]; simp) (wpAny_pure ?_))
  rw [rows]
  have sb : Heap.SameBut a s.heap (s.heap.update a (Obj.putSet (L'.map (entry P w)).toArray t')) := Heap.SameBut.update ..
  refine wpAny_storeSet_of ho hd (h _ L' t' sb ⟨⟨_, ep + 1, store_at ho hd, hex, rfl⟩, T', (pm.map _).nodup_iff.mpr once, by rw [pm.length_eq, em]; exact room, by rw [pm.length_eq]; exact few⟩ pm) (by rw [sizeLine_eq]; simp [pm.length_eq]; omega)
theorem put_rows {L : List Mem} (p : Nat) (r : Mem) : (L.take p ++ r :: L.drop p).Perm (r :: L) := by
  have z : (L.take p ++ r :: L.drop p).Perm (r :: (L.take p ++ L.drop p)) := List.perm_middle
  rw [List.take_append_drop] at z
  exact z
theorem TabOk.dull {t : SetTable} {hs : List Int} (T : TabOk t hs) : TabOk { t with plain := false } hs := ⟨T.ris, T.dm, T.sz, T.mok, T.bd, T.reach⟩
theorem add_m (R : Held P w s.heap a L t) (tup : ∀ r ∈ L, IsM P w s.heap r.2 r.1) {x : Addr} {k : List Key} (hx : IsM P w s.heap k x) (hu : A.units < cLine) (few : L.length + 1 < 64) {Q : Bool → Shared → Prop}
    (h : ∀ b h' L' t', Heap.SameBut a s.heap h' → Held P w h' a L' t' → (k ∈ L.map (·.2) → L' = L) → (k ∉ L.map (·.2) → L'.Perm ((x, k) :: L)) → Q b { s with heap := h' }) :
    wpAny (model P w) A (setAddHashed a (.ref x) (hsh P w k)) Q E s := by
  obtain ⟨o, ep, ho, hex, hd⟩ := R.it
  unfold setAddHashed
  rw [show (100000 : Nat) = 99999 + 1 from rfl, setAddHashedIn_succ]
  refine wpAny_holding (wpAny_bind (wpAny_setState_of ho hd R.fits (wp_if_neg (by simp [byScan, Value.scannable]) (wpAny_bind (seek0 R tup hx hu true (fun m i _ => ?_) fun m K free full => ?_)))))
  · exact wpAny_pure (h false s.heap L t (Heap.SameBut.refl a s.heap) R (fun _ => rfl) fun z => absurd m z)
  refine wpAny_bind (wpAny_setState_of ho hd R.fits ?_)
  dsimp only
  obtain ⟨q1, q2, q3, q4, _, _, _, _, q9⟩ := R.tab.put free full
  generalize t.put (way t.mask (hsh P w k) K) = both at q1 q3 q4 q9
  obtain ⟨t1, p⟩ := both
  dsimp only at q1 q3 q4 q9 ⊢
  subst q1
  have z1 : (SetTable.insertAt (L.map (entry P w)).toArray (SetTable.below t.place (way t.mask (hsh P w k) K)) (hsh P w k, Value.ref x)).toList = (L.take (SetTable.below t.place (way t.mask (hsh P w k) K)) ++ (x, k) :: L.drop (SetTable.below t.place (way t.mask (hsh P w k) K))).map (entry P w) := by
    rw [SetTable.toList_insertAt, List.map_append, List.map_cons, List.map_take, List.map_drop]
    rfl
  generalize SetTable.below t.place (way t.mask (hsh P w k) K) = p at q2 q3 z1 ⊢
  have hs1 : ((L.map fun r => hsh P w r.2).take p ++ hsh P w k :: (L.map fun r => hsh P w r.2).drop p) = (L.take p ++ (x, k) :: L.drop p).map fun r => hsh P w r.2 := by
    rw [List.map_append, List.map_cons, List.map_take, List.map_drop]
  rw [hs1] at q3
  have pm := put_rows p (x, k) (L := L)
  generalize L.take p ++ (x, k) :: L.drop p = L1 at z1 q3 pm
  have z2 : SetTable.insertAt (L.map (entry P w)).toArray p (hsh P w k, Value.ref x) = (L1.map (entry P w)).toArray := Array.toList_inj.mp z1
  rw [z2]
  have l1 := pm.length_eq
  rw [List.length_cons] at l1
  have nd : (L1.map (·.2)).Nodup := (pm.map _).nodup_iff.mpr (List.nodup_cons.mpr ⟨m, R.once⟩)
  rw [List.length_map] at q9
  have room := R.room
  have fin : ∀ t2 : SetTable, TabOk t2 (L1.map fun r => hsh P w r.2) → t2.mask = t.mask → t2.fill = L.length + 1 →
      wpAny (model P w) A (storeSet a (L1.map (entry P w)).toArray t2 >>= fun _ => if (!false && t2.tooFull) = true then setRelay a (SetTable.grown ((L.map (entry P w)).toArray.size + 1)) >>= fun _ => pure true else pure true) Q E s := by
    intro t2 T2 e1 e2
    refine wpAny_bind (wpAny_storeSet_of ho hd ?_ (by rw [sizeLine_eq]; simp; omega))
    have sb : Heap.SameBut a s.heap (s.heap.update a (Obj.putSet (L1.map (entry P w)).toArray t2)) := Heap.SameBut.update ..
    have ho2 := store_at (es' := (L1.map (entry P w)).toArray) (t' := t2) ho hd
    generalize s.heap.update a (Obj.putSet (L1.map (entry P w)).toArray t2) = h2 at sb ho2 ⊢
    by_cases full : t2.tooFull = true
    · have much : (L.length + 1) * 5 ≥ t.mask * 3 := by
        have z := full
        unfold SetTable.tooFull at z
        rw [decide_eq_true_eq, e1, e2] at z
        exact z
      have sz : (L.map (entry P w)).toArray.size = L.length := by simp
      rw [sz]
      have both : (t.mask = 7 ∧ L.length = 4) ∨ (t.mask = 31 ∧ L.length = 18) := by
        rcases R.tab.mok with e | e | e <;> rw [e] at much room <;> omega
      refine wp_if_pos (by rw [full]; rfl) (wpAny_bind ?_)
      rcases both with ⟨y, y2⟩ | ⟨y, y2⟩
      · refine relay_m (s := { s with heap := h2 }) (M := 31) ho2 hex rfl T2 (by rw [e1, y]; omega) nd (by omega) (by rw [y2, size_20]) (.inr (.inl rfl)) (by rw [y2, size_20]; decide) (by omega) fun h3 L3 t3 sb3 R3 p3 => ?_
        exact wpAny_pure (h true h3 L3 t3 (sb.trans sb3) R3 (fun z => absurd z m) fun _ => p3.trans pm)
      · refine relay_m (s := { s with heap := h2 }) (M := 127) ho2 hex rfl T2 (by rw [e1, y]; omega) nd (by omega) (by rw [y2, size_76]) (.inr (.inr rfl)) (by rw [y2, size_76]; decide) (by omega) fun h3 L3 t3 sb3 R3 p3 => ?_
        exact wpAny_pure (h true h3 L3 t3 (sb.trans sb3) R3 (fun z => absurd z m) fun _ => p3.trans pm)
    · refine wp_if_neg (by rw [Bool.not_eq_true] at full; rw [full]; decide) ?_
      refine wpAny_pure (h true h2 L1 t2 sb ⟨⟨_, ep + 1, ho2, hex, rfl⟩, T2, nd, ?_, by omega⟩ (fun z => absurd z m) fun _ => pm)
      have z := full
      unfold SetTable.tooFull at z
      rw [decide_eq_true_eq, e1, e2] at z
      rw [l1, e1]
      omega
  have fin2 : ∀ b : Bool, wpAny (model P w) A (storeSet a (L1.map (entry P w)).toArray (if b = true then t1 else { t1 with plain := false }) >>= fun _ => if (!false && (if b = true then t1 else { t1 with plain := false } : SetTable).tooFull) = true then setRelay a (SetTable.grown ((L.map (entry P w)).toArray.size + 1)) >>= fun _ => pure true else pure true) Q E s := by
    intro b
    cases b
    · exact fin _ (TabOk.dull q3) q4 q9
    · exact fin _ q3 q4 q9
  by_cases pl : t1.plain = true
  · exact wp_if_pos pl (wpAny_bind (hashed_m hx fun b => fin2 b))
  · exact wp_if_neg pl (wpAny_bind (wpAny_pure (fin2 true)))
end
/-- such a set, as what stands at a -/
def MSet (P : Program) (w : World) (a : Addr) (L : List Mem) : HO := .ext fun h => ∃ t, Held P w h a L t
theorem mset_new {P : Program} {w : World} {H : Hp} {h : Heap} {a : Addr} {L : List Mem} {t : SetTable} (R : Held P w h a L t) : ObjOk P w H h a (MSet P w a L) := by
  have ⟨o, ep, ho, r⟩ := R.it
  refine ⟨⟨t, R⟩, ⟨o, ho⟩, fun h1 h2 p k => ?_⟩
  obtain ⟨t1, R1⟩ := p
  have ⟨o1, ep1, ho1, r1⟩ := R1.it
  exact ⟨t1, ⟨o1, ep1, k o1 ho1, r1⟩, R1.tab, R1.once, R1.room, R1.few⟩
theorem items_keys {P : Program} {w : World} : ∀ {k : List Key} {us : List Value}, Vals (k.map kV) us → ItemsAre (mixKind P w) k us
  | [], _, .nil => .nil
  | _ :: _, _, .cons r t => .cons (kV_is r) (items_keys t)
section
variable {X : Cx} {pins : List (Addr × Obj)} {σ : L2.St} {H : Hp} {s : Shared}
theorem inv_isM (I : Inv X pins σ H s) {b : Addr} {k : List Key} (h : SqT X.K H b (k.map kV)) : IsM X.prog X.w s.heap k b := by
  obtain ⟨its, r, ⟨o, ho, hc, n, hd⟩, _⟩ := I.tuple h
  exact ⟨o, its.toArray, n, ho, hc, hd, by simpa using items_keys r⟩
def tyM (P : Program) (w : World) (x : V) (H : Hp) : Prop := ∃ a L, x = .ref a ∧ H a = some (MSet P w a L)
theorem tyM_ok : TyOk X "set" (tyM X.prog X.w) := by
  intro pins σ H s x v I r ⟨a, L, e, ha⟩
  subst e
  cases r
  obtain ⟨t, R⟩ := (I.hok a _ ha).1
  exact ⟨R.typeIs, R.noDict⟩
/-- set() -/
def rNewM (P : Program) (w : World) : List V → Hp → VK → Prop := fun xs H Q => xs = [] ∧ ∀ p, H p = none → Q (.ref p) (upd H p (MSet P w p []))
theorem cr_newM : CallR X (.type "set") (rNewM X.prog X.w) := by
  intro pins s σ H xs us Q I r ⟨e, q⟩
  subst e
  cases r
  refine setR_new fun _ => ?_
  have R : Held X.prog X.w (s.heap.push { cls := .type "set", dict := none, data := .set #[] 0 (.fresh 0 0 (!X.w.params.followText "set-order")) }) s.heap.objs.size [] (.fresh 0 0 (!X.w.params.followText "set-order")) :=
    ⟨⟨_, 0, Heap.get?_push_size _ rfl, ⟨rfl, rfl, rfl⟩, rfl⟩, (setTR_fresh (P := X.prog) (w := X.w) (Heap.get?_push_size s.heap rfl)).tab, List.nodup_nil, Nat.lt_of_lt_of_le (by decide : (0:Nat) < 7 * 3) (Nat.le_refl _), by decide⟩
  exact ⟨.ref _, _, I.laid (t' := s.toks) (fun b u e => Heap.get?_push_of_some _ e) (Nat.le_refl _) (mset_new R), rfl, q _ (I.hok.fresh (Nat.le_refl _))⟩
/-- seen.add(key) -/
def rAddM (K : PySem.W.Frag) (P : Program) (w : World) : V → List V → Hp → VK → Prop := fun x xs H Q => ∃ (a b : Addr) (k : List Key) (L : List Mem), x = .ref a ∧ xs = [.ref b] ∧ H a = some (MSet P w a L) ∧ SqT K H b (k.map kV) ∧
  (∀ r ∈ L, SqT K H r.1 (r.2.map kV)) ∧ L.length + 1 < 64 ∧ ∀ L', (k ∈ L.map (·.2) → L' = L) → (k ∉ L.map (·.2) → L'.Perm ((b, k) :: L)) → Q .non (upd H a (MSet P w a L'))
theorem mt_addM (hu : X.A.units + 64 < cLine) : MtR X "set.add" (rAddM X.K X.prog X.w) := by
  intro pins s σ H x xs v us Q I rx rxs ⟨a, b, k, L, e1, e2, ha, hb, hL, few, q⟩
  subst e1 e2
  cases rx
  cases rxs with
  | cons ry rt =>
    cases rt
    cases ry
    obtain ⟨t, R⟩ := (I.hok a _ ha).1
    have hx := inv_isM I hb
    refine wpAny_call_entry F.slot_set_add R.typeIs F.entry_set_add ?_ (F.args_set_add_2 _ _)
    unfold Builtin.«set.add» Builtin.Frozenset.oneOther Builtin.Frozenset.addrOf setAdd
    simp only [List.isEmpty_nil, bind_assoc]
    refine wpAny_bind (wpAny_pure (wpAny_bind (wpAny_pure ?_)))
    try dsimp only
    refine wpAny_bind (wpAny_holding (wpAny_bind (wpAny_pyHash_tuple (knd := mixKind X.prog X.w) ?_ hx (add_m (s := { s with toks := s.toks + (k.length + 1) }) R (fun r hr => inv_isM I (hL r hr)) hx ?_ few fun b' h' L' t' sb R' y n => ?_))))
    · show X.A.units + 1 < cLine
      omega
    · show X.A.units + 1 < cLine
      omega
    · show wpAny _ _ (ret Value.none) _ _ _
      have ⟨o, _, ho, _⟩ := R'.it
      exact wpAny_pure ⟨_, rfl, .non, _, I.write (e := a) (t' := s.toks + (k.length + 1)) (by rw [ha]; trivial) (.inl rfl) (fun c u hc hu => (sb.2 c hc).trans hu) ⟨o, ho⟩ (mset_new R'), rfl, q L' y n⟩
/-- key in seen -/
def rInM (K : PySem.W.Frag) (P : Program) (w : World) : V → V → Hp → VK → Prop := fun x y H Q => ∃ (a b : Addr) (k : List Key) (L : List Mem), x = .ref b ∧ y = .ref a ∧ H a = some (MSet P w a L) ∧ SqT K H b (k.map kV) ∧
  (∀ r ∈ L, SqT K H r.1 (r.2.map kV)) ∧ Q (.bl (hasKey (L.map (·.2)) k)) H
theorem or_inM (hu : X.A.units + 64 < cLine) : OpR X (compareOp .In) (rInM X.K X.prog X.w) := by
  intro pins s σ H x y v u Q I rx ry ⟨a, b, k, L, e1, e2, ha, hb, hL, q⟩
  subst e1 e2
  cases rx
  cases ry
  obtain ⟨t, R⟩ := (I.hok a _ ha).1
  show wpAny _ _ (contains (.ref a) (.ref b) >>= fun z => pure (Value.bool z)) _ _ s
  exact wpAny_bind (has_m R (fun r hr => inv_isM I (hL r hr)) (inv_isM I hb) (by omega) fun n => wpAny_pure ⟨V.bl (hasKey (L.map fun r : Mem => r.2) k), H, I.tok _, rfl, q⟩)
end
end My


set_option Elab.async false
set_option linter.all false
set_option maxRecDepth 100000
/-! Defs called by name: f(k = v, ..), f(e, k = v, ..). -/
namespace My
open PySem PySem.Spec PyProof.Rows L2
abbrev fdN (x : Str) (st : Stmt) (kV doc pm : Value) (an : Option Addr) (cdv ct : Value) : FuncData := PySem.W.fnOf x x (C8.fnArgs st) (C8.fnBody st) (C8.fnScope st) .none kV doc pm an cdv ct
/-- a def without defaults -/
def DefK (K : PySem.W.Frag) (mg : Str → Option Value) (x : Str) (st : Stmt) (ps : List Str) : Prop := ∃ (f : Addr) (fd : FuncData), C8.Def K mg x st f fd ∧ Binds K fd ps [] ∧ fd.defaults = .none
theorem DefK.b {K : PySem.W.Frag} {mg : Str → Option Value} {x : Str} {st : Stmt} {ps : List Str} (D : DefK K mg x st ps) : DefB K mg x st ps := by
  obtain ⟨f, fd, F, b, _⟩ := D
  exact ⟨f, fd, F, b⟩
structure CalK (P : Program) (w : World) (K : PySem.W.Frag) (mg : Str → Option Value) (base : Heap) (k : Nat) (x : Str) (st : Stmt) (ps : List Str) (sp : Sp) : Prop where
  ex : ∃ (f : Addr) (kV doc pm : Value) (an : Option Addr) (cdv ct : Value), FnOk P w K mg base CX0 k f (fdN x st kV doc pm an cdv ct) ps sp ∧ mg x = some (.ref f) ∧ PySem.W.keepIn K (.ref f) = true ∧ Binds K (fdN x st kV doc pm an cdv ct) ps []
section
variable {P : Program} {w : World} {K : PySem.W.Frag} {mg : Str → Option Value} {base : Heap} {x : Str} {st : Stmt} {ps N : List Str} {k : Nat} {sp : Sp}
theorem CalK.cal (c : CalK P w K mg base k x st ps sp) : C8.Cal P w K mg base k x sp [] := by
  obtain ⟨f, kV, doc, pm, an, cdv, ct, F, m, kp, b⟩ := c.ex
  exact ⟨f, _, ps, [], F, m, kp, b, .nil⟩
theorem calK {ps : List Str} (D : DefK K mg x st ps) (S : FnScope N ps (C8.fnScope st)) (len : ∀ vs H Q E, sp vs H Q E → vs.length = ps.length)
    (hbody : ∀ (f : Addr) (cdv : Value) (A : Around) (outer : List Env) (s : Shared) (H : Hp) (vs : List V) (Q : VK) (E : XK), Room k (A.deeper (envOfC x (C8.fnScope st) s.heap.objs.size f cdv)) → sp vs H Q E →
      ∃ t, PSs (cxOf CX0 P w K mg base N x (C8.fnScope st) f cdv A outer s H E).nox (C8.fnBody st) t ∧ t { nx := fun _ H' => Q .non H', rt := Q } (start N vs) H) : CalK P w K mg base (k + 1) x st ps sp := by
  obtain ⟨f, fd, F, b, df⟩ := D
  have G := C8.fn0 (P := P) (w := w) (mg := mg) (base := base) F.fn S len (hbody f)
  obtain ⟨oc, od, dV, kV, doc, pm, an, cdv, ct, osl, e, lk, hcd⟩ := F.fn.ex
  subst e
  have e2 : dV = .none := df
  subst e2
  exact ⟨f, kV, doc, pm, an, cdv, ct, G, F.mgf, F.kp, b⟩
end
/-- n values by place, then those of the names ks, in the order of the parameters -/
def KwOf (x : Str) (st : Stmt) (ps : List Str) (n : Nat) (ks : List Str) : Prop := ∀ (kV doc pm : Value) (an : Option Addr) (cdv ct : Value) (us ws : List Value), us.length = n → ws.length = ks.length →
  bindArgs (fdN x st kV doc pm an cdv ct) ⟨us, ks.zip ws⟩ = pure (ps.zip (us ++ ws))
section
variable {X : Cx} {k j n : Nat} {x : Str} {st : Stmt} {ps ks : List Str} {sp : Sp} {p pos : Pos} {e : Expr} {es : List Expr} {kws : List Keyword} {t tk : TA}
theorem kbn {K : PySem.W.Frag} {kV doc pm : Value} {an : Option Addr} {cdv ct : Value} (h : KwOf x st ps n ks) : KBn K (fdN x st kV doc pm an cdv ct) ps n ks (fun us ws => us ++ ws) (fun vs zs => vs ++ zs) :=
  ⟨fun s us ws _ l1 l2 => .of_eq (h kV doc pm an cdv ct us ws l1 l2), fun r r2 => r.append r2⟩
theorem pe_ckN (c : CalK X.prog X.w X.K X.mg X.base k x st ps sp) (kb : KwOf x st ps n ks) (hr : Room j X.A) (hk : k ≤ j) (hg : Gl X x) (ha : PA X (e :: es) t) (hkw : PK X kws tk)
    (hall : (backToKw pos (keywordEach kws X.env)).all (·.1.isSome) = true := by rfl) (hks : (backToKw pos (keywordEach kws X.env)).filterMap (·.1) = ks := by rfl) (hdb : (x == ("__debug__" : Str)) = false := by decide)
    (he : starEach (e :: es) X.env = (false, eval e X.env) :: starEach es X.env := by rfl) (hpl : ((backTo pos (starEach (e :: es) X.env)).any (·.1) || (backToKw pos (keywordEach kws X.env)).any (·.1.isNone)) = false := by rfl) :
    PE X (.Call (.Name x p) (e :: es) kws pos) (tCallN n ks.length sp (fun vs zs => vs ++ zs) C8.E0 t tk) := by
  obtain ⟨f, kV, doc, pm, an, cdv, ct, F, m, kp, b⟩ := c.ex
  exact pe_callN F (hr.mono hk) hg m kp (kbn kb) pass0 ha hkw hall hks hdb he hpl
def tCallN0 (m : Nat) (sp : Sp) (tk : TA) : TE := fun σ H Q => tk σ H fun zs H2 => zs.length = m ∧ sp zs H2 Q C8.E0
theorem pe_ck0 (c : CalK X.prog X.w X.K X.mg X.base k x st ps sp) (kb : KwOf x st ps 0 ks) (hr : Room j X.A) (hk : k ≤ j) (hg : Gl X x) (hkw : PK X kws tk)
    (hall : (backToKw pos (keywordEach kws X.env)).all (·.1.isSome) = true := by rfl) (hks : (backToKw pos (keywordEach kws X.env)).filterMap (·.1) = ks := by rfl) (hdb : (x == ("__debug__" : Str)) = false := by decide)
    (hpl : ((backTo pos (starEach [] X.env)).any (·.1) || (backToKw pos (keywordEach kws X.env)).any (·.1.isNone)) = false := by rfl) : PE X (.Call (.Name x p) [] kws pos) (tCallN0 ks.length sp tk) := by
  obtain ⟨f, kV, doc, pm, an, cdv, ct, F, m, kp, b⟩ := c.ex
  refine ⟨fun pins s σ H Q I h => wpAny_Call_Name_kw (ld_glob I hg m ?_ hdb)⟩
  refine PySem.W.callWith_KW0 (h₀ := X.base) I.ok.mod.kin kp hall (thn (hkw.run pos pins s σ H _ I h) fun ws s2 ⟨zs, H2, I2, rz, l2, q2⟩ => ⟨I2.kIn, ?_⟩) hpl
  rw [hks]
  exact run_fnN F (hr.mono hk) (kbn kb) pass0 I2 .nil rz rfl l2 q2
end
end My


set_option Elab.async false
set_option linter.all false
set_option maxRecDepth 100000
/-! What parts of a law share: items drawn one by one, right parts. -/
namespace My
open PySem PySem.Spec PyProof.Rows L2
/-- a part of the law: it draws m times at most, and is right -/
def spRight (m : Nat) : Sp := fun vs H Q _ => ∃ (p c : Addr) (n : Nat), vs = [.ref p] ∧ Well H p c (n + m) ∧ ∀ H', Keep p H H' → Well H' p c n → Q (.bl true) H'
theorem iteN {c : Bool} {a b : Prop} (h : c = false) (hb : b) : if c = true then a else b := by
  rw [h]
  exact iteF hb
theorem iteY {c : Bool} {a b : Prop} (h : c = true) (ha : a) : if c = true then a else b := by
  rw [h]
  exact iteT ha
theorem chainV {f g : Int → Int → Bool} {i j : Nat} {σ : L2.St} {H : Hp} {Q : VK} {a b c : Int} (h1 : σ[i]? = some (some (.int a))) (h3 : σ[j]? = some (some (.int c))) (q : Q (.bl (f a b && g b c)) H) :
    tChain (rI0 fun i j => .bl (f i j)) (rI0 fun i j => .bl (g i j)) (tVar i) (tC (.int b)) (tVar j) σ H Q := by
  refine ⟨_, h1, a, b, rfl, rfl, _, rfl, ?_⟩
  cases e : f a b with
  | true =>
    rw [e] at q
    exact iteT ⟨_, h3, b, c, rfl, rfl, q⟩
  | false =>
    rw [e] at q
    exact iteF q
theorem dp_blsA {K : PySem.W.Frag} {H : Hp} : ∀ bs : List Bool, DpAll K H (bs.map V.bl) (bs.map PyData.bool)
  | [] => .nil
  | b :: bs => .cons (.bl b) (dp_blsA bs)
theorem eqv_blsA : ∀ as bs : List Bool, PyData.eqvAll (as.map PyData.bool) (bs.map PyData.bool) = decide (as = bs)
  | [], [] => by simp [PyData.eqvAll]
  | [], b :: bs => by simp [PyData.eqvAll]
  | a :: as, [] => by simp [PyData.eqvAll]
  | a :: as, b :: bs => by
    simp only [List.map_cons, PyData.eqvAll, PyData.eqv, eqv_blsA as bs]
    cases a <;> cases b <;> simp
theorem Well.upd {H : Hp} {p c D : Addr} {n : Nat} {o : HO} (w : Well H p c n) (np : p ≠ D) (nc : c ≠ D) : Well (upd H D o) p c n := by
  obtain ⟨cells, t, r, h1, h2, h3⟩ := w
  exact ⟨cells, t, r, by rw [upd_ne np]; exact h1, by rw [upd_ne nc]; exact h2, h3⟩
theorem room200 {k : Nat} {A : Around} (r : Room k A) : A.units + 200 < cLine := by
  have := r.un
  omega
/-- x in a tuple of nested data -/
def rInT (K : PySem.W.Frag) : R2 := fun x y H Q => ∃ d ds, Dp K H x d ∧ Dp K H y (.tuple ds) ∧ SeqAt.shaped d = true ∧ SeqAt.shaped (.tuple ds) = true ∧ Q (.bl (ds.any fun z => PyData.eqv z d)) H
theorem op_inT {X : Cx} (hu : X.A.units + 200 < cLine) : OpR X (compareOp .In) (rInT X.K) := by
  intro pins s σ H x y v u Q I rx ry ⟨d, ds, hd, he, sd, se, q⟩
  obtain ⟨as, r1⟩ := Dp.reads I d x v hd rx
  obtain ⟨bs, r2⟩ := Dp.reads I (.tuple ds) y u he ry
  have dd : d.depth ≤ 64 := by
    have z := sd
    unfold SeqAt.shaped at z
    exact of_decide_eq_true ((Bool.and_eq_true _ _).mp z).2
  refine SeqAt.in_tuple_reads r2 r1 ?_ ?_ (by omega) ⟨.bl _, H, I, rfl, q⟩
  · have z := se
    unfold SeqAt.shaped at z
    have z2 := ((Bool.and_eq_true _ _).mp z).1
    simpa only [PyData.canLay0] using z2
  · have z := sd
    unfold SeqAt.shaped at z
    exact ((Bool.and_eq_true _ _).mp z).1
/-- a comprehension over a range, each item drawn -/
theorem lc_draw {lo : Int} {n : Nat} {g : TG} {te : TE} {vs : List Nat} {σ : L2.St} {H1 : Hp} {D p c : Addr} {d r : Nat} {Qd : Hp → Prop} (R : Nat → V → Prop) (hD : H1 D = none) (hn : n ≤ 100000) (W : Well H1 p c (r + n * d))
    (hs : ∀ (i : Nat) (m : Nat) (H : Hp) (Kc : V → Hp → Prop), i < n → Keep p H1 H → Well H p c (m + d) → (∀ y H4, R i y → Keep p H H4 → Well H4 p c m → Kc y H4) → g (.int (lo + i)) (wipe σ vs) H fun σ2 H2 => wipe σ2 vs = wipe σ vs ∧ te σ2 H2 Kc)
    (hd : ∀ acc H, Keep p H1 H → Well H p c r → H D = some (.lst acc) → acc.length = n → (∀ (j : Nat) (y : V), acc[j]? = some y → R j y) → Qd H) :
    ∃ W : Nat → Nat → Hp → Prop, (∃ m, W 0 m (upd H1 D (.lst []))) ∧ ∀ i m H, W i m H →
      ((Itr lo n).stop i H ∧ Qd H) ∨ ((Itr lo n).go i H ∧ ∃ Nx : Hp → Prop, (∀ H', Nx H' → ∃ m', m' < m ∧ W (i + 1) m' H') ∧ ∀ x H', (Itr lo n).yld i H x H' → g x (wipe σ vs) H' fun σ2 H2 => wipe σ2 vs = wipe σ vs ∧ tYes σ2 H2 fun b H3 =>
        if b = true then te σ2 H3 fun y H4 => ∃ acc, H4 D = some (.lst acc) ∧ acc.length < sizeLine ∧ Nx (upd H4 D (.lst (acc ++ [y]))) else Nx H3) := by
  obtain ⟨cells, t, r0, hp, hc, _⟩ := id W
  have np : p ≠ D := ne_of_none hp hD
  have nc : c ≠ D := ne_of_none hc hD
  refine lc_range (lo := lo) (n := n) (fun i H => Keep p H1 H ∧ Well H p c (r + (n - i) * d) ∧ ∃ acc, H D = some (.lst acc) ∧ acc.length = i ∧ ∀ (j : Nat) (y : V), acc[j]? = some y → R j y) ⟨Keep.of (same_new hD _), W.upd np nc, [], upd_same, rfl, fun j y h => by simp at h⟩ ?_ ?_
  · rintro i H hi ⟨k, w, acc, hacc, len, all⟩
    have e : r + (n - i) * d = (r + (n - (i + 1)) * d) + d := by
      have : n - i = (n - (i + 1)) + 1 := by omega
      rw [this, Nat.add_mul, Nat.one_mul, Nat.add_assoc]
    rw [e] at w
    refine hs i _ H _ hi k w fun y H4 ry k4 w4 => ?_
    have h4 := k4 _ _ hacc np.symm
    refine ⟨acc, h4, Nat.lt_of_lt_of_le (by omega : acc.length < 100001) (by decide), fun b o hb nb => ?_, w4.upd np nc, _, upd_same, by rw [List.length_append, len]; rfl, fun j z hz => ?_⟩
    · rw [upd_ne (ne_of_none hb hD)]
      exact k4 _ _ (k _ _ hb nb) nb
    · by_cases lt : j < acc.length
      · rw [List.getElem?_append_left lt] at hz
        exact all j z hz
      · rw [List.getElem?_append_right (by omega)] at hz
        have ej : j - acc.length = 0 := by
          cases q0 : j - acc.length with
          | zero => rfl
          | succ m => rw [q0] at hz; simp at hz
        rw [ej] at hz
        cases hz
        have : j = i := by omega
        rw [this]
        exact ry
  · rintro H ⟨k, w, acc, hacc, len, all⟩
    rw [Nat.sub_self, Nat.zero_mul, Nat.add_zero] at w
    exact hd acc H k w hacc len all
/-- a comprehension over enumerate(a list): P tells what is made so far -/
theorem lc_enumL {K : PySem.W.Frag} {a : Addr} {xs : List V} {g : TG} {tt : TT} {te : TE} {vs : List Nat} {σ : L2.St} {H1 : Hp} {D : Addr} {Qd : Hp → Prop} (P : Nat → List V → Prop) (hx : SqL K H1 a xs) (hD : H1 D = none) (hz : xs.length ≤ 100000) (h0 : P 0 [])
    (hs : ∀ (i : Nat) (x : V) (acc : List V) (T : Addr) (H : Hp) (Kc : V → Hp → Prop) (Nc : Hp → Prop), xs[i]? = some x → Same H1 H → H T = none → P i acc →
      (∀ y H4, Same (upd H T (.tup [.int (i : Nat), x])) H4 → P (i + 1) (acc ++ [y]) → Kc y H4) → (∀ H4, Same (upd H T (.tup [.int (i : Nat), x])) H4 → P (i + 1) acc → Nc H4) →
      g (.ref T) (wipe σ vs) (upd H T (.tup [.int (i : Nat), x])) fun σ2 H2 => wipe σ2 vs = wipe σ vs ∧ tt σ2 H2 fun b H3 => if b = true then te σ2 H3 Kc else Nc H3)
    (hd : ∀ acc H, Same H1 H → H D = some (.lst acc) → P xs.length acc → Qd H) :
    ∃ W : Nat → Nat → Hp → Prop, (∃ m, W 0 m (upd H1 D (.lst []))) ∧ ∀ i m H, W i m H →
      ((Ite K a).stop i H ∧ Qd H) ∨ ((Ite K a).go i H ∧ ∃ Nx : Hp → Prop, (∀ H', Nx H' → ∃ m', m' < m ∧ W (i + 1) m' H') ∧ ∀ x H', (Ite K a).yld i H x H' → g x (wipe σ vs) H' fun σ2 H2 => wipe σ2 vs = wipe σ vs ∧ tt σ2 H2 fun b H3 =>
        if b = true then te σ2 H3 fun y H4 => ∃ acc, H4 D = some (.lst acc) ∧ acc.length < sizeLine ∧ Nx (upd H4 D (.lst (acc ++ [y]))) else Nx H3) := by
  refine ⟨fun i m H => m = xs.length - i ∧ i ≤ xs.length ∧ Same H1 H ∧ ∃ acc, H D = some (.lst acc) ∧ acc.length ≤ i ∧ P i acc, ⟨_, rfl, Nat.zero_le _, same_new hD _, [], upd_same, Nat.le_refl _, h0⟩, fun i m H h => ?_⟩
  obtain ⟨em, hi, e, acc, hacc, len, pa⟩ := h
  by_cases lt : i < xs.length
  · refine .inr ⟨⟨xs, xs[i], e.seq hx, List.getElem?_eq_getElem lt⟩, fun H' => Same H1 H' ∧ ∃ acc, H' D = some (.lst acc) ∧ acc.length ≤ i + 1 ∧ P (i + 1) acc, fun H' n => ⟨xs.length - (i + 1), by omega, rfl, lt, n⟩, fun v H' y => ?_⟩
    obtain ⟨T, x, ev, nT, eH, hxs⟩ := y
    subst ev eH
    have e2 := same_new nT (.tup [.int (i : Nat), x])
    refine hs i x acc T H _ _ (hxs xs (e.seq hx)) e nT pa (fun y H4 e4 p4 => ?_) fun H4 e4 p4 => ⟨(e.trans e2).trans e4, acc, e4 _ _ (e2 _ _ hacc), by omega, p4⟩
    refine ⟨acc, e4 _ _ (e2 _ _ hacc), Nat.lt_of_lt_of_le (by omega : acc.length < 100001) (by decide), fun b o hb => ?_, _, upd_same, by rw [List.length_append]; show _ + 1 ≤ _; omega, p4⟩
    rw [upd_ne (ne_of_none hb hD)]
    exact ((e.trans e2).trans e4) b o hb
  · have ei : i = xs.length := by omega
    subst ei
    exact .inl ⟨⟨xs, e.seq hx, Nat.le_refl _⟩, hd acc H e hacc pa⟩
mutual
theorem dp_same {K : PySem.W.Frag} {H H' : Hp} (e : Same H H') : ∀ {v : V} {d : PyData}, Dp K H v d → Dp K H' v d
  | _, _, .non => .non
  | _, _, .bl b => .bl b
  | _, _, .int i => .int i
  | _, _, .str x => .str x
  | _, _, .lst h a => .lst (e.seq h) (dpAll_same e a)
  | _, _, .tup h a => .tup (same_seqT e h) (dpAll_same e a)
theorem dpAll_same {K : PySem.W.Frag} {H H' : Hp} (e : Same H H') : ∀ {vs : List V} {ds : List PyData}, DpAll K H vs ds → DpAll K H' vs ds
  | _, _, .nil => .nil
  | _, _, .cons a r => .cons (dp_same e a) (dpAll_same e r)
end
theorem get_snoc {α : Type} {acc : List α} {x y : α} {j : Nat} (h : (acc ++ [x])[j]? = some y) : acc[j]? = some y ∨ (j = acc.length ∧ y = x) := by
  by_cases lt : j < acc.length
  · rw [List.getElem?_append_left lt] at h
    exact .inl h
  · rw [List.getElem?_append_right (by omega)] at h
    cases e : j - acc.length with
    | zero =>
      rw [e] at h
      cases h
      exact .inr ⟨by omega, rfl⟩
    | succ m =>
      rw [e] at h
      simp at h
end My


set_option Elab.async false
set_option linter.all false
set_option maxRecDepth 100000
/-! Defs that are called where no repr is under way. -/
namespace My
open PySem PySem.Spec PyProof.Rows L2
/-- no repr of a container is under way -/
def NG (A : Around) : Prop := A.guards = some []
theorem NG.caller : NG callerA := rfl
theorem NG.deeper {A : Around} (h : NG A) (e : Env) : NG (A.deeper e) := by
  have h : A.guards = some [] := h
  show (A.deeper e).guards = some []
  first
    | exact h
    | (unfold Around.deeper; exact h)
    | (unfold Around.deeper; simp [h])
/-- a def's promise there -/
structure FnG (P : Program) (w : World) (K : PySem.W.Frag) (mg : Str → Option Value) (base : Heap) (k : Nat) (f : Addr) (fd : FuncData) (ps : List Str) (sp : Sp) : Prop where
  len : ∀ vs H Q E, sp vs H Q E → vs.length = ps.length
  run : ∀ (A : Around) (outer : List Env) (s : Shared) (H : Hp) (args : Args) (us : List Value) (vs : List V) (Q : VK) (E : XK), NG A → Room k A → Env0 P w K mg base A outer s H → BindsTo s fd args (ps.zip us) → Vals vs us → sp vs H Q E →
    codeAny (model P w) A (.call (.ref f) args) (CR CX0 outer P w H s Q E) s
section
variable {P : Program} {w : World} {K : PySem.W.Frag} {mg : Str → Option Value} {base : Heap}
theorem fnG {f : Addr} {name qual : Str} {params : Arguments} {body : List Stmt} {scope : Scope} {dV kV doc pm cdv ct oc : Value} {an od : Option Addr} {osl : Array (Option Value)} {N ps : List Str} {sp : Sp} {k : Nat}
    (lk : K.lookup f = some ⟨oc, od, .func (PySem.W.fnOf name qual params body scope dV kV doc pm an cdv ct), osl⟩) (hcd : PySem.W.codeIn K cdv qual = true) (S : FnScope N ps scope) (len : ∀ vs H Q E, sp vs H Q E → vs.length = ps.length)
    (hbody : ∀ (A : Around) (outer : List Env) (s : Shared) (H : Hp) (vs : List V) (Q : VK) (E : XK), NG A → Room k (A.deeper (envOfC qual scope s.heap.objs.size f cdv)) → sp vs H Q E →
      ∃ t, PSs (cxOf CX0 P w K mg base N qual scope f cdv A outer s H E).nox body t ∧ t { nx := fun _ H' => Q .non H', rt := Q } (start N vs) H) : FnG P w K mg base (k + 1) f (PySem.W.fnOf name qual params body scope dV kV doc pm an cdv ct) ps sp := by
  refine ⟨len, fun A outer s H args us vs Q E ng hr e0 hb r hsp => ?_⟩
  have stay : ∀ b o, base.get? b = some o → s.heap.get? b = some o := fun b o e => (e0.bs b o e).1
  have inS : K.In s.heap := e0.mod.kin.keeps stay
  refine codeAny_call_function hr.depth (inS _ _ lk) rfl S.co S.gen rfl (PySem.W.codeRec_of inS hcd) (hb _ _ _ _ (wpAny_newFunctionEnv_cells S.kind (fun y hy => ?_) fun env he s1 x => ?_))
  · exact (S.par y.1 (List.of_mem_zip (by exact hy)).1).elim .inl fun z => .inr ⟨z, PySem.W.cellsFrom_some _ _ _ (.inl z)⟩
  subst he
  refine ⟨(e0.mod.nolimit.keeps stay).keeps x.toInCall.keep, codeAny_func ?_⟩
  obtain ⟨t, ht, hq⟩ := hbody A outer s H vs Q E ng (hr.deeper _) hsp
  have J0 : Inv (cxOf CX0 P w K mg base N qual scope f cdv A outer s H E) [] (start N vs) H s1 := inv_start S hr.hd e0 (len _ _ _ _ hsp) r x
  refine wpAny_mono (ht.nox.run [] s1 (start N vs) H _ J0 hq) (fun fl s' back => ?_) fun _ _ back => back
  cases fl with
  | ret u =>
    obtain ⟨v, σ', H', J, rv, q⟩ := back
    exact ⟨v, H', J.os, J.bare, J.base, J.hok, rv, q⟩
  | next =>
    obtain ⟨σ', H', J, q⟩ := back
    exact ⟨.non, H', J.os, J.bare, J.base, J.hok, rfl, q⟩
  | brk => exact back.elim fun _ z => z.elim fun _ z => z.2.elim
  | cont => exact back.elim fun _ z => z.elim fun _ z => z.2.elim
end
section
variable {X : Cx} {k j : Nat} {x : Str} {f : Addr} {fd : FuncData} {ps : List Str} {sp : Sp} {p pos : Pos} {e : Expr} {es : List Expr} {t : TA}
theorem pe_cG (F : FnG X.prog X.w X.K X.mg X.base k f fd ps sp) (b : Binds X.K fd ps []) (hm : X.mg x = some (.ref f)) (kp : PySem.W.keepIn X.K (.ref f) = true) (ng : NG X.A) (hr : Room j X.A) (hk : k ≤ j) (hg : Gl X x) (ha : PA X (e :: es) t)
    (hdb : (x == ("__debug__" : Str)) = false := by decide) (he : starEach (e :: es) X.env = (false, eval e X.env) :: starEach es X.env := by rfl) (hpl : (backTo pos (starEach es X.env)).any (·.1) = false := by rfl) :
    PE X (.Call (.Name x p) (e :: es) [] pos) (tCall sp [] C8.E0 t) := by
  refine ⟨fun pins s σ H Q I h => wpAny_Call_Name_kw (ld_glob I hg hm ?_ hdb)⟩
  refine PySem.W.callWith_K (h₀ := X.base) I.ok.mod.kin kp (thn (ha.run pos pins s σ H _ I h) fun us s1 ⟨vs, H1, I1, r, q⟩ => ⟨I1.kIn, ?_⟩) he hpl
  have hl : (us ++ []).length = ps.length := by
    rw [← F.len _ _ _ _ q, List.append_nil, List.append_nil]
    exact r.length.symm
  refine wpAny_call (codeAny_mono (F.run X.A X.stack s1 H1 ⟨us, []⟩ (us ++ []) (vs ++ []) Q C8.E0 ng (hr.mono hk) I1.env0 (b s1 us I1.kIn hl) (r.append .nil) q) fun r s' back => ?_)
  cases r with
  | error er => exact pass0 pins σ H1 s1 er s' I1 back
  | ok fl =>
    cases fl with
    | ret u => exact I1.after back
    | _ => exact False.elim back
end
/-- the script as what is tracked at the beginning (or nothing, if it is one of the module's own) -/
theorem start_hp {P : Program} {w : World} {K : PySem.W.Frag} {h : Heap} {a : Addr} {vs : List Value} {ns : List Int} (KX : K.In h) (ha : h.get? a = some { cls := .type "list", data := .seq vs.toArray }) (hi : IntsAre vs ns) (hl : ns.length ≤ sizeLine) :
    ∃ H : Hp, Only H ∧ SqL K H a (ns.map V.int) ∧ HOk P w H h ∧ (∀ b, H b ≠ none → b = a) ∧ (H a ≠ none → K.lookup a = none) := by
  have rv := vals_ints hi
  have lv := hi.length
  cases hk : K.lookup a with
  | some o =>
    have e := KX a o hk
    rw [ha] at e
    cases e
    exact ⟨fun _ => none, fun _ => .inl rfl, .inr ⟨_, vs.toArray, _, hk, rfl, rfl, rfl, by rw [List.size_toArray, lv]; exact hl, by simpa using rv⟩, (fun b u z => nomatch z), (fun b z => absurd rfl z), fun z => absurd rfl z⟩
  | none =>
    let f : HO := .frz { cls := .type "list", data := .seq vs.toArray } (.lst (ns.map V.int))
    have at_a : (fun b => if b = a then some f else none : Hp) a = some f := if_pos rfl
    have off : ∀ b, b ≠ a → (fun b => if b = a then some f else none : Hp) b = none := fun b n => if_neg n
    refine ⟨fun b => if b = a then some f else none, fun b => ?_, .inl (.inr ⟨_, at_a⟩), fun b u z => ?_, fun b z => ?_, fun _ => rfl⟩
    · rcases Classical.em (b = a) with e | e
      · exact .inr ⟨_, _, by rw [e]; exact at_a⟩
      · exact .inl (off b e)
    · rcases Classical.em (b = a) with e | e
      · subst e
        rw [at_a] at z
        cases z
        exact ⟨ha, by rw [List.length_map]; exact hl, vs, _, rv, ha⟩
      · rw [off b e] at z
        cases z
    · rcases Classical.em (b = a) with e | e
      · exact e
      · exact absurd (off b e) z
theorem law_callG {P : Program} {w : World} {K : PySem.W.Frag} {mg mb : Str → Option Value} {k : Nat} {fa a : Addr} {fd : FuncData} {x : Str} {sp : Sp} {s₁ : Shared} {vs : List Value} {ns : List Int}
    (KX : K.In s₁.heap) (hns : s₁.heap.Ns mainGlobals mg) (hb : s₁.heap.Ns builtinsNs mb) (hbb : ∀ x : Str, x ≠ "__name__" → mb x = bootBuiltins x) (hlim : s₁.heap.NoLimit) (hg : s₁.gens = #[])
    (ha : s₁.heap.get? a = some { cls := .type "list", data := .seq vs.toArray }) (hi : IntsAre vs ns) (hl : ns.length ≤ sizeLine) (hr : Room k callerA)
    (F : ∀ base : Heap, K.In base → base.Ns mainGlobals mg → FnG P w K mg base k fa fd [x] sp) (hbind : ∀ (s : Shared) (u : Value), BindsTo s fd ⟨[u], []⟩ [(x, u)])
    (hsp : ∀ H : Hp, Only H → SqL K H a (ns.map V.int) → sp [.ref a] H (fun v _ => v = .bl true) fun _ _ _ => False) :
    codeAny (model P w) callerA (.call (.ref fa) ⟨[.ref a], []⟩) (fun r s' => r = .ok (.ret (.bool true)) ∧ OldK s₁.heap s'.heap ∧ s'.os = s₁.os ∧ AllBare s'.gens) s₁ := by
  obtain ⟨H, hO, hS, hok, hA, hK⟩ := start_hp (P := P) (w := w) KX ha hi hl
  have put : ∀ {b : Addr} {o : Obj}, s₁.heap.get? b = some o → H b = none → (hidT s₁.heap H).get? b = some o := fun e n => hidT_get e n
  have free : ∀ {b : Addr}, b ≠ a → H b = none := fun {b} n => by
    cases q : H b with
    | none => rfl
    | some u => exact absurd (hA b (by rw [q]; simp)) n
  have nsOf : ∀ {b : Addr} {m : Str → Option Value}, s₁.heap.Ns b m → (hidT s₁.heap H).Ns b m := fun {b m} ⟨o, es, ep, e, d, r⟩ => by
    refine ⟨o, es, ep, put e (free fun z => ?_), d, r⟩
    subst z
    rw [ha] at e
    cases e
    cases d
  have inB : K.In (hidT s₁.heap H) := fun b o e => put (KX b o e) (by
    rcases Classical.em (b = a) with z | z
    · subst z
      cases q : H b with
      | none => rfl
      | some u =>
        rw [hK (by rw [q]; simp)] at e
        cases e
    · exact free z)
  have mod : Mod K mg (hidT s₁.heap H) := ⟨inB, nsOf hns, ⟨mb, nsOf hb, hbb⟩, by obtain ⟨mc, h1, h2⟩ := hlim; exact ⟨mc, nsOf h1, h2⟩⟩
  have e0 : Env0 P w K mg (hidT s₁.heap H) callerA [] s₁ H := ⟨rfl, mod, fun b o e => of_hidT e, Nat.le_of_eq (hidT_size _ _), trivial, (fun b hb => by simp [frs] at hb), hok, .of_eq hg⟩
  refine codeAny_mono ((F _ inB (nsOf hns)).run callerA [] s₁ H ⟨[.ref a], []⟩ [.ref a] [.ref a] _ _ NG.caller hr e0 (hbind s₁ (.ref a)) (.cons rfl .nil) (hsp H hO hS)) fun r s' back => ?_
  cases r with
  | error e => exact back.elim
  | ok fl =>
    cases fl with
    | ret u =>
      obtain ⟨v, H', os, bare, un, hok', rv, q⟩ := back
      have q : v = .bl true := q
      subst q
      have eu : u = Value.bool true := rv
      subst eu
      refine ⟨rfl, OldK.of_keep fun b o e => ?_, os, bare⟩
      cases q2 : H b with
      | none => exact un.keep b o e q2 (by simp [frs]) (by simp)
      | some u =>
        rcases hO b with z | ⟨ob, xs, z⟩
        · rw [q2] at z
          cases z
        · obtain ⟨e1, _⟩ := hok b _ z
          obtain ⟨e2, _⟩ := hok' b _ (un.frzs b ob _ z)
          rw [e] at e1
          cases e1
          exact e2
    | _ => exact False.elim back
theorem walkG {l : PySem.W.OpenLaw} {n k : Nat} {q : Program} {loose : List Str} {XP : (Str → Option Value) → Heap → Prop} {YP : World → Heap → Prop} {d : DefRec} {K : Params → PySem.W.Frag} {sp : World → Sp} {x : Str} (hn : l.most = some n) (hn2 : n ≤ sizeLine) (hdf : d.params.defaults = []) (hr : Room k callerA)
    (hY : ∀ (w : World) (h : Heap), YP w h → (K w.params).In h)
    (F : ∀ (w : World) (mg : Str → Option Value) (fa : Addr) (h : Heap), (K w.params).In h → h.Ns mainGlobals mg → mg d.name = some (.ref fa) →
      ∃ fd : FuncData, (∀ (s : Shared) (u : Value), BindsTo s fd ⟨[u], []⟩ [(x, u)]) ∧ ∀ base : Heap, (K w.params).In base → base.Ns mainGlobals mg → FnG l.prog w (K w.params) mg base k fa fd [x] (sp w))
    (hsp : ∀ (w : World) (H : Hp) (a : Addr) (ns : List Int), ns.length ≤ n → Only H → SqL (K w.params) H a (ns.map V.int) → sp w [.ref a] H (fun v _ => v = .bl true) fun _ _ _ => False) :
    PySem.W.WalkO q loose XP YP l.row.toRowW d [] (fun f vs => PySem.call f vs) := by
  refine Att.attach_call hn hdf fun w s₀ s₁ mg mb fa o pm cd doc a vs ns G Y ho hd hcd hmg hobj hints hlen hg => ?_
  have KX := hY w _ Y
  obtain ⟨fd, hb, hF⟩ := F w mg fa _ KX G.T.g hmg
  exact law_callG KX G.T.g G.T.b G.T.builtins G.T.nolimit hg hobj hints (Nat.le_trans hlen hn2) hr hF hb fun H hO hS => hsp w H a ns hlen hO hS
theorem repr_ints {P : Program} {w : World} : ∀ {ns : List Int} {us : List Value}, Vals (ns.map V.int) us → (∀ i ∈ ns, i.natAbs.log2 < 1920) → ReprAll P w us (ns.map fun i => (toString i : String))
  | [], _, .nil, _ => .nil
  | n :: ns, _, .cons r t, h => by
    obtain ⟨tk, rfl⟩ := r
    exact .cons (ReprIs.int tk (h n List.mem_cons_self)) (repr_ints t fun i hi => h i (List.mem_cons_of_mem _ hi))
/-- repr of a tuple of small integers, where no repr is under way -/
def rReprT (K : PySem.W.Frag) : List V → Hp → VK → Prop := fun xs H Q => ∃ (a : Addr) (ns : List Int), xs = [.ref a] ∧ SqT K H a (ns.map V.int) ∧ (∀ i ∈ ns, i.natAbs.log2 < 1920) ∧ (tupleText (ns.map fun i => ((toString i : String) : Str))).length ≤ sizeLine ∧ Q (.str (tupleText (ns.map fun i => ((toString i : String) : Str)))) H
theorem cr_reprT {X : Cx} (ng : NG X.A) (hu : X.A.units + 64 < cLine) : CallR X (.builtin "repr") (rReprT X.K) := by
  intro pins s σ H xs us Q I r ⟨a, ns, e, h, sm, sz, q⟩
  subst e
  cases r with
  | cons r1 r2 =>
    cases r2
    cases r1
    obtain ⟨its, rv, ⟨o, ho, hc, n, hd⟩, _⟩ := I.tuple h
    refine call_repr_slot (by omega) ⟨o, ho, hc⟩ F.slot_tuple_repr (call_tuple_repr (g := []) ⟨o, ho, hc⟩ ?_ (fun c hc => nomatch hc) ho hd (by simpa using repr_ints rv sm) (fun u tk => ⟨_, _, rfl, .str _, H, ?_, ⟨_, rfl⟩, q⟩) sz)
    · exact ng
    · exact I.tok tk
end My


set_option Elab.async false
set_option linter.all false
set_option maxRecDepth 100000
namespace My
open PySem PySem.Spec PyProof.Rows L2
def topS (i : Nat) : Stmt := PySem.Challenge.pw_allnear_k01_checks_of_any_value.main.body.getD i (.Pass ⟨0, 0, 0, 0⟩)
structure Txt (K : PySem.W.Frag) (mg : Str → Option Value) : Prop where
  b_abs : mg "abs" = none
  b_all : mg "all" = none
  b_bool : mg "bool" = none
  b_enumerate : mg "enumerate" = none
  b_int : mg "int" = none
  b_isinstance : mg "isinstance" = none
  b_len : mg "len" = none
  b_list : mg "list" = none
  b_range : mg "range" = none
  b_repr : mg "repr" = none
  b_set : mg "set" = none
  b_tuple : mg "tuple" = none
abbrev s__law_well : Stmt := topS 13
abbrev N__law_well : List Str := ["script", "cell"]
abbrev P__law_well : List Str := ["script"]
theorem sc__law_well : FnScope N__law_well P__law_well (C8.fnScope s__law_well) := C8.fnScope_by (by decide +kernel)
abbrev s__law_pail : Stmt := topS 14
abbrev N__law_pail : List Str := ["well", "many", "turn", "cell", "mixed", "rest"]
abbrev P__law_pail : List Str := ["well", "many"]
theorem sc__law_pail : FnScope N__law_pail P__law_pail (C8.fnScope s__law_pail) := C8.fnScope_by (by decide +kernel)
abbrev s__law_of : Stmt := topS 15
abbrev N__law_of : List Str := ["well", "some"]
abbrev P__law_of : List Str := ["well", "some"]
theorem sc__law_of : FnScope N__law_of P__law_of (C8.fnScope s__law_of) := C8.fnScope_by (by decide +kernel)
section
variable {P : Program} {w : World} {K : PySem.W.Frag} {mg : Str → Option Value} {base : Heap}
theorem ok__law_of {k : Nat} (T : Txt K mg) (D : DefB K mg "_law_of" s__law_of P__law_of) (c__law_pail : C8.Cal P w K mg base k "_law_pail" spPail []) : C8.Cal P w K mg base (k + 1) "_law_of" (spOf K) [] := by
  refine calB D sc__law_of (fun vs H Q E h => ?_) (fun f cdv A outer s H vs Q E hr h => ?_)
  · obtain ⟨p, c, l, n, xs, rfl, _⟩ := h
    rfl
  obtain ⟨p, c, l, n, xs, rfl, W, hl, hne, h0, h1, q⟩ := h
  refine ⟨_, (pss_one (ps_ret (pe_ix ix_list (pv 1) (C8.pe_c c__law_pail hr (Nat.le_refl _) (by rfl) (pa_cons (pv 0) (pa_cons (pe_callB call_len_seq (by rfl) T.b_len (by decide +kernel) (pa_cons (pv 1) pa_nil)) pa_nil))) (fun _ _ => rfl)))), ?_⟩
  refine ⟨_, rfl, _, rfl, _, rfl, l, xs, rfl, .inl hl, p, c, n, _, rfl, W, by omega, by omega, fun z H' z0 z1 kp W' => ?_⟩
  obtain ⟨v, hv, hm⟩ := at_int (xs := xs) z0 z1
  exact ⟨l, xs, z, v, rfl, rfl, kp.seqL hl hne, hv, q v H' hm kp W'⟩
theorem ok__law_pail {k : Nat} (T : Txt K mg) (D : DefB K mg "_law_pail" s__law_pail P__law_pail) : C8.Cal P w K mg base (k + 1) "_law_pail" spPail [] := by
  refine calB D sc__law_pail (fun vs H Q E h => ?_) (fun f cdv A outer s H vs Q E hr h => ?_)
  · obtain ⟨p, c, n, m, rfl, _⟩ := h
    rfl
  obtain ⟨p, c, n, m, rfl, W, m0, m1, q⟩ := h
  refine ⟨_, (pss_cons (ps_if (pt_cmpR op_gt (pe_ix ix_list (pv 0) pe_int (fun _ _ => rfl)) pe_int (nomark _)) (pss_cons (ps_set (i := 5) sc__law_pail.nd rfl (Or.inl rfl) (pe_callTy call_int1 (by rfl) T.b_int (by decide +kernel) (pa_cons (pe_ix ix_list (pv 0) pe_int (fun _ _ => rfl)) pa_nil)))
    (pss_cons (ps_asg (pe_op op_fdivW (pv 5) (pv 1)) (pg_sub (pv 0) pe_int set_list))
    (pss_one (ps_ret (pe_op op_mod (pe_callTy call_int1 (by rfl) T.b_int (by decide +kernel) (pa_cons (pv 5) pa_nil)) (pv 1)))))) pss_nil)
    (pss_cons (ps_set (i := 2) sc__law_pail.nd rfl (Or.inl rfl) (pe_ix ix_list (pv 0) pe_int (fun _ _ => rfl)))
    (pss_cons (ps_asg (pe_op op_add (pv 2) pe_int) (pg_sub (pv 0) pe_int set_list))
    (pss_cons (ps_set (i := 3) sc__law_pail.nd rfl (Or.inl rfl) (pe_op op_add (pe_op op_mul pe_int (pv 2)) pe_int))
    (C8.pss_cut (ps_if (pt_cmpR (op_neD hr.units) (pe_ix ix_list (pv 0) pe_int (fun _ _ => rfl)) (pe_lst pa_nil) (nomark _)) (pss_one (ps_set (i := 3) sc__law_pail.nd rfl (Or.inl rfl) (pe_ix ix_list (pe_ix ix_list (pv 0) pe_int (fun _ _ => rfl)) (pe_op op_mod (pe_callTy call_int1 (by rfl) T.b_int (by decide +kernel) (pa_cons (pv 2) pa_nil)) (pe_callB call_len_seq (by rfl) T.b_len (by decide +kernel) (pa_cons (pe_ix ix_list (pv 0) pe_int (fun _ _ => rfl)) pa_nil))) (fun _ _ => rfl)))) pss_nil)
    (C8.pss_cut (ps_if (PW.pt (pw_and (pt_cmpR op_lt (pv 2) (pe_callB call_len_seq (by rfl) T.b_len (by decide +kernel) (pa_cons (pe_ix ix_list (pv 0) pe_int (fun _ _ => rfl)) pa_nil)) (nomark _)) (pw_and1 (pt_cmpR op_ge (pe_callB call_abs (by rfl) T.b_abs (by decide +kernel) (pa_cons (pv 3) pa_nil)) (pe_op op_pow pe_int pe_int) (nomark _))))) (pss_cons (ps_set (i := 5) sc__law_pail.nd rfl (Or.inl rfl) (pe_op op_add (pe_op op_mul pe_int (pe_op op_sub (pe_callB call_abs (by rfl) T.b_abs (by decide +kernel) (pa_cons (pv 3) pa_nil)) (pe_op op_pow pe_int pe_int))) (pe_callTy call_int1 (by rfl) T.b_int (by decide +kernel) (pa_cons (pe_cmpR op_lt (pv 3) pe_int (nomark _)) pa_nil))))
    (pss_cons (ps_asg (pe_op op_fdivW (pv 5) (pv 1)) (pg_sub (pv 0) pe_int set_list))
    (pss_one (ps_ret (pe_op op_mod (pe_callTy call_int1 (by rfl) T.b_int (by decide +kernel) (pa_cons (pv 5) pa_nil)) (pv 1)))))) pss_nil)
    (pss_cons (ps_set (i := 4) sc__law_pail.nd rfl (Or.inl rfl) (pe_op op_mod (pe_callTy call_int1 (by rfl) T.b_int (by decide +kernel) (pa_cons (pe_op op_pow (pe_op op_add (pe_op op_add (pe_op op_mod (pe_callTy call_int1 (by rfl) T.b_int (by decide +kernel) (pa_cons (pv 3) pa_nil)) pe_int) (pe_op op_mul pe_int (pv 2))) pe_int) pe_int) pa_nil)) pe_int))
    (pss_cons (ps_set (i := 4) sc__law_pail.nd rfl (Or.inl rfl) (pe_op op_mod (pe_callTy call_int1 (by rfl) T.b_int (by decide +kernel) (pa_cons (pe_op op_pow (pe_op op_add (pe_op op_add (pe_op op_mul (pv 4) (pe_op op_add (pe_op op_mul pe_int (pv 2)) pe_int)) (pe_op op_mul (pe_op op_mul pe_int (pv 2)) (pv 2))) pe_int) pe_int) pa_nil)) pe_int))
    (pss_one (ps_ret (pe_op op_mod (pe_callTy call_int1 (by rfl) T.b_int (by decide +kernel) (pa_cons (pe_op op_fdivW (pv 4) pe_int) pa_nil)) (pv 1)))))))))))), ?_⟩
  obtain ⟨cells, t, r, hp, hc, hl, t0, t1⟩ := id W
  have ne := W.ne
  have cd : CDivW r m := ⟨m0, lg_le m1 m0⟩
  -- if well[2] > 0
  refine ⟨_, rfl, p, _, 2, _, rfl, rfl, SqL.of hp, rfl, r, 0, rfl, rfl, _, rfl, ?_⟩
  have fin : ∀ (z t' r' : Int) (H' : Hp), 0 ≤ t' → t' + (n : Int) ≤ 1000000 → Keep p H H' → H' p = some (.lst [.ref c, .int t', .int r']) → 0 ≤ z → z < m → Q (.int z) H' := fun z t' r' H' h0 h1 kp e z0 z1 =>
    q z H' z0 z1 kp ⟨cells, t', r', e, kp _ _ hc ne, hl, h0, h1⟩
  have modm : ∀ z : Int, 0 ≤ z % m ∧ z % m < m := fun z => ⟨Int.emod_nonneg _ (by omega), Int.emod_lt_of_pos _ m0⟩
  refine ite2 (fun c1 => ?_) (fun c1 => ?_)
  · refine ⟨_, rfl, p, _, 2, _, rfl, rfl, SqL.of hp, rfl, .inl ⟨r, rfl, ?_⟩⟩
    refine ⟨_, rfl, _, rfl, _, _, rfl, rfl, cd, _, rfl, p, _, 2, 2, rfl, rfl, hp, rfl, ?_⟩
    refine ⟨_, rfl, .inl ⟨_, rfl, _, rfl, _, _, rfl, rfl, m0, ?_⟩⟩
    exact fin _ t _ _ t0 (by omega) Keep.refl.upd upd_same (modm _).1 (modm _).2
  -- turn = well[1]; well[1] = turn + 1
  refine ⟨_, rfl, p, _, 1, _, rfl, rfl, SqL.of hp, rfl, ?_⟩
  refine ⟨_, rfl, _, _, rfl, rfl, _, rfl, p, _, 1, 1, rfl, rfl, hp, rfl, ?_⟩
  -- cell = 73037 * turn + 5107
  refine ⟨_, rfl, _, _, rfl, rfl, .inl ⟨by decide, by decide⟩, _, _, rfl, rfl, ?_⟩
  -- if well[0] != []
  have hc1 : ∀ u, (upd H p u) c = some (.lst (cells.map V.int)) := fun u => by
    rw [upd_ne ne]
    exact hc
  refine ⟨fun σ' H' => ∃ z : Int, σ' = [some (.ref p), some (.int m), some (.int t), some (.int z), none, none] ∧ Keep p H H' ∧ H' p = some (.lst [.ref c, .int (t + 1), .int r]), ?_, ?_⟩
  · refine ⟨_, rfl, p, _, 0, _, rfl, rfl, SqL.of upd_same, rfl, (by show 0 ≤ sizeLine; decide), fun e he => ?_⟩
    have hpe : p ≠ e := ne_of_none upd_same he
    have hce : c ≠ e := ne_of_none (hc1 _) he
    have k1 : Keep p H (upd (upd H p (.lst [.ref c, .int (t + 1), .int r])) e (.lst [])) := Keep.trans Keep.refl.upd (Keep.of (same_new he _))
    have p1 : (upd (upd H p (.lst [.ref c, .int (t + 1), .int r])) e (.lst [])) p = some (.lst [.ref c, .int (t + 1), .int r]) := by
      rw [upd_ne hpe, upd_same]
    have c2 : ∀ u, (upd (upd H p u) e (.lst [])) c = some (.lst (cells.map V.int)) := fun u => by
      rw [upd_ne hce]
      exact hc1 _
    refine ⟨.list (cells.map PyData.int), .list (List.map PyData.int []), .lst (SqL.of (c2 _)) (dp_ints cells), .lst (SqL.of upd_same) .nil, ints_shapedL _, ints_shapedL _, _, rfl, ?_⟩
    rw [eqv_intsL]
    by_cases hn : cells = []
    · rw [decide_eq_true hn]
      refine iteF ?_
      exact ⟨_, rfl, k1, p1⟩
    · rw [decide_eq_false hn]
      refine iteT ?_
      have hpos : 0 < (cells.map V.int).length := by
        rw [List.length_map]
        exact List.length_pos_iff.mpr hn
      refine ⟨_, rfl, p, _, 0, _, rfl, rfl, SqL.of p1, rfl, ?_⟩
      refine ⟨_, rfl, .inl ⟨_, rfl, _, rfl, p, _, 0, _, rfl, rfl, SqL.of p1, rfl, c, _, rfl, .inl (SqL.of (c2 _)), _, _, rfl, rfl, (by omega), ?_⟩⟩
      obtain ⟨v, hv, hm⟩ := at_int (xs := cells.map V.int) (z := t % ((cells.map V.int).length : Int)) (Int.emod_nonneg _ (by omega)) (Int.emod_lt_of_pos _ (by omega))
      obtain ⟨z, _, rfl⟩ := List.mem_map.mp hm
      exact ⟨c, _, _, _, rfl, rfl, SqL.of (c2 _), hv, z, rfl, k1, p1⟩
  rintro σ' H' ⟨z, rfl, k1, p1⟩
  have hc' := k1 _ _ hc ne
  -- if turn < len(well[0]) and abs(cell) >= 10 ** 18
  have pw : CPow 10 18 := ⟨by decide, by decide, by decide⟩
  refine ⟨fun σ' H2 => σ' = [some (.ref p), some (.int m), some (.int t), some (.int z), none, none] ∧ H2 = H', ?_, ?_⟩
  · refine ⟨_, rfl, _, rfl, p, _, 0, _, rfl, rfl, SqL.of p1, rfl, c, _, rfl, .inl (SqL.of hc'), _, _, rfl, rfl, _, rfl, ?_⟩
    refine ite2 (fun c2 => ?_) (fun c2 => ?_)
    · refine ⟨_, rfl, z, rfl, _, _, rfl, rfl, pw, _, _, rfl, rfl, _, rfl, ?_⟩
      refine ite2 (fun c3 => ?_) (fun c3 => ⟨rfl, rfl⟩)
      refine ⟨_, rfl, z, rfl, _, _, rfl, rfl, pw, _, _, rfl, rfl, _, _, rfl, rfl, .inl ⟨by decide, by decide⟩, _, rfl, _, _, rfl, rfl, .inr ⟨_, rfl, _, _, rfl, rfl, ?_⟩⟩
      refine ⟨_, rfl, _, rfl, _, _, rfl, rfl, cd, _, rfl, p, _, 2, 2, rfl, rfl, p1, rfl, ?_⟩
      refine ⟨_, rfl, .inl ⟨_, rfl, _, rfl, _, _, rfl, rfl, m0, ?_⟩⟩
      exact fin _ (t + 1) _ _ (by omega) (by omega) k1.upd upd_same (modm _).1 (modm _).2
    · exact iteF ⟨rfl, rfl⟩
  rintro σ' H2 ⟨rfl, rfl⟩
  -- the mixing
  have t2 : t ≤ 1000000 := by omega
  refine ⟨_, rfl, .inl ⟨_, rfl, _, _, rfl, rfl, (by show (0 : Int) < _; decide), _, rfl, _, _, rfl, rfl, .inl ⟨by decide, by decide⟩, _, _, rfl, rfl, _, _, rfl, rfl, _, _, rfl, rfl, ⟨by decide, by decide, ?_⟩, .inl ⟨_, rfl, _, _, rfl, rfl, (by show (0 : Int) < _; decide), ?_⟩⟩⟩
  · show (z % 2147483587 + 91019 * t + 5107).natAbs < 2 ^ 64
    omega
  generalize (z % 2147483587 + 91019 * t + 5107) ^ (5 : Int).toNat = u
  have b2 : 0 ≤ u % 2147483549 ∧ u % 2147483549 < 2147483549 := ⟨Int.emod_nonneg _ (by decide), Int.emod_lt_of_pos _ (by decide)⟩
  have b3 := mix_lt (A := 3041) (B := 73037) (C := 91079) (by decide) (by decide) (by decide) b2.1 (Int.le_of_lt (Int.lt_trans b2.2 (by decide))) t0 t2
  refine ⟨_, rfl, _, rfl, _, _, rfl, rfl, .inl ⟨by decide, by decide⟩, _, _, rfl, rfl, _, _, rfl, rfl, .inl ⟨?_, ?_⟩, _, rfl, _, _, rfl, rfl, .inl ⟨by decide, by decide⟩, _, rfl, _, _, rfl, rfl, .inl ⟨?_, ?_⟩, _, _, rfl, rfl, _, _, rfl, rfl, _, _, rfl, rfl, ⟨by decide, by decide, ?_⟩, .inl ⟨_, rfl, _, _, rfl, rfl, (by show (0 : Int) < _; decide), ?_⟩⟩
  · show -(2 ^ 64) < u % 2147483549
    omega
  · show u % 2147483549 < 2 ^ 64
    omega
  · show -(2 ^ 64) < 73037 * t
    omega
  · show 73037 * t < 2 ^ 64
    omega
  · exact b3
  refine ⟨_, rfl, _, _, rfl, rfl, ⟨by decide, by decide⟩, .inl ⟨_, rfl, _, rfl, _, _, rfl, rfl, m0, ?_⟩⟩
  exact fin _ (t + 1) r _ (by omega) (by omega) k1 p1 (modm _).1 (modm _).2
theorem ok__law_well {k : Nat} (T : Txt K mg) (D : DefB K mg "_law_well" s__law_well P__law_well) : C8.Cal P w K mg base (k + 1) "_law_well" (spWell K) [] := by
  refine calB D sc__law_well (fun vs H Q E h => ?_) (fun f cdv A outer s H vs Q E hr h => ?_)
  · obtain ⟨a, ns, rfl, _⟩ := h
    rfl
  obtain ⟨a, ns, rfl, hS, hl, q⟩ := h
  refine ⟨_, (pss_one (ps_ret (pe_lst (pa_cons (pe_lc (own := [("cell", 1)]) (g := gName 1) (tt := tYes) rfl sc__law_well.nd (pi_list (pe_slice sl_list (pv 0) po_none (po_some pe_int))) (blkOk_by (N := N__law_well) (sc := C8.fnScope s__law_well) (by decide +kernel)) (fun _ _ _ _ _ => (pg_name (i := 1) sc__law_well.nd rfl (Or.inl rfl))) (fun _ _ _ _ _ => pts_nil) (fun _ _ _ _ _ => (pe_callTy call_int1 (by rfl) T.b_int (by decide +kernel) (pa_cons (pv 1) pa_nil)))) (pa_cons pe_int (pa_cons pe_int pa_nil)))))), ?_⟩
  refine ⟨_, rfl, 60, rfl, a, _, rfl, hS, fun x hx => ?_⟩
  have hz : (cutV (ns.map V.int) none (some 60)).length ≤ 100000 := Nat.le_trans (cutV_length _ _ _) (by rw [List.length_map]; omega)
  refine ⟨x, rfl, ⟨_, SqL.of upd_same⟩, fun D hD => lc_map (K := K) (f := id) (SqL.of upd_same) hD hz ?_ ?_⟩
  · intro i y H2 Kc Nc hi e hk
    have hm : y ∈ cutV (ns.map V.int) none (some 60) := List.mem_of_getElem? hi
    obtain ⟨z, rfl⟩ := mem_cut_int hm
    exact ⟨rfl, _, rfl, .inl ⟨_, rfl, hk H2 (Same.refl _)⟩⟩
  · intro H2 e hD2
    refine ⟨(by show 3 ≤ sizeLine; decide), fun p hp => ?_⟩
    have hxD : Same H H2 := (same_new hx _).trans e
    obtain ⟨cells, hc, hl2⟩ := cut_ints (ns := ns) (hi := some 60)
    rw [List.map_id] at hD2
    have hpn : H p = none := hxD.free hp
    have hDn : H D = none := (same_new hx _).free hD
    refine q p D _ hpn hDn (hxD.trans (same_new hp _)) ⟨cells, 0, 0, upd_same, ?_, by omega, by decide, by decide⟩
    rw [upd_ne (ne_of_none hD2 hp), hD2, hc]
abbrev s_fixed : Stmt := topS 1
abbrev N_fixed : List Str := ["value", "part"]
abbrev P_fixed : List Str := ["value"]
theorem sc_fixed : FnScope N_fixed P_fixed (C8.fnScope s_fixed) := C8.fnScope_by (by decide +kernel)
abbrev s_is_integer : Stmt := topS 4
abbrev N_is_integer : List Str := ["value"]
abbrev P_is_integer : List Str := ["value"]
theorem sc_is_integer : FnScope N_is_integer P_is_integer (C8.fnScope s_is_integer) := C8.fnScope_by (by decide +kernel)
abbrev s_is_within : Stmt := topS 5
abbrev N_is_within : List Str := ["value", "least", "most"]
abbrev P_is_within : List Str := ["value", "least", "most"]
theorem sc_is_within : FnScope N_is_within P_is_within (C8.fnScope s_is_within) := C8.fnScope_by (by decide +kernel)
abbrev s_is_list : Stmt := topS 6
abbrev N_is_list : List Str := ["value"]
abbrev P_is_list : List Str := ["value"]
theorem sc_is_list : FnScope N_is_list P_is_list (C8.fnScope s_is_list) := C8.fnScope_by (by decide +kernel)
abbrev s_is_numbers : Stmt := topS 7
abbrev N_is_numbers : List Str := ["value", "one"]
abbrev P_is_numbers : List Str := ["value"]
theorem sc_is_numbers : FnScope N_is_numbers P_is_numbers (C8.fnScope s_is_numbers) := C8.fnScope_by (by decide +kernel)
abbrev s_is_prime : Stmt := topS 8
abbrev N_is_prime : List Str := ["value"]
abbrev P_is_prime : List Str := ["value"]
theorem sc_is_prime : FnScope N_is_prime P_is_prime (C8.fnScope s_is_prime) := C8.fnScope_by (by decide +kernel)
abbrev s_is_sign : Stmt := topS 9
abbrev N_is_sign : List Str := ["p", "value"]
abbrev P_is_sign : List Str := ["p", "value"]
theorem sc_is_sign : FnScope N_is_sign P_is_sign (C8.fnScope s_is_sign) := C8.fnScope_by (by decide +kernel)
abbrev s_flat : Stmt := topS 10
abbrev N_flat : List Str := ["value", "part", "item"]
abbrev P_flat : List Str := ["value"]
theorem sc_flat : FnScope N_flat P_flat (C8.fnScope s_flat) := C8.fnScope_by (by decide +kernel)
abbrev s_first_twice : Stmt := topS 11
abbrev N_first_twice : List Str := ["values", "seen", "value", "key"]
abbrev P_first_twice : List Str := ["values"]
theorem sc_first_twice : FnScope N_first_twice P_first_twice (C8.fnScope s_first_twice) := C8.fnScope_by (by decide +kernel)
abbrev s__law_odd : Stmt := topS 16
abbrev N__law_odd : List Str := ["well"]
abbrev P__law_odd : List Str := ["well"]
theorem sc__law_odd : FnScope N__law_odd P__law_odd (C8.fnScope s__law_odd) := C8.fnScope_by (by decide +kernel)
abbrev s__law_bounds_right : Stmt := topS 17
abbrev N__law_bounds_right : List Str := ["well", "told", "number", "odd", "low", "high"]
abbrev P__law_bounds_right : List Str := ["well"]
theorem sc__law_bounds_right : FnScope N__law_bounds_right P__law_bounds_right (C8.fnScope s__law_bounds_right) := C8.fnScope_by (by decide +kernel)
abbrev s__law_rows_right : Stmt := topS 18
abbrev N__law_rows_right : List Str := ["well", "at", "odd", "row", "turn"]
abbrev P__law_rows_right : List Str := ["well"]
theorem sc__law_rows_right : FnScope N__law_rows_right P__law_rows_right (C8.fnScope s__law_rows_right) := C8.fnScope_by (by decide +kernel)
abbrev s__law_primes : Stmt := topS 19
abbrev N__law_primes : List Str := ["found", "number", "prime"]
abbrev P__law_primes : List Str := []
theorem sc__law_primes : FnScope N__law_primes P__law_primes (C8.fnScope s__law_primes) := C8.fnScope_by (by decide +kernel)
abbrev s__law_signs_right : Stmt := topS 20
abbrev N__law_signs_right : List Str := ["well", "p", "told", "odd", "number", "primes"]
abbrev P__law_signs_right : List Str := ["well"]
theorem sc__law_signs_right : FnScope N__law_signs_right P__law_signs_right (C8.fnScope s__law_signs_right) := C8.fnScope_by (by decide +kernel)
abbrev s__law_twice_right : Stmt := topS 21
abbrev N__law_twice_right : List Str := ["well", "numbers", "pairs", "due", "turn", "number", "at"]
abbrev P__law_twice_right : List Str := ["well"]
theorem sc__law_twice_right : FnScope N__law_twice_right P__law_twice_right (C8.fnScope s__law_twice_right) := C8.fnScope_by (by decide +kernel)
abbrev s_law : Stmt := topS 22
abbrev N_law : List Str := ["script", "well", "turn"]
abbrev P_law : List Str := ["script"]
theorem sc_law : FnScope N_law P_law (C8.fnScope s_law) := C8.fnScope_by (by decide +kernel)
end
end My


set_option Elab.async false
set_option linter.all false
set_option maxRecDepth 100000
namespace My
open PySem PySem.Spec PyProof.Rows L2
/-- whether the value is an integer, and no truth -/
def IntK (K : PySem.W.Frag) (H : Hp) (v : V) (c : Bool) : Prop := ∃ t a b, TyX K H v t ∧ PySem.W.kitOne K t (.type "int") = some a ∧ (a = true → PySem.W.kitOne K t (.type "bool") = some b) ∧ c = (a && !b)
theorem IntK.same {K : PySem.W.Frag} {H H' : Hp} {v : V} {c : Bool} (e : Same H H') (h : IntK K H v c) : IntK K H' v c := by
  obtain ⟨t, a, b, h1, h2⟩ := h
  exact ⟨t, a, b, TyX.same e h1, h2⟩
theorem intK_ty {K : PySem.W.Frag} {H : Hp} {v : V} {T : String} {a b : Bool} (h : TyX K H v (.type T)) (ha : kitB T "int" = some a) (hb : kitB T "bool" = some b) : IntK K H v (a && !b) := ⟨_, a, b, h, kit_ty ha, fun _ => kit_ty hb, rfl⟩
theorem intK_int {K : PySem.W.Frag} {H : Hp} (i : Int) : IntK K H (.int i) true := intK_ty (a := true) (b := false) (T := "int") (.base (.int i)) (by decide +kernel) (by decide +kernel)
theorem intK_bl {K : PySem.W.Frag} {H : Hp} (i : Bool) : IntK K H (.bl i) false := intK_ty (a := true) (b := true) (T := "bool") (.base (.bl i)) (by decide +kernel) (by decide +kernel)
theorem intK_non {K : PySem.W.Frag} {H : Hp} : IntK K H .non false := intK_ty (a := false) (b := false) (T := "NoneType") (.base .non) (by decide +kernel) (by decide +kernel)
theorem intK_str {K : PySem.W.Frag} {H : Hp} (x : Str) : IntK K H (.str x) false := intK_ty (a := false) (b := false) (T := "str") (.base (.str x)) (by decide +kernel) (by decide +kernel)
theorem intK_list {K : PySem.W.Frag} {H : Hp} {a : Addr} {xs : List V} (h : SqL K H a xs) : IntK K H (.ref a) false := intK_ty (a := false) (b := false) (T := "list") (tyx_L h) (by decide +kernel) (by decide +kernel)
theorem intK_tup {K : PySem.W.Frag} {H : Hp} {a : Addr} {xs : List V} (h : SqT K H a xs) : IntK K H (.ref a) false := intK_ty (a := false) (b := false) (T := "tuple") (tyx_T h) (by decide +kernel) (by decide +kernel)
theorem intK_dict {K : PySem.W.Frag} {H : Hp} {a : Addr} {kvs : List (Key × V)} (h : H a = some (.dK kvs)) : IntK K H (.ref a) false := intK_ty (a := false) (b := false) (T := "dict") (.base (.dK h)) (by decide +kernel) (by decide +kernel)
/-- whether the value is a list or a tuple -/
def ListK (K : PySem.W.Frag) (H : Hp) (v : V) (c : Bool) : Prop := ∃ t, TyX K H v t ∧ PySem.W.kitAny K t [.type "list", .type "tuple"] = some c
theorem ListK.same {K : PySem.W.Frag} {H H' : Hp} {v : V} {c : Bool} (e : Same H H') (h : ListK K H v c) : ListK K H' v c := by
  obtain ⟨t, h1, h2⟩ := h
  exact ⟨t, TyX.same e h1, h2⟩
theorem listK_list {K : PySem.W.Frag} {H : Hp} {a : Addr} {xs : List V} (h : SqL K H a xs) : ListK K H (.ref a) true := ⟨_, tyx_L h, kit_lt⟩
theorem listK_tup {K : PySem.W.Frag} {H : Hp} {a : Addr} {xs : List V} (h : SqT K H a xs) : ListK K H (.ref a) true := ⟨_, tyx_T h, kit_tt⟩
theorem listK_no {K : PySem.W.Frag} {H : Hp} {v : V} {T : String} (h : TyX K H v (.type T)) (h1 : kitB T "list" = some false) (h2 : kitB T "tuple" = some false) : ListK K H v false :=
  ⟨_, h, kitAny_cons (b := false) (kit_ty h1) (fun _ => kitAny_cons (b := false) (kit_ty h2) (fun _ => rfl) (fun z => nomatch z)) (fun z => nomatch z)⟩
theorem listK_non {K : PySem.W.Frag} {H : Hp} : ListK K H .non false := listK_no (T := "NoneType") (.base .non) (by decide +kernel) (by decide +kernel)
theorem listK_bl {K : PySem.W.Frag} {H : Hp} (b : Bool) : ListK K H (.bl b) false := listK_no (T := "bool") (.base (.bl b)) (by decide +kernel) (by decide +kernel)
theorem listK_int {K : PySem.W.Frag} {H : Hp} (i : Int) : ListK K H (.int i) false := listK_no (T := "int") (.base (.int i)) (by decide +kernel) (by decide +kernel)
theorem listK_str {K : PySem.W.Frag} {H : Hp} (x : Str) : ListK K H (.str x) false := listK_no (T := "str") (.base (.str x)) (by decide +kernel) (by decide +kernel)
theorem listK_dict {K : PySem.W.Frag} {H : Hp} {a : Addr} {kvs : List (Key × V)} (h : H a = some (.dK kvs)) : ListK K H (.ref a) false := listK_no (T := "dict") (.base (.dK h)) (by decide +kernel) (by decide +kernel)
/-! ### what the checks promise -/
def intV (v : V) : Bool := match v with
  | .int _ => true
  | _ => false
theorem intV_of {v : V} (h : intV v = true) : ∃ i, v = .int i := by
  cases v with
  | int i => exact ⟨i, rfl⟩
  | _ => cases h
/-- the checks know the value's kind -/
abbrev Kn (K : PySem.W.Frag) (H : Hp) (v : V) : Prop := IntK K H v (intV v)
def loB (lo : V) (i : Int) : Bool := match lo with
  | .int a => decide (a ≤ i)
  | _ => true
def hiB (hi : V) (i : Int) : Bool := match hi with
  | .int b => decide (i ≤ b)
  | _ => true
def inB (lo hi v : V) : Bool := match v with
  | .int i => loB lo i && hiB hi i
  | _ => false
def Bnd (v : V) : Prop := v = .non ∨ ∃ a, v = .int a
abbrev primes : List Int := [2, 3, 5, 7, 11, 13, 17, 19, 23, 29, 31, 37, 41, 43, 47, 53, 59, 61, 67, 71, 73, 79, 83, 89, 97]
structure PrimesC (K : PySem.W.Frag) (mg : Str → Option Value) (pr : Addr) : Prop where
  g : mg "PRIMES" = some (.ref pr)
  t : ∀ H : Hp, SqT K H pr (primes.map V.int)
def isPr (v : V) : Bool := intV v && inV v (primes.map V.int)
def spInt (K : PySem.W.Frag) : Sp := fun vs H Q _ => ∃ v, vs = [v] ∧ Kn K H v ∧ Q (.bl (intV v)) H
def spWithin (K : PySem.W.Frag) : Sp := fun vs H Q _ => ∃ v lo hi, vs = [v, lo, hi] ∧ Kn K H v ∧ Bnd lo ∧ Bnd hi ∧ Q (.bl (inB lo hi v)) H
def spList (K : PySem.W.Frag) : Sp := fun vs H Q _ => ∃ v c, vs = [v] ∧ ListK K H v c ∧ ∀ H', Same H H' → Q (.bl c) H'
def spNums (K : PySem.W.Frag) : Sp := fun vs H Q _ => ∃ v r, vs = [v] ∧ ((ListK K H v false ∧ r = false) ∨ ∃ a xs, v = .ref a ∧ (SqL K H a xs ∨ SqT K H a xs) ∧ xs.length ≤ 1000 ∧ (∀ x ∈ xs, Kn K H x) ∧ r = xs.all intV) ∧ ∀ H', Same H H' → Q (.bl r) H'
def spPrime (K : PySem.W.Frag) : Sp := fun vs H Q _ => ∃ v, vs = [v] ∧ Kn K H v ∧ Q (.bl (isPr v)) H
def isSg (p v : V) : Bool := isPr p && match p with
  | .int q => inB (.int 0) (.int (q - 1)) v
  | _ => false
def spSign (K : PySem.W.Frag) : Sp := fun vs H Q _ => ∃ p v, vs = [p, v] ∧ Kn K H p ∧ Kn K H v ∧ Q (.bl (isSg p v)) H
section
variable {P : Program} {w : World} {K : PySem.W.Frag} {mg : Str → Option Value} {base : Heap}
theorem ok_is_integer {k : Nat} (T : Txt K mg) (D : DefK K mg "is_integer" s_is_integer P_is_integer) : CalK P w K mg base (k + 1) "is_integer" s_is_integer P_is_integer (spInt K) := by
  refine calK D sc_is_integer (fun vs H Q E h => ?_) (fun f cdv A outer s H vs Q E hr h => ?_)
  · obtain ⟨v, rfl, _⟩ := h
    rfl
  obtain ⟨v, rfl, ⟨t, a, b, h1, h2, h3, e⟩, q⟩ := h
  rw [e] at q
  refine ⟨_, (pss_one (ps_ret (pe_and (pe_callB call_isi (by rfl) T.b_isinstance (by decide +kernel) (pa_cons (pv 0) (pa_cons (pe_bltn (v := .ty "int") (by rfl) T.b_int (by decide +kernel) rfl) pa_nil))) (pe_one (pe_not (pe_callB call_isi (by rfl) T.b_isinstance (by decide +kernel) (pa_cons (pv 0) (pa_cons (pe_bltn (v := .ty "bool") (by rfl) T.b_bool (by decide +kernel) rfl) pa_nil)))))))), ?_⟩
  refine ⟨_, rfl, v, _, t, _, a, rfl, .ty _, h1, h2, a, rfl, ?_⟩
  cases a with
  | false => exact iteF q
  | true => exact iteT ⟨_, rfl, v, _, t, _, b, rfl, .ty _, h1, h3 rfl, b, rfl, q⟩
theorem ok_is_within {k : Nat} (T : Txt K mg) (D : DefK K mg "is_within" s_is_within P_is_within) (c_is_integer : C8.Cal P w K mg base k "is_integer" (spInt K) []) : CalK P w K mg base (k + 1) "is_within" s_is_within P_is_within (spWithin K) := by
  refine calK D sc_is_within (fun vs H Q E h => ?_) (fun f cdv A outer s H vs Q E hr h => ?_)
  · obtain ⟨v, lo, hi, rfl, _⟩ := h
    rfl
  obtain ⟨v, lo, hi, rfl, h1, h2, h3, q⟩ := h
  refine ⟨_, (pss_cons (ps_if (pt_not (pt_val (C8.pe_c c_is_integer hr (Nat.le_refl _) (by rfl) (pa_cons (pv 0) pa_nil)))) (pss_one (ps_ret pe_bl)) pss_nil)
    (pss_one (ps_ret (pe_and (pe_or (pe_cmpR op_isN (pv 1) pe_non (nomark _)) (pe_one (pe_cmpR op_le (pv 1) (pv 0) (nomark _)))) (pe_one (pe_or (pe_cmpR op_isN (pv 2) pe_non (nomark _)) (pe_one (pe_cmpR op_le (pv 0) (pv 2) (nomark _))))))))), ?_⟩
  refine ⟨_, rfl, v, rfl, h1, intV v, rfl, ?_⟩
  cases hc : intV v with
  | false =>
    refine iteT ?_
    cases v with
    | int i => cases hc
    | _ => exact q
  | true =>
    obtain ⟨i, rfl⟩ := intV_of hc
    refine iteF ?_
    have two : ∀ r, r = loB lo i → ∃ c, (V.bl r : V) = .bl c ∧ if c = true then tOrV (tOp (fun x y H Q => y = V.non ∧ Q (V.bl (decide (x = V.non))) H) (tVar 2) (tC V.non)) (tOp (rI0 fun i j => V.bl (decide (i ≤ j))) (tVar 0) (tVar 2)) (L2.start N_is_within [V.int i, lo, hi]) H Q else Q (.bl false) H := fun r e => by
      subst e
      refine ⟨_, rfl, ?_⟩
      cases hl : loB lo i with
      | false =>
        refine iteF ?_
        have e2 : inB lo hi (.int i) = false := by show (loB lo i && hiB hi i) = false; rw [hl]; rfl
        rw [e2] at q
        exact q
      | true =>
        have e2 : inB lo hi (.int i) = hiB hi i := by show (loB lo i && hiB hi i) = _; rw [hl]; rfl
        rw [e2] at q
        refine iteT ?_
        rcases h3 with rfl | ⟨b, rfl⟩
        · exact ⟨_, rfl, rfl, true, rfl, iteT q⟩
        · exact ⟨_, rfl, rfl, false, rfl, iteF ⟨_, rfl, _, rfl, i, b, rfl, rfl, q⟩⟩
    rcases h2 with rfl | ⟨a, rfl⟩
    · exact ⟨_, rfl, rfl, true, rfl, iteT (two true rfl)⟩
    · exact ⟨_, rfl, rfl, false, rfl, iteF ⟨_, rfl, _, rfl, a, i, rfl, rfl, two _ rfl⟩⟩
theorem ok_is_list {k : Nat} (T : Txt K mg) (D : DefB K mg "is_list" s_is_list P_is_list) : C8.Cal P w K mg base (k + 1) "is_list" (spList K) [] := by
  refine calB D sc_is_list (fun vs H Q E h => ?_) (fun f cdv A outer s H vs Q E hr h => ?_)
  · obtain ⟨v, c, rfl, _⟩ := h
    rfl
  obtain ⟨v, c, rfl, ⟨t, h1, h2⟩, q⟩ := h
  refine ⟨_, (pss_one (ps_ret (pe_callB call_isiT (by rfl) T.b_isinstance (by decide +kernel) (pa_cons (pv 0) (pa_cons (pe_tup (pa_cons (pe_bltn (v := .ty "list") (by rfl) T.b_list (by decide +kernel) rfl) (pa_cons (pe_bltn (v := .ty "tuple") (by rfl) T.b_tuple (by decide +kernel) rfl) pa_nil))) pa_nil))))), ?_⟩
  refine ⟨_, rfl, (by show 2 ≤ sizeLine; decide), fun tp htp => ?_⟩
  exact ⟨v, tp, _, t, _, c, rfl, upd_same, clsLT, TyX.same (same_new htp _) h1, h2, q _ (same_new htp _)⟩
theorem ok_is_prime {k : Nat} {pr : Addr} (T : Txt K mg) (PR : PrimesC K mg pr) (D : DefK K mg "is_prime" s_is_prime P_is_prime) (c_is_integer : C8.Cal P w K mg base k "is_integer" (spInt K) []) : CalK P w K mg base (k + 1) "is_prime" s_is_prime P_is_prime (spPrime K) := by
  refine calK D sc_is_prime (fun vs H Q E h => ?_) (fun f cdv A outer s H vs Q E hr h => ?_)
  · obtain ⟨v, rfl, _⟩ := h
    rfl
  obtain ⟨v, rfl, h1, q⟩ := h
  refine ⟨_, (pss_one (ps_ret (pe_and (C8.pe_c c_is_integer hr (Nat.le_refl _) (by rfl) (pa_cons (pv 0) pa_nil)) (pe_one (pe_cmpR op_in_seq (pv 0) (C8.pe_gc (v := .ref pr) (by rfl) ⟨_, PR.g, rfl⟩) rfl))))), ?_⟩
  refine ⟨_, rfl, v, rfl, h1, intV v, rfl, ?_⟩
  unfold isPr at q
  cases hc : intV v with
  | false =>
    rw [hc] at q
    exact iteF q
  | true =>
    rw [hc] at q
    obtain ⟨i, rfl⟩ := intV_of hc
    exact iteT ⟨_, rfl, pr, _, rfl, .inr (PR.t H), rfl, by decide, q⟩
theorem ok_is_sign {k : Nat} (T : Txt K mg) (D : DefK K mg "is_sign" s_is_sign P_is_sign) (c_is_prime : C8.Cal P w K mg base k "is_prime" (spPrime K) []) (c_is_within : C8.Cal P w K mg base k "is_within" (spWithin K) []) : CalK P w K mg base (k + 1) "is_sign" s_is_sign P_is_sign (spSign K) := by
  refine calK D sc_is_sign (fun vs H Q E h => ?_) (fun f cdv A outer s H vs Q E hr h => ?_)
  · obtain ⟨p, v, rfl, _⟩ := h
    rfl
  obtain ⟨p, v, rfl, h1, h2, q⟩ := h
  refine ⟨_, (pss_one (ps_ret (pe_and (C8.pe_c c_is_prime hr (Nat.le_refl _) (by rfl) (pa_cons (pv 0) pa_nil)) (pe_one (C8.pe_c c_is_within hr (Nat.le_refl _) (by rfl) (pa_cons (pv 1) (pa_cons pe_int (pa_cons (pe_op op_sub (pv 0) pe_int) pa_nil)))))))), ?_⟩
  refine ⟨_, rfl, p, rfl, h1, isPr p, rfl, ?_⟩
  unfold isSg at q
  cases hc : isPr p with
  | false =>
    rw [hc] at q
    exact iteF q
  | true =>
    rw [hc] at q
    have hi : intV p = true := by
      cases hj : intV p with
      | true => rfl
      | false =>
        unfold isPr at hc
        rw [hj] at hc
        cases hc
    obtain ⟨i, rfl⟩ := intV_of hi
    exact iteT ⟨_, rfl, _, rfl, i, 1, rfl, rfl, v, .int 0, .int (i - 1), rfl, h2, .inr ⟨_, rfl⟩, .inr ⟨_, rfl⟩, q⟩
theorem lc_mapT {K : PySem.W.Frag} {a : Addr} {xs : List V} {g : TG} {tt : TT} {te : TE} {vs : List Nat} {σ : L2.St} {H1 : Hp} {D : Addr} {Qd : Hp → Prop} (f : V → V) (hx : SqT K H1 a xs) (hD : H1 D = none) (hz : xs.length ≤ 100000)
    (hs : ∀ (i : Nat) (x : V) (H : Hp) (Kc : V → Hp → Prop) (Nc : Hp → Prop), xs[i]? = some x → Same H1 H → (∀ H4, Same H H4 → Kc (f x) H4) →
      g x (wipe σ vs) H fun σ2 H2 => wipe σ2 vs = wipe σ vs ∧ tt σ2 H2 fun b H3 => if b = true then te σ2 H3 Kc else Nc H3)
    (hd : ∀ H, Same H1 H → H D = some (.lst (xs.map f)) → Qd H) :
    ∃ W : Nat → Nat → Hp → Prop, (∃ m, W 0 m (upd H1 D (.lst []))) ∧ ∀ i m H, W i m H →
      ((Itt K a).stop i H ∧ Qd H) ∨ ((Itt K a).go i H ∧ ∃ Nx : Hp → Prop, (∀ H', Nx H' → ∃ m', m' < m ∧ W (i + 1) m' H') ∧ ∀ x H', (Itt K a).yld i H x H' → g x (wipe σ vs) H' fun σ2 H2 => wipe σ2 vs = wipe σ vs ∧ tt σ2 H2 fun b H3 =>
        if b = true then te σ2 H3 fun y H4 => ∃ acc, H4 D = some (.lst acc) ∧ acc.length < sizeLine ∧ Nx (upd H4 D (.lst (acc ++ [y]))) else Nx H3) := by
  refine lc_accT (K := K) (fun i acc _ => acc = (xs.take i).map f) hx hD hz (fun _ _ _ _ _ h => h) rfl (fun i x acc H Kc Nc hi e _ p h1 _ => hs i x H Kc Nc hi e fun H4 e4 => h1 _ H4 e4 ?_) (fun acc H e h _ p => hd H e (by rw [h, p, List.take_length]))
  obtain ⟨il, ix⟩ := List.getElem?_eq_some_iff.mp hi
  rw [p, List.take_succ_eq_append_getElem il, List.map_append, ix]
  rfl
theorem ok_is_numbers {k : Nat} (T : Txt K mg) (D : DefK K mg "is_numbers" s_is_numbers P_is_numbers) (c_is_list : C8.Cal P w K mg base k "is_list" (spList K) []) (c_is_integer : C8.Cal P w K mg base k "is_integer" (spInt K) []) : CalK P w K mg base (k + 1) "is_numbers" s_is_numbers P_is_numbers (spNums K) := by
  refine calK D sc_is_numbers (fun vs H Q E h => ?_) (fun f cdv A outer s H vs Q E hr h => ?_)
  · obtain ⟨v, r, rfl, _⟩ := h
    rfl
  obtain ⟨v, r, rfl, ⟨hl, rfl⟩ | ⟨a, xs, rfl, hx | hx, hn, hk, rfl⟩, q⟩ := h
  · refine ⟨_, (pss_one (ps_ret (pe_and (C8.pe_c c_is_list hr (Nat.le_refl _) (by rfl) (pa_cons (pv 0) pa_nil)) (pe_one (pe_callB (cr_all rfl) (by rfl) T.b_all (by decide +kernel) (pa_cons (pe_lc (own := [("one", 1)]) (g := gName 1) (tt := tYes) rfl sc_is_numbers.nd (pi_list (pv 0)) (blkOk_by (N := N_is_numbers) (sc := C8.fnScope s_is_numbers) (by decide +kernel)) (fun _ _ _ _ _ => (pg_name (i := 1) sc_is_numbers.nd rfl (Or.inl rfl))) (fun _ _ _ _ _ => pts_nil) (fun _ _ _ _ _ => (C8.pe_c c_is_integer hr (Nat.le_refl _) (by rfl) (pa_cons (pv 1) pa_nil)))) pa_nil)))))), ?_⟩
    exact ⟨_, rfl, v, false, rfl, hl, fun H1 e1 => ⟨false, rfl, iteF (q H1 e1)⟩⟩
  · refine ⟨_, (pss_one (ps_ret (pe_and (C8.pe_c c_is_list hr (Nat.le_refl _) (by rfl) (pa_cons (pv 0) pa_nil)) (pe_one (pe_callB (cr_all rfl) (by rfl) T.b_all (by decide +kernel) (pa_cons (pe_lc (own := [("one", 1)]) (g := gName 1) (tt := tYes) rfl sc_is_numbers.nd (pi_list (pv 0)) (blkOk_by (N := N_is_numbers) (sc := C8.fnScope s_is_numbers) (by decide +kernel)) (fun _ _ _ _ _ => (pg_name (i := 1) sc_is_numbers.nd rfl (Or.inl rfl))) (fun _ _ _ _ _ => pts_nil) (fun _ _ _ _ _ => (C8.pe_c c_is_integer hr (Nat.le_refl _) (by rfl) (pa_cons (pv 1) pa_nil)))) pa_nil)))))), ?_⟩
    refine ⟨_, rfl, _, true, rfl, listK_list hx, fun H1 e1 => ⟨true, rfl, iteT ?_⟩⟩
    refine ⟨_, rfl, a, rfl, ⟨_, e1.seq hx⟩, fun D hD => lc_map (K := K) (fun x => .bl (intV x)) (e1.seq hx) hD (by omega) (fun i x H2 Kc Nc hi e k => ?_) fun H2 e hD2 => ?_⟩
    · exact ⟨rfl, _, rfl, _, rfl, (hk x (List.mem_of_getElem? hi)).same (e1.trans e), k H2 fun _ _ h => h⟩
    · refine ⟨D, xs.map intV, rfl, SqL.of (by rw [hD2, List.map_map]; rfl), ?_⟩
      rw [List.all_map]
      exact q _ (e1.trans e)
  · refine ⟨_, (pss_one (ps_ret (pe_and (C8.pe_c c_is_list hr (Nat.le_refl _) (by rfl) (pa_cons (pv 0) pa_nil)) (pe_one (pe_callB (cr_all rfl) (by rfl) T.b_all (by decide +kernel) (pa_cons (pe_lc (own := [("one", 1)]) (g := gName 1) (tt := tYes) rfl sc_is_numbers.nd (pi_tup (pv 0)) (blkOk_by (N := N_is_numbers) (sc := C8.fnScope s_is_numbers) (by decide +kernel)) (fun _ _ _ _ _ => (pg_name (i := 1) sc_is_numbers.nd rfl (Or.inl rfl))) (fun _ _ _ _ _ => pts_nil) (fun _ _ _ _ _ => (C8.pe_c c_is_integer hr (Nat.le_refl _) (by rfl) (pa_cons (pv 1) pa_nil)))) pa_nil)))))), ?_⟩
    refine ⟨_, rfl, _, true, rfl, listK_tup hx, fun H1 e1 => ⟨true, rfl, iteT ?_⟩⟩
    refine ⟨_, rfl, a, rfl, ⟨_, same_seqT e1 hx⟩, fun D hD => lc_mapT (K := K) (fun x => .bl (intV x)) (same_seqT e1 hx) hD (by omega) (fun i x H2 Kc Nc hi e k => ?_) fun H2 e hD2 => ?_⟩
    · exact ⟨rfl, _, rfl, _, rfl, (hk x (List.mem_of_getElem? hi)).same (e1.trans e), k H2 fun _ _ h => h⟩
    · refine ⟨D, xs.map intV, rfl, SqL.of (by rw [hD2, List.map_map]; rfl), ?_⟩
      rw [List.all_map]
      exact q _ (e1.trans e)
end
end My


set_option Elab.async false
set_option linter.all false
set_option maxRecDepth 100000
namespace My
open PySem PySem.Spec PyProof.Rows L2
/-! ### two walks in one comprehension -/
structure Walks (J : It) (xs : List V) (G : Hp → Prop) : Prop where
  stop : ∀ i H, G H → xs.length ≤ i → J.stop i H
  go : ∀ i x H, G H → xs[i]? = some x → J.go i H
  yld : ∀ i x H H', G H → J.yld i H x H' → H' = H ∧ xs[i]? = some x
theorem walksL (K : PySem.W.Frag) (a : Addr) (xs : List V) : Walks (Itl K a) xs (fun H => SqL K H a xs) :=
  ⟨fun i H h le => ⟨xs, h, le⟩, fun i x H h e => ⟨xs, x, h, e⟩, fun i x H H' h y => ⟨y.1, y.2 xs h⟩⟩
theorem walksT (K : PySem.W.Frag) (a : Addr) (xs : List V) : Walks (Itt K a) xs (fun H => SqT K H a xs) :=
  ⟨fun i H h le => ⟨xs, h, le⟩, fun i x H h e => ⟨xs, x, h, e⟩, fun i x H H' h y => ⟨y.1, y.2 xs h⟩⟩
theorem flat_take {ys : List (List V)} {i : Nat} {y : List V} (h : ys[i]? = some y) : (ys.take (i + 1)).flatten = (ys.take i).flatten ++ y := by
  obtain ⟨il, e⟩ := List.getElem?_eq_some_iff.mp h
  rw [List.take_succ_eq_append_getElem il, List.flatten_append, e]
  simp
theorem flat_le {ys : List (List V)} {i j : Nat} {y : List V} (h : ys[i]? = some y) (hj : j < y.length) : ((ys.take i).flatten ++ y.take j).length < ys.flatten.length := by
  have e : ys.flatten = (ys.take (i + 1)).flatten ++ (ys.drop (i + 1)).flatten := by rw [← List.flatten_append, List.take_append_drop]
  rw [e, flat_take h]
  simp only [List.length_append, List.length_take]
  omega
theorem lc2_flat {K : PySem.W.Frag} {J : It} {G : Hp → Prop} {xs : List V} {ys : List (List V)} {wi1 : TI} {vs vs1 : List Nat} {i0 i1 : Nat} {σ : L2.St} {H1 : Hp} {D : Addr} {Qd : Hp → Prop} (wk : Walks J xs G) (hG : ∀ H, Same H1 H → G H) (hD : H1 D = none)
    (hl : xs.length = ys.length) (hz : ys.flatten.length ≤ 100000) (w0 : ∀ x, wipe ((wipe σ vs).set i0 (some x)) vs = wipe σ vs)
    (w1 : ∀ x y, wipe ((wipe ((wipe σ vs).set i0 (some x)) vs1).set i1 (some y)) vs1 = wipe ((wipe σ vs).set i0 (some x)) vs1) (rd : ∀ x y, ((wipe ((wipe σ vs).set i0 (some x)) vs1).set i1 (some y))[i1]? = some (some y))
    (inner : ∀ (i : Nat) (x : V) (y : List V) (H : Hp) (Kc : It → Hp → Prop), xs[i]? = some x → ys[i]? = some y → Same H1 H → (∀ l H4, H l = none → Same H H4 → H4 l = some (.lst y) → Kc (Itl K l) H4) → wi1 ((wipe σ vs).set i0 (some x)) H Kc)
    (hd : ∀ H, Same H1 H → H D = some (.lst ys.flatten) → Qd H) :
    ∃ W : Nat → Nat → Hp → Prop, (∃ m, W 0 m (upd H1 D (.lst []))) ∧ ∀ i m H, W i m H →
      (J.stop i H ∧ Qd H) ∨ (J.go i H ∧ ∃ Nx : Hp → Prop, (∀ H', Nx H' → ∃ m', m' < m ∧ W (i + 1) m' H') ∧ ∀ x H', J.yld i H x H' → gName i0 x (wipe σ vs) H' fun σ2 H2 => wipe σ2 vs = wipe σ vs ∧ tYes σ2 H2 fun b H3 =>
        if b = true then wi1 σ2 H3 fun J1 H4 => ∃ W1 : Nat → Nat → Hp → Prop, (∃ m, W1 0 m H4) ∧ ∀ j k H, W1 j k H →
          (J1.stop j H ∧ Nx H) ∨ (J1.go j H ∧ ∃ Nx1 : Hp → Prop, (∀ H', Nx1 H' → ∃ k', k' < k ∧ W1 (j + 1) k' H') ∧ ∀ x H', J1.yld j H x H' → gName i1 x (wipe σ2 vs1) H' fun σ3 H5 => wipe σ3 vs1 = wipe σ2 vs1 ∧ tYes σ3 H5 fun b H6 =>
            if b = true then tVar i1 σ3 H6 fun y H7 => ∃ acc, H7 D = some (.lst acc) ∧ acc.length < sizeLine ∧ Nx1 (upd H7 D (.lst (acc ++ [y]))) else Nx1 H6)
        else Nx H3) := by
  refine ⟨fun i m H => m = xs.length - i ∧ i ≤ xs.length ∧ Same H1 H ∧ H D = some (.lst (ys.take i).flatten), ⟨_, rfl, Nat.zero_le _, same_new hD _, by rw [upd_same]; simp⟩, fun i m H h => ?_⟩
  obtain ⟨em, hi, e, hD2⟩ := h
  have g := hG H e
  by_cases lt : i < xs.length
  · have hx := List.getElem?_eq_getElem lt
    refine .inr ⟨wk.go i _ H g hx, fun H' => Same H1 H' ∧ H' D = some (.lst (ys.take (i + 1)).flatten), fun H' n => ⟨xs.length - (i + 1), by omega, rfl, lt, n⟩, fun x H' y => ?_⟩
    obtain ⟨eH, hx2⟩ := wk.yld i x H H' g y
    subst eH
    have ly : i < ys.length := by omega
    have hy := List.getElem?_eq_getElem ly
    refine ⟨w0 x, ?_⟩
    refine inner i x _ H' _ hx2 hy e fun l H4 hl4 e4 hq => ?_
    have ne : l ≠ D := fun z => by
      subst z
      rw [hD2] at hl4
      cases hl4
    refine ⟨fun j k H => k = ys[i].length - j ∧ j ≤ ys[i].length ∧ Same H1 H ∧ H l = some (.lst ys[i]) ∧ H D = some (.lst ((ys.take i).flatten ++ ys[i].take j)), ⟨_, rfl, Nat.zero_le _, e.trans e4, hq, by rw [e4 _ _ hD2]; simp⟩, fun j k H5 h => ?_⟩
    obtain ⟨ek, hj, e5, hl5, hD5⟩ := h
    have w2 := walksL K l ys[i]
    by_cases lt2 : j < ys[i].length
    · have hz2 := List.getElem?_eq_getElem lt2
      refine .inr ⟨w2.go j _ H5 (SqL.of hl5) hz2, fun H' => Same H1 H' ∧ H' l = some (.lst ys[i]) ∧ H' D = some (.lst ((ys.take i).flatten ++ ys[i].take (j + 1))), fun H' n => ⟨ys[i].length - (j + 1), by omega, rfl, lt2, n⟩, fun z H' y => ?_⟩
      obtain ⟨eH, hz3⟩ := w2.yld j z H5 H' (SqL.of hl5) y
      subst eH
      refine ⟨w1 x z, ⟨z, rd x z, _, hD5, Nat.lt_of_lt_of_le (flat_le hy lt2) (Nat.le_trans hz (by decide)), ?_⟩⟩
      refine ⟨fun b o hb => ?_, ?_, ?_⟩
      · rw [upd_ne (ne_of_none hb hD)]
        exact e5 b o hb
      · rw [upd_ne ne]
        exact hl5
      · rw [upd_same, List.append_assoc]
        congr 3
        obtain ⟨il, ez⟩ := List.getElem?_eq_some_iff.mp hz3
        rw [List.take_succ_eq_append_getElem il, ez]
    · have ej : j = ys[i].length := by omega
      refine .inl ⟨w2.stop j H5 (SqL.of hl5) (by omega), e5, ?_⟩
      rw [hD5, ej, List.take_length, flat_take hy]
  · have ei : i = xs.length := by omega
    refine .inl ⟨wk.stop i H g (by omega), hd H e ?_⟩
    rw [hD2, ei, hl, List.take_length]
/-! ### values laid flat -/
def FlatOf (K : PySem.W.Frag) (H : Hp) : Nat → V → List Key → Prop
  | 0, _, _ => False
  | n + 1, v, k => (∃ i, v = .int i ∧ k = [.inl i]) ∨ ∃ (a : Addr) (xs : List V) (kss : List (List Key)), v = .ref a ∧ (SqL K H a xs ∨ SqT K H a xs) ∧ xs.length = kss.length ∧ (∀ (i : Nat) (x : V) (ks : List Key), xs[i]? = some x → kss[i]? = some ks → FlatOf K H n x ks) ∧ kss.flatten.length ≤ 1000 ∧ k = .inr "(" :: (kss.flatten ++ [.inr ")"])
theorem FlatOf.same {K : PySem.W.Frag} {H H' : Hp} (e : Same H H') : ∀ (n : Nat) {v : V} {k : List Key}, FlatOf K H n v k → FlatOf K H' n v k
  | 0, _, _, h => h.elim
  | n + 1, v, k, h => by
    rcases h with h | ⟨a, xs, kss, h1, h2, h3, h4, h5⟩
    · exact .inl h
    · refine .inr ⟨a, xs, kss, h1, ?_, h3, fun i x ks hx hk => FlatOf.same e n (h4 i x ks hx hk), h5⟩
      rcases h2 with h2 | h2
      · exact .inl (e.seq h2)
      · exact .inr (same_seqT e h2)
def spFlat (K : PySem.W.Frag) (n : Nat) : Sp := fun vs H Q _ => ∃ v k, vs = [v] ∧ FlatOf K H n v k ∧ ∀ p H', H p = none → Same H H' → H' p = some (.lst (k.map kV)) → Q (.ref p) H'
section
variable {P : Program} {w : World} {K : PySem.W.Frag} {mg : Str → Option Value} {base : Heap}
theorem ok_flat {n : Nat} (T : Txt K mg) (D : DefB K mg "flat" s_flat P_flat) (cl : C8.Cal P w K mg base 1 "is_list" (spList K) []) (c : C8.Cal P w K mg base (n + 1) "flat" (spFlat K n) []) : C8.Cal P w K mg base (n + 2) "flat" (spFlat K (n + 1)) [] := by
  refine calB D sc_flat (fun vs H Q E h => ?_) (fun f cdv A outer s H vs Q E hr h => ?_)
  · obtain ⟨v, k, rfl, _⟩ := h
    rfl
  obtain ⟨v, k, rfl, ⟨i, rfl, rfl⟩ | ⟨a, xs, kss, rfl, hx | hx, h3, h4, h5, rfl⟩, q⟩ := h
  · refine ⟨_, (pss_cons (ps_if (pt_not (pt_val (C8.pe_c cl hr (Nat.succ_le_succ (Nat.zero_le _)) (by rfl) (pa_cons (pv 0) pa_nil)))) (pss_one (ps_ret (pe_lst (pa_cons (pv 0) pa_nil)))) pss_nil)
    (pss_one (ps_ret (pe_lst (pa_cons pe_str (StX.pa_star (pe_lc2 (own := [("part", 1), ("item", 2)]) (vs1 := [2]) (g := gName 1) (g1 := gName 2) (tt := tYes) (tt1 := tYes) (wi1 := iList K _) rfl sc_flat.nd (pi_list (pv 0)) (blkOk_by (N := N_flat) (sc := C8.fnScope s_flat) (by decide +kernel)) (by decide) (fun _ _ _ _ _ => (pg_name (i := 1) sc_flat.nd rfl (Or.inl rfl))) (fun _ _ _ _ _ => pts_nil) (fun _ _ _ _ _ => (pi_list (C8.pe_c c hr (Nat.le_refl _) (by rfl) (pa_cons (pv 1) pa_nil)))) (fun _ _ _ _ _ => (pg_name (i := 2) sc_flat.nd rfl (Or.inl rfl))) (fun _ _ _ _ _ => pts_nil) (fun _ _ _ _ _ => (pv 2))) (pa_cons pe_str pa_nil))))))), ?_⟩
    refine ⟨_, rfl, _, false, rfl, listK_int i, fun H1 e1 => ⟨false, rfl, iteT ?_⟩⟩
    exact ⟨_, rfl, (by show 1 ≤ sizeLine; decide), fun p hp => q p _ (e1.free hp) (e1.trans (same_new hp _)) upd_same⟩
  · refine ⟨_, (pss_cons (ps_if (pt_not (pt_val (C8.pe_c cl hr (Nat.succ_le_succ (Nat.zero_le _)) (by rfl) (pa_cons (pv 0) pa_nil)))) (pss_one (ps_ret (pe_lst (pa_cons (pv 0) pa_nil)))) pss_nil)
    (pss_one (ps_ret (pe_lst (pa_cons pe_str (StX.pa_star (pe_lc2 (own := [("part", 1), ("item", 2)]) (vs1 := [2]) (g := gName 1) (g1 := gName 2) (tt := tYes) (tt1 := tYes) (wi1 := iList K _) rfl sc_flat.nd (pi_list (pv 0)) (blkOk_by (N := N_flat) (sc := C8.fnScope s_flat) (by decide +kernel)) (by decide) (fun _ _ _ _ _ => (pg_name (i := 1) sc_flat.nd rfl (Or.inl rfl))) (fun _ _ _ _ _ => pts_nil) (fun _ _ _ _ _ => (pi_list (C8.pe_c c hr (Nat.le_refl _) (by rfl) (pa_cons (pv 1) pa_nil)))) (fun _ _ _ _ _ => (pg_name (i := 2) sc_flat.nd rfl (Or.inl rfl))) (fun _ _ _ _ _ => pts_nil) (fun _ _ _ _ _ => (pv 2))) (pa_cons pe_str pa_nil))))))), ?_⟩
    refine ⟨_, rfl, _, true, rfl, listK_list hx, fun H1 e1 => ⟨true, rfl, iteF ?_⟩⟩
    have e0 : kss.flatten.map kV = (kss.map fun k => k.map kV).flatten := by rw [List.map_flatten]
    refine ⟨_, rfl, a, rfl, ⟨_, e1.seq hx⟩, fun D hD => lc2_flat (K := K) (ys := kss.map fun k => k.map kV) (i0 := 1) (i1 := 2) (vs := [1, 2]) (vs1 := [2]) (walksL K a xs) (fun H e => (e1.trans e).seq hx) hD (by rw [List.length_map]; exact h3) ?_ (fun _ => rfl) (fun _ _ => rfl) (fun _ _ => rfl) ?_ ?_⟩
    · rw [← e0, List.length_map]
      omega
    · intro i x y H2 Kc hi hy e2 k
      rw [List.getElem?_map] at hy
      obtain ⟨ks, hk, rfl⟩ := Option.map_eq_some_iff.mp hy
      refine ⟨_, rfl, x, ks, rfl, FlatOf.same (e1.trans e2) n (h4 i x ks hi hk), fun p H3 hp e3 hl => ?_⟩
      exact ⟨p, rfl, ⟨_, SqL.of hl⟩, k p H3 hp e3 hl⟩
    · intro H2 e2 hl
      refine ⟨D, _, rfl, .inr (SqL.of hl), ?_⟩
      refine ⟨?_, fun p hp => q p _ ((e1.trans e2).free hp) ((e1.trans e2).trans (same_new hp _)) ?_⟩
      · show ((kss.map fun k => k.map kV).flatten ++ [V.str ")"]).length + 1 ≤ sizeLine
        rw [← e0, List.length_append, List.length_map]
        exact Nat.le_trans (by show _ + 1 + 1 ≤ 1002; omega) (by decide)
      · rw [upd_same, ← e0, List.map_cons, List.map_append]
        rfl
  · refine ⟨_, (pss_cons (ps_if (pt_not (pt_val (C8.pe_c cl hr (Nat.succ_le_succ (Nat.zero_le _)) (by rfl) (pa_cons (pv 0) pa_nil)))) (pss_one (ps_ret (pe_lst (pa_cons (pv 0) pa_nil)))) pss_nil)
    (pss_one (ps_ret (pe_lst (pa_cons pe_str (StX.pa_star (pe_lc2 (own := [("part", 1), ("item", 2)]) (vs1 := [2]) (g := gName 1) (g1 := gName 2) (tt := tYes) (tt1 := tYes) (wi1 := iList K _) rfl sc_flat.nd (pi_tup (pv 0)) (blkOk_by (N := N_flat) (sc := C8.fnScope s_flat) (by decide +kernel)) (by decide) (fun _ _ _ _ _ => (pg_name (i := 1) sc_flat.nd rfl (Or.inl rfl))) (fun _ _ _ _ _ => pts_nil) (fun _ _ _ _ _ => (pi_list (C8.pe_c c hr (Nat.le_refl _) (by rfl) (pa_cons (pv 1) pa_nil)))) (fun _ _ _ _ _ => (pg_name (i := 2) sc_flat.nd rfl (Or.inl rfl))) (fun _ _ _ _ _ => pts_nil) (fun _ _ _ _ _ => (pv 2))) (pa_cons pe_str pa_nil))))))), ?_⟩
    refine ⟨_, rfl, _, true, rfl, listK_tup hx, fun H1 e1 => ⟨true, rfl, iteF ?_⟩⟩
    have e0 : kss.flatten.map kV = (kss.map fun k => k.map kV).flatten := by rw [List.map_flatten]
    refine ⟨_, rfl, a, rfl, ⟨_, same_seqT e1 hx⟩, fun D hD => lc2_flat (K := K) (ys := kss.map fun k => k.map kV) (i0 := 1) (i1 := 2) (vs := [1, 2]) (vs1 := [2]) (walksT K a xs) (fun H e => same_seqT (e1.trans e) hx) hD (by rw [List.length_map]; exact h3) ?_ (fun _ => rfl) (fun _ _ => rfl) (fun _ _ => rfl) ?_ ?_⟩
    · rw [← e0, List.length_map]
      omega
    · intro i x y H2 Kc hi hy e2 k
      rw [List.getElem?_map] at hy
      obtain ⟨ks, hk, rfl⟩ := Option.map_eq_some_iff.mp hy
      refine ⟨_, rfl, x, ks, rfl, FlatOf.same (e1.trans e2) n (h4 i x ks hi hk), fun p H3 hp e3 hl => ?_⟩
      exact ⟨p, rfl, ⟨_, SqL.of hl⟩, k p H3 hp e3 hl⟩
    · intro H2 e2 hl
      refine ⟨D, _, rfl, .inr (SqL.of hl), ?_⟩
      refine ⟨?_, fun p hp => q p _ ((e1.trans e2).free hp) ((e1.trans e2).trans (same_new hp _)) ?_⟩
      · show ((kss.map fun k => k.map kV).flatten ++ [V.str ")"]).length + 1 ≤ sizeLine
        rw [← e0, List.length_append, List.length_map]
        exact Nat.le_trans (by show _ + 1 + 1 ≤ 1002; omega) (by decide)
      · rw [upd_same, ← e0, List.map_cons, List.map_append]
        rfl
end
end My


set_option Elab.async false
set_option linter.all false
set_option maxRecDepth 100000
namespace My
open PySem PySem.Spec PyProof.Rows L2
/-! ### fixed: each list as a tuple, all the way in -/
inductive Sh where
  | leaf (v : V)
  | node (ss : List Sh)
/-- the value has this shape -/
def InSh (K : PySem.W.Frag) (H : Hp) : Nat → V → Sh → Prop
  | 0, _, _ => False
  | _ + 1, v, .leaf u => u = v ∧ ListK K H v false
  | n + 1, v, .node ss => ∃ (a : Addr) (xs : List V), v = .ref a ∧ (SqL K H a xs ∨ SqT K H a xs) ∧ xs.length ≤ 100000 ∧ xs.length = ss.length ∧ ∀ (i : Nat) (x : V) (z : Sh), xs[i]? = some x → ss[i]? = some z → InSh K H n x z
/-- the value has this shape, in tuples alone -/
def TpSh (H : Hp) : Nat → V → Sh → Prop
  | 0, _, _ => False
  | _ + 1, v, .leaf u => u = v
  | n + 1, v, .node ss => ∃ (l : Addr) (ys : List V), v = .ref l ∧ H l = some (.tup ys) ∧ ys.length = ss.length ∧ ∀ (i : Nat) (y : V) (z : Sh), ys[i]? = some y → ss[i]? = some z → TpSh H n y z
theorem InSh.same {K : PySem.W.Frag} {H H' : Hp} (e : Same H H') : ∀ (n : Nat) {v : V} {z : Sh}, InSh K H n v z → InSh K H' n v z
  | 0, _, _, h => h.elim
  | n + 1, v, .leaf u, h => ⟨h.1, h.2.same e⟩
  | n + 1, v, .node ss, h => by
    obtain ⟨a, xs, h1, h2, h3, h4, h5⟩ := h
    refine ⟨a, xs, h1, ?_, h3, h4, fun i x z hx hz => InSh.same e n (h5 i x z hx hz)⟩
    rcases h2 with h2 | h2
    · exact .inl (e.seq h2)
    · exact .inr (same_seqT e h2)
/-- without what stands at D -/
def era (D : Addr) (H : Hp) : Hp := fun b => if b = D then none else H b
theorem era_same (D : Addr) (H : Hp) : Same (era D H) H := fun b o h => by
  unfold era at h
  by_cases e : b = D
  · rw [if_pos e] at h
    cases h
  · rw [if_neg e] at h
    exact h
theorem era_keep {D : Addr} {H H' : Hp} (k : Keep D H H') : Same (era D H) (era D H') := fun b o h => by
  unfold era at h ⊢
  by_cases e : b = D
  · rw [if_pos e] at h
    cases h
  · rw [if_neg e] at h ⊢
    exact k b o h e
theorem TpSh.same {H H' : Hp} (e : Same H H') : ∀ (n : Nat) {v : V} {z : Sh}, TpSh H n v z → TpSh H' n v z
  | 0, _, _, h => h.elim
  | n + 1, v, .leaf u, h => h
  | n + 1, v, .node ss, h => by
    obtain ⟨l, ys, h1, h2, h3, h4⟩ := h
    exact ⟨l, ys, h1, e _ _ h2, h3, fun i y z hy hz => TpSh.same e n (h4 i y z hy hz)⟩
theorem TpSh.era {H : Hp} {D : Addr} {acc : List V} (hD : H D = some (.lst acc)) : ∀ (n : Nat) {v : V} {z : Sh}, TpSh H n v z → TpSh (era D H) n v z
  | 0, _, _, h => h.elim
  | n + 1, v, .leaf u, h => h
  | n + 1, v, .node ss, h => by
    obtain ⟨l, ys, h1, h2, h3, h4⟩ := h
    refine ⟨l, ys, h1, ?_, h3, fun i y z hy hz => TpSh.era hD n (h4 i y z hy hz)⟩
    unfold My.era
    rw [if_neg (fun e => by rw [e, hD] at h2; cases h2)]
    exact h2
def spFix (K : PySem.W.Frag) (n : Nat) : Sp := fun vs H Q _ => ∃ v z, vs = [v] ∧ InSh K H n v z ∧ ∀ v' H', Same H H' → TpSh H' n v' z → Q v' H'
section
variable {P : Program} {w : World} {K : PySem.W.Frag} {mg : Str → Option Value} {base : Heap}
theorem cal_not {x : Str} {st : Stmt} {ps : List Str} {sp : Sp} {k : Nat} (D : DefB K mg x st ps) (no : ∀ vs H Q E, ¬ sp vs H Q E) : C8.Cal P w K mg base k x sp [] := by
  obtain ⟨f, fd, F, b⟩ := D
  exact ⟨f, fd, ps, [], ⟨fun vs H Q E h => absurd h (no vs H Q E), fun A outer s H args us vs Q E _ _ _ _ h => absurd h (no vs H Q E)⟩, F.mgf, F.kp, b, .nil⟩
theorem ok_fix {n : Nat} (T : Txt K mg) (D : DefB K mg "fixed" s_fixed P_fixed) (c : C8.Cal P w K mg base n "fixed" (spFix K n) []) : C8.Cal P w K mg base (n + 1) "fixed" (spFix K (n + 1)) [] := by
  refine calB D sc_fixed (fun vs H Q E h => ?_) (fun f cdv A outer s H vs Q E hr h => ?_)
  · obtain ⟨v, z, rfl, _⟩ := h
    rfl
  obtain ⟨v, z, rfl, hz, q⟩ := h
  cases z with
  | leaf u =>
    obtain ⟨rfl, t, ht, hk⟩ := hz
    refine ⟨_, (pss_cons (ps_if (pt_val (pe_callB call_isiT (by rfl) T.b_isinstance (by decide +kernel) (pa_cons (pv 0) (pa_cons (pe_tup (pa_cons (pe_bltn (v := .ty "list") (by rfl) T.b_list (by decide +kernel) rfl) (pa_cons (pe_bltn (v := .ty "tuple") (by rfl) T.b_tuple (by decide +kernel) rfl) pa_nil))) pa_nil)))) (pss_one (ps_ret (pe_callTy call_tuple_of (by rfl) T.b_tuple (by decide +kernel) (pa_cons (pe_lc (own := [("part", 1)]) (g := gName 1) (tt := tYes) rfl sc_fixed.nd (pi_list (pv 0)) (blkOk_by (N := N_fixed) (sc := C8.fnScope s_fixed) (by decide +kernel)) (fun _ _ _ _ _ => (pg_name (i := 1) sc_fixed.nd rfl (Or.inl rfl))) (fun _ _ _ _ _ => pts_nil) (fun _ _ _ _ _ => (C8.pe_c c hr (Nat.le_refl _) (by rfl) (pa_cons (pv 1) pa_nil)))) pa_nil)))) pss_nil)
    (pss_one (ps_ret (pv 0)))), ?_⟩
    refine ⟨_, rfl, (by show 2 ≤ sizeLine; decide), fun tp htp => ?_⟩
    refine ⟨u, tp, _, t, _, false, rfl, upd_same, clsLT, TyX.same (same_new htp _) ht, hk, _, rfl, iteF ?_⟩
    exact ⟨_, rfl, q _ _ (same_new htp _) rfl⟩
  | node ss =>
  obtain ⟨a, xs, rfl, hx | hx, h3, h4, h5⟩ := hz
  · refine ⟨_, (pss_cons (ps_if (pt_val (pe_callB call_isiT (by rfl) T.b_isinstance (by decide +kernel) (pa_cons (pv 0) (pa_cons (pe_tup (pa_cons (pe_bltn (v := .ty "list") (by rfl) T.b_list (by decide +kernel) rfl) (pa_cons (pe_bltn (v := .ty "tuple") (by rfl) T.b_tuple (by decide +kernel) rfl) pa_nil))) pa_nil)))) (pss_one (ps_ret (pe_callTy call_tuple_of (by rfl) T.b_tuple (by decide +kernel) (pa_cons (pe_lc (own := [("part", 1)]) (g := gName 1) (tt := tYes) rfl sc_fixed.nd (pi_list (pv 0)) (blkOk_by (N := N_fixed) (sc := C8.fnScope s_fixed) (by decide +kernel)) (fun _ _ _ _ _ => (pg_name (i := 1) sc_fixed.nd rfl (Or.inl rfl))) (fun _ _ _ _ _ => pts_nil) (fun _ _ _ _ _ => (C8.pe_c c hr (Nat.le_refl _) (by rfl) (pa_cons (pv 1) pa_nil)))) pa_nil)))) pss_nil)
    (pss_one (ps_ret (pv 0)))), ?_⟩
    refine ⟨_, rfl, (by show 2 ≤ sizeLine; decide), fun tp htp => ?_⟩
    have e0 := same_new htp (.tup [.ty "list", .ty "tuple"])
    refine ⟨_, tp, _, _, _, true, rfl, upd_same, clsLT, tyx_L (e0.seq hx), kit_lt, _, rfl, iteT ?_⟩
    refine ⟨_, rfl, a, rfl, ⟨_, e0.seq hx⟩, fun D hD => lc_acc (K := K) (fun i acc H => acc.length = i ∧ ∀ (j : Nat) (y : V) (z : Sh), acc[j]? = some y → ss[j]? = some z → TpSh (era D H) n y z) (e0.seq hx) hD h3 (fun i acc H H' k h => ⟨h.1, fun j y z hy hz => (h.2 j y z hy hz).same (era_keep k) n⟩) ⟨rfl, fun j y z hy => by simp at hy⟩ ?_ ?_⟩
    · intro i x acc H1 Kc Nc hi e hD1 p h1 _
      refine ⟨rfl, _, rfl, ?_⟩
      have iz : i < ss.length := by
        have := (List.getElem?_eq_some_iff.mp hi).1
        omega
      have hz := List.getElem?_eq_getElem iz
      refine ⟨x, ss[i], rfl, InSh.same (e0.trans e) n (h5 i x _ hi hz), fun y H4 e4 t4 => h1 y H4 e4 ⟨by rw [List.length_append, p.1]; rfl, fun j u z hu hz2 => ?_⟩⟩
      by_cases lt : j < acc.length
      · rw [List.getElem?_append_left lt] at hu
        exact (p.2 j u z hu hz2).same (era_keep (Keep.of e4)) n
      · rw [List.getElem?_append_right (by omega)] at hu
        have ej : j - acc.length = 0 := by
          cases q0 : j - acc.length with
          | zero => rfl
          | succ m => rw [q0] at hu; simp at hu
        rw [ej] at hu
        have ei : j = i := by have := p.1; omega
        subst ei
        rw [hz] at hz2
        cases hz2
        cases hu
        exact t4.era (e4 _ _ hD1) n
    · intro acc H1 e hD1 _ p
      refine ⟨D, acc, rfl, .inl ⟨SqL.of hD1, fun l hl1 => ?_⟩⟩
      refine q _ _ ((e0.trans e).trans (same_new hl1 _)) ⟨l, acc, rfl, upd_same, by rw [p.1]; exact h4, fun j y z hy hz => ?_⟩
      exact (p.2 j y z hy hz).same ((era_same D H1).trans (same_new hl1 _)) n
  · refine ⟨_, (pss_cons (ps_if (pt_val (pe_callB call_isiT (by rfl) T.b_isinstance (by decide +kernel) (pa_cons (pv 0) (pa_cons (pe_tup (pa_cons (pe_bltn (v := .ty "list") (by rfl) T.b_list (by decide +kernel) rfl) (pa_cons (pe_bltn (v := .ty "tuple") (by rfl) T.b_tuple (by decide +kernel) rfl) pa_nil))) pa_nil)))) (pss_one (ps_ret (pe_callTy call_tuple_of (by rfl) T.b_tuple (by decide +kernel) (pa_cons (pe_lc (own := [("part", 1)]) (g := gName 1) (tt := tYes) rfl sc_fixed.nd (pi_tup (pv 0)) (blkOk_by (N := N_fixed) (sc := C8.fnScope s_fixed) (by decide +kernel)) (fun _ _ _ _ _ => (pg_name (i := 1) sc_fixed.nd rfl (Or.inl rfl))) (fun _ _ _ _ _ => pts_nil) (fun _ _ _ _ _ => (C8.pe_c c hr (Nat.le_refl _) (by rfl) (pa_cons (pv 1) pa_nil)))) pa_nil)))) pss_nil)
    (pss_one (ps_ret (pv 0)))), ?_⟩
    refine ⟨_, rfl, (by show 2 ≤ sizeLine; decide), fun tp htp => ?_⟩
    have e0 := same_new htp (.tup [.ty "list", .ty "tuple"])
    refine ⟨_, tp, _, _, _, true, rfl, upd_same, clsLT, tyx_T (same_seqT e0 hx), kit_tt, _, rfl, iteT ?_⟩
    refine ⟨_, rfl, a, rfl, ⟨_, same_seqT e0 hx⟩, fun D hD => lc_accT (K := K) (fun i acc H => acc.length = i ∧ ∀ (j : Nat) (y : V) (z : Sh), acc[j]? = some y → ss[j]? = some z → TpSh (era D H) n y z) (same_seqT e0 hx) hD h3 (fun i acc H H' k h => ⟨h.1, fun j y z hy hz => (h.2 j y z hy hz).same (era_keep k) n⟩) ⟨rfl, fun j y z hy => by simp at hy⟩ ?_ ?_⟩
    · intro i x acc H1 Kc Nc hi e hD1 p h1 _
      refine ⟨rfl, _, rfl, ?_⟩
      have iz : i < ss.length := by
        have := (List.getElem?_eq_some_iff.mp hi).1
        omega
      have hz := List.getElem?_eq_getElem iz
      refine ⟨x, ss[i], rfl, InSh.same (e0.trans e) n (h5 i x _ hi hz), fun y H4 e4 t4 => h1 y H4 e4 ⟨by rw [List.length_append, p.1]; rfl, fun j u z hu hz2 => ?_⟩⟩
      by_cases lt : j < acc.length
      · rw [List.getElem?_append_left lt] at hu
        exact (p.2 j u z hu hz2).same (era_keep (Keep.of e4)) n
      · rw [List.getElem?_append_right (by omega)] at hu
        have ej : j - acc.length = 0 := by
          cases q0 : j - acc.length with
          | zero => rfl
          | succ m => rw [q0] at hu; simp at hu
        rw [ej] at hu
        have ei : j = i := by have := p.1; omega
        subst ei
        rw [hz] at hz2
        cases hz2
        cases hu
        exact t4.era (e4 _ _ hD1) n
    · intro acc H1 e hD1 _ p
      refine ⟨D, acc, rfl, .inl ⟨SqL.of hD1, fun l hl1 => ?_⟩⟩
      refine q _ _ ((e0.trans e).trans (same_new hl1 _)) ⟨l, acc, rfl, upd_same, by rw [p.1]; exact h4, fun j y z hy hz => ?_⟩
      exact (p.2 j y z hy hz).same ((era_same D H1).trans (same_new hl1 _)) n
theorem ok_fixN (T : Txt K mg) (D : DefB K mg "fixed" s_fixed P_fixed) : ∀ n : Nat, C8.Cal P w K mg base n "fixed" (spFix K n) []
  | 0 => cal_not D fun vs H Q E h => by
    obtain ⟨v, z, _, hn, _⟩ := h
    exact hn
  | n + 1 => ok_fix T D (ok_fixN T D n)
theorem ok_flatN (T : Txt K mg) (D : DefB K mg "flat" s_flat P_flat) (cl : C8.Cal P w K mg base 1 "is_list" (spList K) []) : ∀ n : Nat, C8.Cal P w K mg base (n + 1) "flat" (spFlat K n) []
  | 0 => cal_not D fun vs H Q E h => by
    obtain ⟨v, k, _, hn, _⟩ := h
    exact hn
  | n + 1 => ok_flat T D cl (ok_flatN T D cl n)
end
end My


set_option Elab.async false
set_option linter.all false
set_option maxRecDepth 100000
namespace My
open PySem PySem.Spec PyProof.Rows L2
def twiceAt (kss : List (List Key)) : Option Nat := (List.range kss.length).find? fun i => hasKey (kss.take i) (kss.getD i [])
/-- none of the first i equals one ahead of it -/
def Once (kss : List (List Key)) (i : Nat) : Prop := ∀ (j : Nat) (k : List Key), j < i → kss[j]? = some k → hasKey (kss.take j) k = false
theorem twice_some {kss : List (List Key)} {i : Nat} {k : List Key} (o : Once kss i) (h : kss[i]? = some k) (t : hasKey (kss.take i) k = true) : twiceAt kss = some i := by
  have il := (List.getElem?_eq_some_iff.mp h).1
  refine find_range _ il (by rw [List.getD_eq_getElem?_getD, h]; exact t) fun j hj => ?_
  have hj2 := List.getElem?_eq_getElem (Nat.lt_trans hj il)
  rw [List.getD_eq_getElem?_getD, hj2]
  exact o j _ hj hj2
theorem twice_none {kss : List (List Key)} (o : Once kss kss.length) : twiceAt kss = none := by
  refine find_range_none _ fun j hj => ?_
  have hj2 := List.getElem?_eq_getElem hj
  rw [List.getD_eq_getElem?_getD, hj2]
  exact o j _ hj hj2
theorem hasKey_iff {ks : List (List Key)} {k : List Key} : hasKey ks k = true ↔ k ∈ ks := by
  constructor
  · intro h
    rcases Classical.em (k ∈ ks) with z | z
    · exact z
    · rw [hasKey_no z] at h
      cases h
  · exact hasKey_yes
theorem hasKey_congr {as bs : List (List Key)} {k : List Key} (h : k ∈ as ↔ k ∈ bs) : hasKey as k = hasKey bs k := by
  cases e : hasKey bs k with
  | true => exact hasKey_yes (h.mpr (hasKey_iff.mp e))
  | false => exact hasKey_no fun z => by rw [hasKey_yes (h.mp z)] at e; cases e
def spTwice (K : PySem.W.Frag) (n : Nat) : Sp := fun vs H Q _ => ∃ (a : Addr) (xs : List V) (kss : List (List Key)) (zs : List Sh), vs = [.ref a] ∧ (SqL K H a xs ∨ SqT K H a xs) ∧ xs.length < 63 ∧ kss.length = xs.length ∧ zs.length = xs.length ∧
  (∀ (i : Nat) (x : V) (k : List Key), xs[i]? = some x → kss[i]? = some k → FlatOf K H n x k) ∧ (∀ (i : Nat) (x : V) (z : Sh), xs[i]? = some x → zs[i]? = some z → InSh K H n x z) ∧
  (twiceAt kss = none → ∀ H', Same H H' → Q .non H') ∧ ∀ (i : Nat) (z : Sh), twiceAt kss = some i → zs[i]? = some z → ∀ v' H', Same H H' → TpSh H' n v' z → Q v' H'
section
variable {P : Program} {w : World} {K : PySem.W.Frag} {mg : Str → Option Value} {base : Heap}
theorem ok_first_twice {n : Nat} (T : Txt K mg) (D : DefK K mg "first_twice" s_first_twice P_first_twice) (c_flat : C8.Cal P w K mg base (n + 1) "flat" (spFlat K n) []) (c_fixed : C8.Cal P w K mg base n "fixed" (spFix K n) []) : CalK P w K mg base (n + 2) "first_twice" s_first_twice P_first_twice (spTwice K n) := by
  refine calK D sc_first_twice (fun vs H Q E h => ?_) (fun f cdv A outer s H vs Q E hr h => ?_)
  · obtain ⟨a, xs, kss, zs, rfl, _⟩ := h
    rfl
  obtain ⟨a, xs, kss, zs, rfl, hx | hx, len, hkl, hzl, hf, hs, q1, q2⟩ := h
  · refine ⟨_, (pss_cons (ps_set (i := 1) sc_first_twice.nd rfl (Or.inl rfl) (pe_callTy0 cr_newM (by rfl) T.b_set (by decide +kernel)))
    (pss_cons (ps_for PassesOwn.never rfl (pi_list (pv 0)) (pg_name (i := 2) sc_first_twice.nd rfl (Or.inl rfl))
      (pss_cons (ps_set (i := 3) sc_first_twice.nd rfl (Or.inl rfl) (pe_callTy call_tuple_of (by rfl) T.b_tuple (by decide +kernel) (pa_cons (C8.pe_c c_flat hr (by omega) (by rfl) (pa_cons (pv 2) pa_nil)) pa_nil)))
    (pss_cons (ps_if (pt_cmpR (or_inM hr.units) (pv 3) (pv 1) rfl) (pss_one (ps_ret (C8.pe_c c_fixed hr (by omega) (by rfl) (pa_cons (pv 2) pa_nil)))) pss_nil)
    (pss_one (ps_expr (pe_mG tyM_ok PySem.F.plainAttrs_set PySem.F.slot_set_add PySem.F.type_set_add (mt_addM hr.units) (pv 1) (pa_cons (pv 3) pa_nil)))))))
    (pss_one (ps_ret pe_non)))), ?_⟩
    refine ⟨rfl, fun S hS => ?_⟩
    have e0 := same_new hS (MSet P w S [])
    refine ⟨_, rfl, a, rfl, ⟨_, e0.seq hx⟩, for_list (K := K) (a := a) (xs := xs) (fun i σ H' => (∃ x2 x3, σ = [some (.ref a), some (.ref S), x2, x3]) ∧ Same H H' ∧ Once kss i ∧ ∃ L : List Mem, H' S = some (MSet P w S L) ∧ (∀ r ∈ L, H' r.1 = some (.tup (r.2.map kV))) ∧
      (∀ k, k ∈ L.map (fun r : Mem => r.2) ↔ k ∈ kss.take i) ∧ L.length ≤ i) ⟨⟨_, _, rfl⟩, e0, fun j k hj => absurd hj (Nat.not_lt_zero _), [], upd_same, (fun r hr => nomatch hr), fun k => ?_, Nat.le_refl _⟩ (fun i σ' H' _ p => p.2.1.seq hx) ?_ ?_⟩
    · simp
    · rintro i x σ' H' hi ⟨⟨x2, x3, rfl⟩, e, on, L, hL, tup, mem, len⟩
      have il := (List.getElem?_eq_some_iff.mp hi).1
      have ik : i < kss.length := by omega
      have iz : i < zs.length := by omega
      have hk := List.getElem?_eq_getElem ik
      have hz := List.getElem?_eq_getElem iz
      refine ⟨_, rfl, x, kss[i], rfl, FlatOf.same e n (hf i x _ hi hk), fun p H2 hp e2 hl => ?_⟩
      refine ⟨p, _, rfl, .inl ⟨SqL.of hl, fun l hl1 => ?_⟩⟩
      have e3 : Same H' (upd H2 l (.tup (kss[i].map kV))) := e2.trans (same_new hl1 _)
      have tup3 : ∀ r ∈ L, SqT K (upd H2 l (.tup (kss[i].map kV))) r.1 (r.2.map kV) := fun r hr => SqT.of (e3 _ _ (tup r hr))
      refine ⟨_, rfl, _, rfl, S, l, kss[i], L, rfl, rfl, e3 _ _ hL, SqT.of upd_same, tup3, _, rfl, ?_⟩
      have hm : hasKey (L.map fun r : Mem => r.2) kss[i] = hasKey (kss.take i) kss[i] := hasKey_congr (mem _)
      rw [hm]
      cases hb : hasKey (kss.take i) kss[i] with
      | true =>
        refine iteT ⟨_, rfl, x, zs[i], rfl, InSh.same (e.trans e3) n (hs i x _ hi hz), fun v' H4 e4 t4 => ?_⟩
        exact q2 i _ (twice_some on hk hb) hz v' H4 ((e.trans e3).trans e4) t4
      | false =>
        refine iteF ⟨_, rfl, ⟨S, L, rfl, e3 _ _ hL⟩, _, rfl, S, l, kss[i], L, rfl, rfl, e3 _ _ hL, SqT.of upd_same, tup3, by omega, fun L' _ more => ?_⟩
        have nin : kss[i] ∉ L.map fun r : Mem => r.2 := fun z => by
          rw [hasKey_yes ((mem _).mp z)] at hb
          cases hb
        have pm := more nin
        refine ⟨⟨_, _, rfl⟩, fun b o hb2 => ?_, fun j k hj hk2 => ?_, L', upd_same, fun r hr => ?_, fun k => ?_, ?_⟩
        · rw [upd_ne (ne_of_none hb2 hS)]
          exact (e.trans e3) b o hb2
        · by_cases z : j < i
          · exact on j k z hk2
          · have ej : j = i := by omega
            subst ej
            rw [hk] at hk2
            cases hk2
            exact hb
        · have tp : upd H2 l (.tup (kss[i].map kV)) r.1 = some (.tup (r.2.map kV)) := by
            rcases List.mem_cons.mp (pm.mem_iff.mp hr) with z | z
            · rw [z]; exact upd_same
            · exact e3 _ _ (tup r z)
          have nS : r.1 ≠ S := fun z => by
            rw [z, e3 _ _ hL] at tp
            cases tp
          rw [upd_ne nS]
          exact tp
        · have t1 : kss.take (i + 1) = kss.take i ++ [kss[i]] := List.take_succ_eq_append_getElem ik
          rw [t1, List.mem_append, List.mem_singleton, ← mem k, (pm.map _).mem_iff, List.map_cons, List.mem_cons]
          exact Or.comm
        · rw [pm.length_eq, List.length_cons]
          omega
    · rintro σ' H' ⟨_, e, on, _⟩
      exact q1 (twice_none (by rw [hkl]; exact on)) H' e
  · refine ⟨_, (pss_cons (ps_set (i := 1) sc_first_twice.nd rfl (Or.inl rfl) (pe_callTy0 cr_newM (by rfl) T.b_set (by decide +kernel)))
    (pss_cons (ps_for PassesOwn.never rfl (pi_tup (pv 0)) (pg_name (i := 2) sc_first_twice.nd rfl (Or.inl rfl))
      (pss_cons (ps_set (i := 3) sc_first_twice.nd rfl (Or.inl rfl) (pe_callTy call_tuple_of (by rfl) T.b_tuple (by decide +kernel) (pa_cons (C8.pe_c c_flat hr (by omega) (by rfl) (pa_cons (pv 2) pa_nil)) pa_nil)))
    (pss_cons (ps_if (pt_cmpR (or_inM hr.units) (pv 3) (pv 1) rfl) (pss_one (ps_ret (C8.pe_c c_fixed hr (by omega) (by rfl) (pa_cons (pv 2) pa_nil)))) pss_nil)
    (pss_one (ps_expr (pe_mG tyM_ok PySem.F.plainAttrs_set PySem.F.slot_set_add PySem.F.type_set_add (mt_addM hr.units) (pv 1) (pa_cons (pv 3) pa_nil)))))))
    (pss_one (ps_ret pe_non)))), ?_⟩
    refine ⟨rfl, fun S hS => ?_⟩
    have e0 := same_new hS (MSet P w S [])
    refine ⟨_, rfl, a, rfl, ⟨_, same_seqT e0 hx⟩, for_tup (K := K) (a := a) (xs := xs) (fun i σ H' => (∃ x2 x3, σ = [some (.ref a), some (.ref S), x2, x3]) ∧ Same H H' ∧ Once kss i ∧ ∃ L : List Mem, H' S = some (MSet P w S L) ∧ (∀ r ∈ L, H' r.1 = some (.tup (r.2.map kV))) ∧
      (∀ k, k ∈ L.map (fun r : Mem => r.2) ↔ k ∈ kss.take i) ∧ L.length ≤ i) ⟨⟨_, _, rfl⟩, e0, fun j k hj => absurd hj (Nat.not_lt_zero _), [], upd_same, (fun r hr => nomatch hr), fun k => ?_, Nat.le_refl _⟩ (fun i σ' H' _ p => same_seqT p.2.1 hx) ?_ ?_⟩
    · simp
    · rintro i x σ' H' hi ⟨⟨x2, x3, rfl⟩, e, on, L, hL, tup, mem, len⟩
      have il := (List.getElem?_eq_some_iff.mp hi).1
      have ik : i < kss.length := by omega
      have iz : i < zs.length := by omega
      have hk := List.getElem?_eq_getElem ik
      have hz := List.getElem?_eq_getElem iz
      refine ⟨_, rfl, x, kss[i], rfl, FlatOf.same e n (hf i x _ hi hk), fun p H2 hp e2 hl => ?_⟩
      refine ⟨p, _, rfl, .inl ⟨SqL.of hl, fun l hl1 => ?_⟩⟩
      have e3 : Same H' (upd H2 l (.tup (kss[i].map kV))) := e2.trans (same_new hl1 _)
      have tup3 : ∀ r ∈ L, SqT K (upd H2 l (.tup (kss[i].map kV))) r.1 (r.2.map kV) := fun r hr => SqT.of (e3 _ _ (tup r hr))
      refine ⟨_, rfl, _, rfl, S, l, kss[i], L, rfl, rfl, e3 _ _ hL, SqT.of upd_same, tup3, _, rfl, ?_⟩
      have hm : hasKey (L.map fun r : Mem => r.2) kss[i] = hasKey (kss.take i) kss[i] := hasKey_congr (mem _)
      rw [hm]
      cases hb : hasKey (kss.take i) kss[i] with
      | true =>
        refine iteT ⟨_, rfl, x, zs[i], rfl, InSh.same (e.trans e3) n (hs i x _ hi hz), fun v' H4 e4 t4 => ?_⟩
        exact q2 i _ (twice_some on hk hb) hz v' H4 ((e.trans e3).trans e4) t4
      | false =>
        refine iteF ⟨_, rfl, ⟨S, L, rfl, e3 _ _ hL⟩, _, rfl, S, l, kss[i], L, rfl, rfl, e3 _ _ hL, SqT.of upd_same, tup3, by omega, fun L' _ more => ?_⟩
        have nin : kss[i] ∉ L.map fun r : Mem => r.2 := fun z => by
          rw [hasKey_yes ((mem _).mp z)] at hb
          cases hb
        have pm := more nin
        refine ⟨⟨_, _, rfl⟩, fun b o hb2 => ?_, fun j k hj hk2 => ?_, L', upd_same, fun r hr => ?_, fun k => ?_, ?_⟩
        · rw [upd_ne (ne_of_none hb2 hS)]
          exact (e.trans e3) b o hb2
        · by_cases z : j < i
          · exact on j k z hk2
          · have ej : j = i := by omega
            subst ej
            rw [hk] at hk2
            cases hk2
            exact hb
        · have tp : upd H2 l (.tup (kss[i].map kV)) r.1 = some (.tup (r.2.map kV)) := by
            rcases List.mem_cons.mp (pm.mem_iff.mp hr) with z | z
            · rw [z]; exact upd_same
            · exact e3 _ _ (tup r z)
          have nS : r.1 ≠ S := fun z => by
            rw [z, e3 _ _ hL] at tp
            cases tp
          rw [upd_ne nS]
          exact tp
        · have t1 : kss.take (i + 1) = kss.take i ++ [kss[i]] := List.take_succ_eq_append_getElem ik
          rw [t1, List.mem_append, List.mem_singleton, ← mem k, (pm.map _).mem_iff, List.map_cons, List.mem_cons]
          exact Or.comm
        · rw [pm.length_eq, List.length_cons]
          omega
    · rintro σ' H' ⟨_, e, on, _⟩
      exact q1 (twice_none (by rw [hkl]; exact on)) H' e
end
end My


set_option Elab.async false
set_option linter.all false
set_option maxRecDepth 100000
namespace My
open PySem PySem.Spec PyProof.Rows L2
/-- the values that are no integers -/
inductive OddV (H : Hp) (p : Addr) : V → Prop
  | bl (b : Bool) : OddV H p (.bl b)
  | non : OddV H p .non
  | str (x : Str) : OddV H p (.str x)
  | l1 {a : Addr} (h : H a = some (.lst [.int 1])) (n : a ≠ p) : OddV H p (.ref a)
  | t1 {a : Addr} (h : H a = some (.tup [.int 1])) (n : a ≠ p) : OddV H p (.ref a)
  | dk {a : Addr} {kvs : List (Key × V)} (h : H a = some (.dK kvs)) (n : a ≠ p) : OddV H p (.ref a)
  | lb {a : Addr} (h : H a = some (.lst [.bl true])) (n : a ≠ p) : OddV H p (.ref a)
  | t2 {a : Addr} (h : H a = some (.tup [.str "0", .int 0])) (n : a ≠ p) : OddV H p (.ref a)
theorem OddV.keep {H H' : Hp} {p : Addr} (e : Keep p H H') {v : V} (o : OddV H p v) : OddV H' p v := by
  cases o with
  | bl b => exact .bl b
  | non => exact .non
  | str x => exact .str x
  | l1 h n => exact .l1 (e _ _ h n) n
  | t1 h n => exact .t1 (e _ _ h n) n
  | dk h n => exact .dk (e _ _ h n) n
  | lb h n => exact .lb (e _ _ h n) n
  | t2 h n => exact .t2 (e _ _ h n) n
theorem OddV.kn {K : PySem.W.Frag} {H : Hp} {p : Addr} {v : V} (o : OddV H p v) : Kn K H v ∧ intV v = false := by
  cases o with
  | bl b => exact ⟨intK_bl b, rfl⟩
  | non => exact ⟨intK_non, rfl⟩
  | str x => exact ⟨intK_str x, rfl⟩
  | l1 h n => exact ⟨intK_list (SqL.of h), rfl⟩
  | t1 h n => exact ⟨intK_tup (SqT.of h), rfl⟩
  | dk h n => exact ⟨intK_dict h, rfl⟩
  | lb h n => exact ⟨intK_list (SqL.of h), rfl⟩
  | t2 h n => exact ⟨intK_tup (SqT.of h), rfl⟩
theorem same_new2 {H : Hp} {p : Addr} (h : H p = none) (o o' : HO) : Same H (upd (upd H p o) p o') := fun b u q => by
  rw [upd_ne (ne_of_none q h), upd_ne (ne_of_none q h)]
  exact q
def spOdd : Sp := fun vs H Q _ => ∃ (p c : Addr) (n : Nat), vs = [.ref p] ∧ Well H p c (n + 1) ∧ ∀ (v : V) (H' : Hp), OddV H' p v → Keep p H H' → Well H' p c n → Q v H'
section
variable {P : Program} {w : World} {K : PySem.W.Frag} {mg : Str → Option Value} {base : Heap}
theorem ok__law_odd {k : Nat} (T : Txt K mg) (D : DefB K mg "_law_odd" s__law_odd P__law_odd) (c__law_of : C8.Cal P w K mg base k "_law_of" (spOf K) []) : C8.Cal P w K mg base (k + 1) "_law_odd" spOdd [] := by
  refine calB D sc__law_odd (fun vs H Q E h => ?_) (fun f cdv A outer s H vs Q E hr h => ?_)
  · obtain ⟨p, c, n, rfl, _⟩ := h
    rfl
  obtain ⟨p, c, n, rfl, W, q⟩ := h
  refine ⟨_, (pss_one (ps_ret (C8.pe_c c__law_of hr (Nat.le_refl _) (by rfl) (pa_cons (pv 0) (pa_cons (pe_lst (pa_cons pe_bl (pa_cons pe_bl (pa_cons pe_non (pa_cons pe_str (pa_cons (pe_lst (pa_cons pe_int pa_nil)) (pa_cons (pe_tup (pa_cons pe_int pa_nil)) (pa_cons pe_dnewK (pa_cons pe_str (pa_cons (pe_cmpR op_lt (pe_op op_pow pe_int pe_int) pe_int (nomark _)) (pa_cons (pe_lst (pa_cons pe_bl pa_nil)) (pa_cons (pe_disp (pps_cons pe_int pe_int pps_nil) (by rfl) (by rfl) (fun z => by cases z) (by decide)) (pa_cons (pe_tup (pa_cons pe_str (pa_cons pe_int pa_nil))) pa_nil))))))))))))) pa_nil))))), ?_⟩
  refine ⟨_, rfl, ?_⟩
  refine ⟨(by show 1 ≤ sizeLine; decide), fun a1 h1 => ?_⟩
  have e1 := same_new h1 (.lst [.int 1])
  refine ⟨(by show 1 ≤ sizeLine; decide), fun a2 h2 a3 h3 => ?_⟩
  have e2 := same_new h2 (.tup [.int 1])
  have e3 := same_new h3 (.dK [])
  refine ⟨10, 3, rfl, rfl, (by unfold CPow; decide), _, _, rfl, rfl, ?_⟩
  refine ⟨(by show 1 ≤ sizeLine; decide), fun a4 h4 a5 h5 => ?_⟩
  have e4 := same_new h4 (.lst [.bl true])
  refine ⟨upd_same, [(.inl 1, .int 1)], rfl, by decide, (by show 2 ≤ sizeLine; decide), fun a6 h6 => ?_⟩
  have e5 := same_new2 h5 (.dK []) (.dK (mergeK [] [(.inl 1, .int 1)]))
  have e6 := same_new h6 (.tup [.str "0", .int 0])
  refine ⟨(by show 12 ≤ sizeLine; decide), fun l hl => ?_⟩
  have e7 := same_new hl (.lst [.bl true, .bl false, .non, .str "1", .ref a1, .ref a2, .ref a3, .str "", .bl (decide ((10 : Int) ^ (3 : Int).toNat < 7)), .ref a4, .ref a5, .ref a6])
  have eA := (((((e1.trans e2).trans e3).trans e4).trans e5).trans e6).trans e7
  have W2 := W.same eA
  obtain ⟨cells, t, r, hp, _⟩ := id W
  have i1 := e1 _ _ hp
  have i2 := e2 _ _ i1
  have i3 := e3 _ _ i2
  have i4 := e4 _ _ i3
  have i5 := e5 _ _ i4
  have i6 := e6 _ _ i5
  refine ⟨p, c, l, n, _, rfl, W2, SqL.of upd_same, (ne_of_none i6 hl).symm, (by show 0 < 12; decide), (by show 12 ≤ 1000; decide), fun v H' hv kp W' => ?_⟩
  refine q v H' ?_ (fun b o hb n => kp b o (eA b o hb) n) W'
  have x1 := kp _ _ (((((e2.trans e3).trans e4).trans e5).trans (e6.trans e7)) _ _ upd_same) (ne_of_none hp h1).symm
  have x2 := kp _ _ ((((e3.trans e4).trans e5).trans (e6.trans e7)) _ _ upd_same) (ne_of_none i1 h2).symm
  have x3 := kp _ _ (((e4.trans e5).trans (e6.trans e7)) _ _ upd_same) (ne_of_none i2 h3).symm
  have x4 := kp _ _ ((e5.trans (e6.trans e7)) _ _ upd_same) (ne_of_none i3 h4).symm
  have x5 := kp _ _ ((e6.trans e7) _ _ upd_same) (ne_of_none i4 h5).symm
  have x6 := kp _ _ (e7 _ _ upd_same) (ne_of_none i5 h6).symm
  simp only [List.mem_cons, List.not_mem_nil, or_false] at hv
  rcases hv with rfl | rfl | rfl | rfl | rfl | rfl | rfl | rfl | rfl | rfl | rfl | rfl
  · exact .bl _
  · exact .bl _
  · exact .non
  · exact .str _
  · exact .l1 x1 (ne_of_none hp h1).symm
  · exact .t1 x2 (ne_of_none i1 h2).symm
  · exact .dk x3 (ne_of_none i2 h3).symm
  · exact .str _
  · exact .bl _
  · exact .lb x4 (ne_of_none i3 h4).symm
  · exact .dk x5 (ne_of_none i4 h5).symm
  · exact .t2 x6 (ne_of_none i5 h6).symm
end
end My


set_option Elab.async false
set_option linter.all false
set_option maxRecDepth 100000
namespace My
open PySem PySem.Spec PyProof.Rows L2
theorem inB_no {lo hi v : V} (h : intV v = false) : inB lo hi v = false := by
  cases v with
  | int i => cases h
  | _ => rfl
section
variable {P : Program} {w : World} {K : PySem.W.Frag} {mg : Str → Option Value} {base : Heap}
theorem ok__law_bounds_right {k : Nat} (T : Txt K mg) (D : DefB K mg "_law_bounds_right" s__law_bounds_right P__law_bounds_right) (c__law_of : C8.Cal P w K mg base k "_law_of" (spOf K) []) (c__law_pail : C8.Cal P w K mg base k "_law_pail" spPail []) (c__law_odd : C8.Cal P w K mg base k "_law_odd" spOdd [])
    (k_is_integer : CalK P w K mg base k "is_integer" s_is_integer P_is_integer (spInt K)) (k_is_within : CalK P w K mg base k "is_within" s_is_within P_is_within (spWithin K)) : C8.Cal P w K mg base (k + 1) "_law_bounds_right" (spRight 5) [] := by
  refine calB D sc__law_bounds_right (fun vs H Q E h => ?_) (fun f cdv A outer s H vs Q E hr h => ?_)
  · obtain ⟨p, c, n, rfl, _⟩ := h
    rfl
  obtain ⟨p, c, n, rfl, W, q⟩ := h
  have c_is_integer := k_is_integer.cal
  have c_is_within := k_is_within.cal
  refine ⟨_, (pss_cons (ps_par (i := 2) (j := 3) (by rfl) sc__law_bounds_right.nd rfl rfl (by decide) rfl rfl (pa_cons (C8.pe_c c__law_of hr (Nat.le_refl _) (by rfl) (pa_cons (pv 0) (pa_cons (pe_lst (pa_cons pe_int (pa_cons pe_int (pa_cons (pe_un un_neg pe_int) (pa_cons (pe_op op_pow pe_int pe_int) (pa_cons (pe_un un_neg (pe_op op_pow pe_int pe_int)) (pa_cons (C8.pe_c c__law_pail hr (Nat.le_refl _) (by rfl) (pa_cons (pv 0) (pa_cons pe_int pa_nil))) pa_nil))))))) pa_nil))) (pa_cons (C8.pe_c c__law_odd hr (Nat.le_refl _) (by rfl) (pa_cons (pv 0) pa_nil)) pa_nil)) (by rfl))
    (pss_cons (ps_if (PW.pt (pw_or (pt_cmpR (op_neD hr.units) (pe_lst (pa_cons (pe_ck0 (ks := ["value"]) k_is_integer (by intro _ _ _ _ _ _ us ws l1 l2; match us, ws, l1, l2 with | [], [_], _, _ => rfl) hr (Nat.le_refl _) (by rfl) (pk_cons (pv 2) pk_nil)) (pa_cons (C8.pe_c c_is_integer hr (Nat.le_refl _) (by rfl) (pa_cons (pv 3) pa_nil)) pa_nil))) (pe_lst (pa_cons pe_bl (pa_cons pe_bl pa_nil))) (nomark _)) (pw_or (pt_val (C8.pe_c c_is_within hr (Nat.le_refl _) (by rfl) (pa_cons (pv 3) (pa_cons pe_non (pa_cons pe_non pa_nil))))) (pw_or1 (pt_val (pe_ckN (n := 1) (ks := ["least", "most"]) k_is_within (by intro _ _ _ _ _ _ us ws l1 l2; match us, ws, l1, l2 with | [_], [_, _], _, _ => rfl) hr (Nat.le_refl _) (by rfl) (pa_cons (pv 3) pa_nil) (pk_cons pe_int (pk_cons pe_int pk_nil)))))))) (pss_one (ps_ret pe_bl)) pss_nil)
    (pss_cons (ps_par (i := 4) (j := 5) (by rfl) sc__law_bounds_right.nd rfl rfl (by decide) rfl rfl (pa_cons (pe_op op_sub (C8.pe_c c__law_pail hr (Nat.le_refl _) (by rfl) (pa_cons (pv 0) (pa_cons pe_int pa_nil))) pe_int) (pa_cons (pe_op op_sub (C8.pe_c c__law_pail hr (Nat.le_refl _) (by rfl) (pa_cons (pv 0) (pa_cons pe_int pa_nil))) pe_int) pa_nil)) (by rfl))
    (pss_cons (ps_set (i := 1) sc__law_bounds_right.nd rfl (Or.inl rfl) (pe_lst (pa_cons (C8.pe_c c_is_within hr (Nat.le_refl _) (by rfl) (pa_cons (pv 2) (pa_cons (pe_op op_add (pv 2) (pv 4)) (pa_cons (pe_op op_add (pv 2) (pv 5)) pa_nil)))) (pa_cons (pe_ck0 (ks := ["value", "least", "most"]) k_is_within (by intro _ _ _ _ _ _ us ws l1 l2; match us, ws, l1, l2 with | [], [_, _, _], _, _ => rfl) hr (Nat.le_refl _) (by rfl) (pk_cons (pv 2) (pk_cons pe_non (pk_cons (pe_op op_add (pv 2) (pv 5)) pk_nil)))) pa_nil))))
    (pss_cons (ps_expr (pe_bm PySem.F.plainAttrs_list PySem.F.slot_list_append PySem.F.type_list_append mt_append (pv 1) (pa_cons (C8.pe_c c_is_within hr (Nat.le_refl _) (by rfl) (pa_cons (pv 2) (pa_cons (pe_op op_add (pv 2) (pv 4)) (pa_cons pe_non pa_nil)))) pa_nil)))
    (pss_one (ps_ret (pe_and (pe_cmpR (op_eqD hr.units) (pv 1) (pe_lst (pa_cons (pe_chain op_le op_le (pv 4) pe_int (pv 5)) (pa_cons (pe_cmpR op_le pe_int (pv 5) (nomark _)) (pa_cons (pe_cmpR op_le (pv 4) pe_int (nomark _)) pa_nil)))) (nomark _)) (pe_one (pe_cmpR op_isBl (C8.pe_c c_is_within hr (Nat.le_refl _) (by rfl) (pa_cons (pv 2) (pa_cons pe_non (pa_cons pe_non pa_nil)))) pe_bl (nomark _))))))))))), ?_⟩
  refine ⟨_, rfl, ⟨_, rfl, 10, 30, rfl, rfl, (by unfold CPow; decide), 10, 30, rfl, rfl, (by unfold CPow; decide), _, rfl, ?_⟩⟩
  refine ⟨_, rfl, p, c, n + 4, 100, rfl, W, by decide, by decide, fun z H1 z0 z1 kp1 W1 => ?_⟩
  refine ⟨(by show 6 ≤ sizeLine; decide), fun l hl => ?_⟩
  obtain ⟨cells, t, r, hp, _⟩ := id W1
  refine ⟨p, c, l, n + 3, _, rfl, W1.same (same_new hl _), SqL.of upd_same, (ne_of_none hp hl).symm, (by show 0 < 6; decide), (by show 6 ≤ 1000; decide), fun v H2 hv kp2 W2 => ?_⟩
  have hi : ∃ i, v = .int i := by
    simp only [List.mem_cons, List.not_mem_nil, or_false] at hv
    rcases hv with rfl | rfl | rfl | rfl | rfl | rfl <;> exact ⟨_, rfl⟩
  obtain ⟨i, rfl⟩ := hi
  refine ⟨_, rfl, p, c, n + 2, rfl, W2, fun o H3 ho kp3 W3 => ?_⟩
  refine ⟨_, _, rfl, ?_⟩
  have kA : Keep p H H3 := ((kp1.trans (Keep.of (same_new hl _))).trans kp2).trans kp3
  have ko := ho.kn (K := K)
  refine ⟨_, rfl, rfl, _, rfl, intK_int i, _, rfl, o, rfl, ko.1, (by show 2 ≤ sizeLine; decide), fun l1 hl1 => ?_⟩
  refine ⟨(by show 2 ≤ sizeLine; decide), fun l2 hl2 => ?_⟩
  have eB : Same H3 _ := (same_new hl1 (.lst [.bl true, .bl (intV o)])).trans (same_new hl2 (.lst [.bl true, .bl false]))
  refine ⟨.list ([true, intV o].map PyData.bool), .list ([true, false].map PyData.bool), .lst (SqL.of (same_new hl2 _ _ _ upd_same)) (dp_blsA [true, intV o]), .lst (SqL.of upd_same) (dp_blsA [true, false]), rfl, rfl, _, rfl, ?_⟩
  refine iteN (by simp only [PyData.eqv]; rw [eqv_blsA, ko.2]; rfl) ?_
  have ko2 := ko.1.same eB
  refine ⟨_, rfl, o, .non, .non, rfl, ko2, .inl rfl, .inl rfl, _, rfl, iteN (inB_no ko.2) ?_⟩
  refine ⟨_, rfl, rfl, rfl, o, .int 0, .int 1, rfl, ko2, .inr ⟨_, rfl⟩, .inr ⟨_, rfl⟩, _, rfl, iteN (inB_no ko.2) ?_⟩
  have W4 := W3.same eB
  refine ⟨_, rfl, p, c, n + 1, 5, rfl, W4, by decide, by decide, fun za H4 a0 a1 kp4 W5 => ?_⟩
  refine ⟨_, _, rfl, rfl, _, rfl, p, c, n, 5, rfl, W5, by decide, by decide, fun zb H5 b0 b1 kp5 W6 => ?_⟩
  refine ⟨_, _, rfl, rfl, _, _, rfl, ?_⟩
  have kB : Keep p H H5 := ((kA.trans (Keep.of eB)).trans kp4).trans kp5
  refine ⟨_, rfl, ⟨_, rfl, _, rfl, i, za - 2, rfl, rfl, _, rfl, _, rfl, i, zb - 2, rfl, rfl, ?_⟩⟩
  refine ⟨.int i, .int (i + (za - 2)), .int (i + (zb - 2)), rfl, intK_int i, .inr ⟨_, rfl⟩, .inr ⟨_, rfl⟩, ?_⟩
  refine ⟨_, rfl, ⟨_, rfl, _, rfl, i, zb - 2, rfl, rfl, rfl, .int i, .non, .int (i + (zb - 2)), rfl, intK_int i, .inl rfl, .inr ⟨_, rfl⟩, ?_⟩⟩
  refine ⟨(by show 2 ≤ sizeLine; decide), fun t1 ht1 => ?_⟩
  have e6 := same_new ht1 (.lst [.bl (inB (.int (i + (za - 2))) (.int (i + (zb - 2))) (.int i)), .bl (inB .non (.int (i + (zb - 2))) (.int i))])
  refine ⟨_, rfl, .inl ⟨rfl, _, SqL.of upd_same⟩, _, rfl, _, rfl, _, rfl, i, za - 2, rfl, rfl, .int i, .int (i + (za - 2)), .non, rfl, intK_int i, .inr ⟨_, rfl⟩, .inl rfl, ?_⟩
  refine ⟨t1, _, _, rfl, rfl, upd_same, (by show 2 < sizeLine; decide), ?_⟩
  refine ⟨_, rfl, chainV (f := fun i j => decide (i ≤ j)) (g := fun i j => decide (i ≤ j)) rfl rfl ⟨_, rfl, _, _, rfl, rfl, _, rfl, _, _, rfl, rfl, (by show 3 ≤ sizeLine; decide), fun t2 ht2 => ?_⟩⟩
  have d1 : decide (i + (za - 2) ≤ i) = decide (za - 2 ≤ 0) := decide_eq_decide.mpr (by omega)
  have d2 : decide (i ≤ i + (zb - 2)) = decide (0 ≤ zb - 2) := decide_eq_decide.mpr (by omega)
  have b1 : inB (.int (i + (za - 2))) (.int (i + (zb - 2))) (.int i) = (decide (za - 2 ≤ 0) && decide (0 ≤ zb - 2)) := by rw [← d1, ← d2]; rfl
  have b2 : inB .non (.int (i + (zb - 2))) (.int i) = decide (0 ≤ zb - 2) := by rw [← d2]; rfl
  have b3 : inB (.int (i + (za - 2))) .non (.int i) = decide (za - 2 ≤ 0) := by rw [← d1]; show (decide _ && true) = _; rw [Bool.and_true]
  refine ⟨.list ([inB (.int (i + (za - 2))) (.int (i + (zb - 2))) (.int i), inB .non (.int (i + (zb - 2))) (.int i), inB (.int (i + (za - 2))) .non (.int i)].map PyData.bool), .list ([decide (za - 2 ≤ 0) && decide (0 ≤ zb - 2), decide (0 ≤ zb - 2), decide (za - 2 ≤ 0)].map PyData.bool),
    .lst (SqL.of (same_new ht2 _ _ _ upd_same)) (dp_blsA [_, _, _]), .lst (SqL.of upd_same) (dp_blsA [_, _, _]), rfl, rfl, _, rfl, ?_⟩
  refine iteY (by simp only [PyData.eqv]; rw [eqv_blsA, b1, b2, b3]; simp) ?_
  refine ⟨_, rfl, .int i, .non, .non, rfl, intK_int i, .inl rfl, .inl rfl, _, _, rfl, rfl, ?_⟩
  have eE : Same H5 _ := (same_new2 ht1 (.lst [.bl (inB (.int (i + (za - 2))) (.int (i + (zb - 2))) (.int i)), .bl (inB .non (.int (i + (zb - 2))) (.int i))]) _).trans (same_new ht2 (.lst [V.bl (decide (za - 2 ≤ 0) && decide (0 ≤ zb - 2)), V.bl (decide (0 ≤ zb - 2)), V.bl (decide (za - 2 ≤ 0))]))
  exact q _ (kB.trans (Keep.of eE)) (W6.same eE)
end
end My


set_option Elab.async false
set_option linter.all false
set_option maxRecDepth 100000
namespace My
open PySem PySem.Spec PyProof.Rows L2
theorem op_notIB {X : Cx} : OpR X (compareOp .IsNot) (fun x y H Q => ∃ i b, x = .int i ∧ y = .bl b ∧ Q (.bl true) H) := by
  intro pins s σ H x y v u Q I rx ry ⟨i, b, e1, e2, q⟩
  subst e1 e2
  obtain ⟨t, rfl⟩ := rx
  cases (show u = Value.bool b from ry)
  exact wpAny_isNot_other rfl (fun z => nomatch z) ⟨.bl true, H, I, rfl, q⟩
theorem ints_of_all {acc : List V} (h : ∀ (j : Nat) (y : V), acc[j]? = some y → ∃ i, y = .int i) : ∃ zs : List Int, acc = zs.map V.int := by
  induction acc with
  | nil => exact ⟨[], rfl⟩
  | cons a l ih =>
    obtain ⟨i, e⟩ := h 0 a rfl
    obtain ⟨zs, e2⟩ := ih fun j y hj => h (j + 1) y (by simpa using hj)
    exact ⟨i :: zs, by rw [e, e2]; rfl⟩
theorem kn_ints {K : PySem.W.Frag} {H : Hp} {zs : List Int} : ∀ x ∈ zs.map V.int, Kn K H x := fun x hx => by
  obtain ⟨i, _, e⟩ := List.mem_map.mp hx
  rw [← e]
  exact intK_int i
theorem all_ints (zs : List Int) : (zs.map V.int).all intV = true := by
  rw [List.all_map]
  exact List.all_eq_true.mpr fun _ _ => rfl
section
variable {P : Program} {w : World} {K : PySem.W.Frag} {mg : Str → Option Value} {base : Heap}
theorem ok__law_rows_right {k : Nat} (T : Txt K mg) (D : DefB K mg "_law_rows_right" s__law_rows_right P__law_rows_right) (c__law_pail : C8.Cal P w K mg base k "_law_pail" spPail []) (c__law_odd : C8.Cal P w K mg base k "_law_odd" spOdd [])
    (k_is_numbers : CalK P w K mg base k "is_numbers" s_is_numbers P_is_numbers (spNums K)) : C8.Cal P w K mg base (k + 1) "_law_rows_right" (spRight 7) [] := by
  refine calB D sc__law_rows_right (fun vs H Q E h => ?_) (fun f cdv A outer s H vs Q E hr h => ?_)
  · obtain ⟨p, c, n, rfl, _⟩ := h
    rfl
  obtain ⟨p, c, n, rfl, W, q⟩ := h
  have c_is_numbers := k_is_numbers.cal
  refine ⟨_, (pss_cons (ps_par (i := 2) (j := 3) (by rfl) sc__law_rows_right.nd rfl rfl (by decide) rfl rfl (pa_cons (C8.pe_c c__law_odd hr (Nat.le_refl _) (by rfl) (pa_cons (pv 0) pa_nil)) (pa_cons (pe_lc (own := [("turn", 4)]) (g := gName 4) (tt := tYes) rfl sc__law_rows_right.nd (pi_range1 (by rfl) T.b_range (pa_cons (C8.pe_c c__law_pail hr (Nat.le_refl _) (by rfl) (pa_cons (pv 0) (pa_cons pe_int pa_nil))) pa_nil)) (blkOk_by (N := N__law_rows_right) (sc := C8.fnScope s__law_rows_right) (by decide +kernel)) (fun _ _ _ _ _ => (pg_name (i := 4) sc__law_rows_right.nd rfl (Or.inl rfl))) (fun _ _ _ _ _ => pts_nil) (fun _ _ _ _ _ => (pe_op op_sub (C8.pe_c c__law_pail hr (Nat.le_refl _) (by rfl) (pa_cons (pv 0) (pa_cons pe_int pa_nil))) pe_int))) pa_nil)) (by rfl))
    (pss_cons (ps_set (i := 1) sc__law_rows_right.nd rfl (Or.inl rfl) (C8.pe_c c__law_pail hr (Nat.le_refl _) (by rfl) (pa_cons (pv 0) (pa_cons (pe_op op_add (pe_callB call_len_seq (by rfl) T.b_len (by decide +kernel) (pa_cons (pv 3) pa_nil)) pe_int) pa_nil))))
    (pss_cons (ps_if (PW.pt (pw_or (pt_cmpR op_notBl (pe_ck0 (ks := ["value"]) k_is_numbers (by intro _ _ _ _ _ _ us ws l1 l2; match us, ws, l1, l2 with | [], [_], _, _ => rfl) hr (Nat.le_refl _) (by rfl) (pk_cons (pv 3) pk_nil)) pe_bl (nomark _)) (pw_or (pt_cmpR op_notBl (C8.pe_c c_is_numbers hr (Nat.le_refl _) (by rfl) (pa_cons (pe_callTy call_tuple_of (by rfl) T.b_tuple (by decide +kernel) (pa_cons (pv 3) pa_nil)) pa_nil)) pe_bl (nomark _)) (pw_or1 (pt_cmpR op_notBl (C8.pe_c c_is_numbers hr (Nat.le_refl _) (by rfl) (pa_cons (pe_lst pa_nil) pa_nil)) pe_bl (nomark _)))))) (pss_one (ps_ret pe_bl)) pss_nil)
    (pss_cons (ps_if (PW.pt (pw_or (pt_val (C8.pe_c c_is_numbers hr (Nat.le_refl _) (by rfl) (pa_cons (pe_op op_cat (pe_op op_cat (pe_slice sl_list (pv 3) po_none (po_some (pv 1))) (pe_lst (pa_cons (pv 2) pa_nil))) (pe_slice sl_list (pv 3) (po_some (pv 1)) po_none)) pa_nil))) (pw_or (pt_val (C8.pe_c c_is_numbers hr (Nat.le_refl _) (by rfl) (pa_cons pe_str pa_nil))) (pw_or (pt_val (C8.pe_c c_is_numbers hr (Nat.le_refl _) (by rfl) (pa_cons (pe_disp (pps_cons pe_int pe_int pps_nil) (by rfl) (by rfl) (fun z => by cases z) (by decide)) pa_nil))) (pw_or1 (pt_val (C8.pe_c c_is_numbers hr (Nat.le_refl _) (by rfl) (pa_cons pe_non pa_nil)))))))) (pss_one (ps_ret pe_bl)) pss_nil)
    (pss_one (ps_ret (pe_cmpR (op_eqD hr.units) (C8.pe_c c_is_numbers hr (Nat.le_refl _) (by rfl) (pa_cons (pv 2) pa_nil)) (pe_and (pe_callB call_isiT (by rfl) T.b_isinstance (by decide +kernel) (pa_cons (pv 2) (pa_cons (pe_tup (pa_cons (pe_bltn (v := .ty "list") (by rfl) T.b_list (by decide +kernel) rfl) (pa_cons (pe_bltn (v := .ty "tuple") (by rfl) T.b_tuple (by decide +kernel) rfl) pa_nil))) pa_nil))) (pe_and (pe_cmpR (op_inT (room200 hr)) (pv 2) (pe_tup (pa_cons (pe_lst (pa_cons pe_int pa_nil)) (pa_cons (pe_tup (pa_cons pe_int pa_nil)) pa_nil))) rfl) (pe_one (pe_cmpR (op_or op_notBl op_notIB) (pe_ix ix_seq (pv 2) pe_int (fun _ _ => rfl)) pe_bl (nomark _))))) (nomark _)))))))), ?_⟩
  refine ⟨_, rfl, p, c, n + 6, rfl, W, fun o H1 ho kp1 W1 => ?_⟩
  refine ⟨_, rfl, p, c, n + 5, 5, rfl, W1, by decide, by decide, fun z H2 z0 z1 kp2 W2 => ?_⟩
  refine ⟨z, rfl, by omega, by omega, fun D hD => lc_draw (p := p) (c := c) (d := 1) (r := n + 1) (fun _ y => ∃ i, y = .int i) hD (by omega) (W2.less (by omega)) ?_ ?_⟩
  · intro i m H3 Kc hi k w more
    refine ⟨rfl, _, rfl, p, c, m, 9, rfl, w, by decide, by decide, fun y H4 y0 y1 k4 w4 => ?_⟩
    exact ⟨y, 4, rfl, rfl, more _ H4 ⟨_, rfl⟩ k4 w4⟩
  intro acc H3 k3 W3 hacc len all
  obtain ⟨zs, rfl⟩ := ints_of_all all
  obtain ⟨cells, t, r, hp, _⟩ := id W2
  have nD : D ≠ p := (ne_of_none hp hD).symm
  refine ⟨_, _, rfl, ?_⟩
  refine ⟨_, rfl, _, rfl, D, _, rfl, .inl (SqL.of hacc), _, 1, rfl, rfl, p, c, n, _, rfl, W3, by omega, by rw [len]; omega, fun a H4 a0 a1 k4 W4 => ?_⟩
  have hacc4 := k4 _ _ hacc nD
  have kA := ((kp1.trans kp2).trans k3).trans k4
  have ho4 := ((ho.keep kp2).keep k3).keep k4
  have lz : zs.length ≤ 5 := by rw [List.length_map] at len; omega
  refine ⟨_, rfl, rfl, .ref D, _, rfl, .inr ⟨D, _, rfl, .inl (SqL.of hacc4), by rw [len]; omega, kn_ints, rfl⟩, fun H5 e5 => ⟨_, _, rfl, rfl, _, rfl, iteN (by rw [all_ints]; rfl) ?_⟩⟩
  refine ⟨_, rfl, D, _, rfl, .inl ⟨SqL.of (e5 _ _ hacc4), fun l hl => ?_⟩⟩
  refine ⟨.ref l, _, rfl, .inr ⟨l, _, rfl, .inr (SqT.of upd_same), by rw [len]; omega, kn_ints, rfl⟩, fun H6 e6 => ⟨_, _, rfl, rfl, _, rfl, iteN (by rw [all_ints]; rfl) ?_⟩⟩
  refine ⟨(by show 0 ≤ sizeLine; decide), fun l2 hl2 => ?_⟩
  refine ⟨.ref l2, _, rfl, .inr ⟨l2, _, rfl, .inl (SqL.of upd_same), by decide, (fun x hx => nomatch hx), rfl⟩, fun H7 e7 => ⟨_, _, rfl, rfl, _, rfl, iteN (by rfl) ?_⟩⟩
  have e47 : Same H4 H7 := ((e5.trans (same_new hl _)).trans e6).trans ((same_new hl2 _).trans e7)
  have D7 := e47 _ _ hacc4
  obtain ⟨c1, ec1, lc1⟩ := cut_ints (ns := zs) (lo := none) (hi := some a)
  obtain ⟨c2, ec2, lc2⟩ := cut_ints (ns := zs) (lo := some a) (hi := none)
  refine ⟨_, rfl, _, rfl, a, rfl, D, _, rfl, SqL.of D7, fun q1 hq1 => ?_⟩
  rw [ec1]
  refine ⟨_, rfl, (by show 1 ≤ sizeLine; decide), fun q2 hq2 => ?_⟩
  have g2 := (same_new hq1 (.lst (c1.map V.int))).trans (same_new hq2 (.lst [o]))
  refine ⟨q1, q2, _, _, rfl, rfl, same_new hq2 _ _ _ upd_same, upd_same, ?_, fun q3 hq3 => ?_⟩
  · rw [List.length_map]
    exact Nat.le_trans (by show _ + 1 ≤ 100; omega) (by decide)
  have g3 := g2.trans (same_new hq3 (.lst (c1.map V.int ++ [o])))
  refine ⟨_, rfl, _, rfl, a, rfl, D, _, rfl, SqL.of (g3 _ _ D7), fun q4 hq4 => ?_⟩
  rw [ec2]
  refine ⟨q3, q4, _, _, rfl, rfl, same_new hq4 _ _ _ upd_same, upd_same, ?_, fun q5 hq5 => ?_⟩
  · rw [List.length_append, List.length_map, List.length_map]
    exact Nat.le_trans (by show _ + 1 + _ ≤ 100; omega) (by decide)
  have g5 := (g3.trans (same_new hq4 (.lst (c2.map V.int)))).trans (same_new hq5 (.lst (c1.map V.int ++ [o] ++ c2.map V.int)))
  have ko := ((ho4.keep (Keep.of e47)).keep (Keep.of g5)).kn (K := K)
  refine ⟨.ref q5, false, rfl, .inr ⟨q5, _, rfl, .inl (SqL.of upd_same), ?_, fun x hx => ?_, ?_⟩, fun H8 e8 => ⟨_, rfl, iteN rfl ?_⟩⟩
  · rw [List.length_append, List.length_append, List.length_map, List.length_map]
    show _ + 1 + _ ≤ 1000
    omega
  · rcases List.mem_append.mp hx with hx | hx
    · rcases List.mem_append.mp hx with hx | hx
      · exact kn_ints x hx
      · rw [List.mem_singleton.mp hx]
        exact ko.1
    · exact kn_ints x hx
  · rw [List.all_append, List.all_append]
    show false = (_ && (intV o && true) && _)
    rw [ko.2, Bool.false_and, Bool.and_false, Bool.false_and]
  refine ⟨.str "12", false, rfl, .inl ⟨listK_str _, rfl⟩, fun H9 e9 => ⟨_, rfl, iteN rfl ?_⟩⟩
  refine fun dd hdd => ⟨upd_same, [(.inl 1, .int 2)], rfl, by decide, ?_⟩
  refine ⟨.ref dd, false, rfl, .inl ⟨listK_dict upd_same, rfl⟩, fun H10 e10 => ⟨_, rfl, iteN rfl ?_⟩⟩
  refine ⟨.non, false, rfl, .inl ⟨listK_non, rfl⟩, fun H11 e11 => ⟨_, rfl, iteN rfl ?_⟩⟩
  have eF : Same H4 H11 := (((e47.trans g5).trans e8).trans (e9.trans ((same_new2 hdd (.dK []) _).trans e10))).trans e11
  have hoF := ho4.keep (Keep.of eF)
  have fin : ∀ (x : Bool) (H' : Hp), Same H11 H' → ∃ d e, Dp K H' (.bl x) d ∧ Dp K H' (.bl x) e ∧ SeqAt.shaped d = true ∧ SeqAt.shaped e = true ∧ Q (.bl (PyData.eqv d e)) H' := fun x H' e => by
    have z : PyData.eqv (.bool x) (.bool x) = true := by cases x <;> simp [PyData.eqv]
    refine ⟨.bool x, .bool x, .bl x, .bl x, rfl, rfl, ?_⟩
    rw [z]
    exact q H' (kA.trans (Keep.of (eF.trans e))) (W4.same (eF.trans e))
  cases hoF with
  | l1 hh nn =>
    refine ⟨_, rfl, .ref _, true, rfl, .inr ⟨_, _, rfl, .inl (SqL.of hh), by decide, ?_, by decide⟩, fun H12 e12 => ?_⟩
    · intro x hx
      simp only [List.mem_cons, List.not_mem_nil, or_false] at hx
      rw [hx]; exact intK_int 1
    refine ⟨_, rfl, (by show 2 ≤ sizeLine; decide), fun tp htp => ?_⟩
    refine ⟨_, tp, _, _, _, true, rfl, upd_same, clsLT, tyx_L (SqL.of ((e12.trans (same_new htp _)) _ _ hh)), kit_lt, _, rfl, iteT ?_⟩
    refine ⟨_, rfl, (by show 1 ≤ sizeLine; decide), fun u1 hu1 => ⟨(by show 1 ≤ sizeLine; decide), fun u2 hu2 => ⟨(by show 2 ≤ sizeLine; decide), fun u3 hu3 => ?_⟩⟩⟩
    have f1 := same_new hu1 (.lst [.int 1])
    have f2 := same_new hu2 (.tup [.int 1])
    have f3 := same_new hu3 (.tup [.ref u1, .ref u2])
    have e3 := (((e12.trans (same_new htp (.tup [.ty "list", .ty "tuple"]))).trans f1).trans f2).trans f3
    refine ⟨.list [.int 1], [.list [.int 1], .tuple [.int 1]], .lst (SqL.of (e3 _ _ hh)) (.cons (.int 1) .nil), .tup (SqT.of upd_same) (.cons (.lst (SqL.of ((f2.trans f3) _ _ upd_same)) (.cons (.int 1) .nil)) (.cons (.tup (SqT.of (f3 _ _ upd_same)) (.cons (.int 1) .nil)) .nil)), (by first | rfl | decide +kernel), rfl, _, rfl, ?_⟩
    refine iteY (by simp [PyData.eqv, PyData.eqvAll]) ⟨_, rfl, .inl ⟨_, _, 0, .int 1, rfl, rfl, SqL.of (e3 _ _ hh), rfl, .inr ⟨1, true, rfl, rfl, ?_⟩⟩⟩
    exact fin true _ e3
  | t1 hh nn =>
    refine ⟨_, rfl, .ref _, true, rfl, .inr ⟨_, _, rfl, .inr (SqT.of hh), by decide, ?_, by decide⟩, fun H12 e12 => ?_⟩
    · intro x hx
      simp only [List.mem_cons, List.not_mem_nil, or_false] at hx
      rw [hx]; exact intK_int 1
    refine ⟨_, rfl, (by show 2 ≤ sizeLine; decide), fun tp htp => ?_⟩
    refine ⟨_, tp, _, _, _, true, rfl, upd_same, clsLT, tyx_T (SqT.of ((e12.trans (same_new htp _)) _ _ hh)), kit_tt, _, rfl, iteT ?_⟩
    refine ⟨_, rfl, (by show 1 ≤ sizeLine; decide), fun u1 hu1 => ⟨(by show 1 ≤ sizeLine; decide), fun u2 hu2 => ⟨(by show 2 ≤ sizeLine; decide), fun u3 hu3 => ?_⟩⟩⟩
    have f1 := same_new hu1 (.lst [.int 1])
    have f2 := same_new hu2 (.tup [.int 1])
    have f3 := same_new hu3 (.tup [.ref u1, .ref u2])
    have e3 := (((e12.trans (same_new htp (.tup [.ty "list", .ty "tuple"]))).trans f1).trans f2).trans f3
    refine ⟨.tuple [.int 1], [.list [.int 1], .tuple [.int 1]], .tup (SqT.of (e3 _ _ hh)) (.cons (.int 1) .nil), .tup (SqT.of upd_same) (.cons (.lst (SqL.of ((f2.trans f3) _ _ upd_same)) (.cons (.int 1) .nil)) (.cons (.tup (SqT.of (f3 _ _ upd_same)) (.cons (.int 1) .nil)) .nil)), (by first | rfl | decide +kernel), rfl, _, rfl, ?_⟩
    refine iteY (by simp [PyData.eqv, PyData.eqvAll]) ⟨_, rfl, .inr (.inl ⟨_, _, 0, .int 1, rfl, rfl, SqT.of (e3 _ _ hh), rfl, .inr ⟨1, true, rfl, rfl, ?_⟩⟩)⟩
    exact fin true _ e3
  | lb hh nn =>
    refine ⟨_, rfl, .ref _, false, rfl, .inr ⟨_, _, rfl, .inl (SqL.of hh), by decide, ?_, by decide⟩, fun H12 e12 => ?_⟩
    · intro x hx
      simp only [List.mem_cons, List.not_mem_nil, or_false] at hx
      rw [hx]; exact intK_bl true
    refine ⟨_, rfl, (by show 2 ≤ sizeLine; decide), fun tp htp => ?_⟩
    refine ⟨_, tp, _, _, _, true, rfl, upd_same, clsLT, tyx_L (SqL.of ((e12.trans (same_new htp _)) _ _ hh)), kit_lt, _, rfl, iteT ?_⟩
    refine ⟨_, rfl, (by show 1 ≤ sizeLine; decide), fun u1 hu1 => ⟨(by show 1 ≤ sizeLine; decide), fun u2 hu2 => ⟨(by show 2 ≤ sizeLine; decide), fun u3 hu3 => ?_⟩⟩⟩
    have f1 := same_new hu1 (.lst [.int 1])
    have f2 := same_new hu2 (.tup [.int 1])
    have f3 := same_new hu3 (.tup [.ref u1, .ref u2])
    have e3 := (((e12.trans (same_new htp (.tup [.ty "list", .ty "tuple"]))).trans f1).trans f2).trans f3
    refine ⟨.list [.bool true], [.list [.int 1], .tuple [.int 1]], .lst (SqL.of (e3 _ _ hh)) (.cons (.bl true) .nil), .tup (SqT.of upd_same) (.cons (.lst (SqL.of ((f2.trans f3) _ _ upd_same)) (.cons (.int 1) .nil)) (.cons (.tup (SqT.of (f3 _ _ upd_same)) (.cons (.int 1) .nil)) .nil)), (by first | rfl | decide +kernel), rfl, _, rfl, ?_⟩
    refine iteY (by simp [PyData.eqv, PyData.eqvAll]) ⟨_, rfl, .inl ⟨_, _, 0, .bl true, rfl, rfl, SqL.of (e3 _ _ hh), rfl, .inl ⟨true, true, rfl, rfl, ?_⟩⟩⟩
    exact fin false _ e3
  | t2 hh nn =>
    refine ⟨_, rfl, .ref _, false, rfl, .inr ⟨_, _, rfl, .inr (SqT.of hh), by decide, ?_, by decide⟩, fun H12 e12 => ?_⟩
    · intro x hx
      simp only [List.mem_cons, List.not_mem_nil, or_false] at hx
      rcases hx with rfl | rfl
      · exact intK_str _
      · exact intK_int 0
    refine ⟨_, rfl, (by show 2 ≤ sizeLine; decide), fun tp htp => ?_⟩
    refine ⟨_, tp, _, _, _, true, rfl, upd_same, clsLT, tyx_T (SqT.of ((e12.trans (same_new htp _)) _ _ hh)), kit_tt, _, rfl, iteT ?_⟩
    refine ⟨_, rfl, (by show 1 ≤ sizeLine; decide), fun u1 hu1 => ⟨(by show 1 ≤ sizeLine; decide), fun u2 hu2 => ⟨(by show 2 ≤ sizeLine; decide), fun u3 hu3 => ?_⟩⟩⟩
    have f1 := same_new hu1 (.lst [.int 1])
    have f2 := same_new hu2 (.tup [.int 1])
    have f3 := same_new hu3 (.tup [.ref u1, .ref u2])
    have e3 := (((e12.trans (same_new htp (.tup [.ty "list", .ty "tuple"]))).trans f1).trans f2).trans f3
    refine ⟨.tuple [.str "0", .int 0], [.list [.int 1], .tuple [.int 1]], .tup (SqT.of (e3 _ _ hh)) (.cons (.str "0") (.cons (.int 0) .nil)), .tup (SqT.of upd_same) (.cons (.lst (SqL.of ((f2.trans f3) _ _ upd_same)) (.cons (.int 1) .nil)) (.cons (.tup (SqT.of (f3 _ _ upd_same)) (.cons (.int 1) .nil)) .nil)), (by first | rfl | decide +kernel), rfl, _, rfl, ?_⟩
    refine iteN (by simp [PyData.eqv, PyData.eqvAll]) ?_
    exact fin false _ e3
  | bl b =>
    refine ⟨_, rfl, .bl b, false, rfl, .inl ⟨listK_bl b, rfl⟩, fun H12 e12 => ?_⟩
    refine ⟨_, rfl, (by show 2 ≤ sizeLine; decide), fun tp htp => ?_⟩
    obtain ⟨ty, h1, h2⟩ := (listK_bl b : ListK K H11 _ false)
    refine ⟨_, tp, _, ty, _, false, rfl, upd_same, clsLT, TyX.same (e12.trans (same_new htp _)) h1, h2, _, rfl, iteF ?_⟩
    exact fin false _ (e12.trans (same_new htp _))
  | non =>
    refine ⟨_, rfl, .non, false, rfl, .inl ⟨listK_non, rfl⟩, fun H12 e12 => ?_⟩
    refine ⟨_, rfl, (by show 2 ≤ sizeLine; decide), fun tp htp => ?_⟩
    obtain ⟨ty, h1, h2⟩ := (listK_non : ListK K H11 _ false)
    refine ⟨_, tp, _, ty, _, false, rfl, upd_same, clsLT, TyX.same (e12.trans (same_new htp _)) h1, h2, _, rfl, iteF ?_⟩
    exact fin false _ (e12.trans (same_new htp _))
  | str x =>
    refine ⟨_, rfl, .str x, false, rfl, .inl ⟨listK_str x, rfl⟩, fun H12 e12 => ?_⟩
    refine ⟨_, rfl, (by show 2 ≤ sizeLine; decide), fun tp htp => ?_⟩
    obtain ⟨ty, h1, h2⟩ := (listK_str x : ListK K H11 _ false)
    refine ⟨_, tp, _, ty, _, false, rfl, upd_same, clsLT, TyX.same (e12.trans (same_new htp _)) h1, h2, _, rfl, iteF ?_⟩
    exact fin false _ (e12.trans (same_new htp _))
  | dk hh nn =>
    refine ⟨_, rfl, .ref _, false, rfl, .inl ⟨listK_dict hh, rfl⟩, fun H12 e12 => ?_⟩
    refine ⟨_, rfl, (by show 2 ≤ sizeLine; decide), fun tp htp => ?_⟩
    obtain ⟨ty, h1, h2⟩ := (listK_dict hh : ListK K H11 _ false)
    refine ⟨_, tp, _, ty, _, false, rfl, upd_same, clsLT, TyX.same (e12.trans (same_new htp _)) h1, h2, _, rfl, iteF ?_⟩
    exact fin false _ (e12.trans (same_new htp _))
end
end My


set_option Elab.async false
set_option linter.all false
set_option maxRecDepth 100000
namespace My
open PySem PySem.Spec PyProof.Rows L2
/-- the primes found when i numbers from 2 on were tried -/
def found : Nat → List Int
  | 0 => []
  | i + 1 => if (found i).filter (fun q => decide ((2 + (i : Int)) % q = 0)) = [] then found i ++ [2 + (i : Int)] else found i
theorem found_ge : ∀ i, ∀ q ∈ found i, (2 : Int) ≤ q ∧ q < 2 + (i : Int)
  | 0, q, h => nomatch h
  | i + 1, q, h => by
    have ih := found_ge i
    unfold found at h
    split at h
    · rcases List.mem_append.mp h with h | h
      · have := ih q h
        omega
      · rw [List.mem_singleton.mp h]
        omega
    · have := ih q h
      omega
theorem found_len : ∀ i, (found i).length ≤ i
  | 0 => Nat.le_refl _
  | i + 1 => by
    have ih := found_len i
    unfold found
    split
    · rw [List.length_append]
      show _ + 1 ≤ _
      omega
    · omega
theorem found_all : found 98 = primes := by decide +kernel
def spPrimes : Sp := fun vs H Q _ => vs = [] ∧ ∀ l H', H l = none → Same H H' → H' l = some (.tup (primes.map V.int)) → Q (.ref l) H'
section
variable {P : Program} {w : World} {K : PySem.W.Frag} {mg : Str → Option Value} {base : Heap}
theorem ok__law_primes {k : Nat} (T : Txt K mg) (D : DefB K mg "_law_primes" s__law_primes P__law_primes) : C8.Cal P w K mg base (k + 1) "_law_primes" spPrimes [] := by
  refine calB D sc__law_primes (fun vs H Q E h => ?_) (fun f cdv A outer s H vs Q E hr h => ?_)
  · rw [h.1]
    rfl
  obtain ⟨rfl, q⟩ := h
  refine ⟨_, (pss_cons (ps_set (i := 0) sc__law_primes.nd rfl (Or.inl rfl) (pe_lst pa_nil))
    (pss_cons (ps_for PassesOwn.never rfl (pi_range2 (by rfl) T.b_range (pa_cons pe_int (pa_cons pe_int pa_nil))) (pg_name (i := 1) sc__law_primes.nd rfl (Or.inr rfl))
      (pss_one (ps_if (pt_cmpR (op_eqD hr.units) (pe_lc (own := [("prime", 2)]) (g := gName 2) rfl sc__law_primes.nd (pi_list (pv 0)) (blkOk_by (N := N__law_primes) (sc := C8.fnScope s__law_primes) (by decide +kernel)) (fun _ _ _ _ _ => (pg_name (i := 2) sc__law_primes.nd rfl (Or.inl rfl))) (fun _ _ _ _ _ => (pts_one (pt_cmpR op_eq (pe_op op_mod (pe_callTy call_int1 (by rfl) T.b_int (by decide +kernel) (pa_cons (pv 1) pa_nil)) (pv 2)) pe_int (nomark _)))) (fun _ _ _ _ _ => (pv 2))) (pe_lst pa_nil) (nomark _)) (pss_one (ps_expr (pe_bm PySem.F.plainAttrs_list PySem.F.slot_list_append PySem.F.type_list_append mt_append (pv 0) (pa_cons (pv 1) pa_nil)))) pss_nil)))
    (pss_one (ps_ret (pe_callTy call_tuple_of (by rfl) T.b_tuple (by decide +kernel) (pa_cons (pv 0) pa_nil)))))), ?_⟩
  refine ⟨(by show 0 ≤ sizeLine; decide), fun F hF => ?_⟩
  have e0 := same_new hF (.lst [])
  refine ⟨2, 100, rfl, by decide, for_range (lo := 2) (n := 98) (fun i σ H' => (∃ x1 x2, σ = [some (.ref F), x1, x2]) ∧ Same H H' ∧ H' F = some (.lst ((found i).map V.int))) ⟨⟨_, _, rfl⟩, e0, upd_same⟩ ?_ ?_⟩
  · rintro i σ' H' hi ⟨⟨x1, x2, rfl⟩, e, hf⟩
    have le := found_len i
    refine ⟨_, rfl, F, rfl, ⟨_, SqL.of hf⟩, fun D hD => lc_acc (K := K) (fun j acc _ => acc = (((found i).take j).filter fun q => decide ((2 + (i : Int)) % q = 0)).map V.int) (SqL.of hf) hD (by rw [List.length_map]; omega) (fun _ _ _ _ _ h => h) rfl ?_ ?_⟩
    · intro j x acc H1 Kc Nc hj e1 hD1 pa yes no
      rw [List.getElem?_map] at hj
      obtain ⟨q, hq, rfl⟩ := Option.map_eq_some_iff.mp hj
      obtain ⟨jl, jq⟩ := List.getElem?_eq_some_iff.mp hq
      have ge := found_ge i q (List.mem_of_getElem? hq)
      have tk : (found i).take (j + 1) = (found i).take j ++ [q] := by rw [List.take_succ_eq_append_getElem jl, jq]
      refine ⟨rfl, _, rfl, .inl ⟨_, rfl, _, rfl, _, q, rfl, rfl, by omega, ?_⟩⟩
      refine ⟨rfl, _, rfl, ?_⟩
      by_cases hm : (2 + (i : Int)) % q = 0
      · refine iteY (by rw [decide_eq_true_eq]; exact congrArg V.int hm) ⟨_, rfl, yes _ H1 (fun _ _ h => h) ?_⟩
        rw [pa, tk, List.filter_append, List.map_append, List.filter_cons_of_pos (by rw [decide_eq_true_eq]; exact hm)]
        rfl
      · refine iteN (by rw [decide_eq_false_iff_not]; exact fun z => hm (V.int.inj z)) (no H1 (fun _ _ h => h) ?_)
        rw [pa, tk, List.filter_append, List.filter_cons_of_neg (by rw [decide_eq_true_eq]; exact hm)]
        simp
    · intro acc H1 e1 hD1 _ pa
      rw [List.length_map, List.take_length] at pa
      refine ⟨(by show 0 ≤ sizeLine; decide), fun l hl => ?_⟩
      have e2 := e1.trans (same_new hl (.lst []))
      refine ⟨.list (((found i).filter fun q => decide ((2 + (i : Int)) % q = 0)).map PyData.int), .list (([] : List Int).map PyData.int), .lst (SqL.of (same_new hl _ _ _ hD1)) (by rw [pa]; exact dp_ints _), .lst (SqL.of upd_same) .nil, ints_shapedL _, rfl, _, rfl, ?_⟩
      rw [eqv_intsL]
      by_cases hn : ((found i).filter fun q => decide ((2 + (i : Int)) % q = 0)) = []
      · refine iteY (decide_eq_true hn) ⟨_, rfl, .inl ⟨rfl, _, SqL.of (e2 _ _ hf)⟩, _, rfl, F, _, _, rfl, rfl, e2 _ _ hf, ?_, ⟨_, _, rfl⟩, ?_, ?_⟩
        · rw [List.length_map]
          exact Nat.lt_of_le_of_lt le (Nat.lt_trans hi (by decide))
        · intro b o hb
          rw [upd_ne (ne_of_none hb hF)]
          exact e2 _ _ (e _ _ hb)
        · rw [upd_same]
          have : found (i + 1) = found i ++ [2 + (i : Int)] := by
            show (if _ then _ else _) = _
            exact if_pos hn
          rw [this, List.map_append]
          rfl
      · refine iteN (decide_eq_false hn) ⟨⟨_, _, rfl⟩, e.trans e2, ?_⟩
        have : found (i + 1) = found i := by
          show (if _ then _ else _) = _
          exact if_neg hn
        rw [this]
        exact e2 _ _ hf
  · rintro σ' H' ⟨⟨x1, x2, rfl⟩, e, hf⟩
    rw [found_all] at hf
    exact ⟨_, rfl, F, _, rfl, .inl ⟨SqL.of hf, fun l hl => q l _ (e.free hl) (e.trans (same_new hl _)) upd_same⟩⟩
end
end My


set_option Elab.async false
set_option linter.all false
set_option maxRecDepth 100000
namespace My
open PySem PySem.Spec PyProof.Rows L2
/-- the i-th number stands ahead, too -/
def again (zs : List Int) (i : Nat) : Bool := (zs.take i).any fun z => decide (z = zs.getD i 0)
theorem twice_map {f : Int → List Key} (inj : ∀ a b, f a = f b → a = b) (zs : List Int) : twiceAt (zs.map f) = (List.range zs.length).find? (again zs) := by
  unfold twiceAt
  rw [List.length_map]
  have key : ∀ l : List Nat, (∀ i ∈ l, i < zs.length) → l.find? (fun i => hasKey ((zs.map f).take i) ((zs.map f).getD i [])) = l.find? (again zs) := by
    intro l
    induction l with
    | nil => intro _; rfl
    | cons i l ih =>
      intro h
      have il := h i List.mem_cons_self
      have e : hasKey ((zs.map f).take i) ((zs.map f).getD i []) = again zs i := by
        unfold hasKey again
        rw [List.getD_eq_getElem?_getD, List.getElem?_map, List.getElem?_eq_getElem il, ← List.map_take, List.any_map, List.getD_eq_getElem?_getD, List.getElem?_eq_getElem il]
        refine congrArg (fun p => List.any (zs.take i) p) (funext fun z => ?_)
        show decide (f z = f zs[i]) = decide (z = zs[i])
        exact decide_eq_decide.mpr ⟨inj _ _, congrArg f⟩
      rw [List.find?_cons, List.find?_cons, e, ih fun j hj => h j (.tail _ hj)]
  exact key _ fun i hi => List.mem_range.mp hi
/-- where numbers stand that stand ahead, too -/
def dueN (zs : List Int) : List Nat := (List.range zs.length).filter (again zs)
theorem due_head (zs : List Int) : (List.range zs.length).find? (again zs) = (dueN zs).head? := by
  unfold dueN
  rw [List.head?_filter]
theorem cut_take {xs : List V} {i : Nat} : cutV xs none (some (i : Int)) = xs.take i := by
  unfold cutV
  rw [HT.sIx_none, HT.sIx_nat, List.drop_zero, Nat.sub_zero]
  rcases Nat.le_total i xs.length with h | h
  · rw [Nat.min_eq_left h]
  · rw [Nat.min_eq_right h, List.take_length, List.take_of_length_le h]
theorem inV_ints {z : Int} {ws : List Int} : inV (.int z) (ws.map V.int) = ws.any fun w => decide (w = z) := by
  unfold inV
  rw [List.any_map]
  refine congrArg (fun p => List.any ws p) (funext fun w => ?_)
  show eqV (.int w) (.int z) = decide (w = z)
  by_cases h : w = z
  · subst h
    simp [eqV]
  · simp [eqV, h]
theorem due_lt {zs : List Int} {i : Nat} (h : (dueN zs).head? = some i) : i < zs.length := by
  have z := List.mem_of_mem_head? h
  exact List.mem_range.mp (List.mem_filter.mp z).1
def pickD (zs : List Int) (df : Int → PyData) : PyData := match (dueN zs).head? with
  | none => .none
  | some i => df (zs.getD i 0)
theorem pick_none {zs : List Int} {df : Int → PyData} (h : (dueN zs).head? = none) : pickD zs df = .none := by
  unfold pickD
  rw [h]
theorem pick_some {zs : List Int} {df : Int → PyData} {i : Nat} (h : (dueN zs).head? = some i) : pickD zs df = df (zs.getD i 0) := by
  unfold pickD
  rw [h]
theorem pick_ok {zs : List Int} {df : Int → PyData} (h : ∀ z, SeqAt.shaped (df z) = true ∧ PyData.eqv (df z) (df z) = true) : SeqAt.shaped (pickD zs df) = true ∧ PyData.eqv (pickD zs df) (pickD zs df) = true := by
  cases e : (dueN zs).head? with
  | none =>
    rw [pick_none e]
    exact ⟨rfl, by simp [PyData.eqv]⟩
  | some i =>
    rw [pick_some e]
    exact h _
theorem getD_of {zs : List Int} {i : Nat} (h : i < zs.length) : zs[i]? = some (zs.getD i 0) := by
  rw [List.getD_eq_getElem?_getD, List.getElem?_eq_getElem h]
  rfl
theorem tw_use {K : PySem.W.Frag} {H : Hp} {Q : VK} {E : XK} {a : Addr} {xs : List V} {zs : List Int} {kf : Int → List Key} {sf : Int → Sh} {df : Int → PyData} (hx : SqL K H a xs ∨ SqT K H a xs) (len : xs.length = zs.length) (few : zs.length ≤ 20) (inj : ∀ a b, kf a = kf b → a = b)
    (hf : ∀ (i : Nat) (x : V) (z : Int), xs[i]? = some x → zs[i]? = some z → FlatOf K H 3 x (kf z) ∧ InSh K H 3 x (sf z)) (hd : ∀ z v' H', TpSh H' 3 v' (sf z) → Dp K H' v' (df z))
    (q : ∀ v' H', Same H H' → Dp K H' v' (pickD zs df) → Q v' H') : spTwice K 3 [.ref a] H Q E := by
  have tw : twiceAt (zs.map kf) = (dueN zs).head? := by rw [twice_map inj, due_head]
  refine ⟨a, xs, zs.map kf, zs.map sf, rfl, hx, by omega, by rw [List.length_map, len], by rw [List.length_map, len], fun i x k hi hk => ?_, fun i x z hi hk => ?_, fun h H' e => ?_, fun i z h hz v' H' e t => ?_⟩
  · rw [List.getElem?_map] at hk
    obtain ⟨z, hz, rfl⟩ := Option.map_eq_some_iff.mp hk
    exact (hf i x z hi hz).1
  · rw [List.getElem?_map] at hk
    obtain ⟨z, hz, rfl⟩ := Option.map_eq_some_iff.mp hk
    exact (hf i x z hi hz).2
  · rw [tw] at h
    refine q _ H' e ?_
    rw [pick_none h]
    exact .non
  · rw [tw] at h
    rw [List.getElem?_map, getD_of (due_lt h)] at hz
    cases hz
    refine q _ H' e ?_
    rw [pick_some h]
    exact hd _ _ _ t
theorem t_pick {K : PySem.W.Frag} {σ : L2.St} {H : Hp} {Q : VK} {du : Addr} {zs : List Int} {tthen : TE} (h3 : σ[3]? = some (some (.ref du))) (hdu : SqL K H du ((dueN zs).map fun i => V.int (i : Nat)))
    (q0 : (dueN zs).head? = none → ∀ H', Same H H' → Q .non H') (th : ∀ i, (dueN zs).head? = some i → ∀ H', Same H H' → tthen σ H' Q) : tIf (tTest (tOp (rNeD K) (tVar 3) (tLst tNil))) tthen (tC .non) σ H Q := by
  refine ⟨_, h3, (by show 0 ≤ sizeLine; decide), fun l hl => ?_⟩
  have e := same_new hl (.lst [])
  refine ⟨.list (((dueN zs).map fun i => ((i : Nat) : Int)).map PyData.int), .list (([] : List Int).map PyData.int), .lst (e.seq hdu) ?_, .lst (SqL.of upd_same) .nil, ints_shapedL _, rfl, _, rfl, ?_⟩
  · have z := dp_ints (K := K) (H := upd H l (.lst [])) ((dueN zs).map fun i => ((i : Nat) : Int))
    rw [List.map_map] at z
    exact z
  rw [eqv_intsL]
  cases hh : (dueN zs).head? with
  | none =>
    have hn : dueN zs = [] := List.head?_eq_none_iff.mp hh
    exact iteN (by rw [hn]; rfl) (q0 hh _ e)
  | some i =>
    refine iteY ?_ (th i hh _ e)
    have hn : ((dueN zs).map fun i => ((i : Nat) : Int)) ≠ [] := fun z => by
      rw [List.map_eq_nil_iff.mp z] at hh
      cases hh
    rw [decide_eq_false hn]
    rfl
theorem t_idx {K : PySem.W.Frag} {σ : L2.St} {H : Hp} {Q : VK} {du L : Addr} {zs : List Int} {items : List V} {i s : Nat} {v : V} (h3 : σ[3]? = some (some (.ref du))) (hs : σ[s]? = some (some (.ref L))) (hdu : SqL K H du ((dueN zs).map fun i => V.int (i : Nat))) (hL : SqL K H L items)
    (hh : (dueN zs).head? = some i) (hv : items[i]? = some v) (q : Q v H) : tOp (rIxL K) (tVar s) (tOp (rIxL K) (tVar 3) (tC (.int 0))) σ H Q := by
  refine ⟨_, hs, _, h3, du, _, 0, .int (i : Nat), rfl, rfl, hdu, ?_, L, items, (i : Nat), v, rfl, rfl, hL, atI_nat hv, q⟩
  refine atI_nat (j := 0) ?_
  rw [List.getElem?_map, ← List.head?_eq_getElem?, hh]
  rfl
def pkey (z : Int) : List Key := [.inr "(", .inl (z / 3), .inl z, .inr ")"]
def psh (z : Int) : Sh := .node [.leaf (.int (z / 3)), .leaf (.int z)]
def pdat (z : Int) : PyData := .tuple [.int (z / 3), .int z]
theorem pkey_inj (a b : Int) (e : pkey a = pkey b) : a = b := by
  unfold pkey at e
  exact Sum.inl.inj (List.cons.inj (List.cons.inj (List.cons.inj e).2).2).1
def negV (v : V) : V := match v with
  | .int i => .int (-i)
  | v => v
theorem pair_ok {K : PySem.W.Frag} {H : Hp} {a : Addr} {z : Int} (h : H a = some (.tup [.int (z / 3), .int z])) : FlatOf K H 3 (.ref a) (pkey z) ∧ InSh K H 3 (.ref a) (psh z) := by
  refine ⟨.inr ⟨a, _, [[.inl (z / 3)], [.inl z]], rfl, .inr (SqT.of h), rfl, fun i x ks hx hk => ?_, (by show 2 ≤ 1000; omega), rfl⟩, a, _, rfl, .inr (SqT.of h), (by show 2 ≤ 100000; omega), rfl, fun i x y hx hy => ?_⟩
  · match i, hx, hk with
    | 0, hx, hk => cases hx; cases hk; exact .inl ⟨_, rfl, rfl⟩
    | 1, hx, hk => cases hx; cases hk; exact .inl ⟨_, rfl, rfl⟩
    | i + 2, hx, hk => simp at hx
  · match i, hx, hy with
    | 0, hx, hy => cases hx; cases hy; exact ⟨rfl, listK_int _⟩
    | 1, hx, hy => cases hx; cases hy; exact ⟨rfl, listK_int _⟩
    | i + 2, hx, hy => simp at hx
theorem psh_dat {K : PySem.W.Frag} {H : Hp} {v : V} {z : Int} (t : TpSh H 3 v (psh z)) : Dp K H v (pdat z) := by
  obtain ⟨l, ys, rfl, hl, len, items⟩ := t
  match ys, len, hl, items with
  | [y0, y1], _, hl, items =>
    have h0 : V.int (z / 3) = y0 := items 0 y0 _ rfl rfl
    have h1 : V.int z = y1 := items 1 y1 _ rfl rfl
    subst h0 h1
    exact .tup (SqT.of hl) (.cons (.int _) (.cons (.int _) .nil))
theorem pick_idx {K : PySem.W.Frag} {σ : L2.St} {H : Hp} {Q : VK} {du L : Addr} {zs : List Int} {items : List V} {s : Nat} {df : Int → PyData} (h3 : σ[3]? = some (some (.ref du))) (hs : σ[s]? = some (some (.ref L))) (hdu : SqL K H du ((dueN zs).map fun i => V.int (i : Nat))) (hL : SqL K H L items)
    (hi : ∀ (i : Nat) (v : V) (z : Int), items[i]? = some v → zs[i]? = some z → Dp K H v (df z)) (q : ∀ v H', Same H H' → Dp K H' v (pickD zs df) → Q v H') (len : items.length = zs.length := by exact List.length_map ..) :
    tIf (tTest (tOp (rNeD K) (tVar 3) (tLst tNil))) (tOp (rIxL K) (tVar s) (tOp (rIxL K) (tVar 3) (tC (.int 0)))) (tC .non) σ H Q := by
  refine t_pick h3 hdu (fun hh H' e => q _ H' e ?_) fun i hh H' e => ?_
  · rw [pick_none hh]
    exact .non
  · have il := due_lt hh
    have hv := List.getElem?_eq_getElem (l := items) (i := i) (by omega)
    refine t_idx h3 hs (e.seq hdu) (e.seq hL) hh hv (q _ H' e ?_)
    rw [pick_some hh]
    exact dp_same e (hi i _ _ hv (getD_of il))
section
variable {P : Program} {w : World} {K : PySem.W.Frag} {mg : Str → Option Value} {base : Heap}
theorem ok__law_twice_right {k : Nat} (T : Txt K mg) (D : DefB K mg "_law_twice_right" s__law_twice_right P__law_twice_right) (c__law_pail : C8.Cal P w K mg base k "_law_pail" spPail [])
    (k_first_twice : CalK P w K mg base k "first_twice" s_first_twice P_first_twice (spTwice K 3)) : C8.Cal P w K mg base (k + 1) "_law_twice_right" (spRight 8) [] := by
  refine calB D sc__law_twice_right (fun vs H Q E h => ?_) (fun f cdv A outer s H vs Q E hr h => ?_)
  · obtain ⟨p, c, n, rfl, _⟩ := h
    rfl
  obtain ⟨p, c, n, rfl, W, q⟩ := h
  have c_first_twice := k_first_twice.cal
  refine ⟨_, (pss_cons (ps_set (i := 1) sc__law_twice_right.nd rfl (Or.inr rfl) (pe_lc (own := [("turn", 4)]) (g := gName 4) (tt := tYes) rfl sc__law_twice_right.nd (pi_range1 (by rfl) T.b_range (pa_cons (C8.pe_c c__law_pail hr (Nat.le_refl _) (by rfl) (pa_cons (pv 0) (pa_cons pe_int pa_nil))) pa_nil)) (blkOk_by (N := N__law_twice_right) (sc := C8.fnScope s__law_twice_right) (by decide +kernel)) (fun _ _ _ _ _ => (pg_name (i := 4) sc__law_twice_right.nd rfl (Or.inl rfl))) (fun _ _ _ _ _ => pts_nil) (fun _ _ _ _ _ => (C8.pe_c c__law_pail hr (Nat.le_refl _) (by rfl) (pa_cons (pv 0) (pa_cons pe_int pa_nil))))))
    (pss_cons (ps_setLc (i := 2) (own := [("number", 5)]) (g := gName 5) (tt := tYes) rfl sc__law_twice_right.nd rfl rfl (sw_true rfl rfl rfl (by decide +kernel)) (pi_list (pv 1)) (blkOk_by (N := N__law_twice_right) (sc := C8.fnScope s__law_twice_right) (by decide +kernel)) (fun _ _ _ _ _ => (pg_name (i := 5) sc__law_twice_right.nd rfl (Or.inl rfl))) (fun _ _ _ _ _ => pts_nil) (fun _ _ _ _ _ => (pe_tup (pa_cons (pe_callTy call_int1 (by rfl) T.b_int (by decide +kernel) (pa_cons (pe_op op_fdivW (pv 5) pe_int) pa_nil)) (pa_cons (pv 5) pa_nil)))))
    (pss_cons (ps_setLc (i := 3) (own := [("at", 6), ("number", 5)]) (g := gTup K 2 _) (tt := tTest (tOp (rIn K false) (tVar 5) (tSl (rSlL K) (tVar 1) tNoPart (tPart (tVar 6))))) rfl sc__law_twice_right.nd rfl rfl (sw_true rfl rfl rfl (by decide +kernel)) (pi_enum (by rfl) T.b_enumerate (pa_cons (pv 1) pa_nil)) (blkOk_by (N := N__law_twice_right) (sc := C8.fnScope s__law_twice_right) (by decide +kernel)) (fun _ _ _ _ _ => (pg_tup rfl (pgs_cons (pg_name (i := 6) sc__law_twice_right.nd rfl (Or.inl rfl)) (pgs_cons (pg_name (i := 5) sc__law_twice_right.nd rfl (Or.inl rfl)) pgs_nil)))) (fun _ _ _ _ _ => (pts_one (pt_cmpR op_in_seq (pv 5) (pe_slice sl_list (pv 1) po_none (po_some (pv 6))) rfl))) (fun _ _ _ _ _ => (pv 6)))
    (pss_cons (ps_if (pt_cmpR (op_neD hr.units) (pe_ck0 (ks := ["values"]) k_first_twice (by intro _ _ _ _ _ _ us ws l1 l2; match us, ws, l1, l2 with | [], [_], _, _ => rfl) hr (Nat.le_refl _) (by rfl) (pk_cons (pv 1) pk_nil)) (pe_ifExp (pt_cmpR (op_neD hr.units) (pv 3) (pe_lst pa_nil) (nomark _)) (pe_ix ix_list (pv 1) (pe_ix ix_list (pv 3) pe_int (fun _ _ => rfl)) (fun _ _ => rfl)) pe_non) (nomark _)) (pss_one (ps_ret pe_bl)) pss_nil)
    (pss_cons (ps_if (PW.pt (pw_or (pt_cmpR (op_neD hr.units) (C8.pe_c c_first_twice hr (Nat.le_refl _) (by rfl) (pa_cons (pe_callTy call_tuple_of (by rfl) T.b_tuple (by decide +kernel) (pa_cons (pv 2) pa_nil)) pa_nil)) (pe_ifExp (pt_cmpR (op_neD hr.units) (pv 3) (pe_lst pa_nil) (nomark _)) (pe_ix ix_list (pv 2) (pe_ix ix_list (pv 3) pe_int (fun _ _ => rfl)) (fun _ _ => rfl)) pe_non) (nomark _)) (pw_or1 (pt_cmpR op_notN (C8.pe_c c_first_twice hr (Nat.le_refl _) (by rfl) (pa_cons (pe_lst pa_nil) pa_nil)) pe_non (nomark _))))) (pss_one (ps_ret pe_bl)) pss_nil)
    (pss_one (ps_ret (pe_cmpR (op_eqD hr.units) (C8.pe_c c_first_twice hr (Nat.le_refl _) (by rfl) (pa_cons (pe_lc (own := [("number", 5)]) (g := gName 5) (tt := tYes) rfl sc__law_twice_right.nd (pi_list (pv 1)) (blkOk_by (N := N__law_twice_right) (sc := C8.fnScope s__law_twice_right) (by decide +kernel)) (fun _ _ _ _ _ => (pg_name (i := 5) sc__law_twice_right.nd rfl (Or.inl rfl))) (fun _ _ _ _ _ => pts_nil) (fun _ _ _ _ _ => (pe_un un_neg (pv 5)))) pa_nil)) (pe_ifExp (pt_cmpR (op_neD hr.units) (pv 3) (pe_lst pa_nil) (nomark _)) (pe_un un_neg (pe_ix ix_list (pv 1) (pe_ix ix_list (pv 3) pe_int (fun _ _ => rfl)) (fun _ _ => rfl))) pe_non) (nomark _))))))))), ?_⟩
  refine ⟨_, rfl, p, c, n + 7, 8, rfl, W, by decide, by decide, fun z H1 z0 z1 kp1 W1 => ?_⟩
  refine ⟨z, rfl, by omega, by omega, fun D hD => lc_draw (p := p) (c := c) (d := 1) (r := n) (fun _ y => ∃ i, y = .int i) hD (by omega) (W1.less (by omega)) ?_ ?_⟩
  · intro i m H3 Kc hi k w more
    exact ⟨rfl, _, rfl, p, c, m, 7, rfl, w, by decide, by decide, fun y H4 y0 y1 k4 w4 => more _ H4 ⟨_, rfl⟩ k4 w4⟩
  intro acc H2 k2 W2 hacc len all
  obtain ⟨zs, rfl⟩ := ints_of_all all
  have lz : zs.length ≤ 8 := by rw [List.length_map] at len; omega
  have seq2 : SqL K H2 D (zs.map V.int) := SqL.of hacc
  -- the pairs
  refine ⟨_, rfl, D, rfl, ⟨_, seq2⟩, fun D2 hD2 => lc_acc (K := K) (fun i acc H => acc.length = i ∧ ∀ (j : Nat) (y : V) (v : Int), acc[j]? = some y → zs[j]? = some v → ∃ a, y = .ref a ∧ era D2 H a = some (.tup [.int (v / 3), .int v])) seq2 hD2 (by rw [List.length_map]; omega)
    (fun i acc H H' k h => ⟨h.1, fun j y v hy hv => by obtain ⟨a, e, ha⟩ := h.2 j y v hy hv; exact ⟨a, e, era_keep k _ _ ha⟩⟩) ⟨rfl, fun j y v hy => by simp at hy⟩ ?_ ?_⟩
  · intro i x acc H3 Kc Nc hi e hD3 pa yes _
    rw [List.getElem?_map] at hi
    obtain ⟨v, hv, rfl⟩ := Option.map_eq_some_iff.mp hi
    refine ⟨rfl, _, rfl, v, 3, rfl, rfl, ⟨by decide, by decide⟩, .inl ⟨_, rfl, _, rfl, (by show 2 ≤ sizeLine; decide), fun a ha => yes _ _ (same_new ha _) ⟨by rw [List.length_append, pa.1]; rfl, fun j y u hy hu => ?_⟩⟩⟩
    rcases get_snoc hy with hy | ⟨ej, ey⟩
    · obtain ⟨b, eb, hb⟩ := pa.2 j y u hy hu
      exact ⟨b, eb, era_keep (Keep.of (same_new ha _)) _ _ hb⟩
    · have ei : j = i := ej.trans pa.1
      subst ei
      rw [hv] at hu
      cases hu
      refine ⟨a, ey, ?_⟩
      unfold era
      rw [if_neg (ne_of_none hD3 ha).symm, upd_same]
  intro acc H3 e3 hD3 _ pa
  rw [List.length_map] at pa
  have pairs : ∀ (j : Nat) (y : V) (v : Int), acc[j]? = some y → zs[j]? = some v → ∃ a, y = .ref a ∧ H3 a = some (.tup [.int (v / 3), .int v]) := fun j y v hy hv => by
    obtain ⟨a, e, h⟩ := pa.2 j y v hy hv
    exact ⟨a, e, era_same D2 H3 _ _ h⟩
  have seq3 := e3.seq seq2
  -- the places
  refine ⟨_, rfl, D, _, rfl, seq3, fun D4 hD4 => lc_enumL (K := K) (fun i acc => acc = ((List.range i).filter (again zs)).map fun j => V.int (j : Nat)) seq3 hD4 (by rw [List.length_map]; omega) rfl ?_ ?_⟩
  · intro i x ac T H4 Kc Nc hi e4 hT pc yes no
    rw [List.getElem?_map] at hi
    obtain ⟨v, hv, rfl⟩ := Option.map_eq_some_iff.mp hi
    have eT := same_new hT (.tup [.int (i : Nat), .int v])
    refine ⟨T, _, rfl, SqT.of upd_same, rfl, _, _, rfl, _, _, rfl, rfl, rfl, _, rfl, _, rfl, _, rfl, _, rfl, D, _, rfl, (e4.trans eT).seq seq3, fun l hl => ⟨l, _, rfl, .inl (SqL.of upd_same), rfl, ?_, _, rfl, ?_⟩⟩
    · rw [cut_take, ← List.map_take, List.all_map]
      exact List.all_eq_true.mpr fun _ _ => rfl
    have ag : inV (.int v) (cutV (zs.map V.int) none (some ((i : Nat) : Int))) = again zs i := by
      rw [cut_take, ← List.map_take, inV_ints]
      unfold again
      rw [List.getD_eq_getElem?_getD, hv]
      rfl
    have r1 : (List.range (i + 1)).filter (again zs) = (List.range i).filter (again zs) ++ (if again zs i = true then [i] else []) := by
      rw [List.range_succ, List.filter_append]
      congr 1
      by_cases hb : again zs i = true
      · rw [List.filter_cons_of_pos hb, if_pos hb]
        rfl
      · rw [List.filter_cons_of_neg hb, if_neg hb]
        rfl
    rw [ag]
    by_cases hb : again zs i = true
    · refine iteY hb ⟨_, rfl, yes _ _ (same_new hl _) ?_⟩
      rw [pc, r1, if_pos hb, List.map_append]
      rfl
    · refine iteN (by simpa using hb) (no _ (same_new hl _) ?_)
      rw [pc, r1, if_neg hb, List.append_nil]
  intro du H5 e5 hD5 pd
  rw [List.length_map] at pd
  have hdu : SqL K H5 D4 ((dueN zs).map fun i => V.int (i : Nat)) := by
    have z := SqL.of (K := K) hD5
    rw [pd] at z
    exact z
  have seq5 := e5.seq seq3
  have sP5 : H5 D2 = some (.lst acc) := e5 _ _ hD3
  have kA : Keep p H H5 := ((kp1.trans k2).trans (Keep.of e3)).trans (Keep.of e5)
  have W5 := (W2.same e3).same e5
  -- the numbers
  refine ⟨_, rfl, rfl, tw_use (kf := fun z => [.inl z]) (sf := fun z => .leaf (.int z)) (df := .int) (.inl seq5) (List.length_map ..) (by omega) (fun a b e => Sum.inl.inj (List.cons.inj e).1) (fun i x z hx hz => ?_) (fun z v' H' t => by rw [← show V.int z = v' from t]; exact .int z) fun v1 H6 e6 d6 => ?_⟩
  · rw [List.getElem?_map, hz] at hx
    cases hx
    exact ⟨.inl ⟨z, rfl, rfl⟩, rfl, listK_int z⟩
  refine pick_idx (df := .int) (items := zs.map V.int) rfl rfl (e6.seq hdu) (e6.seq seq5) (fun i v z hv hz => by rw [List.getElem?_map, hz] at hv; cases hv; exact .int z) fun v2 H7 e7 d7 => ?_
  have ok1 := pick_ok (zs := zs) (df := .int) fun z => ⟨rfl, by simp [PyData.eqv]⟩
  refine ⟨_, _, dp_same e7 d6, d7, ok1.1, ok1.1, _, rfl, iteN (by rw [ok1.2]; rfl) ?_⟩
  have e57 := e6.trans e7
  -- the pairs
  refine ⟨_, rfl, D2, _, rfl, .inl ⟨SqL.of (e57 _ _ sP5), fun l hl => ?_⟩⟩
  have eL := same_new hl (.tup acc)
  dsimp only [tNil, List.cons_append, List.nil_append]
  refine tw_use (kf := pkey) (sf := psh) (df := pdat) (.inr (SqT.of upd_same)) (by exact pa.1) (by omega) pkey_inj (fun i x z hx hz => ?_) (fun z v' H' t => psh_dat t) fun v3 H8 e8 d8 => ?_
  · obtain ⟨a, rfl, ha⟩ := pairs i x z hx hz
    exact pair_ok (eL _ _ (e57 _ _ (e5 _ _ ha)))
  refine pick_idx (df := pdat) (items := acc) rfl rfl (e8.seq (eL.seq (e57.seq hdu))) (SqL.of (e8 _ _ (eL _ _ (e57 _ _ sP5)))) (fun i v z hv hz => ?_) (fun v4 H9 e9 d9 => ?_) pa.1
  · obtain ⟨a, rfl, ha⟩ := pairs i v z hv hz
    exact .tup (SqT.of (e8 _ _ (eL _ _ (e57 _ _ (e5 _ _ ha))))) (.cons (.int _) (.cons (.int _) .nil))
  have ok2 := pick_ok (zs := zs) (df := pdat) fun z => ⟨rfl, by simp [pdat, PyData.eqv, PyData.eqvAll]⟩
  refine ⟨_, _, dp_same e9 d8, d9, ok2.1, ok2.1, _, rfl, iteN (by rw [ok2.2]; rfl) ?_⟩
  have e59 := ((e57.trans eL).trans e8).trans e9
  -- none
  refine ⟨(by show 0 ≤ sizeLine; decide), fun l2 hl2 => ?_⟩
  have eM := same_new hl2 (.lst [])
  dsimp only [tNil, List.cons_append, List.nil_append]
  refine tw_use (zs := []) (kf := fun z => [.inl z]) (sf := fun z => .leaf (.int z)) (df := .int) (.inl (SqL.of upd_same)) rfl (by decide) (fun a b e => Sum.inl.inj (List.cons.inj e).1) (fun i x z hx hz => by simp at hx) (fun z v' H' t => by rw [← show V.int z = v' from t]; exact .int z) fun v5 H10 e10 d10 => ?_
  have n5 : v5 = .non := by
    have z : Dp K H10 v5 .none := d10
    cases z
    rfl
  subst n5
  refine ⟨rfl, _, rfl, iteN rfl ?_⟩
  have e5X := (e59.trans eM).trans e10
  -- the contraries
  refine ⟨_, rfl, D, rfl, ⟨_, e5X.seq seq5⟩, fun D5 hD5 => lc_map (K := K) negV (e5X.seq seq5) hD5 (by rw [List.length_map]; omega) (fun i x H11 Kc Nc hi e11 k => ?_) fun H11 e11 hD11 => ?_⟩
  · rw [List.getElem?_map] at hi
    obtain ⟨v, hv, rfl⟩ := Option.map_eq_some_iff.mp hi
    exact ⟨rfl, _, rfl, v, rfl, k H11 fun _ _ h => h⟩
  dsimp only [tNil, List.cons_append, List.nil_append]
  refine tw_use (zs := zs) (kf := fun z => [.inl (-z)]) (sf := fun z => .leaf (.int (-z))) (df := fun z => .int (-z)) (.inl (SqL.of hD11)) (by rw [List.length_map, List.length_map]) (by omega) (fun a b e => by have := Sum.inl.inj (List.cons.inj e).1; omega) (fun i x z hx hz => ?_) (fun z v' H' t => by rw [← show V.int (-z) = v' from t]; exact .int (-z)) fun v6 H12 e12 d12 => ?_
  · rw [List.getElem?_map, List.getElem?_map, hz] at hx
    cases hx
    exact ⟨.inl ⟨-z, rfl, rfl⟩, rfl, listK_int (-z)⟩
  have e5Y := (e5X.trans e11).trans e12
  have ok3 := pick_ok (zs := zs) (df := fun z => .int (-z)) fun z => ⟨rfl, by simp [PyData.eqv]⟩
  have fin : ∀ v7 H13, Same H12 H13 → Dp K H13 v7 (pickD zs fun z => .int (-z)) → ∃ d e, Dp K H13 v6 d ∧ Dp K H13 v7 e ∧ SeqAt.shaped d = true ∧ SeqAt.shaped e = true ∧ Q (.bl (PyData.eqv d e)) H13 := fun v7 H13 e13 d13 => by
    refine ⟨_, _, dp_same e13 d12, d13, ok3.1, ok3.1, ?_⟩
    rw [ok3.2]
    exact q H13 (kA.trans (Keep.of (e5Y.trans e13))) (W5.same (e5Y.trans e13))
  refine t_pick rfl (e5Y.seq hdu) (fun hh H13 e13 => fin _ _ e13 (by rw [pick_none hh]; exact .non)) fun i hh H13 e13 => ?_
  have il := due_lt hh
  refine t_idx (v := .int (zs.getD i 0)) rfl rfl ((e5Y.trans e13).seq hdu) ((e5Y.trans e13).seq seq5) hh (by rw [List.getElem?_map, getD_of il]; rfl) ⟨_, rfl, fin _ _ e13 ?_⟩
  rw [pick_some hh]
  exact .int _
end
end My


set_option Elab.async false
set_option linter.all false
set_option maxRecDepth 100000
set_option maxHeartbeats 1000000
namespace My
open PySem PySem.Spec PyProof.Rows L2
theorem pe_c0 {X : Cx} {k j : Nat} {x : Str} {sp : Sp} {dvs : List V} {p pos : Pos} (c : C8.Cal X.prog X.w X.K X.mg X.base k x sp dvs) (hr : Room j X.A) (hk : k ≤ j) (hg : Gl X x) (hdb : (x == ("__debug__" : Str)) = false := by decide) : PE X (.Call (.Name x p) [] [] pos) (tCall sp dvs C8.E0 tNil) := by
  obtain ⟨f, fd, ps, ds, F, hm, kp, b, d⟩ := c.ex
  exact pe_call0 F (hr.mono hk) hg hm kp b d pass0 hdb
theorem chainC {f g : Int → Int → Bool} {i j : Nat} {σ : L2.St} {H : Hp} {Q : VK} {a b c : Int} (h1 : σ[i]? = some (some (.int b))) (h3 : σ[j]? = some (some (.int c))) (q : Q (.bl (f a b && g b c)) H) :
    tChain (rI0 fun i j => .bl (f i j)) (rI0 fun i j => .bl (g i j)) (tC (.int a)) (tVar i) (tVar j) σ H Q := by
  refine ⟨_, h1, a, b, rfl, rfl, _, rfl, ?_⟩
  cases e : f a b with
  | true =>
    rw [e] at q
    exact iteT ⟨_, h3, b, c, rfl, rfl, q⟩
  | false =>
    rw [e] at q
    exact iteF q
theorem fin_of {Q : VK} {H : Hp} {b : Bool} (e : b = true) (q : Q (.bl true) H) : Q (.bl b) H := by
  rw [e]
  exact q
theorem isPr_int (m : Int) : isPr (.int m) = inV (.int m) (primes.map V.int) := by
  unfold isPr
  show (true && _) = _
  rw [Bool.true_and]
theorem isPr_no {v : V} (h : intV v = false) : isPr v = false := by
  unfold isPr
  rw [h]
  rfl
theorem isPr_mem {m : Int} : isPr (.int m) = true ↔ m ∈ primes := by
  rw [isPr_int, inV_ints, List.any_eq_true]
  constructor
  · rintro ⟨w, hw, e⟩
    rw [← of_decide_eq_true e]
    exact hw
  · intro h
    exact ⟨m, h, decide_eq_true rfl⟩
theorem primes_ge : ∀ r ∈ primes, (2 : Int) ≤ r := by decide +kernel
theorem last_prime : atI (primes.map V.int) (-1) = some (.int 97) := by decide +kernel
theorem far_prime : isPr (.int (97 * 10 ^ 20)) = false := by decide +kernel
theorem isPr_far : ∀ r ∈ primes, isPr (.int (r * 10 ^ 9)) = false := by decide +kernel
theorem isSg_zero (m : Int) : isSg (.int m) (.int 0) = inV (.int m) (primes.map V.int) := by
  rw [← isPr_int]
  unfold isSg
  cases e : isPr (.int m) with
  | false => rfl
  | true =>
    have := primes_ge m (isPr_mem.mp e)
    show (true && (decide ((0 : Int) ≤ 0) && decide ((0 : Int) ≤ m - 1))) = true
    rw [decide_eq_true (by omega : (0 : Int) ≤ m - 1)]
    rfl
theorem isSg_in {r : Int} (h : r ∈ primes) (v : V) : isSg (.int r) v = inB (.int 0) (.int (r - 1)) v := by
  unfold isSg
  rw [isPr_mem.mpr h]
  rfl
section
variable {P : Program} {w : World} {K : PySem.W.Frag} {mg : Str → Option Value} {base : Heap}
theorem ok__law_signs_right {k : Nat} {pr : Addr} {f : Addr} {fd : FuncData} (T : Txt K mg) (PR : PrimesC K mg pr) (F : C8.Fun K "_law_signs_right" "_law_signs_right" s__law_signs_right f fd) (c__law_of : C8.Cal P w K mg base k "_law_of" (spOf K) []) (c__law_pail : C8.Cal P w K mg base k "_law_pail" spPail []) (c__law_odd : C8.Cal P w K mg base k "_law_odd" spOdd [])
    (c__law_primes : C8.Cal P w K mg base k "_law_primes" spPrimes []) (k_is_prime : CalK P w K mg base k "is_prime" s_is_prime P_is_prime (spPrime K)) (k_is_sign : CalK P w K mg base k "is_sign" s_is_sign P_is_sign (spSign K)) : FnG P w K mg base (k + 1) f fd ["well"] (spRight 3) := by
  obtain ⟨oc, od, dV, kV, doc, pm, an, cdv, ct, osl, rfl, lk, hcd⟩ := F.ex
  refine fnG lk hcd sc__law_signs_right (fun vs H Q E h => ?_) fun A outer s H vs Q E ng hr h => ?_
  · obtain ⟨p, c, n, rfl, _⟩ := h
    rfl
  obtain ⟨p, c, n, rfl, W, q⟩ := h
  have c_is_prime := k_is_prime.cal
  have c_is_sign := k_is_sign.cal
  refine ⟨_, (pss_cons (ps_par3 (i := 3) (j := 4) (l := 5) (by rfl) sc__law_signs_right.nd rfl rfl rfl (by decide) (by decide) (by decide) rfl rfl rfl (pa_cons (C8.pe_c c__law_odd hr (Nat.le_refl _) (by rfl) (pa_cons (pv 0) pa_nil)) (pa_cons (pe_op op_sub (C8.pe_c c__law_pail hr (Nat.le_refl _) (by rfl) (pa_cons (pv 0) (pa_cons pe_int pa_nil))) pe_int) (pa_cons (pe_c0 c__law_primes hr (Nat.le_refl _) (by rfl)) pa_nil))) (by rfl))
    (pss_cons (ps_if (PW.pt (pw_or (pt_cmpR op_ne (pe_callB (cr_reprT ng hr.units) (by rfl) T.b_repr (by decide +kernel) (pa_cons (C8.pe_gc (v := .ref pr) (by rfl) ⟨_, PR.g, rfl⟩) pa_nil)) (pe_callB (cr_reprT ng hr.units) (by rfl) T.b_repr (by decide +kernel) (pa_cons (pv 5) pa_nil)) (nomark _)) (pw_or (pt_cmpR op_ne (pe_ck0 (ks := ["value"]) k_is_prime (by intro _ _ _ _ _ _ us ws l1 l2; match us, ws, l1, l2 with | [], [_], _, _ => rfl) hr (Nat.le_refl _) (by rfl) (pk_cons (pv 4) pk_nil)) (pe_cmpR op_in_seq (pv 4) (pv 5) rfl) (nomark _)) (pw_or (pt_val (C8.pe_c c_is_prime hr (Nat.le_refl _) (by rfl) (pa_cons (pv 3) pa_nil))) (pw_or1 (pt_val (C8.pe_c c_is_prime hr (Nat.le_refl _) (by rfl) (pa_cons (pe_op op_mul (pe_ix ix_tup (pv 5) (pe_un un_neg pe_int) (fun _ _ => rfl)) (pe_op op_pow pe_int pe_int)) pa_nil)))))))) (pss_one (ps_ret pe_bl)) pss_nil)
    (pss_cons (ps_set (i := 1) sc__law_signs_right.nd rfl (Or.inl rfl) (C8.pe_c c__law_of hr (Nat.le_refl _) (by rfl) (pa_cons (pv 0) (pa_cons (pe_callTy call_list_of (by rfl) T.b_list (by decide +kernel) (pa_cons (pv 5) pa_nil)) pa_nil))))
    (pss_cons (ps_set (i := 2) sc__law_signs_right.nd rfl (Or.inl rfl) (pe_lst (pa_cons (C8.pe_c c_is_sign hr (Nat.le_refl _) (by rfl) (pa_cons (pv 1) (pa_cons pe_int pa_nil))) (pa_cons (pe_ck0 (ks := ["p", "value"]) k_is_sign (by intro _ _ _ _ _ _ us ws l1 l2; match us, ws, l1, l2 with | [], [_, _], _, _ => rfl) hr (Nat.le_refl _) (by rfl) (pk_cons (pv 1) (pk_cons (pe_op op_sub (pv 1) pe_int) pk_nil))) (pa_cons (C8.pe_c c_is_sign hr (Nat.le_refl _) (by rfl) (pa_cons (pv 1) (pa_cons (pv 1) pa_nil))) (pa_cons (C8.pe_c c_is_sign hr (Nat.le_refl _) (by rfl) (pa_cons (pv 1) (pa_cons (pe_un un_neg pe_int) pa_nil))) (pa_cons (C8.pe_c c_is_sign hr (Nat.le_refl _) (by rfl) (pa_cons (pv 1) (pa_cons (pv 3) pa_nil))) (pa_cons (C8.pe_c c_is_sign hr (Nat.le_refl _) (by rfl) (pa_cons (pv 1) (pa_cons (pv 4) pa_nil))) pa_nil))))))))
    (pss_cons (ps_if (PW.pt (pw_or (pt_cmpR (op_neD hr.units) (pv 2) (pe_lst (pa_cons pe_bl (pa_cons pe_bl (pa_cons pe_bl (pa_cons pe_bl (pa_cons pe_bl (pa_cons (pe_chain op_le op_lt pe_int (pv 4) (pv 1)) pa_nil))))))) (nomark _)) (pw_or (pt_val (C8.pe_c c_is_sign hr (Nat.le_refl _) (by rfl) (pa_cons (pv 3) (pa_cons pe_int pa_nil)))) (pw_or1 (pt_val (C8.pe_c c_is_sign hr (Nat.le_refl _) (by rfl) (pa_cons (pe_op op_mul (pv 1) (pe_op op_pow pe_int pe_int)) (pa_cons pe_int pa_nil)))))))) (pss_one (ps_ret pe_bl)) pss_nil)
    (pss_one (ps_ret (pe_cmpR op_eq (C8.pe_c c_is_sign hr (Nat.le_refl _) (by rfl) (pa_cons (pv 4) (pa_cons pe_int pa_nil))) (pe_cmpR op_in_seq (pv 4) (pv 5) rfl) (nomark _))))))))), ?_⟩
  refine ⟨_, rfl, p, c, n + 2, rfl, W, fun o H1 ho kp1 W1 => ?_⟩
  refine ⟨_, rfl, p, c, n + 1, 120, rfl, W1, by decide, by decide, fun z H2 z0 z1 kp2 W2 => ?_⟩
  refine ⟨_, _, rfl, rfl, rfl, fun l H3 hl e3 h3 => ?_⟩
  refine ⟨_, _, _, rfl, ?_⟩
  obtain ⟨cells, t, r0, hp2, _⟩ := id W2
  have nl : l ≠ p := (ne_of_none hp2 hl).symm
  have ho3 := (ho.keep kp2).keep (Keep.of e3)
  have W3 := W2.same e3
  have small : ∀ i ∈ primes, i.natAbs.log2 < 1920 := by decide +kernel
  have size : (tupleText (primes.map fun i => ((toString i : String) : Str))).length ≤ sizeLine := by decide +kernel
  have seq3 : SqT K H3 l (primes.map V.int) := SqT.of h3
  have flat : (primes.map V.int).all flatV = true := by rw [List.all_map]; exact List.all_eq_true.mpr fun _ _ => rfl
  refine ⟨pr, primes, rfl, PR.t _, small, size, _, rfl, l, primes, rfl, seq3, small, size, rfl, _, rfl, iteN (by rw [decide_eq_true rfl]; rfl) ?_⟩
  refine ⟨_, rfl, rfl, .int (z - 10), rfl, intK_int _, _, rfl, _, rfl, l, _, rfl, .inr seq3, rfl, flat, rfl, _, rfl, iteN (by rw [isPr_int]; simp) ?_⟩
  have ko3 := ho3.kn (K := K)
  refine ⟨_, rfl, o, rfl, ko3.1, _, rfl, iteN (isPr_no ko3.2) ?_⟩
  refine ⟨_, rfl, 1, rfl, l, _, -1, .int 97, rfl, rfl, seq3, last_prime, 10, 20, rfl, rfl, (by unfold CPow; decide), 97, 10 ^ 20, rfl, rfl, .inl (by decide), .int (97 * 10 ^ 20), rfl, intK_int _, _, rfl, iteN far_prime ?_⟩
  refine ⟨_, rfl, _, rfl, l, _, rfl, .inr seq3, fun l2 hl2 => ?_⟩
  have e4 := same_new hl2 (.lst (primes.map V.int))
  refine ⟨p, c, l2, n, _, rfl, W3.same e4, SqL.of upd_same, (ne_of_none (e3 _ _ hp2) hl2).symm, (by rw [List.length_map]; decide), (by rw [List.length_map]; decide), fun v H4 hv kp4 W4 => ?_⟩
  obtain ⟨r, hr2, rfl⟩ := List.mem_map.mp hv
  have ge := primes_ge r hr2
  have ho4 := (ho3.keep (Keep.of e4)).keep kp4
  have ko4 := ho4.kn (K := K)
  have seq4 : SqT K H4 l (primes.map V.int) := SqT.of (kp4 _ _ (e4 _ _ h3) nl)
  have kA := (((kp1.trans kp2).trans (Keep.of e3)).trans (Keep.of e4)).trans kp4
  refine ⟨_, rfl, .int r, .int 0, rfl, intK_int _, intK_int _, ?_⟩
  refine ⟨_, rfl, _, rfl, r, 1, rfl, rfl, rfl, .int r, .int (r - 1), rfl, intK_int _, intK_int _, ?_⟩
  refine ⟨_, rfl, _, rfl, .int r, .int r, rfl, intK_int _, intK_int _, ?_⟩
  refine ⟨_, rfl, 1, rfl, .int r, .int (-1), rfl, intK_int _, intK_int _, ?_⟩
  refine ⟨_, rfl, _, rfl, .int r, o, rfl, intK_int _, ko4.1, ?_⟩
  refine ⟨_, rfl, _, rfl, .int r, .int (z - 10), rfl, intK_int _, intK_int _, ?_⟩
  refine ⟨(by show 6 ≤ sizeLine; decide), fun t1 ht1 => ?_⟩
  have b1 : isSg (.int r) (.int 0) = true := by
    rw [isSg_in hr2]
    show (decide ((0 : Int) ≤ 0) && decide ((0 : Int) ≤ r - 1)) = true
    rw [decide_eq_true (by omega : (0 : Int) ≤ r - 1)]
    rfl
  have b2 : isSg (.int r) (.int (r - 1)) = true := by
    rw [isSg_in hr2]
    show (decide ((0 : Int) ≤ r - 1) && decide (r - 1 ≤ r - 1)) = true
    rw [decide_eq_true (by omega : (0 : Int) ≤ r - 1), decide_eq_true (by omega : r - 1 ≤ r - 1)]
    rfl
  have b3 : isSg (.int r) (.int r) = false := by
    rw [isSg_in hr2]
    show (decide ((0 : Int) ≤ r) && decide (r ≤ r - 1)) = false
    rw [decide_eq_false (by omega : ¬ r ≤ r - 1), Bool.and_false]
  have b4 : isSg (.int r) (.int (-1)) = false := by
    rw [isSg_in hr2]
    rfl
  have b5 : isSg (.int r) o = false := by
    rw [isSg_in hr2]
    exact inB_no ko4.2
  have b6 : isSg (.int r) (.int (z - 10)) = (decide (0 ≤ z - 10) && decide (z - 10 < r)) := by
    rw [isSg_in hr2]
    show (decide ((0 : Int) ≤ z - 10) && decide (z - 10 ≤ r - 1)) = _
    rw [decide_eq_decide.mpr (by omega : z - 10 ≤ r - 1 ↔ z - 10 < r)]
  refine ⟨_, rfl, chainC (f := fun i j => decide (i ≤ j)) (g := fun i j => decide (i < j)) rfl rfl ⟨(by show 6 ≤ sizeLine; decide), fun t2 ht2 => ?_⟩⟩
  refine ⟨.list ([isSg (.int r) (.int 0), isSg (.int r) (.int (r - 1)), isSg (.int r) (.int r), isSg (.int r) (.int (-1)), isSg (.int r) o, isSg (.int r) (.int (z - 10))].map PyData.bool), .list ([true, true, false, false, false, decide (0 ≤ z - 10) && decide (z - 10 < r)].map PyData.bool),
    .lst (SqL.of (same_new ht2 _ _ _ upd_same)) (dp_blsA [_, _, _, _, _, _]), .lst (SqL.of upd_same) (dp_blsA [_, _, _, _, _, _]), rfl, rfl, _, rfl, ?_⟩
  refine iteN (by simp only [PyData.eqv]; rw [eqv_blsA, b1, b2, b3, b4, b5, b6]; simp) ?_
  have eT := (same_new ht1 (.lst [.bl (isSg (.int r) (.int 0)), .bl (isSg (.int r) (.int (r - 1))), .bl (isSg (.int r) (.int r)), .bl (isSg (.int r) (.int (-1))), .bl (isSg (.int r) o), .bl (isSg (.int r) (.int (z - 10)))])).trans (same_new ht2 (.lst [.bl true, .bl true, .bl false, .bl false, .bl false, .bl (decide (0 ≤ z - 10) && decide (z - 10 < r))]))
  have koT := ko4.1.same eT
  refine ⟨_, rfl, o, .int 0, rfl, koT, intK_int _, _, rfl, iteN (by unfold isSg; rw [isPr_no ko4.2]; rfl) ?_⟩
  refine ⟨_, rfl, 10, 9, rfl, rfl, (by unfold CPow; decide), r, 10 ^ 9, rfl, rfl, .inr (by decide), .int (r * 10 ^ 9), .int 1, rfl, intK_int _, intK_int _, _, rfl, iteN (by unfold isSg; rw [isPr_far r hr2]; rfl) ?_⟩
  refine ⟨_, rfl, .int (z - 10), .int 0, rfl, intK_int _, intK_int _, _, rfl, _, rfl, l, _, rfl, .inr (same_seqT eT seq4), rfl, flat, rfl, ?_⟩
  have e0 : isSg (.int (z - 10)) (.int 0) = inV (.int (z - 10)) (primes.map V.int) := isSg_zero _
  rw [e0]
  have fin := q _ (kA.trans (Keep.of eT)) (W4.same eT)
  have one : decide (V.bl (inV (.int (z - 10)) (primes.map V.int)) = V.bl (if false = true then !inV (.int (z - 10)) (primes.map V.int) else inV (.int (z - 10)) (primes.map V.int))) = true := by simp
  refine fin_of ?_ fin
  exact one
end
end My


set_option Elab.async false
set_option linter.all false
set_option maxRecDepth 100000
set_option maxHeartbeats 1000000
namespace My
open PySem PySem.Spec PyProof.Rows L2
def spLaw (K : PySem.W.Frag) : Sp := fun vs H Q _ => ∃ (a : Addr) (ns : List Int), vs = [.ref a] ∧ SqL K H a (ns.map V.int) ∧ ns.length ≤ 63 ∧ ∀ H', Q (.bl true) H'
/-- values that are integers -/
def valsInt : List Value → Option (List Int)
  | [] => some []
  | .int i _ :: r => (valsInt r).map (i :: ·)
  | _ => none
theorem valsInt_vals : ∀ {us : List Value} {ns : List Int}, valsInt us = some ns → Vals (ns.map V.int) us
  | [], ns, h => by
    cases h
    exact .nil
  | u :: r, ns, h => by
    cases u with
    | int i t =>
      obtain ⟨ms, e, rfl⟩ := Option.map_eq_some_iff.mp (show (valsInt r).map (i :: ·) = some ns from h)
      exact .cons ⟨t, rfl⟩ (valsInt_vals e)
    | _ => cases h
theorem defK_mk {K : PySem.W.Frag} {h : Heap} {mg : Str → Option Value} {x : Str} {st : Stmt} {ps : List Str} {f : Addr} {od an : Option Addr} {sl : Array (Option Value)} {oc kV dc pm cd ct : Value} (X : K.In h) (G : h.Ns mainGlobals mg) (a : PySem.W.nsIn K mainGlobals x = some (some (.ref f)))
    (l : K.lookup f = some ⟨oc, od, .func (fdN x st kV dc pm an cd ct), sl⟩) (c : PySem.W.codeIn K cd x = true) (k : PySem.W.keepIn K (.ref f) = true)
    (hb : ∀ (kV doc pm : Value) (an : Option Addr) (cdv ct : Value) (us : List Value), us.length = ps.length → bindArgs (fdN x st kV doc pm an cdv ct) ⟨us, []⟩ = pure (ps.zip us)) : DefK K mg x st ps := by
  have F : C8.Fun K x x st f _ := ⟨_, _, _, _, _, _, _, _, _, _, rfl, l, c⟩
  exact ⟨f, _, ⟨F, PySem.W.mg_of X G a, k⟩, C8.Fun.binds F rfl hb, rfl⟩
section
variable {P : Program} {w : World} {K : PySem.W.Frag} {mg : Str → Option Value} {base : Heap}
theorem fn_law {f fl : Addr} {fd fdl : FuncData} (T : Txt K mg) (F : C8.Fun K "law" "law" s_law fl fdl) (c__law_well : C8.Cal P w K mg base 1 "_law_well" (spWell K) []) (FS : FnG P w K mg base 6 f fd ["well"] (spRight 3)) (bS : Binds K fd ["well"] []) (mS : mg "_law_signs_right" = some (.ref f)) (kS : PySem.W.keepIn K (.ref f) = true)
    (c__law_bounds_right : C8.Cal P w K mg base 6 "_law_bounds_right" (spRight 5) []) (c__law_rows_right : C8.Cal P w K mg base 6 "_law_rows_right" (spRight 7) []) (c__law_twice_right : C8.Cal P w K mg base 6 "_law_twice_right" (spRight 8) []) : FnG P w K mg base 7 fl fdl ["script"] (spLaw K) := by
  obtain ⟨oc, od, dV, kV, doc, pm, an, cdv, ct, osl, rfl, lk, hcd⟩ := F.ex
  refine fnG lk hcd sc_law (fun vs H Q E h => ?_) fun A outer s H vs Q E ng hr h => ?_
  · obtain ⟨a, ns, rfl, _⟩ := h
    rfl
  obtain ⟨a, ns, rfl, hS, hl, q⟩ := h
  refine ⟨_, (pss_cons (ps_set (i := 1) sc_law.nd rfl (Or.inl rfl) (C8.pe_c c__law_well hr (by decide) (by rfl) (pa_cons (pv 0) pa_nil)))
    (pss_cons (ps_for PassesOwn.never rfl (pi_range1 (by rfl) T.b_range (pa_cons pe_int pa_nil)) (pg_name (i := 2) sc_law.nd rfl (Or.inl rfl))
      (pss_one (ps_if (PW.pt (pw_or (pt_not (pt_val (C8.pe_c c__law_bounds_right hr (by decide) (by rfl) (pa_cons (pv 1) pa_nil)))) (pw_or (pt_not (pt_val (C8.pe_c c__law_rows_right hr (by decide) (by rfl) (pa_cons (pv 1) pa_nil)))) (pw_or (pt_not (pt_val (pe_cG FS bS mS kS (ng.deeper _) hr (by decide) (by rfl) (pa_cons (pv 1) pa_nil)))) (pw_or1 (pt_not (pt_val (C8.pe_c c__law_twice_right hr (by decide) (by rfl) (pa_cons (pv 1) pa_nil))))))))) (pss_one (ps_ret pe_bl)) pss_nil)))
    (pss_one (ps_ret pe_bl)))), ?_⟩
  refine ⟨_, rfl, a, ns, rfl, hS, hl, fun p cc H1 np nc e1 W1 => ?_⟩
  refine ⟨4, rfl, by decide, by decide, for_range (lo := 0) (n := 4) (fun i σ' H' => (∃ x2, σ' = [some (.ref a), some (.ref p), x2]) ∧ Well H' p cc (23 * (4 - i))) ⟨⟨_, rfl⟩, W1.less (by decide)⟩ ?_ ?_⟩
  · rintro i σ' H' hi ⟨⟨x2, rfl⟩, W⟩
    have en : 23 * (4 - i) = (((23 * (4 - (i + 1)) + 8) + 3) + 7) + 5 := by omega
    rw [en] at W
    refine ⟨_, rfl, p, cc, _, rfl, W, fun H2 k2 W2 => ⟨true, rfl, iteF ?_⟩⟩
    refine ⟨_, rfl, p, cc, _, rfl, W2, fun H3 k3 W3 => ⟨true, rfl, iteF ?_⟩⟩
    refine ⟨_, rfl, p, cc, _, rfl, W3, fun H4 k4 W4 => ⟨true, rfl, iteF ?_⟩⟩
    refine ⟨_, rfl, p, cc, _, rfl, W4, fun H5 k5 W5 => ⟨true, rfl, iteF ?_⟩⟩
    exact ⟨⟨_, rfl⟩, W5⟩
  · rintro σ' H' _
    exact q H'
end
theorem all_mk {l : PySem.W.OpenLaw} {w : World} {K : PySem.W.Frag} {h : Heap} {mg : Str → Option Value} {fa : Addr} (X : K.In h) (G : h.Ns mainGlobals mg) (hfa : mg "law" = some (.ref fa))
    {f_0 : Addr} {od_0 an_0 : Option Addr} {sl_0 : Array (Option Value)} {oc_0 kV_0 dc_0 pm_0 cd_0 ct_0 : Value} {f_1 : Addr} {od_1 an_1 : Option Addr} {sl_1 : Array (Option Value)} {oc_1 kV_1 dc_1 pm_1 cd_1 ct_1 : Value} {f_2 : Addr} {od_2 an_2 : Option Addr} {sl_2 : Array (Option Value)} {oc_2 kV_2 dc_2 pm_2 cd_2 ct_2 : Value} {f_3 : Addr} {od_3 an_3 : Option Addr} {sl_3 : Array (Option Value)} {oc_3 kV_3 dc_3 pm_3 cd_3 ct_3 : Value} {f_4 : Addr} {od_4 an_4 : Option Addr} {sl_4 : Array (Option Value)} {oc_4 kV_4 dc_4 pm_4 cd_4 ct_4 : Value} {f_5 : Addr} {od_5 an_5 : Option Addr} {sl_5 : Array (Option Value)} {oc_5 kV_5 dc_5 pm_5 cd_5 ct_5 : Value} {f_6 : Addr} {od_6 an_6 : Option Addr} {sl_6 : Array (Option Value)} {oc_6 kV_6 dc_6 pm_6 cd_6 ct_6 : Value} {f_7 : Addr} {od_7 an_7 : Option Addr} {sl_7 : Array (Option Value)} {oc_7 kV_7 dc_7 pm_7 cd_7 ct_7 : Value} {f_8 : Addr} {od_8 an_8 : Option Addr} {sl_8 : Array (Option Value)} {oc_8 kV_8 dc_8 pm_8 cd_8 ct_8 : Value} {f_9 : Addr} {od_9 an_9 : Option Addr} {sl_9 : Array (Option Value)} {oc_9 kV_9 dc_9 pm_9 cd_9 ct_9 : Value} {f_10 : Addr} {od_10 an_10 : Option Addr} {sl_10 : Array (Option Value)} {oc_10 kV_10 dc_10 pm_10 cd_10 ct_10 : Value} {f_11 : Addr} {od_11 an_11 : Option Addr} {sl_11 : Array (Option Value)} {oc_11 kV_11 dc_11 pm_11 cd_11 ct_11 : Value} {f_12 : Addr} {od_12 an_12 : Option Addr} {sl_12 : Array (Option Value)} {oc_12 kV_12 dc_12 pm_12 cd_12 ct_12 : Value} {f_13 : Addr} {od_13 an_13 : Option Addr} {sl_13 : Array (Option Value)} {oc_13 kV_13 dc_13 pm_13 cd_13 ct_13 : Value} {f_14 : Addr} {od_14 an_14 : Option Addr} {sl_14 : Array (Option Value)} {oc_14 kV_14 dc_14 pm_14 cd_14 ct_14 : Value} {f_15 : Addr} {od_15 an_15 : Option Addr} {sl_15 : Array (Option Value)} {oc_15 kV_15 dc_15 pm_15 cd_15 ct_15 : Value} {f_16 : Addr} {od_16 an_16 : Option Addr} {sl_16 : Array (Option Value)} {oc_16 kV_16 dc_16 pm_16 cd_16 ct_16 : Value} {f_17 : Addr} {od_17 an_17 : Option Addr} {sl_17 : Array (Option Value)} {oc_17 kV_17 dc_17 pm_17 cd_17 ct_17 : Value} {f_18 : Addr} {od_18 an_18 : Option Addr} {sl_18 : Array (Option Value)} {oc_18 kV_18 dc_18 pm_18 cd_18 ct_18 : Value} {pr : Addr} {po : Obj} {its : Array Value} {pn : Nat}
    (z_abs : PySem.W.nsIn K mainGlobals "abs" = some none)
    (z_all : PySem.W.nsIn K mainGlobals "all" = some none)
    (z_bool : PySem.W.nsIn K mainGlobals "bool" = some none)
    (z_enumerate : PySem.W.nsIn K mainGlobals "enumerate" = some none)
    (z_int : PySem.W.nsIn K mainGlobals "int" = some none)
    (z_isinstance : PySem.W.nsIn K mainGlobals "isinstance" = some none)
    (z_len : PySem.W.nsIn K mainGlobals "len" = some none)
    (z_list : PySem.W.nsIn K mainGlobals "list" = some none)
    (z_range : PySem.W.nsIn K mainGlobals "range" = some none)
    (z_repr : PySem.W.nsIn K mainGlobals "repr" = some none)
    (z_set : PySem.W.nsIn K mainGlobals "set" = some none)
    (z_tuple : PySem.W.nsIn K mainGlobals "tuple" = some none)
    (a_0 : PySem.W.nsIn K mainGlobals "fixed" = some (some (.ref f_0)))
    (l_0 : K.lookup f_0 = some ⟨oc_0, od_0, .func (PySem.W.fnOf "fixed" "fixed" (C8.fnArgs s_fixed) (C8.fnBody s_fixed) (C8.fnScope s_fixed) .none kV_0 dc_0 pm_0 an_0 cd_0 ct_0), sl_0⟩)
    (c_0 : PySem.W.codeIn K cd_0 "fixed" = true)
    (k_0 : PySem.W.keepIn K (.ref f_0) = true)
    (a_1 : PySem.W.nsIn K mainGlobals "is_integer" = some (some (.ref f_1)))
    (l_1 : K.lookup f_1 = some ⟨oc_1, od_1, .func (PySem.W.fnOf "is_integer" "is_integer" (C8.fnArgs s_is_integer) (C8.fnBody s_is_integer) (C8.fnScope s_is_integer) .none kV_1 dc_1 pm_1 an_1 cd_1 ct_1), sl_1⟩)
    (c_1 : PySem.W.codeIn K cd_1 "is_integer" = true)
    (k_1 : PySem.W.keepIn K (.ref f_1) = true)
    (a_2 : PySem.W.nsIn K mainGlobals "is_within" = some (some (.ref f_2)))
    (l_2 : K.lookup f_2 = some ⟨oc_2, od_2, .func (PySem.W.fnOf "is_within" "is_within" (C8.fnArgs s_is_within) (C8.fnBody s_is_within) (C8.fnScope s_is_within) .none kV_2 dc_2 pm_2 an_2 cd_2 ct_2), sl_2⟩)
    (c_2 : PySem.W.codeIn K cd_2 "is_within" = true)
    (k_2 : PySem.W.keepIn K (.ref f_2) = true)
    (a_3 : PySem.W.nsIn K mainGlobals "is_list" = some (some (.ref f_3)))
    (l_3 : K.lookup f_3 = some ⟨oc_3, od_3, .func (PySem.W.fnOf "is_list" "is_list" (C8.fnArgs s_is_list) (C8.fnBody s_is_list) (C8.fnScope s_is_list) .none kV_3 dc_3 pm_3 an_3 cd_3 ct_3), sl_3⟩)
    (c_3 : PySem.W.codeIn K cd_3 "is_list" = true)
    (k_3 : PySem.W.keepIn K (.ref f_3) = true)
    (a_4 : PySem.W.nsIn K mainGlobals "is_numbers" = some (some (.ref f_4)))
    (l_4 : K.lookup f_4 = some ⟨oc_4, od_4, .func (PySem.W.fnOf "is_numbers" "is_numbers" (C8.fnArgs s_is_numbers) (C8.fnBody s_is_numbers) (C8.fnScope s_is_numbers) .none kV_4 dc_4 pm_4 an_4 cd_4 ct_4), sl_4⟩)
    (c_4 : PySem.W.codeIn K cd_4 "is_numbers" = true)
    (k_4 : PySem.W.keepIn K (.ref f_4) = true)
    (a_5 : PySem.W.nsIn K mainGlobals "is_prime" = some (some (.ref f_5)))
    (l_5 : K.lookup f_5 = some ⟨oc_5, od_5, .func (PySem.W.fnOf "is_prime" "is_prime" (C8.fnArgs s_is_prime) (C8.fnBody s_is_prime) (C8.fnScope s_is_prime) .none kV_5 dc_5 pm_5 an_5 cd_5 ct_5), sl_5⟩)
    (c_5 : PySem.W.codeIn K cd_5 "is_prime" = true)
    (k_5 : PySem.W.keepIn K (.ref f_5) = true)
    (a_6 : PySem.W.nsIn K mainGlobals "is_sign" = some (some (.ref f_6)))
    (l_6 : K.lookup f_6 = some ⟨oc_6, od_6, .func (PySem.W.fnOf "is_sign" "is_sign" (C8.fnArgs s_is_sign) (C8.fnBody s_is_sign) (C8.fnScope s_is_sign) .none kV_6 dc_6 pm_6 an_6 cd_6 ct_6), sl_6⟩)
    (c_6 : PySem.W.codeIn K cd_6 "is_sign" = true)
    (k_6 : PySem.W.keepIn K (.ref f_6) = true)
    (a_7 : PySem.W.nsIn K mainGlobals "flat" = some (some (.ref f_7)))
    (l_7 : K.lookup f_7 = some ⟨oc_7, od_7, .func (PySem.W.fnOf "flat" "flat" (C8.fnArgs s_flat) (C8.fnBody s_flat) (C8.fnScope s_flat) .none kV_7 dc_7 pm_7 an_7 cd_7 ct_7), sl_7⟩)
    (c_7 : PySem.W.codeIn K cd_7 "flat" = true)
    (k_7 : PySem.W.keepIn K (.ref f_7) = true)
    (a_8 : PySem.W.nsIn K mainGlobals "first_twice" = some (some (.ref f_8)))
    (l_8 : K.lookup f_8 = some ⟨oc_8, od_8, .func (PySem.W.fnOf "first_twice" "first_twice" (C8.fnArgs s_first_twice) (C8.fnBody s_first_twice) (C8.fnScope s_first_twice) .none kV_8 dc_8 pm_8 an_8 cd_8 ct_8), sl_8⟩)
    (c_8 : PySem.W.codeIn K cd_8 "first_twice" = true)
    (k_8 : PySem.W.keepIn K (.ref f_8) = true)
    (a_9 : PySem.W.nsIn K mainGlobals "_law_well" = some (some (.ref f_9)))
    (l_9 : K.lookup f_9 = some ⟨oc_9, od_9, .func (PySem.W.fnOf "_law_well" "_law_well" (C8.fnArgs s__law_well) (C8.fnBody s__law_well) (C8.fnScope s__law_well) .none kV_9 dc_9 pm_9 an_9 cd_9 ct_9), sl_9⟩)
    (c_9 : PySem.W.codeIn K cd_9 "_law_well" = true)
    (k_9 : PySem.W.keepIn K (.ref f_9) = true)
    (a_10 : PySem.W.nsIn K mainGlobals "_law_pail" = some (some (.ref f_10)))
    (l_10 : K.lookup f_10 = some ⟨oc_10, od_10, .func (PySem.W.fnOf "_law_pail" "_law_pail" (C8.fnArgs s__law_pail) (C8.fnBody s__law_pail) (C8.fnScope s__law_pail) .none kV_10 dc_10 pm_10 an_10 cd_10 ct_10), sl_10⟩)
    (c_10 : PySem.W.codeIn K cd_10 "_law_pail" = true)
    (k_10 : PySem.W.keepIn K (.ref f_10) = true)
    (a_11 : PySem.W.nsIn K mainGlobals "_law_of" = some (some (.ref f_11)))
    (l_11 : K.lookup f_11 = some ⟨oc_11, od_11, .func (PySem.W.fnOf "_law_of" "_law_of" (C8.fnArgs s__law_of) (C8.fnBody s__law_of) (C8.fnScope s__law_of) .none kV_11 dc_11 pm_11 an_11 cd_11 ct_11), sl_11⟩)
    (c_11 : PySem.W.codeIn K cd_11 "_law_of" = true)
    (k_11 : PySem.W.keepIn K (.ref f_11) = true)
    (a_12 : PySem.W.nsIn K mainGlobals "_law_odd" = some (some (.ref f_12)))
    (l_12 : K.lookup f_12 = some ⟨oc_12, od_12, .func (PySem.W.fnOf "_law_odd" "_law_odd" (C8.fnArgs s__law_odd) (C8.fnBody s__law_odd) (C8.fnScope s__law_odd) .none kV_12 dc_12 pm_12 an_12 cd_12 ct_12), sl_12⟩)
    (c_12 : PySem.W.codeIn K cd_12 "_law_odd" = true)
    (k_12 : PySem.W.keepIn K (.ref f_12) = true)
    (a_13 : PySem.W.nsIn K mainGlobals "_law_bounds_right" = some (some (.ref f_13)))
    (l_13 : K.lookup f_13 = some ⟨oc_13, od_13, .func (PySem.W.fnOf "_law_bounds_right" "_law_bounds_right" (C8.fnArgs s__law_bounds_right) (C8.fnBody s__law_bounds_right) (C8.fnScope s__law_bounds_right) .none kV_13 dc_13 pm_13 an_13 cd_13 ct_13), sl_13⟩)
    (c_13 : PySem.W.codeIn K cd_13 "_law_bounds_right" = true)
    (k_13 : PySem.W.keepIn K (.ref f_13) = true)
    (a_14 : PySem.W.nsIn K mainGlobals "_law_rows_right" = some (some (.ref f_14)))
    (l_14 : K.lookup f_14 = some ⟨oc_14, od_14, .func (PySem.W.fnOf "_law_rows_right" "_law_rows_right" (C8.fnArgs s__law_rows_right) (C8.fnBody s__law_rows_right) (C8.fnScope s__law_rows_right) .none kV_14 dc_14 pm_14 an_14 cd_14 ct_14), sl_14⟩)
    (c_14 : PySem.W.codeIn K cd_14 "_law_rows_right" = true)
    (k_14 : PySem.W.keepIn K (.ref f_14) = true)
    (a_15 : PySem.W.nsIn K mainGlobals "_law_primes" = some (some (.ref f_15)))
    (l_15 : K.lookup f_15 = some ⟨oc_15, od_15, .func (PySem.W.fnOf "_law_primes" "_law_primes" (C8.fnArgs s__law_primes) (C8.fnBody s__law_primes) (C8.fnScope s__law_primes) .none kV_15 dc_15 pm_15 an_15 cd_15 ct_15), sl_15⟩)
    (c_15 : PySem.W.codeIn K cd_15 "_law_primes" = true)
    (k_15 : PySem.W.keepIn K (.ref f_15) = true)
    (a_16 : PySem.W.nsIn K mainGlobals "_law_signs_right" = some (some (.ref f_16)))
    (l_16 : K.lookup f_16 = some ⟨oc_16, od_16, .func (PySem.W.fnOf "_law_signs_right" "_law_signs_right" (C8.fnArgs s__law_signs_right) (C8.fnBody s__law_signs_right) (C8.fnScope s__law_signs_right) .none kV_16 dc_16 pm_16 an_16 cd_16 ct_16), sl_16⟩)
    (c_16 : PySem.W.codeIn K cd_16 "_law_signs_right" = true)
    (k_16 : PySem.W.keepIn K (.ref f_16) = true)
    (a_17 : PySem.W.nsIn K mainGlobals "_law_twice_right" = some (some (.ref f_17)))
    (l_17 : K.lookup f_17 = some ⟨oc_17, od_17, .func (PySem.W.fnOf "_law_twice_right" "_law_twice_right" (C8.fnArgs s__law_twice_right) (C8.fnBody s__law_twice_right) (C8.fnScope s__law_twice_right) .none kV_17 dc_17 pm_17 an_17 cd_17 ct_17), sl_17⟩)
    (c_17 : PySem.W.codeIn K cd_17 "_law_twice_right" = true)
    (k_17 : PySem.W.keepIn K (.ref f_17) = true)
    (a_18 : PySem.W.nsIn K mainGlobals "law" = some (some (.ref f_18)))
    (l_18 : K.lookup f_18 = some ⟨oc_18, od_18, .func (PySem.W.fnOf "law" "law" (C8.fnArgs s_law) (C8.fnBody s_law) (C8.fnScope s_law) .none kV_18 dc_18 pm_18 an_18 cd_18 ct_18), sl_18⟩)
    (c_18 : PySem.W.codeIn K cd_18 "law" = true)
    (k_18 : PySem.W.keepIn K (.ref f_18) = true)
    (gP : PySem.W.nsIn K mainGlobals "PRIMES" = some (some (.ref pr)))
    (pL : K.lookup pr = some po)
    (pC : po.cls = .type "tuple")
    (pD : po.data = .seq its pn)
    (pV : valsInt its.toList = some primes) :
    ∃ fd : FuncData, (∀ (s : Shared) (v : Value), BindsTo s fd ⟨[v], []⟩ [("script", v)]) ∧ ∀ base : Heap, K.In base → base.Ns mainGlobals mg → FnG l.prog w K mg base 7 fa fd ["script"] (spLaw K) := by
  have T : Txt K mg := ⟨PySem.W.mg_none_of X G z_abs, PySem.W.mg_none_of X G z_all, PySem.W.mg_none_of X G z_bool, PySem.W.mg_none_of X G z_enumerate, PySem.W.mg_none_of X G z_int, PySem.W.mg_none_of X G z_isinstance, PySem.W.mg_none_of X G z_len, PySem.W.mg_none_of X G z_list, PySem.W.mg_none_of X G z_range, PySem.W.mg_none_of X G z_repr, PySem.W.mg_none_of X G z_set, PySem.W.mg_none_of X G z_tuple⟩
  have D_0 : DefK K mg "fixed" s_fixed P_fixed := defK_mk X G a_0 l_0 c_0 k_0 fun _ _ _ _ _ _ us hl => match us, hl with | [_], _ => rfl
  have D_1 : DefK K mg "is_integer" s_is_integer P_is_integer := defK_mk X G a_1 l_1 c_1 k_1 fun _ _ _ _ _ _ us hl => match us, hl with | [_], _ => rfl
  have D_2 : DefK K mg "is_within" s_is_within P_is_within := defK_mk X G a_2 l_2 c_2 k_2 fun _ _ _ _ _ _ us hl => match us, hl with | [_, _, _], _ => rfl
  have D_3 : DefK K mg "is_list" s_is_list P_is_list := defK_mk X G a_3 l_3 c_3 k_3 fun _ _ _ _ _ _ us hl => match us, hl with | [_], _ => rfl
  have D_4 : DefK K mg "is_numbers" s_is_numbers P_is_numbers := defK_mk X G a_4 l_4 c_4 k_4 fun _ _ _ _ _ _ us hl => match us, hl with | [_], _ => rfl
  have D_5 : DefK K mg "is_prime" s_is_prime P_is_prime := defK_mk X G a_5 l_5 c_5 k_5 fun _ _ _ _ _ _ us hl => match us, hl with | [_], _ => rfl
  have D_6 : DefK K mg "is_sign" s_is_sign P_is_sign := defK_mk X G a_6 l_6 c_6 k_6 fun _ _ _ _ _ _ us hl => match us, hl with | [_, _], _ => rfl
  have D_7 : DefK K mg "flat" s_flat P_flat := defK_mk X G a_7 l_7 c_7 k_7 fun _ _ _ _ _ _ us hl => match us, hl with | [_], _ => rfl
  have D_8 : DefK K mg "first_twice" s_first_twice P_first_twice := defK_mk X G a_8 l_8 c_8 k_8 fun _ _ _ _ _ _ us hl => match us, hl with | [_], _ => rfl
  have D_9 : DefK K mg "_law_well" s__law_well P__law_well := defK_mk X G a_9 l_9 c_9 k_9 fun _ _ _ _ _ _ us hl => match us, hl with | [_], _ => rfl
  have D_10 : DefK K mg "_law_pail" s__law_pail P__law_pail := defK_mk X G a_10 l_10 c_10 k_10 fun _ _ _ _ _ _ us hl => match us, hl with | [_, _], _ => rfl
  have D_11 : DefK K mg "_law_of" s__law_of P__law_of := defK_mk X G a_11 l_11 c_11 k_11 fun _ _ _ _ _ _ us hl => match us, hl with | [_, _], _ => rfl
  have D_12 : DefK K mg "_law_odd" s__law_odd P__law_odd := defK_mk X G a_12 l_12 c_12 k_12 fun _ _ _ _ _ _ us hl => match us, hl with | [_], _ => rfl
  have D_13 : DefK K mg "_law_bounds_right" s__law_bounds_right P__law_bounds_right := defK_mk X G a_13 l_13 c_13 k_13 fun _ _ _ _ _ _ us hl => match us, hl with | [_], _ => rfl
  have D_14 : DefK K mg "_law_rows_right" s__law_rows_right P__law_rows_right := defK_mk X G a_14 l_14 c_14 k_14 fun _ _ _ _ _ _ us hl => match us, hl with | [_], _ => rfl
  have D_15 : DefK K mg "_law_primes" s__law_primes P__law_primes := defK_mk X G a_15 l_15 c_15 k_15 fun _ _ _ _ _ _ us hl => match us, hl with | [], _ => rfl
  have D_16 : DefK K mg "_law_signs_right" s__law_signs_right P__law_signs_right := defK_mk X G a_16 l_16 c_16 k_16 fun _ _ _ _ _ _ us hl => match us, hl with | [_], _ => rfl
  have D_17 : DefK K mg "_law_twice_right" s__law_twice_right P__law_twice_right := defK_mk X G a_17 l_17 c_17 k_17 fun _ _ _ _ _ _ us hl => match us, hl with | [_], _ => rfl
  have PR : PrimesC K mg pr := ⟨PySem.W.mg_of X G gP, fun H => .inr ⟨po, its, pn, pL, pC, pD, by
    have z := (valsInt_vals pV).length
    rw [List.length_map] at z
    exact Nat.le_trans (Nat.le_of_eq (show its.size = 25 from z.symm)) (by decide), valsInt_vals pV⟩⟩
  have FL : C8.Fun K "law" "law" s_law f_18 _ := ⟨_, _, _, _, _, _, _, _, _, _, rfl, l_18, c_18⟩
  have hl : fa = f_18 := by
    have z := PySem.W.mg_of X G a_18
    rw [hfa] at z
    cases z
    rfl
  subst hl
  refine ⟨fdN "law" s_law kV_18 dc_18 pm_18 an_18 cd_18 ct_18, fun s v => .of_eq rfl, fun base _ _ => ?_⟩
  have int_ := fun k => ok_is_integer (P := l.prog) (w := w) (base := base) (k := k) T D_1
  have within_ := fun k => ok_is_within (k := k + 1) T D_2 (int_ k).cal
  have list_ := fun k => ok_is_list (P := l.prog) (w := w) (base := base) (k := k) T D_3.b
  have nums_ := ok_is_numbers T D_4 (list_ 3) (int_ 3).cal
  have prime_ := fun k => ok_is_prime (k := k + 1) T PR D_5 (int_ k).cal
  have sign_ := ok_is_sign T D_6 (prime_ 2).cal (within_ 2).cal
  have flat_ := ok_flatN (P := l.prog) (w := w) (base := base) T D_7.b (list_ 0) 3
  have fixed_ := ok_fixN (P := l.prog) (w := w) (base := base) T D_0.b 3
  have twice_ := ok_first_twice T D_8 flat_ fixed_
  have well_ := ok__law_well (P := l.prog) (w := w) (base := base) (k := 0) T D_9.b
  have pail_ := fun k => ok__law_pail (P := l.prog) (w := w) (base := base) (k := k) T D_10.b
  have of_ := fun k => ok__law_of (k := k + 1) T D_11.b (pail_ k)
  have odd_ := ok__law_odd T D_12.b (of_ 2)
  have bounds_ := ok__law_bounds_right T D_13.b (of_ 3) (pail_ 4) odd_ (int_ 4) (within_ 3)
  have rows_ := ok__law_rows_right T D_14.b (pail_ 4) odd_ nums_
  have primes_ := ok__law_primes (P := l.prog) (w := w) (base := base) (k := 4) T D_15.b
  have FSf : C8.Fun K "_law_signs_right" "_law_signs_right" s__law_signs_right f_16 _ := ⟨_, _, _, _, _, _, _, _, _, _, rfl, l_16, c_16⟩
  have signs_ := ok__law_signs_right T PR FSf (of_ 3) (pail_ 4) odd_ primes_ (prime_ 3) sign_
  have rights_ := ok__law_twice_right T D_17.b (pail_ 4) twice_
  exact fn_law T FL well_ signs_ (C8.Fun.binds FSf rfl fun _ _ _ _ _ _ us hl => match us, hl with | [_], _ => rfl) (PySem.W.mg_of X G a_16) k_16 bounds_ rows_ rights_
theorem walk {l : PySem.W.OpenLaw} {q : Program} {loose : List Str} {XP : (Str → Option Value) → Heap → Prop} {YP : World → Heap → Prop} {d : DefRec} {K : Params → PySem.W.Frag} (hn : l.most = some 63) (hdf : d.params.defaults = []) (hY : ∀ (w : World) (h : Heap), YP w h → (K w.params).In h)
    (F : ∀ (w : World) (mg : Str → Option Value) (fa : Addr) (h : Heap), (K w.params).In h → h.Ns mainGlobals mg → mg d.name = some (.ref fa) →
      ∃ fd : FuncData, (∀ (s : Shared) (u : Value), BindsTo s fd ⟨[u], []⟩ [("script", u)]) ∧ ∀ base : Heap, (K w.params).In base → base.Ns mainGlobals mg → FnG l.prog w (K w.params) mg base 7 fa fd ["script"] (spLaw (K w.params))) :
    PySem.W.WalkO q loose XP YP l.row.toRowW d [] (fun f vs => PySem.call f vs) :=
  walkG (n := 63) (k := 7) (x := "script") (sp := fun w => spLaw (K w.params)) hn (by decide) hdf ⟨rfl, by decide, by decide⟩ hY F fun _ _ a ns hl _ hS => ⟨a, ns, rfl, hS, hl, fun _ => rfl⟩
end My
open PySem PySem.W PyProof.Rows
set_option maxRecDepth 100000 in
set_option maxHeartbeats 0 in
theorem PySem.Challenge.cw_allnear_k01_checks_of_any_value_holds : PySem.Challenge.rw_allnear_k01_checks_of_any_value.Holds := by
  w_on; o_law; k_head; (case hw => w_witness2)
  k_fill
  refine My.walk (l := PySem.Challenge.rw_allnear_k01_checks_of_any_value) rfl rfl (fun w h Y => PySem.W.kIn_of Y) ?F
  case F =>
    intro w mg fa h KX G hmg
    refine' My.all_mk KX G hmg ?z_abs ?z_all ?z_bool ?z_enumerate ?z_int ?z_isinstance ?z_len ?z_list ?z_range ?z_repr ?z_set ?z_tuple ?a_0 ?l_0 ?c_0 ?k_0 ?a_1 ?l_1 ?c_1 ?k_1 ?a_2 ?l_2 ?c_2 ?k_2 ?a_3 ?l_3 ?c_3 ?k_3 ?a_4 ?l_4 ?c_4 ?k_4 ?a_5 ?l_5 ?c_5 ?k_5 ?a_6 ?l_6 ?c_6 ?k_6 ?a_7 ?l_7 ?c_7 ?k_7 ?a_8 ?l_8 ?c_8 ?k_8 ?a_9 ?l_9 ?c_9 ?k_9 ?a_10 ?l_10 ?c_10 ?k_10 ?a_11 ?l_11 ?c_11 ?k_11 ?a_12 ?l_12 ?c_12 ?k_12 ?a_13 ?l_13 ?c_13 ?k_13 ?a_14 ?l_14 ?c_14 ?k_14 ?a_15 ?l_15 ?c_15 ?k_15 ?a_16 ?l_16 ?c_16 ?k_16 ?a_17 ?l_17 ?c_17 ?k_17 ?a_18 ?l_18 ?c_18 ?k_18 ?gP ?pL ?pC ?pD ?pV
    (case z_abs => k_is)
    (case z_all => k_is)
    (case z_bool => k_is)
    (case z_enumerate => k_is)
    (case z_int => k_is)
    (case z_isinstance => k_is)
    (case z_len => k_is)
    (case z_list => k_is)
    (case z_range => k_is)
    (case z_repr => k_is)
    (case z_set => k_is)
    (case z_tuple => k_is)
    (case a_0 => k_is)
    (case l_0 => k_is)
    (case c_0 => k_is)
    (case k_0 => k_is)
    (case a_1 => k_is)
    (case l_1 => k_is)
    (case c_1 => k_is)
    (case k_1 => k_is)
    (case a_2 => k_is)
    (case l_2 => k_is)
    (case c_2 => k_is)
    (case k_2 => k_is)
    (case a_3 => k_is)
    (case l_3 => k_is)
    (case c_3 => k_is)
    (case k_3 => k_is)
    (case a_4 => k_is)
    (case l_4 => k_is)
    (case c_4 => k_is)
    (case k_4 => k_is)
    (case a_5 => k_is)
    (case l_5 => k_is)
    (case c_5 => k_is)
    (case k_5 => k_is)
    (case a_6 => k_is)
    (case l_6 => k_is)
    (case c_6 => k_is)
    (case k_6 => k_is)
    (case a_7 => k_is)
    (case l_7 => k_is)
    (case c_7 => k_is)
    (case k_7 => k_is)
    (case a_8 => k_is)
    (case l_8 => k_is)
    (case c_8 => k_is)
    (case k_8 => k_is)
    (case a_9 => k_is)
    (case l_9 => k_is)
    (case c_9 => k_is)
    (case k_9 => k_is)
    (case a_10 => k_is)
    (case l_10 => k_is)
    (case c_10 => k_is)
    (case k_10 => k_is)
    (case a_11 => k_is)
    (case l_11 => k_is)
    (case c_11 => k_is)
    (case k_11 => k_is)
    (case a_12 => k_is)
    (case l_12 => k_is)
    (case c_12 => k_is)
    (case k_12 => k_is)
    (case a_13 => k_is)
    (case l_13 => k_is)
    (case c_13 => k_is)
    (case k_13 => k_is)
    (case a_14 => k_is)
    (case l_14 => k_is)
    (case c_14 => k_is)
    (case k_14 => k_is)
    (case a_15 => k_is)
    (case l_15 => k_is)
    (case c_15 => k_is)
    (case k_15 => k_is)
    (case a_16 => k_is)
    (case l_16 => k_is)
    (case c_16 => k_is)
    (case k_16 => k_is)
    (case a_17 => k_is)
    (case l_17 => k_is)
    (case c_17 => k_is)
    (case k_17 => k_is)
    (case a_18 => k_is)
    (case l_18 => k_is)
    (case c_18 => k_is)
    (case k_18 => k_is)
    (case gP => k_is)
    (case pL => k_is)
    (case pC => rfl)
    (case pD => rfl)
    (case pV => rfl)

