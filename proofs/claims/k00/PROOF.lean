import PyProof.Rows.All
import Wide.All
import OpenK.AllK
import Wide.FinOn
import HandS.ForMost
import HandS.Codes
import HandS.Wide
import HandS.EndBits
import HandS.IsInst
import HandS.Style
import HandS.Star
import HandS.Defaults
import KE.KExcIs
import KE.KIsAll
import HandS.Exc
import HandS.ExcInit
import HandS.ExcField
import HandS.ExcIs
import HandS.DeepEq
import HandS.ExcValue
import HandS.OwnEq
import HandS.DictComp
import PyProof.InstNe
import PyProof.Rows.PlainNe
import PySem.Challenge.RW_allnear_k00_errors_keep_their_fields
set_option Elab.async false
set_option linter.all false
set_option maxRecDepth 100000
/-! What all the laws' proofs share: the well that draws numbers out of the script. -/
namespace My
open PySem PySem.Spec PyProof.Rows L2
/-- all of H but what stands at p is kept -/
def Keep (p : Addr) (H H' : Hp) : Prop := ∀ b o, H b = some o → b ≠ p → H' b = some o
theorem Keep.refl {p : Addr} {H : Hp} : Keep p H H := fun _ _ h _ => h
theorem Keep.trans {p : Addr} {H H1 H2 : Hp} (a : Keep p H H1) (b : Keep p H1 H2) : Keep p H H2 := fun c o h n => b c o (a c o h n) n
theorem Keep.of {p : Addr} {H H' : Hp} (a : Same H H') : Keep p H H' := fun c o h _ => a c o h
theorem Keep.upd {p : Addr} {H H' : Hp} {u : HO} (a : Keep p H H') : Keep p H (upd H' p u) := fun c o h n => by
  rw [upd_ne n]
  exact a c o h n
theorem same_new {H : Hp} {p : Addr} (h : H p = none) (o : HO) : Same H (upd H p o) := fun b u q => by
  rw [upd_ne (ne_of_none q h)]
  exact q
theorem Same.keep {p : Addr} {H H1 H2 : Hp} (a : Same H H1) (b : Keep p H1 H2) (n : H p = none) : Same H H2 := fun c o h => b c o (a c o h) (ne_of_none h n)
/-- at p a well with its cells at c; n draws may still be made -/
def Well (H : Hp) (p c : Addr) (n : Nat) : Prop := ∃ (cells : List Int) (t r : Int), H p = some (.lst [.ref c, .int t, .int r]) ∧ H c = some (.lst (cells.map V.int)) ∧ cells.length ≤ 63 ∧ 0 ≤ t ∧ t + n ≤ 1000000
theorem Well.same {H H' : Hp} {p c : Addr} {n : Nat} (e : Same H H') (w : Well H p c n) : Well H' p c n := by
  obtain ⟨cells, t, r, h1, h2, h3⟩ := w
  exact ⟨cells, t, r, e _ _ h1, e _ _ h2, h3⟩
theorem Well.less {H : Hp} {p c : Addr} {n m : Nat} (h : m ≤ n) (w : Well H p c n) : Well H p c m := by
  obtain ⟨cells, t, r, h1, h2, h3, h4, h5⟩ := w
  exact ⟨cells, t, r, h1, h2, h3, h4, by omega⟩
theorem Well.ne {H : Hp} {p c : Addr} {n : Nat} (w : Well H p c n) : c ≠ p := by
  obtain ⟨cells, t, r, h1, h2, _⟩ := w
  intro e
  subst e
  rw [h1] at h2
  have e := Option.some.inj h2
  injection e with e
  cases cells with
  | nil => cases e
  | cons a b => injection e with e _; cases e
def spWell (K : PySem.W.Frag) : Sp := fun vs H Q _ => ∃ (a : Addr) (ns : List Int), vs = [.ref a] ∧ SqL K H a (ns.map V.int) ∧ ns.length ≤ 63 ∧
  ∀ (p c : Addr) (H' : Hp), H p = none → H c = none → Same H H' → Well H' p c 1000000 → Q (.ref p) H'
def spPail : Sp := fun vs H Q _ => ∃ (p c : Addr) (n : Nat) (m : Int), vs = [.ref p, .int m] ∧ Well H p c (n + 1) ∧ 0 < m ∧ m ≤ 10 ^ 40 ∧
  ∀ (z : Int) (H' : Hp), 0 ≤ z → z < m → Keep p H H' → Well H' p c n → Q (.int z) H'
def spOf (K : PySem.W.Frag) : Sp := fun vs H Q _ => ∃ (p c l : Addr) (n : Nat) (xs : List V), vs = [.ref p, .ref l] ∧ Well H p c (n + 1) ∧ SqL K H l xs ∧ l ≠ p ∧ 0 < xs.length ∧ xs.length ≤ 1000 ∧
  ∀ (v : V) (H' : Hp), v ∈ xs → Keep p H H' → Well H' p c n → Q v H'
/-- a def of the module that takes all its arguments -/
def DefB (K : PySem.W.Frag) (mg : Str → Option Value) (x : Str) (st : Stmt) (ps : List Str) : Prop := ∃ (f : Addr) (fd : FuncData), C8.Def K mg x st f fd ∧ Binds K fd ps []
section
variable {P : Program} {w : World} {K : PySem.W.Frag} {mg : Str → Option Value} {base : Heap}
theorem calB {x : Str} {st : Stmt} {N ps : List Str} {k : Nat} {sp : Sp} (D : DefB K mg x st ps) (S : FnScope N ps (C8.fnScope st)) (len : ∀ vs H Q E, sp vs H Q E → vs.length = ps.length)
    (hbody : ∀ (f : Addr) (cdv : Value) (A : Around) (outer : List Env) (s : Shared) (H : Hp) (vs : List V) (Q : VK) (E : XK), Room k (A.deeper (envOfC x (C8.fnScope st) s.heap.objs.size f cdv)) → sp vs H Q E →
      ∃ t, PSs (cxOf CX0 P w K mg base N x (C8.fnScope st) f cdv A outer s H E).nox (C8.fnBody st) t ∧ t { nx := fun _ H' => Q .non H', rt := Q } (start N vs) H) : C8.Cal P w K mg base (k + 1) x sp [] := by
  obtain ⟨f, fd, F, b⟩ := D
  exact C8.cal0 F b .nil S len (hbody f)
end
theorem lg_le {m : Int} (h : m ≤ 10 ^ 40) (h0 : 0 < m) : m.natAbs.log2 < 9000 := by
  have : m.natAbs < 2 ^ 200 := Nat.lt_of_le_of_lt (by omega : m.natAbs ≤ 10 ^ 40) (by decide)
  exact Nat.lt_of_lt_of_le (PySem.Flt.log2_lt_of (by decide) this) (by decide)
theorem Keep.seqL {K : PySem.W.Frag} {p l : Addr} {H H' : Hp} {xs : List V} (e : Keep p H H') (h : SqL K H l xs) (n : l ≠ p) : SqL K H' l xs := by
  rcases h with (h | ⟨o, h⟩) | h
  · exact .inl (.inl (e _ _ h n))
  · exact .inl (.inr ⟨o, e _ _ h n⟩)
  · exact .inr h
theorem Keep.seqT {K : PySem.W.Frag} {p l : Addr} {H H' : Hp} {xs : List V} (e : Keep p H H') (h : SqT K H l xs) (n : l ≠ p) : SqT K H' l xs := by
  rcases h with (h | ⟨o, h⟩) | h
  · exact .inl (.inl (e _ _ h n))
  · exact .inl (.inr ⟨o, e _ _ h n⟩)
  · exact .inr h
theorem at_int {xs : List V} {z : Int} (h0 : 0 ≤ z) (h : z < (xs.length : Int)) : ∃ v, atI xs z = some v ∧ v ∈ xs := by
  have hk : z.toNat < xs.length := by omega
  have e : ((z.toNat : Nat) : Int) = z := by omega
  have q := atI_nat (xs := xs) (j := z.toNat) (v := xs[z.toNat]) (by simp [hk])
  rw [e] at q
  exact ⟨_, q, List.getElem_mem hk⟩
theorem dp_ints {K : PySem.W.Frag} {H : Hp} : ∀ ns : List Int, DpAll K H (ns.map V.int) (ns.map PyData.int)
  | [] => .nil
  | n :: r => .cons (.int n) (dp_ints r)
theorem ints_lay : ∀ ns : List Int, PyData.canLayAll0 (ns.map PyData.int) = true
  | [] => by simp [PyData.canLayAll0]
  | n :: r => by simp [PyData.canLayAll0, PyData.canLay0, ints_lay r]
theorem ints_depth : ∀ ns : List Int, PyData.depthAll (ns.map PyData.int) = 0
  | [] => by simp [PyData.depthAll]
  | n :: r => by simp [PyData.depthAll, PyData.depth, ints_depth r]
theorem shaped_by {d : PyData} (h : d.canLay0 = true) (h2 : d.depth ≤ 64) : SeqAt.shaped d = true := by
  show (d.canLay0 && decide (d.depth ≤ 64)) = true
  rw [Bool.and_eq_true]
  exact ⟨h, decide_eq_true h2⟩
theorem ints_shapedL (ns : List Int) : SeqAt.shaped (.list (ns.map PyData.int)) = true :=
  shaped_by (by simp only [PyData.canLay0]; exact ints_lay ns) (by simp only [PyData.depth, ints_depth]; omega)
theorem ints_shapedT (ns : List Int) : SeqAt.shaped (.tuple (ns.map PyData.int)) = true :=
  shaped_by (by simp only [PyData.canLay0]; exact ints_lay ns) (by simp only [PyData.depth, ints_depth]; omega)
theorem eqv_intsA : ∀ as bs : List Int, PyData.eqvAll (as.map PyData.int) (bs.map PyData.int) = decide (as = bs)
  | [], [] => by simp [PyData.eqvAll]
  | [], b :: bs => by simp [PyData.eqvAll]
  | a :: as, [] => by simp [PyData.eqvAll]
  | a :: as, b :: bs => by
    simp only [List.map_cons, PyData.eqvAll, PyData.eqv, eqv_intsA as bs]
    by_cases h : a = b
    · subst h
      simp
    · have e : (a == b) = false := beq_eq_false_iff_ne.mpr h
      rw [e, Bool.false_and]
      exact (decide_eq_false (fun z => h (List.cons.inj z).1)).symm
theorem eqv_intsL (as bs : List Int) : PyData.eqv (.list (as.map PyData.int)) (.list (bs.map PyData.int)) = decide (as = bs) := by
  simp only [PyData.eqv, eqv_intsA]
theorem eqv_intsT (as bs : List Int) : PyData.eqv (.tuple (as.map PyData.int)) (.tuple (bs.map PyData.int)) = decide (as = bs) := by
  simp only [PyData.eqv, eqv_intsA]
theorem pow_lt {a b : Nat} {i : Int} (h0 : 0 ≤ i) (h1 : i < b) : i.natAbs < b := by omega
theorem mix_lt {v t A B C : Int} (hA : 0 ≤ A ∧ A < 100000) (hB : 0 ≤ B ∧ B < 1000000) (hC : 0 ≤ C ∧ C < 1000000) (h0 : 0 ≤ v) (h1 : v ≤ 2147483647) (t0 : 0 ≤ t) (t1 : t ≤ 1000000) : (v * (2 * t + A) + B * t * t + C).natAbs < 2 ^ 64 := by
  have a1 : 0 ≤ v * (2 * t + A) := Int.mul_nonneg h0 (by omega)
  have a2 : v * (2 * t + A) ≤ 2147483647 * 2100000 := Int.le_trans (Int.mul_le_mul_of_nonneg_right h1 (by omega)) (Int.mul_le_mul_of_nonneg_left (by omega) (by decide))
  have b1 : 0 ≤ B * t := Int.mul_nonneg hB.1 t0
  have b2 : B * t ≤ 1000000 * 1000000 := Int.le_trans (Int.mul_le_mul_of_nonneg_right (Int.le_of_lt hB.2) t0) (Int.mul_le_mul_of_nonneg_left t1 (by decide))
  have c1 : 0 ≤ B * t * t := Int.mul_nonneg b1 t0
  have c2 : B * t * t ≤ 1000000 * 1000000 * 1000000 := Int.le_trans (Int.mul_le_mul_of_nonneg_right b2 t0) (Int.mul_le_mul_of_nonneg_left t1 (by decide))
  omega
theorem cut_ints {ns : List Int} {lo hi : Option Int} : ∃ cells : List Int, cutV (ns.map V.int) lo hi = cells.map V.int ∧ cells.length ≤ ns.length := by
  refine ⟨(ns.drop (HT.sIx (ns.map V.int).length 0 lo)).take (HT.sIx (ns.map V.int).length (ns.map V.int).length hi - HT.sIx (ns.map V.int).length 0 lo), ?_, ?_⟩
  · unfold cutV
    rw [← List.map_drop, ← List.map_take]
  · rw [List.length_take, List.length_drop]
    omega
theorem mem_cut_int {ns : List Int} {lo hi : Option Int} {y : V} (h : y ∈ cutV (ns.map V.int) lo hi) : ∃ z, y = V.int z := by
  obtain ⟨cells, e, _⟩ := cut_ints (ns := ns) (lo := lo) (hi := hi)
  rw [e] at h
  obtain ⟨z, _, rfl⟩ := List.mem_map.mp h
  exact ⟨z, rfl⟩
/-! ### comprehensions: P tells what is made so far; it does not hang on the list that grows (D) -/
theorem lc_acc {K : PySem.W.Frag} {a : Addr} {xs : List V} {g : TG} {tt : TT} {te : TE} {vs : List Nat} {σ : L2.St} {H1 : Hp} {D : Addr} {Qd : Hp → Prop} (P : Nat → List V → Hp → Prop) (hx : SqL K H1 a xs) (hD : H1 D = none) (hz : xs.length ≤ 100000)
    (mono : ∀ i acc H H', Keep D H H' → P i acc H → P i acc H') (h0 : P 0 [] H1)
    (hs : ∀ (i : Nat) (x : V) (acc : List V) (H : Hp) (Kc : V → Hp → Prop) (Nc : Hp → Prop), xs[i]? = some x → Same H1 H → H D = some (.lst acc) → P i acc H → (∀ y H4, Same H H4 → P (i + 1) (acc ++ [y]) H4 → Kc y H4) → (∀ H4, Same H H4 → P (i + 1) acc H4 → Nc H4) →
      g x (wipe σ vs) H fun σ2 H2 => wipe σ2 vs = wipe σ vs ∧ tt σ2 H2 fun b H3 => if b = true then te σ2 H3 Kc else Nc H3)
    (hd : ∀ acc H, Same H1 H → H D = some (.lst acc) → acc.length ≤ xs.length → P xs.length acc H → Qd H) :
    ∃ W : Nat → Nat → Hp → Prop, (∃ m, W 0 m (upd H1 D (.lst []))) ∧ ∀ i m H, W i m H →
      ((Itl K a).stop i H ∧ Qd H) ∨ ((Itl K a).go i H ∧ ∃ Nx : Hp → Prop, (∀ H', Nx H' → ∃ m', m' < m ∧ W (i + 1) m' H') ∧ ∀ x H', (Itl K a).yld i H x H' → g x (wipe σ vs) H' fun σ2 H2 => wipe σ2 vs = wipe σ vs ∧ tt σ2 H2 fun b H3 =>
        if b = true then te σ2 H3 fun y H4 => ∃ acc, H4 D = some (.lst acc) ∧ acc.length < sizeLine ∧ Nx (upd H4 D (.lst (acc ++ [y]))) else Nx H3) := by
  refine lc_list (K := K) (a := a) (xs := xs) (fun i H => ∃ acc, Same H1 H ∧ H D = some (.lst acc) ∧ acc.length ≤ i ∧ P i acc H) ⟨[], same_new hD _, upd_same, Nat.le_refl _, mono _ _ _ _ (Keep.of (same_new hD _)) h0⟩ (fun i H _ ⟨acc, e, _⟩ => e.seq hx) ?_ (fun H ⟨acc, e, h, hl, p⟩ => hd acc H e h hl p)
  rintro i x H hi ⟨acc, e, h, hl, p⟩
  have hil : i < xs.length := (List.getElem?_eq_some_iff.mp hi).1
  refine hs i x acc H _ _ hi e h p (fun y H4 e4 p4 => ?_) (fun H4 e4 p4 => ⟨acc, e.trans e4, e4 _ _ h, by omega, p4⟩)
  refine ⟨acc, e4 _ _ h, Nat.lt_of_lt_of_le (by omega : acc.length < 100000) (by decide), acc ++ [y], fun b o hb => ?_, upd_same, by rw [List.length_append, List.length_singleton]; omega, mono _ _ _ _ Keep.refl.upd p4⟩
  rw [upd_ne (ne_of_none hb hD)]
  exact e4 _ _ (e b o hb)
theorem same_seqT {K : PySem.W.Frag} {H H' : Hp} {a : Addr} {xs : List V} (e : Same H H') (h : SqT K H a xs) : SqT K H' a xs := by
  rcases h with (h | ⟨o, h⟩) | h
  · exact .inl (.inl (e _ _ h))
  · exact .inl (.inr ⟨o, e _ _ h⟩)
  · exact .inr h
theorem lc_accT {K : PySem.W.Frag} {a : Addr} {xs : List V} {g : TG} {tt : TT} {te : TE} {vs : List Nat} {σ : L2.St} {H1 : Hp} {D : Addr} {Qd : Hp → Prop} (P : Nat → List V → Hp → Prop) (hx : SqT K H1 a xs) (hD : H1 D = none) (hz : xs.length ≤ 100000)
    (mono : ∀ i acc H H', Keep D H H' → P i acc H → P i acc H') (h0 : P 0 [] H1)
    (hs : ∀ (i : Nat) (x : V) (acc : List V) (H : Hp) (Kc : V → Hp → Prop) (Nc : Hp → Prop), xs[i]? = some x → Same H1 H → H D = some (.lst acc) → P i acc H → (∀ y H4, Same H H4 → P (i + 1) (acc ++ [y]) H4 → Kc y H4) → (∀ H4, Same H H4 → P (i + 1) acc H4 → Nc H4) →
      g x (wipe σ vs) H fun σ2 H2 => wipe σ2 vs = wipe σ vs ∧ tt σ2 H2 fun b H3 => if b = true then te σ2 H3 Kc else Nc H3)
    (hd : ∀ acc H, Same H1 H → H D = some (.lst acc) → acc.length ≤ xs.length → P xs.length acc H → Qd H) :
    ∃ W : Nat → Nat → Hp → Prop, (∃ m, W 0 m (upd H1 D (.lst []))) ∧ ∀ i m H, W i m H →
      ((Itt K a).stop i H ∧ Qd H) ∨ ((Itt K a).go i H ∧ ∃ Nx : Hp → Prop, (∀ H', Nx H' → ∃ m', m' < m ∧ W (i + 1) m' H') ∧ ∀ x H', (Itt K a).yld i H x H' → g x (wipe σ vs) H' fun σ2 H2 => wipe σ2 vs = wipe σ vs ∧ tt σ2 H2 fun b H3 =>
        if b = true then te σ2 H3 fun y H4 => ∃ acc, H4 D = some (.lst acc) ∧ acc.length < sizeLine ∧ Nx (upd H4 D (.lst (acc ++ [y]))) else Nx H3) := by
  refine lc_tup (K := K) (a := a) (xs := xs) (fun i H => ∃ acc, Same H1 H ∧ H D = some (.lst acc) ∧ acc.length ≤ i ∧ P i acc H) ⟨[], same_new hD _, upd_same, Nat.le_refl _, mono _ _ _ _ (Keep.of (same_new hD _)) h0⟩ (fun i H _ ⟨acc, e, _⟩ => same_seqT e hx) ?_ (fun H ⟨acc, e, h, hl, p⟩ => hd acc H e h hl p)
  rintro i x H hi ⟨acc, e, h, hl, p⟩
  have hil : i < xs.length := (List.getElem?_eq_some_iff.mp hi).1
  refine hs i x acc H _ _ hi e h p (fun y H4 e4 p4 => ?_) (fun H4 e4 p4 => ⟨acc, e.trans e4, e4 _ _ h, by omega, p4⟩)
  refine ⟨acc, e4 _ _ h, Nat.lt_of_lt_of_le (by omega : acc.length < 100000) (by decide), acc ++ [y], fun b o hb => ?_, upd_same, by rw [List.length_append, List.length_singleton]; omega, mono _ _ _ _ Keep.refl.upd p4⟩
  rw [upd_ne (ne_of_none hb hD)]
  exact e4 _ _ (e b o hb)
/-- each item gives a value by itself, none is left out -/
theorem lc_map {K : PySem.W.Frag} {a : Addr} {xs : List V} {g : TG} {tt : TT} {te : TE} {vs : List Nat} {σ : L2.St} {H1 : Hp} {D : Addr} {Qd : Hp → Prop} (f : V → V) (hx : SqL K H1 a xs) (hD : H1 D = none) (hz : xs.length ≤ 100000)
    (hs : ∀ (i : Nat) (x : V) (H : Hp) (Kc : V → Hp → Prop) (Nc : Hp → Prop), xs[i]? = some x → Same H1 H → (∀ H4, Same H H4 → Kc (f x) H4) →
      g x (wipe σ vs) H fun σ2 H2 => wipe σ2 vs = wipe σ vs ∧ tt σ2 H2 fun b H3 => if b = true then te σ2 H3 Kc else Nc H3)
    (hd : ∀ H, Same H1 H → H D = some (.lst (xs.map f)) → Qd H) :
    ∃ W : Nat → Nat → Hp → Prop, (∃ m, W 0 m (upd H1 D (.lst []))) ∧ ∀ i m H, W i m H →
      ((Itl K a).stop i H ∧ Qd H) ∨ ((Itl K a).go i H ∧ ∃ Nx : Hp → Prop, (∀ H', Nx H' → ∃ m', m' < m ∧ W (i + 1) m' H') ∧ ∀ x H', (Itl K a).yld i H x H' → g x (wipe σ vs) H' fun σ2 H2 => wipe σ2 vs = wipe σ vs ∧ tt σ2 H2 fun b H3 =>
        if b = true then te σ2 H3 fun y H4 => ∃ acc, H4 D = some (.lst acc) ∧ acc.length < sizeLine ∧ Nx (upd H4 D (.lst (acc ++ [y]))) else Nx H3) := by
  refine lc_acc (K := K) (fun i acc _ => acc = (xs.take i).map f) hx hD hz (fun _ _ _ _ _ h => h) rfl (fun i x acc H Kc Nc hi e _ p h1 _ => hs i x H Kc Nc hi e fun H4 e4 => h1 _ H4 e4 ?_) (fun acc H e h _ p => hd H e (by rw [h, p, List.take_length]))
  rw [p]
  have hil : i < xs.length := (List.getElem?_eq_some_iff.mp hi).1
  have ex : xs[i] = x := (List.getElem?_eq_some_iff.mp hi).2
  rw [List.take_succ_eq_append_getElem hil, List.map_append, ex]
  rfl
/-- for i, x in enumerate(a list) -/
theorem for_enumL {K : PySem.W.Frag} {a : Addr} {xs : List V} {g : TG} {tb : TS} {D : Ends} {σ : L2.St} {H : Hp} (Pv : Nat → L2.St → Hp → Prop) (h0 : Pv 0 σ H) (hl : ∀ i σ H, i ≤ xs.length → Pv i σ H → SqL K H a xs)
    (hs : ∀ (i : Nat) (x : V) (T : Addr) (σ : L2.St) (H : Hp), xs[i]? = some x → H T = none → Pv i σ H → g (.ref T) σ (upd H T (.tup [.int (i : Nat), x])) fun σ2 H2 => tb { D with nx := Pv (i + 1), ct := Pv (i + 1), bk := D.nx } σ2 H2) (hd : ∀ σ H, Pv xs.length σ H → D.nx σ H) :
    ∃ W : Nat → Nat → L2.St → Hp → Prop, (∃ m, W 0 m σ H) ∧ ∀ i m σ H, W i m σ H →
      ((Ite K a).stop i H ∧ D.nx σ H) ∨ ((Ite K a).go i H ∧ ∃ N : L2.St → Hp → Prop, (∀ σ' H', N σ' H' → ∃ m', m' < m ∧ W (i + 1) m' σ' H') ∧ ∀ x H', (Ite K a).yld i H x H' → g x σ H' fun σ2 H2 => tb { D with nx := N, ct := N, bk := D.nx } σ2 H2) := by
  refine ⟨fun i m σ H => m = xs.length - i ∧ i ≤ xs.length ∧ Pv i σ H, ⟨_, rfl, Nat.zero_le _, h0⟩, fun i m σ1 H1 h => ?_⟩
  obtain ⟨em, hi, p⟩ := h
  have seq := hl i σ1 H1 hi p
  by_cases lt : i < xs.length
  · refine .inr ⟨⟨xs, xs[i], seq, by simp [lt]⟩, Pv (i + 1), fun σ2 H2 p2 => ⟨xs.length - (i + 1), by omega, rfl, lt, p2⟩, fun v H2 y => ?_⟩
    obtain ⟨T, x, ev, nT, eH, hx⟩ := y
    subst ev eH
    exact hs i x T σ1 H1 (hx xs seq) nT p
  · have e : i = xs.length := by omega
    subst e
    exact .inl ⟨⟨xs, seq, Nat.le_refl _⟩, hd σ1 H1 p⟩
/-- over a range: no item is left out, the value of the i-th is told by R -/
theorem lc_accR {lo : Int} {n : Nat} {g : TG} {tt : TT} {te : TE} {vs : List Nat} {σ : L2.St} {H1 : Hp} {D : Addr} {Qd : Hp → Prop} (P : Nat → List V → Hp → Prop) (hD : H1 D = none) (hz : n ≤ 100000)
    (mono : ∀ i acc H H', Keep D H H' → P i acc H → P i acc H') (h0 : P 0 [] H1)
    (hs : ∀ (i : Nat) (acc : List V) (H : Hp) (Kc : V → Hp → Prop) (Nc : Hp → Prop), i < n → Same H1 H → H D = some (.lst acc) → P i acc H → (∀ y H4, Same H H4 → P (i + 1) (acc ++ [y]) H4 → Kc y H4) → (∀ H4, Same H H4 → P (i + 1) acc H4 → Nc H4) →
      g (.int (lo + i)) (wipe σ vs) H fun σ2 H2 => wipe σ2 vs = wipe σ vs ∧ tt σ2 H2 fun b H3 => if b = true then te σ2 H3 Kc else Nc H3)
    (hd : ∀ acc H, Same H1 H → H D = some (.lst acc) → acc.length ≤ n → P n acc H → Qd H) :
    ∃ W : Nat → Nat → Hp → Prop, (∃ m, W 0 m (upd H1 D (.lst []))) ∧ ∀ i m H, W i m H →
      ((Itr lo n).stop i H ∧ Qd H) ∨ ((Itr lo n).go i H ∧ ∃ Nx : Hp → Prop, (∀ H', Nx H' → ∃ m', m' < m ∧ W (i + 1) m' H') ∧ ∀ x H', (Itr lo n).yld i H x H' → g x (wipe σ vs) H' fun σ2 H2 => wipe σ2 vs = wipe σ vs ∧ tt σ2 H2 fun b H3 =>
        if b = true then te σ2 H3 fun y H4 => ∃ acc, H4 D = some (.lst acc) ∧ acc.length < sizeLine ∧ Nx (upd H4 D (.lst (acc ++ [y]))) else Nx H3) := by
  refine lc_range (lo := lo) (n := n) (fun i H => ∃ acc, Same H1 H ∧ H D = some (.lst acc) ∧ acc.length ≤ i ∧ P i acc H) ⟨[], same_new hD _, upd_same, Nat.le_refl _, mono _ _ _ _ (Keep.of (same_new hD _)) h0⟩ ?_ (fun H ⟨acc, e, h, hl, p⟩ => hd acc H e h hl p)
  rintro i H hi ⟨acc, e, h, hl, p⟩
  refine hs i acc H _ _ hi e h p (fun y H4 e4 p4 => ?_) (fun H4 e4 p4 => ⟨acc, e.trans e4, e4 _ _ h, by omega, p4⟩)
  refine ⟨acc, e4 _ _ h, Nat.lt_of_lt_of_le (by omega : acc.length < 100000) (by decide), acc ++ [y], fun b o hb => ?_, upd_same, by rw [List.length_append, List.length_singleton]; omega, mono _ _ _ _ Keep.refl.upd p4⟩
  rw [upd_ne (ne_of_none hb hD)]
  exact e4 _ _ (e b o hb)
end My


set_option Elab.async false
set_option linter.all false
set_option maxRecDepth 100000
set_option maxHeartbeats 2000000
/-! Exceptions of own classes as values: made, their fields read, asked by isinstance. -/
namespace My
open PySem PySem.Spec PyProof.Rows L2
/-- what stands at a: an exception of the class at C whose fields are fs -/
def ErrAt (H : Hp) (a C : Addr) (fs : List (Str × V)) : Prop := ∃ d, H a = some (exo a C (some d)) ∧ H d = some (exd d fs)
theorem ErrAt.same {H H' : Hp} {a C : Addr} {fs : List (Str × V)} (e : Same H H') (h : ErrAt H a C fs) : ErrAt H' a C fs := by
  obtain ⟨d, h1, h2⟩ := h
  exact ⟨d, e _ _ h1, e _ _ h2⟩
/-- what the written part says of an own exception class -/
structure ErrC (K : PySem.W.Frag) (C : Addr) : Prop where
  ox : OexC K C
  xf : XfC K C
  ec : ExcC K C
/-- C(e, ..) as a value, C's own __init__ keeping sp -/
def tMkV (C : Addr) (sp : Sp) (ta : TA) : TE := fun σ H Q => ta σ H fun vs H1 => vs.length ≤ 1000 ∧ ∀ a, H1 a = none → sp (.ref a :: vs) (upd H1 a (exo a C none)) (fun v H2 => v = .non ∧ Q (.ref a) H2) (fun _ _ _ => False)
section
variable {X : Cx} {e : Expr} {es : List Expr} {te : TE} {ta : TA} {p pos : Pos}
theorem run_err {pins : List (Addr × Obj)} {σ : L2.St} {H1 : Hp} {s1 : Shared} {Q : VK} {us : List Value} {vs : List V} {C fI : Addr} {k : Nat} {fd : FuncData} {ps : List Str} {sp : Sp} (T : OexC X.K C) (iC : PySem.W.findIn X.K (.ref C) "__init__" = some (some (.ref fI)))
    (tI : PySem.W.typeIn X.K (.ref fI) = some (.type "function")) (F1 : FnOk X.prog X.w X.K X.mg X.base CX0 k fI fd ps sp) (hr : Room (k + 1) X.A) (hb : Binds X.K fd ps []) (I1 : Inv X pins σ H1 s1) (r1 : Vals vs us) (hz : vs.length ≤ 1000)
    (q1 : ∀ a, H1 a = none → sp (.ref a :: vs) (upd H1 a (exo a C none)) (fun v H2 => v = .non ∧ Q (.ref a) H2) (fun _ _ _ => False)) :
    wpAny (model X.prog X.w) X.A (call (.ref C) us) (EP X pins σ Q) X.xe s1 := by
  obtain ⟨nm, q, N, bs, bm, sn, sub, ab, col, dd, k0, k1, k2, k3, k5, hC, hbm⟩ := T.cls
  obtain ⟨hp, g, dr, tk, os⟩ := s1
  have up1 : hp.objs.size ≤ hp.objs.size + 1 := Nat.le_succ _
  have free1 : H1 (hp.objs.size + 1) = none := I1.hok.fresh up1
  have want := q1 _ free1
  have stay : ∀ b o, hp.get? b = some o → ((hp.push (PySem.W.kdv_tup us)).push (PySem.HandSPX.excO C hp.objs.size)).get? b = some o := fun b o e => Heap.get?_push_of_some _ (Heap.get?_push_of_some _ e)
  have there : ((hp.push (PySem.W.kdv_tup us)).push (PySem.HandSPX.excO C hp.objs.size)).get? (hp.objs.size + 1) = some (PySem.HandSPX.excO C hp.objs.size) := by heap_get
  have I2 : Inv X pins σ (upd H1 (hp.objs.size + 1) (exo (hp.objs.size + 1) C none)) ⟨(hp.push (PySem.W.kdv_tup us)).push (PySem.HandSPX.excO C hp.objs.size), g, dr, tk, os⟩ := I1.laid (t' := tk) stay up1 (exo_ok there)
  have r2 : Vals (V.ref (hp.objs.size + 1) :: vs) (Value.ref (hp.objs.size + 1) :: us) := .cons rfl r1
  have many : (Value.ref (hp.objs.size + 1) :: us).length = ps.length := by rw [← r2.length, F1.len _ _ _ _ want]
  have few : us.length ≤ sizeLine := by
    rw [← Paired.length r1]
    exact Nat.le_trans hz (by decide)
  have hb2 := hb _ (Value.ref (hp.objs.size + 1) :: us) I2.kIn (by rw [List.append_nil]; exact many)
  rw [List.append_nil] at hb2
  refine wpAny_call (PySem.HandSPX.call_own F.excBase_ValueError (fun Y => PySem.HandSPX.refsVE_contains Y bm hbm) (I1.kIn _ _ hC) (PySem.W.looks_findIn I1.kIn iC) (fun self => PySem.W.bind_fn I1.kIn self tI) few ?_)
  refine codeAny_mono (F1.run _ X.stack _ _ ⟨Value.ref (hp.objs.size + 1) :: us, []⟩ _ _ _ (fun _ _ _ => False) (hr.make C us []) (I2.env0.make C us []) hb2 r2 want) fun r s' back => ?_
  cases r with
  | error er => exact False.elim back
  | ok fl =>
    cases fl with
    | ret u =>
      obtain ⟨v, H2, J, rv, ev, q3⟩ := I2.after back
      subst ev
      exact ⟨rv, V.ref (hp.objs.size + 1), H2, J, rfl, q3⟩
    | next => exact False.elim back
    | brk => exact False.elim back
    | cont => exact False.elim back
theorem pe_err {x : Str} {C fI : Addr} {k j : Nat} {fd : FuncData} {ps : List Str} {sp : Sp} (T : OexC X.K C) (iC : PySem.W.findIn X.K (.ref C) "__init__" = some (some (.ref fI))) (tI : PySem.W.typeIn X.K (.ref fI) = some (.type "function"))
    (F1 : FnOk X.prog X.w X.K X.mg X.base CX0 k fI fd ps sp) (hr : Room j X.A) (hj : k + 1 ≤ j) (hb : Binds X.K fd ps []) (hg : Gl X x) (hm : X.mg x = some (.ref C)) (ha : PA X (e :: es) ta)
    (hdb : (x == ("__debug__" : Str)) = false := by decide) (he : starEach (e :: es) X.env = (false, eval e X.env) :: starEach es X.env := by rfl) (hpl : (backTo pos (starEach es X.env)).any (·.1) = false := by rfl) :
    PE X (.Call (.Name x p) (e :: es) [] pos) (tMkV C sp ta) := by
  refine ⟨fun pins s σ H Q I h => ?_⟩
  refine wpAny_Call_Name_kw (ld_glob I hg hm ?_ hdb)
  refine PySem.W.callWith_K (h₀ := X.base) I.ok.mod.kin T.kC (thn (ha.run pos pins s σ H _ I h) fun us s1 ⟨vs, H1, I1, r1, hz, q1⟩ => ⟨I1.kIn, ?_⟩) he hpl
  exact run_err T iC tI F1 (hr.mono hj) hb I1 r1 hz q1
/-- e.n of such a value -/
def tErrF (K : PySem.W.Frag) (n : Str) (te : TE) : TE := fun σ H Q => te σ H fun x H1 => ∃ (a C : Addr) (fs : List (Str × V)) (v : V), x = .ref a ∧ ErrAt H1 a C fs ∧ XfC K C ∧ PySem.W.findIn K (.ref C) n = some none ∧ fs.lookup n = some v ∧ Q v H1
theorem errAt_inst {pins : List (Addr × Obj)} {σ : L2.St} {H : Hp} {s : Shared} {a C : Addr} {fs : List (Str × V)} (I : Inv X pins σ H s) (h : ErrAt H a C fs) :
    ∃ (oe od : Obj) (mA : Str → Option Value), PySem.W.InstAt s.heap a oe C (some od) ∧ (∀ n, PySem.W.lookIn n od = some (mA n)) ∧ ∀ f, RelO (fs.lookup f) (mA f) := by
  obtain ⟨d, ha, hd⟩ := h
  obtain ⟨t1, ho⟩ := exo_at I.hok ha
  obtain ⟨mA, hns, rel⟩ := exd_at I.hok hd
  obtain ⟨od, hod, hl⟩ := lookIn_ns hns
  exact ⟨_, od, mA, ⟨ho, rfl, rfl, hod⟩, hl, rel⟩
theorem pe_errF {n : Str} (he : PE X e te) (hb : attributeBase e n X.env (eval e X.env) = eval e X.env := by rfl) : PE X (.Attribute e n pos) (tErrF X.K n te) := by
  refine ⟨fun pins s σ H Q I h => ?_⟩
  refine attr_of hb (thn (he.run pins s σ H _ I h) fun u s1 ⟨x, H1, I1, rx, a, C, fs, v, ex, ea, T, hno, l, q⟩ => ?_)
  subst ex
  obtain rfl : u = Value.ref a := rx
  obtain ⟨oe, od, mA, J, hl, rel⟩ := errAt_inst I1 ea
  obtain ⟨u, hu, ru⟩ := RelO.some_of (v := v) (o := mA n) (by rw [← l]; exact rel n)
  exact HandSPX.exc_get I1.kIn J T.ga T.gg T.exC (PySem.W.findObj_own T.hdC hno rfl (by rw [hl, hu])) (handed_of ru) ⟨v, H1, I1.tok _, ru, q⟩
/-- an exception of the class at C: with fields, or of a class without an __init__ of its own -/
def ErrO (H : Hp) (a C : Addr) : Prop := (∃ fs, ErrAt H a C fs) ∨ H a = some (ExO (.ref C) a)
theorem ErrO.same {H H' : Hp} {a C : Addr} (e : Same H H') (h : ErrO H a C) : ErrO H' a C := by
  rcases h with ⟨fs, h⟩ | h
  · exact .inl ⟨fs, h.same e⟩
  · exact .inr (e _ _ h)
theorem errO_inst {pins : List (Addr × Obj)} {σ : L2.St} {H : Hp} {s : Shared} {a C : Addr} (I : Inv X pins σ H s) (h : ErrO H a C) : ∃ (oe : Obj) (od : Option Obj), PySem.W.InstAt s.heap a oe C od := by
  rcases h with ⟨fs, h⟩ | h
  · obtain ⟨oe, od, _, J, _⟩ := errAt_inst I h
    exact ⟨oe, some od, J⟩
  · obtain ⟨⟨oe, vs, ho, hz, hd, _⟩, _, _⟩ := I.hok a _ h
    obtain ⟨oc, odc, oda, osl⟩ := oe
    obtain ⟨h1, h2⟩ := hz
    dsimp only at h1 h2 hd
    subst h1 h2 hd
    exact ⟨_, none, ho, rfl, rfl, trivial⟩
/-- isinstance(e, c), isinstance(e, (c, ..)) -/
def rIsV (K : PySem.W.Frag) : List V → Hp → VK → Prop := fun xs H Q => ∃ (a C : Addr) (c : V) (cv : Value) (b : Bool), xs = [.ref a, c] ∧ ErrO H a C ∧ ExcC K C ∧ ClsV c cv ∧ PySem.W.kitOne K (.ref C) cv = some b ∧ Q (.bl b) H
def rIsVT (K : PySem.W.Frag) : List V → Hp → VK → Prop := fun xs H Q => ∃ (a C tp : Addr) (cs : List V) (us : List Value) (b : Bool), xs = [.ref a, .ref tp] ∧ ErrO H a C ∧ ExcC K C ∧ H tp = some (.tup cs) ∧ Paired ClsV cs us ∧ PySem.W.kitAny K (.ref C) us = some b ∧ Q (.bl b) H
theorem err_kit {K : PySem.W.Frag} {a C : Addr} {od : Option Obj} {oe : Obj} (T : ExcC K C) : PySem.W.KitX K (.ref a) (.ref C) (fun h => PySem.W.InstAt h a oe C od) := by
  obtain ⟨cd, hc, _⟩ := PySem.W.any_some T.hd
  exact PySem.W.kitx_exc (by rw [hc]; rfl) T.hg T.hk T.hs T.ha T.hn T.ht T.hm
theorem call_isV : CallR X (.builtin "isinstance") (rIsV X.K) := by
  intro pins s σ H xs us Q I r h
  obtain ⟨a, C, c, cv, b, rfl, ea, T, hc, e, q⟩ := h
  obtain ⟨u1, u2, rfl, r1, r2⟩ := vals2 r
  cases r1
  have ec := hc.eq r2
  subst ec
  obtain ⟨oe, od, J⟩ := errO_inst I ea
  exact PySem.W.kia_one (err_kit T) I.kIn J e (fun z => nomatch z) fun tk => ⟨.bl b, H, I.tok tk, rfl, q⟩
theorem call_isVT : CallR X (.builtin "isinstance") (rIsVT X.K) := by
  intro pins s σ H xs us Q I r h
  obtain ⟨a, C, tp, cs, ws, b, rfl, ea, T, hT, k, e, q⟩ := h
  obtain ⟨u1, u2, rfl, r1, r2⟩ := vals2 r
  cases r1
  cases (show u2 = Value.ref tp from r2)
  obtain ⟨oe, od, J⟩ := errO_inst I ea
  obtain ⟨_, its, rv, o, h1, h2, n, h3⟩ := (show ObjOk X.prog X.w H s.heap tp (.tup cs) from I.hok tp _ hT)
  have e3 := ClsV.all k rv
  subst e3
  obtain ⟨oc, od', dt, sl⟩ := o
  simp only at h2 h3
  subst h2 h3
  exact PySem.W.kia_tup (err_kit T) I.kIn J h1 e (fun z => nomatch z) fun tk => ⟨.bl b, H, I.tok tk, rfl, q⟩
/-- C() of a class without an __init__ of its own -/
theorem pe_err0 {x : Str} {C : Addr} {bmB : List Value} {B newId initId : String} (F : ExcBaseFacts B newId initId bmB) (q : PySem.W.excIn X.K C bmB newId = true) (gC : X.mg x = some (.ref C)) (kC : PySem.W.keepIn X.K (.ref C) = true) (hg : Gl X x)
    (hdb : (x == ("__debug__" : Str)) = false := by decide) : PE X (.Call (.Name x p) [] [] pos) (fun _ H Q => ∀ a, H a = none → Q (.ref a) (upd H a (ExO (.ref C) a))) := by
  refine ⟨fun pins s σ H Q I h => ?_⟩
  refine wpAny_Call_Name_kw (ld_glob I hg gC ?_ hdb)
  refine PySem.W.callWith_K0 I.kIn kC ?_
  obtain ⟨bm, N, nm, qn, bs, hdct, sn, sub, ab, col, dd, k0, k1, k2, k3, k5, mN, hC, hN, hni, T⟩ := exc_obj I.kIn q
  refine wpAny_call_exc_subT F T hC hN hni (fun h' a hm => ?_) (by show 0 ≤ sizeLine; exact Nat.zero_le _)
  have free : H a = none := I.hok.gone hm.new
  obtain ⟨t, ht, _, _⟩ := hm.there
  exact ⟨.ref a, upd H a (ExO (.ref C) a), I.laidN hm.keeps hm.new free (exO_ok ht ⟨rfl, rfl⟩ rfl rfl rfl (show 4 < 6 by decide)), rfl, h a free⟩
/-- a != b of two lists of the very same things: False -/
def Selfy (v : V) : Prop := flatB v = true ∨ ∃ r, v = .ref r
def rNeS (K : PySem.W.Frag) : R2 := fun x y H Q => ∃ (a b : Addr) (vs : List V), x = .ref a ∧ y = .ref b ∧ SqL K H a vs ∧ SqL K H b vs ∧ (∀ v ∈ vs, Selfy v) ∧ Q (.bl false) H
theorem selfy_eq {A : Around} {s : Shared} {v : V} {u u' : Value} (h : Selfy v) (r : RelV v u) (r' : RelV v u') : SeqAt.EqAt A s u u' true := by
  rcases h with h | ⟨a, rfl⟩
  · exact eqAt_same r r' h
  · cases r
    cases r'
    exact SeqAt.EqAt.same _
theorem op_neS (hu : X.A.units + 64 < cLine) : OpR X (compareOp .NotEq) (rNeS X.K) := by
  intro pins s σ H x y v u Q I rx ry h
  obtain ⟨a, b, vs, rfl, rfl, ha, hb, hs, q⟩ := h
  cases rx
  cases ry
  obtain ⟨us, r1, p1, _⟩ := I.list ha
  obtain ⟨ws, r2, p2, _⟩ := I.list hb
  have size : us.toArray.size = ws.toArray.size := by
    rw [List.size_toArray, List.size_toArray, ← r1.length, ← r2.length]
  have each : ∀ j (j1 : j < us.toArray.size) (j2 : j < ws.toArray.size), SeqAt.EqAt X.A.in1 s us.toArray[j] ws.toArray[j] ((fun _ => true) j) := fun j j1 j2 => by
    have j0 : j < vs.length := by
      rw [r1.length]
      exact j1
    obtain ⟨u1, e1, k1⟩ := r1.get (i := j) (x := vs[j]) (by simp [j0])
    obtain ⟨u2, e2, k2⟩ := r2.get (i := j) (x := vs[j]) (by simp [j0])
    have f1 : us.toArray[j] = u1 := by
      have z := (List.getElem?_eq_some_iff.mp e1).2
      simpa using z
    have f2 : ws.toArray[j] = u2 := by
      have z := (List.getElem?_eq_some_iff.mp e2).2
      simpa using z
    rw [f1, f2]
    exact selfy_eq (hs _ (List.getElem_mem j0)) k1 k2
  have R := SeqAt.RcNeAt.lists (A := X.A) p1.isList p2.isList size (by omega) each
  have all1 : ((List.range us.toArray.size).all fun _ => true) = true := List.all_eq_true.mpr fun _ _ => rfl
  rw [all1] at R
  exact R X.prog X.w X.xe _ ⟨.bl false, H, I, rfl, q⟩
end
end My


set_option Elab.async false
set_option linter.all false
set_option maxRecDepth 100000
set_option maxHeartbeats 4000000
namespace My
open PySem PySem.HandSPX Builtin Builtin.ObjectAttr
section
variable {M : Model} {prog : Program} {w : World} {A : Around} {E : Value → Shared → Prop} {h : Heap} {g : Array GenState} {d : Drawn} {t : Nat} {os : OsState} {nm q : Str} {C N : Addr} {bs bm bmB : List Value} {hdct : Bool} {sn : List Str} {sub : List Value} {ab : Bool} {col : Option Bool} {dd : Option Addr}
  {k0 k1 k2 k3 k5 : Option Value} {B newId initId : String} {kw : List (Str × Value)}
theorem kw_check (F : ExcBaseFacts B newId initId bmB) (hT : ∀ X : String, bm.contains (.type X) = bmB.contains (.type X)) {Q : Unit → Shared → Prop}
    (hC : h.get? C = some (excClassObj nm q C N bs bm hdct sn sub ab col dd k0 k1 k2 k3 k5 newId)) (want : Q () ⟨h, g, d, t, os⟩) : wpAny M A (checkBuiltinCall newId ⟨[.ref C], kw⟩) Q E ⟨h, g, d, t, os⟩ := by
  have below : (Value.ref C :: bm).contains (.type B) = true := by
    rw [List.contains_cons, hT, F.hasB, Bool.or_true]
  have star := F.noStar
  simp only [checkBuiltinCall, F.newKind, F.newSplit, F.newRow]
  repeat (first
    | refine wpAny_loadPart_at hC ?_
    | (refine wpAny_isSubtype_exc hC ?_
       rw [below])
    | refine wpAny_staticBase_exc hC ?_
    | refine wpAny_madeBy_exc hC ?_
    | simp only [bne_self_eq_false, Bool.false_eq_true, if_false]
    | wp_step)
  exact want
theorem kw_new (F : ExcBaseFacts B newId initId bmB) (hT : ∀ X : String, bm.contains (.type X) = bmB.contains (.type X)) {R : Result → Shared → Prop} (hC : h.get? C = some (excClassObj nm q C N bs bm hdct sn sub ab col dd k0 k1 k2 k3 k5 newId))
    (want : R (.ok (.ret (.ref (h.objs.size + 1)))) ⟨(h.push (W.kdv_tup [])).push (excO C h.objs.size), g, d, t, os⟩) : codeAny (model prog w) A (.builtin newId ⟨[.ref C], kw⟩) R ⟨h, g, d, t, os⟩ := by
  have ends := F.ends
  have inB : (Value.ref C :: bm).contains (.type B) = true := by
    rw [List.contains_cons, hT, F.hasB, Bool.or_true]
  have notA : (Value.ref C :: bm).contains (.type "AttributeError") = false := by
    rw [List.contains_cons, hT, F.noAttr] <;> rfl
  have notN : (Value.ref C :: bm).contains (.type "NameError") = false := by
    rw [List.contains_cons, hT, F.noName] <;> rfl
  refine codeAny_builtinAt F.entry ?_
  unfold Builtin.«BaseException.__new__»
  refine wpAt_bind ?_
  show wpAt _ _ _ (stack >>= _) _ _ _
  refine wpAt_bind (wpAt_stack fun top under => wpAt_of_wpAny ?_)
  wp_walk
  refine wpAt_of_wpAny ?_
  rw [F.owner]
  repeat (first
    | with_reducible refine wpAny_madeHere_exc F.canon hC ?_
    | with_reducible refine wpAny_loadPart_at hC ?_
    | (with_reducible refine wpAny_isSubtype_exc hC ?_
       first | rw [inB] | rw [notA] | rw [notN])
    | wp_step)
  show R _ _
  rw [Heap.size_push]
  exact want
theorem kw_type_call (F : ExcBaseFacts B newId initId bmB) (hT : ∀ X : String, bm.contains (.type X) = bmB.contains (.type X)) {fI : Addr} {Q : Fin → Shared → Prop} (hC : h.get? C = some (excClassObj nm q C N bs bm hdct sn sub ab col dd k0 k1 k2 k3 k5 newId))
    (looks : W.Looks (model prog w) h (typeLookup (.ref C) "__init__") (some (.ref fI))) (bind : ∀ self, W.Looks (model prog w) h (bindSpecial (.ref fI) self) (.ref fI, [self]))
    (want : codeAny (model prog w) A (.call (.ref fI) ⟨[.ref (h.objs.size + 1)], kw⟩) (fun r s' => match r with | .ok (.ret v) => v = .none ∧ Q (.done (.ret (.ref (h.objs.size + 1)))) s' | .ok _ => False | .error e => E e s')
      ⟨(h.push (W.kdv_tup [])).push (excO C h.objs.size), g, d, t, os⟩) : wpAny (model prog w) A (Builtin.«type.__call__» ⟨[.ref C], kw⟩) Q E ⟨h, g, d, t, os⟩ := by
  repeat (first
    | with_reducible refine wpAny_loadPart_at hC ?_
    | with_reducible refine wpAny_madeBy_exc hC ?_
    | wp_step)
  refine codeAny_call_builtin_code (Code.quiet_builtin _ F.quiet) (kw_check F hT hC ?_)
  refine kw_new F hT hC ?_
  show wpAny _ _ _ _ _ _
  have stay : ∀ b o, h.get? b = some o → ((h.push (W.kdv_tup [])).push (excO C h.objs.size)).get? b = some o := fun b o e => Heap.get?_push_of_some _ (Heap.get?_push_of_some _ e)
  have cls1 := stay _ _ hC
  have made : ((h.push (W.kdv_tup [])).push (excO C h.objs.size)).get? (h.objs.size + 1) = some (excO C h.objs.size) := by heap_get
  have self0 : (Value.ref C :: bm).contains (.ref C) = true := by simp
  have looks1 := looks.keeps stay
  have bind1 := (bind (.ref (h.objs.size + 1))).keeps stay
  unfold isInstance
  repeat (first
    | with_reducible refine wpAny_loadPart_at made ?_
    | (with_reducible refine wpAny_isSubtype_exc cls1 ?_
       rw [self0])
    | wp_step)
  show wpAny _ _ (typeLookup (.ref C) _) _ _ _
  refine looks1.at ?_
  refine wpAny_holding (wpAny_bind (bind1.at ?_))
  refine wpAny_bind (wpAny_call (codeAny_mono want fun r s' z => ?_))
  cases r with
  | error e => exact z
  | ok fl =>
    cases fl with
    | ret v =>
      obtain ⟨ev, z⟩ := z
      subst ev
      first
        | exact wpAny_pure (wpAny_pure z)
        | (wp_walk
           exact z)
    | next => exact z.elim
    | brk => exact z.elim
    | cont => exact z.elim
theorem kw_call (F : ExcBaseFacts B newId initId bmB) (hT : ∀ X : String, bm.contains (.type X) = bmB.contains (.type X)) {fI : Addr} {R : Result → Shared → Prop} (hC : h.get? C = some (excClassObj nm q C N bs bm hdct sn sub ab col dd k0 k1 k2 k3 k5 newId))
    (looks : W.Looks (model prog w) h (typeLookup (.ref C) "__init__") (some (.ref fI))) (bind : ∀ self, W.Looks (model prog w) h (bindSpecial (.ref fI) self) (.ref fI, [self]))
    (want : codeAny (model prog w) (A.under (.builtin "type.__call__" ⟨[.ref C], kw⟩)) (.call (.ref fI) ⟨[.ref (h.objs.size + 1)], kw⟩) (W.InitBack (h.objs.size + 1) R) ⟨(h.push (W.kdv_tup [])).push (excO C h.objs.size), g, d, t, os⟩) :
    codeAny (model prog w) A (.call (.ref C) ⟨[], kw⟩) R ⟨h, g, d, t, os⟩ := by
  have look := tc_lookup
  have bound := tc_bind (.ref C)
  have meta0 : (⟨h, g, d, t, os⟩ : Shared).TypeIs (.ref C) "type" := ⟨_, hC, rfl⟩
  refine codeAny_of_tree ?_
  show wpAny _ _ (callAny (.ref C) _) _ _ _
  repeat (any_goals (first
    | assumption
    | with_reducible refine wpAny_loadPart_at hC ?_
    | wp_step))
  refine ⟨rfl, ?_⟩
  refine codeAny_call_builtin_at (Code.quiet_builtin _ (by decide +kernel)) entry_typeCall (wpAny_check_type_call_sub hC (kw_type_call F hT hC looks bind ?_))
  refine codeAny_mono want fun r s' z => ?_
  cases r with
  | error e => exact z
  | ok fl => cases fl <;> exact z
end
end My
namespace My
open PySem PySem.Spec PyProof.Rows L2
/-- C(k = v, ..) as a value, C's own __init__ keeping sp -/
def tMkVK (C : Addr) (m : Nat) (sp : Sp) (gV : List V → List V → List V) (tk : TA) : TE := fun σ H Q => tk σ H fun zs H2 => zs.length = m ∧ zs.length ≤ 1000 ∧ ∀ a, H2 a = none → sp (gV [.ref a] zs) (upd H2 a (exo a C none)) (fun v H3 => v = .non ∧ Q (.ref a) H3) (fun _ _ _ => False)
section
variable {X : Cx} {kws : List Keyword} {tk : TA} {p pos : Pos} {ks : List Str} {g : List Value → List Value → List Value} {gV : List V → List V → List V}
theorem run_errK {pins : List (Addr × Obj)} {σ : L2.St} {H2 : Hp} {s2 : Shared} {Q : VK} {ws : List Value} {zs : List V} {C fI : Addr} {k : Nat} {fd : FuncData} {ps : List Str} {sp : Sp} (T : OexC X.K C) (iC : PySem.W.findIn X.K (.ref C) "__init__" = some (some (.ref fI))) (tI : PySem.W.typeIn X.K (.ref fI) = some (.type "function"))
    (F1 : FnOk X.prog X.w X.K X.mg X.base CX0 k fI fd ps sp) (hr : Room (k + 1) X.A) (hb : KBn X.K fd ps 1 ks g gV) (I2 : Inv X pins σ H2 s2) (rz : Vals zs ws) (l2 : zs.length = ks.length)
    (q2 : ∀ a, H2 a = none → sp (gV [.ref a] zs) (upd H2 a (exo a C none)) (fun v H3 => v = .non ∧ Q (.ref a) H3) (fun _ _ _ => False)) : wpAny (model X.prog X.w) X.A (call (.ref C) [] (ks.zip ws)) (EP X pins σ Q) X.xe s2 := by
  obtain ⟨nm, q, N, bs, bm, sn, sub, ab, col, dd, k0, k1, k2, k3, k5, hC, hbm⟩ := T.cls
  obtain ⟨hp, g0, dr, t, os⟩ := s2
  have up1 : hp.objs.size ≤ hp.objs.size + 1 := Nat.le_succ _
  have free1 : H2 (hp.objs.size + 1) = none := I2.hok.fresh up1
  have want := q2 _ free1
  have stay : ∀ b o, hp.get? b = some o → ((hp.push (PySem.W.kdv_tup [])).push (PySem.HandSPX.excO C hp.objs.size)).get? b = some o := fun b o e => Heap.get?_push_of_some _ (Heap.get?_push_of_some _ e)
  have there : ((hp.push (PySem.W.kdv_tup [])).push (PySem.HandSPX.excO C hp.objs.size)).get? (hp.objs.size + 1) = some (PySem.HandSPX.excO C hp.objs.size) := by heap_get
  have J : Inv X pins σ (upd H2 (hp.objs.size + 1) (exo (hp.objs.size + 1) C none)) ⟨(hp.push (PySem.W.kdv_tup [])).push (PySem.HandSPX.excO C hp.objs.size), g0, dr, t, os⟩ := I2.laid (t' := t) stay up1 (exo_ok there)
  have r1 : Vals [V.ref (hp.objs.size + 1)] [Value.ref (hp.objs.size + 1)] := .cons rfl .nil
  have r2 := hb.rel r1 rz
  refine wpAny_call (kw_call F.excBase_ValueError (fun Y => PySem.HandSPX.refsVE_contains Y bm hbm) (I2.kIn _ _ hC) (PySem.W.looks_findIn I2.kIn iC) (fun self => PySem.W.bind_fn I2.kIn self tI) ?_)
  refine codeAny_mono (F1.run _ X.stack _ _ ⟨[Value.ref (hp.objs.size + 1)], ks.zip ws⟩ _ _ _ (fun _ _ _ => False) (hr.make C [] (ks.zip ws)) (J.env0.make C [] (ks.zip ws)) (hb.to _ [Value.ref (hp.objs.size + 1)] ws J.kIn rfl (rz.length.symm.trans l2)) r2 want) fun r s' back => ?_
  cases r with
  | error er => exact False.elim back
  | ok fl =>
    cases fl with
    | ret u =>
      obtain ⟨v, H3, J3, rv, ev, q3⟩ := J.after back
      subst ev
      exact ⟨rv, V.ref (hp.objs.size + 1), H3, J3, rfl, q3⟩
    | next => exact False.elim back
    | brk => exact False.elim back
    | cont => exact False.elim back
theorem pe_errK {x : Str} {C fI : Addr} {k j : Nat} {fd : FuncData} {ps : List Str} {sp : Sp} (T : OexC X.K C) (iC : PySem.W.findIn X.K (.ref C) "__init__" = some (some (.ref fI))) (tI : PySem.W.typeIn X.K (.ref fI) = some (.type "function"))
    (F1 : FnOk X.prog X.w X.K X.mg X.base CX0 k fI fd ps sp) (hr : Room j X.A) (hj : k + 1 ≤ j) (hb : KBn X.K fd ps 1 ks g gV) (hg : Gl X x) (hm : X.mg x = some (.ref C)) (hkw : PK X kws tk)
    (hall : (backToKw pos (keywordEach kws X.env)).all (·.1.isSome) = true := by rfl) (hks : (backToKw pos (keywordEach kws X.env)).filterMap (·.1) = ks := by rfl) (hdb : (x == ("__debug__" : Str)) = false := by decide)
    (hpl : ((backTo pos (starEach [] X.env)).any (·.1) || (backToKw pos (keywordEach kws X.env)).any (·.1.isNone)) = false := by rfl) : PE X (.Call (.Name x p) [] kws pos) (tMkVK C ks.length sp gV tk) := by
  refine ⟨fun pins s σ H Q I h => ?_⟩
  refine wpAny_Call_Name_kw (ld_glob I hg hm ?_ hdb)
  refine PySem.W.callWith_KW0 (h₀ := X.base) I.ok.mod.kin T.kC hall ?_ hpl
  refine thn (hkw.run pos pins s σ H _ I h) fun ws s2 ⟨zs, H2, I2, rz, l2, hz, q2⟩ => ⟨I2.kIn, ?_⟩
  rw [hks]
  exact run_errK T iC tI F1 (hr.mono hj) hb I2 rz l2 q2
end
end My


set_option Elab.async false
set_option linter.all false
set_option maxRecDepth 100000
set_option maxHeartbeats 2000000
/-! Own error classes: how they are made, of one field or two. -/
namespace My
open PySem PySem.Spec PyProof.Rows L2
/-- self.n = n in an __init__ of one field -/
def spInit1 (K : PySem.W.Frag) (n : Str) : Sp := fun vs H Q _ => ∃ (a C : Addr) (y : V), vs = [.ref a, y] ∧ OexC K C ∧ PySem.W.findIn K (.ref C) n = some none ∧ H a = some (exo a C none) ∧
  ∀ d, H d = none → d ≠ a → Q .non (upd (upd H d (exd d [(n, y)])) a (exo a C (some d)))
def spInit2 (K : PySem.W.Frag) (n m : Str) : Sp := fun vs H Q _ => ∃ (a C : Addr) (y z : V), vs = [.ref a, y, z] ∧ OexC K C ∧ PySem.W.findIn K (.ref C) n = some none ∧ PySem.W.findIn K (.ref C) m = some none ∧ H a = some (exo a C none) ∧
  ∀ d, H d = none → d ≠ a → Q .non (upd (upd (upd H d (exd d [(n, y)])) a (exo a C (some d))) d (exd d [(m, z), (n, y)]))
structure Mk1 (P : Program) (w : World) (K : PySem.W.Frag) (mg : Str → Option Value) (base : Heap) (k : Nat) (x : Str) (C : Addr) (n : Str) : Prop where
  ex : ∃ (fI : Addr) (fd : FuncData), PySem.W.findIn K (.ref C) "__init__" = some (some (.ref fI)) ∧ PySem.W.typeIn K (.ref fI) = some (.type "function") ∧ FnOk P w K mg base CX0 k fI fd ["self", n] (spInit1 K n) ∧ Binds K fd ["self", n] [] ∧
    KBn K fd ["self", n] 1 [n] (fun us ws => us ++ ws) (fun us ws => us ++ ws)
  er : ErrC K C
  no : PySem.W.findIn K (.ref C) n = some none
  mgC : mg x = some (.ref C)
structure Mk2 (P : Program) (w : World) (K : PySem.W.Frag) (mg : Str → Option Value) (base : Heap) (k : Nat) (x : Str) (C : Addr) (n m : Str) : Prop where
  ex : ∃ (fI : Addr) (fd : FuncData), PySem.W.findIn K (.ref C) "__init__" = some (some (.ref fI)) ∧ PySem.W.typeIn K (.ref fI) = some (.type "function") ∧ FnOk P w K mg base CX0 k fI fd ["self", n, m] (spInit2 K n m) ∧ Binds K fd ["self", n, m] [] ∧
    KBn K fd ["self", n, m] 1 [n, m] (fun us ws => us ++ ws) (fun us ws => us ++ ws) ∧ KBn K fd ["self", n, m] 1 [m, n] (fun us ws => us ++ ws.reverse) (fun us ws => us ++ ws.reverse)
  er : ErrC K C
  no : PySem.W.findIn K (.ref C) n = some none
  no2 : PySem.W.findIn K (.ref C) m = some none
  mgC : mg x = some (.ref C)
def tE1 (C : Addr) (n : Str) (ta : TA) : TE := fun σ H Q => ta σ H fun vs H1 => ∃ y, vs = [y] ∧ ∀ a H2, H1 a = none → Same H1 H2 → ErrAt H2 a C [(n, y)] → Q (.ref a) H2
def tE2 (C : Addr) (n m : Str) (ta : TA) : TE := fun σ H Q => ta σ H fun vs H1 => ∃ y z, vs = [y, z] ∧ ∀ a H2, H1 a = none → Same H1 H2 → ErrAt H2 a C [(m, z), (n, y)] → Q (.ref a) H2
theorem made1 {H1 : Hp} {a C d : Addr} {n : Str} {y : V} (ha : H1 a = none) (hd : (upd H1 a (exo a C none)) d = none) (ne : d ≠ a) : Same H1 (upd (upd (upd H1 a (exo a C none)) d (exd d [(n, y)])) a (exo a C (some d))) ∧ ErrAt (upd (upd (upd H1 a (exo a C none)) d (exd d [(n, y)])) a (exo a C (some d))) a C [(n, y)] := by
  rw [upd_ne ne] at hd
  refine ⟨fun b o h => ?_, d, upd_same, ?_⟩
  · rw [upd_ne (ne_of_none h ha), upd_ne (ne_of_none h hd), upd_ne (ne_of_none h ha)]
    exact h
  · rw [upd_ne ne, upd_same]
theorem made2 {H1 : Hp} {a C d : Addr} {n m : Str} {y z : V} (ha : H1 a = none) (hd : (upd H1 a (exo a C none)) d = none) (ne : d ≠ a) :
    Same H1 (upd (upd (upd (upd H1 a (exo a C none)) d (exd d [(n, y)])) a (exo a C (some d))) d (exd d [(m, z), (n, y)])) ∧ ErrAt (upd (upd (upd (upd H1 a (exo a C none)) d (exd d [(n, y)])) a (exo a C (some d))) d (exd d [(m, z), (n, y)])) a C [(m, z), (n, y)] := by
  rw [upd_ne ne] at hd
  refine ⟨fun b o h => ?_, d, ?_, upd_same⟩
  · rw [upd_ne (ne_of_none h hd), upd_ne (ne_of_none h ha), upd_ne (ne_of_none h hd), upd_ne (ne_of_none h ha)]
    exact h
  · rw [upd_ne (Ne.symm ne), upd_same]
section
variable {X : Cx} {e e2 : Expr} {ta tk : TA} {p pos p1 p2 : Pos} {j k : Nat} {x : Str} {C : Addr} {n m : Str}
theorem pe_e1 (M : Mk1 X.prog X.w X.K X.mg X.base k x C n) (hr : Room j X.A) (hk : k + 1 ≤ j) (hg : Gl X x) (ha : PA X [e] ta) (hdb : (x == ("__debug__" : Str)) = false := by decide)
    (he : starEach [e] X.env = (false, eval e X.env) :: starEach [] X.env := by rfl) (hpl : (backTo pos (starEach [] X.env)).any (·.1) = false := by rfl) : PE X (.Call (.Name x p) [e] [] pos) (tE1 C n ta) := by
  obtain ⟨fI, fd, iC, tI, F, b, _⟩ := M.ex
  refine ⟨fun pins s σ H Q I h => ?_⟩
  refine wpAny_Call_Name_kw (ld_glob I hg M.mgC ?_ hdb)
  refine PySem.W.callWith_K (h₀ := X.base) I.ok.mod.kin M.er.ox.kC (thn (ha.run pos pins s σ H _ I h) fun us s1 ⟨vs, H1, I1, r1, y, ev, q1⟩ => ⟨I1.kIn, ?_⟩) he hpl
  subst ev
  refine run_err M.er.ox iC tI F (hr.mono hk) b I1 r1 (by show 1 ≤ 1000; decide) fun a na => ⟨a, C, y, rfl, M.er.ox, M.no, upd_same, fun d nd ne => ?_⟩
  obtain ⟨z1, z2⟩ := made1 (n := n) (y := y) (C := C) na nd ne
  exact ⟨rfl, q1 a _ na z1 z2⟩
theorem pe_e2 (M : Mk2 X.prog X.w X.K X.mg X.base k x C n m) (hr : Room j X.A) (hk : k + 1 ≤ j) (hg : Gl X x) (ha : PA X [e, e2] ta) (hdb : (x == ("__debug__" : Str)) = false := by decide)
    (he : starEach [e, e2] X.env = (false, eval e X.env) :: starEach [e2] X.env := by rfl) (hpl : (backTo pos (starEach [e2] X.env)).any (·.1) = false := by rfl) : PE X (.Call (.Name x p) [e, e2] [] pos) (tE2 C n m ta) := by
  obtain ⟨fI, fd, iC, tI, F, b, _⟩ := M.ex
  refine ⟨fun pins s σ H Q I h => ?_⟩
  refine wpAny_Call_Name_kw (ld_glob I hg M.mgC ?_ hdb)
  refine PySem.W.callWith_K (h₀ := X.base) I.ok.mod.kin M.er.ox.kC (thn (ha.run pos pins s σ H _ I h) fun us s1 ⟨vs, H1, I1, r1, y, z, ev, q1⟩ => ⟨I1.kIn, ?_⟩) he hpl
  subst ev
  refine run_err M.er.ox iC tI F (hr.mono hk) b I1 r1 (by show 2 ≤ 1000; decide) fun a na => ⟨a, C, y, z, rfl, M.er.ox, M.no, M.no2, upd_same, fun d nd ne => ?_⟩
  obtain ⟨z1, z2⟩ := made2 (n := n) (m := m) (y := y) (z := z) (C := C) na nd ne
  exact ⟨rfl, q1 a _ na z1 z2⟩
theorem pe_e1k (M : Mk1 X.prog X.w X.K X.mg X.base k x C n) (hr : Room j X.A) (hk : k + 1 ≤ j) (hg : Gl X x) (hkw : PK X [⟨some n, e, p1⟩] tk)
    (hall : (backToKw pos (keywordEach [⟨some n, e, p1⟩] X.env)).all (·.1.isSome) = true := by rfl) (hks : (backToKw pos (keywordEach [⟨some n, e, p1⟩] X.env)).filterMap (·.1) = [n] := by rfl) (hdb : (x == ("__debug__" : Str)) = false := by decide)
    (hpl : ((backTo pos (starEach [] X.env)).any (·.1) || (backToKw pos (keywordEach [⟨some n, e, p1⟩] X.env)).any (·.1.isNone)) = false := by rfl) : PE X (.Call (.Name x p) [] [⟨some n, e, p1⟩] pos) (tE1 C n tk) := by
  obtain ⟨fI, fd, iC, tI, F, _, kb⟩ := M.ex
  refine ⟨fun pins s σ H Q I h => ?_⟩
  refine wpAny_Call_Name_kw (ld_glob I hg M.mgC ?_ hdb)
  refine PySem.W.callWith_KW0 (h₀ := X.base) I.ok.mod.kin M.er.ox.kC hall ?_ hpl
  refine thn (hkw.run pos pins s σ H _ I h) fun ws s2 ⟨zs, H2, I2, rz, y, ev, q1⟩ => ⟨I2.kIn, ?_⟩
  rw [hks]
  subst ev
  refine run_errK M.er.ox iC tI F (hr.mono hk) kb I2 rz rfl fun a na => ⟨a, C, y, rfl, M.er.ox, M.no, upd_same, fun d nd ne => ?_⟩
  obtain ⟨z1, z2⟩ := made1 (n := n) (y := y) (C := C) na nd ne
  exact ⟨rfl, q1 a _ na z1 z2⟩
/-- the keywords in the other order -/
def tE2r (C : Addr) (n m : Str) (ta : TA) : TE := fun σ H Q => ta σ H fun vs H1 => ∃ y z, vs = [z, y] ∧ ∀ a H2, H1 a = none → Same H1 H2 → ErrAt H2 a C [(m, z), (n, y)] → Q (.ref a) H2
theorem pe_e2r (M : Mk2 X.prog X.w X.K X.mg X.base k x C n m) (hr : Room j X.A) (hk : k + 1 ≤ j) (hg : Gl X x) (hkw : PK X [⟨some m, e, p1⟩, ⟨some n, e2, p2⟩] tk)
    (hall : (backToKw pos (keywordEach [⟨some m, e, p1⟩, ⟨some n, e2, p2⟩] X.env)).all (·.1.isSome) = true := by rfl) (hks : (backToKw pos (keywordEach [⟨some m, e, p1⟩, ⟨some n, e2, p2⟩] X.env)).filterMap (·.1) = [m, n] := by rfl) (hdb : (x == ("__debug__" : Str)) = false := by decide)
    (hpl : ((backTo pos (starEach [] X.env)).any (·.1) || (backToKw pos (keywordEach [⟨some m, e, p1⟩, ⟨some n, e2, p2⟩] X.env)).any (·.1.isNone)) = false := by rfl) : PE X (.Call (.Name x p) [] [⟨some m, e, p1⟩, ⟨some n, e2, p2⟩] pos) (tE2r C n m tk) := by
  obtain ⟨fI, fd, iC, tI, F, _, _, kb⟩ := M.ex
  refine ⟨fun pins s σ H Q I h => ?_⟩
  refine wpAny_Call_Name_kw (ld_glob I hg M.mgC ?_ hdb)
  refine PySem.W.callWith_KW0 (h₀ := X.base) I.ok.mod.kin M.er.ox.kC hall ?_ hpl
  refine thn (hkw.run pos pins s σ H _ I h) fun ws s2 ⟨zs, H2, I2, rz, y, z, ev, q1⟩ => ⟨I2.kIn, ?_⟩
  rw [hks]
  subst ev
  refine run_errK M.er.ox iC tI F (hr.mono hk) kb I2 rz rfl fun a na => ⟨a, C, y, z, rfl, M.er.ox, M.no, M.no2, upd_same, fun d nd ne => ?_⟩
  obtain ⟨z1, z2⟩ := made2 (n := n) (m := m) (y := y) (z := z) (C := C) na nd ne
  exact ⟨rfl, q1 a _ na z1 z2⟩
end
end My


set_option Elab.async false
set_option linter.all false
set_option maxRecDepth 100000
set_option maxHeartbeats 2000000
namespace My
open PySem PySem.Spec PyProof.Rows L2
theorem tyx_L {K : PySem.W.Frag} {H : Hp} {a : Addr} {xs : List V} (h : SqL K H a xs) : TyX K H (.ref a) (.type "list") := by
  rcases h with (h | ⟨o, h⟩) | ⟨o, its, n, h1, h2, _⟩
  · exact .base (.lst h)
  · exact .base (.frz h)
  · exact .kList h1 h2
theorem tyx_T {K : PySem.W.Frag} {H : Hp} {a : Addr} {xs : List V} (h : SqT K H a xs) : TyX K H (.ref a) (.type "tuple") := by
  rcases h with (h | ⟨o, h⟩) | ⟨o, its, n, h1, h2, _⟩
  · exact .base (.tup h)
  · exact .fTuple h
  · exact .kTuple h1 h2
theorem TyX.same {K : PySem.W.Frag} {H H' : Hp} {v : V} {t : Value} (e : Same H H') (h : TyX K H v t) : TyX K H' v t := by
  cases h with
  | base b =>
    cases b with
    | non => exact .base .non
    | bl x => exact .base (.bl x)
    | int i => exact .base (.int i)
    | str x => exact .base (.str x)
    | flt x => exact .base (.flt x)
    | lst h => exact .base (.lst (e _ _ h))
    | frz h => exact .base (.frz (e _ _ h))
    | tup h => exact .base (.tup (e _ _ h))
    | dK h => exact .base (.dK (e _ _ h))
    | dT h => exact .base (.dT (e _ _ h))
    | ins h cl ha hn htk hm => exact .base (.ins (e _ _ h) cl ha hn htk hm)
  | byt b => exact .byt b
  | set h => exact .set (e _ _ h)
  | kList h c => exact .kList h c
  | kTuple h c => exact .kTuple h c
  | kDict h c => exact .kDict h c
  | fTuple h => exact .fTuple (e _ _ h)
  | fDict h => exact .fDict (e _ _ h)
/-- nested lists and tuples over other things, below this depth -/
def Nest (K : PySem.W.Frag) (H : Hp) : Nat → V → Prop
  | 0 => fun _ => False
  | n + 1 => fun v => (Selfy v ∧ ∃ t, TyX K H v t ∧ PySem.W.kitAny K t [.type "list", .type "tuple"] = some false) ∨
      ∃ a xs, v = .ref a ∧ (SqL K H a xs ∨ SqT K H a xs) ∧ xs.length ≤ 1000 ∧ ∀ x ∈ xs, Nest K H n x
theorem Nest.same {K : PySem.W.Frag} {H H' : Hp} (e : Same H H') : ∀ (n : Nat) {v : V}, Nest K H n v → Nest K H' n v
  | 0, _, h => h
  | n + 1, v, h => by
    rcases h with ⟨s, t, ht, k⟩ | ⟨a, xs, rfl, h, hl, hx⟩
    · exact .inl ⟨s, t, TyX.same e ht, k⟩
    · exact .inr ⟨a, xs, rfl, h.elim (fun h => .inl (e.seq h)) (fun h => .inr (same_seqT e h)), hl, fun x m => Nest.same e n (hx x m)⟩
/-- what fixed gives back, seen from above -/
def Fixed1 (K : PySem.W.Frag) (H H' : Hp) (v v' : V) : Prop := (∃ a xs q ys, v = .ref a ∧ (SqL K H a xs ∨ SqT K H a xs) ∧ v' = .ref q ∧ H' q = some (.tup ys) ∧ ys.length = xs.length ∧ ∀ y ∈ ys, Selfy y) ∨ (v' = v ∧ Selfy v)
theorem Fixed1.selfy {K : PySem.W.Frag} {H H' : Hp} {v v' : V} (h : Fixed1 K H H' v v') : Selfy v' := by
  rcases h with ⟨_, _, q, _, _, _, rfl, _⟩ | ⟨rfl, h⟩
  · exact .inr ⟨q, rfl⟩
  · exact h
def spFixed (K : PySem.W.Frag) (n : Nat) : Sp := fun vs H Q _ => ∃ v, vs = [v] ∧ Nest K H n v ∧ ∀ v' H', Same H H' → Fixed1 K H H' v v' → Q v' H'
theorem kit_lt {K : PySem.W.Frag} : PySem.W.kitAny K (.type "list") [.type "list", .type "tuple"] = some true := kitAny_cons (b := true) (kit_ty (by decide +kernel)) (fun z => nomatch z) (fun _ => rfl)
theorem kit_tt {K : PySem.W.Frag} : PySem.W.kitAny K (.type "tuple") [.type "list", .type "tuple"] = some true := kitAny_cons (b := false) (kit_ty (by decide +kernel)) (fun _ => kitAny_cons (b := true) (kit_ty (by decide +kernel)) (fun z => nomatch z) (fun _ => rfl)) (fun z => nomatch z)
section
variable {X : Cx}
theorem self_each {A : Around} {s : Shared} {vs : List V} {us ws : List Value} (r1 : Vals vs us) (r2 : Vals vs ws) (hs : ∀ v ∈ vs, Selfy v) : ∀ j (j1 : j < us.toArray.size) (j2 : j < ws.toArray.size), SeqAt.EqAt A s us.toArray[j] ws.toArray[j] ((fun _ => true) j) := fun j j1 j2 => by
  have j0 : j < vs.length := by
    rw [r1.length]
    exact j1
  obtain ⟨u1, e1, k1⟩ := r1.get (i := j) (x := vs[j]) (by simp [j0])
  obtain ⟨u2, e2, k2⟩ := r2.get (i := j) (x := vs[j]) (by simp [j0])
  have f1 : us.toArray[j] = u1 := by
    have z := (List.getElem?_eq_some_iff.mp e1).2
    simpa using z
  have f2 : ws.toArray[j] = u2 := by
    have z := (List.getElem?_eq_some_iff.mp e2).2
    simpa using z
  rw [f1, f2]
  exact selfy_eq (hs _ (List.getElem_mem j0)) k1 k2
theorem all_true (n : Nat) : ((List.range n).all fun _ => true) = true := List.all_eq_true.mpr fun _ _ => rfl
/-- == of two lists, of two tuples, that hold the very same things -/
def rEqS (K : PySem.W.Frag) : R2 := fun x y H Q => ∃ (a b : Addr) (vs : List V), x = .ref a ∧ y = .ref b ∧ ((SqL K H a vs ∧ SqL K H b vs) ∨ (SqT K H a vs ∧ SqT K H b vs)) ∧ (∀ v ∈ vs, Selfy v) ∧ Q (.bl true) H
def rNeT (K : PySem.W.Frag) : R2 := fun x y H Q => ∃ (a b : Addr) (vs : List V), x = .ref a ∧ y = .ref b ∧ SqT K H a vs ∧ SqT K H b vs ∧ (∀ v ∈ vs, Selfy v) ∧ Q (.bl false) H
theorem op_eqS (hu : X.A.units + 64 < cLine) : OpR X (compareOp .Eq) (rEqS X.K) := by
  intro pins s σ H x y v u Q I rx ry h
  obtain ⟨a, b, vs, rfl, rfl, h | h, hs, q⟩ := h
  · cases rx
    cases ry
    obtain ⟨us, r1, p1, _⟩ := I.list h.1
    obtain ⟨ws, r2, p2, _⟩ := I.list h.2
    have size : us.toArray.size = ws.toArray.size := by
      rw [List.size_toArray, List.size_toArray, ← r1.length, ← r2.length]
    have R := SeqAt.RcAt.lists (A := X.A) p1.isList p2.isList size (by omega) (self_each r1 r2 hs)
    rw [all_true] at R
    exact R X.prog X.w X.xe _ ⟨.bl true, H, I, rfl, q⟩
  · cases rx
    cases ry
    obtain ⟨us, r1, p1, _⟩ := I.tuple h.1
    obtain ⟨ws, r2, p2, _⟩ := I.tuple h.2
    have size : us.toArray.size = ws.toArray.size := by
      rw [List.size_toArray, List.size_toArray, ← r1.length, ← r2.length]
    have R := SeqAt.RcAt.tuples (A := X.A) p1 p2 (by omega) (self_each r1 r2 hs)
    rw [all_true, size, beq_self_eq_true, Bool.and_true] at R
    exact R X.prog X.w X.xe _ ⟨.bl true, H, I, rfl, q⟩
theorem op_neT (hu : X.A.units + 64 < cLine) : OpR X (compareOp .NotEq) (rNeT X.K) := by
  intro pins s σ H x y v u Q I rx ry h
  obtain ⟨a, b, vs, rfl, rfl, ha, hb, hs, q⟩ := h
  cases rx
  cases ry
  obtain ⟨us, r1, p1, _⟩ := I.tuple ha
  obtain ⟨ws, r2, p2, _⟩ := I.tuple hb
  have size : us.toArray.size = ws.toArray.size := by
    rw [List.size_toArray, List.size_toArray, ← r1.length, ← r2.length]
  have R := SeqAt.RcNeAt.tuples (A := X.A) p1 p2 (by omega) (self_each r1 r2 hs)
  rw [all_true, size, beq_self_eq_true, Bool.and_true] at R
  exact R X.prog X.w X.xe _ ⟨.bl false, H, I, rfl, q⟩
/-! ### a Paper -/
/-- at a a paper of the class at C with this word and these parts -/
def PaperAt (K : PySem.W.Frag) (H : Hp) (a C : Addr) (word : V) (ys : List V) : Prop := ∃ (dx q : Addr), H a = some (.ins C dx [("word", word), ("parts", .ref q)]) ∧ H q = some (.tup ys) ∧ ∀ y ∈ ys, Selfy y
theorem PaperAt.same {K : PySem.W.Frag} {H H' : Hp} {a C : Addr} {word : V} {ys : List V} (e : Same H H') (h : PaperAt K H a C word ys) : PaperAt K H' a C word ys := by
  obtain ⟨dx, q, h1, h2, h3⟩ := h
  exact ⟨dx, q, e _ _ h1, e _ _ h2, h3⟩
/-- a paper equals itself -/
def SelfR (K : PySem.W.Frag) (C : Addr) : Addr → Addr → Hp → Prop := fun a b H => a = b ∧ ∃ (z : Str) (ys : List V), PaperAt K H a C (.str z) ys
/-- what the written part says of the class with an own == -/
structure OwnEq (K : PySem.W.Frag) (C f : Addr) : Prop where
  cls : ∃ nm q N bs sn sub ab col dd k0 k1 k2 k3 k5 newId, K.lookup C = some (excClassObj nm q C N bs [.type "object"] true sn sub ab col dd k0 k1 k2 k3 k5 newId) ∧ PySem.W.nsOkIn K N = true ∧ PySem.W.nsIn K N "__eq__" = some (some (.ref f)) ∧ PySem.W.nsIn K N "__ne__" = some none
  ft : PySem.W.typeIn K (.ref f) = some (.type "function")
  eq : PySem.W.findIn K (.ref C) "__eq__" = some (some (.ref f))
  fn : PySem.W.isFn K (.ref f) = true
theorem ns_at {K : PySem.W.Frag} {h : Heap} {N : Addr} {m : Str → Option Value} {x : Str} {v : Value} (kin : K.In h) (G : h.Ns N m) (e : PySem.W.nsIn K N x = some (some v)) : m x = some v := by
  obtain ⟨o, es, ep, ho, hd, keys, find⟩ := G
  unfold PySem.W.nsIn at e
  split at e
  · rename_i c d es' n' sl hk
    have same := kin _ _ hk
    rw [ho] at same
    have same' := Option.some.inj same
    subst same'
    have ed : Data.dict es' n' = Data.dict es ep := hd
    injection ed with e1 _
    subst e1
    split at e
    · rename_i en he
      rw [← find x, ← Option.some.inj (Option.some.inj e)]
      unfold nsFind findBy
      rw [← Array.find?_toList, he]
      rfl
    · split at e <;> cases e
  · cases e
theorem ns_off {K : PySem.W.Frag} {h : Heap} {N : Addr} {x : Str} (kin : K.In h) (ok : PySem.W.nsOkIn K N = true) (e : PySem.W.nsIn K N x = some none) : h.nsMap N x = none := PySem.W.nsMap_none_of_in kin ok e
theorem own_noNe {pins : List (Addr × Obj)} {σ : L2.St} {H : Hp} {s : Shared} {a C f dx : Addr} {fs : List (Str × V)} (I : Inv X pins σ H s) (O : OwnEq X.K C f) (ha : H a = some (.ins C dx fs)) :
    s.heap.OwnEqNoNe a C f "object" [.type "object"] ∧ ∃ o, s.heap.get? a = some o ∧ o.cls = .ref C := by
  obtain ⟨nm, q, N, bs, sn, sub, ab, col, dd, k0, k1, k2, k3, k5, newId, hC, ok, heq, hne⟩ := O.cls
  obtain ⟨_, _, _, hx, _⟩ := (show ObjOk X.prog X.w H s.heap a (.ins C dx fs) from I.hok a _ ha)
  obtain ⟨of, hof, ef⟩ := Option.map_eq_some_iff.mp (show (X.K.lookup f).map (·.cls) = some (.type "function") from O.ft)
  exact ⟨⟨_, of, nm, q, N, bs, true, sn, sub, ab, col, dd, k0, k1, k2, k3, k5, newId, _, _, hx, rfl, I.kIn _ _ hC, .of_isNs (PySem.W.isNs_of_in I.kIn ok), ns_at I.kIn (.of_isNs (PySem.W.isNs_of_in I.kIn ok)) heq, I.kIn _ _ hof, ef, PySem.F.mro_object, PySem.F.cmp_object.eq.lookup, ns_off I.kIn ok hne⟩, _, hx, rfl⟩
/-- a == a, a != a of a paper -/
def rEqP (K : PySem.W.Frag) (C : Addr) : R2 := fun x y H Q => ∃ (a : Addr) (z : Str) (ys : List V), x = .ref a ∧ y = .ref a ∧ PaperAt K H a C (.str z) ys ∧ ∀ H', Same H H' → Q (.bl true) H'
def rNeP (K : PySem.W.Frag) (C : Addr) : R2 := fun x y H Q => ∃ (a : Addr) (z : Str) (ys : List V), x = .ref a ∧ y = .ref a ∧ PaperAt K H a C (.str z) ys ∧ ∀ H', Same H H' → Q (.bl false) H'
theorem op_eqP {C f : Addr} {fd : FuncData} {ps : List Str} {n j : Nat} (F : FnOk X.prog X.w X.K X.mg X.base CX0 n f fd ps (spEq (SelfR X.K C))) (O : OwnEq X.K C f) (b : Binds X.K fd ps []) (hr : Room j X.A) (hj : n ≤ j) : OpR X (compareOp .Eq) (rEqP X.K C) := by
  intro pins s σ H x y v u Q I rx ry h
  obtain ⟨a, z, ys, rfl, rfl, hp, q⟩ := h
  obtain ⟨dx, q0, h1, _⟩ := id hp
  exact op_eqG (rcG_ins F O.eq O.fn b pass0) (hr.mono hj) pins s σ H _ _ _ _ Q I rx ry ⟨⟨a, a, dx, dx, _, _, rfl, rfl, h1, h1, rfl, z, ys, hp⟩, q⟩
theorem op_neP {C f : Addr} {fd : FuncData} {ps : List Str} {n j : Nat} (F : FnOk X.prog X.w X.K X.mg X.base CX0 n f fd ps (spEq (SelfR X.K C))) (O : OwnEq X.K C f) (b : Binds X.K fd ps []) (hr : Room j X.A) (hj : n + 1 ≤ j) : OpR X (compareOp .NotEq) (rNeP X.K C) := by
  intro pins s σ H x y v u Q I rx ry h
  obtain ⟨a, z, ys, rfl, rfl, hp, q⟩ := h
  cases rx
  cases ry
  obtain ⟨dx, q0, h1, _⟩ := id hp
  obtain ⟨own, oy, hy, hyc⟩ := own_noNe I O h1
  have room : Sub X n X.A.in1 := Sub.in1 ⟨hr.mono hj, rfl⟩
  have e0 : Env0 X.prog X.w X.K X.mg X.base X.A.in1 X.stack s H := { I.env0 with frames := (by rw [room.fr]; exact I.env0.frames) }
  have want : spEq (SelfR X.K C) [.ref a, .ref a] H (fun v H' => v = .bl true ∧ Ext H H') (fun _ _ _ => False) := ⟨a, a, rfl, ⟨rfl, z, ys, hp⟩, fun H' e => ⟨rfl, e⟩⟩
  have r2 : Vals [V.ref a, V.ref a] [Value.ref a, Value.ref a] := .cons rfl (.cons rfl .nil)
  have hl := F.len _ _ _ _ want
  have hb := b s [.ref a, .ref a] I.kIn (by simpa using hl)
  rw [List.append_nil] at hb
  obtain ⟨hh, g, d, t, os⟩ := s
  refine compareOp_ne_ownEq PySem.F.cmp_object own hy hyc (by have := hr.units; omega) ?_
  refine wpAny_call (codeAny_mono (F.run X.A.in1 X.stack _ H ⟨[.ref a, .ref a], []⟩ _ _ _ (fun _ _ _ => False) room.room e0 hb r2 want) fun r s' back => ?_)
  cases r with
  | error e => exact False.elim back
  | ok fl =>
    cases fl with
    | ret u =>
      obtain ⟨v, H', J, rv, ev, ex⟩ := I.after back
      subst ev
      cases rv
      exact ⟨true, rfl, .bl false, H', J, rfl, q H' ex⟩
    | next => exact False.elim back
    | brk => exact False.elim back
    | cont => exact False.elim back
/-- one of several rules -/
theorem op_or {f : Value → Value → Sem Value} {r r' : R2} (h : OpR X f r) (h' : OpR X f r') : OpR X f (fun x y H Q => r x y H Q ∨ r' x y H Q) := fun pins s σ H x y v u Q I rx ry z => z.elim (h pins s σ H x y v u Q I rx ry) (h' pins s σ H x y v u Q I rx ry)
end
theorem clsLT : Paired ClsV [.ty "list", .ty "tuple"] [.type "list", .type "tuple"] := .cons (.ty _) (.cons (.ty _) .nil)
end My


set_option Elab.async false
set_option linter.all false
set_option maxRecDepth 100000
namespace My
open PySem PySem.Spec PyProof.Rows L2
def topS (i : Nat) : Stmt := PySem.Challenge.pw_allnear_k00_errors_keep_their_fields.main.body.getD i (.Pass ⟨0, 0, 0, 0⟩)
structure Txt (K : PySem.W.Frag) (mg : Str → Option Value) : Prop where
  b_int : mg "int" = none
  b_len : mg "len" = none
  b_abs : mg "abs" = none
  b_str : mg "str" = none
  b_isinstance : mg "isinstance" = none
  b_enumerate : mg "enumerate" = none
  b_range : mg "range" = none
  b_tuple : mg "tuple" = none
  b_list : mg "list" = none
  b_type : mg "type" = none
  b_ValueError : mg "ValueError" = none
  b_LookupError : mg "LookupError" = none
  b_TypeError : mg "TypeError" = none
  b_ArithmeticError : mg "ArithmeticError" = none
  b_AttributeError : mg "AttributeError" = none
  b_RuntimeError : mg "RuntimeError" = none
abbrev s__law_well : Stmt := topS 29
abbrev N__law_well : List Str := ["script", "cell"]
abbrev P__law_well : List Str := ["script"]
theorem sc__law_well : FnScope N__law_well P__law_well (C8.fnScope s__law_well) := C8.fnScope_by (by decide +kernel)
abbrev s__law_pail : Stmt := topS 30
abbrev N__law_pail : List Str := ["well", "many", "turn", "cell", "mixed", "rest"]
abbrev P__law_pail : List Str := ["well", "many"]
theorem sc__law_pail : FnScope N__law_pail P__law_pail (C8.fnScope s__law_pail) := C8.fnScope_by (by decide +kernel)
abbrev s__law_of : Stmt := topS 31
abbrev N__law_of : List Str := ["well", "some"]
abbrev P__law_of : List Str := ["well", "some"]
theorem sc__law_of : FnScope N__law_of P__law_of (C8.fnScope s__law_of) := C8.fnScope_by (by decide +kernel)
section
variable {P : Program} {w : World} {K : PySem.W.Frag} {mg : Str → Option Value} {base : Heap}
theorem ok__law_of {k : Nat} (T : Txt K mg) (D : DefB K mg "_law_of" s__law_of P__law_of) (c__law_pail : C8.Cal P w K mg base k "_law_pail" spPail []) : C8.Cal P w K mg base (k + 1) "_law_of" (spOf K) [] := by
  refine calB D sc__law_of (fun vs H Q E h => ?_) (fun f cdv A outer s H vs Q E hr h => ?_)
  · obtain ⟨p, c, l, n, xs, rfl, _⟩ := h
    rfl
  obtain ⟨p, c, l, n, xs, rfl, W, hl, hne, h0, h1, q⟩ := h
  refine ⟨_, (pss_one (ps_ret (pe_ix ix_list (pv 1) (C8.pe_c c__law_pail hr (Nat.le_refl _) (by rfl) (pa_cons (pv 0) (pa_cons (pe_callB call_len_seq (by rfl) T.b_len (by decide +kernel) (pa_cons (pv 1) pa_nil)) pa_nil))) (fun _ _ => rfl)))), ?_⟩
  refine ⟨_, rfl, _, rfl, _, rfl, l, xs, rfl, .inl hl, p, c, n, _, rfl, W, by omega, by omega, fun z H' z0 z1 kp W' => ?_⟩
  obtain ⟨v, hv, hm⟩ := at_int (xs := xs) z0 z1
  exact ⟨l, xs, z, v, rfl, rfl, kp.seqL hl hne, hv, q v H' hm kp W'⟩
theorem ok__law_pail {k : Nat} (T : Txt K mg) (D : DefB K mg "_law_pail" s__law_pail P__law_pail) : C8.Cal P w K mg base (k + 1) "_law_pail" spPail [] := by
  refine calB D sc__law_pail (fun vs H Q E h => ?_) (fun f cdv A outer s H vs Q E hr h => ?_)
  · obtain ⟨p, c, n, m, rfl, _⟩ := h
    rfl
  obtain ⟨p, c, n, m, rfl, W, m0, m1, q⟩ := h
  refine ⟨_, (pss_cons (ps_if (pt_cmpR op_gt (pe_ix ix_list (pv 0) pe_int (fun _ _ => rfl)) pe_int (nomark _)) (pss_cons (ps_set (i := 5) sc__law_pail.nd rfl (Or.inl rfl) (pe_callTy call_int1 (by rfl) T.b_int (by decide +kernel) (pa_cons (pe_ix ix_list (pv 0) pe_int (fun _ _ => rfl)) pa_nil)))
    (pss_cons (ps_asg (pe_op op_fdivW (pv 5) (pv 1)) (pg_sub (pv 0) pe_int set_list))
    (pss_one (ps_ret (pe_op op_mod (pe_callTy call_int1 (by rfl) T.b_int (by decide +kernel) (pa_cons (pv 5) pa_nil)) (pv 1)))))) pss_nil)
    (pss_cons (ps_set (i := 2) sc__law_pail.nd rfl (Or.inl rfl) (pe_ix ix_list (pv 0) pe_int (fun _ _ => rfl)))
    (pss_cons (ps_asg (pe_op op_add (pv 2) pe_int) (pg_sub (pv 0) pe_int set_list))
    (pss_cons (ps_set (i := 3) sc__law_pail.nd rfl (Or.inl rfl) (pe_op op_add (pe_op op_mul pe_int (pv 2)) pe_int))
    (C8.pss_cut (ps_if (pt_cmpR (op_neD hr.units) (pe_ix ix_list (pv 0) pe_int (fun _ _ => rfl)) (pe_lst pa_nil) (nomark _)) (pss_one (ps_set (i := 3) sc__law_pail.nd rfl (Or.inl rfl) (pe_ix ix_list (pe_ix ix_list (pv 0) pe_int (fun _ _ => rfl)) (pe_op op_mod (pe_callTy call_int1 (by rfl) T.b_int (by decide +kernel) (pa_cons (pv 2) pa_nil)) (pe_callB call_len_seq (by rfl) T.b_len (by decide +kernel) (pa_cons (pe_ix ix_list (pv 0) pe_int (fun _ _ => rfl)) pa_nil))) (fun _ _ => rfl)))) pss_nil)
    (C8.pss_cut (ps_if (PW.pt (pw_and (pt_cmpR op_lt (pv 2) (pe_callB call_len_seq (by rfl) T.b_len (by decide +kernel) (pa_cons (pe_ix ix_list (pv 0) pe_int (fun _ _ => rfl)) pa_nil)) (nomark _)) (pw_and1 (pt_cmpR op_ge (pe_callB call_abs (by rfl) T.b_abs (by decide +kernel) (pa_cons (pv 3) pa_nil)) (pe_op op_pow pe_int pe_int) (nomark _))))) (pss_cons (ps_set (i := 5) sc__law_pail.nd rfl (Or.inl rfl) (pe_op op_add (pe_op op_mul pe_int (pe_op op_sub (pe_callB call_abs (by rfl) T.b_abs (by decide +kernel) (pa_cons (pv 3) pa_nil)) (pe_op op_pow pe_int pe_int))) (pe_callTy call_int1 (by rfl) T.b_int (by decide +kernel) (pa_cons (pe_cmpR op_lt (pv 3) pe_int (nomark _)) pa_nil))))
    (pss_cons (ps_asg (pe_op op_fdivW (pv 5) (pv 1)) (pg_sub (pv 0) pe_int set_list))
    (pss_one (ps_ret (pe_op op_mod (pe_callTy call_int1 (by rfl) T.b_int (by decide +kernel) (pa_cons (pv 5) pa_nil)) (pv 1)))))) pss_nil)
    (pss_cons (ps_set (i := 4) sc__law_pail.nd rfl (Or.inl rfl) (pe_op op_mod (pe_callTy call_int1 (by rfl) T.b_int (by decide +kernel) (pa_cons (pe_op op_pow (pe_op op_add (pe_op op_add (pe_op op_mod (pe_callTy call_int1 (by rfl) T.b_int (by decide +kernel) (pa_cons (pv 3) pa_nil)) pe_int) (pe_op op_mul pe_int (pv 2))) pe_int) pe_int) pa_nil)) pe_int))
    (pss_cons (ps_set (i := 4) sc__law_pail.nd rfl (Or.inl rfl) (pe_op op_mod (pe_callTy call_int1 (by rfl) T.b_int (by decide +kernel) (pa_cons (pe_op op_pow (pe_op op_add (pe_op op_add (pe_op op_mul (pv 4) (pe_op op_add (pe_op op_mul pe_int (pv 2)) pe_int)) (pe_op op_mul (pe_op op_mul pe_int (pv 2)) (pv 2))) pe_int) pe_int) pa_nil)) pe_int))
    (pss_one (ps_ret (pe_op op_mod (pe_callTy call_int1 (by rfl) T.b_int (by decide +kernel) (pa_cons (pe_op op_fdivW (pv 4) pe_int) pa_nil)) (pv 1)))))))))))), ?_⟩
  obtain ⟨cells, t, r, hp, hc, hl, t0, t1⟩ := id W
  have ne := W.ne
  have cd : CDivW r m := ⟨m0, lg_le m1 m0⟩
  -- if well[2] > 0
  refine ⟨_, rfl, p, _, 2, _, rfl, rfl, SqL.of hp, rfl, r, 0, rfl, rfl, _, rfl, ?_⟩
  have fin : ∀ (z t' r' : Int) (H' : Hp), 0 ≤ t' → t' + (n : Int) ≤ 1000000 → Keep p H H' → H' p = some (.lst [.ref c, .int t', .int r']) → 0 ≤ z → z < m → Q (.int z) H' := fun z t' r' H' h0 h1 kp e z0 z1 =>
    q z H' z0 z1 kp ⟨cells, t', r', e, kp _ _ hc ne, hl, h0, h1⟩
  have modm : ∀ z : Int, 0 ≤ z % m ∧ z % m < m := fun z => ⟨Int.emod_nonneg _ (by omega), Int.emod_lt_of_pos _ m0⟩
  refine ite2 (fun c1 => ?_) (fun c1 => ?_)
  · refine ⟨_, rfl, p, _, 2, _, rfl, rfl, SqL.of hp, rfl, .inl ⟨r, rfl, ?_⟩⟩
    refine ⟨_, rfl, _, rfl, _, _, rfl, rfl, cd, _, rfl, p, _, 2, 2, rfl, rfl, hp, rfl, ?_⟩
    refine ⟨_, rfl, .inl ⟨_, rfl, _, rfl, _, _, rfl, rfl, m0, ?_⟩⟩
    exact fin _ t _ _ t0 (by omega) Keep.refl.upd upd_same (modm _).1 (modm _).2
  -- turn = well[1]; well[1] = turn + 1
  refine ⟨_, rfl, p, _, 1, _, rfl, rfl, SqL.of hp, rfl, ?_⟩
  refine ⟨_, rfl, _, _, rfl, rfl, _, rfl, p, _, 1, 1, rfl, rfl, hp, rfl, ?_⟩
  -- cell = 73019 * turn + 5101
  refine ⟨_, rfl, _, _, rfl, rfl, .inl ⟨by decide, by decide⟩, _, _, rfl, rfl, ?_⟩
  -- if well[0] != []
  have hc1 : ∀ u, (upd H p u) c = some (.lst (cells.map V.int)) := fun u => by
    rw [upd_ne ne]
    exact hc
  refine ⟨fun σ' H' => ∃ z : Int, σ' = [some (.ref p), some (.int m), some (.int t), some (.int z), none, none] ∧ Keep p H H' ∧ H' p = some (.lst [.ref c, .int (t + 1), .int r]), ?_, ?_⟩
  · refine ⟨_, rfl, p, _, 0, _, rfl, rfl, SqL.of upd_same, rfl, (by show 0 ≤ sizeLine; decide), fun e he => ?_⟩
    have hpe : p ≠ e := ne_of_none upd_same he
    have hce : c ≠ e := ne_of_none (hc1 _) he
    have k1 : Keep p H (upd (upd H p (.lst [.ref c, .int (t + 1), .int r])) e (.lst [])) := Keep.trans Keep.refl.upd (Keep.of (same_new he _))
    have p1 : (upd (upd H p (.lst [.ref c, .int (t + 1), .int r])) e (.lst [])) p = some (.lst [.ref c, .int (t + 1), .int r]) := by
      rw [upd_ne hpe, upd_same]
    have c2 : ∀ u, (upd (upd H p u) e (.lst [])) c = some (.lst (cells.map V.int)) := fun u => by
      rw [upd_ne hce]
      exact hc1 _
    refine ⟨.list (cells.map PyData.int), .list (List.map PyData.int []), .lst (SqL.of (c2 _)) (dp_ints cells), .lst (SqL.of upd_same) .nil, ints_shapedL _, ints_shapedL _, _, rfl, ?_⟩
    rw [eqv_intsL]
    by_cases hn : cells = []
    · rw [decide_eq_true hn]
      refine iteF ?_
      exact ⟨_, rfl, k1, p1⟩
    · rw [decide_eq_false hn]
      refine iteT ?_
      have hpos : 0 < (cells.map V.int).length := by
        rw [List.length_map]
        exact List.length_pos_iff.mpr hn
      refine ⟨_, rfl, p, _, 0, _, rfl, rfl, SqL.of p1, rfl, ?_⟩
      refine ⟨_, rfl, .inl ⟨_, rfl, _, rfl, p, _, 0, _, rfl, rfl, SqL.of p1, rfl, c, _, rfl, .inl (SqL.of (c2 _)), _, _, rfl, rfl, (by omega), ?_⟩⟩
      obtain ⟨v, hv, hm⟩ := at_int (xs := cells.map V.int) (z := t % ((cells.map V.int).length : Int)) (Int.emod_nonneg _ (by omega)) (Int.emod_lt_of_pos _ (by omega))
      obtain ⟨z, _, rfl⟩ := List.mem_map.mp hm
      exact ⟨c, _, _, _, rfl, rfl, SqL.of (c2 _), hv, z, rfl, k1, p1⟩
  rintro σ' H' ⟨z, rfl, k1, p1⟩
  have hc' := k1 _ _ hc ne
  -- if turn < len(well[0]) and abs(cell) >= 10 ** 18
  have pw : CPow 10 18 := ⟨by decide, by decide, by decide⟩
  refine ⟨fun σ' H2 => σ' = [some (.ref p), some (.int m), some (.int t), some (.int z), none, none] ∧ H2 = H', ?_, ?_⟩
  · refine ⟨_, rfl, _, rfl, p, _, 0, _, rfl, rfl, SqL.of p1, rfl, c, _, rfl, .inl (SqL.of hc'), _, _, rfl, rfl, _, rfl, ?_⟩
    refine ite2 (fun c2 => ?_) (fun c2 => ?_)
    · refine ⟨_, rfl, z, rfl, _, _, rfl, rfl, pw, _, _, rfl, rfl, _, rfl, ?_⟩
      refine ite2 (fun c3 => ?_) (fun c3 => ⟨rfl, rfl⟩)
      refine ⟨_, rfl, z, rfl, _, _, rfl, rfl, pw, _, _, rfl, rfl, _, _, rfl, rfl, .inl ⟨by decide, by decide⟩, _, rfl, _, _, rfl, rfl, .inr ⟨_, rfl, _, _, rfl, rfl, ?_⟩⟩
      refine ⟨_, rfl, _, rfl, _, _, rfl, rfl, cd, _, rfl, p, _, 2, 2, rfl, rfl, p1, rfl, ?_⟩
      refine ⟨_, rfl, .inl ⟨_, rfl, _, rfl, _, _, rfl, rfl, m0, ?_⟩⟩
      exact fin _ (t + 1) _ _ (by omega) (by omega) k1.upd upd_same (modm _).1 (modm _).2
    · exact iteF ⟨rfl, rfl⟩
  rintro σ' H2 ⟨rfl, rfl⟩
  -- the mixing
  have t2 : t ≤ 1000000 := by omega
  refine ⟨_, rfl, .inl ⟨_, rfl, _, _, rfl, rfl, (by show (0 : Int) < _; decide), _, rfl, _, _, rfl, rfl, .inl ⟨by decide, by decide⟩, _, _, rfl, rfl, _, _, rfl, rfl, _, _, rfl, rfl, ⟨by decide, by decide, ?_⟩, .inl ⟨_, rfl, _, _, rfl, rfl, (by show (0 : Int) < _; decide), ?_⟩⟩⟩
  · show (z % 2147483563 + 91009 * t + 5101).natAbs < 2 ^ 64
    omega
  generalize (z % 2147483563 + 91009 * t + 5101) ^ (5 : Int).toNat = u
  have b2 : 0 ≤ u % 2147483587 ∧ u % 2147483587 < 2147483587 := ⟨Int.emod_nonneg _ (by decide), Int.emod_lt_of_pos _ (by decide)⟩
  have b3 := mix_lt (A := 3037) (B := 73019) (C := 91033) (by decide) (by decide) (by decide) b2.1 (Int.le_of_lt (Int.lt_trans b2.2 (by decide))) t0 t2
  refine ⟨_, rfl, _, rfl, _, _, rfl, rfl, .inl ⟨by decide, by decide⟩, _, _, rfl, rfl, _, _, rfl, rfl, .inl ⟨?_, ?_⟩, _, rfl, _, _, rfl, rfl, .inl ⟨by decide, by decide⟩, _, rfl, _, _, rfl, rfl, .inl ⟨?_, ?_⟩, _, _, rfl, rfl, _, _, rfl, rfl, _, _, rfl, rfl, ⟨by decide, by decide, ?_⟩, .inl ⟨_, rfl, _, _, rfl, rfl, (by show (0 : Int) < _; decide), ?_⟩⟩
  · show -(2 ^ 64) < u % 2147483587
    omega
  · show u % 2147483587 < 2 ^ 64
    omega
  · show -(2 ^ 64) < 73019 * t
    omega
  · show 73019 * t < 2 ^ 64
    omega
  · exact b3
  refine ⟨_, rfl, _, _, rfl, rfl, ⟨by decide, by decide⟩, .inl ⟨_, rfl, _, rfl, _, _, rfl, rfl, m0, ?_⟩⟩
  exact fin _ (t + 1) r _ (by omega) (by omega) k1 p1 (modm _).1 (modm _).2
theorem ok__law_well {k : Nat} (T : Txt K mg) (D : DefB K mg "_law_well" s__law_well P__law_well) : C8.Cal P w K mg base (k + 1) "_law_well" (spWell K) [] := by
  refine calB D sc__law_well (fun vs H Q E h => ?_) (fun f cdv A outer s H vs Q E hr h => ?_)
  · obtain ⟨a, ns, rfl, _⟩ := h
    rfl
  obtain ⟨a, ns, rfl, hS, hl, q⟩ := h
  refine ⟨_, (pss_one (ps_ret (pe_lst (pa_cons (pe_lc (own := [("cell", 1)]) (g := gName 1) (tt := tYes) rfl sc__law_well.nd (pi_list (pe_slice sl_list (pv 0) po_none (po_some pe_int))) (blkOk_by (N := N__law_well) (sc := C8.fnScope s__law_well) (by decide +kernel)) (fun _ _ _ _ _ => (pg_name (i := 1) sc__law_well.nd rfl (Or.inl rfl))) (fun _ _ _ _ _ => pts_nil) (fun _ _ _ _ _ => (pe_callTy call_int1 (by rfl) T.b_int (by decide +kernel) (pa_cons (pv 1) pa_nil)))) (pa_cons pe_int (pa_cons pe_int pa_nil)))))), ?_⟩
  refine ⟨_, rfl, 60, rfl, a, _, rfl, hS, fun x hx => ?_⟩
  have hz : (cutV (ns.map V.int) none (some 60)).length ≤ 100000 := Nat.le_trans (cutV_length _ _ _) (by rw [List.length_map]; omega)
  refine ⟨x, rfl, ⟨_, SqL.of upd_same⟩, fun D hD => lc_map (K := K) (f := id) (SqL.of upd_same) hD hz ?_ ?_⟩
  · intro i y H2 Kc Nc hi e hk
    have hm : y ∈ cutV (ns.map V.int) none (some 60) := List.mem_of_getElem? hi
    obtain ⟨z, rfl⟩ := mem_cut_int hm
    exact ⟨rfl, _, rfl, .inl ⟨_, rfl, hk H2 (Same.refl _)⟩⟩
  · intro H2 e hD2
    refine ⟨(by show 3 ≤ sizeLine; decide), fun p hp => ?_⟩
    have hxD : Same H H2 := (same_new hx _).trans e
    obtain ⟨cells, hc, hl2⟩ := cut_ints (ns := ns) (hi := some 60)
    rw [List.map_id] at hD2
    have hpn : H p = none := hxD.free hp
    have hDn : H D = none := (same_new hx _).free hD
    refine q p D _ hpn hDn (hxD.trans (same_new hp _)) ⟨cells, 0, 0, upd_same, ?_, by omega, by decide, by decide⟩
    rw [upd_ne (ne_of_none hD2 hp), hD2, hc]
abbrev s_fixed : Stmt := topS 25
abbrev N_fixed : List Str := ["value", "part"]
abbrev P_fixed : List Str := ["value"]
theorem sc_fixed : FnScope N_fixed P_fixed (C8.fnScope s_fixed) := C8.fnScope_by (by decide +kernel)
theorem ok_fixed_0 : C8.Cal P w K mg base 0 "fixed" (spFixed K 0) [] → True := fun _ => trivial
theorem ok_fixed {n : Nat} (T : Txt K mg) (D : DefB K mg "fixed" s_fixed P_fixed) (c : C8.Cal P w K mg base n "fixed" (spFixed K n) []) : C8.Cal P w K mg base (n + 1) "fixed" (spFixed K (n + 1)) [] := by
  refine calB D sc_fixed (fun vs H Q E h => ?_) (fun f cdv A outer s H vs Q E hr h => ?_)
  · obtain ⟨v, rfl, _⟩ := h
    rfl
  obtain ⟨v, rfl, hn, q⟩ := h
  rcases hn with ⟨hs, t, ht, hk⟩ | ⟨a, xs, rfl, hx, hl, hall⟩
  · refine ⟨_, (pss_cons (ps_if (pt_val (pe_callB call_isiT (by rfl) T.b_isinstance (by decide +kernel) (pa_cons (pv 0) (pa_cons (pe_tup (pa_cons (pe_bltn (v := .ty "list") (by rfl) T.b_list (by decide +kernel) rfl) (pa_cons (pe_bltn (v := .ty "tuple") (by rfl) T.b_tuple (by decide +kernel) rfl) pa_nil))) pa_nil)))) (pss_one (ps_ret (pe_callTy call_tuple_of (by rfl) T.b_tuple (by decide +kernel) (pa_cons (pe_lc (own := [("part", 1)]) (g := gName 1) (tt := tYes) rfl sc_fixed.nd (pi_list (pv 0)) (blkOk_by (N := N_fixed) (sc := C8.fnScope s_fixed) (by decide +kernel)) (fun _ _ _ _ _ => (pg_name (i := 1) sc_fixed.nd rfl (Or.inl rfl))) (fun _ _ _ _ _ => pts_nil) (fun _ _ _ _ _ => (C8.pe_c c hr (Nat.le_refl _) (by rfl) (pa_cons (pv 1) pa_nil)))) pa_nil)))) pss_nil)
    (pss_one (ps_ret (pv 0)))), ?_⟩
    refine ⟨_, rfl, (by show 2 ≤ sizeLine; decide), fun tp htp => ?_⟩
    refine ⟨v, tp, _, t, _, false, rfl, upd_same, clsLT, TyX.same (same_new htp _) ht, hk, _, rfl, iteF ?_⟩
    exact ⟨_, rfl, q _ _ (same_new htp _) (.inr ⟨rfl, hs⟩)⟩
  have step : ∀ (H1 : Hp) (x : V) (Q1 : VK) (E1 : XK), Same H H1 → x ∈ xs → (∀ y H4, Same H1 H4 → Selfy y → Q1 y H4) → spFixed K n [x] H1 Q1 E1 := fun H1 x Q1 E1 e hm k1 => ⟨x, rfl, Nest.same e n (hall x hm), fun y H4 e4 f4 => k1 y H4 e4 f4.selfy⟩
  rcases hx with hx | hx
  · refine ⟨_, (pss_cons (ps_if (pt_val (pe_callB call_isiT (by rfl) T.b_isinstance (by decide +kernel) (pa_cons (pv 0) (pa_cons (pe_tup (pa_cons (pe_bltn (v := .ty "list") (by rfl) T.b_list (by decide +kernel) rfl) (pa_cons (pe_bltn (v := .ty "tuple") (by rfl) T.b_tuple (by decide +kernel) rfl) pa_nil))) pa_nil)))) (pss_one (ps_ret (pe_callTy call_tuple_of (by rfl) T.b_tuple (by decide +kernel) (pa_cons (pe_lc (own := [("part", 1)]) (g := gName 1) (tt := tYes) rfl sc_fixed.nd (pi_list (pv 0)) (blkOk_by (N := N_fixed) (sc := C8.fnScope s_fixed) (by decide +kernel)) (fun _ _ _ _ _ => (pg_name (i := 1) sc_fixed.nd rfl (Or.inl rfl))) (fun _ _ _ _ _ => pts_nil) (fun _ _ _ _ _ => (C8.pe_c c hr (Nat.le_refl _) (by rfl) (pa_cons (pv 1) pa_nil)))) pa_nil)))) pss_nil)
    (pss_one (ps_ret (pv 0)))), ?_⟩
    refine ⟨_, rfl, (by show 2 ≤ sizeLine; decide), fun tp htp => ?_⟩
    have e0 := same_new htp (.tup [.ty "list", .ty "tuple"])
    refine ⟨_, tp, _, _, _, true, rfl, upd_same, clsLT, tyx_L (e0.seq hx), kit_lt, _, rfl, iteT ?_⟩
    refine ⟨_, rfl, a, rfl, ⟨_, e0.seq hx⟩, fun D hD => lc_acc (K := K) (fun i acc _ => acc.length = i ∧ ∀ y ∈ acc, Selfy y) (e0.seq hx) hD (by omega) (fun _ _ _ _ _ h => h) ⟨rfl, fun y hy => nomatch hy⟩ ?_ ?_⟩
    · intro i x acc H1 Kc Nc hi e _ p h1 _
      refine ⟨rfl, _, rfl, ?_⟩
      exact step H1 x _ C8.E0 (e0.trans e) (List.mem_of_getElem? hi) fun y H4 e4 s4 => h1 y H4 e4 ⟨by rw [List.length_append, p.1]; rfl, fun z hz => (List.mem_append.mp hz).elim (p.2 z) fun hz => by
        rw [List.mem_singleton.mp hz]
        exact s4⟩
    · intro acc H1 e hD1 _ p
      refine ⟨D, acc, rfl, .inl ⟨SqL.of hD1, fun l hl1 => ?_⟩⟩
      exact q _ _ ((e0.trans e).trans (same_new hl1 _)) (.inl ⟨a, xs, l, acc, rfl, .inl hx, rfl, upd_same, p.1, p.2⟩)
  · refine ⟨_, (pss_cons (ps_if (pt_val (pe_callB call_isiT (by rfl) T.b_isinstance (by decide +kernel) (pa_cons (pv 0) (pa_cons (pe_tup (pa_cons (pe_bltn (v := .ty "list") (by rfl) T.b_list (by decide +kernel) rfl) (pa_cons (pe_bltn (v := .ty "tuple") (by rfl) T.b_tuple (by decide +kernel) rfl) pa_nil))) pa_nil)))) (pss_one (ps_ret (pe_callTy call_tuple_of (by rfl) T.b_tuple (by decide +kernel) (pa_cons (pe_lc (own := [("part", 1)]) (g := gName 1) (tt := tYes) rfl sc_fixed.nd (pi_tup (pv 0)) (blkOk_by (N := N_fixed) (sc := C8.fnScope s_fixed) (by decide +kernel)) (fun _ _ _ _ _ => (pg_name (i := 1) sc_fixed.nd rfl (Or.inl rfl))) (fun _ _ _ _ _ => pts_nil) (fun _ _ _ _ _ => (C8.pe_c c hr (Nat.le_refl _) (by rfl) (pa_cons (pv 1) pa_nil)))) pa_nil)))) pss_nil)
    (pss_one (ps_ret (pv 0)))), ?_⟩
    refine ⟨_, rfl, (by show 2 ≤ sizeLine; decide), fun tp htp => ?_⟩
    have e0 := same_new htp (.tup [.ty "list", .ty "tuple"])
    refine ⟨_, tp, _, _, _, true, rfl, upd_same, clsLT, tyx_T (same_seqT e0 hx), kit_tt, _, rfl, iteT ?_⟩
    refine ⟨_, rfl, a, rfl, ⟨_, same_seqT e0 hx⟩, fun D hD => lc_accT (K := K) (fun i acc _ => acc.length = i ∧ ∀ y ∈ acc, Selfy y) (same_seqT e0 hx) hD (by omega) (fun _ _ _ _ _ h => h) ⟨rfl, fun y hy => nomatch hy⟩ ?_ ?_⟩
    · intro i x acc H1 Kc Nc hi e _ p h1 _
      refine ⟨rfl, _, rfl, ?_⟩
      exact step H1 x _ C8.E0 (e0.trans e) (List.mem_of_getElem? hi) fun y H4 e4 s4 => h1 y H4 e4 ⟨by rw [List.length_append, p.1]; rfl, fun z hz => (List.mem_append.mp hz).elim (p.2 z) fun hz => by
        rw [List.mem_singleton.mp hz]
        exact s4⟩
    · intro acc H1 e hD1 _ p
      refine ⟨D, acc, rfl, .inl ⟨SqL.of hD1, fun l hl1 => ?_⟩⟩
      exact q _ _ ((e0.trans e).trans (same_new hl1 _)) (.inl ⟨a, xs, l, acc, rfl, .inr hx, rfl, upd_same, p.1, p.2⟩)
end
end My


set_option Elab.async false
set_option linter.all false
set_option maxRecDepth 100000
namespace My
open PySem PySem.Spec PyProof.Rows L2
theorem Nest.updIns {K : PySem.W.Frag} {H : Hp} {a C dx : Addr} {fs gs : List (Str × V)} (ha : H a = some (.ins C dx fs)) : ∀ (n : Nat) {v : V}, Nest K H n v → Nest K (upd H a (.ins C dx gs)) n v
  | 0, _, h => h
  | n + 1, v, h => by
    have other : ∀ {b : Addr} {o : HO}, H b = some o → (∀ C' d' f', o ≠ .ins C' d' f') → (upd H a (.ins C dx gs)) b = some o := fun {b o} hb no => by
      rw [upd_ne (ne_of hb ha (no _ _ _))]
      exact hb
    rcases h with ⟨s, t, ht, k⟩ | ⟨l, xs, rfl, h, hl, hx⟩
    · refine .inl ⟨s, t, ?_, k⟩
      cases ht with
      | base b =>
        cases b with
        | non => exact .base .non
        | bl x => exact .base (.bl x)
        | int i => exact .base (.int i)
        | str x => exact .base (.str x)
        | flt x => exact .base (.flt x)
        | lst h => exact .base (.lst (other h fun _ _ _ z => nomatch z))
        | frz h => exact .base (.frz (other h fun _ _ _ z => nomatch z))
        | tup h => exact .base (.tup (other h fun _ _ _ z => nomatch z))
        | dK h => exact .base (.dK (other h fun _ _ _ z => nomatch z))
        | dT h => exact .base (.dT (other h fun _ _ _ z => nomatch z))
        | @ins b C' d' f' h cl hc hn htk hm =>
          by_cases e : b = a
          · subst e
            rw [ha] at h
            cases h
            exact .base (.ins upd_same cl hc hn htk hm)
          · exact .base (.ins (by rw [upd_ne e]; exact h) cl hc hn htk hm)
      | byt b => exact .byt b
      | set h => exact .set (other h fun _ _ _ z => nomatch z)
      | kList h c => exact .kList h c
      | kTuple h c => exact .kTuple h c
      | kDict h c => exact .kDict h c
      | fTuple h => exact .fTuple (other h fun _ _ _ z => nomatch z)
      | fDict h => exact .fDict (other h fun _ _ _ z => nomatch z)
    · refine .inr ⟨l, xs, rfl, ?_, hl, fun x m => Nest.updIns ha n (hx x m)⟩
      rcases h with ((h | ⟨o, h⟩) | h) | ((h | ⟨o, h⟩) | h)
      · exact .inl (.inl (.inl (other h fun _ _ _ z => nomatch z)))
      · exact .inl (.inl (.inr ⟨o, other h fun _ _ _ z => nomatch z⟩))
      · exact .inl (.inr h)
      · exact .inr (.inl (.inl (other h fun _ _ _ z => nomatch z)))
      · exact .inr (.inl (.inr ⟨o, other h fun _ _ _ z => nomatch z⟩))
      · exact .inr (.inr h)
theorem Nest.selfy {K : PySem.W.Frag} {H : Hp} {n : Nat} {v : V} (h : Nest K H n v) : Selfy v := by
  cases n with
  | zero => exact h.elim
  | succ n =>
    rcases h with ⟨s, _⟩ | ⟨a, xs, rfl, _⟩
    · exact s
    · exact .inr ⟨a, rfl⟩
/-- what the written part says of the class Paper -/
structure PapC (K : PySem.W.Frag) (mg : Str → Option Value) (C fi fe : Addr) : Prop where
  cl : Cls K C
  nW : NoAttr K C "word"
  nP : NoAttr K C "parts"
  own : OwnEq K C fe
  made : Mk K C fi
  mgC : mg "Paper" = some (.ref C)
section
variable {P : Program} {w : World} {K : PySem.W.Frag} {mg : Str → Option Value} {base : Heap}
theorem cal_none {x : Str} {st : Stmt} {ps : List Str} {sp : Sp} (D : DefB K mg x st ps) (no : ∀ vs H Q E, ¬ sp vs H Q E) : C8.Cal P w K mg base 0 x sp [] := by
  obtain ⟨f, fd, F, b⟩ := D
  exact ⟨f, fd, ps, [], ⟨fun vs H Q E h => absurd h (no vs H Q E), fun A outer s H args us vs Q E _ _ _ _ h => absurd h (no vs H Q E)⟩, F.mgf, F.kp, b, .nil⟩
theorem ok_fixedN (T : Txt K mg) (D : DefB K mg "fixed" s_fixed P_fixed) : ∀ n : Nat, C8.Cal P w K mg base n "fixed" (spFixed K n) []
  | 0 => cal_none D fun vs H Q E h => by
    obtain ⟨v, _, hn, _⟩ := h
    exact hn
  | n + 1 => ok_fixed T D (ok_fixedN T D n)
abbrev s_is_same : Stmt := topS 26
abbrev N_is_same : List Str := ["one", "other"]
abbrev P_is_same : List Str := ["one", "other"]
theorem sc_is_same : FnScope N_is_same P_is_same (C8.fnScope s_is_same) := C8.fnScope_by (by decide +kernel)
theorem ok_is_same {C fi fe : Addr} {k : Nat} (T : Txt K mg) (PC : PapC K mg C fi fe) (b_type : mg "type" = none) (D : DefB K mg "is_same" s_is_same P_is_same) : C8.Cal P w K mg base (k + 1) "is_same" (spEq (SelfR K C)) [] := by
  refine calB D sc_is_same (fun vs H Q E h => ?_) (fun f cdv A outer s H vs Q E hr h => ?_)
  · obtain ⟨a, b, rfl, _⟩ := h
    rfl
  obtain ⟨a, b, rfl, ⟨e, z, ys, hp⟩, q⟩ := h
  subst e
  obtain ⟨dx, qp, h1, h2, h3⟩ := id hp
  refine ⟨_, (pss_one (ps_ret (pe_and (pe_cmpR op_is_cls (pe_callTy cr_type (by rfl) b_type (by decide +kernel) (pa_cons (pv 0) pa_nil)) (pe_callTy cr_type (by rfl) b_type (by decide +kernel) (pa_cons (pv 1) pa_nil)) (nomark _)) (pe_and (pe_cmpR op_eq (pe_fld (pv 0) rfl) (pe_fld (pv 1) rfl) (nomark _)) (pe_one (pe_cmpR (op_eqS hr.units) (pe_fld (pv 0) rfl) (pe_fld (pv 1) rfl) (nomark _))))))), ?_⟩
  refine ⟨_, rfl, a, C, dx, _, rfl, h1, _, rfl, a, C, dx, _, rfl, h1, C, C, rfl, rfl, .inl rfl, true, (by show V.bl (decide (C = C)) = V.bl true; rw [decide_eq_true rfl]), iteT ?_⟩
  refine ⟨_, rfl, a, C, dx, _, _, rfl, h1, PC.cl, PC.nW, rfl, _, rfl, a, C, dx, _, _, rfl, h1, PC.cl, PC.nW, rfl, rfl, true, (by rw [decide_eq_true rfl]), iteT ?_⟩
  refine ⟨_, rfl, a, C, dx, _, _, rfl, h1, PC.cl, PC.nP, rfl, _, rfl, a, C, dx, _, _, rfl, h1, PC.cl, PC.nP, rfl, qp, qp, ys, rfl, rfl, .inr ⟨SqT.of h2, SqT.of h2⟩, h3, ?_⟩
  exact q H fun _ _ h => h
abbrev s_pinit : Stmt := inClass (topS 27) 0
abbrev s_peq : Stmt := inClass (topS 27) 1
theorem sc_pinit : FnScope ["self", "word", "parts"] ((["self", "word"] : List Str) ++ (["parts"] : List Str)) (C8.fnScope s_pinit) := C8.fnScope_by (by decide +kernel)
theorem sc_peq : FnScope ["self", "other"] ["self", "other"] (C8.fnScope s_peq) := C8.fnScope_by (by decide +kernel)
def spPinit (K : PySem.W.Frag) (C : Addr) : Sp := fun vs H Q _ => ∃ (a dx p : Addr) (z : Str) (rest : List V), vs = [.ref a, .str z, .ref p] ∧ H a = some (.ins C dx []) ∧ H p = some (.tup rest) ∧ rest.length ≤ 10 ∧ (∀ x ∈ rest, Nest K H 3 x) ∧
  ∀ H', Keep a H H' → PaperAt K H' a C (.str z) [] ∨ (∃ ys, PaperAt K H' a C (.str z) ys) → Q .non H'
theorem ok_pinit {C fi fe : Addr} {fd : FuncData} (T : Txt K mg) (PC : PapC K mg C fi fe) (F : Fun K "__init__" "Paper.__init__" s_pinit fi fd) (Df : DefB K mg "fixed" s_fixed P_fixed) :
    FnR P w K mg base CX0 5 fi (fun vs H Q E => ∃ ws rest, vs = ws ++ rest ∧ ws.length = 2 ∧ rest.length ≤ sizeLine ∧ ∀ p, H p = none → spPinit K C (ws ++ [V.ref p]) (upd H p (.tup rest)) Q E) := by
  obtain ⟨oc, od, kV, doc, pm, an, cdv, ct, osl, rfl, lk, hcd⟩ := F.ex
  refine StX.fn_star (k := 4) lk hcd sc_pinit StX.cxUp_none (fun us rest hl => StX.bind_star2 (p1 := "self") (p2 := "word") (pv := "parts") (B := fun us => bindArgs (PySem.W.fnOf "__init__" "Paper.__init__" (defArgs s_pinit) (defBody s_pinit) (defScope s_pinit) .none kV doc pm an cdv ct) ⟨us, []⟩) (fun a b => rfl) (fun a b r rs => rfl) us rest hl) fun A outer s H vs Q E hr h => ?_
  obtain ⟨a, dx, p, z, rest, rfl, ha, hp, hl, hn, q⟩ := h
  have cf := ok_fixedN (P := P) (w := w) (base := base) T Df 4
  refine ⟨_, (pss_cons (ps_fld (pv 0) (pv 1) rfl) (pss_one (ps_fld (pv 0) (C8.pe_c cf hr (Nat.le_refl _) (by rfl) (pa_cons (pv 2) pa_nil)) rfl))).nox, ?_⟩
  have nest : Nest K (upd H a (.ins C dx [("word", .str z)])) 4 (.ref p) := .inr ⟨p, rest, rfl, .inr (SqT.of (by rw [upd_ne (ne_of hp ha (fun z => nomatch z))]; exact hp)), by omega, fun x m => Nest.updIns ha 3 (hn x m)⟩
  refine ⟨_, rfl, _, rfl, a, C, dx, [], rfl, ha, PC.cl, PC.nW, (by show 0 < 1000; decide), ?_⟩
  refine ⟨_, rfl, .ref p, rfl, nest, fun v' H2 e f => ?_⟩
  have a2 := e _ _ (upd_same (H := H) (a := a) (o := .ins C dx [("word", .str z)]))
  refine ⟨_, rfl, a, C, dx, [("word", .str z)], rfl, a2, PC.cl, PC.nP, (by show 1 < 1000; decide), ?_⟩
  have fin : ∀ (r : Addr) (ys : List V), v' = .ref r → H2 r = some (.tup ys) → (∀ y ∈ ys, Selfy y) → Q .non (upd H2 a (.ins C dx (putF "parts" v' [("word", .str z)]))) := fun r ys ev hr2 hs => by
    subst ev
    refine q _ (Keep.upd ((Keep.refl (p := a)).upd.trans (Keep.of e))) (.inr ⟨ys, dx, r, upd_same, ?_, hs⟩)
    rw [upd_ne (ne_of hr2 a2 (fun z => nomatch z))]
    exact hr2
  rcases f with ⟨_, xs, r, ys, ev, hx, er, hr2, _, hs⟩ | ⟨ev, _⟩
  · exact fin r ys er hr2 hs
  · refine fin p rest ev (e _ _ (by rw [upd_ne (ne_of hp ha (fun z => nomatch z))]; exact hp)) fun y m => (hn y m).selfy
theorem ok_peq {C fi fe : Addr} {fd : FuncData} {k : Nat} (T : Txt K mg) (F : Fun K "__eq__" "Paper.__eq__" s_peq fe fd) (c : C8.Cal P w K mg base k "is_same" (spEq (SelfR K C)) []) : FnOk P w K mg base CX0 (k + 1) fe fd ["self", "other"] (spEq (SelfR K C)) := by
  refine F.ok sc_peq (fun vs H Q E h => ?_) (fun cdv A outer s H vs Q E hr h => ?_)
  · obtain ⟨a, b, rfl, _⟩ := h
    rfl
  obtain ⟨a, b, rfl, hR, q⟩ := h
  refine ⟨_, pss_one (ps_ret (C8.pe_c c hr (Nat.le_refl _) (by rfl) (pa_cons (pv 0) (pa_cons (pv 1) pa_nil)))), ?_⟩
  exact ⟨_, rfl, _, rfl, a, b, rfl, hR, q⟩
end
end My


set_option Elab.async false
set_option linter.all false
set_option maxRecDepth 100000
namespace My
open PySem PySem.Spec PyProof.Rows L2
theorem short80 : ∀ n : Fin 80, (Str.ofString (toString ((n.val : Nat) : Int))).length ≤ 10 := by decide +kernel
theorem short_of {z : Int} (h0 : 0 ≤ z) (h1 : z < 80) : (Str.ofString (toString z)).length ≤ 10 := by
  have e : ((z.toNat : Nat) : Int) = z := by omega
  have q := short80 ⟨z.toNat, by omega⟩
  rw [e] at q
  exact q
/-- the values that a law draws -/
inductive Kd (K : PySem.W.Frag) (C p : Addr) (H : Hp) : V → Prop where
  | flat {v : V} (h : flatB v = true) (s : scal v v = true) : Kd K C p H v
  | lst {a : Addr} {xs : List V} (n : a ≠ p) (h : H a = some (.lst xs)) (s : ∀ x ∈ xs, Selfy x) : Kd K C p H (.ref a)
  | tup {a : Addr} {xs : List V} (h : H a = some (.tup xs)) (s : ∀ x ∈ xs, Selfy x) : Kd K C p H (.ref a)
  | dct {a : Addr} (h : H a = some (.dK [])) : Kd K C p H (.ref a)
  | ppr {a : Addr} {z : Str} {ys : List V} (h : PaperAt K H a C (.str z) ys) : Kd K C p H (.ref a)
theorem Kd.selfy {K : PySem.W.Frag} {C p : Addr} {H : Hp} {v : V} (h : Kd K C p H v) : Selfy v := by
  cases h with
  | flat h _ => exact .inl h
  | lst => exact .inr ⟨_, rfl⟩
  | tup => exact .inr ⟨_, rfl⟩
  | dct => exact .inr ⟨_, rfl⟩
  | ppr => exact .inr ⟨_, rfl⟩
theorem Kd.same {K : PySem.W.Frag} {C p : Addr} {H H' : Hp} {v : V} (e : Same H H') (h : Kd K C p H v) : Kd K C p H' v := by
  cases h with
  | flat h s => exact .flat h s
  | lst n h s => exact .lst n (e _ _ h) s
  | tup h s => exact .tup (e _ _ h) s
  | dct h => exact .dct (e _ _ h)
  | ppr h => exact .ppr (h.same e)
theorem Kd.keep {K : PySem.W.Frag} {C p : Addr} {H H' : Hp} {v : V} {zs : List V} (hp : H p = some (.lst zs)) (e : Keep p H H') (h : Kd K C p H v) : Kd K C p H' v := by
  have ne : ∀ {b : Addr} {o : HO}, H b = some o → (∀ l, o ≠ .lst l) → H' b = some o := fun {b o} hb no => e b o hb (ne_of hb hp (no _))
  cases h with
  | flat h s => exact .flat h s
  | lst n h s => exact .lst n (e _ _ h n) s
  | tup h s => exact .tup (ne h fun _ z => nomatch z) s
  | dct h => exact .dct (ne h fun _ z => nomatch z)
  | ppr h =>
    obtain ⟨dx, q, h1, h2, h3⟩ := h
    exact .ppr ⟨dx, q, ne h1 (fun _ z => nomatch z), ne h2 (fun _ z => nomatch z), h3⟩
theorem Well.at {H : Hp} {p c : Addr} {n : Nat} (w : Well H p c n) : ∃ zs, H p = some (.lst zs) := by
  obtain ⟨_, _, _, h, _⟩ := w
  exact ⟨_, h⟩
def spValue (K : PySem.W.Frag) (C : Addr) : Sp := fun vs H Q _ => ∃ (p c : Addr) (n : Nat), vs = [.ref p] ∧ Well H p c (n + 2) ∧ ∀ v H', Kd K C p H' v → Keep p H H' → Well H' p c n → Q v H'
section
variable {P : Program} {w : World} {K : PySem.W.Frag} {mg : Str → Option Value} {base : Heap}
abbrev s__law_value : Stmt := topS 32
abbrev N__law_value : List Str := ["well", "small", "some"]
abbrev P__law_value : List Str := ["well"]
theorem sc__law_value : FnScope N__law_value P__law_value (C8.fnScope s__law_value) := C8.fnScope_by (by decide +kernel)
theorem ok__law_value {C fi fe : Addr} (T : Txt K mg) (PC : PapC K mg C fi fe) (D : DefB K mg "_law_value" s__law_value P__law_value) (c__law_pail : C8.Cal P w K mg base 1 "_law_pail" spPail []) (c__law_of : C8.Cal P w K mg base 2 "_law_of" (spOf K) [])
    (FI : FnR P w K mg base CX0 5 fi (fun vs H Q E => ∃ ws rest, vs = ws ++ rest ∧ ws.length = 2 ∧ rest.length ≤ sizeLine ∧ ∀ p, H p = none → spPinit K C (ws ++ [V.ref p]) (upd H p (.tup rest)) Q E)) : C8.Cal P w K mg base 7 "_law_value" (spValue K C) [] := by
  refine calB D sc__law_value (fun vs H Q E h => ?_) (fun f cdv A outer s H vs Q E hr h => ?_)
  · obtain ⟨p, c, n, rfl, _⟩ := h
    rfl
  obtain ⟨p, c, n, rfl, W, q⟩ := h
  have hr3 : Room (5 + 1) _ := hr
  refine ⟨_, (pss_cons (ps_set (i := 1) sc__law_value.nd rfl (Or.inl rfl) (C8.pe_c c__law_pail hr (by decide) (by rfl) (pa_cons (pv 0) (pa_cons pe_int pa_nil))))
    (pss_cons (ps_set (i := 2) sc__law_value.nd rfl (Or.inl rfl) (pe_lst (pa_cons (pv 1) (pa_cons (pe_op op_sub (pe_un un_neg (pe_op op_pow pe_int pe_int)) (pv 1)) (pa_cons (pe_op op_add_str pe_str (pe_callTy call_str_int (by rfl) T.b_str (by decide +kernel) (pa_cons (pv 1) pa_nil))) (pa_cons pe_str (pa_cons pe_non (pa_cons (pe_lst (pa_cons (pv 1) (pa_cons (pe_lst (pa_cons pe_non pa_nil)) pa_nil))) (pa_cons (pe_tup (pa_cons (pv 1) (pa_cons (pe_tup (pa_cons pe_str pa_nil)) pa_nil))) (pa_cons pe_bl (pa_cons pe_dnewK (pa_cons pe_str pa_nil))))))))))))
    (pss_one (ps_ret (C8.pe_c c__law_of hr (by decide) (by rfl) (pa_cons (pv 0) (pa_cons (pe_op op_cat (pv 2) (pe_lst (pa_cons (StX.pe_makeR PC.made FI hr3 (by rfl) PC.mgC pass0 (pa_cons pe_str (pa_cons (pe_lst (pa_cons (pv 1) pa_nil)) pa_nil))) pa_nil))) pa_nil))))))), ?_⟩
  refine ⟨_, rfl, p, c, n + 1, 80, rfl, W, by decide, by decide, fun z H1 z0 z1 k1 W1 => ?_⟩
  have hz : z.natAbs.log2 < 1920 := Nat.lt_of_lt_of_le (PySem.Flt.log2_lt_of (k := 7) (by decide) (by omega)) (by decide)
  have hs := short_of z0 z1
  refine ⟨_, rfl, _, _, rfl, rfl, ⟨by decide, by decide, by decide⟩, _, rfl, _, rfl, _, _, rfl, rfl, _, rfl, _, rfl, hz, _, _, rfl, rfl, ?_, ?_⟩
  · show 1 + (Str.ofString (toString z)).length ≤ sizeLine
    exact Nat.le_trans (Nat.add_le_add_left hs 1) (by decide)
  refine ⟨_, rfl, (by show 1 ≤ sizeLine; decide), fun l1 n1 => ⟨(by show 2 ≤ sizeLine; decide), fun l2 n2 => ?_⟩⟩
  refine ⟨_, rfl, (by show 1 ≤ sizeLine; decide), fun t1 n3 => ⟨(by show 2 ≤ sizeLine; decide), fun t2 n4 => ?_⟩⟩
  refine fun d n5 => ⟨(by show 10 ≤ sizeLine; decide), fun l n6 => ?_⟩
  -- the heap as it stands now
  have e1 := same_new n1 (.lst [.non])
  have e2 := same_new n2 (.lst [.int z, .ref l1])
  have e3 := same_new n3 (.tup [.str "x"])
  have e4 := same_new n4 (.tup [.int z, .ref t1])
  have e5 := same_new n5 (.dK [])
  have e6 := same_new n6 (.lst [.int z, .int (-(10 ^ (30 : Int).toNat) - z), .str (Str.ofString "a" ++ Str.ofString (toString z)), .str "", .non, .ref l2, .ref t2, .bl true, .ref d, .str "part"])
  have up := e1.trans (e2.trans (e3.trans (e4.trans (e5.trans e6))))
  have g2 := (e3.trans (e4.trans (e5.trans e6))) _ _ (upd_same (a := l2))
  have g4 := (e5.trans e6) _ _ (upd_same (a := t2))
  have g5 := e6 _ _ (upd_same (a := d))
  obtain ⟨zs, hp1⟩ := W1.at
  have n2p : l2 ≠ p := (ne_of_none (e1 _ _ hp1) n2).symm
  refine ⟨_, rfl, _, rfl, _, rfl, (by show 1 ≤ sizeLine; decide), fun l3 n7 => ?_⟩
  have e7 := same_new n7 (.lst [.int z])
  refine fun x dx nx ndx nex => ⟨[.ref x, .str "note"], [.ref l3], rfl, rfl, (by show 1 ≤ sizeLine; decide), fun pr npr => ?_⟩
  have nxl : l3 ≠ x := ne_of_none upd_same nx
  have nxd : l3 ≠ dx := ne_of_none upd_same ndx
  have npx : x ≠ pr := ne_of_none upd_same npr
  have npl : l3 ≠ pr := ne_of_none (by rw [upd_ne nxl, upd_ne nxd, upd_same]) npr
  refine ⟨x, dx, pr, "note", [.ref l3], rfl, (by rw [upd_ne npx, upd_same]), upd_same, (by show 1 ≤ 10; decide), fun y hy => ?_, fun H3 k3 pp => ?_⟩
  · rw [List.mem_singleton.mp hy]
    refine .inr ⟨l3, [.int z], rfl, .inl (SqL.of (by rw [upd_ne npl, upd_ne nxl, upd_ne nxd, upd_same])), (by show 1 ≤ 1000; decide), fun u hu => ?_⟩
    rw [List.mem_singleton.mp hu]
    exact .inl ⟨.inl rfl, _, .base (.int z), kitAny_cons (b := false) (kit_ty (by decide +kernel)) (fun _ => kitAny_cons (b := false) (kit_ty (by decide +kernel)) (fun _ => kitAny_nil) (fun z => nomatch z)) (fun z => nomatch z)⟩
  obtain ⟨ys, pap⟩ : ∃ ys, PaperAt K H3 x C (.str "note") ys := pp.elim (fun h => ⟨_, h⟩) id
  -- from H1 on nothing that stood there has changed
  have e8 : Same H1 H3 := fun b o hb => by
    have q1 := (up.trans e7) b o hb
    refine k3 b o ?_ (ne_of_none q1 nx)
    rw [upd_ne (ne_of_none (by rw [upd_ne (ne_of_none q1 nx), upd_ne (ne_of_none q1 ndx)]; exact q1) npr), upd_ne (ne_of_none q1 nx), upd_ne (ne_of_none q1 ndx)]
    exact q1
  have keep3 : ∀ {b : Addr} {o : HO}, _ → H3 b = some o := fun {b o} (q0 : (upd _ l3 (.lst [.int z])) b = some o) => by
    refine k3 b o ?_ (ne_of_none q0 nx)
    rw [upd_ne (ne_of_none (by rw [upd_ne (ne_of_none q0 nx), upd_ne (ne_of_none q0 ndx)]; exact q0) npr), upd_ne (ne_of_none q0 nx), upd_ne (ne_of_none q0 ndx)]
    exact q0
  have g6 := keep3 (e7 _ _ (upd_same (a := l)))
  refine ⟨rfl, (by show 1 ≤ sizeLine; decide), fun l4 n8 => ?_⟩
  have e9 := same_new n8 (.lst [.ref x])
  refine ⟨l, l4, _, _, rfl, rfl, e9 _ _ g6, upd_same, (by show 11 ≤ sizeLine; decide), fun l5 n9 => ?_⟩
  have e10 := e9.trans (same_new n9 (.lst ([.int z, .int (-(10 ^ (30 : Int).toNat) - z), .str (Str.ofString "a" ++ Str.ofString (toString z)), .str "", .non, .ref l2, .ref t2, .bl true, .ref d, .str "part"] ++ [.ref x])))
  have e11 := e8.trans e10
  have n5p : l5 ≠ p := (ne_of_none ((e8.trans e9) _ _ hp1) n9).symm
  refine ⟨p, c, l5, n, _, rfl, (W1.same e11), SqL.of upd_same, n5p, (by show 0 < 11; decide), (by show 11 ≤ 1000; decide), fun v H' hm kp W' => ?_⟩
  have hpz := e11 _ _ hp1
  have f2 := e10 _ _ (keep3 (e7 _ _ g2))
  have f4 := e10 _ _ (keep3 (e7 _ _ g4))
  have f5 := e10 _ _ (keep3 (e7 _ _ g5))
  have kd : Kd K C p (upd (upd H3 l4 (.lst [.ref x])) l5 (.lst ([.int z, .int (-(10 ^ (30 : Int).toNat) - z), .str (Str.ofString "a" ++ Str.ofString (toString z)), .str "", .non, .ref l2, .ref t2, .bl true, .ref d, .str "part"] ++ [.ref x]))) v := by
    have hm' : v ∈ ([.int z, .int (-(10 ^ (30 : Int).toNat) - z), .str (Str.ofString "a" ++ Str.ofString (toString z)), .str "", .non, .ref l2, .ref t2, .bl true, .ref d, .str "part", .ref x] : List V) := hm
    simp only [List.mem_cons, List.mem_nil_iff, or_false] at hm'
    rcases hm' with rfl | rfl | rfl | rfl | rfl | rfl | rfl | rfl | rfl | rfl | rfl
    · exact .flat rfl rfl
    · exact .flat rfl rfl
    · exact .flat rfl rfl
    · exact .flat rfl rfl
    · exact .flat rfl rfl
    · refine .lst n2p f2 fun y hy => ?_
      simp only [List.mem_cons, List.mem_nil_iff, or_false] at hy
      rcases hy with rfl | rfl
      · exact .inl rfl
      · exact .inr ⟨_, rfl⟩
    · refine .tup f4 fun y hy => ?_
      simp only [List.mem_cons, List.mem_nil_iff, or_false] at hy
      rcases hy with rfl | rfl
      · exact .inl rfl
      · exact .inr ⟨_, rfl⟩
    · exact .flat rfl rfl
    · exact .dct f5
    · exact .flat rfl rfl
    · exact .ppr (pap.same e10)
  exact q v H' (kd.keep hpz kp) ((k1.trans (Keep.of e11)).trans kp) W'
end
end My


set_option Elab.async false
set_option linter.all false
set_option maxRecDepth 100000
namespace My
open PySem PySem.Spec PyProof.Rows L2
theorem new_at {H : Hp} {p : Addr} (n : H p = none) (o : HO) : (upd H p o) p = some o := upd_same
abbrev BM : List Value := [.type "ValueError", .type "Exception", .type "BaseException", .type "object"]
structure ErT (P : Program) (w : World) (K : PySem.W.Frag) (mg : Str → Option Value) (base : Heap) (c : Nat → Addr) : Prop where
  ec : ∀ i, i < 22 → ExcC K (c i)
  iN : ∀ i, i < 22 → PySem.W.kitOne K (.ref (c i)) (.ref (c 22)) = some true
  iV : ∀ i, i < 21 → PySem.W.kitOne K (.ref (c i)) (.type "ValueError") = some true
  iB : ∀ i, i < 21 → PySem.W.kitAny K (.ref (c i)) [.type "LookupError", .type "TypeError", .type "ArithmeticError", .type "AttributeError", .type "RuntimeError"] = some false
  iM : ∀ i, i < 21 → PySem.W.kitOne K (.ref (c i)) (.ref (c 21)) = some (decide (10 ≤ i) && decide (i < 13))
  iC : ∀ i, i < 21 → ∀ j, j < 21 → PySem.W.kitOne K (.ref (c i)) (.ref (c j)) = some (decide (j = i))
  mT : PySem.W.kitAny K (.ref (c 21)) [.ref (c 10), .ref (c 11), .ref (c 12), .ref (c 13)] = some false
  g_BadPoly : ∃ u, mg "BadPoly" = some u ∧ RelV (V.ref (c 0)) u
  g_BadScheme : ∃ u, mg "BadScheme" = some u ∧ RelV (V.ref (c 1)) u
  g_BadReading : ∃ u, mg "BadReading" = some u ∧ RelV (V.ref (c 2)) u
  g_BadCurve : ∃ u, mg "BadCurve" = some u ∧ RelV (V.ref (c 3)) u
  g_BadBase : ∃ u, mg "BadBase" = some u ∧ RelV (V.ref (c 4)) u
  g_BadRows : ∃ u, mg "BadRows" = some u ∧ RelV (V.ref (c 5)) u
  g_BadRests : ∃ u, mg "BadRests" = some u ∧ RelV (V.ref (c 6)) u
  g_BadNumber : ∃ u, mg "BadNumber" = some u ∧ RelV (V.ref (c 7)) u
  g_BadDesk : ∃ u, mg "BadDesk" = some u ∧ RelV (V.ref (c 8)) u
  g_Misfit : ∃ u, mg "Misfit" = some u ∧ RelV (V.ref (c 9)) u
  g_NoPlace : ∃ u, mg "NoPlace" = some u ∧ RelV (V.ref (c 10)) u
  g_NoOffer : ∃ u, mg "NoOffer" = some u ∧ RelV (V.ref (c 11)) u
  g_NoPrime : ∃ u, mg "NoPrime" = some u ∧ RelV (V.ref (c 12)) u
  g_Twice : ∃ u, mg "Twice" = some u ∧ RelV (V.ref (c 13)) u
  g_ByZero : ∃ u, mg "ByZero" = some u ∧ RelV (V.ref (c 14)) u
  g_Beyond : ∃ u, mg "Beyond" = some u ∧ RelV (V.ref (c 15)) u
  g_Impossible : ∃ u, mg "Impossible" = some u ∧ RelV (V.ref (c 16)) u
  g_TooMany : ∃ u, mg "TooMany" = some u ∧ RelV (V.ref (c 17)) u
  g_Nothing : ∃ u, mg "Nothing" = some u ∧ RelV (V.ref (c 18)) u
  g_BadText : ∃ u, mg "BadText" = some u ∧ RelV (V.ref (c 19)) u
  g_BadLine : ∃ u, mg "BadLine" = some u ∧ RelV (V.ref (c 20)) u
  g_Missing : ∃ u, mg "Missing" = some u ∧ RelV (V.ref (c 21)) u
  g_NearError : ∃ u, mg "NearError" = some u ∧ RelV (V.ref (c 22)) u
  m_BadPoly : Mk1 P w K mg base 1 "BadPoly" (c 0) "part"
  m_BadScheme : Mk1 P w K mg base 1 "BadScheme" (c 1) "part"
  m_BadReading : Mk1 P w K mg base 1 "BadReading" (c 2) "part"
  m_BadCurve : Mk1 P w K mg base 1 "BadCurve" (c 3) "part"
  m_BadBase : Mk1 P w K mg base 1 "BadBase" (c 4) "part"
  m_BadRows : Mk1 P w K mg base 1 "BadRows" (c 5) "part"
  m_BadRests : Mk1 P w K mg base 1 "BadRests" (c 6) "part"
  m_BadNumber : Mk1 P w K mg base 1 "BadNumber" (c 7) "part"
  m_BadDesk : Mk1 P w K mg base 1 "BadDesk" (c 8) "part"
  m_Misfit : Mk1 P w K mg base 1 "Misfit" (c 9) "part"
  m_NoPlace : Mk1 P w K mg base 1 "NoPlace" (c 10) "value"
  m_NoOffer : Mk1 P w K mg base 1 "NoOffer" (c 11) "value"
  m_NoPrime : Mk1 P w K mg base 1 "NoPrime" (c 12) "value"
  m_Twice : Mk1 P w K mg base 1 "Twice" (c 13) "value"
  q_ByZero : PySem.W.excIn K (c 14) BM "ValueError.__new__" = true
  k_ByZero : PySem.W.keepIn K (.ref (c 14)) = true
  h_ByZero : mg "ByZero" = some (.ref (c 14))
  m_Beyond : Mk1 P w K mg base 1 "Beyond" (c 15) "least"
  m_Impossible : Mk1 P w K mg base 1 "Impossible" (c 16) "paper"
  m_TooMany : Mk2 P w K mg base 1 "TooMany" (c 17) "what" "most"
  q_Nothing : PySem.W.excIn K (c 18) BM "ValueError.__new__" = true
  k_Nothing : PySem.W.keepIn K (.ref (c 18)) = true
  h_Nothing : mg "Nothing" = some (.ref (c 18))
  m_BadText : Mk2 P w K mg base 1 "BadText" (c 19) "line" "item"
  m_BadLine : Mk2 P w K mg base 1 "BadLine" (c 20) "line" "error"
  m_Missing : Mk1 P w K mg base 1 "Missing" (c 21) "value"
def spClasses (c : Nat → Addr) : Sp := fun vs H Q _ => ∃ (a : Addr) (i : Nat), vs = [.ref a] ∧ ErrO H a (c i) ∧ i < 21 ∧ ∀ r H', Same H H' → H' r = some (.lst ((List.range 21).map fun j => V.bl (decide (j = i)))) → Q (.ref r) H'
def spOnly (c : Nat → Addr) : Sp := fun vs H Q _ => ∃ (a : Addr) (i : Nat), vs = [.ref a, .int (i : Int)] ∧ ErrO H a (c i) ∧ i < 21 ∧ ∀ H', Same H H' → Q (.bl true) H'
section
variable {P : Program} {w : World} {K : PySem.W.Frag} {mg : Str → Option Value} {base : Heap} {c : Nat → Addr}
abbrev s__law_classes : Stmt := topS 33
abbrev N__law_classes : List Str := ["error", "told"]
abbrev P__law_classes : List Str := ["error"]
theorem sc__law_classes : FnScope N__law_classes P__law_classes (C8.fnScope s__law_classes) := C8.fnScope_by (by decide +kernel)
theorem ok__law_classes (T : Txt K mg) (ET : ErT P w K mg base c) (D : DefB K mg "_law_classes" s__law_classes P__law_classes) : C8.Cal P w K mg base 1 "_law_classes" (spClasses c) [] := by
  refine calB D sc__law_classes (fun vs H Q E h => ?_) (fun f cdv A outer s H vs Q E hr h => ?_)
  · obtain ⟨a, i, rfl, _⟩ := h
    rfl
  obtain ⟨a, i, rfl, hE, hi, q⟩ := h
  refine ⟨_, (pss_cons (ps_set (i := 1) sc__law_classes.nd rfl (Or.inl rfl) (pe_lst (pa_cons (pe_callB call_isV (by rfl) T.b_isinstance (by decide +kernel) (pa_cons (pv 0) (pa_cons (C8.pe_gc (v := .ref (c 0)) (by rfl) ET.g_BadPoly) pa_nil))) (pa_cons (pe_callB call_isV (by rfl) T.b_isinstance (by decide +kernel) (pa_cons (pv 0) (pa_cons (C8.pe_gc (v := .ref (c 1)) (by rfl) ET.g_BadScheme) pa_nil))) (pa_cons (pe_callB call_isV (by rfl) T.b_isinstance (by decide +kernel) (pa_cons (pv 0) (pa_cons (C8.pe_gc (v := .ref (c 2)) (by rfl) ET.g_BadReading) pa_nil))) (pa_cons (pe_callB call_isV (by rfl) T.b_isinstance (by decide +kernel) (pa_cons (pv 0) (pa_cons (C8.pe_gc (v := .ref (c 3)) (by rfl) ET.g_BadCurve) pa_nil))) pa_nil))))))
    (pss_cons (ps_set (i := 1) sc__law_classes.nd rfl (Or.inl rfl) (pe_op op_cat (pv 1) (pe_lst (pa_cons (pe_callB call_isV (by rfl) T.b_isinstance (by decide +kernel) (pa_cons (pv 0) (pa_cons (C8.pe_gc (v := .ref (c 4)) (by rfl) ET.g_BadBase) pa_nil))) (pa_cons (pe_callB call_isV (by rfl) T.b_isinstance (by decide +kernel) (pa_cons (pv 0) (pa_cons (C8.pe_gc (v := .ref (c 5)) (by rfl) ET.g_BadRows) pa_nil))) (pa_cons (pe_callB call_isV (by rfl) T.b_isinstance (by decide +kernel) (pa_cons (pv 0) (pa_cons (C8.pe_gc (v := .ref (c 6)) (by rfl) ET.g_BadRests) pa_nil))) (pa_cons (pe_callB call_isV (by rfl) T.b_isinstance (by decide +kernel) (pa_cons (pv 0) (pa_cons (C8.pe_gc (v := .ref (c 7)) (by rfl) ET.g_BadNumber) pa_nil))) pa_nil)))))))
    (pss_cons (ps_set (i := 1) sc__law_classes.nd rfl (Or.inl rfl) (pe_op op_cat (pv 1) (pe_lst (pa_cons (pe_callB call_isV (by rfl) T.b_isinstance (by decide +kernel) (pa_cons (pv 0) (pa_cons (C8.pe_gc (v := .ref (c 8)) (by rfl) ET.g_BadDesk) pa_nil))) (pa_cons (pe_callB call_isV (by rfl) T.b_isinstance (by decide +kernel) (pa_cons (pv 0) (pa_cons (C8.pe_gc (v := .ref (c 9)) (by rfl) ET.g_Misfit) pa_nil))) (pa_cons (pe_callB call_isV (by rfl) T.b_isinstance (by decide +kernel) (pa_cons (pv 0) (pa_cons (C8.pe_gc (v := .ref (c 10)) (by rfl) ET.g_NoPlace) pa_nil))) (pa_cons (pe_callB call_isV (by rfl) T.b_isinstance (by decide +kernel) (pa_cons (pv 0) (pa_cons (C8.pe_gc (v := .ref (c 11)) (by rfl) ET.g_NoOffer) pa_nil))) pa_nil)))))))
    (pss_cons (ps_set (i := 1) sc__law_classes.nd rfl (Or.inl rfl) (pe_op op_cat (pv 1) (pe_lst (pa_cons (pe_callB call_isV (by rfl) T.b_isinstance (by decide +kernel) (pa_cons (pv 0) (pa_cons (C8.pe_gc (v := .ref (c 12)) (by rfl) ET.g_NoPrime) pa_nil))) (pa_cons (pe_callB call_isV (by rfl) T.b_isinstance (by decide +kernel) (pa_cons (pv 0) (pa_cons (C8.pe_gc (v := .ref (c 13)) (by rfl) ET.g_Twice) pa_nil))) (pa_cons (pe_callB call_isV (by rfl) T.b_isinstance (by decide +kernel) (pa_cons (pv 0) (pa_cons (C8.pe_gc (v := .ref (c 14)) (by rfl) ET.g_ByZero) pa_nil))) (pa_cons (pe_callB call_isV (by rfl) T.b_isinstance (by decide +kernel) (pa_cons (pv 0) (pa_cons (C8.pe_gc (v := .ref (c 15)) (by rfl) ET.g_Beyond) pa_nil))) pa_nil)))))))
    (pss_cons (ps_set (i := 1) sc__law_classes.nd rfl (Or.inl rfl) (pe_op op_cat (pv 1) (pe_lst (pa_cons (pe_callB call_isV (by rfl) T.b_isinstance (by decide +kernel) (pa_cons (pv 0) (pa_cons (C8.pe_gc (v := .ref (c 16)) (by rfl) ET.g_Impossible) pa_nil))) (pa_cons (pe_callB call_isV (by rfl) T.b_isinstance (by decide +kernel) (pa_cons (pv 0) (pa_cons (C8.pe_gc (v := .ref (c 17)) (by rfl) ET.g_TooMany) pa_nil))) (pa_cons (pe_callB call_isV (by rfl) T.b_isinstance (by decide +kernel) (pa_cons (pv 0) (pa_cons (C8.pe_gc (v := .ref (c 18)) (by rfl) ET.g_Nothing) pa_nil))) (pa_cons (pe_callB call_isV (by rfl) T.b_isinstance (by decide +kernel) (pa_cons (pv 0) (pa_cons (C8.pe_gc (v := .ref (c 19)) (by rfl) ET.g_BadText) pa_nil))) pa_nil)))))))
    (pss_one (ps_ret (pe_op op_cat (pv 1) (pe_lst (pa_cons (pe_callB call_isV (by rfl) T.b_isinstance (by decide +kernel) (pa_cons (pv 0) (pa_cons (C8.pe_gc (v := .ref (c 20)) (by rfl) ET.g_BadLine) pa_nil))) pa_nil)))))))))), ?_⟩
  have hE0 := hE
  refine ⟨_, rfl, a, c i, .ref (c 0), .ref (c 0), _, rfl, hE0, ET.ec i (by omega), .own _, ET.iC i hi 0 (by decide), _, rfl, a, c i, .ref (c 1), .ref (c 1), _, rfl, hE0, ET.ec i (by omega), .own _, ET.iC i hi 1 (by decide), _, rfl, a, c i, .ref (c 2), .ref (c 2), _, rfl, hE0, ET.ec i (by omega), .own _, ET.iC i hi 2 (by decide), _, rfl, a, c i, .ref (c 3), .ref (c 3), _, rfl, hE0, ET.ec i (by omega), .own _, ET.iC i hi 3 (by decide), (by show 4 ≤ sizeLine; decide), fun l0 n0 => ?_⟩
  have s0 := same_new n0 (.lst [.bl (decide (0 = i)), .bl (decide (1 = i)), .bl (decide (2 = i)), .bl (decide (3 = i))])
  have hL0 := upd_same (H := H) (a := l0) (o := .lst [.bl (decide (0 = i)), .bl (decide (1 = i)), .bl (decide (2 = i)), .bl (decide (3 = i))])
  have hE1 := hE.same s0
  refine ⟨_, rfl, _, rfl, a, c i, .ref (c 4), .ref (c 4), _, rfl, hE1, ET.ec i (by omega), .own _, ET.iC i hi 4 (by decide), _, rfl, a, c i, .ref (c 5), .ref (c 5), _, rfl, hE1, ET.ec i (by omega), .own _, ET.iC i hi 5 (by decide), _, rfl, a, c i, .ref (c 6), .ref (c 6), _, rfl, hE1, ET.ec i (by omega), .own _, ET.iC i hi 6 (by decide), _, rfl, a, c i, .ref (c 7), .ref (c 7), _, rfl, hE1, ET.ec i (by omega), .own _, ET.iC i hi 7 (by decide), (by show 4 ≤ sizeLine; decide), fun m1 k1 => ?_⟩
  have t1 := same_new k1 (.lst [.bl (decide (4 = i)), .bl (decide (5 = i)), .bl (decide (6 = i)), .bl (decide (7 = i))])
  refine ⟨l0, m1, _, _, rfl, rfl, t1 _ _ hL0, upd_same, (by show 8 ≤ sizeLine; decide), fun l1 n1 => ?_⟩
  have s1 := s0.trans (t1.trans (same_new n1 (.lst ([.bl (decide (0 = i)), .bl (decide (1 = i)), .bl (decide (2 = i)), .bl (decide (3 = i))] ++ [.bl (decide (4 = i)), .bl (decide (5 = i)), .bl (decide (6 = i)), .bl (decide (7 = i))]))))
  have hL1 := new_at n1 (.lst ([.bl (decide (0 = i)), .bl (decide (1 = i)), .bl (decide (2 = i)), .bl (decide (3 = i))] ++ [.bl (decide (4 = i)), .bl (decide (5 = i)), .bl (decide (6 = i)), .bl (decide (7 = i))]))
  have hE2 := hE.same s1
  refine ⟨_, rfl, _, rfl, a, c i, .ref (c 8), .ref (c 8), _, rfl, hE2, ET.ec i (by omega), .own _, ET.iC i hi 8 (by decide), _, rfl, a, c i, .ref (c 9), .ref (c 9), _, rfl, hE2, ET.ec i (by omega), .own _, ET.iC i hi 9 (by decide), _, rfl, a, c i, .ref (c 10), .ref (c 10), _, rfl, hE2, ET.ec i (by omega), .own _, ET.iC i hi 10 (by decide), _, rfl, a, c i, .ref (c 11), .ref (c 11), _, rfl, hE2, ET.ec i (by omega), .own _, ET.iC i hi 11 (by decide), (by show 4 ≤ sizeLine; decide), fun m2 k2 => ?_⟩
  have t2 := same_new k2 (.lst [.bl (decide (8 = i)), .bl (decide (9 = i)), .bl (decide (10 = i)), .bl (decide (11 = i))])
  refine ⟨l1, m2, _, _, rfl, rfl, t2 _ _ hL1, upd_same, (by show 12 ≤ sizeLine; decide), fun l2 n2 => ?_⟩
  have s2 := s1.trans (t2.trans (same_new n2 (.lst ([.bl (decide (0 = i)), .bl (decide (1 = i)), .bl (decide (2 = i)), .bl (decide (3 = i)), .bl (decide (4 = i)), .bl (decide (5 = i)), .bl (decide (6 = i)), .bl (decide (7 = i))] ++ [.bl (decide (8 = i)), .bl (decide (9 = i)), .bl (decide (10 = i)), .bl (decide (11 = i))]))))
  have hL2 := new_at n2 (.lst ([.bl (decide (0 = i)), .bl (decide (1 = i)), .bl (decide (2 = i)), .bl (decide (3 = i)), .bl (decide (4 = i)), .bl (decide (5 = i)), .bl (decide (6 = i)), .bl (decide (7 = i))] ++ [.bl (decide (8 = i)), .bl (decide (9 = i)), .bl (decide (10 = i)), .bl (decide (11 = i))]))
  have hE3 := hE.same s2
  refine ⟨_, rfl, _, rfl, a, c i, .ref (c 12), .ref (c 12), _, rfl, hE3, ET.ec i (by omega), .own _, ET.iC i hi 12 (by decide), _, rfl, a, c i, .ref (c 13), .ref (c 13), _, rfl, hE3, ET.ec i (by omega), .own _, ET.iC i hi 13 (by decide), _, rfl, a, c i, .ref (c 14), .ref (c 14), _, rfl, hE3, ET.ec i (by omega), .own _, ET.iC i hi 14 (by decide), _, rfl, a, c i, .ref (c 15), .ref (c 15), _, rfl, hE3, ET.ec i (by omega), .own _, ET.iC i hi 15 (by decide), (by show 4 ≤ sizeLine; decide), fun m3 k3 => ?_⟩
  have t3 := same_new k3 (.lst [.bl (decide (12 = i)), .bl (decide (13 = i)), .bl (decide (14 = i)), .bl (decide (15 = i))])
  refine ⟨l2, m3, _, _, rfl, rfl, t3 _ _ hL2, upd_same, (by show 16 ≤ sizeLine; decide), fun l3 n3 => ?_⟩
  have s3 := s2.trans (t3.trans (same_new n3 (.lst ([.bl (decide (0 = i)), .bl (decide (1 = i)), .bl (decide (2 = i)), .bl (decide (3 = i)), .bl (decide (4 = i)), .bl (decide (5 = i)), .bl (decide (6 = i)), .bl (decide (7 = i)), .bl (decide (8 = i)), .bl (decide (9 = i)), .bl (decide (10 = i)), .bl (decide (11 = i))] ++ [.bl (decide (12 = i)), .bl (decide (13 = i)), .bl (decide (14 = i)), .bl (decide (15 = i))]))))
  have hL3 := new_at n3 (.lst ([.bl (decide (0 = i)), .bl (decide (1 = i)), .bl (decide (2 = i)), .bl (decide (3 = i)), .bl (decide (4 = i)), .bl (decide (5 = i)), .bl (decide (6 = i)), .bl (decide (7 = i)), .bl (decide (8 = i)), .bl (decide (9 = i)), .bl (decide (10 = i)), .bl (decide (11 = i))] ++ [.bl (decide (12 = i)), .bl (decide (13 = i)), .bl (decide (14 = i)), .bl (decide (15 = i))]))
  have hE4 := hE.same s3
  refine ⟨_, rfl, _, rfl, a, c i, .ref (c 16), .ref (c 16), _, rfl, hE4, ET.ec i (by omega), .own _, ET.iC i hi 16 (by decide), _, rfl, a, c i, .ref (c 17), .ref (c 17), _, rfl, hE4, ET.ec i (by omega), .own _, ET.iC i hi 17 (by decide), _, rfl, a, c i, .ref (c 18), .ref (c 18), _, rfl, hE4, ET.ec i (by omega), .own _, ET.iC i hi 18 (by decide), _, rfl, a, c i, .ref (c 19), .ref (c 19), _, rfl, hE4, ET.ec i (by omega), .own _, ET.iC i hi 19 (by decide), (by show 4 ≤ sizeLine; decide), fun m4 k4 => ?_⟩
  have t4 := same_new k4 (.lst [.bl (decide (16 = i)), .bl (decide (17 = i)), .bl (decide (18 = i)), .bl (decide (19 = i))])
  refine ⟨l3, m4, _, _, rfl, rfl, t4 _ _ hL3, upd_same, (by show 20 ≤ sizeLine; decide), fun l4 n4 => ?_⟩
  have s4 := s3.trans (t4.trans (same_new n4 (.lst ([.bl (decide (0 = i)), .bl (decide (1 = i)), .bl (decide (2 = i)), .bl (decide (3 = i)), .bl (decide (4 = i)), .bl (decide (5 = i)), .bl (decide (6 = i)), .bl (decide (7 = i)), .bl (decide (8 = i)), .bl (decide (9 = i)), .bl (decide (10 = i)), .bl (decide (11 = i)), .bl (decide (12 = i)), .bl (decide (13 = i)), .bl (decide (14 = i)), .bl (decide (15 = i))] ++ [.bl (decide (16 = i)), .bl (decide (17 = i)), .bl (decide (18 = i)), .bl (decide (19 = i))]))))
  have hL4 := new_at n4 (.lst ([.bl (decide (0 = i)), .bl (decide (1 = i)), .bl (decide (2 = i)), .bl (decide (3 = i)), .bl (decide (4 = i)), .bl (decide (5 = i)), .bl (decide (6 = i)), .bl (decide (7 = i)), .bl (decide (8 = i)), .bl (decide (9 = i)), .bl (decide (10 = i)), .bl (decide (11 = i)), .bl (decide (12 = i)), .bl (decide (13 = i)), .bl (decide (14 = i)), .bl (decide (15 = i))] ++ [.bl (decide (16 = i)), .bl (decide (17 = i)), .bl (decide (18 = i)), .bl (decide (19 = i))]))
  have hE5 := hE.same s4
  refine ⟨_, rfl, _, rfl, a, c i, .ref (c 20), .ref (c 20), _, rfl, hE5, ET.ec i (by omega), .own _, ET.iC i hi 20 (by decide), (by show 1 ≤ sizeLine; decide), fun m5 k5 => ?_⟩
  have t5 := same_new k5 (.lst [.bl (decide (20 = i))])
  refine ⟨l4, m5, _, _, rfl, rfl, t5 _ _ hL4, upd_same, (by show 21 ≤ sizeLine; decide), fun l5 n5 => ?_⟩
  have s5 := s4.trans (t5.trans (same_new n5 (.lst ([.bl (decide (0 = i)), .bl (decide (1 = i)), .bl (decide (2 = i)), .bl (decide (3 = i)), .bl (decide (4 = i)), .bl (decide (5 = i)), .bl (decide (6 = i)), .bl (decide (7 = i)), .bl (decide (8 = i)), .bl (decide (9 = i)), .bl (decide (10 = i)), .bl (decide (11 = i)), .bl (decide (12 = i)), .bl (decide (13 = i)), .bl (decide (14 = i)), .bl (decide (15 = i)), .bl (decide (16 = i)), .bl (decide (17 = i)), .bl (decide (18 = i)), .bl (decide (19 = i))] ++ [.bl (decide (20 = i))]))))
  exact q l5 _ s5 upd_same
abbrev s__law_is_only : Stmt := topS 34
abbrev N__law_is_only : List Str := ["error", "at", "spot"]
abbrev P__law_is_only : List Str := ["error", "at"]
theorem sc__law_is_only : FnScope N__law_is_only P__law_is_only (C8.fnScope s__law_is_only) := C8.fnScope_by (by decide +kernel)
theorem ok__law_is_only (T : Txt K mg) (ET : ErT P w K mg base c) (D : DefB K mg "_law_is_only" s__law_is_only P__law_is_only) (cc : C8.Cal P w K mg base 1 "_law_classes" (spClasses c) []) : C8.Cal P w K mg base 2 "_law_is_only" (spOnly c) [] := by
  refine calB D sc__law_is_only (fun vs H Q E h => ?_) (fun f cdv A outer s H vs Q E hr h => ?_)
  · obtain ⟨a, i, rfl, _⟩ := h
    rfl
  obtain ⟨a, i, rfl, hE, hi, q⟩ := h
  have hX := ET.ec i (by omega)
  refine ⟨_, (pss_cons (ps_if (PW.pt (pw_or (pt_not (pt_val (pe_callB call_isV (by rfl) T.b_isinstance (by decide +kernel) (pa_cons (pv 0) (pa_cons (C8.pe_gc (v := .ref (c 22)) (by rfl) ET.g_NearError) pa_nil))))) (pw_or1 (pt_not (pt_val (pe_callB call_isV (by rfl) T.b_isinstance (by decide +kernel) (pa_cons (pv 0) (pa_cons (pe_bltn (v := .ty "ValueError") (by rfl) T.b_ValueError (by decide +kernel) rfl) pa_nil)))))))) (pss_one (ps_ret pe_bl)) pss_nil)
    (pss_cons (ps_if (pt_val (pe_callB call_isVT (by rfl) T.b_isinstance (by decide +kernel) (pa_cons (pv 0) (pa_cons (pe_tup (pa_cons (pe_bltn (v := .ty "LookupError") (by rfl) T.b_LookupError (by decide +kernel) rfl) (pa_cons (pe_bltn (v := .ty "TypeError") (by rfl) T.b_TypeError (by decide +kernel) rfl) (pa_cons (pe_bltn (v := .ty "ArithmeticError") (by rfl) T.b_ArithmeticError (by decide +kernel) rfl) (pa_cons (pe_bltn (v := .ty "AttributeError") (by rfl) T.b_AttributeError (by decide +kernel) rfl) (pa_cons (pe_bltn (v := .ty "RuntimeError") (by rfl) T.b_RuntimeError (by decide +kernel) rfl) pa_nil)))))) pa_nil)))) (pss_one (ps_ret pe_bl)) pss_nil)
    (C8.pss_cut (ps_if (pt_cmpR op_ne (pe_callB call_isV (by rfl) T.b_isinstance (by decide +kernel) (pa_cons (pv 0) (pa_cons (C8.pe_gc (v := .ref (c 21)) (by rfl) ET.g_Missing) pa_nil))) (pe_chain op_le op_lt pe_int (pv 1) pe_int) (nomark _)) (pss_one (ps_ret pe_bl)) pss_nil)
    (pss_one (ps_ret (pe_cmpR (op_eqS hr.units) (C8.pe_c cc hr (by decide) (by rfl) (pa_cons (pv 0) pa_nil)) (pe_lc (own := [("spot", 2)]) (g := gName 2) (tt := tYes) rfl sc__law_is_only.nd (pi_range1 (by rfl) T.b_range (pa_cons pe_int pa_nil)) (blkOk_by (N := N__law_is_only) (sc := C8.fnScope s__law_is_only) (by decide +kernel)) (fun _ _ _ _ _ => (pg_name (i := 2) sc__law_is_only.nd rfl (Or.inl rfl))) (fun _ _ _ _ _ => pts_nil) (fun _ _ _ _ _ => (pe_cmpR op_eq (pv 2) (pv 1) (nomark _)))) (nomark _))))))), ?_⟩
  refine ⟨_, rfl, a, c i, .ref (c 22), .ref (c 22), true, rfl, hE, hX, .own _, ET.iN i (by omega), _, rfl, iteF ?_⟩
  refine ⟨_, rfl, a, c i, .ty "ValueError", .type "ValueError", true, rfl, hE, hX, .ty _, ET.iV i hi, _, rfl, iteF ?_⟩
  refine ⟨_, rfl, (by show 5 ≤ sizeLine; decide), fun tp np => ?_⟩
  have e0 := same_new np (.tup [.ty "LookupError", .ty "TypeError", .ty "ArithmeticError", .ty "AttributeError", .ty "RuntimeError"])
  refine ⟨a, c i, tp, _, _, false, rfl, hE.same e0, hX, upd_same, .cons (.ty _) (.cons (.ty _) (.cons (.ty _) (.cons (.ty _) (.cons (.ty _) .nil)))), ET.iB i hi, _, rfl, iteF ?_⟩
  have hE1 := hE.same e0
  refine ⟨fun σ' H' => σ' = [some (.ref a), some (.int (i : Int)), none] ∧ Same H H', ?_, ?_⟩
  · refine ⟨_, rfl, a, c i, .ref (c 21), .ref (c 21), _, rfl, hE1, hX, .own _, ET.iM i hi, _, rfl, _, _, rfl, rfl, _, rfl, ?_⟩
    refine ite2 (fun c1 => ?_) (fun c1 => ?_)
    · refine ⟨_, _, rfl, rfl, rfl, _, rfl, ?_⟩
      have h10 : (10 : Int) ≤ (i : Int) := of_decide_eq_true c1
      exact iteNS (by show V.bl _ = V.bl _; rw [decide_eq_true (by omega : 10 ≤ i), Bool.true_and]; exact congrArg V.bl (decide_eq_decide.mpr (by omega))) ⟨rfl, e0⟩
    · refine ⟨rfl, _, rfl, ?_⟩
      have h10 : ¬ (10 : Int) ≤ (i : Int) := of_decide_eq_false (Bool.eq_false_iff.mpr c1)
      exact iteNS (by rw [decide_eq_false (by omega : ¬ 10 ≤ i), Bool.false_and]) ⟨rfl, e0⟩
  rintro σ' H1 ⟨rfl, e1⟩
  refine ⟨_, rfl, a, i, rfl, hE.same e1, hi, fun r H2 e2 hr2 => ?_⟩
  refine ⟨21, rfl, by decide, by decide, fun D hD => lc_accR (lo := 0) (n := 21) (fun k acc _ => acc = (List.range k).map fun j => V.bl (decide (j = i))) hD (by decide) (fun _ _ _ _ _ h => h) rfl ?_ ?_⟩
  · intro k acc H3 Kc Nc hk e3 _ p h1 _
    refine ⟨rfl, _, rfl, _, rfl, rfl, h1 _ H3 (Same.refl _) ?_⟩
    rw [p, List.range_succ, List.map_append]
    refine congrArg (List.map (fun j => V.bl (decide (j = i))) (List.range k) ++ ·) (congrArg (fun b => [V.bl b]) ?_)
    rw [dec_int]
    exact Bool.eq_iff_iff.mpr ⟨fun z => decide_eq_true (by have := beq_iff_eq.mp z; omega), fun z => beq_iff_eq.mpr (by have := of_decide_eq_true z; omega)⟩
  · intro acc H3 e3 hD3 _ p
    refine ⟨r, D, acc, rfl, rfl, .inl ⟨SqL.of ?_, SqL.of hD3⟩, fun v hv => ?_, q _ (e1.trans (e2.trans e3))⟩
    · rw [p]
      exact e3 _ _ hr2
    · rw [p] at hv
      obtain ⟨j, _, rfl⟩ := List.mem_map.mp hv
      exact .inl rfl
end
end My


set_option Elab.async false
set_option linter.all false
set_option maxRecDepth 100000
namespace My
open PySem PySem.Spec PyProof.Rows L2
def fnOf (j : Nat) : Str := if j < 10 then "part" else "value"
def spMade (c : Nat → Addr) : Sp := fun vs H Q _ => ∃ v, vs = [v] ∧ ∀ (r : Addr) (ad : Nat → Addr) (H' : Hp), Same H H' → H' r = some (.lst ((List.range 14).map fun j => V.ref (ad j))) → (∀ j, j < 14 → ErrAt H' (ad j) (c j) [(fnOf j, v)]) → Q (.ref r) H'
section
variable {P : Program} {w : World} {K : PySem.W.Frag} {mg : Str → Option Value} {base : Heap} {c : Nat → Addr}
abbrev s__law_by_place : Stmt := topS 35
abbrev N__law_by_place : List Str := ["one", "made"]
abbrev P__law_by_place : List Str := ["one"]
theorem sc__law_by_place : FnScope N__law_by_place P__law_by_place (C8.fnScope s__law_by_place) := C8.fnScope_by (by decide +kernel)
theorem ok__law_by_place (T : Txt K mg) (ET : ErT P w K mg base c) (D : DefB K mg "_law_by_place" s__law_by_place P__law_by_place) : C8.Cal P w K mg base 3 "_law_by_place" (spMade c) [] := by
  refine calB D sc__law_by_place (fun vs H Q E h => ?_) (fun f cdv A outer s H vs Q E hr h => ?_)
  · obtain ⟨v, rfl, _⟩ := h
    rfl
  obtain ⟨v, rfl, q⟩ := h
  refine ⟨_, (pss_cons (ps_set (i := 1) sc__law_by_place.nd rfl (Or.inl rfl) (pe_lst (pa_cons (pe_e1 ET.m_BadPoly hr (by decide) (by rfl) (pa_cons (pv 0) pa_nil)) (pa_cons (pe_e1 ET.m_BadScheme hr (by decide) (by rfl) (pa_cons (pv 0) pa_nil)) (pa_cons (pe_e1 ET.m_BadReading hr (by decide) (by rfl) (pa_cons (pv 0) pa_nil)) (pa_cons (pe_e1 ET.m_BadCurve hr (by decide) (by rfl) (pa_cons (pv 0) pa_nil)) (pa_cons (pe_e1 ET.m_BadBase hr (by decide) (by rfl) (pa_cons (pv 0) pa_nil)) (pa_cons (pe_e1 ET.m_BadRows hr (by decide) (by rfl) (pa_cons (pv 0) pa_nil)) (pa_cons (pe_e1 ET.m_BadRests hr (by decide) (by rfl) (pa_cons (pv 0) pa_nil)) pa_nil)))))))))
    (pss_one (ps_ret (pe_op op_cat (pv 1) (pe_lst (pa_cons (pe_e1 ET.m_BadNumber hr (by decide) (by rfl) (pa_cons (pv 0) pa_nil)) (pa_cons (pe_e1 ET.m_BadDesk hr (by decide) (by rfl) (pa_cons (pv 0) pa_nil)) (pa_cons (pe_e1 ET.m_Misfit hr (by decide) (by rfl) (pa_cons (pv 0) pa_nil)) (pa_cons (pe_e1 ET.m_NoPlace hr (by decide) (by rfl) (pa_cons (pv 0) pa_nil)) (pa_cons (pe_e1 ET.m_NoOffer hr (by decide) (by rfl) (pa_cons (pv 0) pa_nil)) (pa_cons (pe_e1 ET.m_NoPrime hr (by decide) (by rfl) (pa_cons (pv 0) pa_nil)) (pa_cons (pe_e1 ET.m_Twice hr (by decide) (by rfl) (pa_cons (pv 0) pa_nil)) pa_nil)))))))))))), ?_⟩
  refine ⟨_, rfl, v, rfl, fun b0 H0 f0 s0 k0 => ⟨_, rfl, v, rfl, fun b1 H1 f1 s1 k1 => ⟨_, rfl, v, rfl, fun b2 H2 f2 s2 k2 => ⟨_, rfl, v, rfl, fun b3 H3 f3 s3 k3 => ⟨_, rfl, v, rfl, fun b4 H4 f4 s4 k4 => ⟨_, rfl, v, rfl, fun b5 H5 f5 s5 k5 => ⟨_, rfl, v, rfl, fun b6 H6 f6 s6 k6 => ⟨(by show 7 ≤ sizeLine; decide), fun l0 n0 => ?_⟩⟩⟩⟩⟩⟩⟩⟩
  have L0 := new_at n0 (.lst [.ref b0, .ref b1, .ref b2, .ref b3, .ref b4, .ref b5, .ref b6])
  have e0 := same_new n0 (.lst [.ref b0, .ref b1, .ref b2, .ref b3, .ref b4, .ref b5, .ref b6])
  refine ⟨_, rfl, _, rfl, v, rfl, fun b7 H7 f7 s7 k7 => ⟨_, rfl, v, rfl, fun b8 H8 f8 s8 k8 => ⟨_, rfl, v, rfl, fun b9 H9 f9 s9 k9 => ⟨_, rfl, v, rfl, fun b10 H10 f10 s10 k10 => ⟨_, rfl, v, rfl, fun b11 H11 f11 s11 k11 => ⟨_, rfl, v, rfl, fun b12 H12 f12 s12 k12 => ⟨_, rfl, v, rfl, fun b13 H13 f13 s13 k13 => ⟨(by show 7 ≤ sizeLine; decide), fun l1 n1 => ?_⟩⟩⟩⟩⟩⟩⟩⟩
  have M1 := s13 _ _ (s12 _ _ (s11 _ _ (s10 _ _ (s9 _ _ (s8 _ _ (s7 _ _ L0))))))
  have d1 := same_new n1 (.lst [.ref b7, .ref b8, .ref b9, .ref b10, .ref b11, .ref b12, .ref b13])
  refine ⟨l0, l1, _, _, rfl, rfl, d1 _ _ M1, new_at n1 _, (by show 14 ≤ sizeLine; decide), fun r1 m1 => ?_⟩
  have L1 := new_at m1 (.lst ([.ref b0, .ref b1, .ref b2, .ref b3, .ref b4, .ref b5, .ref b6] ++ [.ref b7, .ref b8, .ref b9, .ref b10, .ref b11, .ref b12, .ref b13]))
  have e1 := d1.trans (same_new m1 (.lst ([.ref b0, .ref b1, .ref b2, .ref b3, .ref b4, .ref b5, .ref b6] ++ [.ref b7, .ref b8, .ref b9, .ref b10, .ref b11, .ref b12, .ref b13])))
  have u14 := s13.trans e1
  have u13 := s12.trans u14
  have u12 := s11.trans u13
  have u11 := s10.trans u12
  have u10 := s9.trans u11
  have u9 := s8.trans u10
  have u8 := s7.trans u9
  have u7 := e0.trans u8
  have u6 := s6.trans u7
  have u5 := s5.trans u6
  have u4 := s4.trans u5
  have u3 := s3.trans u4
  have u2 := s2.trans u3
  have u1 := s1.trans u2
  have u0 := s0.trans u1
  refine q r1 (fun j => [b0, b1, b2, b3, b4, b5, b6, b7, b8, b9, b10, b11, b12, b13].getD j 0) _ u0 L1 fun j hj => ?_
  match j, hj with
  | 0, _ => exact k0.same u1
  | 1, _ => exact k1.same u2
  | 2, _ => exact k2.same u3
  | 3, _ => exact k3.same u4
  | 4, _ => exact k4.same u5
  | 5, _ => exact k5.same u6
  | 6, _ => exact k6.same u7
  | 7, _ => exact k7.same u9
  | 8, _ => exact k8.same u10
  | 9, _ => exact k9.same u11
  | 10, _ => exact k10.same u12
  | 11, _ => exact k11.same u13
  | 12, _ => exact k12.same u14
  | 13, _ => exact k13.same e1
  | j + 14, hj => omega
abbrev s__law_by_name : Stmt := topS 36
abbrev N__law_by_name : List Str := ["one", "made"]
abbrev P__law_by_name : List Str := ["one"]
theorem sc__law_by_name : FnScope N__law_by_name P__law_by_name (C8.fnScope s__law_by_name) := C8.fnScope_by (by decide +kernel)
theorem ok__law_by_name (T : Txt K mg) (ET : ErT P w K mg base c) (D : DefB K mg "_law_by_name" s__law_by_name P__law_by_name) : C8.Cal P w K mg base 3 "_law_by_name" (spMade c) [] := by
  refine calB D sc__law_by_name (fun vs H Q E h => ?_) (fun f cdv A outer s H vs Q E hr h => ?_)
  · obtain ⟨v, rfl, _⟩ := h
    rfl
  obtain ⟨v, rfl, q⟩ := h
  refine ⟨_, (pss_cons (ps_set (i := 1) sc__law_by_name.nd rfl (Or.inl rfl) (pe_lst (pa_cons (pe_e1k ET.m_BadPoly hr (by decide) (by rfl) (pk_cons (pv 0) pk_nil)) (pa_cons (pe_e1k ET.m_BadScheme hr (by decide) (by rfl) (pk_cons (pv 0) pk_nil)) (pa_cons (pe_e1k ET.m_BadReading hr (by decide) (by rfl) (pk_cons (pv 0) pk_nil)) (pa_cons (pe_e1k ET.m_BadCurve hr (by decide) (by rfl) (pk_cons (pv 0) pk_nil)) (pa_cons (pe_e1k ET.m_BadBase hr (by decide) (by rfl) (pk_cons (pv 0) pk_nil)) pa_nil)))))))
    (pss_cons (ps_set (i := 1) sc__law_by_name.nd rfl (Or.inl rfl) (pe_op op_cat (pv 1) (pe_lst (pa_cons (pe_e1k ET.m_BadRows hr (by decide) (by rfl) (pk_cons (pv 0) pk_nil)) (pa_cons (pe_e1k ET.m_BadRests hr (by decide) (by rfl) (pk_cons (pv 0) pk_nil)) (pa_cons (pe_e1k ET.m_BadNumber hr (by decide) (by rfl) (pk_cons (pv 0) pk_nil)) (pa_cons (pe_e1k ET.m_BadDesk hr (by decide) (by rfl) (pk_cons (pv 0) pk_nil)) (pa_cons (pe_e1k ET.m_Misfit hr (by decide) (by rfl) (pk_cons (pv 0) pk_nil)) pa_nil))))))))
    (pss_one (ps_ret (pe_op op_cat (pv 1) (pe_lst (pa_cons (pe_e1k ET.m_NoPlace hr (by decide) (by rfl) (pk_cons (pv 0) pk_nil)) (pa_cons (pe_e1k ET.m_NoOffer hr (by decide) (by rfl) (pk_cons (pv 0) pk_nil)) (pa_cons (pe_e1k ET.m_NoPrime hr (by decide) (by rfl) (pk_cons (pv 0) pk_nil)) (pa_cons (pe_e1k ET.m_Twice hr (by decide) (by rfl) (pk_cons (pv 0) pk_nil)) pa_nil)))))))))), ?_⟩
  refine ⟨_, rfl, v, rfl, fun b0 H0 f0 s0 k0 => ⟨_, rfl, v, rfl, fun b1 H1 f1 s1 k1 => ⟨_, rfl, v, rfl, fun b2 H2 f2 s2 k2 => ⟨_, rfl, v, rfl, fun b3 H3 f3 s3 k3 => ⟨_, rfl, v, rfl, fun b4 H4 f4 s4 k4 => ⟨(by show 5 ≤ sizeLine; decide), fun l0 n0 => ?_⟩⟩⟩⟩⟩⟩
  have L0 := new_at n0 (.lst [.ref b0, .ref b1, .ref b2, .ref b3, .ref b4])
  have e0 := same_new n0 (.lst [.ref b0, .ref b1, .ref b2, .ref b3, .ref b4])
  refine ⟨_, rfl, _, rfl, v, rfl, fun b5 H5 f5 s5 k5 => ⟨_, rfl, v, rfl, fun b6 H6 f6 s6 k6 => ⟨_, rfl, v, rfl, fun b7 H7 f7 s7 k7 => ⟨_, rfl, v, rfl, fun b8 H8 f8 s8 k8 => ⟨_, rfl, v, rfl, fun b9 H9 f9 s9 k9 => ⟨(by show 5 ≤ sizeLine; decide), fun l1 n1 => ?_⟩⟩⟩⟩⟩⟩
  have M1 := s9 _ _ (s8 _ _ (s7 _ _ (s6 _ _ (s5 _ _ L0))))
  have d1 := same_new n1 (.lst [.ref b5, .ref b6, .ref b7, .ref b8, .ref b9])
  refine ⟨l0, l1, _, _, rfl, rfl, d1 _ _ M1, new_at n1 _, (by show 10 ≤ sizeLine; decide), fun r1 m1 => ?_⟩
  have L1 := new_at m1 (.lst ([.ref b0, .ref b1, .ref b2, .ref b3, .ref b4] ++ [.ref b5, .ref b6, .ref b7, .ref b8, .ref b9]))
  have e1 := d1.trans (same_new m1 (.lst ([.ref b0, .ref b1, .ref b2, .ref b3, .ref b4] ++ [.ref b5, .ref b6, .ref b7, .ref b8, .ref b9])))
  refine ⟨_, rfl, _, rfl, v, rfl, fun b10 H10 f10 s10 k10 => ⟨_, rfl, v, rfl, fun b11 H11 f11 s11 k11 => ⟨_, rfl, v, rfl, fun b12 H12 f12 s12 k12 => ⟨_, rfl, v, rfl, fun b13 H13 f13 s13 k13 => ⟨(by show 4 ≤ sizeLine; decide), fun l2 n2 => ?_⟩⟩⟩⟩⟩
  have M2 := s13 _ _ (s12 _ _ (s11 _ _ (s10 _ _ L1)))
  have d2 := same_new n2 (.lst [.ref b10, .ref b11, .ref b12, .ref b13])
  refine ⟨r1, l2, _, _, rfl, rfl, d2 _ _ M2, new_at n2 _, (by show 14 ≤ sizeLine; decide), fun r2 m2 => ?_⟩
  have L2 := new_at m2 (.lst ([.ref b0, .ref b1, .ref b2, .ref b3, .ref b4, .ref b5, .ref b6, .ref b7, .ref b8, .ref b9] ++ [.ref b10, .ref b11, .ref b12, .ref b13]))
  have e2 := d2.trans (same_new m2 (.lst ([.ref b0, .ref b1, .ref b2, .ref b3, .ref b4, .ref b5, .ref b6, .ref b7, .ref b8, .ref b9] ++ [.ref b10, .ref b11, .ref b12, .ref b13])))
  have u15 := s13.trans e2
  have u14 := s12.trans u15
  have u13 := s11.trans u14
  have u12 := s10.trans u13
  have u11 := e1.trans u12
  have u10 := s9.trans u11
  have u9 := s8.trans u10
  have u8 := s7.trans u9
  have u7 := s6.trans u8
  have u6 := s5.trans u7
  have u5 := e0.trans u6
  have u4 := s4.trans u5
  have u3 := s3.trans u4
  have u2 := s2.trans u3
  have u1 := s1.trans u2
  have u0 := s0.trans u1
  refine q r2 (fun j => [b0, b1, b2, b3, b4, b5, b6, b7, b8, b9, b10, b11, b12, b13].getD j 0) _ u0 L2 fun j hj => ?_
  match j, hj with
  | 0, _ => exact k0.same u1
  | 1, _ => exact k1.same u2
  | 2, _ => exact k2.same u3
  | 3, _ => exact k3.same u4
  | 4, _ => exact k4.same u5
  | 5, _ => exact k5.same u7
  | 6, _ => exact k6.same u8
  | 7, _ => exact k7.same u9
  | 8, _ => exact k8.same u10
  | 9, _ => exact k9.same u11
  | 10, _ => exact k10.same u13
  | 11, _ => exact k11.same u14
  | 12, _ => exact k12.same u15
  | 13, _ => exact k13.same e2
  | j + 14, hj => omega
end
end My


set_option Elab.async false
set_option linter.all false
set_option maxRecDepth 100000
namespace My
open PySem PySem.Spec PyProof.Rows L2
def Made (c : Nat → Addr) (H : Hp) (r : Addr) (v : V) : Prop := ∃ ad : Nat → Addr, H r = some (.lst ((List.range 14).map fun j => V.ref (ad j))) ∧ ∀ j, j < 14 → ErrAt H (ad j) (c j) [(fnOf j, v)]
theorem Made.same {c : Nat → Addr} {H H' : Hp} {r : Addr} {v : V} (e : Same H H') (h : Made c H r v) : Made c H' r v := by
  obtain ⟨ad, h1, h2⟩ := h
  exact ⟨ad, e _ _ h1, fun j hj => (h2 j hj).same e⟩
theorem made_at {ad : Nat → Addr} {k : Nat} {x : V} (h : ((List.range 14).map fun j => V.ref (ad j))[k]? = some x) : x = .ref (ad k) ∧ k < 14 := by
  rw [List.getElem?_map] at h
  cases e : (List.range 14)[k]? with
  | none =>
    rw [e] at h
    cases h
  | some z =>
    rw [e] at h
    have lt : k < 14 := by
      have := (List.getElem?_eq_some_iff.mp e).1
      rw [List.length_range] at this
      exact this
    have q := (List.getElem?_eq_some_iff.mp e).2
    rw [List.getElem_range] at q
    subst q
    exact ⟨(Option.some.inj h).symm, lt⟩
theorem made_ix {ad : Nat → Addr} {k : Nat} (h : k < 14) : atI ((List.range 14).map fun j => V.ref (ad j)) (k : Int) = some (.ref (ad k)) := by
  refine atI_nat ?_
  rw [List.getElem?_map, List.getElem?_range h]
  rfl
theorem kd_ne {K : PySem.W.Frag} {C p : Addr} {H : Hp} {v : V} {Q : VK} (h : Kd K C p H v) (q : ∀ H', Same H H' → Q (.bl false) H') : rNe v v H Q ∨ rNeS K v v H Q ∨ rNeT K v v H Q ∨ rNeDA v v H Q ∨ rNeP K C v v H Q := by
  cases h with
  | flat h s => exact .inl ⟨s, by rw [decide_eq_true rfl]; exact q H (Same.refl H)⟩
  | lst n h s => exact .inr (.inl ⟨_, _, _, rfl, rfl, SqL.of h, SqL.of h, s, q H (Same.refl H)⟩)
  | tup h s => exact .inr (.inr (.inl ⟨_, _, _, rfl, rfl, SqT.of h, SqT.of h, s, q H (Same.refl H)⟩))
  | dct h => exact .inr (.inr (.inr (.inl ⟨_, _, _, _, rfl, rfl, h, h, rfl, (fun _ m => nomatch m), q H (Same.refl H)⟩)))
  | ppr h => exact .inr (.inr (.inr (.inr ⟨_, _, _, rfl, rfl, h, q⟩)))
theorem kd_eq {K : PySem.W.Frag} {C p : Addr} {H : Hp} {v : V} {Q : VK} (h : Kd K C p H v) (q : ∀ H', Same H H' → Q (.bl true) H') : rEq v v H Q ∨ rEqS K v v H Q ∨ rEqDA v v H Q ∨ rEqP K C v v H Q := by
  cases h with
  | flat h s => exact .inl ⟨s, by rw [decide_eq_true rfl]; exact q H (Same.refl H)⟩
  | lst n h s => exact .inr (.inl ⟨_, _, _, rfl, rfl, .inl ⟨SqL.of h, SqL.of h⟩, s, q H (Same.refl H)⟩)
  | tup h s => exact .inr (.inl ⟨_, _, _, rfl, rfl, .inr ⟨SqT.of h, SqT.of h⟩, s, q H (Same.refl H)⟩)
  | dct h => exact .inr (.inr (.inl ⟨_, _, _, _, rfl, rfl, h, h, rfl, (fun _ m => nomatch m), q H (Same.refl H)⟩))
  | ppr h => exact .inr (.inr (.inr ⟨_, _, _, rfl, rfl, h, q⟩))
def spOne (K : PySem.W.Frag) (C : Addr) : Sp := fun vs H Q _ => ∃ (p : Addr) (v u : V), vs = [v, u] ∧ Kd K C p H v ∧ Kd K C p H u ∧ ∀ H', Same H H' → Q (.bl true) H'
section
variable {P : Program} {w : World} {K : PySem.W.Frag} {mg : Str → Option Value} {base : Heap} {c : Nat → Addr}
theorem ErT.no14 (ET : ErT P w K mg base c) : ∀ j, j < 14 → XfC K (c j) ∧ PySem.W.findIn K (.ref (c j)) (fnOf j) = some none
  | 0, _ => ⟨ET.m_BadPoly.er.xf, ET.m_BadPoly.no⟩
  | 1, _ => ⟨ET.m_BadScheme.er.xf, ET.m_BadScheme.no⟩
  | 2, _ => ⟨ET.m_BadReading.er.xf, ET.m_BadReading.no⟩
  | 3, _ => ⟨ET.m_BadCurve.er.xf, ET.m_BadCurve.no⟩
  | 4, _ => ⟨ET.m_BadBase.er.xf, ET.m_BadBase.no⟩
  | 5, _ => ⟨ET.m_BadRows.er.xf, ET.m_BadRows.no⟩
  | 6, _ => ⟨ET.m_BadRests.er.xf, ET.m_BadRests.no⟩
  | 7, _ => ⟨ET.m_BadNumber.er.xf, ET.m_BadNumber.no⟩
  | 8, _ => ⟨ET.m_BadDesk.er.xf, ET.m_BadDesk.no⟩
  | 9, _ => ⟨ET.m_Misfit.er.xf, ET.m_Misfit.no⟩
  | 10, _ => ⟨ET.m_NoPlace.er.xf, ET.m_NoPlace.no⟩
  | 11, _ => ⟨ET.m_NoOffer.er.xf, ET.m_NoOffer.no⟩
  | 12, _ => ⟨ET.m_NoPrime.er.xf, ET.m_NoPrime.no⟩
  | 13, _ => ⟨ET.m_Twice.er.xf, ET.m_Twice.no⟩
  | j + 14, hj => absurd hj (by omega)
theorem two_selfy {v u : V} (hv : Selfy v) (hu : Selfy u) : ∀ x ∈ ([v, u] : List V), Selfy x := fun x m => by
  simp only [List.mem_cons, List.mem_nil_iff, or_false] at m
  rcases m with rfl | rfl
  · exact hv
  · exact hu
abbrev s__law_one_right : Stmt := topS 37
abbrev N__law_one_right : List Str := ["one", "other", "base", "made", "again", "error", "twin", "at", "told"]
abbrev P__law_one_right : List Str := ["one", "other"]
theorem sc__law_one_right : FnScope N__law_one_right P__law_one_right (C8.fnScope s__law_one_right) := C8.fnScope_by (by decide +kernel)
theorem ok__law_one_right {C fi fe : Addr} {fde : FuncData} (T : Txt K mg) (ET : ErT P w K mg base c) (PC : PapC K mg C fi fe) (D : DefB K mg "_law_one_right" s__law_one_right P__law_one_right)
    (c__law_by_place : C8.Cal P w K mg base 3 "_law_by_place" (spMade c) []) (c__law_by_name : C8.Cal P w K mg base 3 "_law_by_name" (spMade c) []) (c__law_is_only : C8.Cal P w K mg base 2 "_law_is_only" (spOnly c) [])
    (FE : FnOk P w K mg base CX0 2 fe fde ["self", "other"] (spEq (SelfR K C))) (bE : Binds K fde ["self", "other"] []) : C8.Cal P w K mg base 4 "_law_one_right" (spOne K C) [] := by
  refine calB D sc__law_one_right (fun vs H Q E h => ?_) (fun f cdv A outer s H vs Q E hr h => ?_)
  · obtain ⟨p, v, u, rfl, _⟩ := h
    rfl
  obtain ⟨p, v, u, rfl, kv, ku, q⟩ := h
  have hu : (A.deeper (envOfC "_law_one_right" (C8.fnScope s__law_one_right) s.heap.objs.size f cdv)).units < cLine := by
    have := hr.units
    omega
  refine ⟨_, (pss_cons (ps_for PassesOwn.never rfl (pi_tup (pe_tup (pa_cons (pe_tup (pa_cons (C8.pe_c c__law_by_place hr (by decide) (by rfl) (pa_cons (pv 0) pa_nil)) (pa_cons (C8.pe_c c__law_by_name hr (by decide) (by rfl) (pa_cons (pv 1) pa_nil)) pa_nil))) (pa_cons (pe_tup (pa_cons (C8.pe_c c__law_by_name hr (by decide) (by rfl) (pa_cons (pv 0) pa_nil)) (pa_cons (C8.pe_c c__law_by_place hr (by decide) (by rfl) (pa_cons (pv 1) pa_nil)) pa_nil))) pa_nil)))) (pg_tup rfl (pgs_cons (pg_name (i := 3) sc__law_one_right.nd rfl (Or.inl rfl)) (pgs_cons (pg_name (i := 4) sc__law_one_right.nd rfl (Or.inl rfl)) pgs_nil)))
      (pss_one (ps_for PassesOwn.never rfl (pi_enum (by rfl) T.b_enumerate (pa_cons (pv 3) pa_nil)) (pg_tup rfl (pgs_cons (pg_name (i := 7) sc__law_one_right.nd rfl (Or.inl rfl)) (pgs_cons (pg_name (i := 5) sc__law_one_right.nd rfl (Or.inl rfl)) pgs_nil)))
      (C8.pss_cut (ps_set (i := 8) sc__law_one_right.nd rfl (Or.inl rfl) (pe_ifExp (pt_cmpR op_lt (pv 7) pe_int (nomark _)) (pe_lst (pa_cons (pe_errF (pv 5)) (pa_cons (pe_errF (pe_ix ix_list (pv 4) (pv 7) (fun _ _ => rfl))) pa_nil))) (pe_lst (pa_cons (pe_errF (pv 5)) (pa_cons (pe_errF (pe_ix ix_list (pv 4) (pv 7) (fun _ _ => rfl))) pa_nil)))))
    (pss_one (ps_if (PW.pt (pw_or (pt_cmpR (op_neS hr.units) (pv 8) (pe_lst (pa_cons (pv 0) (pa_cons (pv 1) pa_nil))) (nomark _)) (pw_or (pt_not (pt_val (C8.pe_c c__law_is_only hr (by decide) (by rfl) (pa_cons (pv 5) (pa_cons (pv 7) pa_nil))))) (pw_or1 (pt_not (pt_val (C8.pe_c c__law_is_only hr (by decide) (by rfl) (pa_cons (pe_ix ix_list (pv 4) (pv 7) (fun _ _ => rfl)) (pa_cons (pv 7) pa_nil))))))))) (pss_one (ps_ret pe_bl)) pss_nil))))))
    (pss_cons (ps_set (i := 2) sc__law_one_right.nd rfl (Or.inl rfl) (pe_e1k ET.m_Missing hr (by decide) (by rfl) (pk_cons (pv 0) pk_nil)))
    (pss_cons (ps_if (PW.pt (pw_or (pt_cmpR (op_or op_ne (op_or (op_neS hr.units) (op_or (op_neT hr.units) (op_or (op_ne_dictA hu) (op_neP FE PC.own bE hr (by decide)))))) (pe_errF (pv 2)) (pv 0) (nomark _)) (pw_or (pt_val (pe_callB call_isVT (by rfl) T.b_isinstance (by decide +kernel) (pa_cons (pv 2) (pa_cons (pe_tup (pa_cons (C8.pe_gc (v := .ref (c 10)) (by rfl) ET.g_NoPlace) (pa_cons (C8.pe_gc (v := .ref (c 11)) (by rfl) ET.g_NoOffer) (pa_cons (C8.pe_gc (v := .ref (c 12)) (by rfl) ET.g_NoPrime) (pa_cons (C8.pe_gc (v := .ref (c 13)) (by rfl) ET.g_Twice) pa_nil))))) pa_nil)))) (pw_or1 (pt_not (pt_val (pe_callB call_isV (by rfl) T.b_isinstance (by decide +kernel) (pa_cons (pv 2) (pa_cons (C8.pe_gc (v := .ref (c 22)) (by rfl) ET.g_NearError) pa_nil))))))))) (pss_one (ps_ret pe_bl)) pss_nil)
    (pss_cons (ps_for PassesOwn.never rfl (pi_tup (pe_tup (pa_cons (pe_tup (pa_cons (pe_e1 ET.m_Impossible hr (by decide) (by rfl) (pa_cons (pv 0) pa_nil)) (pa_cons (pe_e1k ET.m_Impossible hr (by decide) (by rfl) (pk_cons (pv 1) pk_nil)) pa_nil))) (pa_cons (pe_tup (pa_cons (pe_e1k ET.m_Impossible hr (by decide) (by rfl) (pk_cons (pv 0) pk_nil)) (pa_cons (pe_e1 ET.m_Impossible hr (by decide) (by rfl) (pa_cons (pv 1) pa_nil)) pa_nil))) pa_nil)))) (pg_tup rfl (pgs_cons (pg_name (i := 5) sc__law_one_right.nd rfl (Or.inl rfl)) (pgs_cons (pg_name (i := 6) sc__law_one_right.nd rfl (Or.inl rfl)) pgs_nil)))
      (pss_one (ps_if (PW.pt (pw_or (pt_cmpR (op_neS hr.units) (pe_lst (pa_cons (pe_errF (pv 5)) (pa_cons (pe_errF (pv 6)) pa_nil))) (pe_lst (pa_cons (pv 0) (pa_cons (pv 1) pa_nil))) (nomark _)) (pw_or (pt_not (pt_val (C8.pe_c c__law_is_only hr (by decide) (by rfl) (pa_cons (pv 5) (pa_cons pe_int pa_nil))))) (pw_or1 (pt_not (pt_val (C8.pe_c c__law_is_only hr (by decide) (by rfl) (pa_cons (pv 6) (pa_cons pe_int pa_nil))))))))) (pss_one (ps_ret pe_bl)) pss_nil)))
    (pss_cons (ps_for PassesOwn.never rfl (pi_tup (pe_tup (pa_cons (pe_tup (pa_cons (pe_e1 ET.m_Beyond hr (by decide) (by rfl) (pa_cons (pv 0) pa_nil)) (pa_cons (pe_e1k ET.m_Beyond hr (by decide) (by rfl) (pk_cons (pv 1) pk_nil)) pa_nil))) (pa_cons (pe_tup (pa_cons (pe_e1k ET.m_Beyond hr (by decide) (by rfl) (pk_cons (pv 0) pk_nil)) (pa_cons (pe_e1 ET.m_Beyond hr (by decide) (by rfl) (pa_cons (pv 1) pa_nil)) pa_nil))) pa_nil)))) (pg_tup rfl (pgs_cons (pg_name (i := 5) sc__law_one_right.nd rfl (Or.inl rfl)) (pgs_cons (pg_name (i := 6) sc__law_one_right.nd rfl (Or.inl rfl)) pgs_nil)))
      (pss_one (ps_if (PW.pt (pw_or (pt_cmpR (op_neS hr.units) (pe_lst (pa_cons (pe_errF (pv 5)) (pa_cons (pe_errF (pv 6)) pa_nil))) (pe_lst (pa_cons (pv 0) (pa_cons (pv 1) pa_nil))) (nomark _)) (pw_or (pt_not (pt_val (C8.pe_c c__law_is_only hr (by decide) (by rfl) (pa_cons (pv 5) (pa_cons pe_int pa_nil))))) (pw_or1 (pt_not (pt_val (C8.pe_c c__law_is_only hr (by decide) (by rfl) (pa_cons (pv 6) (pa_cons pe_int pa_nil))))))))) (pss_one (ps_ret pe_bl)) pss_nil)))
    (pss_one (ps_ret (pe_and (pe_cmpR (op_or op_eq (op_or (op_eqS hr.units) (op_or (op_eq_dictA hu) (op_eqP FE PC.own bE hr (by decide))))) (pe_errF (pe_e1 ET.m_Missing hr (by decide) (by rfl) (pa_cons (pv 1) pa_nil))) (pv 1) (nomark _)) (pe_and (C8.pe_c c__law_is_only hr (by decide) (by rfl) (pa_cons (pe_err0 PySem.F.excBase_ValueError ET.q_Nothing ET.h_Nothing ET.k_Nothing (by rfl)) (pa_cons pe_int pa_nil))) (pe_one (C8.pe_c c__law_is_only hr (by decide) (by rfl) (pa_cons (pe_err0 PySem.F.excBase_ValueError ET.q_ByZero ET.h_ByZero ET.k_ByZero (by rfl)) (pa_cons pe_int pa_nil))))))))))))), ?_⟩
  refine ⟨_, rfl, v, rfl, fun r1 ad1 H1 e1 l1 k1 => ⟨_, rfl, u, rfl, fun r2 ad2 H2 e2 l2 k2 => ⟨(by show 2 ≤ sizeLine; decide), fun t1 n1 => ⟨_, rfl, v, rfl, fun r3 ad3 H3 e3 l3 k3 => ⟨_, rfl, u, rfl, fun r4 ad4 H4 e4 l4 k4 => ⟨(by show 2 ≤ sizeLine; decide), fun t2 n2 => ⟨(by show 2 ≤ sizeLine; decide), fun tt n3 => ?_⟩⟩⟩⟩⟩⟩⟩
  have f1 := same_new n1 (.tup [.ref r1, .ref r2])
  have f2 := same_new n2 (.tup [.ref r3, .ref r4])
  have f3 := same_new n3 (.tup [.ref t1, .ref t2])
  obtain ⟨B, hB⟩ : ∃ B, B = upd (upd H4 t2 (.tup [.ref r3, .ref r4])) tt (.tup [.ref t1, .ref t2]) := ⟨_, rfl⟩
  have up4 : Same H4 B := by
    rw [hB]
    exact f2.trans f3
  have up2 : Same (upd H2 t1 (.tup [.ref r1, .ref r2])) B := e3.trans (e4.trans up4)
  have upH : Same H B := e1.trans (e2.trans (f1.trans up2))
  have T1 := up2 _ _ (new_at n1 (.tup [.ref r1, .ref r2]))
  have T2 : B t2 = some (.tup [.ref r3, .ref r4]) := by
    rw [hB]
    exact f3 _ _ (new_at n2 _)
  have M1 : Made c B r1 v := Made.same (e2.trans (f1.trans up2)) ⟨ad1, l1, k1⟩
  have M2 : Made c B r2 u := Made.same (f1.trans up2) ⟨ad2, l2, k2⟩
  have M3 : Made c B r3 v := Made.same (e4.trans up4) ⟨ad3, l3, k3⟩
  have M4 : Made c B r4 u := Made.same up4 ⟨ad4, l4, k4⟩
  have hsel := two_selfy kv.selfy ku.selfy
  refine ⟨tt, rfl, ⟨_, SqT.of (new_at n3 _)⟩, for_tup (K := K) (a := tt) (xs := [.ref t1, .ref t2]) (fun _ σ' H' => (∃ x2 x3 x4 x5 x6 x7 x8, σ' = [some v, some u, x2, x3, x4, x5, x6, x7, x8]) ∧ Same B H') ⟨⟨_, _, _, _, _, _, _, rfl⟩, by rw [hB]; exact Same.refl _⟩ (fun i σ' H' _ h => SqT.of (h.2 _ _ (by rw [hB]; exact new_at n3 _))) ?_ ?_⟩
  · rintro i x σ' H' hi ⟨⟨x2, x3, x4, x5, x6, x7, x8, rfl⟩, e⟩
    obtain ⟨t, ra, rb, rfl, ht, Ma, Mb⟩ : ∃ t ra rb, x = .ref t ∧ B t = some (.tup [.ref ra, .ref rb]) ∧ Made c B ra v ∧ Made c B rb u := by
      have m := List.mem_of_getElem? hi
      simp only [List.mem_cons, List.mem_nil_iff, or_false] at m
      rcases m with rfl | rfl
      · exact ⟨_, _, _, rfl, T1, M1, M2⟩
      · exact ⟨_, _, _, rfl, T2, M3, M4⟩
    obtain ⟨ada, la, ka⟩ := Ma
    obtain ⟨adb, lb, kb⟩ := Mb
    refine ⟨t, _, rfl, SqT.of (e _ _ ht), rfl, _, _, rfl, _, _, rfl, rfl, ?_⟩
    refine ⟨_, rfl, ra, _, rfl, SqL.of (e _ _ la), for_enumL (K := K) (a := ra) (xs := (List.range 14).map fun j => V.ref (ada j)) (fun _ σ2 H2 => (∃ y2 y5 y6 y7 y8, σ2 = [some v, some u, y2, some (.ref ra), some (.ref rb), y5, y6, y7, y8]) ∧ Same B H2) ⟨⟨_, _, _, _, _, rfl⟩, e⟩ (fun i σ2 H2 _ h => SqL.of (h.2 _ _ la)) ?_ (fun σ2 H2 h => ?_)⟩
    · rintro k y Tk σ2 H2 hy nT ⟨⟨y2, y5, y6, y7, y8, rfl⟩, e2'⟩
      obtain ⟨rfl, hk⟩ := made_at hy
      have eT := e2'.trans (same_new nT (.tup [.int (k : Int), .ref (ada k)]))
      obtain ⟨xf, nof⟩ := ET.no14 k hk
      refine ⟨Tk, _, rfl, SqT.of (new_at nT _), rfl, _, _, rfl, _, _, rfl, rfl, ?_⟩
      -- told
      refine ⟨fun σ3 H3 => ∃ l, σ3 = [some v, some u, y2, some (.ref ra), some (.ref rb), some (.ref (ada k)), y6, some (.int (k : Int)), some (.ref l)] ∧ Same B H3 ∧ H3 l = some (.lst [v, u]), ?_, ?_⟩
      · refine ⟨_, rfl, _, _, rfl, rfl, _, rfl, ?_⟩
        have at1 := (ka k hk).same eT
        have at2 := (kb k hk).same eT
        refine ite2 (fun c1 => ?_) (fun c1 => ?_)
        · have lt : k < 10 := by have := of_decide_eq_true c1; omega
          have hf : fnOf k = "part" := if_pos lt
          rw [hf] at at1 at2 nof
          refine ⟨_, rfl, ada k, c k, _, v, rfl, at1, xf, nof, rfl, _, rfl, _, rfl, rb, _, k, _, rfl, rfl, SqL.of (eT _ _ lb), made_ix hk, adb k, c k, _, u, rfl, at2, xf, nof, rfl, (by show 2 ≤ sizeLine; decide), fun l nl => ?_⟩
          exact ⟨l, rfl, eT.trans (same_new nl _), new_at nl _⟩
        · have lt : ¬ k < 10 := by have := of_decide_eq_false (Bool.eq_false_iff.mpr c1); omega
          have hf : fnOf k = "value" := if_neg lt
          rw [hf] at at1 at2 nof
          refine ⟨_, rfl, ada k, c k, _, v, rfl, at1, xf, nof, rfl, _, rfl, _, rfl, rb, _, k, _, rfl, rfl, SqL.of (eT _ _ lb), made_ix hk, adb k, c k, _, u, rfl, at2, xf, nof, rfl, (by show 2 ≤ sizeLine; decide), fun l nl => ?_⟩
          exact ⟨l, rfl, eT.trans (same_new nl _), new_at nl _⟩
      rintro σ3 H3 ⟨l, rfl, e3', hl3⟩
      refine ⟨_, rfl, _, rfl, _, rfl, (by show 2 ≤ sizeLine; decide), fun l' nl' => ⟨l, l', _, rfl, rfl, SqL.of (same_new nl' _ _ _ hl3), SqL.of (new_at nl' _), hsel, false, rfl, iteF ?_⟩⟩
      have e4' := e3'.trans (same_new nl' (.lst [v, u]))
      refine ⟨_, rfl, _, rfl, ada k, k, rfl, .inl ⟨_, (ka k hk).same e4'⟩, by omega, fun H5 e5 => ⟨true, rfl, iteF ?_⟩⟩
      have e6 := e4'.trans e5
      refine ⟨_, rfl, _, rfl, rb, _, k, _, rfl, rfl, SqL.of (e6 _ _ lb), made_ix hk, _, rfl, adb k, k, rfl, .inl ⟨_, (kb k hk).same e6⟩, by omega, fun H6 e7 => ⟨true, rfl, iteF ?_⟩⟩
      exact ⟨⟨_, _, _, _, _, rfl⟩, e6.trans e7⟩
    · obtain ⟨⟨y2, y5, y6, y7, y8, rfl⟩, e2'⟩ := h
      exact ⟨⟨_, _, _, _, _, _, _, rfl⟩, e2'⟩
  rintro σ' H' ⟨⟨x2, x3, x4, x5, x6, x7, x8, rfl⟩, e⟩
  have eH := upH.trans e
  -- base = Missing(value=one)
  refine ⟨_, rfl, v, rfl, fun b Hb fb eb kb => ?_⟩
  have eHb := eH.trans eb
  refine ⟨_, rfl, b, c 21, _, v, rfl, kb, ET.m_Missing.er.xf, ET.m_Missing.no, rfl, _, rfl, kd_ne (kv.same eHb) fun H7 e7 => ⟨false, rfl, iteF ?_⟩⟩
  refine ⟨_, rfl, (by show 4 ≤ sizeLine; decide), fun tq nq => ?_⟩
  have eq1 := e7.trans (same_new nq (.tup [.ref (c 10), .ref (c 11), .ref (c 12), .ref (c 13)]))
  refine ⟨b, c 21, tq, _, _, false, rfl, .inl ⟨_, kb.same eq1⟩, ET.ec 21 (by decide), new_at nq _, .cons (.own _) (.cons (.own _) (.cons (.own _) (.cons (.own _) .nil))), ET.mT, _, rfl, iteF ?_⟩
  refine ⟨_, rfl, b, c 21, .ref (c 22), .ref (c 22), true, rfl, .inl ⟨_, kb.same eq1⟩, ET.ec 21 (by decide), .own _, ET.iN 21 (by decide), _, rfl, iteF ?_⟩
  have eH2 := eHb.trans eq1
  -- Impossible
  refine ⟨_, rfl, v, rfl, fun a1 J1 g1 s1 q1 => ⟨_, rfl, u, rfl, fun a2 J2 g2 s2 q2 => ⟨(by show 2 ≤ sizeLine; decide), fun w1 n1i => ⟨_, rfl, v, rfl, fun a3 J3 g3 s3 q3 => ⟨_, rfl, u, rfl, fun a4 J4 g4 s4 q4 => ⟨(by show 2 ≤ sizeLine; decide), fun w2 n2i => ⟨(by show 2 ≤ sizeLine; decide), fun ww n3i => ?_⟩⟩⟩⟩⟩⟩⟩
  obtain ⟨Bi, hBi⟩ : ∃ B0, B0 = upd (upd J4 w2 (.tup [.ref a3, .ref a4])) ww (.tup [.ref w1, .ref w2]) := ⟨_, rfl⟩
  have b4i : Same J4 Bi := by
    rw [hBi]
    exact (same_new n2i _).trans (same_new n3i _)
  have b2i : Same (upd J2 w1 (.tup [.ref a1, .ref a2])) Bi := s3.trans (s4.trans b4i)
  have j2i : Same J2 Bi := (same_new n1i _).trans b2i
  have upi : Same H Bi := eH2.trans (s1.trans (s2.trans j2i))
  have W1i := b2i _ _ (new_at n1i (.tup [.ref a1, .ref a2]))
  have W2i : Bi w2 = some (.tup [.ref a3, .ref a4]) := by
    rw [hBi]
    exact same_new n3i _ _ _ (new_at n2i _)
  have E1i := q1.same (s2.trans j2i)
  have E2i := q2.same j2i
  have E3i := q3.same (s4.trans b4i)
  have E4i := q4.same b4i
  have tti : Bi ww = some (.tup [.ref w1, .ref w2]) := by
    rw [hBi]
    exact new_at n3i _
  refine ⟨ww, rfl, ⟨_, SqT.of (new_at n3i _)⟩, for_tup (K := K) (a := ww) (xs := [.ref w1, .ref w2]) (fun _ σ' H' => (∃ x2 x3 x4 x5 x6 x7 x8, σ' = [some v, some u, x2, x3, x4, x5, x6, x7, x8]) ∧ Same Bi H') ⟨⟨_, _, _, _, _, _, _, rfl⟩, by rw [hBi]; exact Same.refl _⟩ (fun i σ' H' _ h => SqT.of (h.2 _ _ tti)) ?_ ?_⟩
  · rintro i x σ' H' hi ⟨⟨x2, x3, x4, x5, x6, x7, x8, rfl⟩, e⟩
    obtain ⟨t, ra, rb, rfl, ht, Ma, Mb⟩ : ∃ t ra rb, x = .ref t ∧ Bi t = some (.tup [.ref ra, .ref rb]) ∧ ErrAt Bi ra (c 16) [("paper", v)] ∧ ErrAt Bi rb (c 16) [("paper", u)] := by
      have m := List.mem_of_getElem? hi
      simp only [List.mem_cons, List.mem_nil_iff, or_false] at m
      rcases m with rfl | rfl
      · exact ⟨_, _, _, rfl, W1i, E1i, E2i⟩
      · exact ⟨_, _, _, rfl, W2i, E3i, E4i⟩
    refine ⟨t, _, rfl, SqT.of (e _ _ ht), rfl, _, _, rfl, _, _, rfl, rfl, ?_⟩
    refine ⟨_, rfl, ra, c 16, _, v, rfl, Ma.same e, ET.m_Impossible.er.xf, ET.m_Impossible.no, rfl, _, rfl, rb, c 16, _, u, rfl, Mb.same e, ET.m_Impossible.er.xf, ET.m_Impossible.no, rfl, (by show 2 ≤ sizeLine; decide), fun l nl => ?_⟩
    have e1' := e.trans (same_new nl (.lst [v, u]))
    refine ⟨_, rfl, _, rfl, (by show 2 ≤ sizeLine; decide), fun l' nl' => ⟨l, l', _, rfl, rfl, SqL.of (same_new nl' _ _ _ (new_at nl _)), SqL.of (new_at nl' _), hsel, false, rfl, iteF ?_⟩⟩
    have e2' := e1'.trans (same_new nl' (.lst [v, u]))
    refine ⟨_, rfl, ra, 16, rfl, .inl ⟨_, Ma.same e2'⟩, by decide, fun H5 e5 => ⟨true, rfl, iteF ?_⟩⟩
    refine ⟨_, rfl, rb, 16, rfl, .inl ⟨_, Mb.same (e2'.trans e5)⟩, by decide, fun H6 e6 => ⟨true, rfl, iteF ?_⟩⟩
    exact ⟨⟨_, _, _, _, _, _, _, rfl⟩, (e2'.trans e5).trans e6⟩
  rintro σ' Hi ⟨⟨x2, x3, x4, x5, x6, x7, x8, rfl⟩, ezi⟩
  have eUi := upi.trans ezi
  -- Beyond
  refine ⟨_, rfl, v, rfl, fun a1 J1 g1 s1 q1 => ⟨_, rfl, u, rfl, fun a2 J2 g2 s2 q2 => ⟨(by show 2 ≤ sizeLine; decide), fun w1 n1k => ⟨_, rfl, v, rfl, fun a3 J3 g3 s3 q3 => ⟨_, rfl, u, rfl, fun a4 J4 g4 s4 q4 => ⟨(by show 2 ≤ sizeLine; decide), fun w2 n2k => ⟨(by show 2 ≤ sizeLine; decide), fun ww n3k => ?_⟩⟩⟩⟩⟩⟩⟩
  obtain ⟨Bk, hBk⟩ : ∃ B0, B0 = upd (upd J4 w2 (.tup [.ref a3, .ref a4])) ww (.tup [.ref w1, .ref w2]) := ⟨_, rfl⟩
  have b4k : Same J4 Bk := by
    rw [hBk]
    exact (same_new n2k _).trans (same_new n3k _)
  have b2k : Same (upd J2 w1 (.tup [.ref a1, .ref a2])) Bk := s3.trans (s4.trans b4k)
  have j2k : Same J2 Bk := (same_new n1k _).trans b2k
  have upk : Same H Bk := eUi.trans (s1.trans (s2.trans j2k))
  have W1k := b2k _ _ (new_at n1k (.tup [.ref a1, .ref a2]))
  have W2k : Bk w2 = some (.tup [.ref a3, .ref a4]) := by
    rw [hBk]
    exact same_new n3k _ _ _ (new_at n2k _)
  have E1k := q1.same (s2.trans j2k)
  have E2k := q2.same j2k
  have E3k := q3.same (s4.trans b4k)
  have E4k := q4.same b4k
  have ttk : Bk ww = some (.tup [.ref w1, .ref w2]) := by
    rw [hBk]
    exact new_at n3k _
  refine ⟨ww, rfl, ⟨_, SqT.of (new_at n3k _)⟩, for_tup (K := K) (a := ww) (xs := [.ref w1, .ref w2]) (fun _ σ' H' => (∃ x2 x3 x4 x5 x6 x7 x8, σ' = [some v, some u, x2, x3, x4, x5, x6, x7, x8]) ∧ Same Bk H') ⟨⟨_, _, _, _, _, _, _, rfl⟩, by rw [hBk]; exact Same.refl _⟩ (fun i σ' H' _ h => SqT.of (h.2 _ _ ttk)) ?_ ?_⟩
  · rintro i x σ' H' hi ⟨⟨x2, x3, x4, x5, x6, x7, x8, rfl⟩, e⟩
    obtain ⟨t, ra, rb, rfl, ht, Ma, Mb⟩ : ∃ t ra rb, x = .ref t ∧ Bk t = some (.tup [.ref ra, .ref rb]) ∧ ErrAt Bk ra (c 15) [("least", v)] ∧ ErrAt Bk rb (c 15) [("least", u)] := by
      have m := List.mem_of_getElem? hi
      simp only [List.mem_cons, List.mem_nil_iff, or_false] at m
      rcases m with rfl | rfl
      · exact ⟨_, _, _, rfl, W1k, E1k, E2k⟩
      · exact ⟨_, _, _, rfl, W2k, E3k, E4k⟩
    refine ⟨t, _, rfl, SqT.of (e _ _ ht), rfl, _, _, rfl, _, _, rfl, rfl, ?_⟩
    refine ⟨_, rfl, ra, c 15, _, v, rfl, Ma.same e, ET.m_Beyond.er.xf, ET.m_Beyond.no, rfl, _, rfl, rb, c 15, _, u, rfl, Mb.same e, ET.m_Beyond.er.xf, ET.m_Beyond.no, rfl, (by show 2 ≤ sizeLine; decide), fun l nl => ?_⟩
    have e1' := e.trans (same_new nl (.lst [v, u]))
    refine ⟨_, rfl, _, rfl, (by show 2 ≤ sizeLine; decide), fun l' nl' => ⟨l, l', _, rfl, rfl, SqL.of (same_new nl' _ _ _ (new_at nl _)), SqL.of (new_at nl' _), hsel, false, rfl, iteF ?_⟩⟩
    have e2' := e1'.trans (same_new nl' (.lst [v, u]))
    refine ⟨_, rfl, ra, 15, rfl, .inl ⟨_, Ma.same e2'⟩, by decide, fun H5 e5 => ⟨true, rfl, iteF ?_⟩⟩
    refine ⟨_, rfl, rb, 15, rfl, .inl ⟨_, Mb.same (e2'.trans e5)⟩, by decide, fun H6 e6 => ⟨true, rfl, iteF ?_⟩⟩
    exact ⟨⟨_, _, _, _, _, _, _, rfl⟩, (e2'.trans e5).trans e6⟩
  rintro σ' Hk ⟨⟨x2, x3, x4, x5, x6, x7, x8, rfl⟩, ezk⟩
  have eUk := upk.trans ezk
  refine ⟨_, rfl, u, rfl, fun b2 Hb2 _ eb2 kb2 => ⟨b2, c 21, _, u, rfl, kb2, ET.m_Missing.er.xf, ET.m_Missing.no, rfl, _, rfl, kd_eq (ku.same (eUk.trans eb2)) fun H8 e8 => ⟨true, rfl, iteT ?_⟩⟩⟩
  refine fun a na => ⟨a, 18, rfl, .inr (new_at na _), by decide, fun H9 e9 => ⟨true, rfl, iteT ?_⟩⟩
  refine fun a' na' => ⟨a', 14, rfl, .inr (new_at na' _), by decide, fun Ha ea => ?_⟩
  exact q Ha ((((eUk.trans eb2).trans e8).trans (same_new na _)).trans (e9.trans ((same_new na' _).trans ea)))
end
end My


set_option Elab.async false
set_option linter.all false
set_option maxRecDepth 100000
namespace My
open PySem PySem.Spec PyProof.Rows L2
theorem vals_rev : ∀ {vs : List V} {us : List Value}, Vals vs us → Vals vs.reverse us.reverse
  | _, _, .nil => .nil
  | _, _, .cons r t => by
    rw [List.reverse_cons, List.reverse_cons]
    exact (vals_rev t).append (.cons r .nil)
def spTwo : Sp := fun vs H Q _ => ∃ (v u : V), vs = [v, u] ∧ Selfy v ∧ Selfy u ∧ ∀ H', Same H H' → Q (.bl true) H'
def spLaw (K : PySem.W.Frag) : Sp := fun vs H Q _ => ∃ (a : Addr) (ns : List Int), vs = [.ref a] ∧ SqL K H a (ns.map V.int) ∧ ns.length ≤ 63 ∧ ∀ H', Q (.bl true) H'
section
variable {P : Program} {w : World} {K : PySem.W.Frag} {mg : Str → Option Value} {base : Heap} {c : Nat → Addr}
abbrev s_i_BadPoly : Stmt := inClass (topS 2) 0
theorem i_BadPoly {fI : Addr} {fd : FuncData} (F : Fun K "__init__" "BadPoly.__init__" s_i_BadPoly fI fd) : FnOk P w K mg base CX0 1 fI fd ["self", "part"] (spInit1 K "part") ∧ Binds K fd ["self", "part"] [] ∧ KBn K fd ["self", "part"] 1 ["part"] (fun us ws => us ++ ws) (fun us ws => us ++ ws) := by
  have S : FnScope ["self", "part"] ["self", "part"] (C8.fnScope s_i_BadPoly) := C8.fnScope_by (by decide +kernel)
  refine ⟨F.ok S (fun vs H Q E h => ?_) (fun cdv A outer s H vs Q E hr h => ?_), F.binds fun _ _ _ _ _ _ us hl => match us, hl with | [_, _], _ => rfl, ?_⟩
  · obtain ⟨a, C, y, rfl, _⟩ := h
    rfl
  · obtain ⟨a, C, y, rfl, T, no, ha, q⟩ := h
    exact ⟨_, pss_one (ps_ost (pv 0) (pv 1)), _, rfl, _, rfl, a, C, rfl, T, no, .inl ⟨ha, fun dx nd ne => q dx nd ne⟩⟩
  · obtain ⟨oc, od, kV, doc, pm, an, cdv, ct, osl, rfl, lk, hcd⟩ := F.ex
    exact ⟨fun s us ws _ l1 l2 => match us, ws, l1, l2 with | [_], [_], _, _ => .of_eq rfl, fun r r2 => r.append r2⟩
abbrev s_i_BadScheme : Stmt := inClass (topS 3) 0
theorem i_BadScheme {fI : Addr} {fd : FuncData} (F : Fun K "__init__" "BadScheme.__init__" s_i_BadScheme fI fd) : FnOk P w K mg base CX0 1 fI fd ["self", "part"] (spInit1 K "part") ∧ Binds K fd ["self", "part"] [] ∧ KBn K fd ["self", "part"] 1 ["part"] (fun us ws => us ++ ws) (fun us ws => us ++ ws) := by
  have S : FnScope ["self", "part"] ["self", "part"] (C8.fnScope s_i_BadScheme) := C8.fnScope_by (by decide +kernel)
  refine ⟨F.ok S (fun vs H Q E h => ?_) (fun cdv A outer s H vs Q E hr h => ?_), F.binds fun _ _ _ _ _ _ us hl => match us, hl with | [_, _], _ => rfl, ?_⟩
  · obtain ⟨a, C, y, rfl, _⟩ := h
    rfl
  · obtain ⟨a, C, y, rfl, T, no, ha, q⟩ := h
    exact ⟨_, pss_one (ps_ost (pv 0) (pv 1)), _, rfl, _, rfl, a, C, rfl, T, no, .inl ⟨ha, fun dx nd ne => q dx nd ne⟩⟩
  · obtain ⟨oc, od, kV, doc, pm, an, cdv, ct, osl, rfl, lk, hcd⟩ := F.ex
    exact ⟨fun s us ws _ l1 l2 => match us, ws, l1, l2 with | [_], [_], _, _ => .of_eq rfl, fun r r2 => r.append r2⟩
abbrev s_i_BadReading : Stmt := inClass (topS 4) 0
theorem i_BadReading {fI : Addr} {fd : FuncData} (F : Fun K "__init__" "BadReading.__init__" s_i_BadReading fI fd) : FnOk P w K mg base CX0 1 fI fd ["self", "part"] (spInit1 K "part") ∧ Binds K fd ["self", "part"] [] ∧ KBn K fd ["self", "part"] 1 ["part"] (fun us ws => us ++ ws) (fun us ws => us ++ ws) := by
  have S : FnScope ["self", "part"] ["self", "part"] (C8.fnScope s_i_BadReading) := C8.fnScope_by (by decide +kernel)
  refine ⟨F.ok S (fun vs H Q E h => ?_) (fun cdv A outer s H vs Q E hr h => ?_), F.binds fun _ _ _ _ _ _ us hl => match us, hl with | [_, _], _ => rfl, ?_⟩
  · obtain ⟨a, C, y, rfl, _⟩ := h
    rfl
  · obtain ⟨a, C, y, rfl, T, no, ha, q⟩ := h
    exact ⟨_, pss_one (ps_ost (pv 0) (pv 1)), _, rfl, _, rfl, a, C, rfl, T, no, .inl ⟨ha, fun dx nd ne => q dx nd ne⟩⟩
  · obtain ⟨oc, od, kV, doc, pm, an, cdv, ct, osl, rfl, lk, hcd⟩ := F.ex
    exact ⟨fun s us ws _ l1 l2 => match us, ws, l1, l2 with | [_], [_], _, _ => .of_eq rfl, fun r r2 => r.append r2⟩
abbrev s_i_BadCurve : Stmt := inClass (topS 5) 0
theorem i_BadCurve {fI : Addr} {fd : FuncData} (F : Fun K "__init__" "BadCurve.__init__" s_i_BadCurve fI fd) : FnOk P w K mg base CX0 1 fI fd ["self", "part"] (spInit1 K "part") ∧ Binds K fd ["self", "part"] [] ∧ KBn K fd ["self", "part"] 1 ["part"] (fun us ws => us ++ ws) (fun us ws => us ++ ws) := by
  have S : FnScope ["self", "part"] ["self", "part"] (C8.fnScope s_i_BadCurve) := C8.fnScope_by (by decide +kernel)
  refine ⟨F.ok S (fun vs H Q E h => ?_) (fun cdv A outer s H vs Q E hr h => ?_), F.binds fun _ _ _ _ _ _ us hl => match us, hl with | [_, _], _ => rfl, ?_⟩
  · obtain ⟨a, C, y, rfl, _⟩ := h
    rfl
  · obtain ⟨a, C, y, rfl, T, no, ha, q⟩ := h
    exact ⟨_, pss_one (ps_ost (pv 0) (pv 1)), _, rfl, _, rfl, a, C, rfl, T, no, .inl ⟨ha, fun dx nd ne => q dx nd ne⟩⟩
  · obtain ⟨oc, od, kV, doc, pm, an, cdv, ct, osl, rfl, lk, hcd⟩ := F.ex
    exact ⟨fun s us ws _ l1 l2 => match us, ws, l1, l2 with | [_], [_], _, _ => .of_eq rfl, fun r r2 => r.append r2⟩
abbrev s_i_BadBase : Stmt := inClass (topS 6) 0
theorem i_BadBase {fI : Addr} {fd : FuncData} (F : Fun K "__init__" "BadBase.__init__" s_i_BadBase fI fd) : FnOk P w K mg base CX0 1 fI fd ["self", "part"] (spInit1 K "part") ∧ Binds K fd ["self", "part"] [] ∧ KBn K fd ["self", "part"] 1 ["part"] (fun us ws => us ++ ws) (fun us ws => us ++ ws) := by
  have S : FnScope ["self", "part"] ["self", "part"] (C8.fnScope s_i_BadBase) := C8.fnScope_by (by decide +kernel)
  refine ⟨F.ok S (fun vs H Q E h => ?_) (fun cdv A outer s H vs Q E hr h => ?_), F.binds fun _ _ _ _ _ _ us hl => match us, hl with | [_, _], _ => rfl, ?_⟩
  · obtain ⟨a, C, y, rfl, _⟩ := h
    rfl
  · obtain ⟨a, C, y, rfl, T, no, ha, q⟩ := h
    exact ⟨_, pss_one (ps_ost (pv 0) (pv 1)), _, rfl, _, rfl, a, C, rfl, T, no, .inl ⟨ha, fun dx nd ne => q dx nd ne⟩⟩
  · obtain ⟨oc, od, kV, doc, pm, an, cdv, ct, osl, rfl, lk, hcd⟩ := F.ex
    exact ⟨fun s us ws _ l1 l2 => match us, ws, l1, l2 with | [_], [_], _, _ => .of_eq rfl, fun r r2 => r.append r2⟩
abbrev s_i_BadRows : Stmt := inClass (topS 7) 0
theorem i_BadRows {fI : Addr} {fd : FuncData} (F : Fun K "__init__" "BadRows.__init__" s_i_BadRows fI fd) : FnOk P w K mg base CX0 1 fI fd ["self", "part"] (spInit1 K "part") ∧ Binds K fd ["self", "part"] [] ∧ KBn K fd ["self", "part"] 1 ["part"] (fun us ws => us ++ ws) (fun us ws => us ++ ws) := by
  have S : FnScope ["self", "part"] ["self", "part"] (C8.fnScope s_i_BadRows) := C8.fnScope_by (by decide +kernel)
  refine ⟨F.ok S (fun vs H Q E h => ?_) (fun cdv A outer s H vs Q E hr h => ?_), F.binds fun _ _ _ _ _ _ us hl => match us, hl with | [_, _], _ => rfl, ?_⟩
  · obtain ⟨a, C, y, rfl, _⟩ := h
    rfl
  · obtain ⟨a, C, y, rfl, T, no, ha, q⟩ := h
    exact ⟨_, pss_one (ps_ost (pv 0) (pv 1)), _, rfl, _, rfl, a, C, rfl, T, no, .inl ⟨ha, fun dx nd ne => q dx nd ne⟩⟩
  · obtain ⟨oc, od, kV, doc, pm, an, cdv, ct, osl, rfl, lk, hcd⟩ := F.ex
    exact ⟨fun s us ws _ l1 l2 => match us, ws, l1, l2 with | [_], [_], _, _ => .of_eq rfl, fun r r2 => r.append r2⟩
abbrev s_i_BadRests : Stmt := inClass (topS 8) 0
theorem i_BadRests {fI : Addr} {fd : FuncData} (F : Fun K "__init__" "BadRests.__init__" s_i_BadRests fI fd) : FnOk P w K mg base CX0 1 fI fd ["self", "part"] (spInit1 K "part") ∧ Binds K fd ["self", "part"] [] ∧ KBn K fd ["self", "part"] 1 ["part"] (fun us ws => us ++ ws) (fun us ws => us ++ ws) := by
  have S : FnScope ["self", "part"] ["self", "part"] (C8.fnScope s_i_BadRests) := C8.fnScope_by (by decide +kernel)
  refine ⟨F.ok S (fun vs H Q E h => ?_) (fun cdv A outer s H vs Q E hr h => ?_), F.binds fun _ _ _ _ _ _ us hl => match us, hl with | [_, _], _ => rfl, ?_⟩
  · obtain ⟨a, C, y, rfl, _⟩ := h
    rfl
  · obtain ⟨a, C, y, rfl, T, no, ha, q⟩ := h
    exact ⟨_, pss_one (ps_ost (pv 0) (pv 1)), _, rfl, _, rfl, a, C, rfl, T, no, .inl ⟨ha, fun dx nd ne => q dx nd ne⟩⟩
  · obtain ⟨oc, od, kV, doc, pm, an, cdv, ct, osl, rfl, lk, hcd⟩ := F.ex
    exact ⟨fun s us ws _ l1 l2 => match us, ws, l1, l2 with | [_], [_], _, _ => .of_eq rfl, fun r r2 => r.append r2⟩
abbrev s_i_BadNumber : Stmt := inClass (topS 9) 0
theorem i_BadNumber {fI : Addr} {fd : FuncData} (F : Fun K "__init__" "BadNumber.__init__" s_i_BadNumber fI fd) : FnOk P w K mg base CX0 1 fI fd ["self", "part"] (spInit1 K "part") ∧ Binds K fd ["self", "part"] [] ∧ KBn K fd ["self", "part"] 1 ["part"] (fun us ws => us ++ ws) (fun us ws => us ++ ws) := by
  have S : FnScope ["self", "part"] ["self", "part"] (C8.fnScope s_i_BadNumber) := C8.fnScope_by (by decide +kernel)
  refine ⟨F.ok S (fun vs H Q E h => ?_) (fun cdv A outer s H vs Q E hr h => ?_), F.binds fun _ _ _ _ _ _ us hl => match us, hl with | [_, _], _ => rfl, ?_⟩
  · obtain ⟨a, C, y, rfl, _⟩ := h
    rfl
  · obtain ⟨a, C, y, rfl, T, no, ha, q⟩ := h
    exact ⟨_, pss_one (ps_ost (pv 0) (pv 1)), _, rfl, _, rfl, a, C, rfl, T, no, .inl ⟨ha, fun dx nd ne => q dx nd ne⟩⟩
  · obtain ⟨oc, od, kV, doc, pm, an, cdv, ct, osl, rfl, lk, hcd⟩ := F.ex
    exact ⟨fun s us ws _ l1 l2 => match us, ws, l1, l2 with | [_], [_], _, _ => .of_eq rfl, fun r r2 => r.append r2⟩
abbrev s_i_BadDesk : Stmt := inClass (topS 10) 0
theorem i_BadDesk {fI : Addr} {fd : FuncData} (F : Fun K "__init__" "BadDesk.__init__" s_i_BadDesk fI fd) : FnOk P w K mg base CX0 1 fI fd ["self", "part"] (spInit1 K "part") ∧ Binds K fd ["self", "part"] [] ∧ KBn K fd ["self", "part"] 1 ["part"] (fun us ws => us ++ ws) (fun us ws => us ++ ws) := by
  have S : FnScope ["self", "part"] ["self", "part"] (C8.fnScope s_i_BadDesk) := C8.fnScope_by (by decide +kernel)
  refine ⟨F.ok S (fun vs H Q E h => ?_) (fun cdv A outer s H vs Q E hr h => ?_), F.binds fun _ _ _ _ _ _ us hl => match us, hl with | [_, _], _ => rfl, ?_⟩
  · obtain ⟨a, C, y, rfl, _⟩ := h
    rfl
  · obtain ⟨a, C, y, rfl, T, no, ha, q⟩ := h
    exact ⟨_, pss_one (ps_ost (pv 0) (pv 1)), _, rfl, _, rfl, a, C, rfl, T, no, .inl ⟨ha, fun dx nd ne => q dx nd ne⟩⟩
  · obtain ⟨oc, od, kV, doc, pm, an, cdv, ct, osl, rfl, lk, hcd⟩ := F.ex
    exact ⟨fun s us ws _ l1 l2 => match us, ws, l1, l2 with | [_], [_], _, _ => .of_eq rfl, fun r r2 => r.append r2⟩
abbrev s_i_Misfit : Stmt := inClass (topS 11) 0
theorem i_Misfit {fI : Addr} {fd : FuncData} (F : Fun K "__init__" "Misfit.__init__" s_i_Misfit fI fd) : FnOk P w K mg base CX0 1 fI fd ["self", "part"] (spInit1 K "part") ∧ Binds K fd ["self", "part"] [] ∧ KBn K fd ["self", "part"] 1 ["part"] (fun us ws => us ++ ws) (fun us ws => us ++ ws) := by
  have S : FnScope ["self", "part"] ["self", "part"] (C8.fnScope s_i_Misfit) := C8.fnScope_by (by decide +kernel)
  refine ⟨F.ok S (fun vs H Q E h => ?_) (fun cdv A outer s H vs Q E hr h => ?_), F.binds fun _ _ _ _ _ _ us hl => match us, hl with | [_, _], _ => rfl, ?_⟩
  · obtain ⟨a, C, y, rfl, _⟩ := h
    rfl
  · obtain ⟨a, C, y, rfl, T, no, ha, q⟩ := h
    exact ⟨_, pss_one (ps_ost (pv 0) (pv 1)), _, rfl, _, rfl, a, C, rfl, T, no, .inl ⟨ha, fun dx nd ne => q dx nd ne⟩⟩
  · obtain ⟨oc, od, kV, doc, pm, an, cdv, ct, osl, rfl, lk, hcd⟩ := F.ex
    exact ⟨fun s us ws _ l1 l2 => match us, ws, l1, l2 with | [_], [_], _, _ => .of_eq rfl, fun r r2 => r.append r2⟩
abbrev s_i_Missing : Stmt := inClass (topS 12) 0
theorem i_Missing {fI : Addr} {fd : FuncData} (F : Fun K "__init__" "Missing.__init__" s_i_Missing fI fd) : FnOk P w K mg base CX0 1 fI fd ["self", "value"] (spInit1 K "value") ∧ Binds K fd ["self", "value"] [] ∧ KBn K fd ["self", "value"] 1 ["value"] (fun us ws => us ++ ws) (fun us ws => us ++ ws) := by
  have S : FnScope ["self", "value"] ["self", "value"] (C8.fnScope s_i_Missing) := C8.fnScope_by (by decide +kernel)
  refine ⟨F.ok S (fun vs H Q E h => ?_) (fun cdv A outer s H vs Q E hr h => ?_), F.binds fun _ _ _ _ _ _ us hl => match us, hl with | [_, _], _ => rfl, ?_⟩
  · obtain ⟨a, C, y, rfl, _⟩ := h
    rfl
  · obtain ⟨a, C, y, rfl, T, no, ha, q⟩ := h
    exact ⟨_, pss_one (ps_ost (pv 0) (pv 1)), _, rfl, _, rfl, a, C, rfl, T, no, .inl ⟨ha, fun dx nd ne => q dx nd ne⟩⟩
  · obtain ⟨oc, od, kV, doc, pm, an, cdv, ct, osl, rfl, lk, hcd⟩ := F.ex
    exact ⟨fun s us ws _ l1 l2 => match us, ws, l1, l2 with | [_], [_], _, _ => .of_eq rfl, fun r r2 => r.append r2⟩
abbrev s_i_Twice : Stmt := inClass (topS 16) 0
theorem i_Twice {fI : Addr} {fd : FuncData} (F : Fun K "__init__" "Twice.__init__" s_i_Twice fI fd) : FnOk P w K mg base CX0 1 fI fd ["self", "value"] (spInit1 K "value") ∧ Binds K fd ["self", "value"] [] ∧ KBn K fd ["self", "value"] 1 ["value"] (fun us ws => us ++ ws) (fun us ws => us ++ ws) := by
  have S : FnScope ["self", "value"] ["self", "value"] (C8.fnScope s_i_Twice) := C8.fnScope_by (by decide +kernel)
  refine ⟨F.ok S (fun vs H Q E h => ?_) (fun cdv A outer s H vs Q E hr h => ?_), F.binds fun _ _ _ _ _ _ us hl => match us, hl with | [_, _], _ => rfl, ?_⟩
  · obtain ⟨a, C, y, rfl, _⟩ := h
    rfl
  · obtain ⟨a, C, y, rfl, T, no, ha, q⟩ := h
    exact ⟨_, pss_one (ps_ost (pv 0) (pv 1)), _, rfl, _, rfl, a, C, rfl, T, no, .inl ⟨ha, fun dx nd ne => q dx nd ne⟩⟩
  · obtain ⟨oc, od, kV, doc, pm, an, cdv, ct, osl, rfl, lk, hcd⟩ := F.ex
    exact ⟨fun s us ws _ l1 l2 => match us, ws, l1, l2 with | [_], [_], _, _ => .of_eq rfl, fun r r2 => r.append r2⟩
abbrev s_i_Beyond : Stmt := inClass (topS 18) 0
theorem i_Beyond {fI : Addr} {fd : FuncData} (F : Fun K "__init__" "Beyond.__init__" s_i_Beyond fI fd) : FnOk P w K mg base CX0 1 fI fd ["self", "least"] (spInit1 K "least") ∧ Binds K fd ["self", "least"] [] ∧ KBn K fd ["self", "least"] 1 ["least"] (fun us ws => us ++ ws) (fun us ws => us ++ ws) := by
  have S : FnScope ["self", "least"] ["self", "least"] (C8.fnScope s_i_Beyond) := C8.fnScope_by (by decide +kernel)
  refine ⟨F.ok S (fun vs H Q E h => ?_) (fun cdv A outer s H vs Q E hr h => ?_), F.binds fun _ _ _ _ _ _ us hl => match us, hl with | [_, _], _ => rfl, ?_⟩
  · obtain ⟨a, C, y, rfl, _⟩ := h
    rfl
  · obtain ⟨a, C, y, rfl, T, no, ha, q⟩ := h
    exact ⟨_, pss_one (ps_ost (pv 0) (pv 1)), _, rfl, _, rfl, a, C, rfl, T, no, .inl ⟨ha, fun dx nd ne => q dx nd ne⟩⟩
  · obtain ⟨oc, od, kV, doc, pm, an, cdv, ct, osl, rfl, lk, hcd⟩ := F.ex
    exact ⟨fun s us ws _ l1 l2 => match us, ws, l1, l2 with | [_], [_], _, _ => .of_eq rfl, fun r r2 => r.append r2⟩
abbrev s_i_Impossible : Stmt := inClass (topS 19) 0
theorem i_Impossible {fI : Addr} {fd : FuncData} (F : Fun K "__init__" "Impossible.__init__" s_i_Impossible fI fd) : FnOk P w K mg base CX0 1 fI fd ["self", "paper"] (spInit1 K "paper") ∧ Binds K fd ["self", "paper"] [] ∧ KBn K fd ["self", "paper"] 1 ["paper"] (fun us ws => us ++ ws) (fun us ws => us ++ ws) := by
  have S : FnScope ["self", "paper"] ["self", "paper"] (C8.fnScope s_i_Impossible) := C8.fnScope_by (by decide +kernel)
  refine ⟨F.ok S (fun vs H Q E h => ?_) (fun cdv A outer s H vs Q E hr h => ?_), F.binds fun _ _ _ _ _ _ us hl => match us, hl with | [_, _], _ => rfl, ?_⟩
  · obtain ⟨a, C, y, rfl, _⟩ := h
    rfl
  · obtain ⟨a, C, y, rfl, T, no, ha, q⟩ := h
    exact ⟨_, pss_one (ps_ost (pv 0) (pv 1)), _, rfl, _, rfl, a, C, rfl, T, no, .inl ⟨ha, fun dx nd ne => q dx nd ne⟩⟩
  · obtain ⟨oc, od, kV, doc, pm, an, cdv, ct, osl, rfl, lk, hcd⟩ := F.ex
    exact ⟨fun s us ws _ l1 l2 => match us, ws, l1, l2 with | [_], [_], _, _ => .of_eq rfl, fun r r2 => r.append r2⟩
abbrev s_i_TooMany : Stmt := inClass (topS 20) 0
theorem i_TooMany {fI : Addr} {fd : FuncData} (F : Fun K "__init__" "TooMany.__init__" s_i_TooMany fI fd) : FnOk P w K mg base CX0 1 fI fd ["self", "what", "most"] (spInit2 K "what" "most") ∧ Binds K fd ["self", "what", "most"] [] ∧ KBn K fd ["self", "what", "most"] 1 ["what", "most"] (fun us ws => us ++ ws) (fun us ws => us ++ ws) ∧ KBn K fd ["self", "what", "most"] 1 ["most", "what"] (fun us ws => us ++ ws.reverse) (fun us ws => us ++ ws.reverse) := by
  have S : FnScope ["self", "what", "most"] ["self", "what", "most"] (C8.fnScope s_i_TooMany) := C8.fnScope_by (by decide +kernel)
  refine ⟨F.ok S (fun vs H Q E h => ?_) (fun cdv A outer s H vs Q E hr h => ?_), F.binds fun _ _ _ _ _ _ us hl => match us, hl with | [_, _, _], _ => rfl, ?_, ?_⟩
  · obtain ⟨a, C, y, z, rfl, _⟩ := h
    rfl
  · obtain ⟨a, C, y, z, rfl, T, no, no2, ha, q⟩ := h
    refine ⟨_, pss_cons (ps_ost (pv 0) (pv 1)) (pss_one (ps_ost (pv 0) (pv 2))), _, rfl, _, rfl, a, C, rfl, T, no, .inl ⟨ha, fun dx nd ne => ?_⟩⟩
    exact ⟨_, rfl, _, rfl, a, C, rfl, T, no2, .inr ⟨dx, _, upd_same, by rw [upd_ne ne, upd_same], by show 1 ≤ 900; decide, q dx nd ne⟩⟩
  · obtain ⟨oc, od, kV, doc, pm, an, cdv, ct, osl, rfl, lk, hcd⟩ := F.ex
    exact ⟨fun s us ws _ l1 l2 => match us, ws, l1, l2 with | [_], [_, _], _, _ => .of_eq rfl, fun r r2 => r.append r2⟩
  · obtain ⟨oc, od, kV, doc, pm, an, cdv, ct, osl, rfl, lk, hcd⟩ := F.ex
    exact ⟨fun s us ws _ l1 l2 => match us, ws, l1, l2 with | [_], [_, _], _, _ => .of_eq rfl, fun r r2 => r.append (vals_rev r2)⟩
abbrev s_i_BadText : Stmt := inClass (topS 22) 0
theorem i_BadText {fI : Addr} {fd : FuncData} (F : Fun K "__init__" "BadText.__init__" s_i_BadText fI fd) : FnOk P w K mg base CX0 1 fI fd ["self", "line", "item"] (spInit2 K "line" "item") ∧ Binds K fd ["self", "line", "item"] [] ∧ KBn K fd ["self", "line", "item"] 1 ["line", "item"] (fun us ws => us ++ ws) (fun us ws => us ++ ws) ∧ KBn K fd ["self", "line", "item"] 1 ["item", "line"] (fun us ws => us ++ ws.reverse) (fun us ws => us ++ ws.reverse) := by
  have S : FnScope ["self", "line", "item"] ["self", "line", "item"] (C8.fnScope s_i_BadText) := C8.fnScope_by (by decide +kernel)
  refine ⟨F.ok S (fun vs H Q E h => ?_) (fun cdv A outer s H vs Q E hr h => ?_), F.binds fun _ _ _ _ _ _ us hl => match us, hl with | [_, _, _], _ => rfl, ?_, ?_⟩
  · obtain ⟨a, C, y, z, rfl, _⟩ := h
    rfl
  · obtain ⟨a, C, y, z, rfl, T, no, no2, ha, q⟩ := h
    refine ⟨_, pss_cons (ps_ost (pv 0) (pv 1)) (pss_one (ps_ost (pv 0) (pv 2))), _, rfl, _, rfl, a, C, rfl, T, no, .inl ⟨ha, fun dx nd ne => ?_⟩⟩
    exact ⟨_, rfl, _, rfl, a, C, rfl, T, no2, .inr ⟨dx, _, upd_same, by rw [upd_ne ne, upd_same], by show 1 ≤ 900; decide, q dx nd ne⟩⟩
  · obtain ⟨oc, od, kV, doc, pm, an, cdv, ct, osl, rfl, lk, hcd⟩ := F.ex
    exact ⟨fun s us ws _ l1 l2 => match us, ws, l1, l2 with | [_], [_, _], _, _ => .of_eq rfl, fun r r2 => r.append r2⟩
  · obtain ⟨oc, od, kV, doc, pm, an, cdv, ct, osl, rfl, lk, hcd⟩ := F.ex
    exact ⟨fun s us ws _ l1 l2 => match us, ws, l1, l2 with | [_], [_, _], _, _ => .of_eq rfl, fun r r2 => r.append (vals_rev r2)⟩
abbrev s_i_BadLine : Stmt := inClass (topS 23) 0
theorem i_BadLine {fI : Addr} {fd : FuncData} (F : Fun K "__init__" "BadLine.__init__" s_i_BadLine fI fd) : FnOk P w K mg base CX0 1 fI fd ["self", "line", "error"] (spInit2 K "line" "error") ∧ Binds K fd ["self", "line", "error"] [] ∧ KBn K fd ["self", "line", "error"] 1 ["line", "error"] (fun us ws => us ++ ws) (fun us ws => us ++ ws) ∧ KBn K fd ["self", "line", "error"] 1 ["error", "line"] (fun us ws => us ++ ws.reverse) (fun us ws => us ++ ws.reverse) := by
  have S : FnScope ["self", "line", "error"] ["self", "line", "error"] (C8.fnScope s_i_BadLine) := C8.fnScope_by (by decide +kernel)
  refine ⟨F.ok S (fun vs H Q E h => ?_) (fun cdv A outer s H vs Q E hr h => ?_), F.binds fun _ _ _ _ _ _ us hl => match us, hl with | [_, _, _], _ => rfl, ?_, ?_⟩
  · obtain ⟨a, C, y, z, rfl, _⟩ := h
    rfl
  · obtain ⟨a, C, y, z, rfl, T, no, no2, ha, q⟩ := h
    refine ⟨_, pss_cons (ps_ost (pv 0) (pv 1)) (pss_one (ps_ost (pv 0) (pv 2))), _, rfl, _, rfl, a, C, rfl, T, no, .inl ⟨ha, fun dx nd ne => ?_⟩⟩
    exact ⟨_, rfl, _, rfl, a, C, rfl, T, no2, .inr ⟨dx, _, upd_same, by rw [upd_ne ne, upd_same], by show 1 ≤ 900; decide, q dx nd ne⟩⟩
  · obtain ⟨oc, od, kV, doc, pm, an, cdv, ct, osl, rfl, lk, hcd⟩ := F.ex
    exact ⟨fun s us ws _ l1 l2 => match us, ws, l1, l2 with | [_], [_, _], _, _ => .of_eq rfl, fun r r2 => r.append r2⟩
  · obtain ⟨oc, od, kV, doc, pm, an, cdv, ct, osl, rfl, lk, hcd⟩ := F.ex
    exact ⟨fun s us ws _ l1 l2 => match us, ws, l1, l2 with | [_], [_, _], _, _ => .of_eq rfl, fun r r2 => r.append (vals_rev r2)⟩
abbrev s__law_two_right : Stmt := topS 38
abbrev N__law_two_right : List Str := ["one", "other", "error"]
abbrev P__law_two_right : List Str := ["one", "other"]
theorem sc__law_two_right : FnScope N__law_two_right P__law_two_right (C8.fnScope s__law_two_right) := C8.fnScope_by (by decide +kernel)
theorem ok__law_two_right (T : Txt K mg) (ET : ErT P w K mg base c) (D : DefB K mg "_law_two_right" s__law_two_right P__law_two_right) (c__law_is_only : C8.Cal P w K mg base 2 "_law_is_only" (spOnly c) []) : C8.Cal P w K mg base 3 "_law_two_right" spTwo [] := by
  refine calB D sc__law_two_right (fun vs H Q E h => ?_) (fun f cdv A outer s H vs Q E hr h => ?_)
  · obtain ⟨v, u, rfl, _⟩ := h
    rfl
  obtain ⟨v, u, rfl, hv, hu, q⟩ := h
  have hsel := two_selfy hv hu
  refine ⟨_, (pss_cons (ps_for PassesOwn.never rfl (pi_tup (pe_tup (pa_cons (pe_e2 ET.m_TooMany hr (by decide) (by rfl) (pa_cons (pv 0) (pa_cons (pv 1) pa_nil))) (pa_cons (pe_e2r ET.m_TooMany hr (by decide) (by rfl) (pk_cons (pv 1) (pk_cons (pv 0) pk_nil))) pa_nil)))) (pg_name (i := 2) sc__law_two_right.nd rfl (Or.inl rfl))
      (pss_one (ps_if (PW.pt (pw_or (pt_cmpR (op_neS hr.units) (pe_lst (pa_cons (pe_errF (pv 2)) (pa_cons (pe_errF (pv 2)) pa_nil))) (pe_lst (pa_cons (pv 0) (pa_cons (pv 1) pa_nil))) (nomark _)) (pw_or1 (pt_not (pt_val (C8.pe_c c__law_is_only hr (by decide) (by rfl) (pa_cons (pv 2) (pa_cons pe_int pa_nil)))))))) (pss_one (ps_ret pe_bl)) pss_nil)))
    (pss_cons (ps_for PassesOwn.never rfl (pi_tup (pe_tup (pa_cons (pe_e2 ET.m_BadText hr (by decide) (by rfl) (pa_cons (pv 0) (pa_cons (pv 1) pa_nil))) (pa_cons (pe_e2r ET.m_BadText hr (by decide) (by rfl) (pk_cons (pv 1) (pk_cons (pv 0) pk_nil))) pa_nil)))) (pg_name (i := 2) sc__law_two_right.nd rfl (Or.inl rfl))
      (pss_one (ps_if (PW.pt (pw_or (pt_cmpR (op_neS hr.units) (pe_lst (pa_cons (pe_errF (pv 2)) (pa_cons (pe_errF (pv 2)) pa_nil))) (pe_lst (pa_cons (pv 0) (pa_cons (pv 1) pa_nil))) (nomark _)) (pw_or1 (pt_not (pt_val (C8.pe_c c__law_is_only hr (by decide) (by rfl) (pa_cons (pv 2) (pa_cons pe_int pa_nil)))))))) (pss_one (ps_ret pe_bl)) pss_nil)))
    (pss_cons (ps_for PassesOwn.never rfl (pi_tup (pe_tup (pa_cons (pe_e2 ET.m_BadLine hr (by decide) (by rfl) (pa_cons (pv 0) (pa_cons (pv 1) pa_nil))) (pa_cons (pe_e2r ET.m_BadLine hr (by decide) (by rfl) (pk_cons (pv 1) (pk_cons (pv 0) pk_nil))) pa_nil)))) (pg_name (i := 2) sc__law_two_right.nd rfl (Or.inl rfl))
      (pss_one (ps_if (PW.pt (pw_or (pt_cmpR (op_neS hr.units) (pe_lst (pa_cons (pe_errF (pv 2)) (pa_cons (pe_errF (pv 2)) pa_nil))) (pe_lst (pa_cons (pv 0) (pa_cons (pv 1) pa_nil))) (nomark _)) (pw_or1 (pt_not (pt_val (C8.pe_c c__law_is_only hr (by decide) (by rfl) (pa_cons (pv 2) (pa_cons pe_int pa_nil)))))))) (pss_one (ps_ret pe_bl)) pss_nil)))
    (pss_one (ps_ret pe_bl))))), ?_⟩
  refine ⟨_, rfl, _, rfl, v, u, rfl, fun a1 J1 g1 s1 q1 => ⟨_, rfl, _, rfl, v, u, rfl, fun a2 J2 g2 s2 q2 => ⟨(by show 2 ≤ sizeLine; decide), fun ww n3i => ?_⟩⟩⟩
  obtain ⟨Bi, hBi⟩ : ∃ B0, B0 = upd J2 ww (.tup [.ref a1, .ref a2]) := ⟨_, rfl⟩
  have b2i : Same J2 Bi := by
    rw [hBi]
    exact same_new n3i _
  have upi : Same H Bi := s1.trans (s2.trans b2i)
  have E1i := q1.same (s2.trans b2i)
  have E2i := q2.same b2i
  have tti : Bi ww = some (.tup [.ref a1, .ref a2]) := by
    rw [hBi]
    exact new_at n3i _
  refine ⟨ww, rfl, ⟨_, SqT.of (new_at n3i _)⟩, for_tup (K := K) (a := ww) (xs := [.ref a1, .ref a2]) (fun _ σ' H' => (∃ x2, σ' = [some v, some u, x2]) ∧ Same Bi H') ⟨⟨_, rfl⟩, by rw [hBi]; exact Same.refl _⟩ (fun i σ' H' _ h => SqT.of (h.2 _ _ tti)) ?_ ?_⟩
  · rintro i x σ' H' hi ⟨⟨x2, rfl⟩, e⟩
    obtain ⟨ra, rfl, Ma⟩ : ∃ ra, x = .ref ra ∧ ErrAt Bi ra (c 17) [("most", u), ("what", v)] := by
      have mm := List.mem_of_getElem? hi
      simp only [List.mem_cons, List.mem_nil_iff, or_false] at mm
      rcases mm with rfl | rfl
      · exact ⟨_, rfl, E1i⟩
      · exact ⟨_, rfl, E2i⟩
    refine ⟨_, rfl, ra, c 17, _, v, rfl, Ma.same e, ET.m_TooMany.er.xf, ET.m_TooMany.no, rfl, _, rfl, ra, c 17, _, u, rfl, Ma.same e, ET.m_TooMany.er.xf, ET.m_TooMany.no2, rfl, (by show 2 ≤ sizeLine; decide), fun l nl => ?_⟩
    have e1' := e.trans (same_new nl (.lst [v, u]))
    refine ⟨_, rfl, _, rfl, (by show 2 ≤ sizeLine; decide), fun l' nl' => ⟨l, l', _, rfl, rfl, SqL.of (same_new nl' _ _ _ (new_at nl _)), SqL.of (new_at nl' _), hsel, false, rfl, iteF ?_⟩⟩
    have e2' := e1'.trans (same_new nl' (.lst [v, u]))
    refine ⟨_, rfl, ra, 17, rfl, .inl ⟨_, Ma.same e2'⟩, by decide, fun H5 e5 => ⟨true, rfl, iteF ?_⟩⟩
    exact ⟨⟨_, rfl⟩, e2'.trans e5⟩
  rintro σ' Hi ⟨⟨x2, rfl⟩, ezi⟩
  have eUi := upi.trans ezi
  refine ⟨_, rfl, _, rfl, v, u, rfl, fun a1 J1 g1 s1 q1 => ⟨_, rfl, _, rfl, v, u, rfl, fun a2 J2 g2 s2 q2 => ⟨(by show 2 ≤ sizeLine; decide), fun ww n3j => ?_⟩⟩⟩
  obtain ⟨Bj, hBj⟩ : ∃ B0, B0 = upd J2 ww (.tup [.ref a1, .ref a2]) := ⟨_, rfl⟩
  have b2j : Same J2 Bj := by
    rw [hBj]
    exact same_new n3j _
  have upj : Same H Bj := eUi.trans (s1.trans (s2.trans b2j))
  have E1j := q1.same (s2.trans b2j)
  have E2j := q2.same b2j
  have ttj : Bj ww = some (.tup [.ref a1, .ref a2]) := by
    rw [hBj]
    exact new_at n3j _
  refine ⟨ww, rfl, ⟨_, SqT.of (new_at n3j _)⟩, for_tup (K := K) (a := ww) (xs := [.ref a1, .ref a2]) (fun _ σ' H' => (∃ x2, σ' = [some v, some u, x2]) ∧ Same Bj H') ⟨⟨_, rfl⟩, by rw [hBj]; exact Same.refl _⟩ (fun i σ' H' _ h => SqT.of (h.2 _ _ ttj)) ?_ ?_⟩
  · rintro i x σ' H' hi ⟨⟨x2, rfl⟩, e⟩
    obtain ⟨ra, rfl, Ma⟩ : ∃ ra, x = .ref ra ∧ ErrAt Bj ra (c 19) [("item", u), ("line", v)] := by
      have mm := List.mem_of_getElem? hi
      simp only [List.mem_cons, List.mem_nil_iff, or_false] at mm
      rcases mm with rfl | rfl
      · exact ⟨_, rfl, E1j⟩
      · exact ⟨_, rfl, E2j⟩
    refine ⟨_, rfl, ra, c 19, _, v, rfl, Ma.same e, ET.m_BadText.er.xf, ET.m_BadText.no, rfl, _, rfl, ra, c 19, _, u, rfl, Ma.same e, ET.m_BadText.er.xf, ET.m_BadText.no2, rfl, (by show 2 ≤ sizeLine; decide), fun l nl => ?_⟩
    have e1' := e.trans (same_new nl (.lst [v, u]))
    refine ⟨_, rfl, _, rfl, (by show 2 ≤ sizeLine; decide), fun l' nl' => ⟨l, l', _, rfl, rfl, SqL.of (same_new nl' _ _ _ (new_at nl _)), SqL.of (new_at nl' _), hsel, false, rfl, iteF ?_⟩⟩
    have e2' := e1'.trans (same_new nl' (.lst [v, u]))
    refine ⟨_, rfl, ra, 19, rfl, .inl ⟨_, Ma.same e2'⟩, by decide, fun H5 e5 => ⟨true, rfl, iteF ?_⟩⟩
    exact ⟨⟨_, rfl⟩, e2'.trans e5⟩
  rintro σ' Hj ⟨⟨x2, rfl⟩, ezj⟩
  have eUj := upj.trans ezj
  refine ⟨_, rfl, _, rfl, v, u, rfl, fun a1 J1 g1 s1 q1 => ⟨_, rfl, _, rfl, v, u, rfl, fun a2 J2 g2 s2 q2 => ⟨(by show 2 ≤ sizeLine; decide), fun ww n3k => ?_⟩⟩⟩
  obtain ⟨Bk, hBk⟩ : ∃ B0, B0 = upd J2 ww (.tup [.ref a1, .ref a2]) := ⟨_, rfl⟩
  have b2k : Same J2 Bk := by
    rw [hBk]
    exact same_new n3k _
  have upk : Same H Bk := eUj.trans (s1.trans (s2.trans b2k))
  have E1k := q1.same (s2.trans b2k)
  have E2k := q2.same b2k
  have ttk : Bk ww = some (.tup [.ref a1, .ref a2]) := by
    rw [hBk]
    exact new_at n3k _
  refine ⟨ww, rfl, ⟨_, SqT.of (new_at n3k _)⟩, for_tup (K := K) (a := ww) (xs := [.ref a1, .ref a2]) (fun _ σ' H' => (∃ x2, σ' = [some v, some u, x2]) ∧ Same Bk H') ⟨⟨_, rfl⟩, by rw [hBk]; exact Same.refl _⟩ (fun i σ' H' _ h => SqT.of (h.2 _ _ ttk)) ?_ ?_⟩
  · rintro i x σ' H' hi ⟨⟨x2, rfl⟩, e⟩
    obtain ⟨ra, rfl, Ma⟩ : ∃ ra, x = .ref ra ∧ ErrAt Bk ra (c 20) [("error", u), ("line", v)] := by
      have mm := List.mem_of_getElem? hi
      simp only [List.mem_cons, List.mem_nil_iff, or_false] at mm
      rcases mm with rfl | rfl
      · exact ⟨_, rfl, E1k⟩
      · exact ⟨_, rfl, E2k⟩
    refine ⟨_, rfl, ra, c 20, _, v, rfl, Ma.same e, ET.m_BadLine.er.xf, ET.m_BadLine.no, rfl, _, rfl, ra, c 20, _, u, rfl, Ma.same e, ET.m_BadLine.er.xf, ET.m_BadLine.no2, rfl, (by show 2 ≤ sizeLine; decide), fun l nl => ?_⟩
    have e1' := e.trans (same_new nl (.lst [v, u]))
    refine ⟨_, rfl, _, rfl, (by show 2 ≤ sizeLine; decide), fun l' nl' => ⟨l, l', _, rfl, rfl, SqL.of (same_new nl' _ _ _ (new_at nl _)), SqL.of (new_at nl' _), hsel, false, rfl, iteF ?_⟩⟩
    have e2' := e1'.trans (same_new nl' (.lst [v, u]))
    refine ⟨_, rfl, ra, 20, rfl, .inl ⟨_, Ma.same e2'⟩, by decide, fun H5 e5 => ⟨true, rfl, iteF ?_⟩⟩
    exact ⟨⟨_, rfl⟩, e2'.trans e5⟩
  rintro σ' Hk ⟨⟨x2, rfl⟩, ezk⟩
  have eUk := upk.trans ezk
  exact q _ eUk
abbrev s_law : Stmt := topS 39
abbrev N_law : List Str := ["script", "well", "turn", "one", "other"]
abbrev P_law : List Str := ["script"]
theorem sc_law : FnScope N_law P_law (C8.fnScope s_law) := C8.fnScope_by (by decide +kernel)
theorem ok_law {C : Addr} (T : Txt K mg) (D : DefB K mg "law" s_law P_law) (c__law_well : C8.Cal P w K mg base 1 "_law_well" (spWell K) []) (c__law_value : C8.Cal P w K mg base 7 "_law_value" (spValue K C) [])
    (c__law_one_right : C8.Cal P w K mg base 4 "_law_one_right" (spOne K C) []) (c__law_two_right : C8.Cal P w K mg base 3 "_law_two_right" spTwo []) : C8.Cal P w K mg base 8 "law" (spLaw K) [] := by
  refine calB D sc_law (fun vs H Q E h => ?_) (fun f cdv A outer s H vs Q E hr h => ?_)
  · obtain ⟨a, ns, rfl, _⟩ := h
    rfl
  obtain ⟨a, ns, rfl, hS, hl, q⟩ := h
  refine ⟨_, (pss_cons (ps_set (i := 1) sc_law.nd rfl (Or.inl rfl) (C8.pe_c c__law_well hr (by decide) (by rfl) (pa_cons (pv 0) pa_nil)))
    (pss_cons (ps_for PassesOwn.never rfl (pi_range1 (by rfl) T.b_range (pa_cons pe_int pa_nil)) (pg_name (i := 2) sc_law.nd rfl (Or.inl rfl))
      (pss_cons (ps_par (i := 3) (j := 4) (by rfl) sc_law.nd rfl rfl (by decide) rfl rfl (pa_cons (C8.pe_c c__law_value hr (by decide) (by rfl) (pa_cons (pv 1) pa_nil)) (pa_cons (C8.pe_c c__law_value hr (by decide) (by rfl) (pa_cons (pv 1) pa_nil)) pa_nil)) (by rfl))
    (pss_one (ps_if (PW.pt (pw_or (pt_not (pt_val (C8.pe_c c__law_one_right hr (by decide) (by rfl) (pa_cons (pv 3) (pa_cons (pv 4) pa_nil))))) (pw_or1 (pt_not (pt_val (C8.pe_c c__law_two_right hr (by decide) (by rfl) (pa_cons (pv 3) (pa_cons (pv 4) pa_nil)))))))) (pss_one (ps_ret pe_bl)) pss_nil))))
    (pss_one (ps_ret pe_bl)))), ?_⟩
  refine ⟨_, rfl, a, ns, rfl, hS, hl, fun p cc H1 np nc e1 W1 => ?_⟩
  refine ⟨4, rfl, by decide, by decide, for_range (lo := 0) (n := 4) (fun i σ' H' => (∃ x2 x3 x4, σ' = [some (.ref a), some (.ref p), x2, x3, x4]) ∧ Well H' p cc (4 * (4 - i))) ⟨⟨_, _, _, rfl⟩, W1.less (by decide)⟩ ?_ ?_⟩
  · rintro i σ' H' hi ⟨⟨x2, x3, x4, rfl⟩, W⟩
    have en : 4 * (4 - i) = (4 * (4 - (i + 1)) + 2) + 2 := by omega
    rw [en] at W
    refine ⟨_, rfl, p, cc, _, rfl, W, fun v H2 kv k2 W2 => ⟨_, rfl, p, cc, _, rfl, W2, fun u H3 ku k3 W3 => ⟨v, u, rfl, ?_⟩⟩⟩
    obtain ⟨zs, hz⟩ := W2.at
    have kv' := kv.keep hz k3
    refine ⟨_, rfl, _, rfl, p, v, u, rfl, kv', ku, fun H4 e4 => ⟨true, rfl, iteF ?_⟩⟩
    refine ⟨_, rfl, _, rfl, v, u, rfl, kv'.selfy, ku.selfy, fun H5 e5 => ⟨true, rfl, iteF ?_⟩⟩
    exact ⟨⟨_, _, _, rfl⟩, W3.same (e4.trans e5)⟩
  · rintro σ' H' _
    exact q H'
end
end My


set_option Elab.async false
set_option linter.all false
set_option maxRecDepth 100000
namespace My
open PySem PySem.Spec PyProof.Rows L2
def isaB (K : PySem.W.Frag) (cs : List Addr) : Bool :=
  (((((List.range 22).all fun i => decide (PySem.W.kitOne K (.ref (cs.getD i 0)) (.ref (cs.getD 22 0)) = some true)) && ((List.range 21).all fun i => decide (PySem.W.kitOne K (.ref (cs.getD i 0)) (.type "ValueError") = some true))) &&
  ((List.range 21).all fun i => decide (PySem.W.kitAny K (.ref (cs.getD i 0)) [.type "LookupError", .type "TypeError", .type "ArithmeticError", .type "AttributeError", .type "RuntimeError"] = some false))) &&
  ((List.range 21).all fun i => decide (PySem.W.kitOne K (.ref (cs.getD i 0)) (.ref (cs.getD 21 0)) = some (decide (10 ≤ i) && decide (i < 13))))) &&
  ((List.range 21).all fun i => (List.range 21).all fun j => decide (PySem.W.kitOne K (.ref (cs.getD i 0)) (.ref (cs.getD j 0)) = some (decide (j = i)))) &&
  decide (PySem.W.kitAny K (.ref (cs.getD 21 0)) [.ref (cs.getD 10 0), .ref (cs.getD 11 0), .ref (cs.getD 12 0), .ref (cs.getD 13 0)] = some false)
theorem isaB_ok {K : PySem.W.Frag} {cs : List Addr} (h : isaB K cs = true) :
    (∀ i, i < 22 → PySem.W.kitOne K (.ref (cs.getD i 0)) (.ref (cs.getD 22 0)) = some true) ∧ (∀ i, i < 21 → PySem.W.kitOne K (.ref (cs.getD i 0)) (.type "ValueError") = some true) ∧
    (∀ i, i < 21 → PySem.W.kitAny K (.ref (cs.getD i 0)) [.type "LookupError", .type "TypeError", .type "ArithmeticError", .type "AttributeError", .type "RuntimeError"] = some false) ∧
    (∀ i, i < 21 → PySem.W.kitOne K (.ref (cs.getD i 0)) (.ref (cs.getD 21 0)) = some (decide (10 ≤ i) && decide (i < 13))) ∧
    (∀ i, i < 21 → ∀ j, j < 21 → PySem.W.kitOne K (.ref (cs.getD i 0)) (.ref (cs.getD j 0)) = some (decide (j = i))) ∧
    PySem.W.kitAny K (.ref (cs.getD 21 0)) [.ref (cs.getD 10 0), .ref (cs.getD 11 0), .ref (cs.getD 12 0), .ref (cs.getD 13 0)] = some false := by
  unfold isaB at h
  simp only [Bool.and_eq_true, List.all_eq_true, List.mem_range, decide_eq_true_eq] at h
  obtain ⟨⟨⟨⟨⟨h1, h2⟩, h3⟩, h4⟩, h5⟩, h6⟩ := h
  exact ⟨h1, h2, h3, h4, h5, h6⟩
theorem errC_mk {K : PySem.W.Frag} {C : Addr} {nm q : Str} {N : Addr} {bs bm sub : List Value} {sn : List Str} {ab : Bool} {col : Option Bool} {dd : Option Addr} {k0 k1 k2 k3 k5 : Option Value} (l : K.lookup C = some (excClassObj nm q C N bs bm true sn sub ab col dd k0 k1 k2 k3 k5 "ValueError.__new__")) (r : PySem.HandSPX.refsVE bm = true)
    (sa : PySem.W.findIn K (.ref C) "__setattr__" = some (some (.builtin "object.__setattr__"))) (ex : PySem.W.subIn K (.ref C) (.type "BaseException") = some true) (ty : PySem.W.typeIn K (.ref C) = some (.type "type")) (kp : PySem.W.keepIn K (.ref C) = true)
    (ga : PySem.W.findIn K (.ref C) "__getattribute__" = some (some (.builtin "BaseException.__getattribute__"))) (gg : PySem.W.findIn K (.ref C) "__getattr__" = some none) (hd : PySem.W.hasDictIn K C = true) (ha : PySem.W.findIn K (.ref C) "__class__" = some (some (.builtin "object.__class__")))
    (hn : PySem.W.specialIn K (.builtin "object.__class__") "__get__" = some (some (.builtin "getset_descriptor.__get__"))) (ht : PySem.W.takesIn K (.builtin "object.__class__") = some true) (hm : PySem.W.mroIn K C (.type "object") = some true) : ErrC K C :=
  ⟨⟨⟨_, _, _, _, _, _, _, _, _, _, _, _, _, _, _, l, r⟩, sa, ex, ty, kp⟩, ⟨ga, gg, ex, hd⟩, ⟨ga, gg, ex, hd, ha, hn, ht, hm⟩⟩
theorem defB_mk {K : PySem.W.Frag} {h : Heap} {mg : Str → Option Value} {x : Str} {st : Stmt} {ps : List Str} {f : Addr} {od an : Option Addr} {sl : Array (Option Value)} {oc kV dc pm cd ct : Value} (X : K.In h) (G : h.Ns mainGlobals mg) (a : PySem.W.nsIn K mainGlobals x = some (some (.ref f)))
    (l : K.lookup f = some ⟨oc, od, .func (PySem.W.fnOf x x (C8.fnArgs st) (C8.fnBody st) (C8.fnScope st) .none kV dc pm an cd ct), sl⟩) (c : PySem.W.codeIn K cd x = true) (k : PySem.W.keepIn K (.ref f) = true)
    (hb : ∀ (kV doc pm : Value) (an : Option Addr) (cdv ct : Value) (us : List Value), us.length = ps.length → bindArgs (PySem.W.fnOf x x (C8.fnArgs st) (C8.fnBody st) (C8.fnScope st) .none kV doc pm an cdv ct) ⟨us, []⟩ = pure (ps.zip us)) : DefB K mg x st ps := by
  have F : C8.Fun K x x st f _ := ⟨_, _, _, _, _, _, _, _, _, _, rfl, l, c⟩
  exact ⟨f, _, ⟨F, PySem.W.mg_of X G a, k⟩, C8.Fun.binds F rfl hb⟩
section
variable {P : Program} {w : World} {K : PySem.W.Frag} {mg : Str → Option Value} {base : Heap}
theorem fn_law {C fl : Addr} {fdl : FuncData} (T : Txt K mg) (F : C8.Fun K "law" "law" s_law fl fdl) (c__law_well : C8.Cal P w K mg base 1 "_law_well" (spWell K) []) (c__law_value : C8.Cal P w K mg base 7 "_law_value" (spValue K C) [])
    (c__law_one_right : C8.Cal P w K mg base 4 "_law_one_right" (spOne K C) []) (c__law_two_right : C8.Cal P w K mg base 3 "_law_two_right" spTwo []) : FnOk P w K mg base CX0 8 fl fdl ["script"] (spLaw K) := by
  refine C8.fn0 F sc_law (fun vs H Q E h => ?_) (fun cdv A outer s H vs Q E hr h => ?_)
  · obtain ⟨a, ns, rfl, _⟩ := h
    rfl
  obtain ⟨a, ns, rfl, hS, hl, q⟩ := h
  refine ⟨_, (pss_cons (ps_set (i := 1) sc_law.nd rfl (Or.inl rfl) (C8.pe_c c__law_well hr (by decide) (by rfl) (pa_cons (pv 0) pa_nil)))
    (pss_cons (ps_for PassesOwn.never rfl (pi_range1 (by rfl) T.b_range (pa_cons pe_int pa_nil)) (pg_name (i := 2) sc_law.nd rfl (Or.inl rfl))
      (pss_cons (ps_par (i := 3) (j := 4) (by rfl) sc_law.nd rfl rfl (by decide) rfl rfl (pa_cons (C8.pe_c c__law_value hr (by decide) (by rfl) (pa_cons (pv 1) pa_nil)) (pa_cons (C8.pe_c c__law_value hr (by decide) (by rfl) (pa_cons (pv 1) pa_nil)) pa_nil)) (by rfl))
    (pss_one (ps_if (PW.pt (pw_or (pt_not (pt_val (C8.pe_c c__law_one_right hr (by decide) (by rfl) (pa_cons (pv 3) (pa_cons (pv 4) pa_nil))))) (pw_or1 (pt_not (pt_val (C8.pe_c c__law_two_right hr (by decide) (by rfl) (pa_cons (pv 3) (pa_cons (pv 4) pa_nil)))))))) (pss_one (ps_ret pe_bl)) pss_nil))))
    (pss_one (ps_ret pe_bl)))), ?_⟩
  refine ⟨_, rfl, a, ns, rfl, hS, hl, fun p cc H1 np nc e1 W1 => ?_⟩
  refine ⟨4, rfl, by decide, by decide, for_range (lo := 0) (n := 4) (fun i σ' H' => (∃ x2 x3 x4, σ' = [some (.ref a), some (.ref p), x2, x3, x4]) ∧ Well H' p cc (4 * (4 - i))) ⟨⟨_, _, _, rfl⟩, W1.less (by decide)⟩ ?_ ?_⟩
  · rintro i σ' H' hi ⟨⟨x2, x3, x4, rfl⟩, W⟩
    have en : 4 * (4 - i) = (4 * (4 - (i + 1)) + 2) + 2 := by omega
    rw [en] at W
    refine ⟨_, rfl, p, cc, _, rfl, W, fun v H2 kv k2 W2 => ⟨_, rfl, p, cc, _, rfl, W2, fun u H3 ku k3 W3 => ⟨v, u, rfl, ?_⟩⟩⟩
    obtain ⟨zs, hz⟩ := W2.at
    have kv' := kv.keep hz k3
    refine ⟨_, rfl, _, rfl, p, v, u, rfl, kv', ku, fun H4 e4 => ⟨true, rfl, iteF ?_⟩⟩
    refine ⟨_, rfl, _, rfl, v, u, rfl, kv'.selfy, ku.selfy, fun H5 e5 => ⟨true, rfl, iteF ?_⟩⟩
    exact ⟨⟨_, _, _, rfl⟩, W3.same (e4.trans e5)⟩
  · rintro σ' H' _
    exact q H'
end
theorem all_mk {l : PySem.W.OpenLaw} {w : World} {K : PySem.W.Frag} {h : Heap} {mg : Str → Option Value} {fa : Addr} (X : K.In h) (G : h.Ns mainGlobals mg) (hfa : mg "law" = some (.ref fa))
    {f_0 : Addr} {od_0 an_0 : Option Addr} {sl_0 : Array (Option Value)} {oc_0 kV_0 dc_0 pm_0 cd_0 ct_0 : Value} {f_1 : Addr} {od_1 an_1 : Option Addr} {sl_1 : Array (Option Value)} {oc_1 kV_1 dc_1 pm_1 cd_1 ct_1 : Value} {f_2 : Addr} {od_2 an_2 : Option Addr} {sl_2 : Array (Option Value)} {oc_2 kV_2 dc_2 pm_2 cd_2 ct_2 : Value} {f_3 : Addr} {od_3 an_3 : Option Addr} {sl_3 : Array (Option Value)} {oc_3 kV_3 dc_3 pm_3 cd_3 ct_3 : Value} {f_4 : Addr} {od_4 an_4 : Option Addr} {sl_4 : Array (Option Value)} {oc_4 kV_4 dc_4 pm_4 cd_4 ct_4 : Value} {f_5 : Addr} {od_5 an_5 : Option Addr} {sl_5 : Array (Option Value)} {oc_5 kV_5 dc_5 pm_5 cd_5 ct_5 : Value} {f_6 : Addr} {od_6 an_6 : Option Addr} {sl_6 : Array (Option Value)} {oc_6 kV_6 dc_6 pm_6 cd_6 ct_6 : Value} {f_7 : Addr} {od_7 an_7 : Option Addr} {sl_7 : Array (Option Value)} {oc_7 kV_7 dc_7 pm_7 cd_7 ct_7 : Value} {f_8 : Addr} {od_8 an_8 : Option Addr} {sl_8 : Array (Option Value)} {oc_8 kV_8 dc_8 pm_8 cd_8 ct_8 : Value} {f_9 : Addr} {od_9 an_9 : Option Addr} {sl_9 : Array (Option Value)} {oc_9 kV_9 dc_9 pm_9 cd_9 ct_9 : Value} {f_10 : Addr} {od_10 an_10 : Option Addr} {sl_10 : Array (Option Value)} {oc_10 kV_10 dc_10 pm_10 cd_10 ct_10 : Value} {f_11 : Addr} {od_11 an_11 : Option Addr} {sl_11 : Array (Option Value)} {oc_11 kV_11 dc_11 pm_11 cd_11 ct_11 : Value} {f_12 : Addr} {od_12 an_12 : Option Addr} {sl_12 : Array (Option Value)} {oc_12 kV_12 dc_12 pm_12 cd_12 ct_12 : Value} {C_0 : Addr} {C_1 : Addr} {C_2 : Addr} {C_3 : Addr} {C_4 : Addr} {C_5 : Addr} {C_6 : Addr} {C_7 : Addr} {C_8 : Addr} {C_9 : Addr} {C_10 : Addr} {C_11 : Addr} {C_12 : Addr} {C_13 : Addr} {C_14 : Addr} {C_15 : Addr} {C_16 : Addr} {C_17 : Addr} {C_18 : Addr} {C_19 : Addr} {C_20 : Addr} {C_21 : Addr} {C_22 : Addr} {nm_0 q_0 : Str} {N_0 : Addr} {bs_0 bm_0 sub_0 : List Value} {sn_0 : List Str} {ab_0 : Bool} {col_0 : Option Bool} {dd_0 : Option Addr} {x0_0 x1_0 x2_0 x3_0 x5_0 : Option Value} {nm_1 q_1 : Str} {N_1 : Addr} {bs_1 bm_1 sub_1 : List Value} {sn_1 : List Str} {ab_1 : Bool} {col_1 : Option Bool} {dd_1 : Option Addr} {x0_1 x1_1 x2_1 x3_1 x5_1 : Option Value} {nm_2 q_2 : Str} {N_2 : Addr} {bs_2 bm_2 sub_2 : List Value} {sn_2 : List Str} {ab_2 : Bool} {col_2 : Option Bool} {dd_2 : Option Addr} {x0_2 x1_2 x2_2 x3_2 x5_2 : Option Value} {nm_3 q_3 : Str} {N_3 : Addr} {bs_3 bm_3 sub_3 : List Value} {sn_3 : List Str} {ab_3 : Bool} {col_3 : Option Bool} {dd_3 : Option Addr} {x0_3 x1_3 x2_3 x3_3 x5_3 : Option Value} {nm_4 q_4 : Str} {N_4 : Addr} {bs_4 bm_4 sub_4 : List Value} {sn_4 : List Str} {ab_4 : Bool} {col_4 : Option Bool} {dd_4 : Option Addr} {x0_4 x1_4 x2_4 x3_4 x5_4 : Option Value} {nm_5 q_5 : Str} {N_5 : Addr} {bs_5 bm_5 sub_5 : List Value} {sn_5 : List Str} {ab_5 : Bool} {col_5 : Option Bool} {dd_5 : Option Addr} {x0_5 x1_5 x2_5 x3_5 x5_5 : Option Value} {nm_6 q_6 : Str} {N_6 : Addr} {bs_6 bm_6 sub_6 : List Value} {sn_6 : List Str} {ab_6 : Bool} {col_6 : Option Bool} {dd_6 : Option Addr} {x0_6 x1_6 x2_6 x3_6 x5_6 : Option Value} {nm_7 q_7 : Str} {N_7 : Addr} {bs_7 bm_7 sub_7 : List Value} {sn_7 : List Str} {ab_7 : Bool} {col_7 : Option Bool} {dd_7 : Option Addr} {x0_7 x1_7 x2_7 x3_7 x5_7 : Option Value} {nm_8 q_8 : Str} {N_8 : Addr} {bs_8 bm_8 sub_8 : List Value} {sn_8 : List Str} {ab_8 : Bool} {col_8 : Option Bool} {dd_8 : Option Addr} {x0_8 x1_8 x2_8 x3_8 x5_8 : Option Value} {nm_9 q_9 : Str} {N_9 : Addr} {bs_9 bm_9 sub_9 : List Value} {sn_9 : List Str} {ab_9 : Bool} {col_9 : Option Bool} {dd_9 : Option Addr} {x0_9 x1_9 x2_9 x3_9 x5_9 : Option Value} {nm_10 q_10 : Str} {N_10 : Addr} {bs_10 bm_10 sub_10 : List Value} {sn_10 : List Str} {ab_10 : Bool} {col_10 : Option Bool} {dd_10 : Option Addr} {x0_10 x1_10 x2_10 x3_10 x5_10 : Option Value} {nm_11 q_11 : Str} {N_11 : Addr} {bs_11 bm_11 sub_11 : List Value} {sn_11 : List Str} {ab_11 : Bool} {col_11 : Option Bool} {dd_11 : Option Addr} {x0_11 x1_11 x2_11 x3_11 x5_11 : Option Value} {nm_12 q_12 : Str} {N_12 : Addr} {bs_12 bm_12 sub_12 : List Value} {sn_12 : List Str} {ab_12 : Bool} {col_12 : Option Bool} {dd_12 : Option Addr} {x0_12 x1_12 x2_12 x3_12 x5_12 : Option Value} {nm_13 q_13 : Str} {N_13 : Addr} {bs_13 bm_13 sub_13 : List Value} {sn_13 : List Str} {ab_13 : Bool} {col_13 : Option Bool} {dd_13 : Option Addr} {x0_13 x1_13 x2_13 x3_13 x5_13 : Option Value} {nm_14 q_14 : Str} {N_14 : Addr} {bs_14 bm_14 sub_14 : List Value} {sn_14 : List Str} {ab_14 : Bool} {col_14 : Option Bool} {dd_14 : Option Addr} {x0_14 x1_14 x2_14 x3_14 x5_14 : Option Value} {nm_15 q_15 : Str} {N_15 : Addr} {bs_15 bm_15 sub_15 : List Value} {sn_15 : List Str} {ab_15 : Bool} {col_15 : Option Bool} {dd_15 : Option Addr} {x0_15 x1_15 x2_15 x3_15 x5_15 : Option Value} {nm_16 q_16 : Str} {N_16 : Addr} {bs_16 bm_16 sub_16 : List Value} {sn_16 : List Str} {ab_16 : Bool} {col_16 : Option Bool} {dd_16 : Option Addr} {x0_16 x1_16 x2_16 x3_16 x5_16 : Option Value} {nm_17 q_17 : Str} {N_17 : Addr} {bs_17 bm_17 sub_17 : List Value} {sn_17 : List Str} {ab_17 : Bool} {col_17 : Option Bool} {dd_17 : Option Addr} {x0_17 x1_17 x2_17 x3_17 x5_17 : Option Value} {nm_18 q_18 : Str} {N_18 : Addr} {bs_18 bm_18 sub_18 : List Value} {sn_18 : List Str} {ab_18 : Bool} {col_18 : Option Bool} {dd_18 : Option Addr} {x0_18 x1_18 x2_18 x3_18 x5_18 : Option Value} {nm_19 q_19 : Str} {N_19 : Addr} {bs_19 bm_19 sub_19 : List Value} {sn_19 : List Str} {ab_19 : Bool} {col_19 : Option Bool} {dd_19 : Option Addr} {x0_19 x1_19 x2_19 x3_19 x5_19 : Option Value} {nm_20 q_20 : Str} {N_20 : Addr} {bs_20 bm_20 sub_20 : List Value} {sn_20 : List Str} {ab_20 : Bool} {col_20 : Option Bool} {dd_20 : Option Addr} {x0_20 x1_20 x2_20 x3_20 x5_20 : Option Value} {nm_21 q_21 : Str} {N_21 : Addr} {bs_21 bm_21 sub_21 : List Value} {sn_21 : List Str} {ab_21 : Bool} {col_21 : Option Bool} {dd_21 : Option Addr} {x0_21 x1_21 x2_21 x3_21 x5_21 : Option Value} {u_0 : Addr} {uo_0 ua_0 : Option Addr} {us_0 : Array (Option Value)} {uc_0 uk_0 ud_0 up_0 ucd_0 uct_0 : Value} {u_1 : Addr} {uo_1 ua_1 : Option Addr} {us_1 : Array (Option Value)} {uc_1 uk_1 ud_1 up_1 ucd_1 uct_1 : Value} {u_2 : Addr} {uo_2 ua_2 : Option Addr} {us_2 : Array (Option Value)} {uc_2 uk_2 ud_2 up_2 ucd_2 uct_2 : Value} {u_3 : Addr} {uo_3 ua_3 : Option Addr} {us_3 : Array (Option Value)} {uc_3 uk_3 ud_3 up_3 ucd_3 uct_3 : Value} {u_4 : Addr} {uo_4 ua_4 : Option Addr} {us_4 : Array (Option Value)} {uc_4 uk_4 ud_4 up_4 ucd_4 uct_4 : Value} {u_5 : Addr} {uo_5 ua_5 : Option Addr} {us_5 : Array (Option Value)} {uc_5 uk_5 ud_5 up_5 ucd_5 uct_5 : Value} {u_6 : Addr} {uo_6 ua_6 : Option Addr} {us_6 : Array (Option Value)} {uc_6 uk_6 ud_6 up_6 ucd_6 uct_6 : Value} {u_7 : Addr} {uo_7 ua_7 : Option Addr} {us_7 : Array (Option Value)} {uc_7 uk_7 ud_7 up_7 ucd_7 uct_7 : Value} {u_8 : Addr} {uo_8 ua_8 : Option Addr} {us_8 : Array (Option Value)} {uc_8 uk_8 ud_8 up_8 ucd_8 uct_8 : Value} {u_9 : Addr} {uo_9 ua_9 : Option Addr} {us_9 : Array (Option Value)} {uc_9 uk_9 ud_9 up_9 ucd_9 uct_9 : Value} {u_13 : Addr} {uo_13 ua_13 : Option Addr} {us_13 : Array (Option Value)} {uc_13 uk_13 ud_13 up_13 ucd_13 uct_13 : Value} {u_15 : Addr} {uo_15 ua_15 : Option Addr} {us_15 : Array (Option Value)} {uc_15 uk_15 ud_15 up_15 ucd_15 uct_15 : Value} {u_16 : Addr} {uo_16 ua_16 : Option Addr} {us_16 : Array (Option Value)} {uc_16 uk_16 ud_16 up_16 ucd_16 uct_16 : Value} {u_17 : Addr} {uo_17 ua_17 : Option Addr} {us_17 : Array (Option Value)} {uc_17 uk_17 ud_17 up_17 ucd_17 uct_17 : Value} {u_19 : Addr} {uo_19 ua_19 : Option Addr} {us_19 : Array (Option Value)} {uc_19 uk_19 ud_19 up_19 ucd_19 uct_19 : Value} {u_20 : Addr} {uo_20 ua_20 : Option Addr} {us_20 : Array (Option Value)} {uc_20 uk_20 ud_20 up_20 ucd_20 uct_20 : Value} {u_21 : Addr} {uo_21 ua_21 : Option Addr} {us_21 : Array (Option Value)} {uc_21 uk_21 ud_21 up_21 ucd_21 uct_21 : Value} {CP fi fe : Addr} {pnm pq : Str} {pN : Addr} {pbs psub : List Value} {psn : List Str} {pab : Bool} {pcol : Option Bool} {pdd : Option Addr} {px0 px1 px2 px3 px5 : Option Value} {pnew : String} {vio via : Option Addr} {vis : Array (Option Value)} {vic vik vid vip vicd vict : Value} {veo vea : Option Addr} {ves : Array (Option Value)} {vec vek ved vep vecd vect : Value}
    (z_int : PySem.W.nsIn K mainGlobals "int" = some none)
    (z_len : PySem.W.nsIn K mainGlobals "len" = some none)
    (z_abs : PySem.W.nsIn K mainGlobals "abs" = some none)
    (z_str : PySem.W.nsIn K mainGlobals "str" = some none)
    (z_isinstance : PySem.W.nsIn K mainGlobals "isinstance" = some none)
    (z_enumerate : PySem.W.nsIn K mainGlobals "enumerate" = some none)
    (z_range : PySem.W.nsIn K mainGlobals "range" = some none)
    (z_tuple : PySem.W.nsIn K mainGlobals "tuple" = some none)
    (z_list : PySem.W.nsIn K mainGlobals "list" = some none)
    (z_type : PySem.W.nsIn K mainGlobals "type" = some none)
    (z_ValueError : PySem.W.nsIn K mainGlobals "ValueError" = some none)
    (z_LookupError : PySem.W.nsIn K mainGlobals "LookupError" = some none)
    (z_TypeError : PySem.W.nsIn K mainGlobals "TypeError" = some none)
    (z_ArithmeticError : PySem.W.nsIn K mainGlobals "ArithmeticError" = some none)
    (z_AttributeError : PySem.W.nsIn K mainGlobals "AttributeError" = some none)
    (z_RuntimeError : PySem.W.nsIn K mainGlobals "RuntimeError" = some none)
    (a_0 : PySem.W.nsIn K mainGlobals "fixed" = some (some (.ref f_0)))
    (l_0 : K.lookup f_0 = some ⟨oc_0, od_0, .func (PySem.W.fnOf "fixed" "fixed" (C8.fnArgs s_fixed) (C8.fnBody s_fixed) (C8.fnScope s_fixed) .none kV_0 dc_0 pm_0 an_0 cd_0 ct_0), sl_0⟩)
    (c_0 : PySem.W.codeIn K cd_0 "fixed" = true)
    (k_0 : PySem.W.keepIn K (.ref f_0) = true)
    (a_1 : PySem.W.nsIn K mainGlobals "is_same" = some (some (.ref f_1)))
    (l_1 : K.lookup f_1 = some ⟨oc_1, od_1, .func (PySem.W.fnOf "is_same" "is_same" (C8.fnArgs s_is_same) (C8.fnBody s_is_same) (C8.fnScope s_is_same) .none kV_1 dc_1 pm_1 an_1 cd_1 ct_1), sl_1⟩)
    (c_1 : PySem.W.codeIn K cd_1 "is_same" = true)
    (k_1 : PySem.W.keepIn K (.ref f_1) = true)
    (a_2 : PySem.W.nsIn K mainGlobals "_law_well" = some (some (.ref f_2)))
    (l_2 : K.lookup f_2 = some ⟨oc_2, od_2, .func (PySem.W.fnOf "_law_well" "_law_well" (C8.fnArgs s__law_well) (C8.fnBody s__law_well) (C8.fnScope s__law_well) .none kV_2 dc_2 pm_2 an_2 cd_2 ct_2), sl_2⟩)
    (c_2 : PySem.W.codeIn K cd_2 "_law_well" = true)
    (k_2 : PySem.W.keepIn K (.ref f_2) = true)
    (a_3 : PySem.W.nsIn K mainGlobals "_law_pail" = some (some (.ref f_3)))
    (l_3 : K.lookup f_3 = some ⟨oc_3, od_3, .func (PySem.W.fnOf "_law_pail" "_law_pail" (C8.fnArgs s__law_pail) (C8.fnBody s__law_pail) (C8.fnScope s__law_pail) .none kV_3 dc_3 pm_3 an_3 cd_3 ct_3), sl_3⟩)
    (c_3 : PySem.W.codeIn K cd_3 "_law_pail" = true)
    (k_3 : PySem.W.keepIn K (.ref f_3) = true)
    (a_4 : PySem.W.nsIn K mainGlobals "_law_of" = some (some (.ref f_4)))
    (l_4 : K.lookup f_4 = some ⟨oc_4, od_4, .func (PySem.W.fnOf "_law_of" "_law_of" (C8.fnArgs s__law_of) (C8.fnBody s__law_of) (C8.fnScope s__law_of) .none kV_4 dc_4 pm_4 an_4 cd_4 ct_4), sl_4⟩)
    (c_4 : PySem.W.codeIn K cd_4 "_law_of" = true)
    (k_4 : PySem.W.keepIn K (.ref f_4) = true)
    (a_5 : PySem.W.nsIn K mainGlobals "_law_value" = some (some (.ref f_5)))
    (l_5 : K.lookup f_5 = some ⟨oc_5, od_5, .func (PySem.W.fnOf "_law_value" "_law_value" (C8.fnArgs s__law_value) (C8.fnBody s__law_value) (C8.fnScope s__law_value) .none kV_5 dc_5 pm_5 an_5 cd_5 ct_5), sl_5⟩)
    (c_5 : PySem.W.codeIn K cd_5 "_law_value" = true)
    (k_5 : PySem.W.keepIn K (.ref f_5) = true)
    (a_6 : PySem.W.nsIn K mainGlobals "_law_classes" = some (some (.ref f_6)))
    (l_6 : K.lookup f_6 = some ⟨oc_6, od_6, .func (PySem.W.fnOf "_law_classes" "_law_classes" (C8.fnArgs s__law_classes) (C8.fnBody s__law_classes) (C8.fnScope s__law_classes) .none kV_6 dc_6 pm_6 an_6 cd_6 ct_6), sl_6⟩)
    (c_6 : PySem.W.codeIn K cd_6 "_law_classes" = true)
    (k_6 : PySem.W.keepIn K (.ref f_6) = true)
    (a_7 : PySem.W.nsIn K mainGlobals "_law_is_only" = some (some (.ref f_7)))
    (l_7 : K.lookup f_7 = some ⟨oc_7, od_7, .func (PySem.W.fnOf "_law_is_only" "_law_is_only" (C8.fnArgs s__law_is_only) (C8.fnBody s__law_is_only) (C8.fnScope s__law_is_only) .none kV_7 dc_7 pm_7 an_7 cd_7 ct_7), sl_7⟩)
    (c_7 : PySem.W.codeIn K cd_7 "_law_is_only" = true)
    (k_7 : PySem.W.keepIn K (.ref f_7) = true)
    (a_8 : PySem.W.nsIn K mainGlobals "_law_by_place" = some (some (.ref f_8)))
    (l_8 : K.lookup f_8 = some ⟨oc_8, od_8, .func (PySem.W.fnOf "_law_by_place" "_law_by_place" (C8.fnArgs s__law_by_place) (C8.fnBody s__law_by_place) (C8.fnScope s__law_by_place) .none kV_8 dc_8 pm_8 an_8 cd_8 ct_8), sl_8⟩)
    (c_8 : PySem.W.codeIn K cd_8 "_law_by_place" = true)
    (k_8 : PySem.W.keepIn K (.ref f_8) = true)
    (a_9 : PySem.W.nsIn K mainGlobals "_law_by_name" = some (some (.ref f_9)))
    (l_9 : K.lookup f_9 = some ⟨oc_9, od_9, .func (PySem.W.fnOf "_law_by_name" "_law_by_name" (C8.fnArgs s__law_by_name) (C8.fnBody s__law_by_name) (C8.fnScope s__law_by_name) .none kV_9 dc_9 pm_9 an_9 cd_9 ct_9), sl_9⟩)
    (c_9 : PySem.W.codeIn K cd_9 "_law_by_name" = true)
    (k_9 : PySem.W.keepIn K (.ref f_9) = true)
    (a_10 : PySem.W.nsIn K mainGlobals "_law_one_right" = some (some (.ref f_10)))
    (l_10 : K.lookup f_10 = some ⟨oc_10, od_10, .func (PySem.W.fnOf "_law_one_right" "_law_one_right" (C8.fnArgs s__law_one_right) (C8.fnBody s__law_one_right) (C8.fnScope s__law_one_right) .none kV_10 dc_10 pm_10 an_10 cd_10 ct_10), sl_10⟩)
    (c_10 : PySem.W.codeIn K cd_10 "_law_one_right" = true)
    (k_10 : PySem.W.keepIn K (.ref f_10) = true)
    (a_11 : PySem.W.nsIn K mainGlobals "_law_two_right" = some (some (.ref f_11)))
    (l_11 : K.lookup f_11 = some ⟨oc_11, od_11, .func (PySem.W.fnOf "_law_two_right" "_law_two_right" (C8.fnArgs s__law_two_right) (C8.fnBody s__law_two_right) (C8.fnScope s__law_two_right) .none kV_11 dc_11 pm_11 an_11 cd_11 ct_11), sl_11⟩)
    (c_11 : PySem.W.codeIn K cd_11 "_law_two_right" = true)
    (k_11 : PySem.W.keepIn K (.ref f_11) = true)
    (a_12 : PySem.W.nsIn K mainGlobals "law" = some (some (.ref f_12)))
    (l_12 : K.lookup f_12 = some ⟨oc_12, od_12, .func (PySem.W.fnOf "law" "law" (C8.fnArgs s_law) (C8.fnBody s_law) (C8.fnScope s_law) .none kV_12 dc_12 pm_12 an_12 cd_12 ct_12), sl_12⟩)
    (c_12 : PySem.W.codeIn K cd_12 "law" = true)
    (k_12 : PySem.W.keepIn K (.ref f_12) = true)
    (g_0 : PySem.W.nsIn K mainGlobals "BadPoly" = some (some (.ref C_0)))
    (g_1 : PySem.W.nsIn K mainGlobals "BadScheme" = some (some (.ref C_1)))
    (g_2 : PySem.W.nsIn K mainGlobals "BadReading" = some (some (.ref C_2)))
    (g_3 : PySem.W.nsIn K mainGlobals "BadCurve" = some (some (.ref C_3)))
    (g_4 : PySem.W.nsIn K mainGlobals "BadBase" = some (some (.ref C_4)))
    (g_5 : PySem.W.nsIn K mainGlobals "BadRows" = some (some (.ref C_5)))
    (g_6 : PySem.W.nsIn K mainGlobals "BadRests" = some (some (.ref C_6)))
    (g_7 : PySem.W.nsIn K mainGlobals "BadNumber" = some (some (.ref C_7)))
    (g_8 : PySem.W.nsIn K mainGlobals "BadDesk" = some (some (.ref C_8)))
    (g_9 : PySem.W.nsIn K mainGlobals "Misfit" = some (some (.ref C_9)))
    (g_10 : PySem.W.nsIn K mainGlobals "NoPlace" = some (some (.ref C_10)))
    (g_11 : PySem.W.nsIn K mainGlobals "NoOffer" = some (some (.ref C_11)))
    (g_12 : PySem.W.nsIn K mainGlobals "NoPrime" = some (some (.ref C_12)))
    (g_13 : PySem.W.nsIn K mainGlobals "Twice" = some (some (.ref C_13)))
    (g_14 : PySem.W.nsIn K mainGlobals "ByZero" = some (some (.ref C_14)))
    (g_15 : PySem.W.nsIn K mainGlobals "Beyond" = some (some (.ref C_15)))
    (g_16 : PySem.W.nsIn K mainGlobals "Impossible" = some (some (.ref C_16)))
    (g_17 : PySem.W.nsIn K mainGlobals "TooMany" = some (some (.ref C_17)))
    (g_18 : PySem.W.nsIn K mainGlobals "Nothing" = some (some (.ref C_18)))
    (g_19 : PySem.W.nsIn K mainGlobals "BadText" = some (some (.ref C_19)))
    (g_20 : PySem.W.nsIn K mainGlobals "BadLine" = some (some (.ref C_20)))
    (g_21 : PySem.W.nsIn K mainGlobals "Missing" = some (some (.ref C_21)))
    (g_22 : PySem.W.nsIn K mainGlobals "NearError" = some (some (.ref C_22)))
    (L_0 : K.lookup C_0 = some (excClassObj nm_0 q_0 C_0 N_0 bs_0 bm_0 true sn_0 sub_0 ab_0 col_0 dd_0 x0_0 x1_0 x2_0 x3_0 x5_0 "ValueError.__new__"))
    (V_0 : PySem.HandSPX.refsVE bm_0 = true)
    (S_0 : PySem.W.findIn K (.ref C_0) "__setattr__" = some (some (.builtin "object.__setattr__")))
    (X_0 : PySem.W.subIn K (.ref C_0) (.type "BaseException") = some true)
    (Y_0 : PySem.W.typeIn K (.ref C_0) = some (.type "type"))
    (K_0 : PySem.W.keepIn K (.ref C_0) = true)
    (G_0 : PySem.W.findIn K (.ref C_0) "__getattribute__" = some (some (.builtin "BaseException.__getattribute__")))
    (H_0 : PySem.W.findIn K (.ref C_0) "__getattr__" = some none)
    (D_0 : PySem.W.hasDictIn K C_0 = true)
    (A_0 : PySem.W.findIn K (.ref C_0) "__class__" = some (some (.builtin "object.__class__")))
    (M_0 : PySem.W.mroIn K C_0 (.type "object") = some true)
    (F0_0 : PySem.W.findIn K (.ref C_0) "part" = some none)
    (L_1 : K.lookup C_1 = some (excClassObj nm_1 q_1 C_1 N_1 bs_1 bm_1 true sn_1 sub_1 ab_1 col_1 dd_1 x0_1 x1_1 x2_1 x3_1 x5_1 "ValueError.__new__"))
    (V_1 : PySem.HandSPX.refsVE bm_1 = true)
    (S_1 : PySem.W.findIn K (.ref C_1) "__setattr__" = some (some (.builtin "object.__setattr__")))
    (X_1 : PySem.W.subIn K (.ref C_1) (.type "BaseException") = some true)
    (Y_1 : PySem.W.typeIn K (.ref C_1) = some (.type "type"))
    (K_1 : PySem.W.keepIn K (.ref C_1) = true)
    (G_1 : PySem.W.findIn K (.ref C_1) "__getattribute__" = some (some (.builtin "BaseException.__getattribute__")))
    (H_1 : PySem.W.findIn K (.ref C_1) "__getattr__" = some none)
    (D_1 : PySem.W.hasDictIn K C_1 = true)
    (A_1 : PySem.W.findIn K (.ref C_1) "__class__" = some (some (.builtin "object.__class__")))
    (M_1 : PySem.W.mroIn K C_1 (.type "object") = some true)
    (F0_1 : PySem.W.findIn K (.ref C_1) "part" = some none)
    (L_2 : K.lookup C_2 = some (excClassObj nm_2 q_2 C_2 N_2 bs_2 bm_2 true sn_2 sub_2 ab_2 col_2 dd_2 x0_2 x1_2 x2_2 x3_2 x5_2 "ValueError.__new__"))
    (V_2 : PySem.HandSPX.refsVE bm_2 = true)
    (S_2 : PySem.W.findIn K (.ref C_2) "__setattr__" = some (some (.builtin "object.__setattr__")))
    (X_2 : PySem.W.subIn K (.ref C_2) (.type "BaseException") = some true)
    (Y_2 : PySem.W.typeIn K (.ref C_2) = some (.type "type"))
    (K_2 : PySem.W.keepIn K (.ref C_2) = true)
    (G_2 : PySem.W.findIn K (.ref C_2) "__getattribute__" = some (some (.builtin "BaseException.__getattribute__")))
    (H_2 : PySem.W.findIn K (.ref C_2) "__getattr__" = some none)
    (D_2 : PySem.W.hasDictIn K C_2 = true)
    (A_2 : PySem.W.findIn K (.ref C_2) "__class__" = some (some (.builtin "object.__class__")))
    (M_2 : PySem.W.mroIn K C_2 (.type "object") = some true)
    (F0_2 : PySem.W.findIn K (.ref C_2) "part" = some none)
    (L_3 : K.lookup C_3 = some (excClassObj nm_3 q_3 C_3 N_3 bs_3 bm_3 true sn_3 sub_3 ab_3 col_3 dd_3 x0_3 x1_3 x2_3 x3_3 x5_3 "ValueError.__new__"))
    (V_3 : PySem.HandSPX.refsVE bm_3 = true)
    (S_3 : PySem.W.findIn K (.ref C_3) "__setattr__" = some (some (.builtin "object.__setattr__")))
    (X_3 : PySem.W.subIn K (.ref C_3) (.type "BaseException") = some true)
    (Y_3 : PySem.W.typeIn K (.ref C_3) = some (.type "type"))
    (K_3 : PySem.W.keepIn K (.ref C_3) = true)
    (G_3 : PySem.W.findIn K (.ref C_3) "__getattribute__" = some (some (.builtin "BaseException.__getattribute__")))
    (H_3 : PySem.W.findIn K (.ref C_3) "__getattr__" = some none)
    (D_3 : PySem.W.hasDictIn K C_3 = true)
    (A_3 : PySem.W.findIn K (.ref C_3) "__class__" = some (some (.builtin "object.__class__")))
    (M_3 : PySem.W.mroIn K C_3 (.type "object") = some true)
    (F0_3 : PySem.W.findIn K (.ref C_3) "part" = some none)
    (L_4 : K.lookup C_4 = some (excClassObj nm_4 q_4 C_4 N_4 bs_4 bm_4 true sn_4 sub_4 ab_4 col_4 dd_4 x0_4 x1_4 x2_4 x3_4 x5_4 "ValueError.__new__"))
    (V_4 : PySem.HandSPX.refsVE bm_4 = true)
    (S_4 : PySem.W.findIn K (.ref C_4) "__setattr__" = some (some (.builtin "object.__setattr__")))
    (X_4 : PySem.W.subIn K (.ref C_4) (.type "BaseException") = some true)
    (Y_4 : PySem.W.typeIn K (.ref C_4) = some (.type "type"))
    (K_4 : PySem.W.keepIn K (.ref C_4) = true)
    (G_4 : PySem.W.findIn K (.ref C_4) "__getattribute__" = some (some (.builtin "BaseException.__getattribute__")))
    (H_4 : PySem.W.findIn K (.ref C_4) "__getattr__" = some none)
    (D_4 : PySem.W.hasDictIn K C_4 = true)
    (A_4 : PySem.W.findIn K (.ref C_4) "__class__" = some (some (.builtin "object.__class__")))
    (M_4 : PySem.W.mroIn K C_4 (.type "object") = some true)
    (F0_4 : PySem.W.findIn K (.ref C_4) "part" = some none)
    (L_5 : K.lookup C_5 = some (excClassObj nm_5 q_5 C_5 N_5 bs_5 bm_5 true sn_5 sub_5 ab_5 col_5 dd_5 x0_5 x1_5 x2_5 x3_5 x5_5 "ValueError.__new__"))
    (V_5 : PySem.HandSPX.refsVE bm_5 = true)
    (S_5 : PySem.W.findIn K (.ref C_5) "__setattr__" = some (some (.builtin "object.__setattr__")))
    (X_5 : PySem.W.subIn K (.ref C_5) (.type "BaseException") = some true)
    (Y_5 : PySem.W.typeIn K (.ref C_5) = some (.type "type"))
    (K_5 : PySem.W.keepIn K (.ref C_5) = true)
    (G_5 : PySem.W.findIn K (.ref C_5) "__getattribute__" = some (some (.builtin "BaseException.__getattribute__")))
    (H_5 : PySem.W.findIn K (.ref C_5) "__getattr__" = some none)
    (D_5 : PySem.W.hasDictIn K C_5 = true)
    (A_5 : PySem.W.findIn K (.ref C_5) "__class__" = some (some (.builtin "object.__class__")))
    (M_5 : PySem.W.mroIn K C_5 (.type "object") = some true)
    (F0_5 : PySem.W.findIn K (.ref C_5) "part" = some none)
    (L_6 : K.lookup C_6 = some (excClassObj nm_6 q_6 C_6 N_6 bs_6 bm_6 true sn_6 sub_6 ab_6 col_6 dd_6 x0_6 x1_6 x2_6 x3_6 x5_6 "ValueError.__new__"))
    (V_6 : PySem.HandSPX.refsVE bm_6 = true)
    (S_6 : PySem.W.findIn K (.ref C_6) "__setattr__" = some (some (.builtin "object.__setattr__")))
    (X_6 : PySem.W.subIn K (.ref C_6) (.type "BaseException") = some true)
    (Y_6 : PySem.W.typeIn K (.ref C_6) = some (.type "type"))
    (K_6 : PySem.W.keepIn K (.ref C_6) = true)
    (G_6 : PySem.W.findIn K (.ref C_6) "__getattribute__" = some (some (.builtin "BaseException.__getattribute__")))
    (H_6 : PySem.W.findIn K (.ref C_6) "__getattr__" = some none)
    (D_6 : PySem.W.hasDictIn K C_6 = true)
    (A_6 : PySem.W.findIn K (.ref C_6) "__class__" = some (some (.builtin "object.__class__")))
    (M_6 : PySem.W.mroIn K C_6 (.type "object") = some true)
    (F0_6 : PySem.W.findIn K (.ref C_6) "part" = some none)
    (L_7 : K.lookup C_7 = some (excClassObj nm_7 q_7 C_7 N_7 bs_7 bm_7 true sn_7 sub_7 ab_7 col_7 dd_7 x0_7 x1_7 x2_7 x3_7 x5_7 "ValueError.__new__"))
    (V_7 : PySem.HandSPX.refsVE bm_7 = true)
    (S_7 : PySem.W.findIn K (.ref C_7) "__setattr__" = some (some (.builtin "object.__setattr__")))
    (X_7 : PySem.W.subIn K (.ref C_7) (.type "BaseException") = some true)
    (Y_7 : PySem.W.typeIn K (.ref C_7) = some (.type "type"))
    (K_7 : PySem.W.keepIn K (.ref C_7) = true)
    (G_7 : PySem.W.findIn K (.ref C_7) "__getattribute__" = some (some (.builtin "BaseException.__getattribute__")))
    (H_7 : PySem.W.findIn K (.ref C_7) "__getattr__" = some none)
    (D_7 : PySem.W.hasDictIn K C_7 = true)
    (A_7 : PySem.W.findIn K (.ref C_7) "__class__" = some (some (.builtin "object.__class__")))
    (M_7 : PySem.W.mroIn K C_7 (.type "object") = some true)
    (F0_7 : PySem.W.findIn K (.ref C_7) "part" = some none)
    (L_8 : K.lookup C_8 = some (excClassObj nm_8 q_8 C_8 N_8 bs_8 bm_8 true sn_8 sub_8 ab_8 col_8 dd_8 x0_8 x1_8 x2_8 x3_8 x5_8 "ValueError.__new__"))
    (V_8 : PySem.HandSPX.refsVE bm_8 = true)
    (S_8 : PySem.W.findIn K (.ref C_8) "__setattr__" = some (some (.builtin "object.__setattr__")))
    (X_8 : PySem.W.subIn K (.ref C_8) (.type "BaseException") = some true)
    (Y_8 : PySem.W.typeIn K (.ref C_8) = some (.type "type"))
    (K_8 : PySem.W.keepIn K (.ref C_8) = true)
    (G_8 : PySem.W.findIn K (.ref C_8) "__getattribute__" = some (some (.builtin "BaseException.__getattribute__")))
    (H_8 : PySem.W.findIn K (.ref C_8) "__getattr__" = some none)
    (D_8 : PySem.W.hasDictIn K C_8 = true)
    (A_8 : PySem.W.findIn K (.ref C_8) "__class__" = some (some (.builtin "object.__class__")))
    (M_8 : PySem.W.mroIn K C_8 (.type "object") = some true)
    (F0_8 : PySem.W.findIn K (.ref C_8) "part" = some none)
    (L_9 : K.lookup C_9 = some (excClassObj nm_9 q_9 C_9 N_9 bs_9 bm_9 true sn_9 sub_9 ab_9 col_9 dd_9 x0_9 x1_9 x2_9 x3_9 x5_9 "ValueError.__new__"))
    (V_9 : PySem.HandSPX.refsVE bm_9 = true)
    (S_9 : PySem.W.findIn K (.ref C_9) "__setattr__" = some (some (.builtin "object.__setattr__")))
    (X_9 : PySem.W.subIn K (.ref C_9) (.type "BaseException") = some true)
    (Y_9 : PySem.W.typeIn K (.ref C_9) = some (.type "type"))
    (K_9 : PySem.W.keepIn K (.ref C_9) = true)
    (G_9 : PySem.W.findIn K (.ref C_9) "__getattribute__" = some (some (.builtin "BaseException.__getattribute__")))
    (H_9 : PySem.W.findIn K (.ref C_9) "__getattr__" = some none)
    (D_9 : PySem.W.hasDictIn K C_9 = true)
    (A_9 : PySem.W.findIn K (.ref C_9) "__class__" = some (some (.builtin "object.__class__")))
    (M_9 : PySem.W.mroIn K C_9 (.type "object") = some true)
    (F0_9 : PySem.W.findIn K (.ref C_9) "part" = some none)
    (L_10 : K.lookup C_10 = some (excClassObj nm_10 q_10 C_10 N_10 bs_10 bm_10 true sn_10 sub_10 ab_10 col_10 dd_10 x0_10 x1_10 x2_10 x3_10 x5_10 "ValueError.__new__"))
    (V_10 : PySem.HandSPX.refsVE bm_10 = true)
    (S_10 : PySem.W.findIn K (.ref C_10) "__setattr__" = some (some (.builtin "object.__setattr__")))
    (X_10 : PySem.W.subIn K (.ref C_10) (.type "BaseException") = some true)
    (Y_10 : PySem.W.typeIn K (.ref C_10) = some (.type "type"))
    (K_10 : PySem.W.keepIn K (.ref C_10) = true)
    (G_10 : PySem.W.findIn K (.ref C_10) "__getattribute__" = some (some (.builtin "BaseException.__getattribute__")))
    (H_10 : PySem.W.findIn K (.ref C_10) "__getattr__" = some none)
    (D_10 : PySem.W.hasDictIn K C_10 = true)
    (A_10 : PySem.W.findIn K (.ref C_10) "__class__" = some (some (.builtin "object.__class__")))
    (M_10 : PySem.W.mroIn K C_10 (.type "object") = some true)
    (F0_10 : PySem.W.findIn K (.ref C_10) "value" = some none)
    (L_11 : K.lookup C_11 = some (excClassObj nm_11 q_11 C_11 N_11 bs_11 bm_11 true sn_11 sub_11 ab_11 col_11 dd_11 x0_11 x1_11 x2_11 x3_11 x5_11 "ValueError.__new__"))
    (V_11 : PySem.HandSPX.refsVE bm_11 = true)
    (S_11 : PySem.W.findIn K (.ref C_11) "__setattr__" = some (some (.builtin "object.__setattr__")))
    (X_11 : PySem.W.subIn K (.ref C_11) (.type "BaseException") = some true)
    (Y_11 : PySem.W.typeIn K (.ref C_11) = some (.type "type"))
    (K_11 : PySem.W.keepIn K (.ref C_11) = true)
    (G_11 : PySem.W.findIn K (.ref C_11) "__getattribute__" = some (some (.builtin "BaseException.__getattribute__")))
    (H_11 : PySem.W.findIn K (.ref C_11) "__getattr__" = some none)
    (D_11 : PySem.W.hasDictIn K C_11 = true)
    (A_11 : PySem.W.findIn K (.ref C_11) "__class__" = some (some (.builtin "object.__class__")))
    (M_11 : PySem.W.mroIn K C_11 (.type "object") = some true)
    (F0_11 : PySem.W.findIn K (.ref C_11) "value" = some none)
    (L_12 : K.lookup C_12 = some (excClassObj nm_12 q_12 C_12 N_12 bs_12 bm_12 true sn_12 sub_12 ab_12 col_12 dd_12 x0_12 x1_12 x2_12 x3_12 x5_12 "ValueError.__new__"))
    (V_12 : PySem.HandSPX.refsVE bm_12 = true)
    (S_12 : PySem.W.findIn K (.ref C_12) "__setattr__" = some (some (.builtin "object.__setattr__")))
    (X_12 : PySem.W.subIn K (.ref C_12) (.type "BaseException") = some true)
    (Y_12 : PySem.W.typeIn K (.ref C_12) = some (.type "type"))
    (K_12 : PySem.W.keepIn K (.ref C_12) = true)
    (G_12 : PySem.W.findIn K (.ref C_12) "__getattribute__" = some (some (.builtin "BaseException.__getattribute__")))
    (H_12 : PySem.W.findIn K (.ref C_12) "__getattr__" = some none)
    (D_12 : PySem.W.hasDictIn K C_12 = true)
    (A_12 : PySem.W.findIn K (.ref C_12) "__class__" = some (some (.builtin "object.__class__")))
    (M_12 : PySem.W.mroIn K C_12 (.type "object") = some true)
    (F0_12 : PySem.W.findIn K (.ref C_12) "value" = some none)
    (L_13 : K.lookup C_13 = some (excClassObj nm_13 q_13 C_13 N_13 bs_13 bm_13 true sn_13 sub_13 ab_13 col_13 dd_13 x0_13 x1_13 x2_13 x3_13 x5_13 "ValueError.__new__"))
    (V_13 : PySem.HandSPX.refsVE bm_13 = true)
    (S_13 : PySem.W.findIn K (.ref C_13) "__setattr__" = some (some (.builtin "object.__setattr__")))
    (X_13 : PySem.W.subIn K (.ref C_13) (.type "BaseException") = some true)
    (Y_13 : PySem.W.typeIn K (.ref C_13) = some (.type "type"))
    (K_13 : PySem.W.keepIn K (.ref C_13) = true)
    (G_13 : PySem.W.findIn K (.ref C_13) "__getattribute__" = some (some (.builtin "BaseException.__getattribute__")))
    (H_13 : PySem.W.findIn K (.ref C_13) "__getattr__" = some none)
    (D_13 : PySem.W.hasDictIn K C_13 = true)
    (A_13 : PySem.W.findIn K (.ref C_13) "__class__" = some (some (.builtin "object.__class__")))
    (M_13 : PySem.W.mroIn K C_13 (.type "object") = some true)
    (F0_13 : PySem.W.findIn K (.ref C_13) "value" = some none)
    (L_14 : K.lookup C_14 = some (excClassObj nm_14 q_14 C_14 N_14 bs_14 bm_14 true sn_14 sub_14 ab_14 col_14 dd_14 x0_14 x1_14 x2_14 x3_14 x5_14 "ValueError.__new__"))
    (V_14 : PySem.HandSPX.refsVE bm_14 = true)
    (S_14 : PySem.W.findIn K (.ref C_14) "__setattr__" = some (some (.builtin "object.__setattr__")))
    (X_14 : PySem.W.subIn K (.ref C_14) (.type "BaseException") = some true)
    (Y_14 : PySem.W.typeIn K (.ref C_14) = some (.type "type"))
    (K_14 : PySem.W.keepIn K (.ref C_14) = true)
    (G_14 : PySem.W.findIn K (.ref C_14) "__getattribute__" = some (some (.builtin "BaseException.__getattribute__")))
    (H_14 : PySem.W.findIn K (.ref C_14) "__getattr__" = some none)
    (D_14 : PySem.W.hasDictIn K C_14 = true)
    (A_14 : PySem.W.findIn K (.ref C_14) "__class__" = some (some (.builtin "object.__class__")))
    (M_14 : PySem.W.mroIn K C_14 (.type "object") = some true)
    (L_15 : K.lookup C_15 = some (excClassObj nm_15 q_15 C_15 N_15 bs_15 bm_15 true sn_15 sub_15 ab_15 col_15 dd_15 x0_15 x1_15 x2_15 x3_15 x5_15 "ValueError.__new__"))
    (V_15 : PySem.HandSPX.refsVE bm_15 = true)
    (S_15 : PySem.W.findIn K (.ref C_15) "__setattr__" = some (some (.builtin "object.__setattr__")))
    (X_15 : PySem.W.subIn K (.ref C_15) (.type "BaseException") = some true)
    (Y_15 : PySem.W.typeIn K (.ref C_15) = some (.type "type"))
    (K_15 : PySem.W.keepIn K (.ref C_15) = true)
    (G_15 : PySem.W.findIn K (.ref C_15) "__getattribute__" = some (some (.builtin "BaseException.__getattribute__")))
    (H_15 : PySem.W.findIn K (.ref C_15) "__getattr__" = some none)
    (D_15 : PySem.W.hasDictIn K C_15 = true)
    (A_15 : PySem.W.findIn K (.ref C_15) "__class__" = some (some (.builtin "object.__class__")))
    (M_15 : PySem.W.mroIn K C_15 (.type "object") = some true)
    (F0_15 : PySem.W.findIn K (.ref C_15) "least" = some none)
    (L_16 : K.lookup C_16 = some (excClassObj nm_16 q_16 C_16 N_16 bs_16 bm_16 true sn_16 sub_16 ab_16 col_16 dd_16 x0_16 x1_16 x2_16 x3_16 x5_16 "ValueError.__new__"))
    (V_16 : PySem.HandSPX.refsVE bm_16 = true)
    (S_16 : PySem.W.findIn K (.ref C_16) "__setattr__" = some (some (.builtin "object.__setattr__")))
    (X_16 : PySem.W.subIn K (.ref C_16) (.type "BaseException") = some true)
    (Y_16 : PySem.W.typeIn K (.ref C_16) = some (.type "type"))
    (K_16 : PySem.W.keepIn K (.ref C_16) = true)
    (G_16 : PySem.W.findIn K (.ref C_16) "__getattribute__" = some (some (.builtin "BaseException.__getattribute__")))
    (H_16 : PySem.W.findIn K (.ref C_16) "__getattr__" = some none)
    (D_16 : PySem.W.hasDictIn K C_16 = true)
    (A_16 : PySem.W.findIn K (.ref C_16) "__class__" = some (some (.builtin "object.__class__")))
    (M_16 : PySem.W.mroIn K C_16 (.type "object") = some true)
    (F0_16 : PySem.W.findIn K (.ref C_16) "paper" = some none)
    (L_17 : K.lookup C_17 = some (excClassObj nm_17 q_17 C_17 N_17 bs_17 bm_17 true sn_17 sub_17 ab_17 col_17 dd_17 x0_17 x1_17 x2_17 x3_17 x5_17 "ValueError.__new__"))
    (V_17 : PySem.HandSPX.refsVE bm_17 = true)
    (S_17 : PySem.W.findIn K (.ref C_17) "__setattr__" = some (some (.builtin "object.__setattr__")))
    (X_17 : PySem.W.subIn K (.ref C_17) (.type "BaseException") = some true)
    (Y_17 : PySem.W.typeIn K (.ref C_17) = some (.type "type"))
    (K_17 : PySem.W.keepIn K (.ref C_17) = true)
    (G_17 : PySem.W.findIn K (.ref C_17) "__getattribute__" = some (some (.builtin "BaseException.__getattribute__")))
    (H_17 : PySem.W.findIn K (.ref C_17) "__getattr__" = some none)
    (D_17 : PySem.W.hasDictIn K C_17 = true)
    (A_17 : PySem.W.findIn K (.ref C_17) "__class__" = some (some (.builtin "object.__class__")))
    (M_17 : PySem.W.mroIn K C_17 (.type "object") = some true)
    (F0_17 : PySem.W.findIn K (.ref C_17) "what" = some none)
    (F1_17 : PySem.W.findIn K (.ref C_17) "most" = some none)
    (L_18 : K.lookup C_18 = some (excClassObj nm_18 q_18 C_18 N_18 bs_18 bm_18 true sn_18 sub_18 ab_18 col_18 dd_18 x0_18 x1_18 x2_18 x3_18 x5_18 "ValueError.__new__"))
    (V_18 : PySem.HandSPX.refsVE bm_18 = true)
    (S_18 : PySem.W.findIn K (.ref C_18) "__setattr__" = some (some (.builtin "object.__setattr__")))
    (X_18 : PySem.W.subIn K (.ref C_18) (.type "BaseException") = some true)
    (Y_18 : PySem.W.typeIn K (.ref C_18) = some (.type "type"))
    (K_18 : PySem.W.keepIn K (.ref C_18) = true)
    (G_18 : PySem.W.findIn K (.ref C_18) "__getattribute__" = some (some (.builtin "BaseException.__getattribute__")))
    (H_18 : PySem.W.findIn K (.ref C_18) "__getattr__" = some none)
    (D_18 : PySem.W.hasDictIn K C_18 = true)
    (A_18 : PySem.W.findIn K (.ref C_18) "__class__" = some (some (.builtin "object.__class__")))
    (M_18 : PySem.W.mroIn K C_18 (.type "object") = some true)
    (L_19 : K.lookup C_19 = some (excClassObj nm_19 q_19 C_19 N_19 bs_19 bm_19 true sn_19 sub_19 ab_19 col_19 dd_19 x0_19 x1_19 x2_19 x3_19 x5_19 "ValueError.__new__"))
    (V_19 : PySem.HandSPX.refsVE bm_19 = true)
    (S_19 : PySem.W.findIn K (.ref C_19) "__setattr__" = some (some (.builtin "object.__setattr__")))
    (X_19 : PySem.W.subIn K (.ref C_19) (.type "BaseException") = some true)
    (Y_19 : PySem.W.typeIn K (.ref C_19) = some (.type "type"))
    (K_19 : PySem.W.keepIn K (.ref C_19) = true)
    (G_19 : PySem.W.findIn K (.ref C_19) "__getattribute__" = some (some (.builtin "BaseException.__getattribute__")))
    (H_19 : PySem.W.findIn K (.ref C_19) "__getattr__" = some none)
    (D_19 : PySem.W.hasDictIn K C_19 = true)
    (A_19 : PySem.W.findIn K (.ref C_19) "__class__" = some (some (.builtin "object.__class__")))
    (M_19 : PySem.W.mroIn K C_19 (.type "object") = some true)
    (F0_19 : PySem.W.findIn K (.ref C_19) "line" = some none)
    (F1_19 : PySem.W.findIn K (.ref C_19) "item" = some none)
    (L_20 : K.lookup C_20 = some (excClassObj nm_20 q_20 C_20 N_20 bs_20 bm_20 true sn_20 sub_20 ab_20 col_20 dd_20 x0_20 x1_20 x2_20 x3_20 x5_20 "ValueError.__new__"))
    (V_20 : PySem.HandSPX.refsVE bm_20 = true)
    (S_20 : PySem.W.findIn K (.ref C_20) "__setattr__" = some (some (.builtin "object.__setattr__")))
    (X_20 : PySem.W.subIn K (.ref C_20) (.type "BaseException") = some true)
    (Y_20 : PySem.W.typeIn K (.ref C_20) = some (.type "type"))
    (K_20 : PySem.W.keepIn K (.ref C_20) = true)
    (G_20 : PySem.W.findIn K (.ref C_20) "__getattribute__" = some (some (.builtin "BaseException.__getattribute__")))
    (H_20 : PySem.W.findIn K (.ref C_20) "__getattr__" = some none)
    (D_20 : PySem.W.hasDictIn K C_20 = true)
    (A_20 : PySem.W.findIn K (.ref C_20) "__class__" = some (some (.builtin "object.__class__")))
    (M_20 : PySem.W.mroIn K C_20 (.type "object") = some true)
    (F0_20 : PySem.W.findIn K (.ref C_20) "line" = some none)
    (F1_20 : PySem.W.findIn K (.ref C_20) "error" = some none)
    (L_21 : K.lookup C_21 = some (excClassObj nm_21 q_21 C_21 N_21 bs_21 bm_21 true sn_21 sub_21 ab_21 col_21 dd_21 x0_21 x1_21 x2_21 x3_21 x5_21 "ValueError.__new__"))
    (V_21 : PySem.HandSPX.refsVE bm_21 = true)
    (S_21 : PySem.W.findIn K (.ref C_21) "__setattr__" = some (some (.builtin "object.__setattr__")))
    (X_21 : PySem.W.subIn K (.ref C_21) (.type "BaseException") = some true)
    (Y_21 : PySem.W.typeIn K (.ref C_21) = some (.type "type"))
    (K_21 : PySem.W.keepIn K (.ref C_21) = true)
    (G_21 : PySem.W.findIn K (.ref C_21) "__getattribute__" = some (some (.builtin "BaseException.__getattribute__")))
    (H_21 : PySem.W.findIn K (.ref C_21) "__getattr__" = some none)
    (D_21 : PySem.W.hasDictIn K C_21 = true)
    (A_21 : PySem.W.findIn K (.ref C_21) "__class__" = some (some (.builtin "object.__class__")))
    (M_21 : PySem.W.mroIn K C_21 (.type "object") = some true)
    (F0_21 : PySem.W.findIn K (.ref C_21) "value" = some none)
    (sp0 : PySem.W.specialIn K (.builtin "object.__class__") "__get__" = some (some (.builtin "getset_descriptor.__get__")))
    (tk0 : PySem.W.takesIn K (.builtin "object.__class__") = some true)
    (I_0 : PySem.W.findIn K (.ref C_0) "__init__" = some (some (.ref u_0)))
    (T_0 : PySem.W.typeIn K (.ref u_0) = some (.type "function"))
    (J_0 : K.lookup u_0 = some ⟨uc_0, uo_0, .func (PySem.W.fnOf "__init__" "BadPoly.__init__" (defArgs s_i_BadPoly) (defBody s_i_BadPoly) (defScope s_i_BadPoly) .none uk_0 ud_0 up_0 ua_0 ucd_0 uct_0), us_0⟩)
    (O_0 : PySem.W.codeIn K ucd_0 "BadPoly.__init__" = true)
    (P_0 : PySem.W.keepIn K (.ref u_0) = true)
    (I_1 : PySem.W.findIn K (.ref C_1) "__init__" = some (some (.ref u_1)))
    (T_1 : PySem.W.typeIn K (.ref u_1) = some (.type "function"))
    (J_1 : K.lookup u_1 = some ⟨uc_1, uo_1, .func (PySem.W.fnOf "__init__" "BadScheme.__init__" (defArgs s_i_BadScheme) (defBody s_i_BadScheme) (defScope s_i_BadScheme) .none uk_1 ud_1 up_1 ua_1 ucd_1 uct_1), us_1⟩)
    (O_1 : PySem.W.codeIn K ucd_1 "BadScheme.__init__" = true)
    (P_1 : PySem.W.keepIn K (.ref u_1) = true)
    (I_2 : PySem.W.findIn K (.ref C_2) "__init__" = some (some (.ref u_2)))
    (T_2 : PySem.W.typeIn K (.ref u_2) = some (.type "function"))
    (J_2 : K.lookup u_2 = some ⟨uc_2, uo_2, .func (PySem.W.fnOf "__init__" "BadReading.__init__" (defArgs s_i_BadReading) (defBody s_i_BadReading) (defScope s_i_BadReading) .none uk_2 ud_2 up_2 ua_2 ucd_2 uct_2), us_2⟩)
    (O_2 : PySem.W.codeIn K ucd_2 "BadReading.__init__" = true)
    (P_2 : PySem.W.keepIn K (.ref u_2) = true)
    (I_3 : PySem.W.findIn K (.ref C_3) "__init__" = some (some (.ref u_3)))
    (T_3 : PySem.W.typeIn K (.ref u_3) = some (.type "function"))
    (J_3 : K.lookup u_3 = some ⟨uc_3, uo_3, .func (PySem.W.fnOf "__init__" "BadCurve.__init__" (defArgs s_i_BadCurve) (defBody s_i_BadCurve) (defScope s_i_BadCurve) .none uk_3 ud_3 up_3 ua_3 ucd_3 uct_3), us_3⟩)
    (O_3 : PySem.W.codeIn K ucd_3 "BadCurve.__init__" = true)
    (P_3 : PySem.W.keepIn K (.ref u_3) = true)
    (I_4 : PySem.W.findIn K (.ref C_4) "__init__" = some (some (.ref u_4)))
    (T_4 : PySem.W.typeIn K (.ref u_4) = some (.type "function"))
    (J_4 : K.lookup u_4 = some ⟨uc_4, uo_4, .func (PySem.W.fnOf "__init__" "BadBase.__init__" (defArgs s_i_BadBase) (defBody s_i_BadBase) (defScope s_i_BadBase) .none uk_4 ud_4 up_4 ua_4 ucd_4 uct_4), us_4⟩)
    (O_4 : PySem.W.codeIn K ucd_4 "BadBase.__init__" = true)
    (P_4 : PySem.W.keepIn K (.ref u_4) = true)
    (I_5 : PySem.W.findIn K (.ref C_5) "__init__" = some (some (.ref u_5)))
    (T_5 : PySem.W.typeIn K (.ref u_5) = some (.type "function"))
    (J_5 : K.lookup u_5 = some ⟨uc_5, uo_5, .func (PySem.W.fnOf "__init__" "BadRows.__init__" (defArgs s_i_BadRows) (defBody s_i_BadRows) (defScope s_i_BadRows) .none uk_5 ud_5 up_5 ua_5 ucd_5 uct_5), us_5⟩)
    (O_5 : PySem.W.codeIn K ucd_5 "BadRows.__init__" = true)
    (P_5 : PySem.W.keepIn K (.ref u_5) = true)
    (I_6 : PySem.W.findIn K (.ref C_6) "__init__" = some (some (.ref u_6)))
    (T_6 : PySem.W.typeIn K (.ref u_6) = some (.type "function"))
    (J_6 : K.lookup u_6 = some ⟨uc_6, uo_6, .func (PySem.W.fnOf "__init__" "BadRests.__init__" (defArgs s_i_BadRests) (defBody s_i_BadRests) (defScope s_i_BadRests) .none uk_6 ud_6 up_6 ua_6 ucd_6 uct_6), us_6⟩)
    (O_6 : PySem.W.codeIn K ucd_6 "BadRests.__init__" = true)
    (P_6 : PySem.W.keepIn K (.ref u_6) = true)
    (I_7 : PySem.W.findIn K (.ref C_7) "__init__" = some (some (.ref u_7)))
    (T_7 : PySem.W.typeIn K (.ref u_7) = some (.type "function"))
    (J_7 : K.lookup u_7 = some ⟨uc_7, uo_7, .func (PySem.W.fnOf "__init__" "BadNumber.__init__" (defArgs s_i_BadNumber) (defBody s_i_BadNumber) (defScope s_i_BadNumber) .none uk_7 ud_7 up_7 ua_7 ucd_7 uct_7), us_7⟩)
    (O_7 : PySem.W.codeIn K ucd_7 "BadNumber.__init__" = true)
    (P_7 : PySem.W.keepIn K (.ref u_7) = true)
    (I_8 : PySem.W.findIn K (.ref C_8) "__init__" = some (some (.ref u_8)))
    (T_8 : PySem.W.typeIn K (.ref u_8) = some (.type "function"))
    (J_8 : K.lookup u_8 = some ⟨uc_8, uo_8, .func (PySem.W.fnOf "__init__" "BadDesk.__init__" (defArgs s_i_BadDesk) (defBody s_i_BadDesk) (defScope s_i_BadDesk) .none uk_8 ud_8 up_8 ua_8 ucd_8 uct_8), us_8⟩)
    (O_8 : PySem.W.codeIn K ucd_8 "BadDesk.__init__" = true)
    (P_8 : PySem.W.keepIn K (.ref u_8) = true)
    (I_9 : PySem.W.findIn K (.ref C_9) "__init__" = some (some (.ref u_9)))
    (T_9 : PySem.W.typeIn K (.ref u_9) = some (.type "function"))
    (J_9 : K.lookup u_9 = some ⟨uc_9, uo_9, .func (PySem.W.fnOf "__init__" "Misfit.__init__" (defArgs s_i_Misfit) (defBody s_i_Misfit) (defScope s_i_Misfit) .none uk_9 ud_9 up_9 ua_9 ucd_9 uct_9), us_9⟩)
    (O_9 : PySem.W.codeIn K ucd_9 "Misfit.__init__" = true)
    (P_9 : PySem.W.keepIn K (.ref u_9) = true)
    (I_13 : PySem.W.findIn K (.ref C_13) "__init__" = some (some (.ref u_13)))
    (T_13 : PySem.W.typeIn K (.ref u_13) = some (.type "function"))
    (J_13 : K.lookup u_13 = some ⟨uc_13, uo_13, .func (PySem.W.fnOf "__init__" "Twice.__init__" (defArgs s_i_Twice) (defBody s_i_Twice) (defScope s_i_Twice) .none uk_13 ud_13 up_13 ua_13 ucd_13 uct_13), us_13⟩)
    (O_13 : PySem.W.codeIn K ucd_13 "Twice.__init__" = true)
    (P_13 : PySem.W.keepIn K (.ref u_13) = true)
    (I_15 : PySem.W.findIn K (.ref C_15) "__init__" = some (some (.ref u_15)))
    (T_15 : PySem.W.typeIn K (.ref u_15) = some (.type "function"))
    (J_15 : K.lookup u_15 = some ⟨uc_15, uo_15, .func (PySem.W.fnOf "__init__" "Beyond.__init__" (defArgs s_i_Beyond) (defBody s_i_Beyond) (defScope s_i_Beyond) .none uk_15 ud_15 up_15 ua_15 ucd_15 uct_15), us_15⟩)
    (O_15 : PySem.W.codeIn K ucd_15 "Beyond.__init__" = true)
    (P_15 : PySem.W.keepIn K (.ref u_15) = true)
    (I_16 : PySem.W.findIn K (.ref C_16) "__init__" = some (some (.ref u_16)))
    (T_16 : PySem.W.typeIn K (.ref u_16) = some (.type "function"))
    (J_16 : K.lookup u_16 = some ⟨uc_16, uo_16, .func (PySem.W.fnOf "__init__" "Impossible.__init__" (defArgs s_i_Impossible) (defBody s_i_Impossible) (defScope s_i_Impossible) .none uk_16 ud_16 up_16 ua_16 ucd_16 uct_16), us_16⟩)
    (O_16 : PySem.W.codeIn K ucd_16 "Impossible.__init__" = true)
    (P_16 : PySem.W.keepIn K (.ref u_16) = true)
    (I_17 : PySem.W.findIn K (.ref C_17) "__init__" = some (some (.ref u_17)))
    (T_17 : PySem.W.typeIn K (.ref u_17) = some (.type "function"))
    (J_17 : K.lookup u_17 = some ⟨uc_17, uo_17, .func (PySem.W.fnOf "__init__" "TooMany.__init__" (defArgs s_i_TooMany) (defBody s_i_TooMany) (defScope s_i_TooMany) .none uk_17 ud_17 up_17 ua_17 ucd_17 uct_17), us_17⟩)
    (O_17 : PySem.W.codeIn K ucd_17 "TooMany.__init__" = true)
    (P_17 : PySem.W.keepIn K (.ref u_17) = true)
    (I_19 : PySem.W.findIn K (.ref C_19) "__init__" = some (some (.ref u_19)))
    (T_19 : PySem.W.typeIn K (.ref u_19) = some (.type "function"))
    (J_19 : K.lookup u_19 = some ⟨uc_19, uo_19, .func (PySem.W.fnOf "__init__" "BadText.__init__" (defArgs s_i_BadText) (defBody s_i_BadText) (defScope s_i_BadText) .none uk_19 ud_19 up_19 ua_19 ucd_19 uct_19), us_19⟩)
    (O_19 : PySem.W.codeIn K ucd_19 "BadText.__init__" = true)
    (P_19 : PySem.W.keepIn K (.ref u_19) = true)
    (I_20 : PySem.W.findIn K (.ref C_20) "__init__" = some (some (.ref u_20)))
    (T_20 : PySem.W.typeIn K (.ref u_20) = some (.type "function"))
    (J_20 : K.lookup u_20 = some ⟨uc_20, uo_20, .func (PySem.W.fnOf "__init__" "BadLine.__init__" (defArgs s_i_BadLine) (defBody s_i_BadLine) (defScope s_i_BadLine) .none uk_20 ud_20 up_20 ua_20 ucd_20 uct_20), us_20⟩)
    (O_20 : PySem.W.codeIn K ucd_20 "BadLine.__init__" = true)
    (P_20 : PySem.W.keepIn K (.ref u_20) = true)
    (I_21 : PySem.W.findIn K (.ref C_21) "__init__" = some (some (.ref u_21)))
    (T_21 : PySem.W.typeIn K (.ref u_21) = some (.type "function"))
    (J_21 : K.lookup u_21 = some ⟨uc_21, uo_21, .func (PySem.W.fnOf "__init__" "Missing.__init__" (defArgs s_i_Missing) (defBody s_i_Missing) (defScope s_i_Missing) .none uk_21 ud_21 up_21 ua_21 ucd_21 uct_21), us_21⟩)
    (O_21 : PySem.W.codeIn K ucd_21 "Missing.__init__" = true)
    (P_21 : PySem.W.keepIn K (.ref u_21) = true)
    (I_10 : PySem.W.findIn K (.ref C_10) "__init__" = some (some (.ref u_21)))
    (I_11 : PySem.W.findIn K (.ref C_11) "__init__" = some (some (.ref u_21)))
    (I_12 : PySem.W.findIn K (.ref C_12) "__init__" = some (some (.ref u_21)))
    (Q_14 : PySem.W.excIn K C_14 BM "ValueError.__new__" = true)
    (Q_18 : PySem.W.excIn K C_18 BM "ValueError.__new__" = true)
    (isa : isaB K [C_0, C_1, C_2, C_3, C_4, C_5, C_6, C_7, C_8, C_9, C_10, C_11, C_12, C_13, C_14, C_15, C_16, C_17, C_18, C_19, C_20, C_21, C_22] = true)
    (gP : PySem.W.nsIn K mainGlobals "Paper" = some (some (.ref CP)))
    (pL : K.lookup CP = some (excClassObj pnm pq CP pN pbs [.type "object"] true psn psub pab pcol pdd px0 px1 px2 px3 px5 pnew))
    (pOk : PySem.W.nsOkIn K pN = true)
    (pE : PySem.W.nsIn K pN "__eq__" = some (some (.ref fe)))
    (pNe : PySem.W.nsIn K pN "__ne__" = some none)
    (pT : PySem.W.typeIn K (.ref fe) = some (.type "function"))
    (pEq : PySem.W.findIn K (.ref CP) "__eq__" = some (some (.ref fe)))
    (pFn : PySem.W.isFn K (.ref fe) = true)
    (pg : PySem.W.plainGet K CP Str.empty = true)
    (phd : PySem.W.hasDictIn K CP = true)
    (ppo : PySem.W.plainOver K CP = true)
    (psa : PySem.W.findIn K (.ref CP) "__setattr__" = some (some (.builtin "object.__setattr__")))
    (pW : PySem.W.findIn K (.ref CP) "word" = some none)
    (pP : PySem.W.findIn K (.ref CP) "parts" = some none)
    (pMk : PySem.W.makesIn K CP = true)
    (pI : PySem.W.findIn K (.ref CP) "__init__" = some (some (.ref fi)))
    (pIf : PySem.W.isFn K (.ref fi) = true)
    (pKp : PySem.W.keepIn K (.ref CP) = true)
    (viL : K.lookup fi = some ⟨vic, vio, .func (PySem.W.fnOf "__init__" "Paper.__init__" (defArgs s_pinit) (defBody s_pinit) (defScope s_pinit) .none vik vid vip via vicd vict), vis⟩)
    (viC : PySem.W.codeIn K vicd "Paper.__init__" = true)
    (viK : PySem.W.keepIn K (.ref fi) = true)
    (veL : K.lookup fe = some ⟨vec, veo, .func (PySem.W.fnOf "__eq__" "Paper.__eq__" (defArgs s_peq) (defBody s_peq) (defScope s_peq) .none vek ved vep vea vecd vect), ves⟩)
    (veC : PySem.W.codeIn K vecd "Paper.__eq__" = true)
    (veK : PySem.W.keepIn K (.ref fe) = true) :
    ∃ fd : FuncData, (∀ (s : Shared) (v : Value), BindsTo s fd ⟨[v], []⟩ [("script", v)]) ∧ ∀ base : Heap, K.In base → base.Ns mainGlobals mg → FnOk l.prog w K mg base CX0 8 fa fd ["script"] (spLaw K) := by
  have T : Txt K mg := ⟨PySem.W.mg_none_of X G z_int, PySem.W.mg_none_of X G z_len, PySem.W.mg_none_of X G z_abs, PySem.W.mg_none_of X G z_str, PySem.W.mg_none_of X G z_isinstance, PySem.W.mg_none_of X G z_enumerate, PySem.W.mg_none_of X G z_range, PySem.W.mg_none_of X G z_tuple, PySem.W.mg_none_of X G z_list, PySem.W.mg_none_of X G z_type, PySem.W.mg_none_of X G z_ValueError, PySem.W.mg_none_of X G z_LookupError, PySem.W.mg_none_of X G z_TypeError, PySem.W.mg_none_of X G z_ArithmeticError, PySem.W.mg_none_of X G z_AttributeError, PySem.W.mg_none_of X G z_RuntimeError⟩
  have Df_0 : DefB K mg "fixed" s_fixed P_fixed := defB_mk X G a_0 l_0 c_0 k_0 (fun _ _ _ _ _ _ us hl => match us, hl with | [_], _ => rfl)
  have Df_1 : DefB K mg "is_same" s_is_same P_is_same := defB_mk X G a_1 l_1 c_1 k_1 (fun _ _ _ _ _ _ us hl => match us, hl with | [_, _], _ => rfl)
  have Df_2 : DefB K mg "_law_well" s__law_well P__law_well := defB_mk X G a_2 l_2 c_2 k_2 (fun _ _ _ _ _ _ us hl => match us, hl with | [_], _ => rfl)
  have Df_3 : DefB K mg "_law_pail" s__law_pail P__law_pail := defB_mk X G a_3 l_3 c_3 k_3 (fun _ _ _ _ _ _ us hl => match us, hl with | [_, _], _ => rfl)
  have Df_4 : DefB K mg "_law_of" s__law_of P__law_of := defB_mk X G a_4 l_4 c_4 k_4 (fun _ _ _ _ _ _ us hl => match us, hl with | [_, _], _ => rfl)
  have Df_5 : DefB K mg "_law_value" s__law_value P__law_value := defB_mk X G a_5 l_5 c_5 k_5 (fun _ _ _ _ _ _ us hl => match us, hl with | [_], _ => rfl)
  have Df_6 : DefB K mg "_law_classes" s__law_classes P__law_classes := defB_mk X G a_6 l_6 c_6 k_6 (fun _ _ _ _ _ _ us hl => match us, hl with | [_], _ => rfl)
  have Df_7 : DefB K mg "_law_is_only" s__law_is_only P__law_is_only := defB_mk X G a_7 l_7 c_7 k_7 (fun _ _ _ _ _ _ us hl => match us, hl with | [_, _], _ => rfl)
  have Df_8 : DefB K mg "_law_by_place" s__law_by_place P__law_by_place := defB_mk X G a_8 l_8 c_8 k_8 (fun _ _ _ _ _ _ us hl => match us, hl with | [_], _ => rfl)
  have Df_9 : DefB K mg "_law_by_name" s__law_by_name P__law_by_name := defB_mk X G a_9 l_9 c_9 k_9 (fun _ _ _ _ _ _ us hl => match us, hl with | [_], _ => rfl)
  have Df_10 : DefB K mg "_law_one_right" s__law_one_right P__law_one_right := defB_mk X G a_10 l_10 c_10 k_10 (fun _ _ _ _ _ _ us hl => match us, hl with | [_, _], _ => rfl)
  have Df_11 : DefB K mg "_law_two_right" s__law_two_right P__law_two_right := defB_mk X G a_11 l_11 c_11 k_11 (fun _ _ _ _ _ _ us hl => match us, hl with | [_, _], _ => rfl)
  have e := hfa.symm.trans (PySem.W.mg_of X G a_12)
  cases e
  have FL : C8.Fun K "law" "law" s_law fa _ := ⟨_, _, _, _, _, _, _, _, _, _, rfl, l_12, c_12⟩
  have E_0 : ErrC K C_0 := errC_mk L_0 V_0 S_0 X_0 Y_0 K_0 G_0 H_0 D_0 A_0 sp0 tk0 M_0
  have U_0 := fun_mk (st := s_i_BadPoly) J_0 O_0 P_0
  have E_1 : ErrC K C_1 := errC_mk L_1 V_1 S_1 X_1 Y_1 K_1 G_1 H_1 D_1 A_1 sp0 tk0 M_1
  have U_1 := fun_mk (st := s_i_BadScheme) J_1 O_1 P_1
  have E_2 : ErrC K C_2 := errC_mk L_2 V_2 S_2 X_2 Y_2 K_2 G_2 H_2 D_2 A_2 sp0 tk0 M_2
  have U_2 := fun_mk (st := s_i_BadReading) J_2 O_2 P_2
  have E_3 : ErrC K C_3 := errC_mk L_3 V_3 S_3 X_3 Y_3 K_3 G_3 H_3 D_3 A_3 sp0 tk0 M_3
  have U_3 := fun_mk (st := s_i_BadCurve) J_3 O_3 P_3
  have E_4 : ErrC K C_4 := errC_mk L_4 V_4 S_4 X_4 Y_4 K_4 G_4 H_4 D_4 A_4 sp0 tk0 M_4
  have U_4 := fun_mk (st := s_i_BadBase) J_4 O_4 P_4
  have E_5 : ErrC K C_5 := errC_mk L_5 V_5 S_5 X_5 Y_5 K_5 G_5 H_5 D_5 A_5 sp0 tk0 M_5
  have U_5 := fun_mk (st := s_i_BadRows) J_5 O_5 P_5
  have E_6 : ErrC K C_6 := errC_mk L_6 V_6 S_6 X_6 Y_6 K_6 G_6 H_6 D_6 A_6 sp0 tk0 M_6
  have U_6 := fun_mk (st := s_i_BadRests) J_6 O_6 P_6
  have E_7 : ErrC K C_7 := errC_mk L_7 V_7 S_7 X_7 Y_7 K_7 G_7 H_7 D_7 A_7 sp0 tk0 M_7
  have U_7 := fun_mk (st := s_i_BadNumber) J_7 O_7 P_7
  have E_8 : ErrC K C_8 := errC_mk L_8 V_8 S_8 X_8 Y_8 K_8 G_8 H_8 D_8 A_8 sp0 tk0 M_8
  have U_8 := fun_mk (st := s_i_BadDesk) J_8 O_8 P_8
  have E_9 : ErrC K C_9 := errC_mk L_9 V_9 S_9 X_9 Y_9 K_9 G_9 H_9 D_9 A_9 sp0 tk0 M_9
  have U_9 := fun_mk (st := s_i_Misfit) J_9 O_9 P_9
  have E_10 : ErrC K C_10 := errC_mk L_10 V_10 S_10 X_10 Y_10 K_10 G_10 H_10 D_10 A_10 sp0 tk0 M_10
  have E_11 : ErrC K C_11 := errC_mk L_11 V_11 S_11 X_11 Y_11 K_11 G_11 H_11 D_11 A_11 sp0 tk0 M_11
  have E_12 : ErrC K C_12 := errC_mk L_12 V_12 S_12 X_12 Y_12 K_12 G_12 H_12 D_12 A_12 sp0 tk0 M_12
  have E_13 : ErrC K C_13 := errC_mk L_13 V_13 S_13 X_13 Y_13 K_13 G_13 H_13 D_13 A_13 sp0 tk0 M_13
  have U_13 := fun_mk (st := s_i_Twice) J_13 O_13 P_13
  have E_14 : ErrC K C_14 := errC_mk L_14 V_14 S_14 X_14 Y_14 K_14 G_14 H_14 D_14 A_14 sp0 tk0 M_14
  have E_15 : ErrC K C_15 := errC_mk L_15 V_15 S_15 X_15 Y_15 K_15 G_15 H_15 D_15 A_15 sp0 tk0 M_15
  have U_15 := fun_mk (st := s_i_Beyond) J_15 O_15 P_15
  have E_16 : ErrC K C_16 := errC_mk L_16 V_16 S_16 X_16 Y_16 K_16 G_16 H_16 D_16 A_16 sp0 tk0 M_16
  have U_16 := fun_mk (st := s_i_Impossible) J_16 O_16 P_16
  have E_17 : ErrC K C_17 := errC_mk L_17 V_17 S_17 X_17 Y_17 K_17 G_17 H_17 D_17 A_17 sp0 tk0 M_17
  have U_17 := fun_mk (st := s_i_TooMany) J_17 O_17 P_17
  have E_18 : ErrC K C_18 := errC_mk L_18 V_18 S_18 X_18 Y_18 K_18 G_18 H_18 D_18 A_18 sp0 tk0 M_18
  have E_19 : ErrC K C_19 := errC_mk L_19 V_19 S_19 X_19 Y_19 K_19 G_19 H_19 D_19 A_19 sp0 tk0 M_19
  have U_19 := fun_mk (st := s_i_BadText) J_19 O_19 P_19
  have E_20 : ErrC K C_20 := errC_mk L_20 V_20 S_20 X_20 Y_20 K_20 G_20 H_20 D_20 A_20 sp0 tk0 M_20
  have U_20 := fun_mk (st := s_i_BadLine) J_20 O_20 P_20
  have E_21 : ErrC K C_21 := errC_mk L_21 V_21 S_21 X_21 Y_21 K_21 G_21 H_21 D_21 A_21 sp0 tk0 M_21
  have U_21 := fun_mk (st := s_i_Missing) J_21 O_21 P_21
  have PC : PapC K mg CP fi fe := ⟨⟨pg, phd, ppo, psa⟩, pW, pP, ⟨⟨_, _, _, _, _, _, _, _, _, _, _, _, _, _, _, pL, pOk, pE, pNe⟩, pT, pEq, pFn⟩, ⟨pMk, pI, pIf, pKp⟩, PySem.W.mg_of X G gP⟩
  have VI := fun_mk (st := s_pinit) viL viC viK
  have VE := fun_mk (st := s_peq) veL veC veK
  have IS := isaB_ok isa
  refine ⟨PySem.W.fnOf "law" "law" (C8.fnArgs s_law) (C8.fnBody s_law) (C8.fnScope s_law) .none kV_12 dc_12 pm_12 an_12 cd_12 ct_12, fun s v => .of_eq rfl, fun base _ _ => ?_⟩
  have ET : ErT l.prog w K mg base (fun n => ([C_0, C_1, C_2, C_3, C_4, C_5, C_6, C_7, C_8, C_9, C_10, C_11, C_12, C_13, C_14, C_15, C_16, C_17, C_18, C_19, C_20, C_21, C_22] : List Addr).getD n 0) := by
    refine {
      ec := ?_,
      iN := IS.1,
      iV := IS.2.1,
      iB := IS.2.2.1,
      iM := IS.2.2.2.1,
      iC := IS.2.2.2.2.1,
      mT := IS.2.2.2.2.2,
      g_BadPoly := ⟨_, PySem.W.mg_of X G g_0, rfl⟩,
      g_BadScheme := ⟨_, PySem.W.mg_of X G g_1, rfl⟩,
      g_BadReading := ⟨_, PySem.W.mg_of X G g_2, rfl⟩,
      g_BadCurve := ⟨_, PySem.W.mg_of X G g_3, rfl⟩,
      g_BadBase := ⟨_, PySem.W.mg_of X G g_4, rfl⟩,
      g_BadRows := ⟨_, PySem.W.mg_of X G g_5, rfl⟩,
      g_BadRests := ⟨_, PySem.W.mg_of X G g_6, rfl⟩,
      g_BadNumber := ⟨_, PySem.W.mg_of X G g_7, rfl⟩,
      g_BadDesk := ⟨_, PySem.W.mg_of X G g_8, rfl⟩,
      g_Misfit := ⟨_, PySem.W.mg_of X G g_9, rfl⟩,
      g_NoPlace := ⟨_, PySem.W.mg_of X G g_10, rfl⟩,
      g_NoOffer := ⟨_, PySem.W.mg_of X G g_11, rfl⟩,
      g_NoPrime := ⟨_, PySem.W.mg_of X G g_12, rfl⟩,
      g_Twice := ⟨_, PySem.W.mg_of X G g_13, rfl⟩,
      g_ByZero := ⟨_, PySem.W.mg_of X G g_14, rfl⟩,
      g_Beyond := ⟨_, PySem.W.mg_of X G g_15, rfl⟩,
      g_Impossible := ⟨_, PySem.W.mg_of X G g_16, rfl⟩,
      g_TooMany := ⟨_, PySem.W.mg_of X G g_17, rfl⟩,
      g_Nothing := ⟨_, PySem.W.mg_of X G g_18, rfl⟩,
      g_BadText := ⟨_, PySem.W.mg_of X G g_19, rfl⟩,
      g_BadLine := ⟨_, PySem.W.mg_of X G g_20, rfl⟩,
      g_Missing := ⟨_, PySem.W.mg_of X G g_21, rfl⟩,
      g_NearError := ⟨_, PySem.W.mg_of X G g_22, rfl⟩,
      m_BadPoly := ⟨⟨_, _, I_0, T_0, i_BadPoly U_0⟩, E_0, F0_0, PySem.W.mg_of X G g_0⟩,
      m_BadScheme := ⟨⟨_, _, I_1, T_1, i_BadScheme U_1⟩, E_1, F0_1, PySem.W.mg_of X G g_1⟩,
      m_BadReading := ⟨⟨_, _, I_2, T_2, i_BadReading U_2⟩, E_2, F0_2, PySem.W.mg_of X G g_2⟩,
      m_BadCurve := ⟨⟨_, _, I_3, T_3, i_BadCurve U_3⟩, E_3, F0_3, PySem.W.mg_of X G g_3⟩,
      m_BadBase := ⟨⟨_, _, I_4, T_4, i_BadBase U_4⟩, E_4, F0_4, PySem.W.mg_of X G g_4⟩,
      m_BadRows := ⟨⟨_, _, I_5, T_5, i_BadRows U_5⟩, E_5, F0_5, PySem.W.mg_of X G g_5⟩,
      m_BadRests := ⟨⟨_, _, I_6, T_6, i_BadRests U_6⟩, E_6, F0_6, PySem.W.mg_of X G g_6⟩,
      m_BadNumber := ⟨⟨_, _, I_7, T_7, i_BadNumber U_7⟩, E_7, F0_7, PySem.W.mg_of X G g_7⟩,
      m_BadDesk := ⟨⟨_, _, I_8, T_8, i_BadDesk U_8⟩, E_8, F0_8, PySem.W.mg_of X G g_8⟩,
      m_Misfit := ⟨⟨_, _, I_9, T_9, i_Misfit U_9⟩, E_9, F0_9, PySem.W.mg_of X G g_9⟩,
      m_NoPlace := ⟨⟨_, _, I_10, T_21, i_Missing U_21⟩, E_10, F0_10, PySem.W.mg_of X G g_10⟩,
      m_NoOffer := ⟨⟨_, _, I_11, T_21, i_Missing U_21⟩, E_11, F0_11, PySem.W.mg_of X G g_11⟩,
      m_NoPrime := ⟨⟨_, _, I_12, T_21, i_Missing U_21⟩, E_12, F0_12, PySem.W.mg_of X G g_12⟩,
      m_Twice := ⟨⟨_, _, I_13, T_13, i_Twice U_13⟩, E_13, F0_13, PySem.W.mg_of X G g_13⟩,
      q_ByZero := Q_14,
      k_ByZero := K_14,
      h_ByZero := PySem.W.mg_of X G g_14,
      m_Beyond := ⟨⟨_, _, I_15, T_15, i_Beyond U_15⟩, E_15, F0_15, PySem.W.mg_of X G g_15⟩,
      m_Impossible := ⟨⟨_, _, I_16, T_16, i_Impossible U_16⟩, E_16, F0_16, PySem.W.mg_of X G g_16⟩,
      m_TooMany := ⟨⟨_, _, I_17, T_17, i_TooMany U_17⟩, E_17, F0_17, F1_17, PySem.W.mg_of X G g_17⟩,
      q_Nothing := Q_18,
      k_Nothing := K_18,
      h_Nothing := PySem.W.mg_of X G g_18,
      m_BadText := ⟨⟨_, _, I_19, T_19, i_BadText U_19⟩, E_19, F0_19, F1_19, PySem.W.mg_of X G g_19⟩,
      m_BadLine := ⟨⟨_, _, I_20, T_20, i_BadLine U_20⟩, E_20, F0_20, F1_20, PySem.W.mg_of X G g_20⟩,
      m_Missing := ⟨⟨_, _, I_21, T_21, i_Missing U_21⟩, E_21, F0_21, PySem.W.mg_of X G g_21⟩ }
    intro i hi
    match i, hi with
    | 0, _ => exact E_0.ec
    | 1, _ => exact E_1.ec
    | 2, _ => exact E_2.ec
    | 3, _ => exact E_3.ec
    | 4, _ => exact E_4.ec
    | 5, _ => exact E_5.ec
    | 6, _ => exact E_6.ec
    | 7, _ => exact E_7.ec
    | 8, _ => exact E_8.ec
    | 9, _ => exact E_9.ec
    | 10, _ => exact E_10.ec
    | 11, _ => exact E_11.ec
    | 12, _ => exact E_12.ec
    | 13, _ => exact E_13.ec
    | 14, _ => exact E_14.ec
    | 15, _ => exact E_15.ec
    | 16, _ => exact E_16.ec
    | 17, _ => exact E_17.ec
    | 18, _ => exact E_18.ec
    | 19, _ => exact E_19.ec
    | 20, _ => exact E_20.ec
    | 21, _ => exact E_21.ec
    | i + 22, hi => omega
  have c_well := ok__law_well (P := l.prog) (w := w) (base := base) (k := 0) T Df_2
  have c_pail := ok__law_pail (P := l.prog) (w := w) (base := base) (k := 0) T Df_3
  have c_of := ok__law_of T Df_4 c_pail
  have c_val := ok__law_value T PC Df_5 c_pail c_of (ok_pinit T PC VI Df_0)
  have c_cls := ok__law_classes T ET Df_6
  have c_only := ok__law_is_only T ET Df_7 c_cls
  have c_place := ok__law_by_place T ET Df_8
  have c_name := ok__law_by_name T ET Df_9
  have c_same := ok_is_same (P := l.prog) (w := w) (base := base) (k := 0) T PC (PySem.W.mg_none_of X G z_type) Df_1
  have c_one := ok__law_one_right T ET PC Df_10 c_place c_name c_only (ok_peq (fi := fi) T VE c_same) (VE.binds (ps := ["self", "other"]) fun _ _ _ _ _ _ us hl => match us, hl with | [_, _], _ => rfl)
  have c_two := ok__law_two_right T ET Df_11 c_only
  exact fn_law T FL c_well c_val c_one c_two
theorem walk {l : PySem.W.OpenLaw} {q : Program} {loose : List Str} {XP : (Str → Option Value) → Heap → Prop} {YP : World → Heap → Prop} {d : DefRec} {K : Params → PySem.W.Frag} (hn : l.most = some 63) (hdf : d.params.defaults = [])
    (hY : ∀ (w : World) (h : Heap), YP w h → (K w.params).In h)
    (F : ∀ (w : World) (mg : Str → Option Value) (fa : Addr) (h : Heap), (K w.params).In h → h.Ns mainGlobals mg → mg d.name = some (.ref fa) →
      ∃ fd : FuncData, (∀ (s : Shared) (u : Value), BindsTo s fd ⟨[u], []⟩ [("script", u)]) ∧ ∀ base : Heap, (K w.params).In base → base.Ns mainGlobals mg → FnOk l.prog w (K w.params) mg base CX0 8 fa fd ["script"] (spLaw (K w.params))) :
    PySem.W.WalkO q loose XP YP l.row.toRowW d [] (fun f vs => PySem.call f vs) :=
  L2.walk_of (n := 63) (k := 8) (x := "script") (CX := fun _ => CX0) (sp := fun w => spLaw (K w.params)) hn (by decide) hdf ⟨rfl, by decide, by decide⟩ hY F (fun _ _ a ns hl _ hS => ⟨a, ns, rfl, hS, hl, fun _ => rfl⟩) fun _ _ _ _ _ z => z
end My
open PySem PySem.W PyProof.Rows
set_option maxRecDepth 100000 in
set_option maxHeartbeats 0 in
theorem PySem.Challenge.cw_allnear_k00_errors_keep_their_fields_holds : PySem.Challenge.rw_allnear_k00_errors_keep_their_fields.Holds := by
  w_on; o_law; k_head; (case hw => w_witness2)
  k_fill
  refine My.walk (l := PySem.Challenge.rw_allnear_k00_errors_keep_their_fields) rfl rfl (fun w h Y => PySem.W.kIn_of Y) ?F
  case F =>
    intro w mg fa h KX G hmg
    refine' My.all_mk KX G hmg ?z_int ?z_len ?z_abs ?z_str ?z_isinstance ?z_enumerate ?z_range ?z_tuple ?z_list ?z_type ?z_ValueError ?z_LookupError ?z_TypeError ?z_ArithmeticError ?z_AttributeError ?z_RuntimeError ?a_0 ?l_0 ?c_0 ?k_0 ?a_1 ?l_1 ?c_1 ?k_1 ?a_2 ?l_2 ?c_2 ?k_2 ?a_3 ?l_3 ?c_3 ?k_3 ?a_4 ?l_4 ?c_4 ?k_4 ?a_5 ?l_5 ?c_5 ?k_5 ?a_6 ?l_6 ?c_6 ?k_6 ?a_7 ?l_7 ?c_7 ?k_7 ?a_8 ?l_8 ?c_8 ?k_8 ?a_9 ?l_9 ?c_9 ?k_9 ?a_10 ?l_10 ?c_10 ?k_10 ?a_11 ?l_11 ?c_11 ?k_11 ?a_12 ?l_12 ?c_12 ?k_12 ?g_0 ?g_1 ?g_2 ?g_3 ?g_4 ?g_5 ?g_6 ?g_7 ?g_8 ?g_9 ?g_10 ?g_11 ?g_12 ?g_13 ?g_14 ?g_15 ?g_16 ?g_17 ?g_18 ?g_19 ?g_20 ?g_21 ?g_22 ?L_0 ?V_0 ?S_0 ?X_0 ?Y_0 ?K_0 ?G_0 ?H_0 ?D_0 ?A_0 ?M_0 ?F0_0 ?L_1 ?V_1 ?S_1 ?X_1 ?Y_1 ?K_1 ?G_1 ?H_1 ?D_1 ?A_1 ?M_1 ?F0_1 ?L_2 ?V_2 ?S_2 ?X_2 ?Y_2 ?K_2 ?G_2 ?H_2 ?D_2 ?A_2 ?M_2 ?F0_2 ?L_3 ?V_3 ?S_3 ?X_3 ?Y_3 ?K_3 ?G_3 ?H_3 ?D_3 ?A_3 ?M_3 ?F0_3 ?L_4 ?V_4 ?S_4 ?X_4 ?Y_4 ?K_4 ?G_4 ?H_4 ?D_4 ?A_4 ?M_4 ?F0_4 ?L_5 ?V_5 ?S_5 ?X_5 ?Y_5 ?K_5 ?G_5 ?H_5 ?D_5 ?A_5 ?M_5 ?F0_5 ?L_6 ?V_6 ?S_6 ?X_6 ?Y_6 ?K_6 ?G_6 ?H_6 ?D_6 ?A_6 ?M_6 ?F0_6 ?L_7 ?V_7 ?S_7 ?X_7 ?Y_7 ?K_7 ?G_7 ?H_7 ?D_7 ?A_7 ?M_7 ?F0_7 ?L_8 ?V_8 ?S_8 ?X_8 ?Y_8 ?K_8 ?G_8 ?H_8 ?D_8 ?A_8 ?M_8 ?F0_8 ?L_9 ?V_9 ?S_9 ?X_9 ?Y_9 ?K_9 ?G_9 ?H_9 ?D_9 ?A_9 ?M_9 ?F0_9 ?L_10 ?V_10 ?S_10 ?X_10 ?Y_10 ?K_10 ?G_10 ?H_10 ?D_10 ?A_10 ?M_10 ?F0_10 ?L_11 ?V_11 ?S_11 ?X_11 ?Y_11 ?K_11 ?G_11 ?H_11 ?D_11 ?A_11 ?M_11 ?F0_11 ?L_12 ?V_12 ?S_12 ?X_12 ?Y_12 ?K_12 ?G_12 ?H_12 ?D_12 ?A_12 ?M_12 ?F0_12 ?L_13 ?V_13 ?S_13 ?X_13 ?Y_13 ?K_13 ?G_13 ?H_13 ?D_13 ?A_13 ?M_13 ?F0_13 ?L_14 ?V_14 ?S_14 ?X_14 ?Y_14 ?K_14 ?G_14 ?H_14 ?D_14 ?A_14 ?M_14 ?L_15 ?V_15 ?S_15 ?X_15 ?Y_15 ?K_15 ?G_15 ?H_15 ?D_15 ?A_15 ?M_15 ?F0_15 ?L_16 ?V_16 ?S_16 ?X_16 ?Y_16 ?K_16 ?G_16 ?H_16 ?D_16 ?A_16 ?M_16 ?F0_16 ?L_17 ?V_17 ?S_17 ?X_17 ?Y_17 ?K_17 ?G_17 ?H_17 ?D_17 ?A_17 ?M_17 ?F0_17 ?F1_17 ?L_18 ?V_18 ?S_18 ?X_18 ?Y_18 ?K_18 ?G_18 ?H_18 ?D_18 ?A_18 ?M_18 ?L_19 ?V_19 ?S_19 ?X_19 ?Y_19 ?K_19 ?G_19 ?H_19 ?D_19 ?A_19 ?M_19 ?F0_19 ?F1_19 ?L_20 ?V_20 ?S_20 ?X_20 ?Y_20 ?K_20 ?G_20 ?H_20 ?D_20 ?A_20 ?M_20 ?F0_20 ?F1_20 ?L_21 ?V_21 ?S_21 ?X_21 ?Y_21 ?K_21 ?G_21 ?H_21 ?D_21 ?A_21 ?M_21 ?F0_21 ?sp0 ?tk0 ?I_0 ?T_0 ?J_0 ?O_0 ?P_0 ?I_1 ?T_1 ?J_1 ?O_1 ?P_1 ?I_2 ?T_2 ?J_2 ?O_2 ?P_2 ?I_3 ?T_3 ?J_3 ?O_3 ?P_3 ?I_4 ?T_4 ?J_4 ?O_4 ?P_4 ?I_5 ?T_5 ?J_5 ?O_5 ?P_5 ?I_6 ?T_6 ?J_6 ?O_6 ?P_6 ?I_7 ?T_7 ?J_7 ?O_7 ?P_7 ?I_8 ?T_8 ?J_8 ?O_8 ?P_8 ?I_9 ?T_9 ?J_9 ?O_9 ?P_9 ?I_13 ?T_13 ?J_13 ?O_13 ?P_13 ?I_15 ?T_15 ?J_15 ?O_15 ?P_15 ?I_16 ?T_16 ?J_16 ?O_16 ?P_16 ?I_17 ?T_17 ?J_17 ?O_17 ?P_17 ?I_19 ?T_19 ?J_19 ?O_19 ?P_19 ?I_20 ?T_20 ?J_20 ?O_20 ?P_20 ?I_21 ?T_21 ?J_21 ?O_21 ?P_21 ?I_10 ?I_11 ?I_12 ?Q_14 ?Q_18 ?isa ?gP ?pL ?pOk ?pE ?pNe ?pT ?pEq ?pFn ?pg ?phd ?ppo ?psa ?pW ?pP ?pMk ?pI ?pIf ?pKp ?viL ?viC ?viK ?veL ?veC ?veK
    (case z_int => k_is)
    (case z_len => k_is)
    (case z_abs => k_is)
    (case z_str => k_is)
    (case z_isinstance => k_is)
    (case z_enumerate => k_is)
    (case z_range => k_is)
    (case z_tuple => k_is)
    (case z_list => k_is)
    (case z_type => k_is)
    (case z_ValueError => k_is)
    (case z_LookupError => k_is)
    (case z_TypeError => k_is)
    (case z_ArithmeticError => k_is)
    (case z_AttributeError => k_is)
    (case z_RuntimeError => k_is)
    (case a_0 => k_is)
    (case l_0 => k_is)
    (case c_0 => k_is)
    (case k_0 => k_is)
    (case a_1 => k_is)
    (case l_1 => k_is)
    (case c_1 => k_is)
    (case k_1 => k_is)
    (case a_2 => k_is)
    (case l_2 => k_is)
    (case c_2 => k_is)
    (case k_2 => k_is)
    (case a_3 => k_is)
    (case l_3 => k_is)
    (case c_3 => k_is)
    (case k_3 => k_is)
    (case a_4 => k_is)
    (case l_4 => k_is)
    (case c_4 => k_is)
    (case k_4 => k_is)
    (case a_5 => k_is)
    (case l_5 => k_is)
    (case c_5 => k_is)
    (case k_5 => k_is)
    (case a_6 => k_is)
    (case l_6 => k_is)
    (case c_6 => k_is)
    (case k_6 => k_is)
    (case a_7 => k_is)
    (case l_7 => k_is)
    (case c_7 => k_is)
    (case k_7 => k_is)
    (case a_8 => k_is)
    (case l_8 => k_is)
    (case c_8 => k_is)
    (case k_8 => k_is)
    (case a_9 => k_is)
    (case l_9 => k_is)
    (case c_9 => k_is)
    (case k_9 => k_is)
    (case a_10 => k_is)
    (case l_10 => k_is)
    (case c_10 => k_is)
    (case k_10 => k_is)
    (case a_11 => k_is)
    (case l_11 => k_is)
    (case c_11 => k_is)
    (case k_11 => k_is)
    (case a_12 => k_is)
    (case l_12 => k_is)
    (case c_12 => k_is)
    (case k_12 => k_is)
    (case g_0 => k_is)
    (case g_1 => k_is)
    (case g_2 => k_is)
    (case g_3 => k_is)
    (case g_4 => k_is)
    (case g_5 => k_is)
    (case g_6 => k_is)
    (case g_7 => k_is)
    (case g_8 => k_is)
    (case g_9 => k_is)
    (case g_10 => k_is)
    (case g_11 => k_is)
    (case g_12 => k_is)
    (case g_13 => k_is)
    (case g_14 => k_is)
    (case g_15 => k_is)
    (case g_16 => k_is)
    (case g_17 => k_is)
    (case g_18 => k_is)
    (case g_19 => k_is)
    (case g_20 => k_is)
    (case g_21 => k_is)
    (case g_22 => k_is)
    (case L_0 => k_is)
    (case V_0 => rfl)
    (case S_0 => k_is)
    (case X_0 => k_is)
    (case Y_0 => k_is)
    (case K_0 => k_is)
    (case G_0 => k_is)
    (case H_0 => k_is)
    (case D_0 => k_is)
    (case A_0 => k_is)
    (case M_0 => k_is)
    (case F0_0 => k_is)
    (case L_1 => k_is)
    (case V_1 => rfl)
    (case S_1 => k_is)
    (case X_1 => k_is)
    (case Y_1 => k_is)
    (case K_1 => k_is)
    (case G_1 => k_is)
    (case H_1 => k_is)
    (case D_1 => k_is)
    (case A_1 => k_is)
    (case M_1 => k_is)
    (case F0_1 => k_is)
    (case L_2 => k_is)
    (case V_2 => rfl)
    (case S_2 => k_is)
    (case X_2 => k_is)
    (case Y_2 => k_is)
    (case K_2 => k_is)
    (case G_2 => k_is)
    (case H_2 => k_is)
    (case D_2 => k_is)
    (case A_2 => k_is)
    (case M_2 => k_is)
    (case F0_2 => k_is)
    (case L_3 => k_is)
    (case V_3 => rfl)
    (case S_3 => k_is)
    (case X_3 => k_is)
    (case Y_3 => k_is)
    (case K_3 => k_is)
    (case G_3 => k_is)
    (case H_3 => k_is)
    (case D_3 => k_is)
    (case A_3 => k_is)
    (case M_3 => k_is)
    (case F0_3 => k_is)
    (case L_4 => k_is)
    (case V_4 => rfl)
    (case S_4 => k_is)
    (case X_4 => k_is)
    (case Y_4 => k_is)
    (case K_4 => k_is)
    (case G_4 => k_is)
    (case H_4 => k_is)
    (case D_4 => k_is)
    (case A_4 => k_is)
    (case M_4 => k_is)
    (case F0_4 => k_is)
    (case L_5 => k_is)
    (case V_5 => rfl)
    (case S_5 => k_is)
    (case X_5 => k_is)
    (case Y_5 => k_is)
    (case K_5 => k_is)
    (case G_5 => k_is)
    (case H_5 => k_is)
    (case D_5 => k_is)
    (case A_5 => k_is)
    (case M_5 => k_is)
    (case F0_5 => k_is)
    (case L_6 => k_is)
    (case V_6 => rfl)
    (case S_6 => k_is)
    (case X_6 => k_is)
    (case Y_6 => k_is)
    (case K_6 => k_is)
    (case G_6 => k_is)
    (case H_6 => k_is)
    (case D_6 => k_is)
    (case A_6 => k_is)
    (case M_6 => k_is)
    (case F0_6 => k_is)
    (case L_7 => k_is)
    (case V_7 => rfl)
    (case S_7 => k_is)
    (case X_7 => k_is)
    (case Y_7 => k_is)
    (case K_7 => k_is)
    (case G_7 => k_is)
    (case H_7 => k_is)
    (case D_7 => k_is)
    (case A_7 => k_is)
    (case M_7 => k_is)
    (case F0_7 => k_is)
    (case L_8 => k_is)
    (case V_8 => rfl)
    (case S_8 => k_is)
    (case X_8 => k_is)
    (case Y_8 => k_is)
    (case K_8 => k_is)
    (case G_8 => k_is)
    (case H_8 => k_is)
    (case D_8 => k_is)
    (case A_8 => k_is)
    (case M_8 => k_is)
    (case F0_8 => k_is)
    (case L_9 => k_is)
    (case V_9 => rfl)
    (case S_9 => k_is)
    (case X_9 => k_is)
    (case Y_9 => k_is)
    (case K_9 => k_is)
    (case G_9 => k_is)
    (case H_9 => k_is)
    (case D_9 => k_is)
    (case A_9 => k_is)
    (case M_9 => k_is)
    (case F0_9 => k_is)
    (case L_10 => k_is)
    (case V_10 => rfl)
    (case S_10 => k_is)
    (case X_10 => k_is)
    (case Y_10 => k_is)
    (case K_10 => k_is)
    (case G_10 => k_is)
    (case H_10 => k_is)
    (case D_10 => k_is)
    (case A_10 => k_is)
    (case M_10 => k_is)
    (case F0_10 => k_is)
    (case L_11 => k_is)
    (case V_11 => rfl)
    (case S_11 => k_is)
    (case X_11 => k_is)
    (case Y_11 => k_is)
    (case K_11 => k_is)
    (case G_11 => k_is)
    (case H_11 => k_is)
    (case D_11 => k_is)
    (case A_11 => k_is)
    (case M_11 => k_is)
    (case F0_11 => k_is)
    (case L_12 => k_is)
    (case V_12 => rfl)
    (case S_12 => k_is)
    (case X_12 => k_is)
    (case Y_12 => k_is)
    (case K_12 => k_is)
    (case G_12 => k_is)
    (case H_12 => k_is)
    (case D_12 => k_is)
    (case A_12 => k_is)
    (case M_12 => k_is)
    (case F0_12 => k_is)
    (case L_13 => k_is)
    (case V_13 => rfl)
    (case S_13 => k_is)
    (case X_13 => k_is)
    (case Y_13 => k_is)
    (case K_13 => k_is)
    (case G_13 => k_is)
    (case H_13 => k_is)
    (case D_13 => k_is)
    (case A_13 => k_is)
    (case M_13 => k_is)
    (case F0_13 => k_is)
    (case L_14 => k_is)
    (case V_14 => rfl)
    (case S_14 => k_is)
    (case X_14 => k_is)
    (case Y_14 => k_is)
    (case K_14 => k_is)
    (case G_14 => k_is)
    (case H_14 => k_is)
    (case D_14 => k_is)
    (case A_14 => k_is)
    (case M_14 => k_is)
    (case L_15 => k_is)
    (case V_15 => rfl)
    (case S_15 => k_is)
    (case X_15 => k_is)
    (case Y_15 => k_is)
    (case K_15 => k_is)
    (case G_15 => k_is)
    (case H_15 => k_is)
    (case D_15 => k_is)
    (case A_15 => k_is)
    (case M_15 => k_is)
    (case F0_15 => k_is)
    (case L_16 => k_is)
    (case V_16 => rfl)
    (case S_16 => k_is)
    (case X_16 => k_is)
    (case Y_16 => k_is)
    (case K_16 => k_is)
    (case G_16 => k_is)
    (case H_16 => k_is)
    (case D_16 => k_is)
    (case A_16 => k_is)
    (case M_16 => k_is)
    (case F0_16 => k_is)
    (case L_17 => k_is)
    (case V_17 => rfl)
    (case S_17 => k_is)
    (case X_17 => k_is)
    (case Y_17 => k_is)
    (case K_17 => k_is)
    (case G_17 => k_is)
    (case H_17 => k_is)
    (case D_17 => k_is)
    (case A_17 => k_is)
    (case M_17 => k_is)
    (case F0_17 => k_is)
    (case F1_17 => k_is)
    (case L_18 => k_is)
    (case V_18 => rfl)
    (case S_18 => k_is)
    (case X_18 => k_is)
    (case Y_18 => k_is)
    (case K_18 => k_is)
    (case G_18 => k_is)
    (case H_18 => k_is)
    (case D_18 => k_is)
    (case A_18 => k_is)
    (case M_18 => k_is)
    (case L_19 => k_is)
    (case V_19 => rfl)
    (case S_19 => k_is)
    (case X_19 => k_is)
    (case Y_19 => k_is)
    (case K_19 => k_is)
    (case G_19 => k_is)
    (case H_19 => k_is)
    (case D_19 => k_is)
    (case A_19 => k_is)
    (case M_19 => k_is)
    (case F0_19 => k_is)
    (case F1_19 => k_is)
    (case L_20 => k_is)
    (case V_20 => rfl)
    (case S_20 => k_is)
    (case X_20 => k_is)
    (case Y_20 => k_is)
    (case K_20 => k_is)
    (case G_20 => k_is)
    (case H_20 => k_is)
    (case D_20 => k_is)
    (case A_20 => k_is)
    (case M_20 => k_is)
    (case F0_20 => k_is)
    (case F1_20 => k_is)
    (case L_21 => k_is)
    (case V_21 => rfl)
    (case S_21 => k_is)
    (case X_21 => k_is)
    (case Y_21 => k_is)
    (case K_21 => k_is)
    (case G_21 => k_is)
    (case H_21 => k_is)
    (case D_21 => k_is)
    (case A_21 => k_is)
    (case M_21 => k_is)
    (case F0_21 => k_is)
    (case sp0 => k_is)
    (case tk0 => k_is)
    (case I_0 => k_is)
    (case T_0 => k_is)
    (case J_0 => k_is)
    (case O_0 => k_is)
    (case P_0 => k_is)
    (case I_1 => k_is)
    (case T_1 => k_is)
    (case J_1 => k_is)
    (case O_1 => k_is)
    (case P_1 => k_is)
    (case I_2 => k_is)
    (case T_2 => k_is)
    (case J_2 => k_is)
    (case O_2 => k_is)
    (case P_2 => k_is)
    (case I_3 => k_is)
    (case T_3 => k_is)
    (case J_3 => k_is)
    (case O_3 => k_is)
    (case P_3 => k_is)
    (case I_4 => k_is)
    (case T_4 => k_is)
    (case J_4 => k_is)
    (case O_4 => k_is)
    (case P_4 => k_is)
    (case I_5 => k_is)
    (case T_5 => k_is)
    (case J_5 => k_is)
    (case O_5 => k_is)
    (case P_5 => k_is)
    (case I_6 => k_is)
    (case T_6 => k_is)
    (case J_6 => k_is)
    (case O_6 => k_is)
    (case P_6 => k_is)
    (case I_7 => k_is)
    (case T_7 => k_is)
    (case J_7 => k_is)
    (case O_7 => k_is)
    (case P_7 => k_is)
    (case I_8 => k_is)
    (case T_8 => k_is)
    (case J_8 => k_is)
    (case O_8 => k_is)
    (case P_8 => k_is)
    (case I_9 => k_is)
    (case T_9 => k_is)
    (case J_9 => k_is)
    (case O_9 => k_is)
    (case P_9 => k_is)
    (case I_13 => k_is)
    (case T_13 => k_is)
    (case J_13 => k_is)
    (case O_13 => k_is)
    (case P_13 => k_is)
    (case I_15 => k_is)
    (case T_15 => k_is)
    (case J_15 => k_is)
    (case O_15 => k_is)
    (case P_15 => k_is)
    (case I_16 => k_is)
    (case T_16 => k_is)
    (case J_16 => k_is)
    (case O_16 => k_is)
    (case P_16 => k_is)
    (case I_17 => k_is)
    (case T_17 => k_is)
    (case J_17 => k_is)
    (case O_17 => k_is)
    (case P_17 => k_is)
    (case I_19 => k_is)
    (case T_19 => k_is)
    (case J_19 => k_is)
    (case O_19 => k_is)
    (case P_19 => k_is)
    (case I_20 => k_is)
    (case T_20 => k_is)
    (case J_20 => k_is)
    (case O_20 => k_is)
    (case P_20 => k_is)
    (case I_21 => k_is)
    (case T_21 => k_is)
    (case J_21 => k_is)
    (case O_21 => k_is)
    (case P_21 => k_is)
    (case I_10 => k_is)
    (case I_11 => k_is)
    (case I_12 => k_is)
    (case Q_14 => kernel_rfl)
    (case Q_18 => kernel_rfl)
    (case isa => kernel_rfl)
    (case gP => k_is)
    (case pL => k_is)
    (case pOk => kernel_rfl)
    (case pE => k_is)
    (case pNe => k_is)
    (case pT => k_is)
    (case pEq => k_is)
    (case pFn => k_is)
    (case pg => k_is)
    (case phd => k_is)
    (case ppo => k_is)
    (case psa => k_is)
    (case pW => k_is)
    (case pP => k_is)
    (case pMk => k_is)
    (case pI => k_is)
    (case pIf => k_is)
    (case pKp => k_is)
    (case viL => k_is)
    (case viC => k_is)
    (case viK => k_is)
    (case veL => k_is)
    (case veC => k_is)
    (case veK => k_is)

