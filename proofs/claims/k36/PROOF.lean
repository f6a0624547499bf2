import PyProof.Rows.All
import Wide.All
import OpenK.AllK
import Wide.FinOn
import HandS.ForMost
import HandS.Codes
import HandS.Wide
import HandS.EndBits
import HandS.IsInst
import HandS.Style
import HandS.Star
import HandS.Defaults
import KE.KExcIs
import KE.KIsAll
import HandS.Exc
import HandS.ExcInit
import HandS.ExcField
import HandS.ExcIs
import HandS.DeepEq
import HandS.ExcValue
import HandS.OwnEq
import HandS.DictComp
import PyProof.InstNe
import PyProof.Rows.PlainNe
import HandS.TupSets
import HandS.SetKeys
import HandS.ReCall
import HandS.Deep
import PyProof.ReprHeadsTuple
import HandS.Walk
import HandS.Zip
import HandS.Sort
import HandS.SortInts
import HandS.SortRule
import HandS.Conv
import PySem.Challenge.RW_allnear_k36_some_m_is_enough
import HandS.Ends
import HandS.More
import HandS.Words
import HandS.WordsExc
import HandS.Head0
import HandS.Head1
import HandS.Head2
import HandS.HeadEnd
import HandS.HeadHook1
import HandS.HeadHook2
set_option Elab.async false
set_option linter.all false
set_option maxRecDepth 100000
/-! What all the laws' proofs share: the well that draws numbers out of the script. -/
namespace My
open PySem PySem.Spec PyProof.Rows L2
/-- all of H but what stands at p is kept -/
def Keep (p : Addr) (H H' : Hp) : Prop := ∀ b o, H b = some o → b ≠ p → H' b = some o
theorem Keep.refl {p : Addr} {H : Hp} : Keep p H H := fun _ _ h _ => h
theorem Keep.trans {p : Addr} {H H1 H2 : Hp} (a : Keep p H H1) (b : Keep p H1 H2) : Keep p H H2 := fun c o h n => b c o (a c o h n) n
theorem Keep.of {p : Addr} {H H' : Hp} (a : Same H H') : Keep p H H' := fun c o h _ => a c o h
theorem Keep.upd {p : Addr} {H H' : Hp} {u : HO} (a : Keep p H H') : Keep p H (upd H' p u) := fun c o h n => by
  rw [upd_ne n]
  exact a c o h n
theorem same_new {H : Hp} {p : Addr} (h : H p = none) (o : HO) : Same H (upd H p o) := fun b u q => by
  rw [upd_ne (ne_of_none q h)]
  exact q
theorem Same.keep {p : Addr} {H H1 H2 : Hp} (a : Same H H1) (b : Keep p H1 H2) (n : H p = none) : Same H H2 := fun c o h => b c o (a c o h) (ne_of_none h n)
/-- at p a well with its cells at c; n draws may still be made -/
def Well (H : Hp) (p c : Addr) (n : Nat) : Prop := ∃ (cells : List Int) (t r : Int), H p = some (.lst [.ref c, .int t, .int r]) ∧ H c = some (.lst (cells.map V.int)) ∧ cells.length ≤ 63 ∧ 0 ≤ t ∧ t + n ≤ 1000000
theorem Well.same {H H' : Hp} {p c : Addr} {n : Nat} (e : Same H H') (w : Well H p c n) : Well H' p c n := by
  obtain ⟨cells, t, r, h1, h2, h3⟩ := w
  exact ⟨cells, t, r, e _ _ h1, e _ _ h2, h3⟩
theorem Well.less {H : Hp} {p c : Addr} {n m : Nat} (h : m ≤ n) (w : Well H p c n) : Well H p c m := by
  obtain ⟨cells, t, r, h1, h2, h3, h4, h5⟩ := w
  exact ⟨cells, t, r, h1, h2, h3, h4, by omega⟩
theorem Well.ne {H : Hp} {p c : Addr} {n : Nat} (w : Well H p c n) : c ≠ p := by
  obtain ⟨cells, t, r, h1, h2, _⟩ := w
  intro e
  subst e
  rw [h1] at h2
  have e := Option.some.inj h2
  injection e with e
  cases cells with
  | nil => cases e
  | cons a b => injection e with e _; cases e
def spWell (K : PySem.W.Frag) : Sp := fun vs H Q _ => ∃ (a : Addr) (ns : List Int), vs = [.ref a] ∧ SqL K H a (ns.map V.int) ∧ ns.length ≤ 63 ∧
  ∀ (p c : Addr) (H' : Hp), H p = none → H c = none → Same H H' → Well H' p c 1000000 → Q (.ref p) H'
def spPail : Sp := fun vs H Q _ => ∃ (p c : Addr) (n : Nat) (m : Int), vs = [.ref p, .int m] ∧ Well H p c (n + 1) ∧ 0 < m ∧ m ≤ 10 ^ 40 ∧
  ∀ (z : Int) (H' : Hp), 0 ≤ z → z < m → Keep p H H' → Well H' p c n → Q (.int z) H'
def spOf (K : PySem.W.Frag) : Sp := fun vs H Q _ => ∃ (p c l : Addr) (n : Nat) (xs : List V), vs = [.ref p, .ref l] ∧ Well H p c (n + 1) ∧ SqL K H l xs ∧ l ≠ p ∧ 0 < xs.length ∧ xs.length ≤ 1000 ∧
  ∀ (v : V) (H' : Hp), v ∈ xs → Keep p H H' → Well H' p c n → Q v H'
/-- a def of the module that takes all its arguments -/
def DefB (K : PySem.W.Frag) (mg : Str → Option Value) (x : Str) (st : Stmt) (ps : List Str) : Prop := ∃ (f : Addr) (fd : FuncData), C8.Def K mg x st f fd ∧ Binds K fd ps []
section
variable {P : Program} {w : World} {K : PySem.W.Frag} {mg : Str → Option Value} {base : Heap}
theorem calB {x : Str} {st : Stmt} {N ps : List Str} {k : Nat} {sp : Sp} (D : DefB K mg x st ps) (S : FnScope N ps (C8.fnScope st)) (len : ∀ vs H Q E, sp vs H Q E → vs.length = ps.length)
    (hbody : ∀ (f : Addr) (cdv : Value) (A : Around) (outer : List Env) (s : Shared) (H : Hp) (vs : List V) (Q : VK) (E : XK), Room k (A.deeper (envOfC x (C8.fnScope st) s.heap.objs.size f cdv)) → sp vs H Q E →
      ∃ t, PSs (cxOf CX0 P w K mg base N x (C8.fnScope st) f cdv A outer s H E).nox (C8.fnBody st) t ∧ t { nx := fun _ H' => Q .non H', rt := Q } (start N vs) H) : C8.Cal P w K mg base (k + 1) x sp [] := by
  obtain ⟨f, fd, F, b⟩ := D
  exact C8.cal0 F b .nil S len (hbody f)
end
theorem lg_le {m : Int} (h : m ≤ 10 ^ 40) (h0 : 0 < m) : m.natAbs.log2 < 9000 := by
  have : m.natAbs < 2 ^ 200 := Nat.lt_of_le_of_lt (by omega : m.natAbs ≤ 10 ^ 40) (by decide)
  exact Nat.lt_of_lt_of_le (PySem.Flt.log2_lt_of (by decide) this) (by decide)
theorem Keep.seqL {K : PySem.W.Frag} {p l : Addr} {H H' : Hp} {xs : List V} (e : Keep p H H') (h : SqL K H l xs) (n : l ≠ p) : SqL K H' l xs := by
  rcases h with (h | ⟨o, h⟩) | h
  · exact .inl (.inl (e _ _ h n))
  · exact .inl (.inr ⟨o, e _ _ h n⟩)
  · exact .inr h
theorem Keep.seqT {K : PySem.W.Frag} {p l : Addr} {H H' : Hp} {xs : List V} (e : Keep p H H') (h : SqT K H l xs) (n : l ≠ p) : SqT K H' l xs := by
  rcases h with (h | ⟨o, h⟩) | h
  · exact .inl (.inl (e _ _ h n))
  · exact .inl (.inr ⟨o, e _ _ h n⟩)
  · exact .inr h
theorem at_int {xs : List V} {z : Int} (h0 : 0 ≤ z) (h : z < (xs.length : Int)) : ∃ v, atI xs z = some v ∧ v ∈ xs := by
  have hk : z.toNat < xs.length := by omega
  have e : ((z.toNat : Nat) : Int) = z := by omega
  have q := atI_nat (xs := xs) (j := z.toNat) (v := xs[z.toNat]) (by simp [hk])
  rw [e] at q
  exact ⟨_, q, List.getElem_mem hk⟩
theorem dp_ints {K : PySem.W.Frag} {H : Hp} : ∀ ns : List Int, DpAll K H (ns.map V.int) (ns.map PyData.int)
  | [] => .nil
  | n :: r => .cons (.int n) (dp_ints r)
theorem ints_lay : ∀ ns : List Int, PyData.canLayAll0 (ns.map PyData.int) = true
  | [] => by simp [PyData.canLayAll0]
  | n :: r => by simp [PyData.canLayAll0, PyData.canLay0, ints_lay r]
theorem ints_depth : ∀ ns : List Int, PyData.depthAll (ns.map PyData.int) = 0
  | [] => by simp [PyData.depthAll]
  | n :: r => by simp [PyData.depthAll, PyData.depth, ints_depth r]
theorem shaped_by {d : PyData} (h : d.canLay0 = true) (h2 : d.depth ≤ 64) : SeqAt.shaped d = true := by
  show (d.canLay0 && decide (d.depth ≤ 64)) = true
  rw [Bool.and_eq_true]
  exact ⟨h, decide_eq_true h2⟩
theorem ints_shapedL (ns : List Int) : SeqAt.shaped (.list (ns.map PyData.int)) = true :=
  shaped_by (by simp only [PyData.canLay0]; exact ints_lay ns) (by simp only [PyData.depth, ints_depth]; omega)
theorem ints_shapedT (ns : List Int) : SeqAt.shaped (.tuple (ns.map PyData.int)) = true :=
  shaped_by (by simp only [PyData.canLay0]; exact ints_lay ns) (by simp only [PyData.depth, ints_depth]; omega)
theorem eqv_intsA : ∀ as bs : List Int, PyData.eqvAll (as.map PyData.int) (bs.map PyData.int) = decide (as = bs)
  | [], [] => by simp [PyData.eqvAll]
  | [], b :: bs => by simp [PyData.eqvAll]
  | a :: as, [] => by simp [PyData.eqvAll]
  | a :: as, b :: bs => by
    simp only [List.map_cons, PyData.eqvAll, PyData.eqv, eqv_intsA as bs]
    by_cases h : a = b
    · subst h
      simp
    · have e : (a == b) = false := beq_eq_false_iff_ne.mpr h
      rw [e, Bool.false_and]
      exact (decide_eq_false (fun z => h (List.cons.inj z).1)).symm
theorem eqv_intsL (as bs : List Int) : PyData.eqv (.list (as.map PyData.int)) (.list (bs.map PyData.int)) = decide (as = bs) := by
  simp only [PyData.eqv, eqv_intsA]
theorem eqv_intsT (as bs : List Int) : PyData.eqv (.tuple (as.map PyData.int)) (.tuple (bs.map PyData.int)) = decide (as = bs) := by
  simp only [PyData.eqv, eqv_intsA]
theorem pow_lt {a b : Nat} {i : Int} (h0 : 0 ≤ i) (h1 : i < b) : i.natAbs < b := by omega
theorem mix_lt {v t A B C : Int} (hA : 0 ≤ A ∧ A < 100000) (hB : 0 ≤ B ∧ B < 1000000) (hC : 0 ≤ C ∧ C < 1000000) (h0 : 0 ≤ v) (h1 : v ≤ 2147483647) (t0 : 0 ≤ t) (t1 : t ≤ 1000000) : (v * (2 * t + A) + B * t * t + C).natAbs < 2 ^ 64 := by
  have a1 : 0 ≤ v * (2 * t + A) := Int.mul_nonneg h0 (by omega)
  have a2 : v * (2 * t + A) ≤ 2147483647 * 2100000 := Int.le_trans (Int.mul_le_mul_of_nonneg_right h1 (by omega)) (Int.mul_le_mul_of_nonneg_left (by omega) (by decide))
  have b1 : 0 ≤ B * t := Int.mul_nonneg hB.1 t0
  have b2 : B * t ≤ 1000000 * 1000000 := Int.le_trans (Int.mul_le_mul_of_nonneg_right (Int.le_of_lt hB.2) t0) (Int.mul_le_mul_of_nonneg_left t1 (by decide))
  have c1 : 0 ≤ B * t * t := Int.mul_nonneg b1 t0
  have c2 : B * t * t ≤ 1000000 * 1000000 * 1000000 := Int.le_trans (Int.mul_le_mul_of_nonneg_right b2 t0) (Int.mul_le_mul_of_nonneg_left t1 (by decide))
  omega
theorem cut_ints {ns : List Int} {lo hi : Option Int} : ∃ cells : List Int, cutV (ns.map V.int) lo hi = cells.map V.int ∧ cells.length ≤ ns.length := by
  refine ⟨(ns.drop (HT.sIx (ns.map V.int).length 0 lo)).take (HT.sIx (ns.map V.int).length (ns.map V.int).length hi - HT.sIx (ns.map V.int).length 0 lo), ?_, ?_⟩
  · unfold cutV
    rw [← List.map_drop, ← List.map_take]
  · rw [List.length_take, List.length_drop]
    omega
theorem mem_cut_int {ns : List Int} {lo hi : Option Int} {y : V} (h : y ∈ cutV (ns.map V.int) lo hi) : ∃ z, y = V.int z := by
  obtain ⟨cells, e, _⟩ := cut_ints (ns := ns) (lo := lo) (hi := hi)
  rw [e] at h
  obtain ⟨z, _, rfl⟩ := List.mem_map.mp h
  exact ⟨z, rfl⟩
/-! ### comprehensions: P tells what is made so far; it does not hang on the list that grows (D) -/
theorem lc_acc {K : PySem.W.Frag} {a : Addr} {xs : List V} {g : TG} {tt : TT} {te : TE} {vs : List Nat} {σ : L2.St} {H1 : Hp} {D : Addr} {Qd : Hp → Prop} (P : Nat → List V → Hp → Prop) (hx : SqL K H1 a xs) (hD : H1 D = none) (hz : xs.length ≤ 100000)
    (mono : ∀ i acc H H', Keep D H H' → P i acc H → P i acc H') (h0 : P 0 [] H1)
    (hs : ∀ (i : Nat) (x : V) (acc : List V) (H : Hp) (Kc : V → Hp → Prop) (Nc : Hp → Prop), xs[i]? = some x → Same H1 H → H D = some (.lst acc) → P i acc H → (∀ y H4, Same H H4 → P (i + 1) (acc ++ [y]) H4 → Kc y H4) → (∀ H4, Same H H4 → P (i + 1) acc H4 → Nc H4) →
      g x (wipe σ vs) H fun σ2 H2 => wipe σ2 vs = wipe σ vs ∧ tt σ2 H2 fun b H3 => if b = true then te σ2 H3 Kc else Nc H3)
    (hd : ∀ acc H, Same H1 H → H D = some (.lst acc) → acc.length ≤ xs.length → P xs.length acc H → Qd H) :
    ∃ W : Nat → Nat → Hp → Prop, (∃ m, W 0 m (upd H1 D (.lst []))) ∧ ∀ i m H, W i m H →
      ((Itl K a).stop i H ∧ Qd H) ∨ ((Itl K a).go i H ∧ ∃ Nx : Hp → Prop, (∀ H', Nx H' → ∃ m', m' < m ∧ W (i + 1) m' H') ∧ ∀ x H', (Itl K a).yld i H x H' → g x (wipe σ vs) H' fun σ2 H2 => wipe σ2 vs = wipe σ vs ∧ tt σ2 H2 fun b H3 =>
        if b = true then te σ2 H3 fun y H4 => ∃ acc, H4 D = some (.lst acc) ∧ acc.length < sizeLine ∧ Nx (upd H4 D (.lst (acc ++ [y]))) else Nx H3) := by
  refine lc_list (K := K) (a := a) (xs := xs) (fun i H => ∃ acc, Same H1 H ∧ H D = some (.lst acc) ∧ acc.length ≤ i ∧ P i acc H) ⟨[], same_new hD _, upd_same, Nat.le_refl _, mono _ _ _ _ (Keep.of (same_new hD _)) h0⟩ (fun i H _ ⟨acc, e, _⟩ => e.seq hx) ?_ (fun H ⟨acc, e, h, hl, p⟩ => hd acc H e h hl p)
  rintro i x H hi ⟨acc, e, h, hl, p⟩
  have hil : i < xs.length := (List.getElem?_eq_some_iff.mp hi).1
  refine hs i x acc H _ _ hi e h p (fun y H4 e4 p4 => ?_) (fun H4 e4 p4 => ⟨acc, e.trans e4, e4 _ _ h, by omega, p4⟩)
  refine ⟨acc, e4 _ _ h, Nat.lt_of_lt_of_le (by omega : acc.length < 100000) (by decide), acc ++ [y], fun b o hb => ?_, upd_same, by rw [List.length_append, List.length_singleton]; omega, mono _ _ _ _ Keep.refl.upd p4⟩
  rw [upd_ne (ne_of_none hb hD)]
  exact e4 _ _ (e b o hb)
theorem same_seqT {K : PySem.W.Frag} {H H' : Hp} {a : Addr} {xs : List V} (e : Same H H') (h : SqT K H a xs) : SqT K H' a xs := by
  rcases h with (h | ⟨o, h⟩) | h
  · exact .inl (.inl (e _ _ h))
  · exact .inl (.inr ⟨o, e _ _ h⟩)
  · exact .inr h
theorem lc_accT {K : PySem.W.Frag} {a : Addr} {xs : List V} {g : TG} {tt : TT} {te : TE} {vs : List Nat} {σ : L2.St} {H1 : Hp} {D : Addr} {Qd : Hp → Prop} (P : Nat → List V → Hp → Prop) (hx : SqT K H1 a xs) (hD : H1 D = none) (hz : xs.length ≤ 100000)
    (mono : ∀ i acc H H', Keep D H H' → P i acc H → P i acc H') (h0 : P 0 [] H1)
    (hs : ∀ (i : Nat) (x : V) (acc : List V) (H : Hp) (Kc : V → Hp → Prop) (Nc : Hp → Prop), xs[i]? = some x → Same H1 H → H D = some (.lst acc) → P i acc H → (∀ y H4, Same H H4 → P (i + 1) (acc ++ [y]) H4 → Kc y H4) → (∀ H4, Same H H4 → P (i + 1) acc H4 → Nc H4) →
      g x (wipe σ vs) H fun σ2 H2 => wipe σ2 vs = wipe σ vs ∧ tt σ2 H2 fun b H3 => if b = true then te σ2 H3 Kc else Nc H3)
    (hd : ∀ acc H, Same H1 H → H D = some (.lst acc) → acc.length ≤ xs.length → P xs.length acc H → Qd H) :
    ∃ W : Nat → Nat → Hp → Prop, (∃ m, W 0 m (upd H1 D (.lst []))) ∧ ∀ i m H, W i m H →
      ((Itt K a).stop i H ∧ Qd H) ∨ ((Itt K a).go i H ∧ ∃ Nx : Hp → Prop, (∀ H', Nx H' → ∃ m', m' < m ∧ W (i + 1) m' H') ∧ ∀ x H', (Itt K a).yld i H x H' → g x (wipe σ vs) H' fun σ2 H2 => wipe σ2 vs = wipe σ vs ∧ tt σ2 H2 fun b H3 =>
        if b = true then te σ2 H3 fun y H4 => ∃ acc, H4 D = some (.lst acc) ∧ acc.length < sizeLine ∧ Nx (upd H4 D (.lst (acc ++ [y]))) else Nx H3) := by
  refine lc_tup (K := K) (a := a) (xs := xs) (fun i H => ∃ acc, Same H1 H ∧ H D = some (.lst acc) ∧ acc.length ≤ i ∧ P i acc H) ⟨[], same_new hD _, upd_same, Nat.le_refl _, mono _ _ _ _ (Keep.of (same_new hD _)) h0⟩ (fun i H _ ⟨acc, e, _⟩ => same_seqT e hx) ?_ (fun H ⟨acc, e, h, hl, p⟩ => hd acc H e h hl p)
  rintro i x H hi ⟨acc, e, h, hl, p⟩
  have hil : i < xs.length := (List.getElem?_eq_some_iff.mp hi).1
  refine hs i x acc H _ _ hi e h p (fun y H4 e4 p4 => ?_) (fun H4 e4 p4 => ⟨acc, e.trans e4, e4 _ _ h, by omega, p4⟩)
  refine ⟨acc, e4 _ _ h, Nat.lt_of_lt_of_le (by omega : acc.length < 100000) (by decide), acc ++ [y], fun b o hb => ?_, upd_same, by rw [List.length_append, List.length_singleton]; omega, mono _ _ _ _ Keep.refl.upd p4⟩
  rw [upd_ne (ne_of_none hb hD)]
  exact e4 _ _ (e b o hb)
/-- each item gives a value by itself, none is left out -/
theorem lc_map {K : PySem.W.Frag} {a : Addr} {xs : List V} {g : TG} {tt : TT} {te : TE} {vs : List Nat} {σ : L2.St} {H1 : Hp} {D : Addr} {Qd : Hp → Prop} (f : V → V) (hx : SqL K H1 a xs) (hD : H1 D = none) (hz : xs.length ≤ 100000)
    (hs : ∀ (i : Nat) (x : V) (H : Hp) (Kc : V → Hp → Prop) (Nc : Hp → Prop), xs[i]? = some x → Same H1 H → (∀ H4, Same H H4 → Kc (f x) H4) →
      g x (wipe σ vs) H fun σ2 H2 => wipe σ2 vs = wipe σ vs ∧ tt σ2 H2 fun b H3 => if b = true then te σ2 H3 Kc else Nc H3)
    (hd : ∀ H, Same H1 H → H D = some (.lst (xs.map f)) → Qd H) :
    ∃ W : Nat → Nat → Hp → Prop, (∃ m, W 0 m (upd H1 D (.lst []))) ∧ ∀ i m H, W i m H →
      ((Itl K a).stop i H ∧ Qd H) ∨ ((Itl K a).go i H ∧ ∃ Nx : Hp → Prop, (∀ H', Nx H' → ∃ m', m' < m ∧ W (i + 1) m' H') ∧ ∀ x H', (Itl K a).yld i H x H' → g x (wipe σ vs) H' fun σ2 H2 => wipe σ2 vs = wipe σ vs ∧ tt σ2 H2 fun b H3 =>
        if b = true then te σ2 H3 fun y H4 => ∃ acc, H4 D = some (.lst acc) ∧ acc.length < sizeLine ∧ Nx (upd H4 D (.lst (acc ++ [y]))) else Nx H3) := by
  refine lc_acc (K := K) (fun i acc _ => acc = (xs.take i).map f) hx hD hz (fun _ _ _ _ _ h => h) rfl (fun i x acc H Kc Nc hi e _ p h1 _ => hs i x H Kc Nc hi e fun H4 e4 => h1 _ H4 e4 ?_) (fun acc H e h _ p => hd H e (by rw [h, p, List.take_length]))
  rw [p]
  have hil : i < xs.length := (List.getElem?_eq_some_iff.mp hi).1
  have ex : xs[i] = x := (List.getElem?_eq_some_iff.mp hi).2
  rw [List.take_succ_eq_append_getElem hil, List.map_append, ex]
  rfl
/-- for i, x in enumerate(a list) -/
theorem for_enumL {K : PySem.W.Frag} {a : Addr} {xs : List V} {g : TG} {tb : TS} {D : Ends} {σ : L2.St} {H : Hp} (Pv : Nat → L2.St → Hp → Prop) (h0 : Pv 0 σ H) (hl : ∀ i σ H, i ≤ xs.length → Pv i σ H → SqL K H a xs)
    (hs : ∀ (i : Nat) (x : V) (T : Addr) (σ : L2.St) (H : Hp), xs[i]? = some x → H T = none → Pv i σ H → g (.ref T) σ (upd H T (.tup [.int (i : Nat), x])) fun σ2 H2 => tb { D with nx := Pv (i + 1), ct := Pv (i + 1), bk := D.nx } σ2 H2) (hd : ∀ σ H, Pv xs.length σ H → D.nx σ H) :
    ∃ W : Nat → Nat → L2.St → Hp → Prop, (∃ m, W 0 m σ H) ∧ ∀ i m σ H, W i m σ H →
      ((Ite K a).stop i H ∧ D.nx σ H) ∨ ((Ite K a).go i H ∧ ∃ N : L2.St → Hp → Prop, (∀ σ' H', N σ' H' → ∃ m', m' < m ∧ W (i + 1) m' σ' H') ∧ ∀ x H', (Ite K a).yld i H x H' → g x σ H' fun σ2 H2 => tb { D with nx := N, ct := N, bk := D.nx } σ2 H2) := by
  refine ⟨fun i m σ H => m = xs.length - i ∧ i ≤ xs.length ∧ Pv i σ H, ⟨_, rfl, Nat.zero_le _, h0⟩, fun i m σ1 H1 h => ?_⟩
  obtain ⟨em, hi, p⟩ := h
  have seq := hl i σ1 H1 hi p
  by_cases lt : i < xs.length
  · refine .inr ⟨⟨xs, xs[i], seq, by simp [lt]⟩, Pv (i + 1), fun σ2 H2 p2 => ⟨xs.length - (i + 1), by omega, rfl, lt, p2⟩, fun v H2 y => ?_⟩
    obtain ⟨T, x, ev, nT, eH, hx⟩ := y
    subst ev eH
    exact hs i x T σ1 H1 (hx xs seq) nT p
  · have e : i = xs.length := by omega
    subst e
    exact .inl ⟨⟨xs, seq, Nat.le_refl _⟩, hd σ1 H1 p⟩
/-- over a range: no item is left out, the value of the i-th is told by R -/
theorem lc_accR {lo : Int} {n : Nat} {g : TG} {tt : TT} {te : TE} {vs : List Nat} {σ : L2.St} {H1 : Hp} {D : Addr} {Qd : Hp → Prop} (P : Nat → List V → Hp → Prop) (hD : H1 D = none) (hz : n ≤ 100000)
    (mono : ∀ i acc H H', Keep D H H' → P i acc H → P i acc H') (h0 : P 0 [] H1)
    (hs : ∀ (i : Nat) (acc : List V) (H : Hp) (Kc : V → Hp → Prop) (Nc : Hp → Prop), i < n → Same H1 H → H D = some (.lst acc) → P i acc H → (∀ y H4, Same H H4 → P (i + 1) (acc ++ [y]) H4 → Kc y H4) → (∀ H4, Same H H4 → P (i + 1) acc H4 → Nc H4) →
      g (.int (lo + i)) (wipe σ vs) H fun σ2 H2 => wipe σ2 vs = wipe σ vs ∧ tt σ2 H2 fun b H3 => if b = true then te σ2 H3 Kc else Nc H3)
    (hd : ∀ acc H, Same H1 H → H D = some (.lst acc) → acc.length ≤ n → P n acc H → Qd H) :
    ∃ W : Nat → Nat → Hp → Prop, (∃ m, W 0 m (upd H1 D (.lst []))) ∧ ∀ i m H, W i m H →
      ((Itr lo n).stop i H ∧ Qd H) ∨ ((Itr lo n).go i H ∧ ∃ Nx : Hp → Prop, (∀ H', Nx H' → ∃ m', m' < m ∧ W (i + 1) m' H') ∧ ∀ x H', (Itr lo n).yld i H x H' → g x (wipe σ vs) H' fun σ2 H2 => wipe σ2 vs = wipe σ vs ∧ tt σ2 H2 fun b H3 =>
        if b = true then te σ2 H3 fun y H4 => ∃ acc, H4 D = some (.lst acc) ∧ acc.length < sizeLine ∧ Nx (upd H4 D (.lst (acc ++ [y]))) else Nx H3) := by
  refine lc_range (lo := lo) (n := n) (fun i H => ∃ acc, Same H1 H ∧ H D = some (.lst acc) ∧ acc.length ≤ i ∧ P i acc H) ⟨[], same_new hD _, upd_same, Nat.le_refl _, mono _ _ _ _ (Keep.of (same_new hD _)) h0⟩ ?_ (fun H ⟨acc, e, h, hl, p⟩ => hd acc H e h hl p)
  rintro i H hi ⟨acc, e, h, hl, p⟩
  refine hs i acc H _ _ hi e h p (fun y H4 e4 p4 => ?_) (fun H4 e4 p4 => ⟨acc, e.trans e4, e4 _ _ h, by omega, p4⟩)
  refine ⟨acc, e4 _ _ h, Nat.lt_of_lt_of_le (by omega : acc.length < 100000) (by decide), acc ++ [y], fun b o hb => ?_, upd_same, by rw [List.length_append, List.length_singleton]; omega, mono _ _ _ _ Keep.refl.upd p4⟩
  rw [upd_ne (ne_of_none hb hD)]
  exact e4 _ _ (e b o hb)
end My


set_option Elab.async false
set_option linter.all false
set_option maxRecDepth 100000
set_option maxHeartbeats 2000000
/-! Exceptions of own classes as values: made, their fields read, asked by isinstance. -/
namespace My
open PySem PySem.Spec PyProof.Rows L2
/-- what stands at a: an exception of the class at C whose fields are fs -/
def ErrAt (H : Hp) (a C : Addr) (fs : List (Str × V)) : Prop := ∃ d, H a = some (exo a C (some d)) ∧ H d = some (exd d fs)
theorem ErrAt.same {H H' : Hp} {a C : Addr} {fs : List (Str × V)} (e : Same H H') (h : ErrAt H a C fs) : ErrAt H' a C fs := by
  obtain ⟨d, h1, h2⟩ := h
  exact ⟨d, e _ _ h1, e _ _ h2⟩
/-- what the written part says of an own exception class -/
structure ErrC (K : PySem.W.Frag) (C : Addr) : Prop where
  ox : OexC K C
  xf : XfC K C
  ec : ExcC K C
/-- C(e, ..) as a value, C's own __init__ keeping sp -/
def tMkV (C : Addr) (sp : Sp) (ta : TA) : TE := fun σ H Q => ta σ H fun vs H1 => vs.length ≤ 1000 ∧ ∀ a, H1 a = none → sp (.ref a :: vs) (upd H1 a (exo a C none)) (fun v H2 => v = .non ∧ Q (.ref a) H2) (fun _ _ _ => False)
section
variable {X : Cx} {e : Expr} {es : List Expr} {te : TE} {ta : TA} {p pos : Pos}
theorem run_err {pins : List (Addr × Obj)} {σ : L2.St} {H1 : Hp} {s1 : Shared} {Q : VK} {us : List Value} {vs : List V} {C fI : Addr} {k : Nat} {fd : FuncData} {ps : List Str} {sp : Sp} (T : OexC X.K C) (iC : PySem.W.findIn X.K (.ref C) "__init__" = some (some (.ref fI)))
    (tI : PySem.W.typeIn X.K (.ref fI) = some (.type "function")) (F1 : FnOk X.prog X.w X.K X.mg X.base CX0 k fI fd ps sp) (hr : Room (k + 1) X.A) (hb : Binds X.K fd ps []) (I1 : Inv X pins σ H1 s1) (r1 : Vals vs us) (hz : vs.length ≤ 1000)
    (q1 : ∀ a, H1 a = none → sp (.ref a :: vs) (upd H1 a (exo a C none)) (fun v H2 => v = .non ∧ Q (.ref a) H2) (fun _ _ _ => False)) :
    wpAny (model X.prog X.w) X.A (call (.ref C) us) (EP X pins σ Q) X.xe s1 := by
  obtain ⟨nm, q, N, bs, bm, sn, sub, ab, col, dd, k0, k1, k2, k3, k5, hC, hbm⟩ := T.cls
  obtain ⟨hp, g, dr, tk, os⟩ := s1
  have up1 : hp.objs.size ≤ hp.objs.size + 1 := Nat.le_succ _
  have free1 : H1 (hp.objs.size + 1) = none := I1.hok.fresh up1
  have want := q1 _ free1
  have stay : ∀ b o, hp.get? b = some o → ((hp.push (PySem.W.kdv_tup us)).push (PySem.HandSPX.excO C hp.objs.size)).get? b = some o := fun b o e => Heap.get?_push_of_some _ (Heap.get?_push_of_some _ e)
  have there : ((hp.push (PySem.W.kdv_tup us)).push (PySem.HandSPX.excO C hp.objs.size)).get? (hp.objs.size + 1) = some (PySem.HandSPX.excO C hp.objs.size) := by heap_get
  have I2 : Inv X pins σ (upd H1 (hp.objs.size + 1) (exo (hp.objs.size + 1) C none)) ⟨(hp.push (PySem.W.kdv_tup us)).push (PySem.HandSPX.excO C hp.objs.size), g, dr, tk, os⟩ := I1.laid (t' := tk) stay up1 (exo_ok there)
  have r2 : Vals (V.ref (hp.objs.size + 1) :: vs) (Value.ref (hp.objs.size + 1) :: us) := .cons rfl r1
  have many : (Value.ref (hp.objs.size + 1) :: us).length = ps.length := by rw [← r2.length, F1.len _ _ _ _ want]
  have few : us.length ≤ sizeLine := by
    rw [← Paired.length r1]
    exact Nat.le_trans hz (by decide)
  have hb2 := hb _ (Value.ref (hp.objs.size + 1) :: us) I2.kIn (by rw [List.append_nil]; exact many)
  rw [List.append_nil] at hb2
  refine wpAny_call (PySem.HandSPX.call_own F.excBase_ValueError (fun Y => PySem.HandSPX.refsVE_contains Y bm hbm) (I1.kIn _ _ hC) (PySem.W.looks_findIn I1.kIn iC) (fun self => PySem.W.bind_fn I1.kIn self tI) few ?_)
  refine codeAny_mono (F1.run _ X.stack _ _ ⟨Value.ref (hp.objs.size + 1) :: us, []⟩ _ _ _ (fun _ _ _ => False) (hr.make C us []) (I2.env0.make C us []) hb2 r2 want) fun r s' back => ?_
  cases r with
  | error er => exact False.elim back
  | ok fl =>
    cases fl with
    | ret u =>
      obtain ⟨v, H2, J, rv, ev, q3⟩ := I2.after back
      subst ev
      exact ⟨rv, V.ref (hp.objs.size + 1), H2, J, rfl, q3⟩
    | next => exact False.elim back
    | brk => exact False.elim back
    | cont => exact False.elim back
theorem pe_err {x : Str} {C fI : Addr} {k j : Nat} {fd : FuncData} {ps : List Str} {sp : Sp} (T : OexC X.K C) (iC : PySem.W.findIn X.K (.ref C) "__init__" = some (some (.ref fI))) (tI : PySem.W.typeIn X.K (.ref fI) = some (.type "function"))
    (F1 : FnOk X.prog X.w X.K X.mg X.base CX0 k fI fd ps sp) (hr : Room j X.A) (hj : k + 1 ≤ j) (hb : Binds X.K fd ps []) (hg : Gl X x) (hm : X.mg x = some (.ref C)) (ha : PA X (e :: es) ta)
    (hdb : (x == ("__debug__" : Str)) = false := by decide) (he : starEach (e :: es) X.env = (false, eval e X.env) :: starEach es X.env := by rfl) (hpl : (backTo pos (starEach es X.env)).any (·.1) = false := by rfl) :
    PE X (.Call (.Name x p) (e :: es) [] pos) (tMkV C sp ta) := by
  refine ⟨fun pins s σ H Q I h => ?_⟩
  refine wpAny_Call_Name_kw (ld_glob I hg hm ?_ hdb)
  refine PySem.W.callWith_K (h₀ := X.base) I.ok.mod.kin T.kC (thn (ha.run pos pins s σ H _ I h) fun us s1 ⟨vs, H1, I1, r1, hz, q1⟩ => ⟨I1.kIn, ?_⟩) he hpl
  exact run_err T iC tI F1 (hr.mono hj) hb I1 r1 hz q1
/-- e.n of such a value -/
def tErrF (K : PySem.W.Frag) (n : Str) (te : TE) : TE := fun σ H Q => te σ H fun x H1 => ∃ (a C : Addr) (fs : List (Str × V)) (v : V), x = .ref a ∧ ErrAt H1 a C fs ∧ XfC K C ∧ PySem.W.findIn K (.ref C) n = some none ∧ fs.lookup n = some v ∧ Q v H1
theorem errAt_inst {pins : List (Addr × Obj)} {σ : L2.St} {H : Hp} {s : Shared} {a C : Addr} {fs : List (Str × V)} (I : Inv X pins σ H s) (h : ErrAt H a C fs) :
    ∃ (oe od : Obj) (mA : Str → Option Value), PySem.W.InstAt s.heap a oe C (some od) ∧ (∀ n, PySem.W.lookIn n od = some (mA n)) ∧ ∀ f, RelO (fs.lookup f) (mA f) := by
  obtain ⟨d, ha, hd⟩ := h
  obtain ⟨t1, ho⟩ := exo_at I.hok ha
  obtain ⟨mA, hns, rel⟩ := exd_at I.hok hd
  obtain ⟨od, hod, hl⟩ := lookIn_ns hns
  exact ⟨_, od, mA, ⟨ho, rfl, rfl, hod⟩, hl, rel⟩
theorem pe_errF {n : Str} (he : PE X e te) (hb : attributeBase e n X.env (eval e X.env) = eval e X.env := by rfl) : PE X (.Attribute e n pos) (tErrF X.K n te) := by
  refine ⟨fun pins s σ H Q I h => ?_⟩
  refine attr_of hb (thn (he.run pins s σ H _ I h) fun u s1 ⟨x, H1, I1, rx, a, C, fs, v, ex, ea, T, hno, l, q⟩ => ?_)
  subst ex
  obtain rfl : u = Value.ref a := rx
  obtain ⟨oe, od, mA, J, hl, rel⟩ := errAt_inst I1 ea
  obtain ⟨u, hu, ru⟩ := RelO.some_of (v := v) (o := mA n) (by rw [← l]; exact rel n)
  exact HandSPX.exc_get I1.kIn J T.ga T.gg T.exC (PySem.W.findObj_own T.hdC hno rfl (by rw [hl, hu])) (handed_of ru) ⟨v, H1, I1.tok _, ru, q⟩
/-- an exception of the class at C: with fields, or of a class without an __init__ of its own -/
def ErrO (H : Hp) (a C : Addr) : Prop := (∃ fs, ErrAt H a C fs) ∨ H a = some (ExO (.ref C) a)
theorem ErrO.same {H H' : Hp} {a C : Addr} (e : Same H H') (h : ErrO H a C) : ErrO H' a C := by
  rcases h with ⟨fs, h⟩ | h
  · exact .inl ⟨fs, h.same e⟩
  · exact .inr (e _ _ h)
theorem errO_inst {pins : List (Addr × Obj)} {σ : L2.St} {H : Hp} {s : Shared} {a C : Addr} (I : Inv X pins σ H s) (h : ErrO H a C) : ∃ (oe : Obj) (od : Option Obj), PySem.W.InstAt s.heap a oe C od := by
  rcases h with ⟨fs, h⟩ | h
  · obtain ⟨oe, od, _, J, _⟩ := errAt_inst I h
    exact ⟨oe, some od, J⟩
  · obtain ⟨⟨oe, vs, ho, hz, hd, _⟩, _, _⟩ := I.hok a _ h
    obtain ⟨oc, odc, oda, osl⟩ := oe
    obtain ⟨h1, h2⟩ := hz
    dsimp only at h1 h2 hd
    subst h1 h2 hd
    exact ⟨_, none, ho, rfl, rfl, trivial⟩
/-- isinstance(e, c), isinstance(e, (c, ..)) -/
def rIsV (K : PySem.W.Frag) : List V → Hp → VK → Prop := fun xs H Q => ∃ (a C : Addr) (c : V) (cv : Value) (b : Bool), xs = [.ref a, c] ∧ ErrO H a C ∧ ExcC K C ∧ ClsV c cv ∧ PySem.W.kitOne K (.ref C) cv = some b ∧ Q (.bl b) H
def rIsVT (K : PySem.W.Frag) : List V → Hp → VK → Prop := fun xs H Q => ∃ (a C tp : Addr) (cs : List V) (us : List Value) (b : Bool), xs = [.ref a, .ref tp] ∧ ErrO H a C ∧ ExcC K C ∧ H tp = some (.tup cs) ∧ Paired ClsV cs us ∧ PySem.W.kitAny K (.ref C) us = some b ∧ Q (.bl b) H
theorem err_kit {K : PySem.W.Frag} {a C : Addr} {od : Option Obj} {oe : Obj} (T : ExcC K C) : PySem.W.KitX K (.ref a) (.ref C) (fun h => PySem.W.InstAt h a oe C od) := by
  obtain ⟨cd, hc, _⟩ := PySem.W.any_some T.hd
  exact PySem.W.kitx_exc (by rw [hc]; rfl) T.hg T.hk T.hs T.ha T.hn T.ht T.hm
theorem call_isV : CallR X (.builtin "isinstance") (rIsV X.K) := by
  intro pins s σ H xs us Q I r h
  obtain ⟨a, C, c, cv, b, rfl, ea, T, hc, e, q⟩ := h
  obtain ⟨u1, u2, rfl, r1, r2⟩ := vals2 r
  cases r1
  have ec := hc.eq r2
  subst ec
  obtain ⟨oe, od, J⟩ := errO_inst I ea
  exact PySem.W.kia_one (err_kit T) I.kIn J e (fun z => nomatch z) fun tk => ⟨.bl b, H, I.tok tk, rfl, q⟩
theorem call_isVT : CallR X (.builtin "isinstance") (rIsVT X.K) := by
  intro pins s σ H xs us Q I r h
  obtain ⟨a, C, tp, cs, ws, b, rfl, ea, T, hT, k, e, q⟩ := h
  obtain ⟨u1, u2, rfl, r1, r2⟩ := vals2 r
  cases r1
  cases (show u2 = Value.ref tp from r2)
  obtain ⟨oe, od, J⟩ := errO_inst I ea
  obtain ⟨_, its, rv, o, h1, h2, n, h3⟩ := (show ObjOk X.prog X.w H s.heap tp (.tup cs) from I.hok tp _ hT)
  have e3 := ClsV.all k rv
  subst e3
  obtain ⟨oc, od', dt, sl⟩ := o
  simp only at h2 h3
  subst h2 h3
  exact PySem.W.kia_tup (err_kit T) I.kIn J h1 e (fun z => nomatch z) fun tk => ⟨.bl b, H, I.tok tk, rfl, q⟩
/-- C() of a class without an __init__ of its own -/
theorem pe_err0 {x : Str} {C : Addr} {bmB : List Value} {B newId initId : String} (F : ExcBaseFacts B newId initId bmB) (q : PySem.W.excIn X.K C bmB newId = true) (gC : X.mg x = some (.ref C)) (kC : PySem.W.keepIn X.K (.ref C) = true) (hg : Gl X x)
    (hdb : (x == ("__debug__" : Str)) = false := by decide) : PE X (.Call (.Name x p) [] [] pos) (fun _ H Q => ∀ a, H a = none → Q (.ref a) (upd H a (ExO (.ref C) a))) := by
  refine ⟨fun pins s σ H Q I h => ?_⟩
  refine wpAny_Call_Name_kw (ld_glob I hg gC ?_ hdb)
  refine PySem.W.callWith_K0 I.kIn kC ?_
  obtain ⟨bm, N, nm, qn, bs, hdct, sn, sub, ab, col, dd, k0, k1, k2, k3, k5, mN, hC, hN, hni, T⟩ := exc_obj I.kIn q
  refine wpAny_call_exc_subT F T hC hN hni (fun h' a hm => ?_) (by show 0 ≤ sizeLine; exact Nat.zero_le _)
  have free : H a = none := I.hok.gone hm.new
  obtain ⟨t, ht, _, _⟩ := hm.there
  exact ⟨.ref a, upd H a (ExO (.ref C) a), I.laidN hm.keeps hm.new free (exO_ok ht ⟨rfl, rfl⟩ rfl rfl rfl (show 4 < 6 by decide)), rfl, h a free⟩
/-- a != b of two lists of the very same things: False -/
def Selfy (v : V) : Prop := flatB v = true ∨ ∃ r, v = .ref r
def rNeS (K : PySem.W.Frag) : R2 := fun x y H Q => ∃ (a b : Addr) (vs : List V), x = .ref a ∧ y = .ref b ∧ SqL K H a vs ∧ SqL K H b vs ∧ (∀ v ∈ vs, Selfy v) ∧ Q (.bl false) H
theorem selfy_eq {A : Around} {s : Shared} {v : V} {u u' : Value} (h : Selfy v) (r : RelV v u) (r' : RelV v u') : SeqAt.EqAt A s u u' true := by
  rcases h with h | ⟨a, rfl⟩
  · exact eqAt_same r r' h
  · cases r
    cases r'
    exact SeqAt.EqAt.same _
theorem op_neS (hu : X.A.units + 64 < cLine) : OpR X (compareOp .NotEq) (rNeS X.K) := by
  intro pins s σ H x y v u Q I rx ry h
  obtain ⟨a, b, vs, rfl, rfl, ha, hb, hs, q⟩ := h
  cases rx
  cases ry
  obtain ⟨us, r1, p1, _⟩ := I.list ha
  obtain ⟨ws, r2, p2, _⟩ := I.list hb
  have size : us.toArray.size = ws.toArray.size := by
    rw [List.size_toArray, List.size_toArray, ← r1.length, ← r2.length]
  have each : ∀ j (j1 : j < us.toArray.size) (j2 : j < ws.toArray.size), SeqAt.EqAt X.A.in1 s us.toArray[j] ws.toArray[j] ((fun _ => true) j) := fun j j1 j2 => by
    have j0 : j < vs.length := by
      rw [r1.length]
      exact j1
    obtain ⟨u1, e1, k1⟩ := r1.get (i := j) (x := vs[j]) (by simp [j0])
    obtain ⟨u2, e2, k2⟩ := r2.get (i := j) (x := vs[j]) (by simp [j0])
    have f1 : us.toArray[j] = u1 := by
      have z := (List.getElem?_eq_some_iff.mp e1).2
      simpa using z
    have f2 : ws.toArray[j] = u2 := by
      have z := (List.getElem?_eq_some_iff.mp e2).2
      simpa using z
    rw [f1, f2]
    exact selfy_eq (hs _ (List.getElem_mem j0)) k1 k2
  have R := SeqAt.RcNeAt.lists (A := X.A) p1.isList p2.isList size (by omega) each
  have all1 : ((List.range us.toArray.size).all fun _ => true) = true := List.all_eq_true.mpr fun _ _ => rfl
  rw [all1] at R
  exact R X.prog X.w X.xe _ ⟨.bl false, H, I, rfl, q⟩
end
end My


set_option Elab.async false
set_option linter.all false
set_option maxRecDepth 100000
set_option maxHeartbeats 4000000
namespace My
open PySem PySem.HandSPX Builtin Builtin.ObjectAttr
section
variable {M : Model} {prog : Program} {w : World} {A : Around} {E : Value → Shared → Prop} {h : Heap} {g : Array GenState} {d : Drawn} {t : Nat} {os : OsState} {nm q : Str} {C N : Addr} {bs bm bmB : List Value} {hdct : Bool} {sn : List Str} {sub : List Value} {ab : Bool} {col : Option Bool} {dd : Option Addr}
  {k0 k1 k2 k3 k5 : Option Value} {B newId initId : String} {kw : List (Str × Value)}
theorem kw_check (F : ExcBaseFacts B newId initId bmB) (hT : ∀ X : String, bm.contains (.type X) = bmB.contains (.type X)) {Q : Unit → Shared → Prop}
    (hC : h.get? C = some (excClassObj nm q C N bs bm hdct sn sub ab col dd k0 k1 k2 k3 k5 newId)) (want : Q () ⟨h, g, d, t, os⟩) : wpAny M A (checkBuiltinCall newId ⟨[.ref C], kw⟩) Q E ⟨h, g, d, t, os⟩ := by
  have below : (Value.ref C :: bm).contains (.type B) = true := by
    rw [List.contains_cons, hT, F.hasB, Bool.or_true]
  have star := F.noStar
  simp only [checkBuiltinCall, F.newKind, F.newSplit, F.newRow]
  repeat (first
    | refine wpAny_loadPart_at hC ?_
    | (refine wpAny_isSubtype_exc hC ?_
       rw [below])
    | refine wpAny_staticBase_exc hC ?_
    | refine wpAny_madeBy_exc hC ?_
    | simp only [bne_self_eq_false, Bool.false_eq_true, if_false]
    | wp_step)
  exact want
theorem kw_new (F : ExcBaseFacts B newId initId bmB) (hT : ∀ X : String, bm.contains (.type X) = bmB.contains (.type X)) {R : Result → Shared → Prop} (hC : h.get? C = some (excClassObj nm q C N bs bm hdct sn sub ab col dd k0 k1 k2 k3 k5 newId))
    (want : R (.ok (.ret (.ref (h.objs.size + 1)))) ⟨(h.push (W.kdv_tup [])).push (excO C h.objs.size), g, d, t, os⟩) : codeAny (model prog w) A (.builtin newId ⟨[.ref C], kw⟩) R ⟨h, g, d, t, os⟩ := by
  have ends := F.ends
  have inB : (Value.ref C :: bm).contains (.type B) = true := by
    rw [List.contains_cons, hT, F.hasB, Bool.or_true]
  have notA : (Value.ref C :: bm).contains (.type "AttributeError") = false := by
    rw [List.contains_cons, hT, F.noAttr] <;> rfl
  have notN : (Value.ref C :: bm).contains (.type "NameError") = false := by
    rw [List.contains_cons, hT, F.noName] <;> rfl
  refine codeAny_builtinAt F.entry ?_
  unfold Builtin.«BaseException.__new__»
  refine wpAt_bind ?_
  show wpAt _ _ _ (stack >>= _) _ _ _
  refine wpAt_bind (wpAt_stack fun top under => wpAt_of_wpAny ?_)
  wp_walk
  refine wpAt_of_wpAny ?_
  rw [F.owner]
  repeat (first
    | with_reducible refine wpAny_madeHere_exc F.canon hC ?_
    | with_reducible refine wpAny_loadPart_at hC ?_
    | (with_reducible refine wpAny_isSubtype_exc hC ?_
       first | rw [inB] | rw [notA] | rw [notN])
    | wp_step)
  show R _ _
  rw [Heap.size_push]
  exact want
theorem kw_type_call (F : ExcBaseFacts B newId initId bmB) (hT : ∀ X : String, bm.contains (.type X) = bmB.contains (.type X)) {fI : Addr} {Q : Fin → Shared → Prop} (hC : h.get? C = some (excClassObj nm q C N bs bm hdct sn sub ab col dd k0 k1 k2 k3 k5 newId))
    (looks : W.Looks (model prog w) h (typeLookup (.ref C) "__init__") (some (.ref fI))) (bind : ∀ self, W.Looks (model prog w) h (bindSpecial (.ref fI) self) (.ref fI, [self]))
    (want : codeAny (model prog w) A (.call (.ref fI) ⟨[.ref (h.objs.size + 1)], kw⟩) (fun r s' => match r with | .ok (.ret v) => v = .none ∧ Q (.done (.ret (.ref (h.objs.size + 1)))) s' | .ok _ => False | .error e => E e s')
      ⟨(h.push (W.kdv_tup [])).push (excO C h.objs.size), g, d, t, os⟩) : wpAny (model prog w) A (Builtin.«type.__call__» ⟨[.ref C], kw⟩) Q E ⟨h, g, d, t, os⟩ := by
  repeat (first
    | with_reducible refine wpAny_loadPart_at hC ?_
    | with_reducible refine wpAny_madeBy_exc hC ?_
    | wp_step)
  refine codeAny_call_builtin_code (Code.quiet_builtin _ F.quiet) (kw_check F hT hC ?_)
  refine kw_new F hT hC ?_
  show wpAny _ _ _ _ _ _
  have stay : ∀ b o, h.get? b = some o → ((h.push (W.kdv_tup [])).push (excO C h.objs.size)).get? b = some o := fun b o e => Heap.get?_push_of_some _ (Heap.get?_push_of_some _ e)
  have cls1 := stay _ _ hC
  have made : ((h.push (W.kdv_tup [])).push (excO C h.objs.size)).get? (h.objs.size + 1) = some (excO C h.objs.size) := by heap_get
  have self0 : (Value.ref C :: bm).contains (.ref C) = true := by simp
  have looks1 := looks.keeps stay
  have bind1 := (bind (.ref (h.objs.size + 1))).keeps stay
  unfold isInstance
  repeat (first
    | with_reducible refine wpAny_loadPart_at made ?_
    | (with_reducible refine wpAny_isSubtype_exc cls1 ?_
       rw [self0])
    | wp_step)
  show wpAny _ _ (typeLookup (.ref C) _) _ _ _
  refine looks1.at ?_
  refine wpAny_holding (wpAny_bind (bind1.at ?_))
  refine wpAny_bind (wpAny_call (codeAny_mono want fun r s' z => ?_))
  cases r with
  | error e => exact z
  | ok fl =>
    cases fl with
    | ret v =>
      obtain ⟨ev, z⟩ := z
      subst ev
      first
        | exact wpAny_pure (wpAny_pure z)
        | (wp_walk
           exact z)
    | next => exact z.elim
    | brk => exact z.elim
    | cont => exact z.elim
theorem kw_call (F : ExcBaseFacts B newId initId bmB) (hT : ∀ X : String, bm.contains (.type X) = bmB.contains (.type X)) {fI : Addr} {R : Result → Shared → Prop} (hC : h.get? C = some (excClassObj nm q C N bs bm hdct sn sub ab col dd k0 k1 k2 k3 k5 newId))
    (looks : W.Looks (model prog w) h (typeLookup (.ref C) "__init__") (some (.ref fI))) (bind : ∀ self, W.Looks (model prog w) h (bindSpecial (.ref fI) self) (.ref fI, [self]))
    (want : codeAny (model prog w) (A.under (.builtin "type.__call__" ⟨[.ref C], kw⟩)) (.call (.ref fI) ⟨[.ref (h.objs.size + 1)], kw⟩) (W.InitBack (h.objs.size + 1) R) ⟨(h.push (W.kdv_tup [])).push (excO C h.objs.size), g, d, t, os⟩) :
    codeAny (model prog w) A (.call (.ref C) ⟨[], kw⟩) R ⟨h, g, d, t, os⟩ := by
  have look := tc_lookup
  have bound := tc_bind (.ref C)
  have meta0 : (⟨h, g, d, t, os⟩ : Shared).TypeIs (.ref C) "type" := ⟨_, hC, rfl⟩
  refine codeAny_of_tree ?_
  show wpAny _ _ (callAny (.ref C) _) _ _ _
  repeat (any_goals (first
    | assumption
    | with_reducible refine wpAny_loadPart_at hC ?_
    | wp_step))
  refine ⟨rfl, ?_⟩
  refine codeAny_call_builtin_at (Code.quiet_builtin _ (by decide +kernel)) entry_typeCall (wpAny_check_type_call_sub hC (kw_type_call F hT hC looks bind ?_))
  refine codeAny_mono want fun r s' z => ?_
  cases r with
  | error e => exact z
  | ok fl => cases fl <;> exact z
end
end My
namespace My
open PySem PySem.Spec PyProof.Rows L2
/-- C(k = v, ..) as a value, C's own __init__ keeping sp -/
def tMkVK (C : Addr) (m : Nat) (sp : Sp) (gV : List V → List V → List V) (tk : TA) : TE := fun σ H Q => tk σ H fun zs H2 => zs.length = m ∧ zs.length ≤ 1000 ∧ ∀ a, H2 a = none → sp (gV [.ref a] zs) (upd H2 a (exo a C none)) (fun v H3 => v = .non ∧ Q (.ref a) H3) (fun _ _ _ => False)
section
variable {X : Cx} {kws : List Keyword} {tk : TA} {p pos : Pos} {ks : List Str} {g : List Value → List Value → List Value} {gV : List V → List V → List V}
theorem run_errK {pins : List (Addr × Obj)} {σ : L2.St} {H2 : Hp} {s2 : Shared} {Q : VK} {ws : List Value} {zs : List V} {C fI : Addr} {k : Nat} {fd : FuncData} {ps : List Str} {sp : Sp} (T : OexC X.K C) (iC : PySem.W.findIn X.K (.ref C) "__init__" = some (some (.ref fI))) (tI : PySem.W.typeIn X.K (.ref fI) = some (.type "function"))
    (F1 : FnOk X.prog X.w X.K X.mg X.base CX0 k fI fd ps sp) (hr : Room (k + 1) X.A) (hb : KBn X.K fd ps 1 ks g gV) (I2 : Inv X pins σ H2 s2) (rz : Vals zs ws) (l2 : zs.length = ks.length)
    (q2 : ∀ a, H2 a = none → sp (gV [.ref a] zs) (upd H2 a (exo a C none)) (fun v H3 => v = .non ∧ Q (.ref a) H3) (fun _ _ _ => False)) : wpAny (model X.prog X.w) X.A (call (.ref C) [] (ks.zip ws)) (EP X pins σ Q) X.xe s2 := by
  obtain ⟨nm, q, N, bs, bm, sn, sub, ab, col, dd, k0, k1, k2, k3, k5, hC, hbm⟩ := T.cls
  obtain ⟨hp, g0, dr, t, os⟩ := s2
  have up1 : hp.objs.size ≤ hp.objs.size + 1 := Nat.le_succ _
  have free1 : H2 (hp.objs.size + 1) = none := I2.hok.fresh up1
  have want := q2 _ free1
  have stay : ∀ b o, hp.get? b = some o → ((hp.push (PySem.W.kdv_tup [])).push (PySem.HandSPX.excO C hp.objs.size)).get? b = some o := fun b o e => Heap.get?_push_of_some _ (Heap.get?_push_of_some _ e)
  have there : ((hp.push (PySem.W.kdv_tup [])).push (PySem.HandSPX.excO C hp.objs.size)).get? (hp.objs.size + 1) = some (PySem.HandSPX.excO C hp.objs.size) := by heap_get
  have J : Inv X pins σ (upd H2 (hp.objs.size + 1) (exo (hp.objs.size + 1) C none)) ⟨(hp.push (PySem.W.kdv_tup [])).push (PySem.HandSPX.excO C hp.objs.size), g0, dr, t, os⟩ := I2.laid (t' := t) stay up1 (exo_ok there)
  have r1 : Vals [V.ref (hp.objs.size + 1)] [Value.ref (hp.objs.size + 1)] := .cons rfl .nil
  have r2 := hb.rel r1 rz
  refine wpAny_call (kw_call F.excBase_ValueError (fun Y => PySem.HandSPX.refsVE_contains Y bm hbm) (I2.kIn _ _ hC) (PySem.W.looks_findIn I2.kIn iC) (fun self => PySem.W.bind_fn I2.kIn self tI) ?_)
  refine codeAny_mono (F1.run _ X.stack _ _ ⟨[Value.ref (hp.objs.size + 1)], ks.zip ws⟩ _ _ _ (fun _ _ _ => False) (hr.make C [] (ks.zip ws)) (J.env0.make C [] (ks.zip ws)) (hb.to _ [Value.ref (hp.objs.size + 1)] ws J.kIn rfl (rz.length.symm.trans l2)) r2 want) fun r s' back => ?_
  cases r with
  | error er => exact False.elim back
  | ok fl =>
    cases fl with
    | ret u =>
      obtain ⟨v, H3, J3, rv, ev, q3⟩ := J.after back
      subst ev
      exact ⟨rv, V.ref (hp.objs.size + 1), H3, J3, rfl, q3⟩
    | next => exact False.elim back
    | brk => exact False.elim back
    | cont => exact False.elim back
theorem pe_errK {x : Str} {C fI : Addr} {k j : Nat} {fd : FuncData} {ps : List Str} {sp : Sp} (T : OexC X.K C) (iC : PySem.W.findIn X.K (.ref C) "__init__" = some (some (.ref fI))) (tI : PySem.W.typeIn X.K (.ref fI) = some (.type "function"))
    (F1 : FnOk X.prog X.w X.K X.mg X.base CX0 k fI fd ps sp) (hr : Room j X.A) (hj : k + 1 ≤ j) (hb : KBn X.K fd ps 1 ks g gV) (hg : Gl X x) (hm : X.mg x = some (.ref C)) (hkw : PK X kws tk)
    (hall : (backToKw pos (keywordEach kws X.env)).all (·.1.isSome) = true := by rfl) (hks : (backToKw pos (keywordEach kws X.env)).filterMap (·.1) = ks := by rfl) (hdb : (x == ("__debug__" : Str)) = false := by decide)
    (hpl : ((backTo pos (starEach [] X.env)).any (·.1) || (backToKw pos (keywordEach kws X.env)).any (·.1.isNone)) = false := by rfl) : PE X (.Call (.Name x p) [] kws pos) (tMkVK C ks.length sp gV tk) := by
  refine ⟨fun pins s σ H Q I h => ?_⟩
  refine wpAny_Call_Name_kw (ld_glob I hg hm ?_ hdb)
  refine PySem.W.callWith_KW0 (h₀ := X.base) I.ok.mod.kin T.kC hall ?_ hpl
  refine thn (hkw.run pos pins s σ H _ I h) fun ws s2 ⟨zs, H2, I2, rz, l2, hz, q2⟩ => ⟨I2.kIn, ?_⟩
  rw [hks]
  exact run_errK T iC tI F1 (hr.mono hj) hb I2 rz l2 q2
end
end My


set_option Elab.async false
set_option linter.all false
set_option maxRecDepth 100000
set_option maxHeartbeats 2000000
/-! Own error classes: how they are made, of one field or two. -/
namespace My
open PySem PySem.Spec PyProof.Rows L2
/-- self.n = n in an __init__ of one field -/
def spInit1 (K : PySem.W.Frag) (n : Str) : Sp := fun vs H Q _ => ∃ (a C : Addr) (y : V), vs = [.ref a, y] ∧ OexC K C ∧ PySem.W.findIn K (.ref C) n = some none ∧ H a = some (exo a C none) ∧
  ∀ d, H d = none → d ≠ a → Q .non (upd (upd H d (exd d [(n, y)])) a (exo a C (some d)))
def spInit2 (K : PySem.W.Frag) (n m : Str) : Sp := fun vs H Q _ => ∃ (a C : Addr) (y z : V), vs = [.ref a, y, z] ∧ OexC K C ∧ PySem.W.findIn K (.ref C) n = some none ∧ PySem.W.findIn K (.ref C) m = some none ∧ H a = some (exo a C none) ∧
  ∀ d, H d = none → d ≠ a → Q .non (upd (upd (upd H d (exd d [(n, y)])) a (exo a C (some d))) d (exd d [(m, z), (n, y)]))
structure Mk1 (P : Program) (w : World) (K : PySem.W.Frag) (mg : Str → Option Value) (base : Heap) (k : Nat) (x : Str) (C : Addr) (n : Str) : Prop where
  ex : ∃ (fI : Addr) (fd : FuncData), PySem.W.findIn K (.ref C) "__init__" = some (some (.ref fI)) ∧ PySem.W.typeIn K (.ref fI) = some (.type "function") ∧ FnOk P w K mg base CX0 k fI fd ["self", n] (spInit1 K n) ∧ Binds K fd ["self", n] [] ∧
    KBn K fd ["self", n] 1 [n] (fun us ws => us ++ ws) (fun us ws => us ++ ws)
  er : ErrC K C
  no : PySem.W.findIn K (.ref C) n = some none
  mgC : mg x = some (.ref C)
structure Mk2 (P : Program) (w : World) (K : PySem.W.Frag) (mg : Str → Option Value) (base : Heap) (k : Nat) (x : Str) (C : Addr) (n m : Str) : Prop where
  ex : ∃ (fI : Addr) (fd : FuncData), PySem.W.findIn K (.ref C) "__init__" = some (some (.ref fI)) ∧ PySem.W.typeIn K (.ref fI) = some (.type "function") ∧ FnOk P w K mg base CX0 k fI fd ["self", n, m] (spInit2 K n m) ∧ Binds K fd ["self", n, m] [] ∧
    KBn K fd ["self", n, m] 1 [n, m] (fun us ws => us ++ ws) (fun us ws => us ++ ws) ∧ KBn K fd ["self", n, m] 1 [m, n] (fun us ws => us ++ ws.reverse) (fun us ws => us ++ ws.reverse)
  er : ErrC K C
  no : PySem.W.findIn K (.ref C) n = some none
  no2 : PySem.W.findIn K (.ref C) m = some none
  mgC : mg x = some (.ref C)
def tE1 (C : Addr) (n : Str) (ta : TA) : TE := fun σ H Q => ta σ H fun vs H1 => ∃ y, vs = [y] ∧ ∀ a H2, H1 a = none → Same H1 H2 → ErrAt H2 a C [(n, y)] → Q (.ref a) H2
def tE2 (C : Addr) (n m : Str) (ta : TA) : TE := fun σ H Q => ta σ H fun vs H1 => ∃ y z, vs = [y, z] ∧ ∀ a H2, H1 a = none → Same H1 H2 → ErrAt H2 a C [(m, z), (n, y)] → Q (.ref a) H2
theorem made1 {H1 : Hp} {a C d : Addr} {n : Str} {y : V} (ha : H1 a = none) (hd : (upd H1 a (exo a C none)) d = none) (ne : d ≠ a) : Same H1 (upd (upd (upd H1 a (exo a C none)) d (exd d [(n, y)])) a (exo a C (some d))) ∧ ErrAt (upd (upd (upd H1 a (exo a C none)) d (exd d [(n, y)])) a (exo a C (some d))) a C [(n, y)] := by
  rw [upd_ne ne] at hd
  refine ⟨fun b o h => ?_, d, upd_same, ?_⟩
  · rw [upd_ne (ne_of_none h ha), upd_ne (ne_of_none h hd), upd_ne (ne_of_none h ha)]
    exact h
  · rw [upd_ne ne, upd_same]
theorem made2 {H1 : Hp} {a C d : Addr} {n m : Str} {y z : V} (ha : H1 a = none) (hd : (upd H1 a (exo a C none)) d = none) (ne : d ≠ a) :
    Same H1 (upd (upd (upd (upd H1 a (exo a C none)) d (exd d [(n, y)])) a (exo a C (some d))) d (exd d [(m, z), (n, y)])) ∧ ErrAt (upd (upd (upd (upd H1 a (exo a C none)) d (exd d [(n, y)])) a (exo a C (some d))) d (exd d [(m, z), (n, y)])) a C [(m, z), (n, y)] := by
  rw [upd_ne ne] at hd
  refine ⟨fun b o h => ?_, d, ?_, upd_same⟩
  · rw [upd_ne (ne_of_none h hd), upd_ne (ne_of_none h ha), upd_ne (ne_of_none h hd), upd_ne (ne_of_none h ha)]
    exact h
  · rw [upd_ne (Ne.symm ne), upd_same]
section
variable {X : Cx} {e e2 : Expr} {ta tk : TA} {p pos p1 p2 : Pos} {j k : Nat} {x : Str} {C : Addr} {n m : Str}
theorem pe_e1 (M : Mk1 X.prog X.w X.K X.mg X.base k x C n) (hr : Room j X.A) (hk : k + 1 ≤ j) (hg : Gl X x) (ha : PA X [e] ta) (hdb : (x == ("__debug__" : Str)) = false := by decide)
    (he : starEach [e] X.env = (false, eval e X.env) :: starEach [] X.env := by rfl) (hpl : (backTo pos (starEach [] X.env)).any (·.1) = false := by rfl) : PE X (.Call (.Name x p) [e] [] pos) (tE1 C n ta) := by
  obtain ⟨fI, fd, iC, tI, F, b, _⟩ := M.ex
  refine ⟨fun pins s σ H Q I h => ?_⟩
  refine wpAny_Call_Name_kw (ld_glob I hg M.mgC ?_ hdb)
  refine PySem.W.callWith_K (h₀ := X.base) I.ok.mod.kin M.er.ox.kC (thn (ha.run pos pins s σ H _ I h) fun us s1 ⟨vs, H1, I1, r1, y, ev, q1⟩ => ⟨I1.kIn, ?_⟩) he hpl
  subst ev
  refine run_err M.er.ox iC tI F (hr.mono hk) b I1 r1 (by show 1 ≤ 1000; decide) fun a na => ⟨a, C, y, rfl, M.er.ox, M.no, upd_same, fun d nd ne => ?_⟩
  obtain ⟨z1, z2⟩ := made1 (n := n) (y := y) (C := C) na nd ne
  exact ⟨rfl, q1 a _ na z1 z2⟩
theorem pe_e2 (M : Mk2 X.prog X.w X.K X.mg X.base k x C n m) (hr : Room j X.A) (hk : k + 1 ≤ j) (hg : Gl X x) (ha : PA X [e, e2] ta) (hdb : (x == ("__debug__" : Str)) = false := by decide)
    (he : starEach [e, e2] X.env = (false, eval e X.env) :: starEach [e2] X.env := by rfl) (hpl : (backTo pos (starEach [e2] X.env)).any (·.1) = false := by rfl) : PE X (.Call (.Name x p) [e, e2] [] pos) (tE2 C n m ta) := by
  obtain ⟨fI, fd, iC, tI, F, b, _⟩ := M.ex
  refine ⟨fun pins s σ H Q I h => ?_⟩
  refine wpAny_Call_Name_kw (ld_glob I hg M.mgC ?_ hdb)
  refine PySem.W.callWith_K (h₀ := X.base) I.ok.mod.kin M.er.ox.kC (thn (ha.run pos pins s σ H _ I h) fun us s1 ⟨vs, H1, I1, r1, y, z, ev, q1⟩ => ⟨I1.kIn, ?_⟩) he hpl
  subst ev
  refine run_err M.er.ox iC tI F (hr.mono hk) b I1 r1 (by show 2 ≤ 1000; decide) fun a na => ⟨a, C, y, z, rfl, M.er.ox, M.no, M.no2, upd_same, fun d nd ne => ?_⟩
  obtain ⟨z1, z2⟩ := made2 (n := n) (m := m) (y := y) (z := z) (C := C) na nd ne
  exact ⟨rfl, q1 a _ na z1 z2⟩
theorem pe_e1k (M : Mk1 X.prog X.w X.K X.mg X.base k x C n) (hr : Room j X.A) (hk : k + 1 ≤ j) (hg : Gl X x) (hkw : PK X [⟨some n, e, p1⟩] tk)
    (hall : (backToKw pos (keywordEach [⟨some n, e, p1⟩] X.env)).all (·.1.isSome) = true := by rfl) (hks : (backToKw pos (keywordEach [⟨some n, e, p1⟩] X.env)).filterMap (·.1) = [n] := by rfl) (hdb : (x == ("__debug__" : Str)) = false := by decide)
    (hpl : ((backTo pos (starEach [] X.env)).any (·.1) || (backToKw pos (keywordEach [⟨some n, e, p1⟩] X.env)).any (·.1.isNone)) = false := by rfl) : PE X (.Call (.Name x p) [] [⟨some n, e, p1⟩] pos) (tE1 C n tk) := by
  obtain ⟨fI, fd, iC, tI, F, _, kb⟩ := M.ex
  refine ⟨fun pins s σ H Q I h => ?_⟩
  refine wpAny_Call_Name_kw (ld_glob I hg M.mgC ?_ hdb)
  refine PySem.W.callWith_KW0 (h₀ := X.base) I.ok.mod.kin M.er.ox.kC hall ?_ hpl
  refine thn (hkw.run pos pins s σ H _ I h) fun ws s2 ⟨zs, H2, I2, rz, y, ev, q1⟩ => ⟨I2.kIn, ?_⟩
  rw [hks]
  subst ev
  refine run_errK M.er.ox iC tI F (hr.mono hk) kb I2 rz rfl fun a na => ⟨a, C, y, rfl, M.er.ox, M.no, upd_same, fun d nd ne => ?_⟩
  obtain ⟨z1, z2⟩ := made1 (n := n) (y := y) (C := C) na nd ne
  exact ⟨rfl, q1 a _ na z1 z2⟩
/-- the keywords in the other order -/
def tE2r (C : Addr) (n m : Str) (ta : TA) : TE := fun σ H Q => ta σ H fun vs H1 => ∃ y z, vs = [z, y] ∧ ∀ a H2, H1 a = none → Same H1 H2 → ErrAt H2 a C [(m, z), (n, y)] → Q (.ref a) H2
theorem pe_e2r (M : Mk2 X.prog X.w X.K X.mg X.base k x C n m) (hr : Room j X.A) (hk : k + 1 ≤ j) (hg : Gl X x) (hkw : PK X [⟨some m, e, p1⟩, ⟨some n, e2, p2⟩] tk)
    (hall : (backToKw pos (keywordEach [⟨some m, e, p1⟩, ⟨some n, e2, p2⟩] X.env)).all (·.1.isSome) = true := by rfl) (hks : (backToKw pos (keywordEach [⟨some m, e, p1⟩, ⟨some n, e2, p2⟩] X.env)).filterMap (·.1) = [m, n] := by rfl) (hdb : (x == ("__debug__" : Str)) = false := by decide)
    (hpl : ((backTo pos (starEach [] X.env)).any (·.1) || (backToKw pos (keywordEach [⟨some m, e, p1⟩, ⟨some n, e2, p2⟩] X.env)).any (·.1.isNone)) = false := by rfl) : PE X (.Call (.Name x p) [] [⟨some m, e, p1⟩, ⟨some n, e2, p2⟩] pos) (tE2r C n m tk) := by
  obtain ⟨fI, fd, iC, tI, F, _, _, kb⟩ := M.ex
  refine ⟨fun pins s σ H Q I h => ?_⟩
  refine wpAny_Call_Name_kw (ld_glob I hg M.mgC ?_ hdb)
  refine PySem.W.callWith_KW0 (h₀ := X.base) I.ok.mod.kin M.er.ox.kC hall ?_ hpl
  refine thn (hkw.run pos pins s σ H _ I h) fun ws s2 ⟨zs, H2, I2, rz, y, z, ev, q1⟩ => ⟨I2.kIn, ?_⟩
  rw [hks]
  subst ev
  refine run_errK M.er.ox iC tI F (hr.mono hk) kb I2 rz rfl fun a na => ⟨a, C, y, z, rfl, M.er.ox, M.no, M.no2, upd_same, fun d nd ne => ?_⟩
  obtain ⟨z1, z2⟩ := made2 (n := n) (m := m) (y := y) (z := z) (C := C) na nd ne
  exact ⟨rfl, q1 a _ na z1 z2⟩
end
end My


set_option Elab.async false
set_option linter.all false
set_option maxRecDepth 100000
set_option maxHeartbeats 2000000
namespace My
open PySem PySem.Spec PyProof.Rows L2
theorem tyx_L {K : PySem.W.Frag} {H : Hp} {a : Addr} {xs : List V} (h : SqL K H a xs) : TyX K H (.ref a) (.type "list") := by
  rcases h with (h | ⟨o, h⟩) | ⟨o, its, n, h1, h2, _⟩
  · exact .base (.lst h)
  · exact .base (.frz h)
  · exact .kList h1 h2
theorem tyx_T {K : PySem.W.Frag} {H : Hp} {a : Addr} {xs : List V} (h : SqT K H a xs) : TyX K H (.ref a) (.type "tuple") := by
  rcases h with (h | ⟨o, h⟩) | ⟨o, its, n, h1, h2, _⟩
  · exact .base (.tup h)
  · exact .fTuple h
  · exact .kTuple h1 h2
theorem TyX.same {K : PySem.W.Frag} {H H' : Hp} {v : V} {t : Value} (e : Same H H') (h : TyX K H v t) : TyX K H' v t := by
  cases h with
  | base b =>
    cases b with
    | non => exact .base .non
    | bl x => exact .base (.bl x)
    | int i => exact .base (.int i)
    | str x => exact .base (.str x)
    | flt x => exact .base (.flt x)
    | lst h => exact .base (.lst (e _ _ h))
    | frz h => exact .base (.frz (e _ _ h))
    | tup h => exact .base (.tup (e _ _ h))
    | dK h => exact .base (.dK (e _ _ h))
    | dT h => exact .base (.dT (e _ _ h))
    | ins h cl ha hn htk hm => exact .base (.ins (e _ _ h) cl ha hn htk hm)
  | byt b => exact .byt b
  | set h => exact .set (e _ _ h)
  | kList h c => exact .kList h c
  | kTuple h c => exact .kTuple h c
  | kDict h c => exact .kDict h c
  | fTuple h => exact .fTuple (e _ _ h)
  | fDict h => exact .fDict (e _ _ h)
/-- nested lists and tuples over other things, below this depth -/
def Nest (K : PySem.W.Frag) (H : Hp) : Nat → V → Prop
  | 0 => fun _ => False
  | n + 1 => fun v => (Selfy v ∧ ∃ t, TyX K H v t ∧ PySem.W.kitAny K t [.type "list", .type "tuple"] = some false) ∨
      ∃ a xs, v = .ref a ∧ (SqL K H a xs ∨ SqT K H a xs) ∧ xs.length ≤ 1000 ∧ ∀ x ∈ xs, Nest K H n x
theorem Nest.same {K : PySem.W.Frag} {H H' : Hp} (e : Same H H') : ∀ (n : Nat) {v : V}, Nest K H n v → Nest K H' n v
  | 0, _, h => h
  | n + 1, v, h => by
    rcases h with ⟨s, t, ht, k⟩ | ⟨a, xs, rfl, h, hl, hx⟩
    · exact .inl ⟨s, t, TyX.same e ht, k⟩
    · exact .inr ⟨a, xs, rfl, h.elim (fun h => .inl (e.seq h)) (fun h => .inr (same_seqT e h)), hl, fun x m => Nest.same e n (hx x m)⟩
/-- what fixed gives back, seen from above -/
def Fixed1 (K : PySem.W.Frag) (H H' : Hp) (v v' : V) : Prop := (∃ a xs q ys, v = .ref a ∧ (SqL K H a xs ∨ SqT K H a xs) ∧ v' = .ref q ∧ H' q = some (.tup ys) ∧ ys.length = xs.length ∧ ∀ y ∈ ys, Selfy y) ∨ (v' = v ∧ Selfy v)
theorem Fixed1.selfy {K : PySem.W.Frag} {H H' : Hp} {v v' : V} (h : Fixed1 K H H' v v') : Selfy v' := by
  rcases h with ⟨_, _, q, _, _, _, rfl, _⟩ | ⟨rfl, h⟩
  · exact .inr ⟨q, rfl⟩
  · exact h
def spFixed (K : PySem.W.Frag) (n : Nat) : Sp := fun vs H Q _ => ∃ v, vs = [v] ∧ Nest K H n v ∧ ∀ v' H', Same H H' → Fixed1 K H H' v v' → Q v' H'
theorem kit_lt {K : PySem.W.Frag} : PySem.W.kitAny K (.type "list") [.type "list", .type "tuple"] = some true := kitAny_cons (b := true) (kit_ty (by decide +kernel)) (fun z => nomatch z) (fun _ => rfl)
theorem kit_tt {K : PySem.W.Frag} : PySem.W.kitAny K (.type "tuple") [.type "list", .type "tuple"] = some true := kitAny_cons (b := false) (kit_ty (by decide +kernel)) (fun _ => kitAny_cons (b := true) (kit_ty (by decide +kernel)) (fun z => nomatch z) (fun _ => rfl)) (fun z => nomatch z)
section
variable {X : Cx}
theorem self_each {A : Around} {s : Shared} {vs : List V} {us ws : List Value} (r1 : Vals vs us) (r2 : Vals vs ws) (hs : ∀ v ∈ vs, Selfy v) : ∀ j (j1 : j < us.toArray.size) (j2 : j < ws.toArray.size), SeqAt.EqAt A s us.toArray[j] ws.toArray[j] ((fun _ => true) j) := fun j j1 j2 => by
  have j0 : j < vs.length := by
    rw [r1.length]
    exact j1
  obtain ⟨u1, e1, k1⟩ := r1.get (i := j) (x := vs[j]) (by simp [j0])
  obtain ⟨u2, e2, k2⟩ := r2.get (i := j) (x := vs[j]) (by simp [j0])
  have f1 : us.toArray[j] = u1 := by
    have z := (List.getElem?_eq_some_iff.mp e1).2
    simpa using z
  have f2 : ws.toArray[j] = u2 := by
    have z := (List.getElem?_eq_some_iff.mp e2).2
    simpa using z
  rw [f1, f2]
  exact selfy_eq (hs _ (List.getElem_mem j0)) k1 k2
theorem all_true (n : Nat) : ((List.range n).all fun _ => true) = true := List.all_eq_true.mpr fun _ _ => rfl
/-- == of two lists, of two tuples, that hold the very same things -/
def rEqS (K : PySem.W.Frag) : R2 := fun x y H Q => ∃ (a b : Addr) (vs : List V), x = .ref a ∧ y = .ref b ∧ ((SqL K H a vs ∧ SqL K H b vs) ∨ (SqT K H a vs ∧ SqT K H b vs)) ∧ (∀ v ∈ vs, Selfy v) ∧ Q (.bl true) H
def rNeT (K : PySem.W.Frag) : R2 := fun x y H Q => ∃ (a b : Addr) (vs : List V), x = .ref a ∧ y = .ref b ∧ SqT K H a vs ∧ SqT K H b vs ∧ (∀ v ∈ vs, Selfy v) ∧ Q (.bl false) H
theorem op_eqS (hu : X.A.units + 64 < cLine) : OpR X (compareOp .Eq) (rEqS X.K) := by
  intro pins s σ H x y v u Q I rx ry h
  obtain ⟨a, b, vs, rfl, rfl, h | h, hs, q⟩ := h
  · cases rx
    cases ry
    obtain ⟨us, r1, p1, _⟩ := I.list h.1
    obtain ⟨ws, r2, p2, _⟩ := I.list h.2
    have size : us.toArray.size = ws.toArray.size := by
      rw [List.size_toArray, List.size_toArray, ← r1.length, ← r2.length]
    have R := SeqAt.RcAt.lists (A := X.A) p1.isList p2.isList size (by omega) (self_each r1 r2 hs)
    rw [all_true] at R
    exact R X.prog X.w X.xe _ ⟨.bl true, H, I, rfl, q⟩
  · cases rx
    cases ry
    obtain ⟨us, r1, p1, _⟩ := I.tuple h.1
    obtain ⟨ws, r2, p2, _⟩ := I.tuple h.2
    have size : us.toArray.size = ws.toArray.size := by
      rw [List.size_toArray, List.size_toArray, ← r1.length, ← r2.length]
    have R := SeqAt.RcAt.tuples (A := X.A) p1 p2 (by omega) (self_each r1 r2 hs)
    rw [all_true, size, beq_self_eq_true, Bool.and_true] at R
    exact R X.prog X.w X.xe _ ⟨.bl true, H, I, rfl, q⟩
theorem op_neT (hu : X.A.units + 64 < cLine) : OpR X (compareOp .NotEq) (rNeT X.K) := by
  intro pins s σ H x y v u Q I rx ry h
  obtain ⟨a, b, vs, rfl, rfl, ha, hb, hs, q⟩ := h
  cases rx
  cases ry
  obtain ⟨us, r1, p1, _⟩ := I.tuple ha
  obtain ⟨ws, r2, p2, _⟩ := I.tuple hb
  have size : us.toArray.size = ws.toArray.size := by
    rw [List.size_toArray, List.size_toArray, ← r1.length, ← r2.length]
  have R := SeqAt.RcNeAt.tuples (A := X.A) p1 p2 (by omega) (self_each r1 r2 hs)
  rw [all_true, size, beq_self_eq_true, Bool.and_true] at R
  exact R X.prog X.w X.xe _ ⟨.bl false, H, I, rfl, q⟩
/-! ### a Paper -/
/-- at a a paper of the class at C with this word and these parts -/
def PaperAt (K : PySem.W.Frag) (H : Hp) (a C : Addr) (word : V) (ys : List V) : Prop := ∃ (dx q : Addr), H a = some (.ins C dx [("word", word), ("parts", .ref q)]) ∧ H q = some (.tup ys) ∧ ∀ y ∈ ys, Selfy y
theorem PaperAt.same {K : PySem.W.Frag} {H H' : Hp} {a C : Addr} {word : V} {ys : List V} (e : Same H H') (h : PaperAt K H a C word ys) : PaperAt K H' a C word ys := by
  obtain ⟨dx, q, h1, h2, h3⟩ := h
  exact ⟨dx, q, e _ _ h1, e _ _ h2, h3⟩
/-- a paper equals itself -/
def SelfR (K : PySem.W.Frag) (C : Addr) : Addr → Addr → Hp → Prop := fun a b H => a = b ∧ ∃ (z : Str) (ys : List V), PaperAt K H a C (.str z) ys
/-- what the written part says of the class with an own == -/
structure OwnEq (K : PySem.W.Frag) (C f : Addr) : Prop where
  cls : ∃ nm q N bs sn sub ab col dd k0 k1 k2 k3 k5 newId, K.lookup C = some (excClassObj nm q C N bs [.type "object"] true sn sub ab col dd k0 k1 k2 k3 k5 newId) ∧ PySem.W.nsOkIn K N = true ∧ PySem.W.nsIn K N "__eq__" = some (some (.ref f)) ∧ PySem.W.nsIn K N "__ne__" = some none
  ft : PySem.W.typeIn K (.ref f) = some (.type "function")
  eq : PySem.W.findIn K (.ref C) "__eq__" = some (some (.ref f))
  fn : PySem.W.isFn K (.ref f) = true
theorem ns_at {K : PySem.W.Frag} {h : Heap} {N : Addr} {m : Str → Option Value} {x : Str} {v : Value} (kin : K.In h) (G : h.Ns N m) (e : PySem.W.nsIn K N x = some (some v)) : m x = some v := by
  obtain ⟨o, es, ep, ho, hd, keys, find⟩ := G
  unfold PySem.W.nsIn at e
  split at e
  · rename_i c d es' n' sl hk
    have same := kin _ _ hk
    rw [ho] at same
    have same' := Option.some.inj same
    subst same'
    have ed : Data.dict es' n' = Data.dict es ep := hd
    injection ed with e1 _
    subst e1
    split at e
    · rename_i en he
      rw [← find x, ← Option.some.inj (Option.some.inj e)]
      unfold nsFind findBy
      rw [← Array.find?_toList, he]
      rfl
    · split at e <;> cases e
  · cases e
theorem ns_off {K : PySem.W.Frag} {h : Heap} {N : Addr} {x : Str} (kin : K.In h) (ok : PySem.W.nsOkIn K N = true) (e : PySem.W.nsIn K N x = some none) : h.nsMap N x = none := PySem.W.nsMap_none_of_in kin ok e
theorem own_noNe {pins : List (Addr × Obj)} {σ : L2.St} {H : Hp} {s : Shared} {a C f dx : Addr} {fs : List (Str × V)} (I : Inv X pins σ H s) (O : OwnEq X.K C f) (ha : H a = some (.ins C dx fs)) :
    s.heap.OwnEqNoNe a C f "object" [.type "object"] ∧ ∃ o, s.heap.get? a = some o ∧ o.cls = .ref C := by
  obtain ⟨nm, q, N, bs, sn, sub, ab, col, dd, k0, k1, k2, k3, k5, newId, hC, ok, heq, hne⟩ := O.cls
  obtain ⟨_, _, _, hx, _⟩ := (show ObjOk X.prog X.w H s.heap a (.ins C dx fs) from I.hok a _ ha)
  obtain ⟨of, hof, ef⟩ := Option.map_eq_some_iff.mp (show (X.K.lookup f).map (·.cls) = some (.type "function") from O.ft)
  exact ⟨⟨_, of, nm, q, N, bs, true, sn, sub, ab, col, dd, k0, k1, k2, k3, k5, newId, _, _, hx, rfl, I.kIn _ _ hC, .of_isNs (PySem.W.isNs_of_in I.kIn ok), ns_at I.kIn (.of_isNs (PySem.W.isNs_of_in I.kIn ok)) heq, I.kIn _ _ hof, ef, PySem.F.mro_object, PySem.F.cmp_object.eq.lookup, ns_off I.kIn ok hne⟩, _, hx, rfl⟩
/-- a == a, a != a of a paper -/
def rEqP (K : PySem.W.Frag) (C : Addr) : R2 := fun x y H Q => ∃ (a : Addr) (z : Str) (ys : List V), x = .ref a ∧ y = .ref a ∧ PaperAt K H a C (.str z) ys ∧ ∀ H', Same H H' → Q (.bl true) H'
def rNeP (K : PySem.W.Frag) (C : Addr) : R2 := fun x y H Q => ∃ (a : Addr) (z : Str) (ys : List V), x = .ref a ∧ y = .ref a ∧ PaperAt K H a C (.str z) ys ∧ ∀ H', Same H H' → Q (.bl false) H'
theorem op_eqP {C f : Addr} {fd : FuncData} {ps : List Str} {n j : Nat} (F : FnOk X.prog X.w X.K X.mg X.base CX0 n f fd ps (spEq (SelfR X.K C))) (O : OwnEq X.K C f) (b : Binds X.K fd ps []) (hr : Room j X.A) (hj : n ≤ j) : OpR X (compareOp .Eq) (rEqP X.K C) := by
  intro pins s σ H x y v u Q I rx ry h
  obtain ⟨a, z, ys, rfl, rfl, hp, q⟩ := h
  obtain ⟨dx, q0, h1, _⟩ := id hp
  exact op_eqG (rcG_ins F O.eq O.fn b pass0) (hr.mono hj) pins s σ H _ _ _ _ Q I rx ry ⟨⟨a, a, dx, dx, _, _, rfl, rfl, h1, h1, rfl, z, ys, hp⟩, q⟩
theorem op_neP {C f : Addr} {fd : FuncData} {ps : List Str} {n j : Nat} (F : FnOk X.prog X.w X.K X.mg X.base CX0 n f fd ps (spEq (SelfR X.K C))) (O : OwnEq X.K C f) (b : Binds X.K fd ps []) (hr : Room j X.A) (hj : n + 1 ≤ j) : OpR X (compareOp .NotEq) (rNeP X.K C) := by
  intro pins s σ H x y v u Q I rx ry h
  obtain ⟨a, z, ys, rfl, rfl, hp, q⟩ := h
  cases rx
  cases ry
  obtain ⟨dx, q0, h1, _⟩ := id hp
  obtain ⟨own, oy, hy, hyc⟩ := own_noNe I O h1
  have room : Sub X n X.A.in1 := Sub.in1 ⟨hr.mono hj, rfl⟩
  have e0 : Env0 X.prog X.w X.K X.mg X.base X.A.in1 X.stack s H := { I.env0 with frames := (by rw [room.fr]; exact I.env0.frames) }
  have want : spEq (SelfR X.K C) [.ref a, .ref a] H (fun v H' => v = .bl true ∧ Ext H H') (fun _ _ _ => False) := ⟨a, a, rfl, ⟨rfl, z, ys, hp⟩, fun H' e => ⟨rfl, e⟩⟩
  have r2 : Vals [V.ref a, V.ref a] [Value.ref a, Value.ref a] := .cons rfl (.cons rfl .nil)
  have hl := F.len _ _ _ _ want
  have hb := b s [.ref a, .ref a] I.kIn (by simpa using hl)
  rw [List.append_nil] at hb
  obtain ⟨hh, g, d, t, os⟩ := s
  refine compareOp_ne_ownEq PySem.F.cmp_object own hy hyc (by have := hr.units; omega) ?_
  refine wpAny_call (codeAny_mono (F.run X.A.in1 X.stack _ H ⟨[.ref a, .ref a], []⟩ _ _ _ (fun _ _ _ => False) room.room e0 hb r2 want) fun r s' back => ?_)
  cases r with
  | error e => exact False.elim back
  | ok fl =>
    cases fl with
    | ret u =>
      obtain ⟨v, H', J, rv, ev, ex⟩ := I.after back
      subst ev
      cases rv
      exact ⟨true, rfl, .bl false, H', J, rfl, q H' ex⟩
    | next => exact False.elim back
    | brk => exact False.elim back
    | cont => exact False.elim back
/-- one of several rules -/
theorem op_or {f : Value → Value → Sem Value} {r r' : R2} (h : OpR X f r) (h' : OpR X f r') : OpR X f (fun x y H Q => r x y H Q ∨ r' x y H Q) := fun pins s σ H x y v u Q I rx ry z => z.elim (h pins s σ H x y v u Q I rx ry) (h' pins s σ H x y v u Q I rx ry)
end
theorem clsLT : Paired ClsV [.ty "list", .ty "tuple"] [.type "list", .type "tuple"] := .cons (.ty _) (.cons (.ty _) .nil)
end My


set_option Elab.async false
set_option linter.all false
set_option maxRecDepth 100000
/-! Sets whose members are tuples of texts and integers: asked and added to. -/
namespace My
open PySem PySem.Spec PyProof.Rows L2
/-- a member: where it stands, what it holds -/
abbrev Mem := Addr × List Key
def hsh (P : Program) (w : World) (k : List Key) : Int := tupleKeyHash (mixKind P w) k
abbrev IsM (P : Program) (w : World) (h : Heap) (k : List Key) (b : Addr) : Prop := IsTupleKey (mixKind P w) h k b
def hasKey (ks : List (List Key)) (k : List Key) : Bool := ks.any fun j => decide (j = k)
theorem hasKey_yes {ks : List (List Key)} {k : List Key} (h : k ∈ ks) : hasKey ks k = true := List.any_eq_true.mpr ⟨k, h, decide_eq_true rfl⟩
theorem hasKey_no {ks : List (List Key)} {k : List Key} (h : k ∉ ks) : hasKey ks k = false := by
  cases e : hasKey ks k with
  | false => rfl
  | true =>
    obtain ⟨j, j1, j2⟩ := List.any_eq_true.mp e
    rw [of_decide_eq_true j2] at j1
    exact absurd j1 h
def entry (P : Program) (w : World) (r : Mem) : Int × Value := (hsh P w r.2, .ref r.1)
/-- the c-th stand of the way of a hash -/
def spot (m : Nat) (H : Int) (c : Nat) : SetTable.Probe := nth m (runAt m (SetTable.bits H % (m + 1)) (SetTable.bits H)) c
theorem spot_more (m : Nat) (H : Int) (c q : Nat) : nth m (spot m H c) q = spot m H (c + q) := (nth_add m c _ q).symm
theorem spot_clear (m : Nat) (H : Int) (c : Nat) : (spot m H c).dummy = none := by
  induction c with
  | zero => rfl
  | succ c ih =>
    have e : spot m H (c + 1) = adv m (spot m H c) := nth_succ m _ c
    rw [e]; unfold adv; split <;> exact ih
/-- what a look from the c-th stand on finds -/
theorem look {t : SetTable} {hs : List Int} (T : TabOk t hs) (g : Nat → Int) {H : Int} {K c : Nat} (lim : K < 10 * SetTable.turns t.mask) (free : way t.mask H K ∉ t.place.toList)
    (full : ∀ q, q < K → way t.mask H q ∈ t.place.toList) (le : c ≤ K) :
    (∃ q i, c ≤ q ∧ q < K ∧ t.place.toList[i]? = some (way t.mask H q) ∧ g i = H ∧ (∀ r j, c ≤ r → r < q → t.place.toList[j]? = some (way t.mask H r) → g j ≠ H) ∧
      t.probe g H (spot t.mask H c) = some (.candidate (way t.mask H q) i (spot t.mask H (q + 1)))) ∨
    ((∀ r j, c ≤ r → r < K → t.place.toList[j]? = some (way t.mask H r) → g j ≠ H) ∧ t.probe g H (spot t.mask H c) = some (.empty (way t.mask H K) none)) := by
  have wj : ∀ q, (nth t.mask (spot t.mask H c) q).j = way t.mask H (c + q) := fun q => by rw [spot_more]; rfl
  have far : ∀ r, c ≤ r → c + (r - c) = r := fun r h => by omega
  rcases go_spec t T.ris T.dm g H (10 * SetTable.turns t.mask) (K - c) (spot t.mask H c) (spot_clear _ _ _) (by omega) (fun q h => by rw [wj]; exact full _ (by omega)) (by rw [wj, far K le]; exact free) with
    ⟨q, i, a1, a2, a3, a4, a5⟩ | ⟨a1, a2⟩
  · rw [wj] at a2 a5
    rw [spot_more] at a5
    refine .inl ⟨c + q, i, by omega, by omega, a2, a3, fun r j b1 b2 b3 => a4 (r - c) j (by omega) (by rw [wj, far r b1]; exact b3), a5⟩
  · rw [wj, far K le] at a2
    exact .inr ⟨fun r j b1 b2 b3 => a1 (r - c) j (by omega) (by rw [wj, far r b1]; exact b3), a2⟩
section
variable {P : Program} {w : World} {A : Around} {E : Value → Shared → Prop} {s : Shared}
/-- an item that is a text or an integer -/
def Flat1 (v : Value) : Prop := (∃ i t, v = .int i t) ∨ ∃ x t, v = .str x t
theorem items_flat {k : List Key} {vs : List Value} (h : ItemsAre (mixKind P w) k vs) : ∀ v ∈ vs, Flat1 v := by
  induction h with
  | nil => exact fun v hv => nomatch hv
  | cons h1 _ ih =>
    refine fun v hv => (List.mem_cons.mp hv).elim (fun e => ?_) (ih v)
    subst e
    rcases keyIs_shape h1 with ⟨i, t, _, e⟩ | ⟨x, t, _, e⟩
    · exact .inl ⟨i, t, e⟩
    · exact .inr ⟨x, t, e⟩
theorem Flat1.noClass {v : Value} (h : Flat1 v) (n : Nat) : ofAClassStatement n v = pure false := by
  rcases h with ⟨i, t, rfl⟩ | ⟨x, t, rfl⟩ <;> cases n <;> rfl
theorem Flat1.hashed {v : Value} (h : Flat1 v) (n : Nat) : ∃ b, hashByValue n v = pure b := by
  rcases h with ⟨i, t, rfl⟩ | ⟨x, t, rfl⟩ <;> cases n <;> exact ⟨_, rfl⟩
theorem class_m {k : List Key} {b : Addr} {Q : Bool → Shared → Prop} (x : IsM P w s.heap k b) (h : Q false s) : wpAny (model P w) A (ofAClassStatement 8 (.ref b)) Q E s := by
  have ty := x.typeIs
  obtain ⟨o, its, n, ho, _, hd, hi⟩ := x
  have fl := items_flat hi
  unfold ofAClassStatement
  refine wpAny_bind (wpAny_typeOf ty ?_)
  have e : (("tuple" : String) == "tuple") = true := by decide
  simp only [e, if_true, Bool.not_true, Bool.false_eq_true, if_false]
  refine wpAny_bind (wpAny_pure ?_)
  refine wpAny_bind (wpAny_seqItems ho hd (wpAny_bind ?_))
  rw [← Array.forIn_toList]
  refine wpAny_forIn_list _ (fun left r s' => (r.1 = none ∧ s' = s) ∧ ∀ v ∈ left, Flat1 v) _ (fun v left r s' ⟨⟨_, e⟩, f⟩ => ?_) (fun r s' ⟨⟨e1, e2⟩, _⟩ => ?_) _ _ ⟨⟨rfl, rfl⟩, fl⟩
  · subst e
    rw [(f v List.mem_cons_self).noClass]
    exact wpAny_bind (wpAny_pure (wpAny_pure ⟨⟨rfl, rfl⟩, fun u hu => f u (.tail _ hu)⟩))
  · obtain ⟨r1, r2⟩ := r
    cases e1
    subst e2
    exact wpAny_pure h
theorem hashed_m {k : List Key} {b : Addr} {Q : Bool → Shared → Prop} (x : IsM P w s.heap k b) (h : ∀ c, Q c s) : wpAny (model P w) A (hashByValue 8 (.ref b)) Q E s := by
  have ty := x.typeIs
  obtain ⟨o, its, n, ho, _, hd, hi⟩ := x
  have fl := items_flat hi
  unfold hashByValue
  refine wpAny_bind (wpAny_specialOf ty F.slot_tuple_hash.lookup (wpAny_bind (wpAny_seqItems ho hd (wpAny_bind ?_))))
  rw [← Array.forIn_toList]
  refine wpAny_forIn_list _ (fun left r s' => s' = s ∧ ∀ v ∈ left, Flat1 v) _ (fun v left r s' ⟨e, f⟩ => ?_) (fun r s' ⟨e, _⟩ => ?_) _ _ ⟨rfl, fl⟩
  · subst e
    obtain ⟨b, hb⟩ := (f v List.mem_cons_self).hashed 7
    rw [hb]
    refine wpAny_bind (wpAny_pure ?_)
    cases b
    · exact wpAny_pure (wpAny_pure (h _))
    · exact wpAny_pure ⟨rfl, fun u hu => f u (.tail _ hu)⟩
  · subst e
    obtain ⟨r1, r2⟩ := r
    cases r1
    · exact wpAny_pure (h _)
    · exact wpAny_pure (h _)
/-- looking among such members shows nothing -/
theorem quiet_m {k : List Key} {b : Addr} {Q : Bool → Shared → Prop} (x : IsM P w s.heap k b) {ys : List Value} (all : ∀ y ∈ ys, ∃ k' c, y = .ref c ∧ IsM P w s.heap k' c) (h : Q false s) :
    wpAny (model P w) A (searchCouldBeSeen (.ref b) ys) Q E s := by
  unfold searchCouldBeSeen
  refine wpAny_bind (wpAny_forIn_list _ (fun left r s' => (r.1 = none ∧ s' = s) ∧ ∀ y ∈ left, ∃ k' c, y = .ref c ∧ IsM P w s.heap k' c) _ (fun y left r s' ⟨⟨_, e⟩, f⟩ => ?_) (fun r s' ⟨⟨e1, e2⟩, _⟩ => ?_) _ _ ⟨⟨rfl, rfl⟩, all⟩)
  · subst e
    obtain ⟨k', c, e, y1⟩ := f y List.mem_cons_self
    subst e
    have go : ∀ u ∈ left, ∃ k' c, u = Value.ref c ∧ IsM P w s'.heap k' c := fun u hu => f u (.tail _ hu)
    dsimp only
    by_cases z : (b == c || (carriedByValue (.ref b) && carriedByValue (.ref c))) = true
    · exact wp_if_pos z (wpAny_pure ⟨⟨rfl, rfl⟩, go⟩)
    · refine wp_if_neg z (wpAny_bind (wpAny_eqIsQuiet_tuple x (wpAny_bind (wpAny_eqIsQuiet_tuple y1 (wpAny_bind (class_m x (wpAny_bind (class_m y1 ?_))))))))
      exact wpAny_pure ⟨⟨rfl, rfl⟩, go⟩
  · obtain ⟨r1, r2⟩ := r
    cases e1
    subst e2
    exact wpAny_pure h
/-- a set of such members, by its rows and its table -/
structure Held (P : Program) (w : World) (h : Heap) (a : Addr) (L : List Mem) (t : SetTable) : Prop where
  it : ∃ o ep, h.get? a = some o ∧ o.ExactSet ∧ o.data = .set (L.map (entry P w)).toArray ep t
  tab : TabOk t (L.map fun r => hsh P w r.2)
  once : (L.map (·.2)).Nodup
  room : L.length * 5 < t.mask * 3
  few : L.length < 64
variable {a : Addr} {L : List Mem} {t : SetTable}
theorem fits_of {t : SetTable} {hs : List Int} (T : TabOk t hs) {n : Nat} (e : n = hs.length) (le : n ≤ t.mask) : t.fits n = true := by
  have z := T.sz
  unfold SetTable.fits SetTable.fill
  rw [T.dm, Bool.and_eq_true, beq_iff_eq, decide_eq_true_eq]
  refine ⟨by omega, ?_⟩
  show t.place.size + 0 ≤ t.mask
  omega
theorem Held.fits (R : Held P w s.heap a L t) : t.fits (L.map (entry P w)).toArray.size = true :=
  fits_of R.tab (by simp) (by have := R.room; simp; omega)
theorem gave_not {t : SetTable} {hs : List Int} (T : TabOk t hs) : ¬ t.gaveWay = true := by
  unfold SetTable.gaveWay
  rw [mask_odd T.mok]
  decide
theorem same_mem (t : SetTable) : t.sameMemory t.moves t.mask = some true := by
  unfold SetTable.sameMemory
  exact if_pos (beq_self_eq_true _)
/-- the search, from the c-th stand on -/
theorem seek (R : Held P w s.heap a L t) (tup : ∀ r ∈ L, IsM P w s.heap r.2 r.1) {x : Addr} {k : List Key} (hx : IsM P w s.heap k x) (hu : A.units < cLine) (ad : Bool) {K : Nat}
    (lim : K < 10 * SetTable.turns t.mask) (free : way t.mask (hsh P w k) K ∉ t.place.toList) (full : ∀ q, q < K → way t.mask (hsh P w k) q ∈ t.place.toList) {Q : SetFound → Shared → Prop}
    (yes : k ∈ L.map (·.2) → ∀ i : Option Nat, (ad = false → i.isSome = true) → Q (.there i) s) (no : k ∉ L.map (·.2) → Q (.free (way t.mask (hsh P w k) K) false) s) :
    ∀ (f c : Nat) (st : Option SetTable.Probe), st.getD (t.probeStart (hsh P w k)) = spot t.mask (hsh P w k) c → c ≤ K → K < c + f →
      (∀ (i : Nat) (r : Mem), L[i]? = some r → r.2 = k → ∃ q, c ≤ q ∧ q < K ∧ t.place.toList[i]? = some (way t.mask (hsh P w k) q)) →
      wpAny (model P w) A (setSearchFrom a (.ref x) (hsh P w k) ad f st) Q E s := by
  intro f
  induction f with
  | zero => intro c st _ h1 h2; omega
  | succ f ih =>
    intro c st hst hc hf ahead
    obtain ⟨o, ep, ho, hex, hd⟩ := R.it
    have g1 : ∀ (i : Nat) (r : Mem), L[i]? = some r → (L.map (entry P w)).toArray[i]? = some (entry P w r) := fun i r h => by rw [List.getElem?_toArray, List.getElem?_map, h]; rfl
    have g2 : ∀ (i : Nat) (r : Mem), L[i]? = some r → (((L.map (entry P w)).toArray[i]?).map (·.1)).getD 0 = hsh P w r.2 := fun i r h => by rw [g1 i r h]; rfl
    rw [setSearchFrom_succ]
    refine wpAny_bind (wpAny_setState_of ho hd R.fits (wp_if_neg (gave_not R.tab) ?_))
    rw [hst]
    rcases look R.tab (fun i => (((L.map (entry P w)).toArray[i]?).map (·.1)).getD 0) lim free full hc with ⟨q, i, c1, c2, c3, c4, c5, c6⟩ | ⟨c1, c2⟩
    · rw [c6]
      have il : i < L.length := by
        have z1 := (List.getElem?_eq_some_iff.mp c3).1
        have z2 := R.tab.sz
        simp only [List.length_map, Array.length_toList] at z1 z2
        omega
      obtain ⟨r, hr⟩ : ∃ r, L[i]? = some r := ⟨_, List.getElem?_eq_getElem il⟩
      have rin := List.mem_of_getElem? hr
      have on : wpAny (model P w) A (searchRest a (.ref x) (hsh P w k) ad f (L.map (entry P w)).toArray t (way t.mask (hsh P w k) q) i (spot t.mask (hsh P w k) (q + 1))) Q E s := by
        unfold searchRest
        rw [g1 i r hr]
        refine wpAny_bind (wpAny_holding (wpAny_eqBool_tuple hu (tup r rin) hx (wpAny_bind (wpAny_setState_of ho hd R.fits ?_))))
        have live := slot_live R.tab.ris c3
        by_cases kk : r.2 = k
        · have yk : k ∈ L.map (·.2) := List.mem_map.mpr ⟨r, rin, kk⟩
          cases ad with
          | true => exact wp_if_pos (by simp [kk]) (wpAny_pure (yes yk none fun z => nomatch z))
          | false =>
            refine wp_if_neg (by simp) ?_
            rw [same_mem]
            simp only [if_true, live, g1 i r hr]
            refine wpAny_bind (wpAny_isSame_ref_self (wpAny_bind (wpAny_pure ?_)))
            simp only [if_true]
            exact wp_if_pos (by simp [kk]) (wpAny_pure (yes yk (some i) fun _ => rfl))
        · refine wp_if_neg (by simp [kk]) ?_
          rw [same_mem]
          simp only [if_true, live, g1 i r hr]
          refine wpAny_bind (wpAny_isSame_ref_self (wpAny_bind (wpAny_pure ?_)))
          simp only [if_true]
          refine wp_if_neg (by simp [kk]) (ih (q + 1) _ rfl (by omega) (by omega) fun j u hj hk => ?_)
          obtain ⟨p, p1, p2, p3⟩ := ahead j u hj hk
          refine ⟨p, ?_, p2, p3⟩
          have hh : (((L.map (entry P w)).toArray[j]?).map (·.1)).getD 0 = hsh P w k := by rw [g2 j u hj, hk]
          have n1 : ¬ p < q := fun z => c5 p j p1 z p3 hh
          have n2 : p ≠ q := fun z => by
            subst z
            have l2 := slot_live R.tab.ris p3
            rw [live] at l2
            injection l2 with l2
            rw [← l2, hr] at hj
            exact kk ((congrArg Prod.snd (Option.some.inj hj)).trans hk)
          omega
      by_cases hl : t.led = true
      · exact wp_if_neg (by simp [hl]) on
      · refine wp_if_pos (by simp [hl]) (wpAny_bind (quiet_m hx (fun y hy => ?_) (wp_if_neg (by decide) on)))
        obtain ⟨e, he, ee⟩ := List.mem_map.mp hy
        have he : e ∈ L.map (entry P w) := by
          have := (Array.mem_filter.mp (Array.mem_toList_iff.mp he)).1
          simpa using this
        obtain ⟨u, hu2, e2⟩ := List.mem_map.mp he
        exact ⟨u.2, u.1, by rw [← ee, ← e2]; rfl, tup u hu2⟩
    · rw [c2]
      refine wpAny_pure (no fun hm => ?_)
      obtain ⟨u, hu2, e2⟩ := List.mem_map.mp hm
      obtain ⟨j, hj⟩ := List.getElem?_of_mem hu2
      obtain ⟨p, p1, p2, p3⟩ := ahead j u hj e2
      exact c1 p j p1 p2 p3 (by rw [g2 j u hj, e2])
theorem seek0 (R : Held P w s.heap a L t) (tup : ∀ r ∈ L, IsM P w s.heap r.2 r.1) {x : Addr} {k : List Key} (hx : IsM P w s.heap k x) (hu : A.units < cLine) (ad : Bool) {Q : SetFound → Shared → Prop}
    (yes : k ∈ L.map (·.2) → ∀ i : Option Nat, (ad = false → i.isSome = true) → Q (.there i) s)
    (no : k ∉ L.map (·.2) → ∀ K, way t.mask (hsh P w k) K ∉ t.place.toList → (∀ q, q < K → way t.mask (hsh P w k) q ∈ t.place.toList) → Q (.free (way t.mask (hsh P w k) K) false) s) :
    wpAny (model P w) A (setSearch a (.ref x) (hsh P w k) ad) Q E s := by
  have few := R.few
  obtain ⟨K, lim, free, full⟩ := R.tab.first (by have := R.room; rw [List.length_map]; omega) (hsh P w k)
  have small : 10 * SetTable.turns t.mask ≤ 1420 := by
    unfold SetTable.turns
    rcases R.tab.mok with e | e | e <;> omega
  refine seek R tup hx hu ad lim free full yes (fun h => no h K free full) 100000 0 none rfl (Nat.zero_le _) (by omega) fun i r hr hk => ?_
  have il := (List.getElem?_eq_some_iff.mp hr).1
  have iz : i < t.place.toList.length := by
    have z := R.tab.sz
    simp only [List.length_map] at z
    rw [Array.length_toList]; omega
  obtain ⟨q, q1, q2⟩ := R.tab.before (h := hsh P w k) (i := i) free (by rw [List.getElem?_map, hr, ← hk]; rfl) (List.getElem?_eq_getElem iz)
  exact ⟨q, Nat.zero_le _, q1, by rw [q2]; exact List.getElem?_eq_getElem iz⟩
theorem Held.typeIs (R : Held P w s.heap a L t) : s.TypeIs (.ref a) "set" := by
  obtain ⟨o, _, ho, hex, _⟩ := R.it
  exact ⟨o, ho, hex.1⟩
theorem Held.noDict (R : Held P w s.heap a L t) : ∀ b, Value.ref a = .ref b → ∃ ob, s.heap.get? b = some ob ∧ ob.dict = none := by
  obtain ⟨o, _, ho, hex, _⟩ := R.it
  intro b e
  cases e
  exact ⟨o, ho, hex.2.1⟩
theorem find_m (R : Held P w s.heap a L t) (tup : ∀ r ∈ L, IsM P w s.heap r.2 r.1) {x : Addr} {k : List Key} (hx : IsM P w s.heap k x) (hu : A.units < cLine) {Q : Option Nat → Shared → Prop}
    (h : ∀ r : Option Nat, r.isSome = hasKey (L.map (·.2)) k → Q r s) : wpAny (model P w) A (setFind a (.ref x) (hsh P w k)) Q E s := by
  obtain ⟨o, ep, ho, hex, hd⟩ := R.it
  unfold setFind setFindIn
  refine wpAny_bind (wpAny_setState_of ho hd R.fits (wp_if_neg (by simp [byScan, Value.scannable]) (wpAny_bind (seek0 R tup hx hu false (fun m i hi => ?_) fun m K _ _ => ?_))))
  · exact wpAny_pure (h i (by rw [hi rfl, hasKey_yes m]))
  · exact wpAny_pure (h none (by rw [hasKey_no m]; rfl))
theorem has_m (R : Held P w s.heap a L t) (tup : ∀ r ∈ L, IsM P w s.heap r.2 r.1) {x : Addr} {k : List Key} (hx : IsM P w s.heap k x) (hu : A.units + 8 < cLine) {Q : Bool → Shared → Prop}
    (h : ∀ n, Q (hasKey (L.map (·.2)) k) { s with toks := s.toks + n }) : wpAny (model P w) A (contains (.ref a) (.ref x)) Q E s := by
  unfold contains
  try with_reducible refine wpAny_holding ?_
  refine wpAny_bind (wpAny_specialOf R.typeIs F.slot_set_contains.lookup ?_)
  show wpAny _ _ (if (some (Value.builtin "set.__contains__") == some Value.none) = true then _ else _) _ E s
  rw [beq_builtin_none, if_neg Bool.false_ne_true]
  refine wpAny_bind (wpAny_callSpecialUnlessNone?_slot (name := Str.ofString "__contains__") R.typeIs F.slot_set_contains (wpAny_call_entry F.slot_set_contains R.typeIs entry_set_contains ?_ (F.args_set_contains_2 _ _)))
  unfold Builtin.«frozenset.__contains__» Builtin.Frozenset.oneOther Builtin.Frozenset.addrOf Builtin.Frozenset.withSetAsKey setContains
  simp only [List.isEmpty_nil, bind_assoc]
  refine wpAny_bind (wpAny_pure (wpAny_bind (wpAny_pure ?_)))
  try dsimp only
  refine wpAny_bind (wpAny_tryCatch (wpAny_holding (wpAny_bind (wpAny_pyHash_tuple (knd := mixKind P w) ?_ hx (wpAny_bind (find_m (s := { s with toks := s.toks + (k.length + 1) }) R tup hx ?_ fun r hr => wpAny_pure ?_))))))
  · show A.units + 1 < cLine
    omega
  · show A.units + 1 < cLine
    omega
  · show wpAny _ _ (ret (Value.bool r.isSome)) _ _ _
    rw [hr]
    exact wpAny_pure ⟨_, rfl, wpAny_truthy_bool (h _)⟩
theorem pick_all {α : Type} (l : List α) : (List.range l.length).filterMap (fun i => l[i]?) = l := by
  induction l with
  | nil => rfl
  | cons x l ih =>
    rw [List.length_cons, List.range_succ_eq_map, List.filterMap_cons_some (f := fun i => (x :: l)[i]?) (a := 0) (b := x) rfl, List.filterMap_map]
    exact congrArg (x :: ·) ih
theorem pick_hash {L : List Mem} : ∀ l : List Nat, (∀ i ∈ l, i < L.length) → ((l.filterMap fun i => L[i]?).map fun r => hsh P w r.2) = l.map fun i => ((L.map (entry P w)).toArray.map (·.1)).getD i 0
  | [], _ => rfl
  | i :: l, h => by
    have hi := List.getElem?_eq_getElem (h i List.mem_cons_self)
    rw [List.filterMap_cons_some hi, List.map_cons, List.map_cons, pick_hash l fun j hj => h j (.tail _ hj)]
    congr 1
    rw [Array.getD_eq_getD_getElem?, Array.getElem?_map, List.getElem?_toArray, List.getElem?_map, hi]
    rfl
theorem pick_rows {L : List Mem} (l : List Nat) : l.filterMap (fun i => (L.map (entry P w)).toArray[i]?) = (l.filterMap fun i => L[i]?).map (entry P w) := by
  rw [List.map_filterMap]
  refine congrArg (fun f => List.filterMap f l) (funext fun i => ?_)
  rw [List.getElem?_toArray, List.getElem?_map]
theorem keeps_m {h h' : Heap} {k : List Key} {b : Addr} {o : Obj} {es : Array (Int × Value)} {ep : Nat} {t : SetTable} (x : IsM P w h k b) (ho : h.get? a = some o) (hd : o.data = .set es ep t) (sb : Heap.SameBut a h h') : IsM P w h' k b := by
  obtain ⟨u, its, n, hu, c, d, i⟩ := x
  refine ⟨u, its, n, (sb.2 b fun e => ?_).trans hu, c, d, i⟩
  rw [e, ho] at hu
  cases hu
  rw [hd] at d
  cases d
theorem relay_m {o : Obj} {ep : Nat} (ho : s.heap.get? a = some o) (hex : o.ExactSet) (hd : o.data = .set (L.map (entry P w)).toArray ep t) (T : TabOk t (L.map fun r => hsh P w r.2)) (le : L.length ≤ t.mask)
    (once : (L.map (·.2)).Nodup) (few : L.length < 64) {n M : Nat} (hM : SetTable.sizeAbove n - 1 = M) (ok : MaskOk M) (most : SetTable.sizeAbove n ≤ 128) (room : L.length * 5 < M * 3) {Q : Unit → Shared → Prop}
    (h : ∀ h' L' t', Heap.SameBut a s.heap h' → Held P w h' a L' t' → L'.Perm L → Q () { s with heap := h' }) : wpAny (model P w) A (setRelay a n) Q E s := by
  have fit : t.fits (L.map (entry P w)).toArray.size = true := fits_of T (by simp) (by simpa using le)
  obtain ⟨t', order, e, perm, T', em, el, _, _⟩ := relaid_ok t (hs := (L.map (entry P w)).toArray.map (·.1)) (wanted := n) hM ok (by simp; omega)
  have perm : order.toList.Perm (List.range L.length) := by simpa using perm
  have inR : ∀ i ∈ order.toList, i < L.length := fun i hi => List.mem_range.mp (perm.mem_iff.mp hi)
  obtain ⟨L', hL⟩ : ∃ L', L' = order.toList.filterMap fun i => L[i]? := ⟨_, rfl⟩
  have pm : L'.Perm L := by
    have z := perm.filterMap fun i => L[i]?
    rw [pick_all, ← hL] at z
    exact z
  have rows : order.filterMap (fun i => (L.map (entry P w)).toArray[i]?) = (L'.map (entry P w)).toArray := by
    apply Array.toList_inj.mp
    rw [Array.toList_filterMap, pick_rows, ← hL]
  rw [← pick_hash order.toList inR, ← hL] at T'
  have size : (order.filterMap (fun i => (L.map (entry P w)).toArray[i]?)).size = L.length := by rw [rows]; simp [pm.length_eq]
  rw [setRelay_eq]
  refine wpAny_bind (wpAny_setState_of ho hd fit (wp_if_neg (by rw [sizeLine_eq]; omega) ?_))
  rw [e]
  refine wpAny_bind (wp_if_neg (by rw [size]; simp) (wpAny_pure ?_))
  rw [rows]
  have sb : Heap.SameBut a s.heap (s.heap.update a (Obj.putSet (L'.map (entry P w)).toArray t')) := Heap.SameBut.update ..
  refine wpAny_storeSet_of ho hd (h _ L' t' sb ⟨⟨_, ep + 1, store_at ho hd, hex, rfl⟩, T', (pm.map _).nodup_iff.mpr once, by rw [pm.length_eq, em]; exact room, by rw [pm.length_eq]; exact few⟩ pm) (by rw [sizeLine_eq]; simp [pm.length_eq]; omega)
theorem put_rows {L : List Mem} (p : Nat) (r : Mem) : (L.take p ++ r :: L.drop p).Perm (r :: L) := by
  have z : (L.take p ++ r :: L.drop p).Perm (r :: (L.take p ++ L.drop p)) := List.perm_middle
  rw [List.take_append_drop] at z
  exact z
theorem TabOk.dull {t : SetTable} {hs : List Int} (T : TabOk t hs) : TabOk { t with plain := false } hs := ⟨T.ris, T.dm, T.sz, T.mok, T.bd, T.reach⟩
theorem add_m (R : Held P w s.heap a L t) (tup : ∀ r ∈ L, IsM P w s.heap r.2 r.1) {x : Addr} {k : List Key} (hx : IsM P w s.heap k x) (hu : A.units < cLine) (few : L.length + 1 < 64) {Q : Bool → Shared → Prop}
    (h : ∀ b h' L' t', Heap.SameBut a s.heap h' → Held P w h' a L' t' → (k ∈ L.map (·.2) → L' = L) → (k ∉ L.map (·.2) → L'.Perm ((x, k) :: L)) → Q b { s with heap := h' }) :
    wpAny (model P w) A (setAddHashed a (.ref x) (hsh P w k)) Q E s := by
  obtain ⟨o, ep, ho, hex, hd⟩ := R.it
  unfold setAddHashed
  rw [show (100000 : Nat) = 99999 + 1 from rfl, setAddHashedIn_succ]
  refine wpAny_holding (wpAny_bind (wpAny_setState_of ho hd R.fits (wp_if_neg (by simp [byScan, Value.scannable]) (wpAny_bind (seek0 R tup hx hu true (fun m i _ => ?_) fun m K free full => ?_)))))
  · exact wpAny_pure (h false s.heap L t (Heap.SameBut.refl a s.heap) R (fun _ => rfl) fun z => absurd m z)
  refine wpAny_bind (wpAny_setState_of ho hd R.fits ?_)
  dsimp only
  obtain ⟨q1, q2, q3, q4, _, _, _, _, q9⟩ := R.tab.put free full
  generalize t.put (way t.mask (hsh P w k) K) = both at q1 q3 q4 q9
  obtain ⟨t1, p⟩ := both
  dsimp only at q1 q3 q4 q9 ⊢
  subst q1
  have z1 : (SetTable.insertAt (L.map (entry P w)).toArray (SetTable.below t.place (way t.mask (hsh P w k) K)) (hsh P w k, Value.ref x)).toList = (L.take (SetTable.below t.place (way t.mask (hsh P w k) K)) ++ (x, k) :: L.drop (SetTable.below t.place (way t.mask (hsh P w k) K))).map (entry P w) := by
    rw [SetTable.toList_insertAt, List.map_append, List.map_cons, List.map_take, List.map_drop]
    rfl
  generalize SetTable.below t.place (way t.mask (hsh P w k) K) = p at q2 q3 z1 ⊢
  have hs1 : ((L.map fun r => hsh P w r.2).take p ++ hsh P w k :: (L.map fun r => hsh P w r.2).drop p) = (L.take p ++ (x, k) :: L.drop p).map fun r => hsh P w r.2 := by
    rw [List.map_append, List.map_cons, List.map_take, List.map_drop]
  rw [hs1] at q3
  have pm := put_rows p (x, k) (L := L)
  generalize L.take p ++ (x, k) :: L.drop p = L1 at z1 q3 pm
  have z2 : SetTable.insertAt (L.map (entry P w)).toArray p (hsh P w k, Value.ref x) = (L1.map (entry P w)).toArray := Array.toList_inj.mp z1
  rw [z2]
  have l1 := pm.length_eq
  rw [List.length_cons] at l1
  have nd : (L1.map (·.2)).Nodup := (pm.map _).nodup_iff.mpr (List.nodup_cons.mpr ⟨m, R.once⟩)
  rw [List.length_map] at q9
  have room := R.room
  have fin : ∀ t2 : SetTable, TabOk t2 (L1.map fun r => hsh P w r.2) → t2.mask = t.mask → t2.fill = L.length + 1 →
      wpAny (model P w) A (storeSet a (L1.map (entry P w)).toArray t2 >>= fun _ => if (!false && t2.tooFull) = true then setRelay a (SetTable.grown ((L.map (entry P w)).toArray.size + 1)) >>= fun _ => pure true else pure true) Q E s := by
    intro t2 T2 e1 e2
    refine wpAny_bind (wpAny_storeSet_of ho hd ?_ (by rw [sizeLine_eq]; simp; omega))
    have sb : Heap.SameBut a s.heap (s.heap.update a (Obj.putSet (L1.map (entry P w)).toArray t2)) := Heap.SameBut.update ..
    have ho2 := store_at (es' := (L1.map (entry P w)).toArray) (t' := t2) ho hd
    generalize s.heap.update a (Obj.putSet (L1.map (entry P w)).toArray t2) = h2 at sb ho2 ⊢
    by_cases full : t2.tooFull = true
    · have much : (L.length + 1) * 5 ≥ t.mask * 3 := by
        have z := full
        unfold SetTable.tooFull at z
        rw [decide_eq_true_eq, e1, e2] at z
        exact z
      have sz : (L.map (entry P w)).toArray.size = L.length := by simp
      rw [sz]
      have both : (t.mask = 7 ∧ L.length = 4) ∨ (t.mask = 31 ∧ L.length = 18) := by
        rcases R.tab.mok with e | e | e <;> rw [e] at much room <;> omega
      refine wp_if_pos (by rw [full]; rfl) (wpAny_bind ?_)
      rcases both with ⟨y, y2⟩ | ⟨y, y2⟩
      · refine relay_m (s := { s with heap := h2 }) (M := 31) ho2 hex rfl T2 (by rw [e1, y]; omega) nd (by omega) (by rw [y2, size_20]) (.inr (.inl rfl)) (by rw [y2, size_20]; decide) (by omega) fun h3 L3 t3 sb3 R3 p3 => ?_
        exact wpAny_pure (h true h3 L3 t3 (sb.trans sb3) R3 (fun z => absurd z m) fun _ => p3.trans pm)
      · refine relay_m (s := { s with heap := h2 }) (M := 127) ho2 hex rfl T2 (by rw [e1, y]; omega) nd (by omega) (by rw [y2, size_76]) (.inr (.inr rfl)) (by rw [y2, size_76]; decide) (by omega) fun h3 L3 t3 sb3 R3 p3 => ?_
        exact wpAny_pure (h true h3 L3 t3 (sb.trans sb3) R3 (fun z => absurd z m) fun _ => p3.trans pm)
    · refine wp_if_neg (by rw [Bool.not_eq_true] at full; rw [full]; decide) ?_
      refine wpAny_pure (h true h2 L1 t2 sb ⟨⟨_, ep + 1, ho2, hex, rfl⟩, T2, nd, ?_, by omega⟩ (fun z => absurd z m) fun _ => pm)
      have z := full
      unfold SetTable.tooFull at z
      rw [decide_eq_true_eq, e1, e2] at z
      rw [l1, e1]
      omega
  have fin2 : ∀ b : Bool, wpAny (model P w) A (storeSet a (L1.map (entry P w)).toArray (if b = true then t1 else { t1 with plain := false }) >>= fun _ => if (!false && (if b = true then t1 else { t1 with plain := false } : SetTable).tooFull) = true then setRelay a (SetTable.grown ((L.map (entry P w)).toArray.size + 1)) >>= fun _ => pure true else pure true) Q E s := by
    intro b
    cases b
    · exact fin _ (TabOk.dull q3) q4 q9
    · exact fin _ q3 q4 q9
  by_cases pl : t1.plain = true
  · exact wp_if_pos pl (wpAny_bind (hashed_m hx fun b => fin2 b))
  · exact wp_if_neg pl (wpAny_bind (wpAny_pure (fin2 true)))
end
/-- such a set, as what stands at a -/
def MSet (P : Program) (w : World) (a : Addr) (L : List Mem) : HO := .ext fun h => ∃ t, Held P w h a L t
theorem mset_new {P : Program} {w : World} {H : Hp} {h : Heap} {a : Addr} {L : List Mem} {t : SetTable} (R : Held P w h a L t) : ObjOk P w H h a (MSet P w a L) := by
  have ⟨o, ep, ho, r⟩ := R.it
  refine ⟨⟨t, R⟩, ⟨o, ho⟩, fun h1 h2 p k => ?_⟩
  obtain ⟨t1, R1⟩ := p
  have ⟨o1, ep1, ho1, r1⟩ := R1.it
  exact ⟨t1, ⟨o1, ep1, k o1 ho1, r1⟩, R1.tab, R1.once, R1.room, R1.few⟩
theorem items_keys {P : Program} {w : World} : ∀ {k : List Key} {us : List Value}, Vals (k.map kV) us → ItemsAre (mixKind P w) k us
  | [], _, .nil => .nil
  | _ :: _, _, .cons r t => .cons (kV_is r) (items_keys t)
section
variable {X : Cx} {pins : List (Addr × Obj)} {σ : L2.St} {H : Hp} {s : Shared}
theorem inv_isM (I : Inv X pins σ H s) {b : Addr} {k : List Key} (h : SqT X.K H b (k.map kV)) : IsM X.prog X.w s.heap k b := by
  obtain ⟨its, r, ⟨o, ho, hc, n, hd⟩, _⟩ := I.tuple h
  exact ⟨o, its.toArray, n, ho, hc, hd, by simpa using items_keys r⟩
def tyM (P : Program) (w : World) (x : V) (H : Hp) : Prop := ∃ a L, x = .ref a ∧ H a = some (MSet P w a L)
theorem tyM_ok : TyOk X "set" (tyM X.prog X.w) := by
  intro pins σ H s x v I r ⟨a, L, e, ha⟩
  subst e
  cases r
  obtain ⟨t, R⟩ := (I.hok a _ ha).1
  exact ⟨R.typeIs, R.noDict⟩
/-- set() -/
def rNewM (P : Program) (w : World) : List V → Hp → VK → Prop := fun xs H Q => xs = [] ∧ ∀ p, H p = none → Q (.ref p) (upd H p (MSet P w p []))
theorem cr_newM : CallR X (.type "set") (rNewM X.prog X.w) := by
  intro pins s σ H xs us Q I r ⟨e, q⟩
  subst e
  cases r
  refine setR_new fun _ => ?_
  have R : Held X.prog X.w (s.heap.push { cls := .type "set", dict := none, data := .set #[] 0 (.fresh 0 0 (!X.w.params.followText "set-order")) }) s.heap.objs.size [] (.fresh 0 0 (!X.w.params.followText "set-order")) :=
    ⟨⟨_, 0, Heap.get?_push_size _ rfl, ⟨rfl, rfl, rfl⟩, rfl⟩, (setTR_fresh (P := X.prog) (w := X.w) (Heap.get?_push_size s.heap rfl)).tab, List.nodup_nil, Nat.lt_of_lt_of_le (by decide : (0:Nat) < 7 * 3) (Nat.le_refl _), by decide⟩
  exact ⟨.ref _, _, I.laid (t' := s.toks) (fun b u e => Heap.get?_push_of_some _ e) (Nat.le_refl _) (mset_new R), rfl, q _ (I.hok.fresh (Nat.le_refl _))⟩
/-- seen.add(key) -/
def rAddM (K : PySem.W.Frag) (P : Program) (w : World) : V → List V → Hp → VK → Prop := fun x xs H Q => ∃ (a b : Addr) (k : List Key) (L : List Mem), x = .ref a ∧ xs = [.ref b] ∧ H a = some (MSet P w a L) ∧ SqT K H b (k.map kV) ∧
  (∀ r ∈ L, SqT K H r.1 (r.2.map kV)) ∧ L.length + 1 < 64 ∧ ∀ L', (k ∈ L.map (·.2) → L' = L) → (k ∉ L.map (·.2) → L'.Perm ((b, k) :: L)) → Q .non (upd H a (MSet P w a L'))
theorem mt_addM (hu : X.A.units + 64 < cLine) : MtR X "set.add" (rAddM X.K X.prog X.w) := by
  intro pins s σ H x xs v us Q I rx rxs ⟨a, b, k, L, e1, e2, ha, hb, hL, few, q⟩
  subst e1 e2
  cases rx
  cases rxs with
  | cons ry rt =>
    cases rt
    cases ry
    obtain ⟨t, R⟩ := (I.hok a _ ha).1
    have hx := inv_isM I hb
    refine wpAny_call_entry F.slot_set_add R.typeIs F.entry_set_add ?_ (F.args_set_add_2 _ _)
    unfold Builtin.«set.add» Builtin.Frozenset.oneOther Builtin.Frozenset.addrOf setAdd
    simp only [List.isEmpty_nil, bind_assoc]
    refine wpAny_bind (wpAny_pure (wpAny_bind (wpAny_pure ?_)))
    try dsimp only
    refine wpAny_bind (wpAny_holding (wpAny_bind (wpAny_pyHash_tuple (knd := mixKind X.prog X.w) ?_ hx (add_m (s := { s with toks := s.toks + (k.length + 1) }) R (fun r hr => inv_isM I (hL r hr)) hx ?_ few fun b' h' L' t' sb R' y n => ?_))))
    · show X.A.units + 1 < cLine
      omega
    · show X.A.units + 1 < cLine
      omega
    · show wpAny _ _ (ret Value.none) _ _ _
      have ⟨o, _, ho, _⟩ := R'.it
      exact wpAny_pure ⟨_, rfl, .non, _, I.write (e := a) (t' := s.toks + (k.length + 1)) (by rw [ha]; trivial) (.inl rfl) (fun c u hc hu => (sb.2 c hc).trans hu) ⟨o, ho⟩ (mset_new R'), rfl, q L' y n⟩
/-- key in seen -/
def rInM (K : PySem.W.Frag) (P : Program) (w : World) : V → V → Hp → VK → Prop := fun x y H Q => ∃ (a b : Addr) (k : List Key) (L : List Mem), x = .ref b ∧ y = .ref a ∧ H a = some (MSet P w a L) ∧ SqT K H b (k.map kV) ∧
  (∀ r ∈ L, SqT K H r.1 (r.2.map kV)) ∧ Q (.bl (hasKey (L.map (·.2)) k)) H
theorem or_inM (hu : X.A.units + 64 < cLine) : OpR X (compareOp .In) (rInM X.K X.prog X.w) := by
  intro pins s σ H x y v u Q I rx ry ⟨a, b, k, L, e1, e2, ha, hb, hL, q⟩
  subst e1 e2
  cases rx
  cases ry
  obtain ⟨t, R⟩ := (I.hok a _ ha).1
  show wpAny _ _ (contains (.ref a) (.ref b) >>= fun z => pure (Value.bool z)) _ _ s
  exact wpAny_bind (has_m R (fun r hr => inv_isM I (hL r hr)) (inv_isM I hb) (by omega) fun n => wpAny_pure ⟨V.bl (hasKey (L.map fun r : Mem => r.2) k), H, I.tok _, rfl, q⟩)
end
end My


set_option Elab.async false
set_option linter.all false
set_option maxRecDepth 100000
/-! Defs called by name: f(k = v, ..), f(e, k = v, ..). -/
namespace My
open PySem PySem.Spec PyProof.Rows L2
abbrev fdN (x : Str) (st : Stmt) (kV doc pm : Value) (an : Option Addr) (cdv ct : Value) : FuncData := PySem.W.fnOf x x (C8.fnArgs st) (C8.fnBody st) (C8.fnScope st) .none kV doc pm an cdv ct
/-- a def without defaults -/
def DefK (K : PySem.W.Frag) (mg : Str → Option Value) (x : Str) (st : Stmt) (ps : List Str) : Prop := ∃ (f : Addr) (fd : FuncData), C8.Def K mg x st f fd ∧ Binds K fd ps [] ∧ fd.defaults = .none
theorem DefK.b {K : PySem.W.Frag} {mg : Str → Option Value} {x : Str} {st : Stmt} {ps : List Str} (D : DefK K mg x st ps) : DefB K mg x st ps := by
  obtain ⟨f, fd, F, b, _⟩ := D
  exact ⟨f, fd, F, b⟩
structure CalK (P : Program) (w : World) (K : PySem.W.Frag) (mg : Str → Option Value) (base : Heap) (k : Nat) (x : Str) (st : Stmt) (ps : List Str) (sp : Sp) : Prop where
  ex : ∃ (f : Addr) (kV doc pm : Value) (an : Option Addr) (cdv ct : Value), FnOk P w K mg base CX0 k f (fdN x st kV doc pm an cdv ct) ps sp ∧ mg x = some (.ref f) ∧ PySem.W.keepIn K (.ref f) = true ∧ Binds K (fdN x st kV doc pm an cdv ct) ps []
section
variable {P : Program} {w : World} {K : PySem.W.Frag} {mg : Str → Option Value} {base : Heap} {x : Str} {st : Stmt} {ps N : List Str} {k : Nat} {sp : Sp}
theorem CalK.cal (c : CalK P w K mg base k x st ps sp) : C8.Cal P w K mg base k x sp [] := by
  obtain ⟨f, kV, doc, pm, an, cdv, ct, F, m, kp, b⟩ := c.ex
  exact ⟨f, _, ps, [], F, m, kp, b, .nil⟩
theorem calK {ps : List Str} (D : DefK K mg x st ps) (S : FnScope N ps (C8.fnScope st)) (len : ∀ vs H Q E, sp vs H Q E → vs.length = ps.length)
    (hbody : ∀ (f : Addr) (cdv : Value) (A : Around) (outer : List Env) (s : Shared) (H : Hp) (vs : List V) (Q : VK) (E : XK), Room k (A.deeper (envOfC x (C8.fnScope st) s.heap.objs.size f cdv)) → sp vs H Q E →
      ∃ t, PSs (cxOf CX0 P w K mg base N x (C8.fnScope st) f cdv A outer s H E).nox (C8.fnBody st) t ∧ t { nx := fun _ H' => Q .non H', rt := Q } (start N vs) H) : CalK P w K mg base (k + 1) x st ps sp := by
  obtain ⟨f, fd, F, b, df⟩ := D
  have G := C8.fn0 (P := P) (w := w) (mg := mg) (base := base) F.fn S len (hbody f)
  obtain ⟨oc, od, dV, kV, doc, pm, an, cdv, ct, osl, e, lk, hcd⟩ := F.fn.ex
  subst e
  have e2 : dV = .none := df
  subst e2
  exact ⟨f, kV, doc, pm, an, cdv, ct, G, F.mgf, F.kp, b⟩
end
/-- n values by place, then those of the names ks, in the order of the parameters -/
def KwOf (x : Str) (st : Stmt) (ps : List Str) (n : Nat) (ks : List Str) : Prop := ∀ (kV doc pm : Value) (an : Option Addr) (cdv ct : Value) (us ws : List Value), us.length = n → ws.length = ks.length →
  bindArgs (fdN x st kV doc pm an cdv ct) ⟨us, ks.zip ws⟩ = pure (ps.zip (us ++ ws))
section
variable {X : Cx} {k j n : Nat} {x : Str} {st : Stmt} {ps ks : List Str} {sp : Sp} {p pos : Pos} {e : Expr} {es : List Expr} {kws : List Keyword} {t tk : TA}
theorem kbn {K : PySem.W.Frag} {kV doc pm : Value} {an : Option Addr} {cdv ct : Value} (h : KwOf x st ps n ks) : KBn K (fdN x st kV doc pm an cdv ct) ps n ks (fun us ws => us ++ ws) (fun vs zs => vs ++ zs) :=
  ⟨fun s us ws _ l1 l2 => .of_eq (h kV doc pm an cdv ct us ws l1 l2), fun r r2 => r.append r2⟩
theorem pe_ckN (c : CalK X.prog X.w X.K X.mg X.base k x st ps sp) (kb : KwOf x st ps n ks) (hr : Room j X.A) (hk : k ≤ j) (hg : Gl X x) (ha : PA X (e :: es) t) (hkw : PK X kws tk)
    (hall : (backToKw pos (keywordEach kws X.env)).all (·.1.isSome) = true := by rfl) (hks : (backToKw pos (keywordEach kws X.env)).filterMap (·.1) = ks := by rfl) (hdb : (x == ("__debug__" : Str)) = false := by decide)
    (he : starEach (e :: es) X.env = (false, eval e X.env) :: starEach es X.env := by rfl) (hpl : ((backTo pos (starEach (e :: es) X.env)).any (·.1) || (backToKw pos (keywordEach kws X.env)).any (·.1.isNone)) = false := by rfl) :
    PE X (.Call (.Name x p) (e :: es) kws pos) (tCallN n ks.length sp (fun vs zs => vs ++ zs) C8.E0 t tk) := by
  obtain ⟨f, kV, doc, pm, an, cdv, ct, F, m, kp, b⟩ := c.ex
  exact pe_callN F (hr.mono hk) hg m kp (kbn kb) pass0 ha hkw hall hks hdb he hpl
def tCallN0 (m : Nat) (sp : Sp) (tk : TA) : TE := fun σ H Q => tk σ H fun zs H2 => zs.length = m ∧ sp zs H2 Q C8.E0
theorem pe_ck0 (c : CalK X.prog X.w X.K X.mg X.base k x st ps sp) (kb : KwOf x st ps 0 ks) (hr : Room j X.A) (hk : k ≤ j) (hg : Gl X x) (hkw : PK X kws tk)
    (hall : (backToKw pos (keywordEach kws X.env)).all (·.1.isSome) = true := by rfl) (hks : (backToKw pos (keywordEach kws X.env)).filterMap (·.1) = ks := by rfl) (hdb : (x == ("__debug__" : Str)) = false := by decide)
    (hpl : ((backTo pos (starEach [] X.env)).any (·.1) || (backToKw pos (keywordEach kws X.env)).any (·.1.isNone)) = false := by rfl) : PE X (.Call (.Name x p) [] kws pos) (tCallN0 ks.length sp tk) := by
  obtain ⟨f, kV, doc, pm, an, cdv, ct, F, m, kp, b⟩ := c.ex
  refine ⟨fun pins s σ H Q I h => wpAny_Call_Name_kw (ld_glob I hg m ?_ hdb)⟩
  refine PySem.W.callWith_KW0 (h₀ := X.base) I.ok.mod.kin kp hall (thn (hkw.run pos pins s σ H _ I h) fun ws s2 ⟨zs, H2, I2, rz, l2, q2⟩ => ⟨I2.kIn, ?_⟩) hpl
  rw [hks]
  exact run_fnN F (hr.mono hk) (kbn kb) pass0 I2 .nil rz rfl l2 q2
end
end My


set_option Elab.async false
set_option linter.all false
set_option maxRecDepth 100000
/-! What parts of a law share: items drawn one by one, right parts. -/
namespace My
open PySem PySem.Spec PyProof.Rows L2
/-- a part of the law: it draws m times at most, and is right -/
def spRight (m : Nat) : Sp := fun vs H Q _ => ∃ (p c : Addr) (n : Nat), vs = [.ref p] ∧ Well H p c (n + m) ∧ ∀ H', Keep p H H' → Well H' p c n → Q (.bl true) H'
theorem iteN {c : Bool} {a b : Prop} (h : c = false) (hb : b) : if c = true then a else b := by
  rw [h]
  exact iteF hb
theorem iteY {c : Bool} {a b : Prop} (h : c = true) (ha : a) : if c = true then a else b := by
  rw [h]
  exact iteT ha
theorem chainV {f g : Int → Int → Bool} {i j : Nat} {σ : L2.St} {H : Hp} {Q : VK} {a b c : Int} (h1 : σ[i]? = some (some (.int a))) (h3 : σ[j]? = some (some (.int c))) (q : Q (.bl (f a b && g b c)) H) :
    tChain (rI0 fun i j => .bl (f i j)) (rI0 fun i j => .bl (g i j)) (tVar i) (tC (.int b)) (tVar j) σ H Q := by
  refine ⟨_, h1, a, b, rfl, rfl, _, rfl, ?_⟩
  cases e : f a b with
  | true =>
    rw [e] at q
    exact iteT ⟨_, h3, b, c, rfl, rfl, q⟩
  | false =>
    rw [e] at q
    exact iteF q
theorem dp_blsA {K : PySem.W.Frag} {H : Hp} : ∀ bs : List Bool, DpAll K H (bs.map V.bl) (bs.map PyData.bool)
  | [] => .nil
  | b :: bs => .cons (.bl b) (dp_blsA bs)
theorem eqv_blsA : ∀ as bs : List Bool, PyData.eqvAll (as.map PyData.bool) (bs.map PyData.bool) = decide (as = bs)
  | [], [] => by simp [PyData.eqvAll]
  | [], b :: bs => by simp [PyData.eqvAll]
  | a :: as, [] => by simp [PyData.eqvAll]
  | a :: as, b :: bs => by
    simp only [List.map_cons, PyData.eqvAll, PyData.eqv, eqv_blsA as bs]
    cases a <;> cases b <;> simp
theorem Well.upd {H : Hp} {p c D : Addr} {n : Nat} {o : HO} (w : Well H p c n) (np : p ≠ D) (nc : c ≠ D) : Well (upd H D o) p c n := by
  obtain ⟨cells, t, r, h1, h2, h3⟩ := w
  exact ⟨cells, t, r, by rw [upd_ne np]; exact h1, by rw [upd_ne nc]; exact h2, h3⟩
theorem room200 {k : Nat} {A : Around} (r : Room k A) : A.units + 200 < cLine := by
  have := r.un
  omega
/-- x in a tuple of nested data -/
def rInT (K : PySem.W.Frag) : R2 := fun x y H Q => ∃ d ds, Dp K H x d ∧ Dp K H y (.tuple ds) ∧ SeqAt.shaped d = true ∧ SeqAt.shaped (.tuple ds) = true ∧ Q (.bl (ds.any fun z => PyData.eqv z d)) H
theorem op_inT {X : Cx} (hu : X.A.units + 200 < cLine) : OpR X (compareOp .In) (rInT X.K) := by
  intro pins s σ H x y v u Q I rx ry ⟨d, ds, hd, he, sd, se, q⟩
  obtain ⟨as, r1⟩ := Dp.reads I d x v hd rx
  obtain ⟨bs, r2⟩ := Dp.reads I (.tuple ds) y u he ry
  have dd : d.depth ≤ 64 := by
    have z := sd
    unfold SeqAt.shaped at z
    exact of_decide_eq_true ((Bool.and_eq_true _ _).mp z).2
  refine SeqAt.in_tuple_reads r2 r1 ?_ ?_ (by omega) ⟨.bl _, H, I, rfl, q⟩
  · have z := se
    unfold SeqAt.shaped at z
    have z2 := ((Bool.and_eq_true _ _).mp z).1
    simpa only [PyData.canLay0] using z2
  · have z := sd
    unfold SeqAt.shaped at z
    exact ((Bool.and_eq_true _ _).mp z).1
/-- a comprehension over a range, each item drawn -/
theorem lc_draw {lo : Int} {n : Nat} {g : TG} {te : TE} {vs : List Nat} {σ : L2.St} {H1 : Hp} {D p c : Addr} {d r : Nat} {Qd : Hp → Prop} (R : Nat → V → Prop) (hD : H1 D = none) (hn : n ≤ 100000) (W : Well H1 p c (r + n * d))
    (hs : ∀ (i : Nat) (m : Nat) (H : Hp) (Kc : V → Hp → Prop), i < n → Keep p H1 H → Well H p c (m + d) → (∀ y H4, R i y → Keep p H H4 → Well H4 p c m → Kc y H4) → g (.int (lo + i)) (wipe σ vs) H fun σ2 H2 => wipe σ2 vs = wipe σ vs ∧ te σ2 H2 Kc)
    (hd : ∀ acc H, Keep p H1 H → Well H p c r → H D = some (.lst acc) → acc.length = n → (∀ (j : Nat) (y : V), acc[j]? = some y → R j y) → Qd H) :
    ∃ W : Nat → Nat → Hp → Prop, (∃ m, W 0 m (upd H1 D (.lst []))) ∧ ∀ i m H, W i m H →
      ((Itr lo n).stop i H ∧ Qd H) ∨ ((Itr lo n).go i H ∧ ∃ Nx : Hp → Prop, (∀ H', Nx H' → ∃ m', m' < m ∧ W (i + 1) m' H') ∧ ∀ x H', (Itr lo n).yld i H x H' → g x (wipe σ vs) H' fun σ2 H2 => wipe σ2 vs = wipe σ vs ∧ tYes σ2 H2 fun b H3 =>
        if b = true then te σ2 H3 fun y H4 => ∃ acc, H4 D = some (.lst acc) ∧ acc.length < sizeLine ∧ Nx (upd H4 D (.lst (acc ++ [y]))) else Nx H3) := by
  obtain ⟨cells, t, r0, hp, hc, _⟩ := id W
  have np : p ≠ D := ne_of_none hp hD
  have nc : c ≠ D := ne_of_none hc hD
  refine lc_range (lo := lo) (n := n) (fun i H => Keep p H1 H ∧ Well H p c (r + (n - i) * d) ∧ ∃ acc, H D = some (.lst acc) ∧ acc.length = i ∧ ∀ (j : Nat) (y : V), acc[j]? = some y → R j y) ⟨Keep.of (same_new hD _), W.upd np nc, [], upd_same, rfl, fun j y h => by simp at h⟩ ?_ ?_
  · rintro i H hi ⟨k, w, acc, hacc, len, all⟩
    have e : r + (n - i) * d = (r + (n - (i + 1)) * d) + d := by
      have : n - i = (n - (i + 1)) + 1 := by omega
      rw [this, Nat.add_mul, Nat.one_mul, Nat.add_assoc]
    rw [e] at w
    refine hs i _ H _ hi k w fun y H4 ry k4 w4 => ?_
    have h4 := k4 _ _ hacc np.symm
    refine ⟨acc, h4, Nat.lt_of_lt_of_le (by omega : acc.length < 100001) (by decide), fun b o hb nb => ?_, w4.upd np nc, _, upd_same, by rw [List.length_append, len]; rfl, fun j z hz => ?_⟩
    · rw [upd_ne (ne_of_none hb hD)]
      exact k4 _ _ (k _ _ hb nb) nb
    · by_cases lt : j < acc.length
      · rw [List.getElem?_append_left lt] at hz
        exact all j z hz
      · rw [List.getElem?_append_right (by omega)] at hz
        have ej : j - acc.length = 0 := by
          cases q0 : j - acc.length with
          | zero => rfl
          | succ m => rw [q0] at hz; simp at hz
        rw [ej] at hz
        cases hz
        have : j = i := by omega
        rw [this]
        exact ry
  · rintro H ⟨k, w, acc, hacc, len, all⟩
    rw [Nat.sub_self, Nat.zero_mul, Nat.add_zero] at w
    exact hd acc H k w hacc len all
/-- a comprehension over enumerate(a list): P tells what is made so far -/
theorem lc_enumL {K : PySem.W.Frag} {a : Addr} {xs : List V} {g : TG} {tt : TT} {te : TE} {vs : List Nat} {σ : L2.St} {H1 : Hp} {D : Addr} {Qd : Hp → Prop} (P : Nat → List V → Prop) (hx : SqL K H1 a xs) (hD : H1 D = none) (hz : xs.length ≤ 100000) (h0 : P 0 [])
    (hs : ∀ (i : Nat) (x : V) (acc : List V) (T : Addr) (H : Hp) (Kc : V → Hp → Prop) (Nc : Hp → Prop), xs[i]? = some x → Same H1 H → H T = none → P i acc →
      (∀ y H4, Same (upd H T (.tup [.int (i : Nat), x])) H4 → P (i + 1) (acc ++ [y]) → Kc y H4) → (∀ H4, Same (upd H T (.tup [.int (i : Nat), x])) H4 → P (i + 1) acc → Nc H4) →
      g (.ref T) (wipe σ vs) (upd H T (.tup [.int (i : Nat), x])) fun σ2 H2 => wipe σ2 vs = wipe σ vs ∧ tt σ2 H2 fun b H3 => if b = true then te σ2 H3 Kc else Nc H3)
    (hd : ∀ acc H, Same H1 H → H D = some (.lst acc) → P xs.length acc → Qd H) :
    ∃ W : Nat → Nat → Hp → Prop, (∃ m, W 0 m (upd H1 D (.lst []))) ∧ ∀ i m H, W i m H →
      ((Ite K a).stop i H ∧ Qd H) ∨ ((Ite K a).go i H ∧ ∃ Nx : Hp → Prop, (∀ H', Nx H' → ∃ m', m' < m ∧ W (i + 1) m' H') ∧ ∀ x H', (Ite K a).yld i H x H' → g x (wipe σ vs) H' fun σ2 H2 => wipe σ2 vs = wipe σ vs ∧ tt σ2 H2 fun b H3 =>
        if b = true then te σ2 H3 fun y H4 => ∃ acc, H4 D = some (.lst acc) ∧ acc.length < sizeLine ∧ Nx (upd H4 D (.lst (acc ++ [y]))) else Nx H3) := by
  refine ⟨fun i m H => m = xs.length - i ∧ i ≤ xs.length ∧ Same H1 H ∧ ∃ acc, H D = some (.lst acc) ∧ acc.length ≤ i ∧ P i acc, ⟨_, rfl, Nat.zero_le _, same_new hD _, [], upd_same, Nat.le_refl _, h0⟩, fun i m H h => ?_⟩
  obtain ⟨em, hi, e, acc, hacc, len, pa⟩ := h
  by_cases lt : i < xs.length
  · refine .inr ⟨⟨xs, xs[i], e.seq hx, List.getElem?_eq_getElem lt⟩, fun H' => Same H1 H' ∧ ∃ acc, H' D = some (.lst acc) ∧ acc.length ≤ i + 1 ∧ P (i + 1) acc, fun H' n => ⟨xs.length - (i + 1), by omega, rfl, lt, n⟩, fun v H' y => ?_⟩
    obtain ⟨T, x, ev, nT, eH, hxs⟩ := y
    subst ev eH
    have e2 := same_new nT (.tup [.int (i : Nat), x])
    refine hs i x acc T H _ _ (hxs xs (e.seq hx)) e nT pa (fun y H4 e4 p4 => ?_) fun H4 e4 p4 => ⟨(e.trans e2).trans e4, acc, e4 _ _ (e2 _ _ hacc), by omega, p4⟩
    refine ⟨acc, e4 _ _ (e2 _ _ hacc), Nat.lt_of_lt_of_le (by omega : acc.length < 100001) (by decide), fun b o hb => ?_, _, upd_same, by rw [List.length_append]; show _ + 1 ≤ _; omega, p4⟩
    rw [upd_ne (ne_of_none hb hD)]
    exact ((e.trans e2).trans e4) b o hb
  · have ei : i = xs.length := by omega
    subst ei
    exact .inl ⟨⟨xs, e.seq hx, Nat.le_refl _⟩, hd acc H e hacc pa⟩
mutual
theorem dp_same {K : PySem.W.Frag} {H H' : Hp} (e : Same H H') : ∀ {v : V} {d : PyData}, Dp K H v d → Dp K H' v d
  | _, _, .non => .non
  | _, _, .bl b => .bl b
  | _, _, .int i => .int i
  | _, _, .str x => .str x
  | _, _, .lst h a => .lst (e.seq h) (dpAll_same e a)
  | _, _, .tup h a => .tup (same_seqT e h) (dpAll_same e a)
theorem dpAll_same {K : PySem.W.Frag} {H H' : Hp} (e : Same H H') : ∀ {vs : List V} {ds : List PyData}, DpAll K H vs ds → DpAll K H' vs ds
  | _, _, .nil => .nil
  | _, _, .cons a r => .cons (dp_same e a) (dpAll_same e r)
end
theorem get_snoc {α : Type} {acc : List α} {x y : α} {j : Nat} (h : (acc ++ [x])[j]? = some y) : acc[j]? = some y ∨ (j = acc.length ∧ y = x) := by
  by_cases lt : j < acc.length
  · rw [List.getElem?_append_left lt] at h
    exact .inl h
  · rw [List.getElem?_append_right (by omega)] at h
    cases e : j - acc.length with
    | zero =>
      rw [e] at h
      cases h
      exact .inr ⟨by omega, rfl⟩
    | succ m =>
      rw [e] at h
      simp at h
end My


set_option Elab.async false
set_option linter.all false
set_option maxRecDepth 100000
/-! Defs that are called where no repr is under way. -/
namespace My
open PySem PySem.Spec PyProof.Rows L2
/-- no repr of a container is under way -/
def NG (A : Around) : Prop := A.guards = some []
theorem NG.caller : NG callerA := rfl
theorem NG.deeper {A : Around} (h : NG A) (e : Env) : NG (A.deeper e) := by
  have h : A.guards = some [] := h
  show (A.deeper e).guards = some []
  first
    | exact h
    | (unfold Around.deeper; exact h)
    | (unfold Around.deeper; simp [h])
/-- a def's promise there -/
structure FnG (P : Program) (w : World) (K : PySem.W.Frag) (mg : Str → Option Value) (base : Heap) (k : Nat) (f : Addr) (fd : FuncData) (ps : List Str) (sp : Sp) : Prop where
  len : ∀ vs H Q E, sp vs H Q E → vs.length = ps.length
  run : ∀ (A : Around) (outer : List Env) (s : Shared) (H : Hp) (args : Args) (us : List Value) (vs : List V) (Q : VK) (E : XK), NG A → Room k A → Env0 P w K mg base A outer s H → BindsTo s fd args (ps.zip us) → Vals vs us → sp vs H Q E →
    codeAny (model P w) A (.call (.ref f) args) (CR CX0 outer P w H s Q E) s
section
variable {P : Program} {w : World} {K : PySem.W.Frag} {mg : Str → Option Value} {base : Heap}
theorem fnG {f : Addr} {name qual : Str} {params : Arguments} {body : List Stmt} {scope : Scope} {dV kV doc pm cdv ct oc : Value} {an od : Option Addr} {osl : Array (Option Value)} {N ps : List Str} {sp : Sp} {k : Nat}
    (lk : K.lookup f = some ⟨oc, od, .func (PySem.W.fnOf name qual params body scope dV kV doc pm an cdv ct), osl⟩) (hcd : PySem.W.codeIn K cdv qual = true) (S : FnScope N ps scope) (len : ∀ vs H Q E, sp vs H Q E → vs.length = ps.length)
    (hbody : ∀ (A : Around) (outer : List Env) (s : Shared) (H : Hp) (vs : List V) (Q : VK) (E : XK), NG A → Room k (A.deeper (envOfC qual scope s.heap.objs.size f cdv)) → sp vs H Q E →
      ∃ t, PSs (cxOf CX0 P w K mg base N qual scope f cdv A outer s H E).nox body t ∧ t { nx := fun _ H' => Q .non H', rt := Q } (start N vs) H) : FnG P w K mg base (k + 1) f (PySem.W.fnOf name qual params body scope dV kV doc pm an cdv ct) ps sp := by
  refine ⟨len, fun A outer s H args us vs Q E ng hr e0 hb r hsp => ?_⟩
  have stay : ∀ b o, base.get? b = some o → s.heap.get? b = some o := fun b o e => (e0.bs b o e).1
  have inS : K.In s.heap := e0.mod.kin.keeps stay
  refine codeAny_call_function hr.depth (inS _ _ lk) rfl S.co S.gen rfl (PySem.W.codeRec_of inS hcd) (hb _ _ _ _ (wpAny_newFunctionEnv_cells S.kind (fun y hy => ?_) fun env he s1 x => ?_))
  · exact (S.par y.1 (List.of_mem_zip (by exact hy)).1).elim .inl fun z => .inr ⟨z, PySem.W.cellsFrom_some _ _ _ (.inl z)⟩
  subst he
  refine ⟨(e0.mod.nolimit.keeps stay).keeps x.toInCall.keep, codeAny_func ?_⟩
  obtain ⟨t, ht, hq⟩ := hbody A outer s H vs Q E ng (hr.deeper _) hsp
  have J0 : Inv (cxOf CX0 P w K mg base N qual scope f cdv A outer s H E) [] (start N vs) H s1 := inv_start S hr.hd e0 (len _ _ _ _ hsp) r x
  refine wpAny_mono (ht.nox.run [] s1 (start N vs) H _ J0 hq) (fun fl s' back => ?_) fun _ _ back => back
  cases fl with
  | ret u =>
    obtain ⟨v, σ', H', J, rv, q⟩ := back
    exact ⟨v, H', J.os, J.bare, J.base, J.hok, rv, q⟩
  | next =>
    obtain ⟨σ', H', J, q⟩ := back
    exact ⟨.non, H', J.os, J.bare, J.base, J.hok, rfl, q⟩
  | brk => exact back.elim fun _ z => z.elim fun _ z => z.2.elim
  | cont => exact back.elim fun _ z => z.elim fun _ z => z.2.elim
end
section
variable {X : Cx} {k j : Nat} {x : Str} {f : Addr} {fd : FuncData} {ps : List Str} {sp : Sp} {p pos : Pos} {e : Expr} {es : List Expr} {t : TA}
theorem pe_cG (F : FnG X.prog X.w X.K X.mg X.base k f fd ps sp) (b : Binds X.K fd ps []) (hm : X.mg x = some (.ref f)) (kp : PySem.W.keepIn X.K (.ref f) = true) (ng : NG X.A) (hr : Room j X.A) (hk : k ≤ j) (hg : Gl X x) (ha : PA X (e :: es) t)
    (hdb : (x == ("__debug__" : Str)) = false := by decide) (he : starEach (e :: es) X.env = (false, eval e X.env) :: starEach es X.env := by rfl) (hpl : (backTo pos (starEach es X.env)).any (·.1) = false := by rfl) :
    PE X (.Call (.Name x p) (e :: es) [] pos) (tCall sp [] C8.E0 t) := by
  refine ⟨fun pins s σ H Q I h => wpAny_Call_Name_kw (ld_glob I hg hm ?_ hdb)⟩
  refine PySem.W.callWith_K (h₀ := X.base) I.ok.mod.kin kp (thn (ha.run pos pins s σ H _ I h) fun us s1 ⟨vs, H1, I1, r, q⟩ => ⟨I1.kIn, ?_⟩) he hpl
  have hl : (us ++ []).length = ps.length := by
    rw [← F.len _ _ _ _ q, List.append_nil, List.append_nil]
    exact r.length.symm
  refine wpAny_call (codeAny_mono (F.run X.A X.stack s1 H1 ⟨us, []⟩ (us ++ []) (vs ++ []) Q C8.E0 ng (hr.mono hk) I1.env0 (b s1 us I1.kIn hl) (r.append .nil) q) fun r s' back => ?_)
  cases r with
  | error er => exact pass0 pins σ H1 s1 er s' I1 back
  | ok fl =>
    cases fl with
    | ret u => exact I1.after back
    | _ => exact False.elim back
end
/-- the script as what is tracked at the beginning (or nothing, if it is one of the module's own) -/
theorem start_hp {P : Program} {w : World} {K : PySem.W.Frag} {h : Heap} {a : Addr} {vs : List Value} {ns : List Int} (KX : K.In h) (ha : h.get? a = some { cls := .type "list", data := .seq vs.toArray }) (hi : IntsAre vs ns) (hl : ns.length ≤ sizeLine) :
    ∃ H : Hp, Only H ∧ SqL K H a (ns.map V.int) ∧ HOk P w H h ∧ (∀ b, H b ≠ none → b = a) ∧ (H a ≠ none → K.lookup a = none) := by
  have rv := vals_ints hi
  have lv := hi.length
  cases hk : K.lookup a with
  | some o =>
    have e := KX a o hk
    rw [ha] at e
    cases e
    exact ⟨fun _ => none, fun _ => .inl rfl, .inr ⟨_, vs.toArray, _, hk, rfl, rfl, rfl, by rw [List.size_toArray, lv]; exact hl, by simpa using rv⟩, (fun b u z => nomatch z), (fun b z => absurd rfl z), fun z => absurd rfl z⟩
  | none =>
    let f : HO := .frz { cls := .type "list", data := .seq vs.toArray } (.lst (ns.map V.int))
    have at_a : (fun b => if b = a then some f else none : Hp) a = some f := if_pos rfl
    have off : ∀ b, b ≠ a → (fun b => if b = a then some f else none : Hp) b = none := fun b n => if_neg n
    refine ⟨fun b => if b = a then some f else none, fun b => ?_, .inl (.inr ⟨_, at_a⟩), fun b u z => ?_, fun b z => ?_, fun _ => rfl⟩
    · rcases Classical.em (b = a) with e | e
      · exact .inr ⟨_, _, by rw [e]; exact at_a⟩
      · exact .inl (off b e)
    · rcases Classical.em (b = a) with e | e
      · subst e
        rw [at_a] at z
        cases z
        exact ⟨ha, by rw [List.length_map]; exact hl, vs, _, rv, ha⟩
      · rw [off b e] at z
        cases z
    · rcases Classical.em (b = a) with e | e
      · exact e
      · exact absurd (off b e) z
theorem law_callG {P : Program} {w : World} {K : PySem.W.Frag} {mg mb : Str → Option Value} {k : Nat} {fa a : Addr} {fd : FuncData} {x : Str} {sp : Sp} {s₁ : Shared} {vs : List Value} {ns : List Int}
    (KX : K.In s₁.heap) (hns : s₁.heap.Ns mainGlobals mg) (hb : s₁.heap.Ns builtinsNs mb) (hbb : ∀ x : Str, x ≠ "__name__" → mb x = bootBuiltins x) (hlim : s₁.heap.NoLimit) (hg : s₁.gens = #[])
    (ha : s₁.heap.get? a = some { cls := .type "list", data := .seq vs.toArray }) (hi : IntsAre vs ns) (hl : ns.length ≤ sizeLine) (hr : Room k callerA)
    (F : ∀ base : Heap, K.In base → base.Ns mainGlobals mg → FnG P w K mg base k fa fd [x] sp) (hbind : ∀ (s : Shared) (u : Value), BindsTo s fd ⟨[u], []⟩ [(x, u)])
    (hsp : ∀ H : Hp, Only H → SqL K H a (ns.map V.int) → sp [.ref a] H (fun v _ => v = .bl true) fun _ _ _ => False) :
    codeAny (model P w) callerA (.call (.ref fa) ⟨[.ref a], []⟩) (fun r s' => r = .ok (.ret (.bool true)) ∧ OldK s₁.heap s'.heap ∧ s'.os = s₁.os ∧ AllBare s'.gens) s₁ := by
  obtain ⟨H, hO, hS, hok, hA, hK⟩ := start_hp (P := P) (w := w) KX ha hi hl
  have put : ∀ {b : Addr} {o : Obj}, s₁.heap.get? b = some o → H b = none → (hidT s₁.heap H).get? b = some o := fun e n => hidT_get e n
  have free : ∀ {b : Addr}, b ≠ a → H b = none := fun {b} n => by
    cases q : H b with
    | none => rfl
    | some u => exact absurd (hA b (by rw [q]; simp)) n
  have nsOf : ∀ {b : Addr} {m : Str → Option Value}, s₁.heap.Ns b m → (hidT s₁.heap H).Ns b m := fun {b m} ⟨o, es, ep, e, d, r⟩ => by
    refine ⟨o, es, ep, put e (free fun z => ?_), d, r⟩
    subst z
    rw [ha] at e
    cases e
    cases d
  have inB : K.In (hidT s₁.heap H) := fun b o e => put (KX b o e) (by
    rcases Classical.em (b = a) with z | z
    · subst z
      cases q : H b with
      | none => rfl
      | some u =>
        rw [hK (by rw [q]; simp)] at e
        cases e
    · exact free z)
  have mod : Mod K mg (hidT s₁.heap H) := ⟨inB, nsOf hns, ⟨mb, nsOf hb, hbb⟩, by obtain ⟨mc, h1, h2⟩ := hlim; exact ⟨mc, nsOf h1, h2⟩⟩
  have e0 : Env0 P w K mg (hidT s₁.heap H) callerA [] s₁ H := ⟨rfl, mod, fun b o e => of_hidT e, Nat.le_of_eq (hidT_size _ _), trivial, (fun b hb => by simp [frs] at hb), hok, .of_eq hg⟩
  refine codeAny_mono ((F _ inB (nsOf hns)).run callerA [] s₁ H ⟨[.ref a], []⟩ [.ref a] [.ref a] _ _ NG.caller hr e0 (hbind s₁ (.ref a)) (.cons rfl .nil) (hsp H hO hS)) fun r s' back => ?_
  cases r with
  | error e => exact back.elim
  | ok fl =>
    cases fl with
    | ret u =>
      obtain ⟨v, H', os, bare, un, hok', rv, q⟩ := back
      have q : v = .bl true := q
      subst q
      have eu : u = Value.bool true := rv
      subst eu
      refine ⟨rfl, OldK.of_keep fun b o e => ?_, os, bare⟩
      cases q2 : H b with
      | none => exact un.keep b o e q2 (by simp [frs]) (by simp)
      | some u =>
        rcases hO b with z | ⟨ob, xs, z⟩
        · rw [q2] at z
          cases z
        · obtain ⟨e1, _⟩ := hok b _ z
          obtain ⟨e2, _⟩ := hok' b _ (un.frzs b ob _ z)
          rw [e] at e1
          cases e1
          exact e2
    | _ => exact False.elim back
theorem walkG {l : PySem.W.OpenLaw} {n k : Nat} {q : Program} {loose : List Str} {XP : (Str → Option Value) → Heap → Prop} {YP : World → Heap → Prop} {d : DefRec} {K : Params → PySem.W.Frag} {sp : World → Sp} {x : Str} (hn : l.most = some n) (hn2 : n ≤ sizeLine) (hdf : d.params.defaults = []) (hr : Room k callerA)
    (hY : ∀ (w : World) (h : Heap), YP w h → (K w.params).In h)
    (F : ∀ (w : World) (mg : Str → Option Value) (fa : Addr) (h : Heap), (K w.params).In h → h.Ns mainGlobals mg → mg d.name = some (.ref fa) →
      ∃ fd : FuncData, (∀ (s : Shared) (u : Value), BindsTo s fd ⟨[u], []⟩ [(x, u)]) ∧ ∀ base : Heap, (K w.params).In base → base.Ns mainGlobals mg → FnG l.prog w (K w.params) mg base k fa fd [x] (sp w))
    (hsp : ∀ (w : World) (H : Hp) (a : Addr) (ns : List Int), ns.length ≤ n → Only H → SqL (K w.params) H a (ns.map V.int) → sp w [.ref a] H (fun v _ => v = .bl true) fun _ _ _ => False) :
    PySem.W.WalkO q loose XP YP l.row.toRowW d [] (fun f vs => PySem.call f vs) := by
  refine Att.attach_call hn hdf fun w s₀ s₁ mg mb fa o pm cd doc a vs ns G Y ho hd hcd hmg hobj hints hlen hg => ?_
  have KX := hY w _ Y
  obtain ⟨fd, hb, hF⟩ := F w mg fa _ KX G.T.g hmg
  exact law_callG KX G.T.g G.T.b G.T.builtins G.T.nolimit hg hobj hints (Nat.le_trans hlen hn2) hr hF hb fun H hO hS => hsp w H a ns hlen hO hS
theorem repr_ints {P : Program} {w : World} : ∀ {ns : List Int} {us : List Value}, Vals (ns.map V.int) us → (∀ i ∈ ns, i.natAbs.log2 < 1920) → ReprAll P w us (ns.map fun i => (toString i : String))
  | [], _, .nil, _ => .nil
  | n :: ns, _, .cons r t, h => by
    obtain ⟨tk, rfl⟩ := r
    exact .cons (ReprIs.int tk (h n List.mem_cons_self)) (repr_ints t fun i hi => h i (List.mem_cons_of_mem _ hi))
/-- repr of a tuple of small integers, where no repr is under way -/
def rReprT (K : PySem.W.Frag) : List V → Hp → VK → Prop := fun xs H Q => ∃ (a : Addr) (ns : List Int), xs = [.ref a] ∧ SqT K H a (ns.map V.int) ∧ (∀ i ∈ ns, i.natAbs.log2 < 1920) ∧ (tupleText (ns.map fun i => ((toString i : String) : Str))).length ≤ sizeLine ∧ Q (.str (tupleText (ns.map fun i => ((toString i : String) : Str)))) H
theorem cr_reprT {X : Cx} (ng : NG X.A) (hu : X.A.units + 64 < cLine) : CallR X (.builtin "repr") (rReprT X.K) := by
  intro pins s σ H xs us Q I r ⟨a, ns, e, h, sm, sz, q⟩
  subst e
  cases r with
  | cons r1 r2 =>
    cases r2
    cases r1
    obtain ⟨its, rv, ⟨o, ho, hc, n, hd⟩, _⟩ := I.tuple h
    refine call_repr_slot (by omega) ⟨o, ho, hc⟩ F.slot_tuple_repr (call_tuple_repr (g := []) ⟨o, ho, hc⟩ ?_ (fun c hc => nomatch hc) ho hd (by simpa using repr_ints rv sm) (fun u tk => ⟨_, _, rfl, .str _, H, ?_, ⟨_, rfl⟩, q⟩) sz)
    · exact ng
    · exact I.tok tk
end My


set_option Elab.async false
set_option linter.all false
/-! Terms and conditions counted, and how many are enough. -/
namespace My
def nT (k s : Int) : Int := if s < 0 then 0 else (s / (k - 1) + 1) * (s + 1) - (k - 1) * (s / (k - 1) * (s / (k - 1) + 1) / 2)
def cond1 (r : Int) : Int := r * (r + 1) / 2
def conds (rs : List Int) : Int := (rs.map cond1).sum
def sqs (ws : List Int) : List Int := ws.map fun w => w * w
def Cm (ws : List Int) (m : Int) : Int := conds (ws.map fun w => m * w)
theorem even2 (P : Int) : 2 * (P * (P + 1) / 2) = P * (P + 1) := by
  rcases Int.emod_two_eq P with h | h
  · obtain ⟨q, rfl⟩ : ∃ q, P = 2 * q := ⟨P / 2, by omega⟩
    have e : 2 * q * (2 * q + 1) = 2 * (q * (2 * q + 1)) := by grind
    rw [e, Int.mul_ediv_cancel_left _ (by decide)]
  · obtain ⟨q, rfl⟩ : ∃ q, P = 2 * q + 1 := ⟨P / 2, by omega⟩
    have e : (2 * q + 1) * (2 * q + 1 + 1) = 2 * ((2 * q + 1) * (q + 1)) := by grind
    rw [e, Int.mul_ediv_cancel_left _ (by decide)]
theorem nT_big {k a : Int} (hk : 2 ≤ k) (ha : 1 ≤ a) : a * a < 2 * ((k - 1) * nT k (a - 1)) := by
  unfold nT
  rw [if_neg (by omega)]
  have hc : 1 ≤ k - 1 := by omega
  generalize k - 1 = c at hc
  have hP : 0 ≤ (a - 1) / c := Int.ediv_nonneg (by omega) (by omega)
  have e := Int.mul_ediv_add_emod (a - 1) c
  have r0 := Int.emod_nonneg (a - 1) (show c ≠ 0 by omega)
  have r1 := Int.emod_lt_of_pos (a - 1) (show 0 < c by omega)
  generalize (a - 1) % c = y at e r0 r1
  generalize (a - 1) / c = P at e hP
  have ev := even2 P
  generalize P * (P + 1) / 2 = T at ev
  have e1 : a - 1 + 1 = a := by omega
  rw [e1]
  obtain ⟨x, rfl⟩ : ∃ x, y = x - 1 := ⟨y + 1, by omega⟩
  have ea : a = c * P + x := by omega
  have h0 : 0 ≤ c * P := Int.mul_nonneg (by omega) hP
  have g : 2 * (c * ((P + 1) * a - c * T)) = (c * P + c) * (c * P + 2 * x) := by
    have : 2 * (c * ((P + 1) * a - c * T)) = 2 * c * (P + 1) * a - c * c * (2 * T) := by grind
    rw [this, ev, ea]
    grind
  rw [g, ea]
  have hx : 1 ≤ x := by omega
  have hxc : x ≤ c := by omega
  generalize c * P = Z at h0
  have h1 : (Z + c) * (Z + 2 * x) - (Z + x) * (Z + x) = c * Z + 2 * (c * x) - x * x := by grind
  have h2 : 0 ≤ c * Z := Int.mul_nonneg (by omega) h0
  have h3 : x * x ≤ c * x := Int.mul_le_mul_of_nonneg_right hxc (by omega)
  have h4 : 1 ≤ c * x := by
    have := Int.mul_le_mul (show 1 ≤ c by omega) hx (by omega) (by omega)
    omega
  omega
theorem nT_pos {k s : Int} (hk : 2 ≤ k) (hs : 0 ≤ s) : 1 ≤ nT k s := by
  have h := nT_big (a := s + 1) hk (by omega)
  rw [show s + 1 - 1 = s by omega] at h
  have h2 : 1 ≤ (s + 1) * (s + 1) := by
    have := Int.mul_le_mul (show 1 ≤ s + 1 by omega) (show 1 ≤ s + 1 by omega) (by omega) (by omega)
    omega
  rcases Int.lt_or_le (nT k s) 1 with n | n
  · have : (k - 1) * nT k s ≤ 0 := Int.mul_nonpos_of_nonneg_of_nonpos (by omega) (by omega)
    omega
  · exact n
theorem Cm_two (ws : List Int) (m : Int) : 2 * Cm ws m = m * m * (sqs ws).sum + m * ws.sum := by
  unfold Cm conds sqs
  induction ws with
  | nil => simp
  | cons w r ih =>
    simp only [List.map_cons, List.sum_cons] at ih ⊢
    rw [Int.mul_add, ih]
    have := even2 (m * w)
    unfold cond1
    rw [this]
    grind
theorem sum_lo : ∀ {ws : List Int}, (∀ w ∈ ws, 1 ≤ w) → (ws.length : Int) ≤ ws.sum ∧ (ws.length : Int) ≤ (sqs ws).sum
  | [], _ => by simp [sqs]
  | w :: r, h => by
    have i := sum_lo (ws := r) fun x m => h x (List.mem_cons_of_mem _ m)
    have b := h w List.mem_cons_self
    have b2 : 1 ≤ w * w := by
      have := Int.mul_le_mul b b (by omega) (by omega)
      omega
    unfold sqs at i ⊢
    simp only [List.map_cons, List.sum_cons, List.length_cons]
    omega
theorem sum_hi : ∀ {ws : List Int}, (∀ w ∈ ws, 1 ≤ w ∧ w ≤ 3) → ws.sum ≤ 3 * (ws.length : Int) ∧ (sqs ws).sum ≤ 9 * (ws.length : Int)
  | [], _ => by simp [sqs]
  | w :: r, h => by
    have i := sum_hi (ws := r) fun x m => h x (List.mem_cons_of_mem _ m)
    have b := h w List.mem_cons_self
    have b2 : w * w ≤ 3 * 3 := Int.mul_le_mul b.2 b.2 (by omega) (by omega)
    unfold sqs at i ⊢
    simp only [List.map_cons, List.sum_cons, List.length_cons]
    omega
theorem Cm_mono {ws : List Int} (h : ∀ w ∈ ws, 1 ≤ w) {m m' : Int} (h0 : 0 ≤ m) (hm : m ≤ m') : Cm ws m ≤ Cm ws m' := by
  have a := Cm_two ws m
  have b := Cm_two ws m'
  have s := sum_lo h
  have m2 : m * m ≤ m' * m' := Int.mul_le_mul hm hm h0 (by omega)
  have p1 := Int.mul_le_mul_of_nonneg_right m2 (show 0 ≤ (sqs ws).sum by omega)
  have p2 := Int.mul_le_mul_of_nonneg_right hm (show 0 ≤ ws.sum by omega)
  omega
theorem Cm_nil (m : Int) : Cm [] m = 0 := rfl
theorem Cm_pos {ws : List Int} (h : ∀ w ∈ ws, 1 ≤ w) {m : Int} (h0 : 0 ≤ m) : 0 ≤ Cm ws m := by
  have := Cm_mono h (Int.le_refl 0) h0
  have a := Cm_two ws 0
  omega
theorem Cm_big {ws : List Int} (h : ∀ w ∈ ws, 1 ≤ w) (hn : ws ≠ []) {m : Int} (hm : 17 ≤ m) : 150 < Cm ws m := by
  have s := sum_lo h
  have l : 1 ≤ (ws.length : Int) := by
    have := List.length_pos_iff.mpr hn
    omega
  have a := Cm_two ws m
  have m2 : 17 * 17 ≤ m * m := Int.mul_le_mul hm hm (by omega) (by omega)
  have p1 := Int.mul_le_mul_of_nonneg_right m2 (show 0 ≤ (sqs ws).sum by omega)
  have p2 := Int.mul_le_mul_of_nonneg_right hm (show 0 ≤ ws.sum by omega)
  omega
/-- m is enough for t -/
def okM (k : Int) (ws : List Int) (t m : Int) : Prop := Cm ws m ≤ 150 ∧ Cm ws m < nT k (m * t - 1)
structure LeastM (k : Int) (ws : List Int) (t m : Int) : Prop where
  m1 : 1 ≤ m
  ok : okM k ws t m
  least : ∀ m', 1 ≤ m' → m' < m → ¬okM k ws t m'
def NoM (k : Int) (ws : List Int) (t : Int) : Prop := ∀ m, 1 ≤ m → ¬okM k ws t m
theorem bound_ok {k t m : Int} {ws : List Int} (hk : 2 ≤ k) (hw : ∀ w ∈ ws, 1 ≤ w) (t1 : 1 ≤ t) (m1 : 1 ≤ m) (h : (k - 1) * ws.sum ≤ m * (t * t - (k - 1) * (sqs ws).sum)) : Cm ws m < nT k (m * t - 1) := by
  have mt : 1 ≤ m * t := by
    have := Int.mul_le_mul m1 t1 (by omega) (by omega)
    omega
  have g := nT_big (k := k) (a := m * t) hk mt
  have a := Cm_two ws m
  have hc : 1 ≤ k - 1 := by omega
  generalize k - 1 = c at hc g h
  generalize (sqs ws).sum = W2 at a h
  generalize ws.sum = W1 at a h
  have h2 := Int.mul_le_mul_of_nonneg_left h (show 0 ≤ m by omega)
  have e1 : m * (m * (t * t - c * W2)) = m * t * (m * t) - c * (m * m * W2) := by grind
  have e2 : m * (c * W1) = c * (m * W1) := by grind
  have e3 : c * (2 * Cm ws m) = c * (m * m * W2) + c * (m * W1) := by rw [a]; grind
  have e4 : c * (2 * Cm ws m) < 2 * (c * nT k (m * t - 1)) := by omega
  have e5 : 2 * (c * nT k (m * t - 1)) = c * (2 * nT k (m * t - 1)) := by grind
  rw [e5] at e4
  have := Int.lt_of_mul_lt_mul_left e4 (by omega)
  omega
theorem at40 {k : Int} {ws : List Int} (hk : 2 ≤ k) (hk6 : k ≤ 6) (hw : ∀ w ∈ ws, 1 ≤ w ∧ w ≤ 3) (hl : ws.length ≤ 24) : okM k ws 40 1 := by
  have s := sum_hi hw
  have a := Cm_two ws 1
  have g := nT_big (k := k) (a := 40) hk (by decide)
  have e : Cm ws 1 ≤ 144 := by omega
  refine ⟨by omega, ?_⟩
  rw [show (1 : Int) * 40 - 1 = 39 by decide]
  rw [show (40 : Int) - 1 = 39 by decide] at g
  rcases Int.lt_or_le 144 (nT k 39) with n | n
  · omega
  · have := Int.mul_le_mul (show k - 1 ≤ 5 by omega) n (by have := nT_pos (k := k) (s := 39) hk (by decide); omega) (by omega)
    omega
theorem Cm_eq (ws : List Int) (m : Int) : Cm ws m = (m * m * (sqs ws).sum + m * ws.sum) / 2 := by
  rw [← Cm_two]
  omega
/-- the m of the bound -/
theorem bound_m {c t W1 W2 : Int} (hc1 : 1 ≤ c) (hc5 : c ≤ 5) (h10 : 0 ≤ W1) (h11 : W1 ≤ 72) (h20 : 0 ≤ W2) (h21 : W2 ≤ 216) (ho : 0 < t * t - c * W2) :
    ∃ M : Int, (if (c * W1 + (t * t - c * W2) - 1) / (t * t - c * W2) > 1 then (c * W1 + (t * t - c * W2) - 1) / (t * t - c * W2) else 1) = M ∧ 1 ≤ M ∧ M ≤ 361 ∧ c * W1 ≤ M * (t * t - c * W2) ∧ (t = 40 → M = 1) := by
  have p1 : c * W1 ≤ 5 * 72 := Int.mul_le_mul hc5 h11 h10 (by decide)
  have p0 : 0 ≤ c * W1 := Int.mul_nonneg (by omega) h10
  have p2 : c * W2 ≤ 5 * 216 := Int.mul_le_mul hc5 h21 h20 (by decide)
  have p40 : t = 40 → 520 ≤ t * t - c * W2 := fun e => by
    subst e
    omega
  generalize t * t - c * W2 = ov at ho p40
  generalize c * W1 = X at p1 p0
  have e := Int.mul_ediv_add_emod (X + ov - 1) ov
  have r0 := Int.emod_nonneg (X + ov - 1) (show ov ≠ 0 by omega)
  have r1 := Int.emod_lt_of_pos (X + ov - 1) ho
  generalize (X + ov - 1) % ov = y at e r0 r1
  have d0 : 0 ≤ (X + ov - 1) / ov := Int.ediv_nonneg (by omega) (by omega)
  generalize (X + ov - 1) / ov = q at e d0
  have q1 : q ≤ 361 := by
    rcases Int.lt_or_le 361 q with h | h
    · have := Int.mul_le_mul (show (1 : Int) ≤ ov by omega) (show 362 ≤ q by omega) (by decide) (by omega)
      have z : ov * q ≤ X + ov - 1 := by omega
      have z2 : ov * 362 ≤ ov * q := Int.mul_le_mul_of_nonneg_left (by omega) (by omega)
      omega
    · exact h
  refine ⟨_, rfl, ?_, ?_, ?_, fun h => ?_⟩
  · split <;> omega
  · split <;> omega
  · have c1 : ov * q = q * ov := Int.mul_comm _ _
    split
    · omega
    · rename_i h
      have : q ≤ 1 := by omega
      have z : q * ov ≤ 1 * ov := Int.mul_le_mul_of_nonneg_right this (by omega)
      omega
  · have := p40 h
    split
    · rename_i h2
      have z2 : ov * 2 ≤ ov * q := Int.mul_le_mul_of_nonneg_left (by omega) (by omega)
      omega
    · rfl
theorem LeastM.le {k t m m' : Int} {ws : List Int} (h : LeastM k ws t m) (h1 : 1 ≤ m') (h2 : okM k ws t m') : m ≤ m' := by
  rcases Int.lt_or_le m' m with n | n
  · exact absurd h2 (h.least m' h1 n)
  · exact n
end My


set_option Elab.async false
set_option linter.all false
set_option maxRecDepth 100000
set_option maxHeartbeats 2000000
/-! Rows that no reading reaches; len of an own class; comprehensions over any walk, one or two of them. -/
namespace My
open PySem PySem.Spec PyProof.Rows L2
section
variable {X : Cx}
theorem ps_dead {st : Stmt} : PS X st (fun _ _ _ => False) := ⟨fun _ _ _ _ _ _ h => False.elim h⟩
theorem pss_dead {st : List Stmt} : PSs X st (fun _ _ _ => False) := ⟨fun _ _ _ _ _ _ h => False.elim h⟩
/-- what the written part says of the class with an own __len__ -/
structure OwnLen (K : PySem.W.Frag) (C f : Addr) : Prop where
  fi : PySem.W.findIn K (.ref C) "__len__" = some (some (.ref f))
  ft : PySem.W.typeIn K (.ref f) = some (.type "function")
def rLenOwn (C : Addr) (sp : Sp) : List V → Hp → VK → Prop := fun xs H Q => ∃ (a dx : Addr) (fs : List (Str × V)), xs = [.ref a] ∧ H a = some (.ins C dx fs) ∧ sp [.ref a] H (fun v H' => ∃ n : Int, v = .int n ∧ 0 ≤ n ∧ n < 2 ^ 63 ∧ Q (.int n) H') (fun _ _ _ => False)
theorem cr_lenOwn {C f : Addr} {fd : FuncData} {ps : List Str} {n j : Nat} {sp : Sp} (F : FnOk X.prog X.w X.K X.mg X.base CX0 n f fd ps sp) (O : OwnLen X.K C f) (b : Binds X.K fd ps []) (hr : Room j X.A) (hj : n + 1 ≤ j) : CallR X (.builtin "len") (rLenOwn C sp) := by
  intro pins s σ H xs us Q I r h
  obtain ⟨a, dx, fs, rfl, ha, q⟩ := h
  obtain ⟨u, rfl, rx⟩ := vals1 r
  cases rx
  obtain ⟨mA, J, _⟩ := ins_get I.hok ha
  obtain ⟨od, J, _⟩ := J.look
  have room : Sub X n X.A.in1 := Sub.in1 ⟨hr.mono hj, rfl⟩
  have e0 : Env0 X.prog X.w X.K X.mg X.base X.A.in1 X.stack s H := { I.env0 with frames := (by rw [room.fr]; exact I.env0.frames) }
  have hl := F.len _ _ _ _ q
  have hb := b s [.ref a] I.kIn (by simpa using hl)
  rw [List.append_nil] at hb
  have run : wpAny (model X.prog X.w) X.A.in1 (call (.ref f) [.ref a]) (fun r s' => ∃ n t, r = .int n t ∧ 0 ≤ n ∧ n < 2 ^ 63 ∧ ∃ H', Inv X pins σ H' s' ∧ Q (.int n) H') X.xe s := by
    refine wpAny_call (codeAny_mono (F.run X.A.in1 X.stack s H ⟨[.ref a], []⟩ [.ref a] [.ref a] _ (fun _ _ _ => False) room.room e0 hb (.cons rfl .nil) q) fun r s' back => ?_)
    cases r with
    | error e => exact False.elim back
    | ok fl =>
      cases fl with
      | ret u =>
        obtain ⟨v, H', J, rv, n, ev, n0, n1, q⟩ := I.after back
        subst ev
        obtain ⟨t, eu⟩ := (show ∃ t, u = Value.int n t from rv)
        exact ⟨n, t, by rw [eu], n0, n1, H', J, q⟩
      | next => exact False.elim back
      | brk => exact False.elim back
      | cont => exact False.elim back
  refine Calls.call_function_entry kind_len plain_len entry_len (args_len1 _) ?_
  unfold Builtin.«len»
  refine wpAny_bind (m := oneArg "len" _) (wpAny_pure ?_)
  refine wpAny_bind (m := callSpecial? (.ref a) (Str.ofString "__len__")) (PySem.W.special_fn I.kIn J O.fi O.ft (wpAny_mono run (fun r s' hr => ?_) fun _ _ y => y))
  obtain ⟨n, t, rfl, h0, h1, H', J, hq⟩ := hr
  refine wpAny_bind (wpAny_holding (wpAny_pure ?_))
  refine wpAny_bind (wpAny_letGo ?_)
  show wpAny _ _ (if n < 0 then _ else _) _ _ _
  rw [if_neg (by omega)]
  show wpAny _ _ (if n ≥ 2 ^ 63 then _ else _) _ _ _
  rw [if_neg (by omega)]
  exact wpAny_bind (wpAny_mkInt (wpAny_pure ⟨_, rfl, .int n, H', J.tok _, ⟨_, rfl⟩, hq⟩))
end
theorem seqL_ins {K : PySem.W.Frag} {H : Hp} {a C dx l : Addr} {fs gs : List (Str × V)} {xs : List V} (ha : H a = some (.ins C dx fs)) (h : SqL K H l xs) : SqL K (upd H a (.ins C dx gs)) l xs := by
  rcases h with (h | ⟨o, h⟩) | h
  · exact .inl (.inl (by rw [upd_ne (ne_of h ha (fun z => nomatch z))]; exact h))
  · exact .inl (.inr ⟨o, by rw [upd_ne (ne_of h ha (fun z => nomatch z))]; exact h⟩)
  · exact .inr h
theorem seqT_ins {K : PySem.W.Frag} {H : Hp} {a C dx l : Addr} {fs gs : List (Str × V)} {xs : List V} (ha : H a = some (.ins C dx fs)) (h : SqT K H l xs) : SqT K (upd H a (.ins C dx gs)) l xs := by
  rcases h with (h | ⟨o, h⟩) | h
  · exact .inl (.inl (by rw [upd_ne (ne_of h ha (fun z => nomatch z))]; exact h))
  · exact .inl (.inr ⟨o, by rw [upd_ne (ne_of h ha (fun z => nomatch z))]; exact h⟩)
  · exact .inr h
theorem walk_zipT {K : PySem.W.Frag} {a b : Addr} {xs ys : List V} {n : Nat} (hn : n = min xs.length ys.length) : Walk (RZ.ItzT K a b) n (fun H => SqT K H a xs ∧ SqT K H b ys) (YPair (fun i => xs[i]?) (fun i => ys[i]?)) := by
  subst hn
  refine ⟨fun i _ hi q => ?_, fun _ q => ⟨xs, ys, q.1, q.2, by omega⟩, fun i H v H' _ q y => ?_⟩
  · have h1 : i < xs.length := by omega
    have h2 : i < ys.length := by omega
    exact ⟨xs, ys, xs[i], ys[i], q.1, q.2, by simp [h1], by simp [h2]⟩
  · obtain ⟨T, x, z, h1, h2, h3, h4, h5⟩ := y
    exact ⟨T, x, z, h1, h2, h3, h4 xs q.1, h5 ys q.2⟩
theorem yat_same {xs : List V} (i : Nat) (H : Hp) (x : V) (H' : Hp) (h : YAt xs i H x H') : Same H H' := by
  rw [h.1]
  exact Same.refl _
theorem ypair_same {xs ys : Nat → Option V} (i : Nat) (H : Hp) (x : V) (H' : Hp) (h : YPair xs ys i H x H') : Same H H' := by
  obtain ⟨T, x, y, _, hT, rfl, _⟩ := h
  exact same_new hT _
theorem yfn_same {f : Nat → V} (i : Nat) (H : Hp) (x : V) (H' : Hp) (h : YFn f i H x H') : Same H H' := by
  rw [h.1]
  exact Same.refl _
theorem lc_accW {J : It} {n : Nat} {G : Hp → Prop} {Y : Nat → Hp → V → Hp → Prop} (w : Walk J n G Y) {g : TG} {tt : TT} {te : TE} {vs : List Nat} {σ : L2.St} {H1 : Hp} {D : Addr} {Qd : Hp → Prop} (P : Nat → List V → Hp → Prop)
    (hG : ∀ H, Same H1 H → G H) (hY : ∀ i H x H', Y i H x H' → Same H H') (hD : H1 D = none) (hz : n ≤ 100000)
    (mono : ∀ i acc H H', Keep D H H' → P i acc H → P i acc H') (h0 : P 0 [] H1)
    (hs : ∀ (i : Nat) (x : V) (acc : List V) (H H' : Hp) (Kc : V → Hp → Prop) (Nc : Hp → Prop), i < n → Same H1 H → H D = some (.lst acc) → P i acc H → Y i H x H' → (∀ y H4, Same H' H4 → P (i + 1) (acc ++ [y]) H4 → Kc y H4) → (∀ H4, Same H' H4 → P (i + 1) acc H4 → Nc H4) →
      g x (wipe σ vs) H' fun σ2 H2 => wipe σ2 vs = wipe σ vs ∧ tt σ2 H2 fun b H3 => if b = true then te σ2 H3 Kc else Nc H3)
    (hd : ∀ acc H, Same H1 H → H D = some (.lst acc) → acc.length ≤ n → P n acc H → Qd H) :
    ∃ W : Nat → Nat → Hp → Prop, (∃ m, W 0 m (upd H1 D (.lst []))) ∧ ∀ i m H, W i m H →
      (J.stop i H ∧ Qd H) ∨ (J.go i H ∧ ∃ Nx : Hp → Prop, (∀ H', Nx H' → ∃ m', m' < m ∧ W (i + 1) m' H') ∧ ∀ x H', J.yld i H x H' → g x (wipe σ vs) H' fun σ2 H2 => wipe σ2 vs = wipe σ vs ∧ tt σ2 H2 fun b H3 =>
        if b = true then te σ2 H3 fun y H4 => ∃ acc, H4 D = some (.lst acc) ∧ acc.length < sizeLine ∧ Nx (upd H4 D (.lst (acc ++ [y]))) else Nx H3) := by
  refine lc_it w (fun i H => ∃ acc, Same H1 H ∧ H D = some (.lst acc) ∧ acc.length ≤ i ∧ P i acc H) ⟨[], same_new hD _, upd_same, Nat.le_refl _, mono _ _ _ _ (Keep.of (same_new hD _)) h0⟩ (fun i H _ ⟨acc, e, _⟩ => hG H e) ?_ (fun H ⟨acc, e, h, hl, p⟩ => hd acc H e h hl p)
  rintro i x H H' hi ⟨acc, e, h, hl, p⟩ y
  have eY := hY i H x H' y
  refine hs i x acc H H' _ _ hi e h p y (fun z H4 e4 p4 => ?_) (fun H4 e4 p4 => ⟨acc, e.trans (eY.trans e4), e4 _ _ (eY _ _ h), by omega, p4⟩)
  refine ⟨acc, e4 _ _ (eY _ _ h), Nat.lt_of_lt_of_le (by omega : acc.length < 100001) (by decide), acc ++ [z], fun b o hb => ?_, upd_same, by rw [List.length_append, List.length_singleton]; omega, mono _ _ _ _ Keep.refl.upd p4⟩
  rw [upd_ne (ne_of_none hb hD)]
  exact e4 _ _ (eY _ _ (e b o hb))
theorem lc2_accW {J : It} {n : Nat} {G : Hp → Prop} {Y : Nat → Hp → V → Hp → Prop} (w : Walk J n G Y) {g g1 : TG} {tt tt1 : TT} {te : TE} {wi1 : TI} {vs vs1 : List Nat} {σ : L2.St} {H1 : Hp} {D : Addr} {Qd : Hp → Prop} (P : Nat → Nat → List V → Hp → Prop)
    (hG : ∀ H, Same H1 H → G H) (hY : ∀ i H x H', Y i H x H' → Same H H') (hD : H1 D = none) (hz : ∀ i j acc H, P i j acc H → acc.length ≤ 100000)
    (mono : ∀ i j acc H H', Keep D H H' → P i j acc H → P i j acc H') (h0 : P 0 0 [] H1)
    (hs : ∀ (i : Nat) (x : V) (acc : List V) (H H' : Hp) (R : L2.St → It → Hp → Prop) (Nc : Hp → Prop), i < n → Same H1 H → H D = some (.lst acc) → P i 0 acc H → Y i H x H' →
      (∀ (σ2 : L2.St) (J1 : It) (m : Nat) (G1 : Hp → Prop) (Y1 : Nat → Hp → V → Hp → Prop) (H4 : Hp), Walk J1 m G1 Y1 → Same H' H4 → (∀ H, Keep D H4 H → G1 H) → (∀ i H x H', Y1 i H x H' → Same H H') →
        (∀ (j : Nat) (y : V) (acc : List V) (H5 H6 : Hp) (Kc : V → Hp → Prop) (Nc : Hp → Prop), j < m → Keep D H4 H5 → Same H1 H5 → H5 D = some (.lst acc) → P i j acc H5 → Y1 j H5 y H6 → (∀ u H7, Same H6 H7 → P i (j + 1) (acc ++ [u]) H7 → Kc u H7) → (∀ H7, Same H6 H7 → P i (j + 1) acc H7 → Nc H7) →
          g1 y (wipe σ2 vs1) H6 fun σ3 H7 => wipe σ3 vs1 = wipe σ2 vs1 ∧ tt1 σ3 H7 fun b H8 => if b = true then te σ3 H8 Kc else Nc H8) →
        (∀ acc H, P i m acc H → P (i + 1) 0 acc H) → R σ2 J1 H4) → (∀ H4, Same H' H4 → P (i + 1) 0 acc H4 → Nc H4) →
      g x (wipe σ vs) H' fun σ2 H2 => wipe σ2 vs = wipe σ vs ∧ tt σ2 H2 fun b H3 => if b = true then wi1 σ2 H3 (R σ2) else Nc H3)
    (hd : ∀ acc H, Same H1 H → H D = some (.lst acc) → P n 0 acc H → Qd H) :
    ∃ W : Nat → Nat → Hp → Prop, (∃ m, W 0 m (upd H1 D (.lst []))) ∧ ∀ i m H, W i m H →
      (J.stop i H ∧ Qd H) ∨ (J.go i H ∧ ∃ Nx : Hp → Prop, (∀ H', Nx H' → ∃ m', m' < m ∧ W (i + 1) m' H') ∧ ∀ x H', J.yld i H x H' → g x (wipe σ vs) H' fun σ2 H2 => wipe σ2 vs = wipe σ vs ∧ tt σ2 H2 fun b H3 =>
        if b = true then wi1 σ2 H3 fun J1 H4 => ∃ W1 : Nat → Nat → Hp → Prop, (∃ m, W1 0 m H4) ∧ ∀ j k H, W1 j k H →
          (J1.stop j H ∧ Nx H) ∨ (J1.go j H ∧ ∃ Nx1 : Hp → Prop, (∀ H', Nx1 H' → ∃ k', k' < k ∧ W1 (j + 1) k' H') ∧ ∀ x H', J1.yld j H x H' → g1 x (wipe σ2 vs1) H' fun σ3 H5 => wipe σ3 vs1 = wipe σ2 vs1 ∧ tt1 σ3 H5 fun b H6 =>
            if b = true then te σ3 H6 fun y H7 => ∃ acc, H7 D = some (.lst acc) ∧ acc.length < sizeLine ∧ Nx1 (upd H7 D (.lst (acc ++ [y]))) else Nx1 H6)
        else Nx H3) := by
  refine ⟨fun i m H => m = n - i ∧ i ≤ n ∧ ∃ acc, Same H1 H ∧ H D = some (.lst acc) ∧ P i 0 acc H, ⟨n, by simp, Nat.zero_le _, [], same_new hD _, upd_same, mono _ _ _ _ _ (Keep.of (same_new hD _)) h0⟩, ?_⟩
  rintro i m H ⟨rfl, hi, acc, e, h, p⟩
  by_cases lt : i < n
  · refine .inr ⟨w.goes i H lt (hG H e), fun H' => ∃ acc, Same H1 H' ∧ H' D = some (.lst acc) ∧ P (i + 1) 0 acc H', fun H' nx => ⟨n - (i + 1), by omega, rfl, lt, nx⟩, fun x H' y => ?_⟩
    have y := w.yields i H x H' lt (hG H e) y
    have eY := hY i H x H' y
    refine hs i x acc H H' _ _ lt e h p y ?_ fun H4 e4 p4 => ⟨acc, e.trans (eY.trans e4), e4 _ _ (eY _ _ h), p4⟩
    intro σ2 J1 m1 G1 Y1 H4 w1 e4 hG1 hY1 inner last
    refine ⟨fun j k H => k = m1 - j ∧ j ≤ m1 ∧ ∃ acc, Keep D H4 H ∧ Same H1 H ∧ H D = some (.lst acc) ∧ P i j acc H, ⟨m1, by simp, Nat.zero_le _, acc, Keep.refl, e.trans (eY.trans e4), e4 _ _ (eY _ _ h), mono _ _ _ _ _ (Keep.of (eY.trans e4)) p⟩, ?_⟩
    rintro j k H5 ⟨rfl, hj, acc5, k5, e5, h5, p5⟩
    by_cases lt1 : j < m1
    · refine .inr ⟨w1.goes j H5 lt1 (hG1 H5 k5), fun H' => ∃ acc, Keep D H4 H' ∧ Same H1 H' ∧ H' D = some (.lst acc) ∧ P i (j + 1) acc H', fun H' nx => ⟨m1 - (j + 1), by omega, rfl, lt1, nx⟩, fun y1 H6 yy => ?_⟩
      have yy := w1.yields j H5 y1 H6 lt1 (hG1 H5 k5) yy
      have eY1 := hY1 j H5 y1 H6 yy
      refine inner j y1 acc5 H5 H6 _ _ lt1 k5 e5 h5 p5 yy (fun z H7 e7 p7 => ?_) fun H7 e7 p7 => ⟨acc5, k5.trans (Keep.of (eY1.trans e7)), e5.trans (eY1.trans e7), e7 _ _ (eY1 _ _ h5), p7⟩
      refine ⟨acc5, e7 _ _ (eY1 _ _ h5), Nat.lt_of_le_of_lt (hz _ _ _ _ p5) (by decide), acc5 ++ [z], (k5.trans (Keep.of (eY1.trans e7))).upd, fun b o hb => ?_, upd_same, mono _ _ _ _ _ Keep.refl.upd p7⟩
      rw [upd_ne (ne_of_none hb hD)]
      exact e7 _ _ (eY1 _ _ (e5 b o hb))
    · have ej : j = m1 := by omega
      subst ej
      exact .inl ⟨w1.stops H5 (hG1 H5 k5), acc5, e5, h5, last _ _ p5⟩
  · have ei : i = n := by omega
    subst ei
    exact .inl ⟨w.stops H (hG H e), hd acc H e h p⟩
/-! ### lists or tuples -/
abbrev SqX (K : PySem.W.Frag) (H : Hp) (a : Addr) (xs : List V) : Prop := SqL K H a xs ∨ SqT K H a xs
theorem sqL_at {K : PySem.W.Frag} {H H' : Hp} {a : Addr} {xs : List V} (h : SqL K H a xs) (e : ∀ o, H a = some o → H' a = some o) : SqL K H' a xs := by
  rcases h with (h | ⟨o, h⟩) | h
  · exact .inl (.inl (e _ h))
  · exact .inl (.inr ⟨o, e _ h⟩)
  · exact .inr h
theorem sqT_at {K : PySem.W.Frag} {H H' : Hp} {a : Addr} {xs : List V} (h : SqT K H a xs) (e : ∀ o, H a = some o → H' a = some o) : SqT K H' a xs := by
  rcases h with (h | ⟨o, h⟩) | h
  · exact .inl (.inl (e _ h))
  · exact .inl (.inr ⟨o, e _ h⟩)
  · exact .inr h
theorem sqX_same {K : PySem.W.Frag} {H H' : Hp} {a : Addr} {xs : List V} (e : Same H H') (h : SqX K H a xs) : SqX K H' a xs := h.elim (fun h => .inl (e.seq h)) fun h => .inr (same_seqT e h)
theorem seqL_ki {K : PySem.W.Frag} {H H' : Hp} {a C dx l : Addr} {fs : List (Str × V)} {xs : List V} (ha : H a = some (.ins C dx fs)) (k : Keep a H H') (h : SqL K H l xs) : SqL K H' l xs := by
  rcases h with (h | ⟨o, h⟩) | h
  · exact .inl (.inl (k _ _ h (ne_of h ha (fun z => nomatch z))))
  · exact .inl (.inr ⟨o, k _ _ h (ne_of h ha (fun z => nomatch z))⟩)
  · exact .inr h
theorem seqT_ki {K : PySem.W.Frag} {H H' : Hp} {a C dx l : Addr} {fs : List (Str × V)} {xs : List V} (ha : H a = some (.ins C dx fs)) (k : Keep a H H') (h : SqT K H l xs) : SqT K H' l xs := by
  rcases h with (h | ⟨o, h⟩) | h
  · exact .inl (.inl (k _ _ h (ne_of h ha (fun z => nomatch z))))
  · exact .inl (.inr ⟨o, k _ _ h (ne_of h ha (fun z => nomatch z))⟩)
  · exact .inr h
theorem sqX_ki {K : PySem.W.Frag} {H H' : Hp} {a C dx l : Addr} {fs : List (Str × V)} {xs : List V} (ha : H a = some (.ins C dx fs)) (k : Keep a H H') (h : SqX K H l xs) : SqX K H' l xs := h.elim (fun h => .inl (seqL_ki ha k h)) fun h => .inr (seqT_ki ha k h)
/-- what is walked is a list or a tuple -/
def iX (K : PySem.W.Frag) (te : TE) : TI := fun σ H R => iList K te σ H R ∨ iTup K te σ H R
theorem pi_X {X : Cx} {tg e : Expr} {te : TE} (h : PE X e te) : PI X tg e (iX X.K te) := ⟨fun pins s σ H R I q => q.elim ((pi_list h).run pins s σ H R I) ((pi_tup h).run pins s σ H R I)⟩
theorem ix_go {K : PySem.W.Frag} {te : TE} {σ : L2.St} {H H0 H1 : Hp} {R : It → Hp → Prop} {a : Addr} {xs : List V} (hs : ∀ Q : VK, Q (.ref a) H1 → te σ H Q) (hx : SqX K H0 a xs) (e : ∀ o, H0 a = some o → H1 a = some o)
    (q : ∀ (J : It) (G : Hp → Prop), Walk J xs.length G (YAt xs) → (∀ H', (∀ o, H0 a = some o → H' a = some o) → G H') → R J H1) : iX K te σ H R := by
  rcases hx with hx | hx
  · exact .inl (hs _ ⟨a, rfl, ⟨_, sqL_at hx e⟩, q _ _ walk_list fun H' h => sqL_at hx h⟩)
  · exact .inr (hs _ ⟨a, rfl, ⟨_, sqT_at hx e⟩, q _ _ walk_tup fun H' h => sqT_at hx h⟩)
/-- the items of both lists belong together one by one -/
def Each {α : Type} (R : V → α → Prop) (xs : List V) (os : List α) : Prop := xs.length = os.length ∧ ∀ (i : Nat) (x : V) (o : α), xs[i]? = some x → os[i]? = some o → R x o
theorem Each.imp {α : Type} {R R' : V → α → Prop} {xs : List V} {os : List α} (h : Each R xs os) (f : ∀ x o, R x o → R' x o) : Each R' xs os := ⟨h.1, fun i x o hx ho => f _ _ (h.2 i x o hx ho)⟩
theorem Each.get {α : Type} {R : V → α → Prop} {xs : List V} {os : List α} (h : Each R xs os) {i : Nat} {x : V} (hx : xs[i]? = some x) : ∃ o, os[i]? = some o ∧ R x o := by
  have il := (List.getElem?_eq_some_iff.mp hx).1
  rw [h.1] at il
  have e := List.getElem?_eq_getElem il
  exact ⟨_, e, h.2 i x _ hx e⟩
theorem Each.nil {α : Type} {R : V → α → Prop} : Each R [] ([] : List α) := ⟨rfl, fun i x o h => by simp at h⟩
theorem Each.snoc {α : Type} {R : V → α → Prop} {xs : List V} {os : List α} {x : V} {o : α} (h : Each R xs os) (q : R x o) : Each R (xs ++ [x]) (os ++ [o]) := by
  refine ⟨by rw [List.length_append, List.length_append, h.1]; rfl, fun i y z hy hz => ?_⟩
  rcases get_snoc hy with hy | ⟨ei, rfl⟩
  · rcases get_snoc hz with hz | ⟨ej, rfl⟩
    · exact h.2 i y z hy hz
    · have := (List.getElem?_eq_some_iff.mp hy).1
      have := h.1
      omega
  · rcases get_snoc hz with hz | ⟨ej, rfl⟩
    · have := (List.getElem?_eq_some_iff.mp hz).1
      have := h.1
      omega
    · exact q
theorem flat_snoc {α : Type} {ys : List (List α)} {i : Nat} {y : List α} (h : ys[i]? = some y) : (ys.take (i + 1)).flatten = (ys.take i).flatten ++ y := by
  obtain ⟨il, e⟩ := List.getElem?_eq_some_iff.mp h
  rw [List.take_succ_eq_append_getElem il, List.flatten_append, e]
  simp
/-- what stands ahead of the j-th of the i-th row -/
def pre {α : Type} (ys : List (List α)) (i j : Nat) : List α := (ys.take i).flatten ++ (ys.getD i []).take j
theorem pre_zero {α : Type} (ys : List (List α)) : pre ys 0 0 = [] := by simp [pre]
theorem pre_end {α : Type} (ys : List (List α)) : pre ys ys.length 0 = ys.flatten := by simp [pre]
theorem pre_snoc {α : Type} {ys : List (List α)} {i j : Nat} {y : List α} {z : α} (hy : ys[i]? = some y) (hz : y[j]? = some z) : pre ys i (j + 1) = pre ys i j ++ [z] := by
  unfold pre
  rw [List.getD_eq_getElem?_getD, hy, Option.getD_some, List.append_assoc]
  congr 1
  obtain ⟨il, e⟩ := List.getElem?_eq_some_iff.mp hz
  rw [List.take_succ_eq_append_getElem il, e]
theorem pre_row {α : Type} {ys : List (List α)} {i : Nat} {y : List α} (hy : ys[i]? = some y) : pre ys i y.length = pre ys (i + 1) 0 := by
  unfold pre
  rw [List.getD_eq_getElem?_getD, hy, Option.getD_some, List.take_length, flat_snoc hy, List.take_zero, List.append_nil]
theorem pre_len {α : Type} (ys : List (List α)) (i j : Nat) : (pre ys i j).length ≤ 2 * ys.flatten.length := by
  unfold pre
  rw [List.length_append, List.length_take]
  have a : (ys.take i).flatten.length ≤ ys.flatten.length := by
    have e : ys.flatten = (ys.take i).flatten ++ (ys.drop i).flatten := by rw [← List.flatten_append, List.take_append_drop]
    rw [e, List.length_append]
    omega
  have b : (ys.getD i []).length ≤ ys.flatten.length := by
    rw [List.getD_eq_getElem?_getD]
    cases h : ys[i]? with
    | none => simp
    | some y =>
      have e : ys.flatten = (ys.take (i + 1)).flatten ++ (ys.drop (i + 1)).flatten := by rw [← List.flatten_append, List.take_append_drop]
      rw [e, flat_snoc h, List.length_append, List.length_append, Option.getD_some]
      omega
  omega
theorem flat_mem {α : Type} {ys : List (List α)} {y : List α} (h : y ∈ ys) : y.length ≤ ys.flatten.length := by
  obtain ⟨i, hi, e⟩ := List.getElem_of_mem h
  have h2 : ys[i]? = some y := List.getElem?_eq_some_iff.mpr ⟨hi, e⟩
  have e2 : ys.flatten = (ys.take (i + 1)).flatten ++ (ys.drop (i + 1)).flatten := by rw [← List.flatten_append, List.take_append_drop]
  rw [e2, flat_snoc h2, List.length_append, List.length_append]
  omega
theorem take_snoc {α : Type} {os : List α} {i : Nat} {o : α} (h : os[i]? = some o) : os.take (i + 1) = os.take i ++ [o] := by
  obtain ⟨il, e⟩ := List.getElem?_eq_some_iff.mp h
  rw [List.take_succ_eq_append_getElem il, e]
/-! ### rules within a comprehension: the written part is named -/
section
variable {X : Cx} {K : PySem.W.Frag}
theorem pe_fldK (hK : X.K = K) {e : Expr} {f : Str} {pos : Pos} {ta : TE} (he : PE X e ta) (hb : attributeBase e f X.env (eval e X.env) = eval e X.env) : PE X (.Attribute e f pos) (tFld K ta f) := by
  subst hK
  exact pe_fld he hb
def rLenS (K : PySem.W.Frag) : List V → Hp → VK → Prop := fun xs H Q => ∃ p ys, xs = [.ref p] ∧ (SqL K H p ys ∨ SqT K H p ys) ∧ Q (.int ys.length) H
theorem call_lenK (hK : X.K = K) : CallR X (.builtin "len") (rLenS K) := by
  subst hK
  exact call_len_seq
theorem cr_allK (hK : X.K = K) (hc : X.calm = true) : CallR X (.builtin "all") (rAll K) := by
  subst hK
  exact cr_all hc
theorem cr_anyK (hK : X.K = K) (hc : X.calm = true) : CallR X (.builtin "any") (rAny K) := by
  subst hK
  exact cr_any hc
theorem cr_sumK (hK : X.K = K) (hc : X.calm = true) : CallR X (.builtin "sum") (rSum K) := by
  subst hK
  exact cr_sum hc
def rTupOf (K : PySem.W.Frag) : List V → Hp → VK → Prop := fun xs H Q => ∃ p ys, xs = [.ref p] ∧ ((SqL K H p ys ∧ ∀ l, H l = none → Q (.ref l) (upd H l (.tup ys))) ∨ (SqT K H p ys ∧ Q (.ref p) H))
theorem call_tupK (hK : X.K = K) : CallR X (.type "tuple") (rTupOf K) := by
  subst hK
  exact call_tuple_of
theorem cr_sortK (hK : X.K = K) (hr : CallR X (.builtin "sorted") (rSortedPO X.K)) : CallR X (.builtin "sorted") (rSortedPO K) := by
  subst hK
  exact hr
theorem ix_tupK (hK : X.K = K) : IxR X (rIxT K) := by
  subst hK
  exact ix_tup
theorem ix_listK (hK : X.K = K) : IxR X (rIxL K) := by
  subst hK
  exact ix_list
end
end My


set_option Elab.async false
set_option linter.all false
set_option maxRecDepth 100000
namespace My
open PySem PySem.Spec PyProof.Rows L2
def topS (i : Nat) : Stmt := PySem.Challenge.pw_allnear_k36_some_m_is_enough.main.body.getD i (.Pass ⟨0, 0, 0, 0⟩)
structure Txt (K : PySem.W.Frag) (mg : Str → Option Value) : Prop where
  b_ValueError : mg "ValueError" = none
  b_abs : mg "abs" = none
  b_all : mg "all" = none
  b_any : mg "any" = none
  b_bool : mg "bool" = none
  b_enumerate : mg "enumerate" = none
  b_int : mg "int" = none
  b_isinstance : mg "isinstance" = none
  b_len : mg "len" = none
  b_list : mg "list" = none
  b_max : mg "max" = none
  b_min : mg "min" = none
  b_range : mg "range" = none
  b_reversed : mg "reversed" = none
  b_set : mg "set" = none
  b_sorted : mg "sorted" = none
  b_staticmethod : mg "staticmethod" = none
  b_str : mg "str" = none
  b_sum : mg "sum" = none
  b_tuple : mg "tuple" = none
  b_zip : mg "zip" = none
abbrev s__law_pen : Stmt := topS 88
abbrev N__law_pen : List Str := ["script", "cell"]
abbrev P__law_pen : List Str := ["script"]
theorem sc__law_pen : FnScope N__law_pen P__law_pen (C8.fnScope s__law_pen) := C8.fnScope_by (by decide +kernel)
abbrev s__law_draw : Stmt := topS 89
abbrev N__law_draw : List Str := ["pen", "many", "at", "cell", "mixed", "rest"]
abbrev P__law_draw : List Str := ["pen", "many"]
theorem sc__law_draw : FnScope N__law_draw P__law_draw (C8.fnScope s__law_draw) := C8.fnScope_by (by decide +kernel)
abbrev s__law_pick : Stmt := topS 90
abbrev N__law_pick : List Str := ["pen", "some"]
abbrev P__law_pick : List Str := ["pen", "some"]
theorem sc__law_pick : FnScope N__law_pick P__law_pick (C8.fnScope s__law_pick) := C8.fnScope_by (by decide +kernel)
section
variable {P : Program} {w : World} {K : PySem.W.Frag} {mg : Str → Option Value} {base : Heap}
theorem ok__law_pick {k : Nat} (T : Txt K mg) (D : DefB K mg "_law_pick" s__law_pick P__law_pick) (c__law_draw : C8.Cal P w K mg base k "_law_draw" spPail []) : C8.Cal P w K mg base (k + 1) "_law_pick" (spOf K) [] := by
  refine calB D sc__law_pick (fun vs H Q E h => ?_) (fun f cdv A outer s H vs Q E hr h => ?_)
  · obtain ⟨p, c, l, n, xs, rfl, _⟩ := h
    rfl
  obtain ⟨p, c, l, n, xs, rfl, W, hl, hne, h0, h1, q⟩ := h
  refine ⟨_, (pss_one (ps_ret (pe_ix ix_list (pv 1) (C8.pe_c c__law_draw hr (Nat.le_refl _) (by rfl) (pa_cons (pv 0) (pa_cons (pe_callB call_len_seq (by rfl) T.b_len (by decide +kernel) (pa_cons (pv 1) pa_nil)) pa_nil))) (fun _ _ => rfl)))), ?_⟩
  refine ⟨_, rfl, _, rfl, _, rfl, l, xs, rfl, .inl hl, p, c, n, _, rfl, W, by omega, by omega, fun z H' z0 z1 kp W' => ?_⟩
  obtain ⟨v, hv, hm⟩ := at_int (xs := xs) z0 z1
  exact ⟨l, xs, z, v, rfl, rfl, kp.seqL hl hne, hv, q v H' hm kp W'⟩
theorem ok__law_draw {k : Nat} (T : Txt K mg) (D : DefB K mg "_law_draw" s__law_draw P__law_draw) : C8.Cal P w K mg base (k + 1) "_law_draw" spPail [] := by
  refine calB D sc__law_draw (fun vs H Q E h => ?_) (fun f cdv A outer s H vs Q E hr h => ?_)
  · obtain ⟨p, c, n, m, rfl, _⟩ := h
    rfl
  obtain ⟨p, c, n, m, rfl, W, m0, m1, q⟩ := h
  refine ⟨_, (pss_cons (ps_if (pt_cmpR op_gt (pe_ix ix_list (pv 0) pe_int (fun _ _ => rfl)) pe_int (nomark _)) (pss_cons (ps_set (i := 5) sc__law_draw.nd rfl (Or.inl rfl) (pe_ix ix_list (pv 0) pe_int (fun _ _ => rfl)))
    (pss_cons (ps_asg (pe_op op_fdivW (pe_callTy call_int1 (by rfl) T.b_int (by decide +kernel) (pa_cons (pv 5) pa_nil)) (pv 1)) (pg_sub (pv 0) pe_int set_list))
    (pss_one (ps_ret (pe_op op_mod (pe_callTy call_int1 (by rfl) T.b_int (by decide +kernel) (pa_cons (pv 5) pa_nil)) (pv 1)))))) pss_nil)
    (pss_cons (ps_set (i := 2) sc__law_draw.nd rfl (Or.inl rfl) (pe_ix ix_list (pv 0) pe_int (fun _ _ => rfl)))
    (pss_cons (ps_asg (pe_op op_add (pv 2) pe_int) (pg_sub (pv 0) pe_int set_list))
    (pss_cons (ps_set (i := 3) sc__law_draw.nd rfl (Or.inl rfl) (pe_op op_add (pe_op op_mul pe_int (pv 2)) pe_int))
    (C8.pss_cut (ps_if (pt_cmpR (op_neD hr.units) (pe_ix ix_list (pv 0) pe_int (fun _ _ => rfl)) (pe_lst pa_nil) (nomark _)) (pss_one (ps_set (i := 3) sc__law_draw.nd rfl (Or.inl rfl) (pe_ix ix_list (pe_ix ix_list (pv 0) pe_int (fun _ _ => rfl)) (pe_op op_mod (pe_callTy call_int1 (by rfl) T.b_int (by decide +kernel) (pa_cons (pv 2) pa_nil)) (pe_callB call_len_seq (by rfl) T.b_len (by decide +kernel) (pa_cons (pe_ix ix_list (pv 0) pe_int (fun _ _ => rfl)) pa_nil))) (fun _ _ => rfl)))) pss_nil)
    (C8.pss_cut (ps_if (PW.pt (pw_and (pt_cmpR op_lt (pv 2) (pe_callB call_len_seq (by rfl) T.b_len (by decide +kernel) (pa_cons (pe_ix ix_list (pv 0) pe_int (fun _ _ => rfl)) pa_nil)) (nomark _)) (pw_and1 (pt_cmpR op_ge (pe_callB call_abs (by rfl) T.b_abs (by decide +kernel) (pa_cons (pv 3) pa_nil)) (pe_op op_pow pe_int pe_int) (nomark _))))) (pss_cons (ps_set (i := 5) sc__law_draw.nd rfl (Or.inl rfl) (pe_op op_add (pe_op op_mul pe_int (pe_op op_sub (pe_callB call_abs (by rfl) T.b_abs (by decide +kernel) (pa_cons (pv 3) pa_nil)) (pe_op op_pow pe_int pe_int))) (pe_callTy call_int1 (by rfl) T.b_int (by decide +kernel) (pa_cons (pe_cmpR op_lt (pv 3) pe_int (nomark _)) pa_nil))))
    (pss_cons (ps_asg (pe_op op_fdivW (pe_callTy call_int1 (by rfl) T.b_int (by decide +kernel) (pa_cons (pv 5) pa_nil)) (pv 1)) (pg_sub (pv 0) pe_int set_list))
    (pss_one (ps_ret (pe_op op_mod (pe_callTy call_int1 (by rfl) T.b_int (by decide +kernel) (pa_cons (pv 5) pa_nil)) (pv 1)))))) pss_nil)
    (pss_cons (ps_set (i := 4) sc__law_draw.nd rfl (Or.inl rfl) (pe_op op_mod (pe_callTy call_int1 (by rfl) T.b_int (by decide +kernel) (pa_cons (pe_op op_pow (pe_op op_add (pe_op op_add (pe_op op_mod (pe_callTy call_int1 (by rfl) T.b_int (by decide +kernel) (pa_cons (pv 3) pa_nil)) pe_int) (pe_op op_mul pe_int (pv 2))) pe_int) pe_int) pa_nil)) pe_int))
    (pss_cons (ps_set (i := 4) sc__law_draw.nd rfl (Or.inl rfl) (pe_op op_mod (pe_callTy call_int1 (by rfl) T.b_int (by decide +kernel) (pa_cons (pe_op op_pow (pe_op op_add (pe_op op_add (pe_op op_mul (pv 4) (pe_op op_add (pe_op op_mul pe_int (pv 2)) pe_int)) (pe_op op_mul (pe_op op_mul pe_int (pv 2)) (pv 2))) pe_int) pe_int) pa_nil)) pe_int))
    (pss_one (ps_ret (pe_op op_mod (pe_callTy call_int1 (by rfl) T.b_int (by decide +kernel) (pa_cons (pe_op op_fdivW (pv 4) pe_int) pa_nil)) (pv 1)))))))))))), ?_⟩
  obtain ⟨cells, t, r, hp, hc, hl, t0, t1⟩ := id W
  have ne := W.ne
  have cd : CDivW r m := ⟨m0, lg_le m1 m0⟩
  -- if well[2] > 0
  refine ⟨_, rfl, p, _, 2, _, rfl, rfl, SqL.of hp, rfl, r, 0, rfl, rfl, _, rfl, ?_⟩
  have fin : ∀ (z t' r' : Int) (H' : Hp), 0 ≤ t' → t' + (n : Int) ≤ 1000000 → Keep p H H' → H' p = some (.lst [.ref c, .int t', .int r']) → 0 ≤ z → z < m → Q (.int z) H' := fun z t' r' H' h0 h1 kp e z0 z1 =>
    q z H' z0 z1 kp ⟨cells, t', r', e, kp _ _ hc ne, hl, h0, h1⟩
  have modm : ∀ z : Int, 0 ≤ z % m ∧ z % m < m := fun z => ⟨Int.emod_nonneg _ (by omega), Int.emod_lt_of_pos _ m0⟩
  refine ite2 (fun c1 => ?_) (fun c1 => ?_)
  · refine ⟨_, rfl, p, _, 2, _, rfl, rfl, SqL.of hp, rfl, ?_⟩
    refine ⟨_, rfl, .inl ⟨_, rfl, _, rfl, _, _, rfl, rfl, cd, _, rfl, p, _, 2, 2, rfl, rfl, hp, rfl, ?_⟩⟩
    refine ⟨_, rfl, .inl ⟨_, rfl, _, rfl, _, _, rfl, rfl, m0, ?_⟩⟩
    exact fin _ t _ _ t0 (by omega) Keep.refl.upd upd_same (modm _).1 (modm _).2
  -- turn = well[1]; well[1] = turn + 1
  refine ⟨_, rfl, p, _, 1, _, rfl, rfl, SqL.of hp, rfl, ?_⟩
  refine ⟨_, rfl, _, _, rfl, rfl, _, rfl, p, _, 1, 1, rfl, rfl, hp, rfl, ?_⟩
  -- cell = 73037 * turn + 9133
  refine ⟨_, rfl, _, _, rfl, rfl, .inl ⟨by decide, by decide⟩, _, _, rfl, rfl, ?_⟩
  -- if well[0] != []
  have hc1 : ∀ u, (upd H p u) c = some (.lst (cells.map V.int)) := fun u => by
    rw [upd_ne ne]
    exact hc
  refine ⟨fun σ' H' => ∃ z : Int, σ' = [some (.ref p), some (.int m), some (.int t), some (.int z), none, none] ∧ Keep p H H' ∧ H' p = some (.lst [.ref c, .int (t + 1), .int r]), ?_, ?_⟩
  · refine ⟨_, rfl, p, _, 0, _, rfl, rfl, SqL.of upd_same, rfl, (by show 0 ≤ sizeLine; decide), fun e he => ?_⟩
    have hpe : p ≠ e := ne_of_none upd_same he
    have hce : c ≠ e := ne_of_none (hc1 _) he
    have k1 : Keep p H (upd (upd H p (.lst [.ref c, .int (t + 1), .int r])) e (.lst [])) := Keep.trans Keep.refl.upd (Keep.of (same_new he _))
    have p1 : (upd (upd H p (.lst [.ref c, .int (t + 1), .int r])) e (.lst [])) p = some (.lst [.ref c, .int (t + 1), .int r]) := by
      rw [upd_ne hpe, upd_same]
    have c2 : ∀ u, (upd (upd H p u) e (.lst [])) c = some (.lst (cells.map V.int)) := fun u => by
      rw [upd_ne hce]
      exact hc1 _
    refine ⟨.list (cells.map PyData.int), .list (List.map PyData.int []), .lst (SqL.of (c2 _)) (dp_ints cells), .lst (SqL.of upd_same) .nil, ints_shapedL _, ints_shapedL _, _, rfl, ?_⟩
    rw [eqv_intsL]
    by_cases hn : cells = []
    · rw [decide_eq_true hn]
      refine iteF ?_
      exact ⟨_, rfl, k1, p1⟩
    · rw [decide_eq_false hn]
      refine iteT ?_
      have hpos : 0 < (cells.map V.int).length := by
        rw [List.length_map]
        exact List.length_pos_iff.mpr hn
      refine ⟨_, rfl, p, _, 0, _, rfl, rfl, SqL.of p1, rfl, ?_⟩
      refine ⟨_, rfl, .inl ⟨_, rfl, _, rfl, p, _, 0, _, rfl, rfl, SqL.of p1, rfl, c, _, rfl, .inl (SqL.of (c2 _)), _, _, rfl, rfl, (by omega), ?_⟩⟩
      obtain ⟨v, hv, hm⟩ := at_int (xs := cells.map V.int) (z := t % ((cells.map V.int).length : Int)) (Int.emod_nonneg _ (by omega)) (Int.emod_lt_of_pos _ (by omega))
      obtain ⟨z, _, rfl⟩ := List.mem_map.mp hm
      exact ⟨c, _, _, _, rfl, rfl, SqL.of (c2 _), hv, z, rfl, k1, p1⟩
  rintro σ' H' ⟨z, rfl, k1, p1⟩
  have hc' := k1 _ _ hc ne
  -- if turn < len(well[0]) and abs(cell) >= 10 ** 18
  have pw : CPow 10 18 := ⟨by decide, by decide, by decide⟩
  refine ⟨fun σ' H2 => σ' = [some (.ref p), some (.int m), some (.int t), some (.int z), none, none] ∧ H2 = H', ?_, ?_⟩
  · refine ⟨_, rfl, _, rfl, p, _, 0, _, rfl, rfl, SqL.of p1, rfl, c, _, rfl, .inl (SqL.of hc'), _, _, rfl, rfl, _, rfl, ?_⟩
    refine ite2 (fun c2 => ?_) (fun c2 => ?_)
    · refine ⟨_, rfl, z, rfl, _, _, rfl, rfl, pw, _, _, rfl, rfl, _, rfl, ?_⟩
      refine ite2 (fun c3 => ?_) (fun c3 => ⟨rfl, rfl⟩)
      refine ⟨_, rfl, z, rfl, _, _, rfl, rfl, pw, _, _, rfl, rfl, _, _, rfl, rfl, .inl ⟨by decide, by decide⟩, _, rfl, _, _, rfl, rfl, .inr ⟨_, rfl, _, _, rfl, rfl, ?_⟩⟩
      refine ⟨_, rfl, .inl ⟨_, rfl, _, rfl, _, _, rfl, rfl, cd, _, rfl, p, _, 2, 2, rfl, rfl, p1, rfl, ?_⟩⟩
      refine ⟨_, rfl, .inl ⟨_, rfl, _, rfl, _, _, rfl, rfl, m0, ?_⟩⟩
      exact fin _ (t + 1) _ _ (by omega) (by omega) k1.upd upd_same (modm _).1 (modm _).2
    · exact iteF ⟨rfl, rfl⟩
  rintro σ' H2 ⟨rfl, rfl⟩
  -- the mixing
  have t2 : t ≤ 1000000 := by omega
  refine ⟨_, rfl, .inl ⟨_, rfl, _, _, rfl, rfl, (by show (0 : Int) < _; decide), _, rfl, _, _, rfl, rfl, .inl ⟨by decide, by decide⟩, _, _, rfl, rfl, _, _, rfl, rfl, _, _, rfl, rfl, ⟨by decide, by decide, ?_⟩, .inl ⟨_, rfl, _, _, rfl, rfl, (by show (0 : Int) < _; decide), ?_⟩⟩⟩
  · show (z % 2147483549 + 42043 * t + 9133).natAbs < 2 ^ 64
    omega
  generalize (z % 2147483549 + 42043 * t + 9133) ^ (5 : Int).toNat = u
  have b2 : 0 ≤ u % 2147483579 ∧ u % 2147483579 < 2147483579 := ⟨Int.emod_nonneg _ (by decide), Int.emod_lt_of_pos _ (by decide)⟩
  have b3 := mix_lt (A := 2927) (B := 73037) (C := 42043) (by decide) (by decide) (by decide) b2.1 (Int.le_of_lt (Int.lt_trans b2.2 (by decide))) t0 t2
  refine ⟨_, rfl, _, rfl, _, _, rfl, rfl, .inl ⟨by decide, by decide⟩, _, _, rfl, rfl, _, _, rfl, rfl, .inl ⟨?_, ?_⟩, _, rfl, _, _, rfl, rfl, .inl ⟨by decide, by decide⟩, _, rfl, _, _, rfl, rfl, .inl ⟨?_, ?_⟩, _, _, rfl, rfl, _, _, rfl, rfl, _, _, rfl, rfl, ⟨by decide, by decide, ?_⟩, .inl ⟨_, rfl, _, _, rfl, rfl, (by show (0 : Int) < _; decide), ?_⟩⟩
  · show -(2 ^ 64) < u % 2147483579
    omega
  · show u % 2147483579 < 2 ^ 64
    omega
  · show -(2 ^ 64) < 73037 * t
    omega
  · show 73037 * t < 2 ^ 64
    omega
  · exact b3
  refine ⟨_, rfl, _, _, rfl, rfl, ⟨by decide, by decide⟩, .inl ⟨_, rfl, _, rfl, _, _, rfl, rfl, m0, ?_⟩⟩
  exact fin _ (t + 1) r _ (by omega) (by omega) k1 p1 (modm _).1 (modm _).2
theorem ok__law_pen {k : Nat} (T : Txt K mg) (D : DefB K mg "_law_pen" s__law_pen P__law_pen) : C8.Cal P w K mg base (k + 1) "_law_pen" (spWell K) [] := by
  refine calB D sc__law_pen (fun vs H Q E h => ?_) (fun f cdv A outer s H vs Q E hr h => ?_)
  · obtain ⟨a, ns, rfl, _⟩ := h
    rfl
  obtain ⟨a, ns, rfl, hS, hl, q⟩ := h
  refine ⟨_, (pss_one (ps_ret (pe_lst (pa_cons (pe_lc (own := [("cell", 1)]) (g := gName 1) (tt := tYes) rfl sc__law_pen.nd (pi_list (pe_slice sl_list (pv 0) po_none (po_some pe_int))) (blkOk_by (N := N__law_pen) (sc := C8.fnScope s__law_pen) (by decide +kernel)) (fun _ _ _ _ _ => (pg_name (i := 1) sc__law_pen.nd rfl (Or.inl rfl))) (fun _ _ _ _ _ => pts_nil) (fun _ _ _ _ _ => (pe_callTy call_int1 (by rfl) T.b_int (by decide +kernel) (pa_cons (pv 1) pa_nil)))) (pa_cons pe_int (pa_cons pe_int pa_nil)))))), ?_⟩
  refine ⟨_, rfl, 62, rfl, a, _, rfl, hS, fun x hx => ?_⟩
  have hz : (cutV (ns.map V.int) none (some 62)).length ≤ 100000 := Nat.le_trans (cutV_length _ _ _) (by rw [List.length_map]; omega)
  refine ⟨x, rfl, ⟨_, SqL.of upd_same⟩, fun D hD => lc_map (K := K) (f := id) (SqL.of upd_same) hD hz ?_ ?_⟩
  · intro i y H2 Kc Nc hi e hk
    have hm : y ∈ cutV (ns.map V.int) none (some 62) := List.mem_of_getElem? hi
    obtain ⟨z, rfl⟩ := mem_cut_int hm
    exact ⟨rfl, _, rfl, .inl ⟨_, rfl, hk H2 (Same.refl _)⟩⟩
  · intro H2 e hD2
    refine ⟨(by show 3 ≤ sizeLine; decide), fun p hp => ?_⟩
    have hxD : Same H H2 := (same_new hx _).trans e
    obtain ⟨cells, hc, hl2⟩ := cut_ints (ns := ns) (hi := some 62)
    rw [List.map_id] at hD2
    have hpn : H p = none := hxD.free hp
    have hDn : H D = none := (same_new hx _).free hD
    refine q p D _ hpn hDn (hxD.trans (same_new hp _)) ⟨cells, 0, 0, upd_same, ?_, by omega, by decide, by decide⟩
    rw [upd_ne (ne_of_none hD2 hp), hD2, hc]
abbrev s__wall : Stmt := topS 0
abbrev N__wall : List Str := ["k"]
abbrev P__wall : List Str := ["k"]
theorem sc__wall : FnScope N__wall P__wall (C8.fnScope s__wall) := C8.fnScope_by (by decide +kernel)
abbrev s_fixed : Stmt := topS 2
abbrev N_fixed : List Str := ["value", "part"]
abbrev P_fixed : List Str := ["value"]
theorem sc_fixed : FnScope N_fixed P_fixed (C8.fnScope s_fixed) := C8.fnScope_by (by decide +kernel)
abbrev s_is_integer : Stmt := topS 5
abbrev N_is_integer : List Str := ["value"]
abbrev P_is_integer : List Str := ["value"]
theorem sc_is_integer : FnScope N_is_integer P_is_integer (C8.fnScope s_is_integer) := C8.fnScope_by (by decide +kernel)
abbrev s_is_within : Stmt := topS 6
abbrev N_is_within : List Str := ["value", "least", "most"]
abbrev P_is_within : List Str := ["value", "least", "most"]
theorem sc_is_within : FnScope N_is_within P_is_within (C8.fnScope s_is_within) := C8.fnScope_by (by decide +kernel)
abbrev s_is_list : Stmt := topS 7
abbrev N_is_list : List Str := ["value"]
abbrev P_is_list : List Str := ["value"]
theorem sc_is_list : FnScope N_is_list P_is_list (C8.fnScope s_is_list) := C8.fnScope_by (by decide +kernel)
abbrev s_is_numbers : Stmt := topS 8
abbrev N_is_numbers : List Str := ["value", "one"]
abbrev P_is_numbers : List Str := ["value"]
theorem sc_is_numbers : FnScope N_is_numbers P_is_numbers (C8.fnScope s_is_numbers) := C8.fnScope_by (by decide +kernel)
abbrev s_is_prime : Stmt := topS 9
abbrev N_is_prime : List Str := ["value"]
abbrev P_is_prime : List Str := ["value"]
theorem sc_is_prime : FnScope N_is_prime P_is_prime (C8.fnScope s_is_prime) := C8.fnScope_by (by decide +kernel)
abbrev s_is_sign : Stmt := topS 10
abbrev N_is_sign : List Str := ["p", "value"]
abbrev P_is_sign : List Str := ["p", "value"]
theorem sc_is_sign : FnScope N_is_sign P_is_sign (C8.fnScope s_is_sign) := C8.fnScope_by (by decide +kernel)
abbrev s_is_signs : Stmt := topS 11
abbrev N_is_signs : List Str := ["p", "value", "one"]
abbrev P_is_signs : List Str := ["p", "value"]
theorem sc_is_signs : FnScope N_is_signs P_is_signs (C8.fnScope s_is_signs) := C8.fnScope_by (by decide +kernel)
abbrev s_flat : Stmt := topS 12
abbrev N_flat : List Str := ["value", "part", "item"]
abbrev P_flat : List Str := ["value"]
theorem sc_flat : FnScope N_flat P_flat (C8.fnScope s_flat) := C8.fnScope_by (by decide +kernel)
abbrev s_first_twice : Stmt := topS 13
abbrev N_first_twice : List Str := ["values", "seen", "value", "key"]
abbrev P_first_twice : List Str := ["values"]
theorem sc_first_twice : FnScope N_first_twice P_first_twice (C8.fnScope s_first_twice) := C8.fnScope_by (by decide +kernel)
abbrev s_items_of : Stmt := topS 30
abbrev N_items_of : List Str := ["text"]
abbrev P_items_of : List Str := ["text"]
theorem sc_items_of : FnScope N_items_of P_items_of (C8.fnScope s_items_of) := C8.fnScope_by (by decide +kernel)
abbrev s_is_item : Stmt := topS 31
abbrev N_is_item : List Str := ["items", "at", "word"]
abbrev P_is_item : List Str := ["items", "at", "word"]
theorem sc_is_item : FnScope N_is_item P_is_item (C8.fnScope s_is_item) := C8.fnScope_by (by decide +kernel)
abbrev s_number_of : Stmt := topS 32
abbrev N_number_of : List Str := ["item", "digits"]
abbrev P_number_of : List Str := ["item"]
theorem sc_number_of : FnScope N_number_of P_number_of (C8.fnScope s_number_of) := C8.fnScope_by (by decide +kernel)
abbrev s_read_number : Stmt := topS 33
abbrev N_read_number : List Str := ["items", "at", "least", "most", "number"]
abbrev P_read_number : List Str := ["items", "at", "least", "most"]
theorem sc_read_number : FnScope N_read_number P_read_number (C8.fnScope s_read_number) := C8.fnScope_by (by decide +kernel)
abbrev s_read_prime : Stmt := topS 34
abbrev N_read_prime : List Str := ["items", "at", "number"]
abbrev P_read_prime : List Str := ["items", "at"]
theorem sc_read_prime : FnScope N_read_prime P_read_prime (C8.fnScope s_read_prime) := C8.fnScope_by (by decide +kernel)
abbrev s_read_word : Stmt := topS 35
abbrev N_read_word : List Str := ["items", "at", "word"]
abbrev P_read_word : List Str := ["items", "at", "word"]
theorem sc_read_word : FnScope N_read_word P_read_word (C8.fnScope s_read_word) := C8.fnScope_by (by decide +kernel)
abbrev s_read_head : Stmt := topS 40
abbrev N_read_head : List Str := ["items", "p"]
abbrev P_read_head : List Str := ["items"]
theorem sc_read_head : FnScope N_read_head P_read_head (C8.fnScope s_read_head) := C8.fnScope_by (by decide +kernel)
abbrev s_read_place : Stmt := topS 41
abbrev N_read_place : List Str := ["items", "at", "p", "places", "place"]
abbrev P_read_place : List Str := ["items", "at", "p", "places"]
theorem sc_read_place : FnScope N_read_place P_read_place (C8.fnScope s_read_place) := C8.fnScope_by (by decide +kernel)
abbrev s_row_from : Stmt := topS 43
abbrev N_row_from : List Str := ["p", "numbers", "signs", "size", "number"]
abbrev P_row_from : List Str := ["p", "numbers"]
theorem sc_row_from : FnScope N_row_from P_row_from (C8.fnScope s_row_from) := C8.fnScope_by (by decide +kernel)
abbrev s_inverse_of : Stmt := topS 44
abbrev N_inverse_of : List Str := ["p", "sign", "big", "small", "before", "now", "times"]
abbrev P_inverse_of : List Str := ["p", "sign"]
theorem sc_inverse_of : FnScope N_inverse_of P_inverse_of (C8.fnScope s_inverse_of) := C8.fnScope_by (by decide +kernel)
abbrev s_value_at : Stmt := topS 45
abbrev N_value_at : List Str := ["p", "row", "x", "value", "sign"]
abbrev P_value_at : List Str := ["p", "row", "x"]
theorem sc_value_at : FnScope N_value_at P_value_at (C8.fnScope s_value_at) := C8.fnScope_by (by decide +kernel)
abbrev s_sum_of : Stmt := topS 46
abbrev N_sum_of : List Str := ["p", "one", "other", "both", "short", "long", "a", "b"]
abbrev P_sum_of : List Str := ["p", "one", "other"]
theorem sc_sum_of : FnScope N_sum_of P_sum_of (C8.fnScope s_sum_of) := C8.fnScope_by (by decide +kernel)
abbrev s_scaled : Stmt := topS 47
abbrev N_scaled : List Str := ["p", "row", "factor", "sign"]
abbrev P_scaled : List Str := ["p", "row", "factor"]
theorem sc_scaled : FnScope N_scaled P_scaled (C8.fnScope s_scaled) := C8.fnScope_by (by decide +kernel)
abbrev s_difference_of : Stmt := topS 48
abbrev N_difference_of : List Str := ["p", "one", "other"]
abbrev P_difference_of : List Str := ["p", "one", "other"]
theorem sc_difference_of : FnScope N_difference_of P_difference_of (C8.fnScope s_difference_of) := C8.fnScope_by (by decide +kernel)
abbrev s_packed : Stmt := topS 49
abbrev N_packed : List Str := ["row", "width", "sign"]
abbrev P_packed : List Str := ["row", "width"]
theorem sc_packed : FnScope N_packed P_packed (C8.fnScope s_packed) := C8.fnScope_by (by decide +kernel)
abbrev s_unpacked : Stmt := topS 50
abbrev N_unpacked : List Str := ["number", "width", "text", "end"]
abbrev P_unpacked : List Str := ["number", "width"]
theorem sc_unpacked : FnScope N_unpacked P_unpacked (C8.fnScope s_unpacked) := C8.fnScope_by (by decide +kernel)
abbrev s_product_of : Stmt := topS 51
abbrev N_product_of : List Str := ["p", "one", "other", "width"]
abbrev P_product_of : List Str := ["p", "one", "other"]
theorem sc_product_of : FnScope N_product_of P_product_of (C8.fnScope s_product_of) := C8.fnScope_by (by decide +kernel)
abbrev s_power_of : Stmt := topS 52
abbrev N_power_of : List Str := ["p", "row", "power", "half", "square"]
abbrev P_power_of : List Str := ["p", "row", "power"]
theorem sc_power_of : FnScope N_power_of P_power_of (C8.fnScope s_power_of) := C8.fnScope_by (by decide +kernel)
abbrev s_composed : Stmt := topS 53
abbrev N_composed : List Str := ["p", "row", "other", "half", "high"]
abbrev P_composed : List Str := ["p", "row", "other"]
theorem sc_composed : FnScope N_composed P_composed (C8.fnScope s_composed) := C8.fnScope_by (by decide +kernel)
abbrev s_quotient_and_rest : Stmt := topS 54
abbrev N_quotient_and_rest : List Str := ["p", "one", "other", "size", "turn", "steps", "quotient", "rest", "at", "times", "place", "sign"]
abbrev P_quotient_and_rest : List Str := ["p", "one", "other"]
theorem sc_quotient_and_rest : FnScope N_quotient_and_rest P_quotient_and_rest (C8.fnScope s_quotient_and_rest) := C8.fnScope_by (by decide +kernel)
abbrev s_need_fitting : Stmt := topS 57
abbrev N_need_fitting : List Str := ["poly", "other"]
abbrev P_need_fitting : List Str := ["poly", "other"]
theorem sc_need_fitting : FnScope N_need_fitting P_need_fitting (C8.fnScope s_need_fitting) := C8.fnScope_by (by decide +kernel)
abbrev s_need_divisor : Stmt := topS 58
abbrev N_need_divisor : List Str := ["poly", "other"]
abbrev P_need_divisor : List Str := ["poly", "other"]
theorem sc_need_divisor : FnScope N_need_divisor P_need_divisor (C8.fnScope s_need_divisor) := C8.fnScope_by (by decide +kernel)
abbrev s_need_scheme : Stmt := topS 60
abbrev N_need_scheme : List Str := ["scheme"]
abbrev P_need_scheme : List Str := ["scheme"]
theorem sc_need_scheme : FnScope N_need_scheme P_need_scheme (C8.fnScope s_need_scheme) := C8.fnScope_by (by decide +kernel)
abbrev s_need_word : Stmt := topS 61
abbrev N_need_word : List Str := ["scheme", "word"]
abbrev P_need_word : List Str := ["scheme", "word"]
theorem sc_need_word : FnScope N_need_word P_need_word (C8.fnScope s_need_word) := C8.fnScope_by (by decide +kernel)
abbrev s_is_word : Stmt := topS 62
abbrev N_is_word : List Str := ["scheme", "value"]
abbrev P_is_word : List Str := ["scheme", "value"]
theorem sc_is_word : FnScope N_is_word P_is_word (C8.fnScope s_is_word) := C8.fnScope_by (by decide +kernel)
abbrev s_row_of : Stmt := topS 63
abbrev N_row_of : List Str := ["scheme", "word", "place"]
abbrev P_row_of : List Str := ["scheme", "word"]
theorem sc_row_of : FnScope N_row_of P_row_of (C8.fnScope s_row_of) := C8.fnScope_by (by decide +kernel)
abbrev s_need_reading : Stmt := topS 68
abbrev N_need_reading : List Str := ["reading"]
abbrev P_need_reading : List Str := ["reading"]
theorem sc_need_reading : FnScope N_need_reading P_need_reading (C8.fnScope s_need_reading) := C8.fnScope_by (by decide +kernel)
abbrev s_need_place : Stmt := topS 69
abbrev N_need_place : List Str := ["scheme", "index"]
abbrev P_need_place : List Str := ["scheme", "index"]
theorem sc_need_place : FnScope N_need_place P_need_place (C8.fnScope s_need_place) := C8.fnScope_by (by decide +kernel)
abbrev s_is_offer : Stmt := topS 70
abbrev N_is_offer : List Str := ["p", "value"]
abbrev P_is_offer : List Str := ["p", "value"]
theorem sc_is_offer : FnScope N_is_offer P_is_offer (C8.fnScope s_is_offer) := C8.fnScope_by (by decide +kernel)
abbrev s_is_offers : Stmt := topS 71
abbrev N_is_offers : List Str := ["scheme", "value", "pairs", "pair"]
abbrev P_is_offers : List Str := ["scheme", "value"]
theorem sc_is_offers : FnScope N_is_offers P_is_offers (C8.fnScope s_is_offers) := C8.fnScope_by (by decide +kernel)
abbrev s_is_plain_row : Stmt := topS 72
abbrev N_is_plain_row : List Str := ["scheme", "value", "one"]
abbrev P_is_plain_row : List Str := ["scheme", "value"]
theorem sc_is_plain_row : FnScope N_is_plain_row P_is_plain_row (C8.fnScope s_is_plain_row) := C8.fnScope_by (by decide +kernel)
abbrev s_is_offered : Stmt := topS 73
abbrev N_is_offered : List Str := ["pairs", "sign", "value", "_"]
abbrev P_is_offered : List Str := ["pairs", "sign"]
theorem sc_is_offered : FnScope N_is_offered P_is_offered (C8.fnScope s_is_offered) := C8.fnScope_by (by decide +kernel)
abbrev s_points_of : Stmt := topS 74
abbrev N_points_of : List Str := ["places", "offers", "place", "pairs", "value", "weight"]
abbrev P_points_of : List Str := ["places", "offers"]
theorem sc_points_of : FnScope N_points_of P_points_of (C8.fnScope s_points_of) := C8.fnScope_by (by decide +kernel)
abbrev s_place_text : Stmt := topS 75
abbrev N_place_text : List Str := ["place", "pairs", "value", "weight"]
abbrev P_place_text : List Str := ["place", "pairs"]
theorem sc_place_text : FnScope N_place_text P_place_text (C8.fnScope s_place_text) := C8.fnScope_by (by decide +kernel)
abbrev s_read_pairs : Stmt := topS 76
abbrev N_read_pairs : List Str := ["items", "start", "p", "most", "pairs", "at", "least", "value"]
abbrev P_read_pairs : List Str := ["items", "start", "p", "most"]
theorem sc_read_pairs : FnScope N_read_pairs P_read_pairs (C8.fnScope s_read_pairs) := C8.fnScope_by (by decide +kernel)
abbrev s_need_k : Stmt := topS 79
abbrev N_need_k : List Str := ["k"]
abbrev P_need_k : List Str := ["k"]
theorem sc_need_k : FnScope N_need_k P_need_k (C8.fnScope s_need_k) := C8.fnScope_by (by decide +kernel)
abbrev s_many_terms : Stmt := topS 80
abbrev N_many_terms : List Str := ["k", "span", "powers"]
abbrev P_many_terms : List Str := ["k", "span"]
theorem sc_many_terms : FnScope N_many_terms P_many_terms (C8.fnScope s_many_terms) := C8.fnScope_by (by decide +kernel)
abbrev s_many_conditions : Stmt := topS 81
abbrev N_many_conditions : List Str := ["times", "one"]
abbrev P_many_conditions : List Str := ["times"]
theorem sc_many_conditions : FnScope N_many_conditions P_many_conditions (C8.fnScope s_many_conditions) := C8.fnScope_by (by decide +kernel)
abbrev s_need_score : Stmt := topS 83
abbrev N_need_score : List Str := ["t"]
abbrev P_need_score : List Str := ["t"]
theorem sc_need_score : FnScope N_need_score P_need_score (C8.fnScope s_need_score) := C8.fnScope_by (by decide +kernel)
abbrev s_conditions_of : Stmt := topS 84
abbrev N_conditions_of : List Str := ["reading", "m", "_", "weight"]
abbrev P_conditions_of : List Str := ["reading", "m"]
theorem sc_conditions_of : FnScope N_conditions_of P_conditions_of (C8.fnScope s_conditions_of) := C8.fnScope_by (by decide +kernel)
abbrev s_enough : Stmt := topS 85
abbrev N_enough : List Str := ["reading", "t", "m", "conditions"]
abbrev P_enough : List Str := ["reading", "t"]
theorem sc_enough : FnScope N_enough P_enough (C8.fnScope s_enough) := C8.fnScope_by (by decide +kernel)
abbrev s_reach : Stmt := topS 86
abbrev N_reach : List Str := ["reading", "t", "m"]
abbrev P_reach : List Str := ["reading"]
theorem sc_reach : FnScope N_reach P_reach (C8.fnScope s_reach) := C8.fnScope_by (by decide +kernel)
abbrev s__law_mixed : Stmt := topS 91
abbrev N__law_mixed : List Str := ["pen", "some", "turn", "left", "found"]
abbrev P__law_mixed : List Str := ["pen", "some"]
theorem sc__law_mixed : FnScope N__law_mixed P__law_mixed (C8.fnScope s__law_mixed) := C8.fnScope_by (by decide +kernel)
abbrev s__law_made : Stmt := topS 92
abbrev N__law_made : List Str := ["world"]
abbrev P__law_made : List Str := ["world"]
theorem sc__law_made : FnScope N__law_made P__law_made (C8.fnScope s__law_made) := C8.fnScope_by (by decide +kernel)
abbrev s__law_world : Stmt := topS 93
abbrev N__law_world : List Str := ["pen", "p", "n", "k", "place", "places", "left", "offers", "most", "heavy", "values", "value"]
abbrev P__law_world : List Str := ["pen"]
theorem sc__law_world : FnScope N__law_world P__law_world (C8.fnScope s__law_world) := C8.fnScope_by (by decide +kernel)
abbrev s__law_sums : Stmt := topS 94
abbrev N__law_sums : List Str := ["world", "weights", "some", "weight", "value"]
abbrev P__law_sums : List Str := ["world"]
theorem sc__law_sums : FnScope N__law_sums P__law_sums (C8.fnScope s__law_sums) := C8.fnScope_by (by decide +kernel)
abbrev s__law_bound_right : Stmt := topS 95
abbrev N__law_bound_right : List Str := ["world", "reading", "t", "over", "m", "told", "least", "c", "one", "squares"]
abbrev P__law_bound_right : List Str := ["world", "reading", "t"]
theorem sc__law_bound_right : FnScope N__law_bound_right P__law_bound_right (C8.fnScope s__law_bound_right) := C8.fnScope_by (by decide +kernel)
abbrev s_law : Stmt := topS 96
abbrev N_law : List Str := ["script", "pen", "turn", "world", "score", "below", "reading", "k", "fine", "is_right", "is_let"]
abbrev P_law : List Str := ["script"]
theorem sc_law : FnScope N_law P_law (C8.fnScope s_law) := C8.fnScope_by (by decide +kernel)
abbrev s_Scheme_init : Stmt := inClass (topS 39) 0
abbrev N_Scheme_init : List Str := ["self", "p", "places", "k", "twice"]
abbrev P_Scheme_init : List Str := ["self", "p", "places", "k"]
theorem sc_Scheme_init : FnScope N_Scheme_init P_Scheme_init (C8.fnScope s_Scheme_init) := C8.fnScope_by (by decide +kernel)
abbrev s_Scheme_len : Stmt := inClass (topS 39) 1
abbrev N_Scheme_len : List Str := ["self"]
abbrev P_Scheme_len : List Str := ["self"]
theorem sc_Scheme_len : FnScope N_Scheme_len P_Scheme_len (C8.fnScope s_Scheme_len) := C8.fnScope_by (by decide +kernel)
abbrev s_Scheme_eq : Stmt := inClass (topS 39) 2
abbrev N_Scheme_eq : List Str := ["self", "other"]
abbrev P_Scheme_eq : List Str := ["self", "other"]
theorem sc_Scheme_eq : FnScope N_Scheme_eq P_Scheme_eq (C8.fnScope s_Scheme_eq) := C8.fnScope_by (by decide +kernel)
abbrev s_Scheme_str : Stmt := inClass (topS 39) 3
abbrev N_Scheme_str : List Str := ["self", "places", "place"]
abbrev P_Scheme_str : List Str := ["self"]
theorem sc_Scheme_str : FnScope N_Scheme_str P_Scheme_str (C8.fnScope s_Scheme_str) := C8.fnScope_by (by decide +kernel)
abbrev s_Scheme_renamed : Stmt := inClass (topS 39) 4
abbrev N_Scheme_renamed : List Str := ["self", "stretch", "shift"]
abbrev P_Scheme_renamed : List Str := ["self", "stretch", "shift"]
theorem sc_Scheme_renamed : FnScope N_Scheme_renamed P_Scheme_renamed (C8.fnScope s_Scheme_renamed) := C8.fnScope_by (by decide +kernel)
abbrev s_Scheme_read : Stmt := inClass (topS 39) 5
abbrev N_Scheme_read : List Str := ["text", "items", "p", "k", "at", "places"]
abbrev P_Scheme_read : List Str := ["text"]
theorem sc_Scheme_read : FnScope N_Scheme_read P_Scheme_read (C8.fnScope s_Scheme_read) := C8.fnScope_by (by decide +kernel)
abbrev s_Reading_init : Stmt := inClass (topS 67) 0
abbrev N_Reading_init : List Str := ["self", "scheme", "offers", "pairs", "told", "twice", "_", "weight", "value"]
abbrev P_Reading_init : List Str := ["self", "scheme", "offers"]
theorem sc_Reading_init : FnScope N_Reading_init P_Reading_init (C8.fnScope s_Reading_init) := C8.fnScope_by (by decide +kernel)
abbrev s_Reading_eq : Stmt := inClass (topS 67) 1
abbrev N_Reading_eq : List Str := ["self", "other"]
abbrev P_Reading_eq : List Str := ["self", "other"]
theorem sc_Reading_eq : FnScope N_Reading_eq P_Reading_eq (C8.fnScope s_Reading_eq) := C8.fnScope_by (by decide +kernel)
abbrev s_Reading_str : Stmt := inClass (topS 67) 2
abbrev N_Reading_str : List Str := ["self", "places", "place", "pairs"]
abbrev P_Reading_str : List Str := ["self"]
theorem sc_Reading_str : FnScope N_Reading_str P_Reading_str (C8.fnScope s_Reading_str) := C8.fnScope_by (by decide +kernel)
abbrev s_Reading_score : Stmt := inClass (topS 67) 3
abbrev N_Reading_score : List Str := ["self", "word", "sign", "pairs", "value", "weight"]
abbrev P_Reading_score : List Str := ["self", "word"]
theorem sc_Reading_score : FnScope N_Reading_score P_Reading_score (C8.fnScope s_Reading_score) := C8.fnScope_by (by decide +kernel)
abbrev s_Reading_right : Stmt := inClass (topS 67) 4
abbrev N_Reading_right : List Str := ["self", "word", "row", "index", "pairs"]
abbrev P_Reading_right : List Str := ["self", "word"]
theorem sc_Reading_right : FnScope N_Reading_right P_Reading_right (C8.fnScope s_Reading_right) := C8.fnScope_by (by decide +kernel)
abbrev s_Reading_with_offer : Stmt := inClass (topS 67) 5
abbrev N_Reading_with_offer : List Str := ["self", "index", "value", "weight"]
abbrev P_Reading_with_offer : List Str := ["self", "index", "value", "weight"]
theorem sc_Reading_with_offer : FnScope N_Reading_with_offer P_Reading_with_offer (C8.fnScope s_Reading_with_offer) := C8.fnScope_by (by decide +kernel)
abbrev s_Reading_without : Stmt := inClass (topS 67) 6
abbrev N_Reading_without : List Str := ["self", "index", "value", "offers", "pair"]
abbrev P_Reading_without : List Str := ["self", "index", "value"]
theorem sc_Reading_without : FnScope N_Reading_without P_Reading_without (C8.fnScope s_Reading_without) := C8.fnScope_by (by decide +kernel)
abbrev s_Reading_moved : Stmt := inClass (topS 67) 7
abbrev N_Reading_moved : List Str := ["self", "word"]
abbrev P_Reading_moved : List Str := ["self", "word"]
theorem sc_Reading_moved : FnScope N_Reading_moved P_Reading_moved (C8.fnScope s_Reading_moved) := C8.fnScope_by (by decide +kernel)
abbrev s_Reading_stretched : Stmt := inClass (topS 67) 8
abbrev N_Reading_stretched : List Str := ["self", "by"]
abbrev P_Reading_stretched : List Str := ["self", "by"]
theorem sc_Reading_stretched : FnScope N_Reading_stretched P_Reading_stretched (C8.fnScope s_Reading_stretched) := C8.fnScope_by (by decide +kernel)
abbrev s_Reading_renamed : Stmt := inClass (topS 67) 9
abbrev N_Reading_renamed : List Str := ["self", "stretch", "shift"]
abbrev P_Reading_renamed : List Str := ["self", "stretch", "shift"]
theorem sc_Reading_renamed : FnScope N_Reading_renamed P_Reading_renamed (C8.fnScope s_Reading_renamed) := C8.fnScope_by (by decide +kernel)
abbrev s_Reading_plain : Stmt := inClass (topS 67) 10
abbrev N_Reading_plain : List Str := ["scheme", "row", "value"]
abbrev P_Reading_plain : List Str := ["scheme", "row"]
theorem sc_Reading_plain : FnScope N_Reading_plain P_Reading_plain (C8.fnScope s_Reading_plain) := C8.fnScope_by (by decide +kernel)
abbrev s_Reading_read : Stmt := inClass (topS 67) 11
abbrev N_Reading_read : List Str := ["text", "items", "p", "k", "at", "places", "offers", "many", "pairs"]
abbrev P_Reading_read : List Str := ["text"]
theorem sc_Reading_read : FnScope N_Reading_read P_Reading_read (C8.fnScope s_Reading_read) := C8.fnScope_by (by decide +kernel)
end
end My


set_option Elab.async false
set_option linter.all false
set_option maxRecDepth 100000
namespace My
open PySem PySem.Spec PyProof.Rows L2
/-- whether the value is an integer, and no truth -/
def IntK (K : PySem.W.Frag) (H : Hp) (v : V) (c : Bool) : Prop := ∃ t a b, TyX K H v t ∧ PySem.W.kitOne K t (.type "int") = some a ∧ (a = true → PySem.W.kitOne K t (.type "bool") = some b) ∧ c = (a && !b)
theorem IntK.same {K : PySem.W.Frag} {H H' : Hp} {v : V} {c : Bool} (e : Same H H') (h : IntK K H v c) : IntK K H' v c := by
  obtain ⟨t, a, b, h1, h2⟩ := h
  exact ⟨t, a, b, TyX.same e h1, h2⟩
theorem intK_ty {K : PySem.W.Frag} {H : Hp} {v : V} {T : String} {a b : Bool} (h : TyX K H v (.type T)) (ha : kitB T "int" = some a) (hb : kitB T "bool" = some b) : IntK K H v (a && !b) := ⟨_, a, b, h, kit_ty ha, fun _ => kit_ty hb, rfl⟩
theorem intK_int {K : PySem.W.Frag} {H : Hp} (i : Int) : IntK K H (.int i) true := intK_ty (a := true) (b := false) (T := "int") (.base (.int i)) (by decide +kernel) (by decide +kernel)
theorem intK_bl {K : PySem.W.Frag} {H : Hp} (i : Bool) : IntK K H (.bl i) false := intK_ty (a := true) (b := true) (T := "bool") (.base (.bl i)) (by decide +kernel) (by decide +kernel)
theorem intK_non {K : PySem.W.Frag} {H : Hp} : IntK K H .non false := intK_ty (a := false) (b := false) (T := "NoneType") (.base .non) (by decide +kernel) (by decide +kernel)
theorem intK_str {K : PySem.W.Frag} {H : Hp} (x : Str) : IntK K H (.str x) false := intK_ty (a := false) (b := false) (T := "str") (.base (.str x)) (by decide +kernel) (by decide +kernel)
theorem intK_list {K : PySem.W.Frag} {H : Hp} {a : Addr} {xs : List V} (h : SqL K H a xs) : IntK K H (.ref a) false := intK_ty (a := false) (b := false) (T := "list") (tyx_L h) (by decide +kernel) (by decide +kernel)
theorem intK_tup {K : PySem.W.Frag} {H : Hp} {a : Addr} {xs : List V} (h : SqT K H a xs) : IntK K H (.ref a) false := intK_ty (a := false) (b := false) (T := "tuple") (tyx_T h) (by decide +kernel) (by decide +kernel)
theorem intK_dict {K : PySem.W.Frag} {H : Hp} {a : Addr} {kvs : List (Key × V)} (h : H a = some (.dK kvs)) : IntK K H (.ref a) false := intK_ty (a := false) (b := false) (T := "dict") (.base (.dK h)) (by decide +kernel) (by decide +kernel)
/-- whether the value is a list or a tuple -/
def ListK (K : PySem.W.Frag) (H : Hp) (v : V) (c : Bool) : Prop := ∃ t, TyX K H v t ∧ PySem.W.kitAny K t [.type "list", .type "tuple"] = some c
theorem ListK.same {K : PySem.W.Frag} {H H' : Hp} {v : V} {c : Bool} (e : Same H H') (h : ListK K H v c) : ListK K H' v c := by
  obtain ⟨t, h1, h2⟩ := h
  exact ⟨t, TyX.same e h1, h2⟩
theorem listK_list {K : PySem.W.Frag} {H : Hp} {a : Addr} {xs : List V} (h : SqL K H a xs) : ListK K H (.ref a) true := ⟨_, tyx_L h, kit_lt⟩
theorem listK_tup {K : PySem.W.Frag} {H : Hp} {a : Addr} {xs : List V} (h : SqT K H a xs) : ListK K H (.ref a) true := ⟨_, tyx_T h, kit_tt⟩
theorem listK_no {K : PySem.W.Frag} {H : Hp} {v : V} {T : String} (h : TyX K H v (.type T)) (h1 : kitB T "list" = some false) (h2 : kitB T "tuple" = some false) : ListK K H v false :=
  ⟨_, h, kitAny_cons (b := false) (kit_ty h1) (fun _ => kitAny_cons (b := false) (kit_ty h2) (fun _ => rfl) (fun z => nomatch z)) (fun z => nomatch z)⟩
theorem listK_non {K : PySem.W.Frag} {H : Hp} : ListK K H .non false := listK_no (T := "NoneType") (.base .non) (by decide +kernel) (by decide +kernel)
theorem listK_bl {K : PySem.W.Frag} {H : Hp} (b : Bool) : ListK K H (.bl b) false := listK_no (T := "bool") (.base (.bl b)) (by decide +kernel) (by decide +kernel)
theorem listK_int {K : PySem.W.Frag} {H : Hp} (i : Int) : ListK K H (.int i) false := listK_no (T := "int") (.base (.int i)) (by decide +kernel) (by decide +kernel)
theorem listK_str {K : PySem.W.Frag} {H : Hp} (x : Str) : ListK K H (.str x) false := listK_no (T := "str") (.base (.str x)) (by decide +kernel) (by decide +kernel)
theorem listK_dict {K : PySem.W.Frag} {H : Hp} {a : Addr} {kvs : List (Key × V)} (h : H a = some (.dK kvs)) : ListK K H (.ref a) false := listK_no (T := "dict") (.base (.dK h)) (by decide +kernel) (by decide +kernel)
/-! ### what the checks promise -/
def intV (v : V) : Bool := match v with
  | .int _ => true
  | _ => false
theorem intV_of {v : V} (h : intV v = true) : ∃ i, v = .int i := by
  cases v with
  | int i => exact ⟨i, rfl⟩
  | _ => cases h
/-- the checks know the value's kind -/
abbrev Kn (K : PySem.W.Frag) (H : Hp) (v : V) : Prop := IntK K H v (intV v)
def loB (lo : V) (i : Int) : Bool := match lo with
  | .int a => decide (a ≤ i)
  | _ => true
def hiB (hi : V) (i : Int) : Bool := match hi with
  | .int b => decide (i ≤ b)
  | _ => true
def inB (lo hi v : V) : Bool := match v with
  | .int i => loB lo i && hiB hi i
  | _ => false
def Bnd (v : V) : Prop := v = .non ∨ ∃ a, v = .int a
abbrev primes : List Int := [2, 3, 5, 7, 11, 13, 17, 19, 23, 29, 31, 37, 41, 43, 47, 53, 59, 61, 67, 71, 73, 79, 83, 89, 97]
structure PrimesC (K : PySem.W.Frag) (mg : Str → Option Value) (pr : Addr) : Prop where
  g : mg "PRIMES" = some (.ref pr)
  t : ∀ H : Hp, SqT K H pr (primes.map V.int)
def isPr (v : V) : Bool := intV v && inV v (primes.map V.int)
def spInt (K : PySem.W.Frag) : Sp := fun vs H Q _ => ∃ v, vs = [v] ∧ Kn K H v ∧ Q (.bl (intV v)) H
def spWithin (K : PySem.W.Frag) : Sp := fun vs H Q _ => ∃ v lo hi, vs = [v, lo, hi] ∧ Kn K H v ∧ Bnd lo ∧ Bnd hi ∧ Q (.bl (inB lo hi v)) H
def spList (K : PySem.W.Frag) : Sp := fun vs H Q _ => ∃ v c, vs = [v] ∧ ListK K H v c ∧ ∀ H', Same H H' → Q (.bl c) H'
def spNums (K : PySem.W.Frag) : Sp := fun vs H Q _ => ∃ v r, vs = [v] ∧ ((ListK K H v false ∧ r = false) ∨ ∃ a xs, v = .ref a ∧ (SqL K H a xs ∨ SqT K H a xs) ∧ xs.length ≤ 1000 ∧ (∀ x ∈ xs, Kn K H x) ∧ r = xs.all intV) ∧ ∀ H', Same H H' → Q (.bl r) H'
def spPrime (K : PySem.W.Frag) : Sp := fun vs H Q _ => ∃ v, vs = [v] ∧ Kn K H v ∧ Q (.bl (isPr v)) H
def isSg (p v : V) : Bool := isPr p && match p with
  | .int q => inB (.int 0) (.int (q - 1)) v
  | _ => false
def spSign (K : PySem.W.Frag) : Sp := fun vs H Q _ => ∃ p v, vs = [p, v] ∧ Kn K H p ∧ Kn K H v ∧ Q (.bl (isSg p v)) H
section
variable {P : Program} {w : World} {K : PySem.W.Frag} {mg : Str → Option Value} {base : Heap}
theorem ok_is_integer {k : Nat} (T : Txt K mg) (D : DefK K mg "is_integer" s_is_integer P_is_integer) : CalK P w K mg base (k + 1) "is_integer" s_is_integer P_is_integer (spInt K) := by
  refine calK D sc_is_integer (fun vs H Q E h => ?_) (fun f cdv A outer s H vs Q E hr h => ?_)
  · obtain ⟨v, rfl, _⟩ := h
    rfl
  obtain ⟨v, rfl, ⟨t, a, b, h1, h2, h3, e⟩, q⟩ := h
  rw [e] at q
  refine ⟨_, (pss_one (ps_ret (pe_and (pe_callB call_isi (by rfl) T.b_isinstance (by decide +kernel) (pa_cons (pv 0) (pa_cons (pe_bltn (v := .ty "int") (by rfl) T.b_int (by decide +kernel) rfl) pa_nil))) (pe_one (pe_not (pe_callB call_isi (by rfl) T.b_isinstance (by decide +kernel) (pa_cons (pv 0) (pa_cons (pe_bltn (v := .ty "bool") (by rfl) T.b_bool (by decide +kernel) rfl) pa_nil)))))))), ?_⟩
  refine ⟨_, rfl, v, _, t, _, a, rfl, .ty _, h1, h2, a, rfl, ?_⟩
  cases a with
  | false => exact iteF q
  | true => exact iteT ⟨_, rfl, v, _, t, _, b, rfl, .ty _, h1, h3 rfl, b, rfl, q⟩
theorem ok_is_within {k : Nat} (T : Txt K mg) (D : DefK K mg "is_within" s_is_within P_is_within) (c_is_integer : C8.Cal P w K mg base k "is_integer" (spInt K) []) : CalK P w K mg base (k + 1) "is_within" s_is_within P_is_within (spWithin K) := by
  refine calK D sc_is_within (fun vs H Q E h => ?_) (fun f cdv A outer s H vs Q E hr h => ?_)
  · obtain ⟨v, lo, hi, rfl, _⟩ := h
    rfl
  obtain ⟨v, lo, hi, rfl, h1, h2, h3, q⟩ := h
  refine ⟨_, (pss_cons (ps_if (pt_not (pt_val (C8.pe_c c_is_integer hr (Nat.le_refl _) (by rfl) (pa_cons (pv 0) pa_nil)))) (pss_one (ps_ret pe_bl)) pss_nil)
    (pss_one (ps_ret (pe_and (pe_or (pe_cmpR op_isN (pv 1) pe_non (nomark _)) (pe_one (pe_cmpR op_le (pv 1) (pv 0) (nomark _)))) (pe_one (pe_or (pe_cmpR op_isN (pv 2) pe_non (nomark _)) (pe_one (pe_cmpR op_le (pv 0) (pv 2) (nomark _))))))))), ?_⟩
  refine ⟨_, rfl, v, rfl, h1, intV v, rfl, ?_⟩
  cases hc : intV v with
  | false =>
    refine iteT ?_
    cases v with
    | int i => cases hc
    | _ => exact q
  | true =>
    obtain ⟨i, rfl⟩ := intV_of hc
    refine iteF ?_
    have two : ∀ r, r = loB lo i → ∃ c, (V.bl r : V) = .bl c ∧ if c = true then tOrV (tOp (fun x y H Q => y = V.non ∧ Q (V.bl (decide (x = V.non))) H) (tVar 2) (tC V.non)) (tOp (rI0 fun i j => V.bl (decide (i ≤ j))) (tVar 0) (tVar 2)) (L2.start N_is_within [V.int i, lo, hi]) H Q else Q (.bl false) H := fun r e => by
      subst e
      refine ⟨_, rfl, ?_⟩
      cases hl : loB lo i with
      | false =>
        refine iteF ?_
        have e2 : inB lo hi (.int i) = false := by show (loB lo i && hiB hi i) = false; rw [hl]; rfl
        rw [e2] at q
        exact q
      | true =>
        have e2 : inB lo hi (.int i) = hiB hi i := by show (loB lo i && hiB hi i) = _; rw [hl]; rfl
        rw [e2] at q
        refine iteT ?_
        rcases h3 with rfl | ⟨b, rfl⟩
        · exact ⟨_, rfl, rfl, true, rfl, iteT q⟩
        · exact ⟨_, rfl, rfl, false, rfl, iteF ⟨_, rfl, _, rfl, i, b, rfl, rfl, q⟩⟩
    rcases h2 with rfl | ⟨a, rfl⟩
    · exact ⟨_, rfl, rfl, true, rfl, iteT (two true rfl)⟩
    · exact ⟨_, rfl, rfl, false, rfl, iteF ⟨_, rfl, _, rfl, a, i, rfl, rfl, two _ rfl⟩⟩
theorem ok_is_list {k : Nat} (T : Txt K mg) (D : DefB K mg "is_list" s_is_list P_is_list) : C8.Cal P w K mg base (k + 1) "is_list" (spList K) [] := by
  refine calB D sc_is_list (fun vs H Q E h => ?_) (fun f cdv A outer s H vs Q E hr h => ?_)
  · obtain ⟨v, c, rfl, _⟩ := h
    rfl
  obtain ⟨v, c, rfl, ⟨t, h1, h2⟩, q⟩ := h
  refine ⟨_, (pss_one (ps_ret (pe_callB call_isiT (by rfl) T.b_isinstance (by decide +kernel) (pa_cons (pv 0) (pa_cons (pe_tup (pa_cons (pe_bltn (v := .ty "list") (by rfl) T.b_list (by decide +kernel) rfl) (pa_cons (pe_bltn (v := .ty "tuple") (by rfl) T.b_tuple (by decide +kernel) rfl) pa_nil))) pa_nil))))), ?_⟩
  refine ⟨_, rfl, (by show 2 ≤ sizeLine; decide), fun tp htp => ?_⟩
  exact ⟨v, tp, _, t, _, c, rfl, upd_same, clsLT, TyX.same (same_new htp _) h1, h2, q _ (same_new htp _)⟩
theorem ok_is_prime {k : Nat} {pr : Addr} (T : Txt K mg) (PR : PrimesC K mg pr) (D : DefK K mg "is_prime" s_is_prime P_is_prime) (c_is_integer : C8.Cal P w K mg base k "is_integer" (spInt K) []) : CalK P w K mg base (k + 1) "is_prime" s_is_prime P_is_prime (spPrime K) := by
  refine calK D sc_is_prime (fun vs H Q E h => ?_) (fun f cdv A outer s H vs Q E hr h => ?_)
  · obtain ⟨v, rfl, _⟩ := h
    rfl
  obtain ⟨v, rfl, h1, q⟩ := h
  refine ⟨_, (pss_one (ps_ret (pe_and (C8.pe_c c_is_integer hr (Nat.le_refl _) (by rfl) (pa_cons (pv 0) pa_nil)) (pe_one (pe_cmpR op_in_seq (pv 0) (C8.pe_gc (v := .ref pr) (by rfl) ⟨_, PR.g, rfl⟩) rfl))))), ?_⟩
  refine ⟨_, rfl, v, rfl, h1, intV v, rfl, ?_⟩
  unfold isPr at q
  cases hc : intV v with
  | false =>
    rw [hc] at q
    exact iteF q
  | true =>
    rw [hc] at q
    obtain ⟨i, rfl⟩ := intV_of hc
    exact iteT ⟨_, rfl, pr, _, rfl, .inr (PR.t H), rfl, by decide, q⟩
theorem ok_is_sign {k : Nat} (T : Txt K mg) (D : DefK K mg "is_sign" s_is_sign P_is_sign) (c_is_prime : C8.Cal P w K mg base k "is_prime" (spPrime K) []) (c_is_within : C8.Cal P w K mg base k "is_within" (spWithin K) []) : CalK P w K mg base (k + 1) "is_sign" s_is_sign P_is_sign (spSign K) := by
  refine calK D sc_is_sign (fun vs H Q E h => ?_) (fun f cdv A outer s H vs Q E hr h => ?_)
  · obtain ⟨p, v, rfl, _⟩ := h
    rfl
  obtain ⟨p, v, rfl, h1, h2, q⟩ := h
  refine ⟨_, (pss_one (ps_ret (pe_and (C8.pe_c c_is_prime hr (Nat.le_refl _) (by rfl) (pa_cons (pv 0) pa_nil)) (pe_one (C8.pe_c c_is_within hr (Nat.le_refl _) (by rfl) (pa_cons (pv 1) (pa_cons pe_int (pa_cons (pe_op op_sub (pv 0) pe_int) pa_nil)))))))), ?_⟩
  refine ⟨_, rfl, p, rfl, h1, isPr p, rfl, ?_⟩
  unfold isSg at q
  cases hc : isPr p with
  | false =>
    rw [hc] at q
    exact iteF q
  | true =>
    rw [hc] at q
    have hi : intV p = true := by
      cases hj : intV p with
      | true => rfl
      | false =>
        unfold isPr at hc
        rw [hj] at hc
        cases hc
    obtain ⟨i, rfl⟩ := intV_of hi
    exact iteT ⟨_, rfl, _, rfl, i, 1, rfl, rfl, v, .int 0, .int (i - 1), rfl, h2, .inr ⟨_, rfl⟩, .inr ⟨_, rfl⟩, q⟩
theorem lc_mapT {K : PySem.W.Frag} {a : Addr} {xs : List V} {g : TG} {tt : TT} {te : TE} {vs : List Nat} {σ : L2.St} {H1 : Hp} {D : Addr} {Qd : Hp → Prop} (f : V → V) (hx : SqT K H1 a xs) (hD : H1 D = none) (hz : xs.length ≤ 100000)
    (hs : ∀ (i : Nat) (x : V) (H : Hp) (Kc : V → Hp → Prop) (Nc : Hp → Prop), xs[i]? = some x → Same H1 H → (∀ H4, Same H H4 → Kc (f x) H4) →
      g x (wipe σ vs) H fun σ2 H2 => wipe σ2 vs = wipe σ vs ∧ tt σ2 H2 fun b H3 => if b = true then te σ2 H3 Kc else Nc H3)
    (hd : ∀ H, Same H1 H → H D = some (.lst (xs.map f)) → Qd H) :
    ∃ W : Nat → Nat → Hp → Prop, (∃ m, W 0 m (upd H1 D (.lst []))) ∧ ∀ i m H, W i m H →
      ((Itt K a).stop i H ∧ Qd H) ∨ ((Itt K a).go i H ∧ ∃ Nx : Hp → Prop, (∀ H', Nx H' → ∃ m', m' < m ∧ W (i + 1) m' H') ∧ ∀ x H', (Itt K a).yld i H x H' → g x (wipe σ vs) H' fun σ2 H2 => wipe σ2 vs = wipe σ vs ∧ tt σ2 H2 fun b H3 =>
        if b = true then te σ2 H3 fun y H4 => ∃ acc, H4 D = some (.lst acc) ∧ acc.length < sizeLine ∧ Nx (upd H4 D (.lst (acc ++ [y]))) else Nx H3) := by
  refine lc_accT (K := K) (fun i acc _ => acc = (xs.take i).map f) hx hD hz (fun _ _ _ _ _ h => h) rfl (fun i x acc H Kc Nc hi e _ p h1 _ => hs i x H Kc Nc hi e fun H4 e4 => h1 _ H4 e4 ?_) (fun acc H e h _ p => hd H e (by rw [h, p, List.take_length]))
  obtain ⟨il, ix⟩ := List.getElem?_eq_some_iff.mp hi
  rw [p, List.take_succ_eq_append_getElem il, List.map_append, ix]
  rfl
theorem ok_is_numbers {k : Nat} (T : Txt K mg) (D : DefK K mg "is_numbers" s_is_numbers P_is_numbers) (c_is_list : C8.Cal P w K mg base k "is_list" (spList K) []) (c_is_integer : C8.Cal P w K mg base k "is_integer" (spInt K) []) : CalK P w K mg base (k + 1) "is_numbers" s_is_numbers P_is_numbers (spNums K) := by
  refine calK D sc_is_numbers (fun vs H Q E h => ?_) (fun f cdv A outer s H vs Q E hr h => ?_)
  · obtain ⟨v, r, rfl, _⟩ := h
    rfl
  obtain ⟨v, r, rfl, ⟨hl, rfl⟩ | ⟨a, xs, rfl, hx | hx, hn, hk, rfl⟩, q⟩ := h
  · refine ⟨_, (pss_one (ps_ret (pe_and (C8.pe_c c_is_list hr (Nat.le_refl _) (by rfl) (pa_cons (pv 0) pa_nil)) (pe_one (pe_callB (cr_all rfl) (by rfl) T.b_all (by decide +kernel) (pa_cons (pe_lc (own := [("one", 1)]) (g := gName 1) (tt := tYes) rfl sc_is_numbers.nd (pi_list (pv 0)) (blkOk_by (N := N_is_numbers) (sc := C8.fnScope s_is_numbers) (by decide +kernel)) (fun _ _ _ _ _ => (pg_name (i := 1) sc_is_numbers.nd rfl (Or.inl rfl))) (fun _ _ _ _ _ => pts_nil) (fun _ _ _ _ _ => (C8.pe_c c_is_integer hr (Nat.le_refl _) (by rfl) (pa_cons (pv 1) pa_nil)))) pa_nil)))))), ?_⟩
    exact ⟨_, rfl, v, false, rfl, hl, fun H1 e1 => ⟨false, rfl, iteF (q H1 e1)⟩⟩
  · refine ⟨_, (pss_one (ps_ret (pe_and (C8.pe_c c_is_list hr (Nat.le_refl _) (by rfl) (pa_cons (pv 0) pa_nil)) (pe_one (pe_callB (cr_all rfl) (by rfl) T.b_all (by decide +kernel) (pa_cons (pe_lc (own := [("one", 1)]) (g := gName 1) (tt := tYes) rfl sc_is_numbers.nd (pi_list (pv 0)) (blkOk_by (N := N_is_numbers) (sc := C8.fnScope s_is_numbers) (by decide +kernel)) (fun _ _ _ _ _ => (pg_name (i := 1) sc_is_numbers.nd rfl (Or.inl rfl))) (fun _ _ _ _ _ => pts_nil) (fun _ _ _ _ _ => (C8.pe_c c_is_integer hr (Nat.le_refl _) (by rfl) (pa_cons (pv 1) pa_nil)))) pa_nil)))))), ?_⟩
    refine ⟨_, rfl, _, true, rfl, listK_list hx, fun H1 e1 => ⟨true, rfl, iteT ?_⟩⟩
    refine ⟨_, rfl, a, rfl, ⟨_, e1.seq hx⟩, fun D hD => lc_map (K := K) (fun x => .bl (intV x)) (e1.seq hx) hD (by omega) (fun i x H2 Kc Nc hi e k => ?_) fun H2 e hD2 => ?_⟩
    · exact ⟨rfl, _, rfl, _, rfl, (hk x (List.mem_of_getElem? hi)).same (e1.trans e), k H2 fun _ _ h => h⟩
    · refine ⟨D, xs.map intV, rfl, SqL.of (by rw [hD2, List.map_map]; rfl), ?_⟩
      rw [List.all_map]
      exact q _ (e1.trans e)
  · refine ⟨_, (pss_one (ps_ret (pe_and (C8.pe_c c_is_list hr (Nat.le_refl _) (by rfl) (pa_cons (pv 0) pa_nil)) (pe_one (pe_callB (cr_all rfl) (by rfl) T.b_all (by decide +kernel) (pa_cons (pe_lc (own := [("one", 1)]) (g := gName 1) (tt := tYes) rfl sc_is_numbers.nd (pi_tup (pv 0)) (blkOk_by (N := N_is_numbers) (sc := C8.fnScope s_is_numbers) (by decide +kernel)) (fun _ _ _ _ _ => (pg_name (i := 1) sc_is_numbers.nd rfl (Or.inl rfl))) (fun _ _ _ _ _ => pts_nil) (fun _ _ _ _ _ => (C8.pe_c c_is_integer hr (Nat.le_refl _) (by rfl) (pa_cons (pv 1) pa_nil)))) pa_nil)))))), ?_⟩
    refine ⟨_, rfl, _, true, rfl, listK_tup hx, fun H1 e1 => ⟨true, rfl, iteT ?_⟩⟩
    refine ⟨_, rfl, a, rfl, ⟨_, same_seqT e1 hx⟩, fun D hD => lc_mapT (K := K) (fun x => .bl (intV x)) (same_seqT e1 hx) hD (by omega) (fun i x H2 Kc Nc hi e k => ?_) fun H2 e hD2 => ?_⟩
    · exact ⟨rfl, _, rfl, _, rfl, (hk x (List.mem_of_getElem? hi)).same (e1.trans e), k H2 fun _ _ h => h⟩
    · refine ⟨D, xs.map intV, rfl, SqL.of (by rw [hD2, List.map_map]; rfl), ?_⟩
      rw [List.all_map]
      exact q _ (e1.trans e)
end
end My


set_option Elab.async false
set_option linter.all false
set_option maxRecDepth 100000
namespace My
open PySem PySem.Spec PyProof.Rows L2
/-! ### two walks in one comprehension -/
structure Walks (J : It) (xs : List V) (G : Hp → Prop) : Prop where
  stop : ∀ i H, G H → xs.length ≤ i → J.stop i H
  go : ∀ i x H, G H → xs[i]? = some x → J.go i H
  yld : ∀ i x H H', G H → J.yld i H x H' → H' = H ∧ xs[i]? = some x
theorem walksL (K : PySem.W.Frag) (a : Addr) (xs : List V) : Walks (Itl K a) xs (fun H => SqL K H a xs) :=
  ⟨fun i H h le => ⟨xs, h, le⟩, fun i x H h e => ⟨xs, x, h, e⟩, fun i x H H' h y => ⟨y.1, y.2 xs h⟩⟩
theorem walksT (K : PySem.W.Frag) (a : Addr) (xs : List V) : Walks (Itt K a) xs (fun H => SqT K H a xs) :=
  ⟨fun i H h le => ⟨xs, h, le⟩, fun i x H h e => ⟨xs, x, h, e⟩, fun i x H H' h y => ⟨y.1, y.2 xs h⟩⟩
theorem flat_take {ys : List (List V)} {i : Nat} {y : List V} (h : ys[i]? = some y) : (ys.take (i + 1)).flatten = (ys.take i).flatten ++ y := by
  obtain ⟨il, e⟩ := List.getElem?_eq_some_iff.mp h
  rw [List.take_succ_eq_append_getElem il, List.flatten_append, e]
  simp
theorem flat_le {ys : List (List V)} {i j : Nat} {y : List V} (h : ys[i]? = some y) (hj : j < y.length) : ((ys.take i).flatten ++ y.take j).length < ys.flatten.length := by
  have e : ys.flatten = (ys.take (i + 1)).flatten ++ (ys.drop (i + 1)).flatten := by rw [← List.flatten_append, List.take_append_drop]
  rw [e, flat_take h]
  simp only [List.length_append, List.length_take]
  omega
theorem lc2_flat {K : PySem.W.Frag} {J : It} {G : Hp → Prop} {xs : List V} {ys : List (List V)} {wi1 : TI} {vs vs1 : List Nat} {i0 i1 : Nat} {σ : L2.St} {H1 : Hp} {D : Addr} {Qd : Hp → Prop} (wk : Walks J xs G) (hG : ∀ H, Same H1 H → G H) (hD : H1 D = none)
    (hl : xs.length = ys.length) (hz : ys.flatten.length ≤ 100000) (w0 : ∀ x, wipe ((wipe σ vs).set i0 (some x)) vs = wipe σ vs)
    (w1 : ∀ x y, wipe ((wipe ((wipe σ vs).set i0 (some x)) vs1).set i1 (some y)) vs1 = wipe ((wipe σ vs).set i0 (some x)) vs1) (rd : ∀ x y, ((wipe ((wipe σ vs).set i0 (some x)) vs1).set i1 (some y))[i1]? = some (some y))
    (inner : ∀ (i : Nat) (x : V) (y : List V) (H : Hp) (Kc : It → Hp → Prop), xs[i]? = some x → ys[i]? = some y → Same H1 H → (∀ l H4, H l = none → Same H H4 → H4 l = some (.lst y) → Kc (Itl K l) H4) → wi1 ((wipe σ vs).set i0 (some x)) H Kc)
    (hd : ∀ H, Same H1 H → H D = some (.lst ys.flatten) → Qd H) :
    ∃ W : Nat → Nat → Hp → Prop, (∃ m, W 0 m (upd H1 D (.lst []))) ∧ ∀ i m H, W i m H →
      (J.stop i H ∧ Qd H) ∨ (J.go i H ∧ ∃ Nx : Hp → Prop, (∀ H', Nx H' → ∃ m', m' < m ∧ W (i + 1) m' H') ∧ ∀ x H', J.yld i H x H' → gName i0 x (wipe σ vs) H' fun σ2 H2 => wipe σ2 vs = wipe σ vs ∧ tYes σ2 H2 fun b H3 =>
        if b = true then wi1 σ2 H3 fun J1 H4 => ∃ W1 : Nat → Nat → Hp → Prop, (∃ m, W1 0 m H4) ∧ ∀ j k H, W1 j k H →
          (J1.stop j H ∧ Nx H) ∨ (J1.go j H ∧ ∃ Nx1 : Hp → Prop, (∀ H', Nx1 H' → ∃ k', k' < k ∧ W1 (j + 1) k' H') ∧ ∀ x H', J1.yld j H x H' → gName i1 x (wipe σ2 vs1) H' fun σ3 H5 => wipe σ3 vs1 = wipe σ2 vs1 ∧ tYes σ3 H5 fun b H6 =>
            if b = true then tVar i1 σ3 H6 fun y H7 => ∃ acc, H7 D = some (.lst acc) ∧ acc.length < sizeLine ∧ Nx1 (upd H7 D (.lst (acc ++ [y]))) else Nx1 H6)
        else Nx H3) := by
  refine ⟨fun i m H => m = xs.length - i ∧ i ≤ xs.length ∧ Same H1 H ∧ H D = some (.lst (ys.take i).flatten), ⟨_, rfl, Nat.zero_le _, same_new hD _, by rw [upd_same]; simp⟩, fun i m H h => ?_⟩
  obtain ⟨em, hi, e, hD2⟩ := h
  have g := hG H e
  by_cases lt : i < xs.length
  · have hx := List.getElem?_eq_getElem lt
    refine .inr ⟨wk.go i _ H g hx, fun H' => Same H1 H' ∧ H' D = some (.lst (ys.take (i + 1)).flatten), fun H' n => ⟨xs.length - (i + 1), by omega, rfl, lt, n⟩, fun x H' y => ?_⟩
    obtain ⟨eH, hx2⟩ := wk.yld i x H H' g y
    subst eH
    have ly : i < ys.length := by omega
    have hy := List.getElem?_eq_getElem ly
    refine ⟨w0 x, ?_⟩
    refine inner i x _ H' _ hx2 hy e fun l H4 hl4 e4 hq => ?_
    have ne : l ≠ D := fun z => by
      subst z
      rw [hD2] at hl4
      cases hl4
    refine ⟨fun j k H => k = ys[i].length - j ∧ j ≤ ys[i].length ∧ Same H1 H ∧ H l = some (.lst ys[i]) ∧ H D = some (.lst ((ys.take i).flatten ++ ys[i].take j)), ⟨_, rfl, Nat.zero_le _, e.trans e4, hq, by rw [e4 _ _ hD2]; simp⟩, fun j k H5 h => ?_⟩
    obtain ⟨ek, hj, e5, hl5, hD5⟩ := h
    have w2 := walksL K l ys[i]
    by_cases lt2 : j < ys[i].length
    · have hz2 := List.getElem?_eq_getElem lt2
      refine .inr ⟨w2.go j _ H5 (SqL.of hl5) hz2, fun H' => Same H1 H' ∧ H' l = some (.lst ys[i]) ∧ H' D = some (.lst ((ys.take i).flatten ++ ys[i].take (j + 1))), fun H' n => ⟨ys[i].length - (j + 1), by omega, rfl, lt2, n⟩, fun z H' y => ?_⟩
      obtain ⟨eH, hz3⟩ := w2.yld j z H5 H' (SqL.of hl5) y
      subst eH
      refine ⟨w1 x z, ⟨z, rd x z, _, hD5, Nat.lt_of_lt_of_le (flat_le hy lt2) (Nat.le_trans hz (by decide)), ?_⟩⟩
      refine ⟨fun b o hb => ?_, ?_, ?_⟩
      · rw [upd_ne (ne_of_none hb hD)]
        exact e5 b o hb
      · rw [upd_ne ne]
        exact hl5
      · rw [upd_same, List.append_assoc]
        congr 3
        obtain ⟨il, ez⟩ := List.getElem?_eq_some_iff.mp hz3
        rw [List.take_succ_eq_append_getElem il, ez]
    · have ej : j = ys[i].length := by omega
      refine .inl ⟨w2.stop j H5 (SqL.of hl5) (by omega), e5, ?_⟩
      rw [hD5, ej, List.take_length, flat_take hy]
  · have ei : i = xs.length := by omega
    refine .inl ⟨wk.stop i H g (by omega), hd H e ?_⟩
    rw [hD2, ei, hl, List.take_length]
/-! ### values laid flat -/
def FlatOf (K : PySem.W.Frag) (H : Hp) : Nat → V → List Key → Prop
  | 0, _, _ => False
  | n + 1, v, k => (∃ i, v = .int i ∧ k = [.inl i]) ∨ ∃ (a : Addr) (xs : List V) (kss : List (List Key)), v = .ref a ∧ (SqL K H a xs ∨ SqT K H a xs) ∧ xs.length = kss.length ∧ (∀ (i : Nat) (x : V) (ks : List Key), xs[i]? = some x → kss[i]? = some ks → FlatOf K H n x ks) ∧ kss.flatten.length ≤ 1000 ∧ k = .inr "(" :: (kss.flatten ++ [.inr ")"])
theorem FlatOf.same {K : PySem.W.Frag} {H H' : Hp} (e : Same H H') : ∀ (n : Nat) {v : V} {k : List Key}, FlatOf K H n v k → FlatOf K H' n v k
  | 0, _, _, h => h.elim
  | n + 1, v, k, h => by
    rcases h with h | ⟨a, xs, kss, h1, h2, h3, h4, h5⟩
    · exact .inl h
    · refine .inr ⟨a, xs, kss, h1, ?_, h3, fun i x ks hx hk => FlatOf.same e n (h4 i x ks hx hk), h5⟩
      rcases h2 with h2 | h2
      · exact .inl (e.seq h2)
      · exact .inr (same_seqT e h2)
def spFlat (K : PySem.W.Frag) (n : Nat) : Sp := fun vs H Q _ => ∃ v k, vs = [v] ∧ FlatOf K H n v k ∧ ∀ p H', H p = none → Same H H' → H' p = some (.lst (k.map kV)) → Q (.ref p) H'
section
variable {P : Program} {w : World} {K : PySem.W.Frag} {mg : Str → Option Value} {base : Heap}
theorem ok_flat {n : Nat} (T : Txt K mg) (D : DefB K mg "flat" s_flat P_flat) (cl : C8.Cal P w K mg base 1 "is_list" (spList K) []) (c : C8.Cal P w K mg base (n + 1) "flat" (spFlat K n) []) : C8.Cal P w K mg base (n + 2) "flat" (spFlat K (n + 1)) [] := by
  refine calB D sc_flat (fun vs H Q E h => ?_) (fun f cdv A outer s H vs Q E hr h => ?_)
  · obtain ⟨v, k, rfl, _⟩ := h
    rfl
  obtain ⟨v, k, rfl, ⟨i, rfl, rfl⟩ | ⟨a, xs, kss, rfl, hx | hx, h3, h4, h5, rfl⟩, q⟩ := h
  · refine ⟨_, (pss_cons (ps_if (pt_not (pt_val (C8.pe_c cl hr (Nat.succ_le_succ (Nat.zero_le _)) (by rfl) (pa_cons (pv 0) pa_nil)))) (pss_one (ps_ret (pe_lst (pa_cons (pv 0) pa_nil)))) pss_nil)
    (pss_one (ps_ret (pe_lst (pa_cons pe_str (StX.pa_star (pe_lc2 (own := [("part", 1), ("item", 2)]) (vs1 := [2]) (g := gName 1) (g1 := gName 2) (tt := tYes) (tt1 := tYes) (wi1 := iList K _) rfl sc_flat.nd (pi_list (pv 0)) (blkOk_by (N := N_flat) (sc := C8.fnScope s_flat) (by decide +kernel)) (by decide) (fun _ _ _ _ _ => (pg_name (i := 1) sc_flat.nd rfl (Or.inl rfl))) (fun _ _ _ _ _ => pts_nil) (fun _ _ _ _ _ => (pi_list (C8.pe_c c hr (Nat.le_refl _) (by rfl) (pa_cons (pv 1) pa_nil)))) (fun _ _ _ _ _ => (pg_name (i := 2) sc_flat.nd rfl (Or.inl rfl))) (fun _ _ _ _ _ => pts_nil) (fun _ _ _ _ _ => (pv 2))) (pa_cons pe_str pa_nil))))))), ?_⟩
    refine ⟨_, rfl, _, false, rfl, listK_int i, fun H1 e1 => ⟨false, rfl, iteT ?_⟩⟩
    exact ⟨_, rfl, (by show 1 ≤ sizeLine; decide), fun p hp => q p _ (e1.free hp) (e1.trans (same_new hp _)) upd_same⟩
  · refine ⟨_, (pss_cons (ps_if (pt_not (pt_val (C8.pe_c cl hr (Nat.succ_le_succ (Nat.zero_le _)) (by rfl) (pa_cons (pv 0) pa_nil)))) (pss_one (ps_ret (pe_lst (pa_cons (pv 0) pa_nil)))) pss_nil)
    (pss_one (ps_ret (pe_lst (pa_cons pe_str (StX.pa_star (pe_lc2 (own := [("part", 1), ("item", 2)]) (vs1 := [2]) (g := gName 1) (g1 := gName 2) (tt := tYes) (tt1 := tYes) (wi1 := iList K _) rfl sc_flat.nd (pi_list (pv 0)) (blkOk_by (N := N_flat) (sc := C8.fnScope s_flat) (by decide +kernel)) (by decide) (fun _ _ _ _ _ => (pg_name (i := 1) sc_flat.nd rfl (Or.inl rfl))) (fun _ _ _ _ _ => pts_nil) (fun _ _ _ _ _ => (pi_list (C8.pe_c c hr (Nat.le_refl _) (by rfl) (pa_cons (pv 1) pa_nil)))) (fun _ _ _ _ _ => (pg_name (i := 2) sc_flat.nd rfl (Or.inl rfl))) (fun _ _ _ _ _ => pts_nil) (fun _ _ _ _ _ => (pv 2))) (pa_cons pe_str pa_nil))))))), ?_⟩
    refine ⟨_, rfl, _, true, rfl, listK_list hx, fun H1 e1 => ⟨true, rfl, iteF ?_⟩⟩
    have e0 : kss.flatten.map kV = (kss.map fun k => k.map kV).flatten := by rw [List.map_flatten]
    refine ⟨_, rfl, a, rfl, ⟨_, e1.seq hx⟩, fun D hD => lc2_flat (K := K) (ys := kss.map fun k => k.map kV) (i0 := 1) (i1 := 2) (vs := [1, 2]) (vs1 := [2]) (walksL K a xs) (fun H e => (e1.trans e).seq hx) hD (by rw [List.length_map]; exact h3) ?_ (fun _ => rfl) (fun _ _ => rfl) (fun _ _ => rfl) ?_ ?_⟩
    · rw [← e0, List.length_map]
      omega
    · intro i x y H2 Kc hi hy e2 k
      rw [List.getElem?_map] at hy
      obtain ⟨ks, hk, rfl⟩ := Option.map_eq_some_iff.mp hy
      refine ⟨_, rfl, x, ks, rfl, FlatOf.same (e1.trans e2) n (h4 i x ks hi hk), fun p H3 hp e3 hl => ?_⟩
      exact ⟨p, rfl, ⟨_, SqL.of hl⟩, k p H3 hp e3 hl⟩
    · intro H2 e2 hl
      refine ⟨D, _, rfl, .inr (SqL.of hl), ?_⟩
      refine ⟨?_, fun p hp => q p _ ((e1.trans e2).free hp) ((e1.trans e2).trans (same_new hp _)) ?_⟩
      · show ((kss.map fun k => k.map kV).flatten ++ [V.str ")"]).length + 1 ≤ sizeLine
        rw [← e0, List.length_append, List.length_map]
        exact Nat.le_trans (by show _ + 1 + 1 ≤ 1002; omega) (by decide)
      · rw [upd_same, ← e0, List.map_cons, List.map_append]
        rfl
  · refine ⟨_, (pss_cons (ps_if (pt_not (pt_val (C8.pe_c cl hr (Nat.succ_le_succ (Nat.zero_le _)) (by rfl) (pa_cons (pv 0) pa_nil)))) (pss_one (ps_ret (pe_lst (pa_cons (pv 0) pa_nil)))) pss_nil)
    (pss_one (ps_ret (pe_lst (pa_cons pe_str (StX.pa_star (pe_lc2 (own := [("part", 1), ("item", 2)]) (vs1 := [2]) (g := gName 1) (g1 := gName 2) (tt := tYes) (tt1 := tYes) (wi1 := iList K _) rfl sc_flat.nd (pi_tup (pv 0)) (blkOk_by (N := N_flat) (sc := C8.fnScope s_flat) (by decide +kernel)) (by decide) (fun _ _ _ _ _ => (pg_name (i := 1) sc_flat.nd rfl (Or.inl rfl))) (fun _ _ _ _ _ => pts_nil) (fun _ _ _ _ _ => (pi_list (C8.pe_c c hr (Nat.le_refl _) (by rfl) (pa_cons (pv 1) pa_nil)))) (fun _ _ _ _ _ => (pg_name (i := 2) sc_flat.nd rfl (Or.inl rfl))) (fun _ _ _ _ _ => pts_nil) (fun _ _ _ _ _ => (pv 2))) (pa_cons pe_str pa_nil))))))), ?_⟩
    refine ⟨_, rfl, _, true, rfl, listK_tup hx, fun H1 e1 => ⟨true, rfl, iteF ?_⟩⟩
    have e0 : kss.flatten.map kV = (kss.map fun k => k.map kV).flatten := by rw [List.map_flatten]
    refine ⟨_, rfl, a, rfl, ⟨_, same_seqT e1 hx⟩, fun D hD => lc2_flat (K := K) (ys := kss.map fun k => k.map kV) (i0 := 1) (i1 := 2) (vs := [1, 2]) (vs1 := [2]) (walksT K a xs) (fun H e => same_seqT (e1.trans e) hx) hD (by rw [List.length_map]; exact h3) ?_ (fun _ => rfl) (fun _ _ => rfl) (fun _ _ => rfl) ?_ ?_⟩
    · rw [← e0, List.length_map]
      omega
    · intro i x y H2 Kc hi hy e2 k
      rw [List.getElem?_map] at hy
      obtain ⟨ks, hk, rfl⟩ := Option.map_eq_some_iff.mp hy
      refine ⟨_, rfl, x, ks, rfl, FlatOf.same (e1.trans e2) n (h4 i x ks hi hk), fun p H3 hp e3 hl => ?_⟩
      exact ⟨p, rfl, ⟨_, SqL.of hl⟩, k p H3 hp e3 hl⟩
    · intro H2 e2 hl
      refine ⟨D, _, rfl, .inr (SqL.of hl), ?_⟩
      refine ⟨?_, fun p hp => q p _ ((e1.trans e2).free hp) ((e1.trans e2).trans (same_new hp _)) ?_⟩
      · show ((kss.map fun k => k.map kV).flatten ++ [V.str ")"]).length + 1 ≤ sizeLine
        rw [← e0, List.length_append, List.length_map]
        exact Nat.le_trans (by show _ + 1 + 1 ≤ 1002; omega) (by decide)
      · rw [upd_same, ← e0, List.map_cons, List.map_append]
        rfl
end
end My


set_option Elab.async false
set_option linter.all false
set_option maxRecDepth 100000
namespace My
open PySem PySem.Spec PyProof.Rows L2
/-! ### fixed: each list as a tuple, all the way in -/
inductive Sh where
  | leaf (v : V)
  | node (ss : List Sh)
/-- the value has this shape -/
def InSh (K : PySem.W.Frag) (H : Hp) : Nat → V → Sh → Prop
  | 0, _, _ => False
  | _ + 1, v, .leaf u => u = v ∧ ListK K H v false
  | n + 1, v, .node ss => ∃ (a : Addr) (xs : List V), v = .ref a ∧ (SqL K H a xs ∨ SqT K H a xs) ∧ xs.length ≤ 100000 ∧ xs.length = ss.length ∧ ∀ (i : Nat) (x : V) (z : Sh), xs[i]? = some x → ss[i]? = some z → InSh K H n x z
/-- the value has this shape, in tuples alone -/
def TpSh (H : Hp) : Nat → V → Sh → Prop
  | 0, _, _ => False
  | _ + 1, v, .leaf u => u = v
  | n + 1, v, .node ss => ∃ (l : Addr) (ys : List V), v = .ref l ∧ H l = some (.tup ys) ∧ ys.length = ss.length ∧ ∀ (i : Nat) (y : V) (z : Sh), ys[i]? = some y → ss[i]? = some z → TpSh H n y z
theorem InSh.same {K : PySem.W.Frag} {H H' : Hp} (e : Same H H') : ∀ (n : Nat) {v : V} {z : Sh}, InSh K H n v z → InSh K H' n v z
  | 0, _, _, h => h.elim
  | n + 1, v, .leaf u, h => ⟨h.1, h.2.same e⟩
  | n + 1, v, .node ss, h => by
    obtain ⟨a, xs, h1, h2, h3, h4, h5⟩ := h
    refine ⟨a, xs, h1, ?_, h3, h4, fun i x z hx hz => InSh.same e n (h5 i x z hx hz)⟩
    rcases h2 with h2 | h2
    · exact .inl (e.seq h2)
    · exact .inr (same_seqT e h2)
/-- without what stands at D -/
def era (D : Addr) (H : Hp) : Hp := fun b => if b = D then none else H b
theorem era_same (D : Addr) (H : Hp) : Same (era D H) H := fun b o h => by
  unfold era at h
  by_cases e : b = D
  · rw [if_pos e] at h
    cases h
  · rw [if_neg e] at h
    exact h
theorem era_keep {D : Addr} {H H' : Hp} (k : Keep D H H') : Same (era D H) (era D H') := fun b o h => by
  unfold era at h ⊢
  by_cases e : b = D
  · rw [if_pos e] at h
    cases h
  · rw [if_neg e] at h ⊢
    exact k b o h e
theorem TpSh.same {H H' : Hp} (e : Same H H') : ∀ (n : Nat) {v : V} {z : Sh}, TpSh H n v z → TpSh H' n v z
  | 0, _, _, h => h.elim
  | n + 1, v, .leaf u, h => h
  | n + 1, v, .node ss, h => by
    obtain ⟨l, ys, h1, h2, h3, h4⟩ := h
    exact ⟨l, ys, h1, e _ _ h2, h3, fun i y z hy hz => TpSh.same e n (h4 i y z hy hz)⟩
theorem TpSh.era {H : Hp} {D : Addr} {acc : List V} (hD : H D = some (.lst acc)) : ∀ (n : Nat) {v : V} {z : Sh}, TpSh H n v z → TpSh (era D H) n v z
  | 0, _, _, h => h.elim
  | n + 1, v, .leaf u, h => h
  | n + 1, v, .node ss, h => by
    obtain ⟨l, ys, h1, h2, h3, h4⟩ := h
    refine ⟨l, ys, h1, ?_, h3, fun i y z hy hz => TpSh.era hD n (h4 i y z hy hz)⟩
    unfold My.era
    rw [if_neg (fun e => by rw [e, hD] at h2; cases h2)]
    exact h2
def spFix (K : PySem.W.Frag) (n : Nat) : Sp := fun vs H Q _ => ∃ v z, vs = [v] ∧ InSh K H n v z ∧ ∀ v' H', Same H H' → TpSh H' n v' z → Q v' H'
section
variable {P : Program} {w : World} {K : PySem.W.Frag} {mg : Str → Option Value} {base : Heap}
theorem cal_not {x : Str} {st : Stmt} {ps : List Str} {sp : Sp} {k : Nat} (D : DefB K mg x st ps) (no : ∀ vs H Q E, ¬ sp vs H Q E) : C8.Cal P w K mg base k x sp [] := by
  obtain ⟨f, fd, F, b⟩ := D
  exact ⟨f, fd, ps, [], ⟨fun vs H Q E h => absurd h (no vs H Q E), fun A outer s H args us vs Q E _ _ _ _ h => absurd h (no vs H Q E)⟩, F.mgf, F.kp, b, .nil⟩
theorem ok_fix {n : Nat} (T : Txt K mg) (D : DefB K mg "fixed" s_fixed P_fixed) (c : C8.Cal P w K mg base n "fixed" (spFix K n) []) : C8.Cal P w K mg base (n + 1) "fixed" (spFix K (n + 1)) [] := by
  refine calB D sc_fixed (fun vs H Q E h => ?_) (fun f cdv A outer s H vs Q E hr h => ?_)
  · obtain ⟨v, z, rfl, _⟩ := h
    rfl
  obtain ⟨v, z, rfl, hz, q⟩ := h
  cases z with
  | leaf u =>
    obtain ⟨rfl, t, ht, hk⟩ := hz
    refine ⟨_, (pss_cons (ps_if (pt_val (pe_callB call_isiT (by rfl) T.b_isinstance (by decide +kernel) (pa_cons (pv 0) (pa_cons (pe_tup (pa_cons (pe_bltn (v := .ty "list") (by rfl) T.b_list (by decide +kernel) rfl) (pa_cons (pe_bltn (v := .ty "tuple") (by rfl) T.b_tuple (by decide +kernel) rfl) pa_nil))) pa_nil)))) (pss_one (ps_ret (pe_callTy call_tuple_of (by rfl) T.b_tuple (by decide +kernel) (pa_cons (pe_lc (own := [("part", 1)]) (g := gName 1) (tt := tYes) rfl sc_fixed.nd (pi_list (pv 0)) (blkOk_by (N := N_fixed) (sc := C8.fnScope s_fixed) (by decide +kernel)) (fun _ _ _ _ _ => (pg_name (i := 1) sc_fixed.nd rfl (Or.inl rfl))) (fun _ _ _ _ _ => pts_nil) (fun _ _ _ _ _ => (C8.pe_c c hr (Nat.le_refl _) (by rfl) (pa_cons (pv 1) pa_nil)))) pa_nil)))) pss_nil)
    (pss_one (ps_ret (pv 0)))), ?_⟩
    refine ⟨_, rfl, (by show 2 ≤ sizeLine; decide), fun tp htp => ?_⟩
    refine ⟨u, tp, _, t, _, false, rfl, upd_same, clsLT, TyX.same (same_new htp _) ht, hk, _, rfl, iteF ?_⟩
    exact ⟨_, rfl, q _ _ (same_new htp _) rfl⟩
  | node ss =>
  obtain ⟨a, xs, rfl, hx | hx, h3, h4, h5⟩ := hz
  · refine ⟨_, (pss_cons (ps_if (pt_val (pe_callB call_isiT (by rfl) T.b_isinstance (by decide +kernel) (pa_cons (pv 0) (pa_cons (pe_tup (pa_cons (pe_bltn (v := .ty "list") (by rfl) T.b_list (by decide +kernel) rfl) (pa_cons (pe_bltn (v := .ty "tuple") (by rfl) T.b_tuple (by decide +kernel) rfl) pa_nil))) pa_nil)))) (pss_one (ps_ret (pe_callTy call_tuple_of (by rfl) T.b_tuple (by decide +kernel) (pa_cons (pe_lc (own := [("part", 1)]) (g := gName 1) (tt := tYes) rfl sc_fixed.nd (pi_list (pv 0)) (blkOk_by (N := N_fixed) (sc := C8.fnScope s_fixed) (by decide +kernel)) (fun _ _ _ _ _ => (pg_name (i := 1) sc_fixed.nd rfl (Or.inl rfl))) (fun _ _ _ _ _ => pts_nil) (fun _ _ _ _ _ => (C8.pe_c c hr (Nat.le_refl _) (by rfl) (pa_cons (pv 1) pa_nil)))) pa_nil)))) pss_nil)
    (pss_one (ps_ret (pv 0)))), ?_⟩
    refine ⟨_, rfl, (by show 2 ≤ sizeLine; decide), fun tp htp => ?_⟩
    have e0 := same_new htp (.tup [.ty "list", .ty "tuple"])
    refine ⟨_, tp, _, _, _, true, rfl, upd_same, clsLT, tyx_L (e0.seq hx), kit_lt, _, rfl, iteT ?_⟩
    refine ⟨_, rfl, a, rfl, ⟨_, e0.seq hx⟩, fun D hD => lc_acc (K := K) (fun i acc H => acc.length = i ∧ ∀ (j : Nat) (y : V) (z : Sh), acc[j]? = some y → ss[j]? = some z → TpSh (era D H) n y z) (e0.seq hx) hD h3 (fun i acc H H' k h => ⟨h.1, fun j y z hy hz => (h.2 j y z hy hz).same (era_keep k) n⟩) ⟨rfl, fun j y z hy => by simp at hy⟩ ?_ ?_⟩
    · intro i x acc H1 Kc Nc hi e hD1 p h1 _
      refine ⟨rfl, _, rfl, ?_⟩
      have iz : i < ss.length := by
        have := (List.getElem?_eq_some_iff.mp hi).1
        omega
      have hz := List.getElem?_eq_getElem iz
      refine ⟨x, ss[i], rfl, InSh.same (e0.trans e) n (h5 i x _ hi hz), fun y H4 e4 t4 => h1 y H4 e4 ⟨by rw [List.length_append, p.1]; rfl, fun j u z hu hz2 => ?_⟩⟩
      by_cases lt : j < acc.length
      · rw [List.getElem?_append_left lt] at hu
        exact (p.2 j u z hu hz2).same (era_keep (Keep.of e4)) n
      · rw [List.getElem?_append_right (by omega)] at hu
        have ej : j - acc.length = 0 := by
          cases q0 : j - acc.length with
          | zero => rfl
          | succ m => rw [q0] at hu; simp at hu
        rw [ej] at hu
        have ei : j = i := by have := p.1; omega
        subst ei
        rw [hz] at hz2
        cases hz2
        cases hu
        exact t4.era (e4 _ _ hD1) n
    · intro acc H1 e hD1 _ p
      refine ⟨D, acc, rfl, .inl ⟨SqL.of hD1, fun l hl1 => ?_⟩⟩
      refine q _ _ ((e0.trans e).trans (same_new hl1 _)) ⟨l, acc, rfl, upd_same, by rw [p.1]; exact h4, fun j y z hy hz => ?_⟩
      exact (p.2 j y z hy hz).same ((era_same D H1).trans (same_new hl1 _)) n
  · refine ⟨_, (pss_cons (ps_if (pt_val (pe_callB call_isiT (by rfl) T.b_isinstance (by decide +kernel) (pa_cons (pv 0) (pa_cons (pe_tup (pa_cons (pe_bltn (v := .ty "list") (by rfl) T.b_list (by decide +kernel) rfl) (pa_cons (pe_bltn (v := .ty "tuple") (by rfl) T.b_tuple (by decide +kernel) rfl) pa_nil))) pa_nil)))) (pss_one (ps_ret (pe_callTy call_tuple_of (by rfl) T.b_tuple (by decide +kernel) (pa_cons (pe_lc (own := [("part", 1)]) (g := gName 1) (tt := tYes) rfl sc_fixed.nd (pi_tup (pv 0)) (blkOk_by (N := N_fixed) (sc := C8.fnScope s_fixed) (by decide +kernel)) (fun _ _ _ _ _ => (pg_name (i := 1) sc_fixed.nd rfl (Or.inl rfl))) (fun _ _ _ _ _ => pts_nil) (fun _ _ _ _ _ => (C8.pe_c c hr (Nat.le_refl _) (by rfl) (pa_cons (pv 1) pa_nil)))) pa_nil)))) pss_nil)
    (pss_one (ps_ret (pv 0)))), ?_⟩
    refine ⟨_, rfl, (by show 2 ≤ sizeLine; decide), fun tp htp => ?_⟩
    have e0 := same_new htp (.tup [.ty "list", .ty "tuple"])
    refine ⟨_, tp, _, _, _, true, rfl, upd_same, clsLT, tyx_T (same_seqT e0 hx), kit_tt, _, rfl, iteT ?_⟩
    refine ⟨_, rfl, a, rfl, ⟨_, same_seqT e0 hx⟩, fun D hD => lc_accT (K := K) (fun i acc H => acc.length = i ∧ ∀ (j : Nat) (y : V) (z : Sh), acc[j]? = some y → ss[j]? = some z → TpSh (era D H) n y z) (same_seqT e0 hx) hD h3 (fun i acc H H' k h => ⟨h.1, fun j y z hy hz => (h.2 j y z hy hz).same (era_keep k) n⟩) ⟨rfl, fun j y z hy => by simp at hy⟩ ?_ ?_⟩
    · intro i x acc H1 Kc Nc hi e hD1 p h1 _
      refine ⟨rfl, _, rfl, ?_⟩
      have iz : i < ss.length := by
        have := (List.getElem?_eq_some_iff.mp hi).1
        omega
      have hz := List.getElem?_eq_getElem iz
      refine ⟨x, ss[i], rfl, InSh.same (e0.trans e) n (h5 i x _ hi hz), fun y H4 e4 t4 => h1 y H4 e4 ⟨by rw [List.length_append, p.1]; rfl, fun j u z hu hz2 => ?_⟩⟩
      by_cases lt : j < acc.length
      · rw [List.getElem?_append_left lt] at hu
        exact (p.2 j u z hu hz2).same (era_keep (Keep.of e4)) n
      · rw [List.getElem?_append_right (by omega)] at hu
        have ej : j - acc.length = 0 := by
          cases q0 : j - acc.length with
          | zero => rfl
          | succ m => rw [q0] at hu; simp at hu
        rw [ej] at hu
        have ei : j = i := by have := p.1; omega
        subst ei
        rw [hz] at hz2
        cases hz2
        cases hu
        exact t4.era (e4 _ _ hD1) n
    · intro acc H1 e hD1 _ p
      refine ⟨D, acc, rfl, .inl ⟨SqL.of hD1, fun l hl1 => ?_⟩⟩
      refine q _ _ ((e0.trans e).trans (same_new hl1 _)) ⟨l, acc, rfl, upd_same, by rw [p.1]; exact h4, fun j y z hy hz => ?_⟩
      exact (p.2 j y z hy hz).same ((era_same D H1).trans (same_new hl1 _)) n
theorem ok_fixN (T : Txt K mg) (D : DefB K mg "fixed" s_fixed P_fixed) : ∀ n : Nat, C8.Cal P w K mg base n "fixed" (spFix K n) []
  | 0 => cal_not D fun vs H Q E h => by
    obtain ⟨v, z, _, hn, _⟩ := h
    exact hn
  | n + 1 => ok_fix T D (ok_fixN T D n)
theorem ok_flatN (T : Txt K mg) (D : DefB K mg "flat" s_flat P_flat) (cl : C8.Cal P w K mg base 1 "is_list" (spList K) []) : ∀ n : Nat, C8.Cal P w K mg base (n + 1) "flat" (spFlat K n) []
  | 0 => cal_not D fun vs H Q E h => by
    obtain ⟨v, k, _, hn, _⟩ := h
    exact hn
  | n + 1 => ok_flat T D cl (ok_flatN T D cl n)
end
end My


set_option Elab.async false
set_option linter.all false
set_option maxRecDepth 100000
namespace My
open PySem PySem.Spec PyProof.Rows L2
def twiceAt (kss : List (List Key)) : Option Nat := (List.range kss.length).find? fun i => hasKey (kss.take i) (kss.getD i [])
/-- none of the first i equals one ahead of it -/
def Once (kss : List (List Key)) (i : Nat) : Prop := ∀ (j : Nat) (k : List Key), j < i → kss[j]? = some k → hasKey (kss.take j) k = false
theorem twice_some {kss : List (List Key)} {i : Nat} {k : List Key} (o : Once kss i) (h : kss[i]? = some k) (t : hasKey (kss.take i) k = true) : twiceAt kss = some i := by
  have il := (List.getElem?_eq_some_iff.mp h).1
  refine find_range _ il (by rw [List.getD_eq_getElem?_getD, h]; exact t) fun j hj => ?_
  have hj2 := List.getElem?_eq_getElem (Nat.lt_trans hj il)
  rw [List.getD_eq_getElem?_getD, hj2]
  exact o j _ hj hj2
theorem twice_none {kss : List (List Key)} (o : Once kss kss.length) : twiceAt kss = none := by
  refine find_range_none _ fun j hj => ?_
  have hj2 := List.getElem?_eq_getElem hj
  rw [List.getD_eq_getElem?_getD, hj2]
  exact o j _ hj hj2
theorem hasKey_iff {ks : List (List Key)} {k : List Key} : hasKey ks k = true ↔ k ∈ ks := by
  constructor
  · intro h
    rcases Classical.em (k ∈ ks) with z | z
    · exact z
    · rw [hasKey_no z] at h
      cases h
  · exact hasKey_yes
theorem hasKey_congr {as bs : List (List Key)} {k : List Key} (h : k ∈ as ↔ k ∈ bs) : hasKey as k = hasKey bs k := by
  cases e : hasKey bs k with
  | true => exact hasKey_yes (h.mpr (hasKey_iff.mp e))
  | false => exact hasKey_no fun z => by rw [hasKey_yes (h.mp z)] at e; cases e
def spTwice (K : PySem.W.Frag) (n : Nat) : Sp := fun vs H Q _ => ∃ (a : Addr) (xs : List V) (kss : List (List Key)) (zs : List Sh), vs = [.ref a] ∧ (SqL K H a xs ∨ SqT K H a xs) ∧ xs.length < 63 ∧ kss.length = xs.length ∧ zs.length = xs.length ∧
  (∀ (i : Nat) (x : V) (k : List Key), xs[i]? = some x → kss[i]? = some k → FlatOf K H n x k) ∧ (∀ (i : Nat) (x : V) (z : Sh), xs[i]? = some x → zs[i]? = some z → InSh K H n x z) ∧
  (twiceAt kss = none → ∀ H', Same H H' → Q .non H') ∧ ∀ (i : Nat) (z : Sh), twiceAt kss = some i → zs[i]? = some z → ∀ v' H', Same H H' → TpSh H' n v' z → Q v' H'
section
variable {P : Program} {w : World} {K : PySem.W.Frag} {mg : Str → Option Value} {base : Heap}
theorem ok_first_twice {n : Nat} (T : Txt K mg) (D : DefK K mg "first_twice" s_first_twice P_first_twice) (c_flat : C8.Cal P w K mg base (n + 1) "flat" (spFlat K n) []) (c_fixed : C8.Cal P w K mg base n "fixed" (spFix K n) []) : CalK P w K mg base (n + 2) "first_twice" s_first_twice P_first_twice (spTwice K n) := by
  refine calK D sc_first_twice (fun vs H Q E h => ?_) (fun f cdv A outer s H vs Q E hr h => ?_)
  · obtain ⟨a, xs, kss, zs, rfl, _⟩ := h
    rfl
  obtain ⟨a, xs, kss, zs, rfl, hx | hx, len, hkl, hzl, hf, hs, q1, q2⟩ := h
  · refine ⟨_, (pss_cons (ps_set (i := 1) sc_first_twice.nd rfl (Or.inl rfl) (pe_callTy0 cr_newM (by rfl) T.b_set (by decide +kernel)))
    (pss_cons (ps_for PassesOwn.never rfl (pi_list (pv 0)) (pg_name (i := 2) sc_first_twice.nd rfl (Or.inl rfl))
      (pss_cons (ps_set (i := 3) sc_first_twice.nd rfl (Or.inl rfl) (pe_callTy call_tuple_of (by rfl) T.b_tuple (by decide +kernel) (pa_cons (C8.pe_c c_flat hr (by omega) (by rfl) (pa_cons (pv 2) pa_nil)) pa_nil)))
    (pss_cons (ps_if (pt_cmpR (or_inM hr.units) (pv 3) (pv 1) rfl) (pss_one (ps_ret (C8.pe_c c_fixed hr (by omega) (by rfl) (pa_cons (pv 2) pa_nil)))) pss_nil)
    (pss_one (ps_expr (pe_mG tyM_ok PySem.F.plainAttrs_set PySem.F.slot_set_add PySem.F.type_set_add (mt_addM hr.units) (pv 1) (pa_cons (pv 3) pa_nil)))))))
    (pss_one (ps_ret pe_non)))), ?_⟩
    refine ⟨rfl, fun S hS => ?_⟩
    have e0 := same_new hS (MSet P w S [])
    refine ⟨_, rfl, a, rfl, ⟨_, e0.seq hx⟩, for_list (K := K) (a := a) (xs := xs) (fun i σ H' => (∃ x2 x3, σ = [some (.ref a), some (.ref S), x2, x3]) ∧ Same H H' ∧ Once kss i ∧ ∃ L : List Mem, H' S = some (MSet P w S L) ∧ (∀ r ∈ L, H' r.1 = some (.tup (r.2.map kV))) ∧
      (∀ k, k ∈ L.map (fun r : Mem => r.2) ↔ k ∈ kss.take i) ∧ L.length ≤ i) ⟨⟨_, _, rfl⟩, e0, fun j k hj => absurd hj (Nat.not_lt_zero _), [], upd_same, (fun r hr => nomatch hr), fun k => ?_, Nat.le_refl _⟩ (fun i σ' H' _ p => p.2.1.seq hx) ?_ ?_⟩
    · simp
    · rintro i x σ' H' hi ⟨⟨x2, x3, rfl⟩, e, on, L, hL, tup, mem, len⟩
      have il := (List.getElem?_eq_some_iff.mp hi).1
      have ik : i < kss.length := by omega
      have iz : i < zs.length := by omega
      have hk := List.getElem?_eq_getElem ik
      have hz := List.getElem?_eq_getElem iz
      refine ⟨_, rfl, x, kss[i], rfl, FlatOf.same e n (hf i x _ hi hk), fun p H2 hp e2 hl => ?_⟩
      refine ⟨p, _, rfl, .inl ⟨SqL.of hl, fun l hl1 => ?_⟩⟩
      have e3 : Same H' (upd H2 l (.tup (kss[i].map kV))) := e2.trans (same_new hl1 _)
      have tup3 : ∀ r ∈ L, SqT K (upd H2 l (.tup (kss[i].map kV))) r.1 (r.2.map kV) := fun r hr => SqT.of (e3 _ _ (tup r hr))
      refine ⟨_, rfl, _, rfl, S, l, kss[i], L, rfl, rfl, e3 _ _ hL, SqT.of upd_same, tup3, _, rfl, ?_⟩
      have hm : hasKey (L.map fun r : Mem => r.2) kss[i] = hasKey (kss.take i) kss[i] := hasKey_congr (mem _)
      rw [hm]
      cases hb : hasKey (kss.take i) kss[i] with
      | true =>
        refine iteT ⟨_, rfl, x, zs[i], rfl, InSh.same (e.trans e3) n (hs i x _ hi hz), fun v' H4 e4 t4 => ?_⟩
        exact q2 i _ (twice_some on hk hb) hz v' H4 ((e.trans e3).trans e4) t4
      | false =>
        refine iteF ⟨_, rfl, ⟨S, L, rfl, e3 _ _ hL⟩, _, rfl, S, l, kss[i], L, rfl, rfl, e3 _ _ hL, SqT.of upd_same, tup3, by omega, fun L' _ more => ?_⟩
        have nin : kss[i] ∉ L.map fun r : Mem => r.2 := fun z => by
          rw [hasKey_yes ((mem _).mp z)] at hb
          cases hb
        have pm := more nin
        refine ⟨⟨_, _, rfl⟩, fun b o hb2 => ?_, fun j k hj hk2 => ?_, L', upd_same, fun r hr => ?_, fun k => ?_, ?_⟩
        · rw [upd_ne (ne_of_none hb2 hS)]
          exact (e.trans e3) b o hb2
        · by_cases z : j < i
          · exact on j k z hk2
          · have ej : j = i := by omega
            subst ej
            rw [hk] at hk2
            cases hk2
            exact hb
        · have tp : upd H2 l (.tup (kss[i].map kV)) r.1 = some (.tup (r.2.map kV)) := by
            rcases List.mem_cons.mp (pm.mem_iff.mp hr) with z | z
            · rw [z]; exact upd_same
            · exact e3 _ _ (tup r z)
          have nS : r.1 ≠ S := fun z => by
            rw [z, e3 _ _ hL] at tp
            cases tp
          rw [upd_ne nS]
          exact tp
        · have t1 : kss.take (i + 1) = kss.take i ++ [kss[i]] := List.take_succ_eq_append_getElem ik
          rw [t1, List.mem_append, List.mem_singleton, ← mem k, (pm.map _).mem_iff, List.map_cons, List.mem_cons]
          exact Or.comm
        · rw [pm.length_eq, List.length_cons]
          omega
    · rintro σ' H' ⟨_, e, on, _⟩
      exact q1 (twice_none (by rw [hkl]; exact on)) H' e
  · refine ⟨_, (pss_cons (ps_set (i := 1) sc_first_twice.nd rfl (Or.inl rfl) (pe_callTy0 cr_newM (by rfl) T.b_set (by decide +kernel)))
    (pss_cons (ps_for PassesOwn.never rfl (pi_tup (pv 0)) (pg_name (i := 2) sc_first_twice.nd rfl (Or.inl rfl))
      (pss_cons (ps_set (i := 3) sc_first_twice.nd rfl (Or.inl rfl) (pe_callTy call_tuple_of (by rfl) T.b_tuple (by decide +kernel) (pa_cons (C8.pe_c c_flat hr (by omega) (by rfl) (pa_cons (pv 2) pa_nil)) pa_nil)))
    (pss_cons (ps_if (pt_cmpR (or_inM hr.units) (pv 3) (pv 1) rfl) (pss_one (ps_ret (C8.pe_c c_fixed hr (by omega) (by rfl) (pa_cons (pv 2) pa_nil)))) pss_nil)
    (pss_one (ps_expr (pe_mG tyM_ok PySem.F.plainAttrs_set PySem.F.slot_set_add PySem.F.type_set_add (mt_addM hr.units) (pv 1) (pa_cons (pv 3) pa_nil)))))))
    (pss_one (ps_ret pe_non)))), ?_⟩
    refine ⟨rfl, fun S hS => ?_⟩
    have e0 := same_new hS (MSet P w S [])
    refine ⟨_, rfl, a, rfl, ⟨_, same_seqT e0 hx⟩, for_tup (K := K) (a := a) (xs := xs) (fun i σ H' => (∃ x2 x3, σ = [some (.ref a), some (.ref S), x2, x3]) ∧ Same H H' ∧ Once kss i ∧ ∃ L : List Mem, H' S = some (MSet P w S L) ∧ (∀ r ∈ L, H' r.1 = some (.tup (r.2.map kV))) ∧
      (∀ k, k ∈ L.map (fun r : Mem => r.2) ↔ k ∈ kss.take i) ∧ L.length ≤ i) ⟨⟨_, _, rfl⟩, e0, fun j k hj => absurd hj (Nat.not_lt_zero _), [], upd_same, (fun r hr => nomatch hr), fun k => ?_, Nat.le_refl _⟩ (fun i σ' H' _ p => same_seqT p.2.1 hx) ?_ ?_⟩
    · simp
    · rintro i x σ' H' hi ⟨⟨x2, x3, rfl⟩, e, on, L, hL, tup, mem, len⟩
      have il := (List.getElem?_eq_some_iff.mp hi).1
      have ik : i < kss.length := by omega
      have iz : i < zs.length := by omega
      have hk := List.getElem?_eq_getElem ik
      have hz := List.getElem?_eq_getElem iz
      refine ⟨_, rfl, x, kss[i], rfl, FlatOf.same e n (hf i x _ hi hk), fun p H2 hp e2 hl => ?_⟩
      refine ⟨p, _, rfl, .inl ⟨SqL.of hl, fun l hl1 => ?_⟩⟩
      have e3 : Same H' (upd H2 l (.tup (kss[i].map kV))) := e2.trans (same_new hl1 _)
      have tup3 : ∀ r ∈ L, SqT K (upd H2 l (.tup (kss[i].map kV))) r.1 (r.2.map kV) := fun r hr => SqT.of (e3 _ _ (tup r hr))
      refine ⟨_, rfl, _, rfl, S, l, kss[i], L, rfl, rfl, e3 _ _ hL, SqT.of upd_same, tup3, _, rfl, ?_⟩
      have hm : hasKey (L.map fun r : Mem => r.2) kss[i] = hasKey (kss.take i) kss[i] := hasKey_congr (mem _)
      rw [hm]
      cases hb : hasKey (kss.take i) kss[i] with
      | true =>
        refine iteT ⟨_, rfl, x, zs[i], rfl, InSh.same (e.trans e3) n (hs i x _ hi hz), fun v' H4 e4 t4 => ?_⟩
        exact q2 i _ (twice_some on hk hb) hz v' H4 ((e.trans e3).trans e4) t4
      | false =>
        refine iteF ⟨_, rfl, ⟨S, L, rfl, e3 _ _ hL⟩, _, rfl, S, l, kss[i], L, rfl, rfl, e3 _ _ hL, SqT.of upd_same, tup3, by omega, fun L' _ more => ?_⟩
        have nin : kss[i] ∉ L.map fun r : Mem => r.2 := fun z => by
          rw [hasKey_yes ((mem _).mp z)] at hb
          cases hb
        have pm := more nin
        refine ⟨⟨_, _, rfl⟩, fun b o hb2 => ?_, fun j k hj hk2 => ?_, L', upd_same, fun r hr => ?_, fun k => ?_, ?_⟩
        · rw [upd_ne (ne_of_none hb2 hS)]
          exact (e.trans e3) b o hb2
        · by_cases z : j < i
          · exact on j k z hk2
          · have ej : j = i := by omega
            subst ej
            rw [hk] at hk2
            cases hk2
            exact hb
        · have tp : upd H2 l (.tup (kss[i].map kV)) r.1 = some (.tup (r.2.map kV)) := by
            rcases List.mem_cons.mp (pm.mem_iff.mp hr) with z | z
            · rw [z]; exact upd_same
            · exact e3 _ _ (tup r z)
          have nS : r.1 ≠ S := fun z => by
            rw [z, e3 _ _ hL] at tp
            cases tp
          rw [upd_ne nS]
          exact tp
        · have t1 : kss.take (i + 1) = kss.take i ++ [kss[i]] := List.take_succ_eq_append_getElem ik
          rw [t1, List.mem_append, List.mem_singleton, ← mem k, (pm.map _).mem_iff, List.map_cons, List.mem_cons]
          exact Or.comm
        · rw [pm.length_eq, List.length_cons]
          omega
    · rintro σ' H' ⟨_, e, on, _⟩
      exact q1 (twice_none (by rw [hkl]; exact on)) H' e
end
end My


set_option Elab.async false
set_option linter.all false
set_option maxRecDepth 100000
namespace My
open PySem PySem.Spec PyProof.Rows L2
/-! ### no integer stands twice -/
theorem flat_int {K : PySem.W.Frag} {H : Hp} {n : Nat} (i : Int) : FlatOf K H (n + 1) (.int i) [.inl i] := .inl ⟨i, rfl, rfl⟩
theorem once_ints {ns : List Int} (h : ns.Nodup) : twiceAt (ns.map fun i => ([.inl i] : List Key)) = none := by
  refine twice_none fun j k hj hk => ?_
  rw [List.length_map] at hj
  refine hasKey_no fun hm => ?_
  rw [List.getElem?_map] at hk
  obtain ⟨z, hz, rfl⟩ := Option.map_eq_some_iff.mp hk
  rw [← List.map_take] at hm
  obtain ⟨y, hy, e⟩ := List.mem_map.mp hm
  injection e with e _
  injection e with e
  subst e
  obtain ⟨jl, ej⟩ := List.getElem?_eq_some_iff.mp hz
  have q : ns = ns.take j ++ ns.drop j := (List.take_append_drop j ns).symm
  have d : y ∈ ns.drop j := by
    rw [List.drop_eq_getElem_cons jl, ej]
    exact List.mem_cons_self
  rw [q] at h
  exact (List.nodup_append.mp h).2.2 y hy y d rfl
theorem sp_once {K : PySem.W.Frag} {H : Hp} {a : Addr} {ns : List Int} {Q : VK} {E : XK} (hx : SqL K H a (ns.map V.int) ∨ SqT K H a (ns.map V.int)) (len : ns.length < 63) (nd : ns.Nodup) (q : ∀ H', Same H H' → Q .non H') : spTwice K 1 [.ref a] H Q E := by
  refine ⟨a, ns.map V.int, ns.map fun i => [.inl i], ns.map fun i => .leaf (.int i), rfl, hx, by rw [List.length_map]; exact len, by simp, by simp, fun i x k hx hk => ?_, fun i x z hx hz => ?_, fun _ => q, fun i z ht _ => ?_⟩
  · rw [List.getElem?_map] at hx hk
    obtain ⟨z, hz, rfl⟩ := Option.map_eq_some_iff.mp hx
    rw [hz] at hk
    cases hk
    exact flat_int z
  · rw [List.getElem?_map] at hx hz
    obtain ⟨y, hy, rfl⟩ := Option.map_eq_some_iff.mp hx
    rw [hy] at hz
    cases hz
    exact ⟨rfl, listK_int y⟩
  · rw [once_ints nd] at ht
    cases ht
theorem blt {c : Prop} [Decidable c] (h : c) : V.bl (decide c) = V.bl true := by rw [decide_eq_true h]
theorem blf {c : Prop} [Decidable c] (h : ¬c) : V.bl (decide c) = V.bl false := by rw [decide_eq_false h]
/-! ### a Scheme -/
structure SchC (K : PySem.W.Frag) (mg : Str → Option Value) (C fl : Addr) : Prop where
  cl : Cls K C
  nP : NoAttr K C "p"
  nPl : NoAttr K C "places"
  nK : NoAttr K C "k"
  isc : C8.InsC K C
  ln : OwnLen K C fl
  mgC : mg "Scheme" = some (.ref C)
/-- module constants that are integers -/
def ConI (mg : Str → Option Value) (x : Str) (i : Int) : Prop := ∃ u, mg x = some u ∧ RelV (.int i) u
/-- at a the Scheme of p, these places and k -/
def SchAt (K : PySem.W.Frag) (H : Hp) (a C : Addr) (p : Int) (ns : List Int) (k : Int) : Prop := ∃ (dx q : Addr), H a = some (.ins C dx [("p", .int p), ("places", .ref q), ("k", .int k)]) ∧ SqT K H q (ns.map V.int)
theorem SchAt.same {K : PySem.W.Frag} {H H' : Hp} {a C : Addr} {p k : Int} {ns : List Int} (e : Same H H') (h : SchAt K H a C p ns k) : SchAt K H' a C p ns k := by
  obtain ⟨dx, q, h1, h2⟩ := h
  exact ⟨dx, q, e _ _ h1, same_seqT e h2⟩
/-- what a scheme may be made of -/
structure SchOk (p : Int) (ns : List Int) (k : Int) : Prop where
  pr : isPr (.int p) = true
  sg : ∀ z ∈ ns, 0 ≤ z ∧ z < p
  l2 : 2 ≤ ns.length
  l16 : ns.length ≤ 16
  nd : ns.Nodup
  k2 : 2 ≤ k
  k6 : k ≤ 6
  kn : k ≤ ns.length
def spSigns (K : PySem.W.Frag) : Sp := fun vs H Q _ => ∃ (p : Int) (v : V) (r : Bool), vs = [.int p, v] ∧ ((ListK K H v false ∧ r = false) ∨ ∃ a xs, v = .ref a ∧ (SqL K H a xs ∨ SqT K H a xs) ∧ xs.length ≤ 1000 ∧ (∀ x ∈ xs, Kn K H x) ∧ r = xs.all (inB (.int 0) (.int (p - 1)))) ∧ ∀ H', Same H H' → Q (.bl r) H'
def spSchI (K : PySem.W.Frag) (C : Addr) : Sp := fun vs H Q _ => ∃ (a dx l : Addr) (p k : Int) (ns : List Int), vs = [.ref a, .int p, .ref l, .int k] ∧ H a = some (.ins C dx []) ∧ (SqL K H l (ns.map V.int) ∨ SqT K H l (ns.map V.int)) ∧ SchOk p ns k ∧ ∀ H', Keep a H H' → SchAt K H' a C p ns k → Q .non H'
def spSchLen (K : PySem.W.Frag) (C : Addr) : Sp := fun vs H Q _ => ∃ (a : Addr) (p k : Int) (ns : List Int), vs = [.ref a] ∧ SchAt K H a C p ns k ∧ Q (.int ns.length) H
section
variable {P : Program} {w : World} {K : PySem.W.Frag} {mg : Str → Option Value} {base : Heap}
theorem ok_is_signs {k : Nat} (T : Txt K mg) (D : DefK K mg "is_signs" s_is_signs P_is_signs) (c_is_list : C8.Cal P w K mg base k "is_list" (spList K) []) (c_is_within : C8.Cal P w K mg base k "is_within" (spWithin K) []) : CalK P w K mg base (k + 1) "is_signs" s_is_signs P_is_signs (spSigns K) := by
  refine calK D sc_is_signs (fun vs H Q E h => ?_) (fun f cdv A outer s H vs Q E hr h => ?_)
  · obtain ⟨p, v, r, rfl, _⟩ := h
    rfl
  obtain ⟨p, v, r, rfl, ⟨hl, rfl⟩ | ⟨a, xs, rfl, hx | hx, hn, hk, rfl⟩, q⟩ := h
  · refine ⟨_, (pss_one (ps_ret (pe_and (C8.pe_c c_is_list hr (Nat.le_refl _) (by rfl) (pa_cons (pv 1) pa_nil)) (pe_one (pe_callB (cr_all rfl) (by rfl) T.b_all (by decide +kernel) (pa_cons (pe_lc (own := [("one", 2)]) (g := gName 2) (tt := tYes) rfl sc_is_signs.nd (pi_list (pv 1)) (blkOk_by (N := N_is_signs) (sc := C8.fnScope s_is_signs) (by decide +kernel)) (fun _ _ _ _ _ => (pg_name (i := 2) sc_is_signs.nd rfl (Or.inl rfl))) (fun _ _ _ _ _ => pts_nil) (fun _ _ _ _ _ => (C8.pe_c c_is_within hr (Nat.le_refl _) (by rfl) (pa_cons (pv 2) (pa_cons pe_int (pa_cons (pe_op op_sub (pv 0) pe_int) pa_nil)))))) pa_nil)))))), ?_⟩
    exact ⟨_, rfl, v, false, rfl, hl, fun H1 e1 => ⟨false, rfl, iteF (q H1 e1)⟩⟩
  · refine ⟨_, (pss_one (ps_ret (pe_and (C8.pe_c c_is_list hr (Nat.le_refl _) (by rfl) (pa_cons (pv 1) pa_nil)) (pe_one (pe_callB (cr_all rfl) (by rfl) T.b_all (by decide +kernel) (pa_cons (pe_lc (own := [("one", 2)]) (g := gName 2) (tt := tYes) rfl sc_is_signs.nd (pi_list (pv 1)) (blkOk_by (N := N_is_signs) (sc := C8.fnScope s_is_signs) (by decide +kernel)) (fun _ _ _ _ _ => (pg_name (i := 2) sc_is_signs.nd rfl (Or.inl rfl))) (fun _ _ _ _ _ => pts_nil) (fun _ _ _ _ _ => (C8.pe_c c_is_within hr (Nat.le_refl _) (by rfl) (pa_cons (pv 2) (pa_cons pe_int (pa_cons (pe_op op_sub (pv 0) pe_int) pa_nil)))))) pa_nil)))))), ?_⟩
    refine ⟨_, rfl, _, true, rfl, listK_list hx, fun H1 e1 => ⟨true, rfl, iteT ?_⟩⟩
    refine ⟨_, rfl, a, rfl, ⟨_, e1.seq hx⟩, fun D hD => lc_map (K := K) (fun x => .bl (inB (.int 0) (.int (p - 1)) x)) (e1.seq hx) hD (by omega) (fun i x H2 Kc Nc hi e k => ?_) fun H2 e hD2 => ?_⟩
    · exact ⟨rfl, _, rfl, _, rfl, _, _, rfl, rfl, x, .int 0, .int (p - 1), rfl, (hk x (List.mem_of_getElem? hi)).same (e1.trans e), .inr ⟨_, rfl⟩, .inr ⟨_, rfl⟩, k H2 fun _ _ h => h⟩
    · refine ⟨D, xs.map (inB (.int 0) (.int (p - 1))), rfl, SqL.of (by rw [hD2, List.map_map]; rfl), ?_⟩
      rw [List.all_map]
      exact q _ (e1.trans e)
  · refine ⟨_, (pss_one (ps_ret (pe_and (C8.pe_c c_is_list hr (Nat.le_refl _) (by rfl) (pa_cons (pv 1) pa_nil)) (pe_one (pe_callB (cr_all rfl) (by rfl) T.b_all (by decide +kernel) (pa_cons (pe_lc (own := [("one", 2)]) (g := gName 2) (tt := tYes) rfl sc_is_signs.nd (pi_tup (pv 1)) (blkOk_by (N := N_is_signs) (sc := C8.fnScope s_is_signs) (by decide +kernel)) (fun _ _ _ _ _ => (pg_name (i := 2) sc_is_signs.nd rfl (Or.inl rfl))) (fun _ _ _ _ _ => pts_nil) (fun _ _ _ _ _ => (C8.pe_c c_is_within hr (Nat.le_refl _) (by rfl) (pa_cons (pv 2) (pa_cons pe_int (pa_cons (pe_op op_sub (pv 0) pe_int) pa_nil)))))) pa_nil)))))), ?_⟩
    refine ⟨_, rfl, _, true, rfl, listK_tup hx, fun H1 e1 => ⟨true, rfl, iteT ?_⟩⟩
    refine ⟨_, rfl, a, rfl, ⟨_, same_seqT e1 hx⟩, fun D hD => lc_mapT (K := K) (fun x => .bl (inB (.int 0) (.int (p - 1)) x)) (same_seqT e1 hx) hD (by omega) (fun i x H2 Kc Nc hi e k => ?_) fun H2 e hD2 => ?_⟩
    · exact ⟨rfl, _, rfl, _, rfl, _, _, rfl, rfl, x, .int 0, .int (p - 1), rfl, (hk x (List.mem_of_getElem? hi)).same (e1.trans e), .inr ⟨_, rfl⟩, .inr ⟨_, rfl⟩, k H2 fun _ _ h => h⟩
    · refine ⟨D, xs.map (inB (.int 0) (.int (p - 1))), rfl, SqL.of (by rw [hD2, List.map_map]; rfl), ?_⟩
      rw [List.all_map]
      exact q _ (e1.trans e)
theorem ok_Scheme_init {k : Nat} {C fi fl : Addr} {fd : FuncData} (T : Txt K mg) (SC : SchC K mg C fl) (M : Mk K C fi) (F : C8.Fun K "__init__" "Scheme.__init__" s_Scheme_init fi fd) (b : Binds K fd P_Scheme_init []) (gP : ConI mg "MOST_PLACES" 16) (gK : ConI mg "MOST_K" 6)
    (c_is_prime : C8.Cal P w K mg base k "is_prime" (spPrime K) []) (c_is_signs : C8.Cal P w K mg base k "is_signs" (spSigns K) []) (c_first_twice : C8.Cal P w K mg base k "first_twice" (spTwice K 1) []) (c_is_within : C8.Cal P w K mg base k "is_within" (spWithin K) []) : C8.Mak P w K mg base (k + 1) "Scheme" C (spSchI K C) [] := by
  refine C8.mak0 M SC.mgC F b .nil sc_Scheme_init (fun vs H Q E h => ?_) (fun cdv A outer s H vs Q E hr h => ?_)
  · obtain ⟨a, dx, l, p, k, ns, rfl, _⟩ := h
    rfl
  obtain ⟨a, dx, l, p, kk, ns, rfl, ha, hx, ok, q⟩ := h
  refine ⟨_, (pss_cons (ps_if (pt_not (pt_val (C8.pe_c c_is_prime hr (Nat.le_refl _) (by rfl) (pa_cons (pv 1) pa_nil)))) (pss_one ps_dead) pss_nil)
    (pss_cons (ps_if (PW.pt (pw_or (pt_not (pt_val (C8.pe_c c_is_signs hr (Nat.le_refl _) (by rfl) (pa_cons (pv 1) (pa_cons (pv 2) pa_nil))))) (pw_or1 (pt_not (pt_chain op_le op_le pe_int (pe_callB call_len_seq (by rfl) T.b_len (by decide +kernel) (pa_cons (pv 2) pa_nil)) (C8.pe_gc (v := .int 16) (by rfl) gP)))))) (pss_one ps_dead) pss_nil)
    (pss_cons (ps_set (i := 4) sc_Scheme_init.nd rfl (Or.inl rfl) (C8.pe_c c_first_twice hr (Nat.le_refl _) (by rfl) (pa_cons (pv 2) pa_nil)))
    (pss_cons (ps_if (pt_cmpR op_notN (pv 4) pe_non (nomark _)) (pss_one ps_dead) pss_nil)
    (pss_cons (ps_if (pt_not (pt_val (C8.pe_c c_is_within hr (Nat.le_refl _) (by rfl) (pa_cons (pv 3) (pa_cons pe_int (pa_cons (pe_callB (call_min2 rfl) (by rfl) T.b_min (by decide +kernel) (pa_cons (C8.pe_gc (v := .int 6) (by rfl) gK) (pa_cons (pe_callB call_len_seq (by rfl) T.b_len (by decide +kernel) (pa_cons (pv 2) pa_nil)) pa_nil))) pa_nil)))))) (pss_one ps_dead) pss_nil)
    (pss_cons (ps_fld (pv 0) (pv 1) rfl)
    (pss_cons (ps_fld (pv 0) (pe_callTy call_tuple_of (by rfl) T.b_tuple (by decide +kernel) (pa_cons (pv 2) pa_nil)) rfl)
    (pss_one (ps_fld (pv 0) (pv 3) rfl))))))))), ?_⟩
  refine ⟨_, rfl, _, rfl, intK_int p, true, by rw [ok.pr], iteF ?_⟩
  have all : (ns.map V.int).all (inB (.int 0) (.int (p - 1))) = true := by
    rw [List.all_eq_true]
    intro x hm
    obtain ⟨z, hz, rfl⟩ := List.mem_map.mp hm
    have := ok.sg z hz
    show (decide (0 ≤ z) && decide (z ≤ p - 1)) = true
    rw [decide_eq_true this.1, decide_eq_true (by omega)]
    rfl
  have l16 := ok.l16
  refine ⟨_, rfl, _, rfl, p, .ref l, true, rfl, .inr ⟨l, _, rfl, hx, by rw [List.length_map]; omega, fun x hm => ?_, all.symm⟩, fun H1 e1 => ?_⟩
  · obtain ⟨z, hz, rfl⟩ := List.mem_map.mp hm
    exact intK_int z
  have hx1 : SqL K H1 l (ns.map V.int) ∨ SqT K H1 l (ns.map V.int) := hx.elim (fun h => .inl (e1.seq h)) fun h => .inr (same_seqT e1 h)
  refine ⟨true, rfl, iteF ?_⟩
  have len2 : (2 : Int) ≤ ((ns.map V.int).length : Int) := by rw [List.length_map]; have := ok.l2; omega
  have len16 : ((ns.map V.int).length : Int) ≤ 16 := by rw [List.length_map]; omega
  refine ⟨_, rfl, l, _, rfl, hx1, _, _, rfl, rfl, true, blt len2, iteT ⟨_, _, rfl, rfl, true, blt len16, iteF ?_⟩⟩
  refine ⟨_, rfl, ?_⟩
  dsimp only [tNil, List.cons_append, List.nil_append, List.append_nil]
  refine sp_once hx1 (by omega) ok.nd fun H2 e2 => ?_
  have hx2 : SqL K H2 l (ns.map V.int) ∨ SqT K H2 l (ns.map V.int) := hx1.elim (fun h => .inl (e2.seq h)) fun h => .inr (same_seqT e2 h)
  refine ⟨_, rfl, rfl, false, rfl, iteF ?_⟩
  have ha2 := e2 _ _ (e1 _ _ ha)
  refine ⟨_, rfl, _, rfl, l, _, rfl, hx2, _, _, rfl, ?_⟩
  have kin : inB (.int 2) (.int (if ((ns.map V.int).length : Int) < 6 then ((ns.map V.int).length : Int) else 6)) (.int kk) = true := by
    have k2 := ok.k2
    have k6 := ok.k6
    have kn := ok.kn
    show (decide (2 ≤ kk) && decide (kk ≤ _)) = true
    rw [List.length_map, decide_eq_true k2, decide_eq_true (by split <;> omega)]
    rfl
  refine ⟨.int kk, .int 2, _, rfl, intK_int kk, .inr ⟨_, rfl⟩, .inr ⟨_, rfl⟩, true, by rw [kin], iteF ?_⟩
  refine ⟨_, rfl, _, rfl, a, C, dx, [], rfl, ha2, SC.cl, SC.nP, (by show 0 < 1000; decide), ?_⟩
  have k3 : Keep a H (upd H2 a (.ins C dx (putF "p" (.int p) []))) := (Keep.of (e1.trans e2)).upd
  have s3 : (upd H2 a (.ins C dx (putF "p" (.int p) []))) a = some (.ins C dx [("p", .int p)]) := upd_same
  rcases hx2 with hx2 | hx2
  · refine ⟨_, rfl, l, _, rfl, .inl ⟨seqL_ins ha2 hx2, fun t ht => ?_⟩⟩
    have e4 := same_new ht (.tup (ns.map V.int))
    refine ⟨_, rfl, a, C, dx, _, rfl, e4 _ _ s3, SC.cl, SC.nPl, (by show 1 < 1000; decide), ?_⟩
    refine ⟨_, rfl, _, rfl, a, C, dx, _, rfl, upd_same, SC.cl, SC.nK, (by show 2 < 1000; decide), ?_⟩
    refine q _ ((k3.trans (Keep.of e4)).upd.upd) ⟨dx, t, upd_same, seqT_ins upd_same (seqT_ins (e4 _ _ s3) (SqT.of upd_same))⟩
  · refine ⟨_, rfl, l, _, rfl, .inr ⟨seqT_ins ha2 hx2, ?_⟩⟩
    refine ⟨_, rfl, a, C, dx, _, rfl, s3, SC.cl, SC.nPl, (by show 1 < 1000; decide), ?_⟩
    refine ⟨_, rfl, _, rfl, a, C, dx, _, rfl, upd_same, SC.cl, SC.nK, (by show 2 < 1000; decide), ?_⟩
    refine q _ (k3.upd.upd) ⟨dx, l, upd_same, seqT_ins upd_same (seqT_ins s3 (seqT_ins ha2 hx2))⟩
theorem ok_Scheme_len {C fl : Addr} {fd : FuncData} (T : Txt K mg) (SC : SchC K mg C fl) (F : C8.Fun K "__len__" "Scheme.__len__" s_Scheme_len fl fd) : FnOk P w K mg base CX0 1 fl fd P_Scheme_len (spSchLen K C) := by
  refine C8.fn0 F sc_Scheme_len (fun vs H Q E h => ?_) (fun cdv A outer s H vs Q E hr h => ?_)
  · obtain ⟨a, p, k, ns, rfl, _⟩ := h
    rfl
  obtain ⟨a, p, kk, ns, rfl, ⟨dx, t, ha, ht⟩, q⟩ := h
  refine ⟨_, (pss_one (ps_ret (pe_callB call_len_seq (by rfl) T.b_len (by decide +kernel) (pa_cons (pe_fld (pv 0) rfl) pa_nil)))), ?_⟩
  refine ⟨_, rfl, a, C, dx, _, _, rfl, ha, SC.cl, SC.nPl, rfl, t, _, rfl, .inr ht, ?_⟩
  rw [List.length_map]
  exact q
end
end My


set_option Elab.async false
set_option linter.all false
set_option maxRecDepth 100000
set_option maxHeartbeats 1000000
namespace My
open PySem PySem.Spec PyProof.Rows L2
/-! ### offers as they are told -/
def PrIn (K : PySem.W.Frag) (H : Hp) (v : V) (p : Int × Int) : Prop := ∃ t, v = .ref t ∧ SqT K H t [.int p.1, .int p.2]
def RowIn (K : PySem.W.Frag) (H : Hp) (v : V) (o : List (Int × Int)) : Prop := ∃ (l : Addr) (ts : List V), v = .ref l ∧ SqX K H l ts ∧ Each (PrIn K H) ts o
def OfIn (K : PySem.W.Frag) (H : Hp) (v : V) (O : List (List (Int × Int))) : Prop := ∃ (l : Addr) (rs : List V), v = .ref l ∧ SqX K H l rs ∧ Each (RowIn K H) rs O
theorem PrIn.same {K : PySem.W.Frag} {H H' : Hp} {v : V} {p : Int × Int} (e : Same H H') (h : PrIn K H v p) : PrIn K H' v p := let ⟨t, h1, h2⟩ := h; ⟨t, h1, same_seqT e h2⟩
theorem RowIn.same {K : PySem.W.Frag} {H H' : Hp} {v : V} {o : List (Int × Int)} (e : Same H H') (h : RowIn K H v o) : RowIn K H' v o := let ⟨t, ts, h1, h2, h3⟩ := h; ⟨t, ts, h1, sqX_same e h2, h3.imp fun _ _ => PrIn.same e⟩
theorem OfIn.same {K : PySem.W.Frag} {H H' : Hp} {v : V} {O : List (List (Int × Int))} (e : Same H H') (h : OfIn K H v O) : OfIn K H' v O := let ⟨t, ts, h1, h2, h3⟩ := h; ⟨t, ts, h1, sqX_same e h2, h3.imp fun _ _ => RowIn.same e⟩
theorem PrIn.ki {K : PySem.W.Frag} {H H' : Hp} {a C dx : Addr} {fs : List (Str × V)} {v : V} {p : Int × Int} (ha : H a = some (.ins C dx fs)) (e : Keep a H H') (h : PrIn K H v p) : PrIn K H' v p := let ⟨t, h1, h2⟩ := h; ⟨t, h1, seqT_ki ha e h2⟩
theorem RowIn.ki {K : PySem.W.Frag} {H H' : Hp} {a C dx : Addr} {fs : List (Str × V)} {v : V} {o : List (Int × Int)} (ha : H a = some (.ins C dx fs)) (e : Keep a H H') (h : RowIn K H v o) : RowIn K H' v o := let ⟨t, ts, h1, h2, h3⟩ := h; ⟨t, ts, h1, sqX_ki ha e h2, h3.imp fun _ _ => PrIn.ki ha e⟩
theorem OfIn.ki {K : PySem.W.Frag} {H H' : Hp} {a C dx : Addr} {fs : List (Str × V)} {v : V} {O : List (List (Int × Int))} (ha : H a = some (.ins C dx fs)) (e : Keep a H H') (h : OfIn K H v O) : OfIn K H' v O := let ⟨t, ts, h1, h2, h3⟩ := h; ⟨t, ts, h1, sqX_ki ha e h2, h3.imp fun _ _ => RowIn.ki ha e⟩
theorem listK_X {K : PySem.W.Frag} {H : Hp} {a : Addr} {xs : List V} (h : SqX K H a xs) : ListK K H (.ref a) true := h.elim listK_list listK_tup
/-- a sign and a weight -/
def PrOk (p : Int) (q : Int × Int) : Prop := 0 ≤ q.1 ∧ q.1 < p ∧ 1 ≤ q.2 ∧ q.2 ≤ 3
structure OfOk (p : Int) (n : Nat) (O : List (List (Int × Int))) : Prop where
  len : O.length = n
  ok : ∀ o ∈ O, ∀ q ∈ o, PrOk p q
  nd : ∀ o ∈ O, (o.map Prod.fst).Nodup
  few : O.flatten.length ≤ 24
/-- tuples of tuples of pairs -/
def RowT (K : PySem.W.Frag) (H : Hp) (v : V) (o : List (Int × Int)) : Prop := ∃ (l : Addr) (ts : List V), v = .ref l ∧ SqT K H l ts ∧ Each (PrIn K H) ts o
def OfT (K : PySem.W.Frag) (H : Hp) (l : Addr) (O : List (List (Int × Int))) : Prop := ∃ rs : List V, SqT K H l rs ∧ Each (RowT K H) rs O
theorem RowT.same {K : PySem.W.Frag} {H H' : Hp} {v : V} {o : List (Int × Int)} (e : Same H H') (h : RowT K H v o) : RowT K H' v o := let ⟨t, ts, h1, h2, h3⟩ := h; ⟨t, ts, h1, same_seqT e h2, h3.imp fun _ _ => PrIn.same e⟩
theorem OfT.same {K : PySem.W.Frag} {H H' : Hp} {l : Addr} {O : List (List (Int × Int))} (e : Same H H') (h : OfT K H l O) : OfT K H' l O := let ⟨ts, h2, h3⟩ := h; ⟨ts, same_seqT e h2, h3.imp fun _ _ => RowT.same e⟩
theorem RowT.ki {K : PySem.W.Frag} {H H' : Hp} {a C dx : Addr} {fs : List (Str × V)} {v : V} {o : List (Int × Int)} (ha : H a = some (.ins C dx fs)) (e : Keep a H H') (h : RowT K H v o) : RowT K H' v o := let ⟨t, ts, h1, h2, h3⟩ := h; ⟨t, ts, h1, seqT_ki ha e h2, h3.imp fun _ _ => PrIn.ki ha e⟩
theorem OfT.ki {K : PySem.W.Frag} {H H' : Hp} {a C dx l : Addr} {fs : List (Str × V)} {O : List (List (Int × Int))} (ha : H a = some (.ins C dx fs)) (e : Keep a H H') (h : OfT K H l O) : OfT K H' l O := let ⟨ts, h2, h3⟩ := h; ⟨ts, seqT_ki ha e h2, h3.imp fun _ _ => RowT.ki ha e⟩
theorem OfT.inn {K : PySem.W.Frag} {H : Hp} {l : Addr} {O : List (List (Int × Int))} (h : OfT K H l O) : OfIn K H (.ref l) O := let ⟨rs, h1, h2⟩ := h; ⟨l, rs, rfl, .inr h1, h2.imp fun _ _ ⟨t, ts, e1, e2, e3⟩ => ⟨t, ts, e1, .inr e2, e3⟩⟩
/-! ### points -/
def pts (ns : List Int) (O : List (List (Int × Int))) : List (List (Int × Int × Int)) := (ns.zip O).map fun z => z.2.map fun q => (z.1, q.1, q.2)
def Tri (H : Hp) (v : V) (x : Int × Int × Int) : Prop := ∃ t, v = .ref t ∧ H t = some (.tup [.int x.1, .int x.2.1, .int x.2.2])
def TriD (D : Addr) (H : Hp) (v : V) (x : Int × Int × Int) : Prop := ∃ t, v = .ref t ∧ t ≠ D ∧ H t = some (.tup [.int x.1, .int x.2.1, .int x.2.2])
theorem TriD.keep {D : Addr} {H H' : Hp} {v : V} {x : Int × Int × Int} (k : Keep D H H') (h : TriD D H v x) : TriD D H' v x := let ⟨t, e, n, h⟩ := h; ⟨t, e, n, k _ _ h n⟩
theorem TriD.tri {D : Addr} {H : Hp} {v : V} {x : Int × Int × Int} (h : TriD D H v x) : Tri H v x := let ⟨t, e, n, h⟩ := h; ⟨t, e, h⟩
def PtsAt (H : Hp) (l : Addr) (Z : List (Int × Int × Int)) : Prop := ∃ ts, H l = some (.tup ts) ∧ Each (Tri H) ts Z
theorem Tri.same {H H' : Hp} {v : V} {x : Int × Int × Int} (e : Same H H') (h : Tri H v x) : Tri H' v x := let ⟨t, e1, h⟩ := h; ⟨t, e1, e _ _ h⟩
theorem PtsAt.same {H H' : Hp} {l : Addr} {Z : List (Int × Int × Int)} (e : Same H H') (h : PtsAt H l Z) : PtsAt H' l Z := let ⟨ts, h1, h2⟩ := h; ⟨ts, e _ _ h1, h2.imp fun _ _ => Tri.same e⟩
theorem Tri.ki {H H' : Hp} {a C dx : Addr} {fs : List (Str × V)} {v : V} {x : Int × Int × Int} (ha : H a = some (.ins C dx fs)) (e : Keep a H H') (h : Tri H v x) : Tri H' v x := let ⟨t, e1, h⟩ := h; ⟨t, e1, e _ _ h (ne_of h ha (fun z => nomatch z))⟩
theorem PtsAt.ki {H H' : Hp} {a C dx l : Addr} {fs : List (Str × V)} {Z : List (Int × Int × Int)} (ha : H a = some (.ins C dx fs)) (e : Keep a H H') (h : PtsAt H l Z) : PtsAt H' l Z := let ⟨ts, h1, h2⟩ := h; ⟨ts, e _ _ h1 (ne_of h1 ha (fun z => nomatch z)), h2.imp fun _ _ => Tri.ki ha e⟩
def spPoints (K : PySem.W.Frag) : Sp := fun vs H Q _ => ∃ (tq oq : Addr) (ns : List Int) (O : List (List (Int × Int))), vs = [.ref tq, .ref oq] ∧ SqT K H tq (ns.map V.int) ∧ OfT K H oq O ∧ O.length = ns.length ∧ (pts ns O).flatten.length ≤ 1000 ∧ ∀ (l : Addr) (H' : Hp), Same H H' → PtsAt H' l (pts ns O).flatten → Q (.ref l) H'
def spOffer (K : PySem.W.Frag) : Sp := fun vs H Q _ => ∃ (p : Int) (v : V) (q : Int × Int), vs = [.int p, v] ∧ PrIn K H v q ∧ isPr (.int p) = true ∧ PrOk p q ∧ ∀ H', Same H H' → Q (.bl true) H'
def spOffers (K : PySem.W.Frag) (C : Addr) : Sp := fun vs H Q _ => ∃ (a : Addr) (p k : Int) (ns : List Int) (v : V) (O : List (List (Int × Int))), vs = [.ref a, v] ∧ SchAt K H a C p ns k ∧ OfIn K H v O ∧ isPr (.int p) = true ∧ O.length = ns.length ∧ O.length ≤ 1000 ∧ (∀ o ∈ O, o.length ≤ 1000) ∧ (∀ o ∈ O, ∀ q ∈ o, PrOk p q) ∧ ∀ H', Same H H' → Q (.bl true) H'
section
variable {P : Program} {w : World} {K : PySem.W.Frag} {mg : Str → Option Value} {base : Heap}
theorem ok_is_offer {k : Nat} (T : Txt K mg) (D : DefB K mg "is_offer" s_is_offer P_is_offer) (gW : ConI mg "MOST_WEIGHT" 3) (c_is_list : C8.Cal P w K mg base k "is_list" (spList K) []) (c_is_sign : C8.Cal P w K mg base k "is_sign" (spSign K) []) (c_is_within : C8.Cal P w K mg base k "is_within" (spWithin K) []) : C8.Cal P w K mg base (k + 1) "is_offer" (spOffer K) [] := by
  refine calB D sc_is_offer (fun vs H Q E h => ?_) (fun f cdv A outer s H vs Q E hr h => ?_)
  · obtain ⟨p, v, q, rfl, _⟩ := h
    rfl
  obtain ⟨p, v, ⟨q1, q2⟩, rfl, ⟨t, rfl, ht⟩, pr, ⟨o1, o2, o3, o4⟩, q⟩ := h
  refine ⟨_, (pss_one (ps_ret (pe_and (C8.pe_c c_is_list hr (Nat.le_refl _) (by rfl) (pa_cons (pv 1) pa_nil)) (pe_and (pe_cmpR op_eq (pe_callB call_len_seq (by rfl) T.b_len (by decide +kernel) (pa_cons (pv 1) pa_nil)) pe_int (nomark _)) (pe_and (C8.pe_c c_is_sign hr (Nat.le_refl _) (by rfl) (pa_cons (pv 0) (pa_cons (pe_ix ix_tup (pv 1) pe_int (fun _ _ => rfl)) pa_nil))) (pe_one (C8.pe_c c_is_within hr (Nat.le_refl _) (by rfl) (pa_cons (pe_ix ix_tup (pv 1) pe_int (fun _ _ => rfl)) (pa_cons pe_int (pa_cons (C8.pe_gc (v := .int 3) (by rfl) gW) pa_nil)))))))))), ?_⟩
  refine ⟨_, rfl, _, true, rfl, listK_tup ht, fun H1 e1 => ⟨true, rfl, iteT ?_⟩⟩
  have h1 := same_seqT e1 ht
  refine ⟨_, rfl, t, _, rfl, .inr h1, rfl, true, rfl, iteT ?_⟩
  have sg : isSg (.int p) (.int q1) = true := by
    show (isPr (.int p) && (decide (0 ≤ q1) && decide (q1 ≤ p - 1))) = true
    rw [pr, decide_eq_true o1, decide_eq_true (by omega : q1 ≤ p - 1)]
    rfl
  refine ⟨_, rfl, _, rfl, t, _, 0, _, rfl, rfl, h1, rfl, _, _, rfl, intK_int p, intK_int q1, true, by rw [sg], iteT ?_⟩
  have wi : inB (.int 1) (.int 3) (.int q2) = true := by
    show (decide (1 ≤ q2) && decide (q2 ≤ 3)) = true
    rw [decide_eq_true o3, decide_eq_true o4]
    rfl
  refine ⟨_, rfl, t, _, 1, _, rfl, rfl, h1, rfl, _, _, _, rfl, intK_int q2, .inr ⟨_, rfl⟩, .inr ⟨_, rfl⟩, ?_⟩
  rw [wi]
  exact q H1 e1
theorem ok_is_offers {k : Nat} {C fl : Addr} {fd : FuncData} (T : Txt K mg) (D : DefB K mg "is_offers" s_is_offers P_is_offers) (SC : SchC K mg C fl) (FL : FnOk P w K mg base CX0 1 fl fd P_Scheme_len (spSchLen K C)) (bL : Binds K fd P_Scheme_len []) (hk1 : 1 + 1 ≤ k)
    (c_is_list : C8.Cal P w K mg base k "is_list" (spList K) []) (c_is_offer : C8.Cal P w K mg base k "is_offer" (spOffer K) []) : C8.Cal P w K mg base (k + 1) "is_offers" (spOffers K C) [] := by
  refine calB D sc_is_offers (fun vs H Q E h => ?_) (fun f cdv A outer s H vs Q E hr h => ?_)
  · obtain ⟨a, p, k, ns, v, O, rfl, _⟩ := h
    rfl
  obtain ⟨a, p, kk, ns, v, O, rfl, hS, ⟨l, rs, rfl, hl, er⟩, pr, len, few, few2, ok, q⟩ := h
  refine ⟨_, (pss_cons (ps_if (PW.pt (pw_or (pt_not (pt_val (C8.pe_c c_is_list hr (Nat.le_refl _) (by rfl) (pa_cons (pv 1) pa_nil)))) (pw_or1 (pt_cmpR op_ne (pe_callB call_len_seq (by rfl) T.b_len (by decide +kernel) (pa_cons (pv 1) pa_nil)) (pe_callB (cr_lenOwn FL SC.ln bL hr hk1) (by rfl) T.b_len (by decide +kernel) (pa_cons (pv 0) pa_nil)) (nomark _))))) (pss_one (ps_ret pe_bl)) pss_nil)
    (pss_one (ps_ret (pe_callB (cr_all rfl) (by rfl) T.b_all (by decide +kernel) (pa_cons (pe_lc (own := [("pairs", 2)]) (g := gName 2) (tt := tYes) rfl sc_is_offers.nd (pi_X (pv 1)) (blkOk_by (N := N_is_offers) (sc := C8.fnScope s_is_offers) (by decide +kernel)) (fun _ _ _ _ _ => (pg_name (i := 2) sc_is_offers.nd rfl (Or.inl rfl))) (fun _ _ _ _ _ => pts_nil) (fun _ _ _ _ _ => (pe_and (C8.pe_c c_is_list hr (Nat.le_refl _) (by rfl) (pa_cons (pv 2) pa_nil)) (pe_one (pe_callB (cr_allK (K := K) rfl rfl) (by rfl) T.b_all (by decide +kernel) (pa_cons (pe_lc (own := [("pair", 3)]) (g := gName 3) (wi := iX K _) (tt := tYes) rfl sc_is_offers.nd (pi_X (pv 2)) (blkOk_by (N := N_is_offers) (sc := { kind := ScopeKind.function, names := [(Str.ofString ".0", NameKind.local), (Str.ofString "pairs", NameKind.local), (Str.ofString "is_list", NameKind.globalImplicit), (Str.ofString "all", NameKind.globalImplicit), (Str.ofString "scheme", NameKind.cell)], isGenerator := false, isCoroutine := false }) (by decide +kernel)) (fun _ _ _ _ _ => (pg_name (i := 3) sc_is_offers.nd rfl (Or.inl rfl))) (fun _ _ _ _ _ => pts_nil) (fun _ _ _ _ _ => (C8.pe_c c_is_offer hr (Nat.le_refl _) (by rfl) (pa_cons (pe_fldK (K := K) rfl (pv 0) rfl) (pa_cons (pv 3) pa_nil))))) pa_nil)))))) pa_nil))))), ?_⟩
  refine ⟨_, rfl, _, true, rfl, listK_X hl, fun H1 e1 => ⟨true, rfl, iteF ?_⟩⟩
  have hl1 := sqX_same e1 hl
  have hS1 := hS.same e1
  obtain ⟨dx, tq, ha, htq⟩ := id hS1
  refine ⟨_, rfl, l, rs, rfl, hl1, _, rfl, a, dx, _, rfl, ha, ⟨a, p, kk, ns, rfl, hS1, _, rfl, by omega, by omega, ?_⟩⟩
  refine ⟨rfl, false, by rw [er.1, len, decide_eq_true rfl]; rfl, iteF ?_⟩
  refine ix_go (xs := rs) (H0 := H1) (fun Q q => ⟨_, rfl, q⟩) hl1 (fun o h => h) fun J G wk hG D hD => ?_
  refine lc_accW wk (fun i acc _ => acc = List.replicate i (.bl true)) (fun H' e => hG H' fun o h => e _ _ h) yat_same hD (by rw [er.1]; omega) (fun _ _ _ _ _ h => h) rfl ?_ ?_
  · rintro i x acc H2z H2 Kc Nc hi e2 hDl rfl ⟨rfl, hx⟩ kc nc
    obtain ⟨o, ho, hrow⟩ := er.get hx
    obtain ⟨lr, ts, rfl, hlr, et⟩ := hrow.same (e1.trans e2)
    have om : o ∈ O := List.mem_of_getElem? ho
    refine ⟨rfl, _, rfl, _, true, rfl, listK_X hlr, fun H4 e4 => ⟨true, rfl, iteT ?_⟩⟩
    refine ix_go (xs := ts) (H0 := H2) (fun Q q => ⟨_, rfl, q⟩) hlr (fun o h => e4 _ _ h) fun J2 G2 wk2 hG2 D2 hD2 => ?_
    have tl : ts.length ≤ 100000 := by rw [et.1]; have := few2 o om; omega
    refine lc_accW wk2 (fun i acc _ => acc = List.replicate i (.bl true)) (fun H' e => hG2 H' fun o h => e _ _ (e4 _ _ h)) yat_same hD2 tl (fun _ _ _ _ _ h => h) rfl ?_ ?_
    · rintro j y acc H5z H5 Kc2 Nc2 hj e5 hDl2 rfl ⟨rfl, hy⟩ kc2 nc2
      obtain ⟨pr2, hpr, hin⟩ := et.get hy
      obtain ⟨dx2, tq2, ha2, htq2⟩ := (hS1.same (e2.trans (e4.trans e5)))
      refine ⟨rfl, _, rfl, a, C, dx2, _, _, rfl, ha2, SC.cl, SC.nP, rfl, _, rfl, p, y, pr2, rfl, hin.same (e4.trans e5), pr, ok o om pr2 (List.mem_of_getElem? hpr), fun H7 e7 => ?_⟩
      exact kc2 _ H7 e7 (by rw [List.replicate_succ'])
    · rintro acc H5 e5 hDl2 len2 rfl
      refine ⟨D2, List.replicate ts.length true, rfl, SqL.of (by rw [hDl2, List.map_replicate]), ?_⟩
      have e : (List.replicate ts.length true).all id = true := by simp
      rw [e]
      exact kc _ H5 (e4.trans e5) (by rw [List.replicate_succ'])
  · rintro acc H2 e2 hDl len2 rfl
    refine ⟨D, List.replicate rs.length true, rfl, SqL.of (by rw [hDl, List.map_replicate]), ?_⟩
    have e : (List.replicate rs.length true).all id = true := by simp
    rw [e]
    exact q H2 (e1.trans e2)
theorem ok_points_of {k : Nat} (T : Txt K mg) (D : DefB K mg "points_of" s_points_of P_points_of) : C8.Cal P w K mg base (k + 1) "points_of" (spPoints K) [] := by
  refine calB D sc_points_of (fun vs H Q E h => ?_) (fun f cdv A outer s H vs Q E hr h => ?_)
  · obtain ⟨tq, oq, ns, O, rfl, _⟩ := h
    rfl
  obtain ⟨tq, oq, ns, O, rfl, hq, ⟨rs, ho, er⟩, len, few, q⟩ := h
  refine ⟨_, (pss_one (ps_ret (pe_callTy call_tuple_of (by rfl) T.b_tuple (by decide +kernel) (pa_cons (pe_lc2 (own := [("place", 2), ("pairs", 3), ("value", 4), ("weight", 5)]) (vs1 := [4, 5]) (g := gTup K 2 _) (g1 := gTup K 2 _) (tt := tYes) (tt1 := tYes) (wi1 := iTup K _) rfl sc_points_of.nd (RZ.pi_zipA (by rfl) T.b_zip (pa_cons (pv 0) (pa_cons (pv 1) pa_nil))) (blkOk_by (N := N_points_of) (sc := C8.fnScope s_points_of) (by decide +kernel)) (by decide) (fun _ _ _ _ _ => (pg_tup rfl (pgs_cons (pg_name (i := 2) sc_points_of.nd rfl (Or.inl rfl)) (pgs_cons (pg_name (i := 3) sc_points_of.nd rfl (Or.inl rfl)) pgs_nil)))) (fun _ _ _ _ _ => pts_nil) (fun _ _ _ _ _ => (pi_tup (pv 3))) (fun _ _ _ _ _ => (pg_tup rfl (pgs_cons (pg_name (i := 4) sc_points_of.nd rfl (Or.inl rfl)) (pgs_cons (pg_name (i := 5) sc_points_of.nd rfl (Or.inl rfl)) pgs_nil)))) (fun _ _ _ _ _ => pts_nil) (fun _ _ _ _ _ => (pe_tup (pa_cons (pv 2) (pa_cons (pv 4) (pa_cons (pv 5) pa_nil)))))) pa_nil)))), ?_⟩
  refine ⟨_, rfl, _, rfl, tq, oq, _, _, rfl, .inr ⟨hq, ho, fun D hD => ?_⟩⟩
  have wk := walk_zipT (K := K) (a := tq) (b := oq) (xs := ns.map V.int) (ys := rs) (n := rs.length) (by rw [List.length_map, er.1]; omega)
  have pl : (pts ns O).length = rs.length := by unfold pts; rw [List.length_map, List.length_zip, er.1]; omega
  refine lc2_accW wk (fun i j acc H => Each (TriD D H) acc (pre (pts ns O) i j)) (fun H' e => ⟨same_seqT e hq, same_seqT e ho⟩) ypair_same hD (fun i j acc H h => ?_) (fun i j acc H H' k h => h.imp fun _ _ => TriD.keep k) (by rw [pre_zero]; exact Each.nil) ?_ ?_
  · rw [h.1]
    have := pre_len (pts ns O) i j
    omega
  · rintro i x acc H2 H3 R Nc hi e2 hDl hp hy go nc
    obtain ⟨T0, x1, y1, rfl, hT, rfl, hx1, hy1⟩ := hy
    obtain ⟨o, hoi, l, ts, rfl, hl, et⟩ := er.get hy1
    obtain ⟨z, hz, rfl⟩ : ∃ z, ns[i]? = some z ∧ x1 = .int z := by
      have hx1 := (show (ns.map V.int)[i]? = some x1 from hx1)
      rw [List.getElem?_map] at hx1
      obtain ⟨z, hz, e⟩ := Option.map_eq_some_iff.mp hx1
      exact ⟨z, hz, e.symm⟩
    have hpt : (pts ns O)[i]? = some (o.map fun q => (z, q.1, q.2)) := by
      unfold pts
      rw [List.getElem?_map, (List.getElem?_zip_eq_some (l₁ := ns) (l₂ := O) (z := (z, o)) (i := i)).mpr ⟨hz, hoi⟩]
      rfl
    have e3 := same_new hT (.tup [.int z, .ref l])
    refine ⟨T0, _, rfl, SqT.of upd_same, rfl, _, _, rfl, _, _, rfl, rfl, rfl, ?_⟩
    refine ⟨_, rfl, l, rfl, ⟨_, same_seqT (e2.trans e3) hl⟩, ?_⟩
    refine go _ (Itt K l) ts.length (fun H => SqT K H l ts) (YAt ts) _ walk_tup (Same.refl _) (fun H' k => ?_) yat_same ?_ ?_
    · exact sqT_at hl fun o ho => k _ _ (e3 _ _ (e2 _ _ ho)) (ne_of_none ho hD)
    · rintro j y acc5 H5z H5 Kc Nc2 hj k5 e5 hD5 p5 ⟨rfl, hyj⟩ kc nc2
      obtain ⟨pr, hpr, t, rfl, ht⟩ := et.get hyj
      refine ⟨t, _, rfl, same_seqT e5 ht, rfl, _, _, rfl, _, _, rfl, rfl, rfl, ?_⟩
      refine ⟨_, rfl, _, rfl, _, rfl, (by show 3 ≤ sizeLine; decide), fun T hT2 => ?_⟩
      have e6 := same_new hT2 (.tup [.int z, .int pr.1, .int pr.2])
      refine kc _ _ e6 ?_
      rw [pre_snoc hpt (z := (z, pr.1, pr.2)) (by rw [List.getElem?_map, hpr]; rfl)]
      exact (p5.imp fun _ _ h => TriD.keep (Keep.of e6) h).snoc ⟨T, rfl, fun e => ne_of_none hD5 hT2 e.symm, upd_same⟩
    · intro acc5 H5 h
      have e := pre_row hpt
      rw [List.length_map, ← et.1] at e
      rw [← e]
      exact h
  · rintro acc H2 e2 hDl hp
    rw [← pl, pre_end] at hp
    refine ⟨D, acc, rfl, .inl ⟨SqL.of hDl, fun l hl => ?_⟩⟩
    have e3 := same_new hl (.tup acc)
    exact q l _ (e2.trans e3) ⟨acc, upd_same, hp.imp fun _ _ h => (h.tri).same e3⟩
end
end My


set_option Elab.async false
set_option linter.all false
set_option maxRecDepth 100000
set_option maxHeartbeats 2000000
namespace My
open PySem PySem.Spec PyProof.Rows L2
/-! ### a Reading -/
def wts (O : List (List (Int × Int))) : List Int := (O.map fun o => o.map Prod.snd).flatten
def plainB (O : List (List (Int × Int))) : Bool := (O.map fun o => decide (((o.length : Nat) : Int) < 2)).all id && decide (V.int (wts O).sum = V.int (((wts O).length : Nat) : Int))
def SortOf (o o' : List (Int × Int)) : Prop := o'.Perm o ∧ o'.Pairwise fun x y => SrtO.lexB y x = false
def SortsOf (O O' : List (List (Int × Int))) : Prop := O'.length = O.length ∧ ∀ (i : Nat) (o o' : List (Int × Int)), O[i]? = some o → O'[i]? = some o' → SortOf o o'
structure RdC (K : PySem.W.Frag) (mg : Str → Option Value) (C : Addr) : Prop where
  cl : Cls K C
  n1 : NoAttr K C "scheme"
  n2 : NoAttr K C "offers"
  n3 : NoAttr K C "points"
  n4 : NoAttr K C "weights"
  n5 : NoAttr K C "squares"
  n6 : NoAttr K C "is_plain"
  isc : C8.InsC K C
  mgC : mg "Reading" = some (.ref C)
def ReadAt (K : PySem.W.Frag) (H : Hp) (a C CS sa : Addr) (p : Int) (ns : List Int) (k : Int) (O : List (List (Int × Int))) : Prop :=
  ∃ dx oq pq : Addr, H a = some (.ins C dx [("scheme", .ref sa), ("offers", .ref oq), ("points", .ref pq), ("weights", .int (wts O).sum), ("squares", .int (sqs (wts O)).sum), ("is_plain", .bl (plainB O))]) ∧ SchAt K H sa CS p ns k ∧ OfT K H oq O ∧ PtsAt H pq (pts ns O).flatten
theorem ReadAt.same {K : PySem.W.Frag} {H H' : Hp} {a C CS sa : Addr} {p k : Int} {ns : List Int} {O : List (List (Int × Int))} (e : Same H H') (h : ReadAt K H a C CS sa p ns k O) : ReadAt K H' a C CS sa p ns k O := by
  obtain ⟨dx, oq, pq, h1, h2, h3, h4⟩ := h
  exact ⟨dx, oq, pq, e _ _ h1, h2.same e, h3.same e, h4.same e⟩
theorem SchAt.ki {K : PySem.W.Frag} {H H' : Hp} {a C D dx : Addr} {fs : List (Str × V)} {sa : Addr} {p k : Int} {ns : List Int} (ha : H a = some (.ins C dx fs)) (e : Keep a H H') (n : sa ≠ a) (h : SchAt K H sa D p ns k) : SchAt K H' sa D p ns k := by
  obtain ⟨dx, q, h1, h2⟩ := h
  exact ⟨dx, q, e _ _ h1 n, seqT_ki ha e h2⟩
def keyOf (H : Hp) (v : V) : Int × Int := match v with
  | .ref t => match H t with
    | some (.tup [.int a, .int b]) => (a, b)
    | _ => (0, 0)
  | _ => (0, 0)
theorem keyOf_at {H : Hp} {t : Addr} {q : Int × Int} (h : H t = some (.tup [.int q.1, .int q.2])) : keyOf H (.ref t) = q := by
  unfold keyOf
  simp only [h]
theorem sum_lens : ∀ O : List (List (Int × Int)), (O.map fun o => ((o.length : Nat) : Int)).sum = ((O.flatten.length : Nat) : Int)
  | [] => rfl
  | o :: r => by
    rw [List.map_cons, List.sum_cons, sum_lens r, List.flatten_cons, List.length_append]
    omega
theorem sorts_nil : SortsOf [] [] := ⟨rfl, fun i o o' h => by simp at h⟩
theorem sorts_snoc {O O' : List (List (Int × Int))} {o o' : List (Int × Int)} (h : SortsOf O O') (q : SortOf o o') : SortsOf (O ++ [o]) (O' ++ [o']) := by
  refine ⟨by rw [List.length_append, List.length_append, h.1]; rfl, fun i y z hy hz => ?_⟩
  rcases get_snoc hy with hy | ⟨ei, rfl⟩
  · rcases get_snoc hz with hz | ⟨ej, rfl⟩
    · exact h.2 i y z hy hz
    · have := (List.getElem?_eq_some_iff.mp hy).1
      have := h.1
      omega
  · rcases get_snoc hz with hz | ⟨ej, rfl⟩
    · have := (List.getElem?_eq_some_iff.mp hz).1
      have := h.1
      omega
    · exact q
def PrD (D D' : Addr) (H : Hp) (v : V) (q : Int × Int) : Prop := ∃ t, v = .ref t ∧ t ≠ D ∧ t ≠ D' ∧ H t = some (.tup [.int q.1, .int q.2])
theorem PrD.keep {D D' : Addr} {H H' : Hp} {v : V} {q : Int × Int} (k : Keep D' H H') (h : PrD D D' H v q) : PrD D D' H' v q := let ⟨t, e, n, n', h⟩ := h; ⟨t, e, n, n', k _ _ h n'⟩
def PrO (D : Addr) (H : Hp) (v : V) (q : Int × Int) : Prop := ∃ t, v = .ref t ∧ t ≠ D ∧ H t = some (.tup [.int q.1, .int q.2])
def RowD (D : Addr) (H : Hp) (v : V) (o : List (Int × Int)) : Prop := ∃ lq ys, v = .ref lq ∧ lq ≠ D ∧ H lq = some (.tup ys) ∧ Each (PrO D H) ys o
theorem RowD.keep {D : Addr} {H H' : Hp} {v : V} {o : List (Int × Int)} (k : Keep D H H') (h : RowD D H v o) : RowD D H' v o := let ⟨t, ys, e, n, h, p⟩ := h; ⟨t, ys, e, n, k _ _ h n, p.imp fun _ _ ⟨u, e, n, h⟩ => ⟨u, e, n, k _ _ h n⟩⟩
theorem RowD.row {D : Addr} {K : PySem.W.Frag} {H : Hp} {v : V} {o : List (Int × Int)} (h : RowD D H v o) : RowT K H v o := let ⟨t, ys, e, _, h, p⟩ := h; ⟨t, ys, e, SqT.of h, p.imp fun _ _ ⟨u, e, _, h⟩ => ⟨u, e, SqT.of h⟩⟩
theorem keys_of {D D' : Addr} {H : Hp} {xs : List V} {o : List (Int × Int)} (h : Each (PrD D D' H) xs o) : o = xs.map (keyOf H) := by
  refine List.ext_getElem? fun i => ?_
  rw [List.getElem?_map]
  cases e : xs[i]? with
  | none =>
    have := List.getElem?_eq_none_iff.mp e
    rw [h.1] at this
    exact List.getElem?_eq_none_iff.mpr this
  | some x =>
    obtain ⟨q, hq, t, rfl, _, _, ht⟩ := h.get e
    rw [hq, Option.map_some, keyOf_at ht]
theorem SortsOf.flen {O O' : List (List (Int × Int))} (h : SortsOf O O') : O'.flatten.length = O.flatten.length := by
  rw [List.length_flatten, List.length_flatten]
  congr 1
  refine List.ext_getElem? fun i => ?_
  rw [List.getElem?_map, List.getElem?_map]
  cases e : O[i]? with
  | none =>
    have := List.getElem?_eq_none_iff.mp e
    rw [← h.1] at this
    rw [List.getElem?_eq_none_iff.mpr this]
  | some o =>
    have il := (List.getElem?_eq_some_iff.mp e).1
    rw [← h.1] at il
    have e2 := List.getElem?_eq_getElem il
    rw [e2, Option.map_some, Option.map_some, (h.2 i o _ e e2).1.length_eq]
theorem pts_len {ns : List Int} {O : List (List (Int × Int))} (h : O.length = ns.length) : (pts ns O).flatten.length = O.flatten.length := by
  rw [List.length_flatten, List.length_flatten]
  congr 1
  refine List.ext_getElem? fun i => ?_
  unfold pts
  rw [List.getElem?_map, List.getElem?_map, List.getElem?_map]
  cases e : O[i]? with
  | none =>
    have := List.getElem?_eq_none_iff.mp e
    rw [List.getElem?_eq_none_iff.mpr (by rw [List.length_zip]; omega)]
    rfl
  | some o =>
    have il := (List.getElem?_eq_some_iff.mp e).1
    have e2 := List.getElem?_eq_getElem (show i < ns.length by omega)
    rw [(List.getElem?_zip_eq_some (l₁ := ns) (l₂ := O) (z := (_, o)) (i := i)).mpr ⟨e2, e⟩]
    simp
theorem flat_snd : ∀ O : List (List (Int × Int)), (O.map fun o => o.map Prod.snd).flatten = O.flatten.map Prod.snd
  | [] => rfl
  | o :: r => by rw [List.map_cons, List.flatten_cons, flat_snd r, List.flatten_cons, List.map_append]
theorem wts_ok {p : Int} {n : Nat} {O O' : List (List (Int × Int))} (h : SortsOf O O') (oo : OfOk p n O) : ∀ w ∈ wts O', 1 ≤ w ∧ w ≤ 3 := fun w hw => by
  unfold wts at hw
  rw [flat_snd] at hw
  obtain ⟨q, hq, rfl⟩ := List.mem_map.mp hw
  obtain ⟨o', ho, hqo⟩ := List.mem_flatten.mp hq
  obtain ⟨i, hi⟩ := List.getElem?_of_mem ho
  have il := (List.getElem?_eq_some_iff.mp hi).1
  rw [h.1] at il
  have e := List.getElem?_eq_getElem il
  have := oo.ok _ (List.mem_of_getElem? e) q ((h.2 i _ o' e hi).1.mem_iff.mp hqo)
  exact ⟨this.2.2.1, this.2.2.2⟩
def spReadI (K : PySem.W.Frag) (C CS : Addr) : Sp := fun vs H Q _ => ∃ (a dx sa : Addr) (v : V) (p k : Int) (ns : List Int) (O : List (List (Int × Int))), vs = [.ref a, .ref sa, v] ∧ H a = some (.ins C dx []) ∧ sa ≠ a ∧ SchAt K H sa CS p ns k ∧ SchOk p ns k ∧ OfIn K H v O ∧ OfOk p ns.length O ∧
  ∀ (H' : Hp) (O' : List (List (Int × Int))), Keep a H H' → SortsOf O O' → ReadAt K H' a C CS sa p ns k O' → Q .non H'
section
variable {P : Program} {w : World} {K : PySem.W.Frag} {mg : Str → Option Value} {base : Heap}
theorem ok_Reading_init {k : Nat} {C CS fi fl : Addr} {fd : FuncData} (T : Txt K mg) (RC : RdC K mg C) (SC : SchC K mg CS fl) (M : Mk K C fi) (F : C8.Fun K "__init__" "Reading.__init__" s_Reading_init fi fd) (b : Binds K fd P_Reading_init []) (gO : ConI mg "MOST_OFFERS" 24)
    (c_is_offers : C8.Cal P w K mg base k "is_offers" (spOffers K CS) []) (c_first_twice : C8.Cal P w K mg base k "first_twice" (spTwice K 1) []) (c_points_of : C8.Cal P w K mg base k "points_of" (spPoints K) []) : C8.Mak P w K mg base (k + 1) "Reading" C (spReadI K C CS) [] := by
  refine C8.mak0 M RC.mgC F b .nil sc_Reading_init (fun vs H Q E h => ?_) (fun cdv A outer s H vs Q E hr h => ?_)
  · obtain ⟨a, dx, sa, v, p, k, ns, O, rfl, _⟩ := h
    rfl
  obtain ⟨a, dx, sa, v, p, kk, ns, O, rfl, ha, nsa, hS, sok, ⟨l, rs, rfl, hl, er⟩, oo, q⟩ := h
  refine ⟨_, (pss_cons (ps_if (pt_not (pt_val (pe_callB (C8.call_isC SC.isc) (by rfl) T.b_isinstance (by decide +kernel) (pa_cons (pv 1) (pa_cons (C8.pe_gc (v := .ref CS) (by rfl) ⟨_, SC.mgC, rfl⟩) pa_nil))))) (pss_one ps_dead) pss_nil)
    (pss_cons (ps_if (pt_not (pt_val (C8.pe_c c_is_offers hr (Nat.le_refl _) (by rfl) (pa_cons (pv 1) (pa_cons (pv 2) pa_nil))))) (pss_one ps_dead) pss_nil)
    (pss_cons (ps_for PassesOwn.never rfl (pi_X (pv 2)) (pg_name (i := 3) sc_Reading_init.nd rfl (Or.inl rfl))
      (pss_cons (ps_set (i := 5) sc_Reading_init.nd rfl (Or.inl rfl) (C8.pe_c c_first_twice hr (Nat.le_refl _) (by rfl) (pa_cons (pe_lc (own := [("value", 8), ("_", 6)]) (g := gTup K 2 _) (tt := tYes) rfl sc_Reading_init.nd (pi_X (pv 3)) (blkOk_by (N := N_Reading_init) (sc := C8.fnScope s_Reading_init) (by decide +kernel)) (fun _ _ _ _ _ => (pg_tup rfl (pgs_cons (pg_name (i := 8) sc_Reading_init.nd rfl (Or.inl rfl)) (pgs_cons (pg_name (i := 6) sc_Reading_init.nd rfl (Or.inl rfl)) pgs_nil)))) (fun _ _ _ _ _ => pts_nil) (fun _ _ _ _ _ => (pv 8))) pa_nil)))
    (pss_one (ps_if (pt_cmpR op_notN (pv 5) pe_non (nomark _)) (pss_one ps_dead) pss_nil))))
    (pss_cons (ps_if (pt_cmpR op_gt (pe_callB (cr_sum rfl) (by rfl) T.b_sum (by decide +kernel) (pa_cons (pe_lc (own := [("pairs", 3)]) (g := gName 3) (tt := tYes) rfl sc_Reading_init.nd (pi_X (pv 2)) (blkOk_by (N := N_Reading_init) (sc := C8.fnScope s_Reading_init) (by decide +kernel)) (fun _ _ _ _ _ => (pg_name (i := 3) sc_Reading_init.nd rfl (Or.inl rfl))) (fun _ _ _ _ _ => pts_nil) (fun _ _ _ _ _ => (pe_callB (call_lenK (K := K) rfl) (by rfl) T.b_len (by decide +kernel) (pa_cons (pv 3) pa_nil)))) pa_nil)) (C8.pe_gc (v := .int 24) (by rfl) gO) (nomark _)) (pss_one ps_dead) pss_nil)
    (pss_cons (ps_fld (pv 0) (pv 1) rfl)
    (pss_cons (ps_fld (pv 0) (pe_callTy call_tuple_of (by rfl) T.b_tuple (by decide +kernel) (pa_cons (pe_lc (own := [("pairs", 3)]) (g := gName 3) (tt := tYes) rfl sc_Reading_init.nd (pi_X (pv 2)) (blkOk_by (N := N_Reading_init) (sc := C8.fnScope s_Reading_init) (by decide +kernel)) (fun _ _ _ _ _ => (pg_name (i := 3) sc_Reading_init.nd rfl (Or.inl rfl))) (fun _ _ _ _ _ => pts_nil) (fun _ _ _ _ _ => (pe_callTy (call_tupK (K := K) rfl) (by rfl) T.b_tuple (by decide +kernel) (pa_cons (pe_callB (cr_sortK (K := K) rfl cr_sortedPO) (by rfl) T.b_sorted (by decide +kernel) (pa_cons (pe_lc (own := [("value", 8), ("weight", 7)]) (g := gTup K 2 _) (wi := iX K _) (tt := tYes) rfl sc_Reading_init.nd (pi_X (pv 3)) (blkOk_by (N := N_Reading_init) (sc := { kind := ScopeKind.function, names := [(Str.ofString ".0", NameKind.local), (Str.ofString "pairs", NameKind.local), (Str.ofString "tuple", NameKind.globalImplicit), (Str.ofString "sorted", NameKind.globalImplicit)], isGenerator := false, isCoroutine := false }) (by decide +kernel)) (fun _ _ _ _ _ => (pg_tup rfl (pgs_cons (pg_name (i := 8) sc_Reading_init.nd rfl (Or.inl rfl)) (pgs_cons (pg_name (i := 7) sc_Reading_init.nd rfl (Or.inl rfl)) pgs_nil)))) (fun _ _ _ _ _ => pts_nil) (fun _ _ _ _ _ => (pe_tup (pa_cons (pv 8) (pa_cons (pv 7) pa_nil))))) pa_nil)) pa_nil)))) pa_nil)) rfl)
    (pss_cons (ps_fld (pv 0) (C8.pe_c c_points_of hr (Nat.le_refl _) (by rfl) (pa_cons (pe_fld (pv 1) rfl) (pa_cons (pe_fld (pv 0) rfl) pa_nil))) rfl)
    (pss_cons (ps_setLc2 (i := 4) (own := [("pairs", 3), ("_", 6), ("weight", 7)]) (vs1 := [6, 7]) (g := gName 3) (g1 := gTup K 2 _) (tt := tYes) (tt1 := tYes) (wi1 := iTup K _) rfl sc_Reading_init.nd rfl rfl (sw_true rfl rfl rfl (by decide +kernel)) (pi_tup (pe_fld (pv 0) rfl)) (blkOk_by (N := N_Reading_init) (sc := C8.fnScope s_Reading_init) (by decide +kernel)) (by decide) (fun _ _ _ _ _ => (pg_name (i := 3) sc_Reading_init.nd rfl (Or.inl rfl))) (fun _ _ _ _ _ => pts_nil) (fun _ _ _ _ _ => (pi_tup (pv 3))) (fun _ _ _ _ _ => (pg_tup rfl (pgs_cons (pg_name (i := 6) sc_Reading_init.nd rfl (Or.inl rfl)) (pgs_cons (pg_name (i := 7) sc_Reading_init.nd rfl (Or.inl rfl)) pgs_nil)))) (fun _ _ _ _ _ => pts_nil) (fun _ _ _ _ _ => (pv 7)))
    (pss_cons (ps_fld (pv 0) (pe_callB (cr_sum rfl) (by rfl) T.b_sum (by decide +kernel) (pa_cons (pv 4) pa_nil)) rfl)
    (pss_cons (ps_fld (pv 0) (pe_callB (cr_sum rfl) (by rfl) T.b_sum (by decide +kernel) (pa_cons (pe_lc (own := [("weight", 7)]) (g := gName 7) (tt := tYes) rfl sc_Reading_init.nd (pi_list (pv 4)) (blkOk_by (N := N_Reading_init) (sc := C8.fnScope s_Reading_init) (by decide +kernel)) (fun _ _ _ _ _ => (pg_name (i := 7) sc_Reading_init.nd rfl (Or.inl rfl))) (fun _ _ _ _ _ => pts_nil) (fun _ _ _ _ _ => (pe_op op_mul (pv 7) (pv 7)))) pa_nil)) rfl)
    (pss_one (ps_fld (pv 0) (pe_and (pe_callB (cr_all rfl) (by rfl) T.b_all (by decide +kernel) (pa_cons (pe_lc (own := [("pairs", 3)]) (g := gName 3) (tt := tYes) rfl sc_Reading_init.nd (pi_tup (pe_fld (pv 0) rfl)) (blkOk_by (N := N_Reading_init) (sc := C8.fnScope s_Reading_init) (by decide +kernel)) (fun _ _ _ _ _ => (pg_name (i := 3) sc_Reading_init.nd rfl (Or.inl rfl))) (fun _ _ _ _ _ => pts_nil) (fun _ _ _ _ _ => (pe_cmpR op_lt (pe_callB (call_lenK (K := K) rfl) (by rfl) T.b_len (by decide +kernel) (pa_cons (pv 3) pa_nil)) pe_int (nomark _)))) pa_nil)) (pe_one (pe_cmpR op_eq (pe_fld (pv 0) rfl) (pe_callB call_len_seq (by rfl) T.b_len (by decide +kernel) (pa_cons (pv 4) pa_nil)) (nomark _)))) rfl)))))))))))), ?_⟩
  obtain ⟨dxs, tq, hsa, htq⟩ := id hS
  refine ⟨_, rfl, sa, dxs, _, rfl, hsa, true, rfl, iteF ?_⟩
  have l24 : ∀ o ∈ O, o.length ≤ 24 := fun o m => Nat.le_trans (flat_mem m) oo.few
  have l16 := sok.l16
  refine ⟨_, rfl, _, rfl, sa, p, kk, ns, .ref l, O, rfl, hS, ⟨l, rs, rfl, hl, er⟩, sok.pr, oo.len, by rw [oo.len]; omega, fun o m => by have := l24 o m; omega, oo.ok, fun H1 e1 => ⟨true, rfl, iteF ?_⟩⟩
  have hl1 := sqX_same e1 hl
  refine ix_go (xs := rs) (H0 := H1) (fun Q q => ⟨_, rfl, q⟩) hl1 (fun o h => h) fun J G wk hG => ?_
  refine for_it wk (fun i σ H' => (∃ x3 x5, σ = [some (.ref a), some (.ref sa), some (.ref l), x3, none, x5, none, none, none]) ∧ Same H1 H') ⟨⟨_, _, rfl⟩, Same.refl _⟩ (fun i σ H' _ h => hG H' fun o ho => h.2 _ _ ho) ?_ ?_
  · rintro i x σ' H2z H2 hi ⟨⟨x3, x5, rfl⟩, e2⟩ ⟨rfl, hx⟩
    obtain ⟨o, ho, hrow⟩ := er.get hx
    obtain ⟨lr, ts, rfl, hlr, et⟩ := hrow.same (e1.trans e2)
    have om : o ∈ O := List.mem_of_getElem? ho
    refine ix_go (xs := ts) (H0 := H2) (fun Q q => ⟨_, rfl, q⟩) hlr (fun o h => h) fun J2 G2 wk2 hG2 D2 hD2 => ?_
    have tl : ts.length ≤ 100000 := by rw [et.1]; have := l24 o om; omega
    refine lc_accW wk2 (fun i acc _ => acc = ((o.map Prod.fst).take i).map V.int) (fun H' e => hG2 H' fun o h => e _ _ h) yat_same hD2 tl (fun _ _ _ _ _ h => h) rfl ?_ ?_
    · rintro j y acc H5z H5 Kc2 Nc2 hj e5 hDl2 rfl ⟨rfl, hy⟩ kc2 nc2
      obtain ⟨pr2, hpr, t, rfl, ht⟩ := et.get hy
      refine ⟨t, _, rfl, same_seqT e5 ht, rfl, _, _, rfl, _, _, rfl, rfl, rfl, ?_⟩
      refine ⟨_, rfl, ?_⟩
      refine kc2 _ H5 (Same.refl _) ?_
      rw [take_snoc (o := pr2.1) (by rw [List.getElem?_map, hpr]; rfl), List.map_append]
      rfl
    · rintro acc H5 e5 hDl2 len2 rfl
      rw [et.1, show o.length = (o.map Prod.fst).length from (List.length_map _).symm, List.take_length] at hDl2
      dsimp only [tNil, List.cons_append, List.nil_append, List.append_nil]
      refine sp_once (.inl (SqL.of hDl2)) (by rw [List.length_map]; have := l24 o om; omega) (oo.nd o om) fun H6 e6 => ?_
      refine ⟨_, rfl, rfl, false, rfl, iteF ?_⟩
      exact ⟨⟨_, _, rfl⟩, e2.trans (e5.trans e6)⟩
  rintro σ2 H2 ⟨⟨x3, x5, rfl⟩, e2⟩
  have hl2 := sqX_same e2 hl1
  have few : (O.map fun o => ((o.length : Nat) : Int)).sum = ((O.flatten.length : Nat) : Int) := sum_lens O
  refine ix_go (xs := rs) (H0 := H2) (fun Q q => ⟨_, rfl, q⟩) hl2 (fun o h => h) fun J3 G3 wk3 hG3 D3 hD3 => ?_
  refine lc_accW wk3 (fun i acc _ => acc = ((O.map fun o => ((o.length : Nat) : Int)).take i).map V.int) (fun H' e => hG3 H' fun o h => e _ _ h) yat_same hD3 (by rw [er.1, oo.len]; omega) (fun _ _ _ _ _ h => h) rfl ?_ ?_
  · rintro i x acc H5z H5 Kc Nc hi e5 hDl rfl ⟨rfl, hx⟩ kc nc
    obtain ⟨o, ho, hrow⟩ := er.get hx
    obtain ⟨lr, ts, rfl, hlr, et⟩ := hrow.same (e1.trans (e2.trans e5))
    refine ⟨rfl, _, rfl, lr, ts, rfl, hlr, ?_⟩
    refine kc _ H5 (Same.refl _) ?_
    rw [et.1, take_snoc (o := ((o.length : Nat) : Int)) (by rw [List.getElem?_map, ho]; rfl), List.map_append]
    rfl
  rintro acc H3 e3 hDl3 len3 rfl
  rw [er.1, show O.length = (O.map fun o => ((o.length : Nat) : Int)).length from (List.length_map _).symm, List.take_length] at hDl3
  have f24 := oo.few
  refine ⟨D3, _, rfl, SqL.of hDl3, _, _, rfl, rfl, false, by rw [few]; exact blf (by omega), iteF ?_⟩
  have e03 := e1.trans (e2.trans e3)
  have ha3 := e03 _ _ ha
  refine ⟨_, rfl, _, rfl, a, C, dx, [], rfl, ha3, RC.cl, RC.n1, (by show 0 < 1000; decide), ?_⟩
  have k4 : Keep a H (upd H3 a (.ins C dx (putF "scheme" (.ref sa) []))) := (Keep.of e03).upd
  have a4 : (upd H3 a (.ins C dx (putF "scheme" (.ref sa) []))) a = some (.ins C dx [("scheme", .ref sa)]) := upd_same
  generalize (upd H3 a (.ins C dx (putF "scheme" (.ref sa) []))) = H4 at k4 a4 ⊢
  have hl4 := sqX_ki ha k4 hl
  refine ix_go (xs := rs) (H0 := H4) (fun Q q => ⟨_, rfl, q⟩) hl4 (fun o h => h) fun J5 G5 wk5 hG5 D5 hD5 => ?_
  refine lc_accW wk5 (fun i acc H => ∃ O', SortsOf (O.take i) O' ∧ Each (RowD D5 H) acc O') (fun H' e => hG5 H' fun o h => e _ _ h) yat_same hD5 (by rw [er.1, oo.len]; omega) (fun i acc H H' k ⟨O', h1, h2⟩ => ⟨O', h1, h2.imp fun _ _ => RowD.keep k⟩) ⟨[], sorts_nil, Each.nil⟩ ?_ ?_
  · rintro i x acc H5z H5 Kc Nc hi e5 hDl ⟨O', hs', he'⟩ ⟨rfl, hx⟩ kc nc
    obtain ⟨o, ho, hrow⟩ := er.get hx
    obtain ⟨lr, ts, rfl, hlr, et⟩ := (hrow.ki ha k4).same e5
    have om : o ∈ O := List.mem_of_getElem? ho
    have tl : ts.length ≤ 100000 := by rw [et.1]; have := l24 o om; omega
    refine ⟨rfl, ?_⟩
    refine ix_go (xs := ts) (H0 := H5) (fun Q q => ⟨_, rfl, q⟩) hlr (fun o h => h) fun J6 G6 wk6 hG6 D6 hD6 => ?_
    refine lc_accW wk6 (fun j acc H => Each (PrD D5 D6 H) acc (o.take j)) (fun H' e => hG6 H' fun o h => e _ _ h) yat_same hD6 tl (fun i acc H H' k h => h.imp fun _ _ => PrD.keep k) Each.nil ?_ ?_
    · rintro j y acc6 H7z H7 Kc2 Nc2 hj e7 hDl7 p7 ⟨rfl, hy⟩ kc2 nc2
      obtain ⟨pr2, hpr, t, rfl, ht⟩ := et.get hy
      refine ⟨t, _, rfl, same_seqT e7 ht, rfl, _, _, rfl, _, _, rfl, rfl, rfl, ?_⟩
      refine ⟨_, rfl, _, rfl, (by show 2 ≤ sizeLine; decide), fun T0 hT0 => ?_⟩
      have e8 := same_new hT0 (.tup [.int pr2.1, .int pr2.2])
      refine kc2 _ _ e8 ?_
      rw [take_snoc hpr]
      exact (p7.imp fun _ _ => PrD.keep (Keep.of e8)).snoc ⟨T0, rfl, fun z => ne_of_none (e7 _ _ hDl) hT0 z.symm, fun z => ne_of_none hDl7 hT0 z.symm, upd_same⟩
    · rintro acc6 H7 e7 hDl7 len7 p7
      rw [et.1, List.take_length] at p7
      have key2 : ∀ x ∈ acc6, ∃ t, x = .ref t ∧ t ≠ D5 ∧ H7 t = some (.tup [.int (keyOf H7 x).1, .int (keyOf H7 x).2]) := fun x m => by
        obtain ⟨j, hj⟩ := List.getElem?_of_mem m
        obtain ⟨q, hq, t, rfl, n1, n2, ht⟩ := p7.get hj
        rw [keyOf_at ht]
        exact ⟨t, rfl, n1, ht⟩
      have key : ∀ x ∈ acc6, ∃ t, x = .ref t ∧ H7 t = some (.tup [.int (keyOf H7 x).1, .int (keyOf H7 x).2]) := fun x m => let ⟨t, e, _, h⟩ := key2 x m; ⟨t, e, h⟩
      refine ⟨D6, acc6, keyOf H7, rfl, SqL.of hDl7, key, fun ys p2 srt stb hp2 => ?_⟩
      have e8 := same_new hp2 (.lst ys)
      refine ⟨p2, ys, rfl, .inl ⟨SqL.of upd_same, fun lq hlq => ?_⟩⟩
      have e9 := same_new hlq (.tup ys)
      have e79 := e8.trans e9
      refine kc _ _ (e7.trans e79) ⟨O' ++ [ys.map (keyOf H7)], ?_, ?_⟩
      · rw [take_snoc ho]
        refine sorts_snoc hs' ⟨?_, ?_⟩
        · rw [keys_of p7]
          exact stb.perm.map _
        · rw [List.pairwise_map]
          exact srt
      · refine (he'.imp fun _ _ => RowD.keep (Keep.of (e7.trans e79))).snoc ⟨lq, ys, rfl, fun z => ne_of_none (e8 _ _ (e7 _ _ hDl)) hlq z.symm, upd_same, by rw [List.length_map], fun j y q hy hq => ?_⟩
        rw [List.getElem?_map, hy] at hq
        cases hq
        obtain ⟨t, rfl, n1, ht⟩ := key2 y (stb.perm.mem_iff.mp (List.mem_of_getElem? hy))
        exact ⟨t, rfl, n1, e79 _ _ ht⟩
  rintro acc H5 e5 hDl5 len5 ⟨O', hs', he'⟩
  rw [er.1, List.take_length] at hs'
  refine ⟨D5, acc, rfl, .inl ⟨SqL.of hDl5, fun oq hoq => ?_⟩⟩
  have e6 := same_new hoq (.tup acc)
  have k6 := k4.trans (Keep.of (e5.trans e6))
  have a6 := e6 _ _ (e5 _ _ a4)
  have o6 : OfT K (upd H5 oq (.tup acc)) oq O' := ⟨acc, SqT.of upd_same, he'.imp fun _ _ h => h.row.same e6⟩
  generalize (upd H5 oq (.tup acc)) = H6 at k6 a6 o6 ⊢
  refine ⟨_, rfl, a, C, dx, _, rfl, a6, RC.cl, RC.n2, (by show 1 < 1000; decide), ?_⟩
  have k7 := k6.upd (u := .ins C dx (putF "offers" (.ref oq) [("scheme", .ref sa)]))
  have a7 : (upd H6 a (.ins C dx (putF "offers" (.ref oq) [("scheme", .ref sa)]))) a = some (.ins C dx [("scheme", .ref sa), ("offers", .ref oq)]) := upd_same
  have o7 := o6.ki a6 (Keep.refl.upd (u := .ins C dx (putF "offers" (.ref oq) [("scheme", .ref sa)])))
  generalize (upd H6 a (.ins C dx (putF "offers" (.ref oq) [("scheme", .ref sa)]))) = H7 at k7 a7 o7 ⊢
  obtain ⟨dxs7, tq7, hsa7, htq7⟩ := hS.ki ha k7 nsa
  have ol : O'.length = ns.length := by rw [hs'.1, oo.len]
  refine ⟨_, rfl, sa, CS, dxs7, _, _, rfl, hsa7, SC.cl, SC.nPl, rfl, _, rfl, a, C, dx, _, _, rfl, a7, RC.cl, RC.n2, rfl, ?_⟩
  refine ⟨tq7, oq, ns, O', rfl, htq7, o7, ol, by rw [pts_len ol]; exact Nat.le_trans (Nat.le_of_eq hs'.flen) (by omega), fun pq H8 e8 p8 => ?_⟩
  have a8 := e8 _ _ a7
  have o8 := o7.same e8
  have k8 := k7.trans (Keep.of e8)
  refine ⟨_, rfl, a, C, dx, _, rfl, a8, RC.cl, RC.n3, (by show 2 < 1000; decide), ?_⟩
  have k9 := k8.upd (u := .ins C dx (putF "points" (.ref pq) [("scheme", .ref sa), ("offers", .ref oq)]))
  have a9 : (upd H8 a (.ins C dx (putF "points" (.ref pq) [("scheme", .ref sa), ("offers", .ref oq)]))) a = some (.ins C dx [("scheme", .ref sa), ("offers", .ref oq), ("points", .ref pq)]) := upd_same
  have kk := (Keep.refl (p := a) (H := H8)).upd (u := .ins C dx (putF "points" (.ref pq) [("scheme", .ref sa), ("offers", .ref oq)]))
  have o9 := o8.ki a8 kk
  have p9 := p8.ki a8 kk
  clear kk
  generalize (upd H8 a (.ins C dx (putF "points" (.ref pq) [("scheme", .ref sa), ("offers", .ref oq)]))) = H9 at k9 a9 o9 p9 ⊢
  obtain ⟨rt, hrt, ert⟩ := o9
  have Wl : (O'.map fun o => o.map Prod.snd).length = rt.length := by rw [List.length_map, ert.1]
  have wl : (wts O').length = O.flatten.length := by unfold wts; rw [flat_snd, List.length_map, hs'.flen]
  have wb : ∀ w ∈ wts O', 1 ≤ w ∧ w ≤ 3 := wts_ok hs' oo
  refine ⟨_, rfl, a, C, dx, _, _, rfl, a9, RC.cl, RC.n2, rfl, oq, rfl, ⟨_, hrt⟩, fun D8 hD8 => ?_⟩
  have wk8 := walk_tup (K := K) (a := oq) (xs := rt)
  refine lc2_accW wk8 (fun i j acc _ => acc = (pre (O'.map fun o => o.map Prod.snd) i j).map V.int) (fun H' e => same_seqT e hrt) yat_same hD8 (fun i j acc H h => ?_) (fun i j acc H H' k h => h) (by rw [pre_zero]; rfl) ?_ ?_
  · rw [h, List.length_map]
    have := pre_len (O'.map fun o => o.map Prod.snd) i j
    rw [show (O'.map fun o => o.map Prod.snd).flatten = wts O' from rfl, wl] at this
    omega
  · rintro i x acc H10z H10 R Nc hi e10 hDl rfl ⟨rfl, hx⟩ go nc
    obtain ⟨o, hoi, l8, ts, rfl, hl8, et⟩ := ert.get hx
    have hpt : (O'.map fun o => o.map Prod.snd)[i]? = some (o.map Prod.snd) := by rw [List.getElem?_map, hoi]; rfl
    refine ⟨rfl, ?_⟩
    refine ⟨_, rfl, l8, rfl, ⟨_, same_seqT e10 hl8⟩, ?_⟩
    refine go _ (Itt K l8) ts.length (fun H => SqT K H l8 ts) (YAt ts) _ walk_tup (Same.refl _) (fun H' k => ?_) yat_same ?_ ?_
    · exact sqT_at hl8 fun o ho => k _ _ (e10 _ _ ho) (ne_of_none ho hD8)
    · rintro j y acc5 H5z H5 Kc Nc2 hj k5 e5 hD5 rfl ⟨rfl, hyj⟩ kc nc2
      obtain ⟨pr, hpr, t, rfl, ht⟩ := et.get hyj
      refine ⟨t, _, rfl, same_seqT e5 ht, rfl, _, _, rfl, _, _, rfl, rfl, rfl, ?_⟩
      refine ⟨_, rfl, ?_⟩
      refine kc _ _ (Same.refl _) ?_
      rw [pre_snoc hpt (z := pr.2) (by rw [List.getElem?_map, hpr]; rfl), List.map_append]
      rfl
    · intro acc5 H5 h
      have e := pre_row hpt
      rw [List.length_map, ← et.1] at e
      rw [← e]
      exact h
  rintro acc H10 e10 hD10 rfl
  rw [← Wl, pre_end, show (O'.map fun o => o.map Prod.snd).flatten = wts O' from rfl] at hD10
  have k10 := k9.trans (Keep.of e10)
  have a10 := e10 _ _ a9
  refine ⟨_, rfl, D8, wts O', rfl, SqL.of hD10, ?_⟩
  refine ⟨_, rfl, a, C, dx, _, rfl, a10, RC.cl, RC.n4, (by show 3 < 1000; decide), ?_⟩
  have kA : Keep a H10 (upd H10 a (.ins C dx (putF "weights" (.int (wts O').sum) [("scheme", .ref sa), ("offers", .ref oq), ("points", .ref pq)]))) := Keep.refl.upd
  have a11 : (upd H10 a (.ins C dx (putF "weights" (.int (wts O').sum) [("scheme", .ref sa), ("offers", .ref oq), ("points", .ref pq)]))) a = some (.ins C dx [("scheme", .ref sa), ("offers", .ref oq), ("points", .ref pq), ("weights", .int (wts O').sum)]) := upd_same
  generalize (upd H10 a (.ins C dx (putF "weights" (.int (wts O').sum) [("scheme", .ref sa), ("offers", .ref oq), ("points", .ref pq)]))) = H11 at kA a11 ⊢
  have k11 := k10.trans kA
  have d11 : SqL K H11 D8 ((wts O').map V.int) := seqL_ki a10 kA (SqL.of hD10)
  refine ⟨_, rfl, D8, rfl, ⟨_, d11⟩, fun D9 hD9 => ?_⟩
  refine lc_accW (walk_list (xs := (wts O').map V.int)) (fun i acc _ => acc = ((sqs (wts O')).take i).map V.int) (fun H' e => e.seq d11) yat_same hD9 (by rw [List.length_map, wl]; omega) (fun _ _ _ _ _ h => h) rfl ?_ ?_
  · rintro i x acc H5z H5 Kc Nc hi e5 hDl rfl ⟨rfl, hx⟩ kc nc
    rw [List.getElem?_map] at hx
    obtain ⟨w0, hw, rfl⟩ := Option.map_eq_some_iff.mp hx
    have b := wb w0 (List.mem_of_getElem? hw)
    refine ⟨rfl, _, rfl, _, rfl, w0, w0, rfl, rfl, .inl ⟨by omega, by omega⟩, ?_⟩
    refine kc _ H5 (Same.refl _) ?_
    rw [take_snoc (o := w0 * w0) (by unfold sqs; rw [List.getElem?_map, hw]; rfl), List.map_append]
    rfl
  rintro acc H12 e12 hD12 len12 rfl
  rw [List.length_map, show (wts O').length = (sqs (wts O')).length from (List.length_map _).symm, List.take_length] at hD12
  refine ⟨D9, sqs (wts O'), rfl, SqL.of hD12, ?_⟩
  have a12 := e12 _ _ a11
  refine ⟨_, rfl, a, C, dx, _, rfl, a12, RC.cl, RC.n5, (by show 4 < 1000; decide), ?_⟩
  have kB : Keep a H12 (upd H12 a (.ins C dx (putF "squares" (.int (sqs (wts O')).sum) [("scheme", .ref sa), ("offers", .ref oq), ("points", .ref pq), ("weights", .int (wts O').sum)]))) := Keep.refl.upd
  have a13 : (upd H12 a (.ins C dx (putF "squares" (.int (sqs (wts O')).sum) [("scheme", .ref sa), ("offers", .ref oq), ("points", .ref pq), ("weights", .int (wts O').sum)]))) a = some (.ins C dx [("scheme", .ref sa), ("offers", .ref oq), ("points", .ref pq), ("weights", .int (wts O').sum), ("squares", .int (sqs (wts O')).sum)]) := upd_same
  generalize (upd H12 a (.ins C dx (putF "squares" (.int (sqs (wts O')).sum) [("scheme", .ref sa), ("offers", .ref oq), ("points", .ref pq), ("weights", .int (wts O').sum)]))) = H13 at kB a13 ⊢
  have kC : Keep a H11 H13 := (Keep.of e12).trans kB
  have k13 := k11.trans kC
  have kD : Keep a H9 H13 := ((Keep.of e10).trans kA).trans kC
  have o13 : OfT K H13 oq O' := OfT.ki a9 kD ⟨rt, hrt, ert⟩
  have p13 := p9.ki a9 kD
  have d13 : SqL K H13 D8 ((wts O').map V.int) := seqL_ki a11 kC d11
  have s13 := hS.ki ha k13 nsa
  obtain ⟨rt2, hrt2, ert2⟩ := id o13
  have fin : ∀ (H14 : Hp) (r : Bool), Same H13 H14 → r = plainB O' → Q .non (upd H14 a (.ins C dx (putF "is_plain" (.bl r) [("scheme", .ref sa), ("offers", .ref oq), ("points", .ref pq), ("weights", .int (wts O').sum), ("squares", .int (sqs (wts O')).sum)]))) := fun H14 r e14 er => by
    subst er
    have kE : Keep a H14 (upd H14 a (.ins C dx (putF "is_plain" (.bl (plainB O')) [("scheme", .ref sa), ("offers", .ref oq), ("points", .ref pq), ("weights", .int (wts O').sum), ("squares", .int (sqs (wts O')).sum)]))) := Keep.refl.upd
    have kF : Keep a H13 _ := (Keep.of e14).trans kE
    exact q _ O' (k13.trans kF) hs' ⟨dx, oq, pq, upd_same, s13.ki a13 kF nsa, o13.ki a13 kF, p13.ki a13 kF⟩
  refine ⟨_, rfl, a, C, dx, _, _, rfl, a13, RC.cl, RC.n2, rfl, oq, rfl, ⟨_, hrt2⟩, fun D10 hD10' => ?_⟩
  refine lc_accW (walk_tup (xs := rt2)) (fun i acc _ => acc = ((O'.map fun o => decide (((o.length : Nat) : Int) < 2)).take i).map V.bl) (fun H' e => same_seqT e hrt2) yat_same hD10' (by rw [ert2.1, ol]; omega) (fun _ _ _ _ _ h => h) rfl ?_ ?_
  · rintro i x acc H5z H5 Kc Nc hi e5 hDl rfl ⟨rfl, hx⟩ kc nc
    obtain ⟨o, hoi, l8, ts, rfl, hl8, et⟩ := ert2.get hx
    refine ⟨rfl, _, rfl, l8, ts, rfl, .inr (same_seqT e5 hl8), _, _, rfl, rfl, ?_⟩
    refine kc _ H5 (Same.refl _) ?_
    rw [et.1, take_snoc (o := decide (((o.length : Nat) : Int) < 2)) (by rw [List.getElem?_map, hoi]; rfl), List.map_append]
    rfl
  rintro acc H14 e14 hD14 len14 rfl
  rw [ert2.1, show O'.length = (O'.map fun o => decide (((o.length : Nat) : Int) < 2)).length from (List.length_map _).symm, List.take_length] at hD14
  refine ⟨D10, _, rfl, SqL.of hD14, _, rfl, ?_⟩
  cases hA : (O'.map fun o => decide (((o.length : Nat) : Int) < 2)).all id with
  | false =>
    refine iteF ?_
    refine ⟨_, rfl, a, C, dx, _, rfl, e14 _ _ a13, RC.cl, RC.n6, (by show 5 < 1000; decide), ?_⟩
    exact fin _ _ e14 (by unfold plainB; rw [hA]; rfl)
  | true =>
    refine iteT ⟨_, rfl, a, C, dx, _, _, rfl, e14 _ _ a13, RC.cl, RC.n4, rfl, _, rfl, D8, _, rfl, .inl (e14.seq d13), rfl, ?_⟩
    refine ⟨_, rfl, a, C, dx, _, rfl, e14 _ _ a13, RC.cl, RC.n6, (by show 5 < 1000; decide), ?_⟩
    exact fin _ _ e14 (by unfold plainB; rw [hA, List.length_map]; rfl)
end
end My


set_option Elab.async false
set_option linter.all false
set_option maxRecDepth 100000
set_option maxHeartbeats 2000000
namespace My
open PySem PySem.Spec PyProof.Rows L2
theorem lgW {m : Int} (h : m.natAbs ≤ 10 ^ 100) : m.natAbs.log2 < 9000 := by
  have : m.natAbs < 2 ^ 400 := Nat.lt_of_le_of_lt h (by decide)
  exact Nat.lt_of_lt_of_le (PySem.Flt.log2_lt_of (by decide) this) (by decide)
theorem cmW {i j : Int} (hi : i.natAbs ≤ 10 ^ 100) (hj : j.natAbs ≤ 10 ^ 100) : CMulW i j := by
  have a := lgW hi
  have b := lgW hj
  unfold CMulW
  omega
theorem cdW {i j : Int} (h0 : 0 < j) (hj : j.natAbs ≤ 10 ^ 100) : CDivW i j := ⟨h0, lgW hj⟩
def spNeedK : Sp := fun vs H Q _ => ∃ k : Int, vs = [.int k] ∧ 2 ≤ k ∧ k ≤ 6 ∧ Q .non H
def spNeedT : Sp := fun vs H Q _ => ∃ t : Int, vs = [.int t] ∧ 1 ≤ t ∧ Q .non H
def spNeedR (C : Addr) : Sp := fun vs H Q _ => ∃ (a dx : Addr) (fs : List (Str × V)), vs = [.ref a] ∧ H a = some (.ins C dx fs) ∧ Q .non H
def spTermsN : Sp := fun vs H Q _ => ∃ k s : Int, vs = [.int k, .int s] ∧ 2 ≤ k ∧ k ≤ 6 ∧ s.natAbs ≤ 10 ^ 45 ∧ Q (.int (nT k s)) H
def spCondL (K : PySem.W.Frag) : Sp := fun vs H Q _ => ∃ (l : Addr) (rs : List Int), vs = [.ref l] ∧ SqX K H l (rs.map V.int) ∧ rs.length ≤ 1000 ∧ (∀ r ∈ rs, 0 ≤ r ∧ r ≤ 10 ^ 45) ∧ ∀ H', Same H H' → Q (.int (conds rs)) H'
structure RdOk (K : PySem.W.Frag) (H : Hp) (a C CS sa : Addr) (p : Int) (ns : List Int) (k : Int) (O : List (List (Int × Int))) : Prop where
  at_ : ReadAt K H a C CS sa p ns k O
  k2 : 2 ≤ k
  k6 : k ≤ 6
  len : O.length = ns.length
  wb : ∀ w ∈ wts O, 1 ≤ w ∧ w ≤ 3
  few : (wts O).length ≤ 24
theorem RdOk.same {K : PySem.W.Frag} {H H' : Hp} {a C CS sa : Addr} {p k : Int} {ns : List Int} {O : List (List (Int × Int))} (e : Same H H') (h : RdOk K H a C CS sa p ns k O) : RdOk K H' a C CS sa p ns k O := ⟨h.at_.same e, h.k2, h.k6, h.len, h.wb, h.few⟩
def spCondOf (K : PySem.W.Frag) (C CS : Addr) : Sp := fun vs H Q _ => ∃ (a sa : Addr) (p k m : Int) (ns : List Int) (O : List (List (Int × Int))), vs = [.ref a, .int m] ∧ RdOk K H a C CS sa p ns k O ∧ 1 ≤ m ∧ m ≤ 10 ^ 40 ∧ ∀ H', Same H H' → Q (.int (Cm (wts O) m)) H'
def EnIs (k : Int) (ws : List Int) (t : Int) (v : V) : Prop := (∃ m, v = .int m ∧ LeastM k ws t m) ∨ (v = .non ∧ NoM k ws t)
def spEnough (K : PySem.W.Frag) (C CS : Addr) : Sp := fun vs H Q _ => ∃ (a sa : Addr) (p k t : Int) (ns : List Int) (O : List (List (Int × Int))), vs = [.ref a, .int t] ∧ RdOk K H a C CS sa p ns k O ∧ 1 ≤ t ∧ t ≤ 10 ^ 40 ∧
  ∀ v H', Same H H' → EnIs k (wts O) t v → Q v H'
def spReach (K : PySem.W.Frag) (C CS : Addr) : Sp := fun vs H Q _ => ∃ (a sa : Addr) (p k : Int) (ns : List Int) (O : List (List (Int × Int))), vs = [.ref a] ∧ RdOk K H a C CS sa p ns k O ∧
  ∀ (t m : Int) (q : Addr) (H' : Hp), Same H H' → H' q = some (.tup [.int t, .int m]) → 1 ≤ t → t ≤ 40 → LeastM k (wts O) t m → (∀ t', 1 ≤ t' → t' < t → NoM k (wts O) t') → Q (.ref q) H'
theorem pts_wts : ∀ {ns : List Int} {O : List (List (Int × Int))}, O.length = ns.length → (pts ns O).flatten.map (fun z => z.2.2) = wts O
  | [], [], _ => rfl
  | n :: ns, o :: O, h => by
    have i := pts_wts (ns := ns) (O := O) (by simpa using h)
    unfold pts wts at i ⊢
    rw [List.zip_cons_cons, List.map_cons, List.flatten_cons, List.map_append, i, List.map_cons, List.flatten_cons, List.map_map]
    rfl
section
variable {P : Program} {w : World} {K : PySem.W.Frag} {mg : Str → Option Value} {base : Heap}
theorem ok_need_k {k : Nat} (T : Txt K mg) (D : DefB K mg "need_k" s_need_k P_need_k) (c_is_within : C8.Cal P w K mg base k "is_within" (spWithin K) []) : C8.Cal P w K mg base (k + 1) "need_k" spNeedK [] := by
  refine calB D sc_need_k (fun vs H Q E h => ?_) (fun f cdv A outer s H vs Q E hr h => ?_)
  · obtain ⟨k, rfl, _⟩ := h
    rfl
  obtain ⟨kk, rfl, k2, k6, q⟩ := h
  refine ⟨_, (pss_one (ps_if (pt_not (pt_val (C8.pe_c c_is_within hr (Nat.le_refl _) (by rfl) (pa_cons (pv 0) (pa_cons pe_int (pa_cons pe_int pa_nil)))))) (pss_one ps_dead) pss_nil)), ?_⟩
  have kin : inB (.int 2) (.int 6) (.int kk) = true := by
    show (decide (2 ≤ kk) && decide (kk ≤ 6)) = true
    rw [decide_eq_true k2, decide_eq_true k6]
    rfl
  exact ⟨_, rfl, .int kk, .int 2, .int 6, rfl, intK_int kk, .inr ⟨_, rfl⟩, .inr ⟨_, rfl⟩, true, by rw [kin], iteF q⟩
theorem ok_need_score {k : Nat} (T : Txt K mg) (D : DefB K mg "need_score" s_need_score P_need_score) (c_is_within : C8.Cal P w K mg base k "is_within" (spWithin K) []) : C8.Cal P w K mg base (k + 1) "need_score" spNeedT [] := by
  refine calB D sc_need_score (fun vs H Q E h => ?_) (fun f cdv A outer s H vs Q E hr h => ?_)
  · obtain ⟨k, rfl, _⟩ := h
    rfl
  obtain ⟨t, rfl, t1, q⟩ := h
  refine ⟨_, (pss_one (ps_if (pt_not (pt_val (C8.pe_c c_is_within hr (Nat.le_refl _) (by rfl) (pa_cons (pv 0) (pa_cons pe_int (pa_cons pe_non pa_nil)))))) (pss_one ps_dead) pss_nil)), ?_⟩
  have kin : inB (.int 1) .non (.int t) = true := by
    show (decide (1 ≤ t) && true) = true
    rw [decide_eq_true t1]
    rfl
  exact ⟨_, rfl, .int t, .int 1, .non, rfl, intK_int t, .inr ⟨_, rfl⟩, .inl rfl, true, by rw [kin], iteF q⟩
theorem ok_need_reading {C : Addr} (T : Txt K mg) (RC : RdC K mg C) (D : DefB K mg "need_reading" s_need_reading P_need_reading) {k : Nat} : C8.Cal P w K mg base (k + 1) "need_reading" (spNeedR C) [] := by
  refine calB D sc_need_reading (fun vs H Q E h => ?_) (fun f cdv A outer s H vs Q E hr h => ?_)
  · obtain ⟨a, dx, fs, rfl, _⟩ := h
    rfl
  obtain ⟨a, dx, fs, rfl, ha, q⟩ := h
  refine ⟨_, (pss_one (ps_if (pt_not (pt_val (pe_callB (C8.call_isC RC.isc) (by rfl) T.b_isinstance (by decide +kernel) (pa_cons (pv 0) (pa_cons (C8.pe_gc (v := .ref C) (by rfl) ⟨_, RC.mgC, rfl⟩) pa_nil))))) (pss_one ps_dead) pss_nil)), ?_⟩
  exact ⟨_, rfl, a, dx, fs, rfl, ha, true, rfl, iteF q⟩
theorem ok_many_terms {k : Nat} (T : Txt K mg) (D : DefB K mg "many_terms" s_many_terms P_many_terms) (c_need_k : C8.Cal P w K mg base k "need_k" spNeedK []) (c_is_integer : C8.Cal P w K mg base k "is_integer" (spInt K) []) : C8.Cal P w K mg base (k + 1) "many_terms" spTermsN [] := by
  refine calB D sc_many_terms (fun vs H Q E h => ?_) (fun f cdv A outer s H vs Q E hr h => ?_)
  · obtain ⟨k, s, rfl, _⟩ := h
    rfl
  obtain ⟨kk, sp, rfl, k2, k6, sb, q⟩ := h
  refine ⟨_, (pss_cons (ps_expr (C8.pe_c c_need_k hr (Nat.le_refl _) (by rfl) (pa_cons (pv 0) pa_nil)))
    (pss_cons (ps_if (pt_not (pt_val (C8.pe_c c_is_integer hr (Nat.le_refl _) (by rfl) (pa_cons (pv 1) pa_nil)))) (pss_one ps_dead) pss_nil)
    (pss_cons (ps_if (pt_cmpR op_lt (pv 1) pe_int (nomark _)) (pss_one (ps_ret pe_int)) pss_nil)
    (pss_cons (ps_set (i := 2) sc_many_terms.nd rfl (Or.inl rfl) (pe_op op_fdivW (pv 1) (pe_op op_sub (pv 0) pe_int)))
    (pss_one (ps_ret (pe_op op_sub (pe_op op_mulW (pe_op op_add (pv 2) pe_int) (pe_op op_add (pv 1) pe_int)) (pe_op op_mulW (pe_op op_sub (pv 0) pe_int) (pe_op op_fdivW (pe_op op_mulW (pv 2) (pe_op op_add (pv 2) pe_int)) pe_int))))))))), ?_⟩
  refine ⟨_, rfl, kk, rfl, k2, k6, ?_⟩
  refine ⟨_, rfl, .int sp, rfl, intK_int sp, true, rfl, iteF ?_⟩
  refine ⟨_, rfl, _, _, rfl, rfl, _, rfl, ?_⟩
  unfold nT at q
  refine ite2 (fun c1 => ?_) (fun c1 => ?_)
  · rw [if_pos (of_decide_eq_true c1)] at q
    exact q
  have n1 : ¬sp < 0 := fun h => c1 (decide_eq_true h)
  rw [if_neg n1] at q
  have s0 : 0 ≤ sp := by omega
  have P0 : 0 ≤ sp / (kk - 1) := Int.ediv_nonneg s0 (by omega)
  have P1 : sp / (kk - 1) ≤ sp := Int.ediv_le_self _ s0
  have pp : sp / (kk - 1) * (sp / (kk - 1) + 1) ≤ 10 ^ 45 * (10 ^ 45 + 1) := Int.mul_le_mul (by omega) (by omega) (by omega) (by decide)
  have p0 : 0 ≤ sp / (kk - 1) * (sp / (kk - 1) + 1) := Int.mul_nonneg P0 (by omega)
  refine ⟨_, rfl, _, rfl, kk, 1, rfl, rfl, _, _, rfl, rfl, cdW (by omega) (by omega), ?_⟩
  refine ⟨_, rfl, _, _, rfl, rfl, _, rfl, _, _, rfl, rfl, _, _, rfl, rfl, cmW (by omega) (by omega), ?_⟩
  refine ⟨_, rfl, kk, 1, rfl, rfl, _, rfl, _, rfl, _, _, rfl, rfl, _, _, rfl, rfl, cmW (by omega) (by omega), _, _, rfl, rfl, cdW (by decide) (by decide), _, _, rfl, rfl, cmW (by omega) (by omega), _, _, rfl, rfl, ?_⟩
  exact q
theorem ok_many_conditions {k : Nat} (T : Txt K mg) (D : DefB K mg "many_conditions" s_many_conditions P_many_conditions) (c_is_numbers : C8.Cal P w K mg base k "is_numbers" (spNums K) []) : C8.Cal P w K mg base (k + 1) "many_conditions" (spCondL K) [] := by
  refine calB D sc_many_conditions (fun vs H Q E h => ?_) (fun f cdv A outer s H vs Q E hr h => ?_)
  · obtain ⟨l, rs, rfl, _⟩ := h
    rfl
  obtain ⟨l, rs, rfl, hl, few, rb, q⟩ := h
  refine ⟨_, (pss_cons (ps_if (PW.pt (pw_or (pt_not (pt_val (C8.pe_c c_is_numbers hr (Nat.le_refl _) (by rfl) (pa_cons (pv 0) pa_nil)))) (pw_or1 (pt_val (pe_callB (cr_any rfl) (by rfl) T.b_any (by decide +kernel) (pa_cons (pe_lc (own := [("one", 1)]) (g := gName 1) (tt := tYes) rfl sc_many_conditions.nd (pi_X (pv 0)) (blkOk_by (N := N_many_conditions) (sc := C8.fnScope s_many_conditions) (by decide +kernel)) (fun _ _ _ _ _ => (pg_name (i := 1) sc_many_conditions.nd rfl (Or.inl rfl))) (fun _ _ _ _ _ => pts_nil) (fun _ _ _ _ _ => (pe_cmpR op_lt (pv 1) pe_int (nomark _)))) pa_nil)))))) (pss_one ps_dead) pss_nil)
    (pss_one (ps_ret (pe_callB (cr_sum rfl) (by rfl) T.b_sum (by decide +kernel) (pa_cons (pe_lc (own := [("one", 1)]) (g := gName 1) (tt := tYes) rfl sc_many_conditions.nd (pi_X (pv 0)) (blkOk_by (N := N_many_conditions) (sc := C8.fnScope s_many_conditions) (by decide +kernel)) (fun _ _ _ _ _ => (pg_name (i := 1) sc_many_conditions.nd rfl (Or.inl rfl))) (fun _ _ _ _ _ => pts_nil) (fun _ _ _ _ _ => (pe_op op_fdivW (pe_op op_mulW (pv 1) (pe_op op_add (pv 1) pe_int)) pe_int))) pa_nil))))), ?_⟩
  have allI : (rs.map V.int).all intV = true := by
    rw [List.all_eq_true]
    intro x hm
    obtain ⟨z, _, rfl⟩ := List.mem_map.mp hm
    rfl
  refine ⟨_, rfl, .ref l, true, rfl, .inr ⟨l, _, rfl, hl, by rw [List.length_map]; omega, fun x hm => ?_, allI.symm⟩, fun H1 e1 => ⟨true, rfl, iteF ?_⟩⟩
  · obtain ⟨z, _, rfl⟩ := List.mem_map.mp hm
    exact intK_int z
  have hl1 := sqX_same e1 hl
  refine ix_go (H0 := H1) (fun Q q => ⟨_, rfl, q⟩) hl1 (fun o h => h) fun J G wk hG D2 hD2 => ?_
  refine lc_accW wk (fun i acc _ => acc = List.replicate i (.bl false)) (fun H' e => hG H' fun o h => e _ _ h) yat_same hD2 (by rw [List.length_map]; omega) (fun _ _ _ _ _ h => h) rfl ?_ ?_
  · rintro i x acc H5z H5 Kc Nc hi e5 hDl rfl ⟨rfl, hx⟩ kc nc
    rw [List.getElem?_map] at hx
    obtain ⟨r, hr0, rfl⟩ := Option.map_eq_some_iff.mp hx
    have := rb r (List.mem_of_getElem? hr0)
    refine ⟨rfl, _, rfl, _, _, rfl, rfl, ?_⟩
    refine kc _ H5 (Same.refl _) ?_
    have hb : V.bl (decide (r < 0)) = V.bl false := blf (by omega)
    show List.replicate i (V.bl false) ++ [V.bl (decide (r < 0))] = _
    rw [hb, List.replicate_succ']
  rintro acc H2 e2 hD2' len2 rfl
  refine ⟨D2, List.replicate (rs.map V.int).length false, rfl, SqL.of (by rw [hD2', List.map_replicate]), false, by rw [List.any_eq_false.mpr (fun x m => by rw [List.eq_of_mem_replicate m]; decide)], iteF ?_⟩
  have hl2 := sqX_same e2 hl1
  refine ix_go (H0 := H2) (fun Q q => ⟨_, rfl, q⟩) hl2 (fun o h => h) fun J G wk hG D3 hD3 => ?_
  refine lc_accW wk (fun i acc _ => acc = ((rs.map cond1).take i).map V.int) (fun H' e => hG H' fun o h => e _ _ h) yat_same hD3 (by rw [List.length_map]; omega) (fun _ _ _ _ _ h => h) rfl ?_ ?_
  · rintro i x acc H5z H5 Kc Nc hi e5 hDl rfl ⟨rfl, hx⟩ kc nc
    rw [List.getElem?_map] at hx
    obtain ⟨r, hr0, rfl⟩ := Option.map_eq_some_iff.mp hx
    have rb1 := rb r (List.mem_of_getElem? hr0)
    refine ⟨rfl, _, rfl, _, rfl, r, 1, rfl, rfl, r, r + 1, rfl, rfl, cmW (by omega) (by omega), _, _, rfl, rfl, cdW (by decide) (by decide), ?_⟩
    refine kc _ H5 (Same.refl _) ?_
    rw [take_snoc (o := cond1 r) (by rw [List.getElem?_map, hr0]; rfl), List.map_append]
    rfl
  rintro acc H3 e3 hD3' len3 rfl
  rw [List.length_map, show rs.length = (rs.map cond1).length from (List.length_map _).symm, List.take_length] at hD3'
  exact ⟨D3, _, rfl, SqL.of hD3', q H3 (e1.trans (e2.trans e3))⟩
theorem ok_conditions_of {C CS : Addr} {k : Nat} (T : Txt K mg) (RC : RdC K mg C) (D : DefB K mg "conditions_of" s_conditions_of P_conditions_of) (c_need_reading : C8.Cal P w K mg base k "need_reading" (spNeedR C) []) (c_is_within : C8.Cal P w K mg base k "is_within" (spWithin K) []) (c_many_conditions : C8.Cal P w K mg base k "many_conditions" (spCondL K) []) :
    C8.Cal P w K mg base (k + 1) "conditions_of" (spCondOf K C CS) [] := by
  refine calB D sc_conditions_of (fun vs H Q E h => ?_) (fun f cdv A outer s H vs Q E hr h => ?_)
  · obtain ⟨a, sa, p, k, m, ns, O, rfl, _⟩ := h
    rfl
  obtain ⟨a, sa, p, kk, m, ns, O, rfl, R, m1, m40, q⟩ := h
  refine ⟨_, (pss_cons (ps_expr (C8.pe_c c_need_reading hr (Nat.le_refl _) (by rfl) (pa_cons (pv 0) pa_nil)))
    (pss_cons (ps_if (pt_not (pt_val (C8.pe_c c_is_within hr (Nat.le_refl _) (by rfl) (pa_cons (pv 1) (pa_cons pe_int (pa_cons pe_non pa_nil)))))) (pss_one ps_dead) pss_nil)
    (pss_one (ps_ret (C8.pe_c c_many_conditions hr (Nat.le_refl _) (by rfl) (pa_cons (pe_lc (own := [("_", 2), ("weight", 3)]) (g := gTup K 3 _) (tt := tYes) rfl sc_conditions_of.nd (pi_tup (pe_fld (pv 0) rfl)) (blkOk_by (N := N_conditions_of) (sc := C8.fnScope s_conditions_of) (by decide +kernel)) (fun _ _ _ _ _ => (pg_tup rfl (pgs_cons (pg_name (i := 2) sc_conditions_of.nd rfl (Or.inl rfl)) (pgs_cons (pg_name (i := 2) sc_conditions_of.nd rfl (Or.inl rfl)) (pgs_cons (pg_name (i := 3) sc_conditions_of.nd rfl (Or.inl rfl)) pgs_nil))))) (fun _ _ _ _ _ => pts_nil) (fun _ _ _ _ _ => (pe_op op_mulW (pv 1) (pv 3)))) pa_nil)))))), ?_⟩
  obtain ⟨dx, oq, pq, ha, hs, ho, tp, hp, ep⟩ := id R.at_
  refine ⟨_, rfl, a, dx, _, rfl, ha, ?_⟩
  have kin : inB (.int 1) .non (.int m) = true := by
    show (decide (1 ≤ m) && true) = true
    rw [decide_eq_true m1]
    rfl
  refine ⟨_, rfl, .int m, .int 1, .non, rfl, intK_int m, .inr ⟨_, rfl⟩, .inl rfl, true, by rw [kin], iteF ?_⟩
  have W := pts_wts R.len
  have few := R.few
  have zl : tp.length = (wts O).length := by rw [ep.1, ← W, List.length_map]
  refine ⟨_, rfl, a, C, dx, _, _, rfl, ha, RC.cl, RC.n3, rfl, pq, rfl, ⟨_, SqT.of hp⟩, fun D2 hD2 => ?_⟩
  refine lc_accW (walk_tup (xs := tp)) (fun i acc _ => acc = (((wts O).map fun w => m * w).take i).map V.int) (fun H' e => same_seqT e (SqT.of hp)) yat_same hD2 (by omega) (fun _ _ _ _ _ h => h) rfl ?_ ?_
  · rintro i x acc H5z H5 Kc Nc hi e5 hDl rfl ⟨rfl, hx⟩ kc nc
    obtain ⟨z, hz, t, rfl, ht⟩ := ep.get hx
    have hw : (wts O)[i]? = some z.2.2 := by rw [← W, List.getElem?_map, hz]; rfl
    have wb := R.wb _ (List.mem_of_getElem? hw)
    refine ⟨t, _, rfl, SqT.of (e5 _ _ ht), rfl, _, _, rfl, _, _, rfl, _, _, rfl, rfl, rfl, ?_⟩
    refine ⟨_, rfl, _, rfl, m, z.2.2, rfl, rfl, cmW (by omega) (by omega), ?_⟩
    refine kc _ H5 (Same.refl _) ?_
    rw [take_snoc (o := m * z.2.2) (by rw [List.getElem?_map, hw]; rfl), List.map_append]
    rfl
  rintro acc H2 e2 hD2' len2 rfl
  rw [zl, show (wts O).length = ((wts O).map fun w => m * w).length from (List.length_map _).symm, List.take_length] at hD2'
  dsimp only [tNil, List.cons_append, List.nil_append, List.append_nil]
  refine ⟨D2, _, rfl, .inl (SqL.of hD2'), by rw [List.length_map]; omega, fun r hm => ?_, fun H3 e3 => q H3 (e2.trans e3)⟩
  obtain ⟨w, hw, rfl⟩ := List.mem_map.mp hm
  have wb := R.wb w hw
  have a1 : m * w ≤ 10 ^ 40 * 3 := Int.mul_le_mul m40 wb.2 (by omega) (by decide)
  have a0 : 0 ≤ m * w := Int.mul_nonneg (by omega) (by omega)
  omega
theorem ok_enough {C CS fl : Addr} {k : Nat} (T : Txt K mg) (RC : RdC K mg C) (SC : SchC K mg CS fl) (gM : ConI mg "MOST_CONDITIONS" 150) (D : DefB K mg "enough" s_enough P_enough) (c_need_reading : C8.Cal P w K mg base k "need_reading" (spNeedR C) []) (c_need_score : C8.Cal P w K mg base k "need_score" spNeedT [])
    (c_conditions_of : C8.Cal P w K mg base k "conditions_of" (spCondOf K C CS) []) (c_many_terms : C8.Cal P w K mg base k "many_terms" spTermsN []) : C8.Cal P w K mg base (k + 1) "enough" (spEnough K C CS) [] := by
  refine calB D sc_enough (fun vs H Q E h => ?_) (fun f cdv A outer s H vs Q E hr h => ?_)
  · obtain ⟨a, sa, p, k, t, ns, O, rfl, _⟩ := h
    rfl
  obtain ⟨a, sa, p, kk, t, ns, O, rfl, R, t1, t40, q⟩ := h
  refine ⟨_, (pss_cons (ps_expr (C8.pe_c c_need_reading hr (Nat.le_refl _) (by rfl) (pa_cons (pv 0) pa_nil)))
    (pss_cons (ps_expr (C8.pe_c c_need_score hr (Nat.le_refl _) (by rfl) (pa_cons (pv 1) pa_nil)))
    (pss_cons (ps_set (i := 2) sc_enough.nd rfl (Or.inl rfl) pe_int)
    (pss_cons (ps_set (i := 3) sc_enough.nd rfl (Or.inl rfl) (C8.pe_c c_conditions_of hr (Nat.le_refl _) (by rfl) (pa_cons (pv 0) (pa_cons (pv 2) pa_nil))))
    (pss_cons (ps_while PassesOwn.never (pt_cmpR op_le (pv 3) (C8.pe_gc (v := .int 150) (by rfl) gM) (nomark _)) (pss_cons (ps_if (pt_cmpR op_gt (C8.pe_c c_many_terms hr (Nat.le_refl _) (by rfl) (pa_cons (pe_fld (pe_fld (pv 0) rfl) rfl) (pa_cons (pe_op op_sub (pe_op op_mulW (pv 2) (pv 1)) pe_int) pa_nil))) (pv 3) (nomark _)) (pss_one (ps_ret (pv 2))) pss_nil)
    (pss_cons (ps_set (i := 2) sc_enough.nd rfl (Or.inl rfl) (pe_op op_add (pv 2) pe_int))
    (pss_one (ps_set (i := 3) sc_enough.nd rfl (Or.inl rfl) (C8.pe_c c_conditions_of hr (Nat.le_refl _) (by rfl) (pa_cons (pv 0) (pa_cons (pv 2) pa_nil))))))))
    (pss_one (ps_ret pe_non))))))), ?_⟩
  obtain ⟨dx, oq, pq, ha, _⟩ := id R.at_
  have w1 : ∀ w ∈ wts O, 1 ≤ w := fun w m => (R.wb w m).1
  refine ⟨_, rfl, a, dx, _, rfl, ha, ?_⟩
  refine ⟨_, rfl, t, rfl, t1, ?_⟩
  refine ⟨_, rfl, _, rfl, a, sa, p, kk, 1, ns, O, rfl, R, by decide, by decide, fun H1 e1 => ?_⟩
  refine ⟨fun n σ' H' => ∃ m : Int, n = (20 - m).toNat ∧ σ' = [some (.ref a), some (.int t), some (.int m), some (.int (Cm (wts O) m))] ∧ Same H H' ∧ 1 ≤ m ∧ m ≤ 17 ∧ ∀ m', 1 ≤ m' → m' < m → ¬okM kk (wts O) t m', ⟨_, 1, rfl, rfl, e1, by decide, by decide, fun m' h1 h2 => by omega⟩, ?_⟩
  rintro n σ' H2 ⟨m, rfl, rfl, e2, m1, m17, no⟩
  refine ⟨_, rfl, _, _, rfl, rfl, _, rfl, ?_⟩
  refine ite2 (fun c1 => ?_) (fun c1 => ?_)
  · have c1 : Cm (wts O) m ≤ 150 := of_decide_eq_true c1
    refine ⟨fun σ' H' => σ' = [some (.ref a), some (.int t), some (.int (m + 1)), some (.int (Cm (wts O) (m + 1)))] ∧ Same H H' ∧ m + 1 ≤ 17 ∧ ∀ m', 1 ≤ m' → m' < m + 1 → ¬okM kk (wts O) t m', fun σ' H' ⟨h1, h2, h3, h4⟩ => ⟨(20 - (m + 1)).toNat, by omega, m + 1, rfl, h1, h2, by omega, h3, h4⟩, ?_⟩
    have R2 := R.same e2
    obtain ⟨dx, oq, pq, ha2, ⟨dxs, tq, hsa, _⟩, _⟩ := id R2.at_
    have mt0 : 1 * 1 ≤ m * t := Int.mul_le_mul m1 t1 (by decide) (by omega)
    have mt1 : m * t ≤ 17 * 10 ^ 40 := Int.mul_le_mul m17 t40 (by omega) (by decide)
    refine ⟨_, rfl, a, C, dx, _, _, rfl, ha2, RC.cl, RC.n1, rfl, sa, CS, dxs, _, _, rfl, hsa, SC.cl, SC.nK, rfl, _, rfl, _, rfl, m, t, rfl, rfl, cmW (by omega) (by omega), _, _, rfl, rfl, ?_⟩
    refine ⟨kk, m * t - 1, rfl, R.k2, R.k6, by omega, _, rfl, _, _, rfl, rfl, _, rfl, ?_⟩
    refine ite2 (fun c2 => ?_) (fun c2 => ?_)
    · have c2 : Cm (wts O) m < nT kk (m * t - 1) := of_decide_eq_true c2
      exact ⟨_, rfl, q _ H2 e2 (.inl ⟨m, rfl, m1, ⟨c1, c2⟩, no⟩)⟩
    · have c2 : ¬Cm (wts O) m < nT kk (m * t - 1) := fun h => c2 (decide_eq_true h)
      have ne : wts O ≠ [] := fun z => by
        rw [z, Cm_nil] at c2
        have := nT_pos (k := kk) (s := m * t - 1) R.k2 (by omega)
        omega
      have m16 : m + 1 ≤ 17 := by
        rcases Int.lt_or_le m 17 with h | h
        · omega
        · have := Cm_big w1 ne h
          omega
      refine ⟨_, rfl, _, _, rfl, rfl, ?_⟩
      refine ⟨_, rfl, _, rfl, a, sa, p, kk, m + 1, ns, O, rfl, R2, by omega, by omega, fun H3 e3 => ?_⟩
      refine ⟨rfl, e2.trans e3, m16, fun m' h1 h2 => ?_⟩
      rcases Int.lt_or_le m' m with h | h
      · exact no m' h1 h
      · have : m' = m := by omega
        subst this
        exact fun z => c2 z.2
  · have c1 : ¬Cm (wts O) m ≤ 150 := fun h => c1 (decide_eq_true h)
    refine q _ H2 e2 (.inr ⟨rfl, fun m' h1 z => ?_⟩)
    rcases Int.lt_or_le m' m with h | h
    · exact no m' h1 h z
    · have := Cm_mono w1 (by omega) h
      exact c1 (Int.le_trans this z.1)
theorem ok_reach {C CS : Addr} {k : Nat} (T : Txt K mg) (D : DefB K mg "reach" s_reach P_reach) (c_need_reading : C8.Cal P w K mg base k "need_reading" (spNeedR C) []) (c_enough : C8.Cal P w K mg base k "enough" (spEnough K C CS) []) : C8.Cal P w K mg base (k + 1) "reach" (spReach K C CS) [] := by
  refine calB D sc_reach (fun vs H Q E h => ?_) (fun f cdv A outer s H vs Q E hr h => ?_)
  · obtain ⟨a, sa, p, k, ns, O, rfl, _⟩ := h
    rfl
  obtain ⟨a, sa, p, kk, ns, O, rfl, R, q⟩ := h
  refine ⟨_, (pss_cons (ps_expr (C8.pe_c c_need_reading hr (Nat.le_refl _) (by rfl) (pa_cons (pv 0) pa_nil)))
    (pss_cons (ps_set (i := 1) sc_reach.nd rfl (Or.inl rfl) pe_int)
    (pss_cons (ps_set (i := 2) sc_reach.nd rfl (Or.inl rfl) (C8.pe_c c_enough hr (Nat.le_refl _) (by rfl) (pa_cons (pv 0) (pa_cons (pv 1) pa_nil))))
    (pss_cons (ps_while PassesOwn.never (pt_cmpR op_isN (pv 2) pe_non (nomark _)) (pss_cons (ps_set (i := 1) sc_reach.nd rfl (Or.inl rfl) (pe_op op_add (pv 1) pe_int))
    (pss_one (ps_set (i := 2) sc_reach.nd rfl (Or.inl rfl) (C8.pe_c c_enough hr (Nat.le_refl _) (by rfl) (pa_cons (pv 0) (pa_cons (pv 1) pa_nil)))))))
    (pss_one (ps_ret (pe_tup (pa_cons (pv 1) (pa_cons (pv 2) pa_nil))))))))), ?_⟩
  obtain ⟨dx, oq, pq, ha, _⟩ := id R.at_
  have a40 := at40 R.k2 R.k6 R.wb R.few
  refine ⟨_, rfl, a, dx, _, rfl, ha, ?_⟩
  refine ⟨_, rfl, _, rfl, a, sa, p, kk, 1, ns, O, rfl, R, by decide, by decide, fun v1 H1 e1 en1 => ?_⟩
  refine ⟨fun n σ' H' => ∃ (t : Int) (v : V), n = (50 - t).toNat ∧ σ' = [some (.ref a), some (.int t), some v] ∧ Same H H' ∧ 1 ≤ t ∧ t ≤ 40 ∧ (∀ t', 1 ≤ t' → t' < t → NoM kk (wts O) t') ∧ EnIs kk (wts O) t v, ⟨_, 1, v1, rfl, rfl, e1, by decide, by decide, fun t' h1 h2 => by omega, en1⟩, ?_⟩
  rintro n σ' H2 ⟨t, v, rfl, rfl, e2, t1, t40, no, ⟨m, rfl, lm⟩ | ⟨rfl, nm⟩⟩
  · refine ⟨_, rfl, rfl, false, rfl, iteF ?_⟩
    refine ⟨_, rfl, _, rfl, (by show 2 ≤ sizeLine; decide), fun T0 hT => ?_⟩
    exact q t m T0 _ (e2.trans (same_new hT _)) upd_same t1 t40 lm no
  · refine ⟨_, rfl, rfl, true, rfl, iteT ?_⟩
    have t39 : t + 1 ≤ 40 := by
      rcases Int.lt_or_le t 40 with h | h
      · omega
      · have : t = 40 := by omega
        subst this
        exact absurd a40 (nm 1 (by decide))
    refine ⟨fun σ' H' => ∃ v, σ' = [some (.ref a), some (.int (t + 1)), some v] ∧ Same H H' ∧ EnIs kk (wts O) (t + 1) v, fun σ' H' ⟨v, h1, h2, h3⟩ => ⟨(50 - (t + 1)).toNat, by omega, t + 1, v, rfl, h1, h2, by omega, t39, fun t' g1 g2 => ?_, h3⟩, ?_⟩
    · rcases Int.lt_or_le t' t with h | h
      · exact no t' g1 h
      · have : t' = t := by omega
        subst this
        exact nm
    refine ⟨_, rfl, _, _, rfl, rfl, ?_⟩
    refine ⟨_, rfl, _, rfl, a, sa, p, kk, t + 1, ns, O, rfl, R.same e2, by omega, by omega, fun v3 H3 e3 en3 => ?_⟩
    exact ⟨v3, rfl, e2.trans e3, en3⟩
end
end My


set_option Elab.async false
set_option linter.all false
set_option maxRecDepth 100000
set_option maxHeartbeats 2000000
namespace My
open PySem PySem.Spec PyProof.Rows L2
theorem seq_at {z : Int} {n : Nat} (h0 : 0 ≤ z) (h1 : z < (n : Int)) : seqIndex? z n = some z.toNat := by
  have h : ¬z < 0 := by omega
  unfold seqIndex?
  simp [h, h0, h1]
theorem perm_erase {α : Type} {l : List α} {i : Nat} (h : i < l.length) : ([l[i]] ++ l.eraseIdx i).Perm l := by
  have e : l = l.take i ++ l[i] :: l.drop (i + 1) := by
    rw [← List.drop_eq_getElem_cons h, List.take_append_drop]
  rw [List.eraseIdx_eq_take_drop_succ]
  have pm : (l.take i ++ l[i] :: l.drop (i + 1)).Perm (l[i] :: (l.take i ++ l.drop (i + 1))) := List.perm_middle
  exact pm.symm.trans (List.Perm.of_eq e.symm)
/-- an arrangement of the things -/
def spMixed (K : PySem.W.Frag) : Sp := fun vs H Q _ => ∃ (p c l : Addr) (n : Nat) (xs : List V), vs = [.ref p, .ref l] ∧ Well H p c (n + xs.length) ∧ SqL K H l xs ∧ xs.length ≤ 1000 ∧ l ≠ p ∧
  ∀ (q : Addr) (ys : List V) (H' : Hp), ys.Perm xs → Keep p H H' → Well H' p c n → H' q = some (.lst ys) → H q = none → q ≠ p → Q (.ref q) H'
/-- the world of a reading -/
def WorldAt (K : PySem.W.Frag) (H : Hp) (wq : Addr) (p : Int) (ns : List Int) (k : Int) (O : List (List (Int × Int))) : Prop := ∃ pl ol : Addr, H wq = some (.tup [.int p, .ref pl, .int k, .ref ol]) ∧ SqL K H pl (ns.map V.int) ∧ OfIn K H (.ref ol) O
theorem WorldAt.same {K : PySem.W.Frag} {H H' : Hp} {wq : Addr} {p k : Int} {ns : List Int} {O : List (List (Int × Int))} (e : Same H H') (h : WorldAt K H wq p ns k O) : WorldAt K H' wq p ns k O := by
  obtain ⟨pl, ol, h1, h2, h3⟩ := h
  exact ⟨pl, ol, e _ _ h1, e.seq h2, h3.same e⟩
def spMade (K : PySem.W.Frag) (C CS : Addr) : Sp := fun vs H Q _ => ∃ (wq : Addr) (p k : Int) (ns : List Int) (O : List (List (Int × Int))), vs = [.ref wq] ∧ WorldAt K H wq p ns k O ∧ SchOk p ns k ∧ OfOk p ns.length O ∧
  ∀ (a sa : Addr) (O' : List (List (Int × Int))) (H' : Hp), Same H H' → SortsOf O O' → ReadAt K H' a C CS sa p ns k O' → Q (.ref a) H'
theorem make_same {H H' : Hp} {x dx C : Addr} (hx : H x = none) (hd : H dx = none) (ne : dx ≠ x) (k : Keep x (upd (upd H dx (.own x)) x (.ins C dx [])) H') : Same H H' := fun b o hb => by
  refine k b o ?_ (ne_of_none hb hx)
  rw [upd_ne (ne_of_none hb hx), upd_ne (ne_of_none hb hd)]
  exact hb
theorem make_same0 {H : Hp} {x dx C : Addr} (hx : H x = none) (hd : H dx = none) : Same H (upd (upd H dx (.own x)) x (.ins C dx [])) := fun b o hb => by
  rw [upd_ne (ne_of_none hb hx), upd_ne (ne_of_none hb hd)]
  exact hb
section
variable {P : Program} {w : World} {K : PySem.W.Frag} {mg : Str → Option Value} {base : Heap}
theorem ok__law_mixed {k : Nat} (T : Txt K mg) (D : DefB K mg "_law_mixed" s__law_mixed P__law_mixed) (c__law_draw : C8.Cal P w K mg base k "_law_draw" spPail []) : C8.Cal P w K mg base (k + 1) "_law_mixed" (spMixed K) [] := by
  refine calB D sc__law_mixed (fun vs H Q E h => ?_) (fun f cdv A outer s H vs Q E hr h => ?_)
  · obtain ⟨p, c, l, n, xs, rfl, _⟩ := h
    rfl
  obtain ⟨p, c, l, n, xs, rfl, W, hl, few, nl, q⟩ := h
  refine ⟨_, (pss_cons (ps_par (i := 3) (j := 4) (by rfl) sc__law_mixed.nd rfl rfl (by decide) rfl rfl (pa_cons (pe_callTy call_list_of (by rfl) T.b_list (by decide +kernel) (pa_cons (pv 1) pa_nil)) (pa_cons (pe_lst pa_nil) pa_nil)) (by rfl))
    (pss_cons (ps_for PassesOwn.never rfl (pi_range1 (by rfl) T.b_range (pa_cons (pe_callB call_len_seq (by rfl) T.b_len (by decide +kernel) (pa_cons (pv 1) pa_nil)) pa_nil)) (pg_name (i := 2) sc__law_mixed.nd rfl (Or.inl rfl))
      (pss_one (ps_expr (pe_bm PySem.F.plainAttrs_list PySem.F.slot_list_append PySem.F.type_list_append mt_append (pv 4) (pa_cons (pe_bm PySem.F.plainAttrs_list PySem.F.slot_list_pop PySem.F.type_list_pop mt_popAt (pv 3) (pa_cons (C8.pe_c c__law_draw hr (Nat.le_refl _) (by rfl) (pa_cons (pv 0) (pa_cons (pe_callB call_len_seq (by rfl) T.b_len (by decide +kernel) (pa_cons (pv 3) pa_nil)) pa_nil))) pa_nil)) pa_nil)))))
    (pss_one (ps_ret (pv 4))))), ?_⟩
  refine ⟨_, rfl, l, _, rfl, .inl hl, fun left hleft => ?_⟩
  have e1 := same_new hleft (.lst xs)
  refine ⟨(by show 0 ≤ sizeLine; decide), fun fnd hfnd => ?_⟩
  have e2 := same_new hfnd (.lst [])
  have nlf : left ≠ fnd := ne_of_none upd_same hfnd
  obtain ⟨cells, tt, rr, hp, hcc, _⟩ := id W
  have npl : p ≠ left := ne_of_none hp hleft
  have npf : p ≠ fnd := ne_of_none (e1 _ _ hp) hfnd
  refine ⟨_, _, rfl, ?_⟩
  refine ⟨_, rfl, l, _, rfl, .inl ((e1.trans e2).seq hl), _, rfl, by omega, by omega, ?_⟩
  refine for_range (lo := 0) (n := ((xs.length : Nat) : Int).toNat) (fun i σ' H' => ∃ (x4 : Option V) (L F : List V), σ' = [some (.ref p), some (.ref l), x4, some (.ref left), some (.ref fnd)] ∧ H' left = some (.lst L) ∧ H' fnd = some (.lst F) ∧ L.length + i = xs.length ∧ F.length = i ∧ (F ++ L).Perm xs ∧ (∀ b o, H b = some o → b ≠ p → H' b = some o) ∧ Well H' p c (n + L.length)) ?_ ?_ ?_
  · refine ⟨_, xs, [], rfl, e2 _ _ upd_same, upd_same, rfl, rfl, List.Perm.refl _, fun b o hb _ => e2 _ _ (e1 _ _ hb), (W.same e1).same e2⟩
  · rintro i σ' H1 hi ⟨x4, L, F, rfl, hL, hF, len, lenF, pm, kp, W1⟩
    have Lpos : 0 < L.length := by omega
    obtain ⟨m, em⟩ : ∃ m, L.length = m + 1 := ⟨L.length - 1, by omega⟩
    refine ⟨_, rfl, .inl ⟨rfl, _, SqL.of hF⟩, _, rfl, .inl ⟨rfl, _, SqL.of hL⟩, _, rfl, _, rfl, left, L, rfl, .inl (SqL.of hL), ?_⟩
    refine ⟨p, c, n + m, _, rfl, by rw [em] at W1; exact W1, by omega, by omega, fun z H2 z0 z1 k2 W2 => ?_⟩
    have hL2 := k2 _ _ hL npl.symm
    have hF2 := k2 _ _ hF npf.symm
    have zl : z.toNat < L.length := by omega
    refine ⟨left, L, z, z.toNat, L[z.toNat], rfl, rfl, hL2, by omega, by omega, seq_at z0 z1, List.getElem?_eq_getElem zl, ?_⟩
    have hF3 : (upd H2 left (.lst (L.eraseIdx z.toNat))) fnd = some (.lst F) := by
      rw [upd_ne nlf.symm]
      exact hF2
    refine ⟨fnd, F, _, rfl, rfl, hF3, Nat.lt_of_lt_of_le (by omega : F.length < 1001) (by decide), ?_⟩
    refine ⟨_, L.eraseIdx z.toNat, F ++ [L[z.toNat]], rfl, ?_, upd_same, ?_, ?_, ?_, ?_, ?_⟩
    · rw [upd_ne nlf, upd_same]
    · rw [List.length_eraseIdx_of_lt zl]
      omega
    · rw [List.length_append, lenF]
      rfl
    · refine List.Perm.trans ?_ pm
      rw [List.append_assoc]
      exact List.Perm.append_left F (perm_erase zl)
    · intro b o hb nb
      have h1 := k2 _ _ (kp b o hb nb) nb
      rw [upd_ne (ne_of_none (e1 _ _ hb) hfnd), upd_ne (ne_of_none hb hleft)]
      exact h1
    · have : n + (L.eraseIdx z.toNat).length = n + m := by rw [List.length_eraseIdx_of_lt zl]; omega
      rw [this]
      exact (W2.upd npl (ne_of_none hcc hleft)).upd npf (ne_of_none (e1 _ _ hcc) hfnd)
  · rintro σ' H1 ⟨x4, L, F, rfl, hL, hF, len, lenF, pm, kp, W1⟩
    have : L = [] := List.eq_nil_of_length_eq_zero (by omega)
    subst this
    rw [List.append_nil] at pm
    refine ⟨_, rfl, q fnd F H1 pm kp (W1.less (by simp)) hF ?_ npf.symm⟩
    exact e1.free hfnd
theorem ok__law_made {k : Nat} {C CS : Addr} (T : Txt K mg) (D : DefB K mg "_law_made" s__law_made P__law_made) (m_Scheme : C8.Mak P w K mg base k "Scheme" CS (spSchI K CS) []) (m_Reading : C8.Mak P w K mg base k "Reading" C (spReadI K C CS) []) : C8.Cal P w K mg base (k + 2) "_law_made" (spMade K C CS) [] := by
  refine calB D sc__law_made (fun vs H Q E h => ?_) (fun f cdv A outer s H vs Q E hr h => ?_)
  · obtain ⟨wq, p, k, ns, O, rfl, _⟩ := h
    rfl
  obtain ⟨wq, p, kk, ns, O, rfl, ⟨pl, ol, hw, hp, ho⟩, sok, oo, q⟩ := h
  refine ⟨_, (pss_one (ps_ret (C8.pe_mk m_Reading hr (Nat.le_refl _) (by rfl) (pa_cons (C8.pe_mk m_Scheme hr (Nat.le_refl _) (by rfl) (pa_cons (pe_ix ix_tup (pv 0) pe_int (fun _ _ => rfl)) (pa_cons (pe_ix ix_tup (pv 0) pe_int (fun _ _ => rfl)) (pa_cons (pe_ix ix_tup (pv 0) pe_int (fun _ _ => rfl)) pa_nil)))) (pa_cons (pe_ix ix_tup (pv 0) pe_int (fun _ _ => rfl)) pa_nil))))), ?_⟩
  have tw := SqT.of (K := K) hw
  refine ⟨_, rfl, wq, _, 0, _, rfl, rfl, tw, rfl, _, rfl, wq, _, 1, _, rfl, rfl, tw, rfl, _, rfl, wq, _, 2, _, rfl, rfl, tw, rfl, ?_⟩
  intro sa dsa hsa hdsa nes
  have e0 := make_same0 (C := CS) hsa hdsa
  dsimp only [tNil, List.cons_append, List.nil_append, List.append_nil]
  refine ⟨sa, dsa, pl, p, kk, ns, rfl, upd_same, .inl (e0.seq hp), sok, fun H1 k1 s1 => ⟨rfl, ?_⟩⟩
  have e1 := make_same hsa hdsa nes k1
  refine ⟨_, rfl, wq, _, 3, _, rfl, rfl, same_seqT e1 tw, rfl, ?_⟩
  intro a da ha hda nea
  have e2 := make_same0 (C := C) ha hda
  dsimp only [tNil, List.cons_append, List.nil_append, List.append_nil]
  obtain ⟨ds, tq, hs1, _⟩ := id s1
  refine ⟨a, da, sa, .ref ol, p, kk, ns, O, rfl, upd_same, ne_of_none hs1 ha, s1.same e2, sok, ho.same (e1.trans e2), oo, fun H2 O' k2 so r2 => ⟨rfl, ?_⟩⟩
  exact q a sa O' H2 (e1.trans (make_same ha hda nea k2)) so r2
end
end My


set_option Elab.async false
set_option linter.all false
set_option maxRecDepth 100000
set_option maxHeartbeats 2000000
namespace My
open PySem PySem.Spec PyProof.Rows L2
theorem mem_up0 {p z : Int} (h : z ∈ (List.range p.toNat).map fun i => ((i : Nat) : Int)) : 0 ≤ z ∧ z < p := by
  obtain ⟨i, hi, rfl⟩ := List.mem_map.mp h
  have := List.mem_range.mp hi
  omega
theorem nodup_up0 (p : Int) : ((List.range p.toNat).map fun i => ((i : Nat) : Int)).Nodup := by
  refine List.Pairwise.map _ (fun a b h => ?_) (List.nodup_range (n := p.toNat))
  omega
theorem len_up0 (p : Int) : ((List.range p.toNat).map fun i => ((i : Nat) : Int)).length = p.toNat := by rw [List.length_map, List.length_range]
theorem rgV_up0 (p : Int) : rgV 0 p = ((List.range p.toNat).map fun i => ((i : Nat) : Int)).map V.int := by
  unfold rgV
  rw [List.map_map, show (p - 0).toNat = p.toNat by congr 1; omega]
  refine List.map_congr_left fun i _ => ?_
  show V.int (0 + (i : Int)) = V.int (i : Int)
  rw [Int.zero_add]
def intOf (v : V) : Int := match v with
  | .int i => i
  | _ => 0
theorem perm_ints {p : Int} {ys : List V} (h : ys.Perm (rgV 0 p)) : ∃ zs : List Int, ys = zs.map V.int ∧ zs.Perm ((List.range p.toNat).map fun i => ((i : Nat) : Int)) := by
  rw [rgV_up0] at h
  refine ⟨ys.map intOf, ?_, ?_⟩
  · rw [List.map_map]
    have : ∀ y ∈ ys, (V.int ∘ intOf) y = y := fun y m => by
      obtain ⟨z, _, rfl⟩ := List.mem_map.mp (h.mem_iff.mp m)
      rfl
    exact (List.map_id ys).symm.trans (List.map_congr_left fun y m => (this y m).symm)
  · have e := h.map intOf
    rw [List.map_map] at e
    have e2 : ((List.range p.toNat).map fun i => ((i : Nat) : Int)).map (intOf ∘ V.int) = (List.range p.toNat).map fun i => ((i : Nat) : Int) := by
      refine (List.map_congr_left fun y m => ?_).trans (List.map_id _)
      rfl
    rw [e2] at e
    exact e
theorem cut_take {xs : List V} {i : Int} (h : 0 ≤ i) : cutV xs none (some i) = xs.take i.toNat := by
  unfold cutV
  rw [HT.sIx_none, List.drop_zero, Nat.sub_zero]
  have e : ((i.toNat : Nat) : Int) = i := by omega
  rw [← e, HT.sIx_nat, Int.toNat_natCast]
  rcases Nat.le_total i.toNat xs.length with h | h
  · rw [Nat.min_eq_left h]
  · rw [Nat.min_eq_right h, List.take_length, List.take_of_length_le h]
/-- all of H but what stands at these is kept -/
def KeepA (A : List Addr) (H H' : Hp) : Prop := ∀ b o, H b = some o → b ∉ A → H' b = some o
theorem KeepA.refl {A : List Addr} {H : Hp} : KeepA A H H := fun _ _ h _ => h
theorem KeepA.of {A : List Addr} {H H' : Hp} (e : Same H H') : KeepA A H H' := fun _ _ h _ => e _ _ h
theorem KeepA.trans {A : List Addr} {H H1 H2 : Hp} (a : KeepA A H H1) (b : KeepA A H1 H2) : KeepA A H H2 := fun c o h n => b c o (a c o h n) n
def PrA (A : List Addr) (H : Hp) (v : V) (q : Int × Int) : Prop := ∃ t, v = .ref t ∧ t ∉ A ∧ H t = some (.tup [.int q.1, .int q.2])
def RowA (A : List Addr) (H : Hp) (v : V) (o : List (Int × Int)) : Prop := ∃ l ts, v = .ref l ∧ l ∉ A ∧ H l = some (.lst ts) ∧ Each (PrA A H) ts o
theorem PrA.keep {A : List Addr} {H H' : Hp} {v : V} {q : Int × Int} (k : KeepA A H H') (h : PrA A H v q) : PrA A H' v q := let ⟨t, e, n, h⟩ := h; ⟨t, e, n, k _ _ h n⟩
theorem RowA.keep {A : List Addr} {H H' : Hp} {v : V} {o : List (Int × Int)} (k : KeepA A H H') (h : RowA A H v o) : RowA A H' v o := let ⟨t, ts, e, n, h, p⟩ := h; ⟨t, ts, e, n, k _ _ h n, p.imp fun _ _ => PrA.keep k⟩
theorem RowA.row {A : List Addr} {K : PySem.W.Frag} {H : Hp} {v : V} {o : List (Int × Int)} (h : RowA A H v o) : RowIn K H v o := let ⟨t, ts, e, _, h, p⟩ := h; ⟨t, ts, e, .inl (SqL.of h), p.imp fun _ _ ⟨u, e, _, h⟩ => ⟨u, e, SqT.of h⟩⟩
def spWorld (K : PySem.W.Frag) : Sp := fun vs H Q _ => ∃ (pen c : Addr) (n : Nat), vs = [.ref pen] ∧ Well H pen c (n + 400) ∧
  ∀ (wq : Addr) (p k : Int) (ns : List Int) (O : List (List (Int × Int))) (H' : Hp), Keep pen H H' → Well H' pen c n → WorldAt K H' wq p ns k O → SchOk p ns k → OfOk p ns.length O → Q (.ref wq) H'
section
variable {P : Program} {w : World} {K : PySem.W.Frag} {mg : Str → Option Value} {base : Heap}
theorem ok__law_world {k : Nat} (T : Txt K mg) (D : DefB K mg "_law_world" s__law_world P__law_world) (c__law_pick : C8.Cal P w K mg base k "_law_pick" (spOf K) []) (c__law_draw : C8.Cal P w K mg base k "_law_draw" spPail []) (c__law_mixed : C8.Cal P w K mg base k "_law_mixed" (spMixed K) []) : C8.Cal P w K mg base (k + 1) "_law_world" (spWorld K) [] := by
  refine calB D sc__law_world (fun vs H Q E h => ?_) (fun f cdv A outer s H vs Q E hr h => ?_)
  · obtain ⟨p, c, n, rfl, _⟩ := h
    rfl
  obtain ⟨pen, c, n, rfl, W, q⟩ := h
  refine ⟨_, (pss_cons (ps_set (i := 1) sc__law_world.nd rfl (Or.inl rfl) (C8.pe_c c__law_pick hr (Nat.le_refl _) (by rfl) (pa_cons (pv 0) (pa_cons (pe_lst (pa_cons pe_int (pa_cons pe_int (pa_cons pe_int (pa_cons pe_int (pa_cons pe_int (pa_cons pe_int (pa_cons pe_int (pa_cons pe_int pa_nil))))))))) pa_nil))))
    (pss_cons (ps_set (i := 2) sc__law_world.nd rfl (Or.inl rfl) (pe_op op_add pe_int (C8.pe_c c__law_draw hr (Nat.le_refl _) (by rfl) (pa_cons (pv 0) (pa_cons (pe_op op_sub (pe_callB (call_min2 rfl) (by rfl) T.b_min (by decide +kernel) (pa_cons (pv 1) (pa_cons pe_int pa_nil))) pe_int) pa_nil)))))
    (pss_cons (ps_set (i := 3) sc__law_world.nd rfl (Or.inl rfl) (pe_op op_add pe_int (C8.pe_c c__law_draw hr (Nat.le_refl _) (by rfl) (pa_cons (pv 0) (pa_cons (pe_op op_sub (pe_callB (call_min2 rfl) (by rfl) T.b_min (by decide +kernel) (pa_cons (pv 2) (pa_cons pe_int pa_nil))) pe_int) pa_nil)))))
    (pss_cons (ps_par3 (i := 5) (j := 6) (l := 7) (by rfl) sc__law_world.nd rfl rfl rfl (by decide) (by decide) (by decide) rfl rfl rfl (pa_cons (pe_slice sl_list (C8.pe_c c__law_mixed hr (Nat.le_refl _) (by rfl) (pa_cons (pv 0) (pa_cons (pe_listRg rfl (by rfl) T.b_list (prg_1 (by rfl) T.b_range (pv 1))) pa_nil))) po_none (po_some (pv 2))) (pa_cons pe_int (pa_cons (pe_lst pa_nil) pa_nil))) (by rfl))
    (pss_cons (ps_asg (pe_tup (pa_cons (C8.pe_c c__law_pick hr (Nat.le_refl _) (by rfl) (pa_cons (pv 0) (pa_cons (pe_lst (pa_cons pe_int (pa_cons pe_int (pa_cons pe_int (pa_cons pe_int (pa_cons pe_int pa_nil)))))) pa_nil))) (pa_cons (C8.pe_c c__law_pick hr (Nat.le_refl _) (by rfl) (pa_cons (pv 0) (pa_cons (pe_lst (pa_cons pe_int (pa_cons pe_int (pa_cons pe_int (pa_cons pe_int pa_nil))))) pa_nil))) pa_nil))) (pg_tup rfl (pgs_cons (pg_name (i := 8) sc__law_world.nd rfl (Or.inl rfl)) (pgs_cons (pg_name (i := 9) sc__law_world.nd rfl (Or.inr rfl)) pgs_nil))))
    (pss_cons (ps_for PassesOwn.never rfl (pi_list (pv 5)) (pg_name (i := 4) sc__law_world.nd rfl (Or.inl rfl))
      (pss_cons (ps_set (i := 10) sc__law_world.nd rfl (Or.inl rfl) (pe_slice sl_list (C8.pe_c c__law_mixed hr (Nat.le_refl _) (by rfl) (pa_cons (pv 0) (pa_cons (pe_listRg rfl (by rfl) T.b_list (prg_1 (by rfl) T.b_range (pe_callB (call_min2 rfl) (by rfl) T.b_min (by decide +kernel) (pa_cons (pv 1) (pa_cons pe_int pa_nil))))) pa_nil))) po_none (po_some (pe_callB (call_min2 rfl) (by rfl) T.b_min (by decide +kernel) (pa_cons (pv 6) (pa_cons (pe_ifExp (pt_cmpR op_gt (pv 8) pe_int (nomark _)) (C8.pe_c c__law_draw hr (Nat.le_refl _) (by rfl) (pa_cons (pv 0) (pa_cons (pe_op op_add (pv 8) pe_int) pa_nil))) (pv 8)) pa_nil))))))
    (pss_cons (ps_set (i := 6) sc__law_world.nd rfl (Or.inl rfl) (pe_op op_sub (pv 6) (pe_callB call_len_seq (by rfl) T.b_len (by decide +kernel) (pa_cons (pv 10) pa_nil))))
    (pss_one (ps_expr (pe_bm PySem.F.plainAttrs_list PySem.F.slot_list_append PySem.F.type_list_append mt_append (pv 7) (pa_cons (pe_lc (own := [("value", 11)]) (g := gName 11) (tt := tYes) rfl sc__law_world.nd (pi_list (pe_callB cr_sortedI (by rfl) T.b_sorted (by decide +kernel) (pa_cons (pv 10) pa_nil))) (blkOk_by (N := N__law_world) (sc := C8.fnScope s__law_world) (by decide +kernel)) (fun _ _ _ _ _ => (pg_name (i := 11) sc__law_world.nd rfl (Or.inl rfl))) (fun _ _ _ _ _ => pts_nil) (fun _ _ _ _ _ => (pe_tup (pa_cons (pv 11) (pa_cons (pe_op op_add pe_int (C8.pe_c c__law_draw hr (Nat.le_refl _) (by rfl) (pa_cons (pv 0) (pa_cons (pv 9) pa_nil)))) pa_nil))))) pa_nil)))))))
    (pss_one (ps_ret (pe_tup (pa_cons (pv 1) (pa_cons (pv 5) (pa_cons (pv 3) (pa_cons (pv 7) pa_nil))))))))))))), ?_⟩
  obtain ⟨cells, tt, rr, hp0, hc0, _⟩ := id W
  refine ⟨_, rfl, (by show 8 ≤ sizeLine; decide), fun l1 hl1 => ?_⟩
  refine ⟨pen, c, l1, n + 399, _, rfl, W.same (same_new hl1 _), SqL.of upd_same, (ne_of_none hp0 hl1).symm, (by show 0 < 8; decide), (by show 8 ≤ 1000; decide), fun v H1 hv kp1 W1 => ?_⟩
  obtain ⟨p, rfl, p3, p97, pr⟩ : ∃ p : Int, v = .int p ∧ 3 ≤ p ∧ p ≤ 97 ∧ isPr (.int p) = true := by
    simp only [List.mem_cons, List.not_mem_nil, or_false] at hv
    rcases hv with rfl | rfl | rfl | rfl | rfl | rfl | rfl | rfl <;> exact ⟨_, rfl, by decide, by decide, by decide⟩
  have k1 : Keep pen H H1 := (Keep.of (same_new hl1 _)).trans kp1
  obtain ⟨p16, ep16, c16a, c16b⟩ : ∃ p16 : Int, (if (16 : Int) < p then 16 else p) = p16 ∧ p16 ≤ 16 ∧ p16 ≤ p ∧ 3 ≤ p16 := ⟨_, rfl, by split <;> omega, by split <;> omega, by split <;> omega⟩
  refine ⟨_, rfl, _, rfl, _, _, rfl, _, _, rfl, rfl, ?_⟩
  rw [ep16]
  refine ⟨pen, c, n + 398, _, rfl, W1, by omega, by omega, fun z H2 z0 z1 kp2 W2 => ?_⟩
  obtain ⟨nn, enn, n2, n16⟩ : ∃ nn : Int, 2 + z = nn ∧ 2 ≤ nn ∧ nn ≤ p16 := ⟨_, rfl, by omega, by omega⟩
  refine ⟨_, _, rfl, rfl, ?_⟩
  dsimp only
  rw [enn]
  obtain ⟨n6, en6, c6a, c6b⟩ : ∃ n6 : Int, (if (6 : Int) < nn then 6 else nn) = n6 ∧ n6 ≤ 6 ∧ n6 ≤ nn ∧ 2 ≤ n6 := ⟨_, rfl, by split <;> omega, by split <;> omega, by split <;> omega⟩
  refine ⟨_, rfl, _, rfl, _, _, rfl, _, _, rfl, rfl, ?_⟩
  rw [en6]
  refine ⟨pen, c, n + 397, _, rfl, W2, by omega, by omega, fun z3 H3 z30 z31 kp3 W3 => ?_⟩
  obtain ⟨kk, ekk, kk2, kk6⟩ : ∃ kk : Int, 2 + z3 = kk ∧ 2 ≤ kk ∧ kk ≤ n6 := ⟨_, rfl, by omega, by omega⟩
  refine ⟨_, _, rfl, rfl, ?_⟩
  dsimp only
  rw [ekk]
  have k3 : Keep pen H H3 := (k1.trans kp2).trans kp3
  -- the places
  refine ⟨_, rfl, _, rfl, p, rfl, RgOk.of_le (by decide) (by omega) (by decide) (by omega), fun lr hlr => ?_⟩
  have e3 := same_new hlr (.lst (rgV 0 p))
  have hp3 : ∃ o, H3 pen = some o := by
    obtain ⟨_, _, _, h, _⟩ := id W3
    exact ⟨_, h⟩
  obtain ⟨op3, hop3⟩ := hp3
  have len0 : (rgV 0 p).length = p.toNat := by rw [rgV_length]; congr 1; omega
  refine ⟨pen, c, lr, n + 300, _, rfl, (W3.same e3).less (by rw [len0]; omega), SqL.of upd_same, by rw [len0]; omega, (ne_of_none hop3 hlr).symm, fun q1 ys H4 pm k4 W4 hq1 hq1n hq1p => ?_⟩
  refine ⟨_, rfl, nn, rfl, q1, ys, rfl, SqL.of hq1, fun q2 hq2 => ?_⟩
  obtain ⟨zs, rfl, pmz⟩ := perm_ints pm
  have zlen : zs.length = p.toNat := by rw [pmz.length_eq]; exact len_up0 p
  have ecut : cutV (zs.map V.int) none (some nn) = (zs.take nn.toNat).map V.int := by rw [cut_take (by omega), List.map_take]
  rw [ecut]
  have e4 := same_new hq2 (.lst ((zs.take nn.toNat).map V.int))
  have nsl : (zs.take nn.toNat).length = nn.toNat := by rw [List.length_take]; omega
  have nsd : (zs.take nn.toNat).Nodup := (List.take_sublist _ _).nodup (pmz.nodup_iff.mpr (nodup_up0 p))
  have nsb : ∀ z ∈ zs.take nn.toNat, 0 ≤ z ∧ z < p := fun z m => mem_up0 (pmz.mem_iff.mp (List.mem_of_mem_take m))
  generalize zs.take nn.toNat = ns at ecut e4 nsl nsd nsb ⊢
  have h5q : (upd H4 q2 (.lst (ns.map V.int))) q2 = some (.lst (ns.map V.int)) := upd_same
  have W5 : Well (upd H4 q2 (.lst (ns.map V.int))) pen c (n + 300) := W4.same e4
  have k5 : Keep pen H (upd H4 q2 (.lst (ns.map V.int))) := ((k3.trans (Keep.of e3)).trans k4).trans (Keep.of e4)
  have q2n : q2 ≠ pen := fun e => by
    subst e
    obtain ⟨_, _, _, h, _⟩ := id W4
    rw [h] at hq2
    cases hq2
  generalize (upd H4 q2 (.lst (ns.map V.int))) = H5 at h5q W5 k5 ⊢
  refine ⟨(by show 0 ≤ sizeLine; decide), fun ol hol => ?_⟩
  have e5 := same_new hol (.lst [])
  refine ⟨_, _, _, rfl, ?_⟩
  have W6 := W5.same e5
  have cno : c ≠ ol := by
    obtain ⟨_, _, _, _, h, _⟩ := id W5
    exact ne_of_none h hol
  have h6q := e5 _ _ h5q
  have h6o : (upd H5 ol (.lst [])) ol = some (.lst []) := upd_same
  have oln : ol ≠ pen := fun e => by
    subst e
    obtain ⟨_, _, _, h, _⟩ := id W5
    rw [h] at hol
    cases hol
  have k6 := k5.trans (Keep.of e5)
  have q2ol : q2 ≠ ol := ne_of_none h5q hol
  generalize (upd H5 ol (.lst [])) = H6 at W6 h6q h6o k6 ⊢
  -- how many, how heavy
  obtain ⟨op6, hop6⟩ : ∃ o, H6 pen = some o := by
    obtain ⟨_, _, _, h, _⟩ := id W6
    exact ⟨_, h⟩
  refine ⟨_, rfl, (by show 5 ≤ sizeLine; decide), fun l2 hl2 => ?_⟩
  refine ⟨pen, c, l2, n + 299, _, rfl, W6.same (same_new hl2 _), SqL.of upd_same, (ne_of_none hop6 hl2).symm, (by show 0 < 5; decide), (by show 5 ≤ 1000; decide), fun v7 H7 hv7 kp7 W7 => ?_⟩
  obtain ⟨most, rfl, mo1, mo3⟩ : ∃ m : Int, v7 = .int m ∧ 1 ≤ m ∧ m ≤ 3 := by
    simp only [List.mem_cons, List.not_mem_nil, or_false] at hv7
    rcases hv7 with rfl | rfl | rfl | rfl | rfl <;> exact ⟨_, rfl, by decide, by decide⟩
  have k7 : Keep pen H6 H7 := (Keep.of (same_new hl2 _)).trans kp7
  obtain ⟨op7, hop7⟩ : ∃ o, H7 pen = some o := by
    obtain ⟨_, _, _, h, _⟩ := id W7
    exact ⟨_, h⟩
  refine ⟨_, rfl, (by show 4 ≤ sizeLine; decide), fun l3 hl3 => ?_⟩
  refine ⟨pen, c, l3, n + 298, _, rfl, W7.same (same_new hl3 _), SqL.of upd_same, (ne_of_none hop7 hl3).symm, (by show 0 < 4; decide), (by show 4 ≤ 1000; decide), fun v8 H8 hv8 kp8 W8 => ?_⟩
  obtain ⟨heavy, rfl, he1, he3⟩ : ∃ m : Int, v8 = .int m ∧ 1 ≤ m ∧ m ≤ 3 := by
    simp only [List.mem_cons, List.not_mem_nil, or_false] at hv8
    rcases hv8 with rfl | rfl | rfl | rfl <;> exact ⟨_, rfl, by decide, by decide⟩
  have k8 : Keep pen H6 H8 := (k7.trans (Keep.of (same_new hl3 _))).trans kp8
  refine ⟨(by show 2 ≤ sizeLine; decide), fun T0 hT0 => ?_⟩
  have e8 := same_new hT0 (.tup [.int most, .int heavy])
  refine ⟨T0, _, rfl, SqT.of upd_same, rfl, _, _, rfl, _, _, rfl, rfl, ?_⟩
  have W9 := W8.same e8
  have k9 := k8.trans (Keep.of e8)
  generalize (upd H8 T0 (.tup [.int most, .int heavy])) = H9 at W9 k9 ⊢
  have h9q := k9 _ _ h6q q2n
  have h9o := k9 _ _ h6o oln
  have kB := k6.trans k9
  -- place by place
  refine ⟨_, rfl, q2, rfl, ⟨_, SqL.of h9q⟩, ?_⟩
  refine for_it (walk_list (K := K) (a := q2) (xs := ns.map V.int)) (fun i σ' H' => ∃ (x4 x10 : Option V) (O : List (List (Int × Int))) (rows : List V), σ' = [some (.ref pen), some (.int p), some (.int nn), some (.int kk), x4, some (.ref q2), some (.int (24 - O.flatten.length)), some (.ref ol), some (.int most), some (.int heavy), x10, none] ∧
    H' ol = some (.lst rows) ∧ Each (RowA [pen, ol] H') rows O ∧ O.length = i ∧ (∀ o ∈ O, ∀ q ∈ o, PrOk p q) ∧ (∀ o ∈ O, (o.map Prod.fst).Nodup) ∧ O.flatten.length ≤ 24 ∧ KeepA [pen, ol] H9 H' ∧ Well H' pen c (n + 13 * (20 - i))) ⟨_, _, [], [], rfl, h9o, Each.nil, rfl, by simp, by simp, by simp, KeepA.refl, W9.less (by omega)⟩ ?_ ?_ ?_
  · rintro i σ' H' hi ⟨x4, x10, O, rows, rfl, h1, h2, h3, h4, h5, h6, h7, h8⟩
    exact SqL.of (h7 _ _ h9q (by simp [q2n, q2ol]))
  · rintro i x σ' H10z H10 hi ⟨x4, x10, O, rows, rfl, ho, ea, li, okO, ndO, fewO, kA, W10⟩ ⟨rfl, hx⟩
    rw [List.length_map] at hi
    have i16 : i < 16 := by omega
    obtain ⟨w, ew⟩ : ∃ w, 20 - i = w + 1 := ⟨20 - i - 1, by omega⟩
    rw [ew] at W10
    obtain ⟨p6, ep6, p6a, p6b⟩ : ∃ p6 : Int, (if (6 : Int) < p then 6 else p) = p6 ∧ p6 ≤ 6 ∧ p6 ≤ p ∧ 3 ≤ p6 := ⟨_, rfl, by split <;> omega, by split <;> omega, by split <;> omega⟩
    refine ⟨_, rfl, _, rfl, _, _, rfl, _, rfl, ?_⟩
    rw [ep6]
    refine ⟨RgOk.of_le (by decide) (by omega) (by decide) (by omega), fun lr hlr => ?_⟩
    have e11 := same_new hlr (.lst (rgV 0 p6))
    obtain ⟨op10, hop10⟩ : ∃ o, H10 pen = some o := by
      obtain ⟨_, _, _, h, _⟩ := id W10
      exact ⟨_, h⟩
    have len6 : (rgV 0 p6).length = p6.toNat := by rw [rgV_length]; congr 1; omega
    refine ⟨pen, c, lr, n + 13 * w + 7, _, rfl, (W10.same e11).less (by rw [len6]; omega), SqL.of upd_same, by rw [len6]; omega, (ne_of_none hop10 hlr).symm, fun qv yv H11 pm11 k11 W11 hqv hqvn hqvp => ?_⟩
    have k11 : Keep pen H10 H11 := (Keep.of e11).trans k11
    have ifx : ∀ Q : VK, (∀ (x : Int) (H12 : Hp), 0 ≤ x → x ≤ 3 → Keep pen H11 H12 → Well H12 pen c (n + 13 * w + 6) → Q (.int x) H12) → tIf (tTest (tOp (rI0 fun i j => V.bl (decide (j < i))) (tVar 8) (tC (V.int 1)))) (tCall spPail [] C8.E0 (tCons (tVar 0) (tCons (tOp (rI0 fun i j => V.int (i + j)) (tVar 8) (tC (V.int 1))) tNil))) (tVar 8) ([some (.ref pen), some (.int p), some (.int nn), some (.int kk), some x, some (.ref q2), some (.int (24 - O.flatten.length)), some (.ref ol), some (.int most), some (.int heavy), x10, none] : L2.St) H11 Q := fun Q hQ => by
      refine ⟨_, rfl, _, _, rfl, rfl, _, rfl, ?_⟩
      refine ite2 (fun c1 => ?_) (fun c1 => ?_)
      · refine ⟨_, rfl, _, rfl, _, _, rfl, rfl, ?_⟩
        exact ⟨pen, c, n + 13 * w + 6, _, rfl, W11, by omega, by omega, fun z H12 z0 z1 k12 W12 => hQ z H12 z0 (by omega) k12 W12⟩
      · exact ⟨_, rfl, hQ most H11 (by omega) mo3 Keep.refl (W11.less (by omega))⟩
    refine ⟨_, rfl, ifx _ fun xq H12 x0 x3 k12 W12 => ?_⟩
    obtain ⟨lim, elim, lim0, lim3, limf⟩ : ∃ lim : Int, (if xq < 24 - ((O.flatten.length : Nat) : Int) then xq else 24 - ((O.flatten.length : Nat) : Int)) = lim ∧ 0 ≤ lim ∧ lim ≤ 3 ∧ lim ≤ 24 - ((O.flatten.length : Nat) : Int) := ⟨_, rfl, by split <;> omega, by split <;> omega, by split <;> omega⟩
    refine ⟨_, _, rfl, ?_⟩
    rw [elim]
    have hqv12 := k12 _ _ hqv hqvp
    refine ⟨_, rfl, qv, yv, rfl, SqL.of hqv12, fun vl hvl => ?_⟩
    obtain ⟨zs2, rfl, pmv⟩ := perm_ints pm11
    have ecut2 : cutV (zs2.map V.int) none (some lim) = (zs2.take lim.toNat).map V.int := by rw [cut_take lim0, List.map_take]
    rw [ecut2]
    have vsl : (zs2.take lim.toNat).length ≤ lim.toNat := by rw [List.length_take]; omega
    have vsd : (zs2.take lim.toNat).Nodup := (List.take_sublist _ _).nodup (pmv.nodup_iff.mpr (nodup_up0 p6))
    have vsb : ∀ z ∈ zs2.take lim.toNat, 0 ≤ z ∧ z < p := fun z m => by
      have := mem_up0 (pmv.mem_iff.mp (List.mem_of_mem_take m))
      omega
    generalize zs2.take lim.toNat = vals at ecut2 vsl vsd vsb ⊢
    have e13 := same_new hvl (.lst (vals.map V.int))
    have W13 := W12.same e13
    have h13 : (upd H12 vl (.lst (vals.map V.int))) vl = some (.lst (vals.map V.int)) := upd_same
    have k13 : Keep pen H10 (upd H12 vl (.lst (vals.map V.int))) := (k11.trans k12).trans (Keep.of e13)
    generalize (upd H12 vl (.lst (vals.map V.int))) = H13 at e13 W13 h13 k13 ⊢
    refine ⟨_, rfl, _, rfl, vl, _, rfl, .inl (SqL.of h13), _, _, rfl, rfl, ?_⟩
    have h13o := k13 _ _ ho oln
    refine ⟨_, rfl, .inl ⟨rfl, _, SqL.of h13o⟩, _, rfl, vl, vals, rfl, SqL.of h13, fun ns' ps pms srt hps => ?_⟩
    have e14 := same_new hps (.lst (ns'.map V.int))
    have h14 : (upd H13 ps (.lst (ns'.map V.int))) ps = some (.lst (ns'.map V.int)) := upd_same
    have W14 := W13.same e14
    have h14o := e14 _ _ h13o
    have k14 := k13.trans (Keep.of e14)
    have psn : ps ≠ pen := fun e => by
      subst e
      obtain ⟨_, _, _, h, _⟩ := id W13
      rw [h] at hps
      cases hps
    have pso : ps ≠ ol := (ne_of_none h13o hps).symm
    generalize (upd H13 ps (.lst (ns'.map V.int))) = H14 at h14 W14 h14o k14 ⊢
    refine ⟨ps, rfl, ⟨_, SqL.of h14⟩, fun D hD => ?_⟩
    obtain ⟨op14, hop14⟩ : ∃ o, H14 pen = some o := by
      obtain ⟨_, _, _, h, _⟩ := id W14
      exact ⟨_, h⟩
    have hcc14 : ∃ o, H14 c = some o := by
      obtain ⟨_, _, _, _, h, _⟩ := id W14
      exact ⟨_, h⟩
    obtain ⟨oc14, hoc14⟩ := hcc14
    have Dn : D ≠ pen := (ne_of_none hop14 hD).symm
    have Do : D ≠ ol := (ne_of_none h14o hD).symm
    have Dc : D ≠ c := (ne_of_none hoc14 hD).symm
    have Dps : D ≠ ps := (ne_of_none h14 hD).symm
    have nsl2 : ns'.length = vals.length := pms.length_eq
    refine lc_it (walk_list (K := K) (a := ps) (xs := ns'.map V.int)) (fun j H => ∃ (acc : List V) (o : List (Int × Int)), H D = some (.lst acc) ∧ acc.length = j ∧ o.map Prod.fst = ns'.take j ∧ (∀ q ∈ o, 1 ≤ q.2 ∧ q.2 ≤ 3) ∧ Each (PrA [pen, ol, D] H) acc o ∧ KeepA [pen, D] H14 H ∧ Well H pen c (n + 13 * w + (6 - j))) ⟨[], [], upd_same, rfl, rfl, by simp, Each.nil, fun b o hb nb => ?_, (W14.upd Dn.symm Dc.symm).less (by omega)⟩ ?_ ?_ ?_
    · rw [upd_ne (fun e => nb (by simp [e]))]
      exact hb
    · rintro j H _ ⟨acc, o, h1, h2, h3, h4, h5, h6, h7⟩
      exact SqL.of (h6 _ _ h14 (by simp [psn, Dps.symm]))
    · rintro j xv H15z H15 hj ⟨acc, o, hD15, la, fo, wo, eo, kA15, W15⟩ ⟨rfl, hxv⟩
      rw [List.length_map] at hj
      rw [List.getElem?_map] at hxv
      obtain ⟨v, hv, rfl⟩ := Option.map_eq_some_iff.mp hxv
      obtain ⟨r, er⟩ : ∃ r, 6 - j = r + 1 := ⟨6 - j - 1, by omega⟩
      rw [er] at W15
      refine ⟨rfl, _, rfl, _, rfl, _, rfl, pen, c, n + 13 * w + r, heavy, rfl, W15, by omega, by omega, fun z H16 z0 z1 k16 W16 => ?_⟩
      refine ⟨_, _, rfl, rfl, (by show 2 ≤ sizeLine; decide), fun T1 hT1 => ?_⟩
      have hD16 := k16 _ _ hD15 Dn
      have e17 := same_new hT1 (.tup [.int v, .int (1 + z)])
      refine ⟨acc, e17 _ _ hD16, Nat.lt_of_lt_of_le (by omega : acc.length < 1000) (by decide), acc ++ [.ref T1], o ++ [(v, 1 + z)], upd_same, by rw [List.length_append, la]; rfl, by rw [List.map_append, fo, take_snoc hv]; rfl, fun q hq => ?_, ?_, ?_, ?_⟩
      · rcases List.mem_append.mp hq with h | h
        · exact wo q h
        · rw [List.mem_singleton.mp h]
          show 1 ≤ 1 + z ∧ 1 + z ≤ 3
          omega
      · obtain ⟨op16, hop16⟩ : ∃ o, H16 pen = some o := by
          obtain ⟨_, _, _, h, _⟩ := id W16
          exact ⟨_, h⟩
        have h16o : H16 ol = some (.lst rows) := k16 _ _ (kA15 _ _ h14o (by simp [oln, Do.symm])) oln
        refine (eo.imp fun _ _ h => PrA.keep (H' := upd (upd H16 T1 (.tup [.int v, .int (1 + z)])) D (.lst (acc ++ [.ref T1]))) (fun b u hb nb => ?_) h).snoc ⟨T1, rfl, ?_, ?_⟩
        · simp only [List.mem_cons, List.not_mem_nil, or_false, not_or] at nb
          rw [upd_ne nb.2.2]
          exact e17 _ _ (k16 _ _ hb nb.1)
        · simp only [List.mem_cons, List.not_mem_nil, or_false, not_or]
          exact ⟨(ne_of_none hop16 hT1).symm, (ne_of_none h16o hT1).symm, (ne_of_none hD16 hT1).symm⟩
        · rw [upd_ne (ne_of_none hD16 hT1).symm]
          exact upd_same
      · intro b u hb nb
        have nb' := nb
        simp only [List.mem_cons, List.not_mem_nil, or_false, not_or] at nb'
        rw [upd_ne nb'.2]
        exact e17 _ _ (k16 _ _ (kA15 b u hb nb) nb'.1)
      · have : 6 - (j + 1) = r := by omega
        rw [this]
        exact (W16.same e17).upd Dn.symm Dc.symm
    · rintro H15 ⟨acc, o, hD15, la, fo, wo, eo, kA15, W15⟩
      rw [List.length_map] at la fo
      rw [List.take_length] at fo
      have h15o : H15 ol = some (.lst rows) := kA15 _ _ h14o (by simp [oln, Do.symm])
      have lo : o.length = vals.length := by rw [← nsl2, ← fo, List.length_map]
      refine ⟨ol, rows, .ref D, rfl, rfl, h15o, Nat.lt_of_lt_of_le (by rw [ea.1, li]; omega : rows.length < 1000) (by decide), ?_⟩
      have eL : (24 : Int) - (((O ++ [o]).flatten.length : Nat) : Int) = 24 - ((O.flatten.length : Nat) : Int) - (((vals.map V.int).length : Nat) : Int) := by
        rw [List.flatten_append, List.length_append, List.length_map]
        simp only [List.flatten_cons, List.flatten_nil, List.append_nil]
        omega
      have fl : (O ++ [o]).flatten.length ≤ 24 := by
        rw [List.flatten_append, List.length_append]
        simp only [List.flatten_cons, List.flatten_nil, List.append_nil]
        omega
      have kU : KeepA [pen, ol] H10 (upd H15 ol (.lst (rows ++ [.ref D]))) := fun b u hb nb => by
        simp only [List.mem_cons, List.not_mem_nil, or_false, not_or] at nb
        rw [upd_ne nb.2]
        refine kA15 _ _ (k14 _ _ hb nb.1) ?_
        have h14b := k14 _ _ hb nb.1
        simp [nb.1, (ne_of_none h14b hD)]
      refine ⟨some x, some (.ref vl), O ++ [o], rows ++ [.ref D], by rw [eL]; rfl, upd_same, ?_, by rw [List.length_append, li]; rfl, fun o1 m1 => ?_, fun o1 m1 => ?_, fl, kA.trans kU, ?_⟩
      · refine (ea.imp fun _ _ h => h.keep kU).snoc ⟨D, acc, rfl, by simp [Dn, Do], by rw [upd_ne Do]; exact hD15, eo.imp fun _ _ h => ?_⟩
        obtain ⟨t, e, nt, ht⟩ := h
        simp only [List.mem_cons, List.not_mem_nil, or_false, not_or] at nt
        exact ⟨t, e, by simp [nt.1, nt.2.1], by rw [upd_ne nt.2.1]; exact ht⟩
      · rcases List.mem_append.mp m1 with h | h
        · exact okO o1 h
        · rw [List.mem_singleton.mp h]
          intro q hq
          have m2 : q.1 ∈ ns' := by
            rw [← fo]
            exact List.mem_map_of_mem hq
          have b1 := vsb _ (pms.mem_iff.mp m2)
          have b2 := wo q hq
          exact ⟨b1.1, b1.2, b2.1, b2.2⟩
      · rcases List.mem_append.mp m1 with h | h
        · exact ndO o1 h
        · rw [List.mem_singleton.mp h, fo]
          exact pms.nodup_iff.mpr vsd
      · have : 20 - (i + 1) = w := by omega
        rw [this]
        exact (W15.less (by omega)).upd oln.symm cno
  · rintro σ' H' ⟨x4, x10, O, rows, rfl, ho, ea, li, okO, ndO, fewO, kA, W10⟩
    rw [List.length_map] at li
    refine ⟨_, rfl, _, rfl, _, rfl, _, rfl, (by show 4 ≤ sizeLine; decide), fun wq hwq => ?_⟩
    have e12 := same_new hwq (.tup [.int p, .ref q2, .int kk, .ref ol])
    have h9q2 := kA _ _ h9q (by simp [q2n, q2ol])
    refine q wq p kk ns O _ ?_ ((W10.same e12).less (by omega)) ⟨q2, ol, upd_same, SqL.of (e12 _ _ h9q2), ol, rows, rfl, .inl (SqL.of (e12 _ _ ho)), ea.imp fun _ _ h => (h.keep (KeepA.of e12)).row⟩ ⟨pr, nsb, by omega, by omega, nsd, kk2, by omega, by omega⟩ ⟨li, okO, ndO, fewO⟩
    refine Keep.trans ?_ (Keep.of e12)
    intro b o hb nb
    exact kA b o (kB b o hb nb) (by simp [nb, (show b ≠ ol from ne_of_none (k5 b o hb nb) hol)])
end
end My


set_option Elab.async false
set_option linter.all false
set_option maxRecDepth 100000
set_option maxHeartbeats 2000000
namespace My
open PySem PySem.Spec PyProof.Rows L2
structure WoOk (K : PySem.W.Frag) (H : Hp) (wq : Addr) (p : Int) (ns : List Int) (k : Int) (O : List (List (Int × Int))) : Prop where
  at_ : WorldAt K H wq p ns k O
  k2 : 2 ≤ k
  k6 : k ≤ 6
  l16 : O.length ≤ 16
  wb : ∀ w ∈ wts O, 1 ≤ w ∧ w ≤ 3
  few : O.flatten.length ≤ 24
theorem WoOk.same {K : PySem.W.Frag} {H H' : Hp} {wq : Addr} {p k : Int} {ns : List Int} {O : List (List (Int × Int))} (e : Same H H') (h : WoOk K H wq p ns k O) : WoOk K H' wq p ns k O := ⟨h.at_.same e, h.k2, h.k6, h.l16, h.wb, h.few⟩
theorem wts_len (O : List (List (Int × Int))) : (wts O).length = O.flatten.length := by unfold wts; rw [flat_snd, List.length_map]
def spSums (K : PySem.W.Frag) : Sp := fun vs H Q _ => ∃ (wq : Addr) (p k : Int) (ns : List Int) (O : List (List (Int × Int))), vs = [.ref wq] ∧ WoOk K H wq p ns k O ∧ ∀ (q : Addr) (H' : Hp), Same H H' → H' q = some (.tup [.int (wts O).sum, .int (sqs (wts O)).sum]) → Q (.ref q) H'
def spBound (K : PySem.W.Frag) (C CS : Addr) : Sp := fun vs H Q _ => ∃ (wq a sa : Addr) (p k t : Int) (ns : List Int) (O O' : List (List (Int × Int))), vs = [.ref wq, .ref a, .int t] ∧ WoOk K H wq p ns k O ∧ RdOk K H a C CS sa p ns k O' ∧ (wts O').sum = (wts O).sum ∧ (sqs (wts O')).sum = (sqs (wts O)).sum ∧ 1 ≤ t ∧ t ≤ 40 ∧
  ∀ (q : Addr) (b : Bool) (H' : Hp), Same H H' → H' q = some (.tup [.bl true, .bl b]) → (b = true → ∃ m, 1 ≤ m ∧ okM k (wts O') t m) → (t = 40 → b = true) → Q (.ref q) H'
theorem pre_take {α : Type} (ys : List (List α)) (i : Nat) : pre ys i 0 = (ys.take i).flatten := by simp [pre]
section
variable {P : Program} {w : World} {K : PySem.W.Frag} {mg : Str → Option Value} {base : Heap}
theorem ok__law_sums {k : Nat} (T : Txt K mg) (D : DefB K mg "_law_sums" s__law_sums P__law_sums) : C8.Cal P w K mg base (k + 1) "_law_sums" (spSums K) [] := by
  refine calB D sc__law_sums (fun vs H Q E h => ?_) (fun f cdv A outer s H vs Q E hr h => ?_)
  · obtain ⟨wq, p, k, ns, O, rfl, _⟩ := h
    rfl
  obtain ⟨wq, p, kk, ns, O, rfl, wo, q⟩ := h
  obtain ⟨pl, ol, hw, hp, l, rs, el, hl, er⟩ := wo.at_
  cases el
  refine ⟨_, (pss_cons (ps_set (i := 1) sc__law_sums.nd rfl (Or.inl rfl) (pe_lst pa_nil))
    (pss_cons (ps_for PassesOwn.never rfl (pi_X (pe_ix ix_tup (pv 0) pe_int (fun _ _ => rfl))) (pg_name (i := 2) sc__law_sums.nd rfl (Or.inl rfl))
      (pss_one (ps_expr (pe_bm PySem.F.plainAttrs_list PySem.F.slot_list_extend PySem.F.type_list_extend mt_extend (pv 1) (pa_cons (pe_lc (own := [("value", 4), ("weight", 3)]) (g := gTup K 2 _) (tt := tYes) rfl sc__law_sums.nd (pi_X (pv 2)) (blkOk_by (N := N__law_sums) (sc := C8.fnScope s__law_sums) (by decide +kernel)) (fun _ _ _ _ _ => (pg_tup rfl (pgs_cons (pg_name (i := 4) sc__law_sums.nd rfl (Or.inl rfl)) (pgs_cons (pg_name (i := 3) sc__law_sums.nd rfl (Or.inl rfl)) pgs_nil)))) (fun _ _ _ _ _ => pts_nil) (fun _ _ _ _ _ => (pv 3))) pa_nil)))))
    (pss_one (ps_ret (pe_tup (pa_cons (pe_callB (cr_sum rfl) (by rfl) T.b_sum (by decide +kernel) (pa_cons (pv 1) pa_nil)) (pa_cons (pe_callB (cr_sum rfl) (by rfl) T.b_sum (by decide +kernel) (pa_cons (pe_lc (own := [("weight", 3)]) (g := gName 3) (tt := tYes) rfl sc__law_sums.nd (pi_list (pv 1)) (blkOk_by (N := N__law_sums) (sc := C8.fnScope s__law_sums) (by decide +kernel)) (fun _ _ _ _ _ => (pg_name (i := 3) sc__law_sums.nd rfl (Or.inl rfl))) (fun _ _ _ _ _ => pts_nil) (fun _ _ _ _ _ => (pe_op op_mul (pv 3) (pv 3)))) pa_nil)) pa_nil))))))), ?_⟩
  have few := wo.few
  have wl := wts_len O
  refine ⟨(by show 0 ≤ sizeLine; decide), fun wa hwa => ?_⟩
  have e1 := same_new hwa (.lst [])
  have Wl : (O.map fun o => o.map Prod.snd).length = rs.length := by rw [List.length_map, er.1]
  have lpre : ∀ i, (pre (O.map fun o => o.map Prod.snd) i 0).length ≤ 24 := fun i => by
    have e := congrArg List.length (show (O.map fun o => o.map Prod.snd).flatten = ((O.map fun o => o.map Prod.snd).take i).flatten ++ ((O.map fun o => o.map Prod.snd).drop i).flatten by rw [← List.flatten_append, List.take_append_drop])
    rw [List.length_append, ← pre_take, show (O.map fun o => o.map Prod.snd).flatten = wts O from rfl, wl] at e
    omega
  refine ix_go (xs := rs) (H0 := H) (fun Q q => ⟨_, rfl, wq, _, 3, _, rfl, rfl, SqT.of (e1 _ _ hw), rfl, q⟩) hl (fun o h => e1 _ _ h) fun J G wk hG => ?_
  refine for_it wk (fun i σ' H' => (∃ x2, σ' = [some (.ref wq), some (.ref wa), x2, none, none]) ∧ H' wa = some (.lst ((pre (O.map fun o => o.map Prod.snd) i 0).map V.int)) ∧ Same H H') ⟨⟨_, rfl⟩, by rw [pre_zero]; exact upd_same, e1⟩ (fun i σ H' _ h => hG H' fun o ho => h.2.2 _ _ ho) ?_ ?_
  · rintro i x σ' H2z H2 hi ⟨⟨x2, rfl⟩, h2, e2⟩ ⟨rfl, hx⟩
    obtain ⟨o, ho, hrow⟩ := er.get hx
    obtain ⟨lr, ts, rfl, hlr, et⟩ := hrow.same e2
    have om : o ∈ O := List.mem_of_getElem? ho
    have l24 : o.length ≤ 24 := Nat.le_trans (flat_mem om) few
    have hpt : (O.map fun o => o.map Prod.snd)[i]? = some (o.map Prod.snd) := by rw [List.getElem?_map, ho]; rfl
    refine ⟨_, rfl, .inl ⟨rfl, _, SqL.of h2⟩, ?_⟩
    refine ix_go (xs := ts) (H0 := H2) (fun Q q => ⟨_, rfl, q⟩) hlr (fun o h => h) fun J2 G2 wk2 hG2 D2 hD2 => ?_
    have tl : ts.length ≤ 100000 := by rw [et.1]; omega
    refine lc_accW wk2 (fun j acc _ => acc = ((o.map Prod.snd).take j).map V.int) (fun H' e => hG2 H' fun o h => e _ _ h) yat_same hD2 tl (fun _ _ _ _ _ h => h) rfl ?_ ?_
    · rintro j y acc H5z H5 Kc2 Nc2 hj e5 hDl2 rfl ⟨rfl, hy⟩ kc2 nc2
      obtain ⟨pr2, hpr, t, rfl, ht⟩ := et.get hy
      refine ⟨t, _, rfl, same_seqT e5 ht, rfl, _, _, rfl, _, _, rfl, rfl, rfl, ?_⟩
      refine ⟨_, rfl, ?_⟩
      refine kc2 _ H5 (Same.refl _) ?_
      rw [take_snoc (o := pr2.2) (by rw [List.getElem?_map, hpr]; rfl), List.map_append]
      rfl
    rintro acc H5 e5 hDl2 len2 rfl
    rw [et.1, show o.length = (o.map Prod.snd).length from (List.length_map _).symm, List.take_length] at hDl2
    have h5 := e5 _ _ h2
    have lp := lpre i
    refine ⟨wa, D2, _, _, rfl, rfl, h5, hDl2, Nat.le_trans (by rw [List.length_map, List.length_map, List.length_map]; omega : _ ≤ 48) (by decide), ?_⟩
    refine ⟨⟨_, rfl⟩, ?_, fun b u hb => ?_⟩
    · rw [upd_same, ← pre_row hpt, ← List.map_append]
      unfold pre
      rw [List.getD_eq_getElem?_getD, hpt, Option.getD_some, List.take_length, List.take_zero, List.append_nil]
    · rw [upd_ne (ne_of_none hb hwa)]
      exact e5 _ _ (e2 _ _ hb)
  rintro σ' H2 ⟨⟨x2, rfl⟩, h2, e2⟩
  rw [← Wl, pre_end, show (O.map fun o => o.map Prod.snd).flatten = wts O from rfl] at h2
  refine ⟨_, rfl, wa, wts O, rfl, SqL.of h2, ?_⟩
  refine ⟨_, rfl, wa, rfl, ⟨_, SqL.of h2⟩, fun D9 hD9 => ?_⟩
  refine lc_accW (walk_list (xs := (wts O).map V.int)) (fun i acc _ => acc = ((sqs (wts O)).take i).map V.int) (fun H' e => SqL.of (e _ _ h2)) yat_same hD9 (by rw [List.length_map, wl]; omega) (fun _ _ _ _ _ h => h) rfl ?_ ?_
  · rintro i x acc H5z H5 Kc Nc hi e5 hDl rfl ⟨rfl, hx⟩ kc nc
    rw [List.getElem?_map] at hx
    obtain ⟨w0, hw0, rfl⟩ := Option.map_eq_some_iff.mp hx
    have b := wo.wb w0 (List.mem_of_getElem? hw0)
    refine ⟨rfl, _, rfl, _, rfl, w0, w0, rfl, rfl, .inl ⟨by omega, by omega⟩, ?_⟩
    refine kc _ H5 (Same.refl _) ?_
    rw [take_snoc (o := w0 * w0) (by unfold sqs; rw [List.getElem?_map, hw0]; rfl), List.map_append]
    rfl
  rintro acc H12 e12 hD12 len12 rfl
  rw [List.length_map, show (wts O).length = (sqs (wts O)).length from (List.length_map _).symm, List.take_length] at hD12
  refine ⟨D9, sqs (wts O), rfl, SqL.of hD12, (by show 2 ≤ sizeLine; decide), fun T0 hT => ?_⟩
  exact q T0 _ (e2.trans (e12.trans (same_new hT _))) upd_same
theorem ok__law_bound_right {C CS fl : Addr} {k : Nat} (T : Txt K mg) (RC : RdC K mg C) (SC : SchC K mg CS fl) (D : DefB K mg "_law_bound_right" s__law_bound_right P__law_bound_right) (c__law_sums : C8.Cal P w K mg base k "_law_sums" (spSums K) []) (c_conditions_of : C8.Cal P w K mg base k "conditions_of" (spCondOf K C CS) [])
    (c_enough : C8.Cal P w K mg base k "enough" (spEnough K C CS) []) (c_many_terms : C8.Cal P w K mg base k "many_terms" spTermsN []) : C8.Cal P w K mg base (k + 1) "_law_bound_right" (spBound K C CS) [] := by
  refine calB D sc__law_bound_right (fun vs H Q E h => ?_) (fun f cdv A outer s H vs Q E hr h => ?_)
  · obtain ⟨wq, a, sa, p, k, t, ns, O, O', rfl, _⟩ := h
    rfl
  obtain ⟨wq, a, sa, p, kk, t, ns, O, O', rfl, wo, R, sw1, sw2, t1, t40, q⟩ := h
  refine ⟨_, (pss_cons (ps_asg (pe_tup (pa_cons (C8.pe_c c__law_sums hr (Nat.le_refl _) (by rfl) (pa_cons (pv 0) pa_nil)) (pa_cons (pe_op op_sub (pe_ix ix_tup (pv 0) pe_int (fun _ _ => rfl)) pe_int) pa_nil))) (pg_tup rfl (pgs_cons (pg_tup rfl (pgs_cons (pg_name (i := 8) sc__law_bound_right.nd rfl (Or.inl rfl)) (pgs_cons (pg_name (i := 9) sc__law_bound_right.nd rfl (Or.inl rfl)) pgs_nil))) (pgs_cons (pg_name (i := 7) sc__law_bound_right.nd rfl (Or.inl rfl)) pgs_nil))))
    (pss_cons (ps_set (i := 3) sc__law_bound_right.nd rfl (Or.inl rfl) (pe_op op_sub (pe_op op_mul (pv 2) (pv 2)) (pe_op op_mul (pv 7) (pv 9))))
    (pss_cons (ps_if (pt_cmpR op_le (pv 3) pe_int (nomark _)) (pss_one (ps_ret (pe_tup (pa_cons pe_bl (pa_cons pe_bl pa_nil))))) pss_nil)
    (pss_cons (ps_set (i := 4) sc__law_bound_right.nd rfl (Or.inl rfl) (pe_callB (call_max2 rfl) (by rfl) T.b_max (by decide +kernel) (pa_cons pe_int (pa_cons (pe_op op_fdivW (pe_callTy call_int1 (by rfl) T.b_int (by decide +kernel) (pa_cons (pe_op op_sub (pe_op op_add (pe_op op_mul (pv 7) (pv 8)) (pv 3)) pe_int) pa_nil)) (pv 3)) pa_nil))))
    (pss_cons (ps_set (i := 5) sc__law_bound_right.nd rfl (Or.inl rfl) (pe_op op_fdivW (pe_op op_add (pe_op op_mulW (pe_op op_mulW (pv 4) (pv 4)) (pv 9)) (pe_op op_mulW (pv 4) (pv 8))) pe_int))
    (pss_cons (ps_if (pt_cmpR op_ne (C8.pe_c c_conditions_of hr (Nat.le_refl _) (by rfl) (pa_cons (pv 1) (pa_cons (pv 4) pa_nil))) (pv 5) (nomark _)) (pss_one (ps_ret (pe_tup (pa_cons pe_bl (pa_cons pe_bl pa_nil))))) pss_nil)
    (pss_cons (ps_if (pt_cmpR op_gt (pv 5) pe_int (nomark _)) (pss_one (ps_ret (pe_tup (pa_cons pe_bl (pa_cons pe_bl pa_nil))))) pss_nil)
    (pss_cons (ps_set (i := 6) sc__law_bound_right.nd rfl (Or.inl rfl) (C8.pe_c c_enough hr (Nat.le_refl _) (by rfl) (pa_cons (pv 1) (pa_cons (pv 2) pa_nil))))
    (pss_one (ps_ret (pe_tup (pa_cons (pe_and (pe_cmpR op_notN (pv 6) pe_non (nomark _)) (pe_and (pe_chain op_le op_le pe_int (pv 6) (pv 4)) (pe_one (pe_cmpR op_gt (C8.pe_c c_many_terms hr (Nat.le_refl _) (by rfl) (pa_cons (pe_ix ix_tup (pv 0) pe_int (fun _ _ => rfl)) (pa_cons (pe_op op_sub (pe_op op_mulW (pv 4) (pv 2)) pe_int) pa_nil))) (pv 5) (nomark _))))) (pa_cons pe_bl pa_nil))))))))))))), ?_⟩
  refine ⟨_, rfl, wq, p, kk, ns, O, rfl, wo, fun sq H1 e1 hsq => ?_⟩
  obtain ⟨pl, ol, hw, _⟩ := (wo.same e1).at_
  refine ⟨_, rfl, wq, _, 2, _, rfl, rfl, SqT.of hw, rfl, _, _, rfl, rfl, ?_⟩
  refine ⟨(by show 2 ≤ sizeLine; decide), fun T0 hT0 => ?_⟩
  have e2 := same_new hT0 (.tup [.ref sq, .int (kk - 1)])
  have hsq2 := e2 _ _ hsq
  have k12 := e1.trans e2
  have T0s : (upd H1 T0 (.tup [.ref sq, .int (kk - 1)])) T0 = some (.tup [.ref sq, .int (kk - 1)]) := upd_same
  generalize (upd H1 T0 (.tup [.ref sq, .int (kk - 1)])) = H2 at hsq2 k12 T0s ⊢
  refine ⟨T0, _, rfl, SqT.of T0s, rfl, _, _, rfl, sq, _, rfl, SqT.of hsq2, rfl, _, _, rfl, _, _, rfl, rfl, _, _, rfl, rfl, ?_⟩
  have few := wo.few
  have wl := wts_len O
  have hi := sum_hi wo.wb
  have lo := sum_lo fun w m => (wo.wb w m).1
  have w1' : ∀ w ∈ wts O', 1 ≤ w := fun w m => (R.wb w m).1
  have kk2 := R.k2
  have kk6 := R.k6
  have a40 := at40 R.k2 R.k6 R.wb R.few
  have cm1 := Cm_two (wts O') 1
  have Ceq := Cm_eq (wts O')
  have bok := fun m => bound_ok (t := t) (m := m) R.k2 w1' t1
  rw [sw1, sw2] at cm1 bok
  simp only [sw1, sw2] at Ceq
  have W10 : 0 ≤ (wts O).sum := by omega
  have W11 : (wts O).sum ≤ 72 := by omega
  have W20 : 0 ≤ (sqs (wts O)).sum := by omega
  have W21 : (sqs (wts O)).sum ≤ 216 := by omega
  clear hi lo
  generalize (wts O).sum = W1 at *
  generalize (sqs (wts O)).sum = W2 at *
  have c1 : 1 ≤ kk - 1 := by omega
  have c5 : kk - 1 ≤ 5 := by omega
  have tt0 : 0 ≤ t * t := Int.mul_nonneg (by omega) (by omega)
  have tt1 : t * t ≤ 40 * 40 := Int.mul_le_mul t40 t40 (by omega) (by decide)
  have cw0 : 0 ≤ (kk - 1) * W2 := Int.mul_nonneg (by omega) W20
  have cw1 : (kk - 1) * W2 ≤ 5 * 216 := Int.mul_le_mul c5 W21 W20 (by decide)
  refine ⟨_, rfl, _, rfl, t, t, rfl, rfl, .inl ⟨by omega, by omega⟩, _, rfl, _, rfl, kk - 1, W2, rfl, rfl, .inl ⟨by omega, by omega⟩, _, _, rfl, rfl, ?_⟩
  refine ⟨_, rfl, _, _, rfl, rfl, _, rfl, ?_⟩
  refine ite2 (fun h0 => ?_) (fun h0 => ?_)
  · have h0 : t * t - (kk - 1) * W2 ≤ 0 := of_decide_eq_true h0
    refine ⟨(by show 2 ≤ sizeLine; decide), fun q0 hq0 => q q0 false _ (k12.trans (same_new hq0 _)) upd_same (fun z => nomatch z) (fun e => ?_)⟩
    subst e
    omega
  have h0 : 0 < t * t - (kk - 1) * W2 := by
    have : ¬t * t - (kk - 1) * W2 ≤ 0 := fun z => h0 (decide_eq_true z)
    omega
  obtain ⟨M, eM, M1, M361, Mb, M40⟩ := bound_m c1 c5 W10 W11 W20 W21 h0
  refine ⟨_, rfl, _, rfl, kk - 1, W1, rfl, rfl, .inl ⟨by omega, by omega⟩, _, rfl, _, _, rfl, rfl, _, _, rfl, rfl, .inl ⟨_, rfl, _, rfl, _, _, rfl, rfl, cdW h0 (by omega), _, _, rfl, ?_⟩⟩
  dsimp only
  rw [eM]
  have mm : M * M ≤ 361 * 361 := Int.mul_le_mul M361 M361 (by omega) (by decide)
  have mm0 : 0 ≤ M * M := Int.mul_nonneg (by omega) (by omega)
  refine ⟨_, rfl, _, rfl, M, M, rfl, rfl, cmW (by omega) (by omega), _, rfl, _, _, rfl, rfl, cmW (by omega) (by omega), _, rfl, _, rfl, M, W1, rfl, rfl, cmW (by omega) (by omega), _, _, rfl, rfl, _, _, rfl, rfl, cdW (by decide) (by decide), ?_⟩
  dsimp only
  rw [← Ceq M]
  have R2 := R.same k12
  refine ⟨_, rfl, _, rfl, a, sa, p, kk, M, ns, O', rfl, R2, M1, by omega, fun H3 e3 => ⟨_, rfl, rfl, false, by rw [decide_eq_true rfl]; rfl, iteF ?_⟩⟩
  refine ⟨_, rfl, _, _, rfl, rfl, _, rfl, ?_⟩
  refine ite2 (fun h1 => ?_) (fun h1 => ?_)
  · have h1 : 150 < Cm (wts O') M := of_decide_eq_true h1
    refine ⟨(by show 2 ≤ sizeLine; decide), fun q0 hq0 => q q0 false _ (k12.trans (e3.trans (same_new hq0 _))) upd_same (fun z => nomatch z) (fun e => ?_)⟩
    have := M40 e
    subst this
    omega
  have h1 : Cm (wts O') M ≤ 150 := by
    have : ¬150 < Cm (wts O') M := fun z => h1 (decide_eq_true z)
    omega
  have okM' : okM kk (wts O') t M := ⟨h1, bok M M1 Mb⟩
  refine ⟨_, rfl, _, rfl, a, sa, p, kk, t, ns, O', rfl, R2.same e3, t1, by omega, fun v H4 e4 en => ?_⟩
  rcases en with ⟨m', rfl, lm⟩ | ⟨rfl, nm⟩
  · have le := lm.le M1 okM'
    have mt0 : 1 * 1 ≤ M * t := Int.mul_le_mul M1 t1 (by decide) (by omega)
    have mt1 : M * t ≤ 361 * 40 := Int.mul_le_mul M361 t40 (by omega) (by decide)
    obtain ⟨pl4, ol4, hw4, _⟩ := (wo.same (k12.trans (e3.trans e4))).at_
    refine ⟨_, rfl, rfl, true, rfl, iteT ?_⟩
    refine ⟨_, rfl, _, _, rfl, rfl, true, blt lm.m1, iteT ⟨_, rfl, _, _, rfl, rfl, true, blt le, iteT ?_⟩⟩
    refine ⟨_, rfl, wq, _, 2, _, rfl, rfl, SqT.of hw4, rfl, _, rfl, _, rfl, M, t, rfl, rfl, cmW (by omega) (by omega), _, _, rfl, rfl, ?_⟩
    refine ⟨kk, M * t - 1, rfl, R.k2, R.k6, by omega, _, rfl, _, _, rfl, rfl, ?_⟩
    refine ⟨(by show 2 ≤ sizeLine; decide), fun q0 hq0 => q q0 true _ (k12.trans (e3.trans (e4.trans (same_new hq0 _)))) ?_ (fun _ => ⟨M, M1, okM'⟩) (fun _ => rfl)⟩
    rw [upd_same]
    have := blt (c := Cm (wts O') M < nT kk (M * t - 1)) okM'.2
    simp only [this]
  · exact absurd okM' (nm M M1)
end
end My


set_option Elab.async false
set_option linter.all false
set_option maxRecDepth 100000
set_option maxHeartbeats 2000000
namespace My
open PySem PySem.Spec PyProof.Rows L2
theorem perm_sum {xs ys : List Int} (h : xs.Perm ys) : xs.sum = ys.sum := by
  induction h with
  | nil => rfl
  | cons x _ ih => rw [List.sum_cons, List.sum_cons, ih]
  | swap x y l => simp only [List.sum_cons]; omega
  | trans _ _ a b => exact a.trans b
theorem wts_perm : ∀ {O O' : List (List (Int × Int))}, SortsOf O O' → (wts O').Perm (wts O)
  | [], [], _ => List.Perm.refl _
  | [], _ :: _, h => by have := h.1; simp at this
  | _ :: _, [], h => by have := h.1; simp at this
  | o :: O, o' :: O', h => by
    have h0 := h.2 0 o o' rfl rfl
    have hr : SortsOf O O' := ⟨by simpa using h.1, fun i a b ha hb => h.2 (i + 1) a b (by simpa using ha) (by simpa using hb)⟩
    have i := wts_perm hr
    unfold wts at i ⊢
    rw [List.map_cons, List.map_cons, List.flatten_cons, List.flatten_cons]
    exact List.Perm.append (h0.1.map _) i
theorem wts_ok0 {p : Int} {n : Nat} {O : List (List (Int × Int))} (oo : OfOk p n O) : ∀ w ∈ wts O, 1 ≤ w ∧ w ≤ 3 := fun w hw => by
  unfold wts at hw
  rw [flat_snd] at hw
  obtain ⟨q, hq, rfl⟩ := List.mem_map.mp hw
  obtain ⟨o, ho, hqo⟩ := List.mem_flatten.mp hq
  have := oo.ok o ho q hqo
  exact ⟨this.2.2.1, this.2.2.2⟩
def spLaw (K : PySem.W.Frag) : Sp := fun vs H Q _ => ∃ (a : Addr) (ns : List Int), vs = [.ref a] ∧ SqL K H a (ns.map V.int) ∧ ns.length ≤ 63 ∧ ∀ H', Q (.bl true) H'
section
variable {P : Program} {w : World} {K : PySem.W.Frag} {mg : Str → Option Value} {base : Heap}
theorem fn_law {C CS fl : Addr} {fdl : FuncData} {k : Nat} (T : Txt K mg) (RC : RdC K mg C) (F : C8.Fun K "law" "law" s_law fl fdl) (c__law_pen : C8.Cal P w K mg base k "_law_pen" (spWell K) []) (c__law_world : C8.Cal P w K mg base k "_law_world" (spWorld K) []) (c__law_made : C8.Cal P w K mg base k "_law_made" (spMade K C CS) [])
    (c__law_sums : C8.Cal P w K mg base k "_law_sums" (spSums K) []) (c__law_bound_right : C8.Cal P w K mg base k "_law_bound_right" (spBound K C CS) []) (c_reach : C8.Cal P w K mg base k "reach" (spReach K C CS) []) (c__law_pick : C8.Cal P w K mg base k "_law_pick" (spOf K) []) (c__law_draw : C8.Cal P w K mg base k "_law_draw" spPail []) (c_many_terms : C8.Cal P w K mg base k "many_terms" spTermsN []) :
    FnOk P w K mg base CX0 (k + 1) fl fdl ["script"] (spLaw K) := by
  refine C8.fn0 F sc_law (fun vs H Q E h => ?_) (fun cdv A outer s H vs Q E hr h => ?_)
  · obtain ⟨a, ns, rfl, _⟩ := h
    rfl
  obtain ⟨a, ns, rfl, hS, hl, q⟩ := h
  refine ⟨_, (pss_cons (ps_set (i := 1) sc_law.nd rfl (Or.inl rfl) (C8.pe_c c__law_pen hr (Nat.le_refl _) (by rfl) (pa_cons (pv 0) pa_nil)))
    (pss_cons (ps_for PassesOwn.never rfl (pi_range1 (by rfl) T.b_range (pa_cons pe_int pa_nil)) (pg_name (i := 2) sc_law.nd rfl (Or.inl rfl))
      (pss_cons (ps_set (i := 3) sc_law.nd rfl (Or.inl rfl) (C8.pe_c c__law_world hr (Nat.le_refl _) (by rfl) (pa_cons (pv 1) pa_nil)))
    (pss_cons (ps_par3 (i := 6) (j := 7) (l := 8) (by rfl) sc_law.nd rfl rfl rfl (by decide) (by decide) (by decide) rfl rfl rfl (pa_cons (C8.pe_c c__law_made hr (Nat.le_refl _) (by rfl) (pa_cons (pv 3) pa_nil)) (pa_cons (pe_ix ix_tup (pv 3) pe_int (fun _ _ => rfl)) (pa_cons (pe_lst pa_nil) pa_nil))) (by rfl))
    (pss_cons (ps_if (pt_cmpR (op_neD hr.units) (pe_tup (pa_cons (pe_fld (pv 6) rfl) (pa_cons (pe_fld (pv 6) rfl) pa_nil))) (C8.pe_c c__law_sums hr (Nat.le_refl _) (by rfl) (pa_cons (pv 3) pa_nil)) (nomark _)) (pss_one (ps_ret pe_bl)) pss_nil)
    (pss_cons (ps_for PassesOwn.never rfl (pi_range2 (by rfl) T.b_range (pa_cons pe_int (pa_cons pe_int pa_nil))) (pg_name (i := 4) sc_law.nd rfl (Or.inl rfl))
      (pss_cons (ps_asg (C8.pe_c c__law_bound_right hr (Nat.le_refl _) (by rfl) (pa_cons (pv 3) (pa_cons (pv 6) (pa_cons (pv 4) pa_nil)))) (pg_tup rfl (pgs_cons (pg_name (i := 9) sc_law.nd rfl (Or.inl rfl)) (pgs_cons (pg_name (i := 10) sc_law.nd rfl (Or.inl rfl)) pgs_nil))))
    (pss_cons (ps_if (pt_not (pt_val (pv 9))) (pss_one (ps_ret pe_bl)) pss_nil)
    (pss_one (ps_expr (pe_bm PySem.F.plainAttrs_list PySem.F.slot_list_extend PySem.F.type_list_extend mt_extend (pv 8) (pa_cons (pe_ifExp (pt_val (pv 10)) (pe_lst (pa_cons (pv 4) pa_nil)) (pe_lst pa_nil)) pa_nil)))))))
    (pss_cons (ps_if (PW.pt (pw_or (pt_cmpR (op_eqD hr.units) (pv 8) (pe_lst pa_nil) (nomark _)) (pw_or1 (pt_cmpR op_gt (pe_ix ix_tup (C8.pe_c c_reach hr (Nat.le_refl _) (by rfl) (pa_cons (pv 6) pa_nil)) pe_int (fun _ _ => rfl)) (pe_ix ix_list (pv 8) pe_int (fun _ _ => rfl)) (nomark _))))) (pss_one (ps_ret pe_bl)) pss_nil)
    (pss_cons (ps_set (i := 5) sc_law.nd rfl (Or.inl rfl) (pe_op op_add pe_int (C8.pe_c c__law_pick hr (Nat.le_refl _) (by rfl) (pa_cons (pv 1) (pa_cons (pe_lst (pa_cons (C8.pe_c c__law_draw hr (Nat.le_refl _) (by rfl) (pa_cons (pv 1) (pa_cons pe_int pa_nil))) (pa_cons (C8.pe_c c__law_draw hr (Nat.le_refl _) (by rfl) (pa_cons (pv 1) (pa_cons (pe_op op_pow pe_int pe_int) pa_nil))) pa_nil))) pa_nil)))))
    (pss_one (ps_if (pt_cmpR op_le (pe_op op_mul (pe_op op_mul pe_int (pe_op op_sub (pv 7) pe_int)) (C8.pe_c c_many_terms hr (Nat.le_refl _) (by rfl) (pa_cons (pv 7) (pa_cons (pe_op op_sub (pv 5) pe_int) pa_nil)))) (pe_op op_mul (pv 5) (pv 5)) (nomark _)) (pss_one (ps_ret pe_bl)) pss_nil)))))))))
    (pss_one (ps_ret pe_bl)))), ?_⟩
  refine ⟨_, rfl, a, ns, rfl, hS, hl, fun pen cc H1 np nc e1 W1 => ?_⟩
  refine ⟨3, rfl, by decide, by decide, for_range (lo := 0) (n := 3) (fun i σ' H' => (∃ x2 x3 x4 x5 x6 x7 x8 x9 x10, σ' = [some (.ref a), some (.ref pen), x2, x3, x4, x5, x6, x7, x8, x9, x10]) ∧ Well H' pen cc (403 * (3 - i))) ⟨⟨_, _, _, _, _, _, _, _, _, rfl⟩, W1.less (by decide)⟩ ?_ fun σ' H' _ => q H'⟩
  rintro i σ' H' hi ⟨⟨x2, x3, x4, x5, x6, x7, x8, x9, x10, rfl⟩, W⟩
  obtain ⟨nn, en⟩ : ∃ nn, 403 * (3 - i) = (nn + 3) + 400 ∧ 403 * (3 - (i + 1)) = nn := ⟨403 * (3 - (i + 1)), by omega, rfl⟩
  rw [en.1] at W
  refine ⟨_, rfl, pen, cc, nn + 3, rfl, W, fun wq p kk places O H2 k2 W2 wat sok oo => ?_⟩
  obtain ⟨pl, ol, hw, _⟩ := id wat
  refine ⟨_, rfl, wq, p, kk, places, O, rfl, wat, sok, oo, fun ra sa O' H3 e3 so rat => ?_⟩
  refine ⟨_, rfl, wq, _, 2, _, rfl, rfl, SqT.of (e3 _ _ hw), rfl, ?_⟩
  refine ⟨(by show 0 ≤ sizeLine; decide), fun fl hfl => ?_⟩
  refine ⟨_, _, _, rfl, ?_⟩
  have W3 := W2.same e3
  have l16 := sok.l16
  have wbO : ∀ w ∈ wts O, 1 ≤ w ∧ w ≤ 3 := wts_ok0 oo
  have wo : WoOk K H3 wq p places kk O := ⟨wat.same e3, sok.k2, sok.k6, by rw [oo.len]; exact l16, wbO, oo.few⟩
  have wp := wts_perm so
  have R : RdOk K H3 ra _ _ sa p places kk O' := ⟨rat, sok.k2, sok.k6, by rw [so.1, oo.len], fun w m => wbO w (wp.mem_iff.mp m), by rw [wp.length_eq, wts_len]; exact oo.few⟩
  have sw1 : (wts O').sum = (wts O).sum := perm_sum wp
  have sw2 : (sqs (wts O')).sum = (sqs (wts O)).sum := perm_sum (wp.map _)
  have eB := same_new hfl (.lst [])
  have hfl0 : (upd H3 fl (.lst [])) fl = some (.lst []) := upd_same
  -- the sums
  have s34 : Same H3 (upd H3 fl (.lst [])) := eB
  have rat4 := rat.same s34
  obtain ⟨dx, oq, pq, ha4, _⟩ := id rat4
  refine ⟨_, rfl, ra, C, dx, _, _, rfl, ha4, RC.cl, RC.n4, rfl, _, rfl, ra, C, dx, _, _, rfl, ha4, RC.cl, RC.n5, rfl, (by show 2 ≤ sizeLine; decide), fun T1 hT1 => ?_⟩
  have e5 := same_new hT1 (.tup [.int (wts O').sum, .int (sqs (wts O')).sum])
  refine ⟨_, rfl, wq, p, kk, places, O, rfl, (wo.same s34).same e5, fun sq H6 e6 hsq => ?_⟩
  refine ⟨.tuple ([(wts O').sum, (sqs (wts O')).sum].map PyData.int), .tuple ([(wts O).sum, (sqs (wts O)).sum].map PyData.int), .tup (SqT.of (e6 _ _ upd_same)) (dp_ints [_, _]), .tup (SqT.of hsq) (dp_ints [_, _]), ints_shapedT _, ints_shapedT _, _, rfl, ?_⟩
  refine iteN (by rw [eqv_intsT, sw1, sw2, decide_eq_true rfl]; rfl) ?_
  have s36 : Same H3 H6 := (s34.trans e5).trans e6
  have hfl6 : H6 fl = some (.lst []) := e6 _ _ (e5 _ _ hfl0)
  -- score by score
  refine ⟨1, 41, rfl, by decide, ?_⟩
  refine for_range (lo := 1) (n := ((41 : Int) - 1).toNat) (fun j σ'' H'' => (∃ x4 x9 x10, σ'' = [some (.ref a), some (.ref pen), some (.int (0 + (i : Int))), some (.ref wq), x4, x5, some (.ref ra), some (.int kk), some (.ref fl), x9, x10]) ∧ Same H3 H'' ∧ ∃ fs : List Int, H'' fl = some (.lst (fs.map V.int)) ∧ (∀ z ∈ fs, 1 ≤ z ∧ z ≤ 40 ∧ ∃ m, 1 ≤ m ∧ okM kk (wts O') z m) ∧ (40 ≤ j → fs ≠ []) ∧ fs.length ≤ j) ⟨⟨_, _, _, rfl⟩, s36, [], hfl6, (fun z h => nomatch h), (fun h => absurd h (by decide)), Nat.le_refl _⟩ ?_ ?_
  · rintro j σ'' H7 hj ⟨⟨y4, y9, y10, rfl⟩, s7, fs, hfs, okf, nef, lef⟩
    have hj : j < 40 := hj
    refine ⟨_, rfl, _, rfl, _, rfl, wq, ra, sa, p, kk, 1 + (j : Int), places, O, O', rfl, wo.same s7, R.same s7, sw1, sw2, by omega, by omega, fun q0 b H8 e8 hq0 hb h40 => ?_⟩
    refine ⟨q0, _, rfl, SqT.of hq0, rfl, _, _, rfl, _, _, rfl, rfl, ?_⟩
    refine ⟨_, rfl, true, rfl, iteF ?_⟩
    have hfs8 := e8 _ _ hfs
    have s8 := s7.trans e8
    refine ⟨_, rfl, .inl ⟨rfl, _, SqL.of hfs8⟩, _, rfl, b, rfl, ?_⟩
    have keep : ∀ (D : Addr) (xs ys : List V), H8 D = none → Same H3 (upd (upd H8 D (.lst xs)) fl (.lst ys)) := fun D xs ys hD b o hb => by
      rw [upd_ne (ne_of_none hb hfl)]
      exact same_new hD _ _ _ (s8 _ _ hb)
    cases b with
    | true =>
      refine iteT ⟨_, rfl, (by show 1 ≤ sizeLine; decide), fun D hD => ?_⟩
      refine ⟨fl, D, fs.map V.int, _, rfl, rfl, same_new hD _ _ _ hfs8, upd_same, Nat.le_trans (by rw [List.length_map]; show fs.length + 1 ≤ 41; omega) (by decide), ?_⟩
      refine ⟨⟨_, _, _, rfl⟩, keep D _ _ hD, fs ++ [1 + (j : Int)], by rw [upd_same, List.map_append]; rfl, fun z hz => ?_, fun _ => by simp, by rw [List.length_append]; show fs.length + 1 ≤ _; omega⟩
      rcases List.mem_append.mp hz with h | h
      · exact okf z h
      · rw [List.mem_singleton.mp h]
        exact ⟨by omega, by omega, hb rfl⟩
    | false =>
      refine iteF ⟨(by show 0 ≤ sizeLine; decide), fun D hD => ?_⟩
      refine ⟨fl, D, fs.map V.int, _, rfl, rfl, same_new hD _ _ _ hfs8, upd_same, Nat.le_trans (by rw [List.length_map]; show fs.length + 0 ≤ 41; omega) (by decide), ?_⟩
      refine ⟨⟨_, _, _, rfl⟩, keep D _ _ hD, fs, by rw [upd_same, List.append_nil], okf, fun h => ?_, by omega⟩
      have := h40 (by omega)
      cases this
  rintro σ'' H7 ⟨⟨y4, y9, y10, rfl⟩, s7, fs, hfs, okf, nef, lef⟩
  have ne : fs ≠ [] := nef (by decide)
  obtain ⟨f0, fr, rfl⟩ : ∃ f0 fr, fs = f0 :: fr := by
    cases fs with
    | nil => exact absurd rfl ne
    | cons x r => exact ⟨x, r, rfl⟩
  obtain ⟨f1, f40, m0, m01, okm⟩ := okf f0 List.mem_cons_self
  refine ⟨_, rfl, (by show 0 ≤ sizeLine; decide), fun D hD => ?_⟩
  have eD := same_new hD (.lst [])
  refine ⟨.list ((f0 :: fr).map PyData.int), .list (List.map PyData.int []), .lst (SqL.of (eD _ _ hfs)) (dp_ints _), .lst (SqL.of upd_same) .nil, ints_shapedL _, ints_shapedL _, _, rfl, ?_⟩
  refine iteN (by rw [eqv_intsL]; exact decide_eq_false (fun z => nomatch z)) ?_
  refine ⟨_, rfl, ra, sa, p, kk, places, O', rfl, R.same (s7.trans eD), fun t m qr H8 e8 hqr t1 t40 lm no => ?_⟩
  refine ⟨qr, _, 0, _, rfl, rfl, SqT.of hqr, rfl, _, rfl, fl, _, 0, _, rfl, rfl, SqL.of (e8 _ _ (eD _ _ hfs)), atI_nat (xs := (f0 :: fr).map V.int) (j := 0) (v := .int f0) rfl, _, _, rfl, rfl, false, blf ?_, iteF ?_⟩
  · intro z
    exact no f0 f1 z m0 m01 okm
  have W8 := W3.same (s7.trans (eD.trans e8))
  refine ⟨_, rfl, _, rfl, pen, cc, nn + 2, 90, rfl, W8, by decide, by decide, fun z1 H9 z10 z11 k9 W9 => ?_⟩
  refine ⟨_, rfl, 10, 5, rfl, rfl, (by unfold CPow; decide), pen, cc, nn + 1, _, rfl, W9, by decide, by decide, fun z2 H10 z20 z21 k10 W10 => ?_⟩
  refine ⟨(by show 2 ≤ sizeLine; decide), fun l2 hl2 => ?_⟩
  obtain ⟨op10, hop10⟩ : ∃ o, H10 pen = some o := by
    obtain ⟨_, _, _, h, _⟩ := id W10
    exact ⟨_, h⟩
  refine ⟨pen, cc, l2, nn, _, rfl, W10.same (same_new hl2 _), SqL.of upd_same, (ne_of_none hop10 hl2).symm, (by show 0 < 2; decide), (by show 2 ≤ 1000; decide), fun v H11 hv k11 W11 => ?_⟩
  have z21' : z2 < 100000 := z21
  obtain ⟨z, rfl, z0, z5⟩ : ∃ z : Int, v = .int z ∧ 0 ≤ z ∧ z < 100000 := by
    simp only [List.mem_cons, List.not_mem_nil, or_false] at hv
    rcases hv with rfl | rfl
    · exact ⟨_, rfl, z10, by omega⟩
    · exact ⟨_, rfl, z20, z21'⟩
  have k2' := sok.k2
  have k6' := sok.k6
  refine ⟨_, _, rfl, rfl, ?_⟩
  refine ⟨_, rfl, kk, 1, rfl, rfl, 2, kk - 1, rfl, rfl, .inl ⟨by decide, by decide⟩, _, rfl, _, rfl, 1 + z, 1, rfl, rfl, kk, 1 + z - 1, rfl, sok.k2, sok.k6, by omega, _, _, rfl, rfl, .inl ⟨by omega, by omega⟩, _, rfl, _, rfl, 1 + z, 1 + z, rfl, rfl, .inl ⟨by omega, by omega⟩, _, _, rfl, rfl, false, blf ?_, iteF ?_⟩
  · have g := nT_big (k := kk) (a := 1 + z) sok.k2 (by omega)
    rw [Int.mul_assoc]
    omega
  · rw [en.2]
    exact ⟨⟨_, _, _, _, _, _, _, _, _, rfl⟩, W11⟩
end
end My


set_option Elab.async false
set_option linter.all false
set_option maxRecDepth 100000
set_option maxHeartbeats 2000000
/-! The top, run once by the kernel, tells what stands in it: defs, facts, one more test. -/
namespace My
open PySem PySem.Spec PyProof.Rows L2
def frV {α : Type} (v : Value) (k : Value → α) : α := match v with
  | .ref a => HandSHeadRun.frNat a fun a => k (.ref a)
  | v => k v
theorem frV_eq {α : Type} {v : Value} {k : Value → α} : frV v k = k v := by
  cases v with
  | ref a =>
    show HandSHeadRun.frNat a (fun a => k (.ref a)) = _
    rw [HandSHeadRun.frNat_eq]
  | _ => rfl
def frEs {α : Type} : List DictEntry → (List DictEntry → α) → α
  | [], k => k []
  | ⟨h, x, v⟩ :: r, k => frV x fun x => frV v fun v => frEs r fun l => k (⟨h, x, v⟩ :: l)
theorem frEs_eq {α : Type} : ∀ {l : List DictEntry} {k : List DictEntry → α}, frEs l k = k l
  | [], _ => rfl
  | ⟨h, x, v⟩ :: r, k => by
    unfold frEs
    rw [frV_eq, frV_eq]
    exact frEs_eq (l := r)
/-- an object with its dict's entries at hand -/
def frO {α : Type} (o : Obj) (k : Obj → α) : α := match o with
  | ⟨c, d, .dict es n, s⟩ => frEs es.toList fun l => k ⟨c, d, .dict ⟨l⟩ n, s⟩
  | o => k o
theorem frO_eq {α : Type} {o : Obj} {k : Obj → α} : frO o k = k o := by
  obtain ⟨c, d, dt, s⟩ := o
  cases dt with
  | dict es n =>
    show frEs es.toList (fun l => k ⟨c, d, .dict ⟨l⟩ n, s⟩) = _
    rw [frEs_eq]
  | _ => rfl
def frX {α : Type} (g : Addr → Option Obj) : List Addr → (PySem.W.Frag → α) → α
  | [], k => k []
  | a :: r, k => match g a with
    | some o => frO o fun o => frX g r fun K => k ((a, o) :: K)
    | none => frX g r k
theorem frX_eq {α : Type} {g : Addr → Option Obj} : ∀ {as : List Addr} {k : PySem.W.Frag → α}, frX g as k = k (He.frG g as)
  | [], _ => rfl
  | a :: r, k => by
    unfold frX He.frG
    cases e : g a with
    | none =>
      rw [List.filterMap_cons, e]
      exact frX_eq (as := r)
    | some o =>
      rw [List.filterMap_cons, e]
      show frO o _ = _
      rw [frO_eq]
      exact frX_eq (as := r)
def frL {α : Type} : List Addr → (List Addr → α) → α
  | [], k => k []
  | a :: r, k => HandSHeadRun.frNat a fun a => frL r fun r => k (a :: r)
theorem frL_eq {α : Type} : ∀ {as : List Addr} {k : List Addr → α}, frL as k = k as
  | [], _ => rfl
  | a :: r, k => by
    unfold frL
    rw [HandSHeadRun.frNat_eq]
    exact frL_eq (as := r)
/-- what the module's names stand for -/
def pickX (K : PySem.W.Frag) (xs : List Str) : List Addr := xs.flatMap fun x => match PySem.W.nsIn K mainGlobals x with
  | some (some v) => He.refV v
  | _ => []
/-- what these objects name -/
def layX (K : PySem.W.Frag) : List Addr := K.flatMap fun p => He.refsD p.2
def eyeX {α : Type} (g : Addr → Option Obj) (xs : List Str) (k : PySem.W.Frag → α) : α :=
  frX g [mainGlobals] fun K0 => frL (pickX K0 xs) fun l0 => frX g l0 fun K1 => frL (layX K1) fun l1 => frX g l1 fun K2 => frL (layX K2) fun l2 => frX g l2 fun K3 => frL (layX K3) fun l3 =>
    frL (mainGlobals :: (l0 ++ (l1 ++ (l2 ++ l3)))) fun l => frX g l k
theorem eyeX_eq (g : Addr → Option Obj) (xs : List Str) : ∃ as : List Addr, ∀ (α : Type) (k : PySem.W.Frag → α), eyeX g xs k = k (He.frG g as) :=
  ⟨_, fun α k => by
    unfold eyeX
    simp only [frX_eq, frL_eq]
    rfl⟩
def bodX (fa : List He.Fa) (fn : List He.DefD) (ex : PySem.W.Frag → Bool) (K : PySem.W.Frag) : He.AlD := ((He.obsD fa fn K).1 && ex K, (He.obsD fa fn K).2)
def obsX (xs : List Str) (fa : List He.Fa) (fn : List He.DefD) (ex : PySem.W.Frag → Bool) (g : Addr → Option Obj) : He.AlD := eyeX g xs (bodX fa fn ex)
def SaysX (fa : List He.Fa) (fn : List He.DefD) (ex : PySem.W.Frag → Bool) (K : PySem.W.Frag) : Prop := He.SaysD fa fn K ∧ ex K = true
theorem saysX_of {xs : List Str} {fa : List He.Fa} {fn : List He.DefD} {ex : PySem.W.Frag → Bool} {g : Addr → Option Obj} (e : obsX xs fa fn ex g = He.valD fn) : ∃ as : List Addr, SaysX fa fn ex (He.frG g as) := by
  obtain ⟨as, z⟩ := eyeX_eq g xs
  have e0 : bodX fa fn ex (He.frG g as) = He.valD fn := (z _ _).symm.trans e
  have e1 : ((He.obsD fa fn (He.frG g as)).1 && ex (He.frG g as)) = true := by
    have z := congrArg (fun z : He.AlD => z.1) e0
    exact z
  have e2 : (He.obsD fa fn (He.frG g as)).2 = (He.valD fn).2 := by
    have z := congrArg (fun z : He.AlD => z.2) e0
    exact z
  obtain ⟨h1, h2⟩ := Bool.and_eq_true_iff.mp e1
  exact ⟨as, Prod.ext h1 e2, h2⟩
def hookX (xs : List Str) (fa : List He.Fa) (fn : List He.DefD) (ex : PySem.W.Frag → Bool) : PySem.W.Hook where
  α := He.AlD
  obs := fun s => obsX xs fa fn ex s.heap.get?
  val := fun _ => He.valD fn
  says := fun _ h => ∃ K : PySem.W.Frag, K.In h ∧ SaysX fa fn ex K
  of := fun _ _ e => let ⟨_, z⟩ := saysX_of e; ⟨_, He.frG_in, z⟩
  keeps := fun _ _ _ ⟨K, hK, c⟩ k => ⟨K, PySem.W.Frag.In.keeps hK k, c⟩
theorem obsX_eq {xs : List Str} {fa : List He.Fa} {fn : List He.DefD} {ex : PySem.W.Frag → Bool} {g : Addr → Option Obj} {s : Shared} (h : ∀ a, g a = s.heap.get? a) : obsX xs fa fn ex g = (hookX xs fa fn ex).obs s := by
  have e : g = s.heap.get? := funext h
  rw [e]
  rfl
theorem dfl_none {K : PySem.W.Frag} {dV : Value} (h : DflV K dV []) : dV = .none := by
  rcases h with ⟨_, e⟩ | ⟨ne, _⟩
  · exact e
  · exact absurd rfl ne
theorem funX {K : PySem.W.Frag} {x q : Str} {st : Stmt} {f : Addr} {fd : FuncData} (F : FunD K x q (C8.fnArgs st) (C8.fnBody st) (C8.fnScope st) [] [] f fd) : C8.Fun K x q st f fd ∧ fd.defaults = .none := by
  obtain ⟨oc, od, dV, kV, doc, pm, an, cdv, ct, osl, rfl, lk, hcd, hd, _⟩ := F.ex
  have e := dfl_none hd
  subst e
  exact ⟨⟨_, _, _, _, _, _, _, _, _, _, rfl, lk, hcd⟩, rfl⟩
theorem defX {K : PySem.W.Frag} {mg : Str → Option Value} {x : Str} {st : Stmt} {ps : List Str} {f : Addr} {fd : FuncData} (F : FunD K x x (C8.fnArgs st) (C8.fnBody st) (C8.fnScope st) [] [] f fd) (hm : mg x = some (.ref f))
    (hb : ∀ (kV doc pm : Value) (an : Option Addr) (cdv ct : Value) (us : List Value), us.length = ps.length → bindArgs (fdN x st kV doc pm an cdv ct) ⟨us, []⟩ = pure (ps.zip us)) : DefK K mg x st ps := by
  obtain ⟨G, e⟩ := funX F
  exact ⟨f, fd, ⟨G, hm, F.kp⟩, C8.Fun.binds G e hb, e⟩
/-- what isinstance asks of the class called x -/
def iscB (K : PySem.W.Frag) (x : Str) : Bool := He.eqO (PySem.W.findIn K (.ref (He.ga K x)) "__class__") (some (some (.builtin "object.__class__"))) && decide (PySem.W.mroIn K (He.ga K x) (.type "object") = some true)
def cls0B (K : PySem.W.Frag) : Bool := He.eqO (PySem.W.specialIn K (.builtin "object.__class__") "__get__") (some (some (.builtin "getset_descriptor.__get__"))) && decide (PySem.W.takesIn K (.builtin "object.__class__") = some true)
theorem kit_self {K : PySem.W.Frag} {C : Addr} : PySem.W.kitOne K (.ref C) (.ref C) = some true := by
  unfold PySem.W.kitOne
  rw [if_pos (beq_self_eq_true _)]
theorem iscX {K : PySem.W.Frag} {x : Str} (c : Cls K (He.ga K x)) (h : iscB K x = true) (h0 : cls0B K = true) : C8.InsC K (He.ga K x) := by
  obtain ⟨h1, h2⟩ := Bool.and_eq_true_iff.mp h
  obtain ⟨h3, h4⟩ := Bool.and_eq_true_iff.mp h0
  exact ⟨c, He.eqO_ok h1, He.eqO_ok h3, of_decide_eq_true h4, of_decide_eq_true h2, kit_self⟩
theorem fnTy {K : PySem.W.Frag} {f : Addr} (h : PySem.W.isFn K (.ref f) = true) : PySem.W.typeIn K (.ref f) = some (.type "function") := beq_iff_eq.mp h
theorem cal_up {P : Program} {w : World} {K : PySem.W.Frag} {mg : Str → Option Value} {base : Heap} {j k : Nat} {x : Str} {sp : Sp} (c : C8.Cal P w K mg base j x sp []) (h : j ≤ k := by decide) : C8.Cal P w K mg base k x sp [] := by
  obtain ⟨f, fd, ps, ds, F, r⟩ := c.ex
  exact ⟨f, fd, ps, ds, F.mono h, r⟩
theorem mak_up {P : Program} {w : World} {K : PySem.W.Frag} {mg : Str → Option Value} {base : Heap} {j k : Nat} {x : Str} {C : Addr} {sp : Sp} (c : C8.Mak P w K mg base j x C sp []) (h : j ≤ k := by decide) : C8.Mak P w K mg base k x C sp [] := by
  obtain ⟨f, fd, ps, ds, M, F, r⟩ := c.ex
  exact ⟨f, fd, ps, ds, M, F.mono h, r⟩
end My


set_option Elab.async false
set_option linter.all false
set_option maxRecDepth 100000
set_option maxHeartbeats 0
namespace My
open PySem PySem.Spec PyProof.Rows L2
def faL_0 : List He.Fa := [.free "ValueError",
  .free "abs",
  .free "all",
  .free "any",
  .free "bool",
  .free "enumerate",
  .free "int",
  .free "isinstance",
  .free "len",
  .free "list",
  .free "max",
  .free "min",
  .free "range",
  .free "reversed",
  .free "set"]
def faL_1 : List He.Fa := [.free "sorted",
  .free "staticmethod",
  .free "str",
  .free "sum",
  .free "tuple",
  .free "zip",
  .glo "is_integer",
  .glo "is_within",
  .glo "is_list",
  .glo "is_numbers",
  .glo "is_prime",
  .glo "is_sign",
  .glo "is_signs",
  .glo "flat",
  .glo "first_twice"]
def faL_2 : List He.Fa := [.glo "fixed",
  .glo "is_offer",
  .glo "is_offers",
  .glo "points_of",
  .glo "need_k",
  .glo "need_score",
  .glo "need_reading",
  .glo "many_terms",
  .glo "many_conditions",
  .glo "conditions_of",
  .glo "enough",
  .glo "reach",
  .glo "_law_pen",
  .glo "_law_draw",
  .glo "_law_pick"]
def faL_3 : List He.Fa := [.glo "_law_mixed",
  .glo "_law_made",
  .glo "_law_world",
  .glo "_law_sums",
  .glo "_law_bound_right",
  .glo "law",
  .int "MOST_PLACES" 16,
  .int "MOST_K" 6,
  .int "MOST_OFFERS" 24,
  .int "MOST_WEIGHT" 3,
  .int "MOST_CONDITIONS" 150,
  .glo "PRIMES",
  .glo "Scheme",
  .cls "Scheme",
  .noat "Scheme" "p"]
def faL_4 : List He.Fa := [.noat "Scheme" "places",
  .noat "Scheme" "k",
  .mkr "Scheme",
  .meth "Scheme" "__len__",
  .glo "Reading",
  .cls "Reading",
  .noat "Reading" "scheme",
  .noat "Reading" "offers",
  .noat "Reading" "points",
  .noat "Reading" "weights",
  .noat "Reading" "squares",
  .noat "Reading" "is_plain",
  .mkr "Reading"]
def faL : List He.Fa := faL_0 ++ faL_1 ++ faL_2 ++ faL_3 ++ faL_4
def fnL_0 : List He.DefD := [⟨("is_integer", none), "is_integer", "is_integer", C8.fnArgs s_is_integer, C8.fnBody s_is_integer, C8.fnScope s_is_integer, [], []⟩,
  ⟨("is_within", none), "is_within", "is_within", C8.fnArgs s_is_within, C8.fnBody s_is_within, C8.fnScope s_is_within, [], []⟩,
  ⟨("is_list", none), "is_list", "is_list", C8.fnArgs s_is_list, C8.fnBody s_is_list, C8.fnScope s_is_list, [], []⟩,
  ⟨("is_numbers", none), "is_numbers", "is_numbers", C8.fnArgs s_is_numbers, C8.fnBody s_is_numbers, C8.fnScope s_is_numbers, [], []⟩,
  ⟨("is_prime", none), "is_prime", "is_prime", C8.fnArgs s_is_prime, C8.fnBody s_is_prime, C8.fnScope s_is_prime, [], []⟩,
  ⟨("is_sign", none), "is_sign", "is_sign", C8.fnArgs s_is_sign, C8.fnBody s_is_sign, C8.fnScope s_is_sign, [], []⟩,
  ⟨("is_signs", none), "is_signs", "is_signs", C8.fnArgs s_is_signs, C8.fnBody s_is_signs, C8.fnScope s_is_signs, [], []⟩,
  ⟨("flat", none), "flat", "flat", C8.fnArgs s_flat, C8.fnBody s_flat, C8.fnScope s_flat, [], []⟩,
  ⟨("first_twice", none), "first_twice", "first_twice", C8.fnArgs s_first_twice, C8.fnBody s_first_twice, C8.fnScope s_first_twice, [], []⟩,
  ⟨("fixed", none), "fixed", "fixed", C8.fnArgs s_fixed, C8.fnBody s_fixed, C8.fnScope s_fixed, [], []⟩,
  ⟨("is_offer", none), "is_offer", "is_offer", C8.fnArgs s_is_offer, C8.fnBody s_is_offer, C8.fnScope s_is_offer, [], []⟩,
  ⟨("is_offers", none), "is_offers", "is_offers", C8.fnArgs s_is_offers, C8.fnBody s_is_offers, C8.fnScope s_is_offers, [], []⟩,
  ⟨("points_of", none), "points_of", "points_of", C8.fnArgs s_points_of, C8.fnBody s_points_of, C8.fnScope s_points_of, [], []⟩,
  ⟨("need_k", none), "need_k", "need_k", C8.fnArgs s_need_k, C8.fnBody s_need_k, C8.fnScope s_need_k, [], []⟩,
  ⟨("need_score", none), "need_score", "need_score", C8.fnArgs s_need_score, C8.fnBody s_need_score, C8.fnScope s_need_score, [], []⟩]
def fnL_1 : List He.DefD := [⟨("need_reading", none), "need_reading", "need_reading", C8.fnArgs s_need_reading, C8.fnBody s_need_reading, C8.fnScope s_need_reading, [], []⟩,
  ⟨("many_terms", none), "many_terms", "many_terms", C8.fnArgs s_many_terms, C8.fnBody s_many_terms, C8.fnScope s_many_terms, [], []⟩,
  ⟨("many_conditions", none), "many_conditions", "many_conditions", C8.fnArgs s_many_conditions, C8.fnBody s_many_conditions, C8.fnScope s_many_conditions, [], []⟩,
  ⟨("conditions_of", none), "conditions_of", "conditions_of", C8.fnArgs s_conditions_of, C8.fnBody s_conditions_of, C8.fnScope s_conditions_of, [], []⟩,
  ⟨("enough", none), "enough", "enough", C8.fnArgs s_enough, C8.fnBody s_enough, C8.fnScope s_enough, [], []⟩,
  ⟨("reach", none), "reach", "reach", C8.fnArgs s_reach, C8.fnBody s_reach, C8.fnScope s_reach, [], []⟩,
  ⟨("_law_pen", none), "_law_pen", "_law_pen", C8.fnArgs s__law_pen, C8.fnBody s__law_pen, C8.fnScope s__law_pen, [], []⟩,
  ⟨("_law_draw", none), "_law_draw", "_law_draw", C8.fnArgs s__law_draw, C8.fnBody s__law_draw, C8.fnScope s__law_draw, [], []⟩,
  ⟨("_law_pick", none), "_law_pick", "_law_pick", C8.fnArgs s__law_pick, C8.fnBody s__law_pick, C8.fnScope s__law_pick, [], []⟩,
  ⟨("_law_mixed", none), "_law_mixed", "_law_mixed", C8.fnArgs s__law_mixed, C8.fnBody s__law_mixed, C8.fnScope s__law_mixed, [], []⟩,
  ⟨("_law_made", none), "_law_made", "_law_made", C8.fnArgs s__law_made, C8.fnBody s__law_made, C8.fnScope s__law_made, [], []⟩,
  ⟨("_law_world", none), "_law_world", "_law_world", C8.fnArgs s__law_world, C8.fnBody s__law_world, C8.fnScope s__law_world, [], []⟩,
  ⟨("_law_sums", none), "_law_sums", "_law_sums", C8.fnArgs s__law_sums, C8.fnBody s__law_sums, C8.fnScope s__law_sums, [], []⟩,
  ⟨("_law_bound_right", none), "_law_bound_right", "_law_bound_right", C8.fnArgs s__law_bound_right, C8.fnBody s__law_bound_right, C8.fnScope s__law_bound_right, [], []⟩,
  ⟨("law", none), "law", "law", C8.fnArgs s_law, C8.fnBody s_law, C8.fnScope s_law, [], []⟩]
def fnL_2 : List He.DefD := [⟨("Scheme", some "__init__"), "__init__", "Scheme.__init__", C8.fnArgs s_Scheme_init, C8.fnBody s_Scheme_init, C8.fnScope s_Scheme_init, [], []⟩,
  ⟨("Scheme", some "__len__"), "__len__", "Scheme.__len__", C8.fnArgs s_Scheme_len, C8.fnBody s_Scheme_len, C8.fnScope s_Scheme_len, [], []⟩,
  ⟨("Reading", some "__init__"), "__init__", "Reading.__init__", C8.fnArgs s_Reading_init, C8.fnBody s_Reading_init, C8.fnScope s_Reading_init, [], []⟩]
def fnL : List He.DefD := fnL_0 ++ fnL_1 ++ fnL_2
def namesL_0 : List PySem.Str := ["_wall",
  "fixed",
  "PRIMES",
  "is_integer",
  "is_within",
  "is_list",
  "is_numbers",
  "is_prime",
  "is_sign",
  "is_signs",
  "flat",
  "first_twice",
  "NearError",
  "BadPoly",
  "BadScheme"]
def namesL_1 : List PySem.Str := ["BadReading",
  "BadNumber",
  "Misfit",
  "Missing",
  "NoPlace",
  "NoOffer",
  "Twice",
  "ByZero",
  "TooMany",
  "BadText",
  "MOST_DIGITS",
  "items_of",
  "is_item",
  "number_of",
  "read_number"]
def namesL_2 : List PySem.Str := ["read_prime",
  "read_word",
  "MOST_PLACES",
  "MOST_K",
  "Scheme",
  "read_head",
  "read_place",
  "row_from",
  "inverse_of",
  "value_at",
  "sum_of",
  "scaled",
  "difference_of",
  "packed",
  "unpacked"]
def namesL_3 : List PySem.Str := ["product_of",
  "power_of",
  "composed",
  "quotient_and_rest",
  "Poly",
  "need_fitting",
  "need_divisor",
  "need_scheme",
  "need_word",
  "is_word",
  "row_of",
  "MOST_OFFERS",
  "MOST_WEIGHT",
  "Reading",
  "need_reading"]
def namesL_4 : List PySem.Str := ["need_place",
  "is_offer",
  "is_offers",
  "is_plain_row",
  "is_offered",
  "points_of",
  "place_text",
  "read_pairs",
  "MOST_CONDITIONS",
  "need_k",
  "many_terms",
  "many_conditions",
  "need_score",
  "conditions_of",
  "enough"]
def namesL_5 : List PySem.Str := ["reach",
  "_law_pen",
  "_law_draw",
  "_law_pick",
  "_law_mixed",
  "_law_made",
  "_law_world",
  "_law_sums",
  "_law_bound_right"]
def namesL : List PySem.Str := namesL_0 ++ namesL_1 ++ namesL_2 ++ namesL_3 ++ namesL_4 ++ namesL_5
def xsL_0 : List PySem.Str := ["is_integer",
  "is_within",
  "is_list",
  "is_numbers",
  "is_prime",
  "is_sign",
  "is_signs",
  "flat",
  "first_twice",
  "fixed",
  "is_offer",
  "is_offers",
  "points_of",
  "need_k",
  "need_score"]
def xsL_1 : List PySem.Str := ["need_reading",
  "many_terms",
  "many_conditions",
  "conditions_of",
  "enough",
  "reach",
  "_law_pen",
  "_law_draw",
  "_law_pick",
  "_law_mixed",
  "_law_made",
  "_law_world",
  "_law_sums",
  "_law_bound_right",
  "law"]
def xsL_2 : List PySem.Str := ["PRIMES",
  "Scheme",
  "Reading"]
def xsL : List PySem.Str := xsL_0 ++ xsL_1 ++ xsL_2
def exL (K : PySem.W.Frag) : Bool := [He.tupB K "PRIMES" (primes.map He.Dv.int), cls0B K, iscB K "Scheme", iscB K "Reading"].all id
abbrev RL : PySem.W.OpenRow := PySem.W.OpenLaw.row PySem.Challenge.rw_allnear_k36_some_m_is_enough
abbrev hkL : PySem.W.Hook := hookX xsL faL fnL exL
def obL (s : PySem.W.SharedT) : He.AlD := obsX xsL faL fnL exL (HandSHeadRun.getT s)
theorem obL_eq (s : PySem.W.SharedT) : obL s = hkL.obs s.abs := obsX_eq (HandSHeadRun.getT_eq s)
theorem runL (w : World) : HandSHeadRun.RunEq RL (PySem.W.view RL.prog [96]) hkL obL 40000 namesL w := by
  intro os
  kernel_rfl
theorem factsL {P : Program} {w : World} {K : PySem.W.Frag} {h : Heap} {mg : Str → Option Value} {fa : Addr} (X : K.In h) (G : h.Ns mainGlobals mg) (hfa : mg ("law" : Str) = some (.ref fa)) (c : SaysX faL fnL exL K) :
    ∃ fd : FuncData, (∀ (s : Shared) (v : Value), BindsTo s fd ⟨[v], []⟩ [("script", v)]) ∧ ∀ base : Heap, K.In base → base.Ns mainGlobals mg → FnOk P w K mg base CX0 9 fa fd ["script"] (spLaw K) := by
  obtain ⟨c, e0⟩ := c
  have exs : ∀ b ∈ ([He.tupB K "PRIMES" (primes.map He.Dv.int), cls0B K, iscB K "Scheme", iscB K "Reading"] : List Bool), id b = true := List.all_eq_true.mp e0
  have x_0 : (He.tupB K "PRIMES" (primes.map He.Dv.int)) = true := exs _ (List.mem_of_getElem? (i := 0) rfl)
  have x_1 : (cls0B K) = true := exs _ (List.mem_of_getElem? (i := 1) rfl)
  have x_2 : (iscB K "Scheme") = true := exs _ (List.mem_of_getElem? (i := 2) rfl)
  have x_3 : (iscB K "Reading") = true := exs _ (List.mem_of_getElem? (i := 3) rfl)
  have T : Txt K mg := ⟨He.free_ok X G (c.fact 0 (f := .free "ValueError") rfl), He.free_ok X G (c.fact 1 (f := .free "abs") rfl), He.free_ok X G (c.fact 2 (f := .free "all") rfl), He.free_ok X G (c.fact 3 (f := .free "any") rfl), He.free_ok X G (c.fact 4 (f := .free "bool") rfl), He.free_ok X G (c.fact 5 (f := .free "enumerate") rfl), He.free_ok X G (c.fact 6 (f := .free "int") rfl), He.free_ok X G (c.fact 7 (f := .free "isinstance") rfl), He.free_ok X G (c.fact 8 (f := .free "len") rfl), He.free_ok X G (c.fact 9 (f := .free "list") rfl), He.free_ok X G (c.fact 10 (f := .free "max") rfl), He.free_ok X G (c.fact 11 (f := .free "min") rfl), He.free_ok X G (c.fact 12 (f := .free "range") rfl), He.free_ok X G (c.fact 13 (f := .free "reversed") rfl), He.free_ok X G (c.fact 14 (f := .free "set") rfl), He.free_ok X G (c.fact 15 (f := .free "sorted") rfl), He.free_ok X G (c.fact 16 (f := .free "staticmethod") rfl), He.free_ok X G (c.fact 17 (f := .free "str") rfl), He.free_ok X G (c.fact 18 (f := .free "sum") rfl), He.free_ok X G (c.fact 19 (f := .free "tuple") rfl), He.free_ok X G (c.fact 20 (f := .free "zip") rfl)⟩
  obtain ⟨fd_is_integer, FD_is_integer⟩ := c.def_ 0 (d := ⟨("is_integer", none), "is_integer", "is_integer", C8.fnArgs s_is_integer, C8.fnBody s_is_integer, C8.fnScope s_is_integer, [], []⟩) rfl
  have D_is_integer : DefK K mg "is_integer" s_is_integer P_is_integer := defX FD_is_integer (He.glo_ok X G (c.fact 21 (f := .glo "is_integer") rfl)) fun _ _ _ _ _ _ us hl => match us, hl with | [_], _ => rfl
  obtain ⟨fd_is_within, FD_is_within⟩ := c.def_ 1 (d := ⟨("is_within", none), "is_within", "is_within", C8.fnArgs s_is_within, C8.fnBody s_is_within, C8.fnScope s_is_within, [], []⟩) rfl
  have D_is_within : DefK K mg "is_within" s_is_within P_is_within := defX FD_is_within (He.glo_ok X G (c.fact 22 (f := .glo "is_within") rfl)) fun _ _ _ _ _ _ us hl => match us, hl with | [_, _, _], _ => rfl
  obtain ⟨fd_is_list, FD_is_list⟩ := c.def_ 2 (d := ⟨("is_list", none), "is_list", "is_list", C8.fnArgs s_is_list, C8.fnBody s_is_list, C8.fnScope s_is_list, [], []⟩) rfl
  have D_is_list : DefK K mg "is_list" s_is_list P_is_list := defX FD_is_list (He.glo_ok X G (c.fact 23 (f := .glo "is_list") rfl)) fun _ _ _ _ _ _ us hl => match us, hl with | [_], _ => rfl
  obtain ⟨fd_is_numbers, FD_is_numbers⟩ := c.def_ 3 (d := ⟨("is_numbers", none), "is_numbers", "is_numbers", C8.fnArgs s_is_numbers, C8.fnBody s_is_numbers, C8.fnScope s_is_numbers, [], []⟩) rfl
  have D_is_numbers : DefK K mg "is_numbers" s_is_numbers P_is_numbers := defX FD_is_numbers (He.glo_ok X G (c.fact 24 (f := .glo "is_numbers") rfl)) fun _ _ _ _ _ _ us hl => match us, hl with | [_], _ => rfl
  obtain ⟨fd_is_prime, FD_is_prime⟩ := c.def_ 4 (d := ⟨("is_prime", none), "is_prime", "is_prime", C8.fnArgs s_is_prime, C8.fnBody s_is_prime, C8.fnScope s_is_prime, [], []⟩) rfl
  have D_is_prime : DefK K mg "is_prime" s_is_prime P_is_prime := defX FD_is_prime (He.glo_ok X G (c.fact 25 (f := .glo "is_prime") rfl)) fun _ _ _ _ _ _ us hl => match us, hl with | [_], _ => rfl
  obtain ⟨fd_is_sign, FD_is_sign⟩ := c.def_ 5 (d := ⟨("is_sign", none), "is_sign", "is_sign", C8.fnArgs s_is_sign, C8.fnBody s_is_sign, C8.fnScope s_is_sign, [], []⟩) rfl
  have D_is_sign : DefK K mg "is_sign" s_is_sign P_is_sign := defX FD_is_sign (He.glo_ok X G (c.fact 26 (f := .glo "is_sign") rfl)) fun _ _ _ _ _ _ us hl => match us, hl with | [_, _], _ => rfl
  obtain ⟨fd_is_signs, FD_is_signs⟩ := c.def_ 6 (d := ⟨("is_signs", none), "is_signs", "is_signs", C8.fnArgs s_is_signs, C8.fnBody s_is_signs, C8.fnScope s_is_signs, [], []⟩) rfl
  have D_is_signs : DefK K mg "is_signs" s_is_signs P_is_signs := defX FD_is_signs (He.glo_ok X G (c.fact 27 (f := .glo "is_signs") rfl)) fun _ _ _ _ _ _ us hl => match us, hl with | [_, _], _ => rfl
  obtain ⟨fd_flat, FD_flat⟩ := c.def_ 7 (d := ⟨("flat", none), "flat", "flat", C8.fnArgs s_flat, C8.fnBody s_flat, C8.fnScope s_flat, [], []⟩) rfl
  have D_flat : DefK K mg "flat" s_flat P_flat := defX FD_flat (He.glo_ok X G (c.fact 28 (f := .glo "flat") rfl)) fun _ _ _ _ _ _ us hl => match us, hl with | [_], _ => rfl
  obtain ⟨fd_first_twice, FD_first_twice⟩ := c.def_ 8 (d := ⟨("first_twice", none), "first_twice", "first_twice", C8.fnArgs s_first_twice, C8.fnBody s_first_twice, C8.fnScope s_first_twice, [], []⟩) rfl
  have D_first_twice : DefK K mg "first_twice" s_first_twice P_first_twice := defX FD_first_twice (He.glo_ok X G (c.fact 29 (f := .glo "first_twice") rfl)) fun _ _ _ _ _ _ us hl => match us, hl with | [_], _ => rfl
  obtain ⟨fd_fixed, FD_fixed⟩ := c.def_ 9 (d := ⟨("fixed", none), "fixed", "fixed", C8.fnArgs s_fixed, C8.fnBody s_fixed, C8.fnScope s_fixed, [], []⟩) rfl
  have D_fixed : DefK K mg "fixed" s_fixed P_fixed := defX FD_fixed (He.glo_ok X G (c.fact 30 (f := .glo "fixed") rfl)) fun _ _ _ _ _ _ us hl => match us, hl with | [_], _ => rfl
  obtain ⟨fd_is_offer, FD_is_offer⟩ := c.def_ 10 (d := ⟨("is_offer", none), "is_offer", "is_offer", C8.fnArgs s_is_offer, C8.fnBody s_is_offer, C8.fnScope s_is_offer, [], []⟩) rfl
  have D_is_offer : DefK K mg "is_offer" s_is_offer P_is_offer := defX FD_is_offer (He.glo_ok X G (c.fact 31 (f := .glo "is_offer") rfl)) fun _ _ _ _ _ _ us hl => match us, hl with | [_, _], _ => rfl
  obtain ⟨fd_is_offers, FD_is_offers⟩ := c.def_ 11 (d := ⟨("is_offers", none), "is_offers", "is_offers", C8.fnArgs s_is_offers, C8.fnBody s_is_offers, C8.fnScope s_is_offers, [], []⟩) rfl
  have D_is_offers : DefK K mg "is_offers" s_is_offers P_is_offers := defX FD_is_offers (He.glo_ok X G (c.fact 32 (f := .glo "is_offers") rfl)) fun _ _ _ _ _ _ us hl => match us, hl with | [_, _], _ => rfl
  obtain ⟨fd_points_of, FD_points_of⟩ := c.def_ 12 (d := ⟨("points_of", none), "points_of", "points_of", C8.fnArgs s_points_of, C8.fnBody s_points_of, C8.fnScope s_points_of, [], []⟩) rfl
  have D_points_of : DefK K mg "points_of" s_points_of P_points_of := defX FD_points_of (He.glo_ok X G (c.fact 33 (f := .glo "points_of") rfl)) fun _ _ _ _ _ _ us hl => match us, hl with | [_, _], _ => rfl
  obtain ⟨fd_need_k, FD_need_k⟩ := c.def_ 13 (d := ⟨("need_k", none), "need_k", "need_k", C8.fnArgs s_need_k, C8.fnBody s_need_k, C8.fnScope s_need_k, [], []⟩) rfl
  have D_need_k : DefK K mg "need_k" s_need_k P_need_k := defX FD_need_k (He.glo_ok X G (c.fact 34 (f := .glo "need_k") rfl)) fun _ _ _ _ _ _ us hl => match us, hl with | [_], _ => rfl
  obtain ⟨fd_need_score, FD_need_score⟩ := c.def_ 14 (d := ⟨("need_score", none), "need_score", "need_score", C8.fnArgs s_need_score, C8.fnBody s_need_score, C8.fnScope s_need_score, [], []⟩) rfl
  have D_need_score : DefK K mg "need_score" s_need_score P_need_score := defX FD_need_score (He.glo_ok X G (c.fact 35 (f := .glo "need_score") rfl)) fun _ _ _ _ _ _ us hl => match us, hl with | [_], _ => rfl
  obtain ⟨fd_need_reading, FD_need_reading⟩ := c.def_ 15 (d := ⟨("need_reading", none), "need_reading", "need_reading", C8.fnArgs s_need_reading, C8.fnBody s_need_reading, C8.fnScope s_need_reading, [], []⟩) rfl
  have D_need_reading : DefK K mg "need_reading" s_need_reading P_need_reading := defX FD_need_reading (He.glo_ok X G (c.fact 36 (f := .glo "need_reading") rfl)) fun _ _ _ _ _ _ us hl => match us, hl with | [_], _ => rfl
  obtain ⟨fd_many_terms, FD_many_terms⟩ := c.def_ 16 (d := ⟨("many_terms", none), "many_terms", "many_terms", C8.fnArgs s_many_terms, C8.fnBody s_many_terms, C8.fnScope s_many_terms, [], []⟩) rfl
  have D_many_terms : DefK K mg "many_terms" s_many_terms P_many_terms := defX FD_many_terms (He.glo_ok X G (c.fact 37 (f := .glo "many_terms") rfl)) fun _ _ _ _ _ _ us hl => match us, hl with | [_, _], _ => rfl
  obtain ⟨fd_many_conditions, FD_many_conditions⟩ := c.def_ 17 (d := ⟨("many_conditions", none), "many_conditions", "many_conditions", C8.fnArgs s_many_conditions, C8.fnBody s_many_conditions, C8.fnScope s_many_conditions, [], []⟩) rfl
  have D_many_conditions : DefK K mg "many_conditions" s_many_conditions P_many_conditions := defX FD_many_conditions (He.glo_ok X G (c.fact 38 (f := .glo "many_conditions") rfl)) fun _ _ _ _ _ _ us hl => match us, hl with | [_], _ => rfl
  obtain ⟨fd_conditions_of, FD_conditions_of⟩ := c.def_ 18 (d := ⟨("conditions_of", none), "conditions_of", "conditions_of", C8.fnArgs s_conditions_of, C8.fnBody s_conditions_of, C8.fnScope s_conditions_of, [], []⟩) rfl
  have D_conditions_of : DefK K mg "conditions_of" s_conditions_of P_conditions_of := defX FD_conditions_of (He.glo_ok X G (c.fact 39 (f := .glo "conditions_of") rfl)) fun _ _ _ _ _ _ us hl => match us, hl with | [_, _], _ => rfl
  obtain ⟨fd_enough, FD_enough⟩ := c.def_ 19 (d := ⟨("enough", none), "enough", "enough", C8.fnArgs s_enough, C8.fnBody s_enough, C8.fnScope s_enough, [], []⟩) rfl
  have D_enough : DefK K mg "enough" s_enough P_enough := defX FD_enough (He.glo_ok X G (c.fact 40 (f := .glo "enough") rfl)) fun _ _ _ _ _ _ us hl => match us, hl with | [_, _], _ => rfl
  obtain ⟨fd_reach, FD_reach⟩ := c.def_ 20 (d := ⟨("reach", none), "reach", "reach", C8.fnArgs s_reach, C8.fnBody s_reach, C8.fnScope s_reach, [], []⟩) rfl
  have D_reach : DefK K mg "reach" s_reach P_reach := defX FD_reach (He.glo_ok X G (c.fact 41 (f := .glo "reach") rfl)) fun _ _ _ _ _ _ us hl => match us, hl with | [_], _ => rfl
  obtain ⟨fd__law_pen, FD__law_pen⟩ := c.def_ 21 (d := ⟨("_law_pen", none), "_law_pen", "_law_pen", C8.fnArgs s__law_pen, C8.fnBody s__law_pen, C8.fnScope s__law_pen, [], []⟩) rfl
  have D__law_pen : DefK K mg "_law_pen" s__law_pen P__law_pen := defX FD__law_pen (He.glo_ok X G (c.fact 42 (f := .glo "_law_pen") rfl)) fun _ _ _ _ _ _ us hl => match us, hl with | [_], _ => rfl
  obtain ⟨fd__law_draw, FD__law_draw⟩ := c.def_ 22 (d := ⟨("_law_draw", none), "_law_draw", "_law_draw", C8.fnArgs s__law_draw, C8.fnBody s__law_draw, C8.fnScope s__law_draw, [], []⟩) rfl
  have D__law_draw : DefK K mg "_law_draw" s__law_draw P__law_draw := defX FD__law_draw (He.glo_ok X G (c.fact 43 (f := .glo "_law_draw") rfl)) fun _ _ _ _ _ _ us hl => match us, hl with | [_, _], _ => rfl
  obtain ⟨fd__law_pick, FD__law_pick⟩ := c.def_ 23 (d := ⟨("_law_pick", none), "_law_pick", "_law_pick", C8.fnArgs s__law_pick, C8.fnBody s__law_pick, C8.fnScope s__law_pick, [], []⟩) rfl
  have D__law_pick : DefK K mg "_law_pick" s__law_pick P__law_pick := defX FD__law_pick (He.glo_ok X G (c.fact 44 (f := .glo "_law_pick") rfl)) fun _ _ _ _ _ _ us hl => match us, hl with | [_, _], _ => rfl
  obtain ⟨fd__law_mixed, FD__law_mixed⟩ := c.def_ 24 (d := ⟨("_law_mixed", none), "_law_mixed", "_law_mixed", C8.fnArgs s__law_mixed, C8.fnBody s__law_mixed, C8.fnScope s__law_mixed, [], []⟩) rfl
  have D__law_mixed : DefK K mg "_law_mixed" s__law_mixed P__law_mixed := defX FD__law_mixed (He.glo_ok X G (c.fact 45 (f := .glo "_law_mixed") rfl)) fun _ _ _ _ _ _ us hl => match us, hl with | [_, _], _ => rfl
  obtain ⟨fd__law_made, FD__law_made⟩ := c.def_ 25 (d := ⟨("_law_made", none), "_law_made", "_law_made", C8.fnArgs s__law_made, C8.fnBody s__law_made, C8.fnScope s__law_made, [], []⟩) rfl
  have D__law_made : DefK K mg "_law_made" s__law_made P__law_made := defX FD__law_made (He.glo_ok X G (c.fact 46 (f := .glo "_law_made") rfl)) fun _ _ _ _ _ _ us hl => match us, hl with | [_], _ => rfl
  obtain ⟨fd__law_world, FD__law_world⟩ := c.def_ 26 (d := ⟨("_law_world", none), "_law_world", "_law_world", C8.fnArgs s__law_world, C8.fnBody s__law_world, C8.fnScope s__law_world, [], []⟩) rfl
  have D__law_world : DefK K mg "_law_world" s__law_world P__law_world := defX FD__law_world (He.glo_ok X G (c.fact 47 (f := .glo "_law_world") rfl)) fun _ _ _ _ _ _ us hl => match us, hl with | [_], _ => rfl
  obtain ⟨fd__law_sums, FD__law_sums⟩ := c.def_ 27 (d := ⟨("_law_sums", none), "_law_sums", "_law_sums", C8.fnArgs s__law_sums, C8.fnBody s__law_sums, C8.fnScope s__law_sums, [], []⟩) rfl
  have D__law_sums : DefK K mg "_law_sums" s__law_sums P__law_sums := defX FD__law_sums (He.glo_ok X G (c.fact 48 (f := .glo "_law_sums") rfl)) fun _ _ _ _ _ _ us hl => match us, hl with | [_], _ => rfl
  obtain ⟨fd__law_bound_right, FD__law_bound_right⟩ := c.def_ 28 (d := ⟨("_law_bound_right", none), "_law_bound_right", "_law_bound_right", C8.fnArgs s__law_bound_right, C8.fnBody s__law_bound_right, C8.fnScope s__law_bound_right, [], []⟩) rfl
  have D__law_bound_right : DefK K mg "_law_bound_right" s__law_bound_right P__law_bound_right := defX FD__law_bound_right (He.glo_ok X G (c.fact 49 (f := .glo "_law_bound_right") rfl)) fun _ _ _ _ _ _ us hl => match us, hl with | [_, _, _], _ => rfl
  obtain ⟨fd_law, FD_law⟩ := c.def_ 29 (d := ⟨("law", none), "law", "law", C8.fnArgs s_law, C8.fnBody s_law, C8.fnScope s_law, [], []⟩) rfl
  have PR : PrimesC K mg (He.ga K "PRIMES") := ⟨He.glo_ok X G (c.fact 56 (f := .glo "PRIMES") rfl), fun H => by have z := He.tupB_ok x_0 H; rw [List.map_map] at z; exact z⟩
  have I_MOST_PLACES : ConI mg "MOST_PLACES" 16 := by obtain ⟨t, e⟩ := He.int_ok X G (c.fact 51 (f := .int "MOST_PLACES" 16) rfl); exact ⟨_, e, ⟨t, rfl⟩⟩
  have I_MOST_K : ConI mg "MOST_K" 6 := by obtain ⟨t, e⟩ := He.int_ok X G (c.fact 52 (f := .int "MOST_K" 6) rfl); exact ⟨_, e, ⟨t, rfl⟩⟩
  have I_MOST_OFFERS : ConI mg "MOST_OFFERS" 24 := by obtain ⟨t, e⟩ := He.int_ok X G (c.fact 53 (f := .int "MOST_OFFERS" 24) rfl); exact ⟨_, e, ⟨t, rfl⟩⟩
  have I_MOST_WEIGHT : ConI mg "MOST_WEIGHT" 3 := by obtain ⟨t, e⟩ := He.int_ok X G (c.fact 54 (f := .int "MOST_WEIGHT" 3) rfl); exact ⟨_, e, ⟨t, rfl⟩⟩
  have I_MOST_CONDITIONS : ConI mg "MOST_CONDITIONS" 150 := by obtain ⟨t, e⟩ := He.int_ok X G (c.fact 55 (f := .int "MOST_CONDITIONS" 150) rfl); exact ⟨_, e, ⟨t, rfl⟩⟩
  have L_Scheme : Cls K (He.ga K "Scheme") := He.cls_ok (c.fact 58 (f := .cls "Scheme") rfl)
  have S_Scheme : C8.InsC K (He.ga K "Scheme") := iscX L_Scheme x_2 x_1
  have g_Scheme : mg "Scheme" = some (.ref (He.ga K "Scheme")) := He.glo_ok X G (c.fact 57 (f := .glo "Scheme") rfl)
  have n_Scheme_p : NoAttr K (He.ga K "Scheme") "p" := He.noat_ok (c.fact 59 (f := .noat "Scheme" "p") rfl)
  have n_Scheme_places : NoAttr K (He.ga K "Scheme") "places" := He.noat_ok (c.fact 60 (f := .noat "Scheme" "places") rfl)
  have n_Scheme_k : NoAttr K (He.ga K "Scheme") "k" := He.noat_ok (c.fact 61 (f := .noat "Scheme" "k") rfl)
  obtain ⟨fd_Scheme_init, FD_Scheme_init⟩ := c.def_ 30 (d := ⟨("Scheme", some "__init__"), "__init__", "Scheme.__init__", C8.fnArgs s_Scheme_init, C8.fnBody s_Scheme_init, C8.fnScope s_Scheme_init, [], []⟩) rfl
  obtain ⟨F_Scheme_init, Z_Scheme_init⟩ := funX (x := "__init__") (q := "Scheme.__init__") (st := s_Scheme_init) FD_Scheme_init
  have B_Scheme_init := C8.Fun.binds F_Scheme_init Z_Scheme_init (ps := P_Scheme_init) fun _ _ _ _ _ _ us hl => match us, hl with | [_, _, _, _], _ => rfl
  have M_Scheme : Mk K (He.ga K "Scheme") (He.ma K (He.ga K "Scheme") "__init__") := He.mkr_ok (c.fact 62 (f := .mkr "Scheme") rfl)
  obtain ⟨fd_Scheme_len, FD_Scheme_len⟩ := c.def_ 31 (d := ⟨("Scheme", some "__len__"), "__len__", "Scheme.__len__", C8.fnArgs s_Scheme_len, C8.fnBody s_Scheme_len, C8.fnScope s_Scheme_len, [], []⟩) rfl
  obtain ⟨F_Scheme_len, Z_Scheme_len⟩ := funX (x := "__len__") (q := "Scheme.__len__") (st := s_Scheme_len) FD_Scheme_len
  have B_Scheme_len := C8.Fun.binds F_Scheme_len Z_Scheme_len (ps := P_Scheme_len) fun _ _ _ _ _ _ us hl => match us, hl with | [_], _ => rfl
  have E_Scheme_len : Meth K (He.ga K "Scheme") "__len__" (He.ma K (He.ga K "Scheme") "__len__") := He.meth_ok (c.fact 63 (f := .meth "Scheme" "__len__") rfl)
  have L_Reading : Cls K (He.ga K "Reading") := He.cls_ok (c.fact 65 (f := .cls "Reading") rfl)
  have S_Reading : C8.InsC K (He.ga K "Reading") := iscX L_Reading x_3 x_1
  have g_Reading : mg "Reading" = some (.ref (He.ga K "Reading")) := He.glo_ok X G (c.fact 64 (f := .glo "Reading") rfl)
  have n_Reading_scheme : NoAttr K (He.ga K "Reading") "scheme" := He.noat_ok (c.fact 66 (f := .noat "Reading" "scheme") rfl)
  have n_Reading_offers : NoAttr K (He.ga K "Reading") "offers" := He.noat_ok (c.fact 67 (f := .noat "Reading" "offers") rfl)
  have n_Reading_points : NoAttr K (He.ga K "Reading") "points" := He.noat_ok (c.fact 68 (f := .noat "Reading" "points") rfl)
  have n_Reading_weights : NoAttr K (He.ga K "Reading") "weights" := He.noat_ok (c.fact 69 (f := .noat "Reading" "weights") rfl)
  have n_Reading_squares : NoAttr K (He.ga K "Reading") "squares" := He.noat_ok (c.fact 70 (f := .noat "Reading" "squares") rfl)
  have n_Reading_is_plain : NoAttr K (He.ga K "Reading") "is_plain" := He.noat_ok (c.fact 71 (f := .noat "Reading" "is_plain") rfl)
  obtain ⟨fd_Reading_init, FD_Reading_init⟩ := c.def_ 32 (d := ⟨("Reading", some "__init__"), "__init__", "Reading.__init__", C8.fnArgs s_Reading_init, C8.fnBody s_Reading_init, C8.fnScope s_Reading_init, [], []⟩) rfl
  obtain ⟨F_Reading_init, Z_Reading_init⟩ := funX (x := "__init__") (q := "Reading.__init__") (st := s_Reading_init) FD_Reading_init
  have B_Reading_init := C8.Fun.binds F_Reading_init Z_Reading_init (ps := P_Reading_init) fun _ _ _ _ _ _ us hl => match us, hl with | [_, _, _], _ => rfl
  have M_Reading : Mk K (He.ga K "Reading") (He.ma K (He.ga K "Reading") "__init__") := He.mkr_ok (c.fact 72 (f := .mkr "Reading") rfl)
  have e := hfa.symm.trans (He.glo_ok X G (c.fact 50 (f := .glo "law") rfl))
  cases e
  obtain ⟨FL, ZL⟩ := funX (x := "law") (q := "law") (st := s_law) FD_law
  have BL := FunD.bindsA (ps := ["script"]) FD_law fun _ _ _ _ _ _ us hl => match us, hl with | [_], _ => rfl
  refine ⟨fd_law, fun s v => BL s [v] rfl, fun base _ _ => ?_⟩
  have SC : SchC K mg (He.ga K "Scheme") (He.ma K (He.ga K "Scheme") "__len__") := ⟨L_Scheme, n_Scheme_p, n_Scheme_places, n_Scheme_k, S_Scheme, ⟨E_Scheme_len.at_, fnTy E_Scheme_len.fn⟩, g_Scheme⟩
  have RC : RdC K mg (He.ga K "Reading") := ⟨L_Reading, n_Reading_scheme, n_Reading_offers, n_Reading_points, n_Reading_weights, n_Reading_squares, n_Reading_is_plain, S_Reading, g_Reading⟩
  have int_ := (ok_is_integer (P := P) (w := w) (base := base) (k := 0) T D_is_integer).cal
  have within_ := (ok_is_within T D_is_within int_).cal
  have list_ := ok_is_list (P := P) (w := w) (base := base) (k := 0) T D_is_list.b
  have nums_ := (ok_is_numbers T D_is_numbers list_ int_).cal
  have prime_ := (ok_is_prime T PR D_is_prime int_).cal
  have sign_ := (ok_is_sign T D_is_sign prime_ within_).cal
  have signs_ := (ok_is_signs T D_is_signs (cal_up list_ (k := 2)) within_).cal
  have flat_ := ok_flatN (P := P) (w := w) (base := base) T D_flat.b list_ 1
  have fixed_ := ok_fixN (P := P) (w := w) (base := base) T D_fixed.b 1
  have twice_ := (ok_first_twice T D_first_twice flat_ fixed_).cal
  have mkS := ok_Scheme_init (k := 3) T SC M_Scheme F_Scheme_init B_Scheme_init I_MOST_PLACES I_MOST_K (cal_up prime_) signs_ twice_ (cal_up within_)
  have lenS := ok_Scheme_len (P := P) (w := w) (base := base) T SC F_Scheme_len
  have offer_ := ok_is_offer (k := 3) T D_is_offer.b I_MOST_WEIGHT (cal_up list_) sign_ (cal_up within_)
  have offers_ := ok_is_offers (k := 4) T D_is_offers.b SC lenS B_Scheme_len (by decide) (cal_up list_) offer_
  have points_ := ok_points_of (P := P) (w := w) (base := base) (k := 0) T D_points_of.b
  have mkR := ok_Reading_init (k := 5) T RC SC M_Reading F_Reading_init B_Reading_init I_MOST_OFFERS offers_ (cal_up twice_) (cal_up points_)
  have nk_ := ok_need_k T D_need_k.b within_
  have nt_ := ok_need_score T D_need_score.b within_
  have nr_ := ok_need_reading (P := P) (w := w) (base := base) (k := 0) T RC D_need_reading.b
  have terms_ := ok_many_terms T D_many_terms.b nk_ (cal_up int_)
  have conds_ := ok_many_conditions T D_many_conditions.b nums_
  have of_ := ok_conditions_of (CS := He.ga K "Scheme") T RC D_conditions_of.b (cal_up nr_) (cal_up within_) conds_
  have enough_ := ok_enough T RC SC I_MOST_CONDITIONS D_enough.b (cal_up nr_) (cal_up nt_) of_ terms_
  have reach_ := ok_reach T D_reach.b (cal_up nr_) enough_
  have pen_ := ok__law_pen (P := P) (w := w) (base := base) (k := 0) T D__law_pen.b
  have draw_ := ok__law_draw (P := P) (w := w) (base := base) (k := 0) T D__law_draw.b
  have pick_ := ok__law_pick T D__law_pick.b draw_
  have mixed_ := ok__law_mixed T D__law_mixed.b draw_
  have made_ := ok__law_made T D__law_made.b (mak_up mkS (k := 6)) mkR
  have world_ := ok__law_world T D__law_world.b pick_ (cal_up draw_) mixed_
  have sums_ := ok__law_sums (P := P) (w := w) (base := base) (k := 0) T D__law_sums.b
  have bound_ := ok__law_bound_right T RC SC D__law_bound_right.b (cal_up sums_) (cal_up of_) enough_ (cal_up terms_)
  exact fn_law (k := 8) T RC FL (cal_up pen_) (cal_up world_) made_ (cal_up sums_) (cal_up bound_) (cal_up reach_) (cal_up pick_) (cal_up draw_) (cal_up terms_)
end My
open PySem PySem.W PySem.Calls PyProof.Rows
theorem PySem.Challenge.cw_allnear_k36_some_m_is_enough_holds : PySem.Challenge.rw_allnear_k36_some_m_is_enough.Holds := by
  w_on; o_law
  refine HandSHeadRun.head_any (r := OpenLaw.row PySem.Challenge.rw_allnear_k36_some_m_is_enough) (q := view (OpenLaw.row PySem.Challenge.rw_allnear_k36_some_m_is_enough).prog [96]) (H := My.hkL) (ob := My.obL) (M := 40000) (loose := My.namesL) (d := HandSHeadRun.topDef (OpenLaw.row PySem.Challenge.rw_allnear_k36_some_m_is_enough).prog 96) (kwd := []) My.obL_eq
    (by kernel_rfl) (fun s => by kernel_rfl) My.runL (by kernel_rfl) (by kernel_rfl) (by kernel_rfl) (by rfl) (by first | assumption | decide +kernel) (by decide +kernel) ⟨rfl, rfl, rfl, rfl, rfl, by decide +kernel⟩ ?hw ?hc
  case hw => w_witness2
  case hc =>
    refine L2.walk_ofE (l := PySem.Challenge.rw_allnear_k36_some_m_is_enough) (n := 63) (k := 9) (x := "script") (CX := L2.CX0) rfl (by decide) (by kernel_rfl) ⟨rfl, by decide, by decide⟩ ?F (fun _ _ _ _ z => z)
    intro w mg fa h Y G hmg0
    obtain ⟨K, KX, c⟩ := Y
    have hmg : mg ("law" : PySem.Str) = some (.ref fa) := by
      have e : (HandSHeadRun.topDef (OpenLaw.row PySem.Challenge.rw_allnear_k36_some_m_is_enough).prog 96).name = ("law" : PySem.Str) := by kernel_rfl
      rw [← e]
      exact hmg0
    obtain ⟨fd, hb, hF⟩ := My.factsL (P := (PySem.Challenge.rw_allnear_k36_some_m_is_enough).prog) (w := w) KX G hmg c
    exact ⟨K, fd, My.spLaw K, KX, hb, fun H a ns hl _ hS => ⟨a, ns, rfl, hS, hl, fun _ => rfl⟩, hF⟩

