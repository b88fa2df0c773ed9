import PyProof.Rows.All
import Wide.All
import OpenK.AllK
import Wide.FinOn
import PySem.Challenge.RW_movedstates_k06_marks_stay_true
import HandS.Base
import HandS.Call
import HandS.List
import HandS.Comp
import HandS.Ends
import HandS.Dict
import HandS.Iter
import HandS.Text
import HandS.More
import HandS.Words
import HandS.WordsList
import HandS.Wide
import HandS.SortInts
import HandS.DictComp
import HandS.Walk
import HandS.Exc
import HandS.ExcOwn
import HandS.TryOnly
import HandS.WordsExc
import HandS.IsInst
import HandS.ExcIs
import HandS.ExcInit
import HandS.SetKeys
import HandS.Style
import HandS.Conv
import HandS.FStr
import KE.KDictSum
import KE.KDictList
import PyProof.TupleOfSeq
import PyProof.DictValues
import KE.GoesEnum
import KE.GoesMore
import KE.SortKeyHeap
import HandS.Lambda
import HandS.SortKw
import HandS.TupAny
import PyProof.ListMulRoad
import PyProof.FactsAll.tuple_2
import HandS.TupMul
import HandS.Defaults
import HandS.CallSlots
import HandS.TryMany
import KE.KExcIs
import HandS.Steps
import HandS.Property
import KE.KExcSuper
import KE.KSuper
import HandS.FStrTup
import HandS.ExcSuper
import KE.KSortTupG
import HandS.TupSets
import HandS.EndTab
import KE.KNestM
set_option Elab.async false
set_option linter.all false
set_option maxRecDepth 100000
set_option maxHeartbeats 4000000
namespace Mv
open PySem PySem.Spec PyProof.Rows L2
/-! ### calls by their promises -/
/-- a def that may be called by its name -/
structure CalX (CX : CXT) (P : Program) (w : World) (K : PySem.W.Frag) (mg : Str → Option Value) (base : Heap) (k : Nat) (x : Str) (sp : Sp) : Prop where
  ex : ∃ (f : Addr) (fd : FuncData) (ps : List Str), FnOk P w K mg base CX k f fd ps sp ∧ mg x = some (.ref f) ∧ PySem.W.keepIn K (.ref f) = true ∧ Binds K fd ps []
/-- a method of the class at C -/
structure MetX (CX : CXT) (P : Program) (w : World) (K : PySem.W.Frag) (mg : Str → Option Value) (base : Heap) (k : Nat) (C : Addr) (m : Str) (sp : Sp) : Prop where
  ex : ∃ (f : Addr) (fd : FuncData) (ps : List Str), Cls K C ∧ Meth K C m f ∧ FnOk P w K mg base CX k f fd ps sp ∧ Binds K fd ps []
section
variable {X : Cx} {CX : CXT} {k j : Nat} {C : Addr} {x m : Str} {sp : Sp} {E : XK} {p pos apos : Pos} {e o : Expr} {es : List Expr} {ta : TE} {t : TA}
theorem pe_cx (c : CalX CX X.prog X.w X.K X.mg X.base k x sp) (hr : Room j X.A) (hk : k ≤ j) (hx : Passes CX X E) (hg : Gl X x) (ha : PA X (e :: es) t)
    (hdb : (x == ("__debug__" : Str)) = false := by decide) (he : starEach (e :: es) X.env = (false, eval e X.env) :: starEach es X.env := by rfl) (hpl : (backTo pos (starEach es X.env)).any (·.1) = false := by rfl) :
    PE X (.Call (.Name x p) (e :: es) [] pos) (tCall sp [] E t) := by
  obtain ⟨f, fd, ps, F, hm, kp, b⟩ := c.ex
  exact pe_call F (hr.mono hk) hg hm kp b .nil hx ha hdb he hpl
theorem pe_mx {pl : Sem Bool} (c : MetX CX X.prog X.w X.K X.mg X.base k C m sp) (hr : Room j X.A) (hk : k ≤ j) (hx : Passes CX X E) (he : PE X o ta) (ha : PA X (e :: es) t)
    (hst : starEach (e :: es) X.env = (false, eval e X.env) :: starEach es X.env := by rfl) (hpl : (backTo pos (starEach es X.env)).any (·.1) = false := by rfl)
    (ht : eval (.Call (.Attribute o m apos) (e :: es) [] pos) X.env = (do
      let ov ← eval o X.env
      standAt apos.atName
      let (f, first) ← holding [ov] (getMethod ov m pl)
      callWith pos f first (backTo pos (starEach (e :: es) X.env)) (backToKw pos (keywordEach [] X.env))) := by rfl) :
    PE X (.Call (.Attribute o m apos) (e :: es) [] pos) (tMeth C m sp [] E ta t) := by
  obtain ⟨f, fd, ps, hc, hm, F, b⟩ := c.ex
  exact pe_meth (pl := pl) he hc hm F (hr.mono hk) b .nil hx ha hst hpl ht
theorem pe_mx0 {pl : Sem Bool} (c : MetX CX X.prog X.w X.K X.mg X.base k C m sp) (hr : Room j X.A) (hk : k ≤ j) (hx : Passes CX X E) (he : PE X o ta)
    (ht : eval (.Call (.Attribute o m apos) [] [] pos) X.env = (do
      let ov ← eval o X.env
      standAt apos.atName
      let (f, first) ← holding [ov] (getMethod ov m pl)
      callWith pos f first (backTo pos (starEach [] X.env)) (backToKw pos (keywordEach [] X.env))) := by rfl) :
    PE X (.Call (.Attribute o m apos) [] [] pos) (tMeth C m sp [] E ta tNil) := by
  obtain ⟨f, fd, ps, hc, hm, F, b⟩ := c.ex
  exact pe_meth0 (pl := pl) he hc hm F (hr.mono hk) b .nil hx ht
end
/-- a def of the module, as the top leaves it -/
structure DefX (K : PySem.W.Frag) (mg : Str → Option Value) (x : Str) (st : Stmt) (ps : List Str) : Prop where
  ex : ∃ (f : Addr) (fd : FuncData), Fun K x x st f fd ∧ mg x = some (.ref f) ∧ Binds K fd ps []
theorem DefX.cal {P : Program} {w : World} {K : PySem.W.Frag} {mg : Str → Option Value} {base : Heap} {CX : CXT} {k : Nat} {x : Str} {st : Stmt} {ps : List Str} {sp : Sp} (D : DefX K mg x st ps)
    (h : ∀ f fd, Fun K x x st f fd → FnOk P w K mg base CX k f fd ps sp) : CalX CX P w K mg base k x sp := by
  obtain ⟨f, fd, F, hm, b⟩ := D.ex
  exact ⟨f, fd, ps, h f fd F, hm, F.kp, b⟩
/-! ### the built-in names that stay -/
structure Bi (mg : Str → Option Value) : Prop where
  len : mg "len" = none
  range : mg "range" = none
  enumerate : mg "enumerate" = none
  abs : mg "abs" = none
  int : mg "int" = none
  list : mg "list" = none
  tuple : mg "tuple" = none
  sorted : mg "sorted" = none
  isinstance : mg "isinstance" = none
  str : mg "str" = none
  bool : mg "bool" = none
  super : mg "super" = none
  ValueError : mg "ValueError" = none
theorem cxK {CX : CXT} {P : Program} {w : World} {K : PySem.W.Frag} {mg : Str → Option Value} {base : Heap} {N : List Str} {q : Str} {sc : Scope} {f : Addr} {cdv : Value} {A : Around} {outer : List Env} {s : Shared} {H : Hp} {E : XK} : (cxOf CX P w K mg base N q sc f cdv A outer s H E).K = K := rfl
theorem cxKn {CX : CXT} {P : Program} {w : World} {K : PySem.W.Frag} {mg : Str → Option Value} {base : Heap} {N : List Str} {q : Str} {sc : Scope} {f : Addr} {cdv : Value} {A : Around} {outer : List Env} {s : Shared} {H : Hp} {E : XK} : (cxOf CX P w K mg base N q sc f cdv A outer s H E).nox.K = K := rfl
/-! ### heaps -/
/-- all but what stands at a is as it was -/
def Sx (a : Addr) (H H' : Hp) : Prop := ∀ b o, b ≠ a → H b = some o → H' b = some o
theorem Sx.refl (a : Addr) (H : Hp) : Sx a H H := fun _ _ _ h => h
theorem Sx.trans {a : Addr} {H H1 H2 : Hp} (h : Sx a H H1) (k : Sx a H1 H2) : Sx a H H2 := fun b o n e => k b o n (h b o n e)
theorem Sx.of {a : Addr} {H H' : Hp} (h : Same H H') : Sx a H H' := fun b o _ e => h b o e
theorem Sx.upd {a : Addr} {H : Hp} {o : HO} : Sx a H (upd H a o) := fun b u n e => by rw [upd_ne n]; exact e
theorem same_upd {H : Hp} {p : Addr} {o : HO} (h : H p = none) : Same H (upd H p o) := fun b x e => by
  rw [upd_ne (ne_of_none e h)]
  exact e
theorem Same.tup {K : PySem.W.Frag} {H H' : Hp} {a : Addr} {xs : List V} (e : Same H H') (h : SqT K H a xs) : SqT K H' a xs := by
  rcases h with (h | ⟨o, h⟩) | h
  · exact .inl (.inl (e _ _ h))
  · exact .inl (.inr ⟨o, e _ _ h⟩)
  · exact .inr h
/-- the stream at a -/
def Strm (H : Hp) (a : Addr) : Prop := ∃ ns : List Int, H a = some (.lst (ns.map V.int)) ∧ ns.length ≤ 4000
theorem Strm.same {H H' : Hp} {a : Addr} (h : Strm H a) (s : Same H H') : Strm H' a := by
  obtain ⟨ns, e, l⟩ := h
  exact ⟨ns, s _ _ e, l⟩
theorem Strm.some {H : Hp} {a : Addr} (h : Strm H a) : ∃ xs, H a = some (.lst xs) := by
  obtain ⟨ns, e, l⟩ := h
  exact ⟨_, e⟩
theorem Strm.ne {H : Hp} {a p : Addr} (h : Strm H a) (n : H p = none) : a ≠ p := by
  obtain ⟨ns, e, l⟩ := h
  exact ne_of_none e n
/-! ### small facts -/
def cutI (ns : List Int) (lo hi : Option Int) : List Int := (ns.drop (HT.sIx ns.length 0 lo)).take (HT.sIx ns.length ns.length hi - HT.sIx ns.length 0 lo)
theorem cutV_int (ns : List Int) (lo hi : Option Int) : cutV (ns.map V.int) lo hi = (cutI ns lo hi).map V.int := by
  unfold cutV cutI
  rw [List.length_map, List.map_take, List.map_drop]
theorem cutI_length (ns : List Int) (lo hi : Option Int) : (cutI ns lo hi).length ≤ ns.length := by
  have h := cutV_length (ns.map V.int) lo hi
  rw [cutV_int, List.length_map, List.length_map] at h
  exact h
theorem int_at {ns : List Int} {i : Nat} {y : V} (h : (ns.map V.int)[i]? = some y) : ∃ u, y = .int u ∧ ns[i]? = some u := by
  rw [List.getElem?_map] at h
  cases e : ns[i]? with
  | none =>
    rw [e] at h
    cases h
  | some u =>
    rw [e] at h
    exact ⟨u, (Option.some.inj h).symm, rfl⟩
theorem abs_nn (i : Int) : 0 ≤ (if i < 0 then -i else i) := by
  by_cases h : i < 0
  · rw [if_pos h]
    omega
  · rw [if_neg h]
    omega
theorem small4000 {n : Nat} (h : n ≤ 4000) : n < sizeLine := Nat.lt_of_le_of_lt h (by decide)
theorem small4000' {n : Nat} (h : n ≤ 4000) : n ≤ sizeLine := Nat.le_of_lt (small4000 h)
theorem ints_flat : ∀ ns : List Int, (ns.map V.int).all flatV = true
  | [] => rfl
  | n :: ns => ints_flat ns
end Mv

set_option Elab.async false
set_option linter.all false
set_option maxRecDepth 100000
set_option maxHeartbeats 1000000
namespace Mv
open PySem
/-! ### sorted lists -/
def sortI (xs : List Int) : List Int := xs.mergeSort fun a b => decide (a ≤ b)
theorem sort_perm (xs : List Int) : (sortI xs).Perm xs := List.mergeSort_perm xs _
theorem sort_le (xs : List Int) : (sortI xs).Pairwise (· ≤ ·) := by
  have h := List.pairwise_mergeSort (le := fun a b : Int => decide (a ≤ b)) (fun a b c h1 h2 => by
    have h1 := of_decide_eq_true h1
    have h2 := of_decide_eq_true h2
    exact decide_eq_true (Int.le_trans h1 h2)) (fun a b => by
    by_cases h : a ≤ b
    · simp [h]
    · have : b ≤ a := by omega
      simp [this]) xs
  exact h.imp fun h => of_decide_eq_true h
theorem sorted_one : ∀ {xs ys : List Int}, xs.Perm ys → xs.Pairwise (· ≤ ·) → ys.Pairwise (· ≤ ·) → xs = ys
  | [], ys, h, _, _ => (List.Perm.nil_eq h)
  | x :: xs, [], h, _, _ => absurd h.length_eq (by simp)
  | x :: xs, y :: ys, h, h1, h2 => by
    have a := List.pairwise_cons.mp h1
    have b := List.pairwise_cons.mp h2
    have e : x = y := by
      have m1 : x ∈ y :: ys := h.mem_iff.mp List.mem_cons_self
      have m2 : y ∈ x :: xs := h.mem_iff.mpr List.mem_cons_self
      rcases List.mem_cons.mp m1 with e | m1
      · exact e
      · rcases List.mem_cons.mp m2 with e | m2
        · exact e.symm
        · exact Int.le_antisymm (a.1 _ m2) (b.1 _ m1)
    subst e
    rw [sorted_one (List.Perm.cons_inv h) a.2 b.2]
theorem sort_is {xs ys : List Int} (h : xs.Perm ys) (s : xs.Pairwise (· ≤ ·)) : xs = sortI ys := sorted_one (h.trans (sort_perm ys).symm) s (sort_le ys)
theorem sort_congr {xs ys : List Int} (h : xs.Perm ys) : sortI xs = sortI ys := sort_is ((sort_perm xs).trans h) (sort_le xs)
theorem sort_nodup {xs : List Int} (h : xs.Nodup) : (sortI xs).Nodup := (sort_perm xs).nodup_iff.mpr h
theorem mem_sort {x : Int} {xs : List Int} : x ∈ sortI xs ↔ x ∈ xs := (sort_perm xs).mem_iff
theorem perm_of_mem {xs ys : List Int} (h1 : xs.Nodup) (h2 : ys.Nodup) (h : ∀ x, x ∈ xs ↔ x ∈ ys) : xs.Perm ys := (List.perm_ext_iff_of_nodup h1 h2).mpr h
theorem sort_mem {xs ys : List Int} (h1 : xs.Nodup) (h2 : ys.Nodup) (h : ∀ x, x ∈ xs ↔ x ∈ ys) : sortI xs = sortI ys := sort_congr (perm_of_mem h1 h2 h)
/-! ### each value once, where it comes first -/
def addI (acc : List Int) (x : Int) : List Int := if x ∈ acc then acc else acc ++ [x]
def headsA (acc xs : List Int) : List Int := xs.foldl addI acc
def headsI (xs : List Int) : List Int := headsA [] xs
def tailsI (xs : List Int) : List Int := (headsI xs.reverse).reverse
theorem headsA_snoc (acc xs : List Int) (x : Int) : headsA acc (xs ++ [x]) = addI (headsA acc xs) x := by
  unfold headsA
  rw [List.foldl_append]
  rfl
theorem headsA_app (acc xs ys : List Int) : headsA acc (xs ++ ys) = headsA (headsA acc xs) ys := by
  unfold headsA
  rw [List.foldl_append]
theorem headsI_snoc (xs : List Int) (x : Int) : headsI (xs ++ [x]) = addI (headsI xs) x := headsA_snoc [] xs x
theorem mem_addI {acc : List Int} {x y : Int} : y ∈ addI acc x ↔ y ∈ acc ∨ y = x := by
  unfold addI
  split
  · rename_i h
    exact ⟨.inl, fun z => z.elim id fun e => e ▸ h⟩
  · simp
theorem snoc_ind {P : List Int → Prop} (h0 : P []) (hs : ∀ xs x, P xs → P (xs ++ [x])) (xs : List Int) : P xs := by
  have h : ∀ ys : List Int, P ys.reverse := fun ys => by
    induction ys with
    | nil => exact h0
    | cons y ys ih =>
      rw [List.reverse_cons]
      exact hs _ _ ih
  have e := h xs.reverse
  rw [List.reverse_reverse] at e
  exact e
theorem mem_headsI {y : Int} (xs : List Int) : y ∈ headsI xs ↔ y ∈ xs := by
  induction xs using snoc_ind with
  | h0 => exact Iff.rfl
  | hs xs x ih =>
    rw [headsI_snoc, mem_addI, ih]
    simp
theorem nodup_addI {acc : List Int} {x : Int} (h : acc.Nodup) : (addI acc x).Nodup := by
  unfold addI
  split
  · exact h
  · rename_i hx
    refine List.nodup_append.mpr ⟨h, by simp, fun a ha b hb => ?_⟩
    rw [List.mem_singleton] at hb
    rw [hb]
    exact fun e => hx (e ▸ ha)
theorem nodup_headsI (xs : List Int) : (headsI xs).Nodup := by
  induction xs using snoc_ind with
  | h0 => exact List.nodup_nil
  | hs xs x ih =>
    rw [headsI_snoc]
    exact nodup_addI ih
theorem headsI_nodup (xs : List Int) : xs.Nodup → headsI xs = xs := by
  induction xs using snoc_ind with
  | h0 => exact fun _ => rfl
  | hs xs x ih =>
    intro h
    obtain ⟨h1, _, h3⟩ := List.nodup_append.mp h
    rw [headsI_snoc, ih h1]
    unfold addI
    rw [if_neg fun hx => h3 x hx x (by simp) rfl]
theorem headsA_eq (acc xs : List Int) : headsA acc xs = acc ++ (headsI xs).filter fun x => decide (x ∉ acc) := by
  induction xs using snoc_ind with
  | h0 => simp [headsA, headsI]
  | hs xs x ih =>
    rw [headsA_snoc, headsI_snoc, ih]
    have hm := mem_headsI (y := x) xs
    unfold addI
    by_cases ha : x ∈ acc
    · rw [if_pos (List.mem_append_left _ ha)]
      split
      · rfl
      · rw [List.filter_append]
        simp [ha]
    · by_cases hx : x ∈ headsI xs
      · rw [if_pos hx, if_pos (List.mem_append_right _ (List.mem_filter.mpr ⟨hx, by simp [ha]⟩))]
      · rw [if_neg hx, if_neg, List.filter_append]
        · simp [ha]
        · intro z
          rcases List.mem_append.mp z with z | z
          · exact ha z
          · exact hx (List.mem_filter.mp z).1
theorem headsI_idem (xs : List Int) : headsI (headsI xs) = headsI xs := headsI_nodup _ (nodup_headsI xs)
theorem headsI_join (u v : List Int) : headsI (headsI u ++ headsI v) = headsI (u ++ v) := by
  show headsA [] _ = headsA [] _
  rw [headsA_app, headsA_app]
  show headsA (headsI (headsI u)) (headsI v) = headsA (headsI u) v
  rw [headsI_idem, headsA_eq, headsI_idem, ← headsA_eq]
theorem tailsI_idem (xs : List Int) : tailsI (tailsI xs) = tailsI xs := by
  unfold tailsI
  rw [List.reverse_reverse, headsI_idem]
theorem tailsI_join (u v : List Int) : tailsI (tailsI u ++ tailsI v) = tailsI (u ++ v) := by
  unfold tailsI
  rw [List.reverse_append, List.reverse_reverse, List.reverse_reverse, headsI_join, List.reverse_append]
/-! ### plain values -/
def firstI (xs : List Int) : List Int := xs.take 1
def lastI (xs : List Int) : List Int := xs.drop (xs.length - 1)
def endsI (xs : List Int) : List Int := xs.take 1 ++ xs.drop (xs.length - 1)
/-- the eight kinds -/
inductive Kd where
  | list | bag | set | first | last | ends | heads | tails
  deriving DecidableEq
def Kd.nm : Kd → Str
  | .list => "list" | .bag => "bag" | .set => "set" | .first => "first" | .last => "last" | .ends => "ends" | .heads => "heads" | .tails => "tails"
def kds : List Kd := [.list, .bag, .set, .first, .last, .ends, .heads, .tails]
def plainI (k : Kd) (xs : List Int) : List Int :=
  match k with
  | .list => xs
  | .bag => sortI xs
  | .set => sortI (headsI xs)
  | .first => firstI xs
  | .last => lastI xs
  | .ends => endsI xs
  | .heads => headsI xs
  | .tails => tailsI xs
theorem lastI_snoc (xs : List Int) (x : Int) : lastI (xs ++ [x]) = [x] := by
  unfold lastI
  rw [List.length_append]
  simp
theorem first_join (u v : List Int) : firstI (firstI u ++ firstI v) = firstI (u ++ v) := by
  cases u with
  | nil => cases v <;> rfl
  | cons x u => rfl
theorem last_join (u v : List Int) : lastI (lastI u ++ lastI v) = lastI (u ++ v) := by
  induction v using snoc_ind with
  | h0 =>
    induction u using snoc_ind with
    | h0 => rfl
    | hs u x _ => simp [lastI_snoc, lastI]
  | hs v y _ => rw [lastI_snoc, lastI_snoc, ← List.append_assoc, lastI_snoc]
theorem endsI_eq (xs : List Int) : endsI xs = firstI xs ++ lastI xs := rfl
theorem last_ends (xs : List Int) : lastI (endsI xs) = lastI xs := by
  induction xs using snoc_ind with
  | h0 => rfl
  | hs xs x _ => rw [endsI_eq, lastI_snoc, lastI_snoc]
theorem first_ends (xs : List Int) : firstI (endsI xs) = firstI xs := by
  cases xs with
  | nil => rfl
  | cons x xs => rfl
theorem first_app (u v : List Int) : firstI (u ++ v) = firstI (firstI u ++ firstI v) := (first_join u v).symm
theorem last_app (u v : List Int) : lastI (u ++ v) = lastI (lastI u ++ lastI v) := (last_join u v).symm
theorem ends_join (u v : List Int) : endsI (endsI u ++ endsI v) = endsI (u ++ v) := by
  rw [endsI_eq (_ ++ _), endsI_eq (u ++ v), first_app (endsI u), last_app (endsI u), first_ends, first_ends, last_ends, last_ends, first_join, last_join]
theorem plain_join (k : Kd) (u v : List Int) : plainI k (plainI k u ++ plainI k v) = plainI k (u ++ v) := by
  cases k with
  | list => rfl
  | bag => exact sort_congr ((sort_perm u).append (sort_perm v))
  | set =>
    refine sort_mem (nodup_headsI _) (nodup_headsI _) fun x => ?_
    show x ∈ headsI (sortI (headsI u) ++ sortI (headsI v)) ↔ _
    rw [mem_headsI, mem_headsI, List.mem_append, List.mem_append, mem_sort, mem_sort, mem_headsI, mem_headsI]
  | first => exact first_join u v
  | last => exact last_join u v
  | ends => exact ends_join u v
  | heads => exact headsI_join u v
  | tails => exact tailsI_join u v
theorem sort_nil : sortI [] = [] := List.Perm.eq_nil (sort_perm [])
theorem plain_nil (k : Kd) : plainI k [] = [] := by
  cases k with
  | bag => exact sort_nil
  | set => exact sort_nil
  | _ => rfl
theorem plain_idem (k : Kd) (u : List Int) : plainI k (plainI k u) = plainI k u := by
  have h := plain_join k u []
  rw [plain_nil, List.append_nil, List.append_nil] at h
  exact h
theorem headsI_len (xs : List Int) : (headsI xs).length ≤ xs.length := by
  induction xs using snoc_ind with
  | h0 => exact Nat.le_refl _
  | hs xs x ih =>
    rw [headsI_snoc, List.length_append]
    unfold addI
    split
    · omega
    · rw [List.length_append]
      simp only [List.length_singleton]
      omega
theorem plain_len (k : Kd) (xs : List Int) : (plainI k xs).length ≤ 2 * xs.length := by
  have h := headsI_len xs
  have h2 := headsI_len xs.reverse
  rw [List.length_reverse] at h2
  cases k with
  | list => show xs.length ≤ _; omega
  | bag => show (sortI xs).length ≤ _; rw [(sort_perm xs).length_eq]; omega
  | set => show (sortI (headsI xs)).length ≤ _; rw [(sort_perm (headsI xs)).length_eq]; omega
  | first => show (xs.take 1).length ≤ _; rw [List.length_take]; omega
  | last => show (xs.drop (xs.length - 1)).length ≤ _; rw [List.length_drop]; omega
  | ends => show (xs.take 1 ++ xs.drop (xs.length - 1)).length ≤ _; rw [List.length_append, List.length_take, List.length_drop]; omega
  | heads => show (headsI xs).length ≤ _; omega
  | tails => show ((headsI xs.reverse).reverse).length ≤ _; rw [List.length_reverse]; omega
end Mv

set_option Elab.async false
set_option linter.all false
set_option maxRecDepth 100000
set_option maxHeartbeats 4000000
namespace Mv
open PySem PySem.Spec PyProof.Rows L2
/-! ### C() where no class on the way has an __init__ -/
structure Mk0 (K : PySem.W.Frag) (C : Addr) : Prop where
  makes : PySem.W.makesIn K C = true
  init : PySem.W.findIn K (.ref C) "__init__" = some (some (.builtin "object.__init__"))
  top : PySem.W.mroIn K C (.type "object") = some true
  kp : PySem.W.keepIn K (.ref C) = true
def tMake0 (C : Addr) : TE := fun _ H Q => ∀ x dx, H x = none → H dx = none → dx ≠ x → Q (.ref x) (upd (upd H dx (.own x)) x (.ins C dx []))
section
variable {X : Cx} {pins : List (Addr × Obj)} {σ : L2.St} {H : Hp} {s : Shared} {Q : VK} {C : Addr}
theorem run_makeB (M : Mk0 X.K C) (I : Inv X pins σ H s) (h : ∀ x dx, H x = none → H dx = none → dx ≠ x → Q (.ref x) (upd (upd H dx (.own x)) x (.ins C dx []))) :
    wpAny (model X.prog X.w) X.A (call (.ref C) []) (EP X pins σ Q) X.xe s := by
  have hq := h (s.heap.objs.size + 1) s.heap.objs.size (I.hok.fresh (Nat.le_succ _)) (I.hok.fresh (Nat.le_refl _)) (Nat.ne_of_lt (Nat.lt_succ_self _))
  have J := Inv.made (C := C) I
  refine wpAny_call (make_map0 I.kIn M.makes M.init (fun self => PySem.W.Looks.of_pure (PySem.W.oi_bind _)) ?_)
  obtain ⟨o, ho, hc⟩ : ∃ o : Obj, ((s.heap.push PySem.W.emptyDict).push (PySem.W.instObj C s.heap.objs.size)).get? (s.heap.objs.size + 1) = some o ∧ o.cls = .ref C := by
    obtain ⟨_, _, _, e, _⟩ := J.hok _ _ upd_same
    exact ⟨_, e, rfl⟩
  have ty : PySem.W.Looks (model X.prog X.w) ((s.heap.push PySem.W.emptyDict).push (PySem.W.instObj C s.heap.objs.size)) (typeOf (.ref (s.heap.objs.size + 1))) (.ref C) := (PySem.W.Looks.ld ho).andThen (by rw [hc]; exact .now)
  have top : PySem.W.Looks (model X.prog X.w) ((s.heap.push PySem.W.emptyDict).push (PySem.W.instObj C s.heap.objs.size)) (isInstance (.ref (s.heap.objs.size + 1)) (.type "object")) true := ty.andThen (PySem.W.looks_mroIn J.kIn M.top)
  refine codeAny_call_builtin PySem.W.oi_plain PySem.W.entry_oi (@PySem.W.check_slot (model X.prog X.w) _ _ _ "object.__init__" "object" "__init__" (.ref (s.heap.objs.size + 1)) [] [] _ PySem.W.oi_kind PySem.W.oi_split top (PySem.W.oi_args _) ?_)
  rw [PySem.W.oi_run]
  exact wpAny_pure ⟨rfl, .ref (s.heap.objs.size + 1), _, J, rfl, hq⟩
theorem pe_makeB {x : Str} {p pos : Pos} (M : Mk0 X.K C) (hg : Gl X x) (hm : X.mg x = some (.ref C)) (hdb : (x == ("__debug__" : Str)) = false := by decide) : PE X (.Call (.Name x p) [] [] pos) (tMake0 C) := by
  refine ⟨fun pins s σ H Q I h => ?_⟩
  refine wpAny_Call_Name_kw (ld_glob I hg hm ?_ hdb)
  exact PySem.W.callWith_K0 I.kIn M.kp (run_makeB M I h)
end
theorem paired_at {α β : Type} {F : α → β → Prop} : ∀ {xs : List α} {ys : List β} {i : Nat} {y : β}, Paired F xs ys → ys[i]? = some y → ∃ x, xs[i]? = some x ∧ F x y
  | _, _, i, y, .nil, h => by cases h
  | _, _, 0, y, .cons r t, h => ⟨_, rfl, by cases h; exact r⟩
  | _, _, i + 1, y, .cons r t, h => paired_at (i := i) t h
/-! ### sorted of ints, whatever they are collected from -/
section
variable {X : Cx} {pins : List (Addr × Obj)} {σ : L2.St} {H : Hp} {s : Shared} {Q : VK}
theorem sorted_from (I : Inv X pins σ H s) {v : Value} {ns : List Int} (hz : ns.length ≤ sizeLine)
    (hc : ∀ R : List Value → Shared → Prop, (∀ (h' : Heap) (tk : Nat) (acc : List Value), (∀ b o, s.heap.get? b = some o → h'.get? b = some o) → IntsAre acc ns → R acc { s with heap := h', toks := tk }) → wpAny (model X.prog X.w) X.A.in1 (collect v) R X.xe s)
    (q : ∀ p : Addr, H p = none → Q (.ref p) (upd H p (.lst ((sortI ns).map V.int)))) :
    wpAny (model X.prog X.w) X.A (call (.builtin "sorted") [v]) (EP X pins σ Q) X.xe s := by
  refine Calls.call_function_entry PyProof.Rows.kind_sorted PyProof.Rows.plain_sorted PyProof.Rows.entry_sorted (PyProof.Rows.args_sorted1 _) ?_
  unfold Builtin.«sorted»
  refine wpAny_bind (m := checkCount "sorted" 1 1 _) (wpAny_pure (wpAny_bind (hc _ fun h' tk acc hk hi => ?_)))
  have I1 : Inv X pins σ H { s with heap := h', toks := tk } := I.kept hk
  have hl : acc.length = ns.length := hi.length
  refine wpAny_bind (wpAny_newList ?_ (by rw [hl]; exact hz))
  have ho : (h'.push (seqObj "list" acc.toArray 0)).get? h'.objs.size = some (seqObj "list" acc.toArray 0) := Heap.get?_push_size _ rfl
  show wpAny _ _ _ _ _ { s with heap := h'.push (seqObj "list" acc.toArray 0), toks := tk }
  refine wpAny_bind (wpAny_holding (wpAny_call_entry PyProof.Rows.slot_list_sort ⟨_, ho, rfl⟩ PyProof.Rows.entry_list_sort
    (SrtO.list_sort_ord (s := { s with heap := h'.push (seqObj "list" acc.toArray 0), toks := tk }) SrtO.swo_int ho (by rw [hl]; exact hz) (fun h2 => SrtO.ints_sortable hi h2) fun out k1 k2 => ⟨_, rfl, ?_⟩) (PyProof.Rows.args_list_sort _)))
  obtain ⟨g1, g2, g3⟩ := SrtO.ints_out hi k1 k2
  rw [sort_is g2 g3] at g1
  obtain ⟨e', he'⟩ := PyProof.Rows.sortedHeap_at (vs := acc) (out := out.toArray) ho
  refine wpAny_pure ⟨_, rfl, .ref h'.objs.size, upd H h'.objs.size (.lst ((sortI ns).map V.int)), I1.laid (t' := tk) (fun b u e => ?_) (Nat.le_refl _)
    (show ObjOk X.prog X.w _ _ _ (.lst ((sortI ns).map V.int)) from ⟨by rw [List.length_map, (sort_perm ns).length_eq]; exact hz, out, e', vals_of_ints g1, he'⟩), rfl, q _ (I1.hok.fresh (Nat.le_refl _))⟩
  have hb : b < h'.objs.size := Heap.lt_size e
  rw [PyProof.Rows.sortedHeap_old (Nat.ne_of_lt hb) (by rw [size_push']; exact Nat.lt_succ_of_lt hb)]
  exact Heap.get?_push_of_some _ e
/-- sorted(t), t a tuple of ints -/
def rSortT (K : PySem.W.Frag) : List V → Hp → VK → Prop := fun vs H Q => ∃ (a : Addr) (ns : List Int), vs = [V.ref a] ∧ SqT K H a (ns.map V.int) ∧ ∀ p : Addr, H p = none → Q (.ref p) (upd H p (.lst ((sortI ns).map V.int)))
theorem cr_sortT' : CallR X (.builtin "sorted") (rSortT X.K) := by
  intro pins s σ H vs us Q I r h
  obtain ⟨a, ns, rfl, hs, q⟩ := h
  rw [Vals.ref1 r]
  obtain ⟨its, rv, ⟨o, h1, h2, n, h3⟩, hz⟩ := I.tuple hs
  have hi := rv.ints
  have hl := hi.length
  rw [List.length_map] at hz
  refine sorted_from I hz (fun R k => wpAny_collect_seq a (.inr rfl) h1 h2 h3 (fun h' hk => ?_) (by rw [List.size_toArray, hl]; exact hz)) q
  have := k h' s.toks its hk hi
  simpa using this
/-- sorted(l), l a list of ints -/
def rSortL (K : PySem.W.Frag) : List V → Hp → VK → Prop := fun vs H Q => ∃ (a : Addr) (ns : List Int), vs = [V.ref a] ∧ SqL K H a (ns.map V.int) ∧ ∀ p : Addr, H p = none → Q (.ref p) (upd H p (.lst ((sortI ns).map V.int)))
theorem cr_sortL : CallR X (.builtin "sorted") (rSortL X.K) := by
  intro pins s σ H vs us Q I r h
  obtain ⟨a, ns, rfl, hs, q⟩ := h
  refine cr_sortedI pins s σ H _ us Q I r ⟨a, ns, rfl, hs, fun ns' p k1 k2 hp => ?_⟩
  rw [sort_is k1 k2]
  exact q p hp
/-! ### d.values() as a thing of its own -/
def valuesO (p d : Addr) : HO := .ext fun h => h.IsValuesView p d
def tVals (td : TE) : TE := fun σ H Q => td σ H fun x H1 => ∃ d kvs, x = .ref d ∧ H1 d = some (.dK kvs) ∧ ∀ p, H1 p = none → Q (.ref p) (upd H1 p (valuesO p d))
theorem pe_vals {e : Expr} {td : TE} {apos cpos : Pos} (he : PE X e td) (hbase : attributeBase e "values" X.env (eval e X.env) = eval e X.env := by rfl) (hline : (apos.endLine == cpos.line) = true := by rfl) : PE X (.Call (.Attribute e "values" apos) [] [] cpos) (tVals td) := by
  refine ⟨fun pins s σ H Q I h => ?_⟩
  refine wpAny_Call_method (T := "dict") (id := "dict.values") hbase rfl hline F.plainAttrs_dict F.slot_dict_values F.type_dict_values (thn (he.run pins s σ H _ I h) fun u s1 ⟨x, H1, I1, rx, d, kvs, ex, hd, q⟩ => ?_)
  subst ex
  obtain rfl : u = Value.ref d := rx
  obtain ⟨z, hgd, vs, kv, dd⟩ := dk_of I1.hok hd
  refine ⟨dd.typeIs, dd.mapOf.noDict, ?_⟩
  have hf : H1 s1.heap.objs.size = none := I1.hok.fresh (Nat.le_refl _)
  have e0 : (s1.heap.push { cls := .type "dict_values", data := .fields #[.ref d] }).get? s1.heap.objs.size = some { cls := .type "dict_values", data := .fields #[.ref d] } := Heap.get?_push_size _ rfl
  have J := I1.laid (a := s1.heap.objs.size) (o := valuesO s1.heap.objs.size d) (h' := s1.heap.push { cls := .type "dict_values", data := .fields #[.ref d] }) (t' := s1.toks) (fun b u e => Heap.get?_push_of_some _ e) (Nat.le_refl _) ⟨⟨_, e0, rfl, rfl⟩, ⟨_, e0⟩, fun h1 h2 ⟨o, ho, r⟩ k => ⟨o, k o ho, r⟩⟩
  show wpAny _ _ (callWith cpos (.builtin "dict.values") [.ref d] [] []) _ X.xe s1
  exact method_meetsIn F.slot_dict_values F.entry_dict_values rfl (PySem.evalArgs_none ⟨rfl, dd.typeIs, F.args_dict_values_1 _, _, meets_dict_values (mixKind X.prog X.w) d hgd, ⟨vs, dd⟩, ⟨.ref s1.heap.objs.size, _, J, rfl, q _ hf⟩⟩)
/-- sorted(v), v the values of a dict, all ints -/
def rSortV : List V → Hp → VK → Prop := fun vs H Q => ∃ (p d : Addr) (kvs : List (Key × V)) (ns : List Int), vs = [V.ref p] ∧ H p = some (valuesO p d) ∧ H d = some (.dK kvs) ∧ kvs.map (·.2) = ns.map V.int ∧ ∀ l : Addr, H l = none → Q (.ref l) (upd H l (.lst ((sortI ns).map V.int)))
theorem cr_sortV (hcalm : X.calm = true) : CallR X (.builtin "sorted") rSortV := by
  intro pins s σ H vs us Q I r h
  obtain ⟨p, d, kvs, ns, rfl, hp, hd, hv, q⟩ := h
  rw [Vals.ref1 r]
  have view : s.heap.IsValuesView p d := (show ObjOk X.prog X.w H s.heap p (valuesO p d) from I.hok p _ hp).1
  obtain ⟨z, lo, ws, rel, dd⟩ := dk_of I.hok hd
  obtain ⟨ep, hat⟩ := dd.dictAt
  have hlv : kvs.length = ws.length := rel.length
  have hln : kvs.length = ns.length := by
    have e := congrArg List.length hv
    rw [List.length_map, List.length_map] at e
    exact e
  refine sorted_from I (by rw [← hln]; exact z) (fun R k => PySem.W.kdu_collect (A := X.A.in1) (PySem.W.kdl_values (knd := mixKind X.prog X.w) (kvs := ws) (ep := ep)) (I.ok.hd hcalm) ⟨view, hat⟩ (by rw [← hlv]; exact z) fun h' tk acc hk hacc => k h' tk acc.toList hk ?_) q
  refine ints_each (by rw [Array.length_toList, hacc.1, ← hlv, hln]) fun j v e => ?_
  rw [Array.getElem?_toList] at e
  obtain ⟨key, e1⟩ := hacc.2 j v e
  obtain ⟨kv, e2, e3, e4⟩ := paired_at rel e1
  have e5 : (kvs.map (·.2))[j]? = some kv.2 := by rw [List.getElem?_map, e2]; rfl
  rw [hv] at e5
  obtain ⟨u, eu, e6⟩ := int_at e5
  rw [eu] at e4
  obtain ⟨t, e4⟩ := e4
  exact ⟨u, t, e6, e4⟩
end
end Mv

set_option Elab.async false
set_option linter.all false
set_option maxRecDepth 100000
set_option maxHeartbeats 4000000
namespace Mv
open PySem PySem.Spec PyProof.Rows L2
/-! ### enumerate(t), t a tuple -/
set_option maxHeartbeats 8000000 in
theorem enum_new1 {v : Value} {o : Obj} {Hh : Heap → Prop} (B : Begins v o Hh) :
    Meets (Builtin.«enumerate.__new__» ⟨[.type "enumerate", v], []⟩) (fun _ R s => Hh s.heap ∧
      R (.ok (.ret (.ref (s.heap.push o).objs.size))) { s with heap := (s.heap.push o).push { cls := .type "enumerate", data := .fields #[.none, .bool false, .ref s.heap.objs.size, rawInt 0, .none, .none] } }) :=
  .of_wp fun prog w A R s h => by
    obtain ⟨hp, g, d, tk, os⟩ := s
    obtain ⟨h1, h⟩ := h
    have hsub := sub_enumerate
    have q1 : ∀ {A' : Around} {E : Value → Shared → Prop} {Q : Value → Shared → Prop}, Q (.ref hp.objs.size) ⟨hp.push o, g, d, tk, os⟩ → wpAny (model prog w) A' (pyIter v) Q E ⟨hp, g, d, tk, os⟩ :=
      fun q => B.iter prog w _ _ ⟨hp, g, d, tk, os⟩ _ h1 q
    wp_walk using q1
    refine wpAny_stack_any fun st => wpAny_pure ?_
    split
    · rename_i c _ _ _ _ _
      cases (c == Value.type "enumerate") <;> (wp_walk using q1) <;> exact ⟨_, rfl, h⟩
    · wp_walk using q1
      exact ⟨_, rfl, h⟩
theorem enum_one {prog : Program} {w : World} {A : Around} {E : Value → Shared → Prop} {s : Shared} {v : Value} {o : Obj} {Hh : Heap → Prop} {Q : Value → Shared → Prop} (B : Begins v o Hh) (h1 : Hh s.heap)
    (h : ∀ h', IsEnum h' (s.heap.objs.size + 1) s.heap.objs.size 0 .none → h'.get? s.heap.objs.size = some o → h'.objs.size = s.heap.objs.size + 2 →
      (∀ b o, s.heap.get? b = some o → h'.get? b = some o) → Q (.ref (s.heap.objs.size + 1)) { s with heap := h' }) :
    wpAny (model prog w) A (call (.type "enumerate") [v]) Q E s := by
  refine callType_new F.called_enumerate (by decide) (F.typeCall_enumerate_1 _) (F.newCall_enumerate_1 _) (fun obj => F.args_object_init_2 obj _) F.entry_enumerate_new (enum_new1 B) ⟨h1, ?_⟩
  have hz : (s.heap.push o).objs.size = s.heap.objs.size + 1 := Heap.size_push ..
  show _ ∧ _
  rw [hz]
  have he := Heap.get?_push_size (s.heap.push o) (o := { cls := .type "enumerate", data := .fields #[.none, .bool false, .ref s.heap.objs.size, rawInt 0, .none, .none] }) rfl
  rw [hz] at he
  exact ⟨⟨_, he, rfl⟩, h _ he (Heap.get?_push_of_some _ (Heap.get?_push_size _ B.free)) (by rw [Heap.size_push, hz]) fun b u x => Heap.get?_push_of_some _ (Heap.get?_push_of_some _ x)⟩
/-- the tuple at a, each item in a new pair -/
def IteT (K : PySem.W.Frag) (a : Addr) : It where
  go := fun i H => ∃ (xs : List V) (x : V), SqT K H a xs ∧ xs[i]? = some x
  yld := fun i H v H' => ∃ T x, v = .ref T ∧ H T = none ∧ H' = upd H T (.tup [.int (i : Nat), x]) ∧ ∀ xs, SqT K H a xs → xs[i]? = some x
  stop := fun i H => ∃ xs : List V, SqT K H a xs ∧ xs.length = i
theorem turn_enumT {P : Program} {w : World} {K : PySem.W.Frag} {elts : List Expr} {kk : Nat} {tpos : Pos} {a e it : Addr} (hae : a ≠ e) (hai : a ≠ it) :
    Turn P w K (.Tuple elts kk tpos) (IteT K a) [e, it] e (fun i h => (∃ old, IsEnum h e it ((i : Nat) : Int) old) ∧ h.IsTupleIter it a i ∧ e ≠ it) where
  mem := List.mem_cons_self ..
  obj := fun i h st b hb => by
    obtain ⟨⟨old, he⟩, ⟨o, ho, hc, hd⟩, _⟩ := st
    rcases List.mem_cons.mp hb with z | z
    · rw [z]
      exact ⟨_, he, fun v q => nomatch q⟩
    · rw [List.mem_singleton.mp z]
      exact ⟨o, ho, fun v q => by rw [hd] at q; cases q⟩
  keep := fun i h h' st k => by
    obtain ⟨⟨old, he⟩, ⟨o, ho, hc, hd⟩, hne⟩ := st
    exact ⟨⟨old, k e (by simp) _ he⟩, ⟨o, k it (by simp) o ho, hc, hd⟩, hne⟩
  item := by
    intro X hP hw hK hc i pins s σ H E I hf st hg
    subst hP hw hK
    obtain ⟨⟨old, he⟩, hit, hne⟩ := st
    obtain ⟨xs, x, hq, hx⟩ := hg
    obtain ⟨its, rv, ⟨o, h1, h2, n, h3⟩, hz⟩ := I.tuple hq
    have p : s.heap.IsTuple a its.toArray := ⟨o, h1, h2, n, h3⟩
    obtain ⟨u, hu, ru⟩ := rv.get hx
    have hi : i < its.toArray.size := by
      rw [List.size_toArray]
      exact (List.getElem?_eq_some_iff.mp hu).1
    have hel : e < s.heap.objs.size := Heap.lt_size he
    have hil : it < s.heap.objs.size := by
      obtain ⟨_, q, _⟩ := hit
      exact Heap.lt_size q
    refine wpAny_pyNext_enum_itemD (Draws.tuple (by exact I.ok.hd hc) it a hai its.toArray) he ⟨hit, p⟩ hi hne (by simp [hne, Ne.symm hae]) fun x' h' tk px ho hs' hT hsz hk => ?_
    obtain rfl : u = x' := by
      rw [List.getElem?_toArray, hu] at px
      exact Option.some.inj px
    refine ⟨_, rfl, wpAny_letOwnedTupleGo_enum (s := { s with heap := h', toks := tk + 1 }) ho fun h'' he' sb => ?_⟩
    have hT2 : h''.get? s.heap.objs.size = some { cls := .type "tuple", data := .seq #[.int i tk, u] } := (sb.2 _ (Nat.ne_of_gt hel)).trans hT
    have new : ObjOk X.prog X.w (upd H s.heap.objs.size (.tup [.int (i : Nat), x])) h'' s.heap.objs.size (.tup [.int (i : Nat), x]) :=
      ⟨by show 2 ≤ sizeLine; decide, [.int i tk, u], .cons ⟨_, rfl⟩ (.cons ru .nil), ⟨_, hT2, rfl, _, rfl⟩⟩
    have I1 : Inv X pins σ (upd H s.heap.objs.size (.tup [.int (i : Nat), x])) { s with heap := h'', toks := tk + 1 } :=
      I.turnedNew (ch := [e, it]) (fun b ob hb q => (sb.2 b (fun z => hb (by simp [z]))).trans (hk b ob (fun z => hb (by simp [z])) (fun z => hb (by simp [z])) q)) hf (Nat.le_refl _) new
    refine ⟨.ref s.heap.objs.size, _, I1, rfl, ⟨_, x, rfl, I.hok.fresh (Nat.le_refl _), rfl, fun ys hy => by rw [I.tuple_inj hy hq]; exact hx⟩, ⟨⟨u, ?_⟩, hs'.1.at fun o q => (sb.2 it (Ne.symm hne)).trans q, hne⟩, fun b hb => ?_⟩
    · rw [show ((i + 1 : Nat) : Int) = (i : Int) + 1 from by omega]
      exact he'
    · have hb' : b < s.heap.objs.size := by
        rcases List.mem_cons.mp hb with z | z
        · rw [z]
          exact hel
        · rw [List.mem_singleton.mp z]
          exact hil
      rw [upd_ne (Nat.ne_of_lt hb')]
      exact (hf b hb).1
  done := by
    intro X hP hw hK hc i pins s σ H E I hf st hg
    subst hP hw hK
    obtain ⟨⟨old, he⟩, hit, hne⟩ := st
    obtain ⟨xs, hq, hx⟩ := hg
    obtain ⟨its, rv, ⟨o, h1, h2, n, h3⟩, hz⟩ := I.tuple hq
    have p : s.heap.IsTuple a its.toArray := ⟨o, h1, h2, n, h3⟩
    obtain ⟨f0, f1, f2, f3, f4, f5⟩ := hf it (by simp)
    have hl := rv.length
    have hz' : its.toArray.size = i := by
      rw [List.size_toArray, ← hl, hx]
    refine wpAny_pyNext_enum_endD (Draws.tuple (by exact I.ok.hd hc) it a hai its.toArray) he ⟨by rw [hz']; exact hit, p⟩ fun h' eb => ⟨rfl, I.turned (t' := s.toks) (fun b o hb q => eb b o hb q) f0 f1 f3 f4 f5⟩
  self := fun A i s Q E st h => let ⟨⟨_, he⟩, _⟩ := st; wpAny_pyIter_enum he h
def iEnumT (K : PySem.W.Frag) (ta : TA) : TI := fun σ H R => ta σ H fun vs H1 => ∃ a xs, vs = [.ref a] ∧ SqT K H1 a xs ∧ R (IteT K a) H1
theorem pi_enumT {X : Cx} {e : Expr} {ta : TA} {p pos tpos : Pos} {elts : List Expr} {kk : Nat} (hg : Gl X "enumerate") (hm : X.mg "enumerate" = none) (ha : PA X [e] ta) (hs : starEach [e] X.env = [(false, eval e X.env)] := by rfl) :
    PI X (.Tuple elts kk tpos) (.Call (.Name "enumerate" p) [e] [] pos) (iEnumT X.K ta) := by
  refine ⟨fun pins s σ H R I h => ?_⟩
  refine Call_ (ld_blt I hg hm boot_enumerate (PyProof.Rows.callWith_type1 (thn (ha.run pos pins s σ H _ I h) fun us s1 ⟨vs, H1, I1, r1, q1⟩ => ?_) hs rfl))
  obtain ⟨a, xs, rfl, hq, q⟩ := q1
  rw [Vals.ref1 r1]
  obtain ⟨its, rv, ⟨o, h1, h2, n, h3⟩, hz⟩ := I1.tuple hq
  have p' : s1.heap.IsTuple a its.toArray := ⟨o, h1, h2, n, h3⟩
  have hal : a < s1.heap.objs.size := Heap.lt_size h1
  refine enum_one (begins_tuple a its.toArray) p' fun h' he hit hsz hk => wpAny_pyIter_enum he ?_
  have I2 : Inv X pins σ H1 { s1 with heap := h' } := I1.kept (t' := s1.toks) hk
  refine ⟨s1.heap.objs.size + 1, [s1.heap.objs.size + 1, s1.heap.objs.size], _, _, H1, rfl, I2, turn_enumT (a := a) (e := s1.heap.objs.size + 1) (it := s1.heap.objs.size) (Nat.ne_of_lt (Nat.lt_succ_of_lt hal)) (Nat.ne_of_lt hal), ⟨⟨.none, he⟩, ⟨_, hit, rfl, rfl⟩, Nat.succ_ne_self _⟩, fun b hb => ?_, q⟩
  have hle : s1.heap.objs.size ≤ b := by
    rcases List.mem_cons.mp hb with z | z
    · rw [z]
      exact Nat.le_add_right _ _
    · rw [List.mem_singleton.mp z]
      exact Nat.le_refl _
  exact I1.fpOk hle (I1.hok.fresh hle)
theorem walk_enumT {K : PySem.W.Frag} {a : Addr} {xs : List V} : Walk (IteT K a) xs.length (fun H => SqT K H a xs) (YPair (fun i => some (.int (i : Nat))) (fun i => xs[i]?)) := by
  refine ⟨fun i _ hi q => ⟨xs, xs[i], q, List.getElem?_eq_getElem hi⟩, fun _ q => ⟨xs, q, rfl⟩, fun i H v H' _ q y => ?_⟩
  obtain ⟨T, x, h1, h2, h3, h4⟩ := y
  exact ⟨T, .int (i : Nat), x, h1, h2, h3, rfl, h4 xs q⟩
/-- a dict comprehension over it -/
theorem dc_it {J : It} {n : Nat} {G : Hp → Prop} {Y : Nat → Hp → V → Hp → Prop} (w : Walk J n G Y) {g : TG} {tt : TT} {tk tv : TE} {vs : List Nat} {σ : L2.St} {H1 : Hp} {D : Addr} {Q : VK} (Pv : Nat → Hp → Prop) (h0 : Pv 0 (upd H1 D (.dK []))) (hG : ∀ i H, i ≤ n → Pv i H → G H)
    (hs : ∀ i x H H', i < n → Pv i H → Y i H x H' → g x (wipe σ vs) H' fun σ2 H2 => wipe σ2 vs = wipe σ vs ∧ tt σ2 H2 fun b H3 =>
      if b = true then tk σ2 H3 fun y H4 => tv σ2 H4 fun z H5 => ∃ kvs k, y = kV k ∧ H5 D = some (.dK kvs) ∧ kvs.length < sizeLine ∧ Pv (i + 1) (upd H5 D (.dK (putK kvs k z))) else Pv (i + 1) H3) (hd : ∀ H, Pv n H → Q (.ref D) H) :
    ∃ W : Nat → Nat → Hp → Prop, (∃ m, W 0 m (upd H1 D (.dK []))) ∧ ∀ i m H, W i m H →
      (J.stop i H ∧ Q (.ref D) H) ∨ (J.go i H ∧ ∃ Nx : Hp → Prop, (∀ H', Nx H' → ∃ m', m' < m ∧ W (i + 1) m' H') ∧ ∀ x H', J.yld i H x H' → g x (wipe σ vs) H' fun σ2 H2 => wipe σ2 vs = wipe σ vs ∧ tt σ2 H2 fun b H3 =>
        if b = true then tk σ2 H3 fun y H4 => tv σ2 H4 fun z H5 => ∃ kvs k, y = kV k ∧ H5 D = some (.dK kvs) ∧ kvs.length < sizeLine ∧ Nx (upd H5 D (.dK (putK kvs k z))) else Nx H3) := by
  refine ⟨fun i m H => m = n - i ∧ i ≤ n ∧ Pv i H, ⟨n, by simp, Nat.zero_le _, h0⟩, ?_⟩
  rintro i m H ⟨rfl, hi, p⟩
  have q := hG i H hi p
  by_cases hlt : i < n
  · exact .inr ⟨w.goes i H hlt q, Pv (i + 1), fun H' p' => ⟨n - (i + 1), by omega, rfl, hlt, p'⟩, fun x H' y => hs i x H H' hlt p (w.yields i H x H' hlt q y)⟩
  · have e : i = n := by omega
    subst e
    exact .inl ⟨w.stops H q, hd H p⟩
end Mv

set_option Elab.async false
set_option linter.all false
set_option maxRecDepth 100000
set_option maxHeartbeats 4000000
namespace Mv
open PySem PySem.Spec PyProof.Rows L2
/-! ### sorted(range(n), key=lambda at: word[at]) -/
/-- the indexes of a word, by their values, equal ones ascending -/
def bagIx (xs : List Int) : List Nat := (List.range xs.length).mergeSort fun i j => decide (xs.getD i 0 ≤ xs.getD j 0)
theorem bagIx_perm (xs : List Int) : (bagIx xs).Perm (List.range xs.length) := List.mergeSort_perm _ _
theorem bagIx_len (xs : List Int) : (bagIx xs).length = xs.length := by rw [(bagIx_perm xs).length_eq, List.length_range]
theorem bagIx_lt {xs : List Int} {i : Nat} (h : i ∈ bagIx xs) : i < xs.length := List.mem_range.mp ((bagIx_perm xs).mem_iff.mp h)
theorem range_get (xs : List Int) : (List.range xs.length).map (fun i => xs.getD i 0) = xs := by
  apply List.ext_getElem?
  intro i
  rw [List.getElem?_map]
  by_cases h : i < xs.length
  · rw [List.getElem?_range h, List.getElem?_eq_getElem h]
    simp [List.getD_eq_getElem?_getD, List.getElem?_eq_getElem h]
  · rw [List.getElem?_eq_none (by rw [List.length_range]; omega), List.getElem?_eq_none (by omega)]
    rfl
theorem bagIx_vals (xs : List Int) : (bagIx xs).map (fun i => xs.getD i 0) = sortI xs := by
  refine sort_is ?_ ?_
  · have h := (bagIx_perm xs).map (fun i => xs.getD i 0)
    rw [range_get] at h
    exact h
  · rw [List.pairwise_map]
    have h := List.pairwise_mergeSort (le := fun i j => decide (xs.getD i 0 ≤ xs.getD j 0)) (by
      intro a b c h1 h2
      have h1 := of_decide_eq_true h1
      have h2 := of_decide_eq_true h2
      exact decide_eq_true (Int.le_trans h1 h2)) (by
      intro a b
      rcases Int.le_total (xs.getD a 0) (xs.getD b 0) with q | q
      · rw [decide_eq_true q]; rfl
      · rw [decide_eq_true q, Bool.or_true]) (List.range xs.length)
    exact h.imp fun {a b} q => of_decide_eq_true q
section
variable {prog : Program} {w : World} {A : Around} {s : Shared}
/-- lambda at: word[at], called -/
theorem lam_key {f c' c p : Addr} {q : Str} {params : Arguments} {scope : Scope} {cl : List (Str × Addr)} {pm ctv : Value} {p1 p2 p3 : Pos} {its : List Value} {i : Nat} {t u : Tok} {n : Int}
    (hroom : A.depth < recursionLimit) (nl : s.heap.NoLimit) (ho : s.heap.get? f = some (PySem.W.kla_obj "<lambda>" q params (.Subscript (.Name "word" p1) (.Name "at" p2) p3) scope cl pm c' ctv))
    (hcd : s.heap.CodeRec (.ref c') q) (hsc : scope.names = [(("at" : Str), NameKind.local), (("word" : Str), NameKind.free)]) (hk : scope.kind = .function) (hco : scope.isCoroutine = false) (hgen : scope.isGenerator = false)
    (hbind : ∀ v : Value, bindArgs (PySem.W.kla_fn "<lambda>" q params (.Subscript (.Name "word" p1) (.Name "at" p2) p3) scope cl pm (.ref c') ctv) ⟨[v], []⟩ = pure [(("at" : Str), v)])
    (hcl : cl.lookup ("word" : Str) = some c) (hcell : s.heap.IsCell c (some (.ref p))) (hseq : s.heap.IsTuple p its.toArray ∨ s.heap.IsList p its.toArray) (hz : its.length ≤ sizeLine) (hat : its[i]? = some (.int n u)) :
    wpAny (model prog w) A (call (.ref f) [.int (i : Nat) t]) (PySem.W.KeyPure (.int n) s) (fun _ _ => False) s := by
  have hi : i < its.length := (List.getElem?_eq_some_iff.mp hat).1
  have hz63 : its.length < 2 ^ 63 := by
    rw [sizeLine_eq] at hz
    omega
  refine wpAny_call (PySem.W.kla_callFunE hroom ho rfl hco hgen rfl hcd ?_)
  rw [hbind]
  refine wpAny_pure (wpAny_newFunctionEnv (by rw [hsc]; decide) (by rw [hsc]; intro y hy; rw [List.mem_singleton.mp hy]; rfl) (fun h₁ hns hsb => ⟨nl.fresh _ hsb, ?_⟩) hk)
  have kp : ∀ b o, s.heap.get? b = some o → h₁.get? b = some o := fun b o e => hsb.extBut b o (Nat.ne_of_lt (Heap.lt_size e)) (Heap.get?_push_of_some _ e)
  show codeAny _ _ (.expr _ (PySem.W.envX q scope s.heap.objs.size f (.ref c') cl)) _ _
  refine PySem.W.kla_codeExpr ?_
  obtain ⟨oc, hoc, hdc⟩ := hcell
  have kn1 : (PySem.W.envX q scope s.heap.objs.size f (.ref c') cl).kindOf "word" = some .free := by
    show scope.names.lookup _ = _
    rw [hsc]
    rfl
  have kn2 : (PySem.W.envX q scope s.heap.objs.size f (.ref c') cl).kindOf "at" = some .local := by
    show scope.names.lookup _ = _
    rw [hsc]
    rfl
  refine Subscript_ (wpAny_Name (wpAny_loadName_free hk kn1 hcl ⟨oc, kp _ _ hoc, hdc⟩ ?_) (by decide))
  refine wpAny_Name (wpAny_loadName_local (v := .int (i : Nat) t) hk kn2 hns rfl ?_) (by decide)
  have fin : PySem.W.KeyPure (.int n) s (.int n u) { s with heap := h₁, toks := s.toks + [(("at" : Str), Value.int (i : Nat) t)].length } := ⟨h₁, _, rfl, kp, .int n u⟩
  rcases hseq with ⟨o, h1, h2, m, h3⟩ | hl
  · refine subscriptTail_builtinR (x := .int n u) ⟨o, kp _ _ h1, h2⟩ slot_tuple_getitem.lookup (getItem_tuple (j := i) ⟨o, kp _ _ h1, h2, m, h3⟩ (by omega) (by omega) ?_ ?_ ⟨rfl, fin⟩)
    · rw [List.size_toArray]
      exact seqIndex_of (Int.natCast_nonneg _) (by omega)
    · rw [List.getElem?_toArray]
      exact hat
  · exact item_listR (x := .int n u) (hl.at fun o e => kp _ _ e) (Int.natCast_nonneg _) (by omega) (by rw [Int.toNat_natCast, List.getElem?_toArray]; exact hat) fin
end
theorem each_vals {out : List Value} {is : List Nat} (e : PySem.W.EachIs (fun v (i : Nat) => ∃ t, v = .int (i : Nat) t) out is) : Vals (is.map fun i => V.int (i : Nat)) out := by
  induction e with
  | nil => exact .nil
  | cons h _ ih =>
    obtain ⟨t, rfl⟩ := h
    exact .cons ⟨t, rfl⟩ ih
section
variable {X : Cx} {pins : List (Addr × Obj)} {σ : L2.St} {H : Hp} {s : Shared} {Q : VK}
/-- sorted(v, key=f), v collected as the ints vs, f a pure key -/
theorem sorted_key_from (I : Inv X pins σ H s) {v : Value} {f : Addr} {n : Nat} {key : Nat → Int} (hz : n ≤ sizeLine) (hu : X.A.units + 2 < cLine)
    (hc : ∀ R : List Value → Shared → Prop, (∀ (h' : Heap) (tk : Nat) (acc : List Value), (∀ b o, s.heap.get? b = some o → h'.get? b = some o) → PySem.W.EachIs (fun v (i : Nat) => ∃ t, v = .int (i : Nat) t) acc (List.range n) → R acc { s with heap := h', toks := tk }) → wpAny (model X.prog X.w) X.A.in1 (collect v) R X.xe s)
    (turn : ∀ (i : Nat) (t : Tok) (h : Heap) (tk : Nat), i < n → (∀ b o, s.heap.get? b = some o → h.get? b = some o) → wpAny (model X.prog X.w) X.A.in1.in1 (call (.ref f) [.int (i : Nat) t]) (PySem.W.KeyPure (.int (key i)) { s with heap := h, toks := tk }) (fun _ _ => False) { s with heap := h, toks := tk })
    (q : ∀ p : Addr, H p = none → Q (.ref p) (upd H p (.lst (((List.range n).mergeSort fun i j => decide (key i ≤ key j)).map fun i => V.int (i : Nat))))) :
    wpAny (model X.prog X.w) X.A (call (.builtin "sorted") [v] [(Str.ofString "key", .ref f)]) (EP X pins σ Q) X.xe s := by
  refine call_function_entry_kw kind_sorted plain_sorted entry_sorted (ksk_s1 _ _) ?_
  unfold Builtin.«sorted»
  refine wpAny_bind (m := checkCount "sorted" 1 1 _) (wpAny_pure (wpAny_bind (hc _ fun h' tk acc hk hi => ?_)))
  have I1 : Inv X pins σ H { s with heap := h', toks := tk } := I.kept hk
  have hl : acc.length = n := by rw [hi.length, List.length_range]
  refine wpAny_bind (wpAny_newList ?_ (by rw [hl]; exact hz))
  have hoL : (h'.push (seqObj "list" acc.toArray 0)).get? h'.objs.size = some (seqObj "list" acc.toArray 0) := Heap.get?_push_size _ rfl
  show wpAny _ _ _ _ _ { s with heap := h'.push (seqObj "list" acc.toArray 0), toks := tk }
  refine wpAny_bind (wpAny_holding (wpAny_call_entry_kw slot_list_sort ⟨_, hoL, rfl⟩ entry_list_sort ?_ (ksk_l1 _ _)))
  rw [ksk_t1]
  have up : ∀ {g : Heap}, PySem.W.KeepsBut h'.objs.size (h'.push (seqObj "list" acc.toArray 0)) g → ∀ b o, h'.get? b = some o → g.get? b = some o := fun {g} kp b o e =>
    kp b o (Nat.ne_of_lt (Heap.lt_size e)) (Heap.get?_push_of_some _ e)
  refine PySem.W.keyH_tree (b := false) (kz := (List.range n).map fun i => PyData.int (key i)) (s := { s with heap := h'.push (seqObj "list" acc.toArray 0), toks := tk }) hoL
    (by rw [List.length_map, List.length_range, hl]) (by rw [hl]; exact hz) (PySem.W.AllAlike.of fun _ _ => by simp [PySem.W.alike]) ?_ (PySem.W.bound_map (A := X.A.in1.in1) (bs := List.range n) (enc := fun i => PyData.int (key i)) fun _ _ => ?_)
    (PySem.W.keyH_turns (s := { s with heap := h'.push (seqObj "list" acc.toArray 0), toks := tk }) hi fun v i hv hin h tk2 kp => ?_) fun h3 tk3 out c kp hD ko => ?_
  · exact PySem.W.Sortable.others fun i => ⟨by simp, by simp⟩
  · show X.A.units + 2 + 0 < _
    omega
  · obtain ⟨t, rfl⟩ := hv
    exact turn i t h tk2 (List.mem_range.mp hin) fun b o e => up kp b o (hk b o e)
  · have eo := PySem.W.keyedOut_each (fun i : Nat => PyData.int (key i)) ko hi
    rw [PySem.W.dataLe_int] at eo
    refine ⟨_, rfl, wpAny_pure ⟨_, rfl, .ref h'.objs.size, upd H h'.objs.size (.lst (((List.range n).mergeSort fun i j => decide (key i ≤ key j)).map fun i => V.int (i : Nat))), I1.laid (t' := tk3) (h' := h3) (up kp) (Nat.le_refl _)
      (show ObjOk X.prog X.w _ _ _ (.lst _) from ⟨?_, out, c, ?_, hD⟩), rfl, q _ (I1.hok.fresh (Nat.le_refl _))⟩⟩
    · rw [List.length_map, List.length_mergeSort, List.length_range]
      exact hz
    · exact each_vals eo
end
end Mv

set_option Elab.async false
set_option linter.all false
set_option maxRecDepth 100000
set_option maxHeartbeats 4000000
namespace Mv
open PySem PySem.Spec PyProof.Rows L2
def tSortAt (K : PySem.W.Frag) (T : List (Addr × Str)) (i : Nat) (ta : TE) : TE := fun σ H Q => ta σ H fun x H1 => ∃ (p : Addr) (xs : List Int), σ[i]? = some (some (.ref p)) ∧ x = .int (xs.length : Int) ∧ (SqT K H1 p (xs.map V.int) ∨ SqL K H1 p (xs.map V.int)) ∧ xs.length ≤ 4000 ∧ LamX.Tabs T H1 ∧
  ∀ H2 l, LamX.ExtN H1 H2 → LamX.Tabs T H2 → H2 l = none → Q (.ref l) (upd H2 l (.lst ((bagIx xs).map fun i => V.int (i : Nat))))
theorem sq_extN {K : PySem.W.Frag} {H H1 : Hp} {p : Addr} {xs : List V} (e : LamX.ExtN H H1) (h : SqT K H p xs ∨ SqL K H p xs) : SqT K H1 p xs ∨ SqL K H1 p xs := by
  rcases h with ((h | ⟨o, h⟩) | h) | ((h | ⟨o, h⟩) | h)
  · exact .inl (.inl (.inl (e _ _ h (fun ps z => by cases z))))
  · exact .inl (.inl (.inr ⟨o, e _ _ h (fun ps z => by cases z)⟩))
  · exact .inl (.inr h)
  · exact .inr (.inl (.inl (e _ _ h (fun ps z => by cases z))))
  · exact .inr (.inl (.inr ⟨o, e _ _ h (fun ps z => by cases z)⟩))
  · exact .inr (.inr h)
/-- sorted(range(a), key=lambda at: word[at]) -/
theorem pe_sortAt {X : Cx} {k : Nat} {T : List (Addr × Str)} {c P : Addr} {params : Arguments} {scope : Scope} {i : Nat} {a : Expr} {ta : TE} {p p2 pos pos2 p3 p4 p5 lpos kpos : Pos}
    (hc : X.calm = true) (hr : Room k X.A) (hg : Gl X "sorted") (hm : X.mg "sorted" = none) (hg2 : Gl X "range") (hm2 : X.mg "range" = none) (ha : PE X a ta)
    (TB : LamX.TabB X.base X.mg c P) (hcode : X.env.code = .ref c) (hmT : (P, X.env.qual ++ "<lambda>") ∈ T) (hu : ∀ p ∈ T, p.1 = P → p.2 = X.env.qual ++ "<lambda>") (hN : X.N[i]? = some "word") (hv : X.env.kindOf "word" = some .cell)
    (hdef : defaultsOf params X.env = ([], [])) (hsc : scope.names = [(("at" : Str), NameKind.local), (("word" : Str), NameKind.free)]) (hk : scope.kind = .function) (hco : scope.isCoroutine = false) (hgen : scope.isGenerator = false)
    (hbind : ∀ (q : Str) (cl : List (Str × Addr)) (pm cv ctv v : Value), bindArgs (PySem.W.kla_fn "<lambda>" q params (.Subscript (.Name "word" p3) (.Name "at" p4) p5) scope cl pm cv ctv) ⟨[v], []⟩ = pure [(("at" : Str), v)])
    (na : starEach [a] X.env = (false, eval a X.env) :: starEach [] X.env := by rfl)
    (ne : starEach [.Call (.Name "range" p2) [a] [] pos2] X.env = (false, eval (.Call (.Name "range" p2) [a] [] pos2) X.env) :: starEach [] X.env := by rfl) :
    PE X (.Call (.Name "sorted" p) [.Call (.Name "range" p2) [a] [] pos2] [⟨some "key", .Lambda params (.Subscript (.Name "word" p3) (.Name "at" p4) p5) scope lpos, kpos⟩] pos) (tSortAt X.K T i ta) := by
  refine ⟨fun pins s σ H Q I h => ?_⟩
  refine wpAny_Call_Name_kw (ld_blt I hg hm boot_sorted ?_)
  refine PyProof.Rows.callWith_kw (args_cons (Call_ (ld_blt I hg2 hm2 boot_range (PyProof.Rows.callWith_type1 (one_arg ha I h (fun v s2 x H2 I2 rx q => ?_) na) na))) ne) (by rw [ne]; rfl) (by rw [ne]; rfl) (by rfl) (by rfl)
  obtain ⟨w1, xs, hσ, rfl, hsq, hlen, hT, q⟩ := q
  obtain ⟨t, rfl⟩ := rx
  refine call_range_1 (args_nil ?_)
  generalize ht0 : s2.toks = t0
  generalize hro : ({ cls := .type "range", data := .fields #[.int 0 t0, .int (xs.length : Int) t, .int 1 (t0 + 1)] } : Obj) = ro
  generalize hs3 : ({ s2 with heap := s2.heap.push ro, toks := t0 + 1 + 1 } : Shared) = s3
  have I3 : Inv X pins σ H2 s3 := by
    rw [← hs3]
    exact I2.kept fun b u e => Heap.get?_push_of_some _ e
  have h3r : s3.heap.get? s2.heap.objs.size = some ro := by
    rw [← hs3]
    exact Heap.get?_push_size _ (by rw [← hro]; rfl)
  have hro' : IsRange s3.heap s2.heap.objs.size 0 (xs.length : Int) 1 t0 t (t0 + 1) := by
    rw [← hro] at h3r
    exact h3r
  have I4 : Inv X ((s2.heap.objs.size, ro) :: pins) σ H2 s3 := I3.pins_of fun p hp => by
    rcases List.mem_cons.mp hp with rfl | hp
    · exact ⟨h3r, I2.hok.fresh (Nat.le_refl _), Nat.ne_of_gt I2.lt, I2.nofs (Nat.le_refl _), fun v z => by rw [← hro] at z; cases z⟩
    · exact I3.pin p (List.mem_append_right _ hp)
  clear hs3
  generalize s2.heap.objs.size = r at *
  obtain ⟨c0, hc0⟩ := I.ok.has _ (.inl hv)
  have hfree : ∀ y ∈ scope.names, y.2 = .free → ∃ c, X.env.cells.lookup y.1 = some c := fun y hy e => by
    rw [hsc] at hy
    rcases List.mem_cons.mp hy with rfl | hy
    · cases e
    · rw [List.mem_singleton.mp hy]
      exact ⟨c0, hc0⟩
  show wpAny _ _ (evalAll ((do let v ← eval (.Lambda params (.Subscript (.Name "word" p3) (.Name "at" p4) p5) scope lpos) X.env; standAt pos; pure v) :: [])) _ _ _
  refine wpAny_evalAll_cons (wpAny_bind (LamX.lam_make2 I4 TB hcode hmT hu hT hdef hfree fun f c' pm ctv H3 s4 I5 eN T1 hf hfn hfr hcd => wpAny_bind (wpAny_standAt (wpAny_pure (wpAny_evalAll_nil ?_)))))
  show wpAny _ _ (call (.builtin "sorted") [.ref r] [(Str.ofString "key", .ref f)]) _ _ _
  have hr4 : IsRange s4.heap r 0 (xs.length : Int) 1 t0 t (t0 + 1) := by
    have h4 := (I5.pin (r, ro) (List.mem_append_right _ (List.mem_cons_self ..))).1
    rw [← hro] at h4
    exact h4
  have hsq3 := sq_extN eN hsq
  have hun := hr.units0
  have hzl : xs.length ≤ sizeLine := small4000' hlen
  have eRs : Builtin.Range.rangeSize 0 (xs.length : Int) 1 = ((xs.length : Nat) : Int).toNat := by
    have := rangeSize_nat 0 (xs.length : Int)
    rw [Int.sub_zero] at this
    exact this
  obtain ⟨oc, vs, tq, hoc, hdc, hvc⟩ := (I5.hok c' _ hcd).1
  -- the word as the machine has it
  obtain ⟨its, rv, hseq⟩ : ∃ its : List Value, Vals (xs.map V.int) its ∧ (s4.heap.IsTuple w1 its.toArray ∨ s4.heap.IsList w1 its.toArray) := by
    rcases hsq3 with z | z
    · obtain ⟨its, rv, ⟨o, h1, h2, n, h3⟩, _⟩ := I5.tuple z
      exact ⟨its, rv, .inl ⟨o, h1, h2, n, h3⟩⟩
    · obtain ⟨its, rv, pl, _⟩ := I5.list z
      exact ⟨its, rv, .inr pl.isList⟩
  have hil : its.length = xs.length := by
    rw [← rv.length, List.length_map]
  obtain ⟨m, hns, hl⟩ := I5.loc
  have hcell : s4.heap.IsCell c0 (some (.ref w1)) := by
    obtain ⟨u, ru, lk⟩ := hl i "word" (.ref w1) hN hσ (.inr (.inl hv))
    obtain rfl : u = Value.ref w1 := ru
    rcases lk with ⟨z, _⟩ | ⟨_, c2, e2, hc2⟩
    · rw [hv] at z
      cases z
    · rw [hc0] at e2
      cases e2
      exact hc2
  refine wpAny_mono (sorted_key_from (n := xs.length) (key := fun i => xs.getD i 0) (Q := Q) I5 hzl (by have := hr.units; omega) (fun R kR => ?_) (fun j tj hp tk hj kp => ?_) (fun l hl2 => q H3 l eN T1 hl2)) (fun v s5 hv5 => ?_) fun _ _ z => z
  · refine collect_range (n := xs.length) (by exact I5.ok.hd hc) hr4 (small_one (by omega) (by omega) (by omega) (by omega)) (by rw [eRs, Int.toNat_natCast]) (by omega) fun h' tk acc k1 k2 => kR h' tk acc.toList k1 ?_
    refine PySem.W.EachIs.of_zip (by rw [Array.length_toList, k2.1, List.length_range]) fun pr hpr => ?_
    obtain ⟨j, hj⟩ := List.getElem?_of_mem hpr
    obtain ⟨e1, e2⟩ := List.getElem?_zip_eq_some.mp hj
    rw [Array.getElem?_toList] at e1
    obtain ⟨tt, e3⟩ := k2.2 j _ e1
    have hj2 : j < xs.length := by
      have := (List.getElem?_eq_some_iff.mp e2).1
      rw [List.length_range] at this
      exact this
    rw [List.getElem?_range hj2] at e2
    refine ⟨tt, ?_⟩
    rw [e3, ← Option.some.inj e2, Int.zero_add, Int.mul_one]
  · have e1 : (xs.map V.int)[j]? = some (.int (xs.getD j 0)) := by
      rw [List.getElem?_map, List.getElem?_eq_getElem hj, List.getD_eq_getElem?_getD, List.getElem?_eq_getElem hj]
      rfl
    obtain ⟨u, hu1, ⟨tu, rfl⟩⟩ := rv.get e1
    refine lam_key (s := { s4 with heap := hp, toks := tk }) (A := X.A.in1.in1) hr.depth (I5.nolimit.keeps kp) (kp _ _ hf) ⟨c', oc, vs, tq, rfl, kp _ _ hoc, hdc, hvc⟩ hsc hk hco hgen (hbind _ _ _ _ _) (c := c0) ?_ ?_ (p := w1) (its := its) ?_ (by rw [hil]; exact hzl) hu1
    · rw [hsc]
      show (cloFrom X.env.cells [(("word" : Str), NameKind.free)] []).lookup _ = _
      show List.lookup _ [(("word" : Str), (X.env.cells.lookup ("word" : Str)).getD 0)] = _
      rw [hc0]
      rfl
    · obtain ⟨o1, h1, h2⟩ := hcell
      exact ⟨o1, kp _ _ h1, h2⟩
    · rcases hseq with ⟨o, h1, h2, n, h3⟩ | z
      · exact .inl ⟨o, kp _ _ h1, h2, n, h3⟩
      · exact .inr (z.at fun o e => kp _ _ e)
  · obtain ⟨v2, H5, J, rv5, q5⟩ := hv5
    exact ⟨v2, H5, J.pins_of fun p hp => J.pin p (List.mem_append_right _ (List.mem_cons_of_mem _ hp)), rv5, q5⟩
end Mv

set_option Elab.async false
set_option linter.all false
set_option maxRecDepth 100000
set_option maxHeartbeats 1000000
namespace Mv
open PySem PySem.Spec PyProof.Rows L2
/-! ### the kept indexes -/
theorem getD_at {xs : List Int} {i : Nat} (h : i < xs.length) : xs.getD i 0 = xs[i] := by
  rw [List.getD_eq_getElem?_getD, List.getElem?_eq_getElem h]
  rfl
theorem idx_get {xs : List Int} {x : Int} (h : x ∈ xs) : xs.getD (xs.idxOf x) 0 = x := by
  rw [getD_at (List.idxOf_lt_length_iff.mpr h)]
  exact List.getElem_idxOf _
theorem get_ixs {xs ys : List Int} (h : ∀ y ∈ ys, y ∈ xs) : (ys.map xs.idxOf).map (fun i => xs.getD i 0) = ys := by
  rw [List.map_map]
  conv => rhs; rw [← List.map_id ys]
  exact List.map_congr_left fun y hy => idx_get (h y hy)
theorem idx_app {xs : List Int} {x y : Int} (h : y ∈ xs) : (xs ++ [x]).idxOf y = xs.idxOf y := by
  rw [List.idxOf_append, if_pos h]
theorem idx_new {xs : List Int} {x : Int} (h : x ∉ xs) : (xs ++ [x]).idxOf x = xs.length := by
  rw [List.idxOf_append, if_neg h]
  simp
theorem ixs_asc (xs : List Int) : ((headsI xs).map xs.idxOf).Pairwise (· < ·) := by
  induction xs using snoc_ind with
  | h0 => exact .nil
  | hs xs x ih =>
    have e : (headsI xs).map (xs ++ [x]).idxOf = (headsI xs).map xs.idxOf := List.map_congr_left fun y hy => idx_app ((mem_headsI xs).mp hy)
    rw [headsI_snoc]
    unfold addI
    split
    · rw [e]
      exact ih
    · rename_i hx
      rw [List.map_append, e, List.map_singleton, idx_new (fun z => hx ((mem_headsI xs).mpr z))]
      refine List.pairwise_append.mpr ⟨ih, List.pairwise_singleton _ _, fun a ha b hb => ?_⟩
      rw [List.mem_singleton.mp hb]
      obtain ⟨y, hy, rfl⟩ := List.mem_map.mp ha
      exact List.idxOf_lt_length_iff.mpr ((mem_headsI xs).mp hy)
/-- where x stands last -/
def lastIx (xs : List Int) (x : Int) : Nat := xs.length - 1 - xs.reverse.idxOf x
theorem lastIx_snoc (xs : List Int) (x y : Int) (h : y = x ∨ y ∈ xs) : lastIx (xs ++ [x]) y = if y = x then xs.length else lastIx xs y := by
  unfold lastIx
  rw [List.reverse_append, List.length_append, List.length_singleton]
  show xs.length + 1 - 1 - List.idxOf y (x :: xs.reverse) = _
  rw [List.idxOf_cons]
  by_cases e : y = x
  · subst e
    simp
  · rw [if_neg e]
    have hb : (x == y) = false := beq_eq_false_iff_ne.mpr (Ne.symm e)
    rw [hb]
    show xs.length + 1 - 1 - (List.idxOf y xs.reverse + 1) = _
    omega
theorem lastIx_lt {xs : List Int} {x : Int} (h : x ∈ xs) : lastIx xs x < xs.length := by
  have := List.length_pos_of_mem h
  unfold lastIx
  omega
theorem lastIx_get {xs : List Int} {x : Int} (h : x ∈ xs) : xs.getD (lastIx xs x) 0 = x := by
  have h1 : xs.reverse.idxOf x < xs.reverse.length := List.idxOf_lt_length_iff.mpr (List.mem_reverse.mpr h)
  have h2 := lastIx_lt h
  rw [getD_at h2]
  have e := List.getElem_idxOf h1
  rw [List.getElem_reverse] at e
  exact e
/-- the tails' indexes -/
def tailIx (xs : List Int) : List Nat := ((headsI xs.reverse).map (lastIx xs)).reverse
theorem tailIx_asc (xs : List Int) : (tailIx xs).Pairwise (· < ·) := by
  unfold tailIx
  rw [List.pairwise_reverse, List.pairwise_map]
  have h := ixs_asc xs.reverse
  rw [List.pairwise_map] at h
  refine List.Pairwise.imp_of_mem (fun {a b} ha hb hab => ?_) h
  have h1 : xs.reverse.idxOf b < xs.length := by
    have := List.idxOf_lt_length_iff.mpr ((mem_headsI xs.reverse).mp hb)
    rw [List.length_reverse] at this
    exact this
  unfold lastIx
  omega
theorem tailIx_vals (xs : List Int) : (tailIx xs).map (fun i => xs.getD i 0) = tailsI xs := by
  unfold tailIx tailsI
  rw [List.map_reverse, List.map_map]
  congr 1
  conv => rhs; rw [← List.map_id (headsI xs.reverse)]
  exact List.map_congr_left fun y hy => lastIx_get (List.mem_reverse.mp ((mem_headsI _).mp hy))
theorem intsOf_asc {is : List Nat} (h : is.Pairwise (· < ·)) : (is.map fun i : Nat => (i : Int)).Pairwise (· ≤ ·) := by
  rw [List.pairwise_map]
  exact h.imp fun {a b} q => by omega
theorem sort_ixs (xs : List Int) : sortI ((headsI xs).map fun x => ((xs.idxOf x : Nat) : Int)) = ((headsI xs).map xs.idxOf).map fun i : Nat => (i : Int) := by
  refine (sort_is ?_ (intsOf_asc (ixs_asc xs))).symm
  rw [List.map_map]
  exact List.Perm.refl _
theorem sort_last (xs : List Int) : sortI ((headsI xs).map fun x => ((lastIx xs x : Nat) : Int)) = (tailIx xs).map fun i : Nat => (i : Int) := by
  refine (sort_is ?_ (intsOf_asc (tailIx_asc xs))).symm
  unfold tailIx
  rw [List.map_reverse, List.map_map]
  refine (List.reverse_perm _).trans ?_
  refine List.Perm.map _ (perm_of_mem (nodup_headsI _) (nodup_headsI _) fun x => ?_)
  rw [mem_headsI, mem_headsI, List.mem_reverse]
/-- what keep gives -/
def keepIx (k : Kd) (xs : List Int) : List Nat :=
  match k with
  | .list => List.range xs.length
  | .bag => bagIx xs
  | .set => (sortI (headsI xs)).map xs.idxOf
  | .first => if xs.length = 0 then [] else [0]
  | .last => if xs.length = 0 then [] else [xs.length - 1]
  | .ends => if xs.length = 0 then [] else [0, xs.length - 1]
  | .heads => (headsI xs).map xs.idxOf
  | .tails => tailIx xs
theorem keep_vals (k : Kd) (xs : List Int) : (keepIx k xs).map (fun i => xs.getD i 0) = plainI k xs := by
  have hlast : xs.length ≠ 0 → xs.drop (xs.length - 1) = [xs.getD (xs.length - 1) 0] := fun h => by
    rw [getD_at (by omega), List.drop_eq_getElem_cons (by omega), show xs.length - 1 + 1 = xs.length from by omega, List.drop_length]
  have hfst : xs.length ≠ 0 → xs.take 1 = [xs.getD 0 0] := fun h => by
    cases xs with
    | nil => exact absurd rfl h
    | cons x r => rfl
  have hnil : xs.length = 0 → xs = [] := List.length_eq_zero_iff.mp
  cases k with
  | list => exact range_get xs
  | bag => exact bagIx_vals xs
  | set => exact get_ixs fun y hy => (mem_headsI xs).mp (mem_sort.mp hy)
  | heads => exact get_ixs fun y hy => (mem_headsI xs).mp hy
  | tails => exact tailIx_vals xs
  | first =>
    show (if xs.length = 0 then [] else [0]).map _ = firstI xs
    split
    · rename_i h
      rw [hnil h]
      rfl
    · rename_i h
      exact (hfst h).symm
  | last =>
    show (if xs.length = 0 then [] else [xs.length - 1]).map _ = lastI xs
    split
    · rename_i h
      rw [hnil h]
      rfl
    · rename_i h
      exact (hlast h).symm
  | ends =>
    show (if xs.length = 0 then [] else [0, xs.length - 1]).map _ = endsI xs
    split
    · rename_i h
      rw [hnil h]
      rfl
    · rename_i h
      unfold endsI
      rw [hfst h, hlast h]
      rfl
theorem keep_lt {k : Kd} {xs : List Int} {i : Nat} (h : i ∈ keepIx k xs) : i < xs.length := by
  cases k with
  | list => exact List.mem_range.mp h
  | bag => exact bagIx_lt h
  | set =>
    obtain ⟨y, hy, rfl⟩ := List.mem_map.mp h
    exact List.idxOf_lt_length_iff.mpr ((mem_headsI xs).mp (mem_sort.mp hy))
  | heads =>
    obtain ⟨y, hy, rfl⟩ := List.mem_map.mp h
    exact List.idxOf_lt_length_iff.mpr ((mem_headsI xs).mp hy)
  | tails =>
    obtain ⟨y, hy, rfl⟩ := List.mem_map.mp (List.mem_reverse.mp h)
    exact lastIx_lt (List.mem_reverse.mp ((mem_headsI _).mp hy))
  | first =>
    revert h
    show i ∈ (if xs.length = 0 then [] else [0]) → _
    split
    · exact fun h => by cases h
    · intro h
      rw [List.mem_singleton.mp h]
      omega
  | last =>
    revert h
    show i ∈ (if xs.length = 0 then [] else [xs.length - 1]) → _
    split
    · exact fun h => by cases h
    · intro h
      rw [List.mem_singleton.mp h]
      omega
  | ends =>
    revert h
    show i ∈ (if xs.length = 0 then [] else [0, xs.length - 1]) → _
    split
    · exact fun h => by cases h
    · intro h
      rcases List.mem_cons.mp h with h | h
      · omega
      · rw [List.mem_singleton.mp h]
        omega
theorem keep_len {k : Kd} {xs : List Int} : (keepIx k xs).length = (plainI k xs).length := by rw [← keep_vals, List.length_map]
/-! ### the dicts by the values -/
def leastD (xs : List Int) (i : Nat) : List (Key × V) := (headsI (xs.take i)).map fun x => (Sum.inl x, V.int ((xs.idxOf x : Nat) : Int))
def greatD (xs : List Int) (i : Nat) : List (Key × V) := (headsI (xs.take i)).map fun x => (Sum.inl x, V.int ((lastIx (xs.take i) x : Nat) : Int))
theorem val_map (g : Int → V) (y : Int) : ∀ ys : List Int, valV (ys.map fun x => ((Sum.inl x : Key), g x)) (.inl y) = if y ∈ ys then some (g y) else none
  | [] => rfl
  | x :: ys => by
    rw [List.map_cons]
    by_cases e : x = y
    · subst e
      rw [valV_pos rfl, if_pos (List.mem_cons_self ..)]
    · rw [valV_neg (fun z => e (Sum.inl.inj z)), val_map g y ys]
      by_cases h : y ∈ ys
      · rw [if_pos h, if_pos (List.mem_cons_of_mem _ h)]
      · rw [if_neg h, if_neg]
        intro z
        rcases List.mem_cons.mp z with z | z
        · exact e z.symm
        · exact h z
theorem take_succ_at {xs : List Int} {i : Nat} {x : Int} (h : xs[i]? = some x) : xs.take (i + 1) = xs.take i ++ [x] := by
  rw [List.take_add_one, h]
  rfl
theorem least_hit {xs : List Int} {i : Nat} {x : Int} (h : xs[i]? = some x) (hx : x ∈ xs.take i) : leastD xs (i + 1) = leastD xs i := by
  unfold leastD
  rw [take_succ_at h, headsI_snoc]
  unfold addI
  rw [if_pos ((mem_headsI _).mpr hx)]
theorem least_new {xs : List Int} {i : Nat} {x : Int} (h : xs[i]? = some x) (hx : x ∉ xs.take i) : leastD xs (i + 1) = putK (leastD xs i) (.inl x) (.int (i : Nat)) := by
  have hv : valV (leastD xs i) (.inl x) = none := by
    unfold leastD
    rw [val_map, if_neg fun z => hx ((mem_headsI _).mp z)]
  rw [putK_new _ hv]
  unfold leastD
  rw [take_succ_at h, headsI_snoc]
  unfold addI
  rw [if_neg fun z => hx ((mem_headsI _).mp z), List.map_append, List.map_singleton]
  have hi : i < xs.length := (List.getElem?_eq_some_iff.mp h).1
  have e : xs.idxOf x = i := by
    have e1 : xs = xs.take i ++ xs.drop i := (List.take_append_drop i xs).symm
    have e2 : xs.drop i = x :: xs.drop (i + 1) := by
      rw [List.drop_eq_getElem_cons hi, (List.getElem?_eq_some_iff.mp h).2]
    rw [e1, List.idxOf_append, if_neg hx, e2, List.idxOf_cons_self, List.length_take, Nat.zero_add]
    omega
  rw [e]
theorem great_put {xs : List Int} {i : Nat} {x : Int} (h : xs[i]? = some x) : greatD xs (i + 1) = putK (greatD xs i) (.inl x) (.int (i : Nat)) := by
  have hi : i < xs.length := (List.getElem?_eq_some_iff.mp h).1
  have hl : (xs.take i).length = i := by
    rw [List.length_take]
    omega
  have hL : ∀ y, y = x ∨ y ∈ xs.take i → lastIx (xs.take (i + 1)) y = if y = x then i else lastIx (xs.take i) y := fun y hy => by
    rw [take_succ_at h, lastIx_snoc _ _ _ hy, hl]
  have hm := fun y => mem_headsI (y := y) (xs.take i)
  by_cases hx : x ∈ xs.take i
  · unfold greatD
    rw [show headsI (xs.take (i + 1)) = headsI (xs.take i) from by
      rw [take_succ_at h, headsI_snoc]
      unfold addI
      rw [if_pos ((hm x).mpr hx)]]
    unfold putK
    rw [if_pos, List.map_map]
    · refine List.map_congr_left fun y hy => ?_
      rw [hL y (.inr ((hm y).mp hy))]
      show _ = if (Sum.inl y : Key) = Sum.inl x then _ else _
      by_cases e : y = x
      · subst e
        rw [if_pos rfl, if_pos rfl]
      · rw [if_neg e, if_neg fun z => e (Sum.inl.inj z)]
    · rw [valV_any, val_map, if_pos ((hm x).mpr hx)]
      rfl
  · have hv : valV (greatD xs i) (.inl x) = none := by
      unfold greatD
      rw [val_map, if_neg fun z => hx ((hm x).mp z)]
    rw [putK_new _ hv]
    unfold greatD
    rw [show headsI (xs.take (i + 1)) = headsI (xs.take i) ++ [x] from by
      rw [take_succ_at h, headsI_snoc]
      unfold addI
      rw [if_neg fun z => hx ((hm x).mp z)], List.map_append, List.map_singleton, hL x (.inl rfl), if_pos rfl]
    congr 1
    refine List.map_congr_left fun y hy => ?_
    have hy := (hm y).mp hy
    rw [hL y (.inr hy), if_neg fun z : y = x => hx (z ▸ hy)]
theorem leastD_len (xs : List Int) (i : Nat) : (leastD xs i).length ≤ i := by
  unfold leastD
  rw [List.length_map]
  refine Nat.le_trans (headsI_len _) ?_
  rw [List.length_take]
  omega
theorem greatD_len (xs : List Int) (i : Nat) : (greatD xs i).length ≤ i := by
  unfold greatD
  rw [List.length_map]
  refine Nat.le_trans (headsI_len _) ?_
  rw [List.length_take]
  omega
end Mv

set_option Elab.async false
set_option linter.all false
set_option maxRecDepth 100000
set_option maxHeartbeats 4000000
namespace Mv
open PySem PySem.Spec PyProof.Rows L2
/-! ### t[::-1], t a tuple: a new tuple -/
section
variable {prog : Program} {w : World} {A : Around} {E : Value → Shared → Prop} {s : Shared}
theorem sliceApplied_back {sl : Addr} {vl vu vs : Value} {n : Nat} {Q : Int × Int × Nat → Shared → Prop} (hs : s.heap.IsSliceOf sl vl vu vs) (pl : IsPart vl none) (pu : IsPart vu none) (ps : IsPart vs (some (-1)))
    (h : Q ((n : Int) - 1, -1, n) s) : wpAny (model prog w) A (Builtin.Slice.sliceApplied (.ref sl) (pure (n : Int))) Q E s := by
  obtain ⟨os, hos, hcs, hds⟩ := id hs
  unfold Builtin.Slice.sliceApplied Builtin.Slice.sliceFields
  refine wpAny_bind (wpAny_bind (wpAny_field hos hds (x := vl) rfl (wpAny_bind (wpAny_field hos hds (x := vu) rfl (wpAny_bind (wpAny_field hos hds (x := vs) rfl (wpAny_pure ?_)))))))
  refine wpAny_bind (HT.slicePart_ ps ?_)
  show wpAny _ _ (if ((-1 : Int) == 0) = true then _ else _) _ _ s
  rw [if_neg (by decide)]
  refine wpAny_bind (HT.slicePart_ pl (wpAny_bind (HT.slicePart_ pu (wpAny_bind (wpAny_pure ?_)))))
  show wpAny _ _ (match Builtin.Slice.sliceAdjust none none (-1) (n : Int) with | (lo, hi) => pure (lo, (-1 : Int), Builtin.Slice.slicePlaces lo hi (-1))) _ _ s
  have e1 : Builtin.Slice.sliceAdjust none none (-1) (n : Int) = ((n : Int) - 1, -1) := rfl
  have e2 : Builtin.Slice.slicePlaces ((n : Int) - 1) (-1) (-1) = n := by
    unfold Builtin.Slice.slicePlaces
    rw [if_neg (by decide), show (- -1 : Int) = 1 by decide, Int.ediv_one]
    split <;> omega
  rw [e1]
  show wpAny _ _ (pure ((n : Int) - 1, (-1 : Int), Builtin.Slice.slicePlaces ((n : Int) - 1) (-1) (-1))) _ _ s
  rw [e2]
  exact wpAny_pure h
theorem fm_congr {α β : Type} {f g : α → Option β} : ∀ {l : List α}, (∀ k ∈ l, f k = g k) → l.filterMap f = l.filterMap g
  | [], _ => rfl
  | x :: l, h => by rw [List.filterMap_cons, List.filterMap_cons, h x List.mem_cons_self, fm_congr fun k hk => h k (List.mem_cons_of_mem _ hk)]
theorem pick_back (xs : Array Value) : ((List.range xs.size).filterMap fun (k : Nat) => xs[((xs.size : Int) - 1 + (k : Int) * (-1)).toNat]?).toArray = xs.toList.reverse.toArray := by
  have h := PySem.W.krv_pick xs
  have e : (List.range xs.size).filterMap (fun (k : Nat) => xs[((xs.size : Int) - 1 + (k : Int) * (-1)).toNat]?) = ((List.range xs.size).map fun k => xs.size - 1 - k).filterMap (xs[·]?) := by
    rw [List.filterMap_map]
    refine fm_congr fun k hk => ?_
    have := List.mem_range.mp hk
    show xs[_]? = xs[xs.size - 1 - k]?
    congr 1
    omega
  rw [e, PySem.W.krv_range, List.filterMap_reverse, PySem.W.krv_all]
theorem getItem_tuple_back {t sl : Addr} {items : Array Value} {vl vu vs : Value} {Q : Value → Shared → Prop} (ht : IsTup s.heap t items) (hs : s.heap.IsSliceOf sl vl vu vs) (pl : IsPart vl none) (pu : IsPart vu none) (ps : IsPart vs (some (-1)))
    (h : Q (.ref s.heap.objs.size) { s with heap := s.heap.push { cls := .type "tuple", data := .seq items.toList.reverse.toArray } }) (hsz : items.size ≤ sizeLine) : wpAny (model prog w) A (getItem (.ref t) (.ref sl)) Q E s := by
  have htake : sizeOk (.seq items.toList.reverse.toArray) := by
    show items.toList.reverse.toArray.size ≤ sizeLine
    rw [List.size_toArray, List.length_reverse, Array.length_toList]
    exact hsz
  obtain ⟨os, hos, hcs, hds⟩ := id hs
  have hTs : s.TypeIs (.ref sl) "slice" := ⟨os, hos, hcs⟩
  unfold getItem
  try with_reducible refine wpAny_holding ?_
  first | refine wpAny_bind (wpAny_pure ?_) | skip
  refine wpAny_bind (wpAny_sequenceKey ht.typeIs (by decide) ?_)
  refine wpAny_bind (wpAny_callSpecial?_slot (name := Str.ofString "__getitem__") ht.typeIs PyProof.Rows.slot_tuple_getitem
    (wpAny_call_entry PyProof.Rows.slot_tuple_getitem ht.typeIs entry_tuple_getitem ?_ (args_tuple_getitem _ _)))
  show wpAny _ _ (Builtin.Tuple.tupleItemsOf (.ref t) >>= _) _ _ s
  refine wpAny_bind (tupleItemsOf_ ht ?_)
  refine wpAny_bind (wpAny_typeOf hTs ?_)
  rw [if_pos (by decide)]
  refine wpAny_bind (sliceApplied_back hs pl pu ps ?_)
  show wpAny _ _ (if (((items.size : Int) - 1) == 0 && (-1 : Int) == 1 && items.size == items.size) = true then _ else _) _ _ s
  rw [if_neg (by rw [show ((-1 : Int) == 1) = false from rfl, Bool.and_false, Bool.false_and]; exact Bool.false_ne_true), pick_back]
  first
    | exact wpAny_bind (m := Builtin.Tuple.tupleExact _) (wpAny_newObj_type (wpAny_pure ⟨_, rfl, wpAny_pure h⟩) htake)
    | exact wpAny_bind (m := Builtin.Tuple.tupleExact _) (wpAny_newObj_type (wpAny_bind (wpAny_pure (wpAny_pure ⟨_, rfl, wpAny_pure h⟩))) htake)
    | exact wpAny_bind (wpAny_bind (m := Builtin.Tuple.tupleExact _) (wpAny_newObj_type (wpAny_pure (wpAny_pure ⟨_, rfl, wpAny_pure h⟩)) htake))
    | exact wpAny_bind (wpAny_bind (m := Builtin.Tuple.tupleExact _) (wpAny_newObj_type (wpAny_pure ⟨_, rfl, wpAny_pure h⟩) htake))
end
section
variable {X : Cx}
def tRevT (K : PySem.W.Frag) (te : TE) : TE := fun σ H Q => te σ H fun x H1 => ∃ a xs, x = .ref a ∧ SqT K H1 a xs ∧ ∀ p, H1 p = none → Q (.ref p) (upd H1 p (.tup xs.reverse))
theorem pe_revT {e : Expr} {te : TE} {k : Nat} {p1 p2 p3 pos : Pos} (he : PE X e te) : PE X (.Subscript e (.Slice none none (some (.UnaryOp .USub (.Constant (.int 1) k p1) p2)) p3) pos) (tRevT X.K te) := by
  refine ⟨fun pins s σ H Q I h => ?_⟩
  refine Subscript_ (thn (he.run pins s σ H _ I h) fun v s1 ⟨x, H1, I1, r1, q1⟩ => ?_)
  obtain ⟨a, xs, ex, hx, q⟩ := q1
  subst ex
  cases r1
  have hst : PO X (some (.UnaryOp .USub (.Constant (.int 1) k p1) p2)) (tPart (tUn (rU fun i => .int (-i)) (tC (.int 1)))) := po_some (pe_un un_neg pe_int)
  refine wpAny_Slice (thn (po_none.run pins s1 σ H1 (fun o H2 => o = none ∧ H2 = H1) I1 ⟨rfl, rfl⟩) fun vl s2 ⟨l, H2, I2, pl, el, e2⟩ => ?_)
  subst el e2
  refine thn (po_none.run pins s2 σ H2 (fun o H3 => o = none ∧ H3 = H2) I2 ⟨rfl, rfl⟩) fun vu s3 ⟨u, H3, I3, pu, eu, e3⟩ => ?_
  subst eu e3
  refine thn (hst.run pins s3 σ H3 (fun o H4 => o = some (-1) ∧ H4 = H3) I3 ⟨1, rfl, -1, rfl, rfl, rfl⟩) fun vs s4 ⟨o, H4, I4, ps, eo, e4⟩ => ?_
  subst eo e4
  have I5 : Inv X pins σ H4 { s4 with heap := s4.heap.push { cls := .type "slice", data := .fields #[vl, vu, vs] } } := I4.kept (t' := s4.toks) fun b ob q => Heap.get?_push_of_some _ q
  obtain ⟨its, r, ht, hz⟩ := I5.tuple hx
  have hlen := r.length
  show wpAny (model X.prog X.w) X.A (subscriptTail e (.Slice none none (some (.UnaryOp .USub (.Constant (.int 1) k p1) p2)) p3) (.ref a) (.ref s4.heap.objs.size)) (EP X pins σ Q) X.xe { s4 with heap := s4.heap.push { cls := .type "slice", data := .fields #[vl, vu, vs] } }
  refine tail_any (ops := [.ref a, .ref s4.heap.objs.size]) ht.typeIs (PyProof.Rows.slot_tuple_getitem.lookup) ?_ (by with_unfolding_all rfl)
  refine getItem_tuple_back ht (Heap.IsSliceOf.new _ vl vu vs) pl pu ps ?_ (by rw [List.size_toArray]; omega)
  refine ⟨.ref _, _, I5.laid (t' := s4.toks) (o := .tup xs.reverse) (fun b ob q => Heap.get?_push_of_some _ q) (Nat.le_refl _) ?_, rfl, q _ (I5.hok.fresh (Nat.le_refl _))⟩
  exact ⟨by rw [List.length_reverse]; exact hz, _, r.reverse, IsTup.new _ _⟩
end
end Mv

set_option Elab.async false
set_option linter.all false
set_option maxRecDepth 100000
set_option maxHeartbeats 4000000
namespace Mv
open PySem PySem.Spec PyProof.Rows L2
/-! ### l.extend(t), t a tuple -/
theorem list_extend_tup (l : Addr) (items : Array Value) (n : Nat) (b : Addr) (items2 : Array Value) (n2 : Nat) (dd : Option Addr) (sl : Array (Option Value)) (hs0 : ¬(!items.isEmpty && Builtin.List.listTooLong (items.size + items2.size)) = true) (hs1 : items.size ≤ sizeLine) (hs2 : items.size + items2.size ≤ sizeLine + 1) :
    Meets (Builtin.«list.extend» ⟨[.ref l, .ref b], []⟩) (fun _ R s => s.heap.get? l = some { cls := .type "list", dict := none, data := .seq items n, slots := #[] } ∧ s.heap.get? b = some { cls := .type "tuple", dict := dd, data := .seq items2 n2, slots := sl } ∧ R (.ok (.ret Value.none)) { s with heap := s.heap.update l (Obj.mapSeq fun x => x ++ items2), toks := s.toks }) :=
  .of_wp fun prog w A R s h => by
    obtain ⟨hp, g, d, tk, os⟩ := s
    obtain ⟨hl, hb, h⟩ := h
    have f1 := AutoSeq1.idx_int
    have f2 := AutoSeq1.sub_tuple_tuple
    have f3 := AutoSeq1.sub_list_list
    have f4 := AutoSeq1.sub_tuple_list
    have f5 := AutoSeq1.sub_list_tuple
    have hz' : (items ++ items2).size ≤ sizeLine + 1 := by rw [Array.size_append]; exact hs2
    wp_walk using (wpAny_updateSeq hl rfl (hz := hs1) (_hz' := hz')), wpAny_loadPart' hl, wpAny_loadPart' hb
    exact ⟨_, rfl, h⟩
section
variable {X : Cx}
def rExtendT (K : PySem.W.Frag) : V → List V → Hp → VK → Prop := fun x vs H Q => ∃ l b xs zs, x = .ref l ∧ vs = [.ref b] ∧ H l = some (.lst xs) ∧ SqT K H b zs ∧ xs.length + zs.length ≤ sizeLine ∧ Q .non (upd H l (.lst (xs ++ zs)))
theorem mt_extendT : MtR X "list.extend" (rExtendT X.K) := by
  intro pins s σ H x vs v us Q I rx rv h
  obtain ⟨l, b, xs, zs, rfl, rfl, hH, hB, hz, q⟩ := h
  cases rx
  obtain ⟨u, rfl, ru⟩ := rv.one
  cases ru
  obtain ⟨z, its, n, r, hl, e⟩ := I.lstM hH
  obtain ⟨its2, r2, ⟨⟨cls, dd, data, sl⟩, ho, hc, n2, hd⟩, hl2⟩ := I.tuple hB
  simp only at hc hd
  subst hc hd
  have hle2 : its2.length = zs.length := r2.length.symm
  have hsz : its.toArray.size + its2.toArray.size ≤ sizeLine := by rw [List.size_toArray, List.size_toArray]; omega
  have hlong : ¬ (!its.toArray.isEmpty && Builtin.List.listTooLong (its.toArray.size + its2.toArray.size)) = true := by
    rw [notLongL hsz, Bool.and_false]
    exact Bool.false_ne_true
  refine call_meets F.slot_list_extend ⟨_, e, rfl⟩ F.entry_list_extend (F.args_list_extend_2 _ _)
    (list_extend_tup l its.toArray n b its2.toArray n2 dd sl hlong (by rw [List.size_toArray]; omega) (by omega)) ⟨e, ho, ?_⟩
  refine ⟨.non, _, I.lset (its' := its ++ its2) hH e (by simp) (r.append r2) ?_, rfl, q⟩
  rw [List.length_append]
  omega
end
/-! ### t * 1 is t -/
theorem tuple_mulOne (l : Addr) (items : Array Value) (n : Nat) (dd : Option Addr) (sl : Array (Option Value)) (u : Tok) :
    Meets (Builtin.«tuple.__mul__» ⟨[.ref l, .int 1 u], []⟩) (fun _ R s => s.heap.get? l = some { cls := .type "tuple", dict := dd, data := .seq items n, slots := sl } ∧ R (.ok (.ret (Value.ref l))) s) :=
  .of_wp fun prog w A R s h => by
    obtain ⟨hp, g, d, tk, os⟩ := s
    obtain ⟨hl, h⟩ := h
    have f1 := AutoSeq1.idx_int
    have c0 : (decide ((1 : Int) < -(2 ^ 63)) || decide ((1 : Int) ≥ 2 ^ 63)) = false := by decide
    have c1 : (items.isEmpty || (1 : Int) == 1) = true := by simp
    wp_walk using wpAny_loadPart' hl
    repeat (first
      | (refine wpAny_ite_false (decide_eq_false (by rw [c0]; exact Bool.false_ne_true)) ?_; wp_walk using wpAny_loadPart' hl)
      | (refine wpAny_ite_true (decide_eq_true c1) ?_; wp_walk using wpAny_loadPart' hl))
    exact ⟨_, rfl, h⟩
section
variable {X : Cx}
/-- t * k, k at least 1 -/
def rRepT1 (K : PySem.W.Frag) : R2 := fun x y H Q => ∃ l k xs, x = .ref l ∧ y = .int k ∧ SqT K H l xs ∧ xs ≠ [] ∧ 1 ≤ k ∧ k ≤ 1000 ∧ xs.length ≤ 1000 ∧ (k = 1 → Q (.ref l) H) ∧ (2 ≤ k → ∀ p, H p = none → Q (.ref p) (upd H p (.tup (List.replicate k.toNat xs).flatten)))
theorem op_repT1 : OpR X (binaryOp .Mult) (rRepT1 X.K) := by
  intro pins s σ H x y v u Q I rx ry h
  obtain ⟨l, k, xs, rfl, rfl, hT, hne, h1, h2, hz, q1, q2⟩ := h
  by_cases hk : k = 1
  · subst hk
    cases rx
    obtain ⟨t, rfl⟩ := ry
    obtain ⟨its, r, ⟨⟨cls, dd, data, sl⟩, ho, hc, n, hd⟩, hs⟩ := I.tuple hT
    simp only at hc hd
    subst hc hd
    exact wpAny_binaryOp_repeat_ref (T := "tuple") (U := "int") (by decide) ⟨_, ho, rfl⟩ (fun s' => typeIs_int s' 1 t) noFill_tuple_mul F.fills_int_mul F.slot_int_rmul repeat_tuple F.slot_int_index.lookup
      (call_meets F.slot_int_rmul (typeIs_int s 1 t) F.entry_int_rmul (F.args_int_rmul_2 _ _) (int_rmul_tuple 1 t l its.toArray n dd sl)
        ⟨ho, rfl, ⟨_, ho, rfl⟩, call_meets F.slot_tuple_mul ⟨_, ho, rfl⟩ F.entry_tuple_mul (F.args_tuple_mul_2 _ _) (tuple_mulOne l its.toArray n dd sl t) ⟨ho, .ref l, H, I, rfl, q1 rfl⟩⟩)
  · exact op_repT pins s σ H _ _ v u Q I rx ry ⟨l, k, xs, rfl, rfl, hT, hne, by omega, h2, hz, q2 (by omega)⟩
end
/-! ### a def with keyword-only parameters alone -/
theorem kbinds0 {K : PySem.W.Frag} {x qual : Str} {params : Arguments} {body : List Stmt} {scope : Scope} {kws : List (Str × V)} {f : Addr} {fd : FuncData} {ps : List Str}
    (F : FunD K x qual params body scope [] kws f fd) (n : Nat) (ks : List Str) (ms : List (Str × V)) (g : {α : Type} → List α → List α → List α → List α) (hk : kws ≠ []) (hms : ∀ q ∈ ms, q ∈ kws)
    (hrel : ∀ {vs mz zs : List V} {us mv ws : List Value}, Vals vs us → Vals mz mv → Vals zs ws → Vals (g vs mz zs) (g us mv ws))
    (h : ∀ (D : Addr) (doc pm : Value) (an : Option Addr) (cdv ct : Value) (us mv ws : List Value), us.length = n → mv.length = ms.length → ws.length = ks.length →
      KwChain D ((ms.map (·.1)).zip mv) (bindArgs (PySem.W.fnOf x qual params body scope .none (.ref D) doc pm an cdv ct) ⟨us, ks.zip ws⟩) (ps.zip (g us mv ws))) :
    ∃ mv : List Value, KBn K fd ps n ks (fun us ws => g us mv ws) (fun vs zs => g vs (ms.map (·.2)) zs) := by
  obtain ⟨oc, od, dV, kV, doc, pm, an, cdv, ct, osl, rfl, lk, hcd, hD, hK⟩ := F.ex
  rcases hD with ⟨_, rfl⟩ | ⟨e, _⟩
  · rcases hK with e | ⟨D, rfl, hq⟩
    · exact absurd e hk
    · obtain ⟨mv, hl, rk, hks⟩ := kwd_vals (ms := ms) fun q hm => hq q (hms q hm)
      refine ⟨mv, ⟨fun s us ws X l1 l2 => ?_, fun r1 r2 => hrel r1 rk r2⟩⟩
      exact BindsTo.of_looks fun M => KwChain.looks X hks (h D doc pm an cdv ct us mv ws l1 hl l2)
  · exact absurd rfl e
/-! ### lists of tuples of ints, compared -/
def tupsD (xss : List (List Int)) : List PyData := xss.map fun xs => .tuple (xs.map .int)
theorem lay_tups : ∀ xss : List (List Int), PyData.canLayAll0 (tupsD xss) = true
  | [] => rfl
  | xs :: r => by
    have := lay_tups r
    unfold tupsD at this ⊢
    simp [PyData.canLayAll0, PyData.canLay0, PySem.W.ke_canLayAll0, this]
theorem depth_tups : ∀ xss : List (List Int), PyData.depthAll (tupsD xss) ≤ 1
  | [] => Nat.zero_le _
  | xs :: r => by
    have := depth_tups r
    unfold tupsD at this ⊢
    simp [PyData.depthAll, PyData.depth, PySem.W.ke_depthAll, this]
theorem shaped_tups (xss : List (List Int)) : SeqAt.shaped (.list (tupsD xss)) = true := by
  have := depth_tups xss
  simp [SeqAt.shaped, PyData.canLay0, PyData.depth, lay_tups]
  omega
end Mv

set_option Elab.async false
set_option linter.all false
set_option maxRecDepth 100000
set_option maxHeartbeats 4000000
namespace Mv
open PySem PySem.Spec PyProof.Rows L2
/-! ### lists of things that are read as data -/
section
variable {α : Type} {d : α → PyData} {n : Nat}
theorem lay_map (h : ∀ x, (d x).canLay0 = true) : ∀ L : List α, PyData.canLayAll0 (L.map d) = true
  | [] => rfl
  | x :: r => by
    have := lay_map h r
    simp [PyData.canLayAll0, h x, this]
theorem depth_map (h : ∀ x, (d x).depth ≤ n) : ∀ L : List α, PyData.depthAll (L.map d) ≤ n
  | [] => Nat.zero_le _
  | x :: r => by
    have h1 := depth_map h r
    have h2 := h x
    simp only [List.map_cons, PyData.depthAll]
    omega
theorem shaped_listD {xs : List PyData} (h1 : PyData.canLayAll0 xs = true) (h2 : PyData.depthAll xs ≤ 60) : SeqAt.shaped (.list xs) = true := by
  show (PyData.canLay0 (.list xs) && decide (PyData.depth (.list xs) ≤ 64)) = true
  rw [Bool.and_eq_true]
  exact ⟨by simp only [PyData.canLay0]; exact h1, decide_eq_true (by simp only [PyData.depth]; omega)⟩
theorem shaped_tupD {xs : List PyData} (h1 : PyData.canLayAll0 xs = true) (h2 : PyData.depthAll xs ≤ 60) : SeqAt.shaped (.tuple xs) = true := by
  show (PyData.canLay0 (.tuple xs) && decide (PyData.depth (.tuple xs) ≤ 64)) = true
  rw [Bool.and_eq_true]
  exact ⟨by simp only [PyData.canLay0]; exact h1, decide_eq_true (by simp only [PyData.depth]; omega)⟩
theorem shaped_map (h1 : ∀ x, (d x).canLay0 = true) (h2 : ∀ x, (d x).depth ≤ n) (hn : n ≤ 60) (L : List α) : SeqAt.shaped (.list (L.map d)) = true :=
  shaped_listD (lay_map h1 L) (Nat.le_trans (depth_map h2 L) hn)
end
theorem lay_ints (xs : List Int) : PyData.canLayAll0 (xs.map PyData.int) = true := lay_map (d := PyData.int) (fun x => by simp [PyData.canLay0]) xs
theorem depth_ints (xs : List Int) : PyData.depthAll (xs.map PyData.int) ≤ 0 := depth_map (d := PyData.int) (fun x => by simp [PyData.depth]) xs
section
variable {K : PySem.W.Frag} {H : Hp} {a b : Addr} {va vb : List V} {xs ys : List PyData} {Q : VK}
/-- two lists of the same data -/
theorem eq_listD (ha : SqL K H a va) (da : DpAll K H va xs) (hb : SqL K H b vb) (db : DpAll K H vb ys) (e : xs = ys) (l : PyData.canLayAll0 xs = true) (dd : PyData.depthAll xs ≤ 60) (q : Q (.bl true) H) : rEqD K (.ref a) (.ref b) H Q := by
  subst e
  exact ⟨_, _, .lst ha da, .lst hb db, shaped_listD l dd, shaped_listD l dd, by rw [show PyData.eqv (.list xs) (.list xs) = true from PySem.SeqAt.eqvAll_refl _ l]; exact q⟩
theorem ne_listD (ha : SqL K H a va) (da : DpAll K H va xs) (hb : SqL K H b vb) (db : DpAll K H vb ys) (e : xs = ys) (l : PyData.canLayAll0 xs = true) (dd : PyData.depthAll xs ≤ 60) (q : Q (.bl false) H) : rNeD K (.ref a) (.ref b) H Q := by
  subst e
  exact ⟨_, _, .lst ha da, .lst hb db, shaped_listD l dd, shaped_listD l dd, by rw [show PyData.eqv (.list xs) (.list xs) = true from PySem.SeqAt.eqvAll_refl _ l]; exact q⟩
theorem eq_tupD (ha : SqT K H a va) (da : DpAll K H va xs) (hb : SqT K H b vb) (db : DpAll K H vb ys) (e : xs = ys) (l : PyData.canLayAll0 xs = true) (dd : PyData.depthAll xs ≤ 60) (q : Q (.bl true) H) : rEqD K (.ref a) (.ref b) H Q := by
  subst e
  exact ⟨_, _, .tup ha da, .tup hb db, shaped_tupD l dd, shaped_tupD l dd, by rw [show PyData.eqv (.tuple xs) (.tuple xs) = true from PySem.SeqAt.eqvAll_refl _ l]; exact q⟩
theorem ne_tupD (ha : SqT K H a va) (da : DpAll K H va xs) (hb : SqT K H b vb) (db : DpAll K H vb ys) (e : xs = ys) (l : PyData.canLayAll0 xs = true) (dd : PyData.depthAll xs ≤ 60) (q : Q (.bl false) H) : rNeD K (.ref a) (.ref b) H Q := by
  subst e
  exact ⟨_, _, .tup ha da, .tup hb db, shaped_tupD l dd, shaped_tupD l dd, by rw [show PyData.eqv (.tuple xs) (.tuple xs) = true from PySem.SeqAt.eqvAll_refl _ l]; exact q⟩
/-- a list, compared with the empty one -/
theorem eq_nilD (ha : SqL K H a va) (da : DpAll K H va xs) (hb : SqL K H b []) (l : PyData.canLayAll0 xs = true) (dd : PyData.depthAll xs ≤ 60) (q : Q (.bl xs.isEmpty) H) : rEqD K (.ref a) (.ref b) H Q := by
  refine ⟨_, _, .lst ha da, .lst hb .nil, shaped_listD l dd, shaped_listD rfl (by simp [PyData.depthAll]), ?_⟩
  rw [show PyData.eqv (.list xs) (.list []) = xs.isEmpty by cases xs <;> rfl]
  exact q
end
end Mv

set_option Elab.async false
set_option linter.all false
set_option maxRecDepth 100000
set_option maxHeartbeats 4000000
namespace Mv
open PySem PySem.Spec PyProof.Rows L2
/-! ### several except clauses, each with its own name -/
structure Cl where
  c : Value
  i : Nat
  ts : Addr → Value → Option Addr → TS
def endsAs (D : Ends) (i : Nat) : Ends := { nx := fun z h => D.nx (z.set i none) h, rt := D.rt, bk := fun z h => D.bk (z.set i none) h, ct := fun z h => D.ct (z.set i none) h }
def wMore (K : PySem.W.Frag) (Wo : WX) (D : Ends) : List Cl → WX
  | [] => Wo
  | q :: r => fun cls d z h => ∃ b, PySem.W.exmOne K cls q.c = some b ∧ (b = true → ∀ a, h a = none → q.ts a cls d (endsAs D q.i) (z.set q.i (some (.ref a))) h) ∧ (b = false → wMore K Wo D r cls d z h)
inductive ClOk (X : Cx) : List ExceptHandler → List Cl → Prop
  | nil : ClOk X [] []
  | cons {x n : Str} {q : Cl} {b0 : Stmt} {su : List Stmt} {np p : Pos} {hds : List ExceptHandler} {l : List Cl} (hi : X.N[q.i]? = some n) (hl : X.env.kindOf n = some .local) (hc : Names X x q.c)
      (hsu : ∀ (a : Addr) (oe : Obj) (cls : Value) (d : Option Addr) (pn : List (Addr × Obj)), Zc cls d oe → (∃ vs, oe.data = .fields vs) → PSs (X.suite a ((a, oe) :: pn)) (b0 :: su) (q.ts a cls d)) (r : ClOk X hds l) :
      ClOk X (.ExceptHandler (some (.Name x np)) (some n) (b0 :: su) p :: hds) (q :: l)
theorem ps_tryM {X : Cx} {body : List Stmt} {c0 : ExceptHandler} {cr : List ExceptHandler} {l : List Cl} {pos : Pos} {tb : WX → TS} {Wo : WX} (st : X.stack = X.env :: X.outer) (fr : X.env.frame = some X.env.locals) (nd : X.N.Nodup) (tk : Takes X Wo)
    (bd : ∀ (W : WX) (pn : List (Addr × Obj)) (xe : Value → Shared → Prop), Takes (X.tr pn xe) W → PassesOwn (model X.prog X.w) X.A X.env xe → PSs (X.tr pn xe) body (tb W))
    (cs : ClOk X (c0 :: cr) l) : PS X (.Try body (c0 :: cr) [] [] pos) (fun D z h => tb (wMore X.K Wo D l) D z h) := by
  refine ⟨fun pins s0 z0 h0 D I0 w0 => ?_⟩
  have okX := I0.ok
  have frX : X.A.frames = some (X.env :: X.outer) := by rw [okX.frames, st]
  refine wpAny_Try_except (wpAny_mono ((bd (wMore X.K Wo D l) (X.pn ++ pins) (fun e u1 => wpAny (model X.prog X.w) X.A (noteFrame e X.env) (fun _ u2 => wpAny (model X.prog X.w) X.A (setFlight e none) (fun _ u3 =>
    wpAny (model X.prog X.w) X.A (handleBy e X.env (c0 :: cr)) (SP X pins D) X.xe u3) X.xe u2) X.xe u1) (fun v t1 ex => ?_) PassesOwn.looking).run [] s0 z0 h0 D (I0.toTry _) w0) (fun g t1 nice => ?_) (fun e t1 he => he))
  · obtain ⟨a, B, t0, pins1, z1, h1, cls, d, rfl, J0, nb, ups, sky0, fresh, os, ag, w1⟩ := ex
    have J1 : Inv X pins z1 h1 t0 := J0.ofTry okX
    show wpAny (model X.prog X.w) X.A (noteFrame (.ref a) X.env) _ _ _
    refine Sky.land Zc.steady frX fr (show Sky B (X.env :: X.outer) a (Zc cls d) X.env.locals t1.heap by rw [← st]; exact sky0) fun g3 fly3 ups3 => ?_
    have J3 : Inv X pins z1 h1 { t1 with heap := g3 } := J1.landed nb fly3.1 (ups.trans ups3) os ag
    obtain ⟨oa, va, ha, za, da⟩ := fly3.there
    have outF : a ∉ frs (X.env :: X.outer) := fun inF => by
      obtain ⟨_, ob, eb, noF⟩ := fly3.2.2.1.mem inF
      rw [ha] at eb
      cases eb
      exact noF _ da
    have neLoc : a ≠ X.env.locals := fun y => outF (List.mem_filterMap.mpr ⟨X.env, List.mem_cons_self, by rw [fr, y]⟩)
    have neF : a ∉ X.fs := fun inF => by
      obtain ⟨ev, me, fe⟩ := List.mem_filterMap.mp inF
      exact outF (List.mem_filterMap.mpr ⟨ev, List.mem_cons_of_mem _ me, fe⟩)
    have S3 := J3.suite ha da fresh neLoc neF
    have each : ∀ {cr' : List ExceptHandler} {l' : List Cl}, ClOk X cr' l' → wMore X.K Wo D l' cls d z1 h1 → wpAny (model X.prog X.w) X.A (handleBy (.ref a) X.env cr') (SP X pins D) X.xe { t1 with heap := g3 } := by
      intro cr' l' ok'
      induction ok' with
      | nil =>
        intro wn
        obtain ⟨_, _, _, oe, vs, Tb, oT, tsT, he, _, hd, at1, _⟩ := id fly3
        refine wpAny_handleBy_nil ?_
        unfold PySem.passOn
        refine wpAny_bind (wpAny_field he hd at1 ?_)
        rw [if_neg (show ¬ ((Value.ref Tb == Value.none) = true) by simp)]
        have out : wpAny (model X.prog X.w) X.A (setFlight (.ref a) X.env.frame) (fun _ t4 => wpAny (model X.prog X.w) X.A (throw (.ref a) : Sem Flow) (SP X pins D) X.xe t4) X.xe { t1 with heap := g3 } := by
          rw [fr]
          exact HandSPX.setFlight_upZ fly3 fun g4 sk4 ups4 => wpAny_throw (tk _ _ ⟨a, B, t0, pins, z1, h1, cls, d, rfl, J1, nb, (ups.trans ups3).trans ups4, .inr (.inr (by rw [st]; exact sk4)), fresh, os, ag, wn⟩)
        first
          | exact wpAny_bind (wpAny_pure (wpAny_bind out))
          | exact wpAny_bind out
      | @cons x n q b0 su np p hds l2 hi hl hc hsu r ih =>
        rintro ⟨b, em, yes, no⟩
        refine wpAny_handleBy_cons (codeAny_handlers_test ?_) (fun y => by cases y)
        have lookT : PySem.W.Looks (model X.prog X.w) g3 (typeOf (.ref a)) cls := fun A Q E s kp y => wpAny_typeOf_ref (kp _ _ ha) (by rw [za.1]; exact y)
        have lookM := PySem.W.exm_one (M := model X.prog X.w) (J3.kIn) lookT em
        have nameOk : ∀ {Q E : Value → Shared → Prop}, Q q.c { t1 with heap := g3 } → wpAny (model X.prog X.w) (X.A.mark (some (.ref a))) (eval (.Name x np) X.env) Q E { t1 with heap := g3 } := fun {Q E} y => by
          obtain ⟨gx, dx, m1 | ⟨m1, m2, m3⟩⟩ := hc
          · exact ld_glob (X := X.suite a ((a, oa) :: (X.pn ++ pins))) S3 gx m1 y dx
          · exact ld_blt (X := X.suite a ((a, oa) :: (X.pn ++ pins))) S3 gx m1 m2 y m3 dx
        refine nameOk (lookM.here ?_)
        cases b with
        | false =>
          show wpAny _ X.A (handleBy (.ref a) X.env hds) _ _ _
          exact ih (no rfl)
        | true =>
          refine codeAny_handlers_suite_as (HandSPX.lands_againZ fly3 fun g4 fly4 ups4 => ?_)
          have J4 : Inv X pins z1 h1 { t1 with heap := g4 } := J1.landed nb fly4.1 ((ups.trans ups3).trans ups4) os ag
          obtain ⟨ob, vb, hb, zb, db⟩ := fly4.there
          refine store_ok (X := X.suite a ((a, ob) :: (X.pn ++ pins))) (v := .ref a) (J4.suite hb db fresh neLoc neF) nd hi (.inl hl) rfl (fun t5 S5 => ?_) (.inr hl)
          have gone : ∀ {z6 : L2.St} {h6 : Hp} {t6 : Shared} {Q : Shared → Prop}, Inv (X.suite a ((a, ob) :: (X.pn ++ pins))) [] z6 h6 t6 → (∀ t7, Inv X pins (z6.set q.i none) h6 t7 → Q t7) →
              wpAny (model X.prog X.w) X.A (do bindName X.env n .none; unbindBehindTheSuite X.env n p) (fun _ t7 => Q t7) X.xe t6 := fun {z6 h6 t6 Q} S6 y => gone_ok (S6.unsuite okX) nd hi hl y
          refine wpAny_mono ((hsu a ob cls d (X.pn ++ pins) zb ⟨_, db⟩).run [] t5 _ h1 _ S5 (yes rfl a fresh)) (fun g t6 nice => ?_) (fun _ _ y => y.elim)
          cases g with
          | ret u =>
            obtain ⟨v6, z6, h6, S6, rel6, w6⟩ := nice
            exact gone S6 fun t7 J7 => ⟨_, _, _, J7, rel6, w6⟩
          | next =>
            obtain ⟨z6, h6, S6, w6⟩ := nice
            exact gone S6 fun t7 J7 => ⟨_, _, J7, w6⟩
          | brk =>
            obtain ⟨z6, h6, S6, w6⟩ := nice
            exact gone S6 fun t7 J7 => ⟨_, _, J7, w6⟩
          | cont =>
            obtain ⟨z6, h6, S6, w6⟩ := nice
            exact gone S6 fun t7 J7 => ⟨_, _, J7, w6⟩
    exact each cs w1
  · cases g with
    | ret u =>
      obtain ⟨v2, z2, h2, J2, rel2, w2⟩ := nice
      exact ⟨v2, z2, h2, J2.ofTry okX, rel2, w2⟩
    | next =>
      obtain ⟨z2, h2, J2, w2⟩ := nice
      exact wpAny_execs_nil ⟨z2, h2, J2.ofTry okX, w2⟩
    | brk =>
      obtain ⟨z2, h2, J2, w2⟩ := nice
      exact ⟨z2, h2, J2.ofTry okX, w2⟩
    | cont =>
      obtain ⟨z2, h2, J2, w2⟩ := nice
      exact ⟨z2, h2, J2.ofTry okX, w2⟩
/-! ### a call with keywords, of a def that may raise -/
def tCallNS (n m : Nat) (sp : Sp) (gV : List V → List V → List V) (E : L2.St → XK) (t tk : TA) : TE := fun z h Q => t z h fun vs h1 => tk z h1 fun zs h2 => vs.length = n ∧ zs.length = m ∧ sp (gV vs zs) h2 Q (E z)
theorem pe_callNS {X : Cx} {CX : CXT} {k n : Nat} {f : Addr} {fd : FuncData} {ps ks : List Str} {sp : Sp} {E : L2.St → XK} {x : Str} {p pos : Pos} {e : Expr} {es : List Expr} {kws : List Keyword} {t tk : TA} {g : List Value → List Value → List Value} {gV : List V → List V → List V}
    (F : FnOk X.prog X.w X.K X.mg X.base CX k f fd ps sp) (hr : Room k X.A) (hg : Gl X x) (hm : X.mg x = some (.ref f)) (kp : PySem.W.keepIn X.K (.ref f) = true) (hb : KBn X.K fd ps n ks g gV) (hx : ∀ z, PassesAt CX X z (E z))
    (ha : PA X (e :: es) t) (hkw : PK X kws tk) (all : (backToKw pos (keywordEach kws X.env)).all (·.1.isSome) = true := by rfl) (hks : (backToKw pos (keywordEach kws X.env)).filterMap (·.1) = ks := by rfl)
    (db : (x == ("__debug__" : Str)) = false := by decide) (hst : starEach (e :: es) X.env = (false, eval e X.env) :: starEach es X.env := by rfl)
    (pl : ((backTo pos (starEach (e :: es) X.env)).any (·.1) || (backToKw pos (keywordEach kws X.env)).any (·.1.isNone)) = false := by rfl) :
    PE X (.Call (.Name x p) (e :: es) kws pos) (tCallNS n ks.length sp gV E t tk) := by
  refine ⟨fun pins s z h Q I w0 => wpAny_Call_Name_kw (ld_glob I hg hm ?_ db)⟩
  refine PySem.W.callWith_KW (h₀ := X.base) I.ok.mod.kin kp all (thn (ha.run pos pins s z h _ I w0) fun us s1 ⟨vs, h1, I1, r1, w1⟩ => thn (hkw.run pos pins s1 z h1 _ I1 w1) fun ws s2 ⟨zs, h2, I2, r2, l1, l2, w2⟩ => ⟨I2.kIn, ?_⟩) pl hst
  rw [hks]
  have rr := hb.rel r1 r2
  refine wpAny_call (codeAny_mono (F.run X.A X.stack s2 h2 ⟨us, ks.zip ws⟩ (g us ws) (gV vs zs) Q (E z) hr I2.env0 (hb.to s2 us ws I2.kIn (r1.length.symm.trans l1) (r2.length.symm.trans l2)) rr w2) fun res s' got => ?_)
  cases res with
  | error e => exact hx z pins h2 s2 e s' I2 got
  | ok fl =>
    cases fl with
    | ret u => exact I2.after got
    | next => exact got.elim
    | brk => exact got.elim
    | cont => exact got.elim
/-! ### X(), X an own exception class without own __init__ -/
theorem pmk_own0 {X : Cx} {C : Addr} {bmB : List Value} {B newId initId : String} {x : Str} {p pos : Pos} (F : ExcBaseFacts B newId initId bmB) (q : PySem.W.excIn X.K C bmB newId = true) (gC : X.mg x = some (.ref C)) (kC : PySem.W.keepIn X.K (.ref C) = true) (r : Raises X (.ref C)) (hg : Gl X x)
    (db : (x == ("__debug__" : Str)) = false := by decide) : PMk X (.Call (.Name x p) [] [] pos) (fun _ h Q => Q (.ref C) none h) := by
  intro pins s z h Q I w0
  refine wpAny_Call_Name_kw (ld_glob I hg gC (PySem.W.callWith_K0 I.kIn kC ?_) db)
  show wpAny _ _ (call (.ref C) []) _ _ _
  obtain ⟨bm, N, nm, qn, bs, hdct, sn, sub, ab, col, dd, k0, k1, k2, k3, k5, mN, hC, hN, hni, T⟩ := exc_obj I.kIn q
  refine wpAny_call_exc_subT F T hC hN hni (fun g e made => ?_) (by rw [sizeLine_eq]; decide)
  exact mk_of I made r w0 (I.hok.gone made.new)
end Mv

set_option Elab.async false
set_option linter.all false
set_option maxRecDepth 100000
set_option maxHeartbeats 4000000
namespace Mv
open PySem PySem.Spec PyProof.Rows L2
/-! ### isinstance(e, c), e the caught error, with fields or without -/
structure ExcG (K : PySem.W.Frag) (D : Addr) : Prop where
  cc : ExcC K D
  cl : (PySem.W.clsIn K D).isSome = true
def rIsG (K : PySem.W.Frag) (a : Addr) (cls : Value) (d : Option Addr) : List V → Hp → VK → Prop := fun xs h Q => ∃ (c : V) (cv : Value) (b : Bool) (D : Addr), xs = [.ref a, c] ∧ cls = .ref D ∧ ExcG K D ∧ (d = none ∨ ∃ dd fs, d = some dd ∧ h dd = some (.xd fs)) ∧ (∀ u, RelV c u → u = cv) ∧ PySem.W.kitOne K (.ref D) cv = some b ∧ Q (.bl b) h
theorem call_isG {X : Cx} {a : Addr} {oe : Obj} {cls : Value} {d : Option Addr} {pn : List (Addr × Obj)} (hz : Zc cls d oe) (hf : ∃ vs, oe.data = .fields vs) : CallR (X.suite a ((a, oe) :: pn)) (.builtin "isinstance") (rIsG X.K a cls d) := by
  intro pins s z h xs us Q I r w0
  obtain ⟨c, cv, b, D, rfl, rfl, G, hd, hcv, e, q⟩ := w0
  rcases hd with rfl | ⟨dd, fs, rfl, hdd⟩
  · exact call_isE G.cc hz hf pins s z h _ us Q I r ⟨c, cv, b, rfl, hcv, e, q⟩
  · obtain ⟨u1, u2, rfl, r1, r2⟩ := vals2 r
    obtain rfl : u1 = Value.ref a := r1
    obtain rfl := hcv _ r2
    obtain ⟨at1, _⟩ := I.pin (a, oe) (List.mem_append_left _ List.mem_cons_self)
    obtain ⟨vs, hv⟩ := hf
    have ok : ObjOk X.prog X.w h s.heap dd (.xd fs) := I.hok dd _ hdd
    obtain ⟨mA, hns, _⟩ := ok
    obtain ⟨od, es, ep, ho, _⟩ := hns
    have J : PySem.W.InstAt s.heap a oe D (some od) := ⟨at1, hz.1, by unfold PySem.W.notCls; rw [hv] <;> rfl, by rw [hz.2]; exact ho⟩
    exact PySem.W.kia_one (PySem.W.kitx_exc G.cl G.cc.hg G.cc.hk G.cc.hs G.cc.ha G.cc.hn G.cc.ht G.cc.hm) I.kIn J e (fun z => nomatch z) fun tk => ⟨.bl b, h, I.kept (t' := tk) fun _ _ y => y, rfl, q⟩
end Mv

set_option Elab.async false
set_option linter.all false
set_option maxRecDepth 100000
set_option maxHeartbeats 4000000
namespace Mv
open PySem PySem.Spec PyProof.Rows L2
def topS (i : Nat) : Stmt := PySem.Challenge.pw_movedstates_k06_marks_stay_true.main.body.getD i (.Pass ⟨0, 0, 0, 0⟩)
abbrev sStream : Stmt := topS 14
abbrev sDraw : Stmt := topS 15
abbrev sWide : Stmt := topS 16
abbrev sValue : Stmt := topS 17

section
variable {P : Program} {w : World} {K : PySem.W.Frag} {mg : Str → Option Value} {base : Heap}
/-! ### the script's stream -/
theorem scStream : FnScope ["_law_script", "_law_pairs", "_law_at", "_law_cell", "_law_rest", "_law_k"] ["_law_script"] (defScope sStream) := ⟨rfl, rfl, rfl, by decide +kernel, rfl, by decide +kernel, by decide +kernel⟩
def spStream (K : PySem.W.Frag) : Sp := fun vs H Q _ => ∃ (a : Addr) (ns : List Int), vs = [.ref a] ∧ SqL K H a (ns.map V.int) ∧ ns.length ≤ 63 ∧ ∀ (H' : Hp) (p : Addr), Same H H' → H p = none → Strm H' p → Q (.ref p) H'
/-- between two pairs -/
def StmI (H : Hp) (a o c : Addr) (ys : List Int) (n : Nat) (σ : L2.St) (H3 : Hp) : Prop := ∃ (y2 y3 y4 y5 : Option V) (ps : List Int), σ = [some (.ref a), some (.ref o), y2, y3, y4, y5] ∧ Same H H3 ∧ H3 c = some (.lst (ys.map V.int)) ∧ H3 o = some (.lst (ps.map V.int)) ∧ ps.length ≤ n
def StmJ (H : Hp) (a o c : Addr) (ys : List Int) (n : Nat) (x2 x3 : V) (σ : L2.St) (H3 : Hp) : Prop := ∃ (r : Int) (y5 : Option V) (ps : List Int), σ = [some (.ref a), some (.ref o), some x2, some x3, some (.int r), y5] ∧ Same H H3 ∧ H3 c = some (.lst (ys.map V.int)) ∧ H3 o = some (.lst (ps.map V.int)) ∧ ps.length ≤ n
theorem StmJ.i {H : Hp} {a o c : Addr} {ys : List Int} {n m : Nat} {x2 x3 : V} {σ : L2.St} {H3 : Hp} (h : StmJ H a o c ys n x2 x3 σ H3) (hm : n ≤ m) : StmI H a o c ys m σ H3 := by
  obtain ⟨r, y5, ps, e, s, h1, h2, h3⟩ := h
  exact ⟨_, _, _, _, ps, e, s, h1, h2, Nat.le_trans h3 hm⟩
theorem ok_stream {f : Addr} {fd : FuncData} (F : Fun K "_law_stream" "_law_stream" sStream f fd) (B : Bi mg) : FnOk P w K mg base CX0 1 f fd ["_law_script"] (spStream K) := by
  refine F.ok scStream (fun vs H Q E h => ?_) (fun cdv A outer s H vs Q E hr h => ?_)
  · obtain ⟨a, ns, rfl, _⟩ := h
    rfl
  · obtain ⟨a, ns, rfl, hS, hlen, q⟩ := h
    refine ⟨_, (pss_cons (ps_set (i := 1) scStream.nd rfl (.inl rfl) (pe_lst pa_nil))
 (pss_cons (ps_for PassesOwn.never rfl (pi_enum (by rfl) B.enumerate (pa_cons (pe_slice sl_list (pv 0) po_none (po_some pe_int)) pa_nil)) (pg_tup rfl (pgs_cons (pg_name (i := 2) scStream.nd rfl (.inl rfl)) (pgs_cons (pg_name (i := 3) scStream.nd rfl (.inl rfl)) pgs_nil)))
 (pss_cons (ps_set (i := 4) scStream.nd rfl (.inl rfl) (pe_callB call_abs (by rfl) B.abs (by decide +kernel) (pa_cons (pv 3) pa_nil)))
 (pss_cons (ps_if (pt_cmpR op_lt (pv 4) pe_int (nomark _))
 (pss_cons (ps_set (i := 4) scStream.nd rfl (.inl rfl) (pe_op op_mod (pe_callTy call_int1 (by rfl) B.int (by decide +kernel) (pa_cons (pe_op op_mul (pv 4) (pe_op op_add (pe_op op_add pe_int (pe_op op_mul pe_int (pv 2))) (pe_callTy call_int1 (by rfl) B.int (by decide +kernel) (pa_cons (pe_cmpR op_lt (pv 3) pe_int (nomark _)) pa_nil)))) pa_nil)) pe_int))
 (pss_one (ps_set (i := 4) scStream.nd rfl (.inl rfl) (pe_op op_mod (pe_callTy call_int1 (by rfl) B.int (by decide +kernel) (pa_cons (pe_op op_mul (pv 4) (pe_op op_add (pv 4) pe_int)) pa_nil)) pe_int)))) pss_nil)
 (pss_one (ps_for PassesOwn.never rfl (pi_range1 (by rfl) B.range (pa_cons pe_int pa_nil)) (pg_name (i := 5) scStream.nd rfl (.inl rfl))
 (pss_cons (ps_expr (pe_bm PySem.F.plainAttrs_list PySem.F.slot_list_append PySem.F.type_list_append mt_append (pv 1) (pa_cons (pe_op op_mod (pe_callTy call_int1 (by rfl) B.int (by decide +kernel) (pa_cons (pv 4) pa_nil)) pe_int) pa_nil)))
 (pss_cons (ps_set (i := 4) scStream.nd rfl (.inl rfl) (pe_op op_fdiv (pv 4) pe_int))
 (pss_one (ps_if (pt_cmpR op_eq (pv 4) pe_int (nomark _))
 (pss_one ps_break) pss_nil)))))))))
 (pss_cons (ps_expr (pe_bm0 PySem.F.plainAttrs_list PySem.F.slot_list_reverse PySem.F.type_list_reverse mt_reverse (pv 1)))
 (pss_one (ps_ret (pv 1)))))), ?_⟩
    refine ⟨Nat.zero_le _, fun o no => ?_⟩
    have s1 : Same H (upd H o (.lst [])) := same_upd no
    refine ⟨.ref a, rfl, 63, rfl, a, ns.map V.int, rfl, s1.seq hS, fun c nc => ?_⟩
    have s2 : Same (upd H o (.lst [])) (upd (upd H o (.lst [])) c (.lst (cutV (ns.map V.int) none (some 63)))) := same_upd nc
    have nco : c ≠ o := fun e => by
      rw [e, upd_same] at nc
      cases nc
    refine ⟨c, _, rfl, .inl (.inl upd_same), ?_⟩
    rw [cutV_int] at s2 ⊢
    have hcl : (cutI ns none (some 63)).length ≤ 63 := Nat.le_trans (cutI_length _ _ _) hlen
    generalize cutI ns none (some 63) = ys at *
    refine for_it walk_enum (fun i σ H3 => StmI H a o c ys (60 * i) σ H3)
      ⟨none, none, none, none, [], rfl, s1.trans s2, upd_same, by rw [upd_ne nco.symm, upd_same]; rfl, Nat.le_refl _⟩ (fun i σ H3 _ ⟨_, _, _, _, _, _, _, hc3, _⟩ => .inl (.inl hc3)) ?_ ?_
    · rintro i x σ H3 H4 hi ⟨y2, y3, y4, y5, ps, rfl, sm, hc3, ho3, hps⟩ ⟨T, x1, x2, rfl, nT, rfl, e1, e2⟩
      obtain rfl : V.int (i : Nat) = x1 := Option.some.inj e1
      obtain ⟨u, rfl, hu⟩ := int_at e2
      rw [List.length_map] at hi
      have smT : Same H3 (upd H3 T (.tup [.int (i : Nat), .int u])) := same_upd nT
      refine ⟨T, [.int (i : Nat), .int u], rfl, .inl (.inl upd_same), rfl, .int (i : Nat), [.int (i : Nat), .int u].tail, rfl, .int u, [], rfl, rfl, ?_⟩
      have hj : StmJ H a o c ys (60 * i + 0) (.int (i : Nat)) (.int u) [some (.ref a), some (.ref o), some (.int (i : Nat)), some (.int u), some (.int 0), y5] (upd H3 T (.tup [.int (i : Nat), .int u])) :=
        ⟨0, y5, ps, rfl, sm.trans smT, smT _ _ hc3, smT _ _ ho3, hps⟩
      generalize upd H3 T (.tup [.int (i : Nat), .int u]) = H4 at hj ⊢
      -- the inner loop, whatever is left
      have inner : ∀ r : Int, StmJ H a o c ys (60 * i + 0) (.int (i : Nat)) (.int u) [some (.ref a), some (.ref o), some (.int (i : Nat)), some (.int u), some (.int r), y5] H4 := fun r => by
        obtain ⟨r', y5', ps', e, k⟩ := hj
        cases e
        exact ⟨r, _, ps', rfl, k⟩
      clear hj
      refine ⟨.int u, rfl, u, rfl, ?_⟩
      refine ⟨_, rfl, _, _, rfl, rfl, _, rfl, ?_⟩
      refine ite2 ?A ?B
      case' A =>
        intro e
        have e' := of_decide_eq_true e
        have e0 := abs_nn u
        simp only [tSeq, tAsg, gName, tOp, rI, rI0, rU, tUn, tVar, tC, tCB, tCons, tNil, tTest, tIfS, tRet, tRetN, tDrop, tNext, tBreak, tCont, rEq, rNe, CDiv, CDivN, CMul, tBM, tBM0, tTup, tLst, tAug, tIf, tAnd, tOr, tNot, tAndV, tOrV, tNotV, tIsN, tNotN, tB, scal, tCall, cxK, cxKn, rIxT, rIxL, rIn, rAppend, rReverse, tVals, tDSetd, tDGet, tDGet1, tDGet2, tDIn, tDNotIn, rSortV, rSortT, rPop, rSortL, rSortT, tSl, tNoPart, tPart, List.append_nil, L2.start, List.map_cons, List.map_nil, List.length_cons, List.length_nil, List.replicate_succ, List.replicate_zero, List.cons_append, List.nil_append, Nat.reduceAdd, Nat.reduceSub, exists_eq, exists_eq', List.getElem?_cons_zero, List.getElem?_cons_succ, List.set_cons_zero, List.set_cons_succ, Option.some.injEq, V.int.injEq, V.bl.injEq, V.str.injEq, V.ref.injEq, List.cons.injEq, and_true, true_and, and_false, false_and, reduceCtorEq, exists_false, or_false, false_or, exists_and_left, exists_and_right, exists_eq_left, exists_eq_left', exists_eq_right, exists_eq_right', exists_const, ite_true, ite_false, Bool.false_eq_true, if_true, if_false, decide_true, decide_false]
        refine ⟨.inl (by omega), .inl (by omega), by decide, .inl ?_, by decide, ?C⟩
        · have h1 := Int.emod_nonneg ((if u < 0 then -u else u) * (6364136223846793005 + 2 * (i : Int) + if decide (u < 0) = true then 1 else 0)) (show (1000000000000000003 : Int) ≠ 0 by decide)
          have h2 := Int.emod_lt_of_pos ((if u < 0 then -u else u) * (6364136223846793005 + 2 * (i : Int) + if decide (u < 0) = true then 1 else 0)) (show (0 : Int) < 1000000000000000003 by decide)
          omega
        generalize (if u < 0 then -u else u) * (6364136223846793005 + 2 * (i : Int) + if decide (u < 0) = true then 1 else 0) % 1000000000000000003 * ((if u < 0 then -u else u) * (6364136223846793005 + 2 * (i : Int) + if decide (u < 0) = true then 1 else 0) % 1000000000000000003 + 1442695040888963407) % 1000000000000000009 = r
      case' B =>
        intro e
        generalize (if u < 0 then -u else u) = r
      all_goals
        refine ⟨60, rfl, by decide, by decide, for_range (n := 60) (fun j σ H' => StmJ H a o c ys (60 * i + j) (.int (i : Nat)) (.int u) σ H') (inner r) ?_ (fun σ H' h => h.i (by omega))⟩
        rintro j σ H' hj ⟨r', y5', ps', rfl, sm', hc', ho', hps'⟩
        refine ⟨.ref o, rfl, .inl ⟨rfl, _, SqL.of ho'⟩, _, rfl, .inl ⟨_, rfl, ?_⟩⟩
        refine ⟨_, _, rfl, rfl, by show (0 : Int) < 100; decide, o, _, _, rfl, rfl, ho', by rw [List.length_map]; exact small4000 (by omega), ?_⟩
        have hj' : StmJ H a o c ys (60 * i + (j + 1)) (.int (i : Nat)) (.int u) [some (.ref a), some (.ref o), some (.int (i : Nat)), some (.int u), some (.int (r' / 100)), some (.int (0 + (j : Nat)))] (upd H' o (.lst (ps'.map V.int ++ [.int (r' % 100)]))) :=
          ⟨_, _, ps' ++ [r' % 100], rfl, fun b z e => by rw [upd_ne (ne_of_none e no)]; exact sm' _ _ e, by rw [upd_ne nco]; exact hc', by rw [upd_same, List.map_append]; rfl, by rw [List.length_append, List.length_singleton]; omega⟩
        simp only [tSeq, tAsg, gName, tOp, rI, rI0, rU, tUn, tVar, tC, tCB, tCons, tNil, tTest, tIfS, tRet, tRetN, tDrop, tNext, tBreak, tCont, rEq, rNe, CDiv, CDivN, CMul, tBM, tBM0, tTup, tLst, tAug, tIf, tAnd, tOr, tNot, tAndV, tOrV, tNotV, tIsN, tNotN, tB, scal, tCall, cxK, cxKn, rIxT, rIxL, rIn, rAppend, rReverse, tVals, tDSetd, tDGet, tDGet1, tDGet2, tDIn, tDNotIn, rSortV, rSortT, rPop, rSortL, rSortT, tSl, tNoPart, tPart, List.append_nil, L2.start, List.map_cons, List.map_nil, List.length_cons, List.length_nil, List.replicate_succ, List.replicate_zero, List.cons_append, List.nil_append, Nat.reduceAdd, Nat.reduceSub, exists_eq, exists_eq', List.getElem?_cons_zero, List.getElem?_cons_succ, List.set_cons_zero, List.set_cons_succ, Option.some.injEq, V.int.injEq, V.bl.injEq, V.str.injEq, V.ref.injEq, List.cons.injEq, and_true, true_and, and_false, false_and, reduceCtorEq, exists_false, or_false, false_or, exists_and_left, exists_and_right, exists_eq_left, exists_eq_left', exists_eq_right, exists_eq_right', exists_const, ite_true, ite_false, Bool.false_eq_true, if_true, if_false, decide_true, decide_false]
        refine ⟨by decide, ite2 (fun _ => hj'.i (by omega)) (fun _ => hj')⟩
    · rintro σ H3 ⟨y2, y3, y4, y5, ps, rfl, sm, hc3, ho3, hps⟩
      rw [List.length_map] at hps
      refine ⟨.ref o, rfl, .inl ⟨rfl, _, SqL.of ho3⟩, o, ps.map V.int, rfl, rfl, ho3, .ref o, rfl, ?_⟩
      refine q _ o (fun b z e => ?_) no ⟨ps.reverse, ?_, ?_⟩
      · rw [upd_ne (ne_of_none e no)]
        exact sm _ _ e
      · rw [upd_same, List.map_reverse]
      · rw [List.length_reverse]
        omega
end
end Mv

set_option Elab.async false
set_option linter.all false
set_option maxRecDepth 100000
set_option maxHeartbeats 4000000
namespace Mv
open PySem PySem.Spec PyProof.Rows L2
section
variable {P : Program} {w : World} {K : PySem.W.Frag} {mg : Str → Option Value} {base : Heap}
theorem scDraw : FnScope ["_law_stream_here", "_law_many"] ["_law_stream_here", "_law_many"] (defScope sDraw) := ⟨rfl, rfl, rfl, by decide +kernel, rfl, by decide +kernel, by decide +kernel⟩
def spDraw : Sp := fun vs H Q _ => ∃ (a : Addr) (m : Int), vs = [.ref a, .int m] ∧ 0 < m ∧ Strm H a ∧ ∀ (r : Int) (H' : Hp), 0 ≤ r → r < m → Sx a H H' → Strm H' a → Q (.int r) H'
theorem ok_draw {f : Addr} {fd : FuncData} (F : Fun K "_law_draw" "_law_draw" sDraw f fd) (B : Bi mg) : FnOk P w K mg base CX0 1 f fd ["_law_stream_here", "_law_many"] spDraw := by
  refine F.ok scDraw (fun vs H Q E h => ?_) (fun cdv A outer s H vs Q E hr h => ?_)
  · obtain ⟨a, m, rfl, _⟩ := h
    rfl
  · obtain ⟨a, m, rfl, hm, ⟨ns, ha, hl⟩, q⟩ := h
    refine ⟨_, (pss_cons (ps_if (pt_cmpR op_eq (pe_callB call_len_seq (by rfl) B.len PySem.boot_len (pa_cons (pv 0) pa_nil)) pe_int (nomark _))
 (pss_one (ps_ret pe_int)) pss_nil)
 (pss_one (ps_ret (pe_op op_modN (pe_callTy call_int1 (by rfl) B.int (by decide +kernel) (pa_cons (pe_bm0 PySem.F.plainAttrs_list PySem.F.slot_list_pop PySem.F.type_list_pop mt_pop (pv 0)) pa_nil)) (pv 1))))), ?_⟩
    refine ⟨.ref a, rfl, a, ns.map V.int, rfl, .inl (SqL.of ha), rfl, _, rfl, ite2 (fun e => ?_) (fun e => ?_)⟩
    · exact q 0 H (Int.le_refl 0) hm (Sx.refl a H) ⟨ns, ha, hl⟩
    · have hne : ns ≠ [] := fun z => by
        subst z
        exact e (decide_eq_true rfl)
      have hlast : (ns.map V.int)[(ns.map V.int).length - 1]? = some (.int (ns.getLast hne)) := by
        rw [List.length_map, List.getElem?_map]
        rw [← List.getLast?_eq_getElem?, List.getLast?_eq_getLast hne]
        rfl
      refine ⟨.ref a, rfl, .inl ⟨rfl, _, SqL.of ha⟩, a, ns.map V.int, _, rfl, rfl, ha, hlast, .inl ⟨_, rfl, ?_⟩⟩
      refine ⟨.int m, rfl, _, m, rfl, rfl, by omega, ?_⟩
      refine q _ _ (Int.fmod_nonneg_of_pos _ hm) (Int.fmod_lt_of_pos _ hm) Sx.upd ⟨ns.dropLast, ?_, ?_⟩
      · rw [upd_same, List.map_dropLast]
      · rw [List.length_dropLast]
        omega
/-- a draw from the stream: any number of the range may come -/
theorem spDraw_of {a : Addr} {m : Int} {H : Hp} {Q : VK} {E : XK} (hm : 0 < m) (hs : Strm H a) (q : ∀ (r : Int) (H' : Hp), 0 ≤ r → r < m → Sx a H H' → Strm H' a → Q (.int r) H') : spDraw [.ref a, .int m] H Q E := ⟨a, m, rfl, hm, hs, q⟩
theorem scWide : FnScope ["_law_stream_here", "_law_size", "_law_k"] ["_law_stream_here"] (defScope sWide) := ⟨rfl, rfl, rfl, by decide +kernel, rfl, by decide +kernel, by decide +kernel⟩
def spWide : Sp := fun vs H Q _ => ∃ (a : Addr), vs = [.ref a] ∧ Strm H a ∧ ∀ (r : Int) (H' : Hp), Sx a H H' → Strm H' a → Q (.int r) H'
theorem ok_wide {f : Addr} {fd : FuncData} (F : Fun K "_law_wide" "_law_wide" sWide f fd) (B : Bi mg) (cDraw : CalX CX0 P w K mg base 1 "_law_draw" spDraw) : FnOk P w K mg base CX0 2 f fd ["_law_stream_here"] spWide := by
  refine F.ok scWide (fun vs H Q E h => ?_) (fun cdv A outer s H vs Q E hr h => ?_)
  · obtain ⟨a, rfl, _⟩ := h
    rfl
  · obtain ⟨a, rfl, hs, q⟩ := h
    refine ⟨_, (pss_cons (ps_set (i := 1) scWide.nd rfl (.inl rfl) pe_int)
 (pss_cons (ps_for PassesOwn.never rfl (pi_range1 (by rfl) B.range (pa_cons pe_int pa_nil)) (pg_name (i := 2) scWide.nd rfl (.inl rfl))
 (pss_one (ps_set (i := 1) scWide.nd rfl (.inl rfl) (pe_op op_add (pe_op op_mul (pv 1) pe_int) (pe_cx cDraw hr (by decide) pass0 (by rfl) (pa_cons (pv 0) (pa_cons pe_int pa_nil)))))))
 (pss_cons (ps_if (pt_cmpR op_eq (pe_cx cDraw hr (by decide) pass0 (by rfl) (pa_cons (pv 0) (pa_cons pe_int pa_nil))) pe_int (nomark _))
 (pss_one (ps_ret (pe_un un_neg (pv 1)))) pss_nil)
 (pss_one (ps_ret (pv 1)))))), ?_⟩
    refine ⟨11, rfl, by decide, by decide, for_range (n := 11) (fun i σ H' => ∃ (z : Int) (y : Option V), σ = [some (.ref a), some (.int z), y] ∧ Sx a H H' ∧ Strm H' a) ⟨0, none, rfl, Sx.refl a H, hs⟩ ?_ ?_⟩
    · rintro i σ H1 hi ⟨z, y, rfl, x1, t1⟩
      simp only [tSeq, tAsg, gName, tOp, rI, rI0, rU, tUn, tVar, tC, tCB, tCons, tNil, tTest, tIfS, tRet, tRetN, tDrop, tNext, tBreak, tCont, rEq, rNe, CDiv, CDivN, CMul, tBM, tBM0, tTup, tLst, tAug, tIf, tAnd, tOr, tNot, tAndV, tOrV, tNotV, tIsN, tNotN, tB, scal, tCall, cxK, cxKn, rIxT, rIxL, rIn, rAppend, rReverse, tVals, tDSetd, tDGet, tDGet1, tDGet2, tDIn, tDNotIn, rSortV, rSortT, rPop, rSortL, rSortT, tSl, tNoPart, tPart, List.append_nil, L2.start, List.map_cons, List.map_nil, List.length_cons, List.length_nil, List.replicate_succ, List.replicate_zero, List.cons_append, List.nil_append, Nat.reduceAdd, Nat.reduceSub, exists_eq, exists_eq', List.getElem?_cons_zero, List.getElem?_cons_succ, List.set_cons_zero, List.set_cons_succ, Option.some.injEq, V.int.injEq, V.bl.injEq, V.str.injEq, V.ref.injEq, List.cons.injEq, and_true, true_and, and_false, false_and, reduceCtorEq, exists_false, or_false, false_or, exists_and_left, exists_and_right, exists_eq_left, exists_eq_left', exists_eq_right, exists_eq_right', exists_const, ite_true, ite_false, Bool.false_eq_true, if_true, if_false, decide_true, decide_false]
      refine ⟨.inr (by decide), spDraw_of (by decide) t1 fun r H2 _ _ x2 t2 => ?_⟩
      simp only [tSeq, tAsg, gName, tOp, rI, rI0, rU, tUn, tVar, tC, tCB, tCons, tNil, tTest, tIfS, tRet, tRetN, tDrop, tNext, tBreak, tCont, rEq, rNe, CDiv, CDivN, CMul, tBM, tBM0, tTup, tLst, tAug, tIf, tAnd, tOr, tNot, tAndV, tOrV, tNotV, tIsN, tNotN, tB, scal, tCall, cxK, cxKn, rIxT, rIxL, rIn, rAppend, rReverse, tVals, tDSetd, tDGet, tDGet1, tDGet2, tDIn, tDNotIn, rSortV, rSortT, rPop, rSortL, rSortT, tSl, tNoPart, tPart, List.append_nil, L2.start, List.map_cons, List.map_nil, List.length_cons, List.length_nil, List.replicate_succ, List.replicate_zero, List.cons_append, List.nil_append, Nat.reduceAdd, Nat.reduceSub, exists_eq, exists_eq', List.getElem?_cons_zero, List.getElem?_cons_succ, List.set_cons_zero, List.set_cons_succ, Option.some.injEq, V.int.injEq, V.bl.injEq, V.str.injEq, V.ref.injEq, List.cons.injEq, and_true, true_and, and_false, false_and, reduceCtorEq, exists_false, or_false, false_or, exists_and_left, exists_and_right, exists_eq_left, exists_eq_left', exists_eq_right, exists_eq_right', exists_const, ite_true, ite_false, Bool.false_eq_true, if_true, if_false, decide_true, decide_false]
      exact ⟨x1.trans x2, t2⟩
    · rintro σ H1 ⟨z, y, rfl, x1, t1⟩
      simp only [tSeq, tAsg, gName, tOp, rI, rI0, rU, tUn, tVar, tC, tCB, tCons, tNil, tTest, tIfS, tRet, tRetN, tDrop, tNext, tBreak, tCont, rEq, rNe, CDiv, CDivN, CMul, tBM, tBM0, tTup, tLst, tAug, tIf, tAnd, tOr, tNot, tAndV, tOrV, tNotV, tIsN, tNotN, tB, scal, tCall, cxK, cxKn, rIxT, rIxL, rIn, rAppend, rReverse, tVals, tDSetd, tDGet, tDGet1, tDGet2, tDIn, tDNotIn, rSortV, rSortT, rPop, rSortL, rSortT, tSl, tNoPart, tPart, List.append_nil, L2.start, List.map_cons, List.map_nil, List.length_cons, List.length_nil, List.replicate_succ, List.replicate_zero, List.cons_append, List.nil_append, Nat.reduceAdd, Nat.reduceSub, exists_eq, exists_eq', List.getElem?_cons_zero, List.getElem?_cons_succ, List.set_cons_zero, List.set_cons_succ, Option.some.injEq, V.int.injEq, V.bl.injEq, V.str.injEq, V.ref.injEq, List.cons.injEq, and_true, true_and, and_false, false_and, reduceCtorEq, exists_false, or_false, false_or, exists_and_left, exists_and_right, exists_eq_left, exists_eq_left', exists_eq_right, exists_eq_right', exists_const, ite_true, ite_false, Bool.false_eq_true, if_true, if_false, decide_true, decide_false]
      refine spDraw_of (by decide) t1 fun r H2 _ _ x2 t2 => ?_
      simp only [tSeq, tAsg, gName, tOp, rI, rI0, rU, tUn, tVar, tC, tCB, tCons, tNil, tTest, tIfS, tRet, tRetN, tDrop, tNext, tBreak, tCont, rEq, rNe, CDiv, CDivN, CMul, tBM, tBM0, tTup, tLst, tAug, tIf, tAnd, tOr, tNot, tAndV, tOrV, tNotV, tIsN, tNotN, tB, scal, tCall, cxK, cxKn, rIxT, rIxL, rIn, rAppend, rReverse, tVals, tDSetd, tDGet, tDGet1, tDGet2, tDIn, tDNotIn, rSortV, rSortT, rPop, rSortL, rSortT, tSl, tNoPart, tPart, List.append_nil, L2.start, List.map_cons, List.map_nil, List.length_cons, List.length_nil, List.replicate_succ, List.replicate_zero, List.cons_append, List.nil_append, Nat.reduceAdd, Nat.reduceSub, exists_eq, exists_eq', List.getElem?_cons_zero, List.getElem?_cons_succ, List.set_cons_zero, List.set_cons_succ, Option.some.injEq, V.int.injEq, V.bl.injEq, V.str.injEq, V.ref.injEq, List.cons.injEq, and_true, true_and, and_false, false_and, reduceCtorEq, exists_false, or_false, false_or, exists_and_left, exists_and_right, exists_eq_left, exists_eq_left', exists_eq_right, exists_eq_right', exists_const, ite_true, ite_false, Bool.false_eq_true, if_true, if_false, decide_true, decide_false]
      exact ite2 (fun _ => q _ _ (x1.trans x2) t2) (fun _ => q _ _ (x1.trans x2) t2)
theorem scValue : FnScope ["_law_stream_here", "_law_style"] ["_law_stream_here", "_law_style"] (defScope sValue) := ⟨rfl, rfl, rfl, by decide +kernel, rfl, by decide +kernel, by decide +kernel⟩
def spValue : Sp := fun vs H Q _ => ∃ (a : Addr) (z : Int), vs = [.ref a, .int z] ∧ Strm H a ∧ ∀ (r : Int) (H' : Hp), Sx a H H' → Strm H' a → Q (.int r) H'
theorem ok_value {f : Addr} {fd : FuncData} (F : Fun K "_law_value" "_law_value" sValue f fd) (B : Bi mg) (cDraw : CalX CX0 P w K mg base 1 "_law_draw" spDraw) (cWide : CalX CX0 P w K mg base 2 "_law_wide" spWide) : FnOk P w K mg base CX0 3 f fd ["_law_stream_here", "_law_style"] spValue := by
  refine F.ok scValue (fun vs H Q E h => ?_) (fun cdv A outer s H vs Q E hr h => ?_)
  · obtain ⟨a, z, rfl, _⟩ := h
    rfl
  · obtain ⟨a, z, rfl, hs, q⟩ := h
    refine ⟨_, (pss_cons (ps_if (pt_cmpR op_lt (pv 1) pe_int (nomark _))
 (pss_one (ps_ret (pe_cx cDraw hr (by decide) pass0 (by rfl) (pa_cons (pv 0) (pa_cons pe_int pa_nil))))) pss_nil)
 (pss_cons (ps_if (pt_cmpR op_eq (pv 1) pe_int (nomark _))
 (pss_one (ps_ret (pe_cx cDraw hr (by decide) pass0 (by rfl) (pa_cons (pv 0) (pa_cons pe_int pa_nil))))) pss_nil)
 (pss_cons (ps_if (pt_cmpR op_eq (pv 1) pe_int (nomark _))
 (pss_one (ps_ret (pe_op op_sub (pe_cx cDraw hr (by decide) pass0 (by rfl) (pa_cons (pv 0) (pa_cons pe_int pa_nil))) (pe_cx cDraw hr (by decide) pass0 (by rfl) (pa_cons (pv 0) (pa_cons pe_int pa_nil)))))) pss_nil)
 (pss_cons (ps_if (pt_cmpR op_eq (pv 1) pe_int (nomark _))
 (pss_one (ps_ret (pe_op op_mul (pe_op op_sub (pe_cx cDraw hr (by decide) pass0 (by rfl) (pa_cons (pv 0) (pa_cons pe_int pa_nil))) (pe_cx cDraw hr (by decide) pass0 (by rfl) (pa_cons (pv 0) (pa_cons pe_int pa_nil)))) pe_int))) pss_nil)
 (pss_one (ps_ret (pe_cx cWide hr (by decide) pass0 (by rfl) (pa_cons (pv 0) pa_nil)))))))), ?_⟩
    simp only [tSeq, tAsg, gName, tOp, rI, rI0, rU, tUn, tVar, tC, tCB, tCons, tNil, tTest, tIfS, tRet, tRetN, tDrop, tNext, tBreak, tCont, rEq, rNe, CDiv, CDivN, CMul, tBM, tBM0, tTup, tLst, tAug, tIf, tAnd, tOr, tNot, tAndV, tOrV, tNotV, tIsN, tNotN, tB, scal, tCall, cxK, cxKn, rIxT, rIxL, rIn, rAppend, rReverse, tVals, tDSetd, tDGet, tDGet1, tDGet2, tDIn, tDNotIn, rSortV, rSortT, rPop, rSortL, rSortT, tSl, tNoPart, tPart, List.append_nil, L2.start, List.map_cons, List.map_nil, List.length_cons, List.length_nil, List.replicate_succ, List.replicate_zero, List.cons_append, List.nil_append, Nat.reduceAdd, Nat.reduceSub, exists_eq, exists_eq', List.getElem?_cons_zero, List.getElem?_cons_succ, List.set_cons_zero, List.set_cons_succ, Option.some.injEq, V.int.injEq, V.bl.injEq, V.str.injEq, V.ref.injEq, List.cons.injEq, and_true, true_and, and_false, false_and, reduceCtorEq, exists_false, or_false, false_or, exists_and_left, exists_and_right, exists_eq_left, exists_eq_left', exists_eq_right, exists_eq_right', exists_const, ite_true, ite_false, Bool.false_eq_true, if_true, if_false, decide_true, decide_false]
    refine ite2 (fun _ => spDraw_of (by decide) hs fun r H1 _ _ x1 t1 => q _ _ x1 t1) fun _ => ?_
    refine ite2 (fun _ => spDraw_of (by decide) hs fun r H1 _ _ x1 t1 => q _ _ x1 t1) fun _ => ?_
    refine ite2 (fun _ => spDraw_of (by decide) hs fun r H1 _ _ x1 t1 => spDraw_of (by decide) t1 fun r2 H2 _ _ x2 t2 => ?_) fun _ => ?_
    · simp only [tSeq, tAsg, gName, tOp, rI, rI0, rU, tUn, tVar, tC, tCB, tCons, tNil, tTest, tIfS, tRet, tRetN, tDrop, tNext, tBreak, tCont, rEq, rNe, CDiv, CDivN, CMul, tBM, tBM0, tTup, tLst, tAug, tIf, tAnd, tOr, tNot, tAndV, tOrV, tNotV, tIsN, tNotN, tB, scal, tCall, cxK, cxKn, rIxT, rIxL, rIn, rAppend, rReverse, tVals, tDSetd, tDGet, tDGet1, tDGet2, tDIn, tDNotIn, rSortV, rSortT, rPop, rSortL, rSortT, tSl, tNoPart, tPart, List.append_nil, L2.start, List.map_cons, List.map_nil, List.length_cons, List.length_nil, List.replicate_succ, List.replicate_zero, List.cons_append, List.nil_append, Nat.reduceAdd, Nat.reduceSub, exists_eq, exists_eq', List.getElem?_cons_zero, List.getElem?_cons_succ, List.set_cons_zero, List.set_cons_succ, Option.some.injEq, V.int.injEq, V.bl.injEq, V.str.injEq, V.ref.injEq, List.cons.injEq, and_true, true_and, and_false, false_and, reduceCtorEq, exists_false, or_false, false_or, exists_and_left, exists_and_right, exists_eq_left, exists_eq_left', exists_eq_right, exists_eq_right', exists_const, ite_true, ite_false, Bool.false_eq_true, if_true, if_false, decide_true, decide_false]
      exact q _ _ (x1.trans x2) t2
    refine ite2 (fun _ => spDraw_of (by decide) hs fun r H1 h1 h2 x1 t1 => spDraw_of (by decide) t1 fun r2 H2 h3 h4 x2 t2 => ?_) fun _ => ?_
    · simp only [tSeq, tAsg, gName, tOp, rI, rI0, rU, tUn, tVar, tC, tCB, tCons, tNil, tTest, tIfS, tRet, tRetN, tDrop, tNext, tBreak, tCont, rEq, rNe, CDiv, CDivN, CMul, tBM, tBM0, tTup, tLst, tAug, tIf, tAnd, tOr, tNot, tAndV, tOrV, tNotV, tIsN, tNotN, tB, scal, tCall, cxK, cxKn, rIxT, rIxL, rIn, rAppend, rReverse, tVals, tDSetd, tDGet, tDGet1, tDGet2, tDIn, tDNotIn, rSortV, rSortT, rPop, rSortL, rSortT, tSl, tNoPart, tPart, List.append_nil, L2.start, List.map_cons, List.map_nil, List.length_cons, List.length_nil, List.replicate_succ, List.replicate_zero, List.cons_append, List.nil_append, Nat.reduceAdd, Nat.reduceSub, exists_eq, exists_eq', List.getElem?_cons_zero, List.getElem?_cons_succ, List.set_cons_zero, List.set_cons_succ, Option.some.injEq, V.int.injEq, V.bl.injEq, V.str.injEq, V.ref.injEq, List.cons.injEq, and_true, true_and, and_false, false_and, reduceCtorEq, exists_false, or_false, false_or, exists_and_left, exists_and_right, exists_eq_left, exists_eq_left', exists_eq_right, exists_eq_right', exists_const, ite_true, ite_false, Bool.false_eq_true, if_true, if_false, decide_true, decide_false]
      exact ⟨.inl (by omega), q _ _ (x1.trans x2) t2⟩
    · exact ⟨a, rfl, hs, q⟩
end
end Mv

set_option Elab.async false
set_option linter.all false
set_option maxRecDepth 100000
set_option maxHeartbeats 4000000
namespace Mv
open PySem PySem.Spec PyProof.Rows L2
section
variable {P : Program} {w : World} {K : PySem.W.Frag} {mg : Str → Option Value} {base : Heap}
def kdV (k : Kd) : V := .str k.nm
end
end Mv

set_option Elab.async false
set_option linter.all false
set_option maxRecDepth 100000
set_option maxHeartbeats 4000000
namespace Mv
open PySem PySem.Spec PyProof.Rows L2
theorem small1000' {n : Nat} (h : n ≤ 1000) : n ≤ sizeLine := Nat.le_of_lt (small1000 h)
theorem eqV_int (a b : Int) : eqV (.int a) (.int b) = decide (a = b) := by first | rfl | simp [eqV]
theorem inV_int (x : Int) (ns : List Int) : inV (.int x) (ns.map V.int) = decide (x ∈ ns) := by
  induction ns with
  | nil => rfl
  | cons n ns ih =>
    show (eqV (.int n) (.int x) || inV (.int x) (ns.map V.int)) = _
    rw [ih, eqV_int]
    by_cases h : n = x
    · subst h
      simp
    · simp [h, Ne.symm h]
theorem ext_upd {H : Hp} {p : Addr} {o : HO} (h : H p = none) : LamX.ExtN H (upd H p o) := LamX.ExtN.of (same_upd h)
theorem tt {K : PySem.W.Frag} {H : Hp} {p : Addr} {xs : List V} (h : H p = some (.tup xs)) : SqT K H p xs := .inl (.inl h)
theorem ll {K : PySem.W.Frag} {H : Hp} {p : Addr} {xs : List V} (h : H p = some (.lst xs)) : SqL K H p xs := .inl (.inl h)
theorem dp_ints {K : PySem.W.Frag} {H : Hp} : ∀ xs : List Int, DpAll K H (xs.map V.int) (xs.map PyData.int)
  | [] => .nil
  | x :: r => .cons (.int x) (dp_ints r)
theorem if_T {c : Bool} {A B : Prop} (hc : c = true) (h : A) : if c = true then A else B := by
  rw [if_pos hc]
  exact h
theorem if_F {c : Bool} {A B : Prop} (hc : c = false) (h : B) : if c = true then A else B := by
  rw [if_neg (by rw [hc]; exact Bool.false_ne_true)]
  exact h
/-- a thing that is no name, as the law draws them, or any text -/
inductive BadV (H : Hp) : V → Prop where
  | str (z : Str) (hl : z.length ≤ 100) (hc : ∀ c ∈ z.cps.toList, c < 0x110000) : BadV H (.str z)
  | non : BadV H .non
  | five : BadV H (.int 5)
theorem BadV.ext {H : Hp} {v : V} (b : BadV H v) {H' : Hp} (e : LamX.ExtN H H') : BadV H' v := by
  cases b with
  | str z hl hc => exact .str z hl hc
  | non => exact .non
  | five => exact .five
end Mv

set_option Elab.async false
set_option linter.all false
set_option maxRecDepth 100000
set_option maxHeartbeats 4000000
namespace Mv
open PySem PySem.Spec PyProof.Rows L2
/-! ### {name!r} -/
theorem fmt_cost1 : fmtCost [("list" : Str)] + 7 ≤ 100 := by decide +kernel
def tFmtB (K : PySem.W.Frag) (te : TE) : TE := fun σ H Q => te σ H fun x H1 => BadV H1 x ∧ ∀ m : Str, m.length ≤ 2000 → Q (.str m) H1
theorem pe_fmtB {X : Cx} {k : Nat} {e : Expr} {te : TE} {pos : Pos} (hr : Room k X.A) (he : PE X e te) : PE X (.FormattedValue e 114 none pos) (tFmtB X.K te) := by
  refine ⟨fun pins s σ H Q I h => ?_⟩
  refine wpAny_FormattedValue_repr (thn (he.run pins s σ H _ I h) fun v s1 hv => ?_)
  obtain ⟨x, H1, I1, r1, b, q⟩ := hv
  have fin : ∀ (m : Str) (u : Tok) (s2 : Shared), m.length ≤ 2000 → Inv X pins σ H1 s2 → wpAny (model X.prog X.w) X.A (formatField (.str m u) Str.empty) (EP X pins σ Q) X.xe s2 := fun m u s2 hm I2 =>
    wpAny_formatField_str ⟨.str m, H1, I2, ⟨_, rfl⟩, q m hm⟩ ⟨.str m, H1, I2.tok _, ⟨_, rfl⟩, q m hm⟩ (by rw [sizeLine_eq]; omega)
  cases b with
  | str z hl hc =>
    obtain ⟨t, rfl⟩ := r1
    have h1 := StrLaws.reprText_len z fun c h => Nat.lt_trans (hc c h) (by decide)
    exact pyReprObj_str (fin _ _ _ (by omega) (I1.tok _)) (by rw [sizeLine_eq]; omega)
  | non =>
    obtain rfl : v = Value.none := r1
    exact pyReprObj_none (fin _ _ _ (by decide +kernel) (I1.tok _))
  | five =>
    obtain ⟨t, rfl⟩ := r1
    exact pyReprObj_int (by decide +kernel) (fin _ _ _ (by decide +kernel) (I1.tok _))
end Mv

set_option Elab.async false
set_option linter.all false
set_option maxRecDepth 100000
set_option maxHeartbeats 4000000
namespace Mv
open PySem PySem.Spec PyProof.Rows L2
abbrev iEnv (q : Str) (sc : Scope) (L f c cc : Addr) : Env := PySem.W.ksEnv q sc L f (.ref c) cc
/-- the context of an __init__ that says super(): one cell, of the class -/
def cxF (CX : CXT) (P : Program) (w : World) (K : PySem.W.Frag) (mg : Str → Option Value) (base : Heap) (N : List Str) (q : Str) (sc : Scope) (f c cc : Addr) (A : Around) (outer : List Env) (s : Shared) (H : Hp) (E : XK) : Cx where
  prog := P
  w := w
  K := K
  mg := mg
  base := base
  A := A.deeper (iEnv q sc s.heap.objs.size f c cc)
  N := N
  s_0 := s
  H_0 := H
  env := iEnv q sc s.heap.objs.size f c cc
  outer := outer
  stack := iEnv q sc s.heap.objs.size f c cc :: outer
  ex := []
  fn := fun _ => false
  calm := true
  pn := []
  xe := fun e s' => wpAny (model P w) (A.deeper (iEnv q sc s.heap.objs.size f c cc)) (leaving (iEnv q sc s.heap.objs.size f c cc) e) (fun _ s'' => CX outer H s E e s'') (fun e' s'' => CX outer H s E e' s'') s'
/-- what the scope of such an __init__ says -/
structure ScI (sc : Scope) (n1 n2 : Str) : Prop where
  kind : sc.kind = .function
  co : sc.isCoroutine = false
  gen : sc.isGenerator = false
  l1 : sc.names.lookup n1 = some .local
  l2 : sc.names.lookup n2 = some .local
  ne : ¬ n1 = n2
  cell : ∀ y ∈ sc.names, y.2 ≠ .cell
  free : ∀ y ∈ sc.names, y.2 = .free → y.1 = "__class__"
  cls : sc.names.lookup ("__class__" : Str) = some .free
  sup : sc.names.lookup ("super" : Str) = some .globalImplicit
section
variable {CX : CXT} {P : Program} {w : World} {K : PySem.W.Frag} {mg : Str → Option Value} {base : Heap} {q : Str} {sc : Scope} {f c cc : Addr} {A : Around} {outer : List Env} {s : Shared} {H : Hp} {E : XK} {n1 n2 : Str} {h₁ : Heap} {tk : Nat}
theorem inv_startF {v1 v2 : V} {u1 u2 : Value} (S : ScI sc n1 n2) (hd : A.handled = none) (e0 : Env0 P w K mg base A outer s H) (r1 : RelV v1 u1) (r2 : RelV v2 u2) {oc : Obj} {D : Value} (hcc : base.get? cc = some oc) (hoc : oc.data = .cell (some D))
    (hns : h₁.Ns s.heap.objs.size fun y => [(n1, u1), (n2, u2)].reverse.lookup y) (kp : ∀ b o, s.heap.get? b = some o → h₁.get? b = some o) :
    Inv (cxF CX P w K mg base [n1, n2] q sc f c cc A outer s H E) [] [some v1, some v2] H { s with heap := h₁, toks := tk } := by
  have noA : ∀ b : Addr, b ∉ (cxF CX P w K mg base [n1, n2] q sc f c cc A outer s H E).ex := fun b z => absurd (show b ∈ ([] : List Addr) from z) (by simp)
  have onecell : ∀ {y b}, (cxF CX P w K mg base [n1, n2] q sc f c cc A outer s H E).env.cells.lookup y = some b → y = "__class__" ∧ b = cc := fun {y b} z => by
    have z : List.lookup y [(("__class__" : Str), cc)] = some b := z
    unfold List.lookup at z
    split at z
    · rename_i h
      exact ⟨eq_of_beq h, (Option.some.inj z).symm⟩
    · cases z
  have ccS := e0.bs cc oc hcc
  refine ⟨⟨e0.mod, S.kind, rfl, rfl, Nat.le_refl _, fun y z b h1 h2 => (onecell h1).1.trans (onecell h2).1.symm, fun y hy => ?_, fun y b h => absurd (show false = true from h) Bool.false_ne_true, fun _ => hd, Around.frames_deeper e0.frames, .inr ⟨rfl, rfl⟩, fun b z => absurd z (noA b), e0.bs, e0.bsz, fun b _ _ => noA b, fun b z => absurd z (noA b), e0.funs, e0.frf⟩,
    rfl, e0.bare, Un.kept kp, ⟨_, hns, fun i y v h1 h2 h3 => ?_⟩, fun y b h => ?_, e0.hok.fresh (Nat.le_refl _), fun y b h => ?_, fun p hp => absurd (show p ∈ ([] : List (Addr × Obj)) from hp) (by simp), e0.hok.kept kp, rfl⟩
  · have hy : sc.names.lookup y = some .cell ∨ sc.names.lookup y = some .free := hy
    rcases hy with hy | hy
    · exact absurd rfl (S.cell _ (PySem.mem_of_lookup hy))
    · have e := S.free _ (PySem.mem_of_lookup hy) rfl
      have e : y = "__class__" := e
      subst e
      exact ⟨cc, rfl⟩
  · have hm1 : List.lookup n1 [(n1, u1), (n2, u2)].reverse = some u1 := by
      show List.lookup n1 [(n2, u2), (n1, u1)] = some u1
      simp [List.lookup, beq_eq_false_iff_ne.mpr S.ne]
    have hm2 : List.lookup n2 [(n1, u1), (n2, u2)].reverse = some u2 := by
      show List.lookup n2 [(n2, u2), (n1, u1)] = some u2
      simp [List.lookup]
    match i, h1, h2 with
    | 0, h1, h2 =>
      cases h1
      cases h2
      exact ⟨u1, r1, .inl ⟨S.l1, hm1⟩⟩
    | 1, h1, h2 =>
      cases h1
      cases h2
      exact ⟨u2, r2, .inl ⟨S.l2, hm2⟩⟩
    | i + 2, h1, h2 => cases h1
  · rw [(onecell h).2]
    exact ⟨_, oc, kp _ _ ccS.1, hoc⟩
  · rw [(onecell h).2]
    exact ccS.2
end
/-! ### ValueError.__init__, bound to an exception that is being made -/
section
variable {X : Cx} {pins : List (Addr × Obj)} {σ : L2.St} {H : Hp} {s : Shared} {A : Around} {E : Value → Shared → Prop}
theorem bound_init {a C u : Addr} {us : List Value} {Q : Value → Shared → Prop} (T : OexC X.K C) (I : Inv X pins σ H s) (e : H a = some (exo a C none)) (hu : s.heap.get? u = some (PySem.W.kxs_mw "ValueError.__init__" a)) (hl : us.length ≤ sizeLine) (h : ∀ s', Inv X pins σ H s' → Q .none s') :
    wpAny (model X.prog X.w) A (call (.ref u) us) Q E s := by
  obtain ⟨nm, q, N, bs, bm, sn, sub, ab, col, dd, k0, k1, k2, k3, k5, hC, hbm⟩ := T.cls
  obtain ⟨t1, ho⟩ := exo_at I.hok e
  have hC' := I.kIn _ _ hC
  have fin : ∀ h' t2, (∀ b o, b ≠ a → s.heap.get? b = some o → h'.get? b = some o) → h'.get? a = some (HandSPX.excO C t2) → Q .none { s with heap := h' } := fun h' t2 k hx => by
    have J := I.write (t' := s.toks) (x := a) (e := a) (o := exo a C none) (by rw [e]; exact True.intro) (.inl rfl) k ⟨_, hx⟩ (exo_ok hx)
    have eu : upd H a (exo a C none) = H := by
      funext b
      by_cases hb : b = a
      · rw [hb, upd_same, e]
      · rw [upd_ne hb]
    rw [eu] at J
    exact h _ J
  clear h I
  obtain ⟨hp, g, d, t, os⟩ := s
  refine wpAny_call (codeAny_of_tree ?_)
  show wpAny _ A.in1 (callAny (.ref u) ⟨us, []⟩) _ _ _
  simp only [callAny]
  refine wpAny_bind (wpAny_load hu ?_)
  simp only [PySem.W.kxs_mw, show (Value.type "method-wrapper" == Value.type "method" || Value.type "method-wrapper" == Value.type "builtin_function_or_method" || Value.type "method-wrapper" == Value.type "method-wrapper") = true by decide, if_true]
  refine W.KFB.if_so (by decide) ?_
  refine wpAny_bind (ESX.check_bound F.excBase_ValueError hC' ho rfl ?_)
  refine wpAny_bind (wpAny_pure (wpAny_pure ?_))
  refine ⟨Code.quiet_builtin _ (by decide +kernel), codeAny_builtin F.excBase_ValueError.initEntry ?_⟩
  rw [Around.under_plainId F.excBase_ValueError.init.plain _]
  wp_walk
  refine fin _ hp.objs.size (fun b o hb hbo => ?_) ?_
  · rw [Heap.get?_update_other _ _ (Ne.symm hb)]
    exact Heap.get?_push_of_some _ hbo
  · rw [Heap.get?_update_self _ (Heap.get?_push_of_some _ ho) rfl]
    rfl
theorem callWith_mw {M : Model} {A : Around} {E : Value → Shared → Prop} {s : Shared} {i : String} {u x : Addr} {pos : Pos} {env : Env} {e : Expr} {Q : Value → Shared → Prop}
    (h : wpAny M A (spliced (backTo pos (starEach (e :: []) env))) (fun vs s₁ => PySem.W.KxsAt i u x s₁.heap ∧ wpAny M A (call (.ref u) vs) Q E s₁) E s)
    (he : starEach (e :: []) env = (false, eval e env) :: starEach [] env := by rfl) :
    wpAny M A (callWith pos (.ref u) [] (backTo pos (starEach (e :: []) env)) []) Q E s := by
  rw [he] at h ⊢
  refine PySem.W.kxs_callWith (i := i) (x := x) rfl ?_
  exact Calls.evalArgs_plain h
/-- what the written part says of an own exception class whose __init__ says super(), and of that __init__ -/
structure SupK (P : Program) (K : PySem.W.Frag) (f c cc C : Addr) : Prop where
  oex : OexC K C
  code : ∃ (ccl : Value) (cdd : Option Addr) (vs : Array Value) (ccs : Array (Option Value)) (file : Str) (tf : Tok), K.lookup c = some ⟨ccl, cdd, .fields vs, ccs⟩ ∧ vs[2]? = some (.str file tf) ∧ ((P.main.file : Str) == file) = true
  cell : ∃ (cl : Value) (cld : Option Addr) (csl : Array (Option Value)), K.lookup cc = some ⟨cl, cld, .cell (some (.ref C)), csl⟩
  top : (P.main.scope.names.lookup ("super" : Str)).isSome = false
  self : PySem.W.mroIn K C (.ref C) = some true
  ve : PySem.W.mroIn K C (.type "ValueError") = some true
  opq : PySem.W.nsIn K cStatics "thirdparty.any" = some none
  sup : PySem.W.ks_superIn K C C "__init__" = some (some (.builtin "ValueError.__init__"))
  cls : ∃ cd, PySem.W.clsIn K C = some cd
def spIniB (K : PySem.W.Frag) (C : Addr) (n2 : Str) : Sp := fun vs H Q _ => ∃ (a : Addr) (v : V), vs = [.ref a, v] ∧ H a = some (exo a C none) ∧ BadV H v ∧ ∀ dx, H dx = none → dx ≠ a → Q .non (upd (upd H dx (exd dx [(n2, v)])) a (exo a C (some dx)))
/-- def __init__(self, n2): super().__init__(f'..{n2!r}'); self.n2 = n2 -/
theorem ok_iniB {P : Program} {w : World} {K : PySem.W.Frag} {mg : Str → Option Value} {base : Heap} {f c cc C : Addr} {qual n2 : Str} {params : Arguments} {sc : Scope} {kV doc pm ct oc : Value} {an od : Option Addr} {osl : Array (Option Value)} {head : Str}
    {p0 p1 p2 p3 p4 p5 p6 p7 p8 p9 p10 p11 p12 : Pos} {k4 : Nat} {ar : Arg} {kn : Nat} {pl : Env → Sem Bool}
    (hcall : ∀ env : Env, eval (.Call (.Attribute (.Call (.Name "super" p0) [] [] p1) "__init__" p2) [.JoinedStr [.Constant (.str head) k4 p3, .FormattedValue (.Name n2 p4) 114 none p5] p6] [] p7) env = (do
      let ov ← attributeBase (.Call (.Name "super" p0) [] [] p1) "__init__" env (eval (.Call (.Name "super" p0) [] [] p1) env)
      standAt p2.atName
      let (f, first) ← holding [ov] (getMethod ov "__init__" (pl env))
      callWith p7 f first (backTo p7 (starEach [.JoinedStr [.Constant (.str head) k4 p3, .FormattedValue (.Name n2 p4) 114 none p5] p6] env)) []))
    (hswap : ∀ env : Env, swapsWith (.Name n2 p11) (some (.Attribute (.Name "self" p9) n2 p10)) p12.line env = pure false)
    (lk : K.lookup f = some ⟨oc, od, .func (PySem.W.ksFn "__init__" qual params [.Expr (.Call (.Attribute (.Call (.Name "super" p0) [] [] p1) "__init__" p2) [.JoinedStr [.Constant (.str head) k4 p3, .FormattedValue (.Name n2 p4) 114 none p5] p6] [] p7) p8, .Assign [.Attribute (.Name "self" p9) n2 p10] (.Name n2 p11) p12] sc .none kV doc pm an (.ref c) ct cc), osl⟩)
    (hcd : PySem.W.codeIn K (.ref c) qual = true) (S : ScI sc "self" n2) (U : SupK P K f c cc C) (hsup : mg "super" = none) (hno : PySem.W.findIn K (.ref C) n2 = some none) (hh : head.length ≤ 1000)
    (hp : (params.posonlyargs ++ params.args).head? = some ar) (har : ar.arg = "self") (d2 : (n2 == ("__debug__" : Str)) = false) (c2 : (n2 == ("__classdict__" : Str)) = false) :
    FnOk P w K mg base CX0 (kn + 1) f (PySem.W.ksFn "__init__" qual params [.Expr (.Call (.Attribute (.Call (.Name "super" p0) [] [] p1) "__init__" p2) [.JoinedStr [.Constant (.str head) k4 p3, .FormattedValue (.Name n2 p4) 114 none p5] p6] [] p7) p8, .Assign [.Attribute (.Name "self" p9) n2 p10] (.Name n2 p11) p12] sc .none kV doc pm an (.ref c) ct cc) ["self", n2] (spIniB K C n2) := by
  refine ⟨fun vs H Q E h => ?_, fun A outer s H args us vs Q E hr e0 hb r hsp => ?_⟩
  · obtain ⟨a, v, rfl, _⟩ := h
    rfl
  obtain ⟨a, v, rfl, ha, hv, q⟩ := hsp
  obtain ⟨u1, u2, rfl, r1, r2⟩ := vals2 r
  obtain rfl : u1 = Value.ref a := r1
  have KX : K.In s.heap := e0.mod.kin.keeps fun b o e => (e0.bs b o e).1
  have lim : s.heap.NoLimit := e0.mod.nolimit.keeps fun b o e => (e0.bs b o e).1
  obtain ⟨ccl, cdd, vsC, ccs, file, tf, kc, hvs, hfile⟩ := U.code
  obtain ⟨cl0, cld, csl, kcc⟩ := U.cell
  obtain ⟨cdD, hcdD⟩ := U.cls
  refine ks_codeAny_call_defAt hr.depth (KX _ _ lk) rfl lim (PySem.W.codeRec_of KX hcd) rfl (binds := [("self", .ref a), (n2, u2)]) hb S.cell (fun x hx => ?_) (fun h₀ hns kp => ?_) S.co S.gen S.kind
  · rcases List.mem_cons.mp hx with rfl | hx
    · exact S.l1
    · rw [List.mem_singleton.mp hx]
      exact S.l2
  have I : Inv (cxF CX0 P w K mg base ["self", n2] qual sc f c cc A outer s H E) [] [some (.ref a), some v] H { s with heap := h₀, toks := s.toks + 2 } := inv_startF S hr.hd e0 rfl r2 (e0.mod.kin _ _ kcc) rfl hns kp
  generalize hs0 : ({ s with heap := h₀, toks := s.toks + 2 } : Shared) = s0 at I
  have hns0 : s0.heap.Ns s.heap.objs.size fun y => [(("self" : Str), Value.ref a), (n2, u2)].reverse.lookup y := by
    rw [← hs0]
    exact hns
  show _root_.PySem.wpAt _ (A.deeper (iEnv qual sc s.heap.objs.size f c cc)) (.func _ (iEnv qual sc s.heap.objs.size f c cc)) (execs _ (iEnv qual sc s.heap.objs.size f c cc)) _ _ s0
  have K0 : K.In s0.heap := I.kIn
  obtain ⟨t1, hoa⟩ := exo_at I.hok ha
  obtain ⟨oD, hD1, hD2⟩ : ∃ oD, s0.heap.get? C = some oD ∧ oD.data = .cls cdD := by
    unfold PySem.W.clsIn at hcdD
    split at hcdD
    · rename_i c0 d0 cd' sl0 ho0
      cases hcdD
      exact ⟨_, K0 _ _ ho0, rfl⟩
    · cases hcdD
  have hxC : a ≠ C := fun z => by
    rw [z, hD1] at hoa
    have z2 := Option.some.inj hoa
    rw [z2] at hD2
    cases hD2
  have hmself : List.lookup ("self" : Str) [(("self" : Str), Value.ref a), (n2, u2)].reverse = some (.ref a) := by
    show List.lookup ("self" : Str) [(n2, u2), (("self" : Str), Value.ref a)] = some (.ref a)
    have : (("self" : Str) == n2) = false := beq_eq_false_iff_ne.mpr S.ne
    simp [List.lookup, this]
  obtain ⟨hp0, g0, d0, tk0, os0⟩ := s0
  refine ks_wpAt_execs_cons (ks_wpAt_Expr_any (ks_wpAt_MethodCall (ks_wpAt_super_base S.sup S.cls (by decide) rfl (K0 _ _ lk) rfl hp rfl (K0 _ _ kc) rfl hvs hfile U.top ?_) (hcall _)) (by show (sc.kind == .module && _) = false; rw [S.kind]; rfl))
  refine PySem.W.ks_loadName_global S.kind S.sup (Calls.loadGlobal_builtin (env := iEnv qual sc s.heap.objs.size f c cc) (I.mod.glob.keeps I.bk) hsup (I.mod.blt.choose_spec.1.keeps I.bk) ((I.mod.blt.choose_spec.2 _ (by decide +kernel)).trans (by decide +kernel)) ⟨rfl, ?_⟩)
  refine wpAny_loadName_free S.kind S.cls rfl ⟨_, K0 _ _ kcc, rfl⟩ ?_
  rw [har]
  refine wpAny_loadName_local S.kind S.l1 hns0 hmself ?_
  refine ks_wpAny_isType_cls hD1 hD2 ⟨rfl, ?_⟩
  refine ks_wpAny_call_super hD1 hD2 hoa rfl (fun c e => by cases e) (PySem.W.looks_mroIn K0 U.self) (fun h1 e1 k1 => ?_)
  have I1 : Inv (cxF CX0 P w K mg base ["self", n2] qual sc f c cc A outer s H E) [] [some (.ref a), some v] H ⟨h1, g0, d0, tk0, os0⟩ := I.kept (t' := tk0) k1
  have K1 : K.In h1 := I1.kIn
  have hoa1 := k1 _ _ hoa
  have hks := U.sup
  unfold PySem.W.ks_superIn at hks
  rw [hcdD] at hks
  have hin : PySem.W.Looks (model P w) h1 (isInstance (.ref a) (.type "ValueError")) true := by
    have I2 : PySem.W.InstAt h1 a { cls := .ref C, dict := none, data := .fields #[.ref t1, .none, .none, .none, .bool false, .none] } C none := ⟨hoa1, rfl, rfl, trivial⟩
    exact I2.type.andThen (PySem.W.looks_mroIn K1 U.ve)
  refine PySem.W.kxs_getMethod PySem.W.kxs_ValueError e1 (PySem.W.looks_opaque K1 U.opq) (l₀ := cdD.mro) (fun A Q E s k q => wpAny_bind ((PySem.W.looks_clsIn K1 hcdD) A _ E s k (wpAny_pure q))) rfl K1 hks hin hxC (by decide) ?_
  have hu1 : (h1.push (PySem.W.kxs_mw "ValueError.__init__" a)).get? h1.objs.size = some (PySem.W.kxs_mw "ValueError.__init__" a) := Heap.get?_push_size _ rfl
  have I2 : Inv (cxF CX0 P w K mg base ["self", n2] qual sc f c cc A outer s H E) [] [some (.ref a), some v] H ⟨h1.push (PySem.W.kxs_mw "ValueError.__init__" a), g0, d0, tk0 + 1, os0⟩ := I1.kept (t' := tk0 + 1) fun b u e => Heap.get?_push_of_some _ e
  have I3 : Inv (cxF CX0 P w K mg base ["self", n2] qual sc f c cc A outer s H E) [(h1.objs.size, PySem.W.kxs_mw "ValueError.__init__" a)] [some (.ref a), some v] H ⟨h1.push (PySem.W.kxs_mw "ValueError.__init__" a), g0, d0, tk0 + 1, os0⟩ := I2.pins_of fun p hp => by
    rw [List.mem_singleton.mp hp]
    exact ⟨hu1, I1.hok.fresh (Nat.le_refl _), Nat.ne_of_gt I1.lt, I1.nofs (Nat.le_refl _), fun v z => by cases z⟩
  have hrZ : Room kn (cxF CX0 P w K mg base ["self", n2] qual sc f c cc A outer s H E).A := hr.deeper _
  have pv1 : ∀ pos, PE (cxF CX0 P w K mg base ["self", n2] qual sc f c cc A outer s H E) (.Name n2 pos) (tVar 1) := fun pos => pe_var (i := 1) rfl (.inl S.l2) d2 c2
  have pv0 : ∀ pos, PE (cxF CX0 P w K mg base ["self", n2] qual sc f c cc A outer s H E) (.Name "self" pos) (tVar 0) := fun pos => pe_var (i := 0) rfl (.inl S.l1)
  have pj : PE (cxF CX0 P w K mg base ["self", n2] qual sc f c cc A outer s H E) (.JoinedStr [.Constant (.str head) k4 p3, .FormattedValue (.Name n2 p4) 114 none p5] p6) _ := pe_joined (.cons pe_str (.cons (pe_fmtB hrZ (pv1 p4)) .nil))
  refine callWith_mw (i := "ValueError.__init__") (x := a) (args_cons (thn (pj.run _ _ _ H (fun x H1 => (∃ y, x = .str y) ∧ H1 = H) I3 ?_) fun v2 s2 ⟨x2, H2, J2, rx2, ⟨y2, ex2⟩, eH⟩ => args_nil ⟨(J2.pin (h1.objs.size, PySem.W.kxs_mw "ValueError.__init__" a) (List.mem_append_right _ (List.mem_singleton.mpr rfl))).1, ?_⟩))
  · refine ⟨head, rfl, ?_, v, rfl, hv, fun m hm => ⟨m, rfl, ?_, ⟨_, rfl⟩, rfl⟩⟩
    · rw [sizeLine_eq, strLen_append]
      have : (Str.empty).length = 0 := rfl
      omega
    · rw [sizeLine_eq, strLen_append, strLen_append]
      have : (Str.empty).length = 0 := rfl
      omega
  rw [eH] at J2
  refine bound_init U.oex J2 ha ?_ ?_ fun s3 J3 => ?_
  · exact (J2.pin (h1.objs.size, PySem.W.kxs_mw "ValueError.__init__" a) (List.mem_append_right _ (List.mem_singleton.mpr rfl))).1
  · rw [sizeLine_eq]
    show 1 ≤ 16777216
    decide
  refine wpAt_of_wpAny ?_
  have ps := pss_one (ps_ost (pv0 p9) (pv1 p11) (hswap _) (X := cxF CX0 P w K mg base ["self", n2] qual sc f c cc A outer s H E) (f := n2) (p' := p10) (pos := p12))
  refine wpAny_mono (ps.run _ s3 _ H { nx := fun _ H' => Q .non H', rt := Q } J3 ?_) (fun fl s' hs => ?_) fun e s' hs => hs
  · refine ⟨v, rfl, .ref a, rfl, a, C, rfl, U.oex, hno, .inl ⟨ha, fun dx h2 h3 => q dx h2 h3⟩⟩
  · cases fl with
    | ret u =>
      obtain ⟨v', σ', H', J, rv, q'⟩ := hs
      exact ⟨v', H', J.os, J.bare, J.base, J.hok, rv, q'⟩
    | next =>
      obtain ⟨σ', H', J, q'⟩ := hs
      exact ⟨.non, H', J.os, J.bare, J.base, J.hok, rfl, q'⟩
    | brk =>
      obtain ⟨_, _, _, q'⟩ := hs
      exact False.elim q'
    | cont =>
      obtain ⟨_, _, _, q'⟩ := hs
      exact False.elim q'
end
end Mv

set_option Elab.async false
set_option linter.all false
set_option maxRecDepth 100000
set_option maxHeartbeats 4000000
namespace Mv
open PySem PySem.Spec PyProof.Rows L2
abbrev sSpan : Stmt := topS 18
abbrev sStep : Stmt := topS 19
/-! ### letters -/
structure Ltr where
  n : Int
  t : Int
  v : Int
def Ltr.o (e : Ltr) : HO := .tup [.int e.n, .int e.t, .int e.v]
abbrev LtL := List (Addr × Ltr)
def lts (L : LtL) : List Ltr := L.map (·.2)
structure Lts (H : Hp) (l : Addr) (L : LtL) : Prop where
  at_ : H l = some (.lst (L.map fun q => V.ref q.1))
  all : ∀ q ∈ L, H q.1 = some q.2.o
theorem Lts.same {H H' : Hp} {l : Addr} {L : LtL} (h : Lts H l L) (s : Same H H') : Lts H' l L := ⟨s _ _ h.at_, fun q hq => s _ _ (h.all q hq)⟩
theorem tup_wr {H H' : Hp} {a b : Addr} {ys zs : List V} (ha : H a = some (.lst ys)) (x : Sx a H H') (h : H b = some (.tup zs)) : H' b = some (.tup zs) := x _ _ (fun z => by
  rw [z, ha] at h
  cases h) h
theorem Lts.wr {H H' : Hp} {a l : Addr} {ys : List V} {L : LtL} (h : Lts H l L) (ha : H a = some (.lst ys)) (n : l ≠ a) (x : Sx a H H') : Lts H' l L := ⟨x _ _ n h.at_, fun q hq => tup_wr ha x (h.all q hq)⟩
theorem none_of {a b : Addr} {H H1 : Hp} (hs : Strm H1 a) (x : Sx a H H1) (h : H1 b = none) : H b = none ∧ b ≠ a := by
  have ne : b ≠ a := fun z => by
    subst z
    obtain ⟨zs, e, _⟩ := hs
    rw [e] at h
    cases h
  refine ⟨?_, ne⟩
  cases e : H b with
  | none => rfl
  | some o =>
    rw [x _ _ ne e] at h
    cases h
/-- letters in order: numbered from 0 on, no time before the one ahead -/
def Inord (L : List Ltr) : Prop := ∀ (i : Nat) (e : Ltr), L[i]? = some e → e.n = (i : Int) ∧ ∀ e' : Ltr, L[i + 1]? = some e' → e.t ≤ e'.t
theorem Inord.snoc {L : List Ltr} {e : Ltr} (h : Inord L) (hn : e.n = (L.length : Int)) (ht : ∀ e', L[L.length - 1]? = some e' → e'.t ≤ e.t) : Inord (L ++ [e]) := by
  intro i x hx
  by_cases c : i < L.length
  · rw [List.getElem?_append_left c] at hx
    obtain ⟨h1, h2⟩ := h i x hx
    refine ⟨h1, fun y hy => ?_⟩
    by_cases d : i + 1 < L.length
    · rw [List.getElem?_append_left d] at hy
      exact h2 y hy
    · have ei : i = L.length - 1 := by omega
      rw [List.getElem?_append_right (by omega), show i + 1 - L.length = 0 by omega] at hy
      obtain rfl : e = y := Option.some.inj hy
      exact ht x (by rw [← ei]; exact hx)
  · have hi : i < (L ++ [e]).length := (List.getElem?_eq_some_iff.mp hx).1
    rw [List.length_append, List.length_singleton] at hi
    obtain rfl : i = L.length := by omega
    rw [List.getElem?_append_right (Nat.le_refl _), Nat.sub_self] at hx
    obtain rfl : e = x := Option.some.inj hx
    refine ⟨hn, fun y hy => ?_⟩
    have := (List.getElem?_eq_some_iff.mp hy).1
    rw [List.length_append, List.length_singleton] at this
    omega
theorem Lts.snoc {H : Hp} {D p : Addr} {L : LtL} {e : Ltr} (h : Lts H D L) (hp : H p = some e.o) : Lts (upd H D (.lst (L.map (fun q => V.ref q.1) ++ [.ref p]))) D (L ++ [(p, e)]) := by
  refine ⟨by rw [upd_same, List.map_append]; rfl, fun q hq => ?_⟩
  rcases List.mem_append.mp hq with hq | hq
  · exact tup_wr h.at_ Sx.upd (h.all q hq)
  · rw [List.mem_singleton.mp hq]
    exact tup_wr h.at_ Sx.upd hp
section
variable {P : Program} {w : World} {K : PySem.W.Frag} {mg : Str → Option Value} {base : Heap} {T : List (Addr × Str)} {cls : Kd → Addr} {CB : Addr}
theorem scSpan : FnScope ["_law_stream_here", "_law_pick"] ["_law_stream_here"] (defScope sSpan) := ⟨rfl, rfl, rfl, by decide +kernel, rfl, by decide +kernel, by decide +kernel⟩
def spSpan : Sp := fun vs H Q _ => ∃ (a : Addr), vs = [.ref a] ∧ Strm H a ∧ ∀ (r : Int) (H' : Hp), 0 ≤ r → Sx a H H' → Strm H' a → Q (.int r) H'
theorem ok_span {f : Addr} {fd : FuncData} (F : Fun K "_law_span" "_law_span" sSpan f fd) (B : Bi mg) (cDraw : CalX CX0 P w K mg base 1 "_law_draw" spDraw) : FnOk P w K mg base CX0 2 f fd ["_law_stream_here"] spSpan := by
  refine F.ok scSpan (fun vs H Q E h => ?_) (fun cdv A outer s H vs Q E hr h => ?_)
  · obtain ⟨a, rfl, _⟩ := h
    rfl
  · obtain ⟨a, rfl, hs, q⟩ := h
    refine ⟨_, (pss_cons (ps_set (i := 1) scSpan.nd rfl (.inl rfl) (pe_cx cDraw hr (by decide) pass0 (by rfl) (pa_cons (pv 0) (pa_cons pe_int pa_nil))))
 (pss_cons (ps_if (pt_cmpR op_lt (pv 1) pe_int (nomark _))
 (pss_one (ps_ret (pe_op op_mod (pe_callTy call_int1 (by rfl) B.int (by decide +kernel) (pa_cons (pv 1) pa_nil)) pe_int))) pss_nil)
 (pss_cons (ps_if (pt_cmpR op_eq (pv 1) pe_int (nomark _))
 (pss_one (ps_ret (pe_cx cDraw hr (by decide) pass0 (by rfl) (pa_cons (pv 0) (pa_cons pe_int pa_nil))))) pss_nil)
 (pss_one (ps_ret (pe_op op_add pe_int (pe_cx cDraw hr (by decide) pass0 (by rfl) (pa_cons (pv 0) (pa_cons pe_int pa_nil))))))))), ?_⟩
    simp only [tSeq, tAsg, gName, tOp, rI, rI0, rU, tUn, tVar, tC, tCB, tCons, tNil, tTest, tIfS, tRet, tRetN, tDrop, tNext, tBreak, tCont, rEq, rNe, CDiv, CDivN, CMul, tBM, tBM0, tTup, tLst, tAug, tIf, tAnd, tOr, tNot, tAndV, tOrV, tNotV, tIsN, tNotN, tB, scal, tCall, cxK, cxKn, rIxT, rIxL, rIn, rAppend, rReverse, tVals, tDSetd, tDGet, tDGet1, tDGet2, tDIn, tDNotIn, rSortV, rSortT, rPop, rSortL, rSortT, tSl, tNoPart, tPart, List.append_nil, L2.start, List.map_cons, List.map_nil, List.length_cons, List.length_nil, List.replicate_succ, List.replicate_zero, List.cons_append, List.nil_append, Nat.reduceAdd, Nat.reduceSub, exists_eq, exists_eq', List.getElem?_cons_zero, List.getElem?_cons_succ, List.set_cons_zero, List.set_cons_succ, Option.some.injEq, V.int.injEq, V.bl.injEq, V.str.injEq, V.ref.injEq, List.cons.injEq, and_true, true_and, and_false, false_and, reduceCtorEq, exists_false, or_false, false_or, exists_and_left, exists_and_right, exists_eq_left, exists_eq_left', exists_eq_right, exists_eq_right', exists_const, ite_true, ite_false, Bool.false_eq_true, if_true, if_false, decide_true, decide_false]
    refine spDraw_of (by decide) hs fun r H1 h0 h1 x1 t1 => ⟨r, rfl, ite2 (fun c => .inl ⟨r, rfl, by decide, q _ H1 (Int.emod_nonneg _ (by decide)) x1 t1⟩) (fun c => ⟨rfl, ite2 (fun c2 => ?_) (fun c2 => ?_)⟩)⟩
    · exact spDraw_of (by decide) t1 fun r2 H2 g0 g1 x2 t2 => q r2 H2 g0 (x1.trans x2) t2
    · exact spDraw_of (by decide) t1 fun r2 H2 g0 g1 x2 t2 => ⟨r2, rfl, q _ H2 (by omega) (x1.trans x2) t2⟩
theorem scStep : FnScope ["_law_stream_here", "_law_span_here", "_law_pick"] ["_law_stream_here", "_law_span_here"] (defScope sStep) := ⟨rfl, rfl, rfl, by decide +kernel, rfl, by decide +kernel, by decide +kernel⟩
def spStep : Sp := fun vs H Q _ => ∃ (a : Addr) (g : Int), vs = [.ref a, .int g] ∧ 0 ≤ g ∧ Strm H a ∧ ∀ (r : Int) (H' : Hp), 0 ≤ r → Sx a H H' → Strm H' a → Q (.int r) H'
theorem ok_step {f : Addr} {fd : FuncData} (F : Fun K "_law_step" "_law_step" sStep f fd) (B : Bi mg) (cDraw : CalX CX0 P w K mg base 1 "_law_draw" spDraw) : FnOk P w K mg base CX0 2 f fd ["_law_stream_here", "_law_span_here"] spStep := by
  refine F.ok scStep (fun vs H Q E h => ?_) (fun cdv A outer s H vs Q E hr h => ?_)
  · obtain ⟨a, g, rfl, _⟩ := h
    rfl
  · obtain ⟨a, g, rfl, hg, hs, q⟩ := h
    refine ⟨_, (pss_cons (ps_set (i := 2) scStep.nd rfl (.inl rfl) (pe_cx cDraw hr (by decide) pass0 (by rfl) (pa_cons (pv 0) (pa_cons pe_int pa_nil))))
 (pss_cons (ps_if (pt_cmpR op_lt (pv 2) pe_int (nomark _))
 (pss_one (ps_ret pe_int)) pss_nil)
 (pss_cons (ps_if (pt_cmpR op_eq (pv 2) pe_int (nomark _))
 (pss_one (ps_ret (pv 1))) pss_nil)
 (pss_cons (ps_if (pt_cmpR op_eq (pv 2) pe_int (nomark _))
 (pss_one (ps_ret (pe_op op_add (pv 1) pe_int))) pss_nil)
 (pss_cons (ps_if (pt_cmpR op_eq (pv 2) pe_int (nomark _))
 (pss_one (ps_ret (pe_op op_add (pe_op op_add (pv 1) pe_int) (pe_cx cDraw hr (by decide) pass0 (by rfl) (pa_cons (pv 0) (pa_cons pe_int pa_nil)))))) pss_nil)
 (pss_cons (ps_if (pt_cmpR op_eq (pv 2) pe_int (nomark _))
 (pss_one (ps_ret (pe_op op_fdiv (pv 1) pe_int))) pss_nil)
 (pss_one (ps_ret (pe_cx cDraw hr (by decide) pass0 (by rfl) (pa_cons (pv 0) (pa_cons pe_int pa_nil))))))))))), ?_⟩
    simp only [tSeq, tAsg, gName, tOp, rI, rI0, rU, tUn, tVar, tC, tCB, tCons, tNil, tTest, tIfS, tRet, tRetN, tDrop, tNext, tBreak, tCont, rEq, rNe, CDiv, CDivN, CMul, tBM, tBM0, tTup, tLst, tAug, tIf, tAnd, tOr, tNot, tAndV, tOrV, tNotV, tIsN, tNotN, tB, scal, tCall, cxK, cxKn, rIxT, rIxL, rIn, rAppend, rReverse, tVals, tDSetd, tDGet, tDGet1, tDGet2, tDIn, tDNotIn, rSortV, rSortT, rPop, rSortL, rSortT, tSl, tNoPart, tPart, List.append_nil, L2.start, List.map_cons, List.map_nil, List.length_cons, List.length_nil, List.replicate_succ, List.replicate_zero, List.cons_append, List.nil_append, Nat.reduceAdd, Nat.reduceSub, exists_eq, exists_eq', List.getElem?_cons_zero, List.getElem?_cons_succ, List.set_cons_zero, List.set_cons_succ, Option.some.injEq, V.int.injEq, V.bl.injEq, V.str.injEq, V.ref.injEq, List.cons.injEq, and_true, true_and, and_false, false_and, reduceCtorEq, exists_false, or_false, false_or, exists_and_left, exists_and_right, exists_eq_left, exists_eq_left', exists_eq_right, exists_eq_right', exists_const, ite_true, ite_false, Bool.false_eq_true, if_true, if_false, decide_true, decide_false]
    refine spDraw_of (by decide) hs fun r H1 h0 h1 x1 t1 => ⟨r, rfl, ite2 (fun c => q 0 H1 (by decide) x1 t1) (fun c => ⟨rfl, ite2 (fun c2 => q g H1 hg x1 t1) (fun c2 => ⟨rfl, ite2 (fun c3 => ?_) (fun c3 => ⟨rfl, ite2 (fun c4 => ?_) (fun c4 => ⟨rfl, ite2 (fun c5 => ?_) (fun c5 => ?_)⟩)⟩)⟩)⟩)⟩
    · exact q _ H1 (by omega) x1 t1
    · exact spDraw_of (by decide) t1 fun r2 H2 g0 g1 x2 t2 => ⟨r2, rfl, q _ H2 (by omega) (x1.trans x2) t2⟩
    · exact ⟨⟨by decide, by decide⟩, q _ H1 (Int.ediv_nonneg hg (by decide)) x1 t1⟩
    · exact spDraw_of (by decide) t1 fun r2 H2 g0 g1 x2 t2 => q _ H2 g0 (x1.trans x2) t2
end
end Mv

set_option Elab.async false
set_option linter.all false
set_option maxRecDepth 100000
set_option maxHeartbeats 4000000
namespace Mv
open PySem PySem.Spec PyProof.Rows L2
abbrev sCon : Stmt := topS 9
abbrev sIN : Stmt := topS 8
def abc : Str := "abcdefghijklmnopqrstuvwxyz"
structure NmX (mg : Str → Option Value) : Prop where
  gL : ∃ t, mg "LONGEST_NAME" = some (.int 8 t)
  gS : ∃ t, mg "LETTERS" = some (.str abc t)
def lowS (z : Str) : Bool := z.cps.toList.all fun c => decide (c ∈ abc.cps.toList)
section
variable {P : Program} {w : World} {K : PySem.W.Frag} {mg : Str → Option Value} {base : Heap}
theorem scCon : FnScope ["text", "signs", "sign"] ["text", "signs"] (defScope sCon) := ⟨rfl, rfl, rfl, by decide +kernel, rfl, by decide +kernel, by decide +kernel⟩
def spCon : Sp := fun vs H Q _ => ∃ (z : Str), vs = [.str z, .str abc] ∧ z.length ≤ 100 ∧ ∀ H' : Hp, Same H H' → Q (.bl (lowS z)) H'
theorem ok_con {f : Addr} {fd : FuncData} (F : Fun K "consists_of" "consists_of" sCon f fd) (B : Bi mg) (hall : mg "all" = none) : FnOk P w K mg base CX0 1 f fd ["text", "signs"] spCon := by
  refine F.ok scCon (fun vs H Q E h => ?_) (fun cdv A outer s H vs Q E hr h => ?_)
  · obtain ⟨z, rfl, _⟩ := h
    rfl
  · obtain ⟨z, rfl, hz, q⟩ := h
    refine ⟨_, (pss_one (ps_ret (pe_callB (cr_all rfl) (by rfl) hall (by decide +kernel) (pa_cons (pe_lc (own := [("sign", 2)]) (g := gName 2) (tt := tYes) (te := (tOp rInS (tVar 2) (tVar 1))) rfl scCon.nd (pi_str (pv 0)) (blkOk_by (N := ["text", "signs", "sign"]) (sc := defScope sCon) (by decide +kernel)) (fun _ _ _ _ _ => (pg_name (i := 2) scCon.nd rfl (.inl rfl))) (fun _ _ _ _ _ => pts_nil) (fun _ _ _ _ _ => (pe_cmpR op_inS (pv 2) (pv 1) (by rfl)))) pa_nil)))), ?_⟩
    simp only [tSeq, tAsg, gName, tOp, rI, rI0, rU, tUn, tVar, tC, tCB, tCons, tNil, tTest, tIfS, tRet, tRetN, tDrop, tNext, tBreak, tCont, rEq, rNe, CDiv, CDivN, CMul, tBM, tBM0, tTup, tLst, tAug, tIf, tAnd, tOr, tNot, tAndV, tOrV, tNotV, tIsN, tNotN, tB, scal, tCall, cxK, cxKn, rIxT, rIxL, rIn, rAppend, rReverse, tVals, tDSetd, tDGet, tDGet1, tDGet2, tDIn, tDNotIn, rSortV, rSortT, rPop, rSortL, rSortT, tSl, tNoPart, tPart, List.append_nil, L2.start, List.map_cons, List.map_nil, List.length_cons, List.length_nil, List.replicate_succ, List.replicate_zero, List.cons_append, List.nil_append, Nat.reduceAdd, Nat.reduceSub, exists_eq, exists_eq', List.getElem?_cons_zero, List.getElem?_cons_succ, List.set_cons_zero, List.set_cons_succ, Option.some.injEq, V.int.injEq, V.bl.injEq, V.str.injEq, V.ref.injEq, List.cons.injEq, and_true, true_and, and_false, false_and, reduceCtorEq, exists_false, or_false, false_or, exists_and_left, exists_and_right, exists_eq_left, exists_eq_left', exists_eq_right, exists_eq_right', exists_const, ite_true, ite_false, Bool.false_eq_true, if_true, if_false, decide_true, decide_false]
    refine ⟨.str z, rfl, z, rfl, fun D hD => lc_it walk_str (fun i H' => Same H H' ∧ H' D = some (.lst (((z.cps.toList.take i).map (fun c => decide (c ∈ abc.cps.toList))).map V.bl))) ⟨same_upd hD, upd_same⟩ (fun _ _ _ _ => True.intro) ?_ ?_⟩
    · rintro i x H1 H2 hi ⟨s1, h1⟩ ⟨rfl, c, hc, rfl⟩
      refine ⟨rfl, ?_⟩
      simp only [tSeq, tAsg, gName, tOp, rI, rI0, rU, tUn, tVar, tC, tCB, tCons, tNil, tTest, tIfS, tRet, tRetN, tDrop, tNext, tBreak, tCont, rEq, rNe, CDiv, CDivN, CMul, tBM, tBM0, tTup, tLst, tAug, tIf, tAnd, tOr, tNot, tAndV, tOrV, tNotV, tIsN, tNotN, tB, scal, tCall, cxK, cxKn, rIxT, rIxL, rIn, rAppend, rReverse, tVals, tDSetd, tDGet, tDGet1, tDGet2, tDIn, tDNotIn, rSortV, rSortT, rPop, rSortL, rSortT, tSl, tNoPart, tPart, List.append_nil, L2.start, List.map_cons, List.map_nil, List.length_cons, List.length_nil, List.replicate_succ, List.replicate_zero, List.cons_append, List.nil_append, Nat.reduceAdd, Nat.reduceSub, exists_eq, exists_eq', wipe, tYes, rInS, List.getElem?_cons_zero, List.getElem?_cons_succ, List.set_cons_zero, List.set_cons_succ, Option.some.injEq, V.int.injEq, V.bl.injEq, V.str.injEq, V.ref.injEq, List.cons.injEq, and_true, true_and, and_false, false_and, reduceCtorEq, exists_false, or_false, false_or, exists_and_left, exists_and_right, exists_eq_left, exists_eq_left', exists_eq_right, exists_eq_right', exists_const, ite_true, ite_false, Bool.false_eq_true, if_true, if_false, decide_true, decide_false]
      refine ⟨c, rfl, _, h1, ?_, fun b o z' => ?_, ?_⟩
      · rw [List.length_map, List.length_map, List.length_take]
        have : z.cps.toList.length ≤ 100 := hz
        exact small1000 (by omega)
      · rw [upd_ne (ne_of_none z' hD)]
        exact s1 _ _ z'
      · have ec : z.cps.toList[i]? = some c := by
          rw [Array.getElem?_toList]
          exact hc
        rw [upd_same, List.take_add_one, ec, List.map_append, List.map_append]
        rfl
    · rintro H1 ⟨s1, h1⟩
      rw [show z.cps.size = z.cps.toList.length from rfl, List.take_length] at h1
      refine ⟨D, _, rfl, .inl (.inl h1), ?_⟩
      rw [List.all_map]
      exact q H1 s1
/-- a name -/
def nmV : V → Bool
  | .str z => decide (1 ≤ z.length) && (decide (z.length ≤ 8) && lowS z)
  | _ => false
theorem scIN : FnScope ["text"] ["text"] (defScope sIN) := ⟨rfl, rfl, rfl, by decide +kernel, rfl, by decide +kernel, by decide +kernel⟩
def spIN : Sp := fun vs H Q _ => ∃ (v : V), vs = [v] ∧ BadV H v ∧ ∀ H' : Hp, Same H H' → Q (.bl (nmV v)) H'
theorem ok_in {f : Addr} {fd : FuncData} (F : Fun K "is_name" "is_name" sIN f fd) (B : Bi mg) (N : NmX mg) (cCon : CalX CX0 P w K mg base 1 "consists_of" spCon) : FnOk P w K mg base CX0 2 f fd ["text"] spIN := by
  refine F.ok scIN (fun vs H Q E h => ?_) (fun cdv A outer s H vs Q E hr h => ?_)
  · obtain ⟨v, rfl, _⟩ := h
    rfl
  · obtain ⟨v, rfl, b, q⟩ := h
    obtain ⟨tL, gL⟩ := N.gL
    obtain ⟨tS, gS⟩ := N.gS
    refine ⟨_, (pss_one (ps_ret (pe_and (pe_callB (id := "isinstance") call_isi (by rfl) B.isinstance (by decide +kernel) (pa_cons (pv 0) (pa_cons (pe_bltn (by rfl) B.str (by decide +kernel) (v := .ty "str") rfl) pa_nil))) (pe_and (pe_chain op_le op_le pe_int (pe_callB call_len_str (by rfl) B.len PySem.boot_len (pa_cons (pv 0) pa_nil)) (pe_glob (v := V.int 8) (by rfl) gL ⟨_, rfl⟩)) (pe_one (pe_cx cCon hr (by decide) pass0 (by rfl) (pa_cons (pv 0) (pa_cons (pe_glob (v := V.str abc) (by rfl) gS ⟨_, rfl⟩) pa_nil)))))))), ?_⟩
    cases b with
    | str z hl hc =>
      simp only [tSeq, tAsg, gName, tOp, rI, rI0, rU, tUn, tVar, tC, tCB, tCons, tNil, tTest, tIfS, tRet, tRetN, tDrop, tNext, tBreak, tCont, rEq, rNe, CDiv, CDivN, CMul, tBM, tBM0, tTup, tLst, tAug, tIf, tAnd, tOr, tNot, tAndV, tOrV, tNotV, tIsN, tNotN, tB, scal, tCall, cxK, cxKn, rIxT, rIxL, rIn, rAppend, rReverse, tVals, tDSetd, tDGet, tDGet1, tDGet2, tDIn, tDNotIn, rSortV, rSortT, rPop, rSortL, rSortT, tSl, tNoPart, tPart, List.append_nil, L2.start, List.map_cons, List.map_nil, List.length_cons, List.length_nil, List.replicate_succ, List.replicate_zero, List.cons_append, List.nil_append, Nat.reduceAdd, Nat.reduceSub, exists_eq, exists_eq', List.getElem?_cons_zero, List.getElem?_cons_succ, List.set_cons_zero, List.set_cons_succ, Option.some.injEq, V.int.injEq, V.bl.injEq, V.str.injEq, V.ref.injEq, List.cons.injEq, and_true, true_and, and_false, false_and, reduceCtorEq, exists_false, or_false, false_or, exists_and_left, exists_and_right, exists_eq_left, exists_eq_left', exists_eq_right, exists_eq_right', exists_const, ite_true, ite_false, Bool.false_eq_true, if_true, if_false, decide_true, decide_false]
      refine ⟨.str z, .ty "str", .type "str", .type "str", true, rfl, .ty _, .base (.str _), kit_ty (by decide +kernel), true, rfl, if_T rfl ?_⟩
      unfold tChain
      simp only [tSeq, tAsg, gName, tOp, rI, rI0, rU, tUn, tVar, tC, tCB, tCons, tNil, tTest, tIfS, tRet, tRetN, tDrop, tNext, tBreak, tCont, rEq, rNe, CDiv, CDivN, CMul, tBM, tBM0, tTup, tLst, tAug, tIf, tAnd, tOr, tNot, tAndV, tOrV, tNotV, tIsN, tNotN, tB, scal, tCall, cxK, cxKn, rIxT, rIxL, rIn, rAppend, rReverse, tVals, tDSetd, tDGet, tDGet1, tDGet2, tDIn, tDNotIn, rSortV, rSortT, rPop, rSortL, rSortT, tSl, tNoPart, tPart, List.append_nil, L2.start, List.map_cons, List.map_nil, List.length_cons, List.length_nil, List.replicate_succ, List.replicate_zero, List.cons_append, List.nil_append, Nat.reduceAdd, Nat.reduceSub, exists_eq, exists_eq', List.getElem?_cons_zero, List.getElem?_cons_succ, List.set_cons_zero, List.set_cons_succ, Option.some.injEq, V.int.injEq, V.bl.injEq, V.str.injEq, V.ref.injEq, List.cons.injEq, and_true, true_and, and_false, false_and, reduceCtorEq, exists_false, or_false, false_or, exists_and_left, exists_and_right, exists_eq_left, exists_eq_left', exists_eq_right, exists_eq_right', exists_const, ite_true, ite_false, Bool.false_eq_true, if_true, if_false, decide_true, decide_false]
      refine ⟨small1000' (by omega), ite2 (fun c1 => ite2 (fun c2 => ?_) (fun c2 => ?_)) (fun c1 => ?_)⟩
      · refine ⟨z, rfl, hl, fun H' s' => ?_⟩
        have e : nmV (.str z) = lowS z := by
          show (decide (1 ≤ z.length) && (decide (z.length ≤ 8) && lowS z)) = _
          rw [decide_eq_true (by have := of_decide_eq_true c1; omega), decide_eq_true (by have := of_decide_eq_true c2; omega)]
          rfl
        rw [← e]
        exact q H' s'
      · have e : nmV (.str z) = false := by
          show (decide (1 ≤ z.length) && (decide (z.length ≤ 8) && lowS z)) = _
          rw [decide_eq_false (p := z.length ≤ 8) (fun h => c2 (decide_eq_true (by omega))), Bool.false_and, Bool.and_false]
        rw [e] at q
        exact q H fun _ _ h => h
      · have e : nmV (.str z) = false := by
          show (decide (1 ≤ z.length) && (decide (z.length ≤ 8) && lowS z)) = _
          rw [decide_eq_false (p := 1 ≤ z.length) (fun h => c1 (decide_eq_true (by omega))), Bool.false_and]
        rw [e] at q
        exact q H fun _ _ h => h
    | non =>
      simp only [tSeq, tAsg, gName, tOp, rI, rI0, rU, tUn, tVar, tC, tCB, tCons, tNil, tTest, tIfS, tRet, tRetN, tDrop, tNext, tBreak, tCont, rEq, rNe, CDiv, CDivN, CMul, tBM, tBM0, tTup, tLst, tAug, tIf, tAnd, tOr, tNot, tAndV, tOrV, tNotV, tIsN, tNotN, tB, scal, tCall, cxK, cxKn, rIxT, rIxL, rIn, rAppend, rReverse, tVals, tDSetd, tDGet, tDGet1, tDGet2, tDIn, tDNotIn, rSortV, rSortT, rPop, rSortL, rSortT, tSl, tNoPart, tPart, List.append_nil, L2.start, List.map_cons, List.map_nil, List.length_cons, List.length_nil, List.replicate_succ, List.replicate_zero, List.cons_append, List.nil_append, Nat.reduceAdd, Nat.reduceSub, exists_eq, exists_eq', List.getElem?_cons_zero, List.getElem?_cons_succ, List.set_cons_zero, List.set_cons_succ, Option.some.injEq, V.int.injEq, V.bl.injEq, V.str.injEq, V.ref.injEq, List.cons.injEq, and_true, true_and, and_false, false_and, reduceCtorEq, exists_false, or_false, false_or, exists_and_left, exists_and_right, exists_eq_left, exists_eq_left', exists_eq_right, exists_eq_right', exists_const, ite_true, ite_false, Bool.false_eq_true, if_true, if_false, decide_true, decide_false]
      exact ⟨.non, .ty "str", .type "NoneType", .type "str", false, rfl, .ty _, .base .non, kit_ty (by decide +kernel), false, rfl, if_F rfl (q H fun _ _ h => h)⟩
    | five =>
      simp only [tSeq, tAsg, gName, tOp, rI, rI0, rU, tUn, tVar, tC, tCB, tCons, tNil, tTest, tIfS, tRet, tRetN, tDrop, tNext, tBreak, tCont, rEq, rNe, CDiv, CDivN, CMul, tBM, tBM0, tTup, tLst, tAug, tIf, tAnd, tOr, tNot, tAndV, tOrV, tNotV, tIsN, tNotN, tB, scal, tCall, cxK, cxKn, rIxT, rIxL, rIn, rAppend, rReverse, tVals, tDSetd, tDGet, tDGet1, tDGet2, tDIn, tDNotIn, rSortV, rSortT, rPop, rSortL, rSortT, tSl, tNoPart, tPart, List.append_nil, L2.start, List.map_cons, List.map_nil, List.length_cons, List.length_nil, List.replicate_succ, List.replicate_zero, List.cons_append, List.nil_append, Nat.reduceAdd, Nat.reduceSub, exists_eq, exists_eq', List.getElem?_cons_zero, List.getElem?_cons_succ, List.set_cons_zero, List.set_cons_succ, Option.some.injEq, V.int.injEq, V.bl.injEq, V.str.injEq, V.ref.injEq, List.cons.injEq, and_true, true_and, and_false, false_and, reduceCtorEq, exists_false, or_false, false_or, exists_and_left, exists_and_right, exists_eq_left, exists_eq_left', exists_eq_right, exists_eq_right', exists_const, ite_true, ite_false, Bool.false_eq_true, if_true, if_false, decide_true, decide_false]
      exact ⟨.int 5, .ty "str", .type "int", .type "str", false, rfl, .ty _, .base (.int 5), kit_ty (by decide +kernel), false, rfl, if_F rfl (q H fun _ _ h => h)⟩
end
end Mv

set_option Elab.async false
set_option linter.all false
set_option maxRecDepth 100000
set_option maxHeartbeats 4000000
namespace Mv
open PySem PySem.Spec PyProof.Rows L2
/-! ### a gate, as plain data -/
structure Lat where
  k : Str
  t : Int
  v : Int
def Lat.o (e : Lat) : HO := .tup [.str e.k, .int e.t, .int e.v]
abbrev LaL := List (Addr × Lat)
def lats (N : LaL) : List Lat := N.map (·.2)
structure Las (H : Hp) (l : Addr) (N : LaL) : Prop where
  at_ : H l = some (.lst (N.map fun q => V.ref q.1))
  all : ∀ q ∈ N, H q.1 = some q.2.o
theorem Las.same {H H' : Hp} {l : Addr} {N : LaL} (h : Las H l N) (s : Same H H') : Las H' l N := ⟨s _ _ h.at_, fun q hq => s _ _ (h.all q hq)⟩
abbrev MpL := List (Str × Addr × LtL)
def mkv (M : MpL) : List (Key × V) := M.map fun q => (Sum.inr q.1, V.ref q.2.1)
def mpl (M : MpL) : List (Str × List Ltr) := M.map fun q => (q.1, lts q.2.2)
def fkv (F : List (Str × Int)) : List (Key × V) := F.map fun q => (Sum.inr q.1, V.int q.2)
/-- a dict of names -/
structure Mps (H : Hp) (d : Addr) (M : MpL) : Prop where
  at_ : H d = some (.dK (mkv M))
  all : ∀ q ∈ M, Lts H q.2.1 q.2.2
theorem Mps.same {H H' : Hp} {d : Addr} {M : MpL} (h : Mps H d M) (s : Same H H') : Mps H' d M := ⟨s _ _ h.at_, fun q hq => (h.all q hq).same s⟩
structure Gs where
  fl : Option Int
  dn : Bool
  ls : List (Str × List Ltr)
  fd : List (Str × Int)
  lt : List Lat
def Gs.start : Gs := ⟨none, false, [], [], []⟩
def fV : Option Int → V
  | none => .non
  | some x => .int x
def gf (g : Gs) (d d2 l : Addr) : List (Str × V) := [("_floor", fV g.fl), ("_finished", .bl g.dn), ("_letters", .ref d), ("_floored", .ref d2), ("_late", .ref l)]
theorem n12 : (("_finished" : Str) == "_floor") = false := by decide +kernel
theorem n13 : (("_letters" : Str) == "_floor") = false := by decide +kernel
theorem n14 : (("_floored" : Str) == "_floor") = false := by decide +kernel
theorem n15 : (("_late" : Str) == "_floor") = false := by decide +kernel
theorem n23 : (("_letters" : Str) == "_finished") = false := by decide +kernel
theorem n24 : (("_floored" : Str) == "_finished") = false := by decide +kernel
theorem n25 : (("_late" : Str) == "_finished") = false := by decide +kernel
theorem n34 : (("_floored" : Str) == "_letters") = false := by decide +kernel
theorem n35 : (("_late" : Str) == "_letters") = false := by decide +kernel
theorem n45 : (("_late" : Str) == "_floored") = false := by decide +kernel
section
variable {g : Gs} {d d2 l : Addr}
theorem gf1 : (gf g d d2 l).lookup ("_floor" : Str) = some (fV g.fl) := by simp [gf, List.lookup]
theorem gf2 : (gf g d d2 l).lookup ("_finished" : Str) = some (.bl g.dn) := by simp [gf, List.lookup, n12]
theorem gf3 : (gf g d d2 l).lookup ("_letters" : Str) = some (.ref d) := by simp [gf, List.lookup, n13, n23]
theorem gf4 : (gf g d d2 l).lookup ("_floored" : Str) = some (.ref d2) := by simp [gf, List.lookup, n14, n24, n34]
theorem gf5 : (gf g d d2 l).lookup ("_late" : Str) = some (.ref l) := by simp [gf, List.lookup, n15, n25, n35, n45]
theorem gfm {m : Str} (h : (m == "_floor" || m == "_finished" || m == "_letters" || m == "_floored" || m == "_late") = false) : (gf g d d2 l).lookup m = none := by
  simp only [Bool.or_eq_false_iff] at h
  obtain ⟨⟨⟨⟨h1, h2⟩, h3⟩, h4⟩, h5⟩ := h
  simp [gf, List.lookup, h1, h2, h3, h4, h5]
end
theorem m12 : ¬ ("_floor" : Str) = "_finished" := by decide +kernel
theorem m13 : ¬ ("_floor" : Str) = "_letters" := by decide +kernel
theorem m14 : ¬ ("_floor" : Str) = "_floored" := by decide +kernel
theorem m15 : ¬ ("_floor" : Str) = "_late" := by decide +kernel
theorem m23 : ¬ ("_finished" : Str) = "_letters" := by decide +kernel
theorem m24 : ¬ ("_finished" : Str) = "_floored" := by decide +kernel
theorem m25 : ¬ ("_finished" : Str) = "_late" := by decide +kernel
theorem m34 : ¬ ("_letters" : Str) = "_floored" := by decide +kernel
theorem m35 : ¬ ("_letters" : Str) = "_late" := by decide +kernel
theorem m45 : ¬ ("_floored" : Str) = "_late" := by decide +kernel
theorem gf_new (d d2 l : Addr) : putF "_late" (.ref l) (putF "_floored" (.ref d2) (putF "_letters" (.ref d) (putF "_finished" (.bl false) (putF "_floor" .non [])))) = gf Gs.start d d2 l := by
  simp [putF, gf, fV, Gs.start, m12, m13, m14, m15, m23, m24, m25, m34, m35, m45]
theorem gf_fl (g : Gs) (d d2 l : Addr) (t : Int) : putF "_floor" (.int t) (gf g d d2 l) = gf { g with fl := some t } d d2 l := by
  simp [putF, gf, fV]
theorem gf_dn (g : Gs) (d d2 l : Addr) (b : Bool) : putF "_finished" (.bl b) (gf g d d2 l) = gf { g with dn := b } d d2 l := by
  simp [putF, gf, m12]
theorem gf_ls (g : Gs) (d d2 l d' : Addr) : putF "_letters" (.ref d') (gf g d d2 l) = gf g d' d2 l := by
  simp [putF, gf, m13, m23]
theorem gf_fd (g : Gs) (d d2 l d' : Addr) : putF "_floored" (.ref d') (gf g d d2 l) = gf g d d' l := by
  simp [putF, gf, m14, m24, m34]
theorem gf_la (g : Gs) (d d2 l d' : Addr) : putF "_late" (.ref d') (gf g d d2 l) = gf g d d2 d' := by
  simp [putF, gf, m15, m25, m35, m45]
/-- what a gate owns: its own addresses -/
def own (p d d2 l : Addr) (M : MpL) : List Addr := p :: d :: d2 :: l :: M.map fun q => q.2.1
structure GateX (C : Addr) (H : Hp) (p dx d d2 l : Addr) (M : MpL) (N : LaL) (g : Gs) : Prop where
  ob : H p = some (.ins C dx (gf g d d2 l))
  mp : Mps H d M
  ls : mpl M = g.ls
  fd : H d2 = some (.dK (fkv g.fd))
  la : Las H l N
  lt : lats N = g.lt
  ne : d ≠ d2
  nd : (l :: M.map fun q => q.2.1).Nodup
  kd : (M.map fun q => q.1).Nodup
def GateAt (C : Addr) (H : Hp) (p : Addr) (A : List Addr) (g : Gs) : Prop := ∃ (dx d d2 l : Addr) (M : MpL) (N : LaL), A = own p d d2 l M ∧ GateX C H p dx d d2 l M N g
theorem GateX.same {C : Addr} {H H' : Hp} {p dx d d2 l : Addr} {M : MpL} {N : LaL} {g : Gs} (h : GateX C H p dx d d2 l M N g) (s : Same H H') : GateX C H' p dx d d2 l M N g :=
  ⟨s _ _ h.ob, h.mp.same s, h.ls, s _ _ h.fd, h.la.same s, h.lt, h.ne, h.nd, h.kd⟩
theorem GateAt.same {C : Addr} {H H' : Hp} {p : Addr} {A : List Addr} {g : Gs} (h : GateAt C H p A g) (s : Same H H') : GateAt C H' p A g := by
  obtain ⟨dx, d, d2, l, M, N, e, h⟩ := h
  exact ⟨dx, d, d2, l, M, N, e, h.same s⟩
theorem GateX.al {C : Addr} {H : Hp} {p dx d d2 l : Addr} {M : MpL} {N : LaL} {g : Gs} (h : GateX C H p dx d d2 l M N g) : ∀ b ∈ own p d d2 l M, H b ≠ none := by
  intro b hb e
  rcases List.mem_cons.mp hb with rfl | hb
  · rw [h.ob] at e
    cases e
  rcases List.mem_cons.mp hb with rfl | hb
  · rw [h.mp.at_] at e
    cases e
  rcases List.mem_cons.mp hb with rfl | hb
  · rw [h.fd] at e
    cases e
  rcases List.mem_cons.mp hb with rfl | hb
  · rw [h.la.at_] at e
    cases e
  · obtain ⟨q, hq, rfl⟩ := List.mem_map.mp hb
    rw [(h.mp.all q hq).at_] at e
    cases e
theorem GateAt.al {C : Addr} {H : Hp} {p : Addr} {A : List Addr} {g : Gs} (h : GateAt C H p A g) {b : Addr} (hb : H b = none) : b ∉ A := by
  obtain ⟨dx, d, d2, l, M, N, rfl, h⟩ := h
  exact fun m => h.al b m hb
/-- the heap without what the gate owns -/
def res (A : List Addr) (H : Hp) : Hp := fun b => if b ∈ A then none else H b
theorem res_le {A : List Addr} {H : Hp} : Same (res A H) H := fun b o e => by
  unfold res at e
  split at e
  · cases e
  · exact e
theorem res_at {A : List Addr} {H : Hp} {b : Addr} {o : HO} (h : b ∉ A) (e : H b = some o) : res A H b = some o := by
  unfold res
  rw [if_neg h]
  exact e
theorem res_same {A : List Addr} {H H' : Hp} (s : Same H H') : Same (res A H) (res A H') := fun b o e => by
  have h : b ∉ A := fun z => by
    unfold res at e
    rw [if_pos z] at e
    cases e
  exact res_at h (s _ _ (res_le _ _ e))
theorem res_not {A : List Addr} {H : Hp} {b : Addr} {o : HO} (e : res A H b = some o) : b ∉ A := fun z => by
  unfold res at e
  rw [if_pos z] at e
  cases e
/-- what the gate does behind a call: it owns A' now, and nothing else is touched -/
theorem res_own {A A' : List Addr} {H H' : Hp} (h1 : ∀ b ∈ A', b ∈ A ∨ H b = none) (h2 : ∀ b o, b ∉ A → H b = some o → H' b = some o) : Same (res A H) (res A' H') := fun b o e => by
  have nA := res_not e
  have e1 := res_le _ _ e
  refine res_at (fun z => ?_) (h2 b o nA e1)
  rcases h1 b z with h | h
  · exact nA h
  · rw [h] at e1
    cases e1
/-! ### what a gate answers -/
def getA {α : Type} (M : List (Str × α)) (k : Str) (z : α) : α := ((M.find? fun q => decide (q.1 = k)).map (·.2)).getD z
def putA {α : Type} (M : List (Str × α)) (k : Str) (v : α) : List (Str × α) := if (M.any fun q => decide (q.1 = k)) = true then M.map (fun q => if q.1 = k then (q.1, v) else q) else M ++ [(k, v)]
def Gs.ok (g : Gs) (k : Str) (t : Int) : Bool := (match g.fl with
  | none => true
  | some f => decide (f ≤ t)) && (match (getA g.ls k []).getLast? with
  | none => true
  | some e => decide (e.t ≤ t))
def Gs.event (g : Gs) (k : Str) (t v : Int) : Gs := if g.ok k t = true then { g with ls := putA g.ls k (getA g.ls k [] ++ [⟨((getA g.ls k []).length : Int), t, v⟩]) } else { g with lt := g.lt ++ [⟨k, t, v⟩] }
def Gs.rises (g : Gs) (t : Int) : Bool := match g.fl with
  | none => true
  | some f => decide (f < t)
def Gs.raise (g : Gs) (t : Int) : Gs := if g.rises t = true then { g with fl := some t, fd := g.ls.map fun q => (q.1, (q.2.length : Int)) } else g
def Gs.fin (g : Gs) : Gs := { g with dn := true }
theorem val_mkv (M : MpL) (k : Str) : valV (mkv M) (Sum.inr k) = (M.find? fun q => decide (q.1 = k)).map fun q => V.ref q.2.1 := by
  unfold valV mkv
  rw [List.find?_map, Option.map_map]
  have : ((fun kv : Key × V => decide (kv.1 = Sum.inr k)) ∘ fun q : Str × Addr × LtL => ((Sum.inr q.1 : Key), V.ref q.2.1)) = fun q => decide (q.1 = k) := by
    funext q
    simp
  rw [this]
  rfl
theorem get_mpl (M : MpL) (k : Str) : getA (mpl M) k [] = ((M.find? fun q => decide (q.1 = k)).map fun q => lts q.2.2).getD [] := by
  unfold getA mpl
  rw [List.find?_map, Option.map_map]
  rfl
theorem val_fkv (F : List (Str × Int)) (k : Str) : valV (fkv F) (Sum.inr k) = ((F.find? fun q => decide (q.1 = k)).map fun q => V.int q.2) := by
  unfold valV fkv
  rw [List.find?_map, Option.map_map]
  have : ((fun kv : Key × V => decide (kv.1 = Sum.inr k)) ∘ fun q : Str × Int => ((Sum.inr q.1 : Key), V.int q.2)) = fun q => decide (q.1 = k) := by
    funext q
    simp
  rw [this]
  rfl
end Mv

set_option Elab.async false
set_option linter.all false
set_option maxRecDepth 100000
set_option maxHeartbeats 4000000
namespace Mv
open PySem PySem.Spec PyProof.Rows L2
abbrev sGI : Stmt := inClass (topS 12) 0
abbrev sGf : Stmt := inClass (topS 12) 1
abbrev sRf : Stmt := inClass (topS 12) 14
abbrev sCo : Stmt := inClass (topS 12) 9
/-- what the walk asks of the class -/
structure GtX (K : PySem.W.Frag) (C : Addr) : Prop where
  cl : Cls K C
  n1 : NoAttr K C "_floor"
  n2 : NoAttr K C "_finished"
  n3 : NoAttr K C "_letters"
  n4 : NoAttr K C "_floored"
  n5 : NoAttr K C "_late"
/-- an own exception class without an own start -/
structure NTx (K : PySem.W.Frag) (mg : Str → Option Value) (x : Str) (CN : Addr) : Prop where
  ex : PySem.W.excIn K CN [.type "ValueError", .type "Exception", .type "BaseException", .type "object"] "ValueError.__new__" = true
  g : mg x = some (.ref CN)
  kp : PySem.W.keepIn K (.ref CN) = true
  sub : PySem.W.subIn K (.ref CN) (.type "BaseException") = some true
  ty : PySem.W.typeIn K (.ref CN) = some (.type "type")
def RsN (C : Addr) (H : Hp) (E : XK) : Prop := ∀ H' : Hp, Same H H' → E (.ref C) none H'
/-- the letters of a key, or a new list -/
theorem get_ls {C : Addr} {H : Hp} {p dx d d2 l l0 : Addr} {M : MpL} {N : LaL} {g : Gs} (h : GateX C H p dx d d2 l M N g) (k : Str) (hl0 : H l0 = none) :
    ∃ o, DGet (upd H l0 (.lst [])) d (.str k) o ∧ ∃ (r : Addr) (L : LtL), o.getD (.ref l0) = .ref r ∧ Lts (upd H l0 (.lst [])) r L ∧ lts L = getA g.ls k [] := by
  have s := same_upd (o := .lst []) hl0
  have hm := h.mp.same s
  refine ⟨_, DGet.k (k := Sum.inr k) hm.at_, ?_⟩
  rw [val_mkv, ← h.ls, get_mpl]
  cases e : M.find? fun q => decide (q.1 = k) with
  | none => exact ⟨l0, [], rfl, ⟨upd_same, fun q hq => by cases hq⟩, rfl⟩
  | some q => exact ⟨q.2.1, q.2.2, rfl, hm.all q (List.mem_of_find?_eq_some e), rfl⟩
section
variable {P : Program} {w : World} {K : PySem.W.Frag} {mg : Str → Option Value} {base : Heap} {C CF : Addr}
theorem scGI : FnScope ["self"] ["self"] (defScope sGI) := ⟨rfl, rfl, rfl, by decide +kernel, rfl, by decide +kernel, by decide +kernel⟩
def spGI (C : Addr) : Sp := fun vs H Q _ => ∃ (p dx : Addr), vs = [.ref p] ∧ H p = some (.ins C dx []) ∧ ∀ (A : List Addr) (H' : Hp), (∀ b ∈ A, b = p ∨ H b = none) → (∀ b o, b ≠ p → H b = some o → H' b = some o) → GateAt C H' p A Gs.start → Q .non H'
theorem ok_gi {f : Addr} {fd : FuncData} (F : Fun K "__init__" "Gate.__init__" sGI f fd) (B : Bi mg) (X : GtX K C) : FnOk P w K mg base CX0 1 f fd ["self"] (spGI C) := by
  refine F.ok scGI (fun vs H Q E h => ?_) (fun cdv A outer s H vs Q E hr h => ?_)
  · obtain ⟨p, dx, rfl, _⟩ := h
    rfl
  · obtain ⟨p, dx, rfl, hp, q⟩ := h
    refine ⟨_, (pss_cons (ps_fld (pv 0) pe_non rfl)
 (pss_cons (ps_fld (pv 0) pe_bl rfl)
 (pss_cons (ps_fld (pv 0) pe_dnewK rfl)
 (pss_cons (ps_fld (pv 0) pe_dnewK rfl)
 (pss_one (ps_fld (pv 0) (pe_lst pa_nil) rfl)))))), ?_⟩
    refine ⟨_, rfl, p, C, dx, [], rfl, hp, X.cl, X.n1, by show 0 < 1000; decide, ?_⟩
    refine ⟨_, rfl, p, C, dx, _, rfl, upd_same, X.cl, X.n2, by show 1 < 1000; decide, ?_⟩
    have w1 : ∀ b o, b ≠ p → H b = some o → upd (upd H p (.ins C dx (putF "_floor" V.non []))) p (.ins C dx (putF "_finished" (V.bl false) (putF "_floor" V.non []))) b = some o := fun b o n e => by
      rw [upd_ne n, upd_ne n]
      exact e
    have f1 : ∀ b, upd (upd H p (.ins C dx (putF "_floor" V.non []))) p (.ins C dx (putF "_finished" (V.bl false) (putF "_floor" V.non []))) b = none → b ≠ p ∧ H b = none := fun b e => by
      have n : b ≠ p := fun z => by
        rw [z, upd_same] at e
        cases e
      rw [upd_ne n, upd_ne n] at e
      exact ⟨n, e⟩
    have e1 : upd (upd H p (.ins C dx (putF "_floor" V.non []))) p (.ins C dx (putF "_finished" (V.bl false) (putF "_floor" V.non []))) p = some (.ins C dx (putF "_finished" (V.bl false) (putF "_floor" V.non []))) := upd_same
    generalize upd (upd H p (.ins C dx (putF "_floor" V.non []))) p (.ins C dx (putF "_finished" (V.bl false) (putF "_floor" V.non []))) = H1 at w1 f1 e1
    intro d hd
    obtain ⟨ndp, hd0⟩ := f1 d hd
    refine ⟨_, rfl, p, C, dx, _, rfl, by rw [upd_ne ndp.symm]; exact e1, X.cl, X.n3, by show 2 < 1000; decide, ?_⟩
    intro d2 hd2
    have nd2p : d2 ≠ p := fun z => by
      rw [z, upd_same] at hd2
      cases hd2
    rw [upd_ne nd2p] at hd2
    have nd2d : d2 ≠ d := fun z => by
      rw [z, upd_same] at hd2
      cases hd2
    rw [upd_ne nd2d] at hd2
    have hd20 := (f1 d2 hd2).2
    refine ⟨_, rfl, p, C, dx, _, rfl, by rw [upd_ne nd2p.symm, upd_same], X.cl, X.n4, by show 3 < 1000; decide, ?_⟩
    refine ⟨by decide, fun l hl => ?_⟩
    have nlp : l ≠ p := fun z => by
      rw [z, upd_same] at hl
      cases hl
    rw [upd_ne nlp] at hl
    have nld2 : l ≠ d2 := fun z => by
      rw [z, upd_same] at hl
      cases hl
    rw [upd_ne nld2, upd_ne nlp] at hl
    have nld : l ≠ d := fun z => by
      rw [z, upd_same] at hl
      cases hl
    rw [upd_ne nld] at hl
    have hl0 := (f1 l hl).2
    refine ⟨_, rfl, p, C, dx, _, rfl, by rw [upd_ne nlp.symm, upd_same], X.cl, X.n5, by show 4 < 1000; decide, ?_⟩
    rw [gf_new]
    refine q [p, d, d2, l] _ (fun b hb => ?_) (fun b o n e => ?_) ⟨dx, d, d2, l, [], [], rfl, upd_same, ⟨?_, fun q hq => by cases hq⟩, rfl, ?_, ⟨?_, fun q hq => by cases hq⟩, rfl, nd2d.symm, by simp, by simp⟩
    · rcases List.mem_cons.mp hb with rfl | hb
      · exact .inl rfl
      rcases List.mem_cons.mp hb with rfl | hb
      · exact .inr hd0
      rcases List.mem_cons.mp hb with rfl | hb
      · exact .inr hd20
      · rw [List.mem_singleton.mp hb]
        exact .inr hl0
    · rw [upd_ne n, upd_ne (ne_of_none e hl0), upd_ne n, upd_ne (ne_of_none e hd20), upd_ne n, upd_ne (ne_of_none e hd0)]
      exact w1 b o n e
    · rw [upd_ne ndp, upd_ne nld.symm, upd_ne ndp, upd_ne nd2d.symm, upd_ne ndp, upd_same]
      rfl
    · rw [upd_ne nd2p, upd_ne nld2.symm, upd_ne nd2p, upd_same]
      rfl
    · rw [upd_ne nlp, upd_same]
      rfl
theorem scGf : FnScope ["self"] ["self"] (defScope sGf) := ⟨rfl, rfl, rfl, by decide +kernel, rfl, by decide +kernel, by decide +kernel⟩
def spGf (C : Addr) : Sp := fun vs H Q _ => ∃ (p : Addr) (A : List Addr) (g : Gs), vs = [.ref p] ∧ GateAt C H p A g ∧ Q (fV g.fl) H
theorem ok_gf {f : Addr} {fd : FuncData} (F : Fun K "floor" "Gate.floor" sGf f fd) (B : Bi mg) (X : GtX K C) : FnOk P w K mg base CX0 1 f fd ["self"] (spGf C) := by
  refine F.ok scGf (fun vs H Q E h => ?_) (fun cdv A outer s H vs Q E hr h => ?_)
  · obtain ⟨p, A, g, rfl, _⟩ := h
    rfl
  · obtain ⟨p, A, g, rfl, ⟨dx, d, d2, l, M, N, _, h⟩, q⟩ := h
    refine ⟨_, (pss_one (ps_ret (pe_fld (pv 0) rfl))), ?_⟩
    exact ⟨_, rfl, p, C, dx, _, _, rfl, h.ob, X.cl, X.n1, gf1, q⟩
theorem scRf : FnScope ["self"] ["self"] (defScope sRf) := ⟨rfl, rfl, rfl, by decide +kernel, rfl, by decide +kernel, by decide +kernel⟩
def spRf (C CF : Addr) : Sp := fun vs H Q E => ∃ (p : Addr) (A : List Addr) (g : Gs), vs = [.ref p] ∧ GateAt C H p A g ∧ (g.dn = false → Q .non H) ∧ (g.dn = true → RsN CF H E)
theorem ok_rf {f : Addr} {fd : FuncData} (F : Fun K "_refuse_if_finished" "Gate._refuse_if_finished" sRf f fd) (B : Bi mg) (X : GtX K C) (N : NTx K mg "Finished" CF) : FnOk P w K mg base (L2.CX P w) 1 f fd ["self"] (spRf C CF) := by
  refine F.okX scRf (fun vs H Q E h => ?_) (fun cdv A outer s H vs Q E hr h => ?_)
  · obtain ⟨p, A, g, rfl, _⟩ := h
    rfl
  · obtain ⟨p, A, g, rfl, ⟨dx, d, d2, l, M, N', _, h⟩, q0, q1⟩ := h
    refine ⟨_, (pss_one (ps_if (pt_val (pe_fld (pv 0) rfl))
 (pss_one (ps_raise rfl (takes_of rfl rfl rfl rfl) (pmk_own0 _root_.PySem.F.excBase_ValueError N.ex N.g N.kp (raises_own N.sub N.ty) (by rfl)))) pss_nil)), ?_⟩
    refine ⟨_, rfl, p, C, dx, _, _, rfl, h.ob, X.cl, X.n2, gf2, ?_⟩
    cases e : g.dn with
    | true => exact ⟨_, rfl, if_T rfl (q1 e H fun _ _ h => h)⟩
    | false => exact ⟨_, rfl, if_F rfl (q0 e)⟩
theorem scCo : FnScope ["self", "key"] ["self", "key"] (defScope sCo) := ⟨rfl, rfl, rfl, by decide +kernel, rfl, by decide +kernel, by decide +kernel⟩
def spCo (C : Addr) : Sp := fun vs H Q _ => ∃ (p : Addr) (A : List Addr) (g : Gs) (k : Str), vs = [.ref p, .str k] ∧ GateAt C H p A g ∧ ∀ H' : Hp, Same H H' → Q (.int ((getA g.ls k []).length : Int)) H'
theorem ok_co {f : Addr} {fd : FuncData} (F : Fun K "count_of" "Gate.count_of" sCo f fd) (B : Bi mg) (X : GtX K C) : FnOk P w K mg base CX0 1 f fd ["self", "key"] (spCo C) := by
  refine F.ok scCo (fun vs H Q E h => ?_) (fun cdv A outer s H vs Q E hr h => ?_)
  · obtain ⟨p, A, g, k, rfl, _⟩ := h
    rfl
  · obtain ⟨p, A, g, k, rfl, ⟨dx, d, d2, l, M, N', _, h⟩, q⟩ := h
    refine ⟨_, (pss_one (ps_ret (pe_callB call_len_seq (by rfl) B.len PySem.boot_len (pa_cons (pe_dget2 (hu_of hr) (pe_fld (pv 0) rfl) (pv 1) (pe_lst pa_nil) ⟨by rfl, by rfl, by rfl, by rfl⟩) pa_nil)))), ?_⟩
    refine ⟨_, rfl, p, C, dx, _, _, rfl, h.ob, X.cl, X.n3, gf3, ?_⟩
    refine ⟨d, rfl, .inl ⟨_, .inl h.mp.at_⟩, _, rfl, by decide, fun l0 hl0 => ?_⟩
    obtain ⟨o, ho, r, L, er, hL, eL⟩ := get_ls h k hl0
    refine ⟨o, ho, ?_⟩
    rw [er]
    refine ⟨r, _, rfl, .inl (ll hL.at_), ?_⟩
    rw [List.length_map]
    have e2 : (getA g.ls k []).length = L.length := by
      rw [← eL]
      exact List.length_map _
    rw [← e2]
    exact q _ (same_upd hl0)
end
end Mv

set_option Elab.async false
set_option linter.all false
set_option maxRecDepth 100000
set_option maxHeartbeats 4000000
namespace Mv
open PySem PySem.Spec PyProof.Rows L2
abbrev sLo : Stmt := inClass (topS 12) 8
abbrev sMo : Stmt := inClass (topS 12) 10
abbrev sLa : Stmt := inClass (topS 12) 12
abbrev sLi : Stmt := inClass (topS 12) 3
def Gs.okV (g : Gs) (v : V) (t : Int) : Bool := match v with
  | .str k => nmV (.str k) && g.ok k t
  | _ => false
theorem okV_not {g : Gs} {v : V} {t : Int} (e : nmV v = false) : g.okV v t = false := by
  cases v with
  | str k =>
    show (nmV (.str k) && _) = false
    rw [e]
    rfl
  | _ => rfl
theorem okV_str {g : Gs} {k : Str} {t : Int} (e : nmV (.str k) = true) : g.okV (.str k) t = g.ok k t := by
  show (nmV (.str k) && _) = _
  rw [e]
  rfl
def Gs.lets (g : Gs) (v : V) (t : Int) : Bool := !g.dn && g.okV v t
section
variable {P : Program} {w : World} {K : PySem.W.Frag} {mg : Str → Option Value} {base : Heap} {C CF : Addr}
theorem scLo : FnScope ["self", "key"] ["self", "key"] (defScope sLo) := ⟨rfl, rfl, rfl, by decide +kernel, rfl, by decide +kernel, by decide +kernel⟩
def spLo (C : Addr) : Sp := fun vs H Q _ => ∃ (p : Addr) (A : List Addr) (g : Gs) (k : Str), vs = [.ref p, .str k] ∧ GateAt C H p A g ∧ ∀ (H' : Hp) (r : Addr) (L : LtL), Same H H' → H r = none → Lts H' r L → lts L = getA g.ls k [] → Q (.ref r) H'
theorem ok_lo {f : Addr} {fd : FuncData} (F : Fun K "letters_of" "Gate.letters_of" sLo f fd) (B : Bi mg) (X : GtX K C) : FnOk P w K mg base CX0 1 f fd ["self", "key"] (spLo C) := by
  refine F.ok scLo (fun vs H Q E h => ?_) (fun cdv A outer s H vs Q E hr h => ?_)
  · obtain ⟨p, A, g, k, rfl, _⟩ := h
    rfl
  · obtain ⟨p, A, g, k, rfl, ⟨dx, d, d2, l, M, N', _, h⟩, q⟩ := h
    refine ⟨_, (pss_one (ps_ret (pe_callTy call_list_of (by rfl) B.list (by decide +kernel) (pa_cons (pe_dget2 (hu_of hr) (pe_fld (pv 0) rfl) (pv 1) (pe_lst pa_nil) ⟨by rfl, by rfl, by rfl, by rfl⟩) pa_nil)))), ?_⟩
    refine ⟨_, rfl, p, C, dx, _, _, rfl, h.ob, X.cl, X.n3, gf3, ?_⟩
    refine ⟨d, rfl, .inl ⟨_, .inl h.mp.at_⟩, _, rfl, by decide, fun l0 hl0 => ?_⟩
    obtain ⟨o, ho, r, L, er, hL, eL⟩ := get_ls h k hl0
    refine ⟨o, ho, ?_⟩
    rw [er]
    refine ⟨r, _, rfl, .inl (ll hL.at_), fun r2 hr2 => ?_⟩
    exact q _ r2 L ((same_upd hl0).trans (same_upd hr2)) (by
      have n : r2 ≠ l0 := fun z => by
        rw [z, upd_same] at hr2
        cases hr2
      rw [upd_ne n] at hr2
      exact hr2) ⟨upd_same, fun q hq => (hL.same (same_upd hr2)).all q hq⟩ eL
theorem scLa : FnScope ["self"] ["self"] (defScope sLa) := ⟨rfl, rfl, rfl, by decide +kernel, rfl, by decide +kernel, by decide +kernel⟩
def spLa (C : Addr) : Sp := fun vs H Q _ => ∃ (p : Addr) (A : List Addr) (g : Gs), vs = [.ref p] ∧ GateAt C H p A g ∧ ∀ (H' : Hp) (r : Addr) (N : LaL), Same H H' → H r = none → Las H' r N → lats N = g.lt → Q (.ref r) H'
theorem ok_la {f : Addr} {fd : FuncData} (F : Fun K "late" "Gate.late" sLa f fd) (B : Bi mg) (X : GtX K C) : FnOk P w K mg base CX0 1 f fd ["self"] (spLa C) := by
  refine F.ok scLa (fun vs H Q E h => ?_) (fun cdv A outer s H vs Q E hr h => ?_)
  · obtain ⟨p, A, g, rfl, _⟩ := h
    rfl
  · obtain ⟨p, A, g, rfl, ⟨dx, d, d2, l, M, N, _, h⟩, q⟩ := h
    refine ⟨_, (pss_one (ps_ret (pe_callTy call_list_of (by rfl) B.list (by decide +kernel) (pa_cons (pe_fld (pv 0) rfl) pa_nil)))), ?_⟩
    refine ⟨_, rfl, p, C, dx, _, _, rfl, h.ob, X.cl, X.n5, gf5, l, _, rfl, .inl (ll h.la.at_), fun r hr => ?_⟩
    exact q _ r N (same_upd hr) hr ⟨upd_same, fun q hq => (h.la.same (same_upd hr)).all q hq⟩ h.lt
theorem scLi : FnScope ["self", "key", "time", "letters"] ["self", "key", "time"] (defScope sLi) := ⟨rfl, rfl, rfl, by decide +kernel, rfl, by decide +kernel, by decide +kernel⟩
def spLi (C : Addr) : Sp := fun vs H Q _ => ∃ (p : Addr) (A : List Addr) (g : Gs) (v : V) (t : Int), vs = [.ref p, v, .int t] ∧ GateAt C H p A g ∧ BadV H v ∧ ∀ H' : Hp, Same H H' → Q (.bl (g.lets v t)) H'
theorem ok_li {f : Addr} {fd : FuncData} (F : Fun K "lets_in" "Gate.lets_in" sLi f fd) (B : Bi mg) (X : GtX K C) (cIN : CalX CX0 P w K mg base 2 "is_name" spIN) : FnOk P w K mg base CX0 3 f fd ["self", "key", "time"] (spLi C) := by
  refine F.ok scLi (fun vs H Q E h => ?_) (fun cdv A outer s H vs Q E hr h => ?_)
  · obtain ⟨p, A, g, v, t, rfl, _⟩ := h
    rfl
  · obtain ⟨p, A, g, v, t, rfl, ⟨dx, d, d2, l, M, N, _, h⟩, hb, q⟩ := h
    refine ⟨_, (pss_cons (ps_if (PW.pt (pw_or (pt_val (pe_fld (pv 0) rfl)) (pw_or1 (pt_not (pt_val (pe_cx cIN hr (by decide) pass0 (by rfl) (pa_cons (pv 1) pa_nil)))))))
 (pss_one (ps_ret pe_bl)) pss_nil)
 (pss_cons (ps_if (PW.pt (pw_and (pt_cmpR op_notN (pe_fld (pv 0) rfl) pe_non (nomark _)) (pw_and1 (pt_cmpR op_lt (pv 2) (pe_fld (pv 0) rfl) (nomark _)))))
 (pss_one (ps_ret pe_bl)) pss_nil)
 (pss_cons (ps_set (i := 3) scLi.nd rfl (.inl rfl) (pe_dget2 (hu_of hr) (pe_fld (pv 0) rfl) (pv 1) (pe_lst pa_nil) ⟨by rfl, by rfl, by rfl, by rfl⟩))
 (pss_one (ps_ret (pe_or (pe_cmpR op_eq (pe_callB call_len_seq (by rfl) B.len PySem.boot_len (pa_cons (pv 3) pa_nil)) pe_int (nomark _)) (pe_one (pe_cmpR op_le (pe_ix ix_tup (pe_ix ix_list (pv 3) (pe_un un_neg pe_int) (fun _ _ => rfl)) pe_int (fun _ _ => rfl)) (pv 2) (nomark _))))))))), ?_⟩
    simp only [tSeq, tAsg, gName, tOp, rI, rI0, rU, tUn, tVar, tC, tCB, tCons, tNil, tTest, tIfS, tRet, tRetN, tDrop, tNext, tBreak, tCont, rEq, rNe, CDiv, CDivN, CMul, tBM, tBM0, tTup, tLst, tAug, tIf, tAnd, tOr, tNot, tAndV, tOrV, tNotV, tIsN, tNotN, tB, scal, tCall, cxK, cxKn, rIxT, rIxL, rIn, rAppend, rReverse, tVals, tDSetd, tDGet, tDGet1, tDGet2, tDIn, tDNotIn, rSortV, rSortT, rPop, rSortL, rSortT, tSl, tNoPart, tPart, List.append_nil, L2.start, List.map_cons, List.map_nil, List.length_cons, List.length_nil, List.replicate_succ, List.replicate_zero, List.cons_append, List.nil_append, Nat.reduceAdd, Nat.reduceSub, exists_eq, exists_eq', tFld, List.getElem?_cons_zero, List.getElem?_cons_succ, List.set_cons_zero, List.set_cons_succ, Option.some.injEq, V.int.injEq, V.bl.injEq, V.str.injEq, V.ref.injEq, List.cons.injEq, and_true, true_and, and_false, false_and, reduceCtorEq, exists_false, or_false, false_or, exists_and_left, exists_and_right, exists_eq_left, exists_eq_left', exists_eq_right, exists_eq_right', exists_const, ite_true, ite_false, Bool.false_eq_true, if_true, if_false, decide_true, decide_false]
    refine ⟨C, dx, _, h.ob, X.cl, X.n2, _, gf2, _, rfl, ?_⟩
    unfold Gs.lets at q
    cases ed : g.dn with
    | true =>
      rw [ed] at q
      exact if_T rfl (q H fun _ _ h => h)
    | false =>
    rw [ed] at q
    refine if_F rfl ⟨v, rfl, hb, fun H1 s1 => ⟨_, rfl, ?_⟩⟩
    have h1 := h.same s1
    cases en : nmV v with
    | false =>
      rw [okV_not en] at q
      exact if_T rfl (q H1 s1)
    | true =>
    obtain ⟨k, rfl⟩ : ∃ k, v = .str k := by
      cases v with
      | str k => exact ⟨k, rfl⟩
      | _ => cases en
    rw [okV_str en] at q
    refine if_F rfl ⟨C, dx, _, h1.ob, X.cl, X.n1, _, gf1, ?_⟩
    cases ef : g.fl
    case' none =>
      refine if_F rfl ?_
      have hq : ∀ H', Same H H' → Q (.bl (match (getA g.ls k []).getLast? with
        | none => true
        | some e => decide (e.t ≤ t))) H' := by
        unfold Gs.ok at q
        rw [ef] at q
        exact q
    case' some f =>
      refine if_T rfl ⟨C, dx, _, h1.ob, X.cl, X.n1, _, gf1, f, by rw [ef]; rfl, ite2 (fun c => ?_) (fun c => ?_)⟩
      · have e : g.ok k t = false := by
          unfold Gs.ok
          rw [ef]
          show (decide (f ≤ t) && _) = false
          rw [decide_eq_false (by have := of_decide_eq_true c; omega)]
          rfl
        rw [e] at q
        exact q H1 s1
      have hq : ∀ H', Same H H' → Q (.bl (match (getA g.ls k []).getLast? with
        | none => true
        | some e => decide (e.t ≤ t))) H' := by
        unfold Gs.ok at q
        rw [ef] at q
        have e : decide (f ≤ t) = true := decide_eq_true (by have : ¬ t < f := fun z => c (decide_eq_true z); omega)
        intro H' s'
        have := q H' s'
        have e2 : ∀ b : Bool, (!false && (decide (f ≤ t) && b)) = b := fun b => by rw [e]; cases b <;> rfl
        rw [← e2 (match (getA g.ls k []).getLast? with
          | none => true
          | some e => decide (e.t ≤ t))]
        exact this
    all_goals
      clear q
      refine ⟨C, dx, _, h1.ob, X.cl, X.n3, _, gf3, d, rfl, .inl ⟨_, .inl h1.mp.at_⟩, Nat.zero_le _, fun l0 hl0 => ?_⟩
      obtain ⟨o, ho, r, L, er, hL, eL⟩ := get_ls h1 k hl0
      have s2 := s1.trans (same_upd (o := .lst []) hl0)
      refine ⟨o, ho, r, er, _, .inl (ll hL.at_), ?_⟩
      rw [List.length_map]
      rw [← eL] at hq
      rcases List.eq_nil_or_concat L with rfl | ⟨L0, ⟨ep, e⟩, rfl⟩
      · exact if_T rfl (hq _ s2)
      · rw [List.concat_eq_append] at *
        have e3 : (lts (L0 ++ [(ep, e)])).getLast? = some e := by
          unfold lts
          rw [List.map_append]
          exact List.getLast?_concat
        rw [e3] at hq
        exact if_F (decide_eq_false (by rw [List.length_append, List.length_singleton]; omega)) ⟨r, er, _, ll hL.at_, .ref ep, by rw [List.map_append]; exact atI_last _ _, ep, rfl, _, tt (hL.all (ep, e) (List.mem_append_right _ (List.mem_singleton.mpr rfl))), .int e.t, rfl, e.t, rfl, hq _ s2⟩
theorem scMo : FnScope ["self", "key"] ["self", "key"] (defScope sMo) := ⟨rfl, rfl, rfl, by decide +kernel, rfl, by decide +kernel, by decide +kernel⟩
/-- what a mark of a key says -/
def MarkV (H : Hp) (g : Gs) (k : Str) (v : V) : Prop := (g.dn = true ∧ ∃ t, v = .ref t ∧ H t = some (.tup [.int ((getA g.ls k []).length : Int), .non])) ∨ (g.dn = false ∧ ((g.fl = none ∧ v = .non) ∨ ∃ f t, g.fl = some f ∧ v = .ref t ∧ H t = some (.tup [.int (getA g.fd k 0), .int f])))
def spMo (C : Addr) : Sp := fun vs H Q _ => ∃ (p : Addr) (A : List Addr) (g : Gs) (k : Str), vs = [.ref p, .str k] ∧ GateAt C H p A g ∧ ∀ (v : V) (H' : Hp), Same H H' → MarkV H' g k v → Q v H'
theorem ok_mo {f : Addr} {fd : FuncData} (F : Fun K "mark_of" "Gate.mark_of" sMo f fd) (B : Bi mg) (X : GtX K C) (cCo : MetX CX0 P w K mg base 1 C "count_of" (spCo C)) : FnOk P w K mg base CX0 2 f fd ["self", "key"] (spMo C) := by
  refine F.ok scMo (fun vs H Q E h => ?_) (fun cdv A outer s H vs Q E hr h => ?_)
  · obtain ⟨p, A, g, k, rfl, _⟩ := h
    rfl
  · obtain ⟨p, A, g, k, rfl, hg, q⟩ := h
    refine ⟨_, (pss_cons (ps_if (pt_val (pe_fld (pv 0) rfl))
 (pss_one (ps_ret (pe_tup (pa_cons (pe_mx cCo hr (by decide) pass0 (pv 0) (pa_cons (pv 1) pa_nil)) (pa_cons pe_non pa_nil))))) pss_nil)
 (pss_cons (ps_if (pt_cmpR op_isN (pe_fld (pv 0) rfl) pe_non (nomark _))
 (pss_one (ps_ret pe_non)) pss_nil)
 (pss_one (ps_ret (pe_tup (pa_cons (pe_dget2 (hu_of hr) (pe_fld (pv 0) rfl) (pv 1) pe_int ⟨by rfl, by rfl, by rfl, by rfl⟩) (pa_cons (pe_fld (pv 0) rfl) pa_nil))))))), ?_⟩
    obtain ⟨dx, d, d2, l, M, N, _, h⟩ := id hg
    simp only [tSeq, tAsg, gName, tOp, rI, rI0, rU, tUn, tVar, tC, tCB, tCons, tNil, tTest, tIfS, tRet, tRetN, tDrop, tNext, tBreak, tCont, rEq, rNe, CDiv, CDivN, CMul, tBM, tBM0, tTup, tLst, tAug, tIf, tAnd, tOr, tNot, tAndV, tOrV, tNotV, tIsN, tNotN, tB, scal, tCall, cxK, cxKn, rIxT, rIxL, rIn, rAppend, rReverse, tVals, tDSetd, tDGet, tDGet1, tDGet2, tDIn, tDNotIn, rSortV, rSortT, rPop, rSortL, rSortT, tSl, tNoPart, tPart, List.append_nil, L2.start, List.map_cons, List.map_nil, List.length_cons, List.length_nil, List.replicate_succ, List.replicate_zero, List.cons_append, List.nil_append, Nat.reduceAdd, Nat.reduceSub, exists_eq, exists_eq', tFld, tMeth, List.getElem?_cons_zero, List.getElem?_cons_succ, List.set_cons_zero, List.set_cons_succ, Option.some.injEq, V.int.injEq, V.bl.injEq, V.str.injEq, V.ref.injEq, List.cons.injEq, and_true, true_and, and_false, false_and, reduceCtorEq, exists_false, or_false, false_or, exists_and_left, exists_and_right, exists_eq_left, exists_eq_left', exists_eq_right, exists_eq_right', exists_const, ite_true, ite_false, Bool.false_eq_true, if_true, if_false, decide_true, decide_false]
    refine ⟨C, dx, _, h.ob, X.cl, X.n2, _, gf2, _, rfl, ?_⟩
    cases ed : g.dn with
    | true =>
      refine if_T rfl ⟨dx, _, h.ob, gfm (by decide +kernel), p, A, g, k, rfl, hg, fun H1 s1 => ⟨by decide, fun t ht => q _ _ (s1.trans (same_upd ht)) (.inl ⟨ed, t, rfl, upd_same⟩)⟩⟩
    | false =>
      refine if_F rfl ⟨C, dx, _, h.ob, X.cl, X.n1, _, gf1, ?_⟩
      cases ef : g.fl with
      | none => exact if_T rfl (q _ _ (fun _ _ h => h) (.inr ⟨ed, .inl ⟨ef, rfl⟩⟩))
      | some fl =>
        refine if_F rfl ⟨C, dx, _, h.ob, X.cl, X.n4, _, gf4, d2, rfl, .inl ⟨_, .inl h.fd⟩, _, DGet.k (k := Sum.inr k) h.fd, C, dx, _, h.ob, X.cl, X.n1, _, gf1, by decide, fun t ht => q _ _ (same_upd ht) (.inr ⟨ed, .inr ⟨fl, t, ef, rfl, ?_⟩⟩)⟩
        rw [upd_same, val_fkv, ef]
        unfold getA
        cases g.fd.find? fun q => decide (q.1 = k) <;> rfl
end
end Mv

set_option Elab.async false
set_option linter.all false
set_option maxRecDepth 100000
set_option maxHeartbeats 4000000
namespace Mv
open PySem PySem.Spec PyProof.Rows L2
/-! ### how a gate grows -/
theorem find_kd {α : Type} {M : List (Str × α)} (nd : (M.map fun q => q.1).Nodup) {q : Str × α} (hq : q ∈ M) : (M.find? fun x => decide (x.1 = q.1)) = some q := by
  induction M with
  | nil => cases hq
  | cons a M ih =>
    rw [List.map_cons, List.nodup_cons] at nd
    by_cases e : a.1 = q.1
    · rcases List.mem_cons.mp hq with rfl | hq
      · simp
      · exact absurd (List.mem_map.mpr ⟨q, hq, e.symm⟩) nd.1
    · rcases List.mem_cons.mp hq with rfl | hq
      · exact absurd rfl e
      · rw [List.find?_cons_of_neg (by simpa using e)]
        exact ih nd.2 hq
theorem kd_inj {α : Type} {M : List (Str × α)} (nd : (M.map fun q => q.1).Nodup) {q q' : Str × α} (hq : q ∈ M) (hq' : q' ∈ M) (e : q.1 = q'.1) : q = q' := by
  have h1 := find_kd nd hq
  have h2 := find_kd nd hq'
  rw [e] at h1
  exact Option.some.inj (h1.symm.trans h2)
theorem nd_inj {α β : Type} {f : α → β} {M : List α} (nd : (M.map f).Nodup) {q q' : α} (hq : q ∈ M) (hq' : q' ∈ M) (e : f q = f q') : q = q' := by
  induction M with
  | nil => cases hq
  | cons a M ih =>
    rw [List.map_cons, List.nodup_cons] at nd
    rcases List.mem_cons.mp hq with rfl | h1
    · rcases List.mem_cons.mp hq' with rfl | h2
      · rfl
      · exact absurd (List.mem_map.mpr ⟨q', h2, e.symm⟩) nd.1
    · rcases List.mem_cons.mp hq' with rfl | h2
      · exact absurd (List.mem_map.mpr ⟨q, h1, e⟩) nd.1
      · exact ih nd.2 h1 h2
theorem find_mem {α : Type} {M : List (Str × α)} {k : Str} {q : Str × α} (h : (M.find? fun x => decide (x.1 = k)) = some q) : q ∈ M ∧ q.1 = k := ⟨List.mem_of_find?_eq_some h, by simpa using List.find?_some h⟩
theorem any_find {α : Type} (M : List (Str × α)) (k : Str) : (M.any fun q => decide (q.1 = k)) = (M.find? fun q => decide (q.1 = k)).isSome := by
  rw [Bool.eq_iff_iff, List.any_eq_true, List.find?_isSome]
theorem ne_lt {H : Hp} {a b : Addr} {o o' : HO} (ha : H a = some o) (hb : H b = some o') (h : o ≠ o') : a ≠ b := fun z => by
  rw [z, hb] at ha
  exact h (Option.some.inj ha).symm
section
variable {C : Addr} {H H2 : Hp} {p dx d d2 l : Addr} {M : MpL} {N : LaL} {g : Gs}
theorem Las.nel {e : Lat} {q : Addr × Lat} (h : GateX C H p dx d d2 l M N g) (hq : q ∈ N) : q.1 ≠ l := ne_lt (h.la.all q hq) h.la.at_ (fun z => by cases z)
theorem GateX.late {tp : Addr} {e : Lat} (h : GateX C H p dx d d2 l M N g) (st : ∀ b o, b ≠ l → H b = some o → H2 b = some o) (hl : H2 l = some (.lst (N.map (fun q => V.ref q.1) ++ [.ref tp]))) (ht : H2 tp = some e.o) :
    GateX C H2 p dx d d2 l M (N ++ [(tp, e)]) { g with lt := g.lt ++ [e] } := by
  refine ⟨st _ _ (ne_lt h.ob h.la.at_ (fun z => by cases z)) h.ob, ⟨st _ _ (ne_lt h.mp.at_ h.la.at_ (fun z => by cases z)) h.mp.at_, fun q hq => ⟨st _ _ (fun z => ?_) (h.mp.all q hq).at_, fun x hx => st _ _ (ne_lt ((h.mp.all q hq).all x hx) h.la.at_ (fun z => by cases z)) ((h.mp.all q hq).all x hx)⟩⟩, h.ls, st _ _ (ne_lt h.fd h.la.at_ (fun z => by cases z)) h.fd, ⟨?_, fun q hq => ?_⟩, ?_, h.ne, h.nd, h.kd⟩
  · exact (List.nodup_cons.mp h.nd).1 (List.mem_map.mpr ⟨q, hq, z⟩)
  · rw [hl, List.map_append]
    rfl
  · rcases List.mem_append.mp hq with hq | hq
    · exact st _ _ (ne_lt (h.la.all q hq) h.la.at_ (fun z => by cases z)) (h.la.all q hq)
    · rw [List.mem_singleton.mp hq]
      exact ht
  · unfold lats
    rw [List.map_append]
    show lats N ++ [e] = _
    rw [h.lt]
/-- the letters of k with one more -/
def growM (M : MpL) (k : Str) (x : Addr × Ltr) : MpL := M.map fun q => if q.1 = k then (q.1, q.2.1, q.2.2 ++ [x]) else q
theorem grow1 (M : MpL) (k : Str) (x : Addr × Ltr) : (growM M k x).map (fun q => q.1) = M.map fun q => q.1 := by
  unfold growM
  rw [List.map_map]
  refine List.map_congr_left fun q _ => ?_
  show (if q.1 = k then _ else q : Str × Addr × LtL).1 = q.1
  split <;> rfl
theorem grow2 (M : MpL) (k : Str) (x : Addr × Ltr) : (growM M k x).map (fun q => q.2.1) = M.map fun q => q.2.1 := by
  unfold growM
  rw [List.map_map]
  refine List.map_congr_left fun q _ => ?_
  show (if q.1 = k then _ else q : Str × Addr × LtL).2.1 = q.2.1
  split <;> rfl
theorem growK (M : MpL) (k : Str) (x : Addr × Ltr) : mkv (growM M k x) = mkv M := by
  unfold growM mkv
  rw [List.map_map]
  refine List.map_congr_left fun q _ => ?_
  show ((Sum.inr (if q.1 = k then _ else q : Str × Addr × LtL).1 : Key), V.ref (if q.1 = k then _ else q : Str × Addr × LtL).2.1) = _
  split <;> rfl
theorem growL {M : MpL} {k : Str} {x : Addr × Ltr} {L : List Ltr} (hn : (M.find? fun q => decide (q.1 = k)).isSome = true) (hl : ∀ q ∈ M, q.1 = k → lts q.2.2 = L) : mpl (growM M k x) = putA (mpl M) k (L ++ [x.2]) := by
  have e : ((mpl M).any fun q => decide (q.1 = k)) = true := by
    rw [← any_find, List.any_eq_true] at hn
    obtain ⟨q, hq, hk⟩ := hn
    exact List.any_eq_true.mpr ⟨(q.1, lts q.2.2), List.mem_map.mpr ⟨q, hq, rfl⟩, hk⟩
  unfold putA
  rw [if_pos e]
  unfold growM mpl
  rw [List.map_map, List.map_map]
  refine List.map_congr_left fun q hq => ?_
  show ((if q.1 = k then _ else q : Str × Addr × LtL).1, lts (if q.1 = k then _ else q : Str × Addr × LtL).2.2) = if q.1 = k then (q.1, L ++ [x.2]) else (q.1, lts q.2.2)
  by_cases c : q.1 = k
  · rw [if_pos c, if_pos c]
    show (q.1, lts (q.2.2 ++ [x])) = _
    rw [← hl q hq c]
    unfold lts
    rw [List.map_append]
    rfl
  · rw [if_neg c, if_neg c]
theorem GateX.grow {tp r : Addr} {e : Ltr} {k : Str} {L : LtL} (h : GateX C H p dx d d2 l M N g) (hf : (M.find? fun q => decide (q.1 = k)) = some (k, r, L)) (st : ∀ b o, b ≠ r → H b = some o → H2 b = some o) (hl : H2 r = some (.lst (L.map (fun q => V.ref q.1) ++ [.ref tp]))) (ht : H2 tp = some e.o) :
    GateX C H2 p dx d d2 l (growM M k (tp, e)) N { g with ls := putA g.ls k (getA g.ls k [] ++ [e]) } ∧ own p d d2 l (growM M k (tp, e)) = own p d d2 l M := by
  have hm := (find_mem hf).1
  have hr := (h.mp.all _ hm).at_
  have nlr : l ≠ r := fun z => (List.nodup_cons.mp h.nd).1 (List.mem_map.mpr ⟨_, hm, z.symm⟩)
  have eL : getA g.ls k [] = lts L := by
    rw [← h.ls, get_mpl, hf]
    rfl
  refine ⟨⟨st _ _ (ne_lt h.ob hr (fun z => by cases z)) h.ob, ⟨?_, fun q hq => ?_⟩, ?_, st _ _ (ne_lt h.fd hr (fun z => by cases z)) h.fd, ⟨st _ _ nlr h.la.at_, fun q hq => st _ _ (ne_lt (h.la.all q hq) hr (fun z => by cases z)) (h.la.all q hq)⟩, h.lt, h.ne, by rw [grow2]; exact h.nd, by rw [grow1]; exact h.kd⟩, ?_⟩
  · rw [growK]
    exact st _ _ (ne_lt h.mp.at_ hr (fun z => by cases z)) h.mp.at_
  · obtain ⟨q, hqm, rfl⟩ := List.mem_map.mp hq
    have hq1 := h.mp.all q hqm
    by_cases c : q.1 = k
    · rw [if_pos c]
      obtain rfl : q = (k, r, L) := kd_inj h.kd hqm hm c
      refine ⟨by rw [hl, List.map_append]; rfl, fun x hx => ?_⟩
      rcases List.mem_append.mp hx with hx | hx
      · exact st _ _ (ne_lt (hq1.all x hx) hr (fun z => by cases z)) (hq1.all x hx)
      · rw [List.mem_singleton.mp hx]
        exact ht
    · rw [if_neg c]
      refine ⟨st _ _ (fun z => ?_) hq1.at_, fun x hx => st _ _ (ne_lt (hq1.all x hx) hr (fun z => by cases z)) (hq1.all x hx)⟩
      have e1 : q = (k, r, L) := nd_inj (List.nodup_cons.mp h.nd).2 hqm hm z
      rw [e1] at c
      exact c rfl
  · show mpl (growM M k (tp, e)) = putA g.ls k (getA g.ls k [] ++ [e])
    rw [eL, ← h.ls]
    refine growL (by rw [hf]; rfl) fun q hq c => ?_
    obtain rfl : q = (k, r, L) := kd_inj h.kd hq hm c
    rfl
  · unfold own
    rw [grow2]
theorem GateX.first {tp r0 : Addr} {e : Ltr} {k : Str} (h : GateX C H p dx d d2 l M N g) (hf : (M.find? fun q => decide (q.1 = k)) = none) (h0 : H r0 = none) (st : ∀ b o, b ≠ d → H b = some o → H2 b = some o) (hd : H2 d = some (.dK (mkv (M ++ [(k, r0, [(tp, e)])])))) (hl : H2 r0 = some (.lst [.ref tp])) (ht : H2 tp = some e.o) :
    GateX C H2 p dx d d2 l (M ++ [(k, r0, [(tp, e)])]) N { g with ls := putA g.ls k (getA g.ls k [] ++ [e]) } := by
  have hdd := h.mp.at_
  have al := h.al
  have eL : getA g.ls k [] = [] := by
    rw [← h.ls, get_mpl, hf]
    rfl
  refine ⟨st _ _ (ne_lt h.ob hdd (fun z => by cases z)) h.ob, ⟨hd, fun q hq => ?_⟩, ?_, st _ _ h.ne.symm h.fd, ⟨st _ _ (ne_lt h.la.at_ hdd (fun z => by cases z)) h.la.at_, fun q hq => st _ _ (ne_lt (h.la.all q hq) hdd (fun z => by cases z)) (h.la.all q hq)⟩, h.lt, h.ne, ?_, ?_⟩
  · rcases List.mem_append.mp hq with hq | hq
    · have hq1 := h.mp.all q hq
      exact ⟨st _ _ (ne_lt hq1.at_ hdd (fun z => by cases z)) hq1.at_, fun x hx => st _ _ (ne_lt (hq1.all x hx) hdd (fun z => by cases z)) (hq1.all x hx)⟩
    · rw [List.mem_singleton.mp hq]
      refine ⟨hl, fun x hx => ?_⟩
      rw [List.mem_singleton.mp hx]
      exact ht
  · show mpl (M ++ [(k, r0, [(tp, e)])]) = putA g.ls k (getA g.ls k [] ++ [e])
    rw [eL, ← h.ls]
    have e1 : ((mpl M).any fun q => decide (q.1 = k)) = false := by
      rw [any_find]
      unfold mpl
      rw [List.find?_map]
      show (Option.map _ (M.find? fun q => decide (q.1 = k))).isSome = false
      rw [hf]
      rfl
    unfold putA
    rw [if_neg (by rw [e1]; exact Bool.false_ne_true)]
    unfold mpl
    rw [List.map_append]
    rfl
  · rw [List.map_append, List.nodup_cons, List.mem_append]
    have nd := List.nodup_cons.mp h.nd
    refine ⟨fun z => ?_, ?_⟩
    · rcases z with z | z
      · exact nd.1 z
      · have := List.mem_singleton.mp z
        exact al l (by simp [own]) (by rw [this]; exact h0)
    · rw [List.nodup_append]
      refine ⟨nd.2, by simp, fun a ha b hb z => ?_⟩
      obtain rfl := List.mem_singleton.mp hb
      subst z
      exact al _ (List.mem_cons_of_mem _ (List.mem_cons_of_mem _ (List.mem_cons_of_mem _ (List.mem_cons_of_mem _ ha)))) h0
  · rw [List.map_append, List.nodup_append]
    refine ⟨h.kd, by simp, fun a ha b hb z => ?_⟩
    obtain rfl := List.mem_singleton.mp hb
    subst z
    obtain ⟨q, hq, e⟩ := List.mem_map.mp ha
    have := List.find?_eq_none.mp hf q hq
    exact this (by simpa using e)
end
end Mv

set_option Elab.async false
set_option linter.all false
set_option maxRecDepth 100000
set_option maxHeartbeats 4000000
namespace Mv
open PySem PySem.Spec PyProof.Rows L2
abbrev sEv : Stmt := inClass (topS 12) 4
abbrev sFi : Stmt := inClass (topS 12) 6
def RsF (C : Addr) (n : Str) (H : Hp) (v : V) (E : XK) : Prop := ∀ (d : Addr) (H' : Hp), Same H H' → H' d = some (.xd [(n, v)]) → E (.ref C) (some d) H'
theorem RsF.ext {C : Addr} {n : Str} {H H' : Hp} {v : V} {E : XK} (r : RsF C n H v E) (e : Same H H') : RsF C n H' v E := fun d H2 e2 hd => r d H2 (e.trans e2) hd
theorem RsN.ext {C : Addr} {H H' : Hp} {E : XK} (r : RsN C H E) (e : Same H H') : RsN C H' E := fun H2 e2 => r H2 (e.trans e2)
/-- an own exception class that says of its start what stands in it -/
structure FTx (P : Program) (w : World) (K : PySem.W.Frag) (mg : Str → Option Value) (base : Heap) (CB : Addr) : Prop where
  oex : OexC K CB
  gC : mg "BadName" = some (.ref CB)
  ini : ∃ (fI : Addr) (fdI : FuncData), PySem.W.findIn K (.ref CB) "__init__" = some (some (.ref fI)) ∧ PySem.W.typeIn K (.ref fI) = some (.type "function") ∧ FnOk P w K mg base CX0 1 fI fdI ["self", "name"] (spIniB K CB "name") ∧ Binds K fdI ["self", "name"] []
theorem raise_own {K : PySem.W.Frag} {C : Addr} {n : Str} {i : Nat} {z : L2.St} {H : Hp} {v : V} {E : XK} (hi : z[i]? = some (some v)) (b : BadV H v) (r : RsF C n H v E) : tMkO C (spIniB K C n) [] (tCons (tVar i) tNil) z H fun cls d H' => E cls d H' := by
  refine ⟨v, hi, by show 1 ≤ 1000; decide, fun a ha => ⟨a, v, rfl, upd_same, b.ext (ext_upd ha), fun dx hdx nda => ⟨rfl, dx, [(n, v)], upd_same, by rw [upd_ne nda]; exact upd_same, ?_, r dx _ (fun c o e => ?_) upd_same⟩⟩⟩
  · rw [upd_ne nda] at hdx
    exact hdx
  · have ca : c ≠ a := ne_of_none e ha
    rw [upd_ne nda] at hdx
    have cd : c ≠ dx := ne_of_none e hdx
    rw [upd_ne cd, del_ne ca, upd_ne ca, upd_ne cd, upd_ne ca]
    exact e
/-- what a call may do: the owner has A' behind it, and all else stands -/
def Ow (A A' : List Addr) (H H' : Hp) : Prop := (∀ b ∈ A', b ∈ A ∨ H b = none) ∧ ∀ b o, b ∉ A → H b = some o → H' b = some o
theorem Ow.of {A : List Addr} {H H' : Hp} (s : Same H H') : Ow A A H H' := ⟨fun _ hb => .inl hb, fun b o _ e => s b o e⟩
theorem Ow.not {A A' : List Addr} {H H' : Hp} (h : Ow A A' H H') {b : Addr} {o : HO} (hb : b ∉ A) (e : H b = some o) : b ∉ A' := fun z => by
  rcases h.1 b z with h1 | h1
  · exact hb h1
  · rw [h1] at e
    cases e
theorem Ow.trans {A A' A'' : List Addr} {H H' H'' : Hp} (h : Ow A A' H H') (h2 : Ow A' A'' H' H'') : Ow A A'' H H'' := by
  refine ⟨fun b hb => ?_, fun b o hb e => h2.2 b o (h.not hb e) (h.2 b o hb e)⟩
  rcases h2.1 b hb with h1 | h1
  · exact h.1 b h1
  · by_cases c : b ∈ A
    · exact .inl c
    · cases e : H b with
      | none => exact .inr rfl
      | some o =>
        rw [h.2 b o c e] at h1
        cases h1
theorem Ow.res {A A' : List Addr} {H H' : Hp} (h : Ow A A' H H') : Same (res A H) (res A' H') := res_own h.1 h.2
theorem Ow.left {A A' : List Addr} {H H0 H' : Hp} (s : Same H H0) (h : Ow A A' H0 H') : Ow A A' H H' := (Ow.of s).trans h
/-- how much stands in a gate -/
structure Gs.sm (g : Gs) (n : Nat) : Prop where
  lt : g.lt.length ≤ n
  ls : g.ls.length ≤ n
  all : ∀ q ∈ g.ls, q.2.length ≤ n
theorem getA_len {α : Type} {M : List (Str × List α)} {k : Str} {n : Nat} (h : ∀ q ∈ M, q.2.length ≤ n) : (getA M k []).length ≤ n := by
  unfold getA
  cases e : M.find? fun q => decide (q.1 = k) with
  | none => exact Nat.zero_le _
  | some q => exact h q (find_mem e).1
theorem putA_len {α : Type} {M : List (Str × List α)} {k : Str} {v : List α} {n : Nat} (h : M.length ≤ n) : (putA M k v).length ≤ n + 1 := by
  unfold putA
  split
  · rw [List.length_map]
    omega
  · rw [List.length_append, List.length_singleton]
    omega
theorem putA_all {α : Type} {M : List (Str × List α)} {k : Str} {v : List α} {P : List α → Prop} (h : ∀ q ∈ M, P q.2) (hv : P v) : ∀ q ∈ putA M k v, P q.2 := by
  intro q hq
  unfold putA at hq
  split at hq
  · obtain ⟨x, hx, rfl⟩ := List.mem_map.mp hq
    split
    · exact hv
    · exact h x hx
  · rcases List.mem_append.mp hq with hq | hq
    · exact h q hq
    · rw [List.mem_singleton.mp hq]
      exact hv
theorem Gs.sm.event {g : Gs} {n : Nat} (h : g.sm n) (k : Str) (t v : Int) : (g.event k t v).sm (n + 1) := by
  unfold Gs.event
  have := getA_len (k := k) h.all
  split
  · exact ⟨Nat.le_succ_of_le h.lt, putA_len h.ls, putA_all (P := fun z => z.length ≤ n + 1) (fun q hq => Nat.le_succ_of_le (h.all q hq)) (by rw [List.length_append, List.length_singleton]; omega)⟩
  · refine ⟨?_, Nat.le_succ_of_le h.ls, fun q hq => Nat.le_succ_of_le (h.all q hq)⟩
    show (g.lt ++ _).length ≤ _
    rw [List.length_append, List.length_singleton]
    have := h.lt
    omega
theorem Gs.sm.raise {g : Gs} {n : Nat} (h : g.sm n) (t : Int) : (g.raise t).sm n := by
  unfold Gs.raise
  split
  · exact ⟨h.lt, h.ls, h.all⟩
  · exact h
theorem GateX.ob' {C : Addr} {H : Hp} {p dx d d2 l : Addr} {M : MpL} {N : LaL} {g g' : Gs} (h : GateX C H p dx d d2 l M N g) (e1 : g'.ls = g.ls) (e2 : g'.fd = g.fd) (e3 : g'.lt = g.lt) : GateX C (upd H p (.ins C dx (gf g' d d2 l))) p dx d d2 l M N g' := by
  have st : ∀ b o, H b = some o → (∀ a b c, o ≠ .ins a b c) → upd H p (.ins C dx (gf g' d d2 l)) b = some o := fun b o e n => by
    rw [upd_ne (ne_lt e h.ob (n _ _ _))]
    exact e
  exact ⟨upd_same, ⟨st _ _ h.mp.at_ (fun _ _ _ z => by cases z), fun q hq => ⟨st _ _ (h.mp.all q hq).at_ (fun _ _ _ z => by cases z), fun x hx => st _ _ ((h.mp.all q hq).all x hx) (fun _ _ _ z => by cases z)⟩⟩, by rw [e1]; exact h.ls, by rw [e2]; exact st _ _ h.fd (fun _ _ _ z => by cases z), ⟨st _ _ h.la.at_ (fun _ _ _ z => by cases z), fun x hx => st _ _ (h.la.all x hx) (fun _ _ _ z => by cases z)⟩, by rw [e3]; exact h.lt, h.ne, h.nd, h.kd⟩
theorem ow_ob {H : Hp} {p d d2 l : Addr} {M : MpL} {o : HO} : Ow (own p d d2 l M) (own p d d2 l M) H (upd H p o) := ⟨fun _ hb => .inl hb, fun b o' hb e => by
  rw [upd_ne (fun z => hb (by rw [z]; exact List.mem_cons_self))]
  exact e⟩
theorem lets_str {g : Gs} {k : Str} {t : Int} (ed : g.dn = false) (en : nmV (.str k) = true) : g.lets (.str k) t = g.ok k t := by
  unfold Gs.lets
  rw [ed, okV_str en]
  rfl
theorem lets_dn {g : Gs} {v : V} {t : Int} (ed : g.dn = true) : g.lets v t = false := by
  unfold Gs.lets
  rw [ed]
  rfl
section
variable {P : Program} {w : World} {K : PySem.W.Frag} {mg : Str → Option Value} {base : Heap} {C CF CB : Addr}
theorem scFi : FnScope ["self"] ["self"] (defScope sFi) := ⟨rfl, rfl, rfl, by decide +kernel, rfl, by decide +kernel, by decide +kernel⟩
def spFi (C CF : Addr) : Sp := fun vs H Q E => ∃ (p : Addr) (A : List Addr) (g : Gs), vs = [.ref p] ∧ GateAt C H p A g ∧ (g.dn = true → RsN CF H E) ∧ (g.dn = false → ∀ H' : Hp, Ow A A H H' → GateAt C H' p A g.fin → Q .non H')
theorem ok_fi {f : Addr} {fd : FuncData} (F : Fun K "finish" "Gate.finish" sFi f fd) (B : Bi mg) (X : GtX K C) (cRf : MetX (L2.CX P w) P w K mg base 1 C "_refuse_if_finished" (spRf C CF)) : FnOk P w K mg base (L2.CX P w) 2 f fd ["self"] (spFi C CF) := by
  refine F.okX scFi (fun vs H Q E h => ?_) (fun cdv A outer s H vs Q E hr h => ?_)
  · obtain ⟨p, A, g, rfl, _⟩ := h
    rfl
  · obtain ⟨p, A, g, rfl, hg, q1, q0⟩ := h
    refine ⟨_, (pss_cons (ps_expr (pe_mx0 cRf hr (by decide) (passes_call (takes_of rfl rfl rfl rfl) (fun _ _ _ _ h => h)) (pv 0)))
 (pss_one (ps_fld (pv 0) pe_bl rfl))), ?_⟩
    simp only [tSeq, tAsg, gName, tOp, rI, rI0, rU, tUn, tVar, tC, tCB, tCons, tNil, tTest, tIfS, tRet, tRetN, tDrop, tNext, tBreak, tCont, rEq, rNe, CDiv, CDivN, CMul, tBM, tBM0, tTup, tLst, tAug, tIf, tAnd, tOr, tNot, tAndV, tOrV, tNotV, tIsN, tNotN, tB, scal, tCall, cxK, cxKn, rIxT, rIxL, rIn, rAppend, rReverse, tVals, tDSetd, tDGet, tDGet1, tDGet2, tDIn, tDNotIn, rSortV, rSortT, rPop, rSortL, rSortT, tSl, tNoPart, tPart, List.append_nil, L2.start, List.map_cons, List.map_nil, List.length_cons, List.length_nil, List.replicate_succ, List.replicate_zero, List.cons_append, List.nil_append, Nat.reduceAdd, Nat.reduceSub, exists_eq, exists_eq', tMeth, sFld, List.getElem?_cons_zero, List.getElem?_cons_succ, List.set_cons_zero, List.set_cons_succ, Option.some.injEq, V.int.injEq, V.bl.injEq, V.str.injEq, V.ref.injEq, List.cons.injEq, and_true, true_and, and_false, false_and, reduceCtorEq, exists_false, or_false, false_or, exists_and_left, exists_and_right, exists_eq_left, exists_eq_left', exists_eq_right, exists_eq_right', exists_const, ite_true, ite_false, Bool.false_eq_true, if_true, if_false, decide_true, decide_false]
    obtain ⟨dx, d, d2, l, M, N, eA, h⟩ := id hg
    refine ⟨dx, _, h.ob, gfm (by decide +kernel), p, A, g, rfl, hg, fun ed => ⟨C, dx, _, h.ob, X.cl, X.n2, by show 5 < 1000; decide, ?_⟩, q1⟩
    rw [gf_dn]
    exact q0 ed _ (by rw [eA]; exact ow_ob) ⟨dx, d, d2, l, M, N, eA, h.ob' (g' := g.fin) rfl rfl rfl⟩
theorem scEv : FnScope ["self", "key", "time", "value", "number"] ["self", "key", "time", "value"] (defScope sEv) := ⟨rfl, rfl, rfl, by decide +kernel, rfl, by decide +kernel, by decide +kernel⟩
def spEv (C CF CB : Addr) : Sp := fun vs H Q E => ∃ (p : Addr) (A : List Addr) (g : Gs) (v : V) (t x : Int), vs = [.ref p, v, .int t, .int x] ∧ GateAt C H p A g ∧ BadV H v ∧ g.sm 100 ∧ (g.dn = true → RsN CF H E) ∧ (g.dn = false → nmV v = false → RsF CB "name" H v E) ∧
  (g.dn = false → ∀ k, v = .str k → nmV v = true → ∀ (A' : List Addr) (H' : Hp), Ow A A' H H' → GateAt C H' p A' (g.event k t x) → Q (if g.ok k t = true then .int ((getA g.ls k []).length : Int) else .non) H')
theorem ok_ev {f : Addr} {fd : FuncData} (F : Fun K "event" "Gate.event" sEv f fd) (B : Bi mg) (X : GtX K C) (G : FTx P w K mg base CB) (cRf : MetX (L2.CX P w) P w K mg base 1 C "_refuse_if_finished" (spRf C CF)) (cIN : CalX CX0 P w K mg base 2 "is_name" spIN) (cLi : MetX CX0 P w K mg base 3 C "lets_in" (spLi C)) (cCo : MetX CX0 P w K mg base 1 C "count_of" (spCo C)) : FnOk P w K mg base (L2.CX P w) 4 f fd ["self", "key", "time", "value"] (spEv C CF CB) := by
  obtain ⟨fI, fdI, jC, uI, GI, cI⟩ := G.ini
  refine F.okX scEv (fun vs H Q E h => ?_) (fun cdv A outer s H vs Q E hr h => ?_)
  · obtain ⟨p, A, g, v, t, x, rfl, _⟩ := h
    rfl
  · obtain ⟨p, A, g, v, t, x, rfl, hg, hb, hsm, q1, q2, q0⟩ := h
    refine ⟨_, (pss_cons (ps_expr (pe_mx0 cRf hr (by decide) (passes_call (takes_of rfl rfl rfl rfl) (fun _ _ _ _ h => h)) (pv 0)))
 (pss_cons (ps_if (pt_not (pt_val (pe_cx cIN hr (by decide) pass0 (by rfl) (pa_cons (pv 1) pa_nil))))
 (pss_one (ps_raise rfl (takes_of rfl rfl rfl rfl) (pmk_oex G.oex jC uI GI (hr.mono (by decide)) cI .nil pass0 (by rfl) G.gC (pa_cons (pv 1) pa_nil)))) pss_nil)
 (pss_cons (ps_if (pt_not (pt_val (pe_mx cLi hr (by decide) pass0 (pv 0) (pa_cons (pv 1) (pa_cons (pv 2) pa_nil)))))
 (pss_cons (ps_expr (pe_bm PySem.F.plainAttrs_list PySem.F.slot_list_append PySem.F.type_list_append mt_append (pe_fld (pv 0) rfl) (pa_cons (pe_tup (pa_cons (pv 1) (pa_cons (pv 2) (pa_cons (pv 3) pa_nil)))) pa_nil)))
 (pss_one (ps_ret pe_non))) pss_nil)
 (pss_cons (ps_set (i := 4) scEv.nd rfl (.inl rfl) (pe_mx cCo hr (by decide) pass0 (pv 0) (pa_cons (pv 1) pa_nil)))
 (pss_cons (ps_expr (pe_bm PySem.F.plainAttrs_list PySem.F.slot_list_append PySem.F.type_list_append mt_append (pe_dsetd (pe_fld (pv 0) rfl) (pv 1) (pe_lst pa_nil) ⟨by rfl, by rfl, by rfl, by rfl⟩) (pa_cons (pe_tup (pa_cons (pv 4) (pa_cons (pv 2) (pa_cons (pv 3) pa_nil)))) pa_nil)))
 (pss_one (ps_ret (pv 4)))))))), ?_⟩
    simp only [tSeq, tAsg, gName, tOp, rI, rI0, rU, tUn, tVar, tC, tCB, tCons, tNil, tTest, tIfS, tRet, tRetN, tDrop, tNext, tBreak, tCont, rEq, rNe, CDiv, CDivN, CMul, tBM, tBM0, tTup, tLst, tAug, tIf, tAnd, tOr, tNot, tAndV, tOrV, tNotV, tIsN, tNotN, tB, scal, tCall, cxK, cxKn, rIxT, rIxL, rIn, rAppend, rReverse, tVals, tDSetd, tDGet, tDGet1, tDGet2, tDIn, tDNotIn, rSortV, rSortT, rPop, rSortL, rSortT, tSl, tNoPart, tPart, List.append_nil, L2.start, List.map_cons, List.map_nil, List.length_cons, List.length_nil, List.replicate_succ, List.replicate_zero, List.cons_append, List.nil_append, Nat.reduceAdd, Nat.reduceSub, exists_eq, exists_eq', tMeth, tFld, List.getElem?_cons_zero, List.getElem?_cons_succ, List.set_cons_zero, List.set_cons_succ, Option.some.injEq, V.int.injEq, V.bl.injEq, V.str.injEq, V.ref.injEq, List.cons.injEq, and_true, true_and, and_false, false_and, reduceCtorEq, exists_false, or_false, false_or, exists_and_left, exists_and_right, exists_eq_left, exists_eq_left', exists_eq_right, exists_eq_right', exists_const, ite_true, ite_false, Bool.false_eq_true, if_true, if_false, decide_true, decide_false]
    obtain ⟨dx, d, d2, l, M, N, eA, h⟩ := id hg
    refine ⟨dx, _, h.ob, gfm (by decide +kernel), p, A, g, rfl, hg, fun ed => ⟨v, rfl, hb, fun H1 s1 => ⟨_, rfl, ?_⟩⟩, q1⟩
    cases en : nmV v with
    | false => exact if_T rfl (raise_own rfl (hb.ext (LamX.ExtN.of s1)) ((q2 ed en).ext s1))
    | true =>
    obtain ⟨k, rfl⟩ : ∃ k, v = .str k := by
      cases v with
      | str k => exact ⟨k, rfl⟩
      | _ => cases en
    have q3 := q0 ed k rfl en
    clear q0 q1 q2
    refine if_F rfl ⟨dx, _, (h.same s1).ob, gfm (by decide +kernel), p, A, g, _, t, rfl, hg.same s1, hb.ext (LamX.ExtN.of s1), fun H2 s2 => ⟨_, rfl, ?_⟩⟩
    rw [lets_str ed en]
    have h2 := h.same (s1.trans s2)
    have s12 := s1.trans s2
    cases eo : g.ok k t with
    | false =>
      refine if_T rfl ⟨C, dx, _, h2.ob, X.cl, X.n5, _, gf5, .inl ⟨rfl, _, ll h2.la.at_⟩, by decide, fun tp htp => ⟨l, rfl, _, (same_upd htp _ _ h2.la.at_), ?_, ?_⟩⟩
      · rw [List.length_map]
        have e1 : N.length = g.lt.length := by
          rw [← h.lt]
          exact (List.length_map _).symm
        have := hsm.lt
        exact small1000 (by omega)
      · rw [eo] at q3
        have e1 : g.event k t x = { g with lt := g.lt ++ [⟨k, t, x⟩] } := by
          unfold Gs.event
          rw [eo]
          rfl
        rw [e1] at q3
        have h3 := h2.same (same_upd (o := .tup [.str k, .int t, .int x]) htp)
        have nl : tp ≠ l := fun z => by
          rw [z, h2.la.at_] at htp
          cases htp
        refine q3 A _ (Ow.left (s12.trans (same_upd (o := .tup [.str k, .int t, .int x]) htp)) ⟨fun _ hb => .inl hb, fun b o hb e => ?_⟩) ⟨dx, d, d2, l, M, _, eA, h3.late (tp := tp) (e := ⟨k, t, x⟩) (fun b o n e => ?_) upd_same ?_⟩
        · rw [upd_ne (fun z => hb (by rw [z, eA]; simp [own]))]
          exact e
        · rw [upd_ne n]
          exact e
        · rw [upd_ne nl]
          exact upd_same
    | true =>
      have e0 : g.event k t x = { g with ls := putA g.ls k (getA g.ls k [] ++ [⟨((getA g.ls k []).length : Int), t, x⟩]) } := by
        unfold Gs.event
        rw [eo]
        rfl
      rw [eo, e0] at q3
      refine if_F rfl ⟨dx, _, h2.ob, gfm (by decide +kernel), p, A, g, k, rfl, hg.same s12, fun H3 s3 => ?_⟩
      have s13 := s12.trans s3
      have h3 := h2.same s3
      refine ⟨C, dx, _, h3.ob, X.cl, X.n3, _, gf3, d, rfl, .inl ⟨_, .inl h3.mp.at_⟩, by decide, fun l0 hl0 => ⟨mkv M, same_upd hl0 _ _ h3.mp.at_, Sum.inr k, rfl, ?_, fun v0 hv0 => ?_, fun hn0 => ?_⟩⟩
      · have e1 : M.length = g.ls.length := by
          rw [← h.ls]
          exact (List.length_map _).symm
        have := hsm.ls
        unfold mkv
        rw [List.length_map]
        exact small1000 (by omega)
      · rw [val_mkv] at hv0
        obtain ⟨⟨k', r, L⟩, hf, rfl⟩ := Option.map_eq_some_iff.mp hv0
        obtain rfl : k' = k := (find_mem hf).2
        have h4 := h3.same (same_upd (o := .lst []) hl0)
        have hr4 := h4.mp.all _ (find_mem hf).1
        have eL : getA g.ls k' [] = lts L := by
          rw [← h.ls, get_mpl, hf]
          rfl
        refine ⟨.inl ⟨rfl, _, ll hr4.at_⟩, by decide, fun tp htp => ⟨r, rfl, _, same_upd htp _ _ hr4.at_, ?_, ?_⟩⟩
        · rw [List.length_map]
          have e1 : L.length = (getA g.ls k' []).length := by
            rw [eL]
            exact (List.length_map _).symm
          have := getA_len (k := k') hsm.all
          show L.length < sizeLine
          exact small1000 (by omega)
        · have h5 := h4.same (same_upd (o := .tup [.int ((getA g.ls k' []).length : Int), .int t, .int x]) htp)
          have nr : tp ≠ r := fun z => by
            rw [z, hr4.at_] at htp
            cases htp
          obtain ⟨h6, eo6⟩ := h5.grow (H2 := upd (upd (upd H3 l0 (.lst [])) tp (.tup [.int ((getA g.ls k' []).length : Int), .int t, .int x])) r (.lst (L.map (fun q => V.ref q.1) ++ [.ref tp]))) (tp := tp) (e := ⟨((getA g.ls k' []).length : Int), t, x⟩) hf (fun b o n e => by rw [upd_ne n]; exact e) upd_same (by rw [upd_ne nr]; exact upd_same)
          refine q3 A _ (Ow.left (s13.trans ((same_upd hl0).trans (same_upd (o := .tup [.int ((getA g.ls k' []).length : Int), .int t, .int x]) htp))) ⟨fun _ hb => .inl hb, fun b o hb e => ?_⟩) ⟨dx, d, d2, l, _, N, eA.trans eo6.symm, h6⟩
          rw [upd_ne (fun z => hb (by rw [z, eA]; simp only [own, List.mem_cons]; exact .inr (.inr (.inr (.inr (List.mem_map.mpr ⟨_, (find_mem hf).1, rfl⟩))))))]
          exact e
      · have hf : (M.find? fun q => decide (q.1 = k)) = none := by
          rw [val_mkv] at hn0
          exact Option.map_eq_none_iff.mp hn0
        have h4 := h3.same (same_upd (o := .lst []) hl0)
        have nd : d ≠ l0 := fun z => by
          rw [← z, h3.mp.at_] at hl0
          cases hl0
        rw [putK_new _ hn0]
        refine ⟨.inl ⟨rfl, [], ll (by rw [upd_ne nd.symm]; exact upd_same)⟩, by decide, fun tp htp => ?_⟩
        have ntd : tp ≠ d := fun z => by
          rw [z, upd_same] at htp
          cases htp
        have htp1 := htp
        rw [upd_ne ntd] at htp1
        have ntl : tp ≠ l0 := fun z => by
          rw [z, upd_same] at htp1
          cases htp1
        rw [upd_ne ntl] at htp1
        refine ⟨[], by rw [upd_ne ntl.symm, upd_ne nd.symm]; exact upd_same, by decide, ?_⟩
        have h6 := h3.first (H2 := upd (upd (upd (upd H3 l0 (.lst [])) d (.dK (mkv M ++ [(Sum.inr k, .ref l0)]))) tp (.tup [.int ((getA g.ls k []).length : Int), .int t, .int x])) l0 (.lst ([] ++ [.ref tp]))) (tp := tp) (r0 := l0) (e := ⟨((getA g.ls k []).length : Int), t, x⟩) hf hl0 (fun b o n e => by
          have n1 : b ≠ l0 := ne_of_none e hl0
          have n2 : b ≠ tp := ne_of_none e htp1
          rw [upd_ne n1, upd_ne n2, upd_ne n, upd_ne n1]
          exact e) (by rw [upd_ne nd, upd_ne ntd.symm, upd_same]; unfold mkv; rw [List.map_append]; rfl) upd_same (by rw [upd_ne ntl]; exact upd_same)
        refine q3 _ _ (Ow.left s13 ⟨fun b hb => ?_, fun b o hb e => ?_⟩) ⟨dx, d, d2, l, _, N, rfl, h6⟩
        · rw [eA]
          unfold own at hb ⊢
          rw [List.map_append] at hb
          simp only [List.mem_cons, List.mem_append, List.map_cons, List.map_nil, List.not_mem_nil, or_false] at hb ⊢
          rcases hb with z | z | z | z | z | z
          · exact .inl (.inl z)
          · exact .inl (.inr (.inl z))
          · exact .inl (.inr (.inr (.inl z)))
          · exact .inl (.inr (.inr (.inr (.inl z))))
          · exact .inl (.inr (.inr (.inr (.inr z))))
          · rw [z]
            exact .inr hl0
        · have n1 : b ≠ l0 := ne_of_none e hl0
          have n2 : b ≠ tp := ne_of_none e htp1
          have n : b ≠ d := fun z => hb (by rw [z, eA]; simp [own])
          rw [upd_ne n1, upd_ne n2, upd_ne n, upd_ne n1]
          exact e
end
end Mv

set_option Elab.async false
set_option linter.all false
set_option maxRecDepth 100000
set_option maxHeartbeats 4000000
namespace Mv
open PySem PySem.Spec PyProof.Rows L2
abbrev sRa : Stmt := inClass (topS 12) 5
theorem walk_items (d : Addr) (o : Obj) (kvs : List (Key × V)) : Walk (Iti d o kvs) kvs.length (fun H => H d = some (.frz o (.dK kvs))) (fun i H x H' => ∃ T k v, kvs[i]? = some (k, v) ∧ x = .ref T ∧ H T = none ∧ H' = upd H T (.tup [kV k, v])) :=
  ⟨fun i H hi q => ⟨q, hi⟩, fun H q => ⟨q, Nat.le_refl _⟩, fun i H x H' hi q y => y⟩
def cnts (M : MpL) : List (Str × Int) := M.map fun q => (q.1, ((lts q.2.2).length : Int))
theorem take_ne {α : Type} {M : List (Str × α)} {i : Nat} {q : Str × α} (nd : (M.map fun q => q.1).Nodup) (h : M[i]? = some q) : ∀ x ∈ M.take i, x.1 ≠ q.1 := by
  induction M generalizing i with
  | nil => cases h
  | cons a M ih =>
    rw [List.map_cons, List.nodup_cons] at nd
    cases i with
    | zero =>
      intro x hx
      cases hx
    | succ j =>
      have h' : M[j]? = some q := h
      intro x hx e
      rcases List.mem_cons.mp hx with z | z
      · rw [z] at e
        exact nd.1 (List.mem_map.mpr ⟨q, List.mem_of_getElem? h', e.symm⟩)
      · exact ih nd.2 h' x z e
theorem take_one {α : Type} {M : List α} {i : Nat} {q : α} (h : M[i]? = some q) : M.take (i + 1) = M.take i ++ [q] := by
  rw [List.take_add_one, h]
  rfl
theorem fkv_put {M : MpL} {i : Nat} {q : Str × Addr × LtL} (nd : (M.map fun q => q.1).Nodup) (h : M[i]? = some q) : putK (fkv (cnts (M.take i))) (Sum.inr q.1) (V.int ((lts q.2.2).length : Int)) = fkv (cnts (M.take (i + 1))) := by
  rw [putK_new]
  · rw [take_one h]
    unfold cnts fkv
    rw [List.map_append, List.map_append]
    rfl
  · rw [val_fkv]
    refine Option.map_eq_none_iff.mpr (List.find?_eq_none.mpr fun x hx => ?_)
    obtain ⟨y, hy, rfl⟩ := List.mem_map.mp hx
    simpa using take_ne nd h y hy
theorem GateX.ob3 {C : Addr} {H : Hp} {p dx d d2 d3 l : Addr} {M : MpL} {N : LaL} {g g' : Gs} (h : GateX C H p dx d d2 l M N g) (e0 : H d3 = some (.dK (fkv g'.fd))) (n : d ≠ d3) (e1 : g'.ls = g.ls) (e3 : g'.lt = g.lt) : GateX C (upd H p (.ins C dx (gf g' d d3 l))) p dx d d3 l M N g' := by
  have st : ∀ b o, H b = some o → (∀ a b c, o ≠ .ins a b c) → upd H p (.ins C dx (gf g' d d3 l)) b = some o := fun b o e n => by
    rw [upd_ne (ne_lt e h.ob (n _ _ _))]
    exact e
  exact ⟨upd_same, ⟨st _ _ h.mp.at_ (fun _ _ _ z => by cases z), fun q hq => ⟨st _ _ (h.mp.all q hq).at_ (fun _ _ _ z => by cases z), fun x hx => st _ _ ((h.mp.all q hq).all x hx) (fun _ _ _ z => by cases z)⟩⟩, by rw [e1]; exact h.ls, st _ _ e0 (fun _ _ _ z => by cases z), ⟨st _ _ h.la.at_ (fun _ _ _ z => by cases z), fun x hx => st _ _ (h.la.all x hx) (fun _ _ _ z => by cases z)⟩, by rw [e3]; exact h.lt, n, h.nd, h.kd⟩
abbrev rLn (K : PySem.W.Frag) : List V → Hp → VK → Prop := fun xs H Q => ∃ p ys, xs = [.ref p] ∧ (SqL K H p ys ∨ SqT K H p ys) ∧ Q (.int ys.length) H
section
variable {P : Program} {w : World} {K : PySem.W.Frag} {mg : Str → Option Value} {base : Heap} {C CF CB : Addr}
theorem scRa : FnScope ["self", "time", "key", "letters"] ["self", "time"] (defScope sRa) := ⟨rfl, rfl, rfl, by decide +kernel, rfl, by decide +kernel, by decide +kernel⟩
def spRa (C CF : Addr) : Sp := fun vs H Q E => ∃ (p : Addr) (A : List Addr) (g : Gs) (t : Int), vs = [.ref p, .int t] ∧ GateAt C H p A g ∧ g.sm 100 ∧ (g.dn = true → RsN CF H E) ∧ (g.dn = false → ∀ (A' : List Addr) (H' : Hp), Ow A A' H H' → GateAt C H' p A' (g.raise t) → Q (.bl (g.rises t)) H')
theorem ok_ra {f : Addr} {fd : FuncData} (F : Fun K "raise_floor" "Gate.raise_floor" sRa f fd) (B : Bi mg) (X : GtX K C) (cRf : MetX (L2.CX P w) P w K mg base 1 C "_refuse_if_finished" (spRf C CF)) : FnOk P w K mg base (L2.CX P w) 2 f fd ["self", "time"] (spRa C CF) := by
  refine F.okX scRa (fun vs H Q E h => ?_) (fun cdv A outer s H vs Q E hr h => ?_)
  · obtain ⟨p, A, g, t, rfl, _⟩ := h
    rfl
  · obtain ⟨p, A, g, t, rfl, hg, hsm, q1, q0⟩ := h
    refine ⟨_, (pss_cons (ps_expr (pe_mx0 cRf hr (by decide) (passes_call (takes_of rfl rfl rfl rfl) (fun _ _ _ _ h => h)) (pv 0)))
 (pss_cons (ps_if (PW.pt (pw_and (pt_cmpR op_notN (pe_fld (pv 0) rfl) pe_non (nomark _)) (pw_and1 (pt_cmpR op_le (pv 1) (pe_fld (pv 0) rfl) (nomark _)))))
 (pss_one (ps_ret pe_bl)) pss_nil)
 (pss_cons (ps_fld (pv 0) (pv 1) rfl)
 (pss_cons (ps_fld (pv 0) (pe_lock (pe_dc (own := [("key", 2), ("letters", 3)]) (g := gTup K 2 (gCons (gName 2) (gCons (gName 3) gNil))) (tt := tYes) (tk := (tVar 2)) (tv := (tCB (rLn K) (tCons (tVar 3) tNil))) rfl scRa.nd (pi_items (pe_fld (pv 0) rfl)) (blkOk_by (N := ["self", "time", "key", "letters"]) (sc := defScope sRa) (by decide +kernel)) (fun _ _ _ _ _ => (pg_tup rfl (pgs_cons (pg_name (i := 2) scRa.nd rfl (.inl rfl)) (pgs_cons (pg_name (i := 3) scRa.nd rfl (.inl rfl)) pgs_nil)))) (fun _ _ _ _ _ => pts_nil) (fun _ _ _ _ _ => (pv 2)) (fun _ _ _ _ _ => (pe_callB call_len_seq (by rfl) B.len PySem.boot_len (pa_cons (pv 3) pa_nil))))) rfl)
 (pss_one (ps_ret pe_bl)))))), ?_⟩
    simp only [tSeq, tAsg, gName, tOp, rI, rI0, rU, tUn, tVar, tC, tCB, tCons, tNil, tTest, tIfS, tRet, tRetN, tDrop, tNext, tBreak, tCont, rEq, rNe, CDiv, CDivN, CMul, tBM, tBM0, tTup, tLst, tAug, tIf, tAnd, tOr, tNot, tAndV, tOrV, tNotV, tIsN, tNotN, tB, scal, tCall, cxK, cxKn, rIxT, rIxL, rIn, rAppend, rReverse, tVals, tDSetd, tDGet, tDGet1, tDGet2, tDIn, tDNotIn, rSortV, rSortT, rPop, rSortL, rSortT, tSl, tNoPart, tPart, List.append_nil, L2.start, List.map_cons, List.map_nil, List.length_cons, List.length_nil, List.replicate_succ, List.replicate_zero, List.cons_append, List.nil_append, Nat.reduceAdd, Nat.reduceSub, exists_eq, exists_eq', tMeth, tFld, sFld, List.getElem?_cons_zero, List.getElem?_cons_succ, List.set_cons_zero, List.set_cons_succ, Option.some.injEq, V.int.injEq, V.bl.injEq, V.str.injEq, V.ref.injEq, List.cons.injEq, and_true, true_and, and_false, false_and, reduceCtorEq, exists_false, or_false, false_or, exists_and_left, exists_and_right, exists_eq_left, exists_eq_left', exists_eq_right, exists_eq_right', exists_const, ite_true, ite_false, Bool.false_eq_true, if_true, if_false, decide_true, decide_false]
    obtain ⟨dx, d, d2, l, M, N, eA, h⟩ := id hg
    subst eA
    have tail : g.dn = false → g.rises t = true → tLockE (tDc (iItems (tFld K (tVar 0) ("_letters" : Str))) (gTup K 2 (gCons (gName 2) (gCons (gName 3) gNil))) tYes (tVar 2) (tCB (rLn K) (tCons (tVar 3) tNil)) [2, 3]) [some (V.ref p), some (V.int t), none, none] (upd H p (HO.ins C dx (putF ("_floor" : Str) (V.int t) (gf g d d2 l)))) fun y H1 => ∃ x x_6 x_7, H1 p = some (HO.ins x x_6 x_7) ∧ Cls K x ∧ NoAttr K x ("_floored" : Str) ∧ x_7.length < 1000 ∧ Q (V.bl true) (upd H1 p (HO.ins x x_6 (putF ("_floored" : Str) y x_7))) := fun ed er => by
      have q3 := q0 ed
      rw [er] at q3
      rw [gf_fl]
      have h1 : GateX C (upd H p (.ins C dx (gf { g with fl := some t } d d2 l))) p dx d d2 l M N { g with fl := some t } := h.ob' rfl rfl rfl
      have o1 : Ow (own p d d2 l M) (own p d d2 l M) H (upd H p (.ins C dx (gf { g with fl := some t } d d2 l))) := ow_ob
      generalize upd H p (.ins C dx (gf { g with fl := some t } d d2 l)) = H1 at h1 o1
      refine ⟨d, _, h1.mp.at_, True.intro, fun od => ?_⟩
      have npd : p ≠ d := ne_lt h1.ob h1.mp.at_ (fun z => by cases z)
      refine ⟨_, rfl, p, C, dx, _, _, rfl, by rw [upd_ne npd]; exact h1.ob, X.cl, X.n3, gf3, d, od, mkv M, rfl, upd_same, fun D hD => ?_⟩
      have ndD : D ≠ d := fun z => by
        rw [z, upd_same] at hD
        cases hD
      refine dc_it (Q := fun v H' => H' d = some (.frz od (.dK (mkv M))) ∧ ∃ x x_6 x_7, upd H' d (.dK (mkv M)) p = some (HO.ins x x_6 x_7) ∧ Cls K x ∧ NoAttr K x ("_floored" : Str) ∧ x_7.length < 1000 ∧ Q (V.bl true) (upd (upd H' d (.dK (mkv M))) p (HO.ins x x_6 (putF ("_floored" : Str) v x_7)))) (walk_items d od (mkv M)) (fun i H' => Same (upd H1 d (.frz od (.dK (mkv M)))) H' ∧ H' D = some (.dK (fkv (cnts (M.take i))))) ⟨same_upd hD, upd_same⟩ (fun i H' _ z => z.1 _ _ upd_same) ?_ ?_
      · rintro i x H3 H4 hi ⟨sm, hd⟩ ⟨T, k, v, hkv, rfl, hT, rfl⟩
        unfold mkv at hi
        rw [List.length_map] at hi
        obtain ⟨q, hq, e⟩ : ∃ q, M[i]? = some q ∧ (Sum.inr q.1, V.ref q.2.1) = (k, v) := by
          unfold mkv at hkv
          rw [List.getElem?_map] at hkv
          exact Option.map_eq_some_iff.mp hkv
        obtain ⟨rfl, rfl⟩ := Prod.mk.inj e
        have hq3 := h1.mp.all q (List.mem_of_getElem? hq)
        have nTD : T ≠ D := fun z => by
          rw [z, hd] at hT
          cases hT
        have nqd : q.2.1 ≠ d := ne_lt hq3.at_ h1.mp.at_ (fun z => by cases z)
        have hq4 : H3 q.2.1 = some (.lst (q.2.2.map fun x => V.ref x.1)) := sm _ _ (by rw [upd_ne nqd]; exact hq3.at_)
        refine ⟨T, [.str q.1, .ref q.2.1], rfl, .inl (.inl upd_same), rfl, .str q.1, [.ref q.2.1], rfl, .ref q.2.1, [], rfl, rfl, ?_⟩
        have nTd : T ≠ q.2.1 := fun z => by
          rw [z, hq4] at hT
          cases hT
        have e5 : (q.2.2.map fun x => V.ref x.1).length = (lts q.2.2).length := by
          unfold lts
          rw [List.length_map, List.length_map]
        have hl : (fkv (cnts (M.take i))).length < sizeLine := by
          unfold fkv cnts
          rw [List.length_map, List.length_map, List.length_take]
          have e1 : M.length = g.ls.length := by
            rw [← h.ls]
            exact (List.length_map _).symm
          have := hsm.ls
          exact small1000 (by omega)
        refine ⟨rfl, .str q.1, rfl, .ref q.2.1, rfl, q.2.1, _, rfl, .inl (ll (by rw [upd_ne nTd.symm]; exact hq4)), fkv (cnts (M.take i)), .inr q.1, rfl, by rw [upd_ne nTD.symm]; exact hd, hl, fun b o e => ?_, ?_⟩
        · rw [upd_ne (ne_of_none e hD), upd_ne (ne_of_none (sm _ _ e) hT)]
          exact sm _ _ e
        · rw [upd_same, e5, fkv_put h1.kd hq]
      · rintro H3 ⟨sm, hd⟩
        have eM : (mkv M).length = M.length := List.length_map _
        rw [eM, List.take_length] at hd
        have hH1 : H1 D = none := by
          rw [upd_ne ndD] at hD
          exact hD
        have sm2 : Same H1 (upd H3 d (.dK (mkv M))) := fun b o e => by
          by_cases c : b = d
          · subst c
            rw [upd_same]
            rw [h1.mp.at_] at e
            exact e
          · rw [upd_ne c]
            exact sm _ _ (by rw [upd_ne c]; exact e)
        have h2 := h1.same sm2
        have hd2 : upd H3 d (.dK (mkv M)) D = some (.dK (fkv (cnts M))) := by
          rw [upd_ne ndD]
          exact hd
        refine ⟨sm _ _ upd_same, C, dx, _, h2.ob, X.cl, X.n4, by show 5 < 1000; decide, ?_⟩
        rw [gf_fd]
        have ec : cnts M = g.ls.map fun q => (q.1, (q.2.length : Int)) := by
          rw [← h.ls]
          unfold cnts mpl
          rw [List.map_map]
          rfl
        have er2 : g.raise t = { g with fl := some t, fd := g.ls.map fun q => (q.1, (q.2.length : Int)) } := by
          unfold Gs.raise
          rw [if_pos er]
        refine q3 (own p d D l M) _ (o1.trans ⟨fun b hb => ?_, fun b o hb e => ?_⟩) ⟨dx, d, D, l, M, N, rfl, ?_⟩
        · unfold own at hb ⊢
          simp only [List.mem_cons] at hb ⊢
          rcases hb with z | z | z | z | z
          · exact .inl (.inl z)
          · exact .inl (.inr (.inl z))
          · rw [z]
            exact .inr hH1
          · exact .inl (.inr (.inr (.inr (.inl z))))
          · exact .inl (.inr (.inr (.inr (.inr z))))
        · rw [upd_ne (fun z => hb (by rw [z]; exact List.mem_cons_self))]
          exact sm2 _ _ e
        · rw [er2]
          exact h2.ob3 (g' := { g with fl := some t, fd := g.ls.map fun q => (q.1, (q.2.length : Int)) }) (by rw [hd2, ec]) ndD.symm rfl rfl
    refine ⟨dx, _, h.ob, gfm (by decide +kernel), p, _, g, rfl, hg, fun ed => ⟨C, dx, _, h.ob, X.cl, X.n1, _, gf1, ?_⟩, q1⟩
    cases ef : g.fl with
    | none =>
      exact if_F (by rfl) ⟨C, dx, _, h.ob, X.cl, X.n1, by show 5 < 1000; decide, tail ed (by unfold Gs.rises; rw [ef])⟩
    | some fl =>
      refine if_T (by rfl) ⟨C, dx, _, h.ob, X.cl, X.n1, _, gf1, fl, by rw [ef]; rfl, ite2 (fun c => ?_) (fun c => ⟨C, dx, _, h.ob, X.cl, X.n1, by show 5 < 1000; decide, tail ed ?_⟩)⟩
      · have e1 : g.rises t = false := by
          unfold Gs.rises
          rw [ef]
          exact decide_eq_false (by have := of_decide_eq_true c; omega)
        have q3 := q0 ed _ H (Ow.of fun _ _ e => e)
        rw [e1] at q3
        refine q3 ?_
        have e2 : g.raise t = g := by
          unfold Gs.raise
          rw [e1]
          rfl
        rw [e2]
        exact hg
      · unfold Gs.rises
        rw [ef]
        exact decide_eq_true (by have : ¬ t ≤ fl := fun z => c (decide_eq_true z); omega)
end
end Mv

set_option Elab.async false
set_option linter.all false
set_option maxRecDepth 100000
set_option maxHeartbeats 4000000
namespace Mv
open PySem PySem.Spec PyProof.Rows L2
abbrev sTk : Stmt := inClass (topS 12) 7
/-! ### deeds -/
inductive Dd where
  | ev (v : V) (t x : Int)
  | ra (t : Int)
  | ya (s : V)
  | fi
def Dd.xs : Dd → List V
  | .ev v t x => [.str "event", v, .int t, .int x]
  | .ra t => [.str "raise", .int t]
  | .ya s => [.str "yard", s]
  | .fi => [.str "finish"]
def Dd.o (e : Dd) : HO := .tup e.xs
/-- an event's key is a name -/
def Dd.nm : Dd → Bool
  | .ev v _ _ => nmV v
  | _ => true
def Dd.bad (H : Hp) : Dd → Prop
  | .ev v _ _ => BadV H v
  | _ => True
def Gs.step (g : Gs) : Dd → Gs
  | .ev (.str k) t x => g.event k t x
  | .ra t => g.raise t
  | .fi => g.fin
  | _ => g
def Gs.ans (g : Gs) : Dd → V
  | .ev (.str k) t _ => if g.ok k t = true then .int ((getA g.ls k []).length : Int) else .non
  | .ra t => .bl (g.rises t)
  | _ => .non
section
variable {P : Program} {w : World} {K : PySem.W.Frag} {mg : Str → Option Value} {base : Heap} {C CF CB : Addr}
theorem scTk : FnScope ["self", "deed", "word"] ["self", "deed"] (defScope sTk) := ⟨rfl, rfl, rfl, by decide +kernel, rfl, by decide +kernel, by decide +kernel⟩
def spTk (C CF CB : Addr) : Sp := fun vs H Q E => ∃ (p : Addr) (A : List Addr) (g : Gs) (a : Addr) (dd : Dd), vs = [.ref p, .ref a] ∧ GateAt C H p A g ∧ g.sm 100 ∧ H a = some dd.o ∧ dd.bad H ∧ (g.dn = true → RsN CF H E) ∧ (g.dn = false → ∀ v t x, dd = .ev v t x → nmV v = false → RsF CB "name" H v E) ∧
  (g.dn = false → dd.nm = true → ∀ (A' : List Addr) (H' : Hp), Ow A A' H H' → GateAt C H' p A' (g.step dd) → Q (g.ans dd) H')
theorem ok_tk {f : Addr} {fd : FuncData} (F : Fun K "take" "Gate.take" sTk f fd) (B : Bi mg) (X : GtX K C) (cRf : MetX (L2.CX P w) P w K mg base 1 C "_refuse_if_finished" (spRf C CF)) (cEv : MetX (L2.CX P w) P w K mg base 4 C "event" (spEv C CF CB)) (cRa : MetX (L2.CX P w) P w K mg base 2 C "raise_floor" (spRa C CF)) (cFi : MetX (L2.CX P w) P w K mg base 2 C "finish" (spFi C CF)) : FnOk P w K mg base (L2.CX P w) 5 f fd ["self", "deed"] (spTk C CF CB) := by
  refine F.okX scTk (fun vs H Q E h => ?_) (fun cdv A outer s H vs Q E hr h => ?_)
  · obtain ⟨p, A, g, a, dd, rfl, _⟩ := h
    rfl
  · obtain ⟨p, A, g, a, dd, rfl, hg, hsm, ha, hb, q1, q2, q0⟩ := h
    refine ⟨_, (pss_cons (ps_set (i := 2) scTk.nd rfl (.inl rfl) (pe_ix ix_tup (pv 1) pe_int (fun _ _ => rfl)))
 (pss_cons (ps_if (pt_cmpR op_eq (pv 2) pe_str (nomark _))
 (pss_one (ps_ret (pe_mx cEv hr (by decide) (passes_call (takes_of rfl rfl rfl rfl) (fun _ _ _ _ h => h)) (pv 0) (pa_cons (pe_ix ix_tup (pv 1) pe_int (fun _ _ => rfl)) (pa_cons (pe_ix ix_tup (pv 1) pe_int (fun _ _ => rfl)) (pa_cons (pe_ix ix_tup (pv 1) pe_int (fun _ _ => rfl)) pa_nil)))))) pss_nil)
 (pss_cons (ps_if (pt_cmpR op_eq (pv 2) pe_str (nomark _))
 (pss_one (ps_ret (pe_mx cRa hr (by decide) (passes_call (takes_of rfl rfl rfl rfl) (fun _ _ _ _ h => h)) (pv 0) (pa_cons (pe_ix ix_tup (pv 1) pe_int (fun _ _ => rfl)) pa_nil)))) pss_nil)
 (pss_cons (ps_if (pt_cmpR op_eq (pv 2) pe_str (nomark _))
 (pss_one (ps_ret (pe_mx0 cFi hr (by decide) (passes_call (takes_of rfl rfl rfl rfl) (fun _ _ _ _ h => h)) (pv 0)))) pss_nil)
 (pss_cons (ps_expr (pe_mx0 cRf hr (by decide) (passes_call (takes_of rfl rfl rfl rfl) (fun _ _ _ _ h => h)) (pv 0)))
 (pss_one (ps_ret pe_non))))))), ?_⟩
    simp only [tSeq, tAsg, gName, tOp, rI, rI0, rU, tUn, tVar, tC, tCB, tCons, tNil, tTest, tIfS, tRet, tRetN, tDrop, tNext, tBreak, tCont, rEq, rNe, CDiv, CDivN, CMul, tBM, tBM0, tTup, tLst, tAug, tIf, tAnd, tOr, tNot, tAndV, tOrV, tNotV, tIsN, tNotN, tB, scal, tCall, cxK, cxKn, rIxT, rIxL, rIn, rAppend, rReverse, tVals, tDSetd, tDGet, tDGet1, tDGet2, tDIn, tDNotIn, rSortV, rSortT, rPop, rSortL, rSortT, tSl, tNoPart, tPart, List.append_nil, L2.start, List.map_cons, List.map_nil, List.length_cons, List.length_nil, List.replicate_succ, List.replicate_zero, List.cons_append, List.nil_append, Nat.reduceAdd, Nat.reduceSub, exists_eq, exists_eq', tMeth, List.getElem?_cons_zero, List.getElem?_cons_succ, List.set_cons_zero, List.set_cons_succ, Option.some.injEq, V.int.injEq, V.bl.injEq, V.str.injEq, V.ref.injEq, List.cons.injEq, and_true, true_and, and_false, false_and, reduceCtorEq, exists_false, or_false, false_or, exists_and_left, exists_and_right, exists_eq_left, exists_eq_left', exists_eq_right, exists_eq_right', exists_const, ite_true, ite_false, Bool.false_eq_true, if_true, if_false, decide_true, decide_false]
    obtain ⟨dx, d, d2, l, M, N, eA, h⟩ := id hg
    cases dd with
    | ev v t x =>
      refine ⟨_, tt ha, .str "event", rfl, rfl, if_T (decide_eq_true rfl) ⟨dx, _, h.ob, gfm (by decide +kernel), _, tt ha, v, rfl, _, tt ha, .int t, rfl, _, tt ha, .int x, rfl, p, A, g, v, t, x, rfl, hg, hb, hsm, q1, fun ed en => q2 ed v t x rfl en, fun ed k ek en A' H' o' g' => ?_⟩⟩
      subst ek
      exact q0 ed en A' H' o' g'
    | ra t =>
      refine ⟨_, tt ha, .str "raise", rfl, rfl, if_F (by decide +kernel) ⟨rfl, if_T (decide_eq_true rfl) ⟨dx, _, h.ob, gfm (by decide +kernel), _, tt ha, .int t, rfl, p, A, g, t, rfl, hg, hsm, q1, fun ed A' H' o' g' => q0 ed rfl A' H' o' g'⟩⟩⟩
    | ya z =>
      refine ⟨_, tt ha, .str "yard", rfl, rfl, if_F (by decide +kernel) ⟨rfl, if_F (by decide +kernel) ⟨rfl, if_F (by decide +kernel) ⟨dx, _, h.ob, gfm (by decide +kernel), p, A, g, rfl, hg, fun ed => q0 ed rfl A H (Ow.of fun _ _ e => e) hg, q1⟩⟩⟩⟩
    | fi =>
      refine ⟨_, tt ha, .str "finish", rfl, rfl, if_F (by decide +kernel) ⟨rfl, if_F (by decide +kernel) ⟨rfl, if_T (decide_eq_true rfl) ⟨dx, _, h.ob, gfm (by decide +kernel), p, A, g, rfl, hg, q1, fun ed H' o' g' => q0 ed rfl A H' o' g'⟩⟩⟩⟩
/-- {k: .. for k, v in d.items()}, the dict locked meanwhile -/
theorem lock_dc {ta tv : TE} {s0 s1 s2 s3 : Option V} {H : Hp} {R : VK} {d : Addr} {kvs : List (Key × V)} (hd : H d = some (.dK kvs)) (hta : ∀ od (Q : VK), Q (.ref d) (upd H d (.frz od (.dK kvs))) → ta [s0, s1, s2, s3] (upd H d (.frz od (.dK kvs))) Q) (Pv : Hp → Addr → Nat → Hp → Prop)
    (h0 : ∀ HF D, HF D = none → Pv HF D 0 (upd HF D (.dK []))) (hG : ∀ HF D i H', Pv HF D i H' → Same HF H')
    (hs : ∀ HF D i k v T H3, (∀ b o, b ≠ d → H b = some o → HF b = some o) → HF D = none → Pv HF D i H3 → kvs[i]? = some (k, v) → H3 T = none →
      tv [s0, s1, some (kV k), some v] (upd H3 T (.tup [kV k, v])) fun z H5 => ∃ kvs' k', kV k = kV k' ∧ H5 D = some (.dK kvs') ∧ kvs'.length < sizeLine ∧ Pv HF D (i + 1) (upd H5 D (.dK (putK kvs' k' z))))
    (hf : ∀ HF D H3, (∀ b o, b ≠ d → H b = some o → HF b = some o) → (∀ b, HF b = none → H b = none) → HF D = none → (∃ od, H3 d = some (.frz od (.dK kvs))) → Pv HF D kvs.length H3 → R (.ref D) (upd H3 d (.dK kvs))) :
    tLockE (tDc (iItems ta) (gTup K 2 (gCons (gName 2) (gCons (gName 3) gNil))) tYes (tVar 2) tv [2, 3]) [s0, s1, s2, s3] H R := by
  refine ⟨d, _, hd, True.intro, fun od => hta od _ ⟨d, od, kvs, rfl, upd_same, fun D hD => ?_⟩⟩
  have eF : ∀ b o, b ≠ d → H b = some o → upd H d (.frz od (.dK kvs)) b = some o := fun b o n e => by
    rw [upd_ne n]
    exact e
  have eN : ∀ b, upd H d (.frz od (.dK kvs)) b = none → H b = none := fun b e => by
    have n : b ≠ d := fun z => by
      rw [z, upd_same] at e
      cases e
    rw [upd_ne n] at e
    exact e
  have eD : upd H d (.frz od (.dK kvs)) d = some (.frz od (.dK kvs)) := upd_same
  generalize upd H d (.frz od (.dK kvs)) = HF at hD eF eN eD ⊢
  refine dc_it (Q := fun v H' => H' d = some (.frz od (.dK kvs)) ∧ R v (upd H' d (.dK kvs))) (walk_items d od kvs) (fun i H' => Pv HF D i H') (h0 HF D hD) (fun i H' _ z => hG HF D i H' z _ _ eD) ?_ ?_
  · rintro i x H3 H4 hi hp ⟨T, k, v, hkv, rfl, hT, rfl⟩
    refine ⟨T, [kV k, v], rfl, .inl (.inl upd_same), rfl, kV k, [v], rfl, v, [], rfl, rfl, rfl, ?_⟩
    exact ⟨kV k, rfl, hs HF D i k v T H3 eF hD hp hkv hT⟩
  · rintro H3 hp
    exact ⟨hG HF D _ H3 hp _ _ eD, hf HF D H3 eF eN hD ⟨od, hG HF D _ H3 hp _ _ eD⟩ hp⟩
theorem Lts.dK {H : Hp} {l D : Addr} {L : LtL} {kvs : List (Key × V)} {o : HO} (h : Lts H l L) (hD : H D = some (.dK kvs)) : Lts (upd H D o) l L := ⟨by rw [upd_ne (ne_lt h.at_ hD (fun z => by cases z))]; exact h.at_, fun q hq => by rw [upd_ne (ne_lt (h.all q hq) hD (fun z => by cases z))]; exact h.all q hq⟩
theorem Lts.ins {H : Hp} {l D C dx : Addr} {L : LtL} {fs : List (Str × V)} {o : HO} (h : Lts H l L) (hD : H D = some (.ins C dx fs)) : Lts (upd H D o) l L := ⟨by rw [upd_ne (ne_lt h.at_ hD (fun z => by cases z))]; exact h.at_, fun q hq => by rw [upd_ne (ne_lt (h.all q hq) hD (fun z => by cases z))]; exact h.all q hq⟩
theorem Las.ins {H : Hp} {l D C dx : Addr} {L : LaL} {fs : List (Str × V)} {o : HO} (h : Las H l L) (hD : H D = some (.ins C dx fs)) : Las (upd H D o) l L := ⟨by rw [upd_ne (ne_lt h.at_ hD (fun z => by cases z))]; exact h.at_, fun q hq => by rw [upd_ne (ne_lt (h.all q hq) hD (fun z => by cases z))]; exact h.all q hq⟩
theorem Mps.ins {H : Hp} {l D C dx : Addr} {M : MpL} {fs : List (Str × V)} {o : HO} (h : Mps H l M) (hD : H D = some (.ins C dx fs)) : Mps (upd H D o) l M := ⟨by rw [upd_ne (ne_lt h.at_ hD (fun z => by cases z))]; exact h.at_, fun q hq => (h.all q hq).ins hD⟩
theorem at_ins {H : Hp} {b D C dx : Addr} {fs : List (Str × V)} {kvs : List (Key × V)} {o : HO} (h : H b = some (.dK kvs)) (hD : H D = some (.ins C dx fs)) : upd H D o b = some (.dK kvs) := by
  rw [upd_ne (ne_lt h hD (fun z => by cases z))]
  exact h
theorem none_back {H H' : Hp} {b : Addr} (s : Same H H') (h : H' b = none) : H b = none := by
  cases e : H b with
  | none => rfl
  | some o =>
    rw [s _ _ e] at h
    cases h
/-- a twin's letters, as far as they are made -/
def TwI (M : MpL) (HF : Hp) (D : Addr) (i : Nat) (H' : Hp) : Prop := Same HF H' ∧ ∃ M' : MpL, H' D = some (.dK (mkv M')) ∧ (M'.map fun q => q.1) = ((M.take i).map fun q => q.1) ∧ mpl M' = mpl (M.take i) ∧ (∀ q ∈ M', Lts H' q.2.1 q.2.2 ∧ HF q.2.1 = none) ∧ (M'.map fun q => q.2.1).Nodup
theorem TwI.step {M : MpL} {HF : Hp} {D T l : Addr} {i : Nat} {H3 : Hp} {q : Str × Addr × LtL} {oT : HO} (nd : (M.map fun q => q.1).Nodup) (hD : HF D = none) (h : TwI M HF D i H3) (hq : M[i]? = some q) (ht : H3 T = none) (hl : upd H3 T oT l = none) (hL : Lts H3 q.2.1 q.2.2) (hn : M.length ≤ 100) :
    ∃ kvs', upd (upd H3 T oT) l (.lst (q.2.2.map fun x => V.ref x.1)) D = some (.dK kvs') ∧ kvs'.length < sizeLine ∧ TwI M HF D (i + 1) (upd (upd (upd H3 T oT) l (.lst (q.2.2.map fun x => V.ref x.1))) D (.dK (putK kvs' (Sum.inr q.1) (.ref l)))) := by
  obtain ⟨sm, M', hd, k1, k2, al, n2⟩ := h
  have sT : Same H3 (upd (upd H3 T oT) l (.lst (q.2.2.map fun x => V.ref x.1))) := (same_upd ht).trans (same_upd hl)
  have hl3 : H3 l = none := by
    have n : l ≠ T := fun z => by
      rw [z, upd_same] at hl
      cases hl
    rw [upd_ne n] at hl
    exact hl
  have hlF : HF l = none := by
    cases e : HF l with
    | none => rfl
    | some o =>
      rw [sm _ _ e] at hl3
      cases hl3
  have hLl : Lts (upd (upd H3 T oT) l (.lst (q.2.2.map fun x => V.ref x.1))) l q.2.2 := ⟨upd_same, (hL.same sT).all⟩
  generalize upd (upd H3 T oT) l (.lst (q.2.2.map fun x => V.ref x.1)) = H5 at sT hLl ⊢
  have hd5 := sT _ _ hd
  refine ⟨mkv M', hd5, ?_, ?_⟩
  · unfold mkv
    rw [List.length_map]
    have e1 := congrArg List.length k1
    rw [List.length_map, List.length_map, List.length_take] at e1
    exact small1000 (by omega)
  · refine ⟨fun b o e => ?_, M' ++ [(q.1, l, q.2.2)], ?_, ?_, ?_, ?_, ?_⟩
    · rw [upd_ne (ne_of_none e hD)]
      exact sT _ _ (sm _ _ e)
    · rw [upd_same, putK_new]
      · unfold mkv
        rw [List.map_append]
        rfl
      · rw [val_mkv]
        refine Option.map_eq_none_iff.mpr (List.find?_eq_none.mpr fun x hx => ?_)
        have : x.1 ∈ (M.take i).map fun q => q.1 := by
          rw [← k1]
          exact List.mem_map.mpr ⟨x, hx, rfl⟩
        obtain ⟨y, hy, e⟩ := List.mem_map.mp this
        have := take_ne nd hq y hy
        rw [← e]
        simpa using this
    · rw [take_one hq, List.map_append, List.map_append, k1]
      rfl
    · rw [take_one hq]
      unfold mpl at k2 ⊢
      rw [List.map_append, List.map_append, k2]
      rfl
    · intro x hx
      rcases List.mem_append.mp hx with hx | hx
      · exact ⟨((al x hx).1.same sT).dK hd5, (al x hx).2⟩
      · rw [List.mem_singleton.mp hx]
        exact ⟨hLl.dK hd5, hlF⟩
    · rw [List.map_append, List.nodup_append]
      refine ⟨n2, by simp, fun a ha b hb z => ?_⟩
      obtain rfl := List.mem_singleton.mp hb
      subst z
      obtain ⟨x, hx, e⟩ := List.mem_map.mp ha
      have := (al x hx).1.at_
      rw [e, hl3] at this
      cases this
abbrev sTw : Stmt := inClass (topS 12) 13
theorem scTw : FnScope ["self", "other", "key", "letters"] ["self"] (defScope sTw) := ⟨rfl, rfl, rfl, by decide +kernel, rfl, by decide +kernel, by decide +kernel⟩
abbrev rLs (K : PySem.W.Frag) : List V → Hp → VK → Prop := fun xs H Q => ∃ p ys, xs = [.ref p] ∧ (SqL K H p ys ∨ SqT K H p ys) ∧ ∀ l, H l = none → Q (.ref l) (upd H l (.lst ys))
/-- the class itself, as a maker -/
structure MkX (P : Program) (w : World) (K : PySem.W.Frag) (mg : Str → Option Value) (base : Heap) (C : Addr) : Prop where
  ex : ∃ (f : Addr) (fd : FuncData), Mk K C f ∧ FnOk P w K mg base CX0 1 f fd ["self"] (spGI C) ∧ Binds K fd ["self"] []
  g : mg "Gate" = some (.ref C)
theorem gf_flV (g : Gs) (d d2 l : Addr) (t : Option Int) : putF "_floor" (fV t) (gf g d d2 l) = gf { g with fl := t } d d2 l := by
  simp [putF, gf]
/-- a gate in the same state, with new things all through -/
def spTw (C : Addr) : Sp := fun vs H Q _ => ∃ (p : Addr) (A : List Addr) (g : Gs), vs = [.ref p] ∧ GateAt C H p A g ∧ g.sm 100 ∧ ∀ (p2 : Addr) (A2 : List Addr) (H' : Hp), Same H H' → (∀ b ∈ A2, H b = none) → GateAt C H' p2 A2 g → Q (.ref p2) H'
theorem ok_tw {f : Addr} {fd : FuncData} (F : Fun K "twin" "Gate.twin" sTw f fd) (B : Bi mg) (hdict : mg "dict" = none) (X : GtX K C) (Y : MkX P w K mg base C) : FnOk P w K mg base CX0 3 f fd ["self"] (spTw C) := by
  obtain ⟨fG, fdG, YM, YF, YB⟩ := Y.ex
  refine F.ok scTw (fun vs H Q E h => ?_) (fun cdv A outer s H vs Q E hr h => ?_)
  · obtain ⟨p, A, g, rfl, _⟩ := h
    rfl
  · obtain ⟨p, A, g, rfl, hg, hsm, q⟩ := h
    refine ⟨_, (pss_cons (ps_set (i := 1) scTw.nd rfl (.inl rfl) (pe_make0 YM YF hr (by rfl) Y.g YB .nil pass0))
 (pss_cons (ps_fld (pv 1) (pe_fld (pv 0) rfl) rfl)
 (pss_cons (ps_fld (pv 1) (pe_fld (pv 0) rfl) rfl)
 (pss_cons (ps_fld (pv 1) (pe_lock (pe_dc (own := [("key", 2), ("letters", 3)]) (g := gTup K 2 (gCons (gName 2) (gCons (gName 3) gNil))) (tt := tYes) (tk := (tVar 2)) (tv := (tCB (rLs K) (tCons (tVar 3) tNil))) rfl scTw.nd (pi_items (pe_fld (pv 0) rfl)) (blkOk_by (N := ["self", "other", "key", "letters"]) (sc := defScope sTw) (by decide +kernel)) (fun _ _ _ _ _ => (pg_tup rfl (pgs_cons (pg_name (i := 2) scTw.nd rfl (.inl rfl)) (pgs_cons (pg_name (i := 3) scTw.nd rfl (.inl rfl)) pgs_nil)))) (fun _ _ _ _ _ => pts_nil) (fun _ _ _ _ _ => (pv 2)) (fun _ _ _ _ _ => (pe_callTy call_list_of (by rfl) B.list (by decide +kernel) (pa_cons (pv 3) pa_nil))))) rfl)
 (pss_cons (ps_fld (pv 1) (pe_callTy call_dictD (by rfl) hdict (by decide +kernel) (pa_cons (pe_fld (pv 0) rfl) pa_nil)) rfl)
 (pss_cons (ps_fld (pv 1) (pe_callTy call_list_of (by rfl) B.list (by decide +kernel) (pa_cons (pe_fld (pv 0) rfl) pa_nil)) rfl)
 (pss_one (ps_ret (pv 1))))))))), ?_⟩
    simp only [tSeq, tAsg, gName, tOp, rI, rI0, rU, tUn, tVar, tC, tCB, tCons, tNil, tTest, tIfS, tRet, tRetN, tDrop, tNext, tBreak, tCont, rEq, rNe, CDiv, CDivN, CMul, tBM, tBM0, tTup, tLst, tAug, tIf, tAnd, tOr, tNot, tAndV, tOrV, tNotV, tIsN, tNotN, tB, scal, tCall, cxK, cxKn, rIxT, rIxL, rIn, rAppend, rReverse, tVals, tDSetd, tDGet, tDGet1, tDGet2, tDIn, tDNotIn, rSortV, rSortT, rPop, rSortL, rSortT, tSl, tNoPart, tPart, List.append_nil, L2.start, List.map_cons, List.map_nil, List.length_cons, List.length_nil, List.replicate_succ, List.replicate_zero, List.cons_append, List.nil_append, Nat.reduceAdd, Nat.reduceSub, exists_eq, exists_eq', tMeth, tFld, sFld, tMake, List.getElem?_cons_zero, List.getElem?_cons_succ, List.set_cons_zero, List.set_cons_succ, Option.some.injEq, V.int.injEq, V.bl.injEq, V.str.injEq, V.ref.injEq, List.cons.injEq, and_true, true_and, and_false, false_and, reduceCtorEq, exists_false, or_false, false_or, exists_and_left, exists_and_right, exists_eq_left, exists_eq_left', exists_eq_right, exists_eq_right', exists_const, ite_true, ite_false, Bool.false_eq_true, if_true, if_false, decide_true, decide_false]
    obtain ⟨dx, d, d2, l, M, N, eA, h⟩ := id hg
    intro x dx1 hx hdx1 ndx
    refine ⟨x, dx1, rfl, upd_same, fun A2 H2 a1 a2 g2 => ⟨rfl, ?_⟩⟩
    obtain ⟨dx2, d', d2', l', M0, N0, eA2, g2⟩ := g2
    have g2 := g2.ob
    have s2 : Same H H2 := fun b o e => a2 b o (ne_of_none e hx) (by rw [upd_ne (ne_of_none e hx), upd_ne (ne_of_none e hdx1)]; exact e)
    have sx : ∀ (Hk : Hp) (o : HO), Same H Hk → Same H (upd Hk x o) := fun Hk o sk b o' e => by
      rw [upd_ne (ne_of_none e hx)]
      exact sk _ _ e
    clear a1 a2 eA2
    refine ⟨C, dx, _, s2 _ _ h.ob, X.cl, X.n1, _, gf1, C, dx2, _, g2, X.cl, X.n1, by show 5 < 1000; decide, ?_⟩
    rw [gf_flV]
    have s3 := sx _ (.ins C dx2 (gf { Gs.start with fl := g.fl } d' d2' l')) s2
    have g3 : upd H2 x (.ins C dx2 (gf { Gs.start with fl := g.fl } d' d2' l')) x = some (.ins C dx2 (gf { Gs.start with fl := g.fl } d' d2' l')) := upd_same
    generalize upd H2 x (.ins C dx2 (gf { Gs.start with fl := g.fl } d' d2' l')) = H3 at s3 g3 ⊢
    clear s2 g2
    refine ⟨C, dx, _, s3 _ _ h.ob, X.cl, X.n2, _, gf2, C, dx2, _, g3, X.cl, X.n2, by show 5 < 1000; decide, ?_⟩
    rw [gf_dn]
    have s4 := sx _ (.ins C dx2 (gf { Gs.start with fl := g.fl, dn := g.dn } d' d2' l')) s3
    have g4 : upd H3 x (.ins C dx2 (gf { Gs.start with fl := g.fl, dn := g.dn } d' d2' l')) x = some (.ins C dx2 (gf { Gs.start with fl := g.fl, dn := g.dn } d' d2' l')) := upd_same
    generalize upd H3 x (.ins C dx2 (gf { Gs.start with fl := g.fl, dn := g.dn } d' d2' l')) = H4 at s4 g4 ⊢
    clear s3 g3
    have h4 := h.same s4
    have npd : p ≠ d := ne_lt h4.ob h4.mp.at_ (fun z => by cases z)
    have nxd : x ≠ d := ne_lt g4 h4.mp.at_ (fun z => by cases z)
    have lM : M.length ≤ 100 := by
      have e1 : M.length = g.ls.length := by
        rw [← h.ls]
        exact (List.length_map _).symm
      have := hsm.ls
      omega
    refine lock_dc h4.mp.at_ (fun od Q' q' => ⟨_, rfl, p, C, dx, _, _, rfl, by rw [upd_ne npd]; exact h4.ob, X.cl, X.n3, gf3, q'⟩) (TwI M) (fun HF D hD => ⟨same_upd hD, [], upd_same, rfl, rfl, fun q hq => (by cases hq), List.nodup_nil⟩) (fun HF D i H' z => z.1) (fun HF D i k v T H5 eF hD z hkv hT => ?_) (fun HF D H5 eF eN hD hod z => ?_)
    · obtain ⟨q1, hq, e⟩ : ∃ q, M[i]? = some q ∧ (Sum.inr q.1, V.ref q.2.1) = (k, v) := by
        unfold mkv at hkv
        rw [List.getElem?_map] at hkv
        exact Option.map_eq_some_iff.mp hkv
      obtain ⟨rfl, rfl⟩ := Prod.mk.inj e
      have hq3 := h4.mp.all q1 (List.mem_of_getElem? hq)
      have hq4 : Lts HF q1.2.1 q1.2.2 := ⟨eF _ _ (ne_lt hq3.at_ h4.mp.at_ (fun z => by cases z)) hq3.at_, fun x hx => eF _ _ (ne_lt (hq3.all x hx) h4.mp.at_ (fun z => by cases z)) (hq3.all x hx)⟩
      have hq5 := hq4.same z.1
      refine ⟨.ref q1.2.1, rfl, q1.2.1, _, rfl, .inl (ll ((hq5.same (same_upd hT)).at_)), fun l hl => ?_⟩
      obtain ⟨kvs', a1, a2, a3⟩ := z.step (l := l) h4.kd hD hq hT hl hq5 lM
      exact ⟨kvs', Sum.inr q1.1, rfl, a1, a2, a3⟩
    · obtain ⟨sm, M', hd, k1, k2, al, n2⟩ := z
      obtain ⟨od, hod⟩ := hod
      rw [show (mkv M).length = M.length from List.length_map _, List.take_length] at k1 k2
      have hD4 := eN _ hD
      have ndD : D ≠ d := fun z => by
        rw [z, h4.mp.at_] at hD4
        cases hD4
      have s6 : Same H4 (upd H5 d (.dK (mkv M))) := fun b o e => by
        by_cases c : b = d
        · subst c
          rw [upd_same]
          rw [h4.mp.at_] at e
          exact e
        · rw [upd_ne c]
          exact sm _ _ (eF _ _ c e)
      have m6 : Mps (upd H5 d (.dK (mkv M))) D M' := ⟨by rw [upd_ne ndD]; exact hd, fun q hq => ⟨by
        rw [upd_ne (ne_lt (al q hq).1.at_ hod (fun z => by cases z))]
        exact (al q hq).1.at_, fun y hy => by
        rw [upd_ne (ne_lt ((al q hq).1.all y hy) hod (fun z => by cases z))]
        exact (al q hq).1.all y hy⟩⟩
      have al6 : ∀ q ∈ M', H q.2.1 = none := fun q hq => none_back s4 (eN _ (al q hq).2)
      have g6 := s6 _ _ g4
      have s6 := s4.trans s6
      have hDH := none_back s4 hD4
      generalize upd H5 d (.dK (mkv M)) = H6 at s6 m6 g6 ⊢
      clear al hd sm hod eF eN hD hD4 s4 g4 h4
      refine ⟨C, dx2, _, g6, X.cl, X.n3, by show 5 < 1000; decide, ?_⟩
      rw [gf_ls]
      have s7 := sx _ (.ins C dx2 (gf { Gs.start with fl := g.fl, dn := g.dn } D d2' l')) s6
      have m7 := m6.ins (o := .ins C dx2 (gf { Gs.start with fl := g.fl, dn := g.dn } D d2' l')) g6
      have g7 : upd H6 x (.ins C dx2 (gf { Gs.start with fl := g.fl, dn := g.dn } D d2' l')) x = some (.ins C dx2 (gf { Gs.start with fl := g.fl, dn := g.dn } D d2' l')) := upd_same
      generalize upd H6 x (.ins C dx2 (gf { Gs.start with fl := g.fl, dn := g.dn } D d2' l')) = H7 at s7 m7 g7 ⊢
      clear s6 m6 g6
      have h7 := h.same s7
      refine ⟨C, dx, _, h7.ob, X.cl, X.n4, _, gf4, d2, rfl, fkv g.fd, .inl h7.fd, fun p3 hp3 => ?_⟩
      have e3 : upd H7 p3 (.dK (fkv g.fd)) p3 = some (.dK (fkv g.fd)) := upd_same
      have ne3 : D ≠ p3 := fun z => by
        rw [← z, m7.at_] at hp3
        cases hp3
      have p3H := none_back s7 hp3
      have s8 := same_upd (o := .dK (fkv g.fd)) hp3
      generalize upd H7 p3 (.dK (fkv g.fd)) = H8 at s8 e3 ⊢
      replace m7 := m7.same s8
      replace g7 := s8 _ _ g7
      replace s7 := s7.trans s8
      clear s8 hp3 h7
      refine ⟨C, dx2, _, g7, X.cl, X.n4, by show 5 < 1000; decide, ?_⟩
      rw [gf_fd]
      have s9 := sx _ (.ins C dx2 (gf { Gs.start with fl := g.fl, dn := g.dn } D p3 l')) s7
      have m9 := m7.ins (o := .ins C dx2 (gf { Gs.start with fl := g.fl, dn := g.dn } D p3 l')) g7
      have e9 := at_ins (o := .ins C dx2 (gf { Gs.start with fl := g.fl, dn := g.dn } D p3 l')) e3 g7
      have g9 : upd H8 x (.ins C dx2 (gf { Gs.start with fl := g.fl, dn := g.dn } D p3 l')) x = some (.ins C dx2 (gf { Gs.start with fl := g.fl, dn := g.dn } D p3 l')) := upd_same
      generalize upd H8 x (.ins C dx2 (gf { Gs.start with fl := g.fl, dn := g.dn } D p3 l')) = H9 at s9 m9 g9 e9 ⊢
      clear s7 m7 g7 e3
      have h9 := h.same s9
      refine ⟨C, dx, _, h9.ob, X.cl, X.n5, _, gf5, l, rfl, _, .inl (ll h9.la.at_), fun p4 hp4 => ?_⟩
      have l4 : Las (upd H9 p4 (.lst (N.map fun q => V.ref q.1))) p4 N := ⟨upd_same, fun q hq => same_upd hp4 _ _ (h9.la.all q hq)⟩
      have n4 : ∀ q ∈ M', q.2.1 ≠ p4 := fun q hq z => by
        have := (m9.all q hq).at_
        rw [z, hp4] at this
        cases this
      have p4H := none_back s9 hp4
      have s10 := same_upd (o := .lst (N.map fun q => V.ref q.1)) hp4
      generalize upd H9 p4 (.lst (N.map fun q => V.ref q.1)) = H10 at s10 l4 ⊢
      replace m9 := m9.same s10
      replace g9 := s10 _ _ g9
      replace e9 := s10 _ _ e9
      replace s9 := s9.trans s10
      refine ⟨C, dx2, _, g9, X.cl, X.n5, by show 5 < 1000; decide, ?_⟩
      rw [gf_la]
      refine q x (own x D p3 p4 M') _ (sx _ _ s9) (fun b hb => ?_) ⟨dx2, D, p3, p4, M', N, rfl, upd_same, m9.ins g9, ?_, at_ins e9 g9, l4.ins g9, h.lt, ne3, ?_, ?_⟩
      · unfold own at hb
        simp only [List.mem_cons] at hb
        rcases hb with z | z | z | z | z
        · rw [z]; exact hx
        · rw [z]; exact hDH
        · rw [z]; exact p3H
        · rw [z]; exact p4H
        · obtain ⟨q, hq, rfl⟩ := List.mem_map.mp z
          exact al6 q hq
      · rw [k2]
        exact h.ls
      · rw [List.nodup_cons]
        refine ⟨fun z => ?_, n2⟩
        obtain ⟨q, hq, e⟩ := List.mem_map.mp z
        exact n4 q hq e
      · rw [k1]
        exact h.kd
end
end Mv

set_option Elab.async false
set_option linter.all false
set_option maxRecDepth 100000
set_option maxHeartbeats 4000000
namespace Mv
open PySem PySem.Spec PyProof.Rows L2
abbrev sDee : Stmt := topS 21
abbrev DdL := List (Addr × Dd)
structure Dds (H : Hp) (l : Addr) (L : DdL) : Prop where
  at_ : H l = some (.lst (L.map fun q => V.ref q.1))
  all : ∀ q ∈ L, H q.1 = some q.2.o
/-- a deed as the law draws it -/
def Dd.gd (ks : List Str) : Dd → Prop
  | .ev v _ _ => ∃ k ∈ ks, v = .str k
  | .fi => False
  | _ => True
theorem Dds.same {H H' : Hp} {l : Addr} {L : DdL} (h : Dds H l L) (s : Same H H') : Dds H' l L := ⟨s _ _ h.at_, fun q hq => s _ _ (h.all q hq)⟩
theorem Dds.wr {H H' : Hp} {a l : Addr} {ys : List V} {L : DdL} (h : Dds H l L) (ha : H a = some (.lst ys)) (n : l ≠ a) (x : Sx a H H') : Dds H' l L := ⟨x _ _ n h.at_, fun q hq => tup_wr ha x (h.all q hq)⟩
/-- the deeds so far, and the places of yards that are left -/
structure DeS (H : Hp) (a p l : Addr) (ks : List Str) (L : DdL) (rest : List V) (H' : Hp) : Prop where
  x : Sx a H H'
  t : Strm H' a
  pa : p ≠ a
  la : l ≠ a
  pl : p ≠ l
  hp : H p = none
  hl : H l = none
  d : Dds H' p L
  r : H' l = some (.lst rest)
  g : ∀ e ∈ L, e.2.gd ks
theorem DeS.wr {H H3 H4 : Hp} {a p l : Addr} {ks : List Str} {L : DdL} {rest : List V} (h : DeS H a p l ks L rest H3) (x : Sx a H3 H4) (t : Strm H4 a) : DeS H a p l ks L rest H4 := by
  obtain ⟨ns, ea, _⟩ := id h.t
  exact ⟨h.x.trans x, t, h.pa, h.la, h.pl, h.hp, h.hl, h.d.wr ea h.pa x, x _ _ h.la h.r, h.g⟩
theorem Strm.upd {H : Hp} {a b : Addr} {o : HO} (t : Strm H a) (n : a ≠ b) : Strm (upd H b o) a := by
  obtain ⟨ns, e, l⟩ := t
  exact ⟨ns, by rw [upd_ne n]; exact e, l⟩
theorem DeS.pop {H H3 : Hp} {a p l : Addr} {ks : List Str} {L : DdL} {v : V} {rest : List V} (h : DeS H a p l ks L (v :: rest) H3) : DeS H a p l ks L rest (upd H3 l (.lst rest)) := by
  refine ⟨fun b o n e => ?_, h.t.upd h.la.symm, h.pa, h.la, h.pl, h.hp, h.hl, ⟨by rw [upd_ne h.pl]; exact h.d.at_, fun q hq => ?_⟩, upd_same, h.g⟩
  · rw [upd_ne (ne_of_none e h.hl)]
    exact h.x _ _ n e
  · rw [upd_ne (ne_lt (h.d.all q hq) h.r (fun z => by cases z))]
    exact h.d.all q hq
theorem idx0 (n : Nat) : seqIndex? 0 (n + 1) = some 0 := by
  unfold seqIndex?
  simp
theorem DeS.add {H H3 : Hp} {a p l tp : Addr} {ks : List Str} {L : DdL} {rest : List V} {e : Dd} (h : DeS H a p l ks L rest H3) (ht : H3 tp = none) (he : e.gd ks) :
    upd H3 tp e.o p = some (.lst (L.map fun q => V.ref q.1)) ∧ DeS H a p l ks (L ++ [(tp, e)]) rest (upd (upd H3 tp e.o) p (.lst (L.map (fun q => V.ref q.1) ++ [.ref tp]))) := by
  have st := same_upd (o := e.o) ht
  have d1 := h.d.same st
  have e1 : upd H3 tp e.o tp = some e.o := upd_same
  have t1 := h.t.same st
  have r1 := st _ _ h.r
  have x1 := h.x.trans (Sx.of st)
  generalize upd H3 tp e.o = H5 at d1 e1 t1 r1 x1 ⊢
  have tup : ∀ (b : Addr) (ys : List V), H5 b = some (.tup ys) → upd H5 p (.lst (L.map (fun q => V.ref q.1) ++ [.ref tp])) b = some (.tup ys) := fun b ys e => by
    rw [upd_ne (ne_lt e d1.at_ (fun z => by cases z))]
    exact e
  refine ⟨d1.at_, fun b o n e => ?_, t1.upd h.pa.symm, h.pa, h.la, h.pl, h.hp, h.hl, ⟨by rw [upd_same, List.map_append]; rfl, fun q hq => ?_⟩, by rw [upd_ne h.pl.symm]; exact r1, fun q hq => ?_⟩
  · rw [upd_ne (ne_of_none e h.hp)]
    exact x1 _ _ n e
  · rcases List.mem_append.mp hq with hq | hq
    · exact tup _ _ (d1.all q hq)
    · rw [List.mem_singleton.mp hq]
      exact tup _ _ e1
  · rcases List.mem_append.mp hq with hq | hq
    · exact h.g q hq
    · rw [List.mem_singleton.mp hq]
      exact he
section
variable {P : Program} {w : World} {K : PySem.W.Frag} {mg : Str → Option Value} {base : Heap}
theorem scDee : FnScope ["_law_stream_here", "_law_count", "_law_names", "_law_spots", "_law_span_here", "_law_style", "_law_deeds_here", "_law_left", "_law_now", "_law_k", "_law_pick", "_law_name", "_law_spot"] ["_law_stream_here", "_law_count", "_law_names", "_law_spots", "_law_span_here", "_law_style"] (defScope sDee) := ⟨rfl, rfl, rfl, by decide +kernel, rfl, by decide +kernel, by decide +kernel⟩
def spDee : Sp := fun vs H Q _ => ∃ (a : Addr) (c : Nat) (nm : Addr) (ks : List Str) (sp : Addr) (xs : List V) (g z : Int), vs = [.ref a, .int c, .ref nm, .ref sp, .int g, .int z] ∧ Strm H a ∧ c ≤ 14 ∧ H nm = some (.tup (ks.map V.str)) ∧ ks ≠ [] ∧ ks.length ≤ 3 ∧ H sp = some (.tup xs) ∧ xs.length ≤ 3 ∧ 0 ≤ g ∧
  ∀ (H' : Hp) (l : Addr) (L : DdL), Sx a H H' → Strm H' a → H l = none → Dds H' l L → (∀ e ∈ L, e.2.gd ks) → L.length ≤ 17 → Q (.ref l) H'
theorem ok_dee {f : Addr} {fd : FuncData} (F : Fun K "_law_deeds" "_law_deeds" sDee f fd) (B : Bi mg) (cDraw : CalX CX0 P w K mg base 1 "_law_draw" spDraw) (cValue : CalX CX0 P w K mg base 3 "_law_value" spValue) (cStep : CalX CX0 P w K mg base 2 "_law_step" spStep) : FnOk P w K mg base CX0 4 f fd ["_law_stream_here", "_law_count", "_law_names", "_law_spots", "_law_span_here", "_law_style"] spDee := by
  refine F.ok scDee (fun vs H Q E h => ?_) (fun cdv A outer s H vs Q E hr h => ?_)
  · obtain ⟨a, c, nm, ks, sp, xs, g, z, rfl, _⟩ := h
    rfl
  · obtain ⟨a, c, nm, ks, sp, xs, g, z, rfl, hs, hc, hnm, kn, kl, hsp, lx, hg, q⟩ := h
    refine ⟨_, (pss_cons (ps_set (i := 6) scDee.nd rfl (.inl rfl) (pe_lst pa_nil))
 (pss_cons (ps_set (i := 7) scDee.nd rfl (.inl rfl) (pe_callTy call_list_of (by rfl) B.list (by decide +kernel) (pa_cons (pv 3) pa_nil)))
 (pss_cons (ps_set (i := 8) scDee.nd rfl (.inl rfl) (pe_cx cValue hr (by decide) pass0 (by rfl) (pa_cons (pv 0) (pa_cons (pv 5) pa_nil))))
 (pss_cons (ps_for PassesOwn.never rfl (pi_range1 (by rfl) B.range (pa_cons (pv 1) pa_nil)) (pg_name (i := 9) scDee.nd rfl (.inl rfl))
 (pss_cons (ps_set (i := 10) scDee.nd rfl (.inl rfl) (pe_cx cDraw hr (by decide) pass0 (by rfl) (pa_cons (pv 0) (pa_cons pe_int pa_nil))))
 (pss_cons (ps_set (i := 11) scDee.nd rfl (.inl rfl) (pe_ix ix_tup (pv 2) (pe_cx cDraw hr (by decide) pass0 (by rfl) (pa_cons (pv 0) (pa_cons (pe_callB call_len_seq (by rfl) B.len PySem.boot_len (pa_cons (pv 2) pa_nil)) pa_nil))) (fun _ _ => rfl)))
 (pss_one (ps_if (pt_cmpR op_lt (pv 10) pe_int (nomark _))
 (pss_cons (ps_set (i := 8) scDee.nd rfl (.inl rfl) (pe_op op_add (pv 8) (pe_cx cStep hr (by decide) pass0 (by rfl) (pa_cons (pv 0) (pa_cons (pv 4) pa_nil)))))
 (pss_one (ps_expr (pe_bm PySem.F.plainAttrs_list PySem.F.slot_list_append PySem.F.type_list_append mt_append (pv 6) (pa_cons (pe_tup (pa_cons pe_str (pa_cons (pv 11) (pa_cons (pv 8) (pa_cons (pe_cx cValue hr (by decide) pass0 (by rfl) (pa_cons (pv 0) (pa_cons (pv 5) pa_nil))) pa_nil))))) pa_nil))))) (pss_one (ps_if (pt_cmpR op_eq (pv 10) pe_int (nomark _))
 (pss_one (ps_expr (pe_bm PySem.F.plainAttrs_list PySem.F.slot_list_append PySem.F.type_list_append mt_append (pv 6) (pa_cons (pe_tup (pa_cons pe_str (pa_cons (pv 11) (pa_cons (pe_op op_sub (pv 8) (pe_cx cDraw hr (by decide) pass0 (by rfl) (pa_cons (pv 0) (pa_cons pe_int pa_nil)))) (pa_cons (pe_cx cValue hr (by decide) pass0 (by rfl) (pa_cons (pv 0) (pa_cons (pv 5) pa_nil))) pa_nil))))) pa_nil)))) (pss_one (ps_if (pt_cmpR op_eq (pv 10) pe_int (nomark _))
 (pss_one (ps_expr (pe_bm PySem.F.plainAttrs_list PySem.F.slot_list_append PySem.F.type_list_append mt_append (pv 6) (pa_cons (pe_tup (pa_cons pe_str (pa_cons (pe_op op_add (pe_op op_sub (pv 8) pe_int) (pe_cx cDraw hr (by decide) pass0 (by rfl) (pa_cons (pv 0) (pa_cons pe_int pa_nil)))) pa_nil))) pa_nil)))) (pss_one (ps_if (pt_cmpR op_eq (pv 10) pe_int (nomark _))
 (pss_one (ps_expr (pe_bm PySem.F.plainAttrs_list PySem.F.slot_list_append PySem.F.type_list_append mt_append (pv 6) (pa_cons (pe_tup (pa_cons pe_str (pa_cons (pe_op op_add (pe_op op_add (pv 8) (pv 4)) (pe_cx cDraw hr (by decide) pass0 (by rfl) (pa_cons (pv 0) (pa_cons pe_int pa_nil)))) pa_nil))) pa_nil)))) (pss_one (ps_if (PW.pt (pw_and (pt_cmpR op_eq (pv 10) pe_int (nomark _)) (pw_and1 (pt_truth (pv 7) (by intro _; rfl)))))
 (pss_one (ps_expr (pe_bm PySem.F.plainAttrs_list PySem.F.slot_list_append PySem.F.type_list_append mt_append (pv 6) (pa_cons (pe_tup (pa_cons pe_str (pa_cons (pe_bm PySem.F.plainAttrs_list PySem.F.slot_list_pop PySem.F.type_list_pop mt_popAt (pv 7) (pa_cons pe_int pa_nil)) pa_nil))) pa_nil)))) (pss_one (ps_expr (pe_bm PySem.F.plainAttrs_list PySem.F.slot_list_append PySem.F.type_list_append mt_append (pv 6) (pa_cons (pe_tup (pa_cons pe_str (pa_cons (pe_op op_sub (pv 8) (pe_cx cDraw hr (by decide) pass0 (by rfl) (pa_cons (pv 0) (pa_cons pe_int pa_nil)))) pa_nil))) pa_nil)))))))))))))))))
 (pss_cons (ps_for PassesOwn.never rfl (pi_list (pv 7)) (pg_name (i := 12) scDee.nd rfl (.inl rfl))
 (pss_one (ps_expr (pe_bm PySem.F.plainAttrs_list PySem.F.slot_list_append PySem.F.type_list_append mt_append (pv 6) (pa_cons (pe_tup (pa_cons pe_str (pa_cons (pv 12) pa_nil))) pa_nil)))))
 (pss_one (ps_ret (pv 6)))))))), ?_⟩
    simp only [tSeq, tAsg, gName, tOp, rI, rI0, rU, tUn, tVar, tC, tCB, tCons, tNil, tTest, tIfS, tRet, tRetN, tDrop, tNext, tBreak, tCont, rEq, rNe, CDiv, CDivN, CMul, tBM, tBM0, tTup, tLst, tAug, tIf, tAnd, tOr, tNot, tAndV, tOrV, tNotV, tIsN, tNotN, tB, scal, tCall, cxK, cxKn, rIxT, rIxL, rIn, rAppend, rReverse, tVals, tDSetd, tDGet, tDGet1, tDGet2, tDIn, tDNotIn, rSortV, rSortT, rPop, rSortL, rSortT, tSl, tNoPart, tPart, List.append_nil, L2.start, List.map_cons, List.map_nil, List.length_cons, List.length_nil, List.replicate_succ, List.replicate_zero, List.cons_append, List.nil_append, Nat.reduceAdd, Nat.reduceSub, exists_eq, exists_eq', List.getElem?_cons_zero, List.getElem?_cons_succ, List.set_cons_zero, List.set_cons_succ, Option.some.injEq, V.int.injEq, V.bl.injEq, V.str.injEq, V.ref.injEq, List.cons.injEq, and_true, true_and, and_false, false_and, reduceCtorEq, exists_false, or_false, false_or, exists_and_left, exists_and_right, exists_eq_left, exists_eq_left', exists_eq_right, exists_eq_right', exists_const, ite_true, ite_false, Bool.false_eq_true, if_true, if_false, decide_true, decide_false]
    refine ⟨Nat.zero_le _, fun p hp => ⟨_, .inr (tt (same_upd hp _ _ hsp)), fun l hl => ?_⟩⟩
    have s0 := (same_upd (o := .lst []) hp).trans (same_upd (o := .lst xs) hl)
    have pl : p ≠ l := fun z => by
      rw [z] at hl
      rw [upd_same] at hl
      cases hl
    have hlH : H l = none := by
      rw [upd_ne pl.symm] at hl
      exact hl
    refine ⟨a, z, rfl, hs.same s0, fun now H1 x1 t1 => ?_⟩
    have pa : p ≠ a := (hs.ne hp).symm
    have la : l ≠ a := (hs.ne hlH).symm
    have nmAt : ∀ H' : Hp, Sx a H H' → H' nm = some (.tup (ks.map V.str)) := fun H' x => by
      obtain ⟨ns, ea, _⟩ := id hs
      exact tup_wr ea x hnm
    have D0 : DeS H a p l ks [] xs H1 := ⟨(Sx.of s0).trans x1, t1, pa, la, pl, hp, hlH, ⟨x1 _ _ pa (by rw [upd_ne pl]; exact upd_same), fun q hq => (by cases hq)⟩, x1 _ _ la upd_same, fun e he => (by cases he)⟩
    clear x1 t1 s0 hl
    refine ⟨.int (c : Int), rfl, c, rfl, by omega, by omega, ?_⟩
    rw [Int.toNat_natCast]
    refine for_it walk_range (fun i σ H' => ∃ (now : Int) (y9 y10 y11 : Option V) (L : DdL) (rest : List V), σ = [some (.ref a), some (.int (c : Int)), some (.ref nm), some (.ref sp), some (.int g), some (.int z), some (.ref p), some (.ref l), some (.int now), y9, y10, y11, none] ∧ DeS H a p l ks L rest H' ∧ L.length + rest.length ≤ i + 3)
      ⟨now, none, none, none, [], xs, rfl, D0, by show 0 + _ ≤ _; omega⟩ (fun _ _ _ _ _ => trivial) ?_ ?_
    · rintro i v σ H2 H2' hi ⟨now, y9, y10, y11, L, rest, rfl, D1, hn⟩ ⟨rfl, rfl⟩
      simp only [tSeq, tAsg, gName, tOp, rI, rI0, rU, tUn, tVar, tC, tCB, tCons, tNil, tTest, tIfS, tRet, tRetN, tDrop, tNext, tBreak, tCont, rEq, rNe, CDiv, CDivN, CMul, tBM, tBM0, tTup, tLst, tAug, tIf, tAnd, tOr, tNot, tAndV, tOrV, tNotV, tIsN, tNotN, tB, scal, tCall, cxK, cxKn, rIxT, rIxL, rIn, rAppend, rReverse, tVals, tDSetd, tDGet, tDGet1, tDGet2, tDIn, tDNotIn, rSortV, rSortT, rPop, rSortL, rSortT, tSl, tNoPart, tPart, List.append_nil, L2.start, List.map_cons, List.map_nil, List.length_cons, List.length_nil, List.replicate_succ, List.replicate_zero, List.cons_append, List.nil_append, Nat.reduceAdd, Nat.reduceSub, exists_eq, exists_eq', List.getElem?_cons_zero, List.getElem?_cons_succ, List.set_cons_zero, List.set_cons_succ, Option.some.injEq, V.int.injEq, V.bl.injEq, V.str.injEq, V.ref.injEq, List.cons.injEq, and_true, true_and, and_false, false_and, reduceCtorEq, exists_false, or_false, false_or, exists_and_left, exists_and_right, exists_eq_left, exists_eq_left', exists_eq_right, exists_eq_right', exists_const, ite_true, ite_false, Bool.false_eq_true, if_true, if_false, decide_true, decide_false]
      have fin : ∀ (H3 : Hp) (e : Dd) (rest' : List V), DeS H a p l ks L rest' H3 → L.length + rest'.length ≤ i + 3 → e.gd ks → ∀ tp, H3 tp = none → ∃ ys, upd H3 tp e.o p = some (.lst ys) ∧ ys.length < sizeLine ∧ ∃ (L' : DdL) (r' : List V), DeS H a p l ks L' r' (upd (upd H3 tp e.o) p (.lst (ys ++ [.ref tp]))) ∧ L'.length + r'.length ≤ i + 1 + 3 := fun H3 e rest' D hle he tp htp => by
        obtain ⟨h1, h2⟩ := D.add htp he
        refine ⟨_, h1, ?_, _, _, h2, ?_⟩
        · rw [List.length_map]
          exact small1000 (by omega)
        · rw [List.length_append, List.length_singleton]
          omega
      have ty : ∀ {H3 : Hp} {r' : List V}, DeS H a p l ks L r' H3 → tyV K "list" (V.ref p) H3 := fun D => .inl ⟨rfl, _, ll D.d.at_⟩
      refine spDraw_of (by decide) D1.t fun r H3 r0 r1 x3 t3 => ?_
      have D3 := D1.wr x3 t3
      refine ⟨_, .inr (tt (nmAt _ D3.x)), ?_⟩
      rw [List.length_map]
      have k0 : 0 < ks.length := by
        cases ks with
        | nil => exact absurd rfl kn
        | cons _ _ => exact Nat.succ_pos _
      refine spDraw_of (by omega) D3.t fun r2 H4 r20 r21 x4 t4 => ?_
      have D4 := D3.wr x4 t4
      obtain ⟨j, rfl⟩ := Int.eq_ofNat_of_zero_le r20
      have hj : j < ks.length := by omega
      refine ⟨_, j, rfl, tt (nmAt _ D4.x), .str ks[j], atI_nat (by rw [List.getElem?_map, List.getElem?_eq_getElem hj]; rfl), r, rfl, ?_⟩
      have kj : ks[j] ∈ ks := List.getElem_mem hj
      generalize ks[j] = k at kj
      refine ite2 (fun c1 => ?_) (fun c1 => ⟨rfl, ite2 (fun c2 => ?_) (fun c2 => ⟨rfl, ite2 (fun c3 => ?_) (fun c3 => ⟨rfl, ite2 (fun c4 => ?_) (fun c4 => ?_)⟩)⟩)⟩)
      · refine ⟨a, g, rfl, hg, D4.t, fun u H5 u0 x5 t5 => ⟨u, rfl, ?_⟩⟩
        have D5 := D4.wr x5 t5
        refine ⟨ty D5, a, z, rfl, D5.t, fun v H6 x6 t6 => ⟨by decide, fin H6 (.ev (.str k) _ v) rest (D5.wr x6 t6) hn ⟨k, kj, rfl⟩⟩⟩
      · refine ⟨ty D4, spDraw_of (by decide) D4.t fun u H5 u0 u1 x5 t5 => ⟨u, rfl, ?_⟩⟩
        have D5 := D4.wr x5 t5
        exact ⟨a, z, rfl, D5.t, fun v H6 x6 t6 => ⟨by decide, fin H6 (.ev (.str k) _ v) rest (D5.wr x6 t6) hn ⟨k, kj, rfl⟩⟩⟩
      · exact ⟨ty D4, spDraw_of (by decide) D4.t fun u H5 u0 u1 x5 t5 => ⟨u, rfl, by decide, fin H5 (.ra _) rest (D4.wr x5 t5) hn trivial⟩⟩
      · exact ⟨ty D4, spDraw_of (by decide) D4.t fun u H5 u0 u1 x5 t5 => ⟨u, rfl, by decide, fin H5 (.ra _) rest (D4.wr x5 t5) hn trivial⟩⟩
      · have els : tyV K "list" (V.ref p) H4 ∧ spDraw [V.ref a, V.int 5] H4 (fun y H2 => ∃ x, y = V.int x ∧ 2 ≤ sizeLine ∧ ∀ (p_1 : Addr), H2 p_1 = none → ∃ x_1, upd H2 p_1 (HO.tup [V.str ("raise" : Str), V.int (now - x)]) p = some (HO.lst x_1) ∧ x_1.length < sizeLine ∧ ∃ (x_2 : DdL) (x_3 : List V), DeS H a p l ks x_2 x_3 (upd (upd H2 p_1 (HO.tup [V.str ("raise" : Str), V.int (now - x)])) p (HO.lst (x_1 ++ [V.ref p_1]))) ∧ List.length x_2 + x_3.length ≤ i + 1 + 3) E0 :=
          ⟨ty D4, spDraw_of (by decide) D4.t fun u H5 u0 u1 x5 t5 => ⟨u, rfl, by decide, fin H5 (.ra _) rest (D4.wr x5 t5) hn trivial⟩⟩
        refine ⟨rfl, ite2 (fun c5 => ?_) (fun c5 => els)⟩
        cases rest with
        | nil => exact ⟨false, .inl ⟨_, ll D4.r, rfl⟩, if_F rfl els⟩
        | cons v rest' =>
          have D5 := D4.pop
          exact ⟨true, .inl ⟨_, ll D4.r, rfl⟩, if_T rfl ⟨ty D4, .inl ⟨rfl, _, ll D4.r⟩, l, v :: rest', 0, 0, v, rfl, rfl, D4.r, by decide, by decide, idx0 _ , rfl, by decide, fin _ (.ya v) rest' D5 (by rw [List.length_cons] at hn; omega) trivial⟩⟩
    · rintro σ H2 ⟨now, y9, y10, y11, L, rest, rfl, D1, hn⟩
      show tSeq _ _ _ _ _
      simp only [tSeq, tAsg, gName, tOp, rI, rI0, rU, tUn, tVar, tC, tCB, tCons, tNil, tTest, tIfS, tRet, tRetN, tDrop, tNext, tBreak, tCont, rEq, rNe, CDiv, CDivN, CMul, tBM, tBM0, tTup, tLst, tAug, tIf, tAnd, tOr, tNot, tAndV, tOrV, tNotV, tIsN, tNotN, tB, scal, tCall, cxK, cxKn, rIxT, rIxL, rIn, rAppend, rReverse, tVals, tDSetd, tDGet, tDGet1, tDGet2, tDIn, tDNotIn, rSortV, rSortT, rPop, rSortL, rSortT, tSl, tNoPart, tPart, List.append_nil, L2.start, List.map_cons, List.map_nil, List.length_cons, List.length_nil, List.replicate_succ, List.replicate_zero, List.cons_append, List.nil_append, Nat.reduceAdd, Nat.reduceSub, exists_eq, exists_eq', List.getElem?_cons_zero, List.getElem?_cons_succ, List.set_cons_zero, List.set_cons_succ, Option.some.injEq, V.int.injEq, V.bl.injEq, V.str.injEq, V.ref.injEq, List.cons.injEq, and_true, true_and, and_false, false_and, reduceCtorEq, exists_false, or_false, false_or, exists_and_left, exists_and_right, exists_eq_left, exists_eq_left', exists_eq_right, exists_eq_right', exists_const, ite_true, ite_false, Bool.false_eq_true, if_true, if_false, decide_true, decide_false]
      refine ⟨.ref l, rfl, l, rfl, ⟨_, ll D1.r⟩, ?_⟩
      refine for_it walk_list (fun i σ H' => ∃ (now : Int) (y9 y10 y11 y12 : Option V) (L : DdL), σ = [some (.ref a), some (.int (c : Int)), some (.ref nm), some (.ref sp), some (.int g), some (.int z), some (.ref p), some (.ref l), some (.int now), y9, y10, y11, y12] ∧ DeS H a p l ks L rest H' ∧ L.length + rest.length ≤ c + 3 + i)
        ⟨now, y9, y10, y11, none, L, rfl, D1, by omega⟩ (fun i σ H' _ ⟨_, _, _, _, _, _, _, D, _⟩ => ll D.r) ?_ ?_
      · rintro i v σ H3 H3' hi ⟨now, y9, y10, y11, y12, L, rfl, D2, hn⟩ ⟨rfl, hv⟩
        simp only [tSeq, tAsg, gName, tOp, rI, rI0, rU, tUn, tVar, tC, tCB, tCons, tNil, tTest, tIfS, tRet, tRetN, tDrop, tNext, tBreak, tCont, rEq, rNe, CDiv, CDivN, CMul, tBM, tBM0, tTup, tLst, tAug, tIf, tAnd, tOr, tNot, tAndV, tOrV, tNotV, tIsN, tNotN, tB, scal, tCall, cxK, cxKn, rIxT, rIxL, rIn, rAppend, rReverse, tVals, tDSetd, tDGet, tDGet1, tDGet2, tDIn, tDNotIn, rSortV, rSortT, rPop, rSortL, rSortT, tSl, tNoPart, tPart, List.append_nil, L2.start, List.map_cons, List.map_nil, List.length_cons, List.length_nil, List.replicate_succ, List.replicate_zero, List.cons_append, List.nil_append, Nat.reduceAdd, Nat.reduceSub, exists_eq, exists_eq', List.getElem?_cons_zero, List.getElem?_cons_succ, List.set_cons_zero, List.set_cons_succ, Option.some.injEq, V.int.injEq, V.bl.injEq, V.str.injEq, V.ref.injEq, List.cons.injEq, and_true, true_and, and_false, false_and, reduceCtorEq, exists_false, or_false, false_or, exists_and_left, exists_and_right, exists_eq_left, exists_eq_left', exists_eq_right, exists_eq_right', exists_const, ite_true, ite_false, Bool.false_eq_true, if_true, if_false, decide_true, decide_false]
        refine ⟨.inl ⟨rfl, _, ll D2.d.at_⟩, by decide, fun tp htp => ?_⟩
        obtain ⟨h1, h2⟩ := D2.add (e := .ya v) htp trivial
        refine ⟨_, h1, ?_, _, h2, ?_⟩
        · rw [List.length_map]
          exact small1000 (by omega)
        · rw [List.length_append, List.length_singleton]
          omega
      · rintro σ H3 ⟨now, y9, y10, y11, y12, L, rfl, D2, hn⟩
        exact ⟨_, rfl, q H3 p L D2.x D2.t D2.hp D2.d D2.g (by omega)⟩
end
end Mv

set_option Elab.async false
set_option linter.all false
set_option maxRecDepth 100000
set_option maxHeartbeats 4000000
namespace Mv
open PySem PySem.Spec PyProof.Rows L2
/-! ### the law's own walk of a gate, as data -/
structure SdX (H : Hp) (d l : Addr) (M : MpL) (N : LaL) (g : Gs) : Prop where
  mp : Mps H d M
  ls : mpl M = g.ls
  la : Las H l N
  lt : lats N = g.lt
  kd : (M.map fun q => q.1).Nodup
  nl : ∀ q ∈ M, q.2.1 ≠ l
/-- only what was not there ahead -/
def fr (H H' : Hp) : Hp := fun b => match H b with
  | none => H' b
  | some _ => none
theorem fr_le {H H' : Hp} : Same (fr H H') H' := fun b o e => by
  unfold fr at e
  cases h : H b with
  | none =>
    rw [h] at e
    exact e
  | some _ =>
    rw [h] at e
    cases e
theorem fr_at {H H' : Hp} {b : Addr} (h : H b = none) : fr H H' b = H' b := by
  unfold fr
  rw [h]
theorem fr_no {H H' : Hp} {b : Addr} {o : HO} (h : fr H H' b = some o) : H b = none := by
  unfold fr at h
  cases e : H b with
  | none => rfl
  | some _ =>
    rw [e] at h
    cases h
theorem fr_upd {H H' : Hp} {a : Addr} {o : HO} (h : H a = none) : fr H (upd H' a o) = upd (fr H H') a o := by
  funext b
  by_cases c : b = a
  · subst c
    rw [fr_at h, upd_same, upd_same]
  · rw [upd_ne c]
    unfold fr
    cases H b with
    | none =>
      show upd H' a o b = H' b
      rw [upd_ne c]
    | some _ => rfl
theorem fr_same {H H1 H2 : Hp} (s : Same H1 H2) : Same (fr H H1) (fr H H2) := fun b o e => by
  rw [fr_at (fr_no e)]
  exact s _ _ (fr_le _ _ e)
theorem fr_res {H H' : Hp} {A : List Addr} (h : ∀ b ∈ A, H b ≠ none) : Same (fr H H') (res A H') := fun b o e => res_at (fun z => h b z (fr_no e)) (fr_le _ _ e)
theorem fr_none {H H' : Hp} {b : Addr} (s : Same H H') (h : H' b = none) : fr H H' b = none := by
  rw [fr_at (none_back s h)]
  exact h
theorem SdX.same {H H' : Hp} {d l : Addr} {M : MpL} {N : LaL} {g : Gs} (h : SdX H d l M N g) (s : Same H H') : SdX H' d l M N g := ⟨h.mp.same s, h.ls, h.la.same s, h.lt, h.kd, h.nl⟩
theorem SdX.eq {H : Hp} {d l : Addr} {M : MpL} {N : LaL} {g g' : Gs} (h : SdX H d l M N g) (e1 : g'.ls = g.ls) (e2 : g'.lt = g.lt) : SdX H d l M N g' := ⟨h.mp, by rw [e1]; exact h.ls, h.la, by rw [e2]; exact h.lt, h.kd, h.nl⟩
theorem SdX.late {H H2 : Hp} {d l tp : Addr} {M : MpL} {N : LaL} {g : Gs} {e : Lat} (h : SdX H d l M N g) (st : ∀ b o, b ≠ l → H b = some o → H2 b = some o) (hl : H2 l = some (.lst (N.map (fun q => V.ref q.1) ++ [.ref tp]))) (ht : H2 tp = some e.o) :
    SdX H2 d l M (N ++ [(tp, e)]) { g with lt := g.lt ++ [e] } := by
  refine ⟨⟨st _ _ (ne_lt h.mp.at_ h.la.at_ (fun z => by cases z)) h.mp.at_, fun q hq => ⟨st _ _ (h.nl q hq) (h.mp.all q hq).at_, fun x hx => st _ _ (ne_lt ((h.mp.all q hq).all x hx) h.la.at_ (fun z => by cases z)) ((h.mp.all q hq).all x hx)⟩⟩, h.ls, ⟨?_, fun q hq => ?_⟩, ?_, h.kd, h.nl⟩
  · rw [hl, List.map_append]
    rfl
  · rcases List.mem_append.mp hq with hq | hq
    · exact st _ _ (ne_lt (h.la.all q hq) h.la.at_ (fun z => by cases z)) (h.la.all q hq)
    · rw [List.mem_singleton.mp hq]
      exact ht
  · unfold lats
    rw [List.map_append]
    show lats N ++ [e] = _
    rw [h.lt]
theorem any_key {α β : Type} (M : List (Str × α)) (k : Str) (f : α → β) : ((M.map fun q => (q.1, f q.2)).any fun q => decide (q.1 = k)) = M.any fun q => decide (q.1 = k) := by
  rw [List.any_map]
  rfl
theorem putA_mkv (M : MpL) (k : Str) (r : Addr) (L : LtL) : mkv (putA M k (r, L)) = putK (mkv M) (Sum.inr k) (.ref r) := by
  have e : ((mkv M).any fun kv => decide (kv.1 = Sum.inr k)) = M.any fun q => decide (q.1 = k) := by
    unfold mkv
    rw [List.any_map]
    refine congrArg (fun f => M.any f) (funext fun q => ?_)
    simp
  unfold putK putA
  rw [e]
  split
  · unfold mkv
    rw [List.map_map, List.map_map]
    refine List.map_congr_left fun q _ => ?_
    show ((Sum.inr (if q.1 = k then _ else q : Str × Addr × LtL).1 : Key), V.ref (if q.1 = k then _ else q : Str × Addr × LtL).2.1) = if (Sum.inr q.1 : Key) = Sum.inr k then _ else _
    by_cases c : q.1 = k
    · rw [if_pos c, if_pos (by rw [c])]
    · rw [if_neg c, if_neg (by simpa using c)]
  · unfold mkv
    rw [List.map_append]
    rfl
theorem putA_mpl (M : MpL) (k : Str) (r : Addr) (L : LtL) : mpl (putA M k (r, L)) = putA (mpl M) k (lts L) := by
  unfold putA
  have e : ((mpl M).any fun q => decide (q.1 = k)) = M.any fun q => decide (q.1 = k) := by
    unfold mpl
    rw [List.any_map]
    rfl
  rw [e]
  split
  · unfold mpl
    rw [List.map_map, List.map_map]
    refine List.map_congr_left fun q _ => ?_
    show ((if q.1 = k then _ else q : Str × Addr × LtL).1, lts (if q.1 = k then _ else q : Str × Addr × LtL).2.2) = if q.1 = k then _ else _
    by_cases c : q.1 = k
    · rw [if_pos c, if_pos c]
    · rw [if_neg c, if_neg c]
  · unfold mpl
    rw [List.map_append]
    rfl
theorem putA_kd {α : Type} {M : List (Str × α)} {k : Str} {v : α} (h : (M.map fun q => q.1).Nodup) : ((putA M k v).map fun q => q.1).Nodup := by
  unfold putA
  split
  · rw [List.map_map]
    have e : (M.map ((fun q : Str × α => q.1) ∘ fun q => if q.1 = k then (q.1, v) else q)) = M.map fun q => q.1 := by
      refine List.map_congr_left fun q _ => ?_
      show (if q.1 = k then (q.1, v) else q).1 = q.1
      split <;> rfl
    rw [e]
    exact h
  · rename_i c
    rw [List.map_append, List.nodup_append]
    refine ⟨h, by simp, fun a ha b hb z => c ?_⟩
    obtain rfl := List.mem_singleton.mp hb
    subst z
    obtain ⟨q, hq, e⟩ := List.mem_map.mp ha
    exact List.any_eq_true.mpr ⟨q, hq, decide_eq_true e⟩
theorem putA_mem {α : Type} {M : List (Str × α)} {k : Str} {v : α} {q : Str × α} (h : q ∈ putA M k v) : q ∈ M ∨ q = (k, v) := by
  unfold putA at h
  split at h
  · obtain ⟨x, hx, rfl⟩ := List.mem_map.mp h
    by_cases c : x.1 = k
    · rw [if_pos c]
      exact .inr (by rw [c])
    · rw [if_neg c]
      exact .inl hx
  · rcases List.mem_append.mp h with h | h
    · exact .inl h
    · exact .inr (List.mem_singleton.mp h)
theorem SdX.put {H H2 : Hp} {d l r : Addr} {M : MpL} {N : LaL} {g : Gs} {k : Str} {L : LtL} (h : SdX H d l M N g) (st : ∀ b o, b ≠ d → H b = some o → H2 b = some o) (hd : H2 d = some (.dK (putK (mkv M) (Sum.inr k) (.ref r)))) (hr : Lts H2 r L) (nr : r ≠ l) :
    SdX H2 d l (putA M k (r, L)) N { g with ls := putA g.ls k (lts L) } := by
  have hdd := h.mp.at_
  refine ⟨⟨by rw [putA_mkv]; exact hd, fun q hq => ?_⟩, ?_, ⟨st _ _ (ne_lt h.la.at_ hdd (fun z => by cases z)) h.la.at_, fun q hq => st _ _ (ne_lt (h.la.all q hq) hdd (fun z => by cases z)) (h.la.all q hq)⟩, h.lt, putA_kd h.kd, fun q hq => ?_⟩
  · rcases putA_mem hq with hq | rfl
    · have h1 := h.mp.all q hq
      exact ⟨st _ _ (ne_lt h1.at_ hdd (fun z => by cases z)) h1.at_, fun x hx => st _ _ (ne_lt (h1.all x hx) hdd (fun z => by cases z)) (h1.all x hx)⟩
    · exact hr
  · rw [putA_mpl, h.ls]
  · rcases putA_mem hq with hq | rfl
    · exact h.nl q hq
    · exact nr
/-- the letters of a key, or a new list -/
theorem get_ms {H : Hp} {d l0 : Addr} {M : MpL} {ls : List (Str × List Ltr)} (hm : Mps H d M) (el : mpl M = ls) (k : Str) (hl0 : H l0 = none) :
    ∃ o, DGet (upd H l0 (.lst [])) d (.str k) o ∧ ∃ (r : Addr) (L : LtL), o.getD (.ref l0) = .ref r ∧ Lts (upd H l0 (.lst [])) r L ∧ lts L = getA ls k [] := by
  have s := same_upd (o := .lst []) hl0
  have hm := hm.same s
  refine ⟨_, DGet.k (k := Sum.inr k) hm.at_, ?_⟩
  rw [val_mkv, ← el, get_mpl]
  cases e : M.find? fun q => decide (q.1 = k) with
  | none => exact ⟨l0, [], rfl, ⟨upd_same, fun q hq => by cases hq⟩, rfl⟩
  | some q => exact ⟨q.2.1, q.2.2, rfl, hm.all q (List.mem_of_find?_eq_some e), rfl⟩
/-- the law's state -/
def StAt (H : Hp) (t : Addr) (g : Gs) : Prop := ∃ (d c l : Addr) (M : MpL) (N : LaL), H t = some (.tup [.ref d, fV g.fl, .ref c, .bl g.dn, .ref l]) ∧ SdX H d l M N g ∧ H c = some (.dK (fkv g.fd))
theorem StAt.same {H H' : Hp} {t : Addr} {g : Gs} (h : StAt H t g) (s : Same H H') : StAt H' t g := by
  obtain ⟨d, c, l, M, N, e, x, k⟩ := h
  exact ⟨d, c, l, M, N, s _ _ e, x.same s, s _ _ k⟩
/-- every event has a text as its key -/
def Dd.sk : Dd → Prop
  | .ev v _ _ => ∃ k, v = .str k
  | _ => True
theorem Dd.gd.sk {ks : List Str} {e : Dd} (h : e.gd ks) : e.sk := by
  cases e with
  | ev v t x =>
    obtain ⟨k, _, e⟩ := h
    exact ⟨k, e⟩
  | _ => trivial
def run (L : List Dd) : Gs := L.foldl Gs.step Gs.start
theorem run_snoc (L : List Dd) (e : Dd) : run (L ++ [e]) = (run L).step e := by
  unfold run
  rw [List.foldl_append]
  rfl
theorem sm_step {g : Gs} {n : Nat} (h : g.sm n) (e : Dd) : (g.step e).sm (n + 1) := by
  have h1 : g.sm (n + 1) := ⟨Nat.le_succ_of_le h.lt, Nat.le_succ_of_le h.ls, fun q hq => Nat.le_succ_of_le (h.all q hq)⟩
  cases e with
  | ev v t x =>
    cases v with
    | str k => exact h.event k t x
    | _ => exact h1
  | ra t => exact h1.raise t
  | ya s => exact h1
  | fi => exact ⟨h1.lt, h1.ls, h1.all⟩
theorem sm_fold (L : List Dd) : ∀ (g : Gs) (n : Nat), g.sm n → (L.foldl Gs.step g).sm (n + L.length) := by
  induction L with
  | nil => exact fun g n h => h
  | cons e L ih =>
    intro g n h
    have := ih _ _ (sm_step h e)
    rw [List.length_cons, show n + (L.length + 1) = n + 1 + L.length by omega]
    exact this
theorem sm_run (L : List Dd) : (run L).sm L.length := by
  have := sm_fold L Gs.start 0 ⟨Nat.le_refl _, Nat.le_refl _, fun q hq => by cases hq⟩
  rw [Nat.zero_add] at this
  exact this
theorem sm_le {g : Gs} {n m : Nat} (h : g.sm n) (le : n ≤ m) : g.sm m := ⟨Nat.le_trans h.lt le, Nat.le_trans h.ls le, fun q hq => Nat.le_trans (h.all q hq) le⟩
end Mv

set_option Elab.async false
set_option linter.all false
set_option maxRecDepth 100000
set_option maxHeartbeats 4000000
namespace Mv
open PySem PySem.Spec PyProof.Rows L2
abbrev sGa : Stmt := topS 22
section
variable {P : Program} {w : World} {K : PySem.W.Frag} {mg : Str → Option Value} {base : Heap}
theorem scGa : FnScope ["_law_deeds_here", "_law_letters_here", "_law_floor", "_law_counts", "_law_done", "_law_late", "_law_deed", "_law_name", "_law_row"] ["_law_deeds_here"] (defScope sGa) := ⟨rfl, rfl, rfl, by decide +kernel, rfl, by decide +kernel, by decide +kernel⟩
def spGa : Sp := fun vs H Q _ => ∃ (l : Addr) (L : DdL), vs = [.ref l] ∧ Dds H l L ∧ L.length ≤ 40 ∧ (∀ e ∈ L, e.2.sk) ∧ ∀ (H' : Hp) (t : Addr), Same H H' → StAt (fr H H') t (run (L.map (·.2))) → Q (.ref t) H'
def lsOk (L : List Ltr) (t : Int) : Bool := match L.getLast? with
  | none => true
  | some e => decide (e.t ≤ t)
def flOk (f : Option Int) (t : Int) : Bool := match f with
  | none => true
  | some f => decide (f ≤ t)
/-- what stands while the law walks its gate -/
structure GaI (H : Hp) (d c p : Addr) (M : MpL) (N : LaL) (g : Gs) (H' : Hp) : Prop where
  s : Same H H'
  x : SdX (fr H H') d p M N g
  ct : fr H H' c = some (.dK (fkv g.fd))
  cd : c ≠ d
def Dd.tag : Dd → Str
  | .ev _ _ _ => "event"
  | .ra _ => "raise"
  | .ya _ => "yard"
  | .fi => "finish"
theorem tg_event_raise : decide (("event" : Str) = "raise") = false := by decide +kernel
theorem tg_event_finish : decide (("event" : Str) = "finish") = false := by decide +kernel
theorem tg_event_event : decide (("event" : Str) = "event") = true := by decide +kernel
theorem tg_raise_raise : decide (("raise" : Str) = "raise") = true := by decide +kernel
theorem tg_raise_finish : decide (("raise" : Str) = "finish") = false := by decide +kernel
theorem tg_raise_event : decide (("raise" : Str) = "event") = false := by decide +kernel
theorem tg_yard_raise : decide (("yard" : Str) = "raise") = false := by decide +kernel
theorem tg_yard_finish : decide (("yard" : Str) = "finish") = false := by decide +kernel
theorem tg_yard_event : decide (("yard" : Str) = "event") = false := by decide +kernel
theorem tg_finish_raise : decide (("finish" : Str) = "raise") = false := by decide +kernel
theorem tg_finish_finish : decide (("finish" : Str) = "finish") = true := by decide +kernel
theorem tg_finish_event : decide (("finish" : Str) = "event") = false := by decide +kernel
theorem ix_dd {σ : L2.St} {H : Hp} {Q : VK} {i : Nat} {j : Int} {a : Addr} {e : Dd} {v : V} (h6 : σ[i]? = some (some (.ref a))) (ha : H a = some e.o) (hv : atI e.xs j = some v) (q : Q v H) : tOp (rIxT K) (tVar i) (tC (V.int j)) σ H Q := by
  simp only [tSeq, tAsg, gName, tOp, rI, rI0, rU, tUn, tVar, tC, tCB, tCons, tNil, tTest, tIfS, tRet, tRetN, tDrop, tNext, tBreak, tCont, rEq, rNe, CDiv, CDivN, CMul, tBM, tBM0, tTup, tLst, tAug, tIf, tAnd, tOr, tNot, tAndV, tOrV, tNotV, tIsN, tNotN, tB, scal, tCall, cxK, cxKn, rIxT, rIxL, rIn, rAppend, rReverse, tVals, tDSetd, tDGet, tDGet1, tDGet2, tDIn, tDNotIn, rSortV, rSortT, rPop, rSortL, rSortT, tSl, tNoPart, tPart, List.append_nil, L2.start, List.map_cons, List.map_nil, List.length_cons, List.length_nil, List.replicate_succ, List.replicate_zero, List.cons_append, List.nil_append, Nat.reduceAdd, Nat.reduceSub, exists_eq, exists_eq', List.getElem?_cons_zero, List.getElem?_cons_succ, List.set_cons_zero, List.set_cons_succ, Option.some.injEq, V.int.injEq, V.bl.injEq, V.str.injEq, V.ref.injEq, List.cons.injEq, and_true, true_and, and_false, false_and, reduceCtorEq, exists_false, or_false, false_or, exists_and_left, exists_and_right, exists_eq_left, exists_eq_left', exists_eq_right, exists_eq_right', exists_const, ite_true, ite_false, Bool.false_eq_true, if_true, if_false, decide_true, decide_false]
  exact ⟨.ref a, h6, a, rfl, _, tt ha, v, hv, q⟩
theorem tst_dd {σ : L2.St} {H : Hp} {Q : Bool → Hp → Prop} {i : Nat} {a : Addr} {e : Dd} {s : Str} {b : Bool} (h6 : σ[i]? = some (some (.ref a))) (ha : H a = some e.o) (hb : decide (e.tag = s) = b) (q : Q b H) : tTest (tOp rEq (tOp (rIxT K) (tVar i) (tC (V.int 0))) (tC (V.str s))) σ H Q := by
  subst hb
  have e0 : e.xs[0]? = some (.str e.tag) := by cases e <;> rfl
  simp only [tSeq, tAsg, gName, tOp, rI, rI0, rU, tUn, tVar, tC, tCB, tCons, tNil, tTest, tIfS, tRet, tRetN, tDrop, tNext, tBreak, tCont, rEq, rNe, CDiv, CDivN, CMul, tBM, tBM0, tTup, tLst, tAug, tIf, tAnd, tOr, tNot, tAndV, tOrV, tNotV, tIsN, tNotN, tB, scal, tCall, cxK, cxKn, rIxT, rIxL, rIn, rAppend, rReverse, tVals, tDSetd, tDGet, tDGet1, tDGet2, tDIn, tDNotIn, rSortV, rSortT, rPop, rSortL, rSortT, tSl, tNoPart, tPart, List.append_nil, L2.start, List.map_cons, List.map_nil, List.length_cons, List.length_nil, List.replicate_succ, List.replicate_zero, List.cons_append, List.nil_append, Nat.reduceAdd, Nat.reduceSub, exists_eq, exists_eq', List.getElem?_cons_zero, List.getElem?_cons_succ, List.set_cons_zero, List.set_cons_succ, Option.some.injEq, V.int.injEq, V.bl.injEq, V.str.injEq, V.ref.injEq, List.cons.injEq, and_true, true_and, and_false, false_and, reduceCtorEq, exists_false, or_false, false_or, exists_and_left, exists_and_right, exists_eq_left, exists_eq_left', exists_eq_right, exists_eq_right', exists_const, ite_true, ite_false, Bool.false_eq_true, if_true, if_false, decide_true, decide_false]
  refine ⟨.ref a, h6, a, rfl, _, tt ha, .str e.tag, atI_nat e0, rfl, ?_⟩
  have e1 : decide (V.str e.tag = V.str s) = decide (e.tag = s) := by simp
  rw [e1]
  exact q
theorem upd_sub {HS H : Hp} {a : Addr} {o : HO} (s : Same HS H) : Same (upd HS a o) (upd H a o) := fun b u e => by
  by_cases c : b = a
  · subst c
    rw [upd_same] at e ⊢
    exact e
  · rw [upd_ne c] at e ⊢
    exact s _ _ e
theorem get_ms2 {HS H : Hp} {d l0 : Addr} {M : MpL} {ls : List (Str × List Ltr)} (s : Same HS H) (hm : Mps HS d M) (el : mpl M = ls) (k : Str) (hl0 : H l0 = none) :
    ∃ o, DGet (upd H l0 (.lst [])) d (.str k) o ∧ ∃ (r : Addr) (L : LtL), o.getD (.ref l0) = .ref r ∧ Lts (upd HS l0 (.lst [])) r L ∧ lts L = getA ls k [] := by
  have hS := none_back s hl0
  have hm := hm.same (same_upd (o := .lst []) hS)
  refine ⟨_, DGet.k (k := Sum.inr k) (upd_sub s _ _ hm.at_), ?_⟩
  rw [val_mkv, ← el, get_mpl]
  cases e : M.find? fun q => decide (q.1 = k) with
  | none => exact ⟨l0, [], rfl, ⟨upd_same, fun q hq => by cases hq⟩, rfl⟩
  | some q => exact ⟨q.2.1, q.2.2, rfl, hm.all q (List.mem_of_find?_eq_some e), rfl⟩
theorem get2_dd {σ : L2.St} {HS H : Hp} {Q : VK} {i j : Nat} {a d : Addr} {e : Dd} {k : Str} {M : MpL} {ls : List (Str × List Ltr)} (hd : σ[i]? = some (some (.ref d))) (h6 : σ[j]? = some (some (.ref a))) (ha : H a = some e.o) (hv : atI e.xs 1 = some (.str k)) (s : Same HS H) (hm : Mps HS d M) (el : mpl M = ls)
    (q : ∀ (l0 r : Addr) (L : LtL), H l0 = none → Lts (upd HS l0 (.lst [])) r L → lts L = getA ls k [] → Q (.ref r) (upd H l0 (.lst []))) : tDGet2 (tVar i) (tOp (rIxT K) (tVar j) (tC (V.int 1))) (tLst tNil) σ H Q := by
  simp only [tSeq, tAsg, gName, tOp, rI, rI0, rU, tUn, tVar, tC, tCB, tCons, tNil, tTest, tIfS, tRet, tRetN, tDrop, tNext, tBreak, tCont, rEq, rNe, CDiv, CDivN, CMul, tBM, tBM0, tTup, tLst, tAug, tIf, tAnd, tOr, tNot, tAndV, tOrV, tNotV, tIsN, tNotN, tB, scal, tCall, cxK, cxKn, rIxT, rIxL, rIn, rAppend, rReverse, tVals, tDSetd, tDGet, tDGet1, tDGet2, tDIn, tDNotIn, rSortV, rSortT, rPop, rSortL, rSortT, tSl, tNoPart, tPart, List.append_nil, L2.start, List.map_cons, List.map_nil, List.length_cons, List.length_nil, List.replicate_succ, List.replicate_zero, List.cons_append, List.nil_append, Nat.reduceAdd, Nat.reduceSub, exists_eq, exists_eq', List.getElem?_cons_zero, List.getElem?_cons_succ, List.set_cons_zero, List.set_cons_succ, Option.some.injEq, V.int.injEq, V.bl.injEq, V.str.injEq, V.ref.injEq, List.cons.injEq, and_true, true_and, and_false, false_and, reduceCtorEq, exists_false, or_false, false_or, exists_and_left, exists_and_right, exists_eq_left, exists_eq_left', exists_eq_right, exists_eq_right', exists_const, ite_true, ite_false, Bool.false_eq_true, if_true, if_false, decide_true, decide_false]
  refine ⟨.ref d, hd, d, rfl, .inl ⟨_, .inl (s _ _ hm.at_)⟩, .ref a, h6, a, rfl, _, tt ha, .str k, hv, by decide, fun l0 hl0 => ?_⟩
  obtain ⟨o, ho, r, L, er, hL, eL⟩ := get_ms2 s hm el k hl0
  refine ⟨o, ho, ?_⟩
  rw [er]
  exact q l0 r L hl0 hL eL
theorem rises_dd {σ : L2.St} {H : Hp} {Q : Bool → Hp → Prop} {i j : Nat} {a : Addr} {g : Gs} {t : Int} (h2 : σ[i]? = some (some (fV g.fl))) (h6 : σ[j]? = some (some (.ref a))) (ha : H a = some (Dd.ra t).o) (q : Q (g.rises t) H) :
    tOr (tTest (tOp (fun x y H Q => y = V.non ∧ Q (V.bl (decide (x = V.non))) H) (tVar i) (tC V.non))) (tTest (tOp (rI0 fun i j => V.bl (decide (j < i))) (tOp (rIxT K) (tVar j) (tC (V.int 1))) (tVar i))) σ H Q := by
  simp only [tSeq, tAsg, gName, tOp, rI, rI0, rU, tUn, tVar, tC, tCB, tCons, tNil, tTest, tIfS, tRet, tRetN, tDrop, tNext, tBreak, tCont, rEq, rNe, CDiv, CDivN, CMul, tBM, tBM0, tTup, tLst, tAug, tIf, tAnd, tOr, tNot, tAndV, tOrV, tNotV, tIsN, tNotN, tB, scal, tCall, cxK, cxKn, rIxT, rIxL, rIn, rAppend, rReverse, tVals, tDSetd, tDGet, tDGet1, tDGet2, tDIn, tDNotIn, rSortV, rSortT, rPop, rSortL, rSortT, tSl, tNoPart, tPart, List.append_nil, L2.start, List.map_cons, List.map_nil, List.length_cons, List.length_nil, List.replicate_succ, List.replicate_zero, List.cons_append, List.nil_append, Nat.reduceAdd, Nat.reduceSub, exists_eq, exists_eq', List.getElem?_cons_zero, List.getElem?_cons_succ, List.set_cons_zero, List.set_cons_succ, Option.some.injEq, V.int.injEq, V.bl.injEq, V.str.injEq, V.ref.injEq, List.cons.injEq, and_true, true_and, and_false, false_and, reduceCtorEq, exists_false, or_false, false_or, exists_and_left, exists_and_right, exists_eq_left, exists_eq_left', exists_eq_right, exists_eq_right', exists_const, ite_true, ite_false, Bool.false_eq_true, if_true, if_false, decide_true, decide_false]
  refine ⟨_, h2, ?_⟩
  unfold Gs.rises at q
  cases ef : g.fl with
  | none =>
    rw [ef] at q
    exact if_T (by rfl) q
  | some f =>
    rw [ef] at q
    refine if_F (by rfl) ⟨.ref a, h6, a, rfl, _, tt ha, .int t, rfl, _, h2, t, rfl, f, by rw [ef]; rfl, q⟩
theorem cond_dd {σ : L2.St} {H : Hp} {Q : Bool → Hp → Prop} {a r : Addr} {L : LtL} {g : Gs} {k : Str} {v : V} {t x : Int} (h2 : σ[2]? = some (some (fV g.fl))) (h6 : σ[6]? = some (some (.ref a))) (h8 : σ[8]? = some (some (.ref r))) (ha : H a = some (Dd.ev v t x).o) (hr : Lts H r L) (hL : lts L = getA g.ls k []) (q : Q (!(g.ok k t)) H) :
    tOr (tAnd (tTest (tOp (fun x y H Q => y = V.non ∧ Q (V.bl !decide (x = V.non)) H) (tVar 2) (tC V.non))) (tTest (tOp (rI0 fun i j => V.bl (decide (i < j))) (tOp (rIxT K) (tVar 6) (tC (V.int 2))) (tVar 2))))
      (tAnd (fun σ H Q => ∃ v, σ[8]? = some (some v) ∧ ∃ k, TruV K v H k ∧ Q k H) (tTest (tOp (rI0 fun i j => V.bl (decide (i < j))) (tOp (rIxT K) (tVar 6) (tC (V.int 2))) (tOp (rIxT K) (tOp (rIxL K) (tVar 8) (tUn (rU fun i => V.int (-i)) (tC (V.int 1)))) (tC (V.int 1)))))) σ H Q := by
  simp only [tSeq, tAsg, gName, tOp, rI, rI0, rU, tUn, tVar, tC, tCB, tCons, tNil, tTest, tIfS, tRet, tRetN, tDrop, tNext, tBreak, tCont, rEq, rNe, CDiv, CDivN, CMul, tBM, tBM0, tTup, tLst, tAug, tIf, tAnd, tOr, tNot, tAndV, tOrV, tNotV, tIsN, tNotN, tB, scal, tCall, cxK, cxKn, rIxT, rIxL, rIn, rAppend, rReverse, tVals, tDSetd, tDGet, tDGet1, tDGet2, tDIn, tDNotIn, rSortV, rSortT, rPop, rSortL, rSortT, tSl, tNoPart, tPart, List.append_nil, L2.start, List.map_cons, List.map_nil, List.length_cons, List.length_nil, List.replicate_succ, List.replicate_zero, List.cons_append, List.nil_append, Nat.reduceAdd, Nat.reduceSub, exists_eq, exists_eq', List.getElem?_cons_zero, List.getElem?_cons_succ, List.set_cons_zero, List.set_cons_succ, Option.some.injEq, V.int.injEq, V.bl.injEq, V.str.injEq, V.ref.injEq, List.cons.injEq, and_true, true_and, and_false, false_and, reduceCtorEq, exists_false, or_false, false_or, exists_and_left, exists_and_right, exists_eq_left, exists_eq_left', exists_eq_right, exists_eq_right', exists_const, ite_true, ite_false, Bool.false_eq_true, if_true, if_false, decide_true, decide_false]
  have last : Q (!(lsOk (lts L) t)) H → ∃ v, σ[8]? = some (some v) ∧ ∃ k, TruV K v H k ∧ if k = true then ∃ v, σ[6]? = some (some v) ∧ ∃ p, v = V.ref p ∧ ∃ x, SqT K H p x ∧ ∃ x_1, atI x 2 = some x_1 ∧ ∃ v, σ[8]? = some (some v) ∧ ∃ p, v = V.ref p ∧ ∃ x, SqL K H p x ∧ ∃ x_2, atI x (-1) = some x_2 ∧ ∃ p, x_2 = V.ref p ∧ ∃ x, SqT K H p x ∧ ∃ x_3, atI x 1 = some x_3 ∧ ∃ i, x_1 = V.int i ∧ ∃ j, x_3 = V.int j ∧ Q (decide (i < j)) H else Q false H := by
    intro q
    refine ⟨.ref r, h8, ?_⟩
    rcases List.eq_nil_or_concat L with rfl | ⟨L0, ⟨ep, e⟩, rfl⟩
    · exact ⟨false, .inl ⟨_, ll hr.at_, rfl⟩, if_F rfl q⟩
    · rw [List.concat_eq_append] at *
      have e3 : lsOk (lts (L0 ++ [(ep, e)])) t = decide (e.t ≤ t) := by
        unfold lsOk lts
        rw [List.map_append]
        show (match (List.map (·.2) L0 ++ [e]).getLast? with
          | none => true
          | some e => decide (e.t ≤ t)) = _
        rw [List.getLast?_concat]
      rw [e3] at q
      refine ⟨true, .inl ⟨_, ll hr.at_, by rw [List.map_append]; cases L0.map (fun q => V.ref q.1) <;> rfl⟩, if_T rfl ⟨.ref a, h6, a, rfl, _, tt ha, .int t, rfl, .ref r, h8, r, rfl, _, ll hr.at_, .ref ep, by rw [List.map_append]; exact atI_last _ _, ep, rfl, _, tt (hr.all (ep, e) (List.mem_append_right _ (List.mem_singleton.mpr rfl))), .int e.t, rfl, t, rfl, e.t, rfl, ?_⟩⟩
      have e4 : decide (t < e.t) = !decide (e.t ≤ t) := by
        by_cases c : e.t ≤ t
        · rw [decide_eq_true c, decide_eq_false (by omega)]
          rfl
        · rw [decide_eq_false c, decide_eq_true (by omega)]
          rfl
      rw [e4]
      exact q
  have e0 : g.ok k t = (flOk g.fl t && lsOk (lts L) t) := by
    rw [hL]
    rfl
  rw [e0] at q
  refine ⟨_, h2, ?_⟩
  cases ef : g.fl with
  | none =>
    rw [ef] at q
    exact if_F (by rfl) (last q)
  | some f =>
    rw [ef] at q
    refine if_T (by rfl) ⟨.ref a, h6, a, rfl, _, tt ha, .int t, rfl, _, h2, t, rfl, f, by rw [ef]; rfl, ite2 (fun c => ?_) (fun c => ?_)⟩
    · have e5 : flOk (some f) t = false := decide_eq_false (by have := of_decide_eq_true c; omega)
      rw [e5] at q
      exact q
    · have e5 : flOk (some f) t = true := decide_eq_true (by have : ¬ t < f := fun z => c (decide_eq_true z); omega)
      rw [e5] at q
      exact last q
theorem ok_ga {f : Addr} {fd : FuncData} (F : Fun K "_law_gate" "_law_gate" sGa f fd) (B : Bi mg) : FnOk P w K mg base CX0 1 f fd ["_law_deeds_here"] spGa := by
  refine F.ok scGa (fun vs H Q E h => ?_) (fun cdv A outer s H vs Q E hr h => ?_)
  · obtain ⟨l, L, rfl, _⟩ := h
    rfl
  · obtain ⟨l, L, rfl, hl, hlen, hsk, q⟩ := h
    refine ⟨_, (pss_cons (ps_set (i := 1) scGa.nd rfl (.inl rfl) pe_dnewK)
 (pss_cons (ps_set (i := 2) scGa.nd rfl (.inl rfl) pe_non)
 (pss_cons (ps_set (i := 3) scGa.nd rfl (.inl rfl) pe_dnewK)
 (pss_cons (ps_set (i := 4) scGa.nd rfl (.inl rfl) pe_bl)
 (pss_cons (ps_set (i := 5) scGa.nd rfl (.inl rfl) (pe_lst pa_nil))
 (pss_cons (ps_for PassesOwn.never rfl (pi_list (pv 0)) (pg_name (i := 6) scGa.nd rfl (.inl rfl))
 (pss_cons (ps_if (PW.pt (pw_and (pt_cmpR op_eq (pe_ix ix_tup (pv 6) pe_int (fun _ _ => rfl)) pe_str (nomark _)) (pw_and1 (PW.pt (pw_or (pt_cmpR op_isN (pv 2) pe_non (nomark _)) (pw_or1 (pt_cmpR op_gt (pe_ix ix_tup (pv 6) pe_int (fun _ _ => rfl)) (pv 2) (nomark _))))))))
 (pss_cons (ps_set (i := 2) scGa.nd rfl (.inl rfl) (pe_ix ix_tup (pv 6) pe_int (fun _ _ => rfl)))
 (pss_cons (ps_set (i := 3) scGa.nd rfl (.inl rfl) pe_dnewK)
 (pss_one (ps_lock (ps_for PassesOwn.never rfl (pi_keys (pv 1)) (pg_name (i := 7) scGa.nd rfl (.inl rfl))
 (pss_one (ps_dput (hu_of hr) (pv 3) (pv 7) (pe_callB call_len_seq (by rfl) B.len PySem.boot_len (pa_cons (pe_dget (hu_of hr) (pv 1) (pv 7) (fun _ _ => rfl)) pa_nil)) rfl))))))) pss_nil)
 (pss_cons (ps_if (pt_cmpR op_eq (pe_ix ix_tup (pv 6) pe_int (fun _ _ => rfl)) pe_str (nomark _))
 (pss_one (ps_set (i := 4) scGa.nd rfl (.inl rfl) pe_bl)) pss_nil)
 (pss_one (ps_if (pt_cmpR op_eq (pe_ix ix_tup (pv 6) pe_int (fun _ _ => rfl)) pe_str (nomark _))
 (pss_cons (ps_set (i := 8) scGa.nd rfl (.inl rfl) (pe_dget2 (hu_of hr) (pv 1) (pe_ix ix_tup (pv 6) pe_int (fun _ _ => rfl)) (pe_lst pa_nil) ⟨by rfl, by rfl, by rfl, by rfl⟩))
 (pss_one (ps_if (PW.pt (pw_or (PW.pt (pw_and (pt_cmpR op_notN (pv 2) pe_non (nomark _)) (pw_and1 (pt_cmpR op_lt (pe_ix ix_tup (pv 6) pe_int (fun _ _ => rfl)) (pv 2) (nomark _))))) (pw_or1 (PW.pt (pw_and (pt_truth (pv 8) (by intro _; rfl)) (pw_and1 (pt_cmpR op_lt (pe_ix ix_tup (pv 6) pe_int (fun _ _ => rfl)) (pe_ix ix_tup (pe_ix ix_list (pv 8) (pe_un un_neg pe_int) (fun _ _ => rfl)) pe_int (fun _ _ => rfl)) (nomark _))))))))
 (pss_one (ps_expr (pe_bm PySem.F.plainAttrs_list PySem.F.slot_list_append PySem.F.type_list_append mt_append (pv 5) (pa_cons (pe_tup (pa_cons (pe_ix ix_tup (pv 6) pe_int (fun _ _ => rfl)) (pa_cons (pe_ix ix_tup (pv 6) pe_int (fun _ _ => rfl)) (pa_cons (pe_ix ix_tup (pv 6) pe_int (fun _ _ => rfl)) pa_nil)))) pa_nil)))) (pss_one (ps_dput (hu_of hr) (pv 1) (pe_ix ix_tup (pv 6) pe_int (fun _ _ => rfl)) (pe_op op_cat (pv 8) (pe_lst (pa_cons (pe_tup (pa_cons (pe_callB call_len_seq (by rfl) B.len PySem.boot_len (pa_cons (pv 8) pa_nil)) (pa_cons (pe_ix ix_tup (pv 6) pe_int (fun _ _ => rfl)) (pa_cons (pe_ix ix_tup (pv 6) pe_int (fun _ _ => rfl)) pa_nil)))) pa_nil))) rfl))))) pss_nil)))))
 (pss_one (ps_ret (pe_tup (pa_cons (pv 1) (pa_cons (pv 2) (pa_cons (pv 3) (pa_cons (pv 4) (pa_cons (pv 5) pa_nil)))))))))))))), ?_⟩
    simp only [tSeq, tAsg, gName, tOp, rI, rI0, rU, tUn, tVar, tC, tCB, tCons, tNil, tTest, tIfS, tRet, tRetN, tDrop, tNext, tBreak, tCont, rEq, rNe, CDiv, CDivN, CMul, tBM, tBM0, tTup, tLst, tAug, tIf, tAnd, tOr, tNot, tAndV, tOrV, tNotV, tIsN, tNotN, tB, scal, tCall, cxK, cxKn, rIxT, rIxL, rIn, rAppend, rReverse, tVals, tDSetd, tDGet, tDGet1, tDGet2, tDIn, tDNotIn, rSortV, rSortT, rPop, rSortL, rSortT, tSl, tNoPart, tPart, List.append_nil, L2.start, List.map_cons, List.map_nil, List.length_cons, List.length_nil, List.replicate_succ, List.replicate_zero, List.cons_append, List.nil_append, Nat.reduceAdd, Nat.reduceSub, exists_eq, exists_eq', tDNewK, List.getElem?_cons_zero, List.getElem?_cons_succ, List.set_cons_zero, List.set_cons_succ, Option.some.injEq, V.int.injEq, V.bl.injEq, V.str.injEq, V.ref.injEq, List.cons.injEq, and_true, true_and, and_false, false_and, reduceCtorEq, exists_false, or_false, false_or, exists_and_left, exists_and_right, exists_eq_left, exists_eq_left', exists_eq_right, exists_eq_right', exists_const, ite_true, ite_false, Bool.false_eq_true, if_true, if_false, decide_true, decide_false]
    intro d hd c hc
    refine ⟨by decide, fun p hp => ?_⟩
    have cd : c ≠ d := fun z => by
      rw [z, upd_same] at hc
      cases hc
    rw [upd_ne cd] at hc
    have pc : p ≠ c := fun z => by
      rw [z, upd_same] at hp
      cases hp
    rw [upd_ne pc] at hp
    have pd : p ≠ d := fun z => by
      rw [z, upd_same] at hp
      cases hp
    rw [upd_ne pd] at hp
    have I0 : GaI H d c p [] [] Gs.start (upd (upd (upd H d (.dK [])) c (.dK [])) p (.lst [])) := by
      refine ⟨fun b o e => ?_, ⟨⟨?_, fun q hq => (by cases hq)⟩, rfl, ⟨?_, fun q hq => (by cases hq)⟩, rfl, List.nodup_nil, fun q hq => (by cases hq)⟩, ?_, cd⟩
      · rw [upd_ne (ne_of_none e hp), upd_ne (ne_of_none e hc), upd_ne (ne_of_none e hd)]
        exact e
      · rw [fr_at hd, upd_ne pd.symm, upd_ne cd.symm, upd_same]
        rfl
      · rw [fr_at hp, upd_same]
        rfl
      · rw [fr_at hc, upd_ne pc.symm, upd_same]
        rfl
    generalize upd (upd (upd H d (.dK [])) c (.dK [])) p (.lst []) = H1 at I0 ⊢
    refine ⟨.ref l, rfl, l, rfl, ⟨_, ll (I0.s _ _ hl.at_)⟩, ?_⟩
    refine for_it walk_list (fun i σ H' => ∃ (c : Addr) (M : MpL) (N : LaL) (y6 y7 y8 : Option V), σ = [some (.ref l), some (.ref d), some (fV (run ((L.take i).map (·.2))).fl), some (.ref c), some (.bl (run ((L.take i).map (·.2))).dn), some (.ref p), y6, y7, y8] ∧ GaI H d c p M N (run ((L.take i).map (·.2))) H')
      ⟨c, [], [], none, none, none, rfl, I0⟩ (fun i σ H' _ ⟨_, _, _, _, _, _, _, D⟩ => ll (D.s _ _ hl.at_)) ?_ ?_
    · rintro i v σ H2 H2' hi ⟨c, M, N, y6, y7, y8, rfl, I⟩ ⟨rfl, hv⟩
      obtain ⟨⟨a, e⟩, he, rfl⟩ : ∃ q, L[i]? = some q ∧ V.ref q.1 = v := by
        rw [List.getElem?_map] at hv
        exact Option.map_eq_some_iff.mp hv
      have ha : H2' a = some e.o := I.s _ _ (hl.all (a, e) (List.mem_of_getElem? he))
      have hs := hsk _ (List.mem_of_getElem? he)
      have sm0 := sm_run ((L.take i).map (·.2))
      rw [List.length_map, List.length_take] at sm0
      have sm0 := sm_le (m := 100) sm0 (by omega)
      rw [take_one he, List.map_append]
      show gName 6 _ _ _ _
      simp only [List.map_cons, List.map_nil, run_snoc]
      generalize run ((L.take i).map (·.2)) = g at I sm0 ⊢
      simp only [gName, tSeq, tIfS, tAnd, tNext, List.set_cons_zero, List.set_cons_succ]
      cases e with
      | ya z =>
        refine tst_dd rfl ha tg_yard_raise (if_F rfl (if_F rfl (tst_dd rfl ha tg_yard_finish (if_F rfl (tst_dd rfl ha tg_yard_event (if_F rfl ?_))))))
        exact ⟨c, M, N, _, _, _, rfl, I⟩
      | fi =>
        refine tst_dd rfl ha tg_finish_raise (if_F rfl (if_F rfl (tst_dd rfl ha tg_finish_finish (if_T rfl ?_))))
        refine tst_dd rfl ha tg_finish_event (if_F rfl ?_)
        exact ⟨c, M, N, _, _, _, rfl, ⟨I.s, I.x.eq rfl rfl, I.ct, I.cd⟩⟩
      | ra t =>
        refine tst_dd rfl ha tg_raise_raise (if_T rfl (rises_dd rfl rfl ha ?_))
        cases er : g.rises t with
        | false =>
          have es : g.step (.ra t) = g := by
            show g.raise t = g
            unfold Gs.raise
            rw [er]
            rfl
          rw [es]
          refine if_F rfl (tst_dd rfl ha tg_raise_finish (if_F rfl (tst_dd rfl ha tg_raise_event (if_F rfl ?_))))
          exact ⟨c, M, N, _, _, _, rfl, I⟩
        | true =>
          have es : g.step (.ra t) = { g with fl := some t, fd := g.ls.map fun q => (q.1, (q.2.length : Int)) } := by
            show g.raise t = _
            unfold Gs.raise
            rw [er]
            rfl
          rw [es]
          refine if_T rfl ?_
          simp only [tAsg, gName, tSeq, tDNewK, List.set_cons_zero, List.set_cons_succ]
          refine ix_dd rfl ha (v := .int t) rfl (fun c2 hc2 => ?_)
          have hd2 := fr_le _ _ I.x.mp.at_
          have cd2 : c2 ≠ d := fun z => by
            rw [z, hd2] at hc2
            cases hc2
          refine ⟨d, .dK (mkv M), by rw [upd_ne cd2.symm]; exact hd2, True.intro, fun od => ?_⟩
          refine ⟨.ref d, rfl, d, od, rfl, .inl ⟨mkv M, upd_same, ?_⟩⟩
          have nHF : ∀ b o, b ≠ d → H2' b = some o → upd (upd H2' c2 (.dK [])) d (.frz od (.dK (mkv M))) b = some o := fun b o n e => by
            rw [upd_ne n, upd_ne (ne_of_none e hc2)]
            exact e
          have hFd : upd (upd H2' c2 (.dK [])) d (.frz od (.dK (mkv M))) d = some (.frz od (.dK (mkv M))) := upd_same
          have hFc : upd (upd H2' c2 (.dK [])) d (.frz od (.dK (mkv M))) c2 = some (.dK []) := by
            rw [upd_ne cd2]
            exact upd_same
          have lM : M.length ≤ 100 := by
            have e1 : M.length = g.ls.length := by
              rw [← I.x.ls]
              exact (List.length_map _).symm
            have := sm0.ls
            omega
          generalize upd (upd H2' c2 (.dK [])) d (.frz od (.dK (mkv M))) = HF at nHF hFd hFc ⊢
          refine for_it walk_keys (fun i σ H' => ∃ (y7 : Option V), σ = [some (.ref l), some (.ref d), some (.int t), some (.ref c2), some (.bl g.dn), some (.ref p), some (.ref a), y7, y8] ∧ (∀ b o, b ≠ c2 → HF b = some o → H' b = some o) ∧ H' c2 = some (.dK (fkv (cnts (M.take i)))))
            ⟨y7, rfl, fun b o _ e => e, hFc⟩ (fun i σ H' _ ⟨_, _, z, _⟩ => z _ _ cd2.symm hFd) ?_ ?_
          · rintro i2 v2 σ2 H4 H4' hi2 ⟨y7, rfl, z1, z2⟩ ⟨rfl, k2, w2, hk2, rfl⟩
            obtain ⟨q1, hq1, e⟩ : ∃ q, M[i2]? = some q ∧ (Sum.inr q.1, V.ref q.2.1) = (k2, w2) := by
              unfold mkv at hk2
              rw [List.getElem?_map] at hk2
              exact Option.map_eq_some_iff.mp hk2
            obtain ⟨rfl, rfl⟩ := Prod.mk.inj e
            have hm1 := List.mem_of_getElem? hq1
            have hq2 := fr_le _ _ (I.x.mp.all q1 hm1).at_
            have nqd : q1.2.1 ≠ d := ne_lt hq2 hd2 (fun z => by cases z)
            have nqc : q1.2.1 ≠ c2 := ne_of_none hq2 hc2
            have hq3 := z1 _ _ nqc (nHF _ _ nqd hq2)
            have ev : valV (mkv M) (Sum.inr q1.1) = some (.ref q1.2.1) := by
              rw [val_mkv, find_kd I.x.kd hm1]
              rfl
            have hil : i2 < M.length := (List.getElem?_eq_some_iff.mp hq1).1
            simp only [tSeq, tAsg, gName, tOp, rI, rI0, rU, tUn, tVar, tC, tCB, tCons, tNil, tTest, tIfS, tRet, tRetN, tDrop, tNext, tBreak, tCont, rEq, rNe, CDiv, CDivN, CMul, tBM, tBM0, tTup, tLst, tAug, tIf, tAnd, tOr, tNot, tAndV, tOrV, tNotV, tIsN, tNotN, tB, scal, tCall, cxK, cxKn, rIxT, rIxL, rIn, rAppend, rReverse, tVals, tDSetd, tDGet, tDGet1, tDGet2, tDIn, tDNotIn, rSortV, rSortT, rPop, rSortL, rSortT, tSl, tNoPart, tPart, List.append_nil, L2.start, List.map_cons, List.map_nil, List.length_cons, List.length_nil, List.replicate_succ, List.replicate_zero, List.cons_append, List.nil_append, Nat.reduceAdd, Nat.reduceSub, exists_eq, exists_eq', sDPut, tDGet, List.getElem?_cons_zero, List.getElem?_cons_succ, List.set_cons_zero, List.set_cons_succ, Option.some.injEq, V.int.injEq, V.bl.injEq, V.str.injEq, V.ref.injEq, List.cons.injEq, and_true, true_and, and_false, false_and, reduceCtorEq, exists_false, or_false, false_or, exists_and_left, exists_and_right, exists_eq_left, exists_eq_left', exists_eq_right, exists_eq_right', exists_const, ite_true, ite_false, Bool.false_eq_true, if_true, if_false, decide_true, decide_false]
            refine ⟨.ref q1.2.1, .inl ⟨mkv M, Sum.inr q1.1, .inr ⟨od, z1 _ _ cd2.symm hFd⟩, rfl, ev.symm⟩, q1.2.1, rfl, _, .inl (ll hq3), _, DPut.k (k := Sum.inr q1.1) z2 ?_, fun b o n e => ?_, ?_⟩
            · unfold fkv cnts
              rw [List.length_map, List.length_map, List.length_take]
              exact small1000 (by omega)
            · rw [upd_ne n]
              exact z1 _ _ n e
            · have e9 : (q1.2.2.map fun q => V.ref q.1).length = (lts q1.2.2).length := by
                unfold lts
                rw [List.length_map, List.length_map]
              rw [upd_same, e9, fkv_put I.x.kd hq1]
          · rintro σ2 H4 ⟨y7, rfl, z1, z2⟩
            have e4 := z1 _ _ cd2.symm hFd
            refine ⟨e4, ?_⟩
            dsimp only
            simp only [tSeq, tIfS, tNext]
            have st5 : ∀ b o, b ≠ c2 → H2' b = some o → upd H4 d (.dK (mkv M)) b = some o := fun b o n e => by
              by_cases cbd : b = d
              · subst cbd
                rw [upd_same]
                rw [hd2] at e
                exact e
              · rw [upd_ne cbd]
                exact z1 _ _ n (nHF _ _ cbd e)
            have s5 : Same H2' (upd H4 d (.dK (mkv M))) := fun b o e => st5 b o (ne_of_none e hc2) e
            have hc5 : upd H4 d (.dK (mkv M)) c2 = some (.dK (fkv (g.ls.map fun q => (q.1, (q.2.length : Int))))) := by
              rw [upd_ne cd2, z2, show (mkv M).length = M.length from List.length_map _, List.take_length, ← I.x.ls]
              unfold cnts mpl
              rw [List.map_map]
              rfl
            have ha5 := s5 _ _ ha
            generalize upd H4 d (.dK (mkv M)) = H5 at s5 hc5 ha5 ⊢
            refine tst_dd rfl ha5 tg_raise_finish (if_F rfl (tst_dd rfl ha5 tg_raise_event (if_F rfl ?_)))
            refine ⟨c2, M, N, _, _, _, rfl, ⟨I.s.trans s5, (I.x.same (fr_same s5)).eq rfl rfl, ?_, cd2⟩⟩
            rw [fr_at (none_back I.s hc2)]
            exact hc5
      | ev v t x =>
        obtain ⟨k, rfl⟩ := hs
        refine tst_dd rfl ha tg_event_raise (if_F rfl (if_F rfl (tst_dd rfl ha tg_event_finish (if_F rfl (tst_dd rfl ha tg_event_event (if_T rfl ?_))))))
        refine get2_dd rfl rfl ha rfl (fr_le (H := H)) I.x.mp I.x.ls (fun l0 r L1 hl0 hr eL => ?_)
        have s3 := same_upd (o := .lst []) hl0
        have I3 : GaI H d c p M N g (upd H2' l0 (.lst [])) := ⟨I.s.trans s3, I.x.same (fr_same s3), fr_same s3 _ _ I.ct, I.cd⟩
        have ha3 := s3 _ _ ha
        rw [← fr_upd (none_back I.s hl0)] at hr
        generalize upd H2' l0 (.lst []) = H3 at hr I3 ha3 ⊢
        refine cond_dd rfl rfl rfl ha3 (hr.same fr_le) eL ?_
        have dN : H d = none := fr_no I3.x.mp.at_
        have pN : H p = none := fr_no I3.x.la.at_
        have hct := I3.ct
        have cN : H c = none := fr_no hct
        have cp : c ≠ p := ne_lt hct I3.x.la.at_ (fun z => by cases z)
        cases eo : g.ok k t with
        | false =>
          refine if_T rfl ?_
          have es : g.step (.ev (.str k) t x) = { g with lt := g.lt ++ [⟨k, t, x⟩] } := by
            show g.event k t x = _
            unfold Gs.event
            rw [eo]
            rfl
          rw [es]
          simp only [tSeq, tAsg, gName, tOp, rI, rI0, rU, tUn, tVar, tC, tCB, tCons, tNil, tTest, tIfS, tRet, tRetN, tDrop, tNext, tBreak, tCont, rEq, rNe, CDiv, CDivN, CMul, tBM, tBM0, tTup, tLst, tAug, tIf, tAnd, tOr, tNot, tAndV, tOrV, tNotV, tIsN, tNotN, tB, scal, tCall, cxK, cxKn, rIxT, rIxL, rIn, rAppend, rReverse, tVals, tDSetd, tDGet, tDGet1, tDGet2, tDIn, tDNotIn, rSortV, rSortT, rPop, rSortL, rSortT, tSl, tNoPart, tPart, List.append_nil, L2.start, List.map_cons, List.map_nil, List.length_cons, List.length_nil, List.replicate_succ, List.replicate_zero, List.cons_append, List.nil_append, Nat.reduceAdd, Nat.reduceSub, exists_eq, exists_eq', List.getElem?_cons_zero, List.getElem?_cons_succ, List.set_cons_zero, List.set_cons_succ, Option.some.injEq, V.int.injEq, V.bl.injEq, V.str.injEq, V.ref.injEq, List.cons.injEq, and_true, true_and, and_false, false_and, reduceCtorEq, exists_false, or_false, false_or, exists_and_left, exists_and_right, exists_eq_left, exists_eq_left', exists_eq_right, exists_eq_right', exists_const, ite_true, ite_false, Bool.false_eq_true, if_true, if_false, decide_true, decide_false]
          have hp3 := fr_le _ _ I3.x.la.at_
          refine ⟨.inl ⟨rfl, _, ll hp3⟩, _, tt ha3, .str k, rfl, _, tt ha3, .int t, rfl, _, tt ha3, .int x, rfl, by decide, fun tp htp => ⟨_, same_upd htp _ _ hp3, ?_, M, N ++ [(tp, ⟨k, t, x⟩)], ?_⟩⟩
          · rw [List.length_map]
            have e1 : N.length = g.lt.length := by
              rw [← I3.x.lt]
              exact (List.length_map _).symm
            have := sm0.lt
            exact small1000 (by omega)
          · have tN := none_back I3.s htp
            have tF := fr_none I3.s htp
            have ct : c ≠ tp := ne_of_none hct tF
            have ntp : tp ≠ p := fun z => by
              rw [z, hp3] at htp
              cases htp
            refine ⟨fun b o e => ?_, ?_, ?_, I3.cd⟩
            · rw [upd_ne (ne_of_none e pN), upd_ne (ne_of_none e tN)]
              exact I3.s _ _ e
            · rw [fr_upd pN, fr_upd tN]
              refine I3.x.late (fun b o n e => ?_) upd_same (by rw [upd_ne ntp]; exact upd_same)
              rw [upd_ne n, upd_ne (ne_of_none e tF)]
              exact e
            · rw [fr_upd pN, fr_upd tN, upd_ne cp, upd_ne ct]
              exact hct
        | true =>
          refine if_F rfl ?_
          have es : g.step (.ev (.str k) t x) = { g with ls := putA g.ls k (getA g.ls k [] ++ [⟨((getA g.ls k []).length : Int), t, x⟩]) } := by
            show g.event k t x = _
            unfold Gs.event
            rw [eo]
            rfl
          rw [es]
          simp only [tSeq, tAsg, gName, tOp, rI, rI0, rU, tUn, tVar, tC, tCB, tCons, tNil, tTest, tIfS, tRet, tRetN, tDrop, tNext, tBreak, tCont, rEq, rNe, CDiv, CDivN, CMul, tBM, tBM0, tTup, tLst, tAug, tIf, tAnd, tOr, tNot, tAndV, tOrV, tNotV, tIsN, tNotN, tB, scal, tCall, cxK, cxKn, rIxT, rIxL, rIn, rAppend, rReverse, tVals, tDSetd, tDGet, tDGet1, tDGet2, tDIn, tDNotIn, rSortV, rSortT, rPop, rSortL, rSortT, tSl, tNoPart, tPart, List.append_nil, L2.start, List.map_cons, List.map_nil, List.length_cons, List.length_nil, List.replicate_succ, List.replicate_zero, List.cons_append, List.nil_append, Nat.reduceAdd, Nat.reduceSub, exists_eq, exists_eq', sDPut, rCat, List.getElem?_cons_zero, List.getElem?_cons_succ, List.set_cons_zero, List.set_cons_succ, Option.some.injEq, V.int.injEq, V.bl.injEq, V.str.injEq, V.ref.injEq, List.cons.injEq, and_true, true_and, and_false, false_and, reduceCtorEq, exists_false, or_false, false_or, exists_and_left, exists_and_right, exists_eq_left, exists_eq_left', exists_eq_right, exists_eq_right', exists_const, ite_true, ite_false, Bool.false_eq_true, if_true, if_false, decide_true, decide_false]
          have hr3 := fr_le _ _ hr.at_
          have hd3 := fr_le _ _ I3.x.mp.at_
          refine ⟨_, .inl (ll hr3), _, tt ha3, .int t, rfl, _, tt ha3, .int x, rfl, by decide, fun tp htp => ⟨by decide, fun p2 hp2 => ⟨_, same_upd hp2 _ _ (same_upd htp _ _ hr3), _, upd_same, ?_, fun p3 hp3 => ?_⟩⟩⟩
          · rw [List.length_map]
            have e1 : L1.length = (getA g.ls k []).length := by
              rw [← eL]
              exact (List.length_map _).symm
            have := getA_len (k := k) sm0.all
            show L1.length + 1 ≤ sizeLine
            exact Nat.le_of_lt (small1000 (by omega))
          · have n23 : p2 ≠ tp := fun z => by
              rw [z, upd_same] at hp2
              cases hp2
            rw [upd_ne n23] at hp2
            have n32 : p3 ≠ p2 := fun z => by
              rw [z, upd_same] at hp3
              cases hp3
            rw [upd_ne n32] at hp3
            have n3t : p3 ≠ tp := fun z => by
              rw [z, upd_same] at hp3
              cases hp3
            rw [upd_ne n3t] at hp3
            have st : ∀ b o, H3 b = some o → upd (upd (upd H3 tp (.tup [.int ((L1.map fun q => V.ref q.1).length : Int), .int t, .int x])) p2 (.lst [.ref tp])) p3 (.lst (L1.map (fun q => V.ref q.1) ++ [.ref tp])) b = some o := fun b o e => by
              rw [upd_ne (ne_of_none e hp3), upd_ne (ne_of_none e hp2), upd_ne (ne_of_none e htp)]
              exact e
            have lM : (mkv M).length < sizeLine := by
              have e1 : M.length = g.ls.length := by
                rw [← I3.x.ls]
                exact (List.length_map _).symm
              have := sm0.ls
              unfold mkv
              rw [List.length_map]
              exact small1000 (by omega)
            refine ⟨_, tt (st _ _ ha3), .str k, rfl, _, DPut.k (k := Sum.inr k) (st _ _ hd3) lM, putA M k (p3, L1 ++ [(tp, ⟨((L1.map fun q => V.ref q.1).length : Int), t, x⟩)]), N, ?_⟩
            have tN := none_back I3.s htp
            have N2 := none_back I3.s hp2
            have N3 := none_back I3.s hp3
            have tF := fr_none I3.s htp
            have F2 := fr_none I3.s hp2
            have F3 := fr_none I3.s hp3
            have nd3 : p3 ≠ d := fun z => by
              rw [z, hd3] at hp3
              cases hp3
            have ndt : tp ≠ d := fun z => by
              rw [z, hd3] at htp
              cases htp
            have stF : ∀ b o, b ≠ d → fr H H3 b = some o → upd (upd (upd (upd (fr H H3) tp (.tup [.int ((L1.map fun q => V.ref q.1).length : Int), .int t, .int x])) p2 (.lst [.ref tp])) p3 (.lst (L1.map (fun q => V.ref q.1) ++ [.ref tp]))) d (.dK (putK (mkv M) (Sum.inr k) (.ref p3))) b = some o := fun b o n e => by
              rw [upd_ne n, upd_ne (ne_of_none e F3), upd_ne (ne_of_none e F2), upd_ne (ne_of_none e tF)]
              exact e
            refine ⟨fun b o e => ?_, ?_, ?_, I3.cd⟩
            · rw [upd_ne (ne_of_none e dN)]
              exact st _ _ (I3.s _ _ e)
            · rw [fr_upd dN, fr_upd N3, fr_upd N2, fr_upd tN]
              have h9 := I3.x.put (k := k) (r := p3) (L := L1 ++ [(tp, ⟨((L1.map fun q => V.ref q.1).length : Int), t, x⟩)]) stF upd_same ⟨by rw [upd_ne nd3, upd_same, List.map_append]; rfl, fun q hq => ?_⟩ (fun z => by
                rw [z, fr_le _ _ I3.x.la.at_] at hp3
                cases hp3)
              · have e9 : lts (L1 ++ [(tp, (⟨((L1.map fun q => V.ref q.1).length : Int), t, x⟩ : Ltr))]) = getA g.ls k [] ++ [⟨((getA g.ls k []).length : Int), t, x⟩] := by
                  have e1 : (L1.map fun q => V.ref q.1).length = (getA g.ls k []).length := by
                    rw [← eL, List.length_map]
                    exact (List.length_map _).symm
                  rw [e1, ← eL]
                  unfold lts
                  rw [List.map_append]
                  rfl
                rw [e9] at h9
                exact h9
              · rcases List.mem_append.mp hq with hq | hq
                · exact stF _ _ (ne_lt (hr.all q hq) I3.x.mp.at_ (fun z => by cases z)) (hr.all q hq)
                · rw [List.mem_singleton.mp hq]
                  show upd _ _ _ tp = _
                  rw [upd_ne ndt, upd_ne n3t.symm, upd_ne n23.symm, upd_same]
                  rfl
            · rw [fr_upd dN, fr_upd N3, fr_upd N2, fr_upd tN]
              exact stF _ _ I3.cd hct
    · rintro σ H3 ⟨c, M, N, y6, y7, y8, rfl, I⟩
      rw [List.length_map, List.take_length] at I ⊢
      dsimp only
      simp only [tSeq, tAsg, gName, tOp, rI, rI0, rU, tUn, tVar, tC, tCB, tCons, tNil, tTest, tIfS, tRet, tRetN, tDrop, tNext, tBreak, tCont, rEq, rNe, CDiv, CDivN, CMul, tBM, tBM0, tTup, tLst, tAug, tIf, tAnd, tOr, tNot, tAndV, tOrV, tNotV, tIsN, tNotN, tB, scal, tCall, cxK, cxKn, rIxT, rIxL, rIn, rAppend, rReverse, tVals, tDSetd, tDGet, tDGet1, tDGet2, tDIn, tDNotIn, rSortV, rSortT, rPop, rSortL, rSortT, tSl, tNoPart, tPart, List.append_nil, L2.start, List.map_cons, List.map_nil, List.length_cons, List.length_nil, List.replicate_succ, List.replicate_zero, List.cons_append, List.nil_append, Nat.reduceAdd, Nat.reduceSub, exists_eq, exists_eq', List.getElem?_cons_zero, List.getElem?_cons_succ, List.set_cons_zero, List.set_cons_succ, Option.some.injEq, V.int.injEq, V.bl.injEq, V.str.injEq, V.ref.injEq, List.cons.injEq, and_true, true_and, and_false, false_and, reduceCtorEq, exists_false, or_false, false_or, exists_and_left, exists_and_right, exists_eq_left, exists_eq_left', exists_eq_right, exists_eq_right', exists_const, ite_true, ite_false, Bool.false_eq_true, if_true, if_false, decide_true, decide_false]
      refine ⟨by decide, fun t ht => q _ t (I.s.trans (same_upd ht)) ?_⟩
      have tN := none_back I.s ht
      rw [fr_upd tN]
      exact ⟨d, c, p, M, N, upd_same, I.x.same (same_upd (fr_none I.s ht)), same_upd (fr_none I.s ht) _ _ I.ct⟩
end
end Mv

set_option Elab.async false
set_option linter.all false
set_option maxRecDepth 100000
set_option maxHeartbeats 4000000
namespace Mv
open PySem PySem.Spec PyProof.Rows L2
/-! ### sorted(xs) of a list of letters: any ints, of any sign -/
theorem perm_inv {α β : Type} {f : α → β} {zs ys : List β} (h : zs.Perm ys) : ∀ L : List α, L.map f = zs → ∃ L' : List α, L.Perm L' ∧ L'.map f = ys := by
  induction h with
  | nil => exact fun L e => ⟨L, .refl _, e⟩
  | cons x _ ih =>
    intro L e
    cases L with
    | nil => cases e
    | cons a L =>
      rw [List.map_cons] at e
      obtain ⟨e1, e2⟩ := List.cons.inj e
      obtain ⟨L', p, m⟩ := ih L e2
      exact ⟨a :: L', p.cons a, by rw [List.map_cons, e1, m]⟩
  | swap x y l =>
    intro L e
    match L, e with
    | a :: b :: L, e =>
      rw [List.map_cons, List.map_cons] at e
      obtain ⟨e1, e2⟩ := List.cons.inj e
      obtain ⟨e2, e3⟩ := List.cons.inj e2
      exact ⟨b :: a :: L, .swap .., by rw [List.map_cons, List.map_cons, e1, e2, e3]⟩
  | trans _ _ ih1 ih2 =>
    intro L e
    obtain ⟨L1, p1, m1⟩ := ih1 L e
    obtain ⟨L2, p2, m2⟩ := ih2 L1 m1
    exact ⟨L2, p1.trans p2, m2⟩
/-- as tuples stand in order -/
def le3 (e f : Ltr) : Prop := e.n < f.n ∨ (e.n = f.n ∧ e.t ≤ f.t)
def noS : Nat → Bool := fun _ => false
abbrev key3 (e : Ltr) : List (Int ⊕ List Nat) := [.inl e.n, .inl e.t, .inl e.v]
theorem key3_le {e f : Ltr} (h : PyProof.Rows.lexLt PyProof.Rows.itemOrd (key3 f) (key3 e) = false) : le3 e f := by
  obtain ⟨a1, a2⟩ := PyProof.Rows.lex_false.mp h
  have b1 : ¬ f.n < e.n := of_decide_eq_false a1
  rcases a2 with a2 | a2
  · exact .inl (of_decide_eq_true a2)
  · obtain ⟨c1, c2⟩ := PyProof.Rows.lex_false.mp a2
    have d1 : ¬ f.t < e.t := of_decide_eq_false c1
    by_cases q : e.n < f.n
    · exact .inl q
    · exact .inr ⟨by omega, by omega⟩
theorem vals_refs : ∀ (L : LtL) (us : List Value), Vals (L.map fun q => V.ref q.1) us → us = L.map fun q => Value.ref q.1
  | [], _, h => by
    cases h
    rfl
  | q :: L, _, h => by
    rw [List.map_cons] at h
    cases h with
    | cons r t =>
      cases r
      rw [List.map_cons, ← vals_refs L _ t]
theorem refs_vals : ∀ L : LtL, Vals (L.map fun q => V.ref q.1) (L.map fun q => Value.ref q.1)
  | [] => .nil
  | q :: L => .cons (show RelV (.ref q.1) (.ref q.1) from rfl) (refs_vals L)
/-- a letter's tuple on the machine's heap -/
def Raw3 (h : Heap) (a : Addr) (e : Ltr) : Prop := ∃ (o : Obj) (m : Nat) (t1 t2 t3 : Tok), h.get? a = some o ∧ o.cls = .type "tuple" ∧ o.data = .seq #[.int e.n t1, .int e.t t2, .int e.v t3] m
theorem Raw3.key {h : Heap} {a : Addr} {e : Ltr} (r : Raw3 h a e) : PyProof.Rows.G.tupKeyC h noS (.ref a) = some (key3 e) := by
  obtain ⟨o, m, t1, t2, t3, ho, hc, hd⟩ := r
  unfold PyProof.Rows.G.tupKeyC
  rw [if_pos (by simp [PyProof.Rows.G.isTupObj, ho, hc])]
  simp only [PyProof.Rows.tupKey, ho, hd]
  rfl
theorem raw_tups {h : Heap} : ∀ L : LtL, (∀ q ∈ L, Raw3 h q.1 q.2) → ∃ fs, PyProof.Rows.TupsOf h noS (L.map fun q => Value.ref q.1) fs
  | [], _ => ⟨[], .nil⟩
  | q :: L, hr => by
    obtain ⟨fs, ht⟩ := raw_tups L fun x hx => hr x (List.mem_cons_of_mem _ hx)
    obtain ⟨o, m, t1, t2, t3, ho, hc, hd⟩ := hr q List.mem_cons_self
    exact ⟨.int q.2.n t1 :: fs, .cons ⟨q.1, o, _, m, rfl, ho, hc, hd, rfl, fun _ => ⟨_, _, rfl⟩, fun z => absurd z (by decide)⟩ ht⟩
def rSortL3 (K : PySem.W.Frag) : List V → Hp → VK → Prop := fun vs H Q => ∃ (a : Addr) (L : LtL), vs = [.ref a] ∧ SqL K H a (L.map fun q => V.ref q.1) ∧ (∀ q ∈ L, H q.1 = some q.2.o) ∧
  ∀ (L' : LtL) (p : Addr), L.Perm L' → (L'.Pairwise fun x y => le3 x.2 y.2) → H p = none → Q (.ref p) (upd H p (.lst (L'.map fun q => V.ref q.1)))
theorem cr_sortL3 {X : Cx} : CallR X (.builtin "sorted") (rSortL3 X.K) := by
  intro pins s σ H vs us Q I r h
  obtain ⟨a, L, rfl, hs, hL, q⟩ := h
  obtain ⟨its, rv, hl, hz⟩ := I.list hs
  rw [Vals.ref1 r]
  obtain rfl := vals_refs L its rv
  have raw : ∀ x ∈ L, Raw3 s.heap x.1 x.2 := fun x hx => by
    obtain ⟨_, u, ru, o, ho, hc, m, hd⟩ := I.hok _ _ (hL x hx)
    cases ru with
    | cons r1 ru =>
      cases ru with
      | cons r2 ru =>
        cases ru with
        | cons r3 ru =>
          cases ru
          obtain ⟨t1, rfl⟩ := r1
          obtain ⟨t2, rfl⟩ := r2
          obtain ⟨t3, rfl⟩ := r3
          exact ⟨o, m, t1, t2, t3, ho, hc, hd⟩
  obtain ⟨fs, ht⟩ := raw_tups L raw
  have lz : (L.map fun q => Value.ref q.1).length ≤ sizeLine := by
    rw [List.length_map] at hz ⊢
    exact hz
  refine PyProof.Rows.G.sorted_tups (vs := L.map fun q => Value.ref q.1) hl.isList ht (fun v hv => ?_) lz fun st' hp hsd _ => ?_
  · obtain ⟨x, hx, rfl⟩ := List.mem_map.mp hv
    exact ⟨_, (raw x hx).key⟩
  · have hp2 := Array.perm_iff_toList_perm.mp hp
    rw [pairsOf_toList] at hp2
    have same : ∀ y ∈ (PyProof.Rows.arrOf st').toList, y.1 = y.2 := fun y hy => (mem_zip_self (hp2.mem_iff.mp hy)).1
    have hp3 := hp2.map Prod.snd
    rw [List.map_snd_zip (Nat.le_refl _)] at hp3
    obtain ⟨L', pl, ml⟩ := perm_inv hp3.symm L rfl
    obtain ⟨ep, he'⟩ := PyProof.Rows.sortedAll_at s.heap (L.map fun q => Value.ref q.1) (Array.map (fun x => x.2) (PyProof.Rows.arrOf st'))
    have eo : (Array.map (fun x => x.2) (PyProof.Rows.arrOf st')).toList = L'.map fun q => Value.ref q.1 := by
      rw [Array.toList_map, ml]
    have le : L'.length = L.length := pl.length_eq.symm
    have size_eq : (pairsOf (L.map fun q => Value.ref q.1)).size = L.length := by rw [pairsOf_size, List.length_map]
    have at_ : ∀ (i : Nat) (x : Addr × Ltr), L'[i]? = some x → PyProof.Rows.KK (PyProof.Rows.G.tupKindC s.heap noS) (PyProof.Rows.arrOf st') i = key3 x.2 := fun i x hx => by
      have h1 : (L'.map fun q => Value.ref q.1)[i]? = some (.ref x.1) := by rw [List.getElem?_map, hx]; rfl
      rw [ml, List.getElem?_map] at h1
      obtain ⟨y, hy, e⟩ := Option.map_eq_some_iff.mp h1
      have hm := same y (List.mem_of_getElem? hy)
      unfold PyProof.Rows.KK
      rw [← Array.getElem?_toList, hy]
      show (PyProof.Rows.G.tupKeyC s.heap noS y.1).getD [] = key3 x.2
      rw [hm, e, (raw x (pl.mem_iff.mpr (List.mem_of_getElem? hx))).key]
      rfl
    have pw : L'.Pairwise fun x y => le3 x.2 y.2 := by
      rw [List.pairwise_iff_getElem]
      intro i j hi hj hij
      have h1 := hsd i j (Nat.le_of_lt hij) (by rw [size_eq]; omega)
      rw [at_ i _ (List.getElem?_eq_getElem hi), at_ j _ (List.getElem?_eq_getElem hj)] at h1
      exact key3_le h1
    refine ⟨.ref (s.heap.objs.size + 1), upd H (s.heap.objs.size + 1) (.lst (L'.map fun q => V.ref q.1)), ?_, rfl, q L' _ pl pw (I.hok.fresh (Nat.le_succ _))⟩
    refine I.laid (t' := s.toks) (fun b u => PyProof.Rows.sortedAll_old) (Nat.le_succ _) ⟨?_, (L'.map fun q => Value.ref q.1), ep, refs_vals L', ?_⟩
    · rw [List.length_map] at lz ⊢
      omega
    · rw [← eo]
      exact he'
end Mv

set_option Elab.async false
set_option linter.all false
set_option maxRecDepth 100000
set_option maxHeartbeats 4000000
namespace Mv
open PySem PySem.Spec PyProof.Rows L2
abbrev sFt : Stmt := topS 11
abbrev sLet : Stmt := topS 20
abbrev sMk : Stmt := topS 23
abbrev sFits : Stmt := topS 28
abbrev sHo : Stmt := topS 26
theorem cutV_drop (xs : List V) (k : Nat) : cutV xs (some (k : Int)) none = xs.drop k := by
  unfold cutV
  rw [HT.sIx_nat]
  show (xs.drop (min k xs.length)).take (xs.length - min k xs.length) = _
  rcases Nat.le_total k xs.length with h | h
  · rw [Nat.min_eq_left h, List.take_of_length_le (by rw [List.length_drop]; exact Nat.le_refl _)]
  · rw [Nat.min_eq_right h, List.drop_length, List.take_nil, List.drop_of_length_le h]
theorem ref_at {L : LtL} {i : Nat} {x : V} (h : (L.map fun q => V.ref q.1)[i]? = some x) : ∃ q : Addr × Ltr, L[i]? = some q ∧ x = .ref q.1 := by
  rw [List.getElem?_map] at h
  cases z : L[i]? with
  | none =>
    rw [z] at h
    cases h
  | some q =>
    rw [z] at h
    exact ⟨q, rfl, (Option.some.inj h).symm⟩
/-- fitting letters, two by two -/
def Fit2 (e f : Ltr) : Prop := (e.n < f.n ∧ e.t ≤ f.t) ∨ (f.n < e.n ∧ f.t ≤ e.t)
def FitL (L : List Ltr) : Prop := L.Pairwise Fit2
theorem Fit2.symm {e f : Ltr} (h : Fit2 e f) : Fit2 f e := h.elim .inr .inl
theorem FitL.perm {L L' : List Ltr} (p : L.Perm L') : FitL L ↔ FitL L' := p.pairwise_iff fun h => h.symm
def adjB (L : List Ltr) (j : Nat) : Bool := match L[j]?, L[j + 1]? with
  | some a, some b => decide (a.n < b.n) && decide (a.t ≤ b.t)
  | _, _ => true
def Up (a b : Ltr) : Prop := a.n < b.n ∧ a.t ≤ b.t
theorem adj_pair {M : List Ltr} (h : ∀ i a b, M[i]? = some a → M[i + 1]? = some b → Up a b) : M.Pairwise Up := by
  induction M with
  | nil => exact .nil
  | cons a M ih =>
    have ih := ih fun i x y hx hy => h (i + 1) x y hx hy
    refine List.pairwise_cons.mpr ⟨fun y hy => ?_, ih⟩
    cases M with
    | nil => cases hy
    | cons b M =>
      have ab : Up a b := h 0 a b rfl rfl
      rcases List.mem_cons.mp hy with rfl | hy
      · exact ab
      · have bz := (List.pairwise_cons.mp ih).1 y hy
        exact ⟨Int.lt_trans ab.1 bz.1, Int.le_trans ab.2 bz.2⟩
theorem adj_iff (M : List Ltr) (pw : M.Pairwise le3) : ((List.range (M.length - 1)).map (adjB M)).all id = true ↔ FitL M := by
  simp only [List.all_map, List.all_eq_true, List.mem_range, Function.comp, id]
  constructor
  · intro h
    refine List.Pairwise.imp (fun {a b} u => .inl u) (adj_pair (M := M) fun i a b ha hb => ?_)
    have hi := (List.getElem?_eq_some_iff.mp hb).1
    have := h i (by omega)
    unfold adjB at this
    rw [ha, hb] at this
    have z := Bool.and_eq_true_iff.mp this
    exact ⟨of_decide_eq_true z.1, of_decide_eq_true z.2⟩
  · intro h i hi
    unfold adjB
    have h1 : i < M.length := by omega
    have h2 : i + 1 < M.length := by omega
    rw [List.getElem?_eq_getElem h1, List.getElem?_eq_getElem h2]
    have f := List.pairwise_iff_getElem.mp h i (i + 1) h1 h2 (Nat.lt_succ_self i)
    have g := List.pairwise_iff_getElem.mp pw i (i + 1) h1 h2 (Nat.lt_succ_self i)
    show (decide _ && decide _) = true
    rcases f with f | f
    · rw [decide_eq_true f.1, decide_eq_true f.2]
      rfl
    · rcases g with g | g <;> omega
section
variable {P : Program} {w : World} {K : PySem.W.Frag} {mg : Str → Option Value} {base : Heap}
theorem scFt : FnScope ["letters", "ordered", "one", "other"] ["letters"] (defScope sFt) := ⟨rfl, rfl, rfl, by decide +kernel, rfl, by decide +kernel, by decide +kernel⟩
def spFt : Sp := fun vs H Q _ => ∃ (l : Addr) (L : LtL), vs = [.ref l] ∧ Lts H l L ∧ L.length ≤ 100 ∧ ∀ (b : Bool) (H' : Hp), Same H H' → (b = true ↔ FitL (lts L)) → Q (.bl b) H'
theorem ok_ft {f : Addr} {fd : FuncData} (F : Fun K "fitting" "fitting" sFt f fd) (B : Bi mg) (hall : mg "all" = none) (hzip : mg "zip" = none) : FnOk P w K mg base CX0 1 f fd ["letters"] spFt := by
  refine F.ok scFt (fun vs H Q E h => ?_) (fun cdv A outer s H vs Q E hr h => ?_)
  · obtain ⟨l, L, rfl, _⟩ := h
    rfl
  · obtain ⟨l, L, rfl, hl, lL, q⟩ := h
    refine ⟨_, (pss_cons (ps_set (i := 1) scFt.nd rfl (.inl rfl) (pe_callB cr_sortL3 (by rfl) B.sorted (by decide +kernel) (pa_cons (pv 0) pa_nil)))
 (pss_one (ps_ret (pe_callB (cr_all rfl) (by rfl) hall (by decide +kernel) (pa_cons (pe_lc (own := [("one", 2), ("other", 3)]) (g := gTup K 2 (gCons (gName 2) (gCons (gName 3) gNil))) (tt := tYes) (te := (tAndV (tOp (rI0 fun i j => .bl (decide (i < j))) (tOp (rIxT K) (tVar 2) (tC (V.int 0))) (tOp (rIxT K) (tVar 3) (tC (V.int 0)))) (tOp (rI0 fun i j => .bl (decide (i ≤ j))) (tOp (rIxT K) (tVar 2) (tC (V.int 1))) (tOp (rIxT K) (tVar 3) (tC (V.int 1)))))) rfl scFt.nd (pi_zip (by rfl) hzip (pa_cons (pv 1) (pa_cons (pe_slice sl_list (pv 1) (po_some pe_int) po_none) pa_nil))) (blkOk_by (N := ["letters", "ordered", "one", "other"]) (sc := defScope sFt) (by decide +kernel)) (fun _ _ _ _ _ => (pg_tup rfl (pgs_cons (pg_name (i := 2) scFt.nd rfl (.inl rfl)) (pgs_cons (pg_name (i := 3) scFt.nd rfl (.inl rfl)) pgs_nil)))) (fun _ _ _ _ _ => pts_nil) (fun _ _ _ _ _ => (pe_and (pe_cmpR op_lt (pe_ix ix_tup (pv 2) pe_int (fun _ _ => rfl)) (pe_ix ix_tup (pv 3) pe_int (fun _ _ => rfl)) (nomark _)) (pe_one (pe_cmpR op_le (pe_ix ix_tup (pv 2) pe_int (fun _ _ => rfl)) (pe_ix ix_tup (pv 3) pe_int (fun _ _ => rfl)) (nomark _)))))) pa_nil))))), ?_⟩
    simp only [tSeq, tAsg, gName, tOp, rI, rI0, rU, tUn, tVar, tC, tCB, tCons, tNil, tTest, tIfS, tRet, tRetN, tDrop, tNext, tBreak, tCont, rEq, rNe, CDiv, CDivN, CMul, tBM, tBM0, tTup, tLst, tAug, tIf, tAnd, tOr, tNot, tAndV, tOrV, tNotV, tIsN, tNotN, tB, scal, tCall, cxK, cxKn, rIxT, rIxL, rIn, rAppend, rReverse, tVals, tDSetd, tDGet, tDGet1, tDGet2, tDIn, tDNotIn, rSortV, rSortT, rPop, rSortL, rSortT, tSl, tNoPart, tPart, List.append_nil, L2.start, List.map_cons, List.map_nil, List.length_cons, List.length_nil, List.replicate_succ, List.replicate_zero, List.cons_append, List.nil_append, Nat.reduceAdd, Nat.reduceSub, exists_eq, exists_eq', List.getElem?_cons_zero, List.getElem?_cons_succ, List.set_cons_zero, List.set_cons_succ, Option.some.injEq, V.int.injEq, V.bl.injEq, V.str.injEq, V.ref.injEq, List.cons.injEq, and_true, true_and, and_false, false_and, reduceCtorEq, exists_false, or_false, false_or, exists_and_left, exists_and_right, exists_eq_left, exists_eq_left', exists_eq_right, exists_eq_right', exists_const, ite_true, ite_false, Bool.false_eq_true, if_true, if_false, decide_true, decide_false]
    refine ⟨l, L, rfl, ll hl.at_, hl.all, fun L' p pl pw hp => ?_⟩
    have s1 := same_upd (o := .lst (L'.map fun q => V.ref q.1)) hp
    have hl1 : Lts (upd H p (.lst (L'.map fun q => V.ref q.1))) p L' := ⟨upd_same, fun q hq => s1 _ _ (hl.all q (pl.mem_iff.mpr hq))⟩
    have lL' : L'.length ≤ 100 := by
      rw [← pl.length_eq]
      exact lL
    generalize upd H p (.lst (L'.map fun q => V.ref q.1)) = H1 at s1 hl1 ⊢
    refine ⟨.ref p, rfl, .ref p, rfl, 1, rfl, p, _, rfl, .inl (.inl hl1.at_), fun l2 hl2 => ?_⟩
    have s2 := same_upd (o := .lst (cutV (L'.map fun q => V.ref q.1) (some 1) none)) hl2
    have ecut : cutV (L'.map fun q => V.ref q.1) (some 1) none = (L'.drop 1).map fun q => V.ref q.1 := by
      rw [show (1 : Int) = ((1 : Nat) : Int) from rfl, cutV_drop, List.map_drop]
    have hl22 := hl1.same s2
    have h22 : upd H1 l2 (.lst (cutV (L'.map fun q => V.ref q.1) (some 1) none)) l2 = some (.lst ((L'.drop 1).map fun q => V.ref q.1)) := by rw [upd_same, ecut]
    have s02 := s1.trans s2
    generalize upd H1 l2 _ = H2 at hl22 h22 s02 ⊢
    have hm : min (L'.map fun q => V.ref q.1).length ((L'.drop 1).map fun q => V.ref q.1).length = L'.length - 1 := by
      rw [List.length_map, List.length_map, List.length_drop]
      omega
    refine ⟨p, l2, _, _, rfl, .inl (.inl hl22.at_), .inl (.inl h22), fun D2 hD2 => lc_it (walk_zip (n := L'.length - 1) hm.symm) (fun i H' => Same H2 H' ∧ H' D2 = some (.lst (((List.range i).map (adjB (lts L'))).map V.bl))) ⟨same_upd hD2, upd_same⟩ (fun i H' _ h => ⟨.inl (.inl (h.1 _ _ hl22.at_)), .inl (.inl (h.1 _ _ h22))⟩) ?_ ?_⟩
    · rintro i x H3 H4 hi ⟨s3, h3⟩ ⟨t, x1, x2, rfl, nT, rfl, e1', e2'⟩
      obtain ⟨⟨ap, a⟩, ha, rfl⟩ := ref_at (L := L') e1'
      obtain ⟨⟨bp, b⟩, hb, rfl⟩ := ref_at (L := L'.drop 1) e2'
      rw [List.getElem?_drop, Nat.add_comm] at hb
      have ea : (lts L')[i]? = some a := by
        unfold lts
        rw [List.getElem?_map, ha]
        rfl
      have eb : (lts L')[i + 1]? = some b := by
        unfold lts
        rw [List.getElem?_map, hb]
        rfl
      have smT : Same H3 (upd H3 t (.tup [.ref ap, .ref bp])) := same_upd nT
      refine ⟨t, [.ref ap, .ref bp], rfl, .inl (.inl upd_same), rfl, .ref ap, [.ref bp], rfl, .ref bp, [], rfl, rfl, ?_⟩
      have s4 := s3.trans smT
      have h4 := smT _ _ h3
      have hap := s4 _ _ (hl22.all _ (List.mem_of_getElem? ha))
      have hbp := s4 _ _ (hl22.all _ (List.mem_of_getElem? hb))
      generalize upd H3 t (.tup [.ref ap, .ref bp]) = H4 at s4 h4 hap hbp ⊢
      refine ⟨rfl, ?_⟩
      simp only [tSeq, tAsg, gName, tOp, rI, rI0, rU, tUn, tVar, tC, tCB, tCons, tNil, tTest, tIfS, tRet, tRetN, tDrop, tNext, tBreak, tCont, rEq, rNe, CDiv, CDivN, CMul, tBM, tBM0, tTup, tLst, tAug, tIf, tAnd, tOr, tNot, tAndV, tOrV, tNotV, tIsN, tNotN, tB, scal, tCall, cxK, cxKn, rIxT, rIxL, rIn, rAppend, rReverse, tVals, tDSetd, tDGet, tDGet1, tDGet2, tDIn, tDNotIn, rSortV, rSortT, rPop, rSortL, rSortT, tSl, tNoPart, tPart, List.append_nil, L2.start, List.map_cons, List.map_nil, List.length_cons, List.length_nil, List.replicate_succ, List.replicate_zero, List.cons_append, List.nil_append, Nat.reduceAdd, Nat.reduceSub, exists_eq, exists_eq', wipe, tYes, List.getElem?_cons_zero, List.getElem?_cons_succ, List.set_cons_zero, List.set_cons_succ, Option.some.injEq, V.int.injEq, V.bl.injEq, V.str.injEq, V.ref.injEq, List.cons.injEq, and_true, true_and, and_false, false_and, reduceCtorEq, exists_false, or_false, false_or, exists_and_left, exists_and_right, exists_eq_left, exists_eq_left', exists_eq_right, exists_eq_right', exists_const, ite_true, ite_false, Bool.false_eq_true, if_true, if_false, decide_true, decide_false]
      have eA : adjB (lts L') i = (decide (a.n < b.n) && decide (a.t ≤ b.t)) := by
        unfold adjB
        rw [ea, eb]
      have fin : ∀ bv : Bool, bv = adjB (lts L') i → ∃ acc, H4 D2 = some (.lst acc) ∧ acc.length < sizeLine ∧ Same H2 (upd H4 D2 (.lst (acc ++ [V.bl bv]))) ∧ upd H4 D2 (.lst (acc ++ [V.bl bv])) D2 = some (.lst (((List.range (i + 1)).map (adjB (lts L'))).map V.bl)) := fun bv eb => by
        refine ⟨_, h4, by rw [List.length_map, List.length_map, List.length_range]; exact small1000 (by omega), fun b o z => ?_, ?_⟩
        · rw [upd_ne (ne_of_none z hD2)]
          exact s4 _ _ z
        · rw [upd_same, List.range_succ, List.map_append, List.map_append, eb]
          rfl
      refine ⟨_, tt hap, .int a.n, rfl, _, tt hbp, .int b.n, rfl, a.n, rfl, b.n, rfl, ite2 (fun c => ⟨_, tt hap, .int a.t, rfl, _, tt hbp, .int b.t, rfl, a.t, rfl, b.t, rfl, fin _ ?_⟩) (fun c => fin _ ?_)⟩
      · rw [eA, c, Bool.true_and]
      · rw [eA]
        cases h : decide (a.n < b.n) with
        | true => exact absurd h c
        | false => rfl
    · rintro H3 ⟨s3, h3⟩
      refine ⟨D2, _, rfl, .inl (.inl h3), q _ H3 (s02.trans s3) ?_⟩
      rw [show L'.length - 1 = (lts L').length - 1 by unfold lts; rw [List.length_map], adj_iff (lts L') (List.pairwise_map.mpr pw)]
      exact FitL.perm (pl.map (fun q : Addr × Ltr => q.2)).symm
theorem scMk : FnScope ["_law_state", "_law_name", "_law_letters_here", "_law_floor", "_law_counts", "_law_done", "_law_late"] ["_law_state", "_law_name"] (defScope sMk) := ⟨rfl, rfl, rfl, by decide +kernel, rfl, by decide +kernel, by decide +kernel⟩
abbrev MkD := Option (Int × Option Int)
def Gs.mkd (g : Gs) (k : Str) : MkD := if g.dn = true then some (((getA g.ls k []).length : Int), none) else match g.fl with
  | none => none
  | some f => some (getA g.fd k 0, some f)
def MkAt (H : Hp) (v : V) : MkD → Prop
  | none => v = .non
  | some (c, f) => ∃ t, v = .ref t ∧ H t = some (.tup [.int c, fV f])
def spMk : Sp := fun vs H Q _ => ∃ (a : Addr) (g : Gs) (k : Str), vs = [.ref a, .str k] ∧ StAt H a g ∧ ∀ (v : V) (H' : Hp), Same H H' → MkAt H' v (g.mkd k) → Q v H'
theorem ok_mk {f : Addr} {fd : FuncData} (F : Fun K "_law_mark" "_law_mark" sMk f fd) (B : Bi mg) : FnOk P w K mg base CX0 1 f fd ["_law_state", "_law_name"] spMk := by
  refine F.ok scMk (fun vs H Q E h => ?_) (fun cdv A outer s H vs Q E hr h => ?_)
  · obtain ⟨a, g, k, rfl, _⟩ := h
    rfl
  · obtain ⟨a, g, k, rfl, ⟨d, c, l, M, N, ha, hx, hc⟩, q⟩ := h
    refine ⟨_, (pss_cons (ps_asg (pv 0) (pg_tup rfl (pgs_cons (pg_name (i := 2) scMk.nd rfl (.inl rfl)) (pgs_cons (pg_name (i := 3) scMk.nd rfl (.inl rfl)) (pgs_cons (pg_name (i := 4) scMk.nd rfl (.inl rfl)) (pgs_cons (pg_name (i := 5) scMk.nd rfl (.inl rfl)) (pgs_cons (pg_name (i := 6) scMk.nd rfl (.inl rfl)) pgs_nil)))))))
 (pss_cons (ps_if (pt_val (pv 5))
 (pss_one (ps_ret (pe_tup (pa_cons (pe_callB call_len_seq (by rfl) B.len PySem.boot_len (pa_cons (pe_dget2 (hu_of hr) (pv 2) (pv 1) (pe_lst pa_nil) ⟨by rfl, by rfl, by rfl, by rfl⟩) pa_nil)) (pa_cons pe_non pa_nil))))) pss_nil)
 (pss_cons (ps_if (pt_cmpR op_isN (pv 3) pe_non (nomark _))
 (pss_one (ps_ret pe_non)) pss_nil)
 (pss_one (ps_ret (pe_tup (pa_cons (pe_dget2 (hu_of hr) (pv 4) (pv 1) pe_int ⟨by rfl, by rfl, by rfl, by rfl⟩) (pa_cons (pv 3) pa_nil)))))))), ?_⟩
    refine ⟨_, rfl, a, _, rfl, tt ha, rfl, _, _, rfl, _, _, rfl, _, _, rfl, _, _, rfl, _, _, rfl, rfl, ?_⟩
    simp only [tSeq, tAsg, gName, tOp, rI, rI0, rU, tUn, tVar, tC, tCB, tCons, tNil, tTest, tIfS, tRet, tRetN, tDrop, tNext, tBreak, tCont, rEq, rNe, CDiv, CDivN, CMul, tBM, tBM0, tTup, tLst, tAug, tIf, tAnd, tOr, tNot, tAndV, tOrV, tNotV, tIsN, tNotN, tB, scal, tCall, cxK, cxKn, rIxT, rIxL, rIn, rAppend, rReverse, tVals, tDSetd, tDGet, tDGet1, tDGet2, tDIn, tDNotIn, rSortV, rSortT, rPop, rSortL, rSortT, tSl, tNoPart, tPart, List.append_nil, L2.start, List.map_cons, List.map_nil, List.length_cons, List.length_nil, List.replicate_succ, List.replicate_zero, List.cons_append, List.nil_append, Nat.reduceAdd, Nat.reduceSub, exists_eq, exists_eq', List.getElem?_cons_zero, List.getElem?_cons_succ, List.set_cons_zero, List.set_cons_succ, Option.some.injEq, V.int.injEq, V.bl.injEq, V.str.injEq, V.ref.injEq, List.cons.injEq, and_true, true_and, and_false, false_and, reduceCtorEq, exists_false, or_false, false_or, exists_and_left, exists_and_right, exists_eq_left, exists_eq_left', exists_eq_right, exists_eq_right', exists_const, ite_true, ite_false, Bool.false_eq_true, if_true, if_false, decide_true, decide_false]
    unfold Gs.mkd at q
    cases ed : g.dn with
    | true =>
      rw [ed] at q
      refine if_T rfl ⟨.inl ⟨_, .inl hx.mp.at_⟩, by decide, fun l0 hl0 => ?_⟩
      obtain ⟨o, ho, r, L, er, hL, eL⟩ := get_ms hx.mp hx.ls k hl0
      refine ⟨o, ho, r, er, _, .inl (ll hL.at_), by decide, fun p2 hp2 => ?_⟩
      refine q _ _ ((same_upd hl0).trans (same_upd hp2)) ⟨p2, rfl, ?_⟩
      have e3 : (L.map fun q => V.ref q.1).length = (getA g.ls k []).length := by
        rw [← eL, List.length_map]
        exact (List.length_map _).symm
      rw [upd_same, e3]
      rfl
    | false =>
      rw [ed] at q
      refine if_F rfl ?_
      cases ef : g.fl with
      | none =>
        rw [ef] at q
        exact if_T (by rfl) (q _ _ (fun _ _ h => h) rfl)
      | some f =>
        rw [ef] at q
        refine if_F (by rfl) ⟨.inl ⟨_, .inl hc⟩, _, DGet.k (k := Sum.inr k) hc, by decide, fun p2 hp2 => q _ _ (same_upd hp2) ⟨p2, rfl, ?_⟩⟩
        rw [upd_same, val_fkv]
        unfold getA
        cases g.fd.find? fun q => decide (q.1 = k) <;> rfl
theorem scFits : FnScope ["_law_letters_here", "_law_i", "_law_j", "_law_one", "_law_other"] ["_law_letters_here"] (defScope sFits) := ⟨rfl, rfl, rfl, by decide +kernel, rfl, by decide +kernel, by decide +kernel⟩
def spFits : Sp := fun vs H Q _ => ∃ (l : Addr) (L : LtL), vs = [.ref l] ∧ Lts H l L ∧ L.length ≤ 100 ∧ ∀ (b : Bool) (H' : Hp), Same H H' → (b = true ↔ FitL (lts L)) → Q (.bl b) H'
theorem ok_fits {f : Addr} {fd : FuncData} (F : Fun K "_law_fits" "_law_fits" sFits f fd) (B : Bi mg) : FnOk P w K mg base CX0 1 f fd ["_law_letters_here"] spFits := by
  refine F.ok scFits (fun vs H Q E h => ?_) (fun cdv A outer s H vs Q E hr h => ?_)
  · obtain ⟨l, L, rfl, _⟩ := h
    rfl
  · obtain ⟨l, L, rfl, hl, lL, q⟩ := h
    refine ⟨_, (pss_cons (ps_for PassesOwn.never rfl (pi_range1 (by rfl) B.range (pa_cons (pe_callB call_len_seq (by rfl) B.len PySem.boot_len (pa_cons (pv 0) pa_nil)) pa_nil)) (pg_name (i := 1) scFits.nd rfl (.inl rfl))
 (pss_one (ps_for PassesOwn.never rfl (pi_range1 (by rfl) B.range (pa_cons (pv 1) pa_nil)) (pg_name (i := 2) scFits.nd rfl (.inl rfl))
 (pss_cons (ps_set (i := 3) scFits.nd rfl (.inl rfl) (pe_ix ix_list (pv 0) (pv 1) (fun _ _ => rfl)))
 (pss_cons (ps_set (i := 4) scFits.nd rfl (.inl rfl) (pe_ix ix_list (pv 0) (pv 2) (fun _ _ => rfl)))
 (pss_cons (ps_if (pt_cmpR op_eq (pe_ix ix_tup (pv 3) pe_int (fun _ _ => rfl)) (pe_ix ix_tup (pv 4) pe_int (fun _ _ => rfl)) (nomark _))
 (pss_one (ps_ret pe_bl)) pss_nil)
 (pss_one (ps_if (PW.pt (pw_or (PW.pt (pw_and (pt_cmpR op_lt (pe_ix ix_tup (pv 3) pe_int (fun _ _ => rfl)) (pe_ix ix_tup (pv 4) pe_int (fun _ _ => rfl)) (nomark _)) (pw_and1 (pt_cmpR op_gt (pe_ix ix_tup (pv 3) pe_int (fun _ _ => rfl)) (pe_ix ix_tup (pv 4) pe_int (fun _ _ => rfl)) (nomark _))))) (pw_or1 (PW.pt (pw_and (pt_cmpR op_gt (pe_ix ix_tup (pv 3) pe_int (fun _ _ => rfl)) (pe_ix ix_tup (pv 4) pe_int (fun _ _ => rfl)) (nomark _)) (pw_and1 (pt_cmpR op_lt (pe_ix ix_tup (pv 3) pe_int (fun _ _ => rfl)) (pe_ix ix_tup (pv 4) pe_int (fun _ _ => rfl)) (nomark _))))))))
 (pss_one (ps_ret pe_bl)) pss_nil))))))))
 (pss_one (ps_ret pe_bl))), ?_⟩
    refine ⟨.ref l, rfl, l, _, rfl, .inl (ll hl.at_), ?_⟩
    rw [List.length_map]
    refine ⟨L.length, rfl, by omega, by omega, ?_⟩
    rw [Int.toNat_natCast]
    have q2 : ∀ b : Bool, (b = true ↔ FitL (lts L)) → Q (.bl b) H := fun b h => q b H (fun _ _ h => h) h
    have gt : ∀ (j : Nat) (h : j < L.length), H L[j].1 = some L[j].2.o := fun j h => hl.all _ (List.getElem_mem h)
    have no : ∀ (i j : Nat) (hi : i < L.length) (hj : j < i), ¬ Fit2 L[i].2 (L[j]'(Nat.lt_trans hj hi)).2 → Q (.bl false) H := fun i j hi hj hf => q2 false ⟨fun z => (by cases z), fun z => absurd (by
      have := List.pairwise_iff_getElem.mp (show (L.map (·.2)).Pairwise Fit2 from z) j i (by rw [List.length_map]; omega) (by rw [List.length_map]; exact hi) hj
      rw [List.getElem_map, List.getElem_map] at this
      exact this.symm) hf⟩
    refine for_range (n := L.length) (fun i σ H' => H' = H ∧ ∃ y1 y2 y3 y4 : Option V, σ = [some (.ref l), y1, y2, y3, y4] ∧ ∀ (a b : Nat) (ha : a < L.length) (hb : b < a), a < i → Fit2 L[a].2 (L[b]'(Nat.lt_trans hb ha)).2) ⟨rfl, none, none, none, none, rfl, fun a b ha hb hi => absurd hi (Nat.not_lt_zero _)⟩ ?_ ?_
    · rintro i σ H1 hi ⟨rfl, y1, y2, y3, y4, rfl, io⟩
      rw [Int.zero_add]
      refine ⟨.int (i : Int), rfl, i, rfl, by omega, by omega, ?_⟩
      rw [Int.toNat_natCast]
      refine for_range (n := i) (fun j σ H' => H' = H1 ∧ ∃ y2 y3 y4 : Option V, σ = [some (.ref l), some (.int (i : Int)), y2, y3, y4] ∧ ∀ (b : Nat) (hb : b < i), b < j → Fit2 L[i].2 (L[b]'(Nat.lt_trans hb hi)).2) ⟨rfl, y2, y3, y4, rfl, fun b hb hi => absurd hi (Nat.not_lt_zero _)⟩ ?_ ?_
      · rintro j σ H2 hj ⟨rfl, y2, y3, y4, rfl, jo⟩
        have hjL : j < L.length := Nat.lt_trans hj hi
        have h1 := gt i hi
        have h2 := gt j hjL
        have ai : atI (L.map fun q => V.ref q.1) (i : Int) = some (.ref L[i].1) := atI_nat (by rw [List.getElem?_map, List.getElem?_eq_getElem hi]; rfl)
        have aj : atI (L.map fun q => V.ref q.1) (0 + (j : Int)) = some (.ref L[j].1) := by rw [Int.zero_add]; exact atI_nat (by rw [List.getElem?_map, List.getElem?_eq_getElem hjL]; rfl)
        have no := no i j hi hj
        have yes : Fit2 L[i].2 L[j].2 → ∀ (b : Nat) (hb : b < i), b < j + 1 → Fit2 L[i].2 (L[b]'(Nat.lt_trans hb hi)).2 := fun f b hb hbj => by
          by_cases c : b = j
          · subst c
            exact f
          · exact jo b hb (by omega)
        simp only [tSeq, tAsg, gName, tOp, rI, rI0, rU, tUn, tVar, tC, tCB, tCons, tNil, tTest, tIfS, tRet, tRetN, tDrop, tNext, tBreak, tCont, rEq, rNe, CDiv, CDivN, CMul, tBM, tBM0, tTup, tLst, tAug, tIf, tAnd, tOr, tNot, tAndV, tOrV, tNotV, tIsN, tNotN, tB, scal, tCall, cxK, cxKn, rIxT, rIxL, rIn, rAppend, rReverse, tVals, tDSetd, tDGet, tDGet1, tDGet2, tDIn, tDNotIn, rSortV, rSortT, rPop, rSortL, rSortT, tSl, tNoPart, tPart, List.append_nil, L2.start, List.map_cons, List.map_nil, List.length_cons, List.length_nil, List.replicate_succ, List.replicate_zero, List.cons_append, List.nil_append, Nat.reduceAdd, Nat.reduceSub, exists_eq, exists_eq', List.getElem?_cons_zero, List.getElem?_cons_succ, List.set_cons_zero, List.set_cons_succ, Option.some.injEq, V.int.injEq, V.bl.injEq, V.str.injEq, V.ref.injEq, List.cons.injEq, and_true, true_and, and_false, false_and, reduceCtorEq, exists_false, or_false, false_or, exists_and_left, exists_and_right, exists_eq_left, exists_eq_left', exists_eq_right, exists_eq_right', exists_const, ite_true, ite_false, Bool.false_eq_true, if_true, if_false, decide_true, decide_false]
        refine ⟨_, ll hl.at_, .ref L[i].1, ai, _, ll hl.at_, .ref L[j].1, aj, _, rfl, _, tt h1, .int L[i].2.n, rfl, _, rfl, _, tt h2, .int L[j].2.n, rfl, rfl, ite2 (fun c => ?_) (fun c => ?_)⟩
        · refine no fun f => ?_
          have c' : L[i].2.n = L[j].2.n := V.int.inj (of_decide_eq_true c)
          rcases f with f | f <;> omega
        have cn : L[i].2.n ≠ L[j].2.n := fun z => c (decide_eq_true (by rw [z]))
        clear c
        generalize L[i].2 = e at *
        generalize L[j].2 = f at *
        refine ⟨_, rfl, _, tt h1, .int e.n, rfl, _, rfl, _, tt h2, .int f.n, rfl, e.n, rfl, f.n, rfl, ite2 (fun c1 => ?_) (fun c1 => ?_)⟩
        · have c1' := of_decide_eq_true c1
          refine ⟨_, rfl, _, tt h1, .int e.t, rfl, _, rfl, _, tt h2, .int f.t, rfl, e.t, rfl, f.t, rfl, ite2 (fun c3 => ?_) (fun c3 => ?_)⟩
          · have c3' := of_decide_eq_true c3
            exact no fun z => by rcases z with z | z <;> omega
          · have c3' : ¬ f.t < e.t := fun z => c3 (decide_eq_true z)
            refine ⟨_, rfl, _, tt h1, .int e.n, rfl, _, rfl, _, tt h2, .int f.n, rfl, e.n, rfl, f.n, rfl, ite2 (fun c2 => ?_) (fun c2 => ?_)⟩
            · have c2' := of_decide_eq_true c2
              omega
            · exact yes (.inl ⟨c1', by omega⟩)
        · have c1' : ¬ e.n < f.n := fun z => c1 (decide_eq_true z)
          refine ⟨_, rfl, _, tt h1, .int e.n, rfl, _, rfl, _, tt h2, .int f.n, rfl, e.n, rfl, f.n, rfl, ite2 (fun c2 => ?_) (fun c2 => ?_)⟩
          · refine ⟨_, rfl, _, tt h1, .int e.t, rfl, _, rfl, _, tt h2, .int f.t, rfl, e.t, rfl, f.t, rfl, ite2 (fun c3 => ?_) (fun c3 => ?_)⟩
            · have c3' := of_decide_eq_true c3
              exact no fun z => by rcases z with z | z <;> omega
            · have c3' : ¬ e.t < f.t := fun z => c3 (decide_eq_true z)
              exact yes (.inr ⟨by omega, by omega⟩)
          · have c2' : ¬ f.n < e.n := fun z => c2 (decide_eq_true z)
            omega
      · rintro σ H2 ⟨rfl, y2, y3, y4, rfl, jo⟩
        refine ⟨rfl, _, y2, y3, y4, rfl, fun a b ha hb hai => ?_⟩
        by_cases c : a = i
        · subst c
          exact jo b hb hb
        · exact io a b ha hb (by omega)
    · rintro σ H1 ⟨rfl, y1, y2, y3, y4, rfl, io⟩
      dsimp only
      simp only [tSeq, tAsg, gName, tOp, rI, rI0, rU, tUn, tVar, tC, tCB, tCons, tNil, tTest, tIfS, tRet, tRetN, tDrop, tNext, tBreak, tCont, rEq, rNe, CDiv, CDivN, CMul, tBM, tBM0, tTup, tLst, tAug, tIf, tAnd, tOr, tNot, tAndV, tOrV, tNotV, tIsN, tNotN, tB, scal, tCall, cxK, cxKn, rIxT, rIxL, rIn, rAppend, rReverse, tVals, tDSetd, tDGet, tDGet1, tDGet2, tDIn, tDNotIn, rSortV, rSortT, rPop, rSortL, rSortT, tSl, tNoPart, tPart, List.append_nil, L2.start, List.map_cons, List.map_nil, List.length_cons, List.length_nil, List.replicate_succ, List.replicate_zero, List.cons_append, List.nil_append, Nat.reduceAdd, Nat.reduceSub, exists_eq, exists_eq', List.getElem?_cons_zero, List.getElem?_cons_succ, List.set_cons_zero, List.set_cons_succ, Option.some.injEq, V.int.injEq, V.bl.injEq, V.str.injEq, V.ref.injEq, List.cons.injEq, and_true, true_and, and_false, false_and, reduceCtorEq, exists_false, or_false, false_or, exists_and_left, exists_and_right, exists_eq_left, exists_eq_left', exists_eq_right, exists_eq_right', exists_const, ite_true, ite_false, Bool.false_eq_true, if_true, if_false, decide_true, decide_false]
      refine q2 true ⟨fun _ => ?_, fun _ => rfl⟩
      show (L.map (·.2)).Pairwise Fit2
      rw [List.pairwise_iff_getElem]
      intro i j hi hj hij
      rw [List.getElem_map, List.getElem_map]
      rw [List.length_map] at hi hj
      exact (io j i hj hij hj).symm
theorem scHo : FnScope ["_law_mark_here", "_law_letters_here", "_law_count", "_law_floor", "_law_letter"] ["_law_mark_here", "_law_letters_here"] (defScope sHo) := ⟨rfl, rfl, rfl, by decide +kernel, rfl, by decide +kernel, by decide +kernel⟩
/-- the mark holds of the letters -/
def Holds (m : MkD) (L : List Ltr) : Prop := match m with
  | none => True
  | some (c, f) => ∀ e ∈ L, c ≤ e.n → ∃ x, f = some x ∧ x ≤ e.t
def spHo : Sp := fun vs H Q _ => ∃ (v : V) (m : MkD) (l : Addr) (L : LtL), vs = [v, .ref l] ∧ MkAt H v m ∧ Lts H l L ∧ Holds m (lts L) ∧ ∀ H' : Hp, Same H H' → Q (.bl true) H'
theorem ok_ho {f : Addr} {fd : FuncData} (F : Fun K "_law_holds" "_law_holds" sHo f fd) (B : Bi mg) : FnOk P w K mg base CX0 1 f fd ["_law_mark_here", "_law_letters_here"] spHo := by
  refine F.ok scHo (fun vs H Q E h => ?_) (fun cdv A outer s H vs Q E hr h => ?_)
  · obtain ⟨v, m, l, L, rfl, _⟩ := h
    rfl
  · obtain ⟨v, m, l, L, rfl, hm, hl, hh, q⟩ := h
    refine ⟨_, (pss_cons (ps_if (pt_cmpR op_isN (pv 0) pe_non (nomark _))
 (pss_one (ps_ret pe_bl)) pss_nil)
 (pss_cons (ps_asg (pv 0) (pg_tup rfl (pgs_cons (pg_name (i := 2) scHo.nd rfl (.inl rfl)) (pgs_cons (pg_name (i := 3) scHo.nd rfl (.inl rfl)) pgs_nil))))
 (pss_cons (ps_for PassesOwn.never rfl (pi_list (pv 1)) (pg_name (i := 4) scHo.nd rfl (.inl rfl))
 (pss_one (ps_if (PW.pt (pw_and (pt_cmpR op_ge (pe_ix ix_tup (pv 4) pe_int (fun _ _ => rfl)) (pv 2) (nomark _)) (pw_and1 (PW.pt (pw_or (pt_cmpR op_isN (pv 3) pe_non (nomark _)) (pw_or1 (pt_cmpR op_lt (pe_ix ix_tup (pv 4) pe_int (fun _ _ => rfl)) (pv 3) (nomark _))))))))
 (pss_one (ps_ret pe_bl)) pss_nil)))
 (pss_one (ps_ret pe_bl))))), ?_⟩
    simp only [tSeq, tAsg, gName, tOp, rI, rI0, rU, tUn, tVar, tC, tCB, tCons, tNil, tTest, tIfS, tRet, tRetN, tDrop, tNext, tBreak, tCont, rEq, rNe, CDiv, CDivN, CMul, tBM, tBM0, tTup, tLst, tAug, tIf, tAnd, tOr, tNot, tAndV, tOrV, tNotV, tIsN, tNotN, tB, scal, tCall, cxK, cxKn, rIxT, rIxL, rIn, rAppend, rReverse, tVals, tDSetd, tDGet, tDGet1, tDGet2, tDIn, tDNotIn, rSortV, rSortT, rPop, rSortL, rSortT, tSl, tNoPart, tPart, List.append_nil, L2.start, List.map_cons, List.map_nil, List.length_cons, List.length_nil, List.replicate_succ, List.replicate_zero, List.cons_append, List.nil_append, Nat.reduceAdd, Nat.reduceSub, exists_eq, exists_eq', List.getElem?_cons_zero, List.getElem?_cons_succ, List.set_cons_zero, List.set_cons_succ, Option.some.injEq, V.int.injEq, V.bl.injEq, V.str.injEq, V.ref.injEq, List.cons.injEq, and_true, true_and, and_false, false_and, reduceCtorEq, exists_false, or_false, false_or, exists_and_left, exists_and_right, exists_eq_left, exists_eq_left', exists_eq_right, exists_eq_right', exists_const, ite_true, ite_false, Bool.false_eq_true, if_true, if_false, decide_true, decide_false]
    cases m with
    | none =>
      have e : v = .non := hm
      subst e
      exact if_T (by decide) (q H fun _ _ h => h)
    | some cf =>
      obtain ⟨cn, fl⟩ := cf
      obtain ⟨t, rfl, ht⟩ := hm
      refine if_F (by simp) ⟨t, _, rfl, tt ht, rfl, _, _, rfl, _, _, rfl, rfl, ?_⟩
      show tFor _ _ _ _ _ _
      refine ⟨_, rfl, l, rfl, ⟨_, ll hl.at_⟩, ?_⟩
      refine for_it walk_list (fun i σ H' => H' = H ∧ ∃ y4 : Option V, σ = [some (.ref t), some (.ref l), some (.int cn), some (fV fl), y4]) ⟨rfl, none, rfl⟩ (fun i σ H' _ ⟨e, _⟩ => by rw [e]; exact ll hl.at_) ?_ ?_
      · rintro i x σ H1 H1' hi ⟨rfl, y4, rfl⟩ ⟨rfl, hx⟩
        obtain ⟨⟨ep, e⟩, he, rfl⟩ := ref_at (L := L) hx
        have hep := hl.all _ (List.mem_of_getElem? he)
        have hol : cn ≤ e.n → ∃ x, fl = some x ∧ x ≤ e.t := hh e (List.mem_map.mpr ⟨_, List.mem_of_getElem? he, rfl⟩)
        simp only [tSeq, tAsg, gName, tOp, rI, rI0, rU, tUn, tVar, tC, tCB, tCons, tNil, tTest, tIfS, tRet, tRetN, tDrop, tNext, tBreak, tCont, rEq, rNe, CDiv, CDivN, CMul, tBM, tBM0, tTup, tLst, tAug, tIf, tAnd, tOr, tNot, tAndV, tOrV, tNotV, tIsN, tNotN, tB, scal, tCall, cxK, cxKn, rIxT, rIxL, rIn, rAppend, rReverse, tVals, tDSetd, tDGet, tDGet1, tDGet2, tDIn, tDNotIn, rSortV, rSortT, rPop, rSortL, rSortT, tSl, tNoPart, tPart, List.append_nil, L2.start, List.map_cons, List.map_nil, List.length_cons, List.length_nil, List.replicate_succ, List.replicate_zero, List.cons_append, List.nil_append, Nat.reduceAdd, Nat.reduceSub, exists_eq, exists_eq', List.getElem?_cons_zero, List.getElem?_cons_succ, List.set_cons_zero, List.set_cons_succ, Option.some.injEq, V.int.injEq, V.bl.injEq, V.str.injEq, V.ref.injEq, List.cons.injEq, and_true, true_and, and_false, false_and, reduceCtorEq, exists_false, or_false, false_or, exists_and_left, exists_and_right, exists_eq_left, exists_eq_left', exists_eq_right, exists_eq_right', exists_const, ite_true, ite_false, Bool.false_eq_true, if_true, if_false, decide_true, decide_false]
        refine ⟨_, tt hep, .int e.n, rfl, e.n, rfl, ite2 (fun c => ?_) (fun _ => trivial)⟩
        obtain ⟨x, ex, hx2⟩ := hol (of_decide_eq_true c)
        subst ex
        exact if_F (by rfl) ⟨_, tt hep, .int e.t, rfl, e.t, rfl, x, rfl, if_F (decide_eq_false (by omega)) trivial⟩
      · rintro σ H1 ⟨rfl, y4, rfl⟩
        exact q H1 fun _ _ h => h
end
end Mv

set_option Elab.async false
set_option linter.all false
set_option maxRecDepth 100000
set_option maxHeartbeats 4000000
namespace Mv
open PySem PySem.Spec PyProof.Rows L2
abbrev sSp : Stmt := topS 27
section
variable {P : Program} {w : World} {K : PySem.W.Frag} {mg : Str → Option Value} {base : Heap}
theorem scLet : FnScope ["_law_stream_here", "_law_count", "_law_span_here", "_law_style", "_law_letters_here", "_law_time", "_law_number"] ["_law_stream_here", "_law_count", "_law_span_here", "_law_style"] (defScope sLet) := ⟨rfl, rfl, rfl, by decide +kernel, rfl, by decide +kernel, by decide +kernel⟩
def spLet : Sp := fun vs H Q _ => ∃ (a : Addr) (n : Nat) (g z : Int), vs = [.ref a, .int (n : Int), .int g, .int z] ∧ n ≤ 900 ∧ 0 ≤ g ∧ Strm H a ∧ ∀ (H' : Hp) (l : Addr) (L : LtL), Sx a H H' → Strm H' a → l ≠ a → H l = none → Lts H' l L → L.length = n → Inord (lts L) → Q (.ref l) H'
theorem ok_let {f : Addr} {fd : FuncData} (F : Fun K "_law_letters" "_law_letters" sLet f fd) (B : Bi mg) (cValue : CalX CX0 P w K mg base 3 "_law_value" spValue) (cStep : CalX CX0 P w K mg base 2 "_law_step" spStep) : FnOk P w K mg base CX0 4 f fd ["_law_stream_here", "_law_count", "_law_span_here", "_law_style"] spLet := by
  refine F.ok scLet (fun vs H Q E h => ?_) (fun cdv A outer s H vs Q E hr h => ?_)
  · obtain ⟨a, n, g, z, rfl, _⟩ := h
    rfl
  · obtain ⟨a, n, g, z, rfl, hn, hg, hs, q⟩ := h
    refine ⟨_, (pss_cons (ps_set (i := 4) scLet.nd rfl (.inl rfl) (pe_lst pa_nil))
 (pss_cons (ps_set (i := 5) scLet.nd rfl (.inl rfl) (pe_cx cValue hr (by decide) pass0 (by rfl) (pa_cons (pv 0) (pa_cons (pv 3) pa_nil))))
 (pss_cons (ps_for PassesOwn.never rfl (pi_range1 (by rfl) B.range (pa_cons (pv 1) pa_nil)) (pg_name (i := 6) scLet.nd rfl (.inl rfl))
 (pss_cons (ps_if (pt_cmpR op_gt (pv 6) pe_int (nomark _))
 (pss_one (ps_set (i := 5) scLet.nd rfl (.inl rfl) (pe_op op_add (pv 5) (pe_cx cStep hr (by decide) pass0 (by rfl) (pa_cons (pv 0) (pa_cons (pv 2) pa_nil)))))) pss_nil)
 (pss_one (ps_expr (pe_bm PySem.F.plainAttrs_list PySem.F.slot_list_append PySem.F.type_list_append mt_append (pv 4) (pa_cons (pe_tup (pa_cons (pv 6) (pa_cons (pv 5) (pa_cons (pe_cx cValue hr (by decide) pass0 (by rfl) (pa_cons (pv 0) (pa_cons (pv 3) pa_nil))) pa_nil)))) pa_nil))))))
 (pss_one (ps_ret (pv 4)))))), ?_⟩
    simp only [tSeq, tAsg, gName, tOp, rI, rI0, rU, tUn, tVar, tC, tCB, tCons, tNil, tTest, tIfS, tRet, tRetN, tDrop, tNext, tBreak, tCont, rEq, rNe, CDiv, CDivN, CMul, tBM, tBM0, tTup, tLst, tAug, tIf, tAnd, tOr, tNot, tAndV, tOrV, tNotV, tIsN, tNotN, tB, scal, tCall, cxK, cxKn, rIxT, rIxL, rIn, rAppend, rReverse, tVals, tDSetd, tDGet, tDGet1, tDGet2, tDIn, tDNotIn, rSortV, rSortT, rPop, rSortL, rSortT, tSl, tNoPart, tPart, List.append_nil, L2.start, List.map_cons, List.map_nil, List.length_cons, List.length_nil, List.replicate_succ, List.replicate_zero, List.cons_append, List.nil_append, Nat.reduceAdd, Nat.reduceSub, exists_eq, exists_eq', List.getElem?_cons_zero, List.getElem?_cons_succ, List.set_cons_zero, List.set_cons_succ, Option.some.injEq, V.int.injEq, V.bl.injEq, V.str.injEq, V.ref.injEq, List.cons.injEq, and_true, true_and, and_false, false_and, reduceCtorEq, exists_false, or_false, false_or, exists_and_left, exists_and_right, exists_eq_left, exists_eq_left', exists_eq_right, exists_eq_right', exists_const, ite_true, ite_false, Bool.false_eq_true, if_true, if_false, decide_true, decide_false]
    refine ⟨Nat.zero_le _, fun D hD => ⟨a, z, rfl, hs.same (same_upd hD), fun tm0 H1 x1 t1 => ?_⟩⟩
    have neD : D ≠ a := (hs.ne hD).symm
    have hD1 := x1 _ _ neD (upd_same (H := H) (a := D) (o := .lst []))
    refine ⟨.int (n : Int), rfl, n, rfl, by omega, by omega, ?_⟩
    rw [Int.toNat_natCast]
    refine for_range (n := n) (fun i σ H' => ∃ (tm : Int) (y6 : Option V) (L : LtL), σ = [some (.ref a), some (.int (n : Int)), some (.int g), some (.int z), some (.ref D), some (.int tm), y6] ∧ Sx a H H' ∧ Strm H' a ∧ Lts H' D L ∧ L.length = i ∧ Inord (lts L) ∧ ∀ e, (lts L)[i - 1]? = some e → e.t = tm)
      ⟨tm0, none, [], rfl, (Sx.of (same_upd hD)).trans x1, t1, ⟨hD1, fun q hq => by cases hq⟩, rfl, fun i e h => (by cases h), fun e h => (by cases h)⟩ ?_ ?_
    · rintro i σ H2 hi ⟨tm, y6, L, rfl, x2, t2, lt, rfl, io, lst⟩
      simp only [tSeq, tAsg, gName, tOp, rI, rI0, rU, tUn, tVar, tC, tCB, tCons, tNil, tTest, tIfS, tRet, tRetN, tDrop, tNext, tBreak, tCont, rEq, rNe, CDiv, CDivN, CMul, tBM, tBM0, tTup, tLst, tAug, tIf, tAnd, tOr, tNot, tAndV, tOrV, tNotV, tIsN, tNotN, tB, scal, tCall, cxK, cxKn, rIxT, rIxL, rIn, rAppend, rReverse, tVals, tDSetd, tDGet, tDGet1, tDGet2, tDIn, tDNotIn, rSortV, rSortT, rPop, rSortL, rSortT, tSl, tNoPart, tPart, List.append_nil, L2.start, List.map_cons, List.map_nil, List.length_cons, List.length_nil, List.replicate_succ, List.replicate_zero, List.cons_append, List.nil_append, Nat.reduceAdd, Nat.reduceSub, exists_eq, exists_eq', List.getElem?_cons_zero, List.getElem?_cons_succ, List.set_cons_zero, List.set_cons_succ, Option.some.injEq, V.int.injEq, V.bl.injEq, V.str.injEq, V.ref.injEq, List.cons.injEq, and_true, true_and, and_false, false_and, reduceCtorEq, exists_false, or_false, false_or, exists_and_left, exists_and_right, exists_eq_left, exists_eq_left', exists_eq_right, exists_eq_right', exists_const, ite_true, ite_false, Bool.false_eq_true, if_true, if_false, decide_true, decide_false]
      have fin : ∀ (tm' : Int) (H3 : Hp), Sx a H H3 → Strm H3 a → Lts H3 D L → tm ≤ tm' → tyV K "list" (V.ref D) H3 ∧ spValue [V.ref a, V.int z] H3 (fun x_1 H1 => 3 ≤ sizeLine ∧ ∀ (p : Addr), H1 p = none → ∃ x_2, upd H1 p (HO.tup [V.int (0 + ↑(List.length L)), V.int tm', x_1]) D = some (HO.lst x_2) ∧ x_2.length < sizeLine ∧ Sx a H (upd (upd H1 p (HO.tup [V.int (0 + ↑(List.length L)), V.int tm', x_1])) D (HO.lst (x_2 ++ [V.ref p]))) ∧ Strm (upd (upd H1 p (HO.tup [V.int (0 + ↑(List.length L)), V.int tm', x_1])) D (HO.lst (x_2 ++ [V.ref p]))) a ∧ ∃ x_3 : LtL, Lts (upd (upd H1 p (HO.tup [V.int (0 + ↑(List.length L)), V.int tm', x_1])) D (HO.lst (x_2 ++ [V.ref p]))) D x_3 ∧ List.length x_3 = List.length L + 1 ∧ Inord (lts x_3) ∧ ∀ (e : Ltr), (lts x_3)[List.length L + 1 - 1]? = some e → e.t = tm') E0 := by
        intro tm' H3 x3 t3 l3 hle
        refine ⟨.inl ⟨rfl, _, .inl (.inl l3.at_)⟩, a, z, rfl, t3, fun v H4 x4 t4 => ⟨by decide, fun p hp => ?_⟩⟩
        obtain ⟨ns, ea, _⟩ := id t3
        have l4 := l3.wr ea neD x4
        have sp := same_upd (o := .tup [.int (0 + ↑(List.length L)), .int tm', .int v]) hp
        have l5 := l4.same sp
        have t5 := t4.same sp
        have ho : upd H4 p (.tup [.int (0 + ↑(List.length L)), .int tm', .int v]) p = some (Ltr.o ⟨0 + ↑(List.length L), tm', v⟩) := upd_same
        have x5 := (x3.trans x4).trans (Sx.of sp)
        generalize upd H4 p _ = H5 at l5 t5 ho x5 ⊢
        refine ⟨_, l5.at_, by rw [List.length_map]; exact small1000 (by omega), fun b o nb e => ?_, ?_, L ++ [(p, ⟨0 + ↑(List.length L), tm', v⟩)], l5.snoc ho, by rw [List.length_append]; rfl, ?_, ?_⟩
        · rw [upd_ne (ne_of_none e hD)]
          exact x5 _ _ nb e
        · obtain ⟨ms, e, l⟩ := t5
          exact ⟨ms, by rw [upd_ne neD.symm]; exact e, l⟩
        · unfold lts at io lst ⊢
          rw [List.map_append]
          refine io.snoc ?_ ?_
          · show (0 : Int) + _ = _
            rw [List.length_map, Int.zero_add]
          · intro e' h'
            rw [List.length_map] at h'
            rw [lst e' h']
            exact hle
        · intro e he
          unfold lts at he
          rw [List.map_append, Nat.add_sub_cancel, List.getElem?_append_right (by rw [List.length_map]; exact Nat.le_refl _), List.length_map, Nat.sub_self] at he
          rw [← Option.some.inj he]
      refine ite2 (fun c => ?_) (fun c => fin tm H2 x2 t2 lt (Int.le_refl _))
      refine ⟨a, g, rfl, hg, t2, fun r H3 r0 x3 t3 => ⟨r, rfl, ?_⟩⟩
      obtain ⟨ns, ea, _⟩ := id t2
      exact fin (tm + r) H3 (x2.trans x3) t3 (lt.wr ea neD x3) (by omega)
    · rintro σ H2 ⟨tm, y6, L, rfl, x2, t2, lt, lL, io, lst⟩
      exact ⟨.ref D, rfl, q H2 D L x2 t2 neD hD lt lL io⟩
theorem scSp : FnScope ["_law_stream_here", "_law_letters_here", "_law_shape", "_law_place", "_law_number", "_law_time", "_law_value_here", "_law_rows", "_law_letter"] ["_law_stream_here", "_law_letters_here"] (defScope sSp) := ⟨rfl, rfl, rfl, by decide +kernel, rfl, by decide +kernel, by decide +kernel⟩
def spSp : Sp := fun vs H Q _ => ∃ (a l : Addr) (L : LtL), vs = [.ref a, .ref l] ∧ Strm H a ∧ Lts H l L ∧ l ≠ a ∧ L.length ≤ 8 ∧ ∀ (H' : Hp) (r : Addr) (R : LtL), Sx a H H' → Strm H' a → H r = none → Lts H' r R → R.length ≤ 9 → Q (.ref r) H'
abbrev spN : List Str := ["_law_stream_here", "_law_letters_here", "_law_shape", "_law_place", "_law_number", "_law_time", "_law_value_here", "_law_rows", "_law_letter"]
theorem sp_rest {f : Addr} {cdv : Value} {A : Around} {outer : List Env} {s : Shared} {H0 : Hp} {E : XK} (B : Bi mg) (hr : Room 1 (A.deeper (envOfC "_law_spoilt" (defScope sSp) s.heap.objs.size f cdv))) (cDraw : CalX CX0 P w K mg base 1 "_law_draw" spDraw) :
    ∃ tr, PSs (cxOf CX0 P w K mg base spN "_law_spoilt" (defScope sSp) f cdv A outer s H0 E).nox ((defBody sSp).drop 6) tr ∧
      ∀ (Q : VK) (a r : Addr) (R : LtL) (H : Hp) (y1 y2 y3 y4 y5 y6 y8 : Option V), Strm H a → Lts H r R → r ≠ a → (∀ (H' : Hp) (R' : LtL), (∀ b o, b ≠ a → b ≠ r → H b = some o → H' b = some o) → Strm H' a → Lts H' r R' → R'.length = R.length → Q (.ref r) H') →
        tr { nx := fun _ H' => Q .non H', rt := Q } [some (.ref a), y1, y2, y3, y4, y5, y6, some (.ref r), y8] H := by
  refine ⟨_, (pss_cons (ps_if (pt_cmpR op_eq (pe_cx cDraw hr (by decide) pass0 (by rfl) (pa_cons (pv 0) (pa_cons pe_int pa_nil))) pe_int (nomark _))
 (pss_one (ps_expr (pe_bm0 PySem.F.plainAttrs_list PySem.F.slot_list_reverse PySem.F.type_list_reverse mt_reverse (pv 7)))) pss_nil)
 (pss_one (ps_ret (pv 7)))), ?_⟩
  rintro Q a r R H y1 y2 y3 y4 y5 y6 y8 hs hR ra q
  simp only [tSeq, tAsg, gName, tOp, rI, rI0, rU, tUn, tVar, tC, tCB, tCons, tNil, tTest, tIfS, tRet, tRetN, tDrop, tNext, tBreak, tCont, rEq, rNe, CDiv, CDivN, CMul, tBM, tBM0, tTup, tLst, tAug, tIf, tAnd, tOr, tNot, tAndV, tOrV, tNotV, tIsN, tNotN, tB, scal, tCall, cxK, cxKn, rIxT, rIxL, rIn, rAppend, rReverse, tVals, tDSetd, tDGet, tDGet1, tDGet2, tDIn, tDNotIn, rSortV, rSortT, rPop, rSortL, rSortT, tSl, tNoPart, tPart, List.append_nil, L2.start, List.map_cons, List.map_nil, List.length_cons, List.length_nil, List.replicate_succ, List.replicate_zero, List.cons_append, List.nil_append, Nat.reduceAdd, Nat.reduceSub, exists_eq, exists_eq', List.getElem?_cons_zero, List.getElem?_cons_succ, List.set_cons_zero, List.set_cons_succ, Option.some.injEq, V.int.injEq, V.bl.injEq, V.str.injEq, V.ref.injEq, List.cons.injEq, and_true, true_and, and_false, false_and, reduceCtorEq, exists_false, or_false, false_or, exists_and_left, exists_and_right, exists_eq_left, exists_eq_left', exists_eq_right, exists_eq_right', exists_const, ite_true, ite_false, Bool.false_eq_true, if_true, if_false, decide_true, decide_false]
  refine spDraw_of (by decide) hs fun z H1 _ _ x1 t1 => ?_
  obtain ⟨ns, ea, _⟩ := id hs
  have hR1 := hR.wr ea ra x1
  refine ⟨rfl, ite2 (fun c => ?_) (fun c => q H1 R (fun b o n _ e => x1 _ _ n e) t1 hR1 rfl)⟩
  refine ⟨.inl ⟨rfl, _, ll hR1.at_⟩, _, hR1.at_, ?_⟩
  refine q _ R.reverse (fun b o n n2 e => ?_) ?_ ⟨?_, fun q hq => ?_⟩ (List.length_reverse)
  · rw [upd_ne n2]
    exact x1 _ _ n e
  · obtain ⟨ms, e, l⟩ := t1
    exact ⟨ms, by rw [upd_ne ra.symm]; exact e, l⟩
  · rw [upd_same, List.map_reverse]
  · have h := hR1.all q (List.mem_reverse.mp hq)
    rw [upd_ne (ne_lt h hR1.at_ (fun z => by cases z))]
    exact h
theorem ok_sp {f : Addr} {fd : FuncData} (F : Fun K "_law_spoilt" "_law_spoilt" sSp f fd) (B : Bi mg) (cDraw : CalX CX0 P w K mg base 1 "_law_draw" spDraw) : FnOk P w K mg base CX0 2 f fd ["_law_stream_here", "_law_letters_here"] spSp := by
  refine F.ok scSp (fun vs H Q E h => ?_) (fun cdv A outer s H vs Q E hr h => ?_)
  · obtain ⟨a, l, L, rfl, _⟩ := h
    rfl
  · obtain ⟨a, l, L, rfl, hs, hl, la, lL, q⟩ := h
    obtain ⟨tr, hrest, hR⟩ := sp_rest (s := s) (H0 := H) (E := E) (outer := outer) (cdv := cdv) (f := f) (A := A) (K := K) (P := P) (w := w) (base := base) B hr cDraw
    refine ⟨_, (pss_cons (ps_set (i := 2) scSp.nd rfl (.inl rfl) (pe_cx cDraw hr (by decide) pass0 (by rfl) (pa_cons (pv 0) (pa_cons pe_int pa_nil))))
 (pss_cons (ps_if (pt_cmpR op_eq (pe_callB call_len_seq (by rfl) B.len PySem.boot_len (pa_cons (pv 1) pa_nil)) pe_int (nomark _))
 (pss_one (ps_ret (pe_lst pa_nil))) pss_nil)
 (pss_cons (ps_set (i := 3) scSp.nd rfl (.inl rfl) (pe_cx cDraw hr (by decide) pass0 (by rfl) (pa_cons (pv 0) (pa_cons (pe_callB call_len_seq (by rfl) B.len PySem.boot_len (pa_cons (pv 1) pa_nil)) pa_nil))))
 (pss_cons (ps_asg (pe_ix ix_list (pv 1) (pv 3) (fun _ _ => rfl)) (pg_tup rfl (pgs_cons (pg_name (i := 4) scSp.nd rfl (.inl rfl)) (pgs_cons (pg_name (i := 5) scSp.nd rfl (.inl rfl)) (pgs_cons (pg_name (i := 6) scSp.nd rfl (.inl rfl)) pgs_nil)))))
 (pss_cons (ps_set (i := 7) scSp.nd rfl (.inl rfl) (pe_callTy call_list_of (by rfl) B.list (by decide +kernel) (pa_cons (pv 1) pa_nil)))
 (pss_cons (ps_if (pt_cmpR op_eq (pv 2) pe_int (nomark _))
 (pss_one (ps_expr (pe_bm PySem.F.plainAttrs_list PySem.F.slot_list_append PySem.F.type_list_append mt_append (pv 7) (pa_cons (pe_ix ix_list (pv 1) (pv 3) (fun _ _ => rfl)) pa_nil)))) (pss_one (ps_if (pt_cmpR op_eq (pv 2) pe_int (nomark _))
 (pss_one (ps_asg (pe_tup (pa_cons (pv 4) (pa_cons (pe_op op_sub (pe_op op_sub (pv 5) pe_int) (pe_cx cDraw hr (by decide) pass0 (by rfl) (pa_cons (pv 0) (pa_cons pe_int pa_nil)))) (pa_cons (pv 6) pa_nil)))) (pg_sub (pv 7) (pv 3) set_list))) (pss_one (ps_if (pt_cmpR op_eq (pv 2) pe_int (nomark _))
 (pss_one (ps_asg (pe_tup (pa_cons (pv 4) (pa_cons (pe_ix ix_tup (pe_ix ix_list (pv 1) (pe_un un_neg pe_int) (fun _ _ => rfl)) pe_int (fun _ _ => rfl)) (pa_cons (pv 6) pa_nil)))) (pg_sub (pv 7) (pv 3) set_list))) (pss_one (ps_if (pt_cmpR op_eq (pv 2) pe_int (nomark _))
 (pss_one (ps_asg (pe_tup (pa_cons (pe_ix ix_tup (pe_ix ix_list (pv 1) (pe_un un_neg pe_int) (fun _ _ => rfl)) pe_int (fun _ _ => rfl)) (pa_cons (pv 5) (pa_cons (pv 6) pa_nil)))) (pg_sub (pv 7) (pv 3) set_list))) (pss_one (ps_if (pt_cmpR op_eq (pv 2) pe_int (nomark _))
 (pss_one (ps_setLc (i := 7) (own := [("_law_letter", 8)]) (g := gName 8) (tt := tYes) (te := (tTup (tCons (tOp (rI0 fun i j => .int (i + j)) (tOp (rI CMul fun i j => .int (i * j)) (tC (V.int 3)) (tOp (rIxT K) (tVar 8) (tC (V.int 0)))) (tC (V.int 1))) (tCons (tOp (rIxT K) (tVar 8) (tC (V.int 1))) (tCons (tOp (rIxT K) (tVar 8) (tC (V.int 2))) tNil))))) rfl scSp.nd rfl rfl (sw_true rfl rfl rfl (by decide +kernel)) (pi_list (pv 1)) (blkOk_by (N := ["_law_stream_here", "_law_letters_here", "_law_shape", "_law_place", "_law_number", "_law_time", "_law_value_here", "_law_rows", "_law_letter"]) (sc := defScope sSp) (by decide +kernel)) (fun _ _ _ _ _ => (pg_name (i := 8) scSp.nd rfl (.inl rfl))) (fun _ _ _ _ _ => pts_nil) (fun _ _ _ _ _ => (pe_tup (pa_cons (pe_op op_add (pe_op op_mul pe_int (pe_ix ix_tup (pv 8) pe_int (fun _ _ => rfl))) pe_int) (pa_cons (pe_ix ix_tup (pv 8) pe_int (fun _ _ => rfl)) (pa_cons (pe_ix ix_tup (pv 8) pe_int (fun _ _ => rfl)) pa_nil))))))) pss_nil)))))))))
 hrest)))))), ?_⟩
    obtain ⟨ns, ea, _⟩ := id hs
    simp only [tSeq, tAsg, gName, tOp, rI, rI0, rU, tUn, tVar, tC, tCB, tCons, tNil, tTest, tIfS, tRet, tRetN, tDrop, tNext, tBreak, tCont, rEq, rNe, CDiv, CDivN, CMul, tBM, tBM0, tTup, tLst, tAug, tIf, tAnd, tOr, tNot, tAndV, tOrV, tNotV, tIsN, tNotN, tB, scal, tCall, cxK, cxKn, rIxT, rIxL, rIn, rAppend, rReverse, tVals, tDSetd, tDGet, tDGet1, tDGet2, tDIn, tDNotIn, rSortV, rSortT, rPop, rSortL, rSortT, tSl, tNoPart, tPart, List.append_nil, L2.start, List.map_cons, List.map_nil, List.length_cons, List.length_nil, List.replicate_succ, List.replicate_zero, List.cons_append, List.nil_append, Nat.reduceAdd, Nat.reduceSub, exists_eq, exists_eq', gTup, gCons, gNil, List.getElem?_cons_zero, List.getElem?_cons_succ, List.set_cons_zero, List.set_cons_succ, Option.some.injEq, V.int.injEq, V.bl.injEq, V.str.injEq, V.ref.injEq, List.cons.injEq, and_true, true_and, and_false, false_and, reduceCtorEq, exists_false, or_false, false_or, exists_and_left, exists_and_right, exists_eq_left, exists_eq_left', exists_eq_right, exists_eq_right', exists_const, ite_true, ite_false, Bool.false_eq_true, if_true, if_false, decide_true, decide_false]
    refine spDraw_of (by decide) hs fun sh H1 sh0 sh1 x1 t1 => ?_
    have hl1 := hl.wr ea la x1
    have lmap : (L.map fun q => V.ref q.1).length = L.length := List.length_map _
    refine ⟨_, .inl (ll hl1.at_), ite2 (fun c => ?_) (fun c => ?_)⟩
    · exact ⟨by decide, fun p hp => q _ p [] (x1.trans (Sx.of (same_upd hp))) (t1.same (same_upd hp)) (none_of t1 x1 hp).1 ⟨upd_same, fun q hq => by cases hq⟩ (by decide)⟩
    have l0 : L.length ≠ 0 := fun z => c (decide_eq_true (by rw [lmap, z]; rfl))
    refine ⟨_, .inl (ll hl1.at_), ?_⟩
    rw [lmap]
    refine spDraw_of (by omega) t1 fun pc H2 p0 p1 x2 t2 => ?_
    obtain ⟨j, rfl⟩ := Int.eq_ofNat_of_zero_le p0
    have hj : j < L.length := by omega
    obtain ⟨ns1, ea1, _⟩ := id t1
    have hl2 := hl1.wr ea1 la x2
    have hge : L[j]? = some L[j] := List.getElem?_eq_getElem hj
    have hep := hl2.all _ (List.mem_of_getElem? hge)
    have x12 := x1.trans x2
    generalize L[j] = q0 at hge hep
    obtain ⟨ep, e⟩ := q0
    have atj : atI (L.map fun q => V.ref q.1) ((j : Nat) : Int) = some (.ref ep) := atI_nat (by rw [List.getElem?_map, hge]; rfl)
    refine ⟨_, j, rfl, ll hl2.at_, .ref ep, atj, ep, rfl, _, tt hep, rfl, _, _, rfl, _, _, rfl, _, _, rfl, rfl, _, .inl (ll hl2.at_), fun r hr => ?_⟩
    have s3 := same_upd (o := .lst (L.map fun q => V.ref q.1)) hr
    have hR3 : Lts (upd H2 r (.lst (L.map fun q => V.ref q.1))) r L := ⟨upd_same, fun q hq => s3 _ _ (hl2.all q hq)⟩
    have hl3 := hl2.same s3
    have t3 := t2.same s3
    have rH := (none_of t2 x12 hr).1
    have ra : r ≠ a := (none_of t2 x12 hr).2
    have rl : r ≠ l := fun z => by
      rw [z, hl2.at_] at hr
      cases hr
    have x3 := x12.trans (Sx.of s3)
    generalize upd H2 r (.lst (L.map fun q => V.ref q.1)) = H3 at hR3 hl3 t3 x3 ⊢
    clear hep hl2 hl1 t1 t2 x1 x2 x12 s3 hr
    have fin : ∀ (r : Addr) (rH : H r = none) (ra : r ≠ a) (H4 : Hp) (R : LtL) (y1 y2 y3 y4 y5 y6 y8 : Option V), Sx a H H4 → Strm H4 a → Lts H4 r R → R.length ≤ 9 → tr { nx := fun _ H' => Q .non H', rt := Q } [some (.ref a), y1, y2, y3, y4, y5, y6, some (.ref r), y8] H4 := fun r rH ra H4 R y1 y2 y3 y4 y5 y6 y8 x4 t4 h4 lR =>
      hR Q a r R H4 y1 y2 y3 y4 y5 y6 y8 t4 h4 ra fun H5 R5 w5 t5 h5 l5 => q H5 r R5 (fun b o n e => w5 b o n (ne_of_none e rH) (x4 b o n e)) t5 rH h5 (by omega)
    have put : ∀ (H4 : Hp) (e' : Ltr) (tp : Addr), Sx a H H4 → Strm H4 a → Lts H4 r L → H4 tp = none → tp ≠ r ∧ upd H4 tp e'.o r = some (.lst (L.map fun q => V.ref q.1)) ∧ Sx a H (upd (upd H4 tp e'.o) r (.lst ((L.map fun q => V.ref q.1).set j (.ref tp)))) ∧ Strm (upd (upd H4 tp e'.o) r (.lst ((L.map fun q => V.ref q.1).set j (.ref tp)))) a ∧ Lts (upd (upd H4 tp e'.o) r (.lst ((L.map fun q => V.ref q.1).set j (.ref tp)))) r (L.set j (tp, e')) := fun H4 e' tp x4 t4 h4 htp => by
      have st := same_upd (o := e'.o) htp
      have nr : tp ≠ r := fun z => by
        rw [z, h4.at_] at htp
        cases htp
      have h5 := h4.same st
      have t5 := t4.same st
      have x5 := x4.trans (Sx.of st)
      have f5 : upd H4 tp e'.o tp = some e'.o := upd_same
      generalize upd H4 tp e'.o = H5 at h5 t5 x5 f5 ⊢
      refine ⟨nr, h5.at_, fun b o n e => ?_, ?_, ?_, fun x hx => ?_⟩
      · rw [upd_ne (ne_of_none e rH)]
        exact x5 _ _ n e
      · obtain ⟨ms, e, le⟩ := t5
        exact ⟨ms, by rw [upd_ne ra.symm]; exact e, le⟩
      · rw [upd_same, List.map_set]
      · rcases List.mem_or_eq_of_mem_set hx with hx | rfl
        · rw [upd_ne (ne_lt (h5.all x hx) h5.at_ (fun z => by cases z))]
          exact h5.all x hx
        · rw [upd_ne nr]
          exact f5
    have ixj : ixN (L.map fun q => V.ref q.1).length ((j : Nat) : Int) = some j := by
      unfold ixN
      rw [if_pos (by omega), lmap, if_pos (by omega)]
      simp
    obtain ⟨lp, le, hlast, hlm⟩ : ∃ (lp : Addr) (le : Ltr), atI (L.map fun q => V.ref q.1) (-1) = some (.ref lp) ∧ (lp, le) ∈ L := by
      rcases List.eq_nil_or_concat L with rfl | ⟨L0, ⟨lp, le⟩, rfl⟩
      · exact absurd rfl l0
      · rw [List.concat_eq_append]
        exact ⟨lp, le, by rw [List.map_append]; exact atI_last _ _, List.mem_append_right _ (List.mem_singleton.mpr rfl)⟩
    have setj : ∀ (H4 : Hp) (e' : Ltr) (tp : Addr), Sx a H H4 → Strm H4 a → Lts H4 r L → H4 tp = none → gSub (tVar 7) (tVar 3) rSetL (V.ref tp) [some (V.ref a), some (V.ref l), some (V.int sh), some (V.int (j : Int)), some (V.int (ep, e).snd.n), some (V.int (ep, e).snd.t), some (V.int (ep, e).snd.v), some (V.ref r), none] (upd H4 tp e'.o) (tr { nx := fun x H' => Q V.non H', rt := Q }) := fun H4 e' tp x4 t4 h4 htp => by
      obtain ⟨nr, h5, x6, t6, h6⟩ := put H4 e' tp x4 t4 h4 htp
      exact ⟨_, rfl, _, rfl, r, _, j, j, rfl, rfl, h5, ixj, fin r rH ra _ _ _ _ _ _ _ _ _ x6 t6 h6 (by rw [List.length_set]; omega)⟩
    obtain ⟨ns3, ea3, _⟩ := id t3
    refine ⟨rfl, ite2 (fun c1 => ?_) (fun c1 => ⟨rfl, ite2 (fun c2 => ?_) (fun c2 => ⟨rfl, ite2 (fun c3 => ?_) (fun c3 => ⟨rfl, ite2 (fun c4 => ?_) (fun c4 => ⟨rfl, ite2 (fun c5 => ?_) (fun c5 => ?_)⟩)⟩)⟩)⟩)⟩
    · refine ⟨.inl ⟨rfl, _, ll hR3.at_⟩, _, j, rfl, ll hl3.at_, .ref ep, atj, _, hR3.at_, by rw [lmap]; exact small1000 (by omega), ?_⟩
      have hep3 := hl3.all _ (List.mem_of_getElem? hge)
      refine fin r rH ra _ (L ++ [(ep, e)]) _ _ _ _ _ _ _ (fun b o n ee => ?_) ?_ (hR3.snoc hep3) (by rw [List.length_append, List.length_singleton]; omega)
      · rw [upd_ne (ne_of_none ee rH)]
        exact x3 _ _ n ee
      · obtain ⟨ms, ee, le⟩ := t3
        exact ⟨ms, by rw [upd_ne ra.symm]; exact ee, le⟩
    · refine ⟨e.t, rfl, spDraw_of (by decide) t3 fun z H4 _ _ x4 t4 => ⟨z, rfl, by decide, fun tp htp => ?_⟩⟩
      exact setj H4 ⟨e.n, e.t - 1 - z, e.v⟩ tp (x3.trans x4) t4 (hR3.wr ea3 ra x4) htp
    · exact ⟨_, ll hl3.at_, .ref lp, hlast, lp, rfl, _, tt (hl3.all _ hlm), .int le.t, rfl, by decide, fun tp htp => setj H3 ⟨e.n, le.t, e.v⟩ tp x3 t3 hR3 htp⟩
    · exact ⟨_, ll hl3.at_, .ref lp, hlast, lp, rfl, _, tt (hl3.all _ hlm), .int le.n, rfl, by decide, fun tp htp => setj H3 ⟨le.n, e.t, e.v⟩ tp x3 t3 hR3 htp⟩
    · refine ⟨.ref l, rfl, l, rfl, ⟨_, ll hl3.at_⟩, fun D hD => lc_it walk_list (fun i H' => Same H3 H' ∧ ∃ R : LtL, Lts H' D R ∧ R.length = i) ⟨same_upd hD, [], ⟨upd_same, fun q hq => (by cases hq)⟩, rfl⟩ (fun i H' _ z => ll (z.1 _ _ hl3.at_)) ?_ ?_⟩
      · rintro i x H4 H4' hi ⟨s4, R, hR4, lR⟩ ⟨rfl, hx⟩
        obtain ⟨⟨xp, xe⟩, hxe, rfl⟩ := ref_at (L := L) hx
        have hxp := s4 _ _ (hl3.all _ (List.mem_of_getElem? hxe))
        rw [lmap] at hi
        refine ⟨rfl, ?_⟩
        simp only [tSeq, tAsg, gName, tOp, rI, rI0, rU, tUn, tVar, tC, tCB, tCons, tNil, tTest, tIfS, tRet, tRetN, tDrop, tNext, tBreak, tCont, rEq, rNe, CDiv, CDivN, CMul, tBM, tBM0, tTup, tLst, tAug, tIf, tAnd, tOr, tNot, tAndV, tOrV, tNotV, tIsN, tNotN, tB, scal, tCall, cxK, cxKn, rIxT, rIxL, rIn, rAppend, rReverse, tVals, tDSetd, tDGet, tDGet1, tDGet2, tDIn, tDNotIn, rSortV, rSortT, rPop, rSortL, rSortT, tSl, tNoPart, tPart, List.append_nil, L2.start, List.map_cons, List.map_nil, List.length_cons, List.length_nil, List.replicate_succ, List.replicate_zero, List.cons_append, List.nil_append, Nat.reduceAdd, Nat.reduceSub, exists_eq, exists_eq', wipe, tYes, List.getElem?_cons_zero, List.getElem?_cons_succ, List.set_cons_zero, List.set_cons_succ, Option.some.injEq, V.int.injEq, V.bl.injEq, V.str.injEq, V.ref.injEq, List.cons.injEq, and_true, true_and, and_false, false_and, reduceCtorEq, exists_false, or_false, false_or, exists_and_left, exists_and_right, exists_eq_left, exists_eq_left', exists_eq_right, exists_eq_right', exists_const, ite_true, ite_false, Bool.false_eq_true, if_true, if_false, decide_true, decide_false]
        refine ⟨_, tt hxp, .int xe.n, rfl, xe.n, rfl, .inl ⟨by decide, by decide⟩, _, tt hxp, .int xe.t, rfl, _, tt hxp, .int xe.v, rfl, by decide, fun tp htp => ⟨_, same_upd htp _ _ hR4.at_, by rw [List.length_map]; exact small1000 (by omega), fun b o ee => ?_, _, ((hR4.same (same_upd (o := Ltr.o ⟨3 * xe.n + 1, xe.t, xe.v⟩) htp)).snoc upd_same), by rw [List.length_append, lR]; rfl⟩⟩
        rw [upd_ne (ne_of_none ee hD), upd_ne (ne_of_none (s4 _ _ ee) htp)]
        exact s4 _ _ ee
      · rintro H4 ⟨s4, R, hR4, lR⟩
        rw [lmap] at lR
        have nD := none_of t3 x3 hD
        exact fin D nD.1 nD.2 H4 R _ _ _ _ _ _ _ (x3.trans (Sx.of s4)) (t3.same s4) hR4 (by omega)
    · exact fin r rH ra H3 L _ _ _ _ _ _ _ x3 t3 hR3 (by omega)
end
end Mv

set_option Elab.async false
set_option linter.all false
set_option maxRecDepth 100000
set_option maxHeartbeats 4000000
namespace Mv
open PySem PySem.Spec PyProof.Rows L2
abbrev sBo : Stmt := topS 24
theorem lsOk_last (L0 : LtL) (ep : Addr) (e : Ltr) (t : Int) : lsOk (lts (L0 ++ [(ep, e)])) t = decide (e.t ≤ t) := by
  unfold lsOk lts
  rw [List.map_append]
  show (match (List.map (·.2) L0 ++ [e]).getLast? with
    | none => true
    | some e => decide (e.t ≤ t)) = _
  rw [List.getLast?_concat]
section
variable {K : PySem.W.Frag} {C : Addr}
theorem eqD_int {H : Hp} {i : Int} {Q : VK} (q : Q (.bl true) H) : rEqD K (.int i) (.int i) H Q := ⟨.int i, .int i, .int i, .int i, rfl, rfl, by rw [show PyData.eqv (.int i) (.int i) = true from by simp [PyData.eqv]]; exact q⟩
theorem eqD_bl {H : Hp} {b : Bool} {Q : VK} (q : Q (.bl true) H) : rEqD K (.bl b) (.bl b) H Q := ⟨.bool b, .bool b, .bl b, .bl b, rfl, rfl, by rw [show PyData.eqv (.bool b) (.bool b) = true from by simp [PyData.eqv]]; exact q⟩
theorem neD_fV {H : Hp} {f : Option Int} {Q : VK} (q : Q (.bl false) H) : rNeD K (fV f) (fV f) H Q := by
  cases f with
  | none => exact ⟨.none, .none, .non, .non, rfl, rfl, q⟩
  | some i => exact ⟨.int i, .int i, .int i, .int i, rfl, rfl, by rw [show PyData.eqv (.int i) (.int i) = true from by simp [PyData.eqv]]; exact q⟩
theorem GateAt.obj {H : Hp} {p : Addr} {A : List Addr} {g : Gs} (h : GateAt C H p A g) : ∃ (dx : Addr) (fs : List (Str × V)), H p = some (.ins C dx fs) ∧ ∀ m : Str, (m == "_floor" || m == "_finished" || m == "_letters" || m == "_floored" || m == "_late") = false → fs.lookup m = none := by
  obtain ⟨dx, d, d2, l, M, N, _, h⟩ := h
  exact ⟨dx, _, h.ob, fun m hm => gfm hm⟩
end
def Ltr.d (e : Ltr) : PyData := .tuple [.int e.n, .int e.t, .int e.v]
theorem ltr_lay (e : Ltr) : e.d.canLay0 = true := by simp [Ltr.d, PyData.canLay0, PyData.canLayAll0]
theorem ltr_depth (e : Ltr) : e.d.depth ≤ 1 := by simp [Ltr.d, PyData.depth, PyData.depthAll]
theorem dp_lts {K : PySem.W.Frag} {H : Hp} : ∀ L : LtL, (∀ q ∈ L, H q.1 = some q.2.o) → DpAll K H (L.map fun q => V.ref q.1) ((lts L).map Ltr.d)
  | [], _ => .nil
  | q :: r, h => .cons (.tup (tt (h q List.mem_cons_self)) (.cons (.int _) (.cons (.int _) (.cons (.int _) .nil)))) (dp_lts r fun x hx => h x (List.mem_cons_of_mem _ hx))
theorem ne_lts {K : PySem.W.Frag} {H : Hp} {a b : Addr} {L1 L2 : LtL} {Q : VK} (h1 : Lts H a L1) (h2 : Lts H b L2) (e : lts L1 = lts L2) (q : Q (.bl false) H) : rNeD K (.ref a) (.ref b) H Q :=
  ne_listD (ll h1.at_) (dp_lts L1 h1.all) (ll h2.at_) (dp_lts L2 h2.all) (by rw [e]) (lay_map ltr_lay _) (Nat.le_trans (depth_map ltr_depth _) (by decide)) q
/-- a property of the class -/
structure PrX (P : Program) (w : World) (K : PySem.W.Frag) (mg : Str → Option Value) (base : Heap) (C : Addr) (f : Str) (sp : Sp) : Prop where
  ex : ∃ (pa ga : Addr) (fd : FuncData), PropOf K C f pa ga ∧ FnOk P w K mg base CX0 1 ga fd ["self"] sp ∧ Binds K fd ["self"] []
theorem cutV_take (xs : List V) (k : Nat) : cutV xs none (some (k : Int)) = xs.take k := by
  unfold cutV
  rw [HT.sIx_nat]
  show (xs.drop 0).take (min k xs.length - 0) = _
  rw [List.drop_zero, Nat.sub_zero, ← List.take_eq_take_min]
theorem sl_takeD {K : PySem.W.Frag} {H : Hp} {l : Addr} {L : DdL} {k : Nat} {m : Int} {Q : VK} (e : m = (k : Int)) (h : Dds H l L) (q : ∀ (o : Addr) (H' : Hp), Same H H' → Dds H' o (L.take k) → Q (.ref o) H') : rSlL K (.ref l) none (some m) H Q := by
  subst e
  refine ⟨l, _, rfl, ll h.at_, fun o ho => q o _ (same_upd ho) ⟨?_, fun z hz => same_upd ho _ _ (h.all z (List.mem_of_mem_take hz))⟩⟩
  rw [upd_same, cutV_take, List.map_take]
theorem nm_low {k : Str} (h : nmV (.str k) = true) : k.length ≤ 8 ∧ ∀ c ∈ k.cps.toList, c < 123 := by
  have h' : (decide (1 ≤ k.length) && (decide (k.length ≤ 8) && lowS k)) = true := h
  rw [Bool.and_eq_true, Bool.and_eq_true] at h'
  refine ⟨of_decide_eq_true h'.2.1, fun c hc => ?_⟩
  have h2 := h'.2.2
  unfold lowS at h2
  have h3 := of_decide_eq_true (List.all_eq_true.mp h2 c hc)
  have h4 : ∀ c ∈ abc.cps.toList, c < 123 := by decide +kernel
  exact h4 c h3
theorem nm_bad {H : Hp} {k : Str} (h : nmV (.str k) = true) : BadV H (.str k) := .str k (by have := (nm_low h).1; omega) fun c hc => Nat.lt_trans ((nm_low h).2 c hc) (by decide)
theorem sm60 {L : DdL} (h : L.length ≤ 60) : (run (L.map (·.2))).sm 60 := sm_le (sm_run _) (by rw [List.length_map]; exact h)
theorem GateAt.notup {C : Addr} {H : Hp} {p : Addr} {A : List Addr} {g : Gs} (h : GateAt C H p A g) {b : Addr} {xs : List V} (e : H b = some (.tup xs)) : b ∉ A := by
  obtain ⟨dx, d, d2, l, M, N, rfl, h⟩ := h
  intro hb
  unfold own at hb
  simp only [List.mem_cons] at hb
  rcases hb with rfl | rfl | rfl | rfl | hb
  · rw [h.ob] at e
    cases e
  · rw [h.mp.at_] at e
    cases e
  · rw [h.fd] at e
    cases e
  · rw [h.la.at_] at e
    cases e
  · obtain ⟨q, hq, rfl⟩ := List.mem_map.mp hb
    rw [(h.mp.all q hq).at_] at e
    cases e
/-- a gate beside another one stands in what is not the other's -/
theorem GateAt.beside {C : Addr} {H : Hp} {p p2 : Addr} {A A2 : List Addr} {g g2 : Gs} (h : GateAt C H p A g) (h2 : GateAt C H p2 A2 g2) (dj : ∀ b ∈ A2, b ∉ A) : GateAt C (res A H) p2 A2 g2 := by
  obtain ⟨dx, d, d2, l, M, N, rfl, x⟩ := h2
  have m1 : p2 ∈ own p2 d d2 l M := by simp [own]
  have m2 : d ∈ own p2 d d2 l M := by simp [own]
  have m3 : d2 ∈ own p2 d d2 l M := by simp [own]
  have m4 : l ∈ own p2 d d2 l M := by simp [own]
  have m5 : ∀ q ∈ M, q.2.1 ∈ own p2 d d2 l M := fun q hq => List.mem_cons_of_mem _ (List.mem_cons_of_mem _ (List.mem_cons_of_mem _ (List.mem_cons_of_mem _ (List.mem_map.mpr ⟨q, hq, rfl⟩))))
  exact ⟨dx, d, d2, l, M, N, rfl, res_at (dj _ m1) x.ob, ⟨res_at (dj _ m2) x.mp.at_, fun q hq => ⟨res_at (dj _ (m5 q hq)) (x.mp.all q hq).at_, fun y hy => res_at (h.notup ((x.mp.all q hq).all y hy)) ((x.mp.all q hq).all y hy)⟩⟩, x.ls, res_at (dj _ m3) x.fd, ⟨res_at (dj _ m4) x.la.at_, fun q hq => res_at (h.notup (x.la.all q hq)) (x.la.all q hq)⟩, x.lt, x.ne, x.nd, x.kd⟩
theorem eq_lts {K : PySem.W.Frag} {H : Hp} {a b : Addr} {L1 L2 : LtL} {Q : VK} (h1 : Lts H a L1) (h2 : Lts H b L2) (e : lts L1 = lts L2) (q : Q (.bl true) H) : rEqD K (.ref a) (.ref b) H Q :=
  eq_listD (ll h1.at_) (dp_lts L1 h1.all) (ll h2.at_) (dp_lts L2 h2.all) (by rw [e]) (lay_map ltr_lay _) (Nat.le_trans (depth_map ltr_depth _) (by decide)) q
theorem neD_int {K : PySem.W.Frag} {H : Hp} {i : Int} {Q : VK} (q : Q (.bl false) H) : rNeD K (.int i) (.int i) H Q := ⟨.int i, .int i, .int i, .int i, rfl, rfl, by rw [show PyData.eqv (.int i) (.int i) = true from by simp [PyData.eqv]]; exact q⟩
theorem getA_put {α : Type} (M : List (Str × α)) (k : Str) (v z : α) : getA (putA M k v) k z = v := by
  unfold getA putA
  by_cases c : (M.any fun q => decide (q.1 = k)) = true
  · rw [if_pos c]
    have : (M.map fun q => if q.1 = k then (q.1, v) else q).find? (fun q => decide (q.1 = k)) = some (k, v) := by
      clear z
      induction M with
      | nil => cases c
      | cons a M ih =>
        rw [List.map_cons]
        by_cases e : a.1 = k
        · rw [if_pos e, List.find?_cons_of_pos (by simpa using e), e]
        · rw [if_neg e, List.find?_cons_of_neg (by simpa using e)]
          refine ih ?_
          rw [List.any_cons, decide_eq_false e, Bool.false_or] at c
          exact c
    rw [this]
    rfl
  · rw [if_neg c]
    have n : M.find? (fun q => decide (q.1 = k)) = none := by
      rw [any_find] at c
      cases h : M.find? fun q => decide (q.1 = k) with
      | none => rfl
      | some q => rw [h] at c; exact absurd rfl c
    rw [List.find?_append, n, List.find?_cons_of_pos (by simp)]
    rfl
section
variable {P : Program} {w : World} {K : PySem.W.Frag} {mg : Str → Option Value} {base : Heap} {C CF CB : Addr}
theorem scBo : FnScope ["_law_gate_here", "_law_state", "_law_name", "_law_letters_here", "_law_floor", "_law_counts", "_law_done", "_law_late", "_law_row", "_law_bound", "_law_copy"] ["_law_gate_here", "_law_state", "_law_name"] (defScope sBo) := ⟨rfl, rfl, rfl, by decide +kernel, rfl, by decide +kernel, by decide +kernel⟩
abbrev boN : List Str := ["_law_gate_here", "_law_state", "_law_name", "_law_letters_here", "_law_floor", "_law_counts", "_law_done", "_law_late", "_law_row", "_law_bound", "_law_copy"]
theorem bo_rest {f : Addr} {cdv : Value} {A : Around} {outer : List Env} {s : Shared} {H0 : Hp} {E : XK} (B : Bi mg) (hr : Room 6 (A.deeper (envOfC "_law_bounded" (defScope sBo) s.heap.objs.size f cdv))) (cLi : MetX CX0 P w K mg base 3 C "lets_in" (spLi C)) (cTw : MetX CX0 P w K mg base 3 C "twin" (spTw C)) (cEv : MetX (L2.CX P w) P w K mg base 4 C "event" (spEv C CF CB)) (cLo : MetX CX0 P w K mg base 1 C "letters_of" (spLo C)) :
    ∃ tr, PSs (cxOf CX0 P w K mg base boN "_law_bounded" (defScope sBo) f cdv A outer s H0 E).nox ((defBody sBo).drop 6) tr ∧
      ∀ (Q : VK) (p r : Addr) (Ag : List Addr) (g : Gs) (k : Str) (b : Int) (L : LtL) (H : Hp) (y1 y3 y4 y5 y6 y7 : Option V), GateAt C H p Ag g → g.sm 60 → nmV (.str k) = true → g.dn = false → (∀ t, g.ok k t = decide (b ≤ t)) → Lts H r L → lts L = getA g.ls k [] → (∀ H' : Hp, Same H H' → Q (.bl true) H') →
        tr { nx := fun _ H' => Q .non H', rt := Q } [some (.ref p), y1, some (.str k), y3, y4, y5, y6, y7, some (.ref r), some (.int b), none] H := by
  refine ⟨_, (pss_cons (ps_if (PW.pt (pw_or (pt_cmpR op_notBl (pe_mx cLi hr (by decide) pass0 (pv 0) (pa_cons (pv 2) (pa_cons (pv 9) pa_nil))) pe_bl (nomark _)) (pw_or1 (pt_cmpR op_notBl (pe_mx cLi hr (by decide) pass0 (pv 0) (pa_cons (pv 2) (pa_cons (pe_op op_sub (pv 9) pe_int) pa_nil))) pe_bl (nomark _)))))
 (pss_one (ps_ret pe_bl)) pss_nil)
 (pss_cons (ps_set (i := 10) scBo.nd rfl (.inl rfl) (pe_mx0 cTw hr (by decide) pass0 (pv 0)))
 (pss_cons (ps_if (PW.pt (pw_or (pt_cmpR op_notN (pe_mx cEv hr (by decide) passL (pv 10) (pa_cons (pv 2) (pa_cons (pe_op op_sub (pv 9) pe_int) (pa_cons pe_int pa_nil)))) pe_non (nomark _)) (pw_or1 (pt_cmpR (op_neD hr.units) (pe_mx cEv hr (by decide) passL (pv 10) (pa_cons (pv 2) (pa_cons (pv 9) (pa_cons pe_int pa_nil)))) (pe_callB call_len_seq (by rfl) B.len PySem.boot_len (pa_cons (pv 8) pa_nil)) (nomark _)))))
 (pss_one (ps_ret pe_bl)) pss_nil)
 (pss_one (ps_ret (pe_and (pe_cmpR (op_eqD hr.units) (pe_mx cLo hr (by decide) pass0 (pv 10) (pa_cons (pv 2) pa_nil)) (pe_op op_cat (pv 8) (pe_lst (pa_cons (pe_tup (pa_cons (pe_callB call_len_seq (by rfl) B.len PySem.boot_len (pa_cons (pv 8) pa_nil)) (pa_cons (pv 9) (pa_cons pe_int pa_nil)))) pa_nil))) (nomark _)) (pe_one (pe_cmpR (op_eqD hr.units) (pe_mx cLo hr (by decide) pass0 (pv 0) (pa_cons (pv 2) pa_nil)) (pv 8) (nomark _))))))))), ?_⟩
  rintro Q p r Ag g k b L H y1 y3 y4 y5 y6 y7 hg hsm hk hdn hok hL eL q
  simp only [tSeq, tAsg, gName, tOp, rI, rI0, rU, tUn, tVar, tC, tCB, tCons, tNil, tTest, tIfS, tRet, tRetN, tDrop, tNext, tBreak, tCont, rEq, rNe, CDiv, CDivN, CMul, tBM, tBM0, tTup, tLst, tAug, tIf, tAnd, tOr, tNot, tAndV, tOrV, tNotV, tIsN, tNotN, tB, scal, tCall, cxK, cxKn, rIxT, rIxL, rIn, rAppend, rReverse, tVals, tDSetd, tDGet, tDGet1, tDGet2, tDIn, tDNotIn, rSortV, rSortT, rPop, rSortL, rSortT, tSl, tNoPart, tPart, List.append_nil, L2.start, List.map_cons, List.map_nil, List.length_cons, List.length_nil, List.replicate_succ, List.replicate_zero, List.cons_append, List.nil_append, Nat.reduceAdd, Nat.reduceSub, exists_eq, exists_eq', tMeth, List.getElem?_cons_zero, List.getElem?_cons_succ, List.set_cons_zero, List.set_cons_succ, Option.some.injEq, V.int.injEq, V.bl.injEq, V.str.injEq, V.ref.injEq, List.cons.injEq, and_true, true_and, and_false, false_and, reduceCtorEq, exists_false, or_false, false_or, exists_and_left, exists_and_right, exists_eq_left, exists_eq_left', exists_eq_right, exists_eq_right', exists_const, ite_true, ite_false, Bool.false_eq_true, if_true, if_false, decide_true, decide_false]
  obtain ⟨dx, fs, ho, hf⟩ := hg.obj
  have e1 : g.ok k b = true := by
    rw [hok]
    exact decide_eq_true (Int.le_refl _)
  have e0 : g.ok k (b - 1) = false := by
    rw [hok]
    exact decide_eq_false (by omega)
  have sm1 : g.sm 100 := sm_le hsm (by decide)
  refine ⟨dx, fs, ho, hf _ (by decide +kernel), p, Ag, g, .str k, b, rfl, hg, nm_bad hk, fun H1 s1 => ?_⟩
  rw [lets_str hdn hk, e1]
  refine ⟨true, true, rfl, rfl, false, rfl, if_F rfl ⟨dx, fs, s1 _ _ ho, hf _ (by decide +kernel), p, Ag, g, .str k, b - 1, rfl, hg.same s1, nm_bad hk, fun H2 s2 => ?_⟩⟩
  rw [lets_str hdn hk, e0]
  have s12 := s1.trans s2
  refine ⟨false, false, rfl, rfl, false, rfl, if_F rfl ⟨dx, fs, s12 _ _ ho, hf _ (by decide +kernel), p, Ag, g, rfl, hg.same s12, sm1, fun p2 A2 H3 s3 f3 g3 => ?_⟩⟩
  have s13 := s12.trans s3
  have f3H : ∀ b ∈ A2, H b = none := fun b hb => none_back s12 (f3 b hb)
  have dj : ∀ b ∈ Ag, b ∉ A2 := fun b hb z => hg.al (f3H b z) hb
  have hgc : GateAt C (res A2 H3) p Ag g := g3.beside (hg.same s13) dj
  have sC : Same H (res A2 H3) := fun b o e => res_at (fun z => by rw [f3H b z] at e; cases e) (s13 _ _ e)
  obtain ⟨dx2, fs2, ho2, hf2⟩ := g3.obj
  refine ⟨p2, rfl, dx2, fs2, ho2, hf2 _ (by decide +kernel), p2, A2, g, .str k, b - 1, 7, rfl, g3, nm_bad hk, sm1, fun z => (by rw [hdn] at z; cases z), fun _ z => (by rw [hk] at z; cases z), fun _ k' ek _ A4 H4 o4 g4 => ?_⟩
  obtain rfl : k = k' := V.str.inj ek
  rw [e0]
  refine if_F (by simp) ?_
  have es1 : g.event k (b - 1) 7 = { g with lt := g.lt ++ [⟨k, b - 1, 7⟩] } := by
    unfold Gs.event
    rw [e0]
    rfl
  rw [es1] at g4
  have sm2 : ({ g with lt := g.lt ++ [⟨k, b - 1, 7⟩] } : Gs).sm 100 := by
    rw [← es1]
    exact sm_le (hsm.event k (b - 1) 7) (by decide)
  have ok2 : ({ g with lt := g.lt ++ [⟨k, b - 1, 7⟩] } : Gs).ok k b = true := e1
  have es2 : ({ g with lt := g.lt ++ [⟨k, b - 1, 7⟩] } : Gs).event k b 7 = { g with lt := g.lt ++ [⟨k, b - 1, 7⟩], ls := putA g.ls k (getA g.ls k [] ++ [⟨((getA g.ls k []).length : Int), b, 7⟩]) } := by
    unfold Gs.event
    rw [ok2]
    rfl
  have hg4 := hgc.same o4.res
  have sC4 : Same H (res A4 H4) := fun b o e => o4.res _ _ (sC _ _ e)
  obtain ⟨dx4, fs4, ho4, hf4⟩ := g4.obj
  refine ⟨p2, rfl, dx4, fs4, ho4, hf4 _ (by decide +kernel), p2, A4, _, .str k, b, 7, rfl, g4, nm_bad hk, sm2, fun z => (by rw [show ({ g with lt := g.lt ++ [⟨k, b - 1, 7⟩] } : Gs).dn = g.dn from rfl, hdn] at z; cases z), fun _ z => (by rw [hk] at z; cases z), fun _ k' ek _ A5 H5 o5 g5 => ?_⟩
  obtain rfl : k = k' := V.str.inj ek
  rw [es2] at g5
  rw [ok2]
  have hg5 := hg4.same o5.res
  have sC5 : Same H (res A5 H5) := fun b o e => o5.res _ _ (sC4 _ _ e)
  have sH5 : Same H H5 := fun b o e => res_le _ _ (sC5 _ _ e)
  have hgH5 : GateAt C H5 p Ag g := hg5.same res_le
  clear hg4 hg5 sC4 sC5 sC hgc o4 o5 g4 g3
  have e3 : (L.map fun q => V.ref q.1).length = (getA g.ls k []).length := by
    rw [← eL, List.length_map]
    exact (List.length_map _).symm
  have hL5 := hL.same sH5
  refine ⟨_, .inl (ll hL5.at_), ?_⟩
  rw [e3]
  refine neD_int ⟨false, rfl, if_F rfl ?_⟩
  obtain ⟨dx5, fs5, ho5, hf5⟩ := g5.obj
  refine ⟨p2, rfl, dx5, fs5, ho5, hf5 _ (by decide +kernel), p2, A5, _, k, rfl, g5, fun H6 r6 L6 s6 rN hL6 eL6 => ?_⟩
  have eL6' : lts L6 = getA g.ls k [] ++ [⟨((getA g.ls k []).length : Int), b, 7⟩] := eL6.trans (getA_put _ _ _ _)
  have hL56 := hL5.same s6
  refine ⟨_, .inl (ll hL56.at_), ?_⟩
  rw [e3]
  refine ⟨by decide, fun tp htp => ⟨by decide, fun q2 hq2 => ?_⟩⟩
  have s7 := same_upd (o := .tup [.int ((getA g.ls k []).length : Int), .int b, .int 7]) htp
  have s8 := same_upd (o := .lst [.ref tp]) hq2
  have l60 := getA_len (k := k) hsm.all
  refine ⟨r, q2, _, _, rfl, rfl, s8 _ _ (s7 _ _ hL56.at_), upd_same, by rw [e3]; show _ + 1 ≤ sizeLine; exact small1000' (by omega), fun q3 hq3 => ?_⟩
  have s9 := same_upd (o := .lst (L.map (fun q => V.ref q.1) ++ [.ref tp])) hq3
  have s79 := (s7.trans s8).trans s9
  have hL9 : Lts (upd (upd (upd H6 tp (.tup [.int ((getA g.ls k []).length : Int), .int b, .int 7])) q2 (.lst [.ref tp])) q3 (.lst (L.map (fun q => V.ref q.1) ++ [.ref tp]))) q3 (L ++ [(tp, ⟨((getA g.ls k []).length : Int), b, 7⟩)]) := by
    refine ⟨by rw [upd_same, List.map_append]; rfl, fun q hq => ?_⟩
    rcases List.mem_append.mp hq with hq | hq
    · exact s79 _ _ (hL56.all q hq)
    · rw [List.mem_singleton.mp hq]
      exact s9 _ _ (s8 _ _ upd_same)
  have s69 := s79
  generalize upd (upd (upd H6 tp (.tup [.int ((getA g.ls k []).length : Int), .int b, .int 7])) q2 (.lst [.ref tp])) q3 (.lst (L.map (fun q => V.ref q.1) ++ [.ref tp])) = H9 at hL9 s69 ⊢
  have sH9 := (sH5.trans s6).trans s69
  have e9 : lts (L ++ [(tp, (⟨((getA g.ls k []).length : Int), b, 7⟩ : Ltr))]) = getA g.ls k [] ++ [⟨((getA g.ls k []).length : Int), b, 7⟩] := by
    unfold lts at eL ⊢
    rw [List.map_append, eL]
    rfl
  refine eq_lts (hL6.same s69) hL9 (eL6'.trans e9.symm) ⟨true, rfl, if_T rfl ?_⟩
  have hg9 := (hgH5.same s6).same s69
  obtain ⟨dx9, fs9, ho9, hf9⟩ := hg9.obj
  exact ⟨dx9, fs9, ho9, hf9 _ (by decide +kernel), p, Ag, g, k, rfl, hg9, fun H10 r10 L10 s10 _ hL10 eL10 => eq_lts hL10 ((hL56.same s69).same s10) (eL10.trans eL.symm) (q H10 (sH9.trans s10))⟩
def spBo (C : Addr) : Sp := fun vs H Q _ => ∃ (p : Addr) (Ag : List Addr) (g : Gs) (t : Addr) (k : Str), vs = [.ref p, .ref t, .str k] ∧ GateAt C H p Ag g ∧ g.sm 60 ∧ nmV (.str k) = true ∧ StAt H t g ∧ ∀ H' : Hp, Same H H' → Q (.bl true) H'
theorem ok_bo {f : Addr} {fd : FuncData} (F : Fun K "_law_bounded" "_law_bounded" sBo f fd) (B : Bi mg) (cLi : MetX CX0 P w K mg base 3 C "lets_in" (spLi C)) (cTw : MetX CX0 P w K mg base 3 C "twin" (spTw C)) (cEv : MetX (L2.CX P w) P w K mg base 4 C "event" (spEv C CF CB)) (cLo : MetX CX0 P w K mg base 1 C "letters_of" (spLo C)) : FnOk P w K mg base CX0 7 f fd ["_law_gate_here", "_law_state", "_law_name"] (spBo C) := by
  refine F.ok scBo (fun vs H Q E h => ?_) (fun cdv A outer s H vs Q E hr h => ?_)
  · obtain ⟨p, Ag, g, t, k, rfl, _⟩ := h
    rfl
  · obtain ⟨p, Ag, g, t, k, rfl, hg, hsm, hk, ⟨d, c, l, M, N, ht, hx, hc⟩, q⟩ := h
    obtain ⟨tr, hrest, hR⟩ := bo_rest (s := s) (H0 := H) (E := E) (outer := outer) (cdv := cdv) (f := f) (A := A) (K := K) (P := P) (w := w) (base := base) B hr cLi cTw cEv cLo
    refine ⟨_, (pss_cons (ps_asg (pv 1) (pg_tup rfl (pgs_cons (pg_name (i := 3) scBo.nd rfl (.inl rfl)) (pgs_cons (pg_name (i := 4) scBo.nd rfl (.inl rfl)) (pgs_cons (pg_name (i := 5) scBo.nd rfl (.inl rfl)) (pgs_cons (pg_name (i := 6) scBo.nd rfl (.inl rfl)) (pgs_cons (pg_name (i := 7) scBo.nd rfl (.inl rfl)) pgs_nil)))))))
 (pss_cons (ps_set (i := 8) scBo.nd rfl (.inl rfl) (pe_dget2 (hu_of hr) (pv 3) (pv 2) (pe_lst pa_nil) ⟨by rfl, by rfl, by rfl, by rfl⟩))
 (pss_cons (ps_if (pt_val (pv 6))
 (pss_one (ps_ret (pe_cmpR op_isBl (pe_mx cLi hr (by decide) pass0 (pv 0) (pa_cons (pv 2) (pa_cons pe_int pa_nil))) pe_bl (nomark _)))) pss_nil)
 (pss_cons (ps_if (PW.pt (pw_and (pt_cmpR op_isN (pv 4) pe_non (nomark _)) (pw_and1 (pt_cmpR op_eq (pe_callB call_len_seq (by rfl) B.len PySem.boot_len (pa_cons (pv 8) pa_nil)) pe_int (nomark _)))))
 (pss_one (ps_ret (pe_cmpR op_isBl (pe_mx cLi hr (by decide) pass0 (pv 0) (pa_cons (pv 2) (pa_cons (pe_un un_neg pe_int) pa_nil))) pe_bl (nomark _)))) pss_nil)
 (pss_cons (ps_set (i := 9) scBo.nd rfl (.inl rfl) (pv 4))
 (pss_cons (ps_if (PW.pt (pw_or (pt_cmpR op_isN (pv 4) pe_non (nomark _)) (pw_or1 (PW.pt (pw_and (pt_cmpR op_gt (pe_callB call_len_seq (by rfl) B.len PySem.boot_len (pa_cons (pv 8) pa_nil)) pe_int (nomark _)) (pw_and1 (pt_cmpR op_gt (pe_ix ix_tup (pe_ix ix_list (pv 8) (pe_un un_neg pe_int) (fun _ _ => rfl)) pe_int (fun _ _ => rfl)) (pv 4) (nomark _))))))))
 (pss_one (ps_set (i := 9) scBo.nd rfl (.inl rfl) (pe_ix ix_tup (pe_ix ix_list (pv 8) (pe_un un_neg pe_int) (fun _ _ => rfl)) pe_int (fun _ _ => rfl)))) pss_nil)
 hrest)))))), ?_⟩
    refine ⟨_, rfl, t, _, rfl, tt ht, rfl, _, _, rfl, _, _, rfl, _, _, rfl, _, _, rfl, _, _, rfl, rfl, ?_⟩
    simp only [tSeq, tAsg, gName, tOp, rI, rI0, rU, tUn, tVar, tC, tCB, tCons, tNil, tTest, tIfS, tRet, tRetN, tDrop, tNext, tBreak, tCont, rEq, rNe, CDiv, CDivN, CMul, tBM, tBM0, tTup, tLst, tAug, tIf, tAnd, tOr, tNot, tAndV, tOrV, tNotV, tIsN, tNotN, tB, scal, tCall, cxK, cxKn, rIxT, rIxL, rIn, rAppend, rReverse, tVals, tDSetd, tDGet, tDGet1, tDGet2, tDIn, tDNotIn, rSortV, rSortT, rPop, rSortL, rSortT, tSl, tNoPart, tPart, List.append_nil, L2.start, List.map_cons, List.map_nil, List.length_cons, List.length_nil, List.replicate_succ, List.replicate_zero, List.cons_append, List.nil_append, Nat.reduceAdd, Nat.reduceSub, exists_eq, exists_eq', tMeth, List.getElem?_cons_zero, List.getElem?_cons_succ, List.set_cons_zero, List.set_cons_succ, Option.some.injEq, V.int.injEq, V.bl.injEq, V.str.injEq, V.ref.injEq, List.cons.injEq, and_true, true_and, and_false, false_and, reduceCtorEq, exists_false, or_false, false_or, exists_and_left, exists_and_right, exists_eq_left, exists_eq_left', exists_eq_right, exists_eq_right', exists_const, ite_true, ite_false, Bool.false_eq_true, if_true, if_false, decide_true, decide_false]
    refine ⟨.inl ⟨_, .inl hx.mp.at_⟩, by decide, fun l0 hl0 => ?_⟩
    obtain ⟨o, ho, r, L, er, hL, eL⟩ := get_ms hx.mp hx.ls k hl0
    refine ⟨o, ho, ?_⟩
    rw [er]
    have s1 := same_upd (o := .lst []) hl0
    have hg1 := hg.same s1
    generalize upd H l0 (.lst []) = H1 at hL s1 hg1 ⊢
    obtain ⟨dx, fs, ho1, hf⟩ := hg1.obj
    cases ed : g.dn with
    | true =>
      refine if_T rfl ⟨dx, fs, ho1, hf _ (by decide +kernel), p, Ag, g, .str k, _, rfl, hg1, nm_bad hk, fun H2 s2 => ?_⟩
      rw [lets_dn ed]
      exact ⟨false, false, rfl, rfl, q H2 (s1.trans s2)⟩
    | false =>
    have e0 : ∀ u : Int, g.ok k u = (flOk g.fl u && lsOk (lts L) u) := fun u => by
      rw [eL]
      rfl
    have tail : ∀ b : Int, (∀ u, g.ok k u = decide (b ≤ u)) → tr { nx := fun x H' => Q V.non H', rt := Q } [some (.ref p), some (.ref t), some (.str k), some (.ref d), some (fV g.fl), some (.ref c), some (.bl false), some (.ref l), some (.ref r), some (.int b), none] H1 := fun b hb =>
      hR Q p r Ag g k b L H1 _ _ _ _ _ _ hg1 hsm hk ed hb hL eL fun H' s' => q H' (s1.trans s')
    refine if_F rfl ?_
    rcases List.eq_nil_or_concat L with rfl | ⟨L0, ⟨ep, e⟩, rfl⟩
    · cases ef : g.fl with
      | none =>
        rw [ef] at e0
        refine if_T (by rfl) ⟨r, rfl, _, .inl (ll hL.at_), if_T (by rfl) ⟨dx, fs, ho1, hf _ (by decide +kernel), p, Ag, g, .str k, _, rfl, hg1, nm_bad hk, fun H2 s2 => ?_⟩⟩
        rw [lets_str ed hk, e0]
        exact ⟨true, true, rfl, rfl, q H2 (s1.trans s2)⟩
      | some fl =>
        rw [ef] at e0 tail
        exact if_F (by rfl) (if_F (by rfl) ⟨r, rfl, _, .inl (ll hL.at_), if_F (by rfl) (tail fl fun u => by rw [e0]; exact Bool.and_true _)⟩)
    · rw [List.concat_eq_append] at *
      have hep := hL.all (ep, e) (List.mem_append_right _ (List.mem_singleton.mpr rfl))
      have hlast : atI ((L0 ++ [(ep, e)]).map fun q => V.ref q.1) (-1) = some (.ref ep) := by
        rw [List.map_append]
        exact atI_last _ _
      have hlen : ((L0 ++ [(ep, e)]).map fun q => V.ref q.1).length = L0.length + 1 := by
        rw [List.length_map, List.length_append, List.length_singleton]
      have e1 : ∀ u : Int, g.ok k u = (flOk g.fl u && decide (e.t ≤ u)) := fun u => by
        rw [e0, lsOk_last]
      cases ef : g.fl with
      | none =>
        rw [ef] at e1 tail
        refine if_T (by rfl) ⟨r, rfl, _, .inl (ll hL.at_), if_F (decide_eq_false (by rw [hlen]; omega)) (if_T (by rfl) ⟨r, rfl, _, ll hL.at_, .ref ep, hlast, ep, rfl, _, tt hep, .int e.t, rfl, tail e.t fun u => by rw [e1]; exact Bool.true_and _⟩)⟩
      | some fl =>
        rw [ef] at e1 tail
        refine if_F (by rfl) (if_F (by rfl) ⟨r, rfl, _, .inl (ll hL.at_), if_T (decide_eq_true (by rw [hlen]; omega)) ⟨r, rfl, _, ll hL.at_, .ref ep, hlast, ep, rfl, _, tt hep, .int e.t, rfl, e.t, rfl, fl, rfl, ite2 (fun c1 => ⟨r, rfl, _, ll hL.at_, .ref ep, hlast, ep, rfl, _, tt hep, .int e.t, rfl, tail e.t fun u => ?_⟩) (fun c1 => tail fl fun u => ?_)⟩⟩)
        · have c1' := of_decide_eq_true c1
          rw [e1]
          show (decide (fl ≤ u) && decide (e.t ≤ u)) = decide (e.t ≤ u)
          by_cases h : e.t ≤ u
          · rw [decide_eq_true h, decide_eq_true (by omega)]
            rfl
          · rw [decide_eq_false h, Bool.and_false]
        · have c1' : ¬ fl < e.t := fun z => c1 (decide_eq_true z)
          rw [e1]
          show (decide (fl ≤ u) && decide (e.t ≤ u)) = decide (fl ≤ u)
          by_cases h : fl ≤ u
          · rw [decide_eq_true h, decide_eq_true (by omega)]
            rfl
          · rw [decide_eq_false h, Bool.false_and]
end
end Mv

set_option Elab.async false
set_option linter.all false
set_option maxRecDepth 100000
set_option maxHeartbeats 4000000
namespace Mv
open PySem PySem.Spec PyProof.Rows L2
abbrev sRd : Stmt := topS 25
theorem MkAt.same {H H' : Hp} {v : V} {m : MkD} (h : MkAt H v m) (s : Same H H') : MkAt H' v m := by
  cases m with
  | none => exact h
  | some cf =>
    obtain ⟨c, f⟩ := cf
    obtain ⟨t, e, ht⟩ := h
    exact ⟨t, e, s _ _ ht⟩
theorem mark_mk {H : Hp} {g : Gs} {k : Str} {v : V} (h : MarkV H g k v) : MkAt H v (g.mkd k) := by
  unfold Gs.mkd
  rcases h with ⟨ed, t, e, ht⟩ | ⟨ed, ⟨ef, e⟩ | ⟨f, t, ef, e, ht⟩⟩
  · rw [ed]
    exact ⟨t, e, ht⟩
  · rw [ed, ef]
    exact e
  · rw [ed, ef]
    exact ⟨t, e, ht⟩
def fD : Option Int → PyData
  | none => .none
  | some x => .int x
theorem dp_fV {K : PySem.W.Frag} {H : Hp} (f : Option Int) : Dp K H (fV f) (fD f) := by
  cases f with
  | none => exact .non
  | some x => exact .int x
theorem fD_lay (f : Option Int) : (fD f).canLay0 = true := by cases f <;> simp [fD, PyData.canLay0]
theorem fD_depth (f : Option Int) : (fD f).depth = 0 := by cases f <;> simp [fD, PyData.depth]
theorem mk_data {K : PySem.W.Frag} {H : Hp} {a b : Addr} {c : Int} {f : Option Int} {Q : VK} (ha : H a = some (.tup [.int c, fV f])) (hb : H b = some (.tup [.int c, fV f])) :
    (Q (.bl false) H → rNeD K (.ref a) (.ref b) H Q) ∧ (Q (.bl true) H → rEqD K (.ref a) (.ref b) H Q) := by
  have l : PyData.canLayAll0 [.int c, fD f] = true := by simp [PyData.canLayAll0, PyData.canLay0, fD_lay]
  have d : PyData.depthAll [.int c, fD f] ≤ 60 := by simp [PyData.depthAll, PyData.depth, fD_depth]
  exact ⟨fun q => ne_tupD (tt ha) (.cons (.int _) (.cons (dp_fV f) .nil)) (tt hb) (.cons (.int _) (.cons (dp_fV f) .nil)) rfl l d q, fun q => eq_tupD (tt ha) (.cons (.int _) (.cons (dp_fV f) .nil)) (tt hb) (.cons (.int _) (.cons (dp_fV f) .nil)) rfl l d q⟩
theorem ne_mk {K : PySem.W.Frag} {H : Hp} {v v' : V} {m : MkD} {Q : VK} (h : MkAt H v m) (h' : MkAt H v' m) (q : Q (.bl false) H) : rNeD K v v' H Q := by
  cases m with
  | none =>
    have e : v = .non := h
    have e' : v' = .non := h'
    subst e e'
    exact ⟨.none, .none, .non, .non, rfl, rfl, q⟩
  | some cf =>
    obtain ⟨c, f⟩ := cf
    obtain ⟨t, rfl, ht⟩ := h
    obtain ⟨t', rfl, ht'⟩ := h'
    exact (mk_data ht ht').1 q
theorem eq_mk {K : PySem.W.Frag} {H : Hp} {v v' : V} {m : MkD} {Q : VK} (h : MkAt H v m) (h' : MkAt H v' m) (q : Q (.bl true) H) : rEqD K v v' H Q := by
  cases m with
  | none =>
    have e : v = .non := h
    have e' : v' = .non := h'
    subst e e'
    exact ⟨.none, .none, .non, .non, rfl, rfl, q⟩
  | some cf =>
    obtain ⟨c, f⟩ := cf
    obtain ⟨t, rfl, ht⟩ := h
    obtain ⟨t', rfl, ht'⟩ := h'
    exact (mk_data ht ht').2 q
theorem eqD_fV {K : PySem.W.Frag} {H : Hp} {f : Option Int} {Q : VK} (q : Q (.bl true) H) : rEqD K (fV f) (fV f) H Q := by
  cases f with
  | none => exact ⟨.none, .none, .non, .non, rfl, rfl, q⟩
  | some i => exact eqD_int q
theorem getA_cnt (M : List (Str × List Ltr)) (k : Str) : getA (M.map fun q => (q.1, (q.2.length : Int))) k 0 = ((getA M k []).length : Int) := by
  unfold getA
  rw [List.find?_map]
  show ((Option.map _ (M.find? fun q => decide (q.1 = k))).map _).getD 0 = _
  cases M.find? fun q => decide (q.1 = k) <;> rfl
section
variable {P : Program} {w : World} {K : PySem.W.Frag} {mg : Str → Option Value} {base : Heap} {C CF CB : Addr}
theorem scRd : FnScope ["_law_gate_here", "_law_state", "_law_name", "_law_letters_here", "_law_floor", "_law_counts", "_law_done", "_law_late", "_law_mark_here", "_law_copy", "_law_time"] ["_law_gate_here", "_law_state", "_law_name"] (defScope sRd) := ⟨rfl, rfl, rfl, by decide +kernel, rfl, by decide +kernel, by decide +kernel⟩
abbrev rdN : List Str := ["_law_gate_here", "_law_state", "_law_name", "_law_letters_here", "_law_floor", "_law_counts", "_law_done", "_law_late", "_law_mark_here", "_law_copy", "_law_time"]
theorem rd_rest {f : Addr} {cdv : Value} {A : Around} {outer : List Env} {s : Shared} {H0 : Hp} {E : XK} (B : Bi mg) (hr : Room 4 (A.deeper (envOfC "_law_raised" (defScope sRd) s.heap.objs.size f cdv))) (X : GtX K C) (pF : PrX P w K mg base C "floor" (spGf C)) (cMo : MetX CX0 P w K mg base 2 C "mark_of" (spMo C)) (cRa : MetX (L2.CX P w) P w K mg base 2 C "raise_floor" (spRa C CF)) :
    ∃ tr, PSs (cxOf CX0 P w K mg base rdN "_law_raised" (defScope sRd) f cdv A outer s H0 E).nox ((defBody sRd).drop 7) tr ∧
      ∀ (Q : VK) (p p2 d : Addr) (Ag A2 : List Addr) (g : Gs) (k : Str) (tm : Int) (v : V) (M : MpL) (H : Hp) (y1 y5 y7 : Option V), GateAt C H p2 A2 g → GateAt C (res A2 H) p Ag g → g.sm 60 → g.dn = false → g.rises tm = true → Mps (res A2 H) d M → mpl M = g.ls → MkAt (res A2 H) v (g.mkd k) → (∀ (A' : List Addr) (H' : Hp), Ow A2 A' H H' → Q (.bl true) H') →
        tr { nx := fun _ H' => Q .non H', rt := Q } [some (.ref p), y1, some (.str k), some (.ref d), some (fV g.fl), y5, some (.bl g.dn), y7, some v, some (.ref p2), some (.int tm)] H := by
  obtain ⟨pFa, pFg, pFd, pF1, pF2, pF3⟩ := pF.ex
  refine ⟨_, (pss_cons (ps_if (PW.pt (pw_or (pt_cmpR op_notBl (pe_mx cRa hr (by decide) passL (pv 9) (pa_cons (pv 10) pa_nil)) pe_bl (nomark _)) (pw_or1 (pt_cmpR (op_neD hr.units) (pe_prop (pv 9) X.cl pF1 pF2 (hr.mono (by decide)) pF3 .nil pass0 (by rfl)) (pv 10) (nomark _)))))
 (pss_one (ps_ret pe_bl)) pss_nil)
 (pss_cons (ps_if (pt_cmpR (op_neD hr.units) (pe_mx cMo hr (by decide) pass0 (pv 9) (pa_cons (pv 2) pa_nil)) (pe_tup (pa_cons (pe_callB call_len_seq (by rfl) B.len PySem.boot_len (pa_cons (pe_dget2 (hu_of hr) (pv 3) (pv 2) (pe_lst pa_nil) ⟨by rfl, by rfl, by rfl, by rfl⟩) pa_nil)) (pa_cons (pv 10) pa_nil))) (nomark _))
 (pss_one (ps_ret pe_bl)) pss_nil)
 (pss_one (ps_ret (pe_and (pe_cmpR (op_eqD hr.units) (pe_mx cMo hr (by decide) pass0 (pv 0) (pa_cons (pv 2) pa_nil)) (pv 8) (nomark _)) (pe_one (pe_cmpR (op_eqD hr.units) (pe_prop (pv 0) X.cl pF1 pF2 (hr.mono (by decide)) pF3 .nil pass0 (by rfl)) (pv 4) (nomark _)))))))), ?_⟩
  rintro Q p p2 d Ag A2 g k tm v M H y1 y5 y7 hc hg hsm hdn hri hm el hmk q
  simp only [tSeq, tAsg, gName, tOp, rI, rI0, rU, tUn, tVar, tC, tCB, tCons, tNil, tTest, tIfS, tRet, tRetN, tDrop, tNext, tBreak, tCont, rEq, rNe, CDiv, CDivN, CMul, tBM, tBM0, tTup, tLst, tAug, tIf, tAnd, tOr, tNot, tAndV, tOrV, tNotV, tIsN, tNotN, tB, scal, tCall, cxK, cxKn, rIxT, rIxL, rIn, rAppend, rReverse, tVals, tDSetd, tDGet, tDGet1, tDGet2, tDIn, tDNotIn, rSortV, rSortT, rPop, rSortL, rSortT, tSl, tNoPart, tPart, List.append_nil, L2.start, List.map_cons, List.map_nil, List.length_cons, List.length_nil, List.replicate_succ, List.replicate_zero, List.cons_append, List.nil_append, Nat.reduceAdd, Nat.reduceSub, exists_eq, exists_eq', tMeth, tProp, List.getElem?_cons_zero, List.getElem?_cons_succ, List.set_cons_zero, List.set_cons_succ, Option.some.injEq, V.int.injEq, V.bl.injEq, V.str.injEq, V.ref.injEq, List.cons.injEq, and_true, true_and, and_false, false_and, reduceCtorEq, exists_false, or_false, false_or, exists_and_left, exists_and_right, exists_eq_left, exists_eq_left', exists_eq_right, exists_eq_right', exists_const, ite_true, ite_false, Bool.false_eq_true, if_true, if_false, decide_true, decide_false]
  obtain ⟨dx2, fs2, ho2, hf2⟩ := hc.obj
  refine ⟨dx2, fs2, ho2, hf2 _ (by decide +kernel), p2, A2, g, tm, rfl, hc, sm_le hsm (by decide), fun z => (by rw [hdn] at z; cases z), fun _ A3 H3 o3 g3 => ?_⟩
  have eg : g.raise tm = { g with fl := some tm, fd := g.ls.map fun q => (q.1, (q.2.length : Int)) } := by
    unfold Gs.raise
    rw [hri]
    rfl
  rw [eg] at g3
  rw [hri]
  have hg3 := (hg.same o3.res).same res_le
  have hm3 := (hm.same o3.res).same res_le
  have hk3 := (hmk.same o3.res).same res_le
  obtain ⟨dx3, fs3, ho3, hf3⟩ := g3.obj
  refine ⟨true, true, rfl, rfl, false, rfl, if_F rfl ⟨⟨dx3, fs3, ho3⟩, p2, A3, _, rfl, g3, neD_int ⟨false, rfl, if_F rfl ⟨dx3, fs3, ho3, hf3 _ (by decide +kernel), p2, A3, _, k, rfl, g3, fun v4 H4 s4 hv4 => ?_⟩⟩⟩⟩
  have hv4' := mark_mk hv4
  have em : ({ g with fl := some tm, fd := g.ls.map fun q => (q.1, (q.2.length : Int)) } : Gs).mkd k = some (((getA g.ls k []).length : Int), some tm) := by
    unfold Gs.mkd
    rw [show ({ g with fl := some tm, fd := g.ls.map fun q => (q.1, (q.2.length : Int)) } : Gs).dn = g.dn from rfl, hdn]
    show some (getA (g.ls.map fun q => (q.1, (q.2.length : Int))) k 0, some tm) = _
    rw [getA_cnt]
  rw [em] at hv4'
  have hm4 := hm3.same s4
  refine ⟨.inl ⟨_, .inl hm4.at_⟩, by decide, fun l0 hl0 => ?_⟩
  obtain ⟨o, hoo, r, L, er, hL, eL⟩ := get_ms hm4 el k hl0
  have s5 := same_upd (o := .lst []) hl0
  refine ⟨o, hoo, r, er, _, .inl (ll hL.at_), ?_⟩
  have e3 : (L.map fun q => V.ref q.1).length = (getA g.ls k []).length := by
    rw [← eL, List.length_map]
    exact (List.length_map _).symm
  rw [e3]
  refine ⟨by decide, fun tp htp => ?_⟩
  have s6 := same_upd (o := .tup [.int ((getA g.ls k []).length : Int), .int tm]) htp
  have s46 := s5.trans s6
  have hk6 := (hk3.same s4).same s46
  have hg6 := (hg3.same s4).same s46
  refine ne_mk (m := some (((getA g.ls k []).length : Int), some tm)) (hv4'.same s46) ⟨tp, rfl, upd_same⟩ ⟨false, rfl, if_F rfl ?_⟩
  have o6 := o3.trans (Ow.of (s4.trans s46))
  generalize upd (upd H4 l0 (.lst [])) tp (.tup [.int ((getA g.ls k []).length : Int), .int tm]) = H6 at hk6 hg6 o6 ⊢
  obtain ⟨dx6, fs6, ho6, hf6⟩ := hg6.obj
  exact ⟨dx6, fs6, ho6, hf6 _ (by decide +kernel), p, Ag, g, k, rfl, hg6, fun v7 H7 s7 hv7 => eq_mk (mark_mk hv7) (hk6.same s7) ⟨true, rfl, if_T rfl ⟨⟨dx6, fs6, s7 _ _ ho6⟩, p, Ag, g, rfl, hg6.same s7, eqD_fV (q _ _ (o6.trans (Ow.of s7)))⟩⟩⟩
def spRd (C : Addr) : Sp := fun vs H Q _ => ∃ (p : Addr) (Ag : List Addr) (g : Gs) (t : Addr) (k : Str), vs = [.ref p, .ref t, .str k] ∧ GateAt C H p Ag g ∧ g.sm 60 ∧ StAt H t g ∧ ∀ H' : Hp, Same H H' → Q (.bl true) H'
theorem ok_rd {f : Addr} {fd : FuncData} (F : Fun K "_law_raised" "_law_raised" sRd f fd) (B : Bi mg) (X : GtX K C) (pF : PrX P w K mg base C "floor" (spGf C)) (cMk : CalX CX0 P w K mg base 1 "_law_mark" spMk) (cTw : MetX CX0 P w K mg base 3 C "twin" (spTw C)) (cMo : MetX CX0 P w K mg base 2 C "mark_of" (spMo C)) (cRa : MetX (L2.CX P w) P w K mg base 2 C "raise_floor" (spRa C CF)) : FnOk P w K mg base CX0 5 f fd ["_law_gate_here", "_law_state", "_law_name"] (spRd C) := by
  refine F.ok scRd (fun vs H Q E h => ?_) (fun cdv A outer s H vs Q E hr h => ?_)
  · obtain ⟨p, Ag, g, t, k, rfl, _⟩ := h
    rfl
  · obtain ⟨p, Ag, g, t, k, rfl, hg, hsm, hst, q⟩ := h
    obtain ⟨tr, hrest, hR⟩ := rd_rest (s := s) (H0 := H) (E := E) (outer := outer) (cdv := cdv) (f := f) (A := A) (K := K) (P := P) (w := w) (base := base) B hr X pF cMo cRa
    obtain ⟨pFa, pFg, pFd, pF1, pF2, pF3⟩ := pF.ex
    refine ⟨_, (pss_cons (ps_asg (pv 1) (pg_tup rfl (pgs_cons (pg_name (i := 3) scRd.nd rfl (.inl rfl)) (pgs_cons (pg_name (i := 4) scRd.nd rfl (.inl rfl)) (pgs_cons (pg_name (i := 5) scRd.nd rfl (.inl rfl)) (pgs_cons (pg_name (i := 6) scRd.nd rfl (.inl rfl)) (pgs_cons (pg_name (i := 7) scRd.nd rfl (.inl rfl)) pgs_nil)))))))
 (pss_cons (ps_if (pt_val (pv 6))
 (pss_one (ps_ret pe_bl)) pss_nil)
 (pss_cons (ps_set (i := 8) scRd.nd rfl (.inl rfl) (pe_cx cMk hr (by decide) pass0 (by rfl) (pa_cons (pv 1) (pa_cons (pv 2) pa_nil))))
 (pss_cons (ps_set (i := 9) scRd.nd rfl (.inl rfl) (pe_mx0 cTw hr (by decide) pass0 (pv 0)))
 (pss_cons (ps_if (pt_cmpR (op_neD hr.units) (pe_mx cMo hr (by decide) pass0 (pv 9) (pa_cons (pv 2) pa_nil)) (pv 8) (nomark _))
 (pss_one (ps_ret pe_bl)) pss_nil)
 (pss_cons (ps_set (i := 10) scRd.nd rfl (.inl rfl) pe_int)
 (pss_cons (ps_if (pt_cmpR op_notN (pv 4) pe_non (nomark _))
 (pss_cons (ps_set (i := 10) scRd.nd rfl (.inl rfl) (pe_op op_add (pv 4) pe_int))
 (pss_cons (ps_if (PW.pt (pw_or (pt_cmpR op_notBl (pe_mx cRa hr (by decide) passL (pv 9) (pa_cons (pv 4) pa_nil)) pe_bl (nomark _)) (pw_or1 (pt_cmpR op_notBl (pe_mx cRa hr (by decide) passL (pv 9) (pa_cons (pe_op op_sub (pv 4) pe_int) pa_nil)) pe_bl (nomark _)))))
 (pss_one (ps_ret pe_bl)) pss_nil)
 (pss_one (ps_if (PW.pt (pw_or (pt_cmpR (op_neD hr.units) (pe_mx cMo hr (by decide) pass0 (pv 9) (pa_cons (pv 2) pa_nil)) (pv 8) (nomark _)) (pw_or1 (pt_cmpR (op_neD hr.units) (pe_prop (pv 9) X.cl pF1 pF2 (hr.mono (by decide)) pF3 .nil pass0 (by rfl)) (pv 4) (nomark _)))))
 (pss_one (ps_ret pe_bl)) pss_nil)))) pss_nil)
 hrest))))))), ?_⟩
    obtain ⟨d, c, l, M, N, ht, hx, hc⟩ := id hst
    refine ⟨_, rfl, t, _, rfl, tt ht, rfl, _, _, rfl, _, _, rfl, _, _, rfl, _, _, rfl, _, _, rfl, rfl, ?_⟩
    simp only [tSeq, tAsg, gName, tOp, rI, rI0, rU, tUn, tVar, tC, tCB, tCons, tNil, tTest, tIfS, tRet, tRetN, tDrop, tNext, tBreak, tCont, rEq, rNe, CDiv, CDivN, CMul, tBM, tBM0, tTup, tLst, tAug, tIf, tAnd, tOr, tNot, tAndV, tOrV, tNotV, tIsN, tNotN, tB, scal, tCall, cxK, cxKn, rIxT, rIxL, rIn, rAppend, rReverse, tVals, tDSetd, tDGet, tDGet1, tDGet2, tDIn, tDNotIn, rSortV, rSortT, rPop, rSortL, rSortT, tSl, tNoPart, tPart, List.append_nil, L2.start, List.map_cons, List.map_nil, List.length_cons, List.length_nil, List.replicate_succ, List.replicate_zero, List.cons_append, List.nil_append, Nat.reduceAdd, Nat.reduceSub, exists_eq, exists_eq', tMeth, tProp, List.getElem?_cons_zero, List.getElem?_cons_succ, List.set_cons_zero, List.set_cons_succ, Option.some.injEq, V.int.injEq, V.bl.injEq, V.str.injEq, V.ref.injEq, List.cons.injEq, and_true, true_and, and_false, false_and, reduceCtorEq, exists_false, or_false, false_or, exists_and_left, exists_and_right, exists_eq_left, exists_eq_left', exists_eq_right, exists_eq_right', exists_const, ite_true, ite_false, Bool.false_eq_true, if_true, if_false, decide_true, decide_false]
    cases ed : g.dn with
    | true => exact if_T rfl (q H fun _ _ h => h)
    | false =>
    refine if_F rfl ⟨t, g, k, rfl, hst, fun v H1 s1 hmk => ?_⟩
    obtain ⟨dx, fs, ho, hf⟩ := (hg.same s1).obj
    refine ⟨dx, fs, ho, hf _ (by decide +kernel), p, Ag, g, rfl, hg.same s1, sm_le hsm (by decide), fun p2 A2 H2 s2 f2 g2 => ?_⟩
    have s02 := s1.trans s2
    have f0 : ∀ b ∈ A2, H b = none := fun b hb => none_back s1 (f2 b hb)
    have dj : ∀ b ∈ Ag, b ∉ A2 := fun b hb z => hg.al (f0 b z) hb
    have hg2 : GateAt C (res A2 H2) p Ag g := g2.beside (hg.same s02) dj
    have sC : Same H (res A2 H2) := fun b o e => res_at (fun z => by rw [f0 b z] at e; cases e) (s02 _ _ e)
    have hm2 : Mps (res A2 H2) d M := hx.mp.same sC
    have hk2 : MkAt (res A2 H2) v (g.mkd k) := by
      have s12 : Same H1 (res A2 H2) := fun b o e => res_at (fun z => by rw [f2 b z] at e; cases e) (s2 _ _ e)
      exact hmk.same s12
    obtain ⟨dx2, fs2, ho2, hf2⟩ := g2.obj
    refine ⟨p2, rfl, dx2, fs2, ho2, hf2 _ (by decide +kernel), p2, A2, g, k, rfl, g2, fun v3 H3 s3 hv3 => ?_⟩
    have hk3 := hk2.same (res_same (A := A2) s3)
    refine ne_mk (mark_mk hv3) (hk3.same res_le) ⟨false, rfl, if_F rfl ?_⟩
    have hg3 := hg2.same (res_same (A := A2) s3)
    have hm3 := hm2.same (res_same (A := A2) s3)
    have g3 := g2.same s3
    have sC3 : Same H (res A2 H3) := sC.trans (res_same (A := A2) s3)
    clear hk2 hg2 hm2 g2
    have sm1 : g.sm 100 := sm_le hsm (by decide)
    have done : ∀ (A4 : List Addr) (H4 : Hp) (tm : Int) (y1 y5 y7 : Option V), g.rises tm = true → GateAt C H4 p2 A4 g → Ow A2 A4 H3 H4 → tr { nx := fun x H' => Q V.non H', rt := Q } [some (.ref p), y1, some (.str k), some (.ref d), some (fV g.fl), y5, some (.bl false), y7, some v, some (.ref p2), some (.int tm)] H4 := fun A4 H4 tm y1 y5 y7 hri g4 o4 => by
      have h := hR Q p p2 d Ag A4 g k tm v M H4 y1 y5 y7 g4 (hg3.same o4.res) hsm ed hri (hm3.same o4.res) hx.ls (hk3.same o4.res) fun A5 H5 o5 => q H5 fun b o e => res_le _ _ (o5.res _ _ (o4.res _ _ (sC3 _ _ e)))
      rw [ed] at h
      exact h
    cases ef : g.fl with
    | none =>
      rw [ef] at done
      exact if_F (by rfl) (done A2 H3 0 _ _ _ (by unfold Gs.rises; rw [ef]) g3 (Ow.of fun _ _ h => h))
    | some f0 =>
      rw [ef] at done
      have r0 : ∀ u : Int, u ≤ f0 → g.rises u = false ∧ g.raise u = g := fun u hu => by
        have : g.rises u = false := by
          unfold Gs.rises
          rw [ef]
          exact decide_eq_false (by omega)
        refine ⟨this, ?_⟩
        unfold Gs.raise
        rw [this]
        rfl
      have r1 : g.rises (f0 + 1) = true := by
        unfold Gs.rises
        rw [ef]
        exact decide_eq_true (by omega)
      obtain ⟨dx3, fs3, ho3, hf3⟩ := g3.obj
      refine if_T (by rfl) ⟨f0, rfl, p2, rfl, dx3, fs3, ho3, hf3 _ (by decide +kernel), p2, A2, g, f0, rfl, g3, sm1, fun z => (by rw [ed] at z; cases z), fun _ A4 H4 o4 g4 => ?_⟩
      rw [(r0 f0 (Int.le_refl _)).2] at g4
      rw [(r0 f0 (Int.le_refl _)).1]
      obtain ⟨dx4, fs4, ho4, hf4⟩ := g4.obj
      refine ⟨false, false, rfl, rfl, false, rfl, if_F rfl ⟨p2, rfl, dx4, fs4, ho4, hf4 _ (by decide +kernel), f0, rfl, p2, A4, g, f0 - 1, rfl, g4, sm1, fun z => (by rw [ed] at z; cases z), fun _ A5 H5 o5 g5 => ?_⟩⟩
      rw [(r0 (f0 - 1) (by omega)).2] at g5
      rw [(r0 (f0 - 1) (by omega)).1]
      obtain ⟨dx5, fs5, ho5, hf5⟩ := g5.obj
      have o35 := o4.trans o5
      refine ⟨false, false, rfl, rfl, false, rfl, if_F rfl ⟨p2, rfl, dx5, fs5, ho5, hf5 _ (by decide +kernel), p2, A5, g, k, rfl, g5, fun v6 H6 s6 hv6 => ?_⟩⟩
      have o36 := o35.trans (Ow.of s6)
      have g6 := g5.same s6
      obtain ⟨dx6, fs6, ho6, hf6⟩ := g6.obj
      refine ne_mk (mark_mk hv6) ((hk3.same o36.res).same res_le) ⟨false, rfl, if_F rfl ?_⟩
      refine ⟨p2, rfl, ⟨dx6, fs6, ho6⟩, p2, A5, g, rfl, g6, ?_⟩
      rw [ef]
      exact neD_fV ⟨false, rfl, if_F rfl (done A5 H6 _ _ _ _ r1 g6 o36)⟩
end
end Mv

set_option Elab.async false
set_option linter.all false
set_option maxRecDepth 100000
set_option maxHeartbeats 4000000
namespace Mv
open PySem PySem.Spec PyProof.Rows L2
abbrev sAf : Stmt := topS 30
theorem Inord.fit {L : List Ltr} (h : Inord L) : FitL L :=
  List.Pairwise.imp (fun {a b} u => .inl u) (adj_pair (M := L) fun i a b ha hb => by
    obtain ⟨h1, h2⟩ := h i a ha
    have := (h (i + 1) b hb).1
    exact ⟨by omega, h2 b hb⟩)
theorem GateAt.wr {C : Addr} {H H' : Hp} {p a : Addr} {A : List Addr} {g : Gs} {ys : List V} (h : GateAt C H p A g) (ha : H a = some (.lst ys)) (na : a ∉ A) (x : Sx a H H') : GateAt C H' p A g := by
  obtain ⟨dx, d, d2, l, M, N, rfl, y⟩ := h
  have ne : ∀ b, b ∈ own p d d2 l M → b ≠ a := fun b hb z => na (z ▸ hb)
  have m1 : p ∈ own p d d2 l M := by simp [own]
  have m2 : d ∈ own p d d2 l M := by simp [own]
  have m3 : d2 ∈ own p d d2 l M := by simp [own]
  have m4 : l ∈ own p d d2 l M := by simp [own]
  have m5 : ∀ q ∈ M, q.2.1 ∈ own p d d2 l M := fun q hq => List.mem_cons_of_mem _ (List.mem_cons_of_mem _ (List.mem_cons_of_mem _ (List.mem_cons_of_mem _ (List.mem_map.mpr ⟨q, hq, rfl⟩))))
  exact ⟨dx, d, d2, l, M, N, rfl, x _ _ (ne _ m1) y.ob, ⟨x _ _ (ne _ m2) y.mp.at_, fun q hq => (y.mp.all q hq).wr ha (ne _ (m5 q hq)) x⟩, y.ls, x _ _ (ne _ m3) y.fd, ⟨x _ _ (ne _ m4) y.la.at_, fun q hq => tup_wr ha x (y.la.all q hq)⟩, y.lt, y.ne, y.nd, y.kd⟩
section
variable {P : Program} {w : World} {K : PySem.W.Frag} {mg : Str → Option Value} {base : Heap} {C CF CB : Addr}
theorem scAf : FnScope ["_law_stream_here", "_law_gate_here", "_law_names", "_law_size", "_law_rows", "_law_handed", "_law_told", "_law_name", "_law_row"] ["_law_stream_here", "_law_gate_here", "_law_names"] (defScope sAf) := ⟨rfl, rfl, rfl, by decide +kernel, rfl, by decide +kernel, by decide +kernel⟩
def spAf (C : Addr) : Sp := fun vs H Q _ => ∃ (a p nl : Addr) (A : List Addr) (g : Gs) (ks : List Str), vs = [.ref a, .ref p, .ref nl] ∧ Strm H a ∧ a ∉ A ∧ GateAt C H p A g ∧ g.sm 60 ∧ H nl = some (.lst (ks.map V.str)) ∧ nl ≠ a ∧ (∀ k, Inord (getA g.ls k [])) ∧ ∀ H' : Hp, Q (.bl true) H'
theorem ok_af {f : Addr} {fd : FuncData} (F : Fun K "_law_all_fit" "_law_all_fit" sAf f fd) (B : Bi mg) (cDraw : CalX CX0 P w K mg base 1 "_law_draw" spDraw) (cLet : CalX CX0 P w K mg base 4 "_law_letters" spLet) (cSp : CalX CX0 P w K mg base 2 "_law_spoilt" spSp) (cFt : CalX CX0 P w K mg base 1 "fitting" spFt) (cFits : CalX CX0 P w K mg base 1 "_law_fits" spFits) (cLo : MetX CX0 P w K mg base 1 C "letters_of" (spLo C)) : FnOk P w K mg base CX0 5 f fd ["_law_stream_here", "_law_gate_here", "_law_names"] (spAf C) := by
  refine F.ok scAf (fun vs H Q E h => ?_) (fun cdv A outer s H vs Q E hr h => ?_)
  · obtain ⟨a, p, nl, A, g, ks, rfl, _⟩ := h
    rfl
  · obtain ⟨a, p, nl, Ag, g, ks, rfl, hs, na, hg, hsm, hnl, nn, hin, q⟩ := h
    refine ⟨_, (pss_cons (ps_set (i := 3) scAf.nd rfl (.inl rfl) (pe_cx cDraw hr (by decide) pass0 (by rfl) (pa_cons (pv 0) (pa_cons pe_int pa_nil))))
 (pss_cons (ps_set (i := 4) scAf.nd rfl (.inl rfl) (pe_cx cSp hr (by decide) pass0 (by rfl) (pa_cons (pv 0) (pa_cons (pe_cx cLet hr (by decide) pass0 (by rfl) (pa_cons (pv 0) (pa_cons (pv 3) (pa_cons pe_int (pa_cons (pe_cx cDraw hr (by decide) pass0 (by rfl) (pa_cons (pv 0) (pa_cons pe_int pa_nil))) pa_nil))))) pa_nil))))
 (pss_cons (ps_set (i := 5) scAf.nd rfl (.inl rfl) (pe_callTy call_list_of (by rfl) B.list (by decide +kernel) (pa_cons (pv 4) pa_nil)))
 (pss_cons (ps_set (i := 6) scAf.nd rfl (.inl rfl) (pe_cx cFt hr (by decide) pass0 (by rfl) (pa_cons (pv 5) pa_nil)))
 (pss_cons (ps_if (PW.pt (pw_or (pt_not (pt_val (pe_callB (id := "isinstance") call_isi (by rfl) B.isinstance (by decide +kernel) (pa_cons (pv 6) (pa_cons (pe_bltn (by rfl) B.bool (by decide +kernel) (v := .ty "bool") rfl) pa_nil))))) (pw_or (pt_cmpR op_ne (pv 6) (pe_cx cFits hr (by decide) pass0 (by rfl) (pa_cons (pv 4) pa_nil)) (nomark _)) (pw_or1 (pt_cmpR (op_neD hr.units) (pv 5) (pv 4) (nomark _))))))
 (pss_one (ps_ret pe_bl)) pss_nil)
 (pss_cons (ps_for PassesOwn.never rfl (pi_list (pv 2)) (pg_name (i := 7) scAf.nd rfl (.inl rfl))
 (pss_cons (ps_set (i := 8) scAf.nd rfl (.inl rfl) (pe_mx cLo hr (by decide) pass0 (pv 1) (pa_cons (pv 7) pa_nil)))
 (pss_one (ps_if (PW.pt (pw_or (pt_cmpR op_notBl (pe_cx cFt hr (by decide) pass0 (by rfl) (pa_cons (pv 8) pa_nil)) pe_bl (nomark _)) (pw_or1 (pt_cmpR op_notBl (pe_cx cFt hr (by decide) pass0 (by rfl) (pa_cons (pe_revL (pv 8)) pa_nil)) pe_bl (nomark _)))))
 (pss_one (ps_ret pe_bl)) pss_nil))))
 (pss_one (ps_ret pe_bl)))))))), ?_⟩
    simp only [tSeq, tAsg, gName, tOp, rI, rI0, rU, tUn, tVar, tC, tCB, tCons, tNil, tTest, tIfS, tRet, tRetN, tDrop, tNext, tBreak, tCont, rEq, rNe, CDiv, CDivN, CMul, tBM, tBM0, tTup, tLst, tAug, tIf, tAnd, tOr, tNot, tAndV, tOrV, tNotV, tIsN, tNotN, tB, scal, tCall, cxK, cxKn, rIxT, rIxL, rIn, rAppend, rReverse, tVals, tDSetd, tDGet, tDGet1, tDGet2, tDIn, tDNotIn, rSortV, rSortT, rPop, rSortL, rSortT, tSl, tNoPart, tPart, List.append_nil, L2.start, List.map_cons, List.map_nil, List.length_cons, List.length_nil, List.replicate_succ, List.replicate_zero, List.cons_append, List.nil_append, Nat.reduceAdd, Nat.reduceSub, exists_eq, exists_eq', tMeth, List.getElem?_cons_zero, List.getElem?_cons_succ, List.set_cons_zero, List.set_cons_succ, Option.some.injEq, V.int.injEq, V.bl.injEq, V.str.injEq, V.ref.injEq, List.cons.injEq, and_true, true_and, and_false, false_and, reduceCtorEq, exists_false, or_false, false_or, exists_and_left, exists_and_right, exists_eq_left, exists_eq_left', exists_eq_right, exists_eq_right', exists_const, ite_true, ite_false, Bool.false_eq_true, if_true, if_false, decide_true, decide_false]
    obtain ⟨ns0, ea0, _⟩ := id hs
    refine spDraw_of (by decide) hs fun r H1 r0 r1 x1 t1 => ?_
    have hg1 := hg.wr ea0 na x1
    have hn1 := x1 _ _ nn hnl
    obtain ⟨ns1, ea1, _⟩ := id t1
    refine spDraw_of (by decide) t1 fun z H2 z0 z1 x2 t2 => ?_
    have hg2 := hg1.wr ea1 na x2
    have hn2 := x2 _ _ nn hn1
    obtain ⟨ns2, ea2, _⟩ := id t2
    refine ⟨a, r.toNat, 2, z, by rw [Int.toNat_of_nonneg r0], by omega, by decide, t2, fun H3 l L x3 t3 la fl hL lL iL => ?_⟩
    have hg3 := hg2.wr ea2 na x3
    have hn3 := x3 _ _ nn hn2
    obtain ⟨ns3, ea3, _⟩ := id t3
    refine ⟨a, l, L, rfl, t3, hL, la, by omega, fun H4 rr R x4 t4 fr hR lR => ?_⟩
    have hg4 := hg3.wr ea3 na x4
    have hn4 := x4 _ _ nn hn3
    clear hg1 hg2 hg3 hn1 hn2 hn3 hL x1 x2 x3 x4
    refine ⟨rr, rfl, _, .inl (ll hR.at_), fun l5 hl5 => ?_⟩
    have s5 := same_upd (o := .lst (R.map fun q => V.ref q.1)) hl5
    have hR5 := hR.same s5
    have hC5 : Lts (upd H4 l5 (.lst (R.map fun q => V.ref q.1))) l5 R := ⟨upd_same, hR5.all⟩
    have hg5 := hg4.same s5
    have hn5 := s5 _ _ hn4
    generalize upd H4 l5 (.lst (R.map fun q => V.ref q.1)) = H5 at hR5 hC5 hg5 hn5 ⊢
    refine ⟨l5, R, rfl, hC5, by omega, fun b1 H6 s6 hb1 => ?_⟩
    refine ⟨.bl _, .ty "bool", .type "bool", .type "bool", true, rfl, .ty _, .base (.bl _), kit_ty (by decide +kernel), true, rfl, if_F rfl ⟨rr, R, rfl, hR5.same s6, by omega, fun b2 H7 s7 hb2 => ⟨rfl, ?_⟩⟩⟩
    have eb : b1 = b2 := by
      rw [Bool.eq_iff_iff]
      exact hb1.trans hb2.symm
    subst eb
    have e : (!decide (V.bl b1 = V.bl b1)) = false := by simp
    rw [e]
    have s57 := s6.trans s7
    refine if_F rfl (ne_lts (hC5.same s57) (hR5.same s57) rfl ⟨false, rfl, if_F rfl ?_⟩)
    have hg7 := hg5.same s57
    have hn7 := s57 _ _ hn5
    clear hg4 hg5 hn4 hn5 s57 s6 s7 hC5 hR5 hR
    refine ⟨_, rfl, nl, rfl, ⟨_, ll hn7⟩, ?_⟩
    refine for_it walk_list (fun i σ H' => ∃ y7 y8 : Option V, σ = [some (.ref a), some (.ref p), some (.ref nl), some (.int r), some (.ref rr), some (.ref l5), some (.bl b1), y7, y8] ∧ Same H7 H') ⟨none, none, rfl, fun _ _ h => h⟩ (fun i σ H' _ ⟨_, _, _, s⟩ => ll (s _ _ hn7)) ?_ ?_
    · rintro i v σ H8 H8' hi ⟨y7, y8, rfl, s8⟩ ⟨rfl, hv⟩
      obtain ⟨k, hk, rfl⟩ : ∃ k, ks[i]? = some k ∧ V.str k = v := by
        rw [List.getElem?_map] at hv
        exact Option.map_eq_some_iff.mp hv
      simp only [tSeq, tAsg, gName, tOp, rI, rI0, rU, tUn, tVar, tC, tCB, tCons, tNil, tTest, tIfS, tRet, tRetN, tDrop, tNext, tBreak, tCont, rEq, rNe, CDiv, CDivN, CMul, tBM, tBM0, tTup, tLst, tAug, tIf, tAnd, tOr, tNot, tAndV, tOrV, tNotV, tIsN, tNotN, tB, scal, tCall, cxK, cxKn, rIxT, rIxL, rIn, rAppend, rReverse, tVals, tDSetd, tDGet, tDGet1, tDGet2, tDIn, tDNotIn, rSortV, rSortT, rPop, rSortL, rSortT, tSl, tNoPart, tPart, List.append_nil, L2.start, List.map_cons, List.map_nil, List.length_cons, List.length_nil, List.replicate_succ, List.replicate_zero, List.cons_append, List.nil_append, Nat.reduceAdd, Nat.reduceSub, exists_eq, exists_eq', tMeth, List.getElem?_cons_zero, List.getElem?_cons_succ, List.set_cons_zero, List.set_cons_succ, Option.some.injEq, V.int.injEq, V.bl.injEq, V.str.injEq, V.ref.injEq, List.cons.injEq, and_true, true_and, and_false, false_and, reduceCtorEq, exists_false, or_false, false_or, exists_and_left, exists_and_right, exists_eq_left, exists_eq_left', exists_eq_right, exists_eq_right', exists_const, ite_true, ite_false, Bool.false_eq_true, if_true, if_false, decide_true, decide_false]
      have hg8 := hg7.same s8
      obtain ⟨dx, fs, ho, hf⟩ := hg8.obj
      refine ⟨dx, fs, ho, hf _ (by decide +kernel), p, Ag, g, k, rfl, hg8, fun H9 r9 L9 s9 f9 hL9 eL9 => ?_⟩
      have l9 : L9.length ≤ 100 := by
        have := getA_len (k := k) hsm.all
        rw [← eL9] at this
        unfold lts at this
        rw [List.length_map] at this
        omega
      have fit9 : FitL (lts L9) := by
        rw [eL9]
        exact (hin k).fit
      refine ⟨r9, L9, rfl, hL9, l9, fun c1 H10 s10 hc1 => ?_⟩
      rw [show c1 = true from hc1.mpr fit9]
      have hL10 := hL9.same s10
      refine ⟨true, true, rfl, rfl, false, rfl, if_F rfl ?_⟩
      refine ⟨.ref r9, rfl, r9, _, rfl, ll hL10.at_, fun q11 hq11 => ?_⟩
      have s11 := same_upd (o := .lst (L9.map fun q => V.ref q.1).reverse) hq11
      have hL11 : Lts (upd H10 q11 (.lst (L9.map fun q => V.ref q.1).reverse)) q11 L9.reverse := ⟨by rw [upd_same, List.map_reverse], fun q hq => s11 _ _ (hL10.all q (List.mem_reverse.mp hq))⟩
      refine ⟨q11, L9.reverse, rfl, hL11, by rw [List.length_reverse]; exact l9, fun c2 H12 s12 hc2 => ?_⟩
      rw [show c2 = true from hc2.mpr ((FitL.perm (by unfold lts; exact (List.reverse_perm L9).map _)).mpr fit9)]
      exact ⟨true, true, rfl, rfl, false, rfl, if_F rfl ((((s8.trans s9).trans s10).trans s11).trans s12)⟩
    · rintro σ H8 ⟨y7, y8, rfl, s8⟩
      exact q H8
end
end Mv

set_option Elab.async false
set_option linter.all false
set_option maxRecDepth 100000
set_option maxHeartbeats 4000000
namespace Mv
open PySem PySem.Spec PyProof.Rows L2
abbrev sWor : Stmt := topS 29
theorem gd_nm {ks : List Str} (hk : ∀ k ∈ ks, nmV (.str k) = true) {e : Dd} (h : e.gd ks) : e.nm = true ∧ (∀ H, e.bad H) := by
  cases e with
  | ev v t x =>
    obtain ⟨k, hm, rfl⟩ := h
    exact ⟨hk k hm, fun H => nm_bad (hk k hm)⟩
  | ra t => exact ⟨rfl, fun _ => trivial⟩
  | ya z => exact ⟨rfl, fun _ => trivial⟩
  | fi => exact h.elim
theorem run_dn {ks : List Str} (L : List Dd) (h : ∀ e ∈ L, e.gd ks) : (run L).dn = false := by
  have : ∀ (L : List Dd) (g : Gs), g.dn = false → (∀ e ∈ L, e.gd ks) → (L.foldl Gs.step g).dn = false := by
    intro L
    induction L with
    | nil => exact fun g h _ => h
    | cons e L ih =>
      intro g hg hL
      refine ih _ ?_ fun x hx => hL x (List.mem_cons_of_mem _ hx)
      have he := hL e List.mem_cons_self
      cases e with
      | ev v t x =>
        obtain ⟨k, _, rfl⟩ := he
        show (g.event k t x).dn = false
        unfold Gs.event
        split <;> exact hg
      | ra t =>
        show (g.raise t).dn = false
        unfold Gs.raise
        split <;> exact hg
      | ya z => exact hg
      | fi => exact he.elim
  exact this _ _ rfl h
/-- the deeds that the law draws, one by one -/
def DLs (L : List Dd) : Prop := ∀ (j : Nat) (e : Dd), L[j]? = some e → (run (L.take j)).dn = false ∧ e.nm = true ∧ (∀ H, e.bad H) ∧ e.sk
theorem DLs.of {ks : List Str} (hk : ∀ k ∈ ks, nmV (.str k) = true) {L : List Dd} (h : ∀ e ∈ L, e.gd ks) : DLs L := fun j e he => by
  have ge := h e (List.mem_of_getElem? he)
  obtain ⟨h1, h2⟩ := gd_nm hk ge
  exact ⟨run_dn _ fun x hx => h x (List.mem_of_mem_take hx), h1, h2, ge.sk⟩
theorem DLs.fin {ks : List Str} (hk : ∀ k ∈ ks, nmV (.str k) = true) {L : List Dd} (h : ∀ e ∈ L, e.gd ks) : DLs (L ++ [.fi]) := fun j e he => by
  by_cases c : j < L.length
  · rw [List.getElem?_append_left c] at he
    rw [List.take_append_of_le_length (Nat.le_of_lt c)]
    exact DLs.of hk h j e he
  · rw [List.getElem?_append_right (by omega)] at he
    have hj : j - L.length < 1 := (List.getElem?_eq_some_iff.mp he).1
    have ej : j = L.length := by omega
    subst ej
    rw [Nat.sub_self] at he
    obtain rfl : Dd.fi = e := Option.some.inj he
    rw [List.take_left]
    exact ⟨run_dn _ h, rfl, fun _ => trivial, trivial⟩
section
variable {P : Program} {w : World} {K : PySem.W.Frag} {mg : Str → Option Value} {base : Heap} {C CF CB M : Addr}
theorem scWor : FnScope ["_law_stream_here", "_law_menu", "_law_names", "_law_spots", "_law_span_here", "_law_style", "_law_deeds_here"] ["_law_stream_here"] (defScope sWor) := ⟨rfl, rfl, rfl, by decide +kernel, rfl, by decide +kernel, by decide +kernel⟩
def spWor : Sp := fun vs H Q _ => ∃ (a : Addr), vs = [.ref a] ∧ Strm H a ∧ ∀ (H' : Hp) (t nl l : Addr) (L : DdL) (ks : List Str), Sx a H H' → Strm H' a → H' t = some (.tup [.ref nl, .ref l]) → H' nl = some (.lst (ks.map V.str)) → ks.length ≤ 4 → (∀ k ∈ ks, nmV (.str k) = true) → Dds H' l L → l ≠ a → nl ≠ a → DLs (L.map (·.2)) → L.length ≤ 18 → Q (.ref t) H'
theorem ok_wor {f : Addr} {fd : FuncData} (F : Fun K "_law_world" "_law_world" sWor f fd) (B : Bi mg) (cDraw : CalX CX0 P w K mg base 1 "_law_draw" spDraw) (cSpan : CalX CX0 P w K mg base 2 "_law_span" spSpan) (cDee : CalX CX0 P w K mg base 4 "_law_deeds" spDee) : FnOk P w K mg base CX0 5 f fd ["_law_stream_here"] spWor := by
  refine F.ok scWor (fun vs H Q E h => ?_) (fun cdv A outer s H vs Q E hr h => ?_)
  · obtain ⟨a, rfl, _⟩ := h
    rfl
  · obtain ⟨a, rfl, hs, q⟩ := h
    refine ⟨_, (pss_cons (ps_set (i := 1) scWor.nd rfl (.inl rfl) (pe_tup (pa_cons (pe_tup (pa_cons pe_str pa_nil)) (pa_cons (pe_tup (pa_cons pe_str (pa_cons pe_str pa_nil))) (pa_cons (pe_tup (pa_cons pe_str (pa_cons pe_str pa_nil))) (pa_cons (pe_tup (pa_cons pe_str (pa_cons pe_str (pa_cons pe_str pa_nil)))) (pa_cons (pe_tup (pa_cons pe_str (pa_cons pe_str (pa_cons pe_str pa_nil)))) pa_nil)))))))
 (pss_cons (ps_set (i := 2) scWor.nd rfl (.inl rfl) (pe_ix ix_tup (pv 1) (pe_cx cDraw hr (by decide) pass0 (by rfl) (pa_cons (pv 0) (pa_cons pe_int pa_nil))) (fun _ _ => rfl)))
 (pss_cons (ps_set (i := 3) scWor.nd rfl (.inl rfl) (pe_ix ix_tup (pe_tup (pa_cons (pe_tup pa_nil) (pa_cons (pe_tup (pa_cons (pe_tup (pa_cons pe_int (pa_cons pe_int pa_nil))) pa_nil)) (pa_cons (pe_tup (pa_cons (pe_tup (pa_cons pe_int pa_nil)) (pa_cons (pe_tup (pa_cons pe_int (pa_cons pe_int (pa_cons pe_int (pa_cons pe_int (pa_cons pe_int (pa_cons pe_int pa_nil))))))) (pa_cons (pe_tup (pa_cons pe_int pa_nil)) pa_nil)))) pa_nil)))) (pe_cx cDraw hr (by decide) pass0 (by rfl) (pa_cons (pv 0) (pa_cons pe_int pa_nil))) (fun _ _ => rfl)))
 (pss_cons (ps_set (i := 4) scWor.nd rfl (.inl rfl) (pe_cx cSpan hr (by decide) pass0 (by rfl) (pa_cons (pv 0) pa_nil)))
 (pss_cons (ps_set (i := 5) scWor.nd rfl (.inl rfl) (pe_cx cDraw hr (by decide) pass0 (by rfl) (pa_cons (pv 0) (pa_cons pe_int pa_nil))))
 (pss_cons (ps_set (i := 6) scWor.nd rfl (.inl rfl) (pe_cx cDee hr (by decide) pass0 (by rfl) (pa_cons (pv 0) (pa_cons (pe_cx cDraw hr (by decide) pass0 (by rfl) (pa_cons (pv 0) (pa_cons pe_int pa_nil))) (pa_cons (pv 2) (pa_cons (pv 3) (pa_cons (pv 4) (pa_cons (pv 5) pa_nil))))))))
 (pss_cons (ps_if (pt_cmpR op_eq (pe_cx cDraw hr (by decide) pass0 (by rfl) (pa_cons (pv 0) (pa_cons pe_int pa_nil))) pe_int (nomark _))
 (pss_one (ps_expr (pe_bm PySem.F.plainAttrs_list PySem.F.slot_list_append PySem.F.type_list_append mt_append (pv 6) (pa_cons (pe_tup (pa_cons pe_str pa_nil)) pa_nil)))) pss_nil)
 (pss_one (ps_ret (pe_tup (pa_cons (pe_op op_cat (pe_callTy call_list_of (by rfl) B.list (by decide +kernel) (pa_cons (pv 2) pa_nil)) (pe_lst (pa_cons pe_str pa_nil))) (pa_cons (pv 6) pa_nil)))))))))))), ?_⟩
    simp only [tSeq, tAsg, gName, tOp, rI, rI0, rU, tUn, tVar, tC, tCB, tCons, tNil, tTest, tIfS, tRet, tRetN, tDrop, tNext, tBreak, tCont, rEq, rNe, CDiv, CDivN, CMul, tBM, tBM0, tTup, tLst, tAug, tIf, tAnd, tOr, tNot, tAndV, tOrV, tNotV, tIsN, tNotN, tB, scal, tCall, cxK, cxKn, rIxT, rIxL, rIn, rAppend, rReverse, tVals, tDSetd, tDGet, tDGet1, tDGet2, tDIn, tDNotIn, rSortV, rSortT, rPop, rSortL, rSortT, tSl, tNoPart, tPart, List.append_nil, L2.start, List.map_cons, List.map_nil, List.length_cons, List.length_nil, List.replicate_succ, List.replicate_zero, List.cons_append, List.nil_append, Nat.reduceAdd, Nat.reduceSub, exists_eq, exists_eq', List.getElem?_cons_zero, List.getElem?_cons_succ, List.set_cons_zero, List.set_cons_succ, Option.some.injEq, V.int.injEq, V.bl.injEq, V.str.injEq, V.ref.injEq, List.cons.injEq, and_true, true_and, and_false, false_and, reduceCtorEq, exists_false, or_false, false_or, exists_and_left, exists_and_right, exists_eq_left, exists_eq_left', exists_eq_right, exists_eq_right', exists_const, ite_true, ite_false, Bool.false_eq_true, if_true, if_false, decide_true, decide_false]
    refine ⟨by decide, fun p0 h0 => ⟨by decide, fun p1 h1 => ⟨by decide, fun p2 h2 => ⟨by decide, fun p3 h3 => ⟨by decide, fun p4 h4 => ⟨by decide, fun p5 h5 => ?_⟩⟩⟩⟩⟩⟩
    have u0 := same_upd (o := .tup [.str "a"]) h0
    have u1 := same_upd (o := .tup [.str "a", .str "b"]) h1
    have u2 := same_upd (o := .tup [.str "ab", .str "a"]) h2
    have u3 := same_upd (o := .tup [.str "k", .str "kk", .str "kkkkkkkk"]) h3
    have u4 := same_upd (o := .tup [.str "zz", .str "a", .str "zza"]) h4
    have u5 := same_upd (o := .tup [.ref p0, .ref p1, .ref p2, .ref p3, .ref p4]) h5
    have s5 := ((((u0.trans u1).trans u2).trans u3).trans u4).trans u5
    have e5 : upd (upd (upd (upd (upd (upd H p0 (.tup [.str "a"])) p1 (.tup [.str "a", .str "b"])) p2 (.tup [.str "ab", .str "a"])) p3 (.tup [.str "k", .str "kk", .str "kkkkkkkk"])) p4 (.tup [.str "zz", .str "a", .str "zza"])) p5 (.tup [.ref p0, .ref p1, .ref p2, .ref p3, .ref p4]) p5 = some (.tup [.ref p0, .ref p1, .ref p2, .ref p3, .ref p4]) := upd_same
    have e4 := u5 _ _ (upd_same (H := upd (upd (upd (upd H p0 (.tup [.str "a"])) p1 (.tup [.str "a", .str "b"])) p2 (.tup [.str "ab", .str "a"])) p3 (.tup [.str "k", .str "kk", .str "kkkkkkkk"])) (a := p4) (o := .tup [.str "zz", .str "a", .str "zza"]))
    have e3 := u5 _ _ (u4 _ _ (upd_same (H := upd (upd (upd H p0 (.tup [.str "a"])) p1 (.tup [.str "a", .str "b"])) p2 (.tup [.str "ab", .str "a"])) (a := p3) (o := .tup [.str "k", .str "kk", .str "kkkkkkkk"])))
    have e2 := u5 _ _ (u4 _ _ (u3 _ _ (upd_same (H := upd (upd H p0 (.tup [.str "a"])) p1 (.tup [.str "a", .str "b"])) (a := p2) (o := .tup [.str "ab", .str "a"]))))
    have e1 := u5 _ _ (u4 _ _ (u3 _ _ (u2 _ _ (upd_same (H := upd H p0 (.tup [.str "a"])) (a := p1) (o := .tup [.str "a", .str "b"])))))
    have e0 := u5 _ _ (u4 _ _ (u3 _ _ (u2 _ _ (u1 _ _ (upd_same (H := H) (a := p0) (o := .tup [.str "a"]))))))
    generalize upd (upd (upd (upd (upd (upd H p0 (.tup [.str "a"])) p1 (.tup [.str "a", .str "b"])) p2 (.tup [.str "ab", .str "a"])) p3 (.tup [.str "k", .str "kk", .str "kkkkkkkk"])) p4 (.tup [.str "zz", .str "a", .str "zza"])) p5 (.tup [.ref p0, .ref p1, .ref p2, .ref p3, .ref p4]) = H5 at s5 e5 e4 e3 e2 e1 e0 ⊢
    clear u0 u1 u2 u3 u4 u5 h0 h1 h2 h3 h4 h5
    have t5 := hs.same s5
    refine spDraw_of (by decide) t5 fun r H6 r0 r1 x6 t6 => ?_
    obtain ⟨ns5, ea5, _⟩ := id t5
    have hnm : ∃ (nm : Addr) (k0 : Str) (kr : List Str), atI [V.ref p0, V.ref p1, V.ref p2, V.ref p3, V.ref p4] r = some (.ref nm) ∧ H5 nm = some (.tup ((k0 :: kr).map V.str)) ∧ kr.length ≤ 2 ∧ ∀ k ∈ k0 :: kr, nmV (.str k) = true := by
      rcases (by omega : r = 0 ∨ r = 1 ∨ r = 2 ∨ r = 3 ∨ r = 4) with rfl | rfl | rfl | rfl | rfl
      · exact ⟨p0, "a", [], rfl, e0, by decide, by decide +kernel⟩
      · exact ⟨p1, "a", ["b"], rfl, e1, by decide, by decide +kernel⟩
      · exact ⟨p2, "ab", ["a"], rfl, e2, by decide, by decide +kernel⟩
      · exact ⟨p3, "k", ["kk", "kkkkkkkk"], rfl, e3, by decide, by decide +kernel⟩
      · exact ⟨p4, "zz", ["a", "zza"], rfl, e4, by decide, by decide +kernel⟩
    obtain ⟨nm, k0, kr, hat, hnm5, lk, hks⟩ := hnm
    have hnm6 := tup_wr ea5 x6 hnm5
    refine ⟨_, r, rfl, tt (tup_wr ea5 x6 e5), .ref nm, hat, ?_⟩
    clear e5 e4 e3 e2 e1 e0
    have x06 := (Sx.of s5).trans x6
    have sG : Same H6 H6 := fun _ _ h => h
    refine ⟨by decide, fun q0 hq0 => ?_⟩
    have uq0 := same_upd (o := .tup []) hq0
    have fq0 : upd H6 q0 (.tup []) q0 = some (.tup []) := upd_same
    generalize upd H6 q0 (.tup []) = G0 at uq0 fq0 ⊢
    replace sG := sG.trans uq0
    clear uq0 hq0
    refine ⟨by decide, fun q1 hq1 => ?_⟩
    have uq1 := same_upd (o := .tup [.int 0, .int 2]) hq1
    have fq1 : upd G0 q1 (.tup [.int 0, .int 2]) q1 = some (.tup [.int 0, .int 2]) := upd_same
    generalize upd G0 q1 (.tup [.int 0, .int 2]) = G1 at uq1 fq1 ⊢
    replace sG := sG.trans uq1
    replace fq0 := uq1 _ _ fq0
    clear uq1 hq1
    clear fq1
    refine ⟨by decide, fun q2 hq2 => ?_⟩
    have uq2 := same_upd (o := .tup [.ref q1]) hq2
    have fq2 : upd G1 q2 (.tup [.ref q1]) q2 = some (.tup [.ref q1]) := upd_same
    generalize upd G1 q2 (.tup [.ref q1]) = G2 at uq2 fq2 ⊢
    replace sG := sG.trans uq2
    replace fq0 := uq2 _ _ fq0
    clear uq2 hq2
    refine ⟨by decide, fun q3 hq3 => ?_⟩
    have uq3 := same_upd (o := .tup [.int 5]) hq3
    have fq3 : upd G2 q3 (.tup [.int 5]) q3 = some (.tup [.int 5]) := upd_same
    generalize upd G2 q3 (.tup [.int 5]) = G3 at uq3 fq3 ⊢
    replace sG := sG.trans uq3
    replace fq0 := uq3 _ _ fq0
    replace fq2 := uq3 _ _ fq2
    clear uq3 hq3
    clear fq3
    refine ⟨by decide, fun q4 hq4 => ?_⟩
    have uq4 := same_upd (o := .tup [.int 0, .int 1, .int 2, .int 3, .int 4, .int 5]) hq4
    have fq4 : upd G3 q4 (.tup [.int 0, .int 1, .int 2, .int 3, .int 4, .int 5]) q4 = some (.tup [.int 0, .int 1, .int 2, .int 3, .int 4, .int 5]) := upd_same
    generalize upd G3 q4 (.tup [.int 0, .int 1, .int 2, .int 3, .int 4, .int 5]) = G4 at uq4 fq4 ⊢
    replace sG := sG.trans uq4
    replace fq0 := uq4 _ _ fq0
    replace fq2 := uq4 _ _ fq2
    clear uq4 hq4
    clear fq4
    refine ⟨by decide, fun q5 hq5 => ?_⟩
    have uq5 := same_upd (o := .tup [.int 1]) hq5
    have fq5 : upd G4 q5 (.tup [.int 1]) q5 = some (.tup [.int 1]) := upd_same
    generalize upd G4 q5 (.tup [.int 1]) = G5 at uq5 fq5 ⊢
    replace sG := sG.trans uq5
    replace fq0 := uq5 _ _ fq0
    replace fq2 := uq5 _ _ fq2
    clear uq5 hq5
    clear fq5
    refine ⟨by decide, fun q6 hq6 => ?_⟩
    have uq6 := same_upd (o := .tup [.ref q3, .ref q4, .ref q5]) hq6
    have fq6 : upd G5 q6 (.tup [.ref q3, .ref q4, .ref q5]) q6 = some (.tup [.ref q3, .ref q4, .ref q5]) := upd_same
    generalize upd G5 q6 (.tup [.ref q3, .ref q4, .ref q5]) = G6 at uq6 fq6 ⊢
    replace sG := sG.trans uq6
    replace fq0 := uq6 _ _ fq0
    replace fq2 := uq6 _ _ fq2
    clear uq6 hq6
    refine ⟨by decide, fun q7 hq7 => ?_⟩
    have uq7 := same_upd (o := .tup [.ref q0, .ref q2, .ref q6]) hq7
    have fq7 : upd G6 q7 (.tup [.ref q0, .ref q2, .ref q6]) q7 = some (.tup [.ref q0, .ref q2, .ref q6]) := upd_same
    generalize upd G6 q7 (.tup [.ref q0, .ref q2, .ref q6]) = G7 at uq7 fq7 ⊢
    replace sG := sG.trans uq7
    replace fq0 := uq7 _ _ fq0
    replace fq2 := uq7 _ _ fq2
    replace fq6 := uq7 _ _ fq6
    clear uq7 hq7
    have tG := t6.same sG
    obtain ⟨nsG, eaG, _⟩ := id tG
    refine spDraw_of (by decide) tG fun r2 H7 r20 r21 x7 t7 => ?_
    have hsp : ∃ (sp : Addr) (xs : List V), atI [V.ref q0, V.ref q2, V.ref q6] r2 = some (.ref sp) ∧ G7 sp = some (.tup xs) ∧ xs.length ≤ 3 := by
      rcases (by omega : r2 = 0 ∨ r2 = 1 ∨ r2 = 2) with rfl | rfl | rfl
      · exact ⟨q0, _, rfl, fq0, by decide⟩
      · exact ⟨q2, _, rfl, fq2, by show 1 ≤ 3; decide⟩
      · exact ⟨q6, _, rfl, fq6, by show 3 ≤ 3; decide⟩
    obtain ⟨sp, xs, hat2, hspG, lxs⟩ := hsp
    refine ⟨_, r2, rfl, tt (tup_wr eaG x7 fq7), .ref sp, hat2, a, rfl, t7, fun gsp H8 g0 x8 t8 => ?_⟩
    obtain ⟨ns7, ea7, _⟩ := id t7
    obtain ⟨ns8, ea8, _⟩ := id t8
    refine spDraw_of (by decide) t8 fun st H9 _ _ x9 t9 => ?_
    obtain ⟨ns9, ea9, _⟩ := id t9
    refine spDraw_of (by decide) t9 fun cn H10 c0 c1 x10 t10 => ?_
    obtain ⟨c, rfl⟩ := Int.eq_ofNat_of_zero_le c0
    have hn10 := tup_wr ea9 x10 (tup_wr ea8 x9 (tup_wr ea7 x8 (tup_wr eaG x7 (sG _ _ hnm6))))
    have hs10 := tup_wr ea9 x10 (tup_wr ea8 x9 (tup_wr ea7 x8 (tup_wr eaG x7 hspG)))
    obtain ⟨ns10, ea10, _⟩ := id t10
    refine ⟨a, c, nm, k0 :: kr, sp, xs, gsp, st, rfl, t10, by omega, hn10, by simp, by simp; omega, hs10, lxs, g0, fun H11 l L x11 t11 lN hL hgd lL => ?_⟩
    have hn11 := tup_wr ea10 x11 hn10
    have la : l ≠ a := (t10.ne lN).symm
    have x010 := (((((x06.trans (Sx.of sG)).trans x7).trans x8).trans x9).trans x10)
    have x011 := x010.trans x11
    obtain ⟨ns11, ea11, _⟩ := id t11
    clear hn10 hs10 hat2 hspG fq0 fq2 fq6 fq7 hnm6 hnm5
    refine spDraw_of (by decide) t11 fun u H12 u0 u1 x12 t12 => ⟨rfl, ?_⟩
    have hL12 := hL.wr ea11 la x12
    have hn12 := tup_wr ea11 x12 hn11
    have x012 := x011.trans x12
    have tail : ∀ (G : Hp) (L' : DdL), Sx a H G → Strm G a → Dds G l L' → G nm = some (.tup ((k0 :: kr).map V.str)) → DLs (L'.map (·.2)) → L'.length ≤ 18 → ∃ p, V.ref nm = V.ref p ∧ ∃ x, (SqL K G p x ∨ SqT K G p x) ∧ ∀ (l_1 : Addr), G l_1 = none → 1 ≤ sizeLine ∧ ∀ (p : Addr), upd G l_1 (HO.lst x) p = none → rCat (V.ref l_1) (V.ref p) (upd (upd G l_1 (HO.lst x)) p (HO.lst [V.str ("zzz" : Str)])) fun x H1 => 2 ≤ sizeLine ∧ ∀ (p : Addr), H1 p = none → Q (V.ref p) (upd H1 p (HO.tup [x, V.ref l])) := by
      intro G L' xG tG' hL' hn' dl ll'
      refine ⟨nm, rfl, _, .inr (tt hn'), fun l1 h1 => ⟨by decide, fun l2 h2 => ?_⟩⟩
      have s1 := same_upd (o := .lst ((k0 :: kr).map V.str)) h1
      have s2 := same_upd (o := .lst [V.str "zzz"]) h2
      refine ⟨l1, l2, _, _, rfl, rfl, s2 _ _ upd_same, upd_same, by simp only [List.length_map, List.length_cons, List.length_nil]; exact small1000' (by omega), fun l3 h3 => ⟨by decide, fun t ht => ?_⟩⟩
      have s3 := same_upd (o := .lst ((k0 :: kr).map V.str ++ [V.str "zzz"])) h3
      have s4 := same_upd (o := .tup [.ref l3, .ref l]) ht
      have s14 := ((s1.trans s2).trans s3).trans s4
      refine q _ t l3 l L' (k0 :: kr ++ [("zzz" : Str)]) (xG.trans (Sx.of s14)) (tG'.same s14) upd_same ?_ (by simp; omega) (fun k hk => ?_) (hL'.same s14) la (fun z => ?_) dl ll'
      · rw [s4 _ _ upd_same]
        simp
      · rcases List.mem_append.mp hk with hk | hk
        · exact hks k hk
        · rw [List.mem_singleton.mp hk]
          decide +kernel
      · obtain ⟨nsG', eG, _⟩ := id tG'
        rw [z, (s1.trans s2) _ _ eG] at h3
        cases h3
    have gd' : ∀ e ∈ L.map (·.2), e.gd (k0 :: kr) := fun e he => by
      obtain ⟨x, hx, rfl⟩ := List.mem_map.mp he
      exact hgd x hx
    refine ite2 (fun cu => ⟨.inl ⟨rfl, _, ll hL12.at_⟩, by decide, fun p hp => ?_⟩) (fun cu => tail H12 L x012 t12 hL12 hn12 (DLs.of hks gd') (by omega))
    have s13 := same_upd (o := .tup [V.str "finish"]) hp
    have hL13 := hL12.same s13
    have hn13 := s13 _ _ hn12
    have t13 := t12.same s13
    have f13 : upd H12 p (.tup [V.str "finish"]) p = some Dd.fi.o := upd_same
    have x013 := x012.trans (Sx.of s13)
    generalize upd H12 p (.tup [V.str "finish"]) = H13 at hL13 hn13 t13 f13 x013 ⊢
    refine ⟨l, rfl, _, hL13.at_, by rw [List.length_map]; exact small1000 (by omega), tail _ (L ++ [(p, .fi)]) (fun b o nb e => ?_) (t13.upd la.symm) ⟨by rw [upd_same, List.map_append]; rfl, fun x hx => ?_⟩ ?_ ?_ (by rw [List.length_append]; simp; omega)⟩
    · rw [upd_ne (ne_of_none (x010 _ _ nb e) lN)]
      exact x013 _ _ nb e
    · rcases List.mem_append.mp hx with hx | hx
      · rw [upd_ne (ne_lt (hL13.all x hx) hL13.at_ (fun z => by cases z))]
        exact hL13.all x hx
      · rw [List.mem_singleton.mp hx, upd_ne (ne_lt f13 hL13.at_ (fun z => by cases z))]
        exact f13
    · rw [upd_ne (ne_lt hn13 hL13.at_ (fun z => by cases z))]
      exact hn13
    · rw [List.map_append]
      exact DLs.fin hks gd'
end
end Mv

set_option Elab.async false
set_option linter.all false
set_option maxRecDepth 100000
set_option maxHeartbeats 4000000
namespace Mv
open PySem PySem.Spec PyProof.Rows L2
theorem getA_put_ne {α : Type} (M : List (Str × α)) (k k' : Str) (v z : α) (n : k' ≠ k) : getA (putA M k v) k' z = getA M k' z := by
  unfold getA putA
  by_cases c : (M.any fun q => decide (q.1 = k)) = true
  · rw [if_pos c, List.find?_map, Option.map_map]
    have e1 : ((fun q : Str × α => decide (q.1 = k')) ∘ fun q => if q.1 = k then (q.1, v) else q) = fun q => decide (q.1 = k') := by
      funext q
      show decide ((if q.1 = k then (q.1, v) else q).1 = k') = _
      split <;> rfl
    rw [e1]
    cases h : M.find? fun q => decide (q.1 = k') with
    | none => rfl
    | some q =>
      have hq : q.1 = k' := by simpa using List.find?_some h
      show (some ((if q.1 = k then (q.1, v) else q).2)).getD z = _
      rw [if_neg (by rw [hq]; exact n)]
      rfl
  · rw [if_neg c, List.find?_append, List.find?_cons_of_neg (by simpa using Ne.symm n)]
    cases M.find? fun q => decide (q.1 = k') <;> rfl
/-- what always holds of a gate -/
structure Gs.inv (g : Gs) : Prop where
  io : ∀ k, Inord (getA g.ls k [])
  fl : ∀ f, g.fl = some f → ∀ k, ∀ e ∈ getA g.ls k [], getA g.fd k 0 ≤ e.n → f ≤ e.t
theorem Inord.num {L : List Ltr} (h : Inord L) {e : Ltr} (he : e ∈ L) : e.n < (L.length : Int) := by
  obtain ⟨i, hi, ei⟩ := List.mem_iff_getElem.mp he
  have := (h i e (by rw [List.getElem?_eq_getElem hi, ei])).1
  omega
theorem ok_fl {g : Gs} {k : Str} {t f : Int} (h : g.ok k t = true) (ef : g.fl = some f) : f ≤ t := by
  unfold Gs.ok at h
  rw [ef] at h
  exact of_decide_eq_true (Bool.and_eq_true_iff.mp h).1
theorem ok_last {g : Gs} {k : Str} {t : Int} (h : g.ok k t = true) {e : Ltr} (he : (getA g.ls k [])[(getA g.ls k []).length - 1]? = some e) : e.t ≤ t := by
  unfold Gs.ok at h
  have h2 := (Bool.and_eq_true_iff.mp h).2
  rw [List.getLast?_eq_getElem?, he] at h2
  exact of_decide_eq_true h2
/-- the letters of a key behind an event -/
theorem event_ls {g : Gs} {k k' : Str} {t v : Int} (h : g.ok k t = true) : getA (g.event k t v).ls k' [] = if k' = k then getA g.ls k [] ++ [⟨((getA g.ls k []).length : Int), t, v⟩] else getA g.ls k' [] := by
  unfold Gs.event
  rw [if_pos h]
  by_cases c : k' = k
  · rw [if_pos c, c]
    exact getA_put _ _ _ _
  · rw [if_neg c]
    exact getA_put_ne _ _ _ _ _ c
theorem Gs.inv.step {g : Gs} (h : g.inv) (e : Dd) : (g.step e).inv := by
  cases e with
  | ev v t x =>
    cases v with
    | str k =>
      show (g.event k t x).inv
      cases ho : g.ok k t with
      | false =>
        unfold Gs.event
        rw [ho]
        exact ⟨h.io, h.fl⟩
      | true =>
        have e1 : (g.event k t x).fl = g.fl := by unfold Gs.event; rw [if_pos ho]
        have e2 : (g.event k t x).fd = g.fd := by unfold Gs.event; rw [if_pos ho]
        refine ⟨fun k' => ?_, fun f ef k' e he hc => ?_⟩
        · rw [event_ls ho]
          split
          · exact (h.io k).snoc rfl fun e' he' => ok_last ho he'
          · exact h.io k'
        · rw [e1] at ef
          rw [e2] at hc
          rw [event_ls ho] at he
          split at he
          · rename_i c
            subst c
            rcases List.mem_append.mp he with he | he
            · exact h.fl f ef _ e he hc
            · rw [List.mem_singleton.mp he]
              exact ok_fl ho ef
          · exact h.fl f ef _ e he hc
    | _ => exact h
  | ra t =>
    show (g.raise t).inv
    unfold Gs.raise
    split
    · refine ⟨h.io, fun f ef k e he hc => ?_⟩
      have hc' : getA (g.ls.map fun q => (q.1, (q.2.length : Int))) k 0 ≤ e.n := hc
      rw [getA_cnt] at hc'
      have := (h.io k).num he
      omega
    · exact h
  | ya z => exact h
  | fi => exact ⟨h.io, h.fl⟩
theorem inv_start : Gs.start.inv := ⟨fun k i e he => (by cases he), fun f ef => (by cases ef)⟩
theorem inv_run (L : List Dd) : (run L).inv := by
  have : ∀ (L : List Dd) (g : Gs), g.inv → (L.foldl Gs.step g).inv := by
    intro L
    induction L with
    | nil => exact fun g h => h
    | cons e L ih => exact fun g h => ih _ (h.step e)
  exact this L _ inv_start
/-- a mark of a floor stays true -/
structure Keeps (c f : Int) (k : Str) (g : Gs) : Prop where
  h : ∀ e ∈ getA g.ls k [], c ≤ e.n → f ≤ e.t
  fl : ∃ f', g.fl = some f' ∧ f ≤ f'
theorem Keeps.step {c f : Int} {k : Str} {g : Gs} (h : Keeps c f k g) (e : Dd) : Keeps c f k (g.step e) := by
  obtain ⟨f', ef, hf⟩ := h.fl
  cases e with
  | ev v t x =>
    cases v with
    | str k2 =>
      show Keeps c f k (g.event k2 t x)
      cases ho : g.ok k2 t with
      | false =>
        unfold Gs.event
        rw [ho]
        exact ⟨h.h, h.fl⟩
      | true =>
        have e1 : (g.event k2 t x).fl = g.fl := by unfold Gs.event; rw [if_pos ho]
        refine ⟨fun e he hc => ?_, f', by rw [e1]; exact ef, hf⟩
        rw [event_ls ho] at he
        split at he
        · rename_i c
          subst c
          rcases List.mem_append.mp he with he | he
          · exact h.h e he hc
          · rw [List.mem_singleton.mp he]
            exact Int.le_trans hf (ok_fl ho ef)
        · exact h.h e he hc
    | _ => exact h
  | ra t =>
    show Keeps c f k (g.raise t)
    cases hr : g.rises t with
    | false =>
      unfold Gs.raise
      rw [hr]
      exact h
    | true =>
      unfold Gs.raise
      rw [hr]
      refine ⟨h.h, t, rfl, ?_⟩
      unfold Gs.rises at hr
      rw [ef] at hr
      have := of_decide_eq_true hr
      omega
  | ya z => exact h
  | fi => exact ⟨h.h, h.fl⟩
theorem Keeps.fold {c f : Int} {k : Str} (L : List Dd) : ∀ g : Gs, Keeps c f k g → Keeps c f k (L.foldl Gs.step g) := by
  induction L with
  | nil => exact fun g h => h
  | cons e L ih => exact fun g h => ih _ (h.step e)
/-- every mark of every moment holds of the letters at the end -/
theorem marks_hold {L : List Dd} (hL : DLs L) {j : Nat} (hj : j ≤ L.length) (k : Str) : Holds ((run (L.take j)).mkd k) (getA (run L).ls k []) := by
  have iv := inv_run (L.take j)
  have er : run L = (L.drop j).foldl Gs.step (run (L.take j)) := by
    unfold run
    rw [← List.foldl_append, List.take_append_drop]
  unfold Gs.mkd
  cases hd : (run (L.take j)).dn with
  | true =>
    rw [if_pos rfl]
    have : j = L.length := by
      by_cases c : j < L.length
      · have := (hL j L[j] (List.getElem?_eq_getElem c)).1
        rw [hd] at this
        cases this
      · omega
    subst this
    rw [List.take_length] at *
    intro e he hc
    have := ((inv_run L).io k).num he
    omega
  | false =>
    rw [if_neg (by simp)]
    cases ef : (run (L.take j)).fl with
    | none => trivial
    | some f =>
      have kp : Keeps (getA (run (L.take j)).fd k 0) f k (run (L.take j)) := ⟨fun e he hc => iv.fl f ef k e he hc, f, ef, Int.le_refl _⟩
      have := kp.fold (L.drop j)
      rw [← er] at this
      exact fun e he hc => ⟨f, rfl, this.h e he hc⟩
end Mv

set_option Elab.async false
set_option linter.all false
set_option maxRecDepth 100000
set_option maxHeartbeats 4000000
namespace Mv
open PySem PySem.Spec PyProof.Rows L2
abbrev sLaw : Stmt := topS 31
theorem fr_sx {H0 H H' : Hp} {a : Addr} {o : HO} (ha : H0 a = some o) (x : Sx a H H') : Same (fr H0 H) (fr H0 H') := fun b o' e => by
  unfold fr at e ⊢
  cases h : H0 b with
  | none =>
    rw [h] at e
    exact x b o' (fun z => by rw [z, ha] at h; cases h) e
  | some _ =>
    rw [h] at e
    cases e
theorem fr_mono {H0 H1 H : Hp} (s : Same H0 H1) : Same (fr H1 H) (fr H0 H) := fun b o e => by
  unfold fr at e ⊢
  cases h : H1 b with
  | none =>
    rw [h] at e
    rw [none_back s h]
    exact e
  | some _ =>
    rw [h] at e
    cases e
theorem fr_samE {H0 H H' : Hp} (s : Same H H') : Same (fr H0 H) (fr H0 H') := fun b o e => by
  unfold fr at e ⊢
  cases h : H0 b with
  | none =>
    rw [h] at e
    exact s _ _ e
  | some _ =>
    rw [h] at e
    cases e
/-- a mark that the law keeps -/
structure Mkd where
  p : Addr
  k : Str
  v : V
  m : MkD
structure MksAt (R : Hp) (pm : Addr) (Ms : List Mkd) : Prop where
  at_ : R pm = some (.lst (Ms.map fun q => V.ref q.p))
  all : ∀ q ∈ Ms, R q.p = some (.tup [.str q.k, q.v]) ∧ MkAt R q.v q.m
theorem MksAt.same {R R' : Hp} {pm : Addr} {Ms : List Mkd} (h : MksAt R pm Ms) (s : Same R R') : MksAt R' pm Ms := ⟨s _ _ h.at_, fun q hq => ⟨s _ _ (h.all q hq).1, (h.all q hq).2.same s⟩⟩
theorem MkAt.wr {H H' : Hp} {v : V} {m : MkD} {a : Addr} {ys : List V} (h : MkAt H v m) (ha : H a = some (.lst ys)) (x : Sx a H H') : MkAt H' v m := by
  cases m with
  | none => exact h
  | some cf =>
    obtain ⟨c, f⟩ := cf
    obtain ⟨t, e, ht⟩ := h
    exact ⟨t, e, tup_wr ha x ht⟩
theorem seq_via {tA tB : TS} {D : Ends} {σ : L2.St} {H : Hp} (R : L2.St → Hp → Prop) (h1 : ∀ N : L2.St → Hp → Prop, (∀ σ' H', R σ' H' → N σ' H') → tA { nx := N, rt := D.rt, bk := D.bk, ct := D.ct } σ H) (h2 : ∀ σ' H', R σ' H' → tB D σ' H') : tSeq tA tB D σ H := h1 _ h2
/-- what stands while the law walks -/
structure LwI (C x pm : Addr) (R0 : Hp) (E : List Dd) (j n : Nat) (Ag : List Addr) (Ms : List Mkd) (H : Hp) : Prop where
  fr : Sx pm R0 (res Ag H)
  g : GateAt C H x Ag (run (E.take j))
  m : MksAt (res Ag H) pm Ms
  k : ∀ q ∈ Ms, ∃ j ≤ E.length, q.m = (run (E.take j)).mkd q.k
  n : Ms.length ≤ n
section
variable {C x pm : Addr} {R0 : Hp} {E : List Dd} {j n : Nat} {Ag : List Addr} {Ms : List Mkd} {H H' : Hp}
theorem LwI.same (h : LwI C x pm R0 E j n Ag Ms H) (s : Same H H') : LwI C x pm R0 E j n Ag Ms H' := ⟨h.fr.trans (Sx.of (res_same s)), h.g.same s, h.m.same (res_same s), h.k, h.n⟩
theorem LwI.own {A' : List Addr} {j' : Nat} (h : LwI C x pm R0 E j n Ag Ms H) (o : Ow Ag A' H H') (g : GateAt C H' x A' (run (E.take j'))) : LwI C x pm R0 E j' n A' Ms H' := ⟨h.fr.trans (Sx.of o.res), g, h.m.same o.res, h.k, h.n⟩
theorem LwI.atp (h : LwI C x pm R0 E j n Ag Ms H) : H pm = some (.lst (Ms.map fun q => V.ref q.p)) ∧ pm ∉ Ag := ⟨res_le _ _ h.m.at_, res_not h.m.at_⟩
theorem LwI.sx (h : LwI C x pm R0 E j n Ag Ms H) : Sx pm R0 H := fun b o n e => res_le _ _ (h.fr b o n e)
theorem LwI.add (h : LwI C x pm R0 E j n Ag Ms H) {tp : Addr} {k : Str} {v : V} (ht : H tp = some (.tup [.str k, v])) (hk : MkAt H v ((run (E.take j)).mkd k)) (hj : j ≤ E.length) : LwI C x pm R0 E j (n + 1) Ag (Ms ++ [⟨tp, k, v, (run (E.take j)).mkd k⟩]) (upd H pm (.lst (Ms.map (fun q => V.ref q.p) ++ [.ref tp]))) := by
  obtain ⟨hp, np⟩ := h.atp
  have sx : Sx pm H (upd H pm (.lst (Ms.map (fun q => V.ref q.p) ++ [.ref tp]))) := fun b o n e => by
    rw [upd_ne n]
    exact e
  have rx : Sx pm (res Ag H) (res Ag (upd H pm (.lst (Ms.map (fun q => V.ref q.p) ++ [.ref tp])))) := fun b o n e => res_at (res_not e) (sx b o n (res_le _ _ e))
  have mk : ∀ {v : V} {m : MkD}, MkAt H v m → MkAt (res Ag (upd H pm (.lst (Ms.map (fun q => V.ref q.p) ++ [.ref tp])))) v m := fun {v m} hm => by
    cases m with
    | none => exact hm
    | some cf =>
      obtain ⟨c, f⟩ := cf
      obtain ⟨t, e, ht⟩ := hm
      exact ⟨t, e, res_at (h.g.notup ht) (tup_wr hp sx ht)⟩
  refine ⟨h.fr.trans rx, h.g.wr hp np sx, ⟨res_at np (by rw [upd_same, List.map_append]; rfl), fun q hq => ?_⟩, fun q hq => ?_, by rw [List.length_append, List.length_singleton]; exact Nat.succ_le_succ h.n⟩
  · rcases List.mem_append.mp hq with hq | hq
    · obtain ⟨h1, h2⟩ := h.m.all q hq
      exact ⟨res_at (res_not h1) (tup_wr hp sx (res_le _ _ h1)), mk (h2.same res_le)⟩
    · rw [List.mem_singleton.mp hq]
      exact ⟨res_at (h.g.notup ht) (tup_wr hp sx ht), mk hk⟩
  · rcases List.mem_append.mp hq with hq | hq
    · exact h.k q hq
    · rw [List.mem_singleton.mp hq]
      exact ⟨j, hj, rfl⟩
end
section
variable {P : Program} {w : World} {K : PySem.W.Frag} {mg : Str → Option Value} {base : Heap} {C CF CB M : Addr}
theorem scLaw : FnScope ["_law_script", "_law_stream_here", "_law_names", "_law_deeds_here", "_law_gate_here", "_law_marks", "_law_k", "_law_state", "_law_name", "_law_mark_here"] ["_law_script"] (defScope sLaw) := ⟨rfl, rfl, rfl, by decide +kernel, rfl, by decide +kernel, by decide +kernel⟩
def spLaw (K : PySem.W.Frag) : Sp := fun vs H Q _ => ∃ (a : Addr) (ns : List Int), vs = [.ref a] ∧ SqL K H a (ns.map V.int) ∧ ns.length ≤ 63 ∧ ∀ H' : Hp, Q (.bl true) H'
theorem ok_law {f : Addr} {fd : FuncData} (F : Fun K "law" "law" sLaw f fd) (B : Bi mg) (Y : MkX P w K mg base C) (cStream : CalX CX0 P w K mg base 1 "_law_stream" (spStream K)) (cWor : CalX CX0 P w K mg base 5 "_law_world" spWor) (cTk : MetX (L2.CX P w) P w K mg base 5 C "take" (spTk C CF CB)) (cGa : CalX CX0 P w K mg base 1 "_law_gate" spGa) (cMo : MetX CX0 P w K mg base 2 C "mark_of" (spMo C)) (cMk : CalX CX0 P w K mg base 1 "_law_mark" spMk) (cBo : CalX CX0 P w K mg base 7 "_law_bounded" (spBo C)) (cRd : CalX CX0 P w K mg base 5 "_law_raised" (spRd C)) (cHo : CalX CX0 P w K mg base 1 "_law_holds" spHo) (cLo : MetX CX0 P w K mg base 1 C "letters_of" (spLo C)) (cAf : CalX CX0 P w K mg base 5 "_law_all_fit" (spAf C)) : FnOk P w K mg base CX0 8 f fd ["_law_script"] (spLaw K) := by
  obtain ⟨fG, fdG, YM, YF, YB⟩ := Y.ex
  refine F.ok scLaw (fun vs H Q E h => ?_) (fun cdv A outer s H vs Q E hr h => ?_)
  · obtain ⟨a, ns, rfl, _⟩ := h
    rfl
  · obtain ⟨a, ns, rfl, ha, hn, q⟩ := h
    refine ⟨_, (pss_cons (ps_set (i := 1) scLaw.nd rfl (.inl rfl) (pe_cx cStream hr (by decide) pass0 (by rfl) (pa_cons (pv 0) pa_nil)))
 (pss_cons (ps_asg (pe_cx cWor hr (by decide) pass0 (by rfl) (pa_cons (pv 1) pa_nil)) (pg_tup rfl (pgs_cons (pg_name (i := 2) scLaw.nd rfl (.inl rfl)) (pgs_cons (pg_name (i := 3) scLaw.nd rfl (.inl rfl)) pgs_nil))))
 (pss_cons (ps_set (i := 4) scLaw.nd rfl (.inl rfl) (pe_make0 YM YF (hr.mono (by decide)) (by rfl) Y.g YB .nil pass0))
 (pss_cons (ps_set (i := 5) scLaw.nd rfl (.inl rfl) (pe_lst pa_nil))
 (pss_cons (ps_for PassesOwn.never rfl (pi_range1 (by rfl) B.range (pa_cons (pe_op op_add (pe_callB call_len_seq (by rfl) B.len PySem.boot_len (pa_cons (pv 3) pa_nil)) pe_int) pa_nil)) (pg_name (i := 6) scLaw.nd rfl (.inl rfl))
 (pss_cons (ps_if (pt_cmpR op_gt (pv 6) pe_int (nomark _))
 (pss_one (ps_expr (pe_mx cTk hr (by decide) passL (pv 4) (pa_cons (pe_ix ix_list (pv 3) (pe_op op_sub (pv 6) pe_int) (fun _ _ => rfl)) pa_nil)))) pss_nil)
 (pss_cons (ps_set (i := 7) scLaw.nd rfl (.inl rfl) (pe_cx cGa hr (by decide) pass0 (by rfl) (pa_cons (pe_slice sl_list (pv 3) po_none (po_some (pv 6))) pa_nil)))
 (pss_one (ps_for PassesOwn.never rfl (pi_list (pv 2)) (pg_name (i := 8) scLaw.nd rfl (.inl rfl))
 (pss_cons (ps_set (i := 9) scLaw.nd rfl (.inl rfl) (pe_mx cMo hr (by decide) pass0 (pv 4) (pa_cons (pv 8) pa_nil)))
 (pss_cons (ps_if (pt_cmpR (op_neD hr.units) (pv 9) (pe_cx cMk hr (by decide) pass0 (by rfl) (pa_cons (pv 7) (pa_cons (pv 8) pa_nil))) (nomark _))
 (pss_one (ps_ret pe_bl)) pss_nil)
 (pss_cons (ps_expr (pe_bm PySem.F.plainAttrs_list PySem.F.slot_list_append PySem.F.type_list_append mt_append (pv 5) (pa_cons (pe_tup (pa_cons (pv 8) (pa_cons (pv 9) pa_nil))) pa_nil)))
 (pss_one (ps_if (PW.pt (pw_or (pt_not (pt_val (pe_cx cBo hr (by decide) pass0 (by rfl) (pa_cons (pv 4) (pa_cons (pv 7) (pa_cons (pv 8) pa_nil)))))) (pw_or1 (pt_not (pt_val (pe_cx cRd hr (by decide) pass0 (by rfl) (pa_cons (pv 4) (pa_cons (pv 7) (pa_cons (pv 8) pa_nil)))))))))
 (pss_one (ps_ret pe_bl)) pss_nil))))))))))
 (pss_cons (ps_for PassesOwn.never rfl (pi_list (pv 5)) (pg_tup rfl (pgs_cons (pg_name (i := 8) scLaw.nd rfl (.inl rfl)) (pgs_cons (pg_name (i := 9) scLaw.nd rfl (.inl rfl)) pgs_nil)))
 (pss_one (ps_if (pt_not (pt_val (pe_cx cHo hr (by decide) pass0 (by rfl) (pa_cons (pv 9) (pa_cons (pe_mx cLo hr (by decide) pass0 (pv 4) (pa_cons (pv 8) pa_nil)) pa_nil)))))
 (pss_one (ps_ret pe_bl)) pss_nil)))
 (pss_one (ps_ret (pe_cx cAf hr (by decide) pass0 (by rfl) (pa_cons (pv 1) (pa_cons (pv 4) (pa_cons (pv 2) pa_nil)))))))))))), ?_⟩
    simp only [tSeq, tAsg, gName, tOp, rI, rI0, rU, tUn, tVar, tC, tCB, tCons, tNil, tTest, tIfS, tRet, tRetN, tDrop, tNext, tBreak, tCont, rEq, rNe, CDiv, CDivN, CMul, tBM, tBM0, tTup, tLst, tAug, tIf, tAnd, tOr, tNot, tAndV, tOrV, tNotV, tIsN, tNotN, tB, scal, tCall, cxK, cxKn, rIxT, rIxL, rIn, rAppend, rReverse, tVals, tDSetd, tDGet, tDGet1, tDGet2, tDIn, tDNotIn, rSortV, rSortT, rPop, rSortL, rSortT, tSl, tNoPart, tPart, List.append_nil, L2.start, List.map_cons, List.map_nil, List.length_cons, List.length_nil, List.replicate_succ, List.replicate_zero, List.cons_append, List.nil_append, Nat.reduceAdd, Nat.reduceSub, exists_eq, exists_eq', gTup, gCons, gNil, tMake, tMeth, List.getElem?_cons_zero, List.getElem?_cons_succ, List.set_cons_zero, List.set_cons_succ, Option.some.injEq, V.int.injEq, V.bl.injEq, V.str.injEq, V.ref.injEq, List.cons.injEq, and_true, true_and, and_false, false_and, reduceCtorEq, exists_false, or_false, false_or, exists_and_left, exists_and_right, exists_eq_left, exists_eq_left', exists_eq_right, exists_eq_right', exists_const, ite_true, ite_false, Bool.false_eq_true, if_true, if_false, decide_true, decide_false]
    refine ⟨a, ns, rfl, ha, hn, fun H1 st s1 hst1 t1 => ?_⟩
    refine ⟨st, rfl, t1, fun H2 tw nl l L ks x2 t2 ht2 hn2 lk hks hL2 lst lsn dl lL => ?_⟩
    refine ⟨tw, rfl, _, tt ht2, rfl, _, _, rfl, _, _, rfl, rfl, ?_⟩
    intro x dx hx hdx ndx
    refine ⟨x, dx, rfl, upd_same, fun A1 H3 a1 a2 g3 => ⟨rfl, ?_⟩⟩
    have s3 : Same H2 H3 := fun b o e => a2 b o (ne_of_none e hx) (by rw [upd_ne (ne_of_none e hx), upd_ne (ne_of_none e hdx)]; exact e)
    have dj3 : ∀ b ∈ A1, H2 b = none := fun b hb => by
      rcases a1 b hb with rfl | h
      · exact hx
      · by_cases c : b = x
        · rw [c]
          exact hx
        · rw [upd_ne c] at h
          by_cases c2 : b = dx
          · rw [c2]
            exact hdx
          · rw [upd_ne c2] at h
            exact h
    clear a1 a2
    have res3 : Same H2 (res A1 H3) := fun b o e => res_at (fun z => by rw [dj3 b z] at e; cases e) (s3 _ _ e)
    have hL3 := hL2.same res3
    have hn3 := res3 _ _ hn2
    have t3 := t2.same res3
    refine ⟨Nat.zero_le _, fun pm hpm => ?_⟩
    have s4 := same_upd (o := .lst []) hpm
    have npm : pm ∉ A1 := fun z => g3.al hpm z
    have m4 : MksAt (res A1 (upd H3 pm (.lst []))) pm [] := ⟨res_at npm upd_same, fun q hq => by cases hq⟩
    have g4 := g3.same s4
    have r4 := res_same (A := A1) s4
    have hL4 := hL3.same r4
    have hn4 := r4 _ _ hn3
    have t4 := t3.same r4
    have lpm : l ≠ pm := fun z => by
      have := res_le _ _ hL3.at_
      rw [z, hpm] at this
      cases this
    have npm2 : nl ≠ pm := fun z => by
      have := res_le _ _ hn3
      rw [z, hpm] at this
      cases this
    have spm : st ≠ pm := fun z => by
      obtain ⟨zs, e, _⟩ := id t3
      have := res_le _ _ e
      rw [z, hpm] at this
      cases this
    clear hL2 hL3 hn2 hn3 t2 t3 g3 s3 r4
    generalize upd H3 pm (.lst []) = H4 at m4 g4 hL4 hn4 t4 ⊢
    have p4 := res_le _ _ m4.at_
    have q4 := m4.at_
    have sm : ∀ j, (run ((L.map (·.2)).take j)).sm 60 := fun j => sm_le (sm_run _) (by rw [List.length_take, List.length_map]; omega)
    have eL : (L.map (·.2)).length = L.length := List.length_map _
    have I4 : LwI C x pm (res A1 H4) (L.map (·.2)) 0 0 A1 [] H4 := ⟨fun _ _ _ e => e, g4, m4, fun q hq => (by cases hq), Nat.le_refl _⟩
    refine ⟨.ref l, rfl, l, rfl, _, .inl (ll (res_le _ _ hL4.at_)), _, _, rfl, rfl, _, rfl, ?_, ?_, ?_⟩
    · rw [List.length_map]
      omega
    · rw [List.length_map]
      omega
    rw [List.length_map, show ((L.length : Int) + 1).toNat = L.length + 1 by omega]
    have cL := @run_dn
    generalize hE : L.map (·.2) = E at dl I4 sm eL
    refine for_range (n := L.length + 1) (fun i σ H' => ∃ (Ag : List Addr) (Ms : List Mkd) (y6 y7 y8 y9 : Option V), σ = [some (.ref a), some (.ref st), some (.ref nl), some (.ref l), some (.ref x), some (.ref pm), y6, y7, y8, y9] ∧ LwI C x pm (res A1 H4) E (i - 1) (4 * i) Ag Ms H') ⟨A1, [], none, none, none, none, rfl, I4⟩ ?_ ?_
    · rintro i σ H5 hi ⟨Ag, Ms, y6, y7, y8, y9, rfl, I5⟩
      rw [Int.zero_add]
      refine seq_via (fun σ' H' => ∃ (Ag : List Addr) (Ms : List Mkd) (y7 y8 y9 : Option V), σ' = [some (.ref a), some (.ref st), some (.ref nl), some (.ref l), some (.ref x), some (.ref pm), some (.int (i : Int)), y7, y8, y9] ∧ LwI C x pm (res A1 H4) E i (4 * i) Ag Ms H') (fun N hN => ?_) ?_
      · simp only [tSeq, tAsg, gName, tOp, rI, rI0, rU, tUn, tVar, tC, tCB, tCons, tNil, tTest, tIfS, tRet, tRetN, tDrop, tNext, tBreak, tCont, rEq, rNe, CDiv, CDivN, CMul, tBM, tBM0, tTup, tLst, tAug, tIf, tAnd, tOr, tNot, tAndV, tOrV, tNotV, tIsN, tNotN, tB, scal, tCall, cxK, cxKn, rIxT, rIxL, rIn, rAppend, rReverse, tVals, tDSetd, tDGet, tDGet1, tDGet2, tDIn, tDNotIn, rSortV, rSortT, rPop, rSortL, rSortT, tSl, tNoPart, tPart, List.append_nil, L2.start, List.map_cons, List.map_nil, List.length_cons, List.length_nil, List.replicate_succ, List.replicate_zero, List.cons_append, List.nil_append, Nat.reduceAdd, Nat.reduceSub, exists_eq, exists_eq', tMeth, List.getElem?_cons_zero, List.getElem?_cons_succ, List.set_cons_zero, List.set_cons_succ, Option.some.injEq, V.int.injEq, V.bl.injEq, V.str.injEq, V.ref.injEq, List.cons.injEq, and_true, true_and, and_false, false_and, reduceCtorEq, exists_false, or_false, false_or, exists_and_left, exists_and_right, exists_eq_left, exists_eq_left', exists_eq_right, exists_eq_right', exists_const, ite_true, ite_false, Bool.false_eq_true, if_true, if_false, decide_true, decide_false]
        refine ite2 (fun c => ?_) (fun c => ?_)
        · have c' : (0 : Int) < (i : Int) := of_decide_eq_true c
          obtain ⟨⟨ap, e⟩, he⟩ : ∃ q, L[i - 1]? = some q := ⟨L[i - 1]'(by omega), List.getElem?_eq_getElem (by omega)⟩
          have he' : E[i - 1]? = some e := by
            rw [← hE, List.getElem?_map, he]
            rfl
          obtain ⟨d1, d2, d3, d4⟩ := dl _ _ he'
          have hL5 : Dds (res Ag H5) l L := hL4.wr q4 lpm I5.fr
          obtain ⟨dx5, fs5, ho5, hf5⟩ := I5.g.obj
          refine ⟨dx5, fs5, ho5, hf5 _ (by decide +kernel), _, ll (res_le _ _ hL5.at_), .ref ap, ?_, x, Ag, _, ap, e, rfl, I5.g, sm_le (sm _) (by decide), res_le _ _ (hL5.all _ (List.mem_of_getElem? he)), d3 _, fun z => ?_, fun _ v t x' ee en => ?_, fun _ _ A2 H6 o6 g6 => hN _ _ ⟨A2, Ms, y7, y8, y9, rfl, I5.own o6 ?_⟩⟩
          · rw [show (i : Int) - 1 = ((i - 1 : Nat) : Int) by omega]
            exact atI_nat (by rw [List.getElem?_map, he]; rfl)
          · rw [d1] at z
            cases z
          · subst ee
            have nm2 : nmV v = true := d2
            rw [en] at nm2
            cases nm2
          · rw [← run_snoc, ← take_one he', show i - 1 + 1 = i by omega] at g6
            exact g6
        · have c' : ¬ (0 : Int) < (i : Int) := fun z => c (decide_eq_true z)
          obtain rfl : i = 0 := by omega
          exact hN _ _ ⟨Ag, Ms, y7, y8, y9, rfl, I5⟩
      · rintro σ H6 ⟨Ag, Ms, y7, y8, y9, rfl, I6⟩
        refine seq_via (fun σ' H' => ∃ (t : Addr), σ' = [some (.ref a), some (.ref st), some (.ref nl), some (.ref l), some (.ref x), some (.ref pm), some (.int (i : Int)), some (.ref t), y8, y9] ∧ LwI C x pm (res A1 H4) E i (4 * i) Ag Ms H' ∧ StAt (fr H6 H') t (run (E.take i))) (fun N hN => ?_) ?_
        · simp only [tSeq, tAsg, gName, tOp, rI, rI0, rU, tUn, tVar, tC, tCB, tCons, tNil, tTest, tIfS, tRet, tRetN, tDrop, tNext, tBreak, tCont, rEq, rNe, CDiv, CDivN, CMul, tBM, tBM0, tTup, tLst, tAug, tIf, tAnd, tOr, tNot, tAndV, tOrV, tNotV, tIsN, tNotN, tB, scal, tCall, cxK, cxKn, rIxT, rIxL, rIn, rAppend, rReverse, tVals, tDSetd, tDGet, tDGet1, tDGet2, tDIn, tDNotIn, rSortV, rSortT, rPop, rSortL, rSortT, tSl, tNoPart, tPart, List.append_nil, L2.start, List.map_cons, List.map_nil, List.length_cons, List.length_nil, List.replicate_succ, List.replicate_zero, List.cons_append, List.nil_append, Nat.reduceAdd, Nat.reduceSub, exists_eq, exists_eq', List.getElem?_cons_zero, List.getElem?_cons_succ, List.set_cons_zero, List.set_cons_succ, Option.some.injEq, V.int.injEq, V.bl.injEq, V.str.injEq, V.ref.injEq, List.cons.injEq, and_true, true_and, and_false, false_and, reduceCtorEq, exists_false, or_false, false_or, exists_and_left, exists_and_right, exists_eq_left, exists_eq_left', exists_eq_right, exists_eq_right', exists_const, ite_true, ite_false, Bool.false_eq_true, if_true, if_false, decide_true, decide_false]
          have hL6 : Dds (res Ag H6) l L := hL4.wr q4 lpm I6.fr
          refine sl_takeD (k := i) rfl (hL6.same res_le) fun o7 H7 s7 d7 => ?_
          refine ⟨o7, L.take i, rfl, d7, by rw [List.length_take]; omega, fun e he => ?_, fun H8 t8 s8 st8 => ?_⟩
          · obtain ⟨j, hj, ej⟩ := List.mem_iff_getElem.mp (List.mem_of_mem_take he)
            refine (dl j e.2 ?_).2.2.2
            rw [← hE, List.getElem?_map, List.getElem?_eq_getElem hj, ej]
            rfl
          · rw [List.map_take, hE] at st8
            exact hN _ _ ⟨t8, rfl, (I6.same s7).same s8, st8.same (fr_mono s7)⟩
        · rintro σ H7 ⟨t, rfl, I7, st7⟩
          have hn7 := res_le _ _ (I7.fr _ _ npm2 hn4)
          have hp6 := I6.atp.1
          refine ⟨_, rfl, nl, rfl, ⟨_, ll hn7⟩, ?_⟩
          refine for_it walk_list (fun n σ H' => ∃ (Ms : List Mkd) (y8 y9 : Option V), σ = [some (.ref a), some (.ref st), some (.ref nl), some (.ref l), some (.ref x), some (.ref pm), some (.int (i : Int)), some (.ref t), y8, y9] ∧ LwI C x pm (res A1 H4) E i (4 * i + n) Ag Ms H' ∧ StAt (fr H6 H') t (run (E.take i))) ⟨Ms, y8, y9, rfl, I7, st7⟩ (fun n σ H' _ ⟨_, _, _, _, I, _⟩ => ll (res_le _ _ (I.fr _ _ npm2 hn4))) ?_ ?_
          · rintro n v σ H8 H8' hn' ⟨Ms, y8, y9, rfl, I8, st8⟩ ⟨rfl, hv⟩
            obtain ⟨k, hk, rfl⟩ : ∃ k, ks[n]? = some k ∧ V.str k = v := by
              rw [List.getElem?_map] at hv
              exact Option.map_eq_some_iff.mp hv
            rw [List.length_map] at hn'
            have hkn := hks k (List.mem_of_getElem? hk)
            simp only [tSeq, tAsg, gName, tOp, rI, rI0, rU, tUn, tVar, tC, tCB, tCons, tNil, tTest, tIfS, tRet, tRetN, tDrop, tNext, tBreak, tCont, rEq, rNe, CDiv, CDivN, CMul, tBM, tBM0, tTup, tLst, tAug, tIf, tAnd, tOr, tNot, tAndV, tOrV, tNotV, tIsN, tNotN, tB, scal, tCall, cxK, cxKn, rIxT, rIxL, rIn, rAppend, rReverse, tVals, tDSetd, tDGet, tDGet1, tDGet2, tDIn, tDNotIn, rSortV, rSortT, rPop, rSortL, rSortT, tSl, tNoPart, tPart, List.append_nil, L2.start, List.map_cons, List.map_nil, List.length_cons, List.length_nil, List.replicate_succ, List.replicate_zero, List.cons_append, List.nil_append, Nat.reduceAdd, Nat.reduceSub, exists_eq, exists_eq', tMeth, List.getElem?_cons_zero, List.getElem?_cons_succ, List.set_cons_zero, List.set_cons_succ, Option.some.injEq, V.int.injEq, V.bl.injEq, V.str.injEq, V.ref.injEq, List.cons.injEq, and_true, true_and, and_false, false_and, reduceCtorEq, exists_false, or_false, false_or, exists_and_left, exists_and_right, exists_eq_left, exists_eq_left', exists_eq_right, exists_eq_right', exists_const, ite_true, ite_false, Bool.false_eq_true, if_true, if_false, decide_true, decide_false]
            obtain ⟨dx8, fs8, ho8, hf8⟩ := I8.g.obj
            refine ⟨dx8, fs8, ho8, hf8 _ (by decide +kernel), x, Ag, _, k, rfl, I8.g, fun v9 H9 s9 hv9 => ?_⟩
            have I9 := I8.same s9
            have st9 := st8.same (fr_samE (H0 := H6) s9)
            refine ⟨t, _, k, rfl, st9.same fr_le, fun v10 H10 s10 hv10 => ?_⟩
            have I10 := I9.same s10
            have st10 := st9.same (fr_samE (H0 := H6) s10)
            have m10 := (mark_mk hv9).same s10
            refine ne_mk m10 hv10 ⟨false, rfl, if_F rfl ⟨.inl ⟨rfl, _, ll I10.atp.1⟩, by decide, fun tp htp => ?_⟩⟩
            have s11 := same_upd (o := .tup [.str k, v9]) htp
            have I11 := I10.same s11
            have st11 := st10.same (fr_samE (H0 := H6) s11)
            have m11 := m10.same s11
            have f11 : upd H10 tp (.tup [.str k, v9]) tp = some (.tup [.str k, v9]) := upd_same
            generalize upd H10 tp (.tup [.str k, v9]) = H11 at I11 st11 m11 f11 ⊢
            have I12 := I11.add f11 m11 (by omega)
            have st12 := st11.same (fr_sx hp6 (H := H11) (H' := upd H11 pm (.lst (Ms.map (fun q => V.ref q.p) ++ [.ref tp]))) fun b o n e => by
              rw [upd_ne n]
              exact e)
            have l11 := I11.n
            refine ⟨_, I11.atp.1, by rw [List.length_map]; exact small1000 (by omega), ?_⟩
            clear I8 I9 I10 I11 st8 st9 st10 st11 m10 m11 f11 s11 s10 s9 htp hv9 hv10
            generalize upd H11 pm (.lst (Ms.map (fun q => V.ref q.p) ++ [.ref tp])) = H12 at I12 st12 ⊢
            refine ⟨x, Ag, _, t, k, rfl, I12.g, sm _, hkn, st12.same fr_le, fun H13 s13 => ⟨true, rfl, if_F rfl ?_⟩⟩
            have I13 := I12.same s13
            have st13 := st12.same (fr_samE (H0 := H6) s13)
            exact ⟨x, Ag, _, t, k, rfl, I13.g, sm _, st13.same fr_le, fun H14 s14 => ⟨true, rfl, if_F rfl ⟨⟨_, I13.same s14⟩, st13.same (fr_samE (H0 := H6) s14)⟩⟩⟩
          · rintro σ H8 ⟨Ms, y8, y9, rfl, I8, st8⟩
            rw [List.length_map] at I8
            refine ⟨Ag, Ms, _, _, _, _, rfl, I8.fr, I8.g, I8.m, I8.k, ?_⟩
            have := I8.n
            omega
    · rintro σ H5 ⟨Ag, Ms, y6, y7, y8, y9, rfl, I5⟩
      rw [show L.length + 1 - 1 = E.length by omega] at I5
      dsimp only
      refine seq_via (fun σ' H' => ∃ (y8 y9 : Option V), σ' = [some (.ref a), some (.ref st), some (.ref nl), some (.ref l), some (.ref x), some (.ref pm), y6, y7, y8, y9] ∧ Same H5 H') (fun N hN => ?_) ?_
      · refine ⟨_, rfl, pm, rfl, ⟨_, ll I5.atp.1⟩, ?_⟩
        refine for_it walk_list (fun n σ H' => ∃ (y8 y9 : Option V), σ = [some (.ref a), some (.ref st), some (.ref nl), some (.ref l), some (.ref x), some (.ref pm), y6, y7, y8, y9] ∧ Same H5 H') ⟨y8, y9, rfl, fun _ _ h => h⟩ (fun n σ H' _ ⟨_, _, _, s⟩ => ll (s _ _ I5.atp.1)) ?_ (fun σ H' h => hN σ H' h)
        rintro n v σ H6 H6' hn' ⟨y8, y9, rfl, s6⟩ ⟨rfl, hv⟩
        obtain ⟨q', hq, rfl⟩ : ∃ q', Ms[n]? = some q' ∧ V.ref q'.p = v := by
          rw [List.getElem?_map] at hv
          exact Option.map_eq_some_iff.mp hv
        have hm := List.mem_of_getElem? hq
        obtain ⟨t6, m6⟩ := I5.m.all q' hm
        obtain ⟨j, hj, em⟩ := I5.k q' hm
        refine ⟨_, _, rfl, tt (s6 _ _ (res_le _ _ t6)), rfl, _, _, rfl, _, _, rfl, rfl, ?_⟩
        simp only [tSeq, tAsg, gName, tOp, rI, rI0, rU, tUn, tVar, tC, tCB, tCons, tNil, tTest, tIfS, tRet, tRetN, tDrop, tNext, tBreak, tCont, rEq, rNe, CDiv, CDivN, CMul, tBM, tBM0, tTup, tLst, tAug, tIf, tAnd, tOr, tNot, tAndV, tOrV, tNotV, tIsN, tNotN, tB, scal, tCall, cxK, cxKn, rIxT, rIxL, rIn, rAppend, rReverse, tVals, tDSetd, tDGet, tDGet1, tDGet2, tDIn, tDNotIn, rSortV, rSortT, rPop, rSortL, rSortT, tSl, tNoPart, tPart, List.append_nil, L2.start, List.map_cons, List.map_nil, List.length_cons, List.length_nil, List.replicate_succ, List.replicate_zero, List.cons_append, List.nil_append, Nat.reduceAdd, Nat.reduceSub, exists_eq, exists_eq', tMeth, List.getElem?_cons_zero, List.getElem?_cons_succ, List.set_cons_zero, List.set_cons_succ, Option.some.injEq, V.int.injEq, V.bl.injEq, V.str.injEq, V.ref.injEq, List.cons.injEq, and_true, true_and, and_false, false_and, reduceCtorEq, exists_false, or_false, false_or, exists_and_left, exists_and_right, exists_eq_left, exists_eq_left', exists_eq_right, exists_eq_right', exists_const, ite_true, ite_false, Bool.false_eq_true, if_true, if_false, decide_true, decide_false]
        have g6 := I5.g.same s6
        rw [List.take_length] at g6
        obtain ⟨dx6, fs6, ho6, hf6⟩ := g6.obj
        refine ⟨dx6, fs6, ho6, hf6 _ (by decide +kernel), x, Ag, _, q'.k, rfl, g6, fun H7 r7 L7 s7 f7 hL7 eL7 => ?_⟩
        refine ⟨q'.v, q'.m, r7, L7, rfl, (m6.same res_le).same (s6.trans s7), hL7, ?_, fun H8 s8 => ⟨true, rfl, if_F rfl ((s6.trans s7).trans s8)⟩⟩
        rw [em, eL7]
        exact marks_hold dl hj q'.k
      · rintro σ H6 ⟨y8, y9, rfl, s6⟩
        have g6 := I5.g.same s6
        have x6 := I5.fr.trans (Sx.of (res_same (A := Ag) s6))
        obtain ⟨zs, ez, lz⟩ := id t4
        have e6 := x6 _ _ spm ez
        exact ⟨_, rfl, _, rfl, _, rfl, st, x, nl, Ag, _, ks, rfl, ⟨zs, res_le _ _ e6, lz⟩, res_not e6, g6, sm _, res_le _ _ (x6 _ _ npm2 hn4), lsn, (inv_run _).io, fun H7 => q H7⟩
end
end Mv

set_option Elab.async false
set_option linter.all false
set_option maxRecDepth 100000
set_option maxHeartbeats 8000000
namespace Mv
open PySem PySem.Spec PyProof.Rows L2
abbrev sInig : Stmt := inClass (topS 3) 0
theorem scInig : ScI (defScope sInig) "self" "name" := ⟨rfl, rfl, rfl, rfl, rfl, by decide +kernel, by decide +kernel, by decide +kernel, rfl, rfl⟩
theorem ok_inig {P : Program} {w : World} {K : PySem.W.Frag} {mg : Str → Option Value} {base : Heap} {f c cc C : Addr} {kV doc pm ct oc : Value} {an od : Option Addr} {osl : Array (Option Value)}
    (lk : K.lookup f = some ⟨oc, od, .func (PySem.W.ksFn "__init__" "BadName.__init__" (defArgs sInig) (defBody sInig) (defScope sInig) .none kV doc pm an (.ref c) ct cc), osl⟩) (hcd : PySem.W.codeIn K (.ref c) "BadName.__init__" = true) (U : SupK P K f c cc C) (hsup : mg "super" = none) (hno : PySem.W.findIn K (.ref C) "name" = some none) :
    FnOk P w K mg base CX0 1 f (PySem.W.ksFn "__init__" "BadName.__init__" (defArgs sInig) (defBody sInig) (defScope sInig) .none kV doc pm an (.ref c) ct cc) ["self", "name"] (spIniB K C "name") :=
  ok_iniB (kn := 0) (head := "not a name: ") (fun _ => rfl) (fun _ => rfl) lk hcd scInig U hsup hno (by decide) rfl rfl (by decide) (by decide)
theorem bind_inig {K : PySem.W.Frag} {c cc : Addr} {kV doc pm ct : Value} {an : Option Addr} : Binds K (PySem.W.ksFn "__init__" "BadName.__init__" (defArgs sInig) (defBody sInig) (defScope sInig) .none kV doc pm an (.ref c) ct cc) ["self", "name"] [] := .all fun us hl => match us, hl with | [_, _], _ => rfl
theorem cal_of {CX : CXT} {P : Program} {w : World} {K : PySem.W.Frag} {mg : Str → Option Value} {base : Heap} {k : Nat} {x : Str} {st : Stmt} {f : Addr} {fd : FuncData} {ps : List Str} {sp : Sp} (F : Fun K x x st f fd) (hm : mg x = some (.ref f)) (b : Binds K fd ps []) (h : FnOk P w K mg base CX k f fd ps sp) : CalX CX P w K mg base k x sp := ⟨f, fd, ps, h, hm, F.kp, b⟩
abbrev rwK : PySem.W.OpenLaw := PySem.Challenge.rw_movedstates_k06_marks_stay_true
theorem all_mk {w : World} {K : PySem.W.Frag} {h : Heap} {mg : Str → Option Value} {fa : Addr}
    {f_w_stream : Addr} {od_w_stream an_w_stream : Option Addr} {sl_w_stream : Array (Option Value)} {oc_w_stream kV_w_stream dc_w_stream pm_w_stream cd_w_stream ct_w_stream : Value}
    {f_w_draw : Addr} {od_w_draw an_w_draw : Option Addr} {sl_w_draw : Array (Option Value)} {oc_w_draw kV_w_draw dc_w_draw pm_w_draw cd_w_draw ct_w_draw : Value}
    {f_w_wide : Addr} {od_w_wide an_w_wide : Option Addr} {sl_w_wide : Array (Option Value)} {oc_w_wide kV_w_wide dc_w_wide pm_w_wide cd_w_wide ct_w_wide : Value}
    {f_w_value : Addr} {od_w_value an_w_value : Option Addr} {sl_w_value : Array (Option Value)} {oc_w_value kV_w_value dc_w_value pm_w_value cd_w_value ct_w_value : Value}
    {f_w_span : Addr} {od_w_span an_w_span : Option Addr} {sl_w_span : Array (Option Value)} {oc_w_span kV_w_span dc_w_span pm_w_span cd_w_span ct_w_span : Value}
    {f_w_step : Addr} {od_w_step an_w_step : Option Addr} {sl_w_step : Array (Option Value)} {oc_w_step kV_w_step dc_w_step pm_w_step cd_w_step ct_w_step : Value}
    {f_w_letters : Addr} {od_w_letters an_w_letters : Option Addr} {sl_w_letters : Array (Option Value)} {oc_w_letters kV_w_letters dc_w_letters pm_w_letters cd_w_letters ct_w_letters : Value}
    {f_w_deeds : Addr} {od_w_deeds an_w_deeds : Option Addr} {sl_w_deeds : Array (Option Value)} {oc_w_deeds kV_w_deeds dc_w_deeds pm_w_deeds cd_w_deeds ct_w_deeds : Value}
    {f_w_gate : Addr} {od_w_gate an_w_gate : Option Addr} {sl_w_gate : Array (Option Value)} {oc_w_gate kV_w_gate dc_w_gate pm_w_gate cd_w_gate ct_w_gate : Value}
    {f_w_mark : Addr} {od_w_mark an_w_mark : Option Addr} {sl_w_mark : Array (Option Value)} {oc_w_mark kV_w_mark dc_w_mark pm_w_mark cd_w_mark ct_w_mark : Value}
    {f_w_bounded : Addr} {od_w_bounded an_w_bounded : Option Addr} {sl_w_bounded : Array (Option Value)} {oc_w_bounded kV_w_bounded dc_w_bounded pm_w_bounded cd_w_bounded ct_w_bounded : Value}
    {f_w_raised : Addr} {od_w_raised an_w_raised : Option Addr} {sl_w_raised : Array (Option Value)} {oc_w_raised kV_w_raised dc_w_raised pm_w_raised cd_w_raised ct_w_raised : Value}
    {f_w_holds : Addr} {od_w_holds an_w_holds : Option Addr} {sl_w_holds : Array (Option Value)} {oc_w_holds kV_w_holds dc_w_holds pm_w_holds cd_w_holds ct_w_holds : Value}
    {f_w_spoilt : Addr} {od_w_spoilt an_w_spoilt : Option Addr} {sl_w_spoilt : Array (Option Value)} {oc_w_spoilt kV_w_spoilt dc_w_spoilt pm_w_spoilt cd_w_spoilt ct_w_spoilt : Value}
    {f_w_fits : Addr} {od_w_fits an_w_fits : Option Addr} {sl_w_fits : Array (Option Value)} {oc_w_fits kV_w_fits dc_w_fits pm_w_fits cd_w_fits ct_w_fits : Value}
    {f_w_world : Addr} {od_w_world an_w_world : Option Addr} {sl_w_world : Array (Option Value)} {oc_w_world kV_w_world dc_w_world pm_w_world cd_w_world ct_w_world : Value}
    {f_w_all_fit : Addr} {od_w_all_fit an_w_all_fit : Option Addr} {sl_w_all_fit : Array (Option Value)} {oc_w_all_fit kV_w_all_fit dc_w_all_fit pm_w_all_fit cd_w_all_fit ct_w_all_fit : Value}
    {f_law : Addr} {od_law an_law : Option Addr} {sl_law : Array (Option Value)} {oc_law kV_law dc_law pm_law cd_law ct_law : Value}
    {f_consists_of : Addr} {od_consists_of an_consists_of : Option Addr} {sl_consists_of : Array (Option Value)} {oc_consists_of kV_consists_of dc_consists_of pm_consists_of cd_consists_of ct_consists_of : Value}
    {f_is_name : Addr} {od_is_name an_is_name : Option Addr} {sl_is_name : Array (Option Value)} {oc_is_name kV_is_name dc_is_name pm_is_name cd_is_name ct_is_name : Value}
    {f_fitting : Addr} {od_fitting an_fitting : Option Addr} {sl_fitting : Array (Option Value)} {oc_fitting kV_fitting dc_fitting pm_fitting cd_fitting ct_fitting : Value}
    {CG : Addr} {tL tS : Tok}
    {f_gi : Addr} {od_gi an_gi : Option Addr} {sl_gi : Array (Option Value)} {oc_gi kV_gi dc_gi pm_gi cd_gi ct_gi : Value}
    {f_mlets_in : Addr} {od_mlets_in an_mlets_in : Option Addr} {sl_mlets_in : Array (Option Value)} {oc_mlets_in kV_mlets_in dc_mlets_in pm_mlets_in cd_mlets_in ct_mlets_in : Value}
    {f_mevent : Addr} {od_mevent an_mevent : Option Addr} {sl_mevent : Array (Option Value)} {oc_mevent kV_mevent dc_mevent pm_mevent cd_mevent ct_mevent : Value}
    {f_mraise_floor : Addr} {od_mraise_floor an_mraise_floor : Option Addr} {sl_mraise_floor : Array (Option Value)} {oc_mraise_floor kV_mraise_floor dc_mraise_floor pm_mraise_floor cd_mraise_floor ct_mraise_floor : Value}
    {f_mfinish : Addr} {od_mfinish an_mfinish : Option Addr} {sl_mfinish : Array (Option Value)} {oc_mfinish kV_mfinish dc_mfinish pm_mfinish cd_mfinish ct_mfinish : Value}
    {f_mtake : Addr} {od_mtake an_mtake : Option Addr} {sl_mtake : Array (Option Value)} {oc_mtake kV_mtake dc_mtake pm_mtake cd_mtake ct_mtake : Value}
    {f_mletters_of : Addr} {od_mletters_of an_mletters_of : Option Addr} {sl_mletters_of : Array (Option Value)} {oc_mletters_of kV_mletters_of dc_mletters_of pm_mletters_of cd_mletters_of ct_mletters_of : Value}
    {f_mcount_of : Addr} {od_mcount_of an_mcount_of : Option Addr} {sl_mcount_of : Array (Option Value)} {oc_mcount_of kV_mcount_of dc_mcount_of pm_mcount_of cd_mcount_of ct_mcount_of : Value}
    {f_mmark_of : Addr} {od_mmark_of an_mmark_of : Option Addr} {sl_mmark_of : Array (Option Value)} {oc_mmark_of kV_mmark_of dc_mmark_of pm_mmark_of cd_mmark_of ct_mmark_of : Value}
    {f_mtwin : Addr} {od_mtwin an_mtwin : Option Addr} {sl_mtwin : Array (Option Value)} {oc_mtwin kV_mtwin dc_mtwin pm_mtwin cd_mtwin ct_mtwin : Value}
    {f_mrefuse_if_finished : Addr} {od_mrefuse_if_finished an_mrefuse_if_finished : Option Addr} {sl_mrefuse_if_finished : Array (Option Value)} {oc_mrefuse_if_finished kV_mrefuse_if_finished dc_mrefuse_if_finished pm_mrefuse_if_finished cd_mrefuse_if_finished ct_mrefuse_if_finished : Value}
    {f_pfloor : Addr} {od_pfloor an_pfloor : Option Addr} {sl_pfloor : Array (Option Value)} {oc_pfloor kV_pfloor dc_pfloor pm_pfloor cd_pfloor ct_pfloor : Value}
    {P_pfloor : Addr} {r_pfloor : List Value}
    {CB : Addr} {nmg qg : Str} {NBg : Addr} {bsg : List Value} {bmg : List Value} {sng : List Str} {subg : List Value} {abg : Bool} {colg : Option Bool} {ddg : Option Addr} {m0g m1g m2g m3g m5g : Option Value}
    {f_g c_g ccg : Addr} {od_g an_g : Option Addr} {sl_g : Array (Option Value)} {oc_g kV_g dc_g pm_g ct_g : Value} {cclg : Value} {cddg : Option Addr} {vsCg : Array Value} {ccsg : Array (Option Value)} {fileg : Str} {tfg : Tok} {clg : Value} {cldg : Option Addr} {cslg : Array (Option Value)} {cdBg : ClassData}
    {CF : Addr}
    (X : K.In h) (G : h.Ns mainGlobals mg) (hfa : mg "law" = some (.ref fa))
    (z_len : PySem.W.nsIn K mainGlobals "len" = some none)
    (z_range : PySem.W.nsIn K mainGlobals "range" = some none)
    (z_enumerate : PySem.W.nsIn K mainGlobals "enumerate" = some none)
    (z_abs : PySem.W.nsIn K mainGlobals "abs" = some none)
    (z_int : PySem.W.nsIn K mainGlobals "int" = some none)
    (z_list : PySem.W.nsIn K mainGlobals "list" = some none)
    (z_tuple : PySem.W.nsIn K mainGlobals "tuple" = some none)
    (z_sorted : PySem.W.nsIn K mainGlobals "sorted" = some none)
    (z_isinstance : PySem.W.nsIn K mainGlobals "isinstance" = some none)
    (z_str : PySem.W.nsIn K mainGlobals "str" = some none)
    (z_bool : PySem.W.nsIn K mainGlobals "bool" = some none)
    (z_super : PySem.W.nsIn K mainGlobals "super" = some none)
    (z_ValueError : PySem.W.nsIn K mainGlobals "ValueError" = some none)
    (z_all : PySem.W.nsIn K mainGlobals "all" = some none)
    (z_dict : PySem.W.nsIn K mainGlobals "dict" = some none)
    (z_zip : PySem.W.nsIn K mainGlobals "zip" = some none)
    (a_w_stream : PySem.W.nsIn K mainGlobals "_law_stream" = some (some (.ref f_w_stream)))
    (l_w_stream : K.lookup f_w_stream = some ⟨oc_w_stream, od_w_stream, .func (PySem.W.fnOf "_law_stream" "_law_stream" (defArgs sStream) (defBody sStream) (defScope sStream) .none kV_w_stream dc_w_stream pm_w_stream an_w_stream cd_w_stream ct_w_stream), sl_w_stream⟩)
    (c_w_stream : PySem.W.codeIn K cd_w_stream "_law_stream" = true)
    (k_w_stream : PySem.W.keepIn K (.ref f_w_stream) = true)
    (a_w_draw : PySem.W.nsIn K mainGlobals "_law_draw" = some (some (.ref f_w_draw)))
    (l_w_draw : K.lookup f_w_draw = some ⟨oc_w_draw, od_w_draw, .func (PySem.W.fnOf "_law_draw" "_law_draw" (defArgs sDraw) (defBody sDraw) (defScope sDraw) .none kV_w_draw dc_w_draw pm_w_draw an_w_draw cd_w_draw ct_w_draw), sl_w_draw⟩)
    (c_w_draw : PySem.W.codeIn K cd_w_draw "_law_draw" = true)
    (k_w_draw : PySem.W.keepIn K (.ref f_w_draw) = true)
    (a_w_wide : PySem.W.nsIn K mainGlobals "_law_wide" = some (some (.ref f_w_wide)))
    (l_w_wide : K.lookup f_w_wide = some ⟨oc_w_wide, od_w_wide, .func (PySem.W.fnOf "_law_wide" "_law_wide" (defArgs sWide) (defBody sWide) (defScope sWide) .none kV_w_wide dc_w_wide pm_w_wide an_w_wide cd_w_wide ct_w_wide), sl_w_wide⟩)
    (c_w_wide : PySem.W.codeIn K cd_w_wide "_law_wide" = true)
    (k_w_wide : PySem.W.keepIn K (.ref f_w_wide) = true)
    (a_w_value : PySem.W.nsIn K mainGlobals "_law_value" = some (some (.ref f_w_value)))
    (l_w_value : K.lookup f_w_value = some ⟨oc_w_value, od_w_value, .func (PySem.W.fnOf "_law_value" "_law_value" (defArgs sValue) (defBody sValue) (defScope sValue) .none kV_w_value dc_w_value pm_w_value an_w_value cd_w_value ct_w_value), sl_w_value⟩)
    (c_w_value : PySem.W.codeIn K cd_w_value "_law_value" = true)
    (k_w_value : PySem.W.keepIn K (.ref f_w_value) = true)
    (a_w_span : PySem.W.nsIn K mainGlobals "_law_span" = some (some (.ref f_w_span)))
    (l_w_span : K.lookup f_w_span = some ⟨oc_w_span, od_w_span, .func (PySem.W.fnOf "_law_span" "_law_span" (defArgs sSpan) (defBody sSpan) (defScope sSpan) .none kV_w_span dc_w_span pm_w_span an_w_span cd_w_span ct_w_span), sl_w_span⟩)
    (c_w_span : PySem.W.codeIn K cd_w_span "_law_span" = true)
    (k_w_span : PySem.W.keepIn K (.ref f_w_span) = true)
    (a_w_step : PySem.W.nsIn K mainGlobals "_law_step" = some (some (.ref f_w_step)))
    (l_w_step : K.lookup f_w_step = some ⟨oc_w_step, od_w_step, .func (PySem.W.fnOf "_law_step" "_law_step" (defArgs sStep) (defBody sStep) (defScope sStep) .none kV_w_step dc_w_step pm_w_step an_w_step cd_w_step ct_w_step), sl_w_step⟩)
    (c_w_step : PySem.W.codeIn K cd_w_step "_law_step" = true)
    (k_w_step : PySem.W.keepIn K (.ref f_w_step) = true)
    (a_w_letters : PySem.W.nsIn K mainGlobals "_law_letters" = some (some (.ref f_w_letters)))
    (l_w_letters : K.lookup f_w_letters = some ⟨oc_w_letters, od_w_letters, .func (PySem.W.fnOf "_law_letters" "_law_letters" (defArgs sLet) (defBody sLet) (defScope sLet) .none kV_w_letters dc_w_letters pm_w_letters an_w_letters cd_w_letters ct_w_letters), sl_w_letters⟩)
    (c_w_letters : PySem.W.codeIn K cd_w_letters "_law_letters" = true)
    (k_w_letters : PySem.W.keepIn K (.ref f_w_letters) = true)
    (a_w_deeds : PySem.W.nsIn K mainGlobals "_law_deeds" = some (some (.ref f_w_deeds)))
    (l_w_deeds : K.lookup f_w_deeds = some ⟨oc_w_deeds, od_w_deeds, .func (PySem.W.fnOf "_law_deeds" "_law_deeds" (defArgs sDee) (defBody sDee) (defScope sDee) .none kV_w_deeds dc_w_deeds pm_w_deeds an_w_deeds cd_w_deeds ct_w_deeds), sl_w_deeds⟩)
    (c_w_deeds : PySem.W.codeIn K cd_w_deeds "_law_deeds" = true)
    (k_w_deeds : PySem.W.keepIn K (.ref f_w_deeds) = true)
    (a_w_gate : PySem.W.nsIn K mainGlobals "_law_gate" = some (some (.ref f_w_gate)))
    (l_w_gate : K.lookup f_w_gate = some ⟨oc_w_gate, od_w_gate, .func (PySem.W.fnOf "_law_gate" "_law_gate" (defArgs sGa) (defBody sGa) (defScope sGa) .none kV_w_gate dc_w_gate pm_w_gate an_w_gate cd_w_gate ct_w_gate), sl_w_gate⟩)
    (c_w_gate : PySem.W.codeIn K cd_w_gate "_law_gate" = true)
    (k_w_gate : PySem.W.keepIn K (.ref f_w_gate) = true)
    (a_w_mark : PySem.W.nsIn K mainGlobals "_law_mark" = some (some (.ref f_w_mark)))
    (l_w_mark : K.lookup f_w_mark = some ⟨oc_w_mark, od_w_mark, .func (PySem.W.fnOf "_law_mark" "_law_mark" (defArgs sMk) (defBody sMk) (defScope sMk) .none kV_w_mark dc_w_mark pm_w_mark an_w_mark cd_w_mark ct_w_mark), sl_w_mark⟩)
    (c_w_mark : PySem.W.codeIn K cd_w_mark "_law_mark" = true)
    (k_w_mark : PySem.W.keepIn K (.ref f_w_mark) = true)
    (a_w_bounded : PySem.W.nsIn K mainGlobals "_law_bounded" = some (some (.ref f_w_bounded)))
    (l_w_bounded : K.lookup f_w_bounded = some ⟨oc_w_bounded, od_w_bounded, .func (PySem.W.fnOf "_law_bounded" "_law_bounded" (defArgs sBo) (defBody sBo) (defScope sBo) .none kV_w_bounded dc_w_bounded pm_w_bounded an_w_bounded cd_w_bounded ct_w_bounded), sl_w_bounded⟩)
    (c_w_bounded : PySem.W.codeIn K cd_w_bounded "_law_bounded" = true)
    (k_w_bounded : PySem.W.keepIn K (.ref f_w_bounded) = true)
    (a_w_raised : PySem.W.nsIn K mainGlobals "_law_raised" = some (some (.ref f_w_raised)))
    (l_w_raised : K.lookup f_w_raised = some ⟨oc_w_raised, od_w_raised, .func (PySem.W.fnOf "_law_raised" "_law_raised" (defArgs sRd) (defBody sRd) (defScope sRd) .none kV_w_raised dc_w_raised pm_w_raised an_w_raised cd_w_raised ct_w_raised), sl_w_raised⟩)
    (c_w_raised : PySem.W.codeIn K cd_w_raised "_law_raised" = true)
    (k_w_raised : PySem.W.keepIn K (.ref f_w_raised) = true)
    (a_w_holds : PySem.W.nsIn K mainGlobals "_law_holds" = some (some (.ref f_w_holds)))
    (l_w_holds : K.lookup f_w_holds = some ⟨oc_w_holds, od_w_holds, .func (PySem.W.fnOf "_law_holds" "_law_holds" (defArgs sHo) (defBody sHo) (defScope sHo) .none kV_w_holds dc_w_holds pm_w_holds an_w_holds cd_w_holds ct_w_holds), sl_w_holds⟩)
    (c_w_holds : PySem.W.codeIn K cd_w_holds "_law_holds" = true)
    (k_w_holds : PySem.W.keepIn K (.ref f_w_holds) = true)
    (a_w_spoilt : PySem.W.nsIn K mainGlobals "_law_spoilt" = some (some (.ref f_w_spoilt)))
    (l_w_spoilt : K.lookup f_w_spoilt = some ⟨oc_w_spoilt, od_w_spoilt, .func (PySem.W.fnOf "_law_spoilt" "_law_spoilt" (defArgs sSp) (defBody sSp) (defScope sSp) .none kV_w_spoilt dc_w_spoilt pm_w_spoilt an_w_spoilt cd_w_spoilt ct_w_spoilt), sl_w_spoilt⟩)
    (c_w_spoilt : PySem.W.codeIn K cd_w_spoilt "_law_spoilt" = true)
    (k_w_spoilt : PySem.W.keepIn K (.ref f_w_spoilt) = true)
    (a_w_fits : PySem.W.nsIn K mainGlobals "_law_fits" = some (some (.ref f_w_fits)))
    (l_w_fits : K.lookup f_w_fits = some ⟨oc_w_fits, od_w_fits, .func (PySem.W.fnOf "_law_fits" "_law_fits" (defArgs sFits) (defBody sFits) (defScope sFits) .none kV_w_fits dc_w_fits pm_w_fits an_w_fits cd_w_fits ct_w_fits), sl_w_fits⟩)
    (c_w_fits : PySem.W.codeIn K cd_w_fits "_law_fits" = true)
    (k_w_fits : PySem.W.keepIn K (.ref f_w_fits) = true)
    (a_w_world : PySem.W.nsIn K mainGlobals "_law_world" = some (some (.ref f_w_world)))
    (l_w_world : K.lookup f_w_world = some ⟨oc_w_world, od_w_world, .func (PySem.W.fnOf "_law_world" "_law_world" (defArgs sWor) (defBody sWor) (defScope sWor) .none kV_w_world dc_w_world pm_w_world an_w_world cd_w_world ct_w_world), sl_w_world⟩)
    (c_w_world : PySem.W.codeIn K cd_w_world "_law_world" = true)
    (k_w_world : PySem.W.keepIn K (.ref f_w_world) = true)
    (a_w_all_fit : PySem.W.nsIn K mainGlobals "_law_all_fit" = some (some (.ref f_w_all_fit)))
    (l_w_all_fit : K.lookup f_w_all_fit = some ⟨oc_w_all_fit, od_w_all_fit, .func (PySem.W.fnOf "_law_all_fit" "_law_all_fit" (defArgs sAf) (defBody sAf) (defScope sAf) .none kV_w_all_fit dc_w_all_fit pm_w_all_fit an_w_all_fit cd_w_all_fit ct_w_all_fit), sl_w_all_fit⟩)
    (c_w_all_fit : PySem.W.codeIn K cd_w_all_fit "_law_all_fit" = true)
    (k_w_all_fit : PySem.W.keepIn K (.ref f_w_all_fit) = true)
    (a_law : PySem.W.nsIn K mainGlobals "law" = some (some (.ref f_law)))
    (l_law : K.lookup f_law = some ⟨oc_law, od_law, .func (PySem.W.fnOf "law" "law" (defArgs sLaw) (defBody sLaw) (defScope sLaw) .none kV_law dc_law pm_law an_law cd_law ct_law), sl_law⟩)
    (c_law : PySem.W.codeIn K cd_law "law" = true)
    (k_law : PySem.W.keepIn K (.ref f_law) = true)
    (a_consists_of : PySem.W.nsIn K mainGlobals "consists_of" = some (some (.ref f_consists_of)))
    (l_consists_of : K.lookup f_consists_of = some ⟨oc_consists_of, od_consists_of, .func (PySem.W.fnOf "consists_of" "consists_of" (defArgs sCon) (defBody sCon) (defScope sCon) .none kV_consists_of dc_consists_of pm_consists_of an_consists_of cd_consists_of ct_consists_of), sl_consists_of⟩)
    (c_consists_of : PySem.W.codeIn K cd_consists_of "consists_of" = true)
    (k_consists_of : PySem.W.keepIn K (.ref f_consists_of) = true)
    (a_is_name : PySem.W.nsIn K mainGlobals "is_name" = some (some (.ref f_is_name)))
    (l_is_name : K.lookup f_is_name = some ⟨oc_is_name, od_is_name, .func (PySem.W.fnOf "is_name" "is_name" (defArgs sIN) (defBody sIN) (defScope sIN) .none kV_is_name dc_is_name pm_is_name an_is_name cd_is_name ct_is_name), sl_is_name⟩)
    (c_is_name : PySem.W.codeIn K cd_is_name "is_name" = true)
    (k_is_name : PySem.W.keepIn K (.ref f_is_name) = true)
    (a_fitting : PySem.W.nsIn K mainGlobals "fitting" = some (some (.ref f_fitting)))
    (l_fitting : K.lookup f_fitting = some ⟨oc_fitting, od_fitting, .func (PySem.W.fnOf "fitting" "fitting" (defArgs sFt) (defBody sFt) (defScope sFt) .none kV_fitting dc_fitting pm_fitting an_fitting cd_fitting ct_fitting), sl_fitting⟩)
    (c_fitting : PySem.W.codeIn K cd_fitting "fitting" = true)
    (k_fitting : PySem.W.keepIn K (.ref f_fitting) = true)
    (n_L : PySem.W.nsIn K mainGlobals "LONGEST_NAME" = some (some (.int 8 tL)))
    (n_S : PySem.W.nsIn K mainGlobals "LETTERS" = some (some (.str "abcdefghijklmnopqrstuvwxyz" tS)))
    (a_G : PySem.W.nsIn K mainGlobals "Gate" = some (some (.ref CG)))
    (pg_G : PySem.W.plainGet K CG Str.empty = true)
    (hd_G : PySem.W.hasDictIn K CG = true)
    (po_G : PySem.W.plainOver K CG = true)
    (sa_G : PySem.W.findIn K (.ref CG) "__setattr__" = some (some (.builtin "object.__setattr__")))
    (no_G0 : PySem.W.findIn K (.ref CG) "_floor" = some none)
    (no_G1 : PySem.W.findIn K (.ref CG) "_finished" = some none)
    (no_G2 : PySem.W.findIn K (.ref CG) "_letters" = some none)
    (no_G3 : PySem.W.findIn K (.ref CG) "_floored" = some none)
    (no_G4 : PySem.W.findIn K (.ref CG) "_late" = some none)
    (mk_G : PySem.W.makesIn K CG = true)
    (kc_G : PySem.W.keepIn K (.ref CG) = true)
    (a_gi : PySem.W.findIn K (.ref CG) "__init__" = some (some (.ref f_gi)))
    (i_gi : PySem.W.isFn K (.ref f_gi) = true)
    (l_gi : K.lookup f_gi = some ⟨oc_gi, od_gi, .func (PySem.W.fnOf "__init__" "Gate.__init__" (defArgs sGI) (defBody sGI) (defScope sGI) .none kV_gi dc_gi pm_gi an_gi cd_gi ct_gi), sl_gi⟩)
    (c_gi : PySem.W.codeIn K cd_gi "Gate.__init__" = true)
    (k_gi : PySem.W.keepIn K (.ref f_gi) = true)
    (a_mlets_in : PySem.W.findIn K (.ref CG) "lets_in" = some (some (.ref f_mlets_in)))
    (i_mlets_in : PySem.W.isFn K (.ref f_mlets_in) = true)
    (l_mlets_in : K.lookup f_mlets_in = some ⟨oc_mlets_in, od_mlets_in, .func (PySem.W.fnOf "lets_in" "Gate.lets_in" (defArgs sLi) (defBody sLi) (defScope sLi) .none kV_mlets_in dc_mlets_in pm_mlets_in an_mlets_in cd_mlets_in ct_mlets_in), sl_mlets_in⟩)
    (c_mlets_in : PySem.W.codeIn K cd_mlets_in "Gate.lets_in" = true)
    (k_mlets_in : PySem.W.keepIn K (.ref f_mlets_in) = true)
    (a_mevent : PySem.W.findIn K (.ref CG) "event" = some (some (.ref f_mevent)))
    (i_mevent : PySem.W.isFn K (.ref f_mevent) = true)
    (l_mevent : K.lookup f_mevent = some ⟨oc_mevent, od_mevent, .func (PySem.W.fnOf "event" "Gate.event" (defArgs sEv) (defBody sEv) (defScope sEv) .none kV_mevent dc_mevent pm_mevent an_mevent cd_mevent ct_mevent), sl_mevent⟩)
    (c_mevent : PySem.W.codeIn K cd_mevent "Gate.event" = true)
    (k_mevent : PySem.W.keepIn K (.ref f_mevent) = true)
    (a_mraise_floor : PySem.W.findIn K (.ref CG) "raise_floor" = some (some (.ref f_mraise_floor)))
    (i_mraise_floor : PySem.W.isFn K (.ref f_mraise_floor) = true)
    (l_mraise_floor : K.lookup f_mraise_floor = some ⟨oc_mraise_floor, od_mraise_floor, .func (PySem.W.fnOf "raise_floor" "Gate.raise_floor" (defArgs sRa) (defBody sRa) (defScope sRa) .none kV_mraise_floor dc_mraise_floor pm_mraise_floor an_mraise_floor cd_mraise_floor ct_mraise_floor), sl_mraise_floor⟩)
    (c_mraise_floor : PySem.W.codeIn K cd_mraise_floor "Gate.raise_floor" = true)
    (k_mraise_floor : PySem.W.keepIn K (.ref f_mraise_floor) = true)
    (a_mfinish : PySem.W.findIn K (.ref CG) "finish" = some (some (.ref f_mfinish)))
    (i_mfinish : PySem.W.isFn K (.ref f_mfinish) = true)
    (l_mfinish : K.lookup f_mfinish = some ⟨oc_mfinish, od_mfinish, .func (PySem.W.fnOf "finish" "Gate.finish" (defArgs sFi) (defBody sFi) (defScope sFi) .none kV_mfinish dc_mfinish pm_mfinish an_mfinish cd_mfinish ct_mfinish), sl_mfinish⟩)
    (c_mfinish : PySem.W.codeIn K cd_mfinish "Gate.finish" = true)
    (k_mfinish : PySem.W.keepIn K (.ref f_mfinish) = true)
    (a_mtake : PySem.W.findIn K (.ref CG) "take" = some (some (.ref f_mtake)))
    (i_mtake : PySem.W.isFn K (.ref f_mtake) = true)
    (l_mtake : K.lookup f_mtake = some ⟨oc_mtake, od_mtake, .func (PySem.W.fnOf "take" "Gate.take" (defArgs sTk) (defBody sTk) (defScope sTk) .none kV_mtake dc_mtake pm_mtake an_mtake cd_mtake ct_mtake), sl_mtake⟩)
    (c_mtake : PySem.W.codeIn K cd_mtake "Gate.take" = true)
    (k_mtake : PySem.W.keepIn K (.ref f_mtake) = true)
    (a_mletters_of : PySem.W.findIn K (.ref CG) "letters_of" = some (some (.ref f_mletters_of)))
    (i_mletters_of : PySem.W.isFn K (.ref f_mletters_of) = true)
    (l_mletters_of : K.lookup f_mletters_of = some ⟨oc_mletters_of, od_mletters_of, .func (PySem.W.fnOf "letters_of" "Gate.letters_of" (defArgs sLo) (defBody sLo) (defScope sLo) .none kV_mletters_of dc_mletters_of pm_mletters_of an_mletters_of cd_mletters_of ct_mletters_of), sl_mletters_of⟩)
    (c_mletters_of : PySem.W.codeIn K cd_mletters_of "Gate.letters_of" = true)
    (k_mletters_of : PySem.W.keepIn K (.ref f_mletters_of) = true)
    (a_mcount_of : PySem.W.findIn K (.ref CG) "count_of" = some (some (.ref f_mcount_of)))
    (i_mcount_of : PySem.W.isFn K (.ref f_mcount_of) = true)
    (l_mcount_of : K.lookup f_mcount_of = some ⟨oc_mcount_of, od_mcount_of, .func (PySem.W.fnOf "count_of" "Gate.count_of" (defArgs sCo) (defBody sCo) (defScope sCo) .none kV_mcount_of dc_mcount_of pm_mcount_of an_mcount_of cd_mcount_of ct_mcount_of), sl_mcount_of⟩)
    (c_mcount_of : PySem.W.codeIn K cd_mcount_of "Gate.count_of" = true)
    (k_mcount_of : PySem.W.keepIn K (.ref f_mcount_of) = true)
    (a_mmark_of : PySem.W.findIn K (.ref CG) "mark_of" = some (some (.ref f_mmark_of)))
    (i_mmark_of : PySem.W.isFn K (.ref f_mmark_of) = true)
    (l_mmark_of : K.lookup f_mmark_of = some ⟨oc_mmark_of, od_mmark_of, .func (PySem.W.fnOf "mark_of" "Gate.mark_of" (defArgs sMo) (defBody sMo) (defScope sMo) .none kV_mmark_of dc_mmark_of pm_mmark_of an_mmark_of cd_mmark_of ct_mmark_of), sl_mmark_of⟩)
    (c_mmark_of : PySem.W.codeIn K cd_mmark_of "Gate.mark_of" = true)
    (k_mmark_of : PySem.W.keepIn K (.ref f_mmark_of) = true)
    (a_mtwin : PySem.W.findIn K (.ref CG) "twin" = some (some (.ref f_mtwin)))
    (i_mtwin : PySem.W.isFn K (.ref f_mtwin) = true)
    (l_mtwin : K.lookup f_mtwin = some ⟨oc_mtwin, od_mtwin, .func (PySem.W.fnOf "twin" "Gate.twin" (defArgs sTw) (defBody sTw) (defScope sTw) .none kV_mtwin dc_mtwin pm_mtwin an_mtwin cd_mtwin ct_mtwin), sl_mtwin⟩)
    (c_mtwin : PySem.W.codeIn K cd_mtwin "Gate.twin" = true)
    (k_mtwin : PySem.W.keepIn K (.ref f_mtwin) = true)
    (a_mrefuse_if_finished : PySem.W.findIn K (.ref CG) "_refuse_if_finished" = some (some (.ref f_mrefuse_if_finished)))
    (i_mrefuse_if_finished : PySem.W.isFn K (.ref f_mrefuse_if_finished) = true)
    (l_mrefuse_if_finished : K.lookup f_mrefuse_if_finished = some ⟨oc_mrefuse_if_finished, od_mrefuse_if_finished, .func (PySem.W.fnOf "_refuse_if_finished" "Gate._refuse_if_finished" (defArgs sRf) (defBody sRf) (defScope sRf) .none kV_mrefuse_if_finished dc_mrefuse_if_finished pm_mrefuse_if_finished an_mrefuse_if_finished cd_mrefuse_if_finished ct_mrefuse_if_finished), sl_mrefuse_if_finished⟩)
    (c_mrefuse_if_finished : PySem.W.codeIn K cd_mrefuse_if_finished "Gate._refuse_if_finished" = true)
    (k_mrefuse_if_finished : PySem.W.keepIn K (.ref f_mrefuse_if_finished) = true)
    (a_pfloor : PySem.W.findIn K (.ref CG) "floor" = some (some (.ref P_pfloor)))
    (g_pfloor : PySem.W.specialIn K (.ref P_pfloor) "__get__" = some (some (.builtin "property.__get__")))
    (t_pfloor : PySem.W.takesIn K (.ref P_pfloor) = some true)
    (r__pfloor : PySem.W.recIn K P_pfloor "property" = some (.ref f_pfloor :: r_pfloor))
    (l_pfloor : K.lookup f_pfloor = some ⟨oc_pfloor, od_pfloor, .func (PySem.W.fnOf "floor" "Gate.floor" (defArgs sGf) (defBody sGf) (defScope sGf) .none kV_pfloor dc_pfloor pm_pfloor an_pfloor cd_pfloor ct_pfloor), sl_pfloor⟩)
    (c_pfloor : PySem.W.codeIn K cd_pfloor "Gate.floor" = true)
    (k_pfloor : PySem.W.keepIn K (.ref f_pfloor) = true)
    (b_op : PySem.W.nsIn K cStatics "thirdparty.any" = some none)
    (w_hn : PySem.W.specialIn K (.builtin "object.__class__") "__get__" = some (some (.builtin "getset_descriptor.__get__")))
    (w_ht : PySem.W.takesIn K (.builtin "object.__class__") = some true)
    (g_a : PySem.W.nsIn K mainGlobals "BadName" = some (some (.ref CB)))
    (g_ex : PySem.W.subIn K (.ref CB) (.type "BaseException") = some true)
    (g_ty : PySem.W.typeIn K (.ref CB) = some (.type "type"))
    (g_k : PySem.W.keepIn K (.ref CB) = true)
    (g_ga : PySem.W.findIn K (.ref CB) "__getattribute__" = some (some (.builtin "BaseException.__getattribute__")))
    (g_gt : PySem.W.findIn K (.ref CB) "__getattr__" = some none)
    (g_hd : PySem.W.hasDictIn K CB = true)
    (g_ss : PySem.W.subIn K (.ref CB) (.ref CB) = some true)
    (g_hc : PySem.W.findIn K (.ref CB) "__class__" = some (some (.builtin "object.__class__")))
    (g_ho : PySem.W.mroIn K CB (.type "object") = some true)
    (g_ce : (PySem.W.clsIn K CB).isSome = true)
    (g_l : K.lookup CB = some (excClassObj nmg qg CB NBg bsg bmg true sng subg abg colg ddg m0g m1g m2g m3g m5g "ValueError.__new__"))
    (g_v : PySem.HandSPX.refsVE bmg = true)
    (g_sa : PySem.W.findIn K (.ref CB) "__setattr__" = some (some (.builtin "object.__setattr__")))
    (g_i : PySem.W.findIn K (.ref CB) "__init__" = some (some (.ref f_g)))
    (g_it : PySem.W.typeIn K (.ref f_g) = some (.type "function"))
    (g_il : K.lookup f_g = some ⟨oc_g, od_g, .func (PySem.W.ksFn "__init__" "BadName.__init__" (defArgs sInig) (defBody sInig) (defScope sInig) .none kV_g dc_g pm_g an_g (.ref c_g) ct_g ccg), sl_g⟩)
    (g_ic : PySem.W.codeIn K (.ref c_g) "BadName.__init__" = true)
    (g_cl : K.lookup c_g = some ⟨cclg, cddg, .fields vsCg, ccsg⟩)
    (g_cf : vsCg[2]? = some (.str fileg tfg))
    (g_fi : ((PySem.Challenge.rw_movedstates_k06_marks_stay_true.prog.main.file : Str) == fileg) = true)
    (g_cc : K.lookup ccg = some ⟨clg, cldg, .cell (some (.ref CB)), cslg⟩)
    (g_se : PySem.W.mroIn K CB (.ref CB) = some true)
    (g_ve : PySem.W.mroIn K CB (.type "ValueError") = some true)
    (g_su : PySem.W.ks_superIn K CB CB "__init__" = some (some (.builtin "ValueError.__init__")))
    (g_cd : PySem.W.clsIn K CB = some cdBg)
    (g_no : PySem.W.findIn K (.ref CB) "name" = some none)
    (y_a : PySem.W.nsIn K mainGlobals "Finished" = some (some (.ref CF)))
    (y_ex : PySem.W.subIn K (.ref CF) (.type "BaseException") = some true)
    (y_ty : PySem.W.typeIn K (.ref CF) = some (.type "type"))
    (y_k : PySem.W.keepIn K (.ref CF) = true)
    (y_ga : PySem.W.findIn K (.ref CF) "__getattribute__" = some (some (.builtin "BaseException.__getattribute__")))
    (y_gt : PySem.W.findIn K (.ref CF) "__getattr__" = some none)
    (y_hd : PySem.W.hasDictIn K CF = true)
    (y_ss : PySem.W.subIn K (.ref CF) (.ref CF) = some true)
    (y_hc : PySem.W.findIn K (.ref CF) "__class__" = some (some (.builtin "object.__class__")))
    (y_ho : PySem.W.mroIn K CF (.type "object") = some true)
    (y_ce : (PySem.W.clsIn K CF).isSome = true)
    (y_xi : PySem.W.excIn K CF [.type "ValueError", .type "Exception", .type "BaseException", .type "object"] "ValueError.__new__" = true) :
    LamX.LawAtS rwK w K CX0 8 63 "_law_script" mg fa h := by
  cases hfa.symm.trans (PySem.W.mg_of X G a_law)
  have B : Bi mg := ⟨PySem.W.mg_none_of X G z_len, PySem.W.mg_none_of X G z_range, PySem.W.mg_none_of X G z_enumerate, PySem.W.mg_none_of X G z_abs, PySem.W.mg_none_of X G z_int, PySem.W.mg_none_of X G z_list, PySem.W.mg_none_of X G z_tuple, PySem.W.mg_none_of X G z_sorted, PySem.W.mg_none_of X G z_isinstance, PySem.W.mg_none_of X G z_str, PySem.W.mg_none_of X G z_bool, PySem.W.mg_none_of X G z_super, PySem.W.mg_none_of X G z_ValueError⟩
  have F_w_stream := fun_mk (st := sStream) l_w_stream c_w_stream k_w_stream
  have b_w_stream := F_w_stream.binds (ps := ["_law_script"]) fun _ _ _ _ _ _ us hl => match us, hl with | [_], _ => rfl
  have F_w_draw := fun_mk (st := sDraw) l_w_draw c_w_draw k_w_draw
  have b_w_draw := F_w_draw.binds (ps := ["_law_stream_here", "_law_many"]) fun _ _ _ _ _ _ us hl => match us, hl with | [_, _], _ => rfl
  have F_w_wide := fun_mk (st := sWide) l_w_wide c_w_wide k_w_wide
  have b_w_wide := F_w_wide.binds (ps := ["_law_stream_here"]) fun _ _ _ _ _ _ us hl => match us, hl with | [_], _ => rfl
  have F_w_value := fun_mk (st := sValue) l_w_value c_w_value k_w_value
  have b_w_value := F_w_value.binds (ps := ["_law_stream_here", "_law_style"]) fun _ _ _ _ _ _ us hl => match us, hl with | [_, _], _ => rfl
  have F_w_span := fun_mk (st := sSpan) l_w_span c_w_span k_w_span
  have b_w_span := F_w_span.binds (ps := ["_law_stream_here"]) fun _ _ _ _ _ _ us hl => match us, hl with | [_], _ => rfl
  have F_w_step := fun_mk (st := sStep) l_w_step c_w_step k_w_step
  have b_w_step := F_w_step.binds (ps := ["_law_stream_here", "_law_span_here"]) fun _ _ _ _ _ _ us hl => match us, hl with | [_, _], _ => rfl
  have F_w_letters := fun_mk (st := sLet) l_w_letters c_w_letters k_w_letters
  have b_w_letters := F_w_letters.binds (ps := ["_law_stream_here", "_law_count", "_law_span_here", "_law_style"]) fun _ _ _ _ _ _ us hl => match us, hl with | [_, _, _, _], _ => rfl
  have F_w_deeds := fun_mk (st := sDee) l_w_deeds c_w_deeds k_w_deeds
  have b_w_deeds := F_w_deeds.binds (ps := ["_law_stream_here", "_law_count", "_law_names", "_law_spots", "_law_span_here", "_law_style"]) fun _ _ _ _ _ _ us hl => match us, hl with | [_, _, _, _, _, _], _ => rfl
  have F_w_gate := fun_mk (st := sGa) l_w_gate c_w_gate k_w_gate
  have b_w_gate := F_w_gate.binds (ps := ["_law_deeds_here"]) fun _ _ _ _ _ _ us hl => match us, hl with | [_], _ => rfl
  have F_w_mark := fun_mk (st := sMk) l_w_mark c_w_mark k_w_mark
  have b_w_mark := F_w_mark.binds (ps := ["_law_state", "_law_name"]) fun _ _ _ _ _ _ us hl => match us, hl with | [_, _], _ => rfl
  have F_w_bounded := fun_mk (st := sBo) l_w_bounded c_w_bounded k_w_bounded
  have b_w_bounded := F_w_bounded.binds (ps := ["_law_gate_here", "_law_state", "_law_name"]) fun _ _ _ _ _ _ us hl => match us, hl with | [_, _, _], _ => rfl
  have F_w_raised := fun_mk (st := sRd) l_w_raised c_w_raised k_w_raised
  have b_w_raised := F_w_raised.binds (ps := ["_law_gate_here", "_law_state", "_law_name"]) fun _ _ _ _ _ _ us hl => match us, hl with | [_, _, _], _ => rfl
  have F_w_holds := fun_mk (st := sHo) l_w_holds c_w_holds k_w_holds
  have b_w_holds := F_w_holds.binds (ps := ["_law_mark_here", "_law_letters_here"]) fun _ _ _ _ _ _ us hl => match us, hl with | [_, _], _ => rfl
  have F_w_spoilt := fun_mk (st := sSp) l_w_spoilt c_w_spoilt k_w_spoilt
  have b_w_spoilt := F_w_spoilt.binds (ps := ["_law_stream_here", "_law_letters_here"]) fun _ _ _ _ _ _ us hl => match us, hl with | [_, _], _ => rfl
  have F_w_fits := fun_mk (st := sFits) l_w_fits c_w_fits k_w_fits
  have b_w_fits := F_w_fits.binds (ps := ["_law_letters_here"]) fun _ _ _ _ _ _ us hl => match us, hl with | [_], _ => rfl
  have F_w_world := fun_mk (st := sWor) l_w_world c_w_world k_w_world
  have b_w_world := F_w_world.binds (ps := ["_law_stream_here"]) fun _ _ _ _ _ _ us hl => match us, hl with | [_], _ => rfl
  have F_w_all_fit := fun_mk (st := sAf) l_w_all_fit c_w_all_fit k_w_all_fit
  have b_w_all_fit := F_w_all_fit.binds (ps := ["_law_stream_here", "_law_gate_here", "_law_names"]) fun _ _ _ _ _ _ us hl => match us, hl with | [_, _, _], _ => rfl
  have F_law := fun_mk (st := sLaw) l_law c_law k_law
  have b_law := F_law.binds (ps := ["_law_script"]) fun _ _ _ _ _ _ us hl => match us, hl with | [_], _ => rfl
  have F_consists_of := fun_mk (st := sCon) l_consists_of c_consists_of k_consists_of
  have b_consists_of := F_consists_of.binds (ps := ["text", "signs"]) fun _ _ _ _ _ _ us hl => match us, hl with | [_, _], _ => rfl
  have F_is_name := fun_mk (st := sIN) l_is_name c_is_name k_is_name
  have b_is_name := F_is_name.binds (ps := ["text"]) fun _ _ _ _ _ _ us hl => match us, hl with | [_], _ => rfl
  have F_fitting := fun_mk (st := sFt) l_fitting c_fitting k_fitting
  have b_fitting := F_fitting.binds (ps := ["letters"]) fun _ _ _ _ _ _ us hl => match us, hl with | [_], _ => rfl
  have F_gi := fun_mk (st := sGI) l_gi c_gi k_gi
  have b_gi := F_gi.binds (ps := ["self"]) fun _ _ _ _ _ _ us hl => match us, hl with | [_], _ => rfl
  have F_mlets_in := fun_mk (st := sLi) l_mlets_in c_mlets_in k_mlets_in
  have b_mlets_in := F_mlets_in.binds (ps := ["self", "key", "time"]) fun _ _ _ _ _ _ us hl => match us, hl with | [_, _, _], _ => rfl
  have F_mevent := fun_mk (st := sEv) l_mevent c_mevent k_mevent
  have b_mevent := F_mevent.binds (ps := ["self", "key", "time", "value"]) fun _ _ _ _ _ _ us hl => match us, hl with | [_, _, _, _], _ => rfl
  have F_mraise_floor := fun_mk (st := sRa) l_mraise_floor c_mraise_floor k_mraise_floor
  have b_mraise_floor := F_mraise_floor.binds (ps := ["self", "time"]) fun _ _ _ _ _ _ us hl => match us, hl with | [_, _], _ => rfl
  have F_mfinish := fun_mk (st := sFi) l_mfinish c_mfinish k_mfinish
  have b_mfinish := F_mfinish.binds (ps := ["self"]) fun _ _ _ _ _ _ us hl => match us, hl with | [_], _ => rfl
  have F_mtake := fun_mk (st := sTk) l_mtake c_mtake k_mtake
  have b_mtake := F_mtake.binds (ps := ["self", "deed"]) fun _ _ _ _ _ _ us hl => match us, hl with | [_, _], _ => rfl
  have F_mletters_of := fun_mk (st := sLo) l_mletters_of c_mletters_of k_mletters_of
  have b_mletters_of := F_mletters_of.binds (ps := ["self", "key"]) fun _ _ _ _ _ _ us hl => match us, hl with | [_, _], _ => rfl
  have F_mcount_of := fun_mk (st := sCo) l_mcount_of c_mcount_of k_mcount_of
  have b_mcount_of := F_mcount_of.binds (ps := ["self", "key"]) fun _ _ _ _ _ _ us hl => match us, hl with | [_, _], _ => rfl
  have F_mmark_of := fun_mk (st := sMo) l_mmark_of c_mmark_of k_mmark_of
  have b_mmark_of := F_mmark_of.binds (ps := ["self", "key"]) fun _ _ _ _ _ _ us hl => match us, hl with | [_, _], _ => rfl
  have F_mtwin := fun_mk (st := sTw) l_mtwin c_mtwin k_mtwin
  have b_mtwin := F_mtwin.binds (ps := ["self"]) fun _ _ _ _ _ _ us hl => match us, hl with | [_], _ => rfl
  have F_mrefuse_if_finished := fun_mk (st := sRf) l_mrefuse_if_finished c_mrefuse_if_finished k_mrefuse_if_finished
  have b_mrefuse_if_finished := F_mrefuse_if_finished.binds (ps := ["self"]) fun _ _ _ _ _ _ us hl => match us, hl with | [_], _ => rfl
  have F_pfloor := fun_mk (st := sGf) l_pfloor c_pfloor k_pfloor
  have b_pfloor := F_pfloor.binds (ps := ["self"]) fun _ _ _ _ _ _ us hl => match us, hl with | [_], _ => rfl
  have clG : Cls K CG := ⟨pg_G, hd_G, po_G, sa_G⟩
  have GX : GtX K CG := ⟨clG, no_G0, no_G1, no_G2, no_G3, no_G4⟩
  have N : NmX mg := ⟨⟨_, PySem.W.mg_of X G n_L⟩, ⟨_, PySem.W.mg_of X G n_S⟩⟩
  have OEg : OexC K CB := ⟨⟨_, _, _, _, _, _, _, _, _, _, _, _, _, _, _, g_l, g_v⟩, g_sa, g_ex, g_ty, g_k⟩
  have Ug : SupK rwK.prog K f_g c_g ccg CB := ⟨OEg, ⟨_, _, _, _, _, _, g_cl, g_cf, g_fi⟩, ⟨_, _, _, g_cc⟩, by decide +kernel, g_se, g_ve, b_op, g_su, ⟨_, g_cd⟩⟩
  have EXg : ExcG K CB := ⟨⟨g_ga, g_gt, g_ex, g_hd, g_hc, w_hn, w_ht, g_ho⟩, g_ce⟩
  have EXy : ExcG K CF := ⟨⟨y_ga, y_gt, y_ex, y_hd, y_hc, w_hn, w_ht, y_ho⟩, y_ce⟩
  have NTy : NTx K mg "Finished" CF := ⟨y_xi, PySem.W.mg_of X G y_a, y_k, y_ex, y_ty⟩
  refine ⟨PySem.W.fnOf "law" "law" (defArgs sLaw) (defBody sLaw) (defScope sLaw) .none kV_law dc_law pm_law an_law cd_law ct_law, [], spLaw K, fun p hp => (by cases hp), fun p hp => (by cases hp), fun p hp => (by cases hp), fun s u => .of_eq rfl, fun H a ns hl _ hH hS => ⟨a, ns, rfl, hS, hl, fun _ => rfl⟩, fun base KB GB TB => ?_⟩
  have GT : FTx rwK.prog w K mg base CB := ⟨OEg, PySem.W.mg_of X G g_a, ⟨f_g, _, g_i, g_it, ok_inig g_il g_ic Ug B.super g_no, bind_inig⟩⟩
  have Y : MkX rwK.prog w K mg base CG := ⟨⟨f_gi, _, ⟨mk_G, a_gi, i_gi, kc_G⟩, ok_gi F_gi B GX, b_gi⟩, PySem.W.mg_of X G a_G⟩
  have pr_floor : PrX rwK.prog w K mg base CG "floor" (spGf CG) := ⟨P_pfloor, f_pfloor, _, ⟨a_pfloor, g_pfloor, t_pfloor, ⟨_, r__pfloor⟩⟩, ok_gf F_pfloor B GX, b_pfloor⟩
  have c_w_streamx : CalX CX0 rwK.prog w K mg base 1 "_law_stream" (spStream K) := cal_of F_w_stream (PySem.W.mg_of X G a_w_stream) b_w_stream (ok_stream F_w_stream B)
  have c_w_drawx : CalX CX0 rwK.prog w K mg base 1 "_law_draw" spDraw := cal_of F_w_draw (PySem.W.mg_of X G a_w_draw) b_w_draw (ok_draw F_w_draw B)
  have c_w_widex : CalX CX0 rwK.prog w K mg base 2 "_law_wide" spWide := cal_of F_w_wide (PySem.W.mg_of X G a_w_wide) b_w_wide (ok_wide F_w_wide B c_w_drawx)
  have c_w_valuex : CalX CX0 rwK.prog w K mg base 3 "_law_value" spValue := cal_of F_w_value (PySem.W.mg_of X G a_w_value) b_w_value (ok_value F_w_value B c_w_drawx c_w_widex)
  have c_w_spanx : CalX CX0 rwK.prog w K mg base 2 "_law_span" spSpan := cal_of F_w_span (PySem.W.mg_of X G a_w_span) b_w_span (ok_span F_w_span B c_w_drawx)
  have c_w_stepx : CalX CX0 rwK.prog w K mg base 2 "_law_step" spStep := cal_of F_w_step (PySem.W.mg_of X G a_w_step) b_w_step (ok_step F_w_step B c_w_drawx)
  have c_consists_ofx : CalX CX0 rwK.prog w K mg base 1 "consists_of" spCon := cal_of F_consists_of (PySem.W.mg_of X G a_consists_of) b_consists_of (ok_con F_consists_of B (PySem.W.mg_none_of X G z_all))
  have c_is_namex : CalX CX0 rwK.prog w K mg base 2 "is_name" spIN := cal_of F_is_name (PySem.W.mg_of X G a_is_name) b_is_name (ok_in F_is_name B N c_consists_ofx)
  have m_refuse_if_finished : MetX (L2.CX rwK.prog w) rwK.prog w K mg base 1 CG "_refuse_if_finished" (spRf CG CF) := ⟨_, _, _, clG, ⟨a_mrefuse_if_finished, i_mrefuse_if_finished, k_mrefuse_if_finished⟩, ok_rf F_mrefuse_if_finished B GX NTy, b_mrefuse_if_finished⟩
  have m_count_of : MetX CX0 rwK.prog w K mg base 1 CG "count_of" (spCo CG) := ⟨_, _, _, clG, ⟨a_mcount_of, i_mcount_of, k_mcount_of⟩, ok_co F_mcount_of B GX, b_mcount_of⟩
  have m_letters_of : MetX CX0 rwK.prog w K mg base 1 CG "letters_of" (spLo CG) := ⟨_, _, _, clG, ⟨a_mletters_of, i_mletters_of, k_mletters_of⟩, ok_lo F_mletters_of B GX, b_mletters_of⟩
  have m_lets_in : MetX CX0 rwK.prog w K mg base 3 CG "lets_in" (spLi CG) := ⟨_, _, _, clG, ⟨a_mlets_in, i_mlets_in, k_mlets_in⟩, ok_li F_mlets_in B GX c_is_namex, b_mlets_in⟩
  have m_mark_of : MetX CX0 rwK.prog w K mg base 2 CG "mark_of" (spMo CG) := ⟨_, _, _, clG, ⟨a_mmark_of, i_mmark_of, k_mmark_of⟩, ok_mo F_mmark_of B GX m_count_of, b_mmark_of⟩
  have m_finish : MetX (L2.CX rwK.prog w) rwK.prog w K mg base 2 CG "finish" (spFi CG CF) := ⟨_, _, _, clG, ⟨a_mfinish, i_mfinish, k_mfinish⟩, ok_fi F_mfinish B GX m_refuse_if_finished, b_mfinish⟩
  have m_event : MetX (L2.CX rwK.prog w) rwK.prog w K mg base 4 CG "event" (spEv CG CF CB) := ⟨_, _, _, clG, ⟨a_mevent, i_mevent, k_mevent⟩, ok_ev F_mevent B GX GT m_refuse_if_finished c_is_namex m_lets_in m_count_of, b_mevent⟩
  have m_raise_floor : MetX (L2.CX rwK.prog w) rwK.prog w K mg base 2 CG "raise_floor" (spRa CG CF) := ⟨_, _, _, clG, ⟨a_mraise_floor, i_mraise_floor, k_mraise_floor⟩, ok_ra F_mraise_floor B GX m_refuse_if_finished, b_mraise_floor⟩
  have m_take : MetX (L2.CX rwK.prog w) rwK.prog w K mg base 5 CG "take" (spTk CG CF CB) := ⟨_, _, _, clG, ⟨a_mtake, i_mtake, k_mtake⟩, ok_tk F_mtake B GX m_refuse_if_finished m_event m_raise_floor m_finish, b_mtake⟩
  have m_twin : MetX CX0 rwK.prog w K mg base 3 CG "twin" (spTw CG) := ⟨_, _, _, clG, ⟨a_mtwin, i_mtwin, k_mtwin⟩, ok_tw F_mtwin B (PySem.W.mg_none_of X G z_dict) GX Y, b_mtwin⟩
  have c_w_deedsx : CalX CX0 rwK.prog w K mg base 4 "_law_deeds" spDee := cal_of F_w_deeds (PySem.W.mg_of X G a_w_deeds) b_w_deeds (ok_dee F_w_deeds B c_w_drawx c_w_valuex c_w_stepx)
  have c_w_gatex : CalX CX0 rwK.prog w K mg base 1 "_law_gate" spGa := cal_of F_w_gate (PySem.W.mg_of X G a_w_gate) b_w_gate (ok_ga F_w_gate B)
  have c_w_lettersx : CalX CX0 rwK.prog w K mg base 4 "_law_letters" spLet := cal_of F_w_letters (PySem.W.mg_of X G a_w_letters) b_w_letters (ok_let F_w_letters B c_w_valuex c_w_stepx)
  have c_w_markx : CalX CX0 rwK.prog w K mg base 1 "_law_mark" spMk := cal_of F_w_mark (PySem.W.mg_of X G a_w_mark) b_w_mark (ok_mk F_w_mark B)
  have c_w_holdsx : CalX CX0 rwK.prog w K mg base 1 "_law_holds" spHo := cal_of F_w_holds (PySem.W.mg_of X G a_w_holds) b_w_holds (ok_ho F_w_holds B)
  have c_w_fitsx : CalX CX0 rwK.prog w K mg base 1 "_law_fits" spFits := cal_of F_w_fits (PySem.W.mg_of X G a_w_fits) b_w_fits (ok_fits F_w_fits B)
  have c_w_spoiltx : CalX CX0 rwK.prog w K mg base 2 "_law_spoilt" spSp := cal_of F_w_spoilt (PySem.W.mg_of X G a_w_spoilt) b_w_spoilt (ok_sp F_w_spoilt B c_w_drawx)
  have c_fittingx : CalX CX0 rwK.prog w K mg base 1 "fitting" spFt := cal_of F_fitting (PySem.W.mg_of X G a_fitting) b_fitting (ok_ft F_fitting B (PySem.W.mg_none_of X G z_all) (PySem.W.mg_none_of X G z_zip))
  have c_w_boundedx : CalX CX0 rwK.prog w K mg base 7 "_law_bounded" (spBo CG) := cal_of F_w_bounded (PySem.W.mg_of X G a_w_bounded) b_w_bounded (ok_bo F_w_bounded B m_lets_in m_twin m_event m_letters_of)
  have c_w_raisedx : CalX CX0 rwK.prog w K mg base 5 "_law_raised" (spRd CG) := cal_of F_w_raised (PySem.W.mg_of X G a_w_raised) b_w_raised (ok_rd F_w_raised B GX pr_floor c_w_markx m_twin m_mark_of m_raise_floor)
  have c_w_all_fitx : CalX CX0 rwK.prog w K mg base 5 "_law_all_fit" (spAf CG) := cal_of F_w_all_fit (PySem.W.mg_of X G a_w_all_fit) b_w_all_fit (ok_af F_w_all_fit B c_w_drawx c_w_lettersx c_w_spoiltx c_fittingx c_w_fitsx m_letters_of)
  have c_w_worldx : CalX CX0 rwK.prog w K mg base 5 "_law_world" spWor := cal_of F_w_world (PySem.W.mg_of X G a_w_world) b_w_world (ok_wor F_w_world B c_w_drawx c_w_spanx c_w_deedsx)
  exact ok_law F_law B Y c_w_streamx c_w_worldx m_take c_w_gatex m_mark_of c_w_markx c_w_boundedx c_w_raisedx c_w_holdsx m_letters_of c_w_all_fitx
end Mv

set_option Elab.async false
open PySem PySem.W PyProof.Rows
set_option maxRecDepth 100000 in
set_option maxHeartbeats 0 in
theorem PySem.Challenge.cw_movedstates_k06_marks_stay_true_holds : PySem.Challenge.rw_movedstates_k06_marks_stay_true.Holds := by
  w_on; o_law; k_head; (case hw => w_witness2)
  k_fill
  refine LamX.walk_ofTs (l := PySem.Challenge.rw_movedstates_k06_marks_stay_true) (n := 63) (k := 8) (x := "_law_script") (CX := fun _ => L2.CX0) rfl (by decide) rfl ⟨rfl, by decide, by decide⟩ (fun w h Y => kIn_of Y) ?F (fun _ _ _ _ _ z => z)
  case F =>
    intro w mg fa h Y KX G hmg
    refine' Mv.all_mk KX G hmg ?z_len ?z_range ?z_enumerate ?z_abs ?z_int ?z_list ?z_tuple ?z_sorted ?z_isinstance ?z_str ?z_bool ?z_super ?z_ValueError ?z_all ?z_dict ?z_zip ?a_w_stream ?l_w_stream ?c_w_stream ?k_w_stream ?a_w_draw ?l_w_draw ?c_w_draw ?k_w_draw ?a_w_wide ?l_w_wide ?c_w_wide ?k_w_wide ?a_w_value ?l_w_value ?c_w_value ?k_w_value ?a_w_span ?l_w_span ?c_w_span ?k_w_span ?a_w_step ?l_w_step ?c_w_step ?k_w_step ?a_w_letters ?l_w_letters ?c_w_letters ?k_w_letters ?a_w_deeds ?l_w_deeds ?c_w_deeds ?k_w_deeds ?a_w_gate ?l_w_gate ?c_w_gate ?k_w_gate ?a_w_mark ?l_w_mark ?c_w_mark ?k_w_mark ?a_w_bounded ?l_w_bounded ?c_w_bounded ?k_w_bounded ?a_w_raised ?l_w_raised ?c_w_raised ?k_w_raised ?a_w_holds ?l_w_holds ?c_w_holds ?k_w_holds ?a_w_spoilt ?l_w_spoilt ?c_w_spoilt ?k_w_spoilt ?a_w_fits ?l_w_fits ?c_w_fits ?k_w_fits ?a_w_world ?l_w_world ?c_w_world ?k_w_world ?a_w_all_fit ?l_w_all_fit ?c_w_all_fit ?k_w_all_fit ?a_law ?l_law ?c_law ?k_law ?a_consists_of ?l_consists_of ?c_consists_of ?k_consists_of ?a_is_name ?l_is_name ?c_is_name ?k_is_name ?a_fitting ?l_fitting ?c_fitting ?k_fitting ?n_L ?n_S ?a_G ?pg_G ?hd_G ?po_G ?sa_G ?no_G0 ?no_G1 ?no_G2 ?no_G3 ?no_G4 ?mk_G ?kc_G ?a_gi ?i_gi ?l_gi ?c_gi ?k_gi ?a_mlets_in ?i_mlets_in ?l_mlets_in ?c_mlets_in ?k_mlets_in ?a_mevent ?i_mevent ?l_mevent ?c_mevent ?k_mevent ?a_mraise_floor ?i_mraise_floor ?l_mraise_floor ?c_mraise_floor ?k_mraise_floor ?a_mfinish ?i_mfinish ?l_mfinish ?c_mfinish ?k_mfinish ?a_mtake ?i_mtake ?l_mtake ?c_mtake ?k_mtake ?a_mletters_of ?i_mletters_of ?l_mletters_of ?c_mletters_of ?k_mletters_of ?a_mcount_of ?i_mcount_of ?l_mcount_of ?c_mcount_of ?k_mcount_of ?a_mmark_of ?i_mmark_of ?l_mmark_of ?c_mmark_of ?k_mmark_of ?a_mtwin ?i_mtwin ?l_mtwin ?c_mtwin ?k_mtwin ?a_mrefuse_if_finished ?i_mrefuse_if_finished ?l_mrefuse_if_finished ?c_mrefuse_if_finished ?k_mrefuse_if_finished ?a_pfloor ?g_pfloor ?t_pfloor ?r__pfloor ?l_pfloor ?c_pfloor ?k_pfloor ?b_op ?w_hn ?w_ht ?g_a ?g_ex ?g_ty ?g_k ?g_ga ?g_gt ?g_hd ?g_ss ?g_hc ?g_ho ?g_ce ?g_l ?g_v ?g_sa ?g_i ?g_it ?g_il ?g_ic ?g_cl ?g_cf ?g_fi ?g_cc ?g_se ?g_ve ?g_su ?g_cd ?g_no ?y_a ?y_ex ?y_ty ?y_k ?y_ga ?y_gt ?y_hd ?y_ss ?y_hc ?y_ho ?y_ce ?y_xi
    (case z_len => k_is)
    (case z_range => k_is)
    (case z_enumerate => k_is)
    (case z_abs => k_is)
    (case z_int => k_is)
    (case z_list => k_is)
    (case z_tuple => k_is)
    (case z_sorted => k_is)
    (case z_isinstance => k_is)
    (case z_str => k_is)
    (case z_bool => k_is)
    (case z_super => k_is)
    (case z_ValueError => k_is)
    (case z_all => k_is)
    (case z_dict => k_is)
    (case z_zip => k_is)
    (case a_w_stream => k_is)
    (case l_w_stream => k_is)
    (case c_w_stream => k_is)
    (case k_w_stream => k_is)
    (case a_w_draw => k_is)
    (case l_w_draw => k_is)
    (case c_w_draw => k_is)
    (case k_w_draw => k_is)
    (case a_w_wide => k_is)
    (case l_w_wide => k_is)
    (case c_w_wide => k_is)
    (case k_w_wide => k_is)
    (case a_w_value => k_is)
    (case l_w_value => k_is)
    (case c_w_value => k_is)
    (case k_w_value => k_is)
    (case a_w_span => k_is)
    (case l_w_span => k_is)
    (case c_w_span => k_is)
    (case k_w_span => k_is)
    (case a_w_step => k_is)
    (case l_w_step => k_is)
    (case c_w_step => k_is)
    (case k_w_step => k_is)
    (case a_w_letters => k_is)
    (case l_w_letters => k_is)
    (case c_w_letters => k_is)
    (case k_w_letters => k_is)
    (case a_w_deeds => k_is)
    (case l_w_deeds => k_is)
    (case c_w_deeds => k_is)
    (case k_w_deeds => k_is)
    (case a_w_gate => k_is)
    (case l_w_gate => k_is)
    (case c_w_gate => k_is)
    (case k_w_gate => k_is)
    (case a_w_mark => k_is)
    (case l_w_mark => k_is)
    (case c_w_mark => k_is)
    (case k_w_mark => k_is)
    (case a_w_bounded => k_is)
    (case l_w_bounded => k_is)
    (case c_w_bounded => k_is)
    (case k_w_bounded => k_is)
    (case a_w_raised => k_is)
    (case l_w_raised => k_is)
    (case c_w_raised => k_is)
    (case k_w_raised => k_is)
    (case a_w_holds => k_is)
    (case l_w_holds => k_is)
    (case c_w_holds => k_is)
    (case k_w_holds => k_is)
    (case a_w_spoilt => k_is)
    (case l_w_spoilt => k_is)
    (case c_w_spoilt => k_is)
    (case k_w_spoilt => k_is)
    (case a_w_fits => k_is)
    (case l_w_fits => k_is)
    (case c_w_fits => k_is)
    (case k_w_fits => k_is)
    (case a_w_world => k_is)
    (case l_w_world => k_is)
    (case c_w_world => k_is)
    (case k_w_world => k_is)
    (case a_w_all_fit => k_is)
    (case l_w_all_fit => k_is)
    (case c_w_all_fit => k_is)
    (case k_w_all_fit => k_is)
    (case a_law => k_is)
    (case l_law => k_is)
    (case c_law => k_is)
    (case k_law => k_is)
    (case a_consists_of => k_is)
    (case l_consists_of => k_is)
    (case c_consists_of => k_is)
    (case k_consists_of => k_is)
    (case a_is_name => k_is)
    (case l_is_name => k_is)
    (case c_is_name => k_is)
    (case k_is_name => k_is)
    (case a_fitting => k_is)
    (case l_fitting => k_is)
    (case c_fitting => k_is)
    (case k_fitting => k_is)
    (case n_L => k_is)
    (case n_S => k_is)
    (case a_G => k_is)
    (case pg_G => k_is)
    (case hd_G => k_is)
    (case po_G => k_is)
    (case sa_G => k_is)
    (case no_G0 => k_is)
    (case no_G1 => k_is)
    (case no_G2 => k_is)
    (case no_G3 => k_is)
    (case no_G4 => k_is)
    (case mk_G => k_is)
    (case kc_G => k_is)
    (case a_gi => k_is)
    (case i_gi => k_is)
    (case l_gi => k_is)
    (case c_gi => k_is)
    (case k_gi => k_is)
    (case a_mlets_in => k_is)
    (case i_mlets_in => k_is)
    (case l_mlets_in => k_is)
    (case c_mlets_in => k_is)
    (case k_mlets_in => k_is)
    (case a_mevent => k_is)
    (case i_mevent => k_is)
    (case l_mevent => k_is)
    (case c_mevent => k_is)
    (case k_mevent => k_is)
    (case a_mraise_floor => k_is)
    (case i_mraise_floor => k_is)
    (case l_mraise_floor => k_is)
    (case c_mraise_floor => k_is)
    (case k_mraise_floor => k_is)
    (case a_mfinish => k_is)
    (case i_mfinish => k_is)
    (case l_mfinish => k_is)
    (case c_mfinish => k_is)
    (case k_mfinish => k_is)
    (case a_mtake => k_is)
    (case i_mtake => k_is)
    (case l_mtake => k_is)
    (case c_mtake => k_is)
    (case k_mtake => k_is)
    (case a_mletters_of => k_is)
    (case i_mletters_of => k_is)
    (case l_mletters_of => k_is)
    (case c_mletters_of => k_is)
    (case k_mletters_of => k_is)
    (case a_mcount_of => k_is)
    (case i_mcount_of => k_is)
    (case l_mcount_of => k_is)
    (case c_mcount_of => k_is)
    (case k_mcount_of => k_is)
    (case a_mmark_of => k_is)
    (case i_mmark_of => k_is)
    (case l_mmark_of => k_is)
    (case c_mmark_of => k_is)
    (case k_mmark_of => k_is)
    (case a_mtwin => k_is)
    (case i_mtwin => k_is)
    (case l_mtwin => k_is)
    (case c_mtwin => k_is)
    (case k_mtwin => k_is)
    (case a_mrefuse_if_finished => k_is)
    (case i_mrefuse_if_finished => k_is)
    (case l_mrefuse_if_finished => k_is)
    (case c_mrefuse_if_finished => k_is)
    (case k_mrefuse_if_finished => k_is)
    (case a_pfloor => k_is)
    (case g_pfloor => k_is)
    (case t_pfloor => k_is)
    (case r__pfloor => first | k_is | exact rfl | kernel_rfl | decide +kernel)
    (case l_pfloor => k_is)
    (case c_pfloor => k_is)
    (case k_pfloor => k_is)
    (case b_op => k_is)
    (case w_hn => k_is)
    (case w_ht => k_is)
    (case g_a => k_is)
    (case g_ex => k_is)
    (case g_ty => k_is)
    (case g_k => k_is)
    (case g_ga => k_is)
    (case g_gt => k_is)
    (case g_hd => k_is)
    (case g_ss => k_is)
    (case g_hc => k_is)
    (case g_ho => k_is)
    (case g_ce => first | k_is | rfl | decide +kernel)
    (case g_l => k_is)
    (case g_v => decide +kernel)
    (case g_sa => k_is)
    (case g_i => k_is)
    (case g_it => k_is)
    (case g_il => k_is)
    (case g_ic => k_is)
    (case g_cl => k_is)
    (case g_cf => rfl)
    (case g_fi => first | rfl | decide +kernel)
    (case g_cc => k_is)
    (case g_se => k_is)
    (case g_ve => k_is)
    (case g_su => first | k_is | rfl | decide +kernel)
    (case g_cd => k_is)
    (case g_no => k_is)
    (case y_a => k_is)
    (case y_ex => k_is)
    (case y_ty => k_is)
    (case y_k => k_is)
    (case y_ga => k_is)
    (case y_gt => k_is)
    (case y_hd => k_is)
    (case y_ss => k_is)
    (case y_hc => k_is)
    (case y_ho => k_is)
    (case y_ce => first | k_is | rfl | decide +kernel)
    (case y_xi => first | k_exc | kx_is)

