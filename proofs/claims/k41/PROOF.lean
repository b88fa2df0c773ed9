import PyProof.Rows.All
import Wide.All
import OpenK.AllK
import Wide.FinOn
import PySem.Challenge.RW_movedstates_k41_free_losses_exactly
import HandS.Base
import HandS.Call
import HandS.List
import HandS.Comp
import HandS.Ends
import HandS.Dict
import HandS.Iter
import HandS.Text
import HandS.More
import HandS.Words
import HandS.WordsList
import HandS.Wide
import HandS.SortInts
import HandS.DictComp
import HandS.Walk
import HandS.Exc
import HandS.ExcOwn
import HandS.TryOnly
import HandS.WordsExc
import HandS.IsInst
import HandS.ExcIs
import HandS.ExcInit
import HandS.SetKeys
import HandS.Style
import HandS.Conv
import HandS.FStr
import KE.KDictSum
import KE.KDictList
import PyProof.TupleOfSeq
import PyProof.DictValues
import KE.GoesEnum
import KE.GoesMore
import KE.SortKeyHeap
import HandS.Lambda
import HandS.SortKw
import HandS.TupAny
import PyProof.ListMulRoad
import PyProof.FactsAll.tuple_2
import HandS.TupMul
import HandS.Defaults
import HandS.CallSlots
import KE.KExcSuper
import KE.KSuper
import HandS.FStrTup
import HandS.ExcSuper
import HandS.ExcField
import KE.KExcIs
import KE.KEqSeq
import KE.LtData
import PyProof.P3Eq
import HandS.EndTab
import KE.KNestM
set_option Elab.async false
set_option linter.all false
set_option maxRecDepth 100000
set_option maxHeartbeats 4000000
namespace Mv
open PySem PySem.Spec PyProof.Rows L2
/-! ### calls by their promises -/
/-- a def that may be called by its name -/
structure CalX (CX : CXT) (P : Program) (w : World) (K : PySem.W.Frag) (mg : Str → Option Value) (base : Heap) (k : Nat) (x : Str) (sp : Sp) : Prop where
  ex : ∃ (f : Addr) (fd : FuncData) (ps : List Str), FnOk P w K mg base CX k f fd ps sp ∧ mg x = some (.ref f) ∧ PySem.W.keepIn K (.ref f) = true ∧ Binds K fd ps []
/-- a method of the class at C -/
structure MetX (CX : CXT) (P : Program) (w : World) (K : PySem.W.Frag) (mg : Str → Option Value) (base : Heap) (k : Nat) (C : Addr) (m : Str) (sp : Sp) : Prop where
  ex : ∃ (f : Addr) (fd : FuncData) (ps : List Str), Cls K C ∧ Meth K C m f ∧ FnOk P w K mg base CX k f fd ps sp ∧ Binds K fd ps []
section
variable {X : Cx} {CX : CXT} {k j : Nat} {C : Addr} {x m : Str} {sp : Sp} {E : XK} {p pos apos : Pos} {e o : Expr} {es : List Expr} {ta : TE} {t : TA}
theorem pe_cx (c : CalX CX X.prog X.w X.K X.mg X.base k x sp) (hr : Room j X.A) (hk : k ≤ j) (hx : Passes CX X E) (hg : Gl X x) (ha : PA X (e :: es) t)
    (hdb : (x == ("__debug__" : Str)) = false := by decide) (he : starEach (e :: es) X.env = (false, eval e X.env) :: starEach es X.env := by rfl) (hpl : (backTo pos (starEach es X.env)).any (·.1) = false := by rfl) :
    PE X (.Call (.Name x p) (e :: es) [] pos) (tCall sp [] E t) := by
  obtain ⟨f, fd, ps, F, hm, kp, b⟩ := c.ex
  exact pe_call F (hr.mono hk) hg hm kp b .nil hx ha hdb he hpl
theorem pe_mx {pl : Sem Bool} (c : MetX CX X.prog X.w X.K X.mg X.base k C m sp) (hr : Room j X.A) (hk : k ≤ j) (hx : Passes CX X E) (he : PE X o ta) (ha : PA X (e :: es) t)
    (hst : starEach (e :: es) X.env = (false, eval e X.env) :: starEach es X.env := by rfl) (hpl : (backTo pos (starEach es X.env)).any (·.1) = false := by rfl)
    (ht : eval (.Call (.Attribute o m apos) (e :: es) [] pos) X.env = (do
      let ov ← eval o X.env
      standAt apos.atName
      let (f, first) ← holding [ov] (getMethod ov m pl)
      callWith pos f first (backTo pos (starEach (e :: es) X.env)) (backToKw pos (keywordEach [] X.env))) := by rfl) :
    PE X (.Call (.Attribute o m apos) (e :: es) [] pos) (tMeth C m sp [] E ta t) := by
  obtain ⟨f, fd, ps, hc, hm, F, b⟩ := c.ex
  exact pe_meth (pl := pl) he hc hm F (hr.mono hk) b .nil hx ha hst hpl ht
theorem pe_mx0 {pl : Sem Bool} (c : MetX CX X.prog X.w X.K X.mg X.base k C m sp) (hr : Room j X.A) (hk : k ≤ j) (hx : Passes CX X E) (he : PE X o ta)
    (ht : eval (.Call (.Attribute o m apos) [] [] pos) X.env = (do
      let ov ← eval o X.env
      standAt apos.atName
      let (f, first) ← holding [ov] (getMethod ov m pl)
      callWith pos f first (backTo pos (starEach [] X.env)) (backToKw pos (keywordEach [] X.env))) := by rfl) :
    PE X (.Call (.Attribute o m apos) [] [] pos) (tMeth C m sp [] E ta tNil) := by
  obtain ⟨f, fd, ps, hc, hm, F, b⟩ := c.ex
  exact pe_meth0 (pl := pl) he hc hm F (hr.mono hk) b .nil hx ht
end
/-- a def of the module, as the top leaves it -/
structure DefX (K : PySem.W.Frag) (mg : Str → Option Value) (x : Str) (st : Stmt) (ps : List Str) : Prop where
  ex : ∃ (f : Addr) (fd : FuncData), Fun K x x st f fd ∧ mg x = some (.ref f) ∧ Binds K fd ps []
theorem DefX.cal {P : Program} {w : World} {K : PySem.W.Frag} {mg : Str → Option Value} {base : Heap} {CX : CXT} {k : Nat} {x : Str} {st : Stmt} {ps : List Str} {sp : Sp} (D : DefX K mg x st ps)
    (h : ∀ f fd, Fun K x x st f fd → FnOk P w K mg base CX k f fd ps sp) : CalX CX P w K mg base k x sp := by
  obtain ⟨f, fd, F, hm, b⟩ := D.ex
  exact ⟨f, fd, ps, h f fd F, hm, F.kp, b⟩
/-! ### the built-in names that stay -/
structure Bi (mg : Str → Option Value) : Prop where
  len : mg "len" = none
  range : mg "range" = none
  enumerate : mg "enumerate" = none
  abs : mg "abs" = none
  int : mg "int" = none
  list : mg "list" = none
  tuple : mg "tuple" = none
  sorted : mg "sorted" = none
  isinstance : mg "isinstance" = none
  str : mg "str" = none
  bool : mg "bool" = none
  super : mg "super" = none
  ValueError : mg "ValueError" = none
theorem cxK {CX : CXT} {P : Program} {w : World} {K : PySem.W.Frag} {mg : Str → Option Value} {base : Heap} {N : List Str} {q : Str} {sc : Scope} {f : Addr} {cdv : Value} {A : Around} {outer : List Env} {s : Shared} {H : Hp} {E : XK} : (cxOf CX P w K mg base N q sc f cdv A outer s H E).K = K := rfl
theorem cxKn {CX : CXT} {P : Program} {w : World} {K : PySem.W.Frag} {mg : Str → Option Value} {base : Heap} {N : List Str} {q : Str} {sc : Scope} {f : Addr} {cdv : Value} {A : Around} {outer : List Env} {s : Shared} {H : Hp} {E : XK} : (cxOf CX P w K mg base N q sc f cdv A outer s H E).nox.K = K := rfl
/-! ### heaps -/
/-- all but what stands at a is as it was -/
def Sx (a : Addr) (H H' : Hp) : Prop := ∀ b o, b ≠ a → H b = some o → H' b = some o
theorem Sx.refl (a : Addr) (H : Hp) : Sx a H H := fun _ _ _ h => h
theorem Sx.trans {a : Addr} {H H1 H2 : Hp} (h : Sx a H H1) (k : Sx a H1 H2) : Sx a H H2 := fun b o n e => k b o n (h b o n e)
theorem Sx.of {a : Addr} {H H' : Hp} (h : Same H H') : Sx a H H' := fun b o _ e => h b o e
theorem Sx.upd {a : Addr} {H : Hp} {o : HO} : Sx a H (upd H a o) := fun b u n e => by rw [upd_ne n]; exact e
theorem same_upd {H : Hp} {p : Addr} {o : HO} (h : H p = none) : Same H (upd H p o) := fun b x e => by
  rw [upd_ne (ne_of_none e h)]
  exact e
theorem Same.tup {K : PySem.W.Frag} {H H' : Hp} {a : Addr} {xs : List V} (e : Same H H') (h : SqT K H a xs) : SqT K H' a xs := by
  rcases h with (h | ⟨o, h⟩) | h
  · exact .inl (.inl (e _ _ h))
  · exact .inl (.inr ⟨o, e _ _ h⟩)
  · exact .inr h
/-- the stream at a -/
def Strm (H : Hp) (a : Addr) : Prop := ∃ ns : List Int, H a = some (.lst (ns.map V.int)) ∧ ns.length ≤ 4000
theorem Strm.same {H H' : Hp} {a : Addr} (h : Strm H a) (s : Same H H') : Strm H' a := by
  obtain ⟨ns, e, l⟩ := h
  exact ⟨ns, s _ _ e, l⟩
theorem Strm.some {H : Hp} {a : Addr} (h : Strm H a) : ∃ xs, H a = some (.lst xs) := by
  obtain ⟨ns, e, l⟩ := h
  exact ⟨_, e⟩
theorem Strm.ne {H : Hp} {a p : Addr} (h : Strm H a) (n : H p = none) : a ≠ p := by
  obtain ⟨ns, e, l⟩ := h
  exact ne_of_none e n
/-! ### small facts -/
def cutI (ns : List Int) (lo hi : Option Int) : List Int := (ns.drop (HT.sIx ns.length 0 lo)).take (HT.sIx ns.length ns.length hi - HT.sIx ns.length 0 lo)
theorem cutV_int (ns : List Int) (lo hi : Option Int) : cutV (ns.map V.int) lo hi = (cutI ns lo hi).map V.int := by
  unfold cutV cutI
  rw [List.length_map, List.map_take, List.map_drop]
theorem cutI_length (ns : List Int) (lo hi : Option Int) : (cutI ns lo hi).length ≤ ns.length := by
  have h := cutV_length (ns.map V.int) lo hi
  rw [cutV_int, List.length_map, List.length_map] at h
  exact h
theorem int_at {ns : List Int} {i : Nat} {y : V} (h : (ns.map V.int)[i]? = some y) : ∃ u, y = .int u ∧ ns[i]? = some u := by
  rw [List.getElem?_map] at h
  cases e : ns[i]? with
  | none =>
    rw [e] at h
    cases h
  | some u =>
    rw [e] at h
    exact ⟨u, (Option.some.inj h).symm, rfl⟩
theorem abs_nn (i : Int) : 0 ≤ (if i < 0 then -i else i) := by
  by_cases h : i < 0
  · rw [if_pos h]
    omega
  · rw [if_neg h]
    omega
theorem small4000 {n : Nat} (h : n ≤ 4000) : n < sizeLine := Nat.lt_of_le_of_lt h (by decide)
theorem small4000' {n : Nat} (h : n ≤ 4000) : n ≤ sizeLine := Nat.le_of_lt (small4000 h)
theorem ints_flat : ∀ ns : List Int, (ns.map V.int).all flatV = true
  | [] => rfl
  | n :: ns => ints_flat ns
end Mv

set_option Elab.async false
set_option linter.all false
set_option maxRecDepth 100000
set_option maxHeartbeats 1000000
namespace Mv
open PySem
/-! ### sorted lists -/
def sortI (xs : List Int) : List Int := xs.mergeSort fun a b => decide (a ≤ b)
theorem sort_perm (xs : List Int) : (sortI xs).Perm xs := List.mergeSort_perm xs _
theorem sort_le (xs : List Int) : (sortI xs).Pairwise (· ≤ ·) := by
  have h := List.pairwise_mergeSort (le := fun a b : Int => decide (a ≤ b)) (fun a b c h1 h2 => by
    have h1 := of_decide_eq_true h1
    have h2 := of_decide_eq_true h2
    exact decide_eq_true (Int.le_trans h1 h2)) (fun a b => by
    by_cases h : a ≤ b
    · simp [h]
    · have : b ≤ a := by omega
      simp [this]) xs
  exact h.imp fun h => of_decide_eq_true h
theorem sorted_one : ∀ {xs ys : List Int}, xs.Perm ys → xs.Pairwise (· ≤ ·) → ys.Pairwise (· ≤ ·) → xs = ys
  | [], ys, h, _, _ => (List.Perm.nil_eq h)
  | x :: xs, [], h, _, _ => absurd h.length_eq (by simp)
  | x :: xs, y :: ys, h, h1, h2 => by
    have a := List.pairwise_cons.mp h1
    have b := List.pairwise_cons.mp h2
    have e : x = y := by
      have m1 : x ∈ y :: ys := h.mem_iff.mp List.mem_cons_self
      have m2 : y ∈ x :: xs := h.mem_iff.mpr List.mem_cons_self
      rcases List.mem_cons.mp m1 with e | m1
      · exact e
      · rcases List.mem_cons.mp m2 with e | m2
        · exact e.symm
        · exact Int.le_antisymm (a.1 _ m2) (b.1 _ m1)
    subst e
    rw [sorted_one (List.Perm.cons_inv h) a.2 b.2]
theorem sort_is {xs ys : List Int} (h : xs.Perm ys) (s : xs.Pairwise (· ≤ ·)) : xs = sortI ys := sorted_one (h.trans (sort_perm ys).symm) s (sort_le ys)
theorem sort_congr {xs ys : List Int} (h : xs.Perm ys) : sortI xs = sortI ys := sort_is ((sort_perm xs).trans h) (sort_le xs)
theorem sort_nodup {xs : List Int} (h : xs.Nodup) : (sortI xs).Nodup := (sort_perm xs).nodup_iff.mpr h
theorem mem_sort {x : Int} {xs : List Int} : x ∈ sortI xs ↔ x ∈ xs := (sort_perm xs).mem_iff
theorem perm_of_mem {xs ys : List Int} (h1 : xs.Nodup) (h2 : ys.Nodup) (h : ∀ x, x ∈ xs ↔ x ∈ ys) : xs.Perm ys := (List.perm_ext_iff_of_nodup h1 h2).mpr h
theorem sort_mem {xs ys : List Int} (h1 : xs.Nodup) (h2 : ys.Nodup) (h : ∀ x, x ∈ xs ↔ x ∈ ys) : sortI xs = sortI ys := sort_congr (perm_of_mem h1 h2 h)
/-! ### each value once, where it comes first -/
def addI (acc : List Int) (x : Int) : List Int := if x ∈ acc then acc else acc ++ [x]
def headsA (acc xs : List Int) : List Int := xs.foldl addI acc
def headsI (xs : List Int) : List Int := headsA [] xs
def tailsI (xs : List Int) : List Int := (headsI xs.reverse).reverse
theorem headsA_snoc (acc xs : List Int) (x : Int) : headsA acc (xs ++ [x]) = addI (headsA acc xs) x := by
  unfold headsA
  rw [List.foldl_append]
  rfl
theorem headsA_app (acc xs ys : List Int) : headsA acc (xs ++ ys) = headsA (headsA acc xs) ys := by
  unfold headsA
  rw [List.foldl_append]
theorem headsI_snoc (xs : List Int) (x : Int) : headsI (xs ++ [x]) = addI (headsI xs) x := headsA_snoc [] xs x
theorem mem_addI {acc : List Int} {x y : Int} : y ∈ addI acc x ↔ y ∈ acc ∨ y = x := by
  unfold addI
  split
  · rename_i h
    exact ⟨.inl, fun z => z.elim id fun e => e ▸ h⟩
  · simp
theorem snoc_ind {P : List Int → Prop} (h0 : P []) (hs : ∀ xs x, P xs → P (xs ++ [x])) (xs : List Int) : P xs := by
  have h : ∀ ys : List Int, P ys.reverse := fun ys => by
    induction ys with
    | nil => exact h0
    | cons y ys ih =>
      rw [List.reverse_cons]
      exact hs _ _ ih
  have e := h xs.reverse
  rw [List.reverse_reverse] at e
  exact e
theorem mem_headsI {y : Int} (xs : List Int) : y ∈ headsI xs ↔ y ∈ xs := by
  induction xs using snoc_ind with
  | h0 => exact Iff.rfl
  | hs xs x ih =>
    rw [headsI_snoc, mem_addI, ih]
    simp
theorem nodup_addI {acc : List Int} {x : Int} (h : acc.Nodup) : (addI acc x).Nodup := by
  unfold addI
  split
  · exact h
  · rename_i hx
    refine List.nodup_append.mpr ⟨h, by simp, fun a ha b hb => ?_⟩
    rw [List.mem_singleton] at hb
    rw [hb]
    exact fun e => hx (e ▸ ha)
theorem nodup_headsI (xs : List Int) : (headsI xs).Nodup := by
  induction xs using snoc_ind with
  | h0 => exact List.nodup_nil
  | hs xs x ih =>
    rw [headsI_snoc]
    exact nodup_addI ih
theorem headsI_nodup (xs : List Int) : xs.Nodup → headsI xs = xs := by
  induction xs using snoc_ind with
  | h0 => exact fun _ => rfl
  | hs xs x ih =>
    intro h
    obtain ⟨h1, _, h3⟩ := List.nodup_append.mp h
    rw [headsI_snoc, ih h1]
    unfold addI
    rw [if_neg fun hx => h3 x hx x (by simp) rfl]
theorem headsA_eq (acc xs : List Int) : headsA acc xs = acc ++ (headsI xs).filter fun x => decide (x ∉ acc) := by
  induction xs using snoc_ind with
  | h0 => simp [headsA, headsI]
  | hs xs x ih =>
    rw [headsA_snoc, headsI_snoc, ih]
    have hm := mem_headsI (y := x) xs
    unfold addI
    by_cases ha : x ∈ acc
    · rw [if_pos (List.mem_append_left _ ha)]
      split
      · rfl
      · rw [List.filter_append]
        simp [ha]
    · by_cases hx : x ∈ headsI xs
      · rw [if_pos hx, if_pos (List.mem_append_right _ (List.mem_filter.mpr ⟨hx, by simp [ha]⟩))]
      · rw [if_neg hx, if_neg, List.filter_append]
        · simp [ha]
        · intro z
          rcases List.mem_append.mp z with z | z
          · exact ha z
          · exact hx (List.mem_filter.mp z).1
theorem headsI_idem (xs : List Int) : headsI (headsI xs) = headsI xs := headsI_nodup _ (nodup_headsI xs)
theorem headsI_join (u v : List Int) : headsI (headsI u ++ headsI v) = headsI (u ++ v) := by
  show headsA [] _ = headsA [] _
  rw [headsA_app, headsA_app]
  show headsA (headsI (headsI u)) (headsI v) = headsA (headsI u) v
  rw [headsI_idem, headsA_eq, headsI_idem, ← headsA_eq]
theorem tailsI_idem (xs : List Int) : tailsI (tailsI xs) = tailsI xs := by
  unfold tailsI
  rw [List.reverse_reverse, headsI_idem]
theorem tailsI_join (u v : List Int) : tailsI (tailsI u ++ tailsI v) = tailsI (u ++ v) := by
  unfold tailsI
  rw [List.reverse_append, List.reverse_reverse, List.reverse_reverse, headsI_join, List.reverse_append]
/-! ### plain values -/
def firstI (xs : List Int) : List Int := xs.take 1
def lastI (xs : List Int) : List Int := xs.drop (xs.length - 1)
def endsI (xs : List Int) : List Int := xs.take 1 ++ xs.drop (xs.length - 1)
/-- the eight kinds -/
inductive Kd where
  | list | bag | set | first | last | ends | heads | tails
  deriving DecidableEq
def Kd.nm : Kd → Str
  | .list => "list" | .bag => "bag" | .set => "set" | .first => "first" | .last => "last" | .ends => "ends" | .heads => "heads" | .tails => "tails"
def kds : List Kd := [.list, .bag, .set, .first, .last, .ends, .heads, .tails]
def plainI (k : Kd) (xs : List Int) : List Int :=
  match k with
  | .list => xs
  | .bag => sortI xs
  | .set => sortI (headsI xs)
  | .first => firstI xs
  | .last => lastI xs
  | .ends => endsI xs
  | .heads => headsI xs
  | .tails => tailsI xs
theorem lastI_snoc (xs : List Int) (x : Int) : lastI (xs ++ [x]) = [x] := by
  unfold lastI
  rw [List.length_append]
  simp
theorem first_join (u v : List Int) : firstI (firstI u ++ firstI v) = firstI (u ++ v) := by
  cases u with
  | nil => cases v <;> rfl
  | cons x u => rfl
theorem last_join (u v : List Int) : lastI (lastI u ++ lastI v) = lastI (u ++ v) := by
  induction v using snoc_ind with
  | h0 =>
    induction u using snoc_ind with
    | h0 => rfl
    | hs u x _ => simp [lastI_snoc, lastI]
  | hs v y _ => rw [lastI_snoc, lastI_snoc, ← List.append_assoc, lastI_snoc]
theorem endsI_eq (xs : List Int) : endsI xs = firstI xs ++ lastI xs := rfl
theorem last_ends (xs : List Int) : lastI (endsI xs) = lastI xs := by
  induction xs using snoc_ind with
  | h0 => rfl
  | hs xs x _ => rw [endsI_eq, lastI_snoc, lastI_snoc]
theorem first_ends (xs : List Int) : firstI (endsI xs) = firstI xs := by
  cases xs with
  | nil => rfl
  | cons x xs => rfl
theorem first_app (u v : List Int) : firstI (u ++ v) = firstI (firstI u ++ firstI v) := (first_join u v).symm
theorem last_app (u v : List Int) : lastI (u ++ v) = lastI (lastI u ++ lastI v) := (last_join u v).symm
theorem ends_join (u v : List Int) : endsI (endsI u ++ endsI v) = endsI (u ++ v) := by
  rw [endsI_eq (_ ++ _), endsI_eq (u ++ v), first_app (endsI u), last_app (endsI u), first_ends, first_ends, last_ends, last_ends, first_join, last_join]
theorem plain_join (k : Kd) (u v : List Int) : plainI k (plainI k u ++ plainI k v) = plainI k (u ++ v) := by
  cases k with
  | list => rfl
  | bag => exact sort_congr ((sort_perm u).append (sort_perm v))
  | set =>
    refine sort_mem (nodup_headsI _) (nodup_headsI _) fun x => ?_
    show x ∈ headsI (sortI (headsI u) ++ sortI (headsI v)) ↔ _
    rw [mem_headsI, mem_headsI, List.mem_append, List.mem_append, mem_sort, mem_sort, mem_headsI, mem_headsI]
  | first => exact first_join u v
  | last => exact last_join u v
  | ends => exact ends_join u v
  | heads => exact headsI_join u v
  | tails => exact tailsI_join u v
theorem sort_nil : sortI [] = [] := List.Perm.eq_nil (sort_perm [])
theorem plain_nil (k : Kd) : plainI k [] = [] := by
  cases k with
  | bag => exact sort_nil
  | set => exact sort_nil
  | _ => rfl
theorem plain_idem (k : Kd) (u : List Int) : plainI k (plainI k u) = plainI k u := by
  have h := plain_join k u []
  rw [plain_nil, List.append_nil, List.append_nil] at h
  exact h
theorem headsI_len (xs : List Int) : (headsI xs).length ≤ xs.length := by
  induction xs using snoc_ind with
  | h0 => exact Nat.le_refl _
  | hs xs x ih =>
    rw [headsI_snoc, List.length_append]
    unfold addI
    split
    · omega
    · rw [List.length_append]
      simp only [List.length_singleton]
      omega
theorem plain_len (k : Kd) (xs : List Int) : (plainI k xs).length ≤ 2 * xs.length := by
  have h := headsI_len xs
  have h2 := headsI_len xs.reverse
  rw [List.length_reverse] at h2
  cases k with
  | list => show xs.length ≤ _; omega
  | bag => show (sortI xs).length ≤ _; rw [(sort_perm xs).length_eq]; omega
  | set => show (sortI (headsI xs)).length ≤ _; rw [(sort_perm (headsI xs)).length_eq]; omega
  | first => show (xs.take 1).length ≤ _; rw [List.length_take]; omega
  | last => show (xs.drop (xs.length - 1)).length ≤ _; rw [List.length_drop]; omega
  | ends => show (xs.take 1 ++ xs.drop (xs.length - 1)).length ≤ _; rw [List.length_append, List.length_take, List.length_drop]; omega
  | heads => show (headsI xs).length ≤ _; omega
  | tails => show ((headsI xs.reverse).reverse).length ≤ _; rw [List.length_reverse]; omega
end Mv

set_option Elab.async false
set_option linter.all false
set_option maxRecDepth 100000
set_option maxHeartbeats 4000000
namespace Mv
open PySem PySem.Spec PyProof.Rows L2
/-! ### C() where no class on the way has an __init__ -/
structure Mk0 (K : PySem.W.Frag) (C : Addr) : Prop where
  makes : PySem.W.makesIn K C = true
  init : PySem.W.findIn K (.ref C) "__init__" = some (some (.builtin "object.__init__"))
  top : PySem.W.mroIn K C (.type "object") = some true
  kp : PySem.W.keepIn K (.ref C) = true
def tMake0 (C : Addr) : TE := fun _ H Q => ∀ x dx, H x = none → H dx = none → dx ≠ x → Q (.ref x) (upd (upd H dx (.own x)) x (.ins C dx []))
section
variable {X : Cx} {pins : List (Addr × Obj)} {σ : L2.St} {H : Hp} {s : Shared} {Q : VK} {C : Addr}
theorem run_makeB (M : Mk0 X.K C) (I : Inv X pins σ H s) (h : ∀ x dx, H x = none → H dx = none → dx ≠ x → Q (.ref x) (upd (upd H dx (.own x)) x (.ins C dx []))) :
    wpAny (model X.prog X.w) X.A (call (.ref C) []) (EP X pins σ Q) X.xe s := by
  have hq := h (s.heap.objs.size + 1) s.heap.objs.size (I.hok.fresh (Nat.le_succ _)) (I.hok.fresh (Nat.le_refl _)) (Nat.ne_of_lt (Nat.lt_succ_self _))
  have J := Inv.made (C := C) I
  refine wpAny_call (make_map0 I.kIn M.makes M.init (fun self => PySem.W.Looks.of_pure (PySem.W.oi_bind _)) ?_)
  obtain ⟨o, ho, hc⟩ : ∃ o : Obj, ((s.heap.push PySem.W.emptyDict).push (PySem.W.instObj C s.heap.objs.size)).get? (s.heap.objs.size + 1) = some o ∧ o.cls = .ref C := by
    obtain ⟨_, _, _, e, _⟩ := J.hok _ _ upd_same
    exact ⟨_, e, rfl⟩
  have ty : PySem.W.Looks (model X.prog X.w) ((s.heap.push PySem.W.emptyDict).push (PySem.W.instObj C s.heap.objs.size)) (typeOf (.ref (s.heap.objs.size + 1))) (.ref C) := (PySem.W.Looks.ld ho).andThen (by rw [hc]; exact .now)
  have top : PySem.W.Looks (model X.prog X.w) ((s.heap.push PySem.W.emptyDict).push (PySem.W.instObj C s.heap.objs.size)) (isInstance (.ref (s.heap.objs.size + 1)) (.type "object")) true := ty.andThen (PySem.W.looks_mroIn J.kIn M.top)
  refine codeAny_call_builtin PySem.W.oi_plain PySem.W.entry_oi (@PySem.W.check_slot (model X.prog X.w) _ _ _ "object.__init__" "object" "__init__" (.ref (s.heap.objs.size + 1)) [] [] _ PySem.W.oi_kind PySem.W.oi_split top (PySem.W.oi_args _) ?_)
  rw [PySem.W.oi_run]
  exact wpAny_pure ⟨rfl, .ref (s.heap.objs.size + 1), _, J, rfl, hq⟩
theorem pe_makeB {x : Str} {p pos : Pos} (M : Mk0 X.K C) (hg : Gl X x) (hm : X.mg x = some (.ref C)) (hdb : (x == ("__debug__" : Str)) = false := by decide) : PE X (.Call (.Name x p) [] [] pos) (tMake0 C) := by
  refine ⟨fun pins s σ H Q I h => ?_⟩
  refine wpAny_Call_Name_kw (ld_glob I hg hm ?_ hdb)
  exact PySem.W.callWith_K0 I.kIn M.kp (run_makeB M I h)
end
theorem paired_at {α β : Type} {F : α → β → Prop} : ∀ {xs : List α} {ys : List β} {i : Nat} {y : β}, Paired F xs ys → ys[i]? = some y → ∃ x, xs[i]? = some x ∧ F x y
  | _, _, i, y, .nil, h => by cases h
  | _, _, 0, y, .cons r t, h => ⟨_, rfl, by cases h; exact r⟩
  | _, _, i + 1, y, .cons r t, h => paired_at (i := i) t h
/-! ### sorted of ints, whatever they are collected from -/
section
variable {X : Cx} {pins : List (Addr × Obj)} {σ : L2.St} {H : Hp} {s : Shared} {Q : VK}
theorem sorted_from (I : Inv X pins σ H s) {v : Value} {ns : List Int} (hz : ns.length ≤ sizeLine)
    (hc : ∀ R : List Value → Shared → Prop, (∀ (h' : Heap) (tk : Nat) (acc : List Value), (∀ b o, s.heap.get? b = some o → h'.get? b = some o) → IntsAre acc ns → R acc { s with heap := h', toks := tk }) → wpAny (model X.prog X.w) X.A.in1 (collect v) R X.xe s)
    (q : ∀ p : Addr, H p = none → Q (.ref p) (upd H p (.lst ((sortI ns).map V.int)))) :
    wpAny (model X.prog X.w) X.A (call (.builtin "sorted") [v]) (EP X pins σ Q) X.xe s := by
  refine Calls.call_function_entry PyProof.Rows.kind_sorted PyProof.Rows.plain_sorted PyProof.Rows.entry_sorted (PyProof.Rows.args_sorted1 _) ?_
  unfold Builtin.«sorted»
  refine wpAny_bind (m := checkCount "sorted" 1 1 _) (wpAny_pure (wpAny_bind (hc _ fun h' tk acc hk hi => ?_)))
  have I1 : Inv X pins σ H { s with heap := h', toks := tk } := I.kept hk
  have hl : acc.length = ns.length := hi.length
  refine wpAny_bind (wpAny_newList ?_ (by rw [hl]; exact hz))
  have ho : (h'.push (seqObj "list" acc.toArray 0)).get? h'.objs.size = some (seqObj "list" acc.toArray 0) := Heap.get?_push_size _ rfl
  show wpAny _ _ _ _ _ { s with heap := h'.push (seqObj "list" acc.toArray 0), toks := tk }
  refine wpAny_bind (wpAny_holding (wpAny_call_entry PyProof.Rows.slot_list_sort ⟨_, ho, rfl⟩ PyProof.Rows.entry_list_sort
    (SrtO.list_sort_ord (s := { s with heap := h'.push (seqObj "list" acc.toArray 0), toks := tk }) SrtO.swo_int ho (by rw [hl]; exact hz) (fun h2 => SrtO.ints_sortable hi h2) fun out k1 k2 => ⟨_, rfl, ?_⟩) (PyProof.Rows.args_list_sort _)))
  obtain ⟨g1, g2, g3⟩ := SrtO.ints_out hi k1 k2
  rw [sort_is g2 g3] at g1
  obtain ⟨e', he'⟩ := PyProof.Rows.sortedHeap_at (vs := acc) (out := out.toArray) ho
  refine wpAny_pure ⟨_, rfl, .ref h'.objs.size, upd H h'.objs.size (.lst ((sortI ns).map V.int)), I1.laid (t' := tk) (fun b u e => ?_) (Nat.le_refl _)
    (show ObjOk X.prog X.w _ _ _ (.lst ((sortI ns).map V.int)) from ⟨by rw [List.length_map, (sort_perm ns).length_eq]; exact hz, out, e', vals_of_ints g1, he'⟩), rfl, q _ (I1.hok.fresh (Nat.le_refl _))⟩
  have hb : b < h'.objs.size := Heap.lt_size e
  rw [PyProof.Rows.sortedHeap_old (Nat.ne_of_lt hb) (by rw [size_push']; exact Nat.lt_succ_of_lt hb)]
  exact Heap.get?_push_of_some _ e
/-- sorted(t), t a tuple of ints -/
def rSortT (K : PySem.W.Frag) : List V → Hp → VK → Prop := fun vs H Q => ∃ (a : Addr) (ns : List Int), vs = [V.ref a] ∧ SqT K H a (ns.map V.int) ∧ ∀ p : Addr, H p = none → Q (.ref p) (upd H p (.lst ((sortI ns).map V.int)))
theorem cr_sortT' : CallR X (.builtin "sorted") (rSortT X.K) := by
  intro pins s σ H vs us Q I r h
  obtain ⟨a, ns, rfl, hs, q⟩ := h
  rw [Vals.ref1 r]
  obtain ⟨its, rv, ⟨o, h1, h2, n, h3⟩, hz⟩ := I.tuple hs
  have hi := rv.ints
  have hl := hi.length
  rw [List.length_map] at hz
  refine sorted_from I hz (fun R k => wpAny_collect_seq a (.inr rfl) h1 h2 h3 (fun h' hk => ?_) (by rw [List.size_toArray, hl]; exact hz)) q
  have := k h' s.toks its hk hi
  simpa using this
/-- sorted(l), l a list of ints -/
def rSortL (K : PySem.W.Frag) : List V → Hp → VK → Prop := fun vs H Q => ∃ (a : Addr) (ns : List Int), vs = [V.ref a] ∧ SqL K H a (ns.map V.int) ∧ ∀ p : Addr, H p = none → Q (.ref p) (upd H p (.lst ((sortI ns).map V.int)))
theorem cr_sortL : CallR X (.builtin "sorted") (rSortL X.K) := by
  intro pins s σ H vs us Q I r h
  obtain ⟨a, ns, rfl, hs, q⟩ := h
  refine cr_sortedI pins s σ H _ us Q I r ⟨a, ns, rfl, hs, fun ns' p k1 k2 hp => ?_⟩
  rw [sort_is k1 k2]
  exact q p hp
/-! ### d.values() as a thing of its own -/
def valuesO (p d : Addr) : HO := .ext fun h => h.IsValuesView p d
def tVals (td : TE) : TE := fun σ H Q => td σ H fun x H1 => ∃ d kvs, x = .ref d ∧ H1 d = some (.dK kvs) ∧ ∀ p, H1 p = none → Q (.ref p) (upd H1 p (valuesO p d))
theorem pe_vals {e : Expr} {td : TE} {apos cpos : Pos} (he : PE X e td) (hbase : attributeBase e "values" X.env (eval e X.env) = eval e X.env := by rfl) (hline : (apos.endLine == cpos.line) = true := by rfl) : PE X (.Call (.Attribute e "values" apos) [] [] cpos) (tVals td) := by
  refine ⟨fun pins s σ H Q I h => ?_⟩
  refine wpAny_Call_method (T := "dict") (id := "dict.values") hbase rfl hline F.plainAttrs_dict F.slot_dict_values F.type_dict_values (thn (he.run pins s σ H _ I h) fun u s1 ⟨x, H1, I1, rx, d, kvs, ex, hd, q⟩ => ?_)
  subst ex
  obtain rfl : u = Value.ref d := rx
  obtain ⟨z, hgd, vs, kv, dd⟩ := dk_of I1.hok hd
  refine ⟨dd.typeIs, dd.mapOf.noDict, ?_⟩
  have hf : H1 s1.heap.objs.size = none := I1.hok.fresh (Nat.le_refl _)
  have e0 : (s1.heap.push { cls := .type "dict_values", data := .fields #[.ref d] }).get? s1.heap.objs.size = some { cls := .type "dict_values", data := .fields #[.ref d] } := Heap.get?_push_size _ rfl
  have J := I1.laid (a := s1.heap.objs.size) (o := valuesO s1.heap.objs.size d) (h' := s1.heap.push { cls := .type "dict_values", data := .fields #[.ref d] }) (t' := s1.toks) (fun b u e => Heap.get?_push_of_some _ e) (Nat.le_refl _) ⟨⟨_, e0, rfl, rfl⟩, ⟨_, e0⟩, fun h1 h2 ⟨o, ho, r⟩ k => ⟨o, k o ho, r⟩⟩
  show wpAny _ _ (callWith cpos (.builtin "dict.values") [.ref d] [] []) _ X.xe s1
  exact method_meetsIn F.slot_dict_values F.entry_dict_values rfl (PySem.evalArgs_none ⟨rfl, dd.typeIs, F.args_dict_values_1 _, _, meets_dict_values (mixKind X.prog X.w) d hgd, ⟨vs, dd⟩, ⟨.ref s1.heap.objs.size, _, J, rfl, q _ hf⟩⟩)
/-- sorted(v), v the values of a dict, all ints -/
def rSortV : List V → Hp → VK → Prop := fun vs H Q => ∃ (p d : Addr) (kvs : List (Key × V)) (ns : List Int), vs = [V.ref p] ∧ H p = some (valuesO p d) ∧ H d = some (.dK kvs) ∧ kvs.map (·.2) = ns.map V.int ∧ ∀ l : Addr, H l = none → Q (.ref l) (upd H l (.lst ((sortI ns).map V.int)))
theorem cr_sortV (hcalm : X.calm = true) : CallR X (.builtin "sorted") rSortV := by
  intro pins s σ H vs us Q I r h
  obtain ⟨p, d, kvs, ns, rfl, hp, hd, hv, q⟩ := h
  rw [Vals.ref1 r]
  have view : s.heap.IsValuesView p d := (show ObjOk X.prog X.w H s.heap p (valuesO p d) from I.hok p _ hp).1
  obtain ⟨z, lo, ws, rel, dd⟩ := dk_of I.hok hd
  obtain ⟨ep, hat⟩ := dd.dictAt
  have hlv : kvs.length = ws.length := rel.length
  have hln : kvs.length = ns.length := by
    have e := congrArg List.length hv
    rw [List.length_map, List.length_map] at e
    exact e
  refine sorted_from I (by rw [← hln]; exact z) (fun R k => PySem.W.kdu_collect (A := X.A.in1) (PySem.W.kdl_values (knd := mixKind X.prog X.w) (kvs := ws) (ep := ep)) (I.ok.hd hcalm) ⟨view, hat⟩ (by rw [← hlv]; exact z) fun h' tk acc hk hacc => k h' tk acc.toList hk ?_) q
  refine ints_each (by rw [Array.length_toList, hacc.1, ← hlv, hln]) fun j v e => ?_
  rw [Array.getElem?_toList] at e
  obtain ⟨key, e1⟩ := hacc.2 j v e
  obtain ⟨kv, e2, e3, e4⟩ := paired_at rel e1
  have e5 : (kvs.map (·.2))[j]? = some kv.2 := by rw [List.getElem?_map, e2]; rfl
  rw [hv] at e5
  obtain ⟨u, eu, e6⟩ := int_at e5
  rw [eu] at e4
  obtain ⟨t, e4⟩ := e4
  exact ⟨u, t, e6, e4⟩
end
end Mv

set_option Elab.async false
set_option linter.all false
set_option maxRecDepth 100000
set_option maxHeartbeats 4000000
namespace Mv
open PySem PySem.Spec PyProof.Rows L2
/-! ### enumerate(t), t a tuple -/
set_option maxHeartbeats 8000000 in
theorem enum_new1 {v : Value} {o : Obj} {Hh : Heap → Prop} (B : Begins v o Hh) :
    Meets (Builtin.«enumerate.__new__» ⟨[.type "enumerate", v], []⟩) (fun _ R s => Hh s.heap ∧
      R (.ok (.ret (.ref (s.heap.push o).objs.size))) { s with heap := (s.heap.push o).push { cls := .type "enumerate", data := .fields #[.none, .bool false, .ref s.heap.objs.size, rawInt 0, .none, .none] } }) :=
  .of_wp fun prog w A R s h => by
    obtain ⟨hp, g, d, tk, os⟩ := s
    obtain ⟨h1, h⟩ := h
    have hsub := sub_enumerate
    have q1 : ∀ {A' : Around} {E : Value → Shared → Prop} {Q : Value → Shared → Prop}, Q (.ref hp.objs.size) ⟨hp.push o, g, d, tk, os⟩ → wpAny (model prog w) A' (pyIter v) Q E ⟨hp, g, d, tk, os⟩ :=
      fun q => B.iter prog w _ _ ⟨hp, g, d, tk, os⟩ _ h1 q
    wp_walk using q1
    refine wpAny_stack_any fun st => wpAny_pure ?_
    split
    · rename_i c _ _ _ _ _
      cases (c == Value.type "enumerate") <;> (wp_walk using q1) <;> exact ⟨_, rfl, h⟩
    · wp_walk using q1
      exact ⟨_, rfl, h⟩
theorem enum_one {prog : Program} {w : World} {A : Around} {E : Value → Shared → Prop} {s : Shared} {v : Value} {o : Obj} {Hh : Heap → Prop} {Q : Value → Shared → Prop} (B : Begins v o Hh) (h1 : Hh s.heap)
    (h : ∀ h', IsEnum h' (s.heap.objs.size + 1) s.heap.objs.size 0 .none → h'.get? s.heap.objs.size = some o → h'.objs.size = s.heap.objs.size + 2 →
      (∀ b o, s.heap.get? b = some o → h'.get? b = some o) → Q (.ref (s.heap.objs.size + 1)) { s with heap := h' }) :
    wpAny (model prog w) A (call (.type "enumerate") [v]) Q E s := by
  refine callType_new F.called_enumerate (by decide) (F.typeCall_enumerate_1 _) (F.newCall_enumerate_1 _) (fun obj => F.args_object_init_2 obj _) F.entry_enumerate_new (enum_new1 B) ⟨h1, ?_⟩
  have hz : (s.heap.push o).objs.size = s.heap.objs.size + 1 := Heap.size_push ..
  show _ ∧ _
  rw [hz]
  have he := Heap.get?_push_size (s.heap.push o) (o := { cls := .type "enumerate", data := .fields #[.none, .bool false, .ref s.heap.objs.size, rawInt 0, .none, .none] }) rfl
  rw [hz] at he
  exact ⟨⟨_, he, rfl⟩, h _ he (Heap.get?_push_of_some _ (Heap.get?_push_size _ B.free)) (by rw [Heap.size_push, hz]) fun b u x => Heap.get?_push_of_some _ (Heap.get?_push_of_some _ x)⟩
/-- the tuple at a, each item in a new pair -/
def IteT (K : PySem.W.Frag) (a : Addr) : It where
  go := fun i H => ∃ (xs : List V) (x : V), SqT K H a xs ∧ xs[i]? = some x
  yld := fun i H v H' => ∃ T x, v = .ref T ∧ H T = none ∧ H' = upd H T (.tup [.int (i : Nat), x]) ∧ ∀ xs, SqT K H a xs → xs[i]? = some x
  stop := fun i H => ∃ xs : List V, SqT K H a xs ∧ xs.length = i
theorem turn_enumT {P : Program} {w : World} {K : PySem.W.Frag} {elts : List Expr} {kk : Nat} {tpos : Pos} {a e it : Addr} (hae : a ≠ e) (hai : a ≠ it) :
    Turn P w K (.Tuple elts kk tpos) (IteT K a) [e, it] e (fun i h => (∃ old, IsEnum h e it ((i : Nat) : Int) old) ∧ h.IsTupleIter it a i ∧ e ≠ it) where
  mem := List.mem_cons_self ..
  obj := fun i h st b hb => by
    obtain ⟨⟨old, he⟩, ⟨o, ho, hc, hd⟩, _⟩ := st
    rcases List.mem_cons.mp hb with z | z
    · rw [z]
      exact ⟨_, he, fun v q => nomatch q⟩
    · rw [List.mem_singleton.mp z]
      exact ⟨o, ho, fun v q => by rw [hd] at q; cases q⟩
  keep := fun i h h' st k => by
    obtain ⟨⟨old, he⟩, ⟨o, ho, hc, hd⟩, hne⟩ := st
    exact ⟨⟨old, k e (by simp) _ he⟩, ⟨o, k it (by simp) o ho, hc, hd⟩, hne⟩
  item := by
    intro X hP hw hK hc i pins s σ H E I hf st hg
    subst hP hw hK
    obtain ⟨⟨old, he⟩, hit, hne⟩ := st
    obtain ⟨xs, x, hq, hx⟩ := hg
    obtain ⟨its, rv, ⟨o, h1, h2, n, h3⟩, hz⟩ := I.tuple hq
    have p : s.heap.IsTuple a its.toArray := ⟨o, h1, h2, n, h3⟩
    obtain ⟨u, hu, ru⟩ := rv.get hx
    have hi : i < its.toArray.size := by
      rw [List.size_toArray]
      exact (List.getElem?_eq_some_iff.mp hu).1
    have hel : e < s.heap.objs.size := Heap.lt_size he
    have hil : it < s.heap.objs.size := by
      obtain ⟨_, q, _⟩ := hit
      exact Heap.lt_size q
    refine wpAny_pyNext_enum_itemD (Draws.tuple (by exact I.ok.hd hc) it a hai its.toArray) he ⟨hit, p⟩ hi hne (by simp [hne, Ne.symm hae]) fun x' h' tk px ho hs' hT hsz hk => ?_
    obtain rfl : u = x' := by
      rw [List.getElem?_toArray, hu] at px
      exact Option.some.inj px
    refine ⟨_, rfl, wpAny_letOwnedTupleGo_enum (s := { s with heap := h', toks := tk + 1 }) ho fun h'' he' sb => ?_⟩
    have hT2 : h''.get? s.heap.objs.size = some { cls := .type "tuple", data := .seq #[.int i tk, u] } := (sb.2 _ (Nat.ne_of_gt hel)).trans hT
    have new : ObjOk X.prog X.w (upd H s.heap.objs.size (.tup [.int (i : Nat), x])) h'' s.heap.objs.size (.tup [.int (i : Nat), x]) :=
      ⟨by show 2 ≤ sizeLine; decide, [.int i tk, u], .cons ⟨_, rfl⟩ (.cons ru .nil), ⟨_, hT2, rfl, _, rfl⟩⟩
    have I1 : Inv X pins σ (upd H s.heap.objs.size (.tup [.int (i : Nat), x])) { s with heap := h'', toks := tk + 1 } :=
      I.turnedNew (ch := [e, it]) (fun b ob hb q => (sb.2 b (fun z => hb (by simp [z]))).trans (hk b ob (fun z => hb (by simp [z])) (fun z => hb (by simp [z])) q)) hf (Nat.le_refl _) new
    refine ⟨.ref s.heap.objs.size, _, I1, rfl, ⟨_, x, rfl, I.hok.fresh (Nat.le_refl _), rfl, fun ys hy => by rw [I.tuple_inj hy hq]; exact hx⟩, ⟨⟨u, ?_⟩, hs'.1.at fun o q => (sb.2 it (Ne.symm hne)).trans q, hne⟩, fun b hb => ?_⟩
    · rw [show ((i + 1 : Nat) : Int) = (i : Int) + 1 from by omega]
      exact he'
    · have hb' : b < s.heap.objs.size := by
        rcases List.mem_cons.mp hb with z | z
        · rw [z]
          exact hel
        · rw [List.mem_singleton.mp z]
          exact hil
      rw [upd_ne (Nat.ne_of_lt hb')]
      exact (hf b hb).1
  done := by
    intro X hP hw hK hc i pins s σ H E I hf st hg
    subst hP hw hK
    obtain ⟨⟨old, he⟩, hit, hne⟩ := st
    obtain ⟨xs, hq, hx⟩ := hg
    obtain ⟨its, rv, ⟨o, h1, h2, n, h3⟩, hz⟩ := I.tuple hq
    have p : s.heap.IsTuple a its.toArray := ⟨o, h1, h2, n, h3⟩
    obtain ⟨f0, f1, f2, f3, f4, f5⟩ := hf it (by simp)
    have hl := rv.length
    have hz' : its.toArray.size = i := by
      rw [List.size_toArray, ← hl, hx]
    refine wpAny_pyNext_enum_endD (Draws.tuple (by exact I.ok.hd hc) it a hai its.toArray) he ⟨by rw [hz']; exact hit, p⟩ fun h' eb => ⟨rfl, I.turned (t' := s.toks) (fun b o hb q => eb b o hb q) f0 f1 f3 f4 f5⟩
  self := fun A i s Q E st h => let ⟨⟨_, he⟩, _⟩ := st; wpAny_pyIter_enum he h
def iEnumT (K : PySem.W.Frag) (ta : TA) : TI := fun σ H R => ta σ H fun vs H1 => ∃ a xs, vs = [.ref a] ∧ SqT K H1 a xs ∧ R (IteT K a) H1
theorem pi_enumT {X : Cx} {e : Expr} {ta : TA} {p pos tpos : Pos} {elts : List Expr} {kk : Nat} (hg : Gl X "enumerate") (hm : X.mg "enumerate" = none) (ha : PA X [e] ta) (hs : starEach [e] X.env = [(false, eval e X.env)] := by rfl) :
    PI X (.Tuple elts kk tpos) (.Call (.Name "enumerate" p) [e] [] pos) (iEnumT X.K ta) := by
  refine ⟨fun pins s σ H R I h => ?_⟩
  refine Call_ (ld_blt I hg hm boot_enumerate (PyProof.Rows.callWith_type1 (thn (ha.run pos pins s σ H _ I h) fun us s1 ⟨vs, H1, I1, r1, q1⟩ => ?_) hs rfl))
  obtain ⟨a, xs, rfl, hq, q⟩ := q1
  rw [Vals.ref1 r1]
  obtain ⟨its, rv, ⟨o, h1, h2, n, h3⟩, hz⟩ := I1.tuple hq
  have p' : s1.heap.IsTuple a its.toArray := ⟨o, h1, h2, n, h3⟩
  have hal : a < s1.heap.objs.size := Heap.lt_size h1
  refine enum_one (begins_tuple a its.toArray) p' fun h' he hit hsz hk => wpAny_pyIter_enum he ?_
  have I2 : Inv X pins σ H1 { s1 with heap := h' } := I1.kept (t' := s1.toks) hk
  refine ⟨s1.heap.objs.size + 1, [s1.heap.objs.size + 1, s1.heap.objs.size], _, _, H1, rfl, I2, turn_enumT (a := a) (e := s1.heap.objs.size + 1) (it := s1.heap.objs.size) (Nat.ne_of_lt (Nat.lt_succ_of_lt hal)) (Nat.ne_of_lt hal), ⟨⟨.none, he⟩, ⟨_, hit, rfl, rfl⟩, Nat.succ_ne_self _⟩, fun b hb => ?_, q⟩
  have hle : s1.heap.objs.size ≤ b := by
    rcases List.mem_cons.mp hb with z | z
    · rw [z]
      exact Nat.le_add_right _ _
    · rw [List.mem_singleton.mp z]
      exact Nat.le_refl _
  exact I1.fpOk hle (I1.hok.fresh hle)
theorem walk_enumT {K : PySem.W.Frag} {a : Addr} {xs : List V} : Walk (IteT K a) xs.length (fun H => SqT K H a xs) (YPair (fun i => some (.int (i : Nat))) (fun i => xs[i]?)) := by
  refine ⟨fun i _ hi q => ⟨xs, xs[i], q, List.getElem?_eq_getElem hi⟩, fun _ q => ⟨xs, q, rfl⟩, fun i H v H' _ q y => ?_⟩
  obtain ⟨T, x, h1, h2, h3, h4⟩ := y
  exact ⟨T, .int (i : Nat), x, h1, h2, h3, rfl, h4 xs q⟩
/-- a dict comprehension over it -/
theorem dc_it {J : It} {n : Nat} {G : Hp → Prop} {Y : Nat → Hp → V → Hp → Prop} (w : Walk J n G Y) {g : TG} {tt : TT} {tk tv : TE} {vs : List Nat} {σ : L2.St} {H1 : Hp} {D : Addr} {Q : VK} (Pv : Nat → Hp → Prop) (h0 : Pv 0 (upd H1 D (.dK []))) (hG : ∀ i H, i ≤ n → Pv i H → G H)
    (hs : ∀ i x H H', i < n → Pv i H → Y i H x H' → g x (wipe σ vs) H' fun σ2 H2 => wipe σ2 vs = wipe σ vs ∧ tt σ2 H2 fun b H3 =>
      if b = true then tk σ2 H3 fun y H4 => tv σ2 H4 fun z H5 => ∃ kvs k, y = kV k ∧ H5 D = some (.dK kvs) ∧ kvs.length < sizeLine ∧ Pv (i + 1) (upd H5 D (.dK (putK kvs k z))) else Pv (i + 1) H3) (hd : ∀ H, Pv n H → Q (.ref D) H) :
    ∃ W : Nat → Nat → Hp → Prop, (∃ m, W 0 m (upd H1 D (.dK []))) ∧ ∀ i m H, W i m H →
      (J.stop i H ∧ Q (.ref D) H) ∨ (J.go i H ∧ ∃ Nx : Hp → Prop, (∀ H', Nx H' → ∃ m', m' < m ∧ W (i + 1) m' H') ∧ ∀ x H', J.yld i H x H' → g x (wipe σ vs) H' fun σ2 H2 => wipe σ2 vs = wipe σ vs ∧ tt σ2 H2 fun b H3 =>
        if b = true then tk σ2 H3 fun y H4 => tv σ2 H4 fun z H5 => ∃ kvs k, y = kV k ∧ H5 D = some (.dK kvs) ∧ kvs.length < sizeLine ∧ Nx (upd H5 D (.dK (putK kvs k z))) else Nx H3) := by
  refine ⟨fun i m H => m = n - i ∧ i ≤ n ∧ Pv i H, ⟨n, by simp, Nat.zero_le _, h0⟩, ?_⟩
  rintro i m H ⟨rfl, hi, p⟩
  have q := hG i H hi p
  by_cases hlt : i < n
  · exact .inr ⟨w.goes i H hlt q, Pv (i + 1), fun H' p' => ⟨n - (i + 1), by omega, rfl, hlt, p'⟩, fun x H' y => hs i x H H' hlt p (w.yields i H x H' hlt q y)⟩
  · have e : i = n := by omega
    subst e
    exact .inl ⟨w.stops H q, hd H p⟩
end Mv

set_option Elab.async false
set_option linter.all false
set_option maxRecDepth 100000
set_option maxHeartbeats 4000000
namespace Mv
open PySem PySem.Spec PyProof.Rows L2
/-! ### sorted(range(n), key=lambda at: word[at]) -/
/-- the indexes of a word, by their values, equal ones ascending -/
def bagIx (xs : List Int) : List Nat := (List.range xs.length).mergeSort fun i j => decide (xs.getD i 0 ≤ xs.getD j 0)
theorem bagIx_perm (xs : List Int) : (bagIx xs).Perm (List.range xs.length) := List.mergeSort_perm _ _
theorem bagIx_len (xs : List Int) : (bagIx xs).length = xs.length := by rw [(bagIx_perm xs).length_eq, List.length_range]
theorem bagIx_lt {xs : List Int} {i : Nat} (h : i ∈ bagIx xs) : i < xs.length := List.mem_range.mp ((bagIx_perm xs).mem_iff.mp h)
theorem range_get (xs : List Int) : (List.range xs.length).map (fun i => xs.getD i 0) = xs := by
  apply List.ext_getElem?
  intro i
  rw [List.getElem?_map]
  by_cases h : i < xs.length
  · rw [List.getElem?_range h, List.getElem?_eq_getElem h]
    simp [List.getD_eq_getElem?_getD, List.getElem?_eq_getElem h]
  · rw [List.getElem?_eq_none (by rw [List.length_range]; omega), List.getElem?_eq_none (by omega)]
    rfl
theorem bagIx_vals (xs : List Int) : (bagIx xs).map (fun i => xs.getD i 0) = sortI xs := by
  refine sort_is ?_ ?_
  · have h := (bagIx_perm xs).map (fun i => xs.getD i 0)
    rw [range_get] at h
    exact h
  · rw [List.pairwise_map]
    have h := List.pairwise_mergeSort (le := fun i j => decide (xs.getD i 0 ≤ xs.getD j 0)) (by
      intro a b c h1 h2
      have h1 := of_decide_eq_true h1
      have h2 := of_decide_eq_true h2
      exact decide_eq_true (Int.le_trans h1 h2)) (by
      intro a b
      rcases Int.le_total (xs.getD a 0) (xs.getD b 0) with q | q
      · rw [decide_eq_true q]; rfl
      · rw [decide_eq_true q, Bool.or_true]) (List.range xs.length)
    exact h.imp fun {a b} q => of_decide_eq_true q
section
variable {prog : Program} {w : World} {A : Around} {s : Shared}
/-- lambda at: word[at], called -/
theorem lam_key {f c' c p : Addr} {q : Str} {params : Arguments} {scope : Scope} {cl : List (Str × Addr)} {pm ctv : Value} {p1 p2 p3 : Pos} {its : List Value} {i : Nat} {t u : Tok} {n : Int}
    (hroom : A.depth < recursionLimit) (nl : s.heap.NoLimit) (ho : s.heap.get? f = some (PySem.W.kla_obj "<lambda>" q params (.Subscript (.Name "word" p1) (.Name "at" p2) p3) scope cl pm c' ctv))
    (hcd : s.heap.CodeRec (.ref c') q) (hsc : scope.names = [(("at" : Str), NameKind.local), (("word" : Str), NameKind.free)]) (hk : scope.kind = .function) (hco : scope.isCoroutine = false) (hgen : scope.isGenerator = false)
    (hbind : ∀ v : Value, bindArgs (PySem.W.kla_fn "<lambda>" q params (.Subscript (.Name "word" p1) (.Name "at" p2) p3) scope cl pm (.ref c') ctv) ⟨[v], []⟩ = pure [(("at" : Str), v)])
    (hcl : cl.lookup ("word" : Str) = some c) (hcell : s.heap.IsCell c (some (.ref p))) (hseq : s.heap.IsTuple p its.toArray ∨ s.heap.IsList p its.toArray) (hz : its.length ≤ sizeLine) (hat : its[i]? = some (.int n u)) :
    wpAny (model prog w) A (call (.ref f) [.int (i : Nat) t]) (PySem.W.KeyPure (.int n) s) (fun _ _ => False) s := by
  have hi : i < its.length := (List.getElem?_eq_some_iff.mp hat).1
  have hz63 : its.length < 2 ^ 63 := by
    rw [sizeLine_eq] at hz
    omega
  refine wpAny_call (PySem.W.kla_callFunE hroom ho rfl hco hgen rfl hcd ?_)
  rw [hbind]
  refine wpAny_pure (wpAny_newFunctionEnv (by rw [hsc]; decide) (by rw [hsc]; intro y hy; rw [List.mem_singleton.mp hy]; rfl) (fun h₁ hns hsb => ⟨nl.fresh _ hsb, ?_⟩) hk)
  have kp : ∀ b o, s.heap.get? b = some o → h₁.get? b = some o := fun b o e => hsb.extBut b o (Nat.ne_of_lt (Heap.lt_size e)) (Heap.get?_push_of_some _ e)
  show codeAny _ _ (.expr _ (PySem.W.envX q scope s.heap.objs.size f (.ref c') cl)) _ _
  refine PySem.W.kla_codeExpr ?_
  obtain ⟨oc, hoc, hdc⟩ := hcell
  have kn1 : (PySem.W.envX q scope s.heap.objs.size f (.ref c') cl).kindOf "word" = some .free := by
    show scope.names.lookup _ = _
    rw [hsc]
    rfl
  have kn2 : (PySem.W.envX q scope s.heap.objs.size f (.ref c') cl).kindOf "at" = some .local := by
    show scope.names.lookup _ = _
    rw [hsc]
    rfl
  refine Subscript_ (wpAny_Name (wpAny_loadName_free hk kn1 hcl ⟨oc, kp _ _ hoc, hdc⟩ ?_) (by decide))
  refine wpAny_Name (wpAny_loadName_local (v := .int (i : Nat) t) hk kn2 hns rfl ?_) (by decide)
  have fin : PySem.W.KeyPure (.int n) s (.int n u) { s with heap := h₁, toks := s.toks + [(("at" : Str), Value.int (i : Nat) t)].length } := ⟨h₁, _, rfl, kp, .int n u⟩
  rcases hseq with ⟨o, h1, h2, m, h3⟩ | hl
  · refine subscriptTail_builtinR (x := .int n u) ⟨o, kp _ _ h1, h2⟩ slot_tuple_getitem.lookup (getItem_tuple (j := i) ⟨o, kp _ _ h1, h2, m, h3⟩ (by omega) (by omega) ?_ ?_ ⟨rfl, fin⟩)
    · rw [List.size_toArray]
      exact seqIndex_of (Int.natCast_nonneg _) (by omega)
    · rw [List.getElem?_toArray]
      exact hat
  · exact item_listR (x := .int n u) (hl.at fun o e => kp _ _ e) (Int.natCast_nonneg _) (by omega) (by rw [Int.toNat_natCast, List.getElem?_toArray]; exact hat) fin
end
theorem each_vals {out : List Value} {is : List Nat} (e : PySem.W.EachIs (fun v (i : Nat) => ∃ t, v = .int (i : Nat) t) out is) : Vals (is.map fun i => V.int (i : Nat)) out := by
  induction e with
  | nil => exact .nil
  | cons h _ ih =>
    obtain ⟨t, rfl⟩ := h
    exact .cons ⟨t, rfl⟩ ih
section
variable {X : Cx} {pins : List (Addr × Obj)} {σ : L2.St} {H : Hp} {s : Shared} {Q : VK}
/-- sorted(v, key=f), v collected as the ints vs, f a pure key -/
theorem sorted_key_from (I : Inv X pins σ H s) {v : Value} {f : Addr} {n : Nat} {key : Nat → Int} (hz : n ≤ sizeLine) (hu : X.A.units + 2 < cLine)
    (hc : ∀ R : List Value → Shared → Prop, (∀ (h' : Heap) (tk : Nat) (acc : List Value), (∀ b o, s.heap.get? b = some o → h'.get? b = some o) → PySem.W.EachIs (fun v (i : Nat) => ∃ t, v = .int (i : Nat) t) acc (List.range n) → R acc { s with heap := h', toks := tk }) → wpAny (model X.prog X.w) X.A.in1 (collect v) R X.xe s)
    (turn : ∀ (i : Nat) (t : Tok) (h : Heap) (tk : Nat), i < n → (∀ b o, s.heap.get? b = some o → h.get? b = some o) → wpAny (model X.prog X.w) X.A.in1.in1 (call (.ref f) [.int (i : Nat) t]) (PySem.W.KeyPure (.int (key i)) { s with heap := h, toks := tk }) (fun _ _ => False) { s with heap := h, toks := tk })
    (q : ∀ p : Addr, H p = none → Q (.ref p) (upd H p (.lst (((List.range n).mergeSort fun i j => decide (key i ≤ key j)).map fun i => V.int (i : Nat))))) :
    wpAny (model X.prog X.w) X.A (call (.builtin "sorted") [v] [(Str.ofString "key", .ref f)]) (EP X pins σ Q) X.xe s := by
  refine call_function_entry_kw kind_sorted plain_sorted entry_sorted (ksk_s1 _ _) ?_
  unfold Builtin.«sorted»
  refine wpAny_bind (m := checkCount "sorted" 1 1 _) (wpAny_pure (wpAny_bind (hc _ fun h' tk acc hk hi => ?_)))
  have I1 : Inv X pins σ H { s with heap := h', toks := tk } := I.kept hk
  have hl : acc.length = n := by rw [hi.length, List.length_range]
  refine wpAny_bind (wpAny_newList ?_ (by rw [hl]; exact hz))
  have hoL : (h'.push (seqObj "list" acc.toArray 0)).get? h'.objs.size = some (seqObj "list" acc.toArray 0) := Heap.get?_push_size _ rfl
  show wpAny _ _ _ _ _ { s with heap := h'.push (seqObj "list" acc.toArray 0), toks := tk }
  refine wpAny_bind (wpAny_holding (wpAny_call_entry_kw slot_list_sort ⟨_, hoL, rfl⟩ entry_list_sort ?_ (ksk_l1 _ _)))
  rw [ksk_t1]
  have up : ∀ {g : Heap}, PySem.W.KeepsBut h'.objs.size (h'.push (seqObj "list" acc.toArray 0)) g → ∀ b o, h'.get? b = some o → g.get? b = some o := fun {g} kp b o e =>
    kp b o (Nat.ne_of_lt (Heap.lt_size e)) (Heap.get?_push_of_some _ e)
  refine PySem.W.keyH_tree (b := false) (kz := (List.range n).map fun i => PyData.int (key i)) (s := { s with heap := h'.push (seqObj "list" acc.toArray 0), toks := tk }) hoL
    (by rw [List.length_map, List.length_range, hl]) (by rw [hl]; exact hz) (PySem.W.AllAlike.of fun _ _ => by simp [PySem.W.alike]) ?_ (PySem.W.bound_map (A := X.A.in1.in1) (bs := List.range n) (enc := fun i => PyData.int (key i)) fun _ _ => ?_)
    (PySem.W.keyH_turns (s := { s with heap := h'.push (seqObj "list" acc.toArray 0), toks := tk }) hi fun v i hv hin h tk2 kp => ?_) fun h3 tk3 out c kp hD ko => ?_
  · exact PySem.W.Sortable.others fun i => ⟨by simp, by simp⟩
  · show X.A.units + 2 + 0 < _
    omega
  · obtain ⟨t, rfl⟩ := hv
    exact turn i t h tk2 (List.mem_range.mp hin) fun b o e => up kp b o (hk b o e)
  · have eo := PySem.W.keyedOut_each (fun i : Nat => PyData.int (key i)) ko hi
    rw [PySem.W.dataLe_int] at eo
    refine ⟨_, rfl, wpAny_pure ⟨_, rfl, .ref h'.objs.size, upd H h'.objs.size (.lst (((List.range n).mergeSort fun i j => decide (key i ≤ key j)).map fun i => V.int (i : Nat))), I1.laid (t' := tk3) (h' := h3) (up kp) (Nat.le_refl _)
      (show ObjOk X.prog X.w _ _ _ (.lst _) from ⟨?_, out, c, ?_, hD⟩), rfl, q _ (I1.hok.fresh (Nat.le_refl _))⟩⟩
    · rw [List.length_map, List.length_mergeSort, List.length_range]
      exact hz
    · exact each_vals eo
end
end Mv

set_option Elab.async false
set_option linter.all false
set_option maxRecDepth 100000
set_option maxHeartbeats 4000000
namespace Mv
open PySem PySem.Spec PyProof.Rows L2
def tSortAt (K : PySem.W.Frag) (T : List (Addr × Str)) (i : Nat) (ta : TE) : TE := fun σ H Q => ta σ H fun x H1 => ∃ (p : Addr) (xs : List Int), σ[i]? = some (some (.ref p)) ∧ x = .int (xs.length : Int) ∧ (SqT K H1 p (xs.map V.int) ∨ SqL K H1 p (xs.map V.int)) ∧ xs.length ≤ 4000 ∧ LamX.Tabs T H1 ∧
  ∀ H2 l, LamX.ExtN H1 H2 → LamX.Tabs T H2 → H2 l = none → Q (.ref l) (upd H2 l (.lst ((bagIx xs).map fun i => V.int (i : Nat))))
theorem sq_extN {K : PySem.W.Frag} {H H1 : Hp} {p : Addr} {xs : List V} (e : LamX.ExtN H H1) (h : SqT K H p xs ∨ SqL K H p xs) : SqT K H1 p xs ∨ SqL K H1 p xs := by
  rcases h with ((h | ⟨o, h⟩) | h) | ((h | ⟨o, h⟩) | h)
  · exact .inl (.inl (.inl (e _ _ h (fun ps z => by cases z))))
  · exact .inl (.inl (.inr ⟨o, e _ _ h (fun ps z => by cases z)⟩))
  · exact .inl (.inr h)
  · exact .inr (.inl (.inl (e _ _ h (fun ps z => by cases z))))
  · exact .inr (.inl (.inr ⟨o, e _ _ h (fun ps z => by cases z)⟩))
  · exact .inr (.inr h)
/-- sorted(range(a), key=lambda at: word[at]) -/
theorem pe_sortAt {X : Cx} {k : Nat} {T : List (Addr × Str)} {c P : Addr} {params : Arguments} {scope : Scope} {i : Nat} {a : Expr} {ta : TE} {p p2 pos pos2 p3 p4 p5 lpos kpos : Pos}
    (hc : X.calm = true) (hr : Room k X.A) (hg : Gl X "sorted") (hm : X.mg "sorted" = none) (hg2 : Gl X "range") (hm2 : X.mg "range" = none) (ha : PE X a ta)
    (TB : LamX.TabB X.base X.mg c P) (hcode : X.env.code = .ref c) (hmT : (P, X.env.qual ++ "<lambda>") ∈ T) (hu : ∀ p ∈ T, p.1 = P → p.2 = X.env.qual ++ "<lambda>") (hN : X.N[i]? = some "word") (hv : X.env.kindOf "word" = some .cell)
    (hdef : defaultsOf params X.env = ([], [])) (hsc : scope.names = [(("at" : Str), NameKind.local), (("word" : Str), NameKind.free)]) (hk : scope.kind = .function) (hco : scope.isCoroutine = false) (hgen : scope.isGenerator = false)
    (hbind : ∀ (q : Str) (cl : List (Str × Addr)) (pm cv ctv v : Value), bindArgs (PySem.W.kla_fn "<lambda>" q params (.Subscript (.Name "word" p3) (.Name "at" p4) p5) scope cl pm cv ctv) ⟨[v], []⟩ = pure [(("at" : Str), v)])
    (na : starEach [a] X.env = (false, eval a X.env) :: starEach [] X.env := by rfl)
    (ne : starEach [.Call (.Name "range" p2) [a] [] pos2] X.env = (false, eval (.Call (.Name "range" p2) [a] [] pos2) X.env) :: starEach [] X.env := by rfl) :
    PE X (.Call (.Name "sorted" p) [.Call (.Name "range" p2) [a] [] pos2] [⟨some "key", .Lambda params (.Subscript (.Name "word" p3) (.Name "at" p4) p5) scope lpos, kpos⟩] pos) (tSortAt X.K T i ta) := by
  refine ⟨fun pins s σ H Q I h => ?_⟩
  refine wpAny_Call_Name_kw (ld_blt I hg hm boot_sorted ?_)
  refine PyProof.Rows.callWith_kw (args_cons (Call_ (ld_blt I hg2 hm2 boot_range (PyProof.Rows.callWith_type1 (one_arg ha I h (fun v s2 x H2 I2 rx q => ?_) na) na))) ne) (by rw [ne]; rfl) (by rw [ne]; rfl) (by rfl) (by rfl)
  obtain ⟨w1, xs, hσ, rfl, hsq, hlen, hT, q⟩ := q
  obtain ⟨t, rfl⟩ := rx
  refine call_range_1 (args_nil ?_)
  generalize ht0 : s2.toks = t0
  generalize hro : ({ cls := .type "range", data := .fields #[.int 0 t0, .int (xs.length : Int) t, .int 1 (t0 + 1)] } : Obj) = ro
  generalize hs3 : ({ s2 with heap := s2.heap.push ro, toks := t0 + 1 + 1 } : Shared) = s3
  have I3 : Inv X pins σ H2 s3 := by
    rw [← hs3]
    exact I2.kept fun b u e => Heap.get?_push_of_some _ e
  have h3r : s3.heap.get? s2.heap.objs.size = some ro := by
    rw [← hs3]
    exact Heap.get?_push_size _ (by rw [← hro]; rfl)
  have hro' : IsRange s3.heap s2.heap.objs.size 0 (xs.length : Int) 1 t0 t (t0 + 1) := by
    rw [← hro] at h3r
    exact h3r
  have I4 : Inv X ((s2.heap.objs.size, ro) :: pins) σ H2 s3 := I3.pins_of fun p hp => by
    rcases List.mem_cons.mp hp with rfl | hp
    · exact ⟨h3r, I2.hok.fresh (Nat.le_refl _), Nat.ne_of_gt I2.lt, I2.nofs (Nat.le_refl _), fun v z => by rw [← hro] at z; cases z⟩
    · exact I3.pin p (List.mem_append_right _ hp)
  clear hs3
  generalize s2.heap.objs.size = r at *
  obtain ⟨c0, hc0⟩ := I.ok.has _ (.inl hv)
  have hfree : ∀ y ∈ scope.names, y.2 = .free → ∃ c, X.env.cells.lookup y.1 = some c := fun y hy e => by
    rw [hsc] at hy
    rcases List.mem_cons.mp hy with rfl | hy
    · cases e
    · rw [List.mem_singleton.mp hy]
      exact ⟨c0, hc0⟩
  show wpAny _ _ (evalAll ((do let v ← eval (.Lambda params (.Subscript (.Name "word" p3) (.Name "at" p4) p5) scope lpos) X.env; standAt pos; pure v) :: [])) _ _ _
  refine wpAny_evalAll_cons (wpAny_bind (LamX.lam_make2 I4 TB hcode hmT hu hT hdef hfree fun f c' pm ctv H3 s4 I5 eN T1 hf hfn hfr hcd => wpAny_bind (wpAny_standAt (wpAny_pure (wpAny_evalAll_nil ?_)))))
  show wpAny _ _ (call (.builtin "sorted") [.ref r] [(Str.ofString "key", .ref f)]) _ _ _
  have hr4 : IsRange s4.heap r 0 (xs.length : Int) 1 t0 t (t0 + 1) := by
    have h4 := (I5.pin (r, ro) (List.mem_append_right _ (List.mem_cons_self ..))).1
    rw [← hro] at h4
    exact h4
  have hsq3 := sq_extN eN hsq
  have hun := hr.units0
  have hzl : xs.length ≤ sizeLine := small4000' hlen
  have eRs : Builtin.Range.rangeSize 0 (xs.length : Int) 1 = ((xs.length : Nat) : Int).toNat := by
    have := rangeSize_nat 0 (xs.length : Int)
    rw [Int.sub_zero] at this
    exact this
  obtain ⟨oc, vs, tq, hoc, hdc, hvc⟩ := (I5.hok c' _ hcd).1
  -- the word as the machine has it
  obtain ⟨its, rv, hseq⟩ : ∃ its : List Value, Vals (xs.map V.int) its ∧ (s4.heap.IsTuple w1 its.toArray ∨ s4.heap.IsList w1 its.toArray) := by
    rcases hsq3 with z | z
    · obtain ⟨its, rv, ⟨o, h1, h2, n, h3⟩, _⟩ := I5.tuple z
      exact ⟨its, rv, .inl ⟨o, h1, h2, n, h3⟩⟩
    · obtain ⟨its, rv, pl, _⟩ := I5.list z
      exact ⟨its, rv, .inr pl.isList⟩
  have hil : its.length = xs.length := by
    rw [← rv.length, List.length_map]
  obtain ⟨m, hns, hl⟩ := I5.loc
  have hcell : s4.heap.IsCell c0 (some (.ref w1)) := by
    obtain ⟨u, ru, lk⟩ := hl i "word" (.ref w1) hN hσ (.inr (.inl hv))
    obtain rfl : u = Value.ref w1 := ru
    rcases lk with ⟨z, _⟩ | ⟨_, c2, e2, hc2⟩
    · rw [hv] at z
      cases z
    · rw [hc0] at e2
      cases e2
      exact hc2
  refine wpAny_mono (sorted_key_from (n := xs.length) (key := fun i => xs.getD i 0) (Q := Q) I5 hzl (by have := hr.units; omega) (fun R kR => ?_) (fun j tj hp tk hj kp => ?_) (fun l hl2 => q H3 l eN T1 hl2)) (fun v s5 hv5 => ?_) fun _ _ z => z
  · refine collect_range (n := xs.length) (by exact I5.ok.hd hc) hr4 (small_one (by omega) (by omega) (by omega) (by omega)) (by rw [eRs, Int.toNat_natCast]) (by omega) fun h' tk acc k1 k2 => kR h' tk acc.toList k1 ?_
    refine PySem.W.EachIs.of_zip (by rw [Array.length_toList, k2.1, List.length_range]) fun pr hpr => ?_
    obtain ⟨j, hj⟩ := List.getElem?_of_mem hpr
    obtain ⟨e1, e2⟩ := List.getElem?_zip_eq_some.mp hj
    rw [Array.getElem?_toList] at e1
    obtain ⟨tt, e3⟩ := k2.2 j _ e1
    have hj2 : j < xs.length := by
      have := (List.getElem?_eq_some_iff.mp e2).1
      rw [List.length_range] at this
      exact this
    rw [List.getElem?_range hj2] at e2
    refine ⟨tt, ?_⟩
    rw [e3, ← Option.some.inj e2, Int.zero_add, Int.mul_one]
  · have e1 : (xs.map V.int)[j]? = some (.int (xs.getD j 0)) := by
      rw [List.getElem?_map, List.getElem?_eq_getElem hj, List.getD_eq_getElem?_getD, List.getElem?_eq_getElem hj]
      rfl
    obtain ⟨u, hu1, ⟨tu, rfl⟩⟩ := rv.get e1
    refine lam_key (s := { s4 with heap := hp, toks := tk }) (A := X.A.in1.in1) hr.depth (I5.nolimit.keeps kp) (kp _ _ hf) ⟨c', oc, vs, tq, rfl, kp _ _ hoc, hdc, hvc⟩ hsc hk hco hgen (hbind _ _ _ _ _) (c := c0) ?_ ?_ (p := w1) (its := its) ?_ (by rw [hil]; exact hzl) hu1
    · rw [hsc]
      show (cloFrom X.env.cells [(("word" : Str), NameKind.free)] []).lookup _ = _
      show List.lookup _ [(("word" : Str), (X.env.cells.lookup ("word" : Str)).getD 0)] = _
      rw [hc0]
      rfl
    · obtain ⟨o1, h1, h2⟩ := hcell
      exact ⟨o1, kp _ _ h1, h2⟩
    · rcases hseq with ⟨o, h1, h2, n, h3⟩ | z
      · exact .inl ⟨o, kp _ _ h1, h2, n, h3⟩
      · exact .inr (z.at fun o e => kp _ _ e)
  · obtain ⟨v2, H5, J, rv5, q5⟩ := hv5
    exact ⟨v2, H5, J.pins_of fun p hp => J.pin p (List.mem_append_right _ (List.mem_cons_of_mem _ hp)), rv5, q5⟩
end Mv

set_option Elab.async false
set_option linter.all false
set_option maxRecDepth 100000
set_option maxHeartbeats 1000000
namespace Mv
open PySem PySem.Spec PyProof.Rows L2
/-! ### the kept indexes -/
theorem getD_at {xs : List Int} {i : Nat} (h : i < xs.length) : xs.getD i 0 = xs[i] := by
  rw [List.getD_eq_getElem?_getD, List.getElem?_eq_getElem h]
  rfl
theorem idx_get {xs : List Int} {x : Int} (h : x ∈ xs) : xs.getD (xs.idxOf x) 0 = x := by
  rw [getD_at (List.idxOf_lt_length_iff.mpr h)]
  exact List.getElem_idxOf _
theorem get_ixs {xs ys : List Int} (h : ∀ y ∈ ys, y ∈ xs) : (ys.map xs.idxOf).map (fun i => xs.getD i 0) = ys := by
  rw [List.map_map]
  conv => rhs; rw [← List.map_id ys]
  exact List.map_congr_left fun y hy => idx_get (h y hy)
theorem idx_app {xs : List Int} {x y : Int} (h : y ∈ xs) : (xs ++ [x]).idxOf y = xs.idxOf y := by
  rw [List.idxOf_append, if_pos h]
theorem idx_new {xs : List Int} {x : Int} (h : x ∉ xs) : (xs ++ [x]).idxOf x = xs.length := by
  rw [List.idxOf_append, if_neg h]
  simp
theorem ixs_asc (xs : List Int) : ((headsI xs).map xs.idxOf).Pairwise (· < ·) := by
  induction xs using snoc_ind with
  | h0 => exact .nil
  | hs xs x ih =>
    have e : (headsI xs).map (xs ++ [x]).idxOf = (headsI xs).map xs.idxOf := List.map_congr_left fun y hy => idx_app ((mem_headsI xs).mp hy)
    rw [headsI_snoc]
    unfold addI
    split
    · rw [e]
      exact ih
    · rename_i hx
      rw [List.map_append, e, List.map_singleton, idx_new (fun z => hx ((mem_headsI xs).mpr z))]
      refine List.pairwise_append.mpr ⟨ih, List.pairwise_singleton _ _, fun a ha b hb => ?_⟩
      rw [List.mem_singleton.mp hb]
      obtain ⟨y, hy, rfl⟩ := List.mem_map.mp ha
      exact List.idxOf_lt_length_iff.mpr ((mem_headsI xs).mp hy)
/-- where x stands last -/
def lastIx (xs : List Int) (x : Int) : Nat := xs.length - 1 - xs.reverse.idxOf x
theorem lastIx_snoc (xs : List Int) (x y : Int) (h : y = x ∨ y ∈ xs) : lastIx (xs ++ [x]) y = if y = x then xs.length else lastIx xs y := by
  unfold lastIx
  rw [List.reverse_append, List.length_append, List.length_singleton]
  show xs.length + 1 - 1 - List.idxOf y (x :: xs.reverse) = _
  rw [List.idxOf_cons]
  by_cases e : y = x
  · subst e
    simp
  · rw [if_neg e]
    have hb : (x == y) = false := beq_eq_false_iff_ne.mpr (Ne.symm e)
    rw [hb]
    show xs.length + 1 - 1 - (List.idxOf y xs.reverse + 1) = _
    omega
theorem lastIx_lt {xs : List Int} {x : Int} (h : x ∈ xs) : lastIx xs x < xs.length := by
  have := List.length_pos_of_mem h
  unfold lastIx
  omega
theorem lastIx_get {xs : List Int} {x : Int} (h : x ∈ xs) : xs.getD (lastIx xs x) 0 = x := by
  have h1 : xs.reverse.idxOf x < xs.reverse.length := List.idxOf_lt_length_iff.mpr (List.mem_reverse.mpr h)
  have h2 := lastIx_lt h
  rw [getD_at h2]
  have e := List.getElem_idxOf h1
  rw [List.getElem_reverse] at e
  exact e
/-- the tails' indexes -/
def tailIx (xs : List Int) : List Nat := ((headsI xs.reverse).map (lastIx xs)).reverse
theorem tailIx_asc (xs : List Int) : (tailIx xs).Pairwise (· < ·) := by
  unfold tailIx
  rw [List.pairwise_reverse, List.pairwise_map]
  have h := ixs_asc xs.reverse
  rw [List.pairwise_map] at h
  refine List.Pairwise.imp_of_mem (fun {a b} ha hb hab => ?_) h
  have h1 : xs.reverse.idxOf b < xs.length := by
    have := List.idxOf_lt_length_iff.mpr ((mem_headsI xs.reverse).mp hb)
    rw [List.length_reverse] at this
    exact this
  unfold lastIx
  omega
theorem tailIx_vals (xs : List Int) : (tailIx xs).map (fun i => xs.getD i 0) = tailsI xs := by
  unfold tailIx tailsI
  rw [List.map_reverse, List.map_map]
  congr 1
  conv => rhs; rw [← List.map_id (headsI xs.reverse)]
  exact List.map_congr_left fun y hy => lastIx_get (List.mem_reverse.mp ((mem_headsI _).mp hy))
theorem intsOf_asc {is : List Nat} (h : is.Pairwise (· < ·)) : (is.map fun i : Nat => (i : Int)).Pairwise (· ≤ ·) := by
  rw [List.pairwise_map]
  exact h.imp fun {a b} q => by omega
theorem sort_ixs (xs : List Int) : sortI ((headsI xs).map fun x => ((xs.idxOf x : Nat) : Int)) = ((headsI xs).map xs.idxOf).map fun i : Nat => (i : Int) := by
  refine (sort_is ?_ (intsOf_asc (ixs_asc xs))).symm
  rw [List.map_map]
  exact List.Perm.refl _
theorem sort_last (xs : List Int) : sortI ((headsI xs).map fun x => ((lastIx xs x : Nat) : Int)) = (tailIx xs).map fun i : Nat => (i : Int) := by
  refine (sort_is ?_ (intsOf_asc (tailIx_asc xs))).symm
  unfold tailIx
  rw [List.map_reverse, List.map_map]
  refine (List.reverse_perm _).trans ?_
  refine List.Perm.map _ (perm_of_mem (nodup_headsI _) (nodup_headsI _) fun x => ?_)
  rw [mem_headsI, mem_headsI, List.mem_reverse]
/-- what keep gives -/
def keepIx (k : Kd) (xs : List Int) : List Nat :=
  match k with
  | .list => List.range xs.length
  | .bag => bagIx xs
  | .set => (sortI (headsI xs)).map xs.idxOf
  | .first => if xs.length = 0 then [] else [0]
  | .last => if xs.length = 0 then [] else [xs.length - 1]
  | .ends => if xs.length = 0 then [] else [0, xs.length - 1]
  | .heads => (headsI xs).map xs.idxOf
  | .tails => tailIx xs
theorem keep_vals (k : Kd) (xs : List Int) : (keepIx k xs).map (fun i => xs.getD i 0) = plainI k xs := by
  have hlast : xs.length ≠ 0 → xs.drop (xs.length - 1) = [xs.getD (xs.length - 1) 0] := fun h => by
    rw [getD_at (by omega), List.drop_eq_getElem_cons (by omega), show xs.length - 1 + 1 = xs.length from by omega, List.drop_length]
  have hfst : xs.length ≠ 0 → xs.take 1 = [xs.getD 0 0] := fun h => by
    cases xs with
    | nil => exact absurd rfl h
    | cons x r => rfl
  have hnil : xs.length = 0 → xs = [] := List.length_eq_zero_iff.mp
  cases k with
  | list => exact range_get xs
  | bag => exact bagIx_vals xs
  | set => exact get_ixs fun y hy => (mem_headsI xs).mp (mem_sort.mp hy)
  | heads => exact get_ixs fun y hy => (mem_headsI xs).mp hy
  | tails => exact tailIx_vals xs
  | first =>
    show (if xs.length = 0 then [] else [0]).map _ = firstI xs
    split
    · rename_i h
      rw [hnil h]
      rfl
    · rename_i h
      exact (hfst h).symm
  | last =>
    show (if xs.length = 0 then [] else [xs.length - 1]).map _ = lastI xs
    split
    · rename_i h
      rw [hnil h]
      rfl
    · rename_i h
      exact (hlast h).symm
  | ends =>
    show (if xs.length = 0 then [] else [0, xs.length - 1]).map _ = endsI xs
    split
    · rename_i h
      rw [hnil h]
      rfl
    · rename_i h
      unfold endsI
      rw [hfst h, hlast h]
      rfl
theorem keep_lt {k : Kd} {xs : List Int} {i : Nat} (h : i ∈ keepIx k xs) : i < xs.length := by
  cases k with
  | list => exact List.mem_range.mp h
  | bag => exact bagIx_lt h
  | set =>
    obtain ⟨y, hy, rfl⟩ := List.mem_map.mp h
    exact List.idxOf_lt_length_iff.mpr ((mem_headsI xs).mp (mem_sort.mp hy))
  | heads =>
    obtain ⟨y, hy, rfl⟩ := List.mem_map.mp h
    exact List.idxOf_lt_length_iff.mpr ((mem_headsI xs).mp hy)
  | tails =>
    obtain ⟨y, hy, rfl⟩ := List.mem_map.mp (List.mem_reverse.mp h)
    exact lastIx_lt (List.mem_reverse.mp ((mem_headsI _).mp hy))
  | first =>
    revert h
    show i ∈ (if xs.length = 0 then [] else [0]) → _
    split
    · exact fun h => by cases h
    · intro h
      rw [List.mem_singleton.mp h]
      omega
  | last =>
    revert h
    show i ∈ (if xs.length = 0 then [] else [xs.length - 1]) → _
    split
    · exact fun h => by cases h
    · intro h
      rw [List.mem_singleton.mp h]
      omega
  | ends =>
    revert h
    show i ∈ (if xs.length = 0 then [] else [0, xs.length - 1]) → _
    split
    · exact fun h => by cases h
    · intro h
      rcases List.mem_cons.mp h with h | h
      · omega
      · rw [List.mem_singleton.mp h]
        omega
theorem keep_len {k : Kd} {xs : List Int} : (keepIx k xs).length = (plainI k xs).length := by rw [← keep_vals, List.length_map]
/-! ### the dicts by the values -/
def leastD (xs : List Int) (i : Nat) : List (Key × V) := (headsI (xs.take i)).map fun x => (Sum.inl x, V.int ((xs.idxOf x : Nat) : Int))
def greatD (xs : List Int) (i : Nat) : List (Key × V) := (headsI (xs.take i)).map fun x => (Sum.inl x, V.int ((lastIx (xs.take i) x : Nat) : Int))
theorem val_map (g : Int → V) (y : Int) : ∀ ys : List Int, valV (ys.map fun x => ((Sum.inl x : Key), g x)) (.inl y) = if y ∈ ys then some (g y) else none
  | [] => rfl
  | x :: ys => by
    rw [List.map_cons]
    by_cases e : x = y
    · subst e
      rw [valV_pos rfl, if_pos (List.mem_cons_self ..)]
    · rw [valV_neg (fun z => e (Sum.inl.inj z)), val_map g y ys]
      by_cases h : y ∈ ys
      · rw [if_pos h, if_pos (List.mem_cons_of_mem _ h)]
      · rw [if_neg h, if_neg]
        intro z
        rcases List.mem_cons.mp z with z | z
        · exact e z.symm
        · exact h z
theorem take_succ_at {xs : List Int} {i : Nat} {x : Int} (h : xs[i]? = some x) : xs.take (i + 1) = xs.take i ++ [x] := by
  rw [List.take_add_one, h]
  rfl
theorem least_hit {xs : List Int} {i : Nat} {x : Int} (h : xs[i]? = some x) (hx : x ∈ xs.take i) : leastD xs (i + 1) = leastD xs i := by
  unfold leastD
  rw [take_succ_at h, headsI_snoc]
  unfold addI
  rw [if_pos ((mem_headsI _).mpr hx)]
theorem least_new {xs : List Int} {i : Nat} {x : Int} (h : xs[i]? = some x) (hx : x ∉ xs.take i) : leastD xs (i + 1) = putK (leastD xs i) (.inl x) (.int (i : Nat)) := by
  have hv : valV (leastD xs i) (.inl x) = none := by
    unfold leastD
    rw [val_map, if_neg fun z => hx ((mem_headsI _).mp z)]
  rw [putK_new _ hv]
  unfold leastD
  rw [take_succ_at h, headsI_snoc]
  unfold addI
  rw [if_neg fun z => hx ((mem_headsI _).mp z), List.map_append, List.map_singleton]
  have hi : i < xs.length := (List.getElem?_eq_some_iff.mp h).1
  have e : xs.idxOf x = i := by
    have e1 : xs = xs.take i ++ xs.drop i := (List.take_append_drop i xs).symm
    have e2 : xs.drop i = x :: xs.drop (i + 1) := by
      rw [List.drop_eq_getElem_cons hi, (List.getElem?_eq_some_iff.mp h).2]
    rw [e1, List.idxOf_append, if_neg hx, e2, List.idxOf_cons_self, List.length_take, Nat.zero_add]
    omega
  rw [e]
theorem great_put {xs : List Int} {i : Nat} {x : Int} (h : xs[i]? = some x) : greatD xs (i + 1) = putK (greatD xs i) (.inl x) (.int (i : Nat)) := by
  have hi : i < xs.length := (List.getElem?_eq_some_iff.mp h).1
  have hl : (xs.take i).length = i := by
    rw [List.length_take]
    omega
  have hL : ∀ y, y = x ∨ y ∈ xs.take i → lastIx (xs.take (i + 1)) y = if y = x then i else lastIx (xs.take i) y := fun y hy => by
    rw [take_succ_at h, lastIx_snoc _ _ _ hy, hl]
  have hm := fun y => mem_headsI (y := y) (xs.take i)
  by_cases hx : x ∈ xs.take i
  · unfold greatD
    rw [show headsI (xs.take (i + 1)) = headsI (xs.take i) from by
      rw [take_succ_at h, headsI_snoc]
      unfold addI
      rw [if_pos ((hm x).mpr hx)]]
    unfold putK
    rw [if_pos, List.map_map]
    · refine List.map_congr_left fun y hy => ?_
      rw [hL y (.inr ((hm y).mp hy))]
      show _ = if (Sum.inl y : Key) = Sum.inl x then _ else _
      by_cases e : y = x
      · subst e
        rw [if_pos rfl, if_pos rfl]
      · rw [if_neg e, if_neg fun z => e (Sum.inl.inj z)]
    · rw [valV_any, val_map, if_pos ((hm x).mpr hx)]
      rfl
  · have hv : valV (greatD xs i) (.inl x) = none := by
      unfold greatD
      rw [val_map, if_neg fun z => hx ((hm x).mp z)]
    rw [putK_new _ hv]
    unfold greatD
    rw [show headsI (xs.take (i + 1)) = headsI (xs.take i) ++ [x] from by
      rw [take_succ_at h, headsI_snoc]
      unfold addI
      rw [if_neg fun z => hx ((hm x).mp z)], List.map_append, List.map_singleton, hL x (.inl rfl), if_pos rfl]
    congr 1
    refine List.map_congr_left fun y hy => ?_
    have hy := (hm y).mp hy
    rw [hL y (.inr hy), if_neg fun z : y = x => hx (z ▸ hy)]
theorem leastD_len (xs : List Int) (i : Nat) : (leastD xs i).length ≤ i := by
  unfold leastD
  rw [List.length_map]
  refine Nat.le_trans (headsI_len _) ?_
  rw [List.length_take]
  omega
theorem greatD_len (xs : List Int) (i : Nat) : (greatD xs i).length ≤ i := by
  unfold greatD
  rw [List.length_map]
  refine Nat.le_trans (headsI_len _) ?_
  rw [List.length_take]
  omega
end Mv

set_option Elab.async false
set_option linter.all false
set_option maxRecDepth 100000
set_option maxHeartbeats 4000000
namespace Mv
open PySem PySem.Spec PyProof.Rows L2
/-! ### t[::-1], t a tuple: a new tuple -/
section
variable {prog : Program} {w : World} {A : Around} {E : Value → Shared → Prop} {s : Shared}
theorem sliceApplied_back {sl : Addr} {vl vu vs : Value} {n : Nat} {Q : Int × Int × Nat → Shared → Prop} (hs : s.heap.IsSliceOf sl vl vu vs) (pl : IsPart vl none) (pu : IsPart vu none) (ps : IsPart vs (some (-1)))
    (h : Q ((n : Int) - 1, -1, n) s) : wpAny (model prog w) A (Builtin.Slice.sliceApplied (.ref sl) (pure (n : Int))) Q E s := by
  obtain ⟨os, hos, hcs, hds⟩ := id hs
  unfold Builtin.Slice.sliceApplied Builtin.Slice.sliceFields
  refine wpAny_bind (wpAny_bind (wpAny_field hos hds (x := vl) rfl (wpAny_bind (wpAny_field hos hds (x := vu) rfl (wpAny_bind (wpAny_field hos hds (x := vs) rfl (wpAny_pure ?_)))))))
  refine wpAny_bind (HT.slicePart_ ps ?_)
  show wpAny _ _ (if ((-1 : Int) == 0) = true then _ else _) _ _ s
  rw [if_neg (by decide)]
  refine wpAny_bind (HT.slicePart_ pl (wpAny_bind (HT.slicePart_ pu (wpAny_bind (wpAny_pure ?_)))))
  show wpAny _ _ (match Builtin.Slice.sliceAdjust none none (-1) (n : Int) with | (lo, hi) => pure (lo, (-1 : Int), Builtin.Slice.slicePlaces lo hi (-1))) _ _ s
  have e1 : Builtin.Slice.sliceAdjust none none (-1) (n : Int) = ((n : Int) - 1, -1) := rfl
  have e2 : Builtin.Slice.slicePlaces ((n : Int) - 1) (-1) (-1) = n := by
    unfold Builtin.Slice.slicePlaces
    rw [if_neg (by decide), show (- -1 : Int) = 1 by decide, Int.ediv_one]
    split <;> omega
  rw [e1]
  show wpAny _ _ (pure ((n : Int) - 1, (-1 : Int), Builtin.Slice.slicePlaces ((n : Int) - 1) (-1) (-1))) _ _ s
  rw [e2]
  exact wpAny_pure h
theorem fm_congr {α β : Type} {f g : α → Option β} : ∀ {l : List α}, (∀ k ∈ l, f k = g k) → l.filterMap f = l.filterMap g
  | [], _ => rfl
  | x :: l, h => by rw [List.filterMap_cons, List.filterMap_cons, h x List.mem_cons_self, fm_congr fun k hk => h k (List.mem_cons_of_mem _ hk)]
theorem pick_back (xs : Array Value) : ((List.range xs.size).filterMap fun (k : Nat) => xs[((xs.size : Int) - 1 + (k : Int) * (-1)).toNat]?).toArray = xs.toList.reverse.toArray := by
  have h := PySem.W.krv_pick xs
  have e : (List.range xs.size).filterMap (fun (k : Nat) => xs[((xs.size : Int) - 1 + (k : Int) * (-1)).toNat]?) = ((List.range xs.size).map fun k => xs.size - 1 - k).filterMap (xs[·]?) := by
    rw [List.filterMap_map]
    refine fm_congr fun k hk => ?_
    have := List.mem_range.mp hk
    show xs[_]? = xs[xs.size - 1 - k]?
    congr 1
    omega
  rw [e, PySem.W.krv_range, List.filterMap_reverse, PySem.W.krv_all]
theorem getItem_tuple_back {t sl : Addr} {items : Array Value} {vl vu vs : Value} {Q : Value → Shared → Prop} (ht : IsTup s.heap t items) (hs : s.heap.IsSliceOf sl vl vu vs) (pl : IsPart vl none) (pu : IsPart vu none) (ps : IsPart vs (some (-1)))
    (h : Q (.ref s.heap.objs.size) { s with heap := s.heap.push { cls := .type "tuple", data := .seq items.toList.reverse.toArray } }) (hsz : items.size ≤ sizeLine) : wpAny (model prog w) A (getItem (.ref t) (.ref sl)) Q E s := by
  have htake : sizeOk (.seq items.toList.reverse.toArray) := by
    show items.toList.reverse.toArray.size ≤ sizeLine
    rw [List.size_toArray, List.length_reverse, Array.length_toList]
    exact hsz
  obtain ⟨os, hos, hcs, hds⟩ := id hs
  have hTs : s.TypeIs (.ref sl) "slice" := ⟨os, hos, hcs⟩
  unfold getItem
  try with_reducible refine wpAny_holding ?_
  first | refine wpAny_bind (wpAny_pure ?_) | skip
  refine wpAny_bind (wpAny_sequenceKey ht.typeIs (by decide) ?_)
  refine wpAny_bind (wpAny_callSpecial?_slot (name := Str.ofString "__getitem__") ht.typeIs PyProof.Rows.slot_tuple_getitem
    (wpAny_call_entry PyProof.Rows.slot_tuple_getitem ht.typeIs entry_tuple_getitem ?_ (args_tuple_getitem _ _)))
  show wpAny _ _ (Builtin.Tuple.tupleItemsOf (.ref t) >>= _) _ _ s
  refine wpAny_bind (tupleItemsOf_ ht ?_)
  refine wpAny_bind (wpAny_typeOf hTs ?_)
  rw [if_pos (by decide)]
  refine wpAny_bind (sliceApplied_back hs pl pu ps ?_)
  show wpAny _ _ (if (((items.size : Int) - 1) == 0 && (-1 : Int) == 1 && items.size == items.size) = true then _ else _) _ _ s
  rw [if_neg (by rw [show ((-1 : Int) == 1) = false from rfl, Bool.and_false, Bool.false_and]; exact Bool.false_ne_true), pick_back]
  first
    | exact wpAny_bind (m := Builtin.Tuple.tupleExact _) (wpAny_newObj_type (wpAny_pure ⟨_, rfl, wpAny_pure h⟩) htake)
    | exact wpAny_bind (m := Builtin.Tuple.tupleExact _) (wpAny_newObj_type (wpAny_bind (wpAny_pure (wpAny_pure ⟨_, rfl, wpAny_pure h⟩))) htake)
    | exact wpAny_bind (wpAny_bind (m := Builtin.Tuple.tupleExact _) (wpAny_newObj_type (wpAny_pure (wpAny_pure ⟨_, rfl, wpAny_pure h⟩)) htake))
    | exact wpAny_bind (wpAny_bind (m := Builtin.Tuple.tupleExact _) (wpAny_newObj_type (wpAny_pure ⟨_, rfl, wpAny_pure h⟩) htake))
end
section
variable {X : Cx}
def tRevT (K : PySem.W.Frag) (te : TE) : TE := fun σ H Q => te σ H fun x H1 => ∃ a xs, x = .ref a ∧ SqT K H1 a xs ∧ ∀ p, H1 p = none → Q (.ref p) (upd H1 p (.tup xs.reverse))
theorem pe_revT {e : Expr} {te : TE} {k : Nat} {p1 p2 p3 pos : Pos} (he : PE X e te) : PE X (.Subscript e (.Slice none none (some (.UnaryOp .USub (.Constant (.int 1) k p1) p2)) p3) pos) (tRevT X.K te) := by
  refine ⟨fun pins s σ H Q I h => ?_⟩
  refine Subscript_ (thn (he.run pins s σ H _ I h) fun v s1 ⟨x, H1, I1, r1, q1⟩ => ?_)
  obtain ⟨a, xs, ex, hx, q⟩ := q1
  subst ex
  cases r1
  have hst : PO X (some (.UnaryOp .USub (.Constant (.int 1) k p1) p2)) (tPart (tUn (rU fun i => .int (-i)) (tC (.int 1)))) := po_some (pe_un un_neg pe_int)
  refine wpAny_Slice (thn (po_none.run pins s1 σ H1 (fun o H2 => o = none ∧ H2 = H1) I1 ⟨rfl, rfl⟩) fun vl s2 ⟨l, H2, I2, pl, el, e2⟩ => ?_)
  subst el e2
  refine thn (po_none.run pins s2 σ H2 (fun o H3 => o = none ∧ H3 = H2) I2 ⟨rfl, rfl⟩) fun vu s3 ⟨u, H3, I3, pu, eu, e3⟩ => ?_
  subst eu e3
  refine thn (hst.run pins s3 σ H3 (fun o H4 => o = some (-1) ∧ H4 = H3) I3 ⟨1, rfl, -1, rfl, rfl, rfl⟩) fun vs s4 ⟨o, H4, I4, ps, eo, e4⟩ => ?_
  subst eo e4
  have I5 : Inv X pins σ H4 { s4 with heap := s4.heap.push { cls := .type "slice", data := .fields #[vl, vu, vs] } } := I4.kept (t' := s4.toks) fun b ob q => Heap.get?_push_of_some _ q
  obtain ⟨its, r, ht, hz⟩ := I5.tuple hx
  have hlen := r.length
  show wpAny (model X.prog X.w) X.A (subscriptTail e (.Slice none none (some (.UnaryOp .USub (.Constant (.int 1) k p1) p2)) p3) (.ref a) (.ref s4.heap.objs.size)) (EP X pins σ Q) X.xe { s4 with heap := s4.heap.push { cls := .type "slice", data := .fields #[vl, vu, vs] } }
  refine tail_any (ops := [.ref a, .ref s4.heap.objs.size]) ht.typeIs (PyProof.Rows.slot_tuple_getitem.lookup) ?_ (by with_unfolding_all rfl)
  refine getItem_tuple_back ht (Heap.IsSliceOf.new _ vl vu vs) pl pu ps ?_ (by rw [List.size_toArray]; omega)
  refine ⟨.ref _, _, I5.laid (t' := s4.toks) (o := .tup xs.reverse) (fun b ob q => Heap.get?_push_of_some _ q) (Nat.le_refl _) ?_, rfl, q _ (I5.hok.fresh (Nat.le_refl _))⟩
  exact ⟨by rw [List.length_reverse]; exact hz, _, r.reverse, IsTup.new _ _⟩
end
end Mv

set_option Elab.async false
set_option linter.all false
set_option maxRecDepth 100000
set_option maxHeartbeats 1000000
namespace Mv
open PySem
/-! ### a word put between two others -/
/-- each value of w that is not in p, once, where it comes first -/
def newI (w p : List Int) : List Int := (headsI w).filter fun x => decide (x ∉ p)
def rearI (w p : List Int) : List Int := (newI w.reverse p).reverse
theorem newI_nil (p : List Int) : newI [] p = [] := rfl
theorem newI_snoc (w p : List Int) (x : Int) : newI (w ++ [x]) p = if x ∈ p ∨ x ∈ newI w p then newI w p else newI w p ++ [x] := by
  unfold newI
  rw [headsI_snoc]
  unfold addI
  by_cases hp : x ∈ p
  · by_cases hw : x ∈ headsI w
    · rw [if_pos hw, if_pos (show x ∈ p ∨ _ from .inl hp)]
    · rw [if_neg hw, if_pos (show x ∈ p ∨ _ from .inl hp), List.filter_append]
      simp [hp]
  · by_cases hw : x ∈ headsI w
    · rw [if_pos hw, if_pos (.inr (List.mem_filter.mpr ⟨hw, by simp [hp]⟩))]
    · rw [if_neg hw, if_neg, List.filter_append]
      · simp [hp]
      · rintro (z | z)
        · exact hp z
        · exact hw (List.mem_filter.mp z).1
theorem mem_newI {w p : List Int} {x : Int} : x ∈ newI w p ↔ x ∈ w ∧ x ∉ p := by
  unfold newI
  rw [List.mem_filter, mem_headsI]
  simp
theorem nodup_newI (w p : List Int) : (newI w p).Nodup := (nodup_headsI w).sublist List.filter_sublist
theorem newI_len (w p : List Int) : (newI w p).length ≤ w.length := Nat.le_trans (List.length_filter_le _ _) (headsI_len w)
theorem heads_app (a c : List Int) : headsI (a ++ c) = headsI a ++ newI c a := by
  show headsA [] (a ++ c) = _
  rw [headsA_app, headsA_eq]
  show headsI a ++ _ = _
  congr 1
  unfold newI
  refine List.filter_congr fun x _ => ?_
  have e : x ∉ headsA [] a ↔ x ∉ a := not_congr (mem_headsI a)
  exact decide_eq_decide.mpr e
theorem new_app (b c a : List Int) : newI (b ++ c) a = newI b a ++ (newI c a).filter fun x => decide (x ∉ b) := by
  unfold newI
  rw [heads_app, List.filter_append]
  congr 1
  unfold newI
  rw [List.filter_filter, List.filter_filter]
  refine List.filter_congr fun x _ => ?_
  rw [Bool.and_comm]
theorem new_prefix (b c a : List Int) : newI b a ++ (newI c a).filter (fun x => decide (x ∉ b)) = newI c a ↔ newI b a <+: newI c a := by
  constructor
  · intro h
    exact ⟨_, h⟩
  · rintro ⟨R, h⟩
    have nd := nodup_newI c a
    have hm : ∀ x ∈ newI c a, x ∉ a := fun x hx => (mem_newI.mp hx).2
    rw [← h] at nd hm ⊢
    have h1 : (newI b a).filter (fun x => decide (x ∉ b)) = [] := by
      refine List.filter_eq_nil_iff.mpr fun x hx => ?_
      have := (mem_newI.mp hx).1
      simp [this]
    have h2 : R.filter (fun x => decide (x ∉ b)) = R := by
      refine List.filter_eq_self.mpr fun x hx => decide_eq_true fun hb => ?_
      have h3 : x ∈ newI b a := mem_newI.mpr ⟨hb, hm x (List.mem_append_right _ hx)⟩
      exact (List.nodup_append.mp nd).2.2 x h3 x hx rfl
    rw [List.filter_append, h1, h2, List.nil_append]
theorem heads_ins (a b c : List Int) : headsI (a ++ b ++ c) = headsI (a ++ c) ↔ newI b a <+: newI c a := by
  rw [List.append_assoc, heads_app a (b ++ c), heads_app a c, new_app, List.append_right_inj, new_prefix]
theorem tails_ins (y w z : List Int) : tailsI (y ++ w ++ z) = tailsI (y ++ z) ↔ rearI w z <:+ rearI y z := by
  unfold tailsI rearI
  have hr : ∀ a p : List Int, (newI a p = newI a p.reverse) := fun a p => by
    unfold newI
    exact List.filter_congr fun x _ => decide_eq_decide.mpr (not_congr List.mem_reverse.symm)
  rw [List.reverse_inj, List.reverse_append, List.reverse_append, List.reverse_append, ← List.append_assoc, heads_ins, ← hr, ← hr, ← List.reverse_prefix, List.reverse_reverse, List.reverse_reverse]
theorem firstI_app {w : List Int} (hw : w ≠ []) (z : List Int) : firstI (w ++ z) = firstI w := by
  cases w with
  | nil => exact absurd rfl hw
  | cons x w => rfl
theorem firstI_len {w : List Int} (hw : w ≠ []) : (firstI w).length = 1 := by
  cases w with
  | nil => exact absurd rfl hw
  | cons x w => simp [firstI]
theorem snoc_of {w : List Int} (hw : w ≠ []) : ∃ v x, w = v ++ [x] := ⟨w.dropLast, w.getLast hw, (List.dropLast_concat_getLast hw).symm⟩
theorem lastI_app {w : List Int} (hw : w ≠ []) (y : List Int) : lastI (y ++ w) = lastI w := by
  obtain ⟨v, x, rfl⟩ := snoc_of hw
  rw [← List.append_assoc, lastI_snoc, lastI_snoc]
theorem lastI_len {w : List Int} (hw : w ≠ []) : (lastI w).length = 1 := by
  obtain ⟨v, x, rfl⟩ := snoc_of hw
  rw [lastI_snoc]
  rfl
theorem first_ins (y w z : List Int) (hw : w ≠ []) : firstI (y ++ w ++ z) = firstI (y ++ z) ↔ y ≠ [] ∨ firstI w = firstI z := by
  cases y with
  | nil =>
    rw [List.nil_append, List.nil_append, firstI_app hw]
    simp
  | cons a y => simp [firstI]
theorem last_ins (y w z : List Int) (hw : w ≠ []) : lastI (y ++ w ++ z) = lastI (y ++ z) ↔ z ≠ [] ∨ lastI w = lastI y := by
  by_cases hz : z = []
  · subst hz
    rw [List.append_nil, List.append_nil, lastI_app hw]
    simp
  · rw [lastI_app hz, lastI_app hz]
    simp [hz]
theorem ends_ins (y w z : List Int) (hw : w ≠ []) : endsI (y ++ w ++ z) = endsI (y ++ z) ↔ (y ≠ [] ∨ firstI w = firstI z) ∧ (z ≠ [] ∨ lastI w = lastI y) := by
  rw [← first_ins y w z hw, ← last_ins y w z hw, endsI_eq, endsI_eq]
  by_cases h : y ++ z = []
  · have hy := (List.append_eq_nil_iff.mp h).1
    have hz := (List.append_eq_nil_iff.mp h).2
    subst hy hz
    have e : firstI w ≠ [] := fun e => by
      have := firstI_len hw
      rw [e] at this
      cases this
    constructor
    · intro q
      refine absurd ?_ e
      have q2 := (List.append_eq_nil_iff.mp (show firstI ([] ++ w ++ []) ++ lastI ([] ++ w ++ []) = [] from q)).1
      rw [List.append_nil, List.nil_append] at q2
      exact q2
    · intro q
      refine absurd ?_ e
      have q2 := q.1
      rw [List.append_nil, List.nil_append] at q2
      exact q2
  · have hl : y ++ w ++ z ≠ [] := fun e => hw (by
      have := List.append_eq_nil_iff.mp (List.append_eq_nil_iff.mp e).1
      exact this.2)
    constructor
    · intro q
      exact List.append_inj q (by rw [firstI_len hl, firstI_len h])
    · rintro ⟨q1, q2⟩
      rw [q1, q2]
theorem set_ins (y w z : List Int) : sortI (headsI (y ++ w ++ z)) = sortI (headsI (y ++ z)) ↔ ∀ x ∈ w, x ∈ y ∨ x ∈ z := by
  constructor
  · intro h x hx
    have h1 : x ∈ sortI (headsI (y ++ w ++ z)) := mem_sort.mpr ((mem_headsI _).mpr (List.mem_append_left _ (List.mem_append_right _ hx)))
    rw [h] at h1
    exact List.mem_append.mp ((mem_headsI _).mp (mem_sort.mp h1))
  · intro h
    refine sort_mem (nodup_headsI _) (nodup_headsI _) fun x => ?_
    rw [mem_headsI, mem_headsI]
    simp only [List.mem_append]
    constructor
    · rintro ((q | q) | q)
      · exact .inl q
      · exact h x q
      · exact .inr q
    · rintro (q | q)
      · exact .inl (.inl q)
      · exact .inr q
def insOk (k : Kd) (y w z : List Int) : Prop :=
  match k with
  | .list => False
  | .bag => False
  | .set => ∀ x ∈ w, x ∈ y ∨ x ∈ z
  | .first => y ≠ [] ∨ firstI w = firstI z
  | .last => z ≠ [] ∨ lastI w = lastI y
  | .ends => (y ≠ [] ∨ firstI w = firstI z) ∧ (z ≠ [] ∨ lastI w = lastI y)
  | .heads => newI w y <+: newI z y
  | .tails => rearI w z <:+ rearI y z
theorem ins_iff (k : Kd) (y w z : List Int) (hw : w ≠ []) : plainI k (y ++ w ++ z) = plainI k (y ++ z) ↔ insOk k y w z := by
  have hl : ¬ (y ++ w ++ z).length = (y ++ z).length := fun e => hw (by
    rw [List.length_append, List.length_append, List.length_append] at e
    exact List.length_eq_zero_iff.mp (by omega))
  cases k with
  | list => exact ⟨fun h => hl (congrArg List.length h), False.elim⟩
  | bag => exact ⟨fun h => hl (by rw [← (sort_perm (y ++ w ++ z)).length_eq, ← (sort_perm (y ++ z)).length_eq]; exact congrArg List.length h), False.elim⟩
  | set => exact set_ins y w z
  | first => exact first_ins y w z hw
  | last => exact last_ins y w z hw
  | ends => exact ends_ins y w z hw
  | heads => exact heads_ins y w z
  | tails => exact tails_ins y w z
/-- w is a part of y -/
theorem rep_iff (k : Kd) (y w z : List Int) (hw : w ≠ []) (hy : ∀ x ∈ w, x ∈ y) : plainI k (y ++ w ++ z) = plainI k (y ++ z) ↔
    (match k with | .list => False | .bag => False | .last => z ≠ [] ∨ lastI w = lastI y | .ends => z ≠ [] ∨ lastI w = lastI y | .tails => rearI w z <:+ rearI y z | _ => True) := by
  have hn : y ≠ [] := fun e => by
    cases w with
    | nil => exact hw rfl
    | cons a w =>
      have := hy a List.mem_cons_self
      rw [e] at this
      cases this
  refine (ins_iff k y w z hw).trans ?_
  cases k with
  | list => exact Iff.rfl
  | bag => exact Iff.rfl
  | set => exact ⟨fun _ => trivial, fun _ x hx => .inl (hy x hx)⟩
  | first => exact ⟨fun _ => trivial, fun _ => .inl hn⟩
  | last => exact Iff.rfl
  | ends => exact ⟨fun h => h.2, fun h => ⟨.inl hn, h⟩⟩
  | heads =>
    refine ⟨fun _ => trivial, fun _ => ?_⟩
    have e : newI w y = [] := by
      refine List.filter_eq_nil_iff.mpr fun x hx => ?_
      have := hy x ((mem_headsI w).mp hx)
      simp [this]
    show newI w y <+: newI z y
    rw [e]
    exact List.nil_prefix
  | tails => exact Iff.rfl
/-- the law's own way to say «one is an end of other» -/
theorem suffix_law (one other : List Int) : one <:+ other ↔ one.length ≤ other.length ∧ other.drop (other.length - one.length) = one := by
  constructor
  · rintro ⟨t, rfl⟩
    refine ⟨by rw [List.length_append]; omega, ?_⟩
    rw [List.length_append, show t.length + one.length - one.length = t.length from by omega, List.drop_left]
  · rintro ⟨_, h⟩
    rw [← h]
    exact List.drop_suffix _ _
theorem prefix_law (one other : List Int) : one <+: other ↔ other.take one.length = one := by
  rw [List.prefix_iff_eq_take]
  exact ⟨fun h => h.symm, fun h => h.symm⟩
end Mv

set_option Elab.async false
set_option linter.all false
set_option maxRecDepth 100000
set_option maxHeartbeats 4000000
namespace Mv
open PySem PySem.Spec PyProof.Rows L2
/-! ### l.extend(t), t a tuple -/
theorem list_extend_tup (l : Addr) (items : Array Value) (n : Nat) (b : Addr) (items2 : Array Value) (n2 : Nat) (dd : Option Addr) (sl : Array (Option Value)) (hs0 : ¬(!items.isEmpty && Builtin.List.listTooLong (items.size + items2.size)) = true) (hs1 : items.size ≤ sizeLine) (hs2 : items.size + items2.size ≤ sizeLine + 1) :
    Meets (Builtin.«list.extend» ⟨[.ref l, .ref b], []⟩) (fun _ R s => s.heap.get? l = some { cls := .type "list", dict := none, data := .seq items n, slots := #[] } ∧ s.heap.get? b = some { cls := .type "tuple", dict := dd, data := .seq items2 n2, slots := sl } ∧ R (.ok (.ret Value.none)) { s with heap := s.heap.update l (Obj.mapSeq fun x => x ++ items2), toks := s.toks }) :=
  .of_wp fun prog w A R s h => by
    obtain ⟨hp, g, d, tk, os⟩ := s
    obtain ⟨hl, hb, h⟩ := h
    have f1 := AutoSeq1.idx_int
    have f2 := AutoSeq1.sub_tuple_tuple
    have f3 := AutoSeq1.sub_list_list
    have f4 := AutoSeq1.sub_tuple_list
    have f5 := AutoSeq1.sub_list_tuple
    have hz' : (items ++ items2).size ≤ sizeLine + 1 := by rw [Array.size_append]; exact hs2
    wp_walk using (wpAny_updateSeq hl rfl (hz := hs1) (_hz' := hz')), wpAny_loadPart' hl, wpAny_loadPart' hb
    exact ⟨_, rfl, h⟩
section
variable {X : Cx}
def rExtendT (K : PySem.W.Frag) : V → List V → Hp → VK → Prop := fun x vs H Q => ∃ l b xs zs, x = .ref l ∧ vs = [.ref b] ∧ H l = some (.lst xs) ∧ SqT K H b zs ∧ xs.length + zs.length ≤ sizeLine ∧ Q .non (upd H l (.lst (xs ++ zs)))
theorem mt_extendT : MtR X "list.extend" (rExtendT X.K) := by
  intro pins s σ H x vs v us Q I rx rv h
  obtain ⟨l, b, xs, zs, rfl, rfl, hH, hB, hz, q⟩ := h
  cases rx
  obtain ⟨u, rfl, ru⟩ := rv.one
  cases ru
  obtain ⟨z, its, n, r, hl, e⟩ := I.lstM hH
  obtain ⟨its2, r2, ⟨⟨cls, dd, data, sl⟩, ho, hc, n2, hd⟩, hl2⟩ := I.tuple hB
  simp only at hc hd
  subst hc hd
  have hle2 : its2.length = zs.length := r2.length.symm
  have hsz : its.toArray.size + its2.toArray.size ≤ sizeLine := by rw [List.size_toArray, List.size_toArray]; omega
  have hlong : ¬ (!its.toArray.isEmpty && Builtin.List.listTooLong (its.toArray.size + its2.toArray.size)) = true := by
    rw [notLongL hsz, Bool.and_false]
    exact Bool.false_ne_true
  refine call_meets F.slot_list_extend ⟨_, e, rfl⟩ F.entry_list_extend (F.args_list_extend_2 _ _)
    (list_extend_tup l its.toArray n b its2.toArray n2 dd sl hlong (by rw [List.size_toArray]; omega) (by omega)) ⟨e, ho, ?_⟩
  refine ⟨.non, _, I.lset (its' := its ++ its2) hH e (by simp) (r.append r2) ?_, rfl, q⟩
  rw [List.length_append]
  omega
end
/-! ### t * 1 is t -/
theorem tuple_mulOne (l : Addr) (items : Array Value) (n : Nat) (dd : Option Addr) (sl : Array (Option Value)) (u : Tok) :
    Meets (Builtin.«tuple.__mul__» ⟨[.ref l, .int 1 u], []⟩) (fun _ R s => s.heap.get? l = some { cls := .type "tuple", dict := dd, data := .seq items n, slots := sl } ∧ R (.ok (.ret (Value.ref l))) s) :=
  .of_wp fun prog w A R s h => by
    obtain ⟨hp, g, d, tk, os⟩ := s
    obtain ⟨hl, h⟩ := h
    have f1 := AutoSeq1.idx_int
    have c0 : (decide ((1 : Int) < -(2 ^ 63)) || decide ((1 : Int) ≥ 2 ^ 63)) = false := by decide
    have c1 : (items.isEmpty || (1 : Int) == 1) = true := by simp
    wp_walk using wpAny_loadPart' hl
    repeat (first
      | (refine wpAny_ite_false (decide_eq_false (by rw [c0]; exact Bool.false_ne_true)) ?_; wp_walk using wpAny_loadPart' hl)
      | (refine wpAny_ite_true (decide_eq_true c1) ?_; wp_walk using wpAny_loadPart' hl))
    exact ⟨_, rfl, h⟩
section
variable {X : Cx}
/-- t * k, k at least 1 -/
def rRepT1 (K : PySem.W.Frag) : R2 := fun x y H Q => ∃ l k xs, x = .ref l ∧ y = .int k ∧ SqT K H l xs ∧ xs ≠ [] ∧ 1 ≤ k ∧ k ≤ 1000 ∧ xs.length ≤ 1000 ∧ (k = 1 → Q (.ref l) H) ∧ (2 ≤ k → ∀ p, H p = none → Q (.ref p) (upd H p (.tup (List.replicate k.toNat xs).flatten)))
theorem op_repT1 : OpR X (binaryOp .Mult) (rRepT1 X.K) := by
  intro pins s σ H x y v u Q I rx ry h
  obtain ⟨l, k, xs, rfl, rfl, hT, hne, h1, h2, hz, q1, q2⟩ := h
  by_cases hk : k = 1
  · subst hk
    cases rx
    obtain ⟨t, rfl⟩ := ry
    obtain ⟨its, r, ⟨⟨cls, dd, data, sl⟩, ho, hc, n, hd⟩, hs⟩ := I.tuple hT
    simp only at hc hd
    subst hc hd
    exact wpAny_binaryOp_repeat_ref (T := "tuple") (U := "int") (by decide) ⟨_, ho, rfl⟩ (fun s' => typeIs_int s' 1 t) noFill_tuple_mul F.fills_int_mul F.slot_int_rmul repeat_tuple F.slot_int_index.lookup
      (call_meets F.slot_int_rmul (typeIs_int s 1 t) F.entry_int_rmul (F.args_int_rmul_2 _ _) (int_rmul_tuple 1 t l its.toArray n dd sl)
        ⟨ho, rfl, ⟨_, ho, rfl⟩, call_meets F.slot_tuple_mul ⟨_, ho, rfl⟩ F.entry_tuple_mul (F.args_tuple_mul_2 _ _) (tuple_mulOne l its.toArray n dd sl t) ⟨ho, .ref l, H, I, rfl, q1 rfl⟩⟩)
  · exact op_repT pins s σ H _ _ v u Q I rx ry ⟨l, k, xs, rfl, rfl, hT, hne, by omega, h2, hz, q2 (by omega)⟩
end
/-! ### a def with keyword-only parameters alone -/
theorem kbinds0 {K : PySem.W.Frag} {x qual : Str} {params : Arguments} {body : List Stmt} {scope : Scope} {kws : List (Str × V)} {f : Addr} {fd : FuncData} {ps : List Str}
    (F : FunD K x qual params body scope [] kws f fd) (n : Nat) (ks : List Str) (ms : List (Str × V)) (g : {α : Type} → List α → List α → List α → List α) (hk : kws ≠ []) (hms : ∀ q ∈ ms, q ∈ kws)
    (hrel : ∀ {vs mz zs : List V} {us mv ws : List Value}, Vals vs us → Vals mz mv → Vals zs ws → Vals (g vs mz zs) (g us mv ws))
    (h : ∀ (D : Addr) (doc pm : Value) (an : Option Addr) (cdv ct : Value) (us mv ws : List Value), us.length = n → mv.length = ms.length → ws.length = ks.length →
      KwChain D ((ms.map (·.1)).zip mv) (bindArgs (PySem.W.fnOf x qual params body scope .none (.ref D) doc pm an cdv ct) ⟨us, ks.zip ws⟩) (ps.zip (g us mv ws))) :
    ∃ mv : List Value, KBn K fd ps n ks (fun us ws => g us mv ws) (fun vs zs => g vs (ms.map (·.2)) zs) := by
  obtain ⟨oc, od, dV, kV, doc, pm, an, cdv, ct, osl, rfl, lk, hcd, hD, hK⟩ := F.ex
  rcases hD with ⟨_, rfl⟩ | ⟨e, _⟩
  · rcases hK with e | ⟨D, rfl, hq⟩
    · exact absurd e hk
    · obtain ⟨mv, hl, rk, hks⟩ := kwd_vals (ms := ms) fun q hm => hq q (hms q hm)
      refine ⟨mv, ⟨fun s us ws X l1 l2 => ?_, fun r1 r2 => hrel r1 rk r2⟩⟩
      exact BindsTo.of_looks fun M => KwChain.looks X hks (h D doc pm an cdv ct us mv ws l1 hl l2)
  · exact absurd rfl e
/-! ### lists of tuples of ints, compared -/
def tupsD (xss : List (List Int)) : List PyData := xss.map fun xs => .tuple (xs.map .int)
theorem lay_tups : ∀ xss : List (List Int), PyData.canLayAll0 (tupsD xss) = true
  | [] => rfl
  | xs :: r => by
    have := lay_tups r
    unfold tupsD at this ⊢
    simp [PyData.canLayAll0, PyData.canLay0, PySem.W.ke_canLayAll0, this]
theorem depth_tups : ∀ xss : List (List Int), PyData.depthAll (tupsD xss) ≤ 1
  | [] => Nat.zero_le _
  | xs :: r => by
    have := depth_tups r
    unfold tupsD at this ⊢
    simp [PyData.depthAll, PyData.depth, PySem.W.ke_depthAll, this]
theorem shaped_tups (xss : List (List Int)) : SeqAt.shaped (.list (tupsD xss)) = true := by
  have := depth_tups xss
  simp [SeqAt.shaped, PyData.canLay0, PyData.depth, lay_tups]
  omega
end Mv

set_option Elab.async false
set_option linter.all false
set_option maxRecDepth 100000
set_option maxHeartbeats 4000000
namespace Mv
open PySem PySem.Spec PyProof.Rows L2
def topS (i : Nat) : Stmt := PySem.Challenge.pw_movedstates_k41_free_losses_exactly.main.body.getD i (.Pass ⟨0, 0, 0, 0⟩)
abbrev sStream : Stmt := topS 23
abbrev sDraw : Stmt := topS 24
abbrev sWide : Stmt := topS 25
abbrev sValue : Stmt := topS 26
abbrev sWord : Stmt := topS 27
section
variable {P : Program} {w : World} {K : PySem.W.Frag} {mg : Str → Option Value} {base : Heap}
/-! ### the script's stream -/
theorem scStream : FnScope ["_law_script", "_law_pairs", "_law_at", "_law_cell", "_law_rest", "_law_k"] ["_law_script"] (defScope sStream) := ⟨rfl, rfl, rfl, by decide +kernel, rfl, by decide +kernel, by decide +kernel⟩
def spStream (K : PySem.W.Frag) : Sp := fun vs H Q _ => ∃ (a : Addr) (ns : List Int), vs = [.ref a] ∧ SqL K H a (ns.map V.int) ∧ ns.length ≤ 63 ∧ ∀ (H' : Hp) (p : Addr), Same H H' → H p = none → Strm H' p → Q (.ref p) H'
/-- between two pairs -/
def StmI (H : Hp) (a o c : Addr) (ys : List Int) (n : Nat) (σ : L2.St) (H3 : Hp) : Prop := ∃ (y2 y3 y4 y5 : Option V) (ps : List Int), σ = [some (.ref a), some (.ref o), y2, y3, y4, y5] ∧ Same H H3 ∧ H3 c = some (.lst (ys.map V.int)) ∧ H3 o = some (.lst (ps.map V.int)) ∧ ps.length ≤ n
def StmJ (H : Hp) (a o c : Addr) (ys : List Int) (n : Nat) (x2 x3 : V) (σ : L2.St) (H3 : Hp) : Prop := ∃ (r : Int) (y5 : Option V) (ps : List Int), σ = [some (.ref a), some (.ref o), some x2, some x3, some (.int r), y5] ∧ Same H H3 ∧ H3 c = some (.lst (ys.map V.int)) ∧ H3 o = some (.lst (ps.map V.int)) ∧ ps.length ≤ n
theorem StmJ.i {H : Hp} {a o c : Addr} {ys : List Int} {n m : Nat} {x2 x3 : V} {σ : L2.St} {H3 : Hp} (h : StmJ H a o c ys n x2 x3 σ H3) (hm : n ≤ m) : StmI H a o c ys m σ H3 := by
  obtain ⟨r, y5, ps, e, s, h1, h2, h3⟩ := h
  exact ⟨_, _, _, _, ps, e, s, h1, h2, Nat.le_trans h3 hm⟩
theorem ok_stream {f : Addr} {fd : FuncData} (F : Fun K "_law_stream" "_law_stream" sStream f fd) (B : Bi mg) : FnOk P w K mg base CX0 1 f fd ["_law_script"] (spStream K) := by
  refine F.ok scStream (fun vs H Q E h => ?_) (fun cdv A outer s H vs Q E hr h => ?_)
  · obtain ⟨a, ns, rfl, _⟩ := h
    rfl
  · obtain ⟨a, ns, rfl, hS, hlen, q⟩ := h
    refine ⟨_, (pss_cons (ps_set (i := 1) scStream.nd rfl (.inl rfl) (pe_lst pa_nil))
 (pss_cons (ps_for PassesOwn.never rfl (pi_enum (by rfl) B.enumerate (pa_cons (pe_slice sl_list (pv 0) po_none (po_some pe_int)) pa_nil)) (pg_tup rfl (pgs_cons (pg_name (i := 2) scStream.nd rfl (.inl rfl)) (pgs_cons (pg_name (i := 3) scStream.nd rfl (.inl rfl)) pgs_nil)))
 (pss_cons (ps_set (i := 4) scStream.nd rfl (.inl rfl) (pe_callB call_abs (by rfl) B.abs (by decide +kernel) (pa_cons (pv 3) pa_nil)))
 (pss_cons (ps_if (pt_cmpR op_lt (pv 4) pe_int (nomark _))
 (pss_cons (ps_set (i := 4) scStream.nd rfl (.inl rfl) (pe_op op_mod (pe_callTy call_int1 (by rfl) B.int (by decide +kernel) (pa_cons (pe_op op_mul (pv 4) (pe_op op_add (pe_op op_add pe_int (pe_op op_mul pe_int (pv 2))) (pe_callTy call_int1 (by rfl) B.int (by decide +kernel) (pa_cons (pe_cmpR op_lt (pv 3) pe_int (nomark _)) pa_nil)))) pa_nil)) pe_int))
 (pss_one (ps_set (i := 4) scStream.nd rfl (.inl rfl) (pe_op op_mod (pe_callTy call_int1 (by rfl) B.int (by decide +kernel) (pa_cons (pe_op op_mul (pv 4) (pe_op op_add (pv 4) pe_int)) pa_nil)) pe_int)))) pss_nil)
 (pss_one (ps_for PassesOwn.never rfl (pi_range1 (by rfl) B.range (pa_cons pe_int pa_nil)) (pg_name (i := 5) scStream.nd rfl (.inl rfl))
 (pss_cons (ps_expr (pe_bm PySem.F.plainAttrs_list PySem.F.slot_list_append PySem.F.type_list_append mt_append (pv 1) (pa_cons (pe_op op_mod (pe_callTy call_int1 (by rfl) B.int (by decide +kernel) (pa_cons (pv 4) pa_nil)) pe_int) pa_nil)))
 (pss_cons (ps_set (i := 4) scStream.nd rfl (.inl rfl) (pe_op op_fdiv (pv 4) pe_int))
 (pss_one (ps_if (pt_cmpR op_eq (pv 4) pe_int (nomark _))
 (pss_one ps_break) pss_nil)))))))))
 (pss_cons (ps_expr (pe_bm0 PySem.F.plainAttrs_list PySem.F.slot_list_reverse PySem.F.type_list_reverse mt_reverse (pv 1)))
 (pss_one (ps_ret (pv 1)))))), ?_⟩
    refine ⟨Nat.zero_le _, fun o no => ?_⟩
    have s1 : Same H (upd H o (.lst [])) := same_upd no
    refine ⟨.ref a, rfl, 63, rfl, a, ns.map V.int, rfl, s1.seq hS, fun c nc => ?_⟩
    have s2 : Same (upd H o (.lst [])) (upd (upd H o (.lst [])) c (.lst (cutV (ns.map V.int) none (some 63)))) := same_upd nc
    have nco : c ≠ o := fun e => by
      rw [e, upd_same] at nc
      cases nc
    refine ⟨c, _, rfl, .inl (.inl upd_same), ?_⟩
    rw [cutV_int] at s2 ⊢
    have hcl : (cutI ns none (some 63)).length ≤ 63 := Nat.le_trans (cutI_length _ _ _) hlen
    generalize cutI ns none (some 63) = ys at *
    refine for_it walk_enum (fun i σ H3 => StmI H a o c ys (60 * i) σ H3)
      ⟨none, none, none, none, [], rfl, s1.trans s2, upd_same, by rw [upd_ne nco.symm, upd_same]; rfl, Nat.le_refl _⟩ (fun i σ H3 _ ⟨_, _, _, _, _, _, _, hc3, _⟩ => .inl (.inl hc3)) ?_ ?_
    · rintro i x σ H3 H4 hi ⟨y2, y3, y4, y5, ps, rfl, sm, hc3, ho3, hps⟩ ⟨T, x1, x2, rfl, nT, rfl, e1, e2⟩
      obtain rfl : V.int (i : Nat) = x1 := Option.some.inj e1
      obtain ⟨u, rfl, hu⟩ := int_at e2
      rw [List.length_map] at hi
      have smT : Same H3 (upd H3 T (.tup [.int (i : Nat), .int u])) := same_upd nT
      refine ⟨T, [.int (i : Nat), .int u], rfl, .inl (.inl upd_same), rfl, .int (i : Nat), [.int (i : Nat), .int u].tail, rfl, .int u, [], rfl, rfl, ?_⟩
      have hj : StmJ H a o c ys (60 * i + 0) (.int (i : Nat)) (.int u) [some (.ref a), some (.ref o), some (.int (i : Nat)), some (.int u), some (.int 0), y5] (upd H3 T (.tup [.int (i : Nat), .int u])) :=
        ⟨0, y5, ps, rfl, sm.trans smT, smT _ _ hc3, smT _ _ ho3, hps⟩
      generalize upd H3 T (.tup [.int (i : Nat), .int u]) = H4 at hj ⊢
      -- the inner loop, whatever is left
      have inner : ∀ r : Int, StmJ H a o c ys (60 * i + 0) (.int (i : Nat)) (.int u) [some (.ref a), some (.ref o), some (.int (i : Nat)), some (.int u), some (.int r), y5] H4 := fun r => by
        obtain ⟨r', y5', ps', e, k⟩ := hj
        cases e
        exact ⟨r, _, ps', rfl, k⟩
      clear hj
      refine ⟨.int u, rfl, u, rfl, ?_⟩
      refine ⟨_, rfl, _, _, rfl, rfl, _, rfl, ?_⟩
      refine ite2 ?A ?B
      case' A =>
        intro e
        have e' := of_decide_eq_true e
        have e0 := abs_nn u
        simp only [tSeq, tAsg, gName, tOp, rI, rI0, rU, tUn, tVar, tC, tCB, tCons, tNil, tTest, tIfS, tRet, tRetN, tDrop, tNext, tBreak, tCont, rEq, rNe, CDiv, CDivN, CMul, tBM, tBM0, tTup, tLst, tAug, tIf, tAnd, tOr, tNot, tAndV, tOrV, tNotV, tIsN, tNotN, tB, scal, tCall, cxK, cxKn, rIxT, rIxL, rIn, rAppend, rReverse, tVals, tDSetd, tDGet, tDGet1, tDGet2, tDIn, tDNotIn, rSortV, rSortT, rPop, rSortL, rSortT, tSl, tNoPart, tPart, List.append_nil, L2.start, List.map_cons, List.map_nil, List.length_cons, List.length_nil, List.replicate_succ, List.replicate_zero, List.cons_append, List.nil_append, Nat.reduceAdd, Nat.reduceSub, exists_eq, exists_eq', List.getElem?_cons_zero, List.getElem?_cons_succ, List.set_cons_zero, List.set_cons_succ, Option.some.injEq, V.int.injEq, V.bl.injEq, V.str.injEq, V.ref.injEq, List.cons.injEq, and_true, true_and, and_false, false_and, reduceCtorEq, exists_false, or_false, false_or, exists_and_left, exists_and_right, exists_eq_left, exists_eq_left', exists_eq_right, exists_eq_right', exists_const, ite_true, ite_false, Bool.false_eq_true, if_true, if_false, decide_true, decide_false]
        refine ⟨.inl (by omega), .inl (by omega), by decide, .inl ?_, by decide, ?C⟩
        · have h1 := Int.emod_nonneg ((if u < 0 then -u else u) * (6364136223846793005 + 2 * (i : Int) + if decide (u < 0) = true then 1 else 0)) (show (1000000000000000003 : Int) ≠ 0 by decide)
          have h2 := Int.emod_lt_of_pos ((if u < 0 then -u else u) * (6364136223846793005 + 2 * (i : Int) + if decide (u < 0) = true then 1 else 0)) (show (0 : Int) < 1000000000000000003 by decide)
          omega
        generalize (if u < 0 then -u else u) * (6364136223846793005 + 2 * (i : Int) + if decide (u < 0) = true then 1 else 0) % 1000000000000000003 * ((if u < 0 then -u else u) * (6364136223846793005 + 2 * (i : Int) + if decide (u < 0) = true then 1 else 0) % 1000000000000000003 + 1442695040888963407) % 1000000000000000009 = r
      case' B =>
        intro e
        generalize (if u < 0 then -u else u) = r
      all_goals
        refine ⟨60, rfl, by decide, by decide, for_range (n := 60) (fun j σ H' => StmJ H a o c ys (60 * i + j) (.int (i : Nat)) (.int u) σ H') (inner r) ?_ (fun σ H' h => h.i (by omega))⟩
        rintro j σ H' hj ⟨r', y5', ps', rfl, sm', hc', ho', hps'⟩
        refine ⟨.ref o, rfl, .inl ⟨rfl, _, SqL.of ho'⟩, _, rfl, .inl ⟨_, rfl, ?_⟩⟩
        refine ⟨_, _, rfl, rfl, by show (0 : Int) < 100; decide, o, _, _, rfl, rfl, ho', by rw [List.length_map]; exact small4000 (by omega), ?_⟩
        have hj' : StmJ H a o c ys (60 * i + (j + 1)) (.int (i : Nat)) (.int u) [some (.ref a), some (.ref o), some (.int (i : Nat)), some (.int u), some (.int (r' / 100)), some (.int (0 + (j : Nat)))] (upd H' o (.lst (ps'.map V.int ++ [.int (r' % 100)]))) :=
          ⟨_, _, ps' ++ [r' % 100], rfl, fun b z e => by rw [upd_ne (ne_of_none e no)]; exact sm' _ _ e, by rw [upd_ne nco]; exact hc', by rw [upd_same, List.map_append]; rfl, by rw [List.length_append, List.length_singleton]; omega⟩
        simp only [tSeq, tAsg, gName, tOp, rI, rI0, rU, tUn, tVar, tC, tCB, tCons, tNil, tTest, tIfS, tRet, tRetN, tDrop, tNext, tBreak, tCont, rEq, rNe, CDiv, CDivN, CMul, tBM, tBM0, tTup, tLst, tAug, tIf, tAnd, tOr, tNot, tAndV, tOrV, tNotV, tIsN, tNotN, tB, scal, tCall, cxK, cxKn, rIxT, rIxL, rIn, rAppend, rReverse, tVals, tDSetd, tDGet, tDGet1, tDGet2, tDIn, tDNotIn, rSortV, rSortT, rPop, rSortL, rSortT, tSl, tNoPart, tPart, List.append_nil, L2.start, List.map_cons, List.map_nil, List.length_cons, List.length_nil, List.replicate_succ, List.replicate_zero, List.cons_append, List.nil_append, Nat.reduceAdd, Nat.reduceSub, exists_eq, exists_eq', List.getElem?_cons_zero, List.getElem?_cons_succ, List.set_cons_zero, List.set_cons_succ, Option.some.injEq, V.int.injEq, V.bl.injEq, V.str.injEq, V.ref.injEq, List.cons.injEq, and_true, true_and, and_false, false_and, reduceCtorEq, exists_false, or_false, false_or, exists_and_left, exists_and_right, exists_eq_left, exists_eq_left', exists_eq_right, exists_eq_right', exists_const, ite_true, ite_false, Bool.false_eq_true, if_true, if_false, decide_true, decide_false]
        refine ⟨by decide, ite2 (fun _ => hj'.i (by omega)) (fun _ => hj')⟩
    · rintro σ H3 ⟨y2, y3, y4, y5, ps, rfl, sm, hc3, ho3, hps⟩
      rw [List.length_map] at hps
      refine ⟨.ref o, rfl, .inl ⟨rfl, _, SqL.of ho3⟩, o, ps.map V.int, rfl, rfl, ho3, .ref o, rfl, ?_⟩
      refine q _ o (fun b z e => ?_) no ⟨ps.reverse, ?_, ?_⟩
      · rw [upd_ne (ne_of_none e no)]
        exact sm _ _ e
      · rw [upd_same, List.map_reverse]
      · rw [List.length_reverse]
        omega
end
end Mv

set_option Elab.async false
set_option linter.all false
set_option maxRecDepth 100000
set_option maxHeartbeats 4000000
namespace Mv
open PySem PySem.Spec PyProof.Rows L2
section
variable {P : Program} {w : World} {K : PySem.W.Frag} {mg : Str → Option Value} {base : Heap}
theorem scDraw : FnScope ["_law_stream_here", "_law_many"] ["_law_stream_here", "_law_many"] (defScope sDraw) := ⟨rfl, rfl, rfl, by decide +kernel, rfl, by decide +kernel, by decide +kernel⟩
def spDraw : Sp := fun vs H Q _ => ∃ (a : Addr) (m : Int), vs = [.ref a, .int m] ∧ 0 < m ∧ Strm H a ∧ ∀ (r : Int) (H' : Hp), 0 ≤ r → r < m → Sx a H H' → Strm H' a → Q (.int r) H'
theorem ok_draw {f : Addr} {fd : FuncData} (F : Fun K "_law_draw" "_law_draw" sDraw f fd) (B : Bi mg) : FnOk P w K mg base CX0 1 f fd ["_law_stream_here", "_law_many"] spDraw := by
  refine F.ok scDraw (fun vs H Q E h => ?_) (fun cdv A outer s H vs Q E hr h => ?_)
  · obtain ⟨a, m, rfl, _⟩ := h
    rfl
  · obtain ⟨a, m, rfl, hm, ⟨ns, ha, hl⟩, q⟩ := h
    refine ⟨_, (pss_cons (ps_if (pt_cmpR op_eq (pe_callB call_len_seq (by rfl) B.len PySem.boot_len (pa_cons (pv 0) pa_nil)) pe_int (nomark _))
 (pss_one (ps_ret pe_int)) pss_nil)
 (pss_one (ps_ret (pe_op op_modN (pe_callTy call_int1 (by rfl) B.int (by decide +kernel) (pa_cons (pe_bm0 PySem.F.plainAttrs_list PySem.F.slot_list_pop PySem.F.type_list_pop mt_pop (pv 0)) pa_nil)) (pv 1))))), ?_⟩
    refine ⟨.ref a, rfl, a, ns.map V.int, rfl, .inl (SqL.of ha), rfl, _, rfl, ite2 (fun e => ?_) (fun e => ?_)⟩
    · exact q 0 H (Int.le_refl 0) hm (Sx.refl a H) ⟨ns, ha, hl⟩
    · have hne : ns ≠ [] := fun z => by
        subst z
        exact e (decide_eq_true rfl)
      have hlast : (ns.map V.int)[(ns.map V.int).length - 1]? = some (.int (ns.getLast hne)) := by
        rw [List.length_map, List.getElem?_map]
        rw [← List.getLast?_eq_getElem?, List.getLast?_eq_getLast hne]
        rfl
      refine ⟨.ref a, rfl, .inl ⟨rfl, _, SqL.of ha⟩, a, ns.map V.int, _, rfl, rfl, ha, hlast, .inl ⟨_, rfl, ?_⟩⟩
      refine ⟨.int m, rfl, _, m, rfl, rfl, by omega, ?_⟩
      refine q _ _ (Int.fmod_nonneg_of_pos _ hm) (Int.fmod_lt_of_pos _ hm) Sx.upd ⟨ns.dropLast, ?_, ?_⟩
      · rw [upd_same, List.map_dropLast]
      · rw [List.length_dropLast]
        omega
/-- a draw from the stream: any number of the range may come -/
theorem spDraw_of {a : Addr} {m : Int} {H : Hp} {Q : VK} {E : XK} (hm : 0 < m) (hs : Strm H a) (q : ∀ (r : Int) (H' : Hp), 0 ≤ r → r < m → Sx a H H' → Strm H' a → Q (.int r) H') : spDraw [.ref a, .int m] H Q E := ⟨a, m, rfl, hm, hs, q⟩
theorem scWide : FnScope ["_law_stream_here", "_law_size", "_law_k"] ["_law_stream_here"] (defScope sWide) := ⟨rfl, rfl, rfl, by decide +kernel, rfl, by decide +kernel, by decide +kernel⟩
def spWide : Sp := fun vs H Q _ => ∃ (a : Addr), vs = [.ref a] ∧ Strm H a ∧ ∀ (r : Int) (H' : Hp), Sx a H H' → Strm H' a → Q (.int r) H'
theorem ok_wide {f : Addr} {fd : FuncData} (F : Fun K "_law_wide" "_law_wide" sWide f fd) (B : Bi mg) (cDraw : CalX CX0 P w K mg base 1 "_law_draw" spDraw) : FnOk P w K mg base CX0 2 f fd ["_law_stream_here"] spWide := by
  refine F.ok scWide (fun vs H Q E h => ?_) (fun cdv A outer s H vs Q E hr h => ?_)
  · obtain ⟨a, rfl, _⟩ := h
    rfl
  · obtain ⟨a, rfl, hs, q⟩ := h
    refine ⟨_, (pss_cons (ps_set (i := 1) scWide.nd rfl (.inl rfl) pe_int)
 (pss_cons (ps_for PassesOwn.never rfl (pi_range1 (by rfl) B.range (pa_cons pe_int pa_nil)) (pg_name (i := 2) scWide.nd rfl (.inl rfl))
 (pss_one (ps_set (i := 1) scWide.nd rfl (.inl rfl) (pe_op op_add (pe_op op_mul (pv 1) pe_int) (pe_cx cDraw hr (by decide) pass0 (by rfl) (pa_cons (pv 0) (pa_cons pe_int pa_nil)))))))
 (pss_cons (ps_if (pt_cmpR op_eq (pe_cx cDraw hr (by decide) pass0 (by rfl) (pa_cons (pv 0) (pa_cons pe_int pa_nil))) pe_int (nomark _))
 (pss_one (ps_ret (pe_un un_neg (pv 1)))) pss_nil)
 (pss_one (ps_ret (pv 1)))))), ?_⟩
    refine ⟨11, rfl, by decide, by decide, for_range (n := 11) (fun i σ H' => ∃ (z : Int) (y : Option V), σ = [some (.ref a), some (.int z), y] ∧ Sx a H H' ∧ Strm H' a) ⟨0, none, rfl, Sx.refl a H, hs⟩ ?_ ?_⟩
    · rintro i σ H1 hi ⟨z, y, rfl, x1, t1⟩
      simp only [tSeq, tAsg, gName, tOp, rI, rI0, rU, tUn, tVar, tC, tCB, tCons, tNil, tTest, tIfS, tRet, tRetN, tDrop, tNext, tBreak, tCont, rEq, rNe, CDiv, CDivN, CMul, tBM, tBM0, tTup, tLst, tAug, tIf, tAnd, tOr, tNot, tAndV, tOrV, tNotV, tIsN, tNotN, tB, scal, tCall, cxK, cxKn, rIxT, rIxL, rIn, rAppend, rReverse, tVals, tDSetd, tDGet, tDGet1, tDGet2, tDIn, tDNotIn, rSortV, rSortT, rPop, rSortL, rSortT, tSl, tNoPart, tPart, List.append_nil, L2.start, List.map_cons, List.map_nil, List.length_cons, List.length_nil, List.replicate_succ, List.replicate_zero, List.cons_append, List.nil_append, Nat.reduceAdd, Nat.reduceSub, exists_eq, exists_eq', List.getElem?_cons_zero, List.getElem?_cons_succ, List.set_cons_zero, List.set_cons_succ, Option.some.injEq, V.int.injEq, V.bl.injEq, V.str.injEq, V.ref.injEq, List.cons.injEq, and_true, true_and, and_false, false_and, reduceCtorEq, exists_false, or_false, false_or, exists_and_left, exists_and_right, exists_eq_left, exists_eq_left', exists_eq_right, exists_eq_right', exists_const, ite_true, ite_false, Bool.false_eq_true, if_true, if_false, decide_true, decide_false]
      refine ⟨.inr (by decide), spDraw_of (by decide) t1 fun r H2 _ _ x2 t2 => ?_⟩
      simp only [tSeq, tAsg, gName, tOp, rI, rI0, rU, tUn, tVar, tC, tCB, tCons, tNil, tTest, tIfS, tRet, tRetN, tDrop, tNext, tBreak, tCont, rEq, rNe, CDiv, CDivN, CMul, tBM, tBM0, tTup, tLst, tAug, tIf, tAnd, tOr, tNot, tAndV, tOrV, tNotV, tIsN, tNotN, tB, scal, tCall, cxK, cxKn, rIxT, rIxL, rIn, rAppend, rReverse, tVals, tDSetd, tDGet, tDGet1, tDGet2, tDIn, tDNotIn, rSortV, rSortT, rPop, rSortL, rSortT, tSl, tNoPart, tPart, List.append_nil, L2.start, List.map_cons, List.map_nil, List.length_cons, List.length_nil, List.replicate_succ, List.replicate_zero, List.cons_append, List.nil_append, Nat.reduceAdd, Nat.reduceSub, exists_eq, exists_eq', List.getElem?_cons_zero, List.getElem?_cons_succ, List.set_cons_zero, List.set_cons_succ, Option.some.injEq, V.int.injEq, V.bl.injEq, V.str.injEq, V.ref.injEq, List.cons.injEq, and_true, true_and, and_false, false_and, reduceCtorEq, exists_false, or_false, false_or, exists_and_left, exists_and_right, exists_eq_left, exists_eq_left', exists_eq_right, exists_eq_right', exists_const, ite_true, ite_false, Bool.false_eq_true, if_true, if_false, decide_true, decide_false]
      exact ⟨x1.trans x2, t2⟩
    · rintro σ H1 ⟨z, y, rfl, x1, t1⟩
      simp only [tSeq, tAsg, gName, tOp, rI, rI0, rU, tUn, tVar, tC, tCB, tCons, tNil, tTest, tIfS, tRet, tRetN, tDrop, tNext, tBreak, tCont, rEq, rNe, CDiv, CDivN, CMul, tBM, tBM0, tTup, tLst, tAug, tIf, tAnd, tOr, tNot, tAndV, tOrV, tNotV, tIsN, tNotN, tB, scal, tCall, cxK, cxKn, rIxT, rIxL, rIn, rAppend, rReverse, tVals, tDSetd, tDGet, tDGet1, tDGet2, tDIn, tDNotIn, rSortV, rSortT, rPop, rSortL, rSortT, tSl, tNoPart, tPart, List.append_nil, L2.start, List.map_cons, List.map_nil, List.length_cons, List.length_nil, List.replicate_succ, List.replicate_zero, List.cons_append, List.nil_append, Nat.reduceAdd, Nat.reduceSub, exists_eq, exists_eq', List.getElem?_cons_zero, List.getElem?_cons_succ, List.set_cons_zero, List.set_cons_succ, Option.some.injEq, V.int.injEq, V.bl.injEq, V.str.injEq, V.ref.injEq, List.cons.injEq, and_true, true_and, and_false, false_and, reduceCtorEq, exists_false, or_false, false_or, exists_and_left, exists_and_right, exists_eq_left, exists_eq_left', exists_eq_right, exists_eq_right', exists_const, ite_true, ite_false, Bool.false_eq_true, if_true, if_false, decide_true, decide_false]
      refine spDraw_of (by decide) t1 fun r H2 _ _ x2 t2 => ?_
      simp only [tSeq, tAsg, gName, tOp, rI, rI0, rU, tUn, tVar, tC, tCB, tCons, tNil, tTest, tIfS, tRet, tRetN, tDrop, tNext, tBreak, tCont, rEq, rNe, CDiv, CDivN, CMul, tBM, tBM0, tTup, tLst, tAug, tIf, tAnd, tOr, tNot, tAndV, tOrV, tNotV, tIsN, tNotN, tB, scal, tCall, cxK, cxKn, rIxT, rIxL, rIn, rAppend, rReverse, tVals, tDSetd, tDGet, tDGet1, tDGet2, tDIn, tDNotIn, rSortV, rSortT, rPop, rSortL, rSortT, tSl, tNoPart, tPart, List.append_nil, L2.start, List.map_cons, List.map_nil, List.length_cons, List.length_nil, List.replicate_succ, List.replicate_zero, List.cons_append, List.nil_append, Nat.reduceAdd, Nat.reduceSub, exists_eq, exists_eq', List.getElem?_cons_zero, List.getElem?_cons_succ, List.set_cons_zero, List.set_cons_succ, Option.some.injEq, V.int.injEq, V.bl.injEq, V.str.injEq, V.ref.injEq, List.cons.injEq, and_true, true_and, and_false, false_and, reduceCtorEq, exists_false, or_false, false_or, exists_and_left, exists_and_right, exists_eq_left, exists_eq_left', exists_eq_right, exists_eq_right', exists_const, ite_true, ite_false, Bool.false_eq_true, if_true, if_false, decide_true, decide_false]
      exact ite2 (fun _ => q _ _ (x1.trans x2) t2) (fun _ => q _ _ (x1.trans x2) t2)
theorem scValue : FnScope ["_law_stream_here", "_law_style"] ["_law_stream_here", "_law_style"] (defScope sValue) := ⟨rfl, rfl, rfl, by decide +kernel, rfl, by decide +kernel, by decide +kernel⟩
def spValue : Sp := fun vs H Q _ => ∃ (a : Addr) (z : Int), vs = [.ref a, .int z] ∧ Strm H a ∧ ∀ (r : Int) (H' : Hp), Sx a H H' → Strm H' a → Q (.int r) H'
theorem ok_value {f : Addr} {fd : FuncData} (F : Fun K "_law_value" "_law_value" sValue f fd) (B : Bi mg) (cDraw : CalX CX0 P w K mg base 1 "_law_draw" spDraw) (cWide : CalX CX0 P w K mg base 2 "_law_wide" spWide) : FnOk P w K mg base CX0 3 f fd ["_law_stream_here", "_law_style"] spValue := by
  refine F.ok scValue (fun vs H Q E h => ?_) (fun cdv A outer s H vs Q E hr h => ?_)
  · obtain ⟨a, z, rfl, _⟩ := h
    rfl
  · obtain ⟨a, z, rfl, hs, q⟩ := h
    refine ⟨_, (pss_cons (ps_if (pt_cmpR op_lt (pv 1) pe_int (nomark _))
 (pss_one (ps_ret (pe_cx cDraw hr (by decide) pass0 (by rfl) (pa_cons (pv 0) (pa_cons pe_int pa_nil))))) pss_nil)
 (pss_cons (ps_if (pt_cmpR op_eq (pv 1) pe_int (nomark _))
 (pss_one (ps_ret (pe_cx cDraw hr (by decide) pass0 (by rfl) (pa_cons (pv 0) (pa_cons pe_int pa_nil))))) pss_nil)
 (pss_cons (ps_if (pt_cmpR op_eq (pv 1) pe_int (nomark _))
 (pss_one (ps_ret (pe_op op_sub (pe_cx cDraw hr (by decide) pass0 (by rfl) (pa_cons (pv 0) (pa_cons pe_int pa_nil))) (pe_cx cDraw hr (by decide) pass0 (by rfl) (pa_cons (pv 0) (pa_cons pe_int pa_nil)))))) pss_nil)
 (pss_cons (ps_if (pt_cmpR op_eq (pv 1) pe_int (nomark _))
 (pss_one (ps_ret (pe_op op_mul (pe_op op_sub (pe_cx cDraw hr (by decide) pass0 (by rfl) (pa_cons (pv 0) (pa_cons pe_int pa_nil))) (pe_cx cDraw hr (by decide) pass0 (by rfl) (pa_cons (pv 0) (pa_cons pe_int pa_nil)))) pe_int))) pss_nil)
 (pss_one (ps_ret (pe_cx cWide hr (by decide) pass0 (by rfl) (pa_cons (pv 0) pa_nil)))))))), ?_⟩
    simp only [tSeq, tAsg, gName, tOp, rI, rI0, rU, tUn, tVar, tC, tCB, tCons, tNil, tTest, tIfS, tRet, tRetN, tDrop, tNext, tBreak, tCont, rEq, rNe, CDiv, CDivN, CMul, tBM, tBM0, tTup, tLst, tAug, tIf, tAnd, tOr, tNot, tAndV, tOrV, tNotV, tIsN, tNotN, tB, scal, tCall, cxK, cxKn, rIxT, rIxL, rIn, rAppend, rReverse, tVals, tDSetd, tDGet, tDGet1, tDGet2, tDIn, tDNotIn, rSortV, rSortT, rPop, rSortL, rSortT, tSl, tNoPart, tPart, List.append_nil, L2.start, List.map_cons, List.map_nil, List.length_cons, List.length_nil, List.replicate_succ, List.replicate_zero, List.cons_append, List.nil_append, Nat.reduceAdd, Nat.reduceSub, exists_eq, exists_eq', List.getElem?_cons_zero, List.getElem?_cons_succ, List.set_cons_zero, List.set_cons_succ, Option.some.injEq, V.int.injEq, V.bl.injEq, V.str.injEq, V.ref.injEq, List.cons.injEq, and_true, true_and, and_false, false_and, reduceCtorEq, exists_false, or_false, false_or, exists_and_left, exists_and_right, exists_eq_left, exists_eq_left', exists_eq_right, exists_eq_right', exists_const, ite_true, ite_false, Bool.false_eq_true, if_true, if_false, decide_true, decide_false]
    refine ite2 (fun _ => spDraw_of (by decide) hs fun r H1 _ _ x1 t1 => q _ _ x1 t1) fun _ => ?_
    refine ite2 (fun _ => spDraw_of (by decide) hs fun r H1 _ _ x1 t1 => q _ _ x1 t1) fun _ => ?_
    refine ite2 (fun _ => spDraw_of (by decide) hs fun r H1 _ _ x1 t1 => spDraw_of (by decide) t1 fun r2 H2 _ _ x2 t2 => ?_) fun _ => ?_
    · simp only [tSeq, tAsg, gName, tOp, rI, rI0, rU, tUn, tVar, tC, tCB, tCons, tNil, tTest, tIfS, tRet, tRetN, tDrop, tNext, tBreak, tCont, rEq, rNe, CDiv, CDivN, CMul, tBM, tBM0, tTup, tLst, tAug, tIf, tAnd, tOr, tNot, tAndV, tOrV, tNotV, tIsN, tNotN, tB, scal, tCall, cxK, cxKn, rIxT, rIxL, rIn, rAppend, rReverse, tVals, tDSetd, tDGet, tDGet1, tDGet2, tDIn, tDNotIn, rSortV, rSortT, rPop, rSortL, rSortT, tSl, tNoPart, tPart, List.append_nil, L2.start, List.map_cons, List.map_nil, List.length_cons, List.length_nil, List.replicate_succ, List.replicate_zero, List.cons_append, List.nil_append, Nat.reduceAdd, Nat.reduceSub, exists_eq, exists_eq', List.getElem?_cons_zero, List.getElem?_cons_succ, List.set_cons_zero, List.set_cons_succ, Option.some.injEq, V.int.injEq, V.bl.injEq, V.str.injEq, V.ref.injEq, List.cons.injEq, and_true, true_and, and_false, false_and, reduceCtorEq, exists_false, or_false, false_or, exists_and_left, exists_and_right, exists_eq_left, exists_eq_left', exists_eq_right, exists_eq_right', exists_const, ite_true, ite_false, Bool.false_eq_true, if_true, if_false, decide_true, decide_false]
      exact q _ _ (x1.trans x2) t2
    refine ite2 (fun _ => spDraw_of (by decide) hs fun r H1 h1 h2 x1 t1 => spDraw_of (by decide) t1 fun r2 H2 h3 h4 x2 t2 => ?_) fun _ => ?_
    · simp only [tSeq, tAsg, gName, tOp, rI, rI0, rU, tUn, tVar, tC, tCB, tCons, tNil, tTest, tIfS, tRet, tRetN, tDrop, tNext, tBreak, tCont, rEq, rNe, CDiv, CDivN, CMul, tBM, tBM0, tTup, tLst, tAug, tIf, tAnd, tOr, tNot, tAndV, tOrV, tNotV, tIsN, tNotN, tB, scal, tCall, cxK, cxKn, rIxT, rIxL, rIn, rAppend, rReverse, tVals, tDSetd, tDGet, tDGet1, tDGet2, tDIn, tDNotIn, rSortV, rSortT, rPop, rSortL, rSortT, tSl, tNoPart, tPart, List.append_nil, L2.start, List.map_cons, List.map_nil, List.length_cons, List.length_nil, List.replicate_succ, List.replicate_zero, List.cons_append, List.nil_append, Nat.reduceAdd, Nat.reduceSub, exists_eq, exists_eq', List.getElem?_cons_zero, List.getElem?_cons_succ, List.set_cons_zero, List.set_cons_succ, Option.some.injEq, V.int.injEq, V.bl.injEq, V.str.injEq, V.ref.injEq, List.cons.injEq, and_true, true_and, and_false, false_and, reduceCtorEq, exists_false, or_false, false_or, exists_and_left, exists_and_right, exists_eq_left, exists_eq_left', exists_eq_right, exists_eq_right', exists_const, ite_true, ite_false, Bool.false_eq_true, if_true, if_false, decide_true, decide_false]
      exact ⟨.inl (by omega), q _ _ (x1.trans x2) t2⟩
    · exact ⟨a, rfl, hs, q⟩
end
end Mv

set_option Elab.async false
set_option linter.all false
set_option maxRecDepth 100000
set_option maxHeartbeats 4000000
namespace Mv
open PySem PySem.Spec PyProof.Rows L2
section
variable {P : Program} {w : World} {K : PySem.W.Frag} {mg : Str → Option Value} {base : Heap}
def kdV (k : Kd) : V := .str k.nm
theorem scWord : FnScope ["_law_stream_here", "_law_size", "_law_style", "_law_k"] ["_law_stream_here", "_law_size", "_law_style"] (defScope sWord) := ⟨rfl, rfl, rfl, by decide +kernel, rfl, by decide +kernel, by decide +kernel⟩
def spWord : Sp := fun vs H Q _ => ∃ (a : Addr) (n : Nat) (z : Int), vs = [.ref a, .int (n : Int), .int z] ∧ n ≤ 1000 ∧ Strm H a ∧ ∀ (xs : List Int) (H' : Hp) (p : Addr), xs.length = n → Sx a H H' → Strm H' a → H p = none → H' p = some (.tup (xs.map V.int)) → Q (.ref p) H'
theorem ok_word {f : Addr} {fd : FuncData} (F : Fun K "_law_word" "_law_word" sWord f fd) (B : Bi mg) (cValue : CalX CX0 P w K mg base 3 "_law_value" spValue) : FnOk P w K mg base CX0 4 f fd ["_law_stream_here", "_law_size", "_law_style"] spWord := by
  refine F.ok scWord (fun vs H Q E h => ?_) (fun cdv A outer s H vs Q E hr h => ?_)
  · obtain ⟨a, n, z, rfl, _⟩ := h
    rfl
  · obtain ⟨a, n, z, rfl, hn, hs, q⟩ := h
    refine ⟨_, (pss_one (ps_ret (pe_callTy call_tuple_of (by rfl) B.tuple (by decide +kernel) (pa_cons (pe_lc (own := [("_law_k", 3)]) (g := gName 3) (tt := tYes) rfl scWord.nd (pi_range1 (by rfl) B.range (pa_cons (pv 1) pa_nil)) (blkOk_by (N := ["_law_stream_here", "_law_size", "_law_style", "_law_k"]) (sc := defScope sWord) (by decide +kernel)) (fun _ _ _ _ _ => (pg_name (i := 3) scWord.nd rfl (.inl rfl))) (fun _ _ _ _ _ => pts_nil) (fun _ _ _ _ _ => (pe_cx cValue hr (by decide) pass0 (by rfl) (pa_cons (pv 0) (pa_cons (pv 2) pa_nil))))) pa_nil)))), ?_⟩
    refine ⟨.int (n : Int), rfl, n, rfl, by omega, by omega, fun D hD => ?_⟩
    refine lc_range (n := n) (fun i H1 => ∃ ys : List Int, ys.length = i ∧ Sx a H H1 ∧ Strm H1 a ∧ H1 D = some (.lst (ys.map V.int))) ⟨[], rfl, Sx.of (same_upd hD), hs.same (same_upd hD), upd_same⟩ ?_ ?_
    · rintro i H1 hi ⟨ys, el, x1, t1, eD⟩
      refine ⟨rfl, .ref a, rfl, .int z, rfl, a, z, rfl, t1, fun r H2 x2 t2 => ?_⟩
      have eD2 := x2 _ _ (hs.ne hD).symm eD
      refine ⟨_, eD2, by rw [List.length_map, el]; exact small4000 (by omega), ys ++ [r], by rw [List.length_append, el]; rfl, fun b o nb e => ?_, ?_, by rw [upd_same, List.map_append]; rfl⟩
      · rw [upd_ne (ne_of_none e hD)]
        exact x2 _ _ nb (x1 _ _ nb e)
      · obtain ⟨ns, e, l⟩ := t2
        exact ⟨ns, by rw [upd_ne (hs.ne hD)]; exact e, l⟩
    · rintro H1 ⟨ys, el, x1, t1, eD⟩
      refine ⟨D, ys.map V.int, rfl, .inl ⟨SqL.of eD, fun l hl => ?_⟩⟩
      have hl0 : H l = none := by
        by_cases hla : l = a
        · subst hla
          obtain ⟨zs, e, _⟩ := t1
          rw [e] at hl
          cases hl
        · cases e : H l with
          | none => rfl
          | some o =>
            rw [x1 _ _ hla e] at hl
            cases hl
      exact q ys _ l el (Sx.trans x1 (Sx.of (same_upd hl))) (t1.same (same_upd hl)) hl0 upd_same
end
end Mv

set_option Elab.async false
set_option linter.all false
set_option maxRecDepth 100000
set_option maxHeartbeats 4000000
namespace Mv
open PySem PySem.Spec PyProof.Rows L2
theorem small1000' {n : Nat} (h : n ≤ 1000) : n ≤ sizeLine := Nat.le_of_lt (small1000 h)
theorem eqV_int (a b : Int) : eqV (.int a) (.int b) = decide (a = b) := by first | rfl | simp [eqV]
theorem inV_int (x : Int) (ns : List Int) : inV (.int x) (ns.map V.int) = decide (x ∈ ns) := by
  induction ns with
  | nil => rfl
  | cons n ns ih =>
    show (eqV (.int n) (.int x) || inV (.int x) (ns.map V.int)) = _
    rw [ih, eqV_int]
    by_cases h : n = x
    · subst h
      simp
    · simp [h, Ne.symm h]
/-- a thing that is no kind's name, as the law draws them -/
inductive BadV (H : Hp) : V → Prop where
  | str (z : Str) (h : ∀ k : Kd, ¬ z = k.nm) (hl : z.length ≤ 100) (hc : ∀ c ∈ z.cps.toList, c < 0x110000) : BadV H (.str z)
  | non : BadV H .non
  | int (i : Int) (h : i = 0 ∨ i = 1 ∨ i = 2 ∨ i = 3) : BadV H (.int i)
/-- a def whose code object is known -/
structure FunC (K : PySem.W.Frag) (x qual : Str) (st : Stmt) (f : Addr) (fd : FuncData) (c : Addr) : Prop where
  ex : ∃ (oc : Value) (od : Option Addr) (kV doc pm : Value) (an : Option Addr) (ct : Value) (osl : Array (Option Value)),
    fd = PySem.W.fnOf x qual (defArgs st) (defBody st) (defScope st) .none kV doc pm an (.ref c) ct ∧ K.lookup f = some ⟨oc, od, .func fd, osl⟩ ∧ PySem.W.codeIn K (.ref c) qual = true
theorem FunC.ok {P : Program} {w : World} {K : PySem.W.Frag} {mg : Str → Option Value} {base : Heap} {x qual : Str} {st : Stmt} {f c : Addr} {fd : FuncData} {N ps : List Str} {k : Nat} {sp : Sp} (F : FunC K x qual st f fd c) (S : FnScope N ps (defScope st)) (len : ∀ vs H Q E, sp vs H Q E → vs.length = ps.length)
    (hbody : ∀ (A : Around) (outer : List Env) (s : Shared) (H : Hp) (vs : List V) (Q : VK) (E : XK), Room k (A.deeper (envOfC qual (defScope st) s.heap.objs.size f (.ref c))) → sp vs H Q E →
      ∃ t, PSs (cxOf CX0 P w K mg base N qual (defScope st) f (.ref c) A outer s H E).nox (defBody st) t ∧ t { nx := fun _ H' => Q .non H', rt := Q } (L2.start N vs) H) : FnOk P w K mg base CX0 (k + 1) f fd ps sp := by
  obtain ⟨oc, od, kV, doc, pm, an, ct, osl, rfl, lk, hcd⟩ := F.ex
  refine fn_of lk hcd S len fun A outer s H vs Q E hr hsp => ?_
  obtain ⟨t, h, q⟩ := hbody A outer s H vs Q E hr hsp
  exact ⟨t, h.nox, q⟩
/-- a word: a tuple or a list of ints -/
def WordS (K : PySem.W.Frag) (H : Hp) (p : Addr) (xs : List Int) : Prop := SqT K H p (xs.map V.int) ∨ SqL K H p (xs.map V.int)
theorem WordS.ext {K : PySem.W.Frag} {H H1 : Hp} {p : Addr} {xs : List Int} (h : WordS K H p xs) (e : LamX.ExtN H H1) : WordS K H1 p xs := sq_extN e h
theorem WordS.same {K : PySem.W.Frag} {H H1 : Hp} {p : Addr} {xs : List Int} (h : WordS K H p xs) (e : Same H H1) : WordS K H1 p xs := h.ext (LamX.ExtN.of e)
theorem ext_upd {H : Hp} {p : Addr} {o : HO} (h : H p = none) : LamX.ExtN H (upd H p o) := LamX.ExtN.of (same_upd h)
theorem tabs_upd {T : List (Addr × Str)} {H : Hp} {p : Addr} {o : HO} (t : LamX.Tabs T H) (h : H p = none) : LamX.Tabs T (upd H p o) := t.ext (same_upd h)
/-- what may make the lambda: all is kept but the tables, which stay tables -/
def Gw (T : List (Addr × Str)) (H H' : Hp) : Prop := LamX.ExtN H H' ∧ LamX.Tabs T H'
theorem Gw.refl {T : List (Addr × Str)} {H : Hp} (t : LamX.Tabs T H) : Gw T H H := ⟨LamX.ExtN.refl H, t⟩
theorem Gw.trans {T : List (Addr × Str)} {H H1 H2 : Hp} (a : Gw T H H1) (b : Gw T H1 H2) : Gw T H H2 := ⟨a.1.trans b.1, b.2⟩
theorem Gw.of {T : List (Addr × Str)} {H H1 : Hp} (t : LamX.Tabs T H) (s : Same H H1) : Gw T H H1 := ⟨LamX.ExtN.of s, t.ext s⟩
theorem Gw.upd {T : List (Addr × Str)} {H H1 : Hp} {p : Addr} {o : HO} (a : Gw T H H1) (h : H1 p = none) : Gw T H (L2.upd H1 p o) := ⟨a.1.trans (ext_upd h), tabs_upd a.2 h⟩
/-- a place that was free, or a table's -/
def Nw (H : Hp) (l : Addr) : Prop := ∀ o, H l = some o → ∃ ps, o = .tbl ps
theorem Gw.nw {T : List (Addr × Str)} {H H1 : Hp} {p : Addr} (a : Gw T H H1) (h : H1 p = none) : Nw H p := fun o e => by
  by_cases hn : ∃ ps, o = HO.tbl ps
  · exact hn
  · have := a.1 _ _ e fun ps z => hn ⟨ps, z⟩
    rw [h] at this
    cases this
abbrev sKeepO : Stmt := inClass (topS 5) 6
abbrev sPlainM : Stmt := inClass (topS 5) 7
abbrev sKeepB : Stmt := inClass (topS 6) 6
abbrev sKeepS : Stmt := inClass (topS 7) 6
abbrev sKeepH : Stmt := inClass (topS 8) 6
abbrev sKeepF : Stmt := inClass (topS 9) 6
abbrev sKeepT : Stmt := inClass (topS 10) 6
abbrev sKeepL : Stmt := inClass (topS 11) 6
abbrev sKeepE : Stmt := inClass (topS 12) 6
abbrev sLeast : Stmt := topS 13
abbrev sGreat : Stmt := topS 14
def ixV (is : List Nat) : List V := is.map fun i : Nat => V.int (i : Int)
theorem ixV_int (is : List Nat) : ixV is = (is.map fun i : Nat => (i : Int)).map V.int := by
  unfold ixV
  rw [List.map_map]
  rfl
def spKeep (K : PySem.W.Frag) (T : List (Addr × Str)) (k : Kd) : Sp := fun vs H Q _ => ∃ (x : V) (p : Addr) (xs : List Int), vs = [x, .ref p] ∧ WordS K H p xs ∧ xs.length ≤ 60 ∧ LamX.Tabs T H ∧ ∀ (H' : Hp) (l : Addr), Gw T H H' → Nw H l → H' l = some (.lst (ixV (keepIx k xs))) → Q (.ref l) H'
def spLeast (K : PySem.W.Frag) : Sp := fun vs H Q _ => ∃ (p : Addr) (xs : List Int), vs = [.ref p] ∧ WordS K H p xs ∧ xs.length ≤ 60 ∧ ∀ (H' : Hp) (d : Addr), Same H H' → H' d = some (.dK (leastD xs xs.length)) → Q (.ref d) H'
def spGreat (K : PySem.W.Frag) : Sp := fun vs H Q _ => ∃ (p : Addr) (xs : List Int), vs = [.ref p] ∧ WordS K H p xs ∧ xs.length ≤ 60 ∧ ∀ (H' : Hp) (d : Addr), Same H H' → H' d = some (.dK (greatD xs xs.length)) → Q (.ref d) H'
theorem rg_ix (n : Nat) : rgV 0 (n : Int) = ixV (List.range n) := by
  unfold rgV ixV
  rw [Int.sub_zero, Int.toNat_natCast]
  exact List.map_congr_left fun i _ => by rw [Int.zero_add]
/-- the two walks of a word -/
def YWord (xs : List Int) : Nat → Hp → V → Hp → Prop := YPair (fun i => some (.int (i : Nat))) (fun i => (xs.map V.int)[i]?)
section
variable {P : Program} {w : World} {K : PySem.W.Frag} {mg : Str → Option Value} {base : Heap} {T : List (Addr × Str)}
theorem scKO : FnScope ["self", "word"] ["self", "word"] (defScope sKeepO) := ⟨rfl, rfl, rfl, by decide +kernel, rfl, by decide +kernel, by decide +kernel⟩
theorem ok_keepO {f : Addr} {fd : FuncData} (F : Fun K "keep" "Kind.keep" sKeepO f fd) (B : Bi mg) : FnOk P w K mg base CX0 2 f fd ["self", "word"] (spKeep K T .list) := by
  refine F.ok scKO (fun vs H Q E h => ?_) (fun cdv A outer s H vs Q E hr h => ?_)
  · obtain ⟨x, p, xs, rfl, _⟩ := h
    rfl
  · obtain ⟨x, p, xs, rfl, hw, hl, ht, q⟩ := h
    refine ⟨_, pss_one (ps_ret (pe_listRg rfl (by rfl) B.list (prg_1 (by rfl) B.range (pe_callB call_len_seq (by rfl) B.len PySem.boot_len (pa_cons (pv 1) pa_nil))))), ?_⟩
    refine ⟨_, rfl, p, xs.map V.int, rfl, hw.symm, (xs.length : Int), by rw [List.length_map], .of_le (by omega) (by omega) (by omega) (by omega), fun l hl => ?_⟩
    rw [rg_ix]
    exact q _ l (Gw.upd (.refl ht) hl) (Gw.nw (.refl ht) hl) upd_same
theorem scKF : FnScope ["self", "word"] ["self", "word"] (defScope sKeepF) := ⟨rfl, rfl, rfl, by decide +kernel, rfl, by decide +kernel, by decide +kernel⟩
theorem ok_keepF {f : Addr} {fd : FuncData} (F : Fun K "keep" "FirstKind.keep" sKeepF f fd) (B : Bi mg) : FnOk P w K mg base CX0 2 f fd ["self", "word"] (spKeep K T .first) := by
  refine F.ok scKF (fun vs H Q E h => ?_) (fun cdv A outer s H vs Q E hr h => ?_)
  · obtain ⟨x, p, xs, rfl, _⟩ := h
    rfl
  · obtain ⟨x, p, xs, rfl, hw, hl, ht, q⟩ := h
    refine ⟨_, (pss_one (ps_ret (pe_ifExp (pt_cmpR op_gt (pe_callB call_len_seq (by rfl) B.len PySem.boot_len (pa_cons (pv 1) pa_nil)) pe_int (nomark _)) (pe_lst (pa_cons pe_int pa_nil)) (pe_lst pa_nil)))), ?_⟩
    simp only [tSeq, tAsg, gName, tOp, rI, rI0, rU, tUn, tVar, tC, tCB, tCons, tNil, tTest, tIfS, tRet, tRetN, tDrop, tNext, tBreak, tCont, rEq, rNe, CDiv, CDivN, CMul, tBM, tBM0, tTup, tLst, tAug, tIf, tAnd, tOr, tNot, tAndV, tOrV, tNotV, tIsN, tNotN, tB, scal, tCall, cxK, cxKn, rIxT, rIxL, rIn, rAppend, rReverse, tVals, tDSetd, tDGet, tDGet1, tDGet2, tDIn, tDNotIn, rSortV, rSortT, rPop, rSortL, rSortT, tSl, tNoPart, tPart, List.append_nil, L2.start, List.map_cons, List.map_nil, List.length_cons, List.length_nil, List.replicate_succ, List.replicate_zero, List.cons_append, List.nil_append, Nat.reduceAdd, Nat.reduceSub, exists_eq, exists_eq', List.getElem?_cons_zero, List.getElem?_cons_succ, List.set_cons_zero, List.set_cons_succ, Option.some.injEq, V.int.injEq, V.bl.injEq, V.str.injEq, V.ref.injEq, List.cons.injEq, and_true, true_and, and_false, false_and, reduceCtorEq, exists_false, or_false, false_or, exists_and_left, exists_and_right, exists_eq_left, exists_eq_left', exists_eq_right, exists_eq_right', exists_const, ite_true, ite_false, Bool.false_eq_true, if_true, if_false, decide_true, decide_false]
    refine ⟨xs.map V.int, hw.symm, ite2 (fun e => ?_) (fun e => ?_)⟩
    · have e1 := of_decide_eq_true e
      rw [List.length_map] at e1
      have e2 : ¬ xs.length = 0 := by omega
      refine ⟨by decide, fun l hl => q _ l (Gw.upd (.refl ht) hl) (Gw.nw (.refl ht) hl) ?_⟩
      rw [show keepIx .first xs = [0] from if_neg e2]
      exact upd_same
    · have e2 : xs.length = 0 := by
        refine Decidable.byContradiction fun z => e (decide_eq_true ?_)
        rw [List.length_map]
        omega
      refine ⟨Nat.zero_le _, fun l hl => q _ l (Gw.upd (.refl ht) hl) (Gw.nw (.refl ht) hl) ?_⟩
      rw [show keepIx .first xs = [] from if_pos e2]
      exact upd_same
theorem scKL : FnScope ["self", "word"] ["self", "word"] (defScope sKeepL) := ⟨rfl, rfl, rfl, by decide +kernel, rfl, by decide +kernel, by decide +kernel⟩
theorem ok_keepL {f : Addr} {fd : FuncData} (F : Fun K "keep" "LastKind.keep" sKeepL f fd) (B : Bi mg) : FnOk P w K mg base CX0 2 f fd ["self", "word"] (spKeep K T .last) := by
  refine F.ok scKL (fun vs H Q E h => ?_) (fun cdv A outer s H vs Q E hr h => ?_)
  · obtain ⟨x, p, xs, rfl, _⟩ := h
    rfl
  · obtain ⟨x, p, xs, rfl, hw, hl, ht, q⟩ := h
    refine ⟨_, (pss_one (ps_ret (pe_ifExp (pt_cmpR op_gt (pe_callB call_len_seq (by rfl) B.len PySem.boot_len (pa_cons (pv 1) pa_nil)) pe_int (nomark _)) (pe_lst (pa_cons (pe_op op_sub (pe_callB call_len_seq (by rfl) B.len PySem.boot_len (pa_cons (pv 1) pa_nil)) pe_int) pa_nil)) (pe_lst pa_nil)))), ?_⟩
    simp only [tSeq, tAsg, gName, tOp, rI, rI0, rU, tUn, tVar, tC, tCB, tCons, tNil, tTest, tIfS, tRet, tRetN, tDrop, tNext, tBreak, tCont, rEq, rNe, CDiv, CDivN, CMul, tBM, tBM0, tTup, tLst, tAug, tIf, tAnd, tOr, tNot, tAndV, tOrV, tNotV, tIsN, tNotN, tB, scal, tCall, cxK, cxKn, rIxT, rIxL, rIn, rAppend, rReverse, tVals, tDSetd, tDGet, tDGet1, tDGet2, tDIn, tDNotIn, rSortV, rSortT, rPop, rSortL, rSortT, tSl, tNoPart, tPart, List.append_nil, L2.start, List.map_cons, List.map_nil, List.length_cons, List.length_nil, List.replicate_succ, List.replicate_zero, List.cons_append, List.nil_append, Nat.reduceAdd, Nat.reduceSub, exists_eq, exists_eq', List.getElem?_cons_zero, List.getElem?_cons_succ, List.set_cons_zero, List.set_cons_succ, Option.some.injEq, V.int.injEq, V.bl.injEq, V.str.injEq, V.ref.injEq, List.cons.injEq, and_true, true_and, and_false, false_and, reduceCtorEq, exists_false, or_false, false_or, exists_and_left, exists_and_right, exists_eq_left, exists_eq_left', exists_eq_right, exists_eq_right', exists_const, ite_true, ite_false, Bool.false_eq_true, if_true, if_false, decide_true, decide_false]
    refine ⟨xs.map V.int, hw.symm, ite2 (fun e => ?_) (fun e => ?_)⟩
    · have e1 := of_decide_eq_true e
      rw [List.length_map] at e1
      have e2 : ¬ xs.length = 0 := by omega
      refine ⟨xs.map V.int, hw.symm, by decide, fun l hl => q _ l (Gw.upd (.refl ht) hl) (Gw.nw (.refl ht) hl) ?_⟩
      rw [show keepIx .last xs = [xs.length - 1] from if_neg e2, upd_same]
      show _ = some (HO.lst [V.int ((xs.length - 1 : Nat) : Int)])
      rw [List.length_map, show ((xs.length - 1 : Nat) : Int) = (xs.length : Int) - 1 from by omega]
    · have e2 : xs.length = 0 := by
        refine Decidable.byContradiction fun z => e (decide_eq_true ?_)
        rw [List.length_map]
        omega
      refine ⟨Nat.zero_le _, fun l hl => q _ l (Gw.upd (.refl ht) hl) (Gw.nw (.refl ht) hl) ?_⟩
      rw [show keepIx .last xs = [] from if_pos e2]
      exact upd_same
theorem scKE : FnScope ["self", "word"] ["self", "word"] (defScope sKeepE) := ⟨rfl, rfl, rfl, by decide +kernel, rfl, by decide +kernel, by decide +kernel⟩
theorem ok_keepE {f : Addr} {fd : FuncData} (F : Fun K "keep" "EndsKind.keep" sKeepE f fd) (B : Bi mg) : FnOk P w K mg base CX0 2 f fd ["self", "word"] (spKeep K T .ends) := by
  refine F.ok scKE (fun vs H Q E h => ?_) (fun cdv A outer s H vs Q E hr h => ?_)
  · obtain ⟨x, p, xs, rfl, _⟩ := h
    rfl
  · obtain ⟨x, p, xs, rfl, hw, hl, ht, q⟩ := h
    refine ⟨_, (pss_one (ps_ret (pe_ifExp (pt_cmpR op_gt (pe_callB call_len_seq (by rfl) B.len PySem.boot_len (pa_cons (pv 1) pa_nil)) pe_int (nomark _)) (pe_lst (pa_cons pe_int (pa_cons (pe_op op_sub (pe_callB call_len_seq (by rfl) B.len PySem.boot_len (pa_cons (pv 1) pa_nil)) pe_int) pa_nil))) (pe_lst pa_nil)))), ?_⟩
    simp only [tSeq, tAsg, gName, tOp, rI, rI0, rU, tUn, tVar, tC, tCB, tCons, tNil, tTest, tIfS, tRet, tRetN, tDrop, tNext, tBreak, tCont, rEq, rNe, CDiv, CDivN, CMul, tBM, tBM0, tTup, tLst, tAug, tIf, tAnd, tOr, tNot, tAndV, tOrV, tNotV, tIsN, tNotN, tB, scal, tCall, cxK, cxKn, rIxT, rIxL, rIn, rAppend, rReverse, tVals, tDSetd, tDGet, tDGet1, tDGet2, tDIn, tDNotIn, rSortV, rSortT, rPop, rSortL, rSortT, tSl, tNoPart, tPart, List.append_nil, L2.start, List.map_cons, List.map_nil, List.length_cons, List.length_nil, List.replicate_succ, List.replicate_zero, List.cons_append, List.nil_append, Nat.reduceAdd, Nat.reduceSub, exists_eq, exists_eq', List.getElem?_cons_zero, List.getElem?_cons_succ, List.set_cons_zero, List.set_cons_succ, Option.some.injEq, V.int.injEq, V.bl.injEq, V.str.injEq, V.ref.injEq, List.cons.injEq, and_true, true_and, and_false, false_and, reduceCtorEq, exists_false, or_false, false_or, exists_and_left, exists_and_right, exists_eq_left, exists_eq_left', exists_eq_right, exists_eq_right', exists_const, ite_true, ite_false, Bool.false_eq_true, if_true, if_false, decide_true, decide_false]
    refine ⟨xs.map V.int, hw.symm, ite2 (fun e => ?_) (fun e => ?_)⟩
    · have e1 := of_decide_eq_true e
      rw [List.length_map] at e1
      have e2 : ¬ xs.length = 0 := by omega
      refine ⟨xs.map V.int, hw.symm, by decide, fun l hl => q _ l (Gw.upd (.refl ht) hl) (Gw.nw (.refl ht) hl) ?_⟩
      rw [show keepIx .ends xs = [0, xs.length - 1] from if_neg e2, upd_same]
      show _ = some (HO.lst [V.int 0, V.int ((xs.length - 1 : Nat) : Int)])
      rw [List.length_map, show ((xs.length - 1 : Nat) : Int) = (xs.length : Int) - 1 from by omega]
    · have e2 : xs.length = 0 := by
        refine Decidable.byContradiction fun z => e (decide_eq_true ?_)
        rw [List.length_map]
        omega
      refine ⟨Nat.zero_le _, fun l hl => q _ l (Gw.upd (.refl ht) hl) (Gw.nw (.refl ht) hl) ?_⟩
      rw [show keepIx .ends xs = [] from if_pos e2]
      exact upd_same
theorem scKB : FnScope ["self", "word"] ["self", "word"] (defScope sKeepB) := ⟨rfl, rfl, rfl, by decide +kernel, rfl, by decide +kernel, by decide +kernel⟩
def lamQ : Str := ("BagKind.keep" : Str) ++ ".<locals>." ++ "<lambda>"
theorem ok_keepB {f c Pt : Addr} {fd : FuncData} (F : FunC K "keep" "BagKind.keep" sKeepB f fd c) (B : Bi mg) (TB : LamX.TabB base mg c Pt) : FnOk P w K mg base CX0 2 f fd ["self", "word"] (spKeep K [(Pt, lamQ)] .bag) := by
  refine F.ok scKB (fun vs H Q E h => ?_) (fun A outer s H vs Q E hr h => ?_)
  · obtain ⟨x, p, xs, rfl, _⟩ := h
    rfl
  · obtain ⟨x, p, xs, rfl, hw, hl, ht, q⟩ := h
    refine ⟨_, pss_one (ps_ret (pe_sortAt (T := [(Pt, lamQ)]) (i := 1) rfl hr (by rfl) B.sorted (by rfl) B.range (pe_callB call_len_seq (by rfl) B.len PySem.boot_len (pa_cons (pv 1) pa_nil)) TB rfl (List.mem_singleton.mpr rfl) (fun p hp _ => by rw [List.mem_singleton.mp hp]; rfl) rfl (by rfl) rfl (by rfl) rfl rfl rfl (fun _ _ _ _ _ _ => rfl))), ?_⟩
    refine ⟨_, rfl, p, xs.map V.int, rfl, hw.symm, p, xs, rfl, by rw [List.length_map], hw, by omega, ht, fun H2 l e2 t2 hl2 => ?_⟩
    exact q _ l (Gw.upd ⟨e2, t2⟩ hl2) (Gw.nw ⟨e2, t2⟩ hl2) upd_same
end
end Mv

set_option Elab.async false
set_option linter.all false
set_option maxRecDepth 100000
set_option maxHeartbeats 4000000
namespace Mv
open PySem PySem.Spec PyProof.Rows L2
section
variable {P : Program} {w : World} {K : PySem.W.Frag} {mg : Str → Option Value} {base : Heap} {T : List (Addr × Str)}
/-- what least_places does between two turns -/
def LpI (H : Hp) (p o : Addr) (xs : List Int) (i : Nat) (σ : L2.St) (H' : Hp) : Prop := ∃ y2 y3, σ = [some (.ref p), some (.ref o), y2, y3] ∧ Same H H' ∧ H' o = some (.dK (leastD xs i))
theorem scLe : FnScope ["word", "places", "at", "value"] ["word"] (defScope sLeast) := ⟨rfl, rfl, rfl, by decide +kernel, rfl, by decide +kernel, by decide +kernel⟩
theorem ok_least {f : Addr} {fd : FuncData} (F : Fun K "least_places" "least_places" sLeast f fd) (B : Bi mg) : FnOk P w K mg base CX0 1 f fd ["word"] (spLeast K) := by
  refine F.ok scLe (fun vs H Q E h => ?_) (fun cdv A outer s H vs Q E hr h => ?_)
  · obtain ⟨p, xs, rfl, _⟩ := h
    rfl
  · obtain ⟨p, xs, rfl, hw, hl, q⟩ := h
    rcases hw with hw | hw
    case' inl => refine ⟨_, (pss_cons (ps_set (i := 1) scLe.nd rfl (.inl rfl) pe_dnewK)
 (pss_cons (ps_for PassesOwn.never rfl (pi_enumT (by rfl) B.enumerate (pa_cons (pv 0) pa_nil)) (pg_tup rfl (pgs_cons (pg_name (i := 2) scLe.nd rfl (.inl rfl)) (pgs_cons (pg_name (i := 3) scLe.nd rfl (.inl rfl)) pgs_nil)))
 (pss_one (ps_expr (pe_dsetd (pv 1) (pv 3) (pv 2) ⟨by rfl, by rfl, by rfl, by rfl⟩))))
 (pss_one (ps_ret (pv 1))))), ?_⟩
    case' inr => refine ⟨_, (pss_cons (ps_set (i := 1) scLe.nd rfl (.inl rfl) pe_dnewK)
 (pss_cons (ps_for PassesOwn.never rfl (pi_enum (by rfl) B.enumerate (pa_cons (pv 0) pa_nil)) (pg_tup rfl (pgs_cons (pg_name (i := 2) scLe.nd rfl (.inl rfl)) (pgs_cons (pg_name (i := 3) scLe.nd rfl (.inl rfl)) pgs_nil)))
 (pss_one (ps_expr (pe_dsetd (pv 1) (pv 3) (pv 2) ⟨by rfl, by rfl, by rfl, by rfl⟩))))
 (pss_one (ps_ret (pv 1))))), ?_⟩
    all_goals
      refine fun o no => ?_
      have so := same_upd (o := .dK []) no
    case' inl =>
      have hw1 := Same.tup so hw
      refine ⟨.ref p, rfl, p, _, rfl, hw1, ?_⟩
      refine for_it walk_enumT (fun i σ H' => LpI H p o xs i σ H') ⟨none, none, rfl, so, upd_same⟩ (fun i σ H' _ ⟨_, _, _, s3, _⟩ => Same.tup s3 hw) ?_ ?_
    case' inr =>
      have hw1 := so.seq hw
      refine ⟨.ref p, rfl, p, _, rfl, hw1, ?_⟩
      refine for_it walk_enum (fun i σ H' => LpI H p o xs i σ H') ⟨none, none, rfl, so, upd_same⟩ (fun i σ H' _ ⟨_, _, _, s3, _⟩ => s3.seq hw) ?_ ?_
    all_goals
      first
      | rintro i x σ H3 H4 hi ⟨y2, y3, rfl, sm, hd⟩ ⟨t, x1, x2, rfl, nT, rfl, e1, e2⟩
        obtain rfl : V.int (i : Nat) = x1 := Option.some.inj e1
        obtain ⟨u, rfl, hu⟩ := int_at e2
        rw [List.length_map] at hi
        have smT : Same H3 (upd H3 t (.tup [.int (i : Nat), .int u])) := same_upd nT
        refine ⟨t, [.int (i : Nat), .int u], rfl, .inl (.inl upd_same), rfl, .int (i : Nat), [.int (i : Nat), .int u].tail, rfl, .int u, [], rfl, rfl, ?_⟩
        have hd4 := smT _ _ hd
        have sm4 := sm.trans smT
        generalize upd H3 t (.tup [.int (i : Nat), .int u]) = H4 at hd4 sm4 ⊢
        simp only [tSeq, tAsg, gName, tOp, rI, rI0, rU, tUn, tVar, tC, tCB, tCons, tNil, tTest, tIfS, tRet, tRetN, tDrop, tNext, tBreak, tCont, rEq, rNe, CDiv, CDivN, CMul, tBM, tBM0, tTup, tLst, tAug, tIf, tAnd, tOr, tNot, tAndV, tOrV, tNotV, tIsN, tNotN, tB, scal, tCall, cxK, cxKn, rIxT, rIxL, rIn, rAppend, rReverse, tVals, tDSetd, tDGet, tDGet1, tDGet2, tDIn, tDNotIn, rSortV, rSortT, rPop, rSortL, rSortT, tSl, tNoPart, tPart, List.append_nil, L2.start, List.map_cons, List.map_nil, List.length_cons, List.length_nil, List.replicate_succ, List.replicate_zero, List.cons_append, List.nil_append, Nat.reduceAdd, Nat.reduceSub, exists_eq, exists_eq', List.getElem?_cons_zero, List.getElem?_cons_succ, List.set_cons_zero, List.set_cons_succ, Option.some.injEq, V.int.injEq, V.bl.injEq, V.str.injEq, V.ref.injEq, List.cons.injEq, and_true, true_and, and_false, false_and, reduceCtorEq, exists_false, or_false, false_or, exists_and_left, exists_and_right, exists_eq_left, exists_eq_left', exists_eq_right, exists_eq_right', exists_const, ite_true, ite_false, Bool.false_eq_true, if_true, if_false, decide_true, decide_false]
        refine ⟨.inl ⟨_, .inl hd4⟩, _, hd4, .inl u, rfl, Nat.lt_of_le_of_lt (leastD_len xs i) (by rw [sizeLine_eq]; omega), fun v hv => ?_, fun hv => ?_⟩
        · have hx : u ∈ xs.take i := by
            refine Decidable.byContradiction fun z => ?_
            unfold leastD at hv
            rw [val_map, if_neg fun y => z ((mem_headsI _).mp y)] at hv
            cases hv
          exact ⟨_, _, rfl, sm4, by rw [least_hit hu hx]; exact hd4⟩
        · have hx : u ∉ xs.take i := fun z => by
            unfold leastD at hv
            rw [val_map, if_pos ((mem_headsI _).mpr z)] at hv
            cases hv
          exact ⟨_, _, rfl, fun b z e => by rw [upd_ne (ne_of_none e no)]; exact sm4 _ _ e, by rw [least_new hu hx]; exact upd_same⟩
      | rintro σ H3 ⟨y2, y3, rfl, sm, hd⟩
        rw [List.length_map] at hd
        simp only [tSeq, tAsg, gName, tOp, rI, rI0, rU, tUn, tVar, tC, tCB, tCons, tNil, tTest, tIfS, tRet, tRetN, tDrop, tNext, tBreak, tCont, rEq, rNe, CDiv, CDivN, CMul, tBM, tBM0, tTup, tLst, tAug, tIf, tAnd, tOr, tNot, tAndV, tOrV, tNotV, tIsN, tNotN, tB, scal, tCall, cxK, cxKn, rIxT, rIxL, rIn, rAppend, rReverse, tVals, tDSetd, tDGet, tDGet1, tDGet2, tDIn, tDNotIn, rSortV, rSortT, rPop, rSortL, rSortT, tSl, tNoPart, tPart, List.append_nil, L2.start, List.map_cons, List.map_nil, List.length_cons, List.length_nil, List.replicate_succ, List.replicate_zero, List.cons_append, List.nil_append, Nat.reduceAdd, Nat.reduceSub, exists_eq, exists_eq', List.getElem?_cons_zero, List.getElem?_cons_succ, List.set_cons_zero, List.set_cons_succ, Option.some.injEq, V.int.injEq, V.bl.injEq, V.str.injEq, V.ref.injEq, List.cons.injEq, and_true, true_and, and_false, false_and, reduceCtorEq, exists_false, or_false, false_or, exists_and_left, exists_and_right, exists_eq_left, exists_eq_left', exists_eq_right, exists_eq_right', exists_const, ite_true, ite_false, Bool.false_eq_true, if_true, if_false, decide_true, decide_false]
        exact q _ o sm hd
theorem scGr : FnScope ["word", "at", "value"] ["word"] (defScope sGreat) := ⟨rfl, rfl, rfl, by decide +kernel, rfl, by decide +kernel, by decide +kernel⟩
theorem ok_great {f : Addr} {fd : FuncData} (F : Fun K "greatest_places" "greatest_places" sGreat f fd) (B : Bi mg) : FnOk P w K mg base CX0 1 f fd ["word"] (spGreat K) := by
  refine F.ok scGr (fun vs H Q E h => ?_) (fun cdv A outer s H vs Q E hr h => ?_)
  · obtain ⟨p, xs, rfl, _⟩ := h
    rfl
  · obtain ⟨p, xs, rfl, hw, hl, q⟩ := h
    rcases hw with hw | hw
    case' inl => refine ⟨_, (pss_one (ps_ret (pe_dc (own := [("at", 1), ("value", 2)]) (g := gTup K 2 (gCons (gName 1) (gCons (gName 2) gNil))) (tt := tYes) rfl scGr.nd (pi_enumT (by rfl) B.enumerate (pa_cons (pv 0) pa_nil)) (blkOk_by (N := ["word", "at", "value"]) (sc := defScope sGreat) (by decide +kernel)) (fun _ _ _ _ _ => (pg_tup rfl (pgs_cons (pg_name (i := 1) scGr.nd rfl (.inl rfl)) (pgs_cons (pg_name (i := 2) scGr.nd rfl (.inl rfl)) pgs_nil)))) (fun _ _ _ _ _ => pts_nil) (fun _ _ _ _ _ => (pv 2)) (fun _ _ _ _ _ => (pv 1))))), ?_⟩
    case' inr => refine ⟨_, (pss_one (ps_ret (pe_dc (own := [("at", 1), ("value", 2)]) (g := gTup K 2 (gCons (gName 1) (gCons (gName 2) gNil))) (tt := tYes) rfl scGr.nd (pi_enum (by rfl) B.enumerate (pa_cons (pv 0) pa_nil)) (blkOk_by (N := ["word", "at", "value"]) (sc := defScope sGreat) (by decide +kernel)) (fun _ _ _ _ _ => (pg_tup rfl (pgs_cons (pg_name (i := 1) scGr.nd rfl (.inl rfl)) (pgs_cons (pg_name (i := 2) scGr.nd rfl (.inl rfl)) pgs_nil)))) (fun _ _ _ _ _ => pts_nil) (fun _ _ _ _ _ => (pv 2)) (fun _ _ _ _ _ => (pv 1))))), ?_⟩
    case' inl =>
      refine ⟨.ref p, rfl, p, _, rfl, hw, fun o no => ?_⟩
      have so := same_upd (o := .dK []) no
      refine dc_it walk_enumT (fun i H' => Same H H' ∧ H' o = some (.dK (greatD xs i))) ⟨so, upd_same⟩ (fun i H' _ h => Same.tup h.1 hw) ?_ ?_
    case' inr =>
      refine ⟨.ref p, rfl, p, _, rfl, hw, fun o no => ?_⟩
      have so := same_upd (o := .dK []) no
      refine dc_it walk_enum (fun i H' => Same H H' ∧ H' o = some (.dK (greatD xs i))) ⟨so, upd_same⟩ (fun i H' _ h => h.1.seq hw) ?_ ?_
    all_goals
      first
      | rintro i x H3 H4 hi ⟨sm, hd⟩ ⟨t, x1, x2, rfl, nT, rfl, e1, e2⟩
        obtain rfl : V.int (i : Nat) = x1 := Option.some.inj e1
        obtain ⟨u, rfl, hu⟩ := int_at e2
        rw [List.length_map] at hi
        have smT : Same H3 (upd H3 t (.tup [.int (i : Nat), .int u])) := same_upd nT
        refine ⟨t, [.int (i : Nat), .int u], rfl, .inl (.inl upd_same), rfl, .int (i : Nat), [.int (i : Nat), .int u].tail, rfl, .int u, [], rfl, rfl, ?_⟩
        have hd4 := smT _ _ hd
        have sm4 := sm.trans smT
        generalize upd H3 t (.tup [.int (i : Nat), .int u]) = H4 at hd4 sm4 ⊢
        refine ⟨rfl, .int u, rfl, .int (i : Nat), rfl, _, .inl u, rfl, hd4, Nat.lt_of_le_of_lt (greatD_len xs i) (by rw [sizeLine_eq]; omega), fun b z e => ?_, ?_⟩
        · rw [upd_ne (ne_of_none e no)]
          exact sm4 _ _ e
        · rw [great_put hu]
          exact upd_same
      | rintro H3 ⟨sm, hd⟩
        rw [List.length_map] at hd
        exact q _ o sm hd
/-! ### keep, by the dicts -/
abbrev N3 : List Str := ["self", "word", "places"]
theorem scKH : FnScope ["self", "word", "places"] ["self", "word"] (defScope sKeepH) := ⟨rfl, rfl, rfl, by decide +kernel, rfl, by decide +kernel, by decide +kernel⟩
theorem ok_keepH {f : Addr} {fd : FuncData} (F : Fun K "keep" "HeadsKind.keep" sKeepH f fd) (B : Bi mg) (cLeast : CalX CX0 P w K mg base 1 "least_places" (spLeast K)) : FnOk P w K mg base CX0 2 f fd ["self", "word"] (spKeep K T .heads) := by
  refine F.ok scKH (fun vs H Q E h => ?_) (fun cdv A outer s H vs Q E hr h => ?_)
  · obtain ⟨x, p, xs, rfl, _⟩ := h
    rfl
  · obtain ⟨x, p, xs, rfl, hw, hl, ht, q⟩ := h
    refine ⟨_, (pss_cons (ps_set (i := 2) scKH.nd rfl (.inl rfl) (pe_cx cLeast hr (by decide) pass0 (by rfl) (pa_cons (pv 1) pa_nil)))
 (pss_one (ps_ret (pe_callB (cr_sortV rfl) (by rfl) B.sorted (by decide +kernel) (pa_cons (pe_vals (pv 2)) pa_nil))))), ?_⟩
    simp only [tSeq, tAsg, gName, tOp, rI, rI0, rU, tUn, tVar, tC, tCB, tCons, tNil, tTest, tIfS, tRet, tRetN, tDrop, tNext, tBreak, tCont, rEq, rNe, CDiv, CDivN, CMul, tBM, tBM0, tTup, tLst, tAug, tIf, tAnd, tOr, tNot, tAndV, tOrV, tNotV, tIsN, tNotN, tB, scal, tCall, cxK, cxKn, rIxT, rIxL, rIn, rAppend, rReverse, tVals, tDSetd, tDGet, tDGet1, tDGet2, tDIn, tDNotIn, rSortV, rSortT, rPop, rSortL, rSortT, tSl, tNoPart, tPart, List.append_nil, L2.start, List.map_cons, List.map_nil, List.length_cons, List.length_nil, List.replicate_succ, List.replicate_zero, List.cons_append, List.nil_append, Nat.reduceAdd, Nat.reduceSub, exists_eq, exists_eq', List.getElem?_cons_zero, List.getElem?_cons_succ, List.set_cons_zero, List.set_cons_succ, Option.some.injEq, V.int.injEq, V.bl.injEq, V.str.injEq, V.ref.injEq, List.cons.injEq, and_true, true_and, and_false, false_and, reduceCtorEq, exists_false, or_false, false_or, exists_and_left, exists_and_right, exists_eq_left, exists_eq_left', exists_eq_right, exists_eq_right', exists_const, ite_true, ite_false, Bool.false_eq_true, if_true, if_false, decide_true, decide_false]
    refine ⟨p, xs, rfl, hw, hl, fun H1 d s1 hd => ?_⟩
    simp only [tSeq, tAsg, gName, tOp, rI, rI0, rU, tUn, tVar, tC, tCB, tCons, tNil, tTest, tIfS, tRet, tRetN, tDrop, tNext, tBreak, tCont, rEq, rNe, CDiv, CDivN, CMul, tBM, tBM0, tTup, tLst, tAug, tIf, tAnd, tOr, tNot, tAndV, tOrV, tNotV, tIsN, tNotN, tB, scal, tCall, cxK, cxKn, rIxT, rIxL, rIn, rAppend, rReverse, tVals, tDSetd, tDGet, tDGet1, tDGet2, tDIn, tDNotIn, rSortV, rSortT, rPop, rSortL, rSortT, tSl, tNoPart, tPart, List.append_nil, L2.start, List.map_cons, List.map_nil, List.length_cons, List.length_nil, List.replicate_succ, List.replicate_zero, List.cons_append, List.nil_append, Nat.reduceAdd, Nat.reduceSub, exists_eq, exists_eq', List.getElem?_cons_zero, List.getElem?_cons_succ, List.set_cons_zero, List.set_cons_succ, Option.some.injEq, V.int.injEq, V.bl.injEq, V.str.injEq, V.ref.injEq, List.cons.injEq, and_true, true_and, and_false, false_and, reduceCtorEq, exists_false, or_false, false_or, exists_and_left, exists_and_right, exists_eq_left, exists_eq_left', exists_eq_right, exists_eq_right', exists_const, ite_true, ite_false, Bool.false_eq_true, if_true, if_false, decide_true, decide_false]
    refine ⟨⟨_, hd⟩, fun v hv => ⟨d, upd_same, leastD xs xs.length, by rw [upd_ne (ne_of_none hd hv)]; exact hd, (headsI xs).map fun x => ((xs.idxOf x : Nat) : Int), ?_, fun l hl' => ?_⟩⟩
    · unfold leastD
      rw [List.take_length, List.map_map, List.map_map]
      rfl
    · rw [sort_ixs, ← ixV_int]
      exact q _ l (Gw.upd (Gw.upd (.of ht s1) hv) hl') (Gw.nw (Gw.upd (.of ht s1) hv) hl') upd_same
theorem scKT : FnScope ["self", "word", "places"] ["self", "word"] (defScope sKeepT) := ⟨rfl, rfl, rfl, by decide +kernel, rfl, by decide +kernel, by decide +kernel⟩
theorem ok_keepT {f : Addr} {fd : FuncData} (F : Fun K "keep" "TailsKind.keep" sKeepT f fd) (B : Bi mg) (cGreat : CalX CX0 P w K mg base 1 "greatest_places" (spGreat K)) : FnOk P w K mg base CX0 2 f fd ["self", "word"] (spKeep K T .tails) := by
  refine F.ok scKT (fun vs H Q E h => ?_) (fun cdv A outer s H vs Q E hr h => ?_)
  · obtain ⟨x, p, xs, rfl, _⟩ := h
    rfl
  · obtain ⟨x, p, xs, rfl, hw, hl, ht, q⟩ := h
    refine ⟨_, (pss_cons (ps_set (i := 2) scKT.nd rfl (.inl rfl) (pe_cx cGreat hr (by decide) pass0 (by rfl) (pa_cons (pv 1) pa_nil)))
 (pss_one (ps_ret (pe_callB (cr_sortV rfl) (by rfl) B.sorted (by decide +kernel) (pa_cons (pe_vals (pv 2)) pa_nil))))), ?_⟩
    simp only [tSeq, tAsg, gName, tOp, rI, rI0, rU, tUn, tVar, tC, tCB, tCons, tNil, tTest, tIfS, tRet, tRetN, tDrop, tNext, tBreak, tCont, rEq, rNe, CDiv, CDivN, CMul, tBM, tBM0, tTup, tLst, tAug, tIf, tAnd, tOr, tNot, tAndV, tOrV, tNotV, tIsN, tNotN, tB, scal, tCall, cxK, cxKn, rIxT, rIxL, rIn, rAppend, rReverse, tVals, tDSetd, tDGet, tDGet1, tDGet2, tDIn, tDNotIn, rSortV, rSortT, rPop, rSortL, rSortT, tSl, tNoPart, tPart, List.append_nil, L2.start, List.map_cons, List.map_nil, List.length_cons, List.length_nil, List.replicate_succ, List.replicate_zero, List.cons_append, List.nil_append, Nat.reduceAdd, Nat.reduceSub, exists_eq, exists_eq', List.getElem?_cons_zero, List.getElem?_cons_succ, List.set_cons_zero, List.set_cons_succ, Option.some.injEq, V.int.injEq, V.bl.injEq, V.str.injEq, V.ref.injEq, List.cons.injEq, and_true, true_and, and_false, false_and, reduceCtorEq, exists_false, or_false, false_or, exists_and_left, exists_and_right, exists_eq_left, exists_eq_left', exists_eq_right, exists_eq_right', exists_const, ite_true, ite_false, Bool.false_eq_true, if_true, if_false, decide_true, decide_false]
    refine ⟨p, xs, rfl, hw, hl, fun H1 d s1 hd => ?_⟩
    simp only [tSeq, tAsg, gName, tOp, rI, rI0, rU, tUn, tVar, tC, tCB, tCons, tNil, tTest, tIfS, tRet, tRetN, tDrop, tNext, tBreak, tCont, rEq, rNe, CDiv, CDivN, CMul, tBM, tBM0, tTup, tLst, tAug, tIf, tAnd, tOr, tNot, tAndV, tOrV, tNotV, tIsN, tNotN, tB, scal, tCall, cxK, cxKn, rIxT, rIxL, rIn, rAppend, rReverse, tVals, tDSetd, tDGet, tDGet1, tDGet2, tDIn, tDNotIn, rSortV, rSortT, rPop, rSortL, rSortT, tSl, tNoPart, tPart, List.append_nil, L2.start, List.map_cons, List.map_nil, List.length_cons, List.length_nil, List.replicate_succ, List.replicate_zero, List.cons_append, List.nil_append, Nat.reduceAdd, Nat.reduceSub, exists_eq, exists_eq', List.getElem?_cons_zero, List.getElem?_cons_succ, List.set_cons_zero, List.set_cons_succ, Option.some.injEq, V.int.injEq, V.bl.injEq, V.str.injEq, V.ref.injEq, List.cons.injEq, and_true, true_and, and_false, false_and, reduceCtorEq, exists_false, or_false, false_or, exists_and_left, exists_and_right, exists_eq_left, exists_eq_left', exists_eq_right, exists_eq_right', exists_const, ite_true, ite_false, Bool.false_eq_true, if_true, if_false, decide_true, decide_false]
    refine ⟨⟨_, hd⟩, fun v hv => ⟨d, upd_same, greatD xs xs.length, by rw [upd_ne (ne_of_none hd hv)]; exact hd, (headsI xs).map fun x => ((lastIx xs x : Nat) : Int), ?_, fun l hl' => ?_⟩⟩
    · unfold greatD
      rw [List.take_length, List.map_map, List.map_map]
      rfl
    · rw [sort_last, ← ixV_int]
      exact q _ l (Gw.upd (Gw.upd (.of ht s1) hv) hl') (Gw.nw (Gw.upd (.of ht s1) hv) hl') upd_same
theorem scKS : FnScope ["self", "word", "places", "value"] ["self", "word"] (defScope sKeepS) := ⟨rfl, rfl, rfl, by decide +kernel, rfl, by decide +kernel, by decide +kernel⟩
theorem ok_keepS {f : Addr} {fd : FuncData} (F : Fun K "keep" "SetKind.keep" sKeepS f fd) (B : Bi mg) (cLeast : CalX CX0 P w K mg base 1 "least_places" (spLeast K)) : FnOk P w K mg base CX0 2 f fd ["self", "word"] (spKeep K T .set) := by
  refine F.ok scKS (fun vs H Q E h => ?_) (fun cdv A outer s H vs Q E hr h => ?_)
  · obtain ⟨x, p, xs, rfl, _⟩ := h
    rfl
  · obtain ⟨x, p, xs, rfl, hw, hl, ht, q⟩ := h
    refine ⟨_, (pss_cons (ps_set (i := 2) scKS.nd rfl (.inr rfl) (pe_cx cLeast hr (by decide) pass0 (by rfl) (pa_cons (pv 1) pa_nil)))
 (pss_one (ps_ret (pe_lc (own := [("value", 3)]) (g := gName 3) (tt := tYes) rfl scKS.nd (pi_list (pe_callB (call_sortedDI rfl) (by rfl) B.sorted (by decide +kernel) (pa_cons (pv 2) pa_nil))) (blkOk_by (N := ["self", "word", "places", "value"]) (sc := defScope sKeepS) (by decide +kernel)) (fun _ _ _ _ _ => (pg_name (i := 3) scKS.nd rfl (.inl rfl))) (fun _ _ _ _ _ => pts_nil) (fun _ _ _ _ _ => (pe_dget (hu_of hr) (pv 2) (pv 3) (fun _ _ => rfl))))))), ?_⟩
    simp only [tSeq, tAsg, gName, tOp, rI, rI0, rU, tUn, tVar, tC, tCB, tCons, tNil, tTest, tIfS, tRet, tRetN, tDrop, tNext, tBreak, tCont, rEq, rNe, CDiv, CDivN, CMul, tBM, tBM0, tTup, tLst, tAug, tIf, tAnd, tOr, tNot, tAndV, tOrV, tNotV, tIsN, tNotN, tB, scal, tCall, cxK, cxKn, rIxT, rIxL, rIn, rAppend, rReverse, tVals, tDSetd, tDGet, tDGet1, tDGet2, tDIn, tDNotIn, rSortV, rSortT, rPop, rSortL, rSortT, tSl, tNoPart, tPart, List.append_nil, L2.start, List.map_cons, List.map_nil, List.length_cons, List.length_nil, List.replicate_succ, List.replicate_zero, List.cons_append, List.nil_append, Nat.reduceAdd, Nat.reduceSub, exists_eq, exists_eq', List.getElem?_cons_zero, List.getElem?_cons_succ, List.set_cons_zero, List.set_cons_succ, Option.some.injEq, V.int.injEq, V.bl.injEq, V.str.injEq, V.ref.injEq, List.cons.injEq, and_true, true_and, and_false, false_and, reduceCtorEq, exists_false, or_false, false_or, exists_and_left, exists_and_right, exists_eq_left, exists_eq_left', exists_eq_right, exists_eq_right', exists_const, ite_true, ite_false, Bool.false_eq_true, if_true, if_false, decide_true, decide_false]
    refine ⟨p, xs, rfl, hw, hl, fun H1 d s1 hd => ?_⟩
    simp only [tSeq, tAsg, gName, tOp, rI, rI0, rU, tUn, tVar, tC, tCB, tCons, tNil, tTest, tIfS, tRet, tRetN, tDrop, tNext, tBreak, tCont, rEq, rNe, CDiv, CDivN, CMul, tBM, tBM0, tTup, tLst, tAug, tIf, tAnd, tOr, tNot, tAndV, tOrV, tNotV, tIsN, tNotN, tB, scal, tCall, cxK, cxKn, rIxT, rIxL, rIn, rAppend, rReverse, tVals, tDSetd, tDGet, tDGet1, tDGet2, tDIn, tDNotIn, rSortV, rSortT, rPop, rSortL, rSortT, tSl, tNoPart, tPart, List.append_nil, L2.start, List.map_cons, List.map_nil, List.length_cons, List.length_nil, List.replicate_succ, List.replicate_zero, List.cons_append, List.nil_append, Nat.reduceAdd, Nat.reduceSub, exists_eq, exists_eq', List.getElem?_cons_zero, List.getElem?_cons_succ, List.set_cons_zero, List.set_cons_succ, Option.some.injEq, V.int.injEq, V.bl.injEq, V.str.injEq, V.ref.injEq, List.cons.injEq, and_true, true_and, and_false, false_and, reduceCtorEq, exists_false, or_false, false_or, exists_and_left, exists_and_right, exists_eq_left, exists_eq_left', exists_eq_right, exists_eq_right', exists_const, ite_true, ite_false, Bool.false_eq_true, if_true, if_false, decide_true, decide_false]
    have hks : (leastD xs xs.length).map (fun x => x.fst) = (headsI xs).map Sum.inl := by
      unfold leastD
      rw [List.take_length, List.map_map]
      rfl
    have hz : (headsI xs).length < 64 := Nat.lt_of_le_of_lt (headsI_len _) (by omega)
    refine ⟨.ref d, rfl, d, rfl, _, .inl hd, headsI xs, hks, hz, fun ys r hp hs hr' => ⟨r, rfl, ⟨_, SqL.of upd_same⟩, fun D hD => ?_⟩⟩
    rw [sort_is hp hs] at hD ⊢
    have nrD : r ≠ D := ne_of_none upd_same hD
    have hd2 : upd H1 r (.lst ((sortI (headsI xs)).map V.int)) d = some (.dK (leastD xs xs.length)) := by
      rw [upd_ne (ne_of_none hd hr')]
      exact hd
    have hg2 : Gw T H (upd H1 r (.lst ((sortI (headsI xs)).map V.int))) := Gw.upd (.of ht s1) hr'
    have hr2 : upd H1 r (.lst ((sortI (headsI xs)).map V.int)) r = some (.lst ((sortI (headsI xs)).map V.int)) := upd_same
    generalize upd H1 r (.lst ((sortI (headsI xs)).map V.int)) = H2 at hD hd2 hg2 hr2 ⊢
    refine lc_list (xs := (sortI (headsI xs)).map V.int) (fun i H' => ∃ acc, H' = upd H2 D (.lst acc) ∧ acc = ixV ((keepIx .set xs).take i)) ⟨_, rfl, rfl⟩ (fun i H' _ ⟨acc, e, _⟩ => by rw [e]; exact SqL.of (by rw [upd_ne nrD]; exact hr2)) ?_ ?_
    · rintro i y H' hy ⟨acc, rfl, rfl⟩
      obtain ⟨u, rfl, hu⟩ := int_at hy
      have hux : u ∈ xs := (mem_headsI xs).mp (mem_sort.mp (List.mem_of_getElem? hu))
      have hik : (keepIx .set xs)[i]? = some (xs.idxOf u) := by
        show ((sortI (headsI xs)).map xs.idxOf)[i]? = _
        rw [List.getElem?_map, hu]
        rfl
      refine ⟨rfl, .ref d, rfl, .int u, rfl, d, .int ((xs.idxOf u : Nat) : Int), rfl, ?_, ixV ((keepIx .set xs).take i), upd_same, ?_, ?_⟩
      · have := DGet.k (H := upd H2 D (.lst (ixV ((keepIx .set xs).take i)))) (k := .inl u) (by rw [upd_ne (ne_of_none hd2 hD)]; exact hd2)
        unfold leastD at this
        rw [List.take_length, val_map, if_pos ((mem_headsI xs).mpr hux)] at this
        exact this
      · unfold ixV
        rw [List.length_map, List.length_take, sizeLine_eq]
        have h1 : (keepIx .set xs).length ≤ 60 := by
          show ((sortI (headsI xs)).map xs.idxOf).length ≤ 60
          rw [List.length_map, (sort_perm _).length_eq]
          exact Nat.le_trans (headsI_len _) hl
        omega
      · refine ⟨_, upd_upd, ?_⟩
        rw [List.take_add_one, hik]
        unfold ixV
        rw [List.map_append]
        rfl
    · rintro H' ⟨acc, rfl, rfl⟩
      refine q _ D (Gw.upd hg2 hD) (Gw.nw hg2 hD) ?_
      rw [upd_same, List.take_of_length_le]
      rw [List.length_map]
      show ((sortI (headsI xs)).map xs.idxOf).length ≤ _
      rw [List.length_map]
      exact Nat.le_refl _
end
end Mv

set_option Elab.async false
set_option linter.all false
set_option maxRecDepth 100000
set_option maxHeartbeats 4000000
namespace Mv
open PySem PySem.Spec PyProof.Rows L2
/-- an object of the kind's class -/
def KObj (cls : Kd → Addr) (H : Hp) (o : Addr) (k : Kd) : Prop := ∃ dx, H o = some (.ins (cls k) dx [])
theorem KObj.ext {cls : Kd → Addr} {H H1 : Hp} {o : Addr} {k : Kd} (h : KObj cls H o k) (e : LamX.ExtN H H1) : KObj cls H1 o k := by
  obtain ⟨dx, h⟩ := h
  exact ⟨dx, e _ _ h fun ps z => by cases z⟩
def spPlainM (K : PySem.W.Frag) (cls : Kd → Addr) (T : List (Addr × Str)) (k : Kd) : Sp := fun vs H Q _ => ∃ (o p : Addr) (xs : List Int), vs = [.ref o, .ref p] ∧ KObj cls H o k ∧ WordS K H p xs ∧ xs.length ≤ 60 ∧ LamX.Tabs T H ∧ ∀ (H' : Hp) (t : Addr), Gw T H H' → H' t = some (.tup ((plainI k xs).map V.int)) → Q (.ref t) H'
theorem ext_tup {K : PySem.W.Frag} {H H1 : Hp} {p : Addr} {xs : List V} (h : SqT K H p xs) (e : LamX.ExtN H H1) : SqT K H1 p xs := by
  rcases h with (h | ⟨o, h⟩) | h
  · exact .inl (.inl (e _ _ h (fun ps z => by cases z)))
  · exact .inl (.inr ⟨o, e _ _ h (fun ps z => by cases z)⟩)
  · exact .inr h
theorem ext_lst {K : PySem.W.Frag} {H H1 : Hp} {p : Addr} {xs : List V} (h : SqL K H p xs) (e : LamX.ExtN H H1) : SqL K H1 p xs := by
  rcases h with (h | ⟨o, h⟩) | h
  · exact .inl (.inl (e _ _ h (fun ps z => by cases z)))
  · exact .inl (.inr ⟨o, e _ _ h (fun ps z => by cases z)⟩)
  · exact .inr h
/-- what the comprehension of plain has behind i turns -/
def PmI (H1 : Hp) (D : Addr) (k : Kd) (xs : List Int) (i : Nat) (H' : Hp) : Prop := H' = upd H1 D (.lst (((keepIx k xs).take i).map fun i => V.int (xs.getD i 0)))
section
variable {P : Program} {w : World} {K : PySem.W.Frag} {mg : Str → Option Value} {base : Heap} {T : List (Addr × Str)} {cls : Kd → Addr}
theorem scPM : FnScope ["self", "word", "at"] ["self", "word"] (defScope sPlainM) := ⟨rfl, rfl, rfl, by decide +kernel, rfl, by decide +kernel, by decide +kernel⟩
theorem ok_plainM {f : Addr} {fd : FuncData} (F : Fun K "plain" "Kind.plain" sPlainM f fd) (B : Bi mg) (k : Kd) (cKeep : MetX CX0 P w K mg base 2 (cls k) "keep" (spKeep K T k)) : FnOk P w K mg base CX0 3 f fd ["self", "word"] (spPlainM K cls T k) := by
  refine F.ok scPM (fun vs H Q E h => ?_) (fun cdv A outer s H vs Q E hr h => ?_)
  · obtain ⟨o, p, xs, rfl, _⟩ := h
    rfl
  · obtain ⟨o, p, xs, rfl, ⟨dx, ho⟩, hw, hl, ht, q⟩ := h
    have hkl : (keepIx k xs).length ≤ 120 := by
      have := plain_len k xs
      rw [keep_len]
      omega
    rcases hw with hw | hw
    case' inl => refine ⟨_, (pss_one (ps_ret (pe_callTy call_tuple_of (by rfl) B.tuple (by decide +kernel) (pa_cons (pe_lc (own := [("at", 2)]) (g := gName 2) (tt := tYes) (te := (tOp (rIxT K) (tVar 1) (tVar 2))) rfl scPM.nd (pi_list (pe_mx cKeep hr (by decide) pass0 (pv 0) (pa_cons (pv 1) pa_nil))) (blkOk_by (N := ["self", "word", "at"]) (sc := defScope sPlainM) (by decide +kernel)) (fun _ _ _ _ _ => (pg_name (i := 2) scPM.nd rfl (.inl rfl))) (fun _ _ _ _ _ => pts_nil) (fun _ _ _ _ _ => (pe_ix ix_tup (pv 1) (pv 2) (fun _ _ => rfl)))) pa_nil)))), ?_⟩
    case' inr => refine ⟨_, (pss_one (ps_ret (pe_callTy call_tuple_of (by rfl) B.tuple (by decide +kernel) (pa_cons (pe_lc (own := [("at", 2)]) (g := gName 2) (tt := tYes) (te := (tOp (rIxL K) (tVar 1) (tVar 2))) rfl scPM.nd (pi_list (pe_mx cKeep hr (by decide) pass0 (pv 0) (pa_cons (pv 1) pa_nil))) (blkOk_by (N := ["self", "word", "at"]) (sc := defScope sPlainM) (by decide +kernel)) (fun _ _ _ _ _ => (pg_name (i := 2) scPM.nd rfl (.inl rfl))) (fun _ _ _ _ _ => pts_nil) (fun _ _ _ _ _ => (pe_ix ix_list (pv 1) (pv 2) (fun _ _ => rfl)))) pa_nil)))), ?_⟩
    case' inl => have hwE := fun (H2 : Hp) (e : LamX.ExtN H H2) => ext_tup hw e
    case' inr => have hwE := fun (H2 : Hp) (e : LamX.ExtN H H2) => ext_lst hw e
    case' inl => refine ⟨.ref o, rfl, o, dx, [], rfl, ho, rfl, .ref p, rfl, .ref o, p, xs, rfl, .inl hw, hl, ht, fun H1 l g1 _ h1 => ⟨l, rfl, ⟨_, SqL.of h1⟩, fun D hD => ?_⟩⟩
    case' inr => refine ⟨.ref o, rfl, o, dx, [], rfl, ho, rfl, .ref p, rfl, .ref o, p, xs, rfl, .inr hw, hl, ht, fun H1 l g1 _ h1 => ⟨l, rfl, ⟨_, SqL.of h1⟩, fun D hD => ?_⟩⟩
    all_goals
      have nlD : l ≠ D := ne_of_none h1 hD
      refine lc_list (xs := ixV (keepIx k xs)) (PmI H1 D k xs) rfl (fun i H' _ e => by rw [show H' = _ from e]; exact SqL.of (by rw [upd_ne nlD]; exact h1)) ?_ ?_
    all_goals
      first
      | rintro i y H' hy rfl
        obtain ⟨n, hn, rfl⟩ : ∃ n : Nat, (keepIx k xs)[i]? = some n ∧ y = .int (n : Int) := by
          unfold ixV at hy
          rw [List.getElem?_map] at hy
          cases e : (keepIx k xs)[i]? with
          | none =>
            rw [e] at hy
            cases hy
          | some n =>
            rw [e] at hy
            exact ⟨n, rfl, (Option.some.inj hy).symm⟩
        have hnl := keep_lt (List.mem_of_getElem? hn)
        refine ⟨rfl, .ref p, rfl, .int (n : Int), rfl, p, xs.map V.int, (n : Int), .int (xs.getD n 0), rfl, rfl, hwE _ (g1.1.trans (ext_upd hD)), atI_nat (by rw [List.getElem?_map, List.getElem?_eq_getElem hnl, getD_at hnl]; rfl), _, upd_same, ?_, ?_⟩
        · rw [List.length_map, List.length_take, sizeLine_eq]
          omega
        · show upd (upd H1 D _) D _ = _
          rw [upd_upd, List.take_add_one, hn, List.map_append]
          rfl
      | rintro H' rfl
        refine ⟨D, _, rfl, .inl ⟨SqL.of upd_same, fun t ht' => ?_⟩⟩
        refine q _ t (Gw.upd (Gw.upd g1 hD) ht') ?_
        rw [upd_same, List.take_of_length_le (by unfold ixV; rw [List.length_map]; exact Nat.le_refl _), ← keep_vals, List.map_map]
        rfl
end
end Mv

set_option Elab.async false
set_option linter.all false
set_option maxRecDepth 100000
set_option maxHeartbeats 4000000
namespace Mv
open PySem PySem.Spec PyProof.Rows L2
/-! ### {name!r} -/
theorem fmt_cost1 : fmtCost [("list" : Str)] + 7 ≤ 100 := by decide +kernel
def tFmtB (K : PySem.W.Frag) (te : TE) : TE := fun σ H Q => te σ H fun x H1 => BadV H1 x ∧ ∀ m : Str, m.length ≤ 2000 → Q (.str m) H1
theorem pe_fmtB {X : Cx} {k : Nat} {e : Expr} {te : TE} {pos : Pos} (hr : Room k X.A) (he : PE X e te) : PE X (.FormattedValue e 114 none pos) (tFmtB X.K te) := by
  refine ⟨fun pins s σ H Q I h => ?_⟩
  refine wpAny_FormattedValue_repr (thn (he.run pins s σ H _ I h) fun v s1 hv => ?_)
  obtain ⟨x, H1, I1, r1, b, q⟩ := hv
  have fin : ∀ (m : Str) (u : Tok) (s2 : Shared), m.length ≤ 2000 → Inv X pins σ H1 s2 → wpAny (model X.prog X.w) X.A (formatField (.str m u) Str.empty) (EP X pins σ Q) X.xe s2 := fun m u s2 hm I2 =>
    wpAny_formatField_str ⟨.str m, H1, I2, ⟨_, rfl⟩, q m hm⟩ ⟨.str m, H1, I2.tok _, ⟨_, rfl⟩, q m hm⟩ (by rw [sizeLine_eq]; omega)
  cases b with
  | str z h hl hc =>
    obtain ⟨t, rfl⟩ := r1
    have h1 := StrLaws.reprText_len z fun c h => Nat.lt_trans (hc c h) (by decide)
    exact pyReprObj_str (fin _ _ _ (by omega) (I1.tok _)) (by rw [sizeLine_eq]; omega)
  | non =>
    obtain rfl : v = Value.none := r1
    exact pyReprObj_none (fin _ _ _ (by decide +kernel) (I1.tok _))
  | int i h =>
    obtain ⟨t, rfl⟩ := r1
    rcases h with rfl | rfl | rfl | rfl <;> exact pyReprObj_int (by decide +kernel) (fin _ _ _ (by decide +kernel) (I1.tok _))
end Mv

set_option Elab.async false
set_option linter.all false
set_option maxRecDepth 100000
set_option maxHeartbeats 4000000
namespace Mv
open PySem PySem.Spec PyProof.Rows L2
abbrev iEnv (q : Str) (sc : Scope) (L f c cc : Addr) : Env := PySem.W.ksEnv q sc L f (.ref c) cc
/-- the context of an __init__ that says super(): one cell, of the class -/
def cxF (CX : CXT) (P : Program) (w : World) (K : PySem.W.Frag) (mg : Str → Option Value) (base : Heap) (N : List Str) (q : Str) (sc : Scope) (f c cc : Addr) (A : Around) (outer : List Env) (s : Shared) (H : Hp) (E : XK) : Cx where
  prog := P
  w := w
  K := K
  mg := mg
  base := base
  A := A.deeper (iEnv q sc s.heap.objs.size f c cc)
  N := N
  s_0 := s
  H_0 := H
  env := iEnv q sc s.heap.objs.size f c cc
  outer := outer
  stack := iEnv q sc s.heap.objs.size f c cc :: outer
  ex := []
  fn := fun _ => false
  calm := true
  pn := []
  xe := fun e s' => wpAny (model P w) (A.deeper (iEnv q sc s.heap.objs.size f c cc)) (leaving (iEnv q sc s.heap.objs.size f c cc) e) (fun _ s'' => CX outer H s E e s'') (fun e' s'' => CX outer H s E e' s'') s'
/-- what the scope of such an __init__ says -/
structure ScI (sc : Scope) (n1 n2 : Str) : Prop where
  kind : sc.kind = .function
  co : sc.isCoroutine = false
  gen : sc.isGenerator = false
  l1 : sc.names.lookup n1 = some .local
  l2 : sc.names.lookup n2 = some .local
  ne : ¬ n1 = n2
  cell : ∀ y ∈ sc.names, y.2 ≠ .cell
  free : ∀ y ∈ sc.names, y.2 = .free → y.1 = "__class__"
  cls : sc.names.lookup ("__class__" : Str) = some .free
  sup : sc.names.lookup ("super" : Str) = some .globalImplicit
section
variable {CX : CXT} {P : Program} {w : World} {K : PySem.W.Frag} {mg : Str → Option Value} {base : Heap} {q : Str} {sc : Scope} {f c cc : Addr} {A : Around} {outer : List Env} {s : Shared} {H : Hp} {E : XK} {n1 n2 : Str} {h₁ : Heap} {tk : Nat}
theorem inv_startF {v1 v2 : V} {u1 u2 : Value} (S : ScI sc n1 n2) (hd : A.handled = none) (e0 : Env0 P w K mg base A outer s H) (r1 : RelV v1 u1) (r2 : RelV v2 u2) {oc : Obj} {D : Value} (hcc : base.get? cc = some oc) (hoc : oc.data = .cell (some D))
    (hns : h₁.Ns s.heap.objs.size fun y => [(n1, u1), (n2, u2)].reverse.lookup y) (kp : ∀ b o, s.heap.get? b = some o → h₁.get? b = some o) :
    Inv (cxF CX P w K mg base [n1, n2] q sc f c cc A outer s H E) [] [some v1, some v2] H { s with heap := h₁, toks := tk } := by
  have noA : ∀ b : Addr, b ∉ (cxF CX P w K mg base [n1, n2] q sc f c cc A outer s H E).ex := fun b z => absurd (show b ∈ ([] : List Addr) from z) (by simp)
  have onecell : ∀ {y b}, (cxF CX P w K mg base [n1, n2] q sc f c cc A outer s H E).env.cells.lookup y = some b → y = "__class__" ∧ b = cc := fun {y b} z => by
    have z : List.lookup y [(("__class__" : Str), cc)] = some b := z
    unfold List.lookup at z
    split at z
    · rename_i h
      exact ⟨eq_of_beq h, (Option.some.inj z).symm⟩
    · cases z
  have ccS := e0.bs cc oc hcc
  refine ⟨⟨e0.mod, S.kind, rfl, rfl, Nat.le_refl _, fun y z b h1 h2 => (onecell h1).1.trans (onecell h2).1.symm, fun y hy => ?_, fun y b h => absurd (show false = true from h) Bool.false_ne_true, fun _ => hd, Around.frames_deeper e0.frames, .inr ⟨rfl, rfl⟩, fun b z => absurd z (noA b), e0.bs, e0.bsz, fun b _ _ => noA b, fun b z => absurd z (noA b), e0.funs, e0.frf⟩,
    rfl, e0.bare, Un.kept kp, ⟨_, hns, fun i y v h1 h2 h3 => ?_⟩, fun y b h => ?_, e0.hok.fresh (Nat.le_refl _), fun y b h => ?_, fun p hp => absurd (show p ∈ ([] : List (Addr × Obj)) from hp) (by simp), e0.hok.kept kp, rfl⟩
  · have hy : sc.names.lookup y = some .cell ∨ sc.names.lookup y = some .free := hy
    rcases hy with hy | hy
    · exact absurd rfl (S.cell _ (PySem.mem_of_lookup hy))
    · have e := S.free _ (PySem.mem_of_lookup hy) rfl
      have e : y = "__class__" := e
      subst e
      exact ⟨cc, rfl⟩
  · have hm1 : List.lookup n1 [(n1, u1), (n2, u2)].reverse = some u1 := by
      show List.lookup n1 [(n2, u2), (n1, u1)] = some u1
      simp [List.lookup, beq_eq_false_iff_ne.mpr S.ne]
    have hm2 : List.lookup n2 [(n1, u1), (n2, u2)].reverse = some u2 := by
      show List.lookup n2 [(n2, u2), (n1, u1)] = some u2
      simp [List.lookup]
    match i, h1, h2 with
    | 0, h1, h2 =>
      cases h1
      cases h2
      exact ⟨u1, r1, .inl ⟨S.l1, hm1⟩⟩
    | 1, h1, h2 =>
      cases h1
      cases h2
      exact ⟨u2, r2, .inl ⟨S.l2, hm2⟩⟩
    | i + 2, h1, h2 => cases h1
  · rw [(onecell h).2]
    exact ⟨_, oc, kp _ _ ccS.1, hoc⟩
  · rw [(onecell h).2]
    exact ccS.2
end
/-! ### ValueError.__init__, bound to an exception that is being made -/
section
variable {X : Cx} {pins : List (Addr × Obj)} {σ : L2.St} {H : Hp} {s : Shared} {A : Around} {E : Value → Shared → Prop}
theorem bound_init {a C u : Addr} {us : List Value} {Q : Value → Shared → Prop} (T : OexC X.K C) (I : Inv X pins σ H s) (e : H a = some (exo a C none)) (hu : s.heap.get? u = some (PySem.W.kxs_mw "ValueError.__init__" a)) (hl : us.length ≤ sizeLine) (h : ∀ s', Inv X pins σ H s' → Q .none s') :
    wpAny (model X.prog X.w) A (call (.ref u) us) Q E s := by
  obtain ⟨nm, q, N, bs, bm, sn, sub, ab, col, dd, k0, k1, k2, k3, k5, hC, hbm⟩ := T.cls
  obtain ⟨t1, ho⟩ := exo_at I.hok e
  have hC' := I.kIn _ _ hC
  have fin : ∀ h' t2, (∀ b o, b ≠ a → s.heap.get? b = some o → h'.get? b = some o) → h'.get? a = some (HandSPX.excO C t2) → Q .none { s with heap := h' } := fun h' t2 k hx => by
    have J := I.write (t' := s.toks) (x := a) (e := a) (o := exo a C none) (by rw [e]; exact True.intro) (.inl rfl) k ⟨_, hx⟩ (exo_ok hx)
    have eu : upd H a (exo a C none) = H := by
      funext b
      by_cases hb : b = a
      · rw [hb, upd_same, e]
      · rw [upd_ne hb]
    rw [eu] at J
    exact h _ J
  clear h I
  obtain ⟨hp, g, d, t, os⟩ := s
  refine wpAny_call (codeAny_of_tree ?_)
  show wpAny _ A.in1 (callAny (.ref u) ⟨us, []⟩) _ _ _
  simp only [callAny]
  refine wpAny_bind (wpAny_load hu ?_)
  simp only [PySem.W.kxs_mw, show (Value.type "method-wrapper" == Value.type "method" || Value.type "method-wrapper" == Value.type "builtin_function_or_method" || Value.type "method-wrapper" == Value.type "method-wrapper") = true by decide, if_true]
  refine W.KFB.if_so (by decide) ?_
  refine wpAny_bind (ESX.check_bound F.excBase_ValueError hC' ho rfl ?_)
  refine wpAny_bind (wpAny_pure (wpAny_pure ?_))
  refine ⟨Code.quiet_builtin _ (by decide +kernel), codeAny_builtin F.excBase_ValueError.initEntry ?_⟩
  rw [Around.under_plainId F.excBase_ValueError.init.plain _]
  wp_walk
  refine fin _ hp.objs.size (fun b o hb hbo => ?_) ?_
  · rw [Heap.get?_update_other _ _ (Ne.symm hb)]
    exact Heap.get?_push_of_some _ hbo
  · rw [Heap.get?_update_self _ (Heap.get?_push_of_some _ ho) rfl]
    rfl
theorem callWith_mw {M : Model} {A : Around} {E : Value → Shared → Prop} {s : Shared} {i : String} {u x : Addr} {pos : Pos} {env : Env} {e : Expr} {Q : Value → Shared → Prop}
    (h : wpAny M A (spliced (backTo pos (starEach (e :: []) env))) (fun vs s₁ => PySem.W.KxsAt i u x s₁.heap ∧ wpAny M A (call (.ref u) vs) Q E s₁) E s)
    (he : starEach (e :: []) env = (false, eval e env) :: starEach [] env := by rfl) :
    wpAny M A (callWith pos (.ref u) [] (backTo pos (starEach (e :: []) env)) []) Q E s := by
  rw [he] at h ⊢
  refine PySem.W.kxs_callWith (i := i) (x := x) rfl ?_
  exact Calls.evalArgs_plain h
/-- what the written part says of an own exception class whose __init__ says super(), and of that __init__ -/
structure SupK (P : Program) (K : PySem.W.Frag) (f c cc C : Addr) : Prop where
  oex : OexC K C
  code : ∃ (ccl : Value) (cdd : Option Addr) (vs : Array Value) (ccs : Array (Option Value)) (file : Str) (tf : Tok), K.lookup c = some ⟨ccl, cdd, .fields vs, ccs⟩ ∧ vs[2]? = some (.str file tf) ∧ ((P.main.file : Str) == file) = true
  cell : ∃ (cl : Value) (cld : Option Addr) (csl : Array (Option Value)), K.lookup cc = some ⟨cl, cld, .cell (some (.ref C)), csl⟩
  top : (P.main.scope.names.lookup ("super" : Str)).isSome = false
  self : PySem.W.mroIn K C (.ref C) = some true
  ve : PySem.W.mroIn K C (.type "ValueError") = some true
  opq : PySem.W.nsIn K cStatics "thirdparty.any" = some none
  sup : PySem.W.ks_superIn K C C "__init__" = some (some (.builtin "ValueError.__init__"))
  cls : ∃ cd, PySem.W.clsIn K C = some cd
def spIniB (K : PySem.W.Frag) (C : Addr) (n2 : Str) : Sp := fun vs H Q _ => ∃ (a : Addr) (v : V), vs = [.ref a, v] ∧ H a = some (exo a C none) ∧ BadV H v ∧ ∀ dx, H dx = none → dx ≠ a → Q .non (upd (upd H dx (exd dx [(n2, v)])) a (exo a C (some dx)))
/-- def __init__(self, n2): super().__init__(f'..{n2!r}'); self.n2 = n2 -/
theorem ok_iniB {P : Program} {w : World} {K : PySem.W.Frag} {mg : Str → Option Value} {base : Heap} {f c cc C : Addr} {qual n2 : Str} {params : Arguments} {sc : Scope} {kV doc pm ct oc : Value} {an od : Option Addr} {osl : Array (Option Value)} {head : Str}
    {p0 p1 p2 p3 p4 p5 p6 p7 p8 p9 p10 p11 p12 : Pos} {k4 : Nat} {ar : Arg} {kn : Nat} {pl : Env → Sem Bool}
    (hcall : ∀ env : Env, eval (.Call (.Attribute (.Call (.Name "super" p0) [] [] p1) "__init__" p2) [.JoinedStr [.Constant (.str head) k4 p3, .FormattedValue (.Name n2 p4) 114 none p5] p6] [] p7) env = (do
      let ov ← attributeBase (.Call (.Name "super" p0) [] [] p1) "__init__" env (eval (.Call (.Name "super" p0) [] [] p1) env)
      standAt p2.atName
      let (f, first) ← holding [ov] (getMethod ov "__init__" (pl env))
      callWith p7 f first (backTo p7 (starEach [.JoinedStr [.Constant (.str head) k4 p3, .FormattedValue (.Name n2 p4) 114 none p5] p6] env)) []))
    (hswap : ∀ env : Env, swapsWith (.Name n2 p11) (some (.Attribute (.Name "self" p9) n2 p10)) p12.line env = pure false)
    (lk : K.lookup f = some ⟨oc, od, .func (PySem.W.ksFn "__init__" qual params [.Expr (.Call (.Attribute (.Call (.Name "super" p0) [] [] p1) "__init__" p2) [.JoinedStr [.Constant (.str head) k4 p3, .FormattedValue (.Name n2 p4) 114 none p5] p6] [] p7) p8, .Assign [.Attribute (.Name "self" p9) n2 p10] (.Name n2 p11) p12] sc .none kV doc pm an (.ref c) ct cc), osl⟩)
    (hcd : PySem.W.codeIn K (.ref c) qual = true) (S : ScI sc "self" n2) (U : SupK P K f c cc C) (hsup : mg "super" = none) (hno : PySem.W.findIn K (.ref C) n2 = some none) (hh : head.length ≤ 1000)
    (hp : (params.posonlyargs ++ params.args).head? = some ar) (har : ar.arg = "self") (d2 : (n2 == ("__debug__" : Str)) = false) (c2 : (n2 == ("__classdict__" : Str)) = false) :
    FnOk P w K mg base CX0 (kn + 1) f (PySem.W.ksFn "__init__" qual params [.Expr (.Call (.Attribute (.Call (.Name "super" p0) [] [] p1) "__init__" p2) [.JoinedStr [.Constant (.str head) k4 p3, .FormattedValue (.Name n2 p4) 114 none p5] p6] [] p7) p8, .Assign [.Attribute (.Name "self" p9) n2 p10] (.Name n2 p11) p12] sc .none kV doc pm an (.ref c) ct cc) ["self", n2] (spIniB K C n2) := by
  refine ⟨fun vs H Q E h => ?_, fun A outer s H args us vs Q E hr e0 hb r hsp => ?_⟩
  · obtain ⟨a, v, rfl, _⟩ := h
    rfl
  obtain ⟨a, v, rfl, ha, hv, q⟩ := hsp
  obtain ⟨u1, u2, rfl, r1, r2⟩ := vals2 r
  obtain rfl : u1 = Value.ref a := r1
  have KX : K.In s.heap := e0.mod.kin.keeps fun b o e => (e0.bs b o e).1
  have lim : s.heap.NoLimit := e0.mod.nolimit.keeps fun b o e => (e0.bs b o e).1
  obtain ⟨ccl, cdd, vsC, ccs, file, tf, kc, hvs, hfile⟩ := U.code
  obtain ⟨cl0, cld, csl, kcc⟩ := U.cell
  obtain ⟨cdD, hcdD⟩ := U.cls
  refine ks_codeAny_call_defAt hr.depth (KX _ _ lk) rfl lim (PySem.W.codeRec_of KX hcd) rfl (binds := [("self", .ref a), (n2, u2)]) hb S.cell (fun x hx => ?_) (fun h₀ hns kp => ?_) S.co S.gen S.kind
  · rcases List.mem_cons.mp hx with rfl | hx
    · exact S.l1
    · rw [List.mem_singleton.mp hx]
      exact S.l2
  have I : Inv (cxF CX0 P w K mg base ["self", n2] qual sc f c cc A outer s H E) [] [some (.ref a), some v] H { s with heap := h₀, toks := s.toks + 2 } := inv_startF S hr.hd e0 rfl r2 (e0.mod.kin _ _ kcc) rfl hns kp
  generalize hs0 : ({ s with heap := h₀, toks := s.toks + 2 } : Shared) = s0 at I
  have hns0 : s0.heap.Ns s.heap.objs.size fun y => [(("self" : Str), Value.ref a), (n2, u2)].reverse.lookup y := by
    rw [← hs0]
    exact hns
  show _root_.PySem.wpAt _ (A.deeper (iEnv qual sc s.heap.objs.size f c cc)) (.func _ (iEnv qual sc s.heap.objs.size f c cc)) (execs _ (iEnv qual sc s.heap.objs.size f c cc)) _ _ s0
  have K0 : K.In s0.heap := I.kIn
  obtain ⟨t1, hoa⟩ := exo_at I.hok ha
  obtain ⟨oD, hD1, hD2⟩ : ∃ oD, s0.heap.get? C = some oD ∧ oD.data = .cls cdD := by
    unfold PySem.W.clsIn at hcdD
    split at hcdD
    · rename_i c0 d0 cd' sl0 ho0
      cases hcdD
      exact ⟨_, K0 _ _ ho0, rfl⟩
    · cases hcdD
  have hxC : a ≠ C := fun z => by
    rw [z, hD1] at hoa
    have z2 := Option.some.inj hoa
    rw [z2] at hD2
    cases hD2
  have hmself : List.lookup ("self" : Str) [(("self" : Str), Value.ref a), (n2, u2)].reverse = some (.ref a) := by
    show List.lookup ("self" : Str) [(n2, u2), (("self" : Str), Value.ref a)] = some (.ref a)
    have : (("self" : Str) == n2) = false := beq_eq_false_iff_ne.mpr S.ne
    simp [List.lookup, this]
  obtain ⟨hp0, g0, d0, tk0, os0⟩ := s0
  refine ks_wpAt_execs_cons (ks_wpAt_Expr_any (ks_wpAt_MethodCall (ks_wpAt_super_base S.sup S.cls (by decide) rfl (K0 _ _ lk) rfl hp rfl (K0 _ _ kc) rfl hvs hfile U.top ?_) (hcall _)) (by show (sc.kind == .module && _) = false; rw [S.kind]; rfl))
  refine PySem.W.ks_loadName_global S.kind S.sup (Calls.loadGlobal_builtin (env := iEnv qual sc s.heap.objs.size f c cc) (I.mod.glob.keeps I.bk) hsup (I.mod.blt.choose_spec.1.keeps I.bk) ((I.mod.blt.choose_spec.2 _ (by decide +kernel)).trans (by decide +kernel)) ⟨rfl, ?_⟩)
  refine wpAny_loadName_free S.kind S.cls rfl ⟨_, K0 _ _ kcc, rfl⟩ ?_
  rw [har]
  refine wpAny_loadName_local S.kind S.l1 hns0 hmself ?_
  refine ks_wpAny_isType_cls hD1 hD2 ⟨rfl, ?_⟩
  refine ks_wpAny_call_super hD1 hD2 hoa rfl (fun c e => by cases e) (PySem.W.looks_mroIn K0 U.self) (fun h1 e1 k1 => ?_)
  have I1 : Inv (cxF CX0 P w K mg base ["self", n2] qual sc f c cc A outer s H E) [] [some (.ref a), some v] H ⟨h1, g0, d0, tk0, os0⟩ := I.kept (t' := tk0) k1
  have K1 : K.In h1 := I1.kIn
  have hoa1 := k1 _ _ hoa
  have hks := U.sup
  unfold PySem.W.ks_superIn at hks
  rw [hcdD] at hks
  have hin : PySem.W.Looks (model P w) h1 (isInstance (.ref a) (.type "ValueError")) true := by
    have I2 : PySem.W.InstAt h1 a { cls := .ref C, dict := none, data := .fields #[.ref t1, .none, .none, .none, .bool false, .none] } C none := ⟨hoa1, rfl, rfl, trivial⟩
    exact I2.type.andThen (PySem.W.looks_mroIn K1 U.ve)
  refine PySem.W.kxs_getMethod PySem.W.kxs_ValueError e1 (PySem.W.looks_opaque K1 U.opq) (l₀ := cdD.mro) (fun A Q E s k q => wpAny_bind ((PySem.W.looks_clsIn K1 hcdD) A _ E s k (wpAny_pure q))) rfl K1 hks hin hxC (by decide) ?_
  have hu1 : (h1.push (PySem.W.kxs_mw "ValueError.__init__" a)).get? h1.objs.size = some (PySem.W.kxs_mw "ValueError.__init__" a) := Heap.get?_push_size _ rfl
  have I2 : Inv (cxF CX0 P w K mg base ["self", n2] qual sc f c cc A outer s H E) [] [some (.ref a), some v] H ⟨h1.push (PySem.W.kxs_mw "ValueError.__init__" a), g0, d0, tk0 + 1, os0⟩ := I1.kept (t' := tk0 + 1) fun b u e => Heap.get?_push_of_some _ e
  have I3 : Inv (cxF CX0 P w K mg base ["self", n2] qual sc f c cc A outer s H E) [(h1.objs.size, PySem.W.kxs_mw "ValueError.__init__" a)] [some (.ref a), some v] H ⟨h1.push (PySem.W.kxs_mw "ValueError.__init__" a), g0, d0, tk0 + 1, os0⟩ := I2.pins_of fun p hp => by
    rw [List.mem_singleton.mp hp]
    exact ⟨hu1, I1.hok.fresh (Nat.le_refl _), Nat.ne_of_gt I1.lt, I1.nofs (Nat.le_refl _), fun v z => by cases z⟩
  have hrZ : Room kn (cxF CX0 P w K mg base ["self", n2] qual sc f c cc A outer s H E).A := hr.deeper _
  have pv1 : ∀ pos, PE (cxF CX0 P w K mg base ["self", n2] qual sc f c cc A outer s H E) (.Name n2 pos) (tVar 1) := fun pos => pe_var (i := 1) rfl (.inl S.l2) d2 c2
  have pv0 : ∀ pos, PE (cxF CX0 P w K mg base ["self", n2] qual sc f c cc A outer s H E) (.Name "self" pos) (tVar 0) := fun pos => pe_var (i := 0) rfl (.inl S.l1)
  have pj : PE (cxF CX0 P w K mg base ["self", n2] qual sc f c cc A outer s H E) (.JoinedStr [.Constant (.str head) k4 p3, .FormattedValue (.Name n2 p4) 114 none p5] p6) _ := pe_joined (.cons pe_str (.cons (pe_fmtB hrZ (pv1 p4)) .nil))
  refine callWith_mw (i := "ValueError.__init__") (x := a) (args_cons (thn (pj.run _ _ _ H (fun x H1 => (∃ y, x = .str y) ∧ H1 = H) I3 ?_) fun v2 s2 ⟨x2, H2, J2, rx2, ⟨y2, ex2⟩, eH⟩ => args_nil ⟨(J2.pin (h1.objs.size, PySem.W.kxs_mw "ValueError.__init__" a) (List.mem_append_right _ (List.mem_singleton.mpr rfl))).1, ?_⟩))
  · refine ⟨head, rfl, ?_, v, rfl, hv, fun m hm => ⟨m, rfl, ?_, ⟨_, rfl⟩, rfl⟩⟩
    · rw [sizeLine_eq, strLen_append]
      have : (Str.empty).length = 0 := rfl
      omega
    · rw [sizeLine_eq, strLen_append, strLen_append]
      have : (Str.empty).length = 0 := rfl
      omega
  rw [eH] at J2
  refine bound_init U.oex J2 ha ?_ ?_ fun s3 J3 => ?_
  · exact (J2.pin (h1.objs.size, PySem.W.kxs_mw "ValueError.__init__" a) (List.mem_append_right _ (List.mem_singleton.mpr rfl))).1
  · rw [sizeLine_eq]
    show 1 ≤ 16777216
    decide
  refine wpAt_of_wpAny ?_
  have ps := pss_one (ps_ost (pv0 p9) (pv1 p11) (hswap _) (X := cxF CX0 P w K mg base ["self", n2] qual sc f c cc A outer s H E) (f := n2) (p' := p10) (pos := p12))
  refine wpAny_mono (ps.run _ s3 _ H { nx := fun _ H' => Q .non H', rt := Q } J3 ?_) (fun fl s' hs => ?_) fun e s' hs => hs
  · refine ⟨v, rfl, .ref a, rfl, a, C, rfl, U.oex, hno, .inl ⟨ha, fun dx h2 h3 => q dx h2 h3⟩⟩
  · cases fl with
    | ret u =>
      obtain ⟨v', σ', H', J, rv, q'⟩ := hs
      exact ⟨v', H', J.os, J.bare, J.base, J.hok, rv, q'⟩
    | next =>
      obtain ⟨σ', H', J, q'⟩ := hs
      exact ⟨.non, H', J.os, J.bare, J.base, J.hok, rfl, q'⟩
    | brk =>
      obtain ⟨_, _, _, q'⟩ := hs
      exact False.elim q'
    | cont =>
      obtain ⟨_, _, _, q'⟩ := hs
      exact False.elim q'
end
end Mv

set_option Elab.async false
set_option linter.all false
set_option maxRecDepth 100000
set_option maxHeartbeats 4000000
namespace Mv
open PySem PySem.Spec PyProof.Rows L2
abbrev sKN : Stmt := topS 15
abbrev sAl : Stmt := topS 16
def Kd.cn : Kd → Str
  | .list => "Kind" | .bag => "BagKind" | .set => "SetKind" | .first => "FirstKind" | .last => "LastKind" | .ends => "EndsKind" | .heads => "HeadsKind" | .tails => "TailsKind"
/-- the constant KIND_NAMES -/
def kindNames : List V := kds.map kdV
/-- what the module's top has written, as kind_named asks it -/
structure KTx (P : Program) (w : World) (K : PySem.W.Frag) (mg : Str → Option Value) (base : Heap) (cls : Kd → Addr) (CB : Addr) : Prop where
  mk0 : ∀ k, Mk0 K (cls k)
  g : ∀ k : Kd, mg k.cn = some (.ref (cls k))
  names : ∃ kn : Addr, mg "KIND_NAMES" = some (.ref kn) ∧ ∀ H : Hp, SqT K H kn kindNames
  oex : OexC K CB
  gCB : mg "BadKind" = some (.ref CB)
  ini : ∃ (fI : Addr) (fdI : FuncData), PySem.W.findIn K (.ref CB) "__init__" = some (some (.ref fI)) ∧ PySem.W.typeIn K (.ref fI) = some (.type "function") ∧ FnOk P w K mg base CX0 1 fI fdI ["self", "name"] (spIniB K CB "name") ∧ Binds K fdI ["self", "name"] []
/-- the thing is raised -/
def Rs (CB : Addr) (H : Hp) (v : V) (E : XK) : Prop := ∀ (d : Addr) (H' : Hp), LamX.ExtN H H' → H' d = some (.xd [("name", v)]) → E (.ref CB) (some d) H'
def spKN (cls : Kd → Addr) (CB : Addr) : Sp := fun vs H Q E => ∃ v : V, vs = [v] ∧ ((∃ k : Kd, v = .str k.nm ∧ ∀ (H' : Hp) (o : Addr), Same H H' → KObj cls H' o k → Q (.ref o) H') ∨ (BadV H v ∧ Rs CB H v E))
section
variable {P : Program} {w : World} {K : PySem.W.Frag} {mg : Str → Option Value} {base : Heap} {T : List (Addr × Str)} {cls : Kd → Addr} {CB : Addr}
theorem kind_new {H : Hp} {x dx : Addr} {k : Kd} (hx : H x = none) (hd : H dx = none) (ne : dx ≠ x) : Same H (upd (upd H dx (.own x)) x (.ins (cls k) dx [])) ∧ KObj cls (upd (upd H dx (.own x)) x (.ins (cls k) dx [])) x k := by
  refine ⟨fun b o e => ?_, dx, upd_same⟩
  rw [upd_ne (ne_of_none e hx), upd_ne (ne_of_none e hd)]
  exact e
theorem if_T {c : Bool} {A B : Prop} (hc : c = true) (h : A) : if c = true then A else B := by
  rw [if_pos hc]
  exact h
theorem if_F {c : Bool} {A B : Prop} (hc : c = false) (h : B) : if c = true then A else B := by
  rw [if_neg (by rw [hc]; exact Bool.false_ne_true)]
  exact h
theorem BadV.ext {H H' : Hp} {v : V} (b : BadV H v) (e : LamX.ExtN H H') : BadV H' v := by
  cases b with
  | str z h hl hc => exact .str z h hl hc
  | non => exact .non
  | int i h => exact .int i h
theorem eqV_str (a b : Str) : eqV (.str a) (.str b) = decide (a = b) := by first | rfl | simp [eqV]
theorem inV_strs (z : Str) : ∀ ks : List Kd, (∀ k : Kd, ¬ z = k.nm) → inV (.str z) (ks.map kdV) = false
  | [], _ => rfl
  | k :: ks, h => by
    show (eqV (.str k.nm) (.str z) || inV (.str z) (ks.map kdV)) = false
    rw [inV_strs z ks h, eqV_str, decide_eq_false fun e => h k e.symm]
    rfl
theorem raise_bad {H : Hp} {v : V} {E : XK} (b : BadV H v) (r : Rs CB H v E) : tMkO CB (spIniB K CB "name") [] (tCons (tVar 0) tNil) [some v] H fun cls d H' => E cls d H' := by
  refine ⟨v, rfl, by show 1 ≤ 1000; decide, fun a ha => ⟨a, v, rfl, upd_same, b.ext (ext_upd ha), fun dx hdx nda => ⟨rfl, dx, [(("name" : Str), v)], upd_same, by rw [upd_ne nda]; exact upd_same, ?_, r dx _ (fun c o e n => ?_) upd_same⟩⟩⟩
  · rw [upd_ne nda] at hdx
    exact hdx
  · have ca : c ≠ a := ne_of_none e ha
    rw [upd_ne nda] at hdx
    have cd : c ≠ dx := ne_of_none e hdx
    rw [upd_ne cd, del_ne ca, upd_ne ca, upd_ne cd, upd_ne ca]
    exact e
theorem scKN : FnScope ["name"] ["name"] (defScope sKN) := ⟨rfl, rfl, rfl, by decide +kernel, rfl, by decide +kernel, by decide +kernel⟩
theorem ok_kn {f : Addr} {fd : FuncData} (F : Fun K "kind_named" "kind_named" sKN f fd) (B : Bi mg) (X : KTx P w K mg base cls CB) : FnOk P w K mg base (L2.CX P w) 3 f fd ["name"] (spKN cls CB) := by
  obtain ⟨fI, fdI, iC, tI, FI, bI⟩ := X.ini
  obtain ⟨kn, gN, tN⟩ := X.names
  refine F.okX scKN (fun vs H Q E h => ?_) (fun cdv A outer s H vs Q E hr h => ?_)
  · obtain ⟨v, rfl, _⟩ := h
    rfl
  · obtain ⟨v, rfl, h⟩ := h
    refine ⟨_, (pss_cons (ps_if (PW.pt (pw_or (pt_not (pt_val (pe_callB call_isi (by rfl) B.isinstance (by decide +kernel) (pa_cons (pv 0) (pa_cons (pe_bltn (by rfl) B.str (by decide +kernel) (v := .ty "str") rfl) pa_nil))))) (pw_or1 (pt_cmpR op_notIn_seq (pv 0) (pe_glob (v := V.ref kn) (by rfl) gN rfl) (by rfl)))))
 (pss_one (ps_raise rfl (takes_of rfl rfl rfl rfl) (pmk_oex X.oex iC tI FI hr bI .nil pass0 (by rfl) X.gCB (pa_cons (pv 0) pa_nil)))) pss_nil)
 (pss_cons (ps_if (pt_cmpR op_eq (pv 0) pe_str (nomark _))
 (pss_one (ps_ret (pe_makeB (X.mk0 .list) (by rfl) (X.g .list)))) pss_nil)
 (pss_cons (ps_if (pt_cmpR op_eq (pv 0) pe_str (nomark _))
 (pss_one (ps_ret (pe_makeB (X.mk0 .bag) (by rfl) (X.g .bag)))) pss_nil)
 (pss_cons (ps_if (pt_cmpR op_eq (pv 0) pe_str (nomark _))
 (pss_one (ps_ret (pe_makeB (X.mk0 .set) (by rfl) (X.g .set)))) pss_nil)
 (pss_cons (ps_if (pt_cmpR op_eq (pv 0) pe_str (nomark _))
 (pss_one (ps_ret (pe_makeB (X.mk0 .first) (by rfl) (X.g .first)))) pss_nil)
 (pss_cons (ps_if (pt_cmpR op_eq (pv 0) pe_str (nomark _))
 (pss_one (ps_ret (pe_makeB (X.mk0 .last) (by rfl) (X.g .last)))) pss_nil)
 (pss_cons (ps_if (pt_cmpR op_eq (pv 0) pe_str (nomark _))
 (pss_one (ps_ret (pe_makeB (X.mk0 .ends) (by rfl) (X.g .ends)))) pss_nil)
 (pss_cons (ps_if (pt_cmpR op_eq (pv 0) pe_str (nomark _))
 (pss_one (ps_ret (pe_makeB (X.mk0 .heads) (by rfl) (X.g .heads)))) pss_nil)
 (pss_one (ps_ret (pe_makeB (X.mk0 .tails) (by rfl) (X.g .tails)))))))))))), ?_⟩
    rcases h with ⟨k, rfl, q⟩ | ⟨b, r⟩
    · simp only [tSeq, tAsg, gName, tOp, rI, rI0, rU, tUn, tVar, tC, tCB, tCons, tNil, tTest, tIfS, tRet, tRetN, tDrop, tNext, tBreak, tCont, rEq, rNe, CDiv, CDivN, CMul, tBM, tBM0, tTup, tLst, tAug, tIf, tAnd, tOr, tNot, tAndV, tOrV, tNotV, tIsN, tNotN, tB, scal, tCall, cxK, cxKn, rIxT, rIxL, rIn, rAppend, rReverse, tVals, tDSetd, tDGet, tDGet1, tDGet2, tDIn, tDNotIn, rSortV, rSortT, rPop, rSortL, rSortT, tSl, tNoPart, tPart, List.append_nil, L2.start, List.map_cons, List.map_nil, List.length_cons, List.length_nil, List.replicate_succ, List.replicate_zero, List.cons_append, List.nil_append, Nat.reduceAdd, Nat.reduceSub, exists_eq, exists_eq', List.getElem?_cons_zero, List.getElem?_cons_succ, List.set_cons_zero, List.set_cons_succ, Option.some.injEq, V.int.injEq, V.bl.injEq, V.str.injEq, V.ref.injEq, List.cons.injEq, and_true, true_and, and_false, false_and, reduceCtorEq, exists_false, or_false, false_or, exists_and_left, exists_and_right, exists_eq_left, exists_eq_left', exists_eq_right, exists_eq_right', exists_const, ite_true, ite_false, Bool.false_eq_true, if_true, if_false, decide_true, decide_false]
      refine ⟨.str k.nm, .ty "str", .type "str", .type "str", true, rfl, .ty _, .base (.str _), kit_ty (by decide +kernel), true, rfl, iteF ?_⟩
      have new : tMake0 (cls k) [some (.str k.nm)] H Q := fun x dx hx hd ne => by
        obtain ⟨s1, o1⟩ := kind_new (cls := cls) (k := k) hx hd ne
        exact q _ x s1 o1
      clear q
      refine ⟨kindNames, .inr (tN _), rfl, rfl, if_F (by cases k <;> decide +kernel) ?_⟩
      cases k <;> (repeat (first | exact ⟨rfl, if_T (by decide +kernel) new⟩ | refine ⟨rfl, if_F (by decide +kernel) ?_⟩)) <;> exact new
    · have rb := raise_bad (K := K) b r
      cases b with
      | str z h hl hc =>
        simp only [tSeq, tAsg, gName, tOp, rI, rI0, rU, tUn, tVar, tC, tCB, tCons, tNil, tTest, tIfS, tRet, tRetN, tDrop, tNext, tBreak, tCont, rEq, rNe, CDiv, CDivN, CMul, tBM, tBM0, tTup, tLst, tAug, tIf, tAnd, tOr, tNot, tAndV, tOrV, tNotV, tIsN, tNotN, tB, scal, tCall, cxK, cxKn, rIxT, rIxL, rIn, rAppend, rReverse, tVals, tDSetd, tDGet, tDGet1, tDGet2, tDIn, tDNotIn, rSortV, rSortT, rPop, rSortL, rSortT, tSl, tNoPart, tPart, List.append_nil, L2.start, List.map_cons, List.map_nil, List.length_cons, List.length_nil, List.replicate_succ, List.replicate_zero, List.cons_append, List.nil_append, Nat.reduceAdd, Nat.reduceSub, exists_eq, exists_eq', List.getElem?_cons_zero, List.getElem?_cons_succ, List.set_cons_zero, List.set_cons_succ, Option.some.injEq, V.int.injEq, V.bl.injEq, V.str.injEq, V.ref.injEq, List.cons.injEq, and_true, true_and, and_false, false_and, reduceCtorEq, exists_false, or_false, false_or, exists_and_left, exists_and_right, exists_eq_left, exists_eq_left', exists_eq_right, exists_eq_right', exists_const, ite_true, ite_false, Bool.false_eq_true, if_true, if_false, decide_true, decide_false]
        refine ⟨.str z, .ty "str", .type "str", .type "str", true, rfl, .ty _, .base (.str _), kit_ty (by decide +kernel), true, rfl, iteF ?_⟩
        exact ⟨kindNames, .inr (tN _), rfl, rfl, if_T (by unfold kindNames; rw [inV_strs z kds h]; rfl) rb⟩
      | non =>
        simp only [tSeq, tAsg, gName, tOp, rI, rI0, rU, tUn, tVar, tC, tCB, tCons, tNil, tTest, tIfS, tRet, tRetN, tDrop, tNext, tBreak, tCont, rEq, rNe, CDiv, CDivN, CMul, tBM, tBM0, tTup, tLst, tAug, tIf, tAnd, tOr, tNot, tAndV, tOrV, tNotV, tIsN, tNotN, tB, scal, tCall, cxK, cxKn, rIxT, rIxL, rIn, rAppend, rReverse, tVals, tDSetd, tDGet, tDGet1, tDGet2, tDIn, tDNotIn, rSortV, rSortT, rPop, rSortL, rSortT, tSl, tNoPart, tPart, List.append_nil, L2.start, List.map_cons, List.map_nil, List.length_cons, List.length_nil, List.replicate_succ, List.replicate_zero, List.cons_append, List.nil_append, Nat.reduceAdd, Nat.reduceSub, exists_eq, exists_eq', List.getElem?_cons_zero, List.getElem?_cons_succ, List.set_cons_zero, List.set_cons_succ, Option.some.injEq, V.int.injEq, V.bl.injEq, V.str.injEq, V.ref.injEq, List.cons.injEq, and_true, true_and, and_false, false_and, reduceCtorEq, exists_false, or_false, false_or, exists_and_left, exists_and_right, exists_eq_left, exists_eq_left', exists_eq_right, exists_eq_right', exists_const, ite_true, ite_false, Bool.false_eq_true, if_true, if_false, decide_true, decide_false]
        exact ⟨.non, .ty "str", .type "NoneType", .type "str", false, rfl, .ty _, .base .non, kit_ty (by decide +kernel), false, rfl, iteT rb⟩
      | int i hi =>
        simp only [tSeq, tAsg, gName, tOp, rI, rI0, rU, tUn, tVar, tC, tCB, tCons, tNil, tTest, tIfS, tRet, tRetN, tDrop, tNext, tBreak, tCont, rEq, rNe, CDiv, CDivN, CMul, tBM, tBM0, tTup, tLst, tAug, tIf, tAnd, tOr, tNot, tAndV, tOrV, tNotV, tIsN, tNotN, tB, scal, tCall, cxK, cxKn, rIxT, rIxL, rIn, rAppend, rReverse, tVals, tDSetd, tDGet, tDGet1, tDGet2, tDIn, tDNotIn, rSortV, rSortT, rPop, rSortL, rSortT, tSl, tNoPart, tPart, List.append_nil, L2.start, List.map_cons, List.map_nil, List.length_cons, List.length_nil, List.replicate_succ, List.replicate_zero, List.cons_append, List.nil_append, Nat.reduceAdd, Nat.reduceSub, exists_eq, exists_eq', List.getElem?_cons_zero, List.getElem?_cons_succ, List.set_cons_zero, List.set_cons_succ, Option.some.injEq, V.int.injEq, V.bl.injEq, V.str.injEq, V.ref.injEq, List.cons.injEq, and_true, true_and, and_false, false_and, reduceCtorEq, exists_false, or_false, false_or, exists_and_left, exists_and_right, exists_eq_left, exists_eq_left', exists_eq_right, exists_eq_right', exists_const, ite_true, ite_false, Bool.false_eq_true, if_true, if_false, decide_true, decide_false]
        exact ⟨.int i, .ty "str", .type "int", .type "str", false, rfl, .ty _, .base (.int i), kit_ty (by decide +kernel), false, rfl, iteT rb⟩
end
end Mv

set_option Elab.async false
set_option linter.all false
set_option maxRecDepth 100000
set_option maxHeartbeats 4000000
namespace Mv
open PySem PySem.Spec PyProof.Rows L2
theorem dp_ints {K : PySem.W.Frag} {H : Hp} : ∀ xs : List Int, DpAll K H (xs.map V.int) (xs.map PyData.int)
  | [] => .nil
  | x :: xs => .cons (.int x) (dp_ints xs)
theorem eqvAll_ints : ∀ xs ys : List Int, PyData.eqvAll (xs.map PyData.int) (ys.map PyData.int) = decide (xs = ys)
  | [], [] => rfl
  | [], y :: ys => by simp [PyData.eqvAll]
  | x :: xs, [] => by simp [PyData.eqvAll]
  | x :: xs, y :: ys => by
    rw [List.map_cons, List.map_cons, PySem.W.eqv_all_cons, eqvAll_ints xs ys]
    by_cases h : x = y
    · subst h
      simp [PyData.eqv]
    · simp [PyData.eqv, h]
theorem shaped_ints (xs : List Int) : SeqAt.shaped (.tuple (xs.map PyData.int)) = true := by simp [SeqAt.shaped, PyData.canLay0, PyData.depth, PySem.W.ke_canLayAll0, PySem.W.ke_depthAll]
/-- tuples of ints, compared -/
theorem eq_tups {K : PySem.W.Frag} {H : Hp} {a b : Addr} {xs ys : List Int} {Q : VK} (ha : SqT K H a (xs.map V.int)) (hb : SqT K H b (ys.map V.int)) (q : Q (.bl (decide (xs = ys))) H) : rEqD K (.ref a) (.ref b) H Q :=
  ⟨_, _, .tup ha (dp_ints xs), .tup hb (dp_ints ys), shaped_ints xs, shaped_ints ys, by rw [show PyData.eqv (.tuple (xs.map PyData.int)) (.tuple (ys.map PyData.int)) = decide (xs = ys) from eqvAll_ints xs ys]; exact q⟩
theorem ne_tups {K : PySem.W.Frag} {H : Hp} {a b : Addr} {xs ys : List Int} {Q : VK} (ha : SqT K H a (xs.map V.int)) (hb : SqT K H b (ys.map V.int)) (q : Q (.bl (!decide (xs = ys))) H) : rNeD K (.ref a) (.ref b) H Q :=
  ⟨_, _, .tup ha (dp_ints xs), .tup hb (dp_ints ys), shaped_ints xs, shaped_ints ys, by rw [show PyData.eqv (.tuple (xs.map PyData.int)) (.tuple (ys.map PyData.int)) = decide (xs = ys) from eqvAll_ints xs ys]; exact q⟩
theorem Rs.ext {CB : Addr} {H H' : Hp} {v : V} {E : XK} (r : Rs CB H v E) (e : LamX.ExtN H H') : Rs CB H' v E := fun d H2 e2 h => r d H2 (e.trans e2) h
def spAl (K : PySem.W.Frag) (T : List (Addr × Str)) (CB : Addr) : Sp := fun vs H Q E => ∃ (v : V) (p r : Addr), vs = [v, .ref p, .ref r] ∧ ((∃ (k : Kd) (xs ys : List Int), v = .str k.nm ∧ WordS K H p xs ∧ WordS K H r ys ∧ xs.length ≤ 60 ∧ ys.length ≤ 60 ∧ LamX.Tabs T H ∧ ∀ H' : Hp, Gw T H H' → Q (.bl (decide (plainI k xs = plainI k ys))) H') ∨ (BadV H v ∧ Rs CB H v E))
section
variable {P : Program} {w : World} {K : PySem.W.Frag} {mg : Str → Option Value} {base : Heap} {T : List (Addr × Str)} {cls : Kd → Addr} {CB : Addr}
theorem scAl : FnScope ["kind", "left", "right", "named"] ["kind", "left", "right"] (defScope sAl) := ⟨rfl, rfl, rfl, by decide +kernel, rfl, by decide +kernel, by decide +kernel⟩
theorem ok_al {f : Addr} {fd : FuncData} (F : Fun K "alike" "alike" sAl f fd) (B : Bi mg) (cKN : CalX (L2.CX P w) P w K mg base 3 "kind_named" (spKN cls CB)) (cPlain : ∀ k, MetX CX0 P w K mg base 3 (cls k) "plain" (spPlainM K cls T k)) : FnOk P w K mg base (L2.CX P w) 4 f fd ["kind", "left", "right"] (spAl K T CB) := by
  refine F.okX scAl (fun vs H Q E h => ?_) (fun cdv A outer s H vs Q E hr h => ?_)
  · obtain ⟨v, p, r, rfl, _⟩ := h
    rfl
  · obtain ⟨v, p, r, rfl, h⟩ := h
    rcases h with ⟨k, xs, ys, rfl, hw, hw2, hl, hl2, ht, q⟩ | ⟨b, r⟩
    · refine ⟨_, (pss_cons (ps_set (i := 3) scAl.nd rfl (.inl rfl) (pe_cx cKN hr (by decide) (passes_call (takes_of rfl rfl rfl rfl) (fun _ _ _ _ h => h)) (by rfl) (pa_cons (pv 0) pa_nil)))
 (pss_one (ps_ret (pe_cmpR (op_eqD hr.units) (pe_mx (cPlain k) hr (by decide) pass0 (pv 3) (pa_cons (pv 1) pa_nil)) (pe_mx (cPlain k) hr (by decide) pass0 (pv 3) (pa_cons (pv 2) pa_nil)) (nomark _))))), ?_⟩
      simp only [tSeq, tAsg, gName, tOp, rI, rI0, rU, tUn, tVar, tC, tCB, tCons, tNil, tTest, tIfS, tRet, tRetN, tDrop, tNext, tBreak, tCont, rEq, rNe, CDiv, CDivN, CMul, tBM, tBM0, tTup, tLst, tAug, tIf, tAnd, tOr, tNot, tAndV, tOrV, tNotV, tIsN, tNotN, tB, scal, tCall, cxK, cxKn, rIxT, rIxL, rIn, rAppend, rReverse, tVals, tDSetd, tDGet, tDGet1, tDGet2, tDIn, tDNotIn, rSortV, rSortT, rPop, rSortL, rSortT, tSl, tNoPart, tPart, List.append_nil, L2.start, List.map_cons, List.map_nil, List.length_cons, List.length_nil, List.replicate_succ, List.replicate_zero, List.cons_append, List.nil_append, Nat.reduceAdd, Nat.reduceSub, exists_eq, exists_eq', List.getElem?_cons_zero, List.getElem?_cons_succ, List.set_cons_zero, List.set_cons_succ, Option.some.injEq, V.int.injEq, V.bl.injEq, V.str.injEq, V.ref.injEq, List.cons.injEq, and_true, true_and, and_false, false_and, reduceCtorEq, exists_false, or_false, false_or, exists_and_left, exists_and_right, exists_eq_left, exists_eq_left', exists_eq_right, exists_eq_right', exists_const, ite_true, ite_false, Bool.false_eq_true, if_true, if_false, decide_true, decide_false]
      refine ⟨_, rfl, .inl ⟨k, rfl, fun H1 o s1 ho => ?_⟩⟩
      simp only [tSeq, tAsg, gName, tOp, rI, rI0, rU, tUn, tVar, tC, tCB, tCons, tNil, tTest, tIfS, tRet, tRetN, tDrop, tNext, tBreak, tCont, rEq, rNe, CDiv, CDivN, CMul, tBM, tBM0, tTup, tLst, tAug, tIf, tAnd, tOr, tNot, tAndV, tOrV, tNotV, tIsN, tNotN, tB, scal, tCall, cxK, cxKn, rIxT, rIxL, rIn, rAppend, rReverse, tVals, tDSetd, tDGet, tDGet1, tDGet2, tDIn, tDNotIn, rSortV, rSortT, rPop, rSortL, rSortT, tSl, tNoPart, tPart, List.append_nil, L2.start, List.map_cons, List.map_nil, List.length_cons, List.length_nil, List.replicate_succ, List.replicate_zero, List.cons_append, List.nil_append, Nat.reduceAdd, Nat.reduceSub, exists_eq, exists_eq', List.getElem?_cons_zero, List.getElem?_cons_succ, List.set_cons_zero, List.set_cons_succ, Option.some.injEq, V.int.injEq, V.bl.injEq, V.str.injEq, V.ref.injEq, List.cons.injEq, and_true, true_and, and_false, false_and, reduceCtorEq, exists_false, or_false, false_or, exists_and_left, exists_and_right, exists_eq_left, exists_eq_left', exists_eq_right, exists_eq_right', exists_const, ite_true, ite_false, Bool.false_eq_true, if_true, if_false, decide_true, decide_false]
      obtain ⟨dx, hd⟩ := id ho
      refine ⟨.ref o, rfl, o, dx, [], rfl, hd, rfl, .ref p, rfl, o, p, xs, rfl, ho, hw.same s1, hl, ht.ext s1, fun H2 t g2 h2 => ?_⟩
      obtain ⟨dx2, hd2⟩ := ho.ext g2.1
      refine ⟨.ref o, rfl, o, dx2, [], rfl, hd2, rfl, .ref r, rfl, o, r, ys, rfl, ho.ext g2.1, (hw2.same s1).ext g2.1, hl2, g2.2, fun H3 t3 g3 h3 => ?_⟩
      exact eq_tups (ext_tup (.inl (.inl h2)) g3.1) (.inl (.inl h3)) (q H3 (((Gw.of ht s1).trans g2).trans g3))
    · have k := Kd.list
      refine ⟨_, (pss_cons (ps_set (i := 3) scAl.nd rfl (.inl rfl) (pe_cx cKN hr (by decide) (passes_call (takes_of rfl rfl rfl rfl) (fun _ _ _ _ h => h)) (by rfl) (pa_cons (pv 0) pa_nil)))
 (pss_one (ps_ret (pe_cmpR (op_eqD hr.units) (pe_mx (cPlain k) hr (by decide) pass0 (pv 3) (pa_cons (pv 1) pa_nil)) (pe_mx (cPlain k) hr (by decide) pass0 (pv 3) (pa_cons (pv 2) pa_nil)) (nomark _))))), ?_⟩
      simp only [tSeq, tAsg, gName, tOp, rI, rI0, rU, tUn, tVar, tC, tCB, tCons, tNil, tTest, tIfS, tRet, tRetN, tDrop, tNext, tBreak, tCont, rEq, rNe, CDiv, CDivN, CMul, tBM, tBM0, tTup, tLst, tAug, tIf, tAnd, tOr, tNot, tAndV, tOrV, tNotV, tIsN, tNotN, tB, scal, tCall, cxK, cxKn, rIxT, rIxL, rIn, rAppend, rReverse, tVals, tDSetd, tDGet, tDGet1, tDGet2, tDIn, tDNotIn, rSortV, rSortT, rPop, rSortL, rSortT, tSl, tNoPart, tPart, List.append_nil, L2.start, List.map_cons, List.map_nil, List.length_cons, List.length_nil, List.replicate_succ, List.replicate_zero, List.cons_append, List.nil_append, Nat.reduceAdd, Nat.reduceSub, exists_eq, exists_eq', List.getElem?_cons_zero, List.getElem?_cons_succ, List.set_cons_zero, List.set_cons_succ, Option.some.injEq, V.int.injEq, V.bl.injEq, V.str.injEq, V.ref.injEq, List.cons.injEq, and_true, true_and, and_false, false_and, reduceCtorEq, exists_false, or_false, false_or, exists_and_left, exists_and_right, exists_eq_left, exists_eq_left', exists_eq_right, exists_eq_right', exists_const, ite_true, ite_false, Bool.false_eq_true, if_true, if_false, decide_true, decide_false]
      exact ⟨_, rfl, .inr ⟨b, r⟩⟩
end
end Mv

set_option Elab.async false
set_option linter.all false
set_option maxRecDepth 100000
set_option maxHeartbeats 4000000
namespace Mv
open PySem PySem.Spec PyProof.Rows L2
abbrev sPlain : Stmt := topS 32
/-- the words as the loop reads them -/
def turnI (b : Bool) (xs : List Int) : List Int := if b = true then xs.reverse else xs
theorem turnI_len (b : Bool) (xs : List Int) : (turnI b xs).length = xs.length := by
  cases b
  · rfl
  · exact List.length_reverse
theorem heads_take {xs : List Int} {i : Nat} {x : Int} (h : xs[i]? = some x) : headsI (xs.take (i + 1)) = addI (headsI (xs.take i)) x := by
  rw [List.take_add_one, h]
  exact headsI_snoc _ _
section
variable {P : Program} {w : World} {K : PySem.W.Frag} {mg : Str → Option Value} {base : Heap}
theorem scPlain : FnScope ["_law_kind", "_law_word_here", "_law_kept", "_law_turned", "_law_k", "_law_value_here"] ["_law_kind", "_law_word_here"] (defScope sPlain) := ⟨rfl, rfl, rfl, by decide +kernel, rfl, by decide +kernel, by decide +kernel⟩
def spPlain (K : PySem.W.Frag) : Sp := fun vs H Q _ => ∃ (k : Kd) (p : Addr) (xs : List Int), vs = [.str k.nm, .ref p] ∧ SqT K H p (xs.map V.int) ∧ xs.length ≤ 1000 ∧ ∀ (H' : Hp) (t : Addr), Same H H' → SqT K H' t ((plainI k xs).map V.int) → Q (.ref t) H'
theorem ok_plain {f : Addr} {fd : FuncData} (F : Fun K "_law_plain" "_law_plain" sPlain f fd) (B : Bi mg) : FnOk P w K mg base CX0 1 f fd ["_law_kind", "_law_word_here"] (spPlain K) := by
  refine F.ok scPlain (fun vs H Q E h => ?_) (fun cdv A outer s H vs Q E hr h => ?_)
  · obtain ⟨k, p, xs, rfl, _⟩ := h
    rfl
  · obtain ⟨k, p, xs, rfl, hp, hl, q⟩ := h
    refine ⟨_, (pss_cons (ps_if (pt_cmpR op_eq (pv 0) pe_str (nomark _))
 (pss_one (ps_ret (pe_callTy call_tuple_of (by rfl) B.tuple (by decide +kernel) (pa_cons (pv 1) pa_nil)))) pss_nil)
 (pss_cons (ps_if (pt_cmpR op_eq (pv 0) pe_str (nomark _))
 (pss_one (ps_ret (pe_callTy call_tuple_of (by rfl) B.tuple (by decide +kernel) (pa_cons (pe_callB cr_sortT' (by rfl) B.sorted (by decide +kernel) (pa_cons (pv 1) pa_nil)) pa_nil)))) pss_nil)
 (pss_cons (ps_if (pt_cmpR op_eq (pe_callB call_len_seq (by rfl) B.len PySem.boot_len (pa_cons (pv 1) pa_nil)) pe_int (nomark _))
 (pss_one (ps_ret (pe_tup pa_nil))) pss_nil)
 (pss_cons (ps_if (pt_cmpR op_eq (pv 0) pe_str (nomark _))
 (pss_one (ps_ret (pe_tup (pa_cons (pe_ix ix_tup (pv 1) pe_int (fun _ _ => rfl)) pa_nil)))) pss_nil)
 (pss_cons (ps_if (pt_cmpR op_eq (pv 0) pe_str (nomark _))
 (pss_one (ps_ret (pe_tup (pa_cons (pe_ix ix_tup (pv 1) (pe_un un_neg pe_int) (fun _ _ => rfl)) pa_nil)))) pss_nil)
 (pss_cons (ps_if (pt_cmpR op_eq (pv 0) pe_str (nomark _))
 (pss_one (ps_ret (pe_tup (pa_cons (pe_ix ix_tup (pv 1) pe_int (fun _ _ => rfl)) (pa_cons (pe_ix ix_tup (pv 1) (pe_un un_neg pe_int) (fun _ _ => rfl)) pa_nil))))) pss_nil)
 (pss_cons (ps_set (i := 2) scPlain.nd rfl (.inl rfl) (pe_lst pa_nil))
 (pss_cons (ps_set (i := 3) scPlain.nd rfl (.inl rfl) (pe_cmpR op_eq (pv 0) pe_str (nomark _)))
 (pss_cons (ps_for PassesOwn.never rfl (pi_range1 (by rfl) B.range (pa_cons (pe_callB call_len_seq (by rfl) B.len PySem.boot_len (pa_cons (pv 1) pa_nil)) pa_nil)) (pg_name (i := 4) scPlain.nd rfl (.inl rfl))
 (pss_cons (ps_set (i := 5) scPlain.nd rfl (.inl rfl) (pe_ix ix_tup (pv 1) (pv 4) (fun _ _ => rfl)))
 (pss_cons (ps_if (pt_val (pv 3))
 (pss_one (ps_set (i := 5) scPlain.nd rfl (.inl rfl) (pe_ix ix_tup (pv 1) (pe_op op_sub (pe_op op_sub (pe_callB call_len_seq (by rfl) B.len PySem.boot_len (pa_cons (pv 1) pa_nil)) pe_int) (pv 4)) (fun _ _ => rfl)))) pss_nil)
 (pss_one (ps_if (pt_cmpR op_notIn_seq (pv 5) (pv 2) (by rfl))
 (pss_one (ps_expr (pe_bm PySem.F.plainAttrs_list PySem.F.slot_list_append PySem.F.type_list_append mt_append (pv 2) (pa_cons (pv 5) pa_nil)))) pss_nil)))))
 (pss_cons (ps_if (pt_val (pv 3))
 (pss_one (ps_expr (pe_bm0 PySem.F.plainAttrs_list PySem.F.slot_list_reverse PySem.F.type_list_reverse mt_reverse (pv 2)))) pss_nil)
 (pss_cons (ps_if (pt_cmpR op_eq (pv 0) pe_str (nomark _))
 (pss_one (ps_ret (pe_callTy call_tuple_of (by rfl) B.tuple (by decide +kernel) (pa_cons (pe_callB cr_sortL (by rfl) B.sorted (by decide +kernel) (pa_cons (pv 2) pa_nil)) pa_nil)))) pss_nil)
 (pss_one (ps_ret (pe_callTy call_tuple_of (by rfl) B.tuple (by decide +kernel) (pa_cons (pv 2) pa_nil))))))))))))))), ?_⟩
    simp only [tSeq, tAsg, gName, tOp, rI, rI0, rU, tUn, tVar, tC, tCB, tCons, tNil, tTest, tIfS, tRet, tRetN, tDrop, tNext, tBreak, tCont, rEq, rNe, CDiv, CDivN, CMul, tBM, tBM0, tTup, tLst, tAug, tIf, tAnd, tOr, tNot, tAndV, tOrV, tNotV, tIsN, tNotN, tB, scal, tCall, cxK, cxKn, rIxT, rIxL, rIn, rAppend, rReverse, tVals, tDSetd, tDGet, tDGet1, tDGet2, tDIn, tDNotIn, rSortV, rSortT, rPop, rSortL, rSortT, tSl, tNoPart, tPart, List.append_nil, L2.start, List.map_cons, List.map_nil, List.length_cons, List.length_nil, List.replicate_succ, List.replicate_zero, List.cons_append, List.nil_append, Nat.reduceAdd, Nat.reduceSub, exists_eq, exists_eq', List.getElem?_cons_zero, List.getElem?_cons_succ, List.set_cons_zero, List.set_cons_succ, Option.some.injEq, V.int.injEq, V.bl.injEq, V.str.injEq, V.ref.injEq, List.cons.injEq, and_true, true_and, and_false, false_and, reduceCtorEq, exists_false, or_false, false_or, exists_and_left, exists_and_right, exists_eq_left, exists_eq_left', exists_eq_right, exists_eq_right', exists_const, ite_true, ite_false, Bool.false_eq_true, if_true, if_false, decide_true, decide_false]
    refine ite2 (fun e => ?_) (fun e1 => ?_)
    · obtain rfl : k = .list := by revert e; cases k <;> decide +kernel
      exact ⟨_, .inr ⟨hp, q H p (Same.refl H) hp⟩⟩
    refine ite2 (fun e => ?_) (fun e2 => ?_)
    · obtain rfl : k = .bag := by revert e; cases k <;> decide +kernel
      refine ⟨xs, hp, fun l hl' => ⟨_, .inl ⟨SqL.of upd_same, fun t ht => ?_⟩⟩⟩
      exact q _ t ((same_upd hl').trans (same_upd ht)) (.inl (.inl upd_same))
    refine ⟨xs.map V.int, .inr hp, ite2 (fun e => ⟨Nat.zero_le _, fun t ht => ?_⟩) (fun e0 => ?_)⟩
    · have e0 : xs = [] := by
        have h0 := of_decide_eq_true e
        rw [List.length_map] at h0
        exact List.length_eq_zero_iff.mp (by omega)
      subst e0
      rw [plain_nil] at q
      exact q _ t (same_upd ht) (.inl (.inl upd_same))
    have hx0 : xs ≠ [] := fun z => by
      subst z
      exact e0 (decide_eq_true rfl)
    obtain ⟨x, r, rfl⟩ : ∃ x r, xs = x :: r := by
      cases xs with
      | nil => exact absurd rfl hx0
      | cons x r => exact ⟨x, r, rfl⟩
    have hat0 : atI ((x :: r).map V.int) 0 = some (.int x) := atI_nat (j := 0) rfl
    have hz : (x :: r).map V.int = ((x :: r).dropLast.map V.int) ++ [.int ((x :: r).getLast hx0)] := by
      rw [← List.map_singleton, ← List.map_append, List.dropLast_concat_getLast]
    have hatL : atI ((x :: r).map V.int) (-1) = some (.int ((x :: r).getLast hx0)) := by
      rw [hz]
      exact atI_last _ _
    have hlast : lastI (x :: r) = [(x :: r).getLast hx0] := by
      conv => lhs; rw [← List.dropLast_concat_getLast hx0]
      exact lastI_snoc _ _
    refine ite2 (fun e => ⟨_, hp, _, hat0, by decide, fun t ht => ?_⟩) (fun e3 => ?_)
    · obtain rfl : k = .first := by revert e; cases k <;> decide +kernel
      exact q _ t (same_upd ht) (.inl (.inl upd_same))
    refine ite2 (fun e => ⟨_, hp, _, hatL, by decide, fun t ht => ?_⟩) (fun e4 => ?_)
    · obtain rfl : k = .last := by revert e; cases k <;> decide +kernel
      refine q _ t (same_upd ht) (.inl (.inl ?_))
      show _ = some (HO.tup ((lastI (x :: r)).map V.int))
      rw [hlast]
      exact upd_same
    refine ite2 (fun e => ⟨_, hp, _, hat0, _, hp, _, hatL, by decide, fun t ht => ?_⟩) (fun e5 => ⟨Nat.zero_le _, fun o no => ?_⟩)
    · obtain rfl : k = .ends := by revert e; cases k <;> decide +kernel
      refine q _ t (same_upd ht) (.inl (.inl ?_))
      show _ = some (HO.tup ((firstI (x :: r) ++ lastI (x :: r)).map V.int))
      rw [hlast]
      exact upd_same
    -- the loop
    have so := same_upd (o := .lst []) no
    have hp1 : SqT K (upd H o (.lst [])) p ((x :: r).map V.int) := Same.tup so hp
    generalize x :: r = xs at *
    have hlen : (turnI (decide (k.nm = "tails")) xs).length = xs.length := turnI_len _ xs
    have hget : ∀ j, j < xs.length → ∃ u, (turnI (decide (k.nm = "tails")) xs)[j]? = some u ∧ ((decide (k.nm = "tails")) = false → xs[j]? = some u) ∧ (decide (k.nm = "tails") = true → xs[xs.length - 1 - j]? = some u) := fun j hj => by
      generalize decide (k.nm = "tails") = b
      cases b with
      | false => exact ⟨xs[j], List.getElem?_eq_getElem hj, fun _ => List.getElem?_eq_getElem hj, fun z => Bool.noConfusion z⟩
      | true =>
        refine ⟨xs[xs.length - 1 - j]'(by omega), ?_, fun z => Bool.noConfusion z, fun _ => List.getElem?_eq_getElem _⟩
        show xs.reverse[j]? = _
        rw [List.getElem?_reverse hj, List.getElem?_eq_getElem]
    refine ⟨.ref p, rfl, p, rfl, xs.map V.int, .inr hp1, ((xs.map V.int).length : Nat), rfl, by rw [List.length_map]; omega, by rw [List.length_map]; omega, ?_⟩
    rw [List.length_map]
    refine for_range (n := xs.length) (fun j σ H3 => ∃ y4 y5, σ = [some (.str k.nm), some (.ref p), some (.ref o), some (.bl (decide (k.nm = "tails"))), y4, y5] ∧ Same H H3 ∧ H3 o = some (.lst ((headsI ((turnI (decide (k.nm = "tails")) xs).take j)).map V.int))) ⟨none, none, rfl, so, upd_same⟩ ?_ ?_
    · rintro j σ H3 hj ⟨y4, y5, rfl, s3, ho⟩
      obtain ⟨u, h1, h2, h3⟩ := hget j hj
      have hj1 : xs[j]? = some xs[j] := List.getElem?_eq_getElem hj
      have hp3 := Same.tup s3 hp
      have e6 := heads_take h1
      simp only [tSeq, tAsg, gName, tOp, rI, rI0, rU, tUn, tVar, tC, tCB, tCons, tNil, tTest, tIfS, tRet, tRetN, tDrop, tNext, tBreak, tCont, rEq, rNe, CDiv, CDivN, CMul, tBM, tBM0, tTup, tLst, tAug, tIf, tAnd, tOr, tNot, tAndV, tOrV, tNotV, tIsN, tNotN, tB, scal, tCall, cxK, cxKn, rIxT, rIxL, rIn, rAppend, rReverse, tVals, tDSetd, tDGet, tDGet1, tDGet2, tDIn, tDNotIn, rSortV, rSortT, rPop, rSortL, rSortT, tSl, tNoPart, tPart, List.append_nil, L2.start, List.map_cons, List.map_nil, List.length_cons, List.length_nil, List.replicate_succ, List.replicate_zero, List.cons_append, List.nil_append, Nat.reduceAdd, Nat.reduceSub, exists_eq, exists_eq', List.getElem?_cons_zero, List.getElem?_cons_succ, List.set_cons_zero, List.set_cons_succ, Option.some.injEq, V.int.injEq, V.bl.injEq, V.str.injEq, V.ref.injEq, List.cons.injEq, and_true, true_and, and_false, false_and, reduceCtorEq, exists_false, or_false, false_or, exists_and_left, exists_and_right, exists_eq_left, exists_eq_left', exists_eq_right, exists_eq_right', exists_const, ite_true, ite_false, Bool.false_eq_true, if_true, if_false, decide_true, decide_false]
      refine ⟨xs.map V.int, hp3, .int xs[j], at_of (j := j) (by omega) (by rw [List.getElem?_map, hj1]; rfl), ite2 ?A ?B⟩
      case' A =>
        intro e
        refine ⟨_, .inr hp3, xs.map V.int, hp3, .int u, at_of (j := xs.length - 1 - j) (by rw [List.length_map]; omega) (by rw [List.getElem?_map, h3 e]; rfl), ?_⟩
      case' B =>
        intro e
        obtain rfl : xs[j] = u := Option.some.inj (hj1.symm.trans (h2 (Bool.eq_false_iff.mpr e)))
        generalize xs[j] = u at *
      all_goals
        refine ⟨_, .inl (SqL.of ho), rfl, ints_flat _, ?_⟩
        rw [inV_int, e6]
        unfold addI
        by_cases hm : u ∈ headsI ((turnI (decide (k.nm = "tails")) xs).take j)
        · rw [if_pos hm, if_neg (by simp [hm])]
          exact ⟨s3, ho⟩
        · rw [if_neg hm, if_pos (by simp [hm])]
          refine ⟨.inl ⟨rfl, _, SqL.of ho⟩, _, ho, ?_, fun b z e => ?_, ?_⟩
          · rw [List.length_map]
            refine small1000 (Nat.le_trans (headsI_len _) ?_)
            rw [List.length_take]
            omega
          · rw [upd_ne (ne_of_none e no)]
            exact s3 _ _ e
          · rw [upd_same, List.map_append]
            rfl
    · rintro σ H3 ⟨y4, y5, rfl, s3, ho⟩
      rw [List.take_of_length_le (by rw [hlen]; exact Nat.le_refl _)] at ho
      have s4 : ∀ z, Same H (upd H3 o z) := fun z b y e => by
        rw [upd_ne (ne_of_none e no)]
        exact s3 _ _ e
      simp only [tSeq, tAsg, gName, tOp, rI, rI0, rU, tUn, tVar, tC, tCB, tCons, tNil, tTest, tIfS, tRet, tRetN, tDrop, tNext, tBreak, tCont, rEq, rNe, CDiv, CDivN, CMul, tBM, tBM0, tTup, tLst, tAug, tIf, tAnd, tOr, tNot, tAndV, tOrV, tNotV, tIsN, tNotN, tB, scal, tCall, cxK, cxKn, rIxT, rIxL, rIn, rAppend, rReverse, tVals, tDSetd, tDGet, tDGet1, tDGet2, tDIn, tDNotIn, rSortV, rSortT, rPop, rSortL, rSortT, tSl, tNoPart, tPart, List.append_nil, L2.start, List.map_cons, List.map_nil, List.length_cons, List.length_nil, List.replicate_succ, List.replicate_zero, List.cons_append, List.nil_append, Nat.reduceAdd, Nat.reduceSub, exists_eq, exists_eq', List.getElem?_cons_zero, List.getElem?_cons_succ, List.set_cons_zero, List.set_cons_succ, Option.some.injEq, V.int.injEq, V.bl.injEq, V.str.injEq, V.ref.injEq, List.cons.injEq, and_true, true_and, and_false, false_and, reduceCtorEq, exists_false, or_false, false_or, exists_and_left, exists_and_right, exists_eq_left, exists_eq_left', exists_eq_right, exists_eq_right', exists_const, ite_true, ite_false, Bool.false_eq_true, if_true, if_false, decide_true, decide_false]
      refine ite2 (fun e => ?_) (fun e => ?_)
      · obtain rfl : k = .tails := by revert e; cases k <;> decide +kernel
        refine ⟨.inl ⟨rfl, _, SqL.of ho⟩, _, ho, ite2 (fun z => absurd z (by decide +kernel)) (fun _ => ⟨_, .inl ⟨SqL.of upd_same, fun t ht => ?_⟩⟩)⟩
        refine q _ t ((s4 _).trans (same_upd ht)) (.inl (.inl ?_))
        rw [upd_same, ← List.map_reverse]
        rfl
      · refine ite2 (fun e7 => ⟨_, SqL.of ho, fun l hl' => ⟨_, .inl ⟨SqL.of upd_same, fun t ht => ?_⟩⟩⟩) (fun e7 => ⟨_, .inl ⟨SqL.of ho, fun t ht => ?_⟩⟩)
        · obtain rfl : k = .set := by revert e7; cases k <;> decide +kernel
          exact q _ t ((s3.trans (same_upd hl')).trans (same_upd ht)) (.inl (.inl upd_same))
        · obtain rfl : k = .heads := by cases k <;> first | rfl | exact absurd (by decide +kernel) e1 | exact absurd (by decide +kernel) e2 | exact absurd (by decide +kernel) e3 | exact absurd (by decide +kernel) e4 | exact absurd (by decide +kernel) e5 | exact absurd (by decide +kernel) e | exact absurd (by decide +kernel) e7
          exact q _ t (s3.trans (same_upd ht)) (.inl (.inl upd_same))
/-! ### a word of ints -/
end
end Mv

set_option Elab.async false
set_option linter.all false
set_option maxRecDepth 100000
set_option maxHeartbeats 4000000
namespace Mv
open PySem PySem.Spec PyProof.Rows L2
/-! ### slices -/
theorem cutV_take (xs : List V) (k : Nat) : cutV xs none (some (k : Int)) = xs.take k := by
  unfold cutV
  rw [HT.sIx_nat]
  show (xs.drop 0).take (min k xs.length - 0) = _
  rw [List.drop_zero, Nat.sub_zero, ← List.take_eq_take_min]
theorem cutV_drop (xs : List V) (k : Nat) : cutV xs (some (k : Int)) none = xs.drop k := by
  unfold cutV
  rw [HT.sIx_nat]
  show (xs.drop (min k xs.length)).take (xs.length - min k xs.length) = _
  rcases Nat.le_total k xs.length with h | h
  · rw [Nat.min_eq_left h, List.take_of_length_le (by rw [List.length_drop]; exact Nat.le_refl _)]
  · rw [Nat.min_eq_right h, List.drop_length, List.take_nil, List.drop_of_length_le h]
theorem cutV_last (xs : List V) : cutV xs (some (-1)) none = xs.drop (xs.length - 1) := by
  unfold cutV
  have e : HT.sIx xs.length 0 (some (-1)) = xs.length - 1 := by
    show (if (-1 : Int) < 0 then ((-1 : Int) + (xs.length : Int)).toNat else min (-1 : Int).toNat xs.length) = _
    rw [if_pos (by decide)]
    omega
  rw [e]
  have e2 : HT.sIx xs.length xs.length none = xs.length := rfl
  rw [e2]
  show (xs.drop (xs.length - 1)).take (xs.length - (xs.length - 1)) = _
  rw [List.take_of_length_le (by rw [List.length_drop]; exact Nat.le_refl _)]
theorem sl_any {K : PySem.W.Frag} {H : Hp} {p : Addr} {xs : List V} {lo hi : Option Int} {Q : VK} (hp : SqT K H p xs) (q : ∀ (t : Addr) (H' : Hp), Same H H' → SqT K H' t (cutV xs lo hi) → (H p = some (.tup xs) → H' t = some (.tup (cutV xs lo hi))) → Q (.ref t) H') : rSlA K (.ref p) lo hi H Q := by
  refine ⟨p, xs, rfl, hp, fun e => q p H (Same.refl H) ?_ ?_, fun _ t ht => q t _ (same_upd ht) (.inl (.inl upd_same)) fun _ => upd_same⟩
  all_goals
    have ec : cutV xs lo hi = xs := by
      unfold cutV
      rw [e.1, e.2, List.drop_zero, Nat.sub_zero, List.take_length]
    rw [ec]
  · exact hp
  · exact id
theorem cat_tups {K : PySem.W.Frag} {H : Hp} {a b : Addr} {xs ys : List V} {Q : VK} (ha : H a = some (.tup xs)) (hb : H b = some (.tup ys)) (hz : xs.length + ys.length ≤ 1000)
    (q : ∀ (z : Addr) (H' : Hp), Same H H' → H' z = some (.tup (xs ++ ys)) → Q (.ref z) H') : rCatA K (.ref a) (.ref b) H Q := by
  refine ⟨a, b, _, _, rfl, rfl, .inl (.inl ha), .inl (.inl hb), small1000' hz, fun e => q b H (Same.refl H) ?_, fun _ e => q a H (Same.refl H) ?_, fun _ _ p hp => q p _ (same_upd hp) upd_same⟩
  · rw [e]
    exact hb
  · rw [e, List.append_nil]
    exact ha
/-! ### a list of words, each of them a tuple -/
structure Pcs (H : Hp) (l : Addr) (L : List (Addr × List Int)) : Prop where
  at_ : H l = some (.lst (L.map fun q => V.ref q.1))
  all : ∀ q ∈ L, H q.1 = some (.tup (q.2.map V.int))
def wds (L : List (Addr × List Int)) : List (List Int) := L.map (·.2)
theorem Pcs.ext {H H' : Hp} {l : Addr} {L : List (Addr × List Int)} (p : Pcs H l L) (e : LamX.ExtN H H') : Pcs H' l L := ⟨e _ _ p.at_ (fun ps z => by cases z), fun q hq => e _ _ (p.all q hq) (fun ps z => by cases z)⟩
theorem Pcs.same {H H' : Hp} {l : Addr} {L : List (Addr × List Int)} (p : Pcs H l L) (e : Same H H') : Pcs H' l L := ⟨e _ _ p.at_, fun q hq => e _ _ (p.all q hq)⟩
theorem Strm.neT {H : Hp} {a b : Addr} {ys : List V} (h : Strm H a) (e : H b = Option.some (.tup ys)) : b ≠ a := fun z => by
  obtain ⟨ns, ha, _⟩ := h
  rw [z, ha] at e
  cases Option.some.inj e
theorem Pcs.sx {H H' : Hp} {a l : Addr} {L : List (Addr × List Int)} (p : Pcs H l L) (hs : Strm H a) (n : l ≠ a) (e : Sx a H H') : Pcs H' l L := ⟨e _ _ n p.at_, fun q hq => e _ _ (hs.neT (p.all q hq)) (p.all q hq)⟩
theorem spWord_of {a : Addr} {n : Nat} {m z : Int} {H : Hp} {Q : VK} {E : XK} (e : m = (n : Int)) (hn : n ≤ 1000) (hs : Strm H a) (q : ∀ (xs : List Int) (H' : Hp) (p : Addr), xs.length = n → Sx a H H' → Strm H' a → H' p = some (.tup (xs.map V.int)) → Q (.ref p) H') : spWord [.ref a, .int m, .int z] H Q E :=
  ⟨a, n, z, by rw [e], hn, hs, fun xs H' p l x t _ h => q xs H' p l x t h⟩
theorem tt {K : PySem.W.Frag} {H : Hp} {p : Addr} {xs : List V} (h : H p = some (.tup xs)) : SqT K H p xs := .inl (.inl h)
theorem ll {K : PySem.W.Frag} {H : Hp} {p : Addr} {xs : List V} (h : H p = some (.lst xs)) : SqL K H p xs := .inl (.inl h)
theorem tup_of {xs : List Int} {ys : List V} (h : ys = xs.map V.int) {H : Hp} {t : Addr} (e : H t = some (.tup ys)) : H t = some (.tup (xs.map V.int)) := by rw [e, h]
end Mv

set_option Elab.async false
set_option linter.all false
set_option maxRecDepth 100000
set_option maxHeartbeats 4000000
namespace Mv
open PySem PySem.Spec PyProof.Rows L2
abbrev sParcel : Stmt := topS 28
abbrev sDrawn : Stmt := topS 29
abbrev sAround : Stmt := topS 30
section
variable {P : Program} {w : World} {K : PySem.W.Frag} {mg : Str → Option Value} {base : Heap}
theorem scParcel : FnScope ["_law_stream_here", "_law_style", "_law_shape", "_law_stem", "_law_size"] ["_law_stream_here", "_law_style", "_law_shape", "_law_stem"] (defScope sParcel) := ⟨rfl, rfl, rfl, by decide +kernel, rfl, by decide +kernel, by decide +kernel⟩
def spParcel : Sp := fun vs H Q _ => ∃ (a p : Addr) (z s : Int) (xs : List Int), vs = [.ref a, .int z, .int s, .ref p] ∧ Strm H a ∧ H p = some (.tup (xs.map V.int)) ∧ 1 ≤ xs.length ∧ xs.length ≤ 3 ∧ (s = 2 → xs.length ≤ 2) ∧ (s ≠ 2 → xs.length = 3) ∧
  ∀ (ys : List Int) (H' : Hp) (t : Addr), 1 ≤ ys.length → ys.length ≤ 4 → Sx a H H' → Strm H' a → H' t = some (.tup (ys.map V.int)) → Q (.ref t) H'
theorem ok_parcel {f : Addr} {fd : FuncData} (F : Fun K "_law_parcel" "_law_parcel" sParcel f fd) (B : Bi mg) (hmin : mg "min" = none) (cDraw : CalX CX0 P w K mg base 1 "_law_draw" spDraw) (cWord : CalX CX0 P w K mg base 4 "_law_word" spWord) : FnOk P w K mg base CX0 5 f fd ["_law_stream_here", "_law_style", "_law_shape", "_law_stem"] spParcel := by
  refine F.ok scParcel (fun vs H Q E h => ?_) (fun cdv A outer s H vs Q E hr h => ?_)
  · obtain ⟨a, p, z, s, xs, rfl, _⟩ := h
    rfl
  · obtain ⟨a, p, z, sh, xs, rfl, hs, hp, l1, l3, k2, k3, q⟩ := h
    refine ⟨_, (pss_cons (ps_set (i := 4) scParcel.nd rfl (.inl rfl) (pe_op op_add pe_int (pe_cx cDraw hr (by decide) pass0 (by rfl) (pa_cons (pv 0) (pa_cons pe_int pa_nil)))))
 (pss_cons (ps_if (PW.pt (pw_or (pt_cmpR op_lt (pv 2) pe_int (nomark _)) (pw_or1 (pt_cmpR op_eq (pe_cx cDraw hr (by decide) pass0 (by rfl) (pa_cons (pv 0) (pa_cons pe_int pa_nil))) pe_int (nomark _)))))
 (pss_one (ps_ret (pe_cx cWord hr (by decide) pass0 (by rfl) (pa_cons (pv 0) (pa_cons (pv 4) (pa_cons (pv 1) pa_nil)))))) pss_nil)
 (pss_cons (ps_if (pt_cmpR op_eq (pv 2) pe_int (nomark _))
 (pss_one (ps_ret (pe_op op_repT1 (pv 3) (pe_callB (call_min2 rfl) (by rfl) hmin (by decide +kernel) (pa_cons (pv 4) (pa_cons (pe_op op_fdivN pe_int (pe_callB call_len_seq (by rfl) B.len PySem.boot_len (pa_cons (pv 3) pa_nil))) pa_nil)))))) pss_nil)
 (pss_cons (ps_if (pt_cmpR op_eq (pv 2) pe_int (nomark _))
 (pss_one (ps_ret (pe_slice sl_tupA (pv 3) po_none (po_some (pv 4))))) pss_nil)
 (pss_cons (ps_if (pt_cmpR op_eq (pv 2) pe_int (nomark _))
 (pss_one (ps_ret (pe_slice sl_tupA (pv 3) (po_some (pe_op op_sub pe_int (pv 4))) po_none))) pss_nil)
 (pss_one (ps_ret (pe_op op_catA (pe_op op_catA (pe_slice sl_tupA (pv 3) po_none (po_some pe_int)) (pe_cx cWord hr (by decide) pass0 (by rfl) (pa_cons (pv 0) (pa_cons (pe_op op_sub (pv 4) pe_int) (pa_cons (pv 1) pa_nil))))) (pe_slice sl_tupA (pv 3) (po_some (pe_un un_neg pe_int)) po_none))))))))), ?_⟩
    simp only [tSeq, tAsg, gName, tOp, rI, rI0, rU, tUn, tVar, tC, tCB, tCons, tNil, tTest, tIfS, tRet, tRetN, tDrop, tNext, tBreak, tCont, rEq, rNe, CDiv, CDivN, CMul, tBM, tBM0, tTup, tLst, tAug, tIf, tAnd, tOr, tNot, tAndV, tOrV, tNotV, tIsN, tNotN, tB, scal, tCall, cxK, cxKn, rIxT, rIxL, rIn, rAppend, rReverse, tVals, tDSetd, tDGet, tDGet1, tDGet2, tDIn, tDNotIn, rSortV, rSortT, rPop, rSortL, rSortT, tSl, tNoPart, tPart, List.append_nil, L2.start, List.map_cons, List.map_nil, List.length_cons, List.length_nil, List.replicate_succ, List.replicate_zero, List.cons_append, List.nil_append, Nat.reduceAdd, Nat.reduceSub, exists_eq, exists_eq', List.getElem?_cons_zero, List.getElem?_cons_succ, List.set_cons_zero, List.set_cons_succ, Option.some.injEq, V.int.injEq, V.bl.injEq, V.str.injEq, V.ref.injEq, List.cons.injEq, and_true, true_and, and_false, false_and, reduceCtorEq, exists_false, or_false, false_or, exists_and_left, exists_and_right, exists_eq_left, exists_eq_left', exists_eq_right, exists_eq_right', exists_const, ite_true, ite_false, Bool.false_eq_true, if_true, if_false, decide_true, decide_false]
    refine spDraw_of (by decide) hs fun r H1 h0 h3 x1 t1 => ?_
    obtain ⟨n, rfl⟩ := Int.eq_ofNat_of_zero_le h0
    have hn : n < 3 := by omega
    have hp1 := x1 _ _ (hs.neT hp) hp
    have wd : ∀ H2, Sx a H H2 → Strm H2 a → spWord [.ref a, .int (1 + (n : Int)), .int z] H2 Q E0 := fun H2 x2 t2 =>
      spWord_of (n := 1 + n) rfl (by omega) t2 fun ys H3 t l x3 t3 h => q ys H3 t (by omega) (by omega) (x2.trans x3) t3 h
    simp only [tSeq, tAsg, gName, tOp, rI, rI0, rU, tUn, tVar, tC, tCB, tCons, tNil, tTest, tIfS, tRet, tRetN, tDrop, tNext, tBreak, tCont, rEq, rNe, CDiv, CDivN, CMul, tBM, tBM0, tTup, tLst, tAug, tIf, tAnd, tOr, tNot, tAndV, tOrV, tNotV, tIsN, tNotN, tB, scal, tCall, cxK, cxKn, rIxT, rIxL, rIn, rAppend, rReverse, tVals, tDSetd, tDGet, tDGet1, tDGet2, tDIn, tDNotIn, rSortV, rSortT, rPop, rSortL, rSortT, tSl, tNoPart, tPart, List.append_nil, L2.start, List.map_cons, List.map_nil, List.length_cons, List.length_nil, List.replicate_succ, List.replicate_zero, List.cons_append, List.nil_append, Nat.reduceAdd, Nat.reduceSub, exists_eq, exists_eq', List.getElem?_cons_zero, List.getElem?_cons_succ, List.set_cons_zero, List.set_cons_succ, Option.some.injEq, V.int.injEq, V.bl.injEq, V.str.injEq, V.ref.injEq, List.cons.injEq, and_true, true_and, and_false, false_and, reduceCtorEq, exists_false, or_false, false_or, exists_and_left, exists_and_right, exists_eq_left, exists_eq_left', exists_eq_right, exists_eq_right', exists_const, ite_true, ite_false, Bool.false_eq_true, if_true, if_false, decide_true, decide_false]
    refine ite2 (fun _ => wd _ x1 t1) (fun _ => spDraw_of (by decide) t1 fun r2 H2 _ _ x2 t2 => ?_)
    have hp2 := x2 _ _ (t1.neT hp1) hp1
    have x12 := x1.trans x2
    simp only [tSeq, tAsg, gName, tOp, rI, rI0, rU, tUn, tVar, tC, tCB, tCons, tNil, tTest, tIfS, tRet, tRetN, tDrop, tNext, tBreak, tCont, rEq, rNe, CDiv, CDivN, CMul, tBM, tBM0, tTup, tLst, tAug, tIf, tAnd, tOr, tNot, tAndV, tOrV, tNotV, tIsN, tNotN, tB, scal, tCall, cxK, cxKn, rIxT, rIxL, rIn, rAppend, rReverse, tVals, tDSetd, tDGet, tDGet1, tDGet2, tDIn, tDNotIn, rSortV, rSortT, rPop, rSortL, rSortT, tSl, tNoPart, tPart, List.append_nil, L2.start, List.map_cons, List.map_nil, List.length_cons, List.length_nil, List.replicate_succ, List.replicate_zero, List.cons_append, List.nil_append, Nat.reduceAdd, Nat.reduceSub, exists_eq, exists_eq', List.getElem?_cons_zero, List.getElem?_cons_succ, List.set_cons_zero, List.set_cons_succ, Option.some.injEq, V.int.injEq, V.bl.injEq, V.str.injEq, V.ref.injEq, List.cons.injEq, and_true, true_and, and_false, false_and, reduceCtorEq, exists_false, or_false, false_or, exists_and_left, exists_and_right, exists_eq_left, exists_eq_left', exists_eq_right, exists_eq_right', exists_const, ite_true, ite_false, Bool.false_eq_true, if_true, if_false, decide_true, decide_false]
    refine ite2 (fun _ => wd _ x12 t2) (fun _ => ?_)
    refine ite2 (fun e => ?_) (fun e => ite2 (fun e3 => ?_) (fun e3 => ite2 (fun e4 => ?_) (fun e4 => ?_)))
    · have hk := k2 (of_decide_eq_true e)
      refine ⟨_, .inr (tt hp2), ⟨by rw [List.length_map]; omega, by rw [List.length_map]; omega⟩, _, _, ⟨rfl, rfl⟩, ?_⟩
      rw [List.length_map]
      obtain ⟨m, em, m1, m4⟩ : ∃ m : Nat, (if Int.fdiv 4 (xs.length : Int) < 1 + (n : Int) then Int.fdiv 4 (xs.length : Int) else 1 + (n : Int)) = (m : Int) ∧ 1 ≤ m ∧ m * xs.length ≤ 4 := by
        obtain h | h : xs.length = 1 ∨ xs.length = 2 := by omega
        · rw [h, show Int.fdiv 4 ((1 : Nat) : Int) = 4 from by decide, if_neg (by omega)]
          exact ⟨1 + n, rfl, by omega, by omega⟩
        · rw [h, show Int.fdiv 4 ((2 : Nat) : Int) = 2 from by decide]
          obtain rfl | rfl | rfl : n = 0 ∨ n = 1 ∨ n = 2 := by omega
          · exact ⟨1, by decide, by omega, by omega⟩
          · exact ⟨2, by decide, by omega, by omega⟩
          · exact ⟨2, by decide, by omega, by omega⟩
      have m5 : m ≤ 4 := Nat.le_trans (Nat.le_mul_of_pos_right m l1) m4
      refine ⟨p, _, _, rfl, congrArg V.int em, tt hp2, fun z => ?_, by omega, by omega, by rw [List.length_map]; omega, fun e1 => ?_, fun e2 t ht => ?_⟩
      · rw [List.map_eq_nil_iff] at z
        rw [z] at l1
        exact absurd l1 (by decide)
      · exact q xs H2 p l1 (by omega) x12 t2 hp2
      · have ef : (List.replicate (m : Int).toNat (xs.map V.int)).flatten = ((List.replicate m xs).flatten).map V.int := by
          rw [List.map_flatten, List.map_replicate, Int.toNat_natCast]
        have el : ((List.replicate m xs).flatten).length = m * xs.length := by
          rw [List.length_flatten, List.map_replicate, List.sum_replicate_nat]
        rw [ef]
        exact q _ _ t (by rw [el]; exact Nat.mul_pos m1 l1) (by rw [el]; exact m4) (x12.trans (Sx.of (same_upd ht))) (t2.same (same_upd ht)) upd_same
    · have hk := k3 (fun z => e (decide_eq_true z))
      have en : (1 + (n : Int)) = ((1 + n : Nat) : Int) := rfl
      rw [en]
      refine sl_any (tt hp2) fun t H3 s3 _ h3 => ?_
      have h4 := h3 hp2
      rw [cutV_take, ← List.map_take] at h4
      exact q _ _ t (by rw [List.length_take]; omega) (by rw [List.length_take]; omega) (x12.trans (Sx.of s3)) (t2.same s3) h4
    · have hk := k3 (fun z => e (decide_eq_true z))
      have en : (3 - (1 + (n : Int))) = ((2 - n : Nat) : Int) := by omega
      rw [en]
      refine sl_any (tt hp2) fun t H3 s3 _ h3 => ?_
      have h4 := h3 hp2
      rw [cutV_drop, ← List.map_drop] at h4
      exact q _ _ t (by rw [List.length_drop]; omega) (by rw [List.length_drop]; omega) (x12.trans (Sx.of s3)) (t2.same s3) h4
    · have hk := k3 (fun z => e (decide_eq_true z))
      refine sl_any (tt hp2) fun t H3 s3 _ h3 => ?_
      have h4 := h3 hp2
      rw [show (1 : Int) = ((1 : Nat) : Int) from rfl, cutV_take, ← List.map_take] at h4
      refine spWord_of (n := n) (by omega) (by omega) (t2.same s3) fun ys H4 t4 ly x4 t5 hy => ?_
      have hp4 := x4 _ _ ((t2.same s3).neT (s3 _ _ hp2)) (s3 _ _ hp2)
      have h44 := x4 _ _ ((t2.same s3).neT h4) h4
      refine cat_tups h44 hy (by rw [List.length_map, List.length_map, List.length_take]; omega) fun c H5 s5 hc => ?_
      refine sl_any (tt (s5 _ _ hp4)) fun u H6 s6 _ h6 => ?_
      have h7 := h6 (s5 _ _ hp4)
      rw [cutV_last, ← List.map_drop] at h7
      refine cat_tups (s6 _ _ hc) h7 (by simp only [List.length_append, List.length_map, List.length_take, List.length_drop]; omega) fun v H7 s7 hv => ?_
      rw [← List.map_append, ← List.map_append] at hv
      refine q _ H7 v ?_ ?_ ((x12.trans (Sx.of s3)).trans (x4.trans (Sx.of ((s5.trans s6).trans s7)))) (t5.same ((s5.trans s6).trans s7)) hv
      · simp only [List.length_append, List.length_map, List.length_take, List.length_drop]; omega
      · simp only [List.length_append, List.length_map, List.length_take, List.length_drop]; omega
end
end Mv

set_option Elab.async false
set_option linter.all false
set_option maxRecDepth 100000
set_option maxHeartbeats 4000000
namespace Mv
open PySem PySem.Spec PyProof.Rows L2
section
variable {P : Program} {w : World} {K : PySem.W.Frag} {mg : Str → Option Value} {base : Heap}
theorem scAround : FnScope ["_law_stream_here", "_law_style"] ["_law_stream_here", "_law_style"] (defScope sAround) := ⟨rfl, rfl, rfl, by decide +kernel, rfl, by decide +kernel, by decide +kernel⟩
def spAround : Sp := fun vs H Q _ => ∃ (a : Addr) (z : Int), vs = [.ref a, .int z] ∧ Strm H a ∧ ∀ (xs : List Int) (H' : Hp) (t : Addr), xs.length ≤ 2 → Sx a H H' → Strm H' a → H' t = some (.tup (xs.map V.int)) → Q (.ref t) H'
theorem ok_around {f : Addr} {fd : FuncData} (F : Fun K "_law_around" "_law_around" sAround f fd) (B : Bi mg) (cDraw : CalX CX0 P w K mg base 1 "_law_draw" spDraw) (cWord : CalX CX0 P w K mg base 4 "_law_word" spWord) : FnOk P w K mg base CX0 5 f fd ["_law_stream_here", "_law_style"] spAround := by
  refine F.ok scAround (fun vs H Q E h => ?_) (fun cdv A outer s H vs Q E hr h => ?_)
  · obtain ⟨a, z, rfl, _⟩ := h
    rfl
  · obtain ⟨a, z, rfl, hs, q⟩ := h
    refine ⟨_, (pss_one (ps_ret (pe_cx cWord hr (by decide) pass0 (by rfl) (pa_cons (pv 0) (pa_cons (pe_ix ix_list (pe_lst (pa_cons pe_int (pa_cons pe_int (pa_cons pe_int (pa_cons pe_int pa_nil))))) (pe_cx cDraw hr (by decide) pass0 (by rfl) (pa_cons (pv 0) (pa_cons pe_int pa_nil))) (fun _ _ => rfl)) (pa_cons (pv 1) pa_nil)))))), ?_⟩
    try simp only [tSeq, tAsg, gName, tOp, rI, rI0, rU, tUn, tVar, tC, tCB, tCons, tNil, tTest, tIfS, tRet, tRetN, tDrop, tNext, tBreak, tCont, rEq, rNe, CDiv, CDivN, CMul, tBM, tBM0, tTup, tLst, tAug, tIf, tAnd, tOr, tNot, tAndV, tOrV, tNotV, tIsN, tNotN, tB, scal, tCall, cxK, cxKn, rIxT, rIxL, rIn, rAppend, rReverse, tVals, tDSetd, tDGet, tDGet1, tDGet2, tDIn, tDNotIn, rSortV, rSortT, rPop, rSortL, rSortT, tSl, tNoPart, tPart, List.append_nil, L2.start, List.map_cons, List.map_nil, List.length_cons, List.length_nil, List.replicate_succ, List.replicate_zero, List.cons_append, List.nil_append, Nat.reduceAdd, Nat.reduceSub, exists_eq, exists_eq', List.getElem?_cons_zero, List.getElem?_cons_succ, List.set_cons_zero, List.set_cons_succ, Option.some.injEq, V.int.injEq, V.bl.injEq, V.str.injEq, V.ref.injEq, List.cons.injEq, and_true, true_and, and_false, false_and, reduceCtorEq, exists_false, or_false, false_or, exists_and_left, exists_and_right, exists_eq_left, exists_eq_left', exists_eq_right, exists_eq_right', exists_const, ite_true, ite_false, Bool.false_eq_true, if_true, if_false, decide_true, decide_false]
    refine ⟨by decide, fun l hl => ?_⟩
    have s1 := same_upd (o := .lst [.int 0, .int 0, .int 1, .int 2]) hl
    refine spDraw_of (by decide) (hs.same s1) fun r H2 h0 h4 x2 t2 => ?_
    have hl2 := x2 _ _ (hs.ne hl).symm upd_same
    obtain ⟨n, rfl⟩ := Int.eq_ofNat_of_zero_le h0
    have hn : n < 4 := by omega
    obtain ⟨m, hm, e⟩ : ∃ m : Nat, m ≤ 2 ∧ ([.int 0, .int 0, .int 1, .int 2] : List V)[n]? = some (.int (m : Int)) := by
      obtain rfl | rfl | rfl | rfl : n = 0 ∨ n = 1 ∨ n = 2 ∨ n = 3 := by omega
      · exact ⟨0, by decide, rfl⟩
      · exact ⟨0, by decide, rfl⟩
      · exact ⟨1, by decide, rfl⟩
      · exact ⟨2, by decide, rfl⟩
    try simp only [tSeq, tAsg, gName, tOp, rI, rI0, rU, tUn, tVar, tC, tCB, tCons, tNil, tTest, tIfS, tRet, tRetN, tDrop, tNext, tBreak, tCont, rEq, rNe, CDiv, CDivN, CMul, tBM, tBM0, tTup, tLst, tAug, tIf, tAnd, tOr, tNot, tAndV, tOrV, tNotV, tIsN, tNotN, tB, scal, tCall, cxK, cxKn, rIxT, rIxL, rIn, rAppend, rReverse, tVals, tDSetd, tDGet, tDGet1, tDGet2, tDIn, tDNotIn, rSortV, rSortT, rPop, rSortL, rSortT, tSl, tNoPart, tPart, List.append_nil, L2.start, List.map_cons, List.map_nil, List.length_cons, List.length_nil, List.replicate_succ, List.replicate_zero, List.cons_append, List.nil_append, Nat.reduceAdd, Nat.reduceSub, exists_eq, exists_eq', List.getElem?_cons_zero, List.getElem?_cons_succ, List.set_cons_zero, List.set_cons_succ, Option.some.injEq, V.int.injEq, V.bl.injEq, V.str.injEq, V.ref.injEq, List.cons.injEq, and_true, true_and, and_false, false_and, reduceCtorEq, exists_false, or_false, false_or, exists_and_left, exists_and_right, exists_eq_left, exists_eq_left', exists_eq_right, exists_eq_right', exists_const, ite_true, ite_false, Bool.false_eq_true, if_true, if_false, decide_true, decide_false]
    refine ⟨_, ll hl2, _, atI_nat e, ?_⟩
    exact spWord_of rfl (by omega) t2 fun xs H3 t lx x3 t3 h => q xs H3 t (by omega) ((Sx.of s1).trans (x2.trans x3)) t3 h
theorem scDrawn : FnScope ["_law_stream_here", "_law_many", "_law_style", "_law_shape", "_law_stem", "_law_parcels", "_law_k"] ["_law_stream_here", "_law_many", "_law_style"] (defScope sDrawn) := ⟨rfl, rfl, rfl, by decide +kernel, rfl, by decide +kernel, by decide +kernel⟩
def spDrawn : Sp := fun vs H Q _ => ∃ (a : Addr) (n : Nat) (z : Int), vs = [.ref a, .int (n : Int), .int z] ∧ n ≤ 100 ∧ Strm H a ∧ ∀ (L : List (Addr × List Int)) (H' : Hp) (l : Addr), L.length = n → (∀ q ∈ L, 1 ≤ q.2.length ∧ q.2.length ≤ 4) → Sx a H H' → Strm H' a → l ≠ a → Pcs H' l L → Q (.ref l) H'
theorem ok_drawn {f : Addr} {fd : FuncData} (F : Fun K "_law_drawn" "_law_drawn" sDrawn f fd) (B : Bi mg) (cDraw : CalX CX0 P w K mg base 1 "_law_draw" spDraw) (cWord : CalX CX0 P w K mg base 4 "_law_word" spWord) (cParcel : CalX CX0 P w K mg base 5 "_law_parcel" spParcel) : FnOk P w K mg base CX0 6 f fd ["_law_stream_here", "_law_many", "_law_style"] spDrawn := by
  refine F.ok scDrawn (fun vs H Q E h => ?_) (fun cdv A outer s H vs Q E hr h => ?_)
  · obtain ⟨a, n, z, rfl, _⟩ := h
    rfl
  · obtain ⟨a, n, z, rfl, hn, hs, q⟩ := h
    refine ⟨_, (pss_cons (ps_set (i := 3) scDrawn.nd rfl (.inl rfl) (pe_cx cDraw hr (by decide) pass0 (by rfl) (pa_cons (pv 0) (pa_cons pe_int pa_nil))))
 (pss_cons (ps_set (i := 4) scDrawn.nd rfl (.inl rfl) (pe_cx cWord hr (by decide) pass0 (by rfl) (pa_cons (pv 0) (pa_cons pe_int (pa_cons (pv 2) pa_nil)))))
 (pss_cons (ps_if (pt_cmpR op_eq (pv 3) pe_int (nomark _))
 (pss_one (ps_set (i := 4) scDrawn.nd rfl (.inl rfl) (pe_slice sl_tupA (pv 4) po_none (po_some (pe_op op_add pe_int (pe_cx cDraw hr (by decide) pass0 (by rfl) (pa_cons (pv 0) (pa_cons pe_int pa_nil)))))))) pss_nil)
 (pss_cons (ps_set (i := 5) scDrawn.nd rfl (.inl rfl) (pe_lst pa_nil))
 (pss_cons (ps_for PassesOwn.never rfl (pi_range1 (by rfl) B.range (pa_cons (pv 1) pa_nil)) (pg_name (i := 6) scDrawn.nd rfl (.inl rfl))
 (pss_one (ps_expr (pe_bm PySem.F.plainAttrs_list PySem.F.slot_list_append PySem.F.type_list_append mt_append (pv 5) (pa_cons (pe_cx cParcel hr (by decide) pass0 (by rfl) (pa_cons (pv 0) (pa_cons (pv 2) (pa_cons (pv 3) (pa_cons (pv 4) pa_nil))))) pa_nil)))))
 (pss_one (ps_ret (pv 5)))))))), ?_⟩
    try simp only [tSeq, tAsg, gName, tOp, rI, rI0, rU, tUn, tVar, tC, tCB, tCons, tNil, tTest, tIfS, tRet, tRetN, tDrop, tNext, tBreak, tCont, rEq, rNe, CDiv, CDivN, CMul, tBM, tBM0, tTup, tLst, tAug, tIf, tAnd, tOr, tNot, tAndV, tOrV, tNotV, tIsN, tNotN, tB, scal, tCall, cxK, cxKn, rIxT, rIxL, rIn, rAppend, rReverse, tVals, tDSetd, tDGet, tDGet1, tDGet2, tDIn, tDNotIn, rSortV, rSortT, rPop, rSortL, rSortT, tSl, tNoPart, tPart, List.append_nil, L2.start, List.map_cons, List.map_nil, List.length_cons, List.length_nil, List.replicate_succ, List.replicate_zero, List.cons_append, List.nil_append, Nat.reduceAdd, Nat.reduceSub, exists_eq, exists_eq', List.getElem?_cons_zero, List.getElem?_cons_succ, List.set_cons_zero, List.set_cons_succ, Option.some.injEq, V.int.injEq, V.bl.injEq, V.str.injEq, V.ref.injEq, List.cons.injEq, and_true, true_and, and_false, false_and, reduceCtorEq, exists_false, or_false, false_or, exists_and_left, exists_and_right, exists_eq_left, exists_eq_left', exists_eq_right, exists_eq_right', exists_const, ite_true, ite_false, Bool.false_eq_true, if_true, if_false, decide_true, decide_false]
    refine spDraw_of (by decide) hs fun sh H1 h0 h6 x1 t1 => ?_
    try simp only [tSeq, tAsg, gName, tOp, rI, rI0, rU, tUn, tVar, tC, tCB, tCons, tNil, tTest, tIfS, tRet, tRetN, tDrop, tNext, tBreak, tCont, rEq, rNe, CDiv, CDivN, CMul, tBM, tBM0, tTup, tLst, tAug, tIf, tAnd, tOr, tNot, tAndV, tOrV, tNotV, tIsN, tNotN, tB, scal, tCall, cxK, cxKn, rIxT, rIxL, rIn, rAppend, rReverse, tVals, tDSetd, tDGet, tDGet1, tDGet2, tDIn, tDNotIn, rSortV, rSortT, rPop, rSortL, rSortT, tSl, tNoPart, tPart, List.append_nil, L2.start, List.map_cons, List.map_nil, List.length_cons, List.length_nil, List.replicate_succ, List.replicate_zero, List.cons_append, List.nil_append, Nat.reduceAdd, Nat.reduceSub, exists_eq, exists_eq', List.getElem?_cons_zero, List.getElem?_cons_succ, List.set_cons_zero, List.set_cons_succ, Option.some.injEq, V.int.injEq, V.bl.injEq, V.str.injEq, V.ref.injEq, List.cons.injEq, and_true, true_and, and_false, false_and, reduceCtorEq, exists_false, or_false, false_or, exists_and_left, exists_and_right, exists_eq_left, exists_eq_left', exists_eq_right, exists_eq_right', exists_const, ite_true, ite_false, Bool.false_eq_true, if_true, if_false, decide_true, decide_false]
    refine spWord_of (n := 3) rfl (by decide) t1 fun xs H2 p lx x2 t2 hp => ?_
    try simp only [tSeq, tAsg, gName, tOp, rI, rI0, rU, tUn, tVar, tC, tCB, tCons, tNil, tTest, tIfS, tRet, tRetN, tDrop, tNext, tBreak, tCont, rEq, rNe, CDiv, CDivN, CMul, tBM, tBM0, tTup, tLst, tAug, tIf, tAnd, tOr, tNot, tAndV, tOrV, tNotV, tIsN, tNotN, tB, scal, tCall, cxK, cxKn, rIxT, rIxL, rIn, rAppend, rReverse, tVals, tDSetd, tDGet, tDGet1, tDGet2, tDIn, tDNotIn, rSortV, rSortT, rPop, rSortL, rSortT, tSl, tNoPart, tPart, List.append_nil, L2.start, List.map_cons, List.map_nil, List.length_cons, List.length_nil, List.replicate_succ, List.replicate_zero, List.cons_append, List.nil_append, Nat.reduceAdd, Nat.reduceSub, exists_eq, exists_eq', List.getElem?_cons_zero, List.getElem?_cons_succ, List.set_cons_zero, List.set_cons_succ, Option.some.injEq, V.int.injEq, V.bl.injEq, V.str.injEq, V.ref.injEq, List.cons.injEq, and_true, true_and, and_false, false_and, reduceCtorEq, exists_false, or_false, false_or, exists_and_left, exists_and_right, exists_eq_left, exists_eq_left', exists_eq_right, exists_eq_right', exists_const, ite_true, ite_false, Bool.false_eq_true, if_true, if_false, decide_true, decide_false]
    have x12 := x1.trans x2
    clear x1 x2 t1 hs
    refine ite2 ?A ?B
    case' A =>
      intro e
      refine spDraw_of (by decide) t2 fun r H3 r0 r2 x3 t3 => ?_
      obtain ⟨k, rfl⟩ := Int.eq_ofNat_of_zero_le r0
      have hk : k < 2 := by omega
      try simp only [tSeq, tAsg, gName, tOp, rI, rI0, rU, tUn, tVar, tC, tCB, tCons, tNil, tTest, tIfS, tRet, tRetN, tDrop, tNext, tBreak, tCont, rEq, rNe, CDiv, CDivN, CMul, tBM, tBM0, tTup, tLst, tAug, tIf, tAnd, tOr, tNot, tAndV, tOrV, tNotV, tIsN, tNotN, tB, scal, tCall, cxK, cxKn, rIxT, rIxL, rIn, rAppend, rReverse, tVals, tDSetd, tDGet, tDGet1, tDGet2, tDIn, tDNotIn, rSortV, rSortT, rPop, rSortL, rSortT, tSl, tNoPart, tPart, List.append_nil, L2.start, List.map_cons, List.map_nil, List.length_cons, List.length_nil, List.replicate_succ, List.replicate_zero, List.cons_append, List.nil_append, Nat.reduceAdd, Nat.reduceSub, exists_eq, exists_eq', List.getElem?_cons_zero, List.getElem?_cons_succ, List.set_cons_zero, List.set_cons_succ, Option.some.injEq, V.int.injEq, V.bl.injEq, V.str.injEq, V.ref.injEq, List.cons.injEq, and_true, true_and, and_false, false_and, reduceCtorEq, exists_false, or_false, false_or, exists_and_left, exists_and_right, exists_eq_left, exists_eq_left', exists_eq_right, exists_eq_right', exists_const, ite_true, ite_false, Bool.false_eq_true, if_true, if_false, decide_true, decide_false]
      rw [show (1 + (k : Int)) = ((1 + k : Nat) : Int) from rfl]
      refine sl_any (tt (x3 _ _ (t2.neT hp) hp)) fun t H4 s4 _ h4 => ?_
      have h5 := h4 (x3 _ _ (t2.neT hp) hp)
      rw [cutV_take, ← List.map_take] at h5
      have l1 : 1 ≤ (xs.take (1 + k)).length := by rw [List.length_take]; omega
      have l3 : (xs.take (1 + k)).length ≤ 3 := by rw [List.length_take]; omega
      have k2 : sh = 2 → (xs.take (1 + k)).length ≤ 2 := fun _ => by rw [List.length_take]; omega
      have k3 : sh ≠ 2 → (xs.take (1 + k)).length = 3 := fun z => absurd (of_decide_eq_true e) z
      have x4 := x12.trans (x3.trans (Sx.of s4))
      have t4 := t3.same s4
      clear x12 x3 t3 s4 h4 hp t2
      generalize xs.take (1 + k) = xs at *
    case' B =>
      intro e
      have l1 : 1 ≤ xs.length := by omega
      have l3 : xs.length ≤ 3 := by omega
      have k2 : sh = 2 → xs.length ≤ 2 := fun z => absurd (decide_eq_true z) e
      have k3 : sh ≠ 2 → xs.length = 3 := fun _ => lx
      have x4 := x12
      have t4 := t2
      have h5 := hp
      clear x12 t2 hp
      generalize p = t at *
      generalize H2 = H4 at *
    all_goals
      try simp only [tSeq, tAsg, gName, tOp, rI, rI0, rU, tUn, tVar, tC, tCB, tCons, tNil, tTest, tIfS, tRet, tRetN, tDrop, tNext, tBreak, tCont, rEq, rNe, CDiv, CDivN, CMul, tBM, tBM0, tTup, tLst, tAug, tIf, tAnd, tOr, tNot, tAndV, tOrV, tNotV, tIsN, tNotN, tB, scal, tCall, cxK, cxKn, rIxT, rIxL, rIn, rAppend, rReverse, tVals, tDSetd, tDGet, tDGet1, tDGet2, tDIn, tDNotIn, rSortV, rSortT, rPop, rSortL, rSortT, tSl, tNoPart, tPart, List.append_nil, L2.start, List.map_cons, List.map_nil, List.length_cons, List.length_nil, List.replicate_succ, List.replicate_zero, List.cons_append, List.nil_append, Nat.reduceAdd, Nat.reduceSub, exists_eq, exists_eq', List.getElem?_cons_zero, List.getElem?_cons_succ, List.set_cons_zero, List.set_cons_succ, Option.some.injEq, V.int.injEq, V.bl.injEq, V.str.injEq, V.ref.injEq, List.cons.injEq, and_true, true_and, and_false, false_and, reduceCtorEq, exists_false, or_false, false_or, exists_and_left, exists_and_right, exists_eq_left, exists_eq_left', exists_eq_right, exists_eq_right', exists_const, ite_true, ite_false, Bool.false_eq_true, if_true, if_false, decide_true, decide_false]
      refine ⟨Nat.zero_le _, fun o ho => ?_⟩
      refine ⟨_, rfl, n, rfl, by omega, by omega, ?_⟩
      have nao : a ≠ o := t4.ne ho
      refine for_range (n := n) (fun i σ H' => ∃ (L : List (Addr × List Int)) (y : Option V), σ = [some (.ref a), some (.int n), some (.int z), some (.int sh), some (.ref t), some (.ref o), y] ∧ L.length = i ∧ (∀ q ∈ L, 1 ≤ q.2.length ∧ q.2.length ≤ 4) ∧ Sx a H4 H' ∧ Strm H' a ∧ Pcs H' o L)
        ⟨[], none, rfl, rfl, (fun _ z => by cases z), Sx.of (same_upd ho), t4.same (same_upd ho), ⟨upd_same, (fun _ z => by cases z)⟩⟩ ?_ ?_
      · rintro i σ H5 hi ⟨L, y, rfl, ll, lL, x5, t5, pL⟩
        have h6 := x5 _ _ (t4.neT h5) h5
        try simp only [tSeq, tAsg, gName, tOp, rI, rI0, rU, tUn, tVar, tC, tCB, tCons, tNil, tTest, tIfS, tRet, tRetN, tDrop, tNext, tBreak, tCont, rEq, rNe, CDiv, CDivN, CMul, tBM, tBM0, tTup, tLst, tAug, tIf, tAnd, tOr, tNot, tAndV, tOrV, tNotV, tIsN, tNotN, tB, scal, tCall, cxK, cxKn, rIxT, rIxL, rIn, rAppend, rReverse, tVals, tDSetd, tDGet, tDGet1, tDGet2, tDIn, tDNotIn, rSortV, rSortT, rPop, rSortL, rSortT, tSl, tNoPart, tPart, List.append_nil, L2.start, List.map_cons, List.map_nil, List.length_cons, List.length_nil, List.replicate_succ, List.replicate_zero, List.cons_append, List.nil_append, Nat.reduceAdd, Nat.reduceSub, exists_eq, exists_eq', List.getElem?_cons_zero, List.getElem?_cons_succ, List.set_cons_zero, List.set_cons_succ, Option.some.injEq, V.int.injEq, V.bl.injEq, V.str.injEq, V.ref.injEq, List.cons.injEq, and_true, true_and, and_false, false_and, reduceCtorEq, exists_false, or_false, false_or, exists_and_left, exists_and_right, exists_eq_left, exists_eq_left', exists_eq_right, exists_eq_right', exists_const, ite_true, ite_false, Bool.false_eq_true, if_true, if_false, decide_true, decide_false]
        refine ⟨.inl ⟨rfl, _, SqL.of pL.at_⟩, a, t, z, sh, xs, rfl, t5, h6, l1, l3, k2, k3, fun ys H6 u y1 y4 x6 t6 hu => ?_⟩
        have pL6 := pL.sx t5 nao.symm x6
        refine ⟨_, pL6.at_, by rw [List.length_map, ll]; exact small4000 (by omega), L ++ [(u, ys)], by rw [List.length_append, ll]; rfl, fun q hq => ?_, fun b ob nb e => ?_, ?_, ⟨?_, fun q hq => ?_⟩⟩
        · rcases List.mem_append.mp hq with hq | hq
          · exact lL q hq
          · rw [List.mem_singleton.mp hq]
            exact ⟨y1, y4⟩
        · rw [upd_ne (ne_of_none e ho)]
          exact x6 _ _ nb (x5 _ _ nb e)
        · obtain ⟨ns, e1, e2⟩ := t6
          exact ⟨ns, by rw [upd_ne nao]; exact e1, e2⟩
        · rw [upd_same, List.map_append]
          rfl
        · have e : H6 q.1 = some (.tup (q.2.map V.int)) := by
            rcases List.mem_append.mp hq with hq | hq
            · exact pL6.all q hq
            · rw [List.mem_singleton.mp hq]
              exact hu
          rw [upd_ne (ne_of e pL6.at_ (by intro z; cases z))]
          exact e
      · rintro σ H5 ⟨L, y, rfl, ll, lL, x5, t5, pL⟩
        try simp only [tSeq, tAsg, gName, tOp, rI, rI0, rU, tUn, tVar, tC, tCB, tCons, tNil, tTest, tIfS, tRet, tRetN, tDrop, tNext, tBreak, tCont, rEq, rNe, CDiv, CDivN, CMul, tBM, tBM0, tTup, tLst, tAug, tIf, tAnd, tOr, tNot, tAndV, tOrV, tNotV, tIsN, tNotN, tB, scal, tCall, cxK, cxKn, rIxT, rIxL, rIn, rAppend, rReverse, tVals, tDSetd, tDGet, tDGet1, tDGet2, tDIn, tDNotIn, rSortV, rSortT, rPop, rSortL, rSortT, tSl, tNoPart, tPart, List.append_nil, L2.start, List.map_cons, List.map_nil, List.length_cons, List.length_nil, List.replicate_succ, List.replicate_zero, List.cons_append, List.nil_append, Nat.reduceAdd, Nat.reduceSub, exists_eq, exists_eq', List.getElem?_cons_zero, List.getElem?_cons_succ, List.set_cons_zero, List.set_cons_succ, Option.some.injEq, V.int.injEq, V.bl.injEq, V.str.injEq, V.ref.injEq, List.cons.injEq, and_true, true_and, and_false, false_and, reduceCtorEq, exists_false, or_false, false_or, exists_and_left, exists_and_right, exists_eq_left, exists_eq_left', exists_eq_right, exists_eq_right', exists_const, ite_true, ite_false, Bool.false_eq_true, if_true, if_false, decide_true, decide_false]
        exact q L H5 o ll lL (x4.trans x5) t5 nao.symm pL
end
end Mv

set_option Elab.async false
set_option linter.all false
set_option maxRecDepth 100000
set_option maxHeartbeats 4000000
namespace Mv
open PySem PySem.Spec PyProof.Rows L2
abbrev sJoined : Stmt := topS 31
abbrev sNew : Stmt := topS 33
abbrev sRear : Stmt := topS 34
theorem flat_take (xss : List (List Int)) (k : Nat) : (xss.take k).flatten.length ≤ xss.flatten.length := by
  conv => rhs; rw [← List.take_append_drop k xss, List.flatten_append, List.length_append]
  omega
theorem wds_at {L : List (Addr × List Int)} {i : Nat} {x : V} (h : (L.map fun q => V.ref q.1)[i]? = some x) : ∃ q, L[i]? = some q ∧ x = .ref q.1 := by
  rw [List.getElem?_map] at h
  cases e : L[i]? with
  | none =>
    rw [e] at h
    cases h
  | some q =>
    rw [e] at h
    exact ⟨q, rfl, (Option.some.inj h).symm⟩
section
variable {P : Program} {w : World} {K : PySem.W.Frag} {mg : Str → Option Value} {base : Heap}
theorem scJoined : FnScope ["_law_parcels", "_law_word_here", "_law_parcel_here"] ["_law_parcels"] (defScope sJoined) := ⟨rfl, rfl, rfl, by decide +kernel, rfl, by decide +kernel, by decide +kernel⟩
def spJoined : Sp := fun vs H Q _ => ∃ (l : Addr) (L : List (Addr × List Int)), vs = [.ref l] ∧ Pcs H l L ∧ (wds L).flatten.length ≤ 500 ∧ ∀ (H' : Hp) (t : Addr), Same H H' → H' t = some (.tup ((wds L).flatten.map V.int)) → Q (.ref t) H'
theorem ok_joined {f : Addr} {fd : FuncData} (F : Fun K "_law_joined" "_law_joined" sJoined f fd) (B : Bi mg) : FnOk P w K mg base CX0 1 f fd ["_law_parcels"] spJoined := by
  refine F.ok scJoined (fun vs H Q E h => ?_) (fun cdv A outer s H vs Q E hr h => ?_)
  · obtain ⟨l, L, rfl, _⟩ := h
    rfl
  · obtain ⟨l, L, rfl, hp, hl, q⟩ := h
    refine ⟨_, (pss_cons (ps_set (i := 1) scJoined.nd rfl (.inl rfl) (pe_tup pa_nil))
 (pss_cons (ps_for PassesOwn.never rfl (pi_list (pv 0)) (pg_name (i := 2) scJoined.nd rfl (.inl rfl))
 (pss_one (ps_set (i := 1) scJoined.nd rfl (.inl rfl) (pe_op op_catA (pv 1) (pv 2)))))
 (pss_one (ps_ret (pv 1))))), ?_⟩
    try simp only [tSeq, tAsg, gName, tOp, rI, rI0, rU, tUn, tVar, tC, tCB, tCons, tNil, tTest, tIfS, tRet, tRetN, tDrop, tNext, tBreak, tCont, rEq, rNe, CDiv, CDivN, CMul, tBM, tBM0, tTup, tLst, tAug, tIf, tAnd, tOr, tNot, tAndV, tOrV, tNotV, tIsN, tNotN, tB, scal, tCall, cxK, cxKn, rIxT, rIxL, rIn, rAppend, rReverse, tVals, tDSetd, tDGet, tDGet1, tDGet2, tDIn, tDNotIn, rSortV, rSortT, rPop, rSortL, rSortT, tSl, tNoPart, tPart, List.append_nil, L2.start, List.map_cons, List.map_nil, List.length_cons, List.length_nil, List.replicate_succ, List.replicate_zero, List.cons_append, List.nil_append, Nat.reduceAdd, Nat.reduceSub, exists_eq, exists_eq', List.getElem?_cons_zero, List.getElem?_cons_succ, List.set_cons_zero, List.set_cons_succ, Option.some.injEq, V.int.injEq, V.bl.injEq, V.str.injEq, V.ref.injEq, List.cons.injEq, and_true, true_and, and_false, false_and, reduceCtorEq, exists_false, or_false, false_or, exists_and_left, exists_and_right, exists_eq_left, exists_eq_left', exists_eq_right, exists_eq_right', exists_const, ite_true, ite_false, Bool.false_eq_true, if_true, if_false, decide_true, decide_false]
    refine ⟨Nat.zero_le _, fun t ht => ?_⟩
    have hp1 := hp.same (same_upd ht (o := .tup []))
    refine ⟨_, rfl, l, rfl, ⟨_, ll hp1.at_⟩, for_list (K := K) (xs := L.map fun q => V.ref q.1) (fun i σ H' => ∃ (u : Addr) (y : Option V), σ = [some (.ref l), some (.ref u), y] ∧ Same H H' ∧ H' u = some (.tup (((wds L).take i).flatten.map V.int)))
      ⟨t, none, rfl, same_upd ht, upd_same⟩ (fun i σ H' _ ⟨_, _, _, s, _⟩ => ll (hp.same s).at_) ?_ ?_⟩
    · rintro i x σ H' hx ⟨u, y, rfl, s1, hu⟩
      obtain ⟨q0, hq, rfl⟩ := wds_at hx
      have e1 : ((wds L).take (i + 1)).flatten = ((wds L).take i).flatten ++ q0.2 := by
        have : (wds L)[i]? = some q0.2 := by
          unfold wds
          rw [List.getElem?_map, hq]
          rfl
        rw [List.take_add_one, this, List.flatten_append]
        simp
      have l2 := flat_take (wds L) (i + 1)
      rw [e1, List.length_append] at l2
      try simp only [tSeq, tAsg, gName, tOp, rI, rI0, rU, tUn, tVar, tC, tCB, tCons, tNil, tTest, tIfS, tRet, tRetN, tDrop, tNext, tBreak, tCont, rEq, rNe, CDiv, CDivN, CMul, tBM, tBM0, tTup, tLst, tAug, tIf, tAnd, tOr, tNot, tAndV, tOrV, tNotV, tIsN, tNotN, tB, scal, tCall, cxK, cxKn, rIxT, rIxL, rIn, rAppend, rReverse, tVals, tDSetd, tDGet, tDGet1, tDGet2, tDIn, tDNotIn, rSortV, rSortT, rPop, rSortL, rSortT, tSl, tNoPart, tPart, List.append_nil, L2.start, List.map_cons, List.map_nil, List.length_cons, List.length_nil, List.replicate_succ, List.replicate_zero, List.cons_append, List.nil_append, Nat.reduceAdd, Nat.reduceSub, exists_eq, exists_eq', List.getElem?_cons_zero, List.getElem?_cons_succ, List.set_cons_zero, List.set_cons_succ, Option.some.injEq, V.int.injEq, V.bl.injEq, V.str.injEq, V.ref.injEq, List.cons.injEq, and_true, true_and, and_false, false_and, reduceCtorEq, exists_false, or_false, false_or, exists_and_left, exists_and_right, exists_eq_left, exists_eq_left', exists_eq_right, exists_eq_right', exists_const, ite_true, ite_false, Bool.false_eq_true, if_true, if_false, decide_true, decide_false]
      refine cat_tups hu ((hp.same s1).all q0 (List.mem_of_getElem? hq)) (by rw [List.length_map, List.length_map]; omega) fun z H2 s2 hz => ?_
      refine ⟨z, rfl, s1.trans s2, ?_⟩
      rw [e1, List.map_append]
      exact hz
    · rintro σ H' ⟨u, y, rfl, s1, hu⟩
      try simp only [tSeq, tAsg, gName, tOp, rI, rI0, rU, tUn, tVar, tC, tCB, tCons, tNil, tTest, tIfS, tRet, tRetN, tDrop, tNext, tBreak, tCont, rEq, rNe, CDiv, CDivN, CMul, tBM, tBM0, tTup, tLst, tAug, tIf, tAnd, tOr, tNot, tAndV, tOrV, tNotV, tIsN, tNotN, tB, scal, tCall, cxK, cxKn, rIxT, rIxL, rIn, rAppend, rReverse, tVals, tDSetd, tDGet, tDGet1, tDGet2, tDIn, tDNotIn, rSortV, rSortT, rPop, rSortL, rSortT, tSl, tNoPart, tPart, List.append_nil, L2.start, List.map_cons, List.map_nil, List.length_cons, List.length_nil, List.replicate_succ, List.replicate_zero, List.cons_append, List.nil_append, Nat.reduceAdd, Nat.reduceSub, exists_eq, exists_eq', List.getElem?_cons_zero, List.getElem?_cons_succ, List.set_cons_zero, List.set_cons_succ, Option.some.injEq, V.int.injEq, V.bl.injEq, V.str.injEq, V.ref.injEq, List.cons.injEq, and_true, true_and, and_false, false_and, reduceCtorEq, exists_false, or_false, false_or, exists_and_left, exists_and_right, exists_eq_left, exists_eq_left', exists_eq_right, exists_eq_right', exists_const, ite_true, ite_false, Bool.false_eq_true, if_true, if_false, decide_true, decide_false]
      rw [List.take_of_length_le (by unfold wds; rw [List.length_map, List.length_map]; exact Nat.le_refl _)] at hu
      exact q _ u s1 hu
theorem scNew : FnScope ["_law_word_here", "_law_known", "_law_kept", "_law_value_here"] ["_law_word_here", "_law_known"] (defScope sNew) := ⟨rfl, rfl, rfl, by decide +kernel, rfl, by decide +kernel, by decide +kernel⟩
def spNew : Sp := fun vs H Q _ => ∃ (p r : Addr) (xs ks : List Int), vs = [.ref p, .ref r] ∧ H p = some (.tup (xs.map V.int)) ∧ H r = some (.tup (ks.map V.int)) ∧ xs.length ≤ 500 ∧ ks.length ≤ 500 ∧ ∀ (H' : Hp) (l : Addr), Same H H' → H l = none → H' l = some (.lst ((newI xs ks).map V.int)) → Q (.ref l) H'
theorem ok_new {f : Addr} {fd : FuncData} (F : Fun K "_law_new" "_law_new" sNew f fd) (B : Bi mg) : FnOk P w K mg base CX0 1 f fd ["_law_word_here", "_law_known"] spNew := by
  refine F.ok scNew (fun vs H Q E h => ?_) (fun cdv A outer s H vs Q E hr h => ?_)
  · obtain ⟨p, r, xs, ks, rfl, _⟩ := h
    rfl
  · obtain ⟨p, r, xs, ks, rfl, hp, hk, hl, hl2, q⟩ := h
    refine ⟨_, (pss_cons (ps_set (i := 2) scNew.nd rfl (.inl rfl) (pe_lst pa_nil))
 (pss_cons (ps_for PassesOwn.never rfl (pi_tup (pv 0)) (pg_name (i := 3) scNew.nd rfl (.inl rfl))
 (pss_one (ps_if (PW.pt (pw_and (pt_cmpR op_notIn_seq (pv 3) (pv 1) (by rfl)) (pw_and1 (pt_cmpR op_notIn_seq (pv 3) (pv 2) (by rfl)))))
 (pss_one (ps_expr (pe_bm PySem.F.plainAttrs_list PySem.F.slot_list_append PySem.F.type_list_append mt_append (pv 2) (pa_cons (pv 3) pa_nil)))) pss_nil)))
 (pss_one (ps_ret (pv 2))))), ?_⟩
    try simp only [tSeq, tAsg, gName, tOp, rI, rI0, rU, tUn, tVar, tC, tCB, tCons, tNil, tTest, tIfS, tRet, tRetN, tDrop, tNext, tBreak, tCont, rEq, rNe, CDiv, CDivN, CMul, tBM, tBM0, tTup, tLst, tAug, tIf, tAnd, tOr, tNot, tAndV, tOrV, tNotV, tIsN, tNotN, tB, scal, tCall, cxK, cxKn, rIxT, rIxL, rIn, rAppend, rReverse, tVals, tDSetd, tDGet, tDGet1, tDGet2, tDIn, tDNotIn, rSortV, rSortT, rPop, rSortL, rSortT, tSl, tNoPart, tPart, List.append_nil, L2.start, List.map_cons, List.map_nil, List.length_cons, List.length_nil, List.replicate_succ, List.replicate_zero, List.cons_append, List.nil_append, Nat.reduceAdd, Nat.reduceSub, exists_eq, exists_eq', List.getElem?_cons_zero, List.getElem?_cons_succ, List.set_cons_zero, List.set_cons_succ, Option.some.injEq, V.int.injEq, V.bl.injEq, V.str.injEq, V.ref.injEq, List.cons.injEq, and_true, true_and, and_false, false_and, reduceCtorEq, exists_false, or_false, false_or, exists_and_left, exists_and_right, exists_eq_left, exists_eq_left', exists_eq_right, exists_eq_right', exists_const, ite_true, ite_false, Bool.false_eq_true, if_true, if_false, decide_true, decide_false]
    refine ⟨Nat.zero_le _, fun o ho => ?_⟩
    have so := same_upd (o := .lst []) ho
    refine ⟨_, rfl, p, rfl, ⟨_, tt (so _ _ hp)⟩, for_tup (K := K) (xs := xs.map V.int) (fun i σ H' => ∃ (y : Option V), σ = [some (.ref p), some (.ref r), some (.ref o), y] ∧ Same H H' ∧ H' o = some (.lst ((newI (xs.take i) ks).map V.int)))
      ⟨none, rfl, so, upd_same⟩ (fun i σ H' _ ⟨_, _, s, _⟩ => tt (s _ _ hp)) ?_ ?_⟩
    · rintro i x σ H' hx ⟨y, rfl, s1, hu⟩
      obtain ⟨u, rfl, hui⟩ := int_at hx
      have e1 : xs.take (i + 1) = xs.take i ++ [u] := by
        rw [List.take_add_one, hui]
        rfl
      have ln : (newI (xs.take i) ks).length ≤ 500 := by
        have := newI_len (xs.take i) ks
        rw [List.length_take] at this
        omega
      try simp only [tSeq, tAsg, gName, tOp, rI, rI0, rU, tUn, tVar, tC, tCB, tCons, tNil, tTest, tIfS, tRet, tRetN, tDrop, tNext, tBreak, tCont, rEq, rNe, CDiv, CDivN, CMul, tBM, tBM0, tTup, tLst, tAug, tIf, tAnd, tOr, tNot, tAndV, tOrV, tNotV, tIsN, tNotN, tB, scal, tCall, cxK, cxKn, rIxT, rIxL, rIn, rAppend, rReverse, tVals, tDSetd, tDGet, tDGet1, tDGet2, tDIn, tDNotIn, rSortV, rSortT, rPop, rSortL, rSortT, tSl, tNoPart, tPart, List.append_nil, L2.start, List.map_cons, List.map_nil, List.length_cons, List.length_nil, List.replicate_succ, List.replicate_zero, List.cons_append, List.nil_append, Nat.reduceAdd, Nat.reduceSub, exists_eq, exists_eq', List.getElem?_cons_zero, List.getElem?_cons_succ, List.set_cons_zero, List.set_cons_succ, Option.some.injEq, V.int.injEq, V.bl.injEq, V.str.injEq, V.ref.injEq, List.cons.injEq, and_true, true_and, and_false, false_and, reduceCtorEq, exists_false, or_false, false_or, exists_and_left, exists_and_right, exists_eq_left, exists_eq_left', exists_eq_right, exists_eq_right', exists_const, ite_true, ite_false, Bool.false_eq_true, if_true, if_false, decide_true, decide_false]
      rw [e1, newI_snoc]
      refine ⟨_, .inr (tt (s1 _ _ hk)), rfl, ints_flat _, ?_⟩
      rw [inV_int]
      by_cases h1 : u ∈ ks
      · rw [if_neg (by simp [h1]), if_pos (.inl h1)]
        exact ⟨s1, hu⟩
      · rw [if_pos (by simp [h1])]
        refine ⟨_, .inl (SqL.of hu), rfl, ints_flat _, ?_⟩
        rw [inV_int]
        by_cases h2 : u ∈ newI (xs.take i) ks
        · rw [if_neg (by simp [h2]), if_pos (.inr h2)]
          exact ⟨s1, hu⟩
        · rw [if_pos (by simp [h2]), if_neg (by rintro (z | z); exact h1 z; exact h2 z)]
          refine ⟨.inl ⟨rfl, _, SqL.of hu⟩, _, hu, by rw [List.length_map]; exact small1000 (by omega), fun b z e => ?_, ?_⟩
          · rw [upd_ne (ne_of_none e ho)]
            exact s1 _ _ e
          · rw [upd_same, List.map_append]
            rfl
    · rintro σ H' ⟨y, rfl, s1, hu⟩
      try simp only [tSeq, tAsg, gName, tOp, rI, rI0, rU, tUn, tVar, tC, tCB, tCons, tNil, tTest, tIfS, tRet, tRetN, tDrop, tNext, tBreak, tCont, rEq, rNe, CDiv, CDivN, CMul, tBM, tBM0, tTup, tLst, tAug, tIf, tAnd, tOr, tNot, tAndV, tOrV, tNotV, tIsN, tNotN, tB, scal, tCall, cxK, cxKn, rIxT, rIxL, rIn, rAppend, rReverse, tVals, tDSetd, tDGet, tDGet1, tDGet2, tDIn, tDNotIn, rSortV, rSortT, rPop, rSortL, rSortT, tSl, tNoPart, tPart, List.append_nil, L2.start, List.map_cons, List.map_nil, List.length_cons, List.length_nil, List.replicate_succ, List.replicate_zero, List.cons_append, List.nil_append, Nat.reduceAdd, Nat.reduceSub, exists_eq, exists_eq', List.getElem?_cons_zero, List.getElem?_cons_succ, List.set_cons_zero, List.set_cons_succ, Option.some.injEq, V.int.injEq, V.bl.injEq, V.str.injEq, V.ref.injEq, List.cons.injEq, and_true, true_and, and_false, false_and, reduceCtorEq, exists_false, or_false, false_or, exists_and_left, exists_and_right, exists_eq_left, exists_eq_left', exists_eq_right, exists_eq_right', exists_const, ite_true, ite_false, Bool.false_eq_true, if_true, if_false, decide_true, decide_false]
      rw [List.take_of_length_le (by rw [List.length_map]; exact Nat.le_refl _)] at hu
      exact q _ o s1 ho hu
theorem scRear : FnScope ["_law_word_here", "_law_known", "_law_kept"] ["_law_word_here", "_law_known"] (defScope sRear) := ⟨rfl, rfl, rfl, by decide +kernel, rfl, by decide +kernel, by decide +kernel⟩
def spRear : Sp := fun vs H Q _ => ∃ (p r : Addr) (xs ks : List Int), vs = [.ref p, .ref r] ∧ H p = some (.tup (xs.map V.int)) ∧ H r = some (.tup (ks.map V.int)) ∧ xs.length ≤ 500 ∧ ks.length ≤ 500 ∧ ∀ (H' : Hp) (l : Addr), Same H H' → H' l = some (.lst ((rearI xs ks).map V.int)) → Q (.ref l) H'
theorem ok_rear {f : Addr} {fd : FuncData} (F : Fun K "_law_rear" "_law_rear" sRear f fd) (B : Bi mg) (cNew : CalX CX0 P w K mg base 1 "_law_new" spNew) : FnOk P w K mg base CX0 2 f fd ["_law_word_here", "_law_known"] spRear := by
  refine F.ok scRear (fun vs H Q E h => ?_) (fun cdv A outer s H vs Q E hr h => ?_)
  · obtain ⟨p, r, xs, ks, rfl, _⟩ := h
    rfl
  · obtain ⟨p, r, xs, ks, rfl, hp, hk, hl, hl2, q⟩ := h
    refine ⟨_, (pss_cons (ps_set (i := 2) scRear.nd rfl (.inl rfl) (pe_cx cNew hr (by decide) pass0 (by rfl) (pa_cons (pe_revT (pv 0)) (pa_cons (pv 1) pa_nil))))
 (pss_cons (ps_expr (pe_bm0 PySem.F.plainAttrs_list PySem.F.slot_list_reverse PySem.F.type_list_reverse mt_reverse (pv 2)))
 (pss_one (ps_ret (pv 2))))), ?_⟩
    try simp only [tSeq, tAsg, gName, tOp, rI, rI0, rU, tUn, tVar, tC, tCB, tCons, tNil, tTest, tIfS, tRet, tRetN, tDrop, tNext, tBreak, tCont, rEq, rNe, CDiv, CDivN, CMul, tBM, tBM0, tTup, tLst, tAug, tIf, tAnd, tOr, tNot, tAndV, tOrV, tNotV, tIsN, tNotN, tB, scal, tCall, cxK, cxKn, rIxT, rIxL, rIn, rAppend, rReverse, tVals, tDSetd, tDGet, tDGet1, tDGet2, tDIn, tDNotIn, rSortV, rSortT, rPop, rSortL, rSortT, tSl, tNoPart, tPart, List.append_nil, L2.start, List.map_cons, List.map_nil, List.length_cons, List.length_nil, List.replicate_succ, List.replicate_zero, List.cons_append, List.nil_append, Nat.reduceAdd, Nat.reduceSub, exists_eq, exists_eq', List.getElem?_cons_zero, List.getElem?_cons_succ, List.set_cons_zero, List.set_cons_succ, Option.some.injEq, V.int.injEq, V.bl.injEq, V.str.injEq, V.ref.injEq, List.cons.injEq, and_true, true_and, and_false, false_and, reduceCtorEq, exists_false, or_false, false_or, exists_and_left, exists_and_right, exists_eq_left, exists_eq_left', exists_eq_right, exists_eq_right', exists_const, ite_true, ite_false, Bool.false_eq_true, if_true, if_false, decide_true, decide_false]
    refine ⟨_, rfl, p, _, rfl, tt hp, fun t ht => ?_⟩
    have st := same_upd (o := .tup (xs.map V.int).reverse) ht
    try simp only [tSeq, tAsg, gName, tOp, rI, rI0, rU, tUn, tVar, tC, tCB, tCons, tNil, tTest, tIfS, tRet, tRetN, tDrop, tNext, tBreak, tCont, rEq, rNe, CDiv, CDivN, CMul, tBM, tBM0, tTup, tLst, tAug, tIf, tAnd, tOr, tNot, tAndV, tOrV, tNotV, tIsN, tNotN, tB, scal, tCall, cxK, cxKn, rIxT, rIxL, rIn, rAppend, rReverse, tVals, tDSetd, tDGet, tDGet1, tDGet2, tDIn, tDNotIn, rSortV, rSortT, rPop, rSortL, rSortT, tSl, tNoPart, tPart, List.append_nil, L2.start, List.map_cons, List.map_nil, List.length_cons, List.length_nil, List.replicate_succ, List.replicate_zero, List.cons_append, List.nil_append, Nat.reduceAdd, Nat.reduceSub, exists_eq, exists_eq', List.getElem?_cons_zero, List.getElem?_cons_succ, List.set_cons_zero, List.set_cons_succ, Option.some.injEq, V.int.injEq, V.bl.injEq, V.str.injEq, V.ref.injEq, List.cons.injEq, and_true, true_and, and_false, false_and, reduceCtorEq, exists_false, or_false, false_or, exists_and_left, exists_and_right, exists_eq_left, exists_eq_left', exists_eq_right, exists_eq_right', exists_const, ite_true, ite_false, Bool.false_eq_true, if_true, if_false, decide_true, decide_false]
    refine ⟨t, r, xs.reverse, ks, rfl, by rw [upd_same, List.map_reverse], st _ _ hk, by rw [List.length_reverse]; omega, hl2, fun H2 l s2 nl h2 => ?_⟩
    have nl0 : H l = none := by
      cases e : H l with
      | none => rfl
      | some o =>
        have := st _ _ e
        rw [nl] at this
        cases this
    try simp only [tSeq, tAsg, gName, tOp, rI, rI0, rU, tUn, tVar, tC, tCB, tCons, tNil, tTest, tIfS, tRet, tRetN, tDrop, tNext, tBreak, tCont, rEq, rNe, CDiv, CDivN, CMul, tBM, tBM0, tTup, tLst, tAug, tIf, tAnd, tOr, tNot, tAndV, tOrV, tNotV, tIsN, tNotN, tB, scal, tCall, cxK, cxKn, rIxT, rIxL, rIn, rAppend, rReverse, tVals, tDSetd, tDGet, tDGet1, tDGet2, tDIn, tDNotIn, rSortV, rSortT, rPop, rSortL, rSortT, tSl, tNoPart, tPart, List.append_nil, L2.start, List.map_cons, List.map_nil, List.length_cons, List.length_nil, List.replicate_succ, List.replicate_zero, List.cons_append, List.nil_append, Nat.reduceAdd, Nat.reduceSub, exists_eq, exists_eq', List.getElem?_cons_zero, List.getElem?_cons_succ, List.set_cons_zero, List.set_cons_succ, Option.some.injEq, V.int.injEq, V.bl.injEq, V.str.injEq, V.ref.injEq, List.cons.injEq, and_true, true_and, and_false, false_and, reduceCtorEq, exists_false, or_false, false_or, exists_and_left, exists_and_right, exists_eq_left, exists_eq_left', exists_eq_right, exists_eq_right', exists_const, ite_true, ite_false, Bool.false_eq_true, if_true, if_false, decide_true, decide_false]
    refine ⟨.inl ⟨rfl, _, SqL.of h2⟩, _, h2, ?_⟩
    refine q _ l (fun b z e => ?_) ?_
    · rw [upd_ne (ne_of_none e nl0)]
      exact s2 _ _ (st _ _ e)
    · rw [upd_same, ← List.map_reverse]
      rfl
end
end Mv

set_option Elab.async false
set_option linter.all false
set_option maxRecDepth 100000
set_option maxHeartbeats 4000000
namespace Mv
open PySem PySem.Spec PyProof.Rows L2
abbrev sWO : Stmt := topS 18
abbrev sFR : Stmt := topS 20
def repL (L : List (Addr × List Int)) (i j : Nat) : List (Addr × List Int) := L.take (j + 1) ++ (L[i]?).toList ++ L.drop (j + 1)
theorem same_free {H H' : Hp} {p : Addr} (s : Same H H') (h : H' p = none) : H p = none := by
  cases e : H p with
  | none => rfl
  | some o =>
    have := s _ _ e
    rw [h] at this
    cases this
section
variable {P : Program} {w : World} {K : PySem.W.Frag} {mg : Str → Option Value} {base : Heap} {T : List (Addr × Str)} {CB : Addr}
theorem scWO : FnScope ["before", "parcels", "after", "word", "parcel"] ["before", "parcels", "after"] (defScope sWO) := ⟨rfl, rfl, rfl, by decide +kernel, rfl, by decide +kernel, by decide +kernel⟩
def spWO (K : PySem.W.Frag) : Sp := fun vs H Q _ => ∃ (b l c : Addr) (L : List (Addr × List Int)) (As Bs : List Int), vs = [.ref b, .ref l, .ref c] ∧ SqT K H b (As.map V.int) ∧ Pcs H l L ∧ SqT K H c (Bs.map V.int) ∧ As.length + (wds L).flatten.length + Bs.length ≤ 500 ∧
  ∀ (H' : Hp) (t : Addr), Same H H' → H' t = some (.tup ((As ++ (wds L).flatten ++ Bs).map V.int)) → Q (.ref t) H'
theorem ok_wo {f : Addr} {fd : FuncData} (F : Fun K "word_of" "word_of" sWO f fd) (B : Bi mg) : FnOk P w K mg base CX0 1 f fd ["before", "parcels", "after"] (spWO K) := by
  refine F.ok scWO (fun vs H Q E h => ?_) (fun cdv A outer s H vs Q E hr h => ?_)
  · obtain ⟨b, l, c, L, As, Bs, rfl, _⟩ := h
    rfl
  · obtain ⟨b, l, c, L, As, Bs, rfl, hb, hp, hc, hl, q⟩ := h
    refine ⟨_, (pss_cons (ps_set (i := 3) scWO.nd rfl (.inl rfl) (pe_callTy call_list_of (by rfl) B.list (by decide +kernel) (pa_cons (pv 0) pa_nil)))
 (pss_cons (ps_for PassesOwn.never rfl (pi_list (pv 1)) (pg_name (i := 4) scWO.nd rfl (.inl rfl))
 (pss_one (ps_expr (pe_bm PySem.F.plainAttrs_list PySem.F.slot_list_extend PySem.F.type_list_extend mt_extendT (pv 3) (pa_cons (pv 4) pa_nil)))))
 (pss_one (ps_ret (pe_callTy call_tuple_of (by rfl) B.tuple (by decide +kernel) (pa_cons (pe_op op_cat (pv 3) (pe_callTy call_list_of (by rfl) B.list (by decide +kernel) (pa_cons (pv 2) pa_nil))) pa_nil)))))), ?_⟩
    try simp only [tSeq, tAsg, gName, tOp, rI, rI0, rU, tUn, tVar, tC, tCB, tCons, tNil, tTest, tIfS, tRet, tRetN, tDrop, tNext, tBreak, tCont, rEq, rNe, CDiv, CDivN, CMul, tBM, tBM0, tTup, tLst, tAug, tIf, tAnd, tOr, tNot, tAndV, tOrV, tNotV, tIsN, tNotN, tB, scal, tCall, cxK, cxKn, rIxT, rIxL, rIn, rAppend, rReverse, tVals, tDSetd, tDGet, tDGet1, tDGet2, tDIn, tDNotIn, rSortV, rSortT, rPop, rSortL, rSortT, tSl, tNoPart, tPart, List.append_nil, L2.start, List.map_cons, List.map_nil, List.length_cons, List.length_nil, List.replicate_succ, List.replicate_zero, List.cons_append, List.nil_append, Nat.reduceAdd, Nat.reduceSub, exists_eq, exists_eq', List.getElem?_cons_zero, List.getElem?_cons_succ, List.set_cons_zero, List.set_cons_succ, Option.some.injEq, V.int.injEq, V.bl.injEq, V.str.injEq, V.ref.injEq, List.cons.injEq, and_true, true_and, and_false, false_and, reduceCtorEq, exists_false, or_false, false_or, exists_and_left, exists_and_right, exists_eq_left, exists_eq_left', exists_eq_right, exists_eq_right', exists_const, ite_true, ite_false, Bool.false_eq_true, if_true, if_false, decide_true, decide_false]
    refine ⟨_, .inr hb, fun o ho => ?_⟩
    have so := same_upd (o := .lst (As.map V.int)) ho
    refine ⟨_, rfl, l, rfl, ⟨_, ll (hp.same so).at_⟩, for_list (K := K) (xs := L.map fun q => V.ref q.1) (fun i σ H' => ∃ (y : Option V), σ = [some (.ref b), some (.ref l), some (.ref c), some (.ref o), y] ∧ Same H H' ∧ H' o = some (.lst ((As ++ ((wds L).take i).flatten).map V.int)))
      ⟨none, rfl, so, by rw [upd_same]; simp⟩ (fun i σ H' _ ⟨_, _, s, _⟩ => ll (hp.same s).at_) ?_ ?_⟩
    · rintro i x σ H' hx ⟨y, rfl, s1, hu⟩
      obtain ⟨q0, hq, rfl⟩ := wds_at hx
      have e1 : ((wds L).take (i + 1)).flatten = ((wds L).take i).flatten ++ q0.2 := by
        have : (wds L)[i]? = some q0.2 := by
          unfold wds
          rw [List.getElem?_map, hq]
          rfl
        rw [List.take_add_one, this, List.flatten_append]
        simp
      have l2 := flat_take (wds L) (i + 1)
      rw [e1, List.length_append] at l2
      try simp only [tSeq, tAsg, gName, tOp, rI, rI0, rU, tUn, tVar, tC, tCB, tCons, tNil, tTest, tIfS, tRet, tRetN, tDrop, tNext, tBreak, tCont, rEq, rNe, CDiv, CDivN, CMul, tBM, tBM0, tTup, tLst, tAug, tIf, tAnd, tOr, tNot, tAndV, tOrV, tNotV, tIsN, tNotN, tB, scal, tCall, cxK, cxKn, rIxT, rIxL, rIn, rAppend, rReverse, tVals, tDSetd, tDGet, tDGet1, tDGet2, tDIn, tDNotIn, rSortV, rSortT, rPop, rSortL, rSortT, tSl, tNoPart, tPart, List.append_nil, L2.start, List.map_cons, List.map_nil, List.length_cons, List.length_nil, List.replicate_succ, List.replicate_zero, List.cons_append, List.nil_append, Nat.reduceAdd, Nat.reduceSub, exists_eq, exists_eq', List.getElem?_cons_zero, List.getElem?_cons_succ, List.set_cons_zero, List.set_cons_succ, Option.some.injEq, V.int.injEq, V.bl.injEq, V.str.injEq, V.ref.injEq, List.cons.injEq, and_true, true_and, and_false, false_and, reduceCtorEq, exists_false, or_false, false_or, exists_and_left, exists_and_right, exists_eq_left, exists_eq_left', exists_eq_right, exists_eq_right', exists_const, ite_true, ite_false, Bool.false_eq_true, if_true, if_false, decide_true, decide_false]
      refine ⟨.inl ⟨rfl, _, SqL.of hu⟩, o, q0.1, _, _, rfl, rfl, hu, tt ((hp.same s1).all q0 (List.mem_of_getElem? hq)), by simp only [List.length_map, List.length_append]; exact small1000' (by omega), fun bb z e => ?_, ?_⟩
      · rw [upd_ne (ne_of_none e ho)]
        exact s1 _ _ e
      · rw [upd_same, e1, ← List.append_assoc, List.map_append (l₁ := As ++ ((wds L).take i).flatten)]
    · rintro σ H' ⟨y, rfl, s1, hu⟩
      try simp only [tSeq, tAsg, gName, tOp, rI, rI0, rU, tUn, tVar, tC, tCB, tCons, tNil, tTest, tIfS, tRet, tRetN, tDrop, tNext, tBreak, tCont, rEq, rNe, CDiv, CDivN, CMul, tBM, tBM0, tTup, tLst, tAug, tIf, tAnd, tOr, tNot, tAndV, tOrV, tNotV, tIsN, tNotN, tB, scal, tCall, cxK, cxKn, rIxT, rIxL, rIn, rAppend, rReverse, tVals, tDSetd, tDGet, tDGet1, tDGet2, tDIn, tDNotIn, rSortV, rSortT, rPop, rSortL, rSortT, tSl, tNoPart, tPart, List.append_nil, L2.start, List.map_cons, List.map_nil, List.length_cons, List.length_nil, List.replicate_succ, List.replicate_zero, List.cons_append, List.nil_append, Nat.reduceAdd, Nat.reduceSub, exists_eq, exists_eq', List.getElem?_cons_zero, List.getElem?_cons_succ, List.set_cons_zero, List.set_cons_succ, Option.some.injEq, V.int.injEq, V.bl.injEq, V.str.injEq, V.ref.injEq, List.cons.injEq, and_true, true_and, and_false, false_and, reduceCtorEq, exists_false, or_false, false_or, exists_and_left, exists_and_right, exists_eq_left, exists_eq_left', exists_eq_right, exists_eq_right', exists_const, ite_true, ite_false, Bool.false_eq_true, if_true, if_false, decide_true, decide_false]
      rw [List.take_of_length_le (by unfold wds; rw [List.length_map, List.length_map]; exact Nat.le_refl _)] at hu
      refine ⟨_, .inr (Same.tup s1 hc), fun d hd => ?_⟩
      have sd := same_upd (o := .lst (Bs.map V.int)) hd
      refine ⟨o, d, _, _, rfl, rfl, sd _ _ hu, upd_same, by simp only [List.length_map, List.length_append]; exact small1000' (by omega), fun e he => ?_⟩
      refine ⟨e, rfl, _, .inl ⟨ll upd_same, fun t ht => ?_⟩⟩
      refine q _ t ((s1.trans sd).trans ((same_upd he).trans (same_upd ht))) ?_
      rw [upd_same, ← List.map_append]
theorem scFR : FnScope ["kind", "parcels", "i", "j", "before", "after", "repeated"] ["kind", "parcels", "i", "j", "before", "after"] (defScope sFR) := ⟨rfl, rfl, rfl, by decide +kernel, rfl, by decide +kernel, by decide +kernel⟩
def spFR (K : PySem.W.Frag) (T : List (Addr × Str)) (CB : Addr) : Sp := fun vs H Q E => ∃ (v : V) (l b c : Addr) (L : List (Addr × List Int)) (As Bs : List Int) (i j : Nat), vs = [v, .ref l, .int i, .int j, .ref b, .ref c] ∧ Pcs H l L ∧ SqT K H b (As.map V.int) ∧ SqT K H c (Bs.map V.int) ∧ i < L.length ∧ L.length ≤ 100 ∧
  As.length + (wds (repL L i j)).flatten.length + Bs.length ≤ 60 ∧ As.length + (wds L).flatten.length + Bs.length ≤ 60 ∧
  ((∃ k : Kd, v = .str k.nm ∧ LamX.Tabs T H ∧ ∀ H' : Hp, Gw T H H' → Q (.bl (decide (plainI k (As ++ (wds (repL L i j)).flatten ++ Bs) = plainI k (As ++ (wds L).flatten ++ Bs)))) H') ∨ (BadV H v ∧ Rs CB H v E))
theorem ok_fr {f : Addr} {fd : FuncData} (F : Fun K "free_repeat" "free_repeat" sFR f fd) (B : Bi mg) (cWO : CalX CX0 P w K mg base 1 "word_of" (spWO K)) (cAl : CalX (L2.CX P w) P w K mg base 4 "alike" (spAl K T CB)) : FnOk P w K mg base (L2.CX P w) 5 f fd ["kind", "parcels", "i", "j", "before", "after"] (spFR K T CB) := by
  refine F.okX scFR (fun vs H Q E h => ?_) (fun cdv A outer s H vs Q E hr h => ?_)
  · obtain ⟨v, l, b, c, L, As, Bs, i, j, rfl, _⟩ := h
    rfl
  · obtain ⟨v, l, b, c, L, As, Bs, i, j, rfl, hp, hb, hc, hi, hL, hz, hz2, h⟩ := h
    refine ⟨_, (pss_cons (ps_set (i := 6) scFR.nd rfl (.inl rfl) (pe_op op_cat (pe_op op_cat (pe_slice sl_list (pv 1) po_none (po_some (pe_op op_add (pv 3) pe_int))) (pe_lst (pa_cons (pe_ix ix_list (pv 1) (pv 2) (fun _ _ => rfl)) pa_nil))) (pe_slice sl_list (pv 1) (po_some (pe_op op_add (pv 3) pe_int)) po_none)))
 (pss_one (ps_ret (pe_cx cAl hr (by decide) (passes_call (takes_of rfl rfl rfl rfl) (fun _ _ _ _ h => h)) (by rfl) (pa_cons (pv 0) (pa_cons (pe_cx cWO hr (by decide) pass0 (by rfl) (pa_cons (pv 4) (pa_cons (pv 6) (pa_cons (pv 5) pa_nil)))) (pa_cons (pe_cx cWO hr (by decide) pass0 (by rfl) (pa_cons (pv 4) (pa_cons (pv 1) (pa_cons (pv 5) pa_nil)))) pa_nil))))))), ?_⟩
    try simp only [tSeq, tAsg, gName, tOp, rI, rI0, rU, tUn, tVar, tC, tCB, tCons, tNil, tTest, tIfS, tRet, tRetN, tDrop, tNext, tBreak, tCont, rEq, rNe, CDiv, CDivN, CMul, tBM, tBM0, tTup, tLst, tAug, tIf, tAnd, tOr, tNot, tAndV, tOrV, tNotV, tIsN, tNotN, tB, scal, tCall, cxK, cxKn, rIxT, rIxL, rIn, rAppend, rReverse, tVals, tDSetd, tDGet, tDGet1, tDGet2, tDIn, tDNotIn, rSortV, rSortT, rPop, rSortL, rSortT, tSl, tNoPart, tPart, List.append_nil, L2.start, List.map_cons, List.map_nil, List.length_cons, List.length_nil, List.replicate_succ, List.replicate_zero, List.cons_append, List.nil_append, Nat.reduceAdd, Nat.reduceSub, exists_eq, exists_eq', List.getElem?_cons_zero, List.getElem?_cons_succ, List.set_cons_zero, List.set_cons_succ, Option.some.injEq, V.int.injEq, V.bl.injEq, V.str.injEq, V.ref.injEq, List.cons.injEq, and_true, true_and, and_false, false_and, reduceCtorEq, exists_false, or_false, false_or, exists_and_left, exists_and_right, exists_eq_left, exists_eq_left', exists_eq_right, exists_eq_right', exists_const, ite_true, ite_false, Bool.false_eq_true, if_true, if_false, decide_true, decide_false]
    refine ⟨l, _, rfl, ll hp.at_, fun o1 h1 => ?_⟩
    rw [show ((j : Int) + 1) = ((j + 1 : Nat) : Int) from rfl, cutV_take]
    have s1 := same_upd (o := .lst ((L.map fun q => V.ref q.1).take (j + 1))) h1
    have hq : (L.map fun q => V.ref q.1)[i]? = some (.ref (L[i]).1) := by
      rw [List.getElem?_map, List.getElem?_eq_getElem hi]
      rfl
    refine ⟨_, ll (s1 _ _ hp.at_), _, atI_nat hq, by decide, fun o2 h2 => ?_⟩
    have s2 := same_upd (o := .lst [V.ref (L[i]).1]) h2
    refine ⟨o1, o2, _, _, rfl, rfl, s2 _ _ upd_same, upd_same, by simp only [List.length_take, List.length_map, List.length_singleton]; exact small1000' (by omega), fun o3 h3 => ?_⟩
    have s3 := same_upd (o := .lst (((L.map fun q => V.ref q.1).take (j + 1)) ++ [V.ref (L[i]).1])) h3
    refine ⟨l, _, rfl, ll (s3 _ _ (s2 _ _ (s1 _ _ hp.at_))), fun o4 h4 => ?_⟩
    rw [cutV_drop]
    have s4 := same_upd (o := .lst ((L.map fun q => V.ref q.1).drop (j + 1))) h4
    refine ⟨o3, o4, _, _, rfl, rfl, s4 _ _ upd_same, upd_same, by simp only [List.length_take, List.length_map, List.length_singleton, List.length_append, List.length_drop]; exact small1000' (by omega), fun o5 h5 => ?_⟩
    have s5 := same_upd (o := .lst ((((L.map fun q => V.ref q.1).take (j + 1)) ++ [V.ref (L[i]).1]) ++ (L.map fun q => V.ref q.1).drop (j + 1))) h5
    have h5' : upd (upd (upd (upd (upd H o1 (.lst ((L.map fun q => V.ref q.1).take (j + 1)))) o2 (.lst [V.ref (L[i]).1])) o3 (.lst (((L.map fun q => V.ref q.1).take (j + 1)) ++ [V.ref (L[i]).1]))) o4 (.lst ((L.map fun q => V.ref q.1).drop (j + 1)))) o5 (.lst ((((L.map fun q => V.ref q.1).take (j + 1)) ++ [V.ref (L[i]).1]) ++ (L.map fun q => V.ref q.1).drop (j + 1))) o5 = some (.lst ((repL L i j).map fun q => V.ref q.1)) := by
      rw [upd_same]
      unfold repL
      rw [List.map_append, List.map_append, List.getElem?_eq_getElem hi, List.map_take, List.map_drop]
      rfl
    have s15 := (((s1.trans s2).trans s3).trans s4).trans s5
    generalize upd (upd (upd (upd (upd H o1 (.lst ((L.map fun q => V.ref q.1).take (j + 1)))) o2 (.lst [V.ref (L[i]).1])) o3 (.lst (((L.map fun q => V.ref q.1).take (j + 1)) ++ [V.ref (L[i]).1]))) o4 (.lst ((L.map fun q => V.ref q.1).drop (j + 1)))) o5 (.lst ((((L.map fun q => V.ref q.1).take (j + 1)) ++ [V.ref (L[i]).1]) ++ (L.map fun q => V.ref q.1).drop (j + 1))) = H5 at h5' s15
    have pr : Pcs H5 o5 (repL L i j) := ⟨h5', fun q hq => by
      refine s15 _ _ (hp.all q ?_)
      unfold repL at hq
      rcases List.mem_append.mp hq with hq | hq
      · rcases List.mem_append.mp hq with hq | hq
        · exact List.mem_of_mem_take hq
        · exact List.mem_of_getElem? (Option.mem_toList.mp hq)
      · exact List.mem_of_mem_drop hq⟩
    clear s1 s2 s3 s4 s5 h1 h2 h3 h4 h5 h5'
    try simp only [tSeq, tAsg, gName, tOp, rI, rI0, rU, tUn, tVar, tC, tCB, tCons, tNil, tTest, tIfS, tRet, tRetN, tDrop, tNext, tBreak, tCont, rEq, rNe, CDiv, CDivN, CMul, tBM, tBM0, tTup, tLst, tAug, tIf, tAnd, tOr, tNot, tAndV, tOrV, tNotV, tIsN, tNotN, tB, scal, tCall, cxK, cxKn, rIxT, rIxL, rIn, rAppend, rReverse, tVals, tDSetd, tDGet, tDGet1, tDGet2, tDIn, tDNotIn, rSortV, rSortT, rPop, rSortL, rSortT, tSl, tNoPart, tPart, List.append_nil, L2.start, List.map_cons, List.map_nil, List.length_cons, List.length_nil, List.replicate_succ, List.replicate_zero, List.cons_append, List.nil_append, Nat.reduceAdd, Nat.reduceSub, exists_eq, exists_eq', List.getElem?_cons_zero, List.getElem?_cons_succ, List.set_cons_zero, List.set_cons_succ, Option.some.injEq, V.int.injEq, V.bl.injEq, V.str.injEq, V.ref.injEq, List.cons.injEq, and_true, true_and, and_false, false_and, reduceCtorEq, exists_false, or_false, false_or, exists_and_left, exists_and_right, exists_eq_left, exists_eq_left', exists_eq_right, exists_eq_right', exists_const, ite_true, ite_false, Bool.false_eq_true, if_true, if_false, decide_true, decide_false]
    refine ⟨b, o5, c, repL L i j, As, Bs, rfl, Same.tup s15 hb, pr, Same.tup s15 hc, by omega, fun H6 t6 s6 e6 => ?_⟩
    have s16 := s15.trans s6
    refine ⟨b, l, c, L, As, Bs, rfl, Same.tup s16 hb, hp.same s16, Same.tup s16 hc, by omega, fun H7 t7 s7 e7 => ?_⟩
    have s17 := s16.trans s7
    try simp only [tSeq, tAsg, gName, tOp, rI, rI0, rU, tUn, tVar, tC, tCB, tCons, tNil, tTest, tIfS, tRet, tRetN, tDrop, tNext, tBreak, tCont, rEq, rNe, CDiv, CDivN, CMul, tBM, tBM0, tTup, tLst, tAug, tIf, tAnd, tOr, tNot, tAndV, tOrV, tNotV, tIsN, tNotN, tB, scal, tCall, cxK, cxKn, rIxT, rIxL, rIn, rAppend, rReverse, tVals, tDSetd, tDGet, tDGet1, tDGet2, tDIn, tDNotIn, rSortV, rSortT, rPop, rSortL, rSortT, tSl, tNoPart, tPart, List.append_nil, L2.start, List.map_cons, List.map_nil, List.length_cons, List.length_nil, List.replicate_succ, List.replicate_zero, List.cons_append, List.nil_append, Nat.reduceAdd, Nat.reduceSub, exists_eq, exists_eq', List.getElem?_cons_zero, List.getElem?_cons_succ, List.set_cons_zero, List.set_cons_succ, Option.some.injEq, V.int.injEq, V.bl.injEq, V.str.injEq, V.ref.injEq, List.cons.injEq, and_true, true_and, and_false, false_and, reduceCtorEq, exists_false, or_false, false_or, exists_and_left, exists_and_right, exists_eq_left, exists_eq_left', exists_eq_right, exists_eq_right', exists_const, ite_true, ite_false, Bool.false_eq_true, if_true, if_false, decide_true, decide_false]
    refine ⟨v, t6, t7, rfl, ?_⟩
    rcases h with ⟨k, rfl, hT, q⟩ | ⟨bv, rs⟩
    · refine .inl ⟨k, _, _, rfl, .inl (tt (s7 _ _ e6)), .inl (tt e7), by simp only [List.length_append]; omega, by simp only [List.length_append]; omega, hT.ext s17, fun H8 g8 => q _ ((Gw.of hT s17).trans g8)⟩
    · exact .inr ⟨bv.ext (LamX.ExtN.of s17), rs.ext (LamX.ExtN.of s17)⟩
end
end Mv

set_option Elab.async false
set_option linter.all false
set_option maxRecDepth 100000
set_option maxHeartbeats 4000000
namespace Mv
open PySem PySem.Spec PyProof.Rows L2
abbrev sFL : Stmt := topS 21
abbrev sSpared : Stmt := topS 35
/-! ### what is put between -/
theorem wds_app (L M : List (Addr × List Int)) : wds (L ++ M) = wds L ++ wds M := List.map_append
theorem rep_word (As Bs : List Int) (L : List (Addr × List Int)) {i j : Nat} {q : Addr × List Int} (hi : L[i]? = some q) :
    As ++ (wds (repL L i j)).flatten ++ Bs = (As ++ (wds (L.take (j + 1))).flatten) ++ q.2 ++ ((wds (L.drop (j + 1))).flatten ++ Bs) := by
  unfold repL
  rw [hi, wds_app, wds_app, List.flatten_append, List.flatten_append]
  show _ = _
  simp [wds]
theorem whole_word (As Bs : List Int) (L : List (Addr × List Int)) (j : Nat) :
    As ++ (wds L).flatten ++ Bs = (As ++ (wds (L.take (j + 1))).flatten) ++ ((wds (L.drop (j + 1))).flatten ++ Bs) := by
  conv => lhs; rw [← List.take_append_drop (j + 1) L]
  rw [wds_app, List.flatten_append]
  simp
theorem atI_lastI {w : List Int} (hw : w ≠ []) : ∃ x, lastI w = [x] ∧ atI (w.map V.int) (-1) = some (.int x) := by
  obtain ⟨v, x, rfl⟩ := snoc_of hw
  refine ⟨x, lastI_snoc v x, ?_⟩
  rw [List.map_append]
  exact atI_last _ _
theorem flat_nil {L : List (Addr × List Int)} (h : ∀ q ∈ L, 1 ≤ q.2.length ∧ q.2.length ≤ 4) : (wds L).flatten = [] ↔ L = [] := by
  cases L with
  | nil => exact ⟨fun _ => rfl, fun _ => rfl⟩
  | cons q L =>
    refine ⟨fun e => ?_, fun e => by cases e⟩
    have := (h q List.mem_cons_self).1
    have e2 : q.2 ++ (wds L).flatten = [] := e
    rw [(List.append_eq_nil_iff.mp e2).1] at this
    exact absurd this (by decide)
theorem dec_of {p : Prop} [Decidable p] {b : Bool} (h : p ↔ b = true) : decide p = b := by
  cases b with
  | true => exact decide_eq_true (h.mpr rfl)
  | false => exact decide_eq_false fun z => Bool.noConfusion (h.mp z)
theorem eq_lists {K : PySem.W.Frag} {H : Hp} {a b : Addr} {xs ys : List Int} {Q : VK} (ha : SqL K H a (xs.map V.int)) (hb : SqL K H b (ys.map V.int)) (q : Q (.bl (decide (xs = ys))) H) : rEqD K (.ref a) (.ref b) H Q :=
  ⟨_, _, .lst ha (dp_ints xs), .lst hb (dp_ints ys), PySem.W.ke_shaped_ints xs, PySem.W.ke_shaped_ints ys, by rw [show PyData.eqv (.list (xs.map PyData.int)) (.list (ys.map PyData.int)) = decide (xs = ys) from eqvAll_ints xs ys]; exact q⟩
/-- a part of the list -/
theorem Pcs.part {H H' : Hp} {l t : Addr} {L M : List (Addr × List Int)} (p : Pcs H l L) (s : Same H H') (h : H' t = some (.lst (M.map fun q => V.ref q.1))) (hm : ∀ q ∈ M, q ∈ L) : Pcs H' t M := ⟨h, fun q hq => s _ _ (p.all q (hm q hq))⟩
def dropL (L : List (Addr × List Int)) (i : Nat) : List (Addr × List Int) := L.take i ++ L.drop (i + 1)
theorem drop_word (As Bs : List Int) (L : List (Addr × List Int)) (i : Nat) : As ++ (wds (dropL L i)).flatten ++ Bs = (As ++ (wds (L.take i)).flatten) ++ ((wds (L.drop (i + 1))).flatten ++ Bs) := by
  unfold dropL
  rw [wds_app, List.flatten_append]
  simp
theorem whole_word' (As Bs : List Int) (L : List (Addr × List Int)) {i : Nat} {q : Addr × List Int} (hi : L[i]? = some q) :
    As ++ (wds L).flatten ++ Bs = (As ++ (wds (L.take i)).flatten) ++ q.2 ++ ((wds (L.drop (i + 1))).flatten ++ Bs) := by
  rw [whole_word As Bs L i, List.take_add_one, hi, wds_app, List.flatten_append]
  simp [wds]
/-- what the law's own def says of a loss -/
theorem loss_iff (k : Kd) {L : List (Addr × List Int)} {As Bs : List Int} {i : Nat} {q : Addr × List Int} (hi : L[i]? = some q) (hq : q.2 ≠ []) :
    plainI k (As ++ (wds L).flatten ++ Bs) = plainI k (As ++ (wds (dropL L i)).flatten ++ Bs) ↔ insOk k (As ++ (wds (L.take i)).flatten) q.2 ((wds (L.drop (i + 1))).flatten ++ Bs) := by
  rw [drop_word, whole_word' As Bs L hi]
  exact ins_iff k _ _ _ hq
theorem drop_rep {L : List (Addr × List Int)} {i j : Nat} {q : Addr × List Int} (hi : L[i]? = some q) (hj : j < L.length) : dropL (repL L i j) (j + 1) = L := by
  unfold dropL repL
  rw [hi]
  have e : (L.take (j + 1)).length = j + 1 := by rw [List.length_take]; omega
  have e1 : (L.take (j + 1) ++ (some q).toList ++ L.drop (j + 1)).take (j + 1) = L.take (j + 1) := by
    rw [List.append_assoc, List.take_append_of_le_length (by rw [e]; exact Nat.le_refl _), List.take_take, Nat.min_self]
  have e2 : (L.take (j + 1) ++ (some q).toList ++ L.drop (j + 1)).drop (j + 1 + 1) = L.drop (j + 1) := by
    have e3 : (L.take (j + 1) ++ (some q).toList).length = j + 1 + 1 := by
      rw [List.length_append, e]
      rfl
    rw [← e3, List.drop_left]
  rw [e1, e2, List.take_append_drop]
section
variable {P : Program} {w : World} {K : PySem.W.Frag} {mg : Str → Option Value} {base : Heap} {T : List (Addr × Str)} {CB : Addr}
theorem scFL : FnScope ["kind", "parcels", "i", "before", "after", "left"] ["kind", "parcels", "i", "before", "after"] (defScope sFL) := ⟨rfl, rfl, rfl, by decide +kernel, rfl, by decide +kernel, by decide +kernel⟩
def spFL (K : PySem.W.Frag) (T : List (Addr × Str)) (CB : Addr) : Sp := fun vs H Q E => ∃ (v : V) (l b c : Addr) (L : List (Addr × List Int)) (As Bs : List Int) (i : Nat), vs = [v, .ref l, .int i, .ref b, .ref c] ∧ Pcs H l L ∧ SqT K H b (As.map V.int) ∧ SqT K H c (Bs.map V.int) ∧ i < L.length ∧ L.length ≤ 100 ∧
  As.length + (wds L).flatten.length + Bs.length ≤ 60 ∧
  ((∃ k : Kd, v = .str k.nm ∧ LamX.Tabs T H ∧ ∀ H' : Hp, Gw T H H' → Q (.bl (decide (plainI k (As ++ (wds (dropL L i)).flatten ++ Bs) = plainI k (As ++ (wds L).flatten ++ Bs)))) H') ∨ (BadV H v ∧ Rs CB H v E))
theorem ok_fl {f : Addr} {fd : FuncData} (F : Fun K "free_loss" "free_loss" sFL f fd) (B : Bi mg) (cWO : CalX CX0 P w K mg base 1 "word_of" (spWO K)) (cAl : CalX (L2.CX P w) P w K mg base 4 "alike" (spAl K T CB)) : FnOk P w K mg base (L2.CX P w) 5 f fd ["kind", "parcels", "i", "before", "after"] (spFL K T CB) := by
  refine F.okX scFL (fun vs H Q E h => ?_) (fun cdv A outer s H vs Q E hr h => ?_)
  · obtain ⟨v, l, b, c, L, As, Bs, i, rfl, _⟩ := h
    rfl
  · obtain ⟨v, l, b, c, L, As, Bs, i, rfl, hp, hb, hc, hi, hL, hz, h⟩ := h
    have hz2 : (wds (dropL L i)).flatten.length ≤ (wds L).flatten.length := by
      have e1 := congrArg List.length (drop_word [] [] L i)
      have e2 := congrArg List.length (whole_word' [] [] L (List.getElem?_eq_getElem hi))
      simp only [List.length_append, List.length_nil] at e1 e2
      omega
    refine ⟨_, (pss_cons (ps_set (i := 5) scFL.nd rfl (.inl rfl) (pe_op op_cat (pe_slice sl_list (pv 1) po_none (po_some (pv 2))) (pe_slice sl_list (pv 1) (po_some (pe_op op_add (pv 2) pe_int)) po_none)))
 (pss_one (ps_ret (pe_cx cAl hr (by decide) (passes_call (takes_of rfl rfl rfl rfl) (fun _ _ _ _ h => h)) (by rfl) (pa_cons (pv 0) (pa_cons (pe_cx cWO hr (by decide) pass0 (by rfl) (pa_cons (pv 3) (pa_cons (pv 5) (pa_cons (pv 4) pa_nil)))) (pa_cons (pe_cx cWO hr (by decide) pass0 (by rfl) (pa_cons (pv 3) (pa_cons (pv 1) (pa_cons (pv 4) pa_nil)))) pa_nil))))))), ?_⟩
    try simp only [tSeq, tAsg, gName, tOp, rI, rI0, rU, tUn, tVar, tC, tCB, tCons, tNil, tTest, tIfS, tRet, tRetN, tDrop, tNext, tBreak, tCont, rEq, rNe, CDiv, CDivN, CMul, tBM, tBM0, tTup, tLst, tAug, tIf, tAnd, tOr, tNot, tAndV, tOrV, tNotV, tIsN, tNotN, tB, scal, tCall, cxK, cxKn, rIxT, rIxL, rIn, rAppend, rReverse, tVals, tDSetd, tDGet, tDGet1, tDGet2, tDIn, tDNotIn, rSortV, rSortT, rPop, rSortL, rSortT, tSl, tNoPart, tPart, List.append_nil, L2.start, List.map_cons, List.map_nil, List.length_cons, List.length_nil, List.replicate_succ, List.replicate_zero, List.cons_append, List.nil_append, Nat.reduceAdd, Nat.reduceSub, exists_eq, exists_eq', List.getElem?_cons_zero, List.getElem?_cons_succ, List.set_cons_zero, List.set_cons_succ, Option.some.injEq, V.int.injEq, V.bl.injEq, V.str.injEq, V.ref.injEq, List.cons.injEq, and_true, true_and, and_false, false_and, reduceCtorEq, exists_false, or_false, false_or, exists_and_left, exists_and_right, exists_eq_left, exists_eq_left', exists_eq_right, exists_eq_right', exists_const, ite_true, ite_false, Bool.false_eq_true, if_true, if_false, decide_true, decide_false]
    refine ⟨l, _, rfl, ll hp.at_, fun o1 h1 => ?_⟩
    rw [cutV_take, ← List.map_take]
    have s1 := same_upd (o := .lst ((L.take i).map fun q => V.ref q.1)) h1
    refine ⟨l, _, rfl, ll (s1 _ _ hp.at_), fun o2 h2 => ?_⟩
    rw [show ((i : Int) + 1) = ((i + 1 : Nat) : Int) from rfl, cutV_drop, ← List.map_drop]
    have s2 := same_upd (o := .lst ((L.drop (i + 1)).map fun q => V.ref q.1)) h2
    refine ⟨o1, o2, _, _, rfl, rfl, s2 _ _ upd_same, upd_same, by simp only [List.length_take, List.length_map, List.length_drop]; exact small1000' (by omega), fun o3 h3 => ?_⟩
    rw [← List.map_append]
    have s3 := same_upd (o := .lst ((L.take i ++ L.drop (i + 1)).map fun q => V.ref q.1)) h3
    have s13 := (s1.trans s2).trans s3
    have pr := hp.part (M := dropL L i) s13 (upd_same (a := o3)) fun q hq => by
      rcases List.mem_append.mp hq with hq | hq
      · exact List.mem_of_mem_take hq
      · exact List.mem_of_mem_drop hq
    generalize upd (upd (upd H o1 (.lst ((L.take i).map fun q => V.ref q.1))) o2 (.lst ((L.drop (i + 1)).map fun q => V.ref q.1))) o3 (.lst ((L.take i ++ L.drop (i + 1)).map fun q => V.ref q.1)) = H5 at s13 pr
    clear s1 s2 s3 h1 h2 h3
    try simp only [tSeq, tAsg, gName, tOp, rI, rI0, rU, tUn, tVar, tC, tCB, tCons, tNil, tTest, tIfS, tRet, tRetN, tDrop, tNext, tBreak, tCont, rEq, rNe, CDiv, CDivN, CMul, tBM, tBM0, tTup, tLst, tAug, tIf, tAnd, tOr, tNot, tAndV, tOrV, tNotV, tIsN, tNotN, tB, scal, tCall, cxK, cxKn, rIxT, rIxL, rIn, rAppend, rReverse, tVals, tDSetd, tDGet, tDGet1, tDGet2, tDIn, tDNotIn, rSortV, rSortT, rPop, rSortL, rSortT, tSl, tNoPart, tPart, List.append_nil, L2.start, List.map_cons, List.map_nil, List.length_cons, List.length_nil, List.replicate_succ, List.replicate_zero, List.cons_append, List.nil_append, Nat.reduceAdd, Nat.reduceSub, exists_eq, exists_eq', List.getElem?_cons_zero, List.getElem?_cons_succ, List.set_cons_zero, List.set_cons_succ, Option.some.injEq, V.int.injEq, V.bl.injEq, V.str.injEq, V.ref.injEq, List.cons.injEq, and_true, true_and, and_false, false_and, reduceCtorEq, exists_false, or_false, false_or, exists_and_left, exists_and_right, exists_eq_left, exists_eq_left', exists_eq_right, exists_eq_right', exists_const, ite_true, ite_false, Bool.false_eq_true, if_true, if_false, decide_true, decide_false]
    refine ⟨b, o3, c, dropL L i, As, Bs, rfl, Same.tup s13 hb, pr, Same.tup s13 hc, by omega, fun H6 t6 s6 e6 => ?_⟩
    have s16 := s13.trans s6
    refine ⟨b, l, c, L, As, Bs, rfl, Same.tup s16 hb, hp.same s16, Same.tup s16 hc, by omega, fun H7 t7 s7 e7 => ?_⟩
    have s17 := s16.trans s7
    try simp only [tSeq, tAsg, gName, tOp, rI, rI0, rU, tUn, tVar, tC, tCB, tCons, tNil, tTest, tIfS, tRet, tRetN, tDrop, tNext, tBreak, tCont, rEq, rNe, CDiv, CDivN, CMul, tBM, tBM0, tTup, tLst, tAug, tIf, tAnd, tOr, tNot, tAndV, tOrV, tNotV, tIsN, tNotN, tB, scal, tCall, cxK, cxKn, rIxT, rIxL, rIn, rAppend, rReverse, tVals, tDSetd, tDGet, tDGet1, tDGet2, tDIn, tDNotIn, rSortV, rSortT, rPop, rSortL, rSortT, tSl, tNoPart, tPart, List.append_nil, L2.start, List.map_cons, List.map_nil, List.length_cons, List.length_nil, List.replicate_succ, List.replicate_zero, List.cons_append, List.nil_append, Nat.reduceAdd, Nat.reduceSub, exists_eq, exists_eq', List.getElem?_cons_zero, List.getElem?_cons_succ, List.set_cons_zero, List.set_cons_succ, Option.some.injEq, V.int.injEq, V.bl.injEq, V.str.injEq, V.ref.injEq, List.cons.injEq, and_true, true_and, and_false, false_and, reduceCtorEq, exists_false, or_false, false_or, exists_and_left, exists_and_right, exists_eq_left, exists_eq_left', exists_eq_right, exists_eq_right', exists_const, ite_true, ite_false, Bool.false_eq_true, if_true, if_false, decide_true, decide_false]
    refine ⟨v, t6, t7, rfl, ?_⟩
    rcases h with ⟨k, rfl, hT, q⟩ | ⟨bv, rs⟩
    · refine .inl ⟨k, _, _, rfl, .inl (tt (s7 _ _ e6)), .inl (tt e7), by simp only [List.length_append]; omega, by simp only [List.length_append]; omega, hT.ext s17, fun H8 g8 => q _ ((Gw.of hT s17).trans g8)⟩
    · exact .inr ⟨bv.ext (LamX.ExtN.of s17), rs.ext (LamX.ExtN.of s17)⟩
end
end Mv

set_option Elab.async false
set_option linter.all false
set_option maxRecDepth 100000
set_option maxHeartbeats 4000000
namespace Mv
open PySem PySem.Spec PyProof.Rows L2
theorem atI_firstI {w : List Int} (hw : w ≠ []) : ∃ x, firstI w = [x] ∧ atI (w.map V.int) 0 = some (.int x) := by
  cases w with
  | nil => exact absurd rfl hw
  | cons x w => exact ⟨x, rfl, atI_nat (j := 0) rfl⟩
section
variable {P : Program} {w : World} {K : PySem.W.Frag} {mg : Str → Option Value} {base : Heap} {T : List (Addr × Str)} {CB : Addr}
abbrev sparedN : List Str := ["_law_kind", "_law_parcels", "_law_i", "_law_ahead", "_law_behind", "_law_lost", "_law_y", "_law_z", "_law_front", "_law_end", "_law_one", "_law_other", "_law_value_here"]
theorem scSpared : FnScope sparedN ["_law_kind", "_law_parcels", "_law_i", "_law_ahead", "_law_behind"] (defScope sSpared) := ⟨rfl, rfl, rfl, by decide +kernel, rfl, by decide +kernel, by decide +kernel⟩
theorem spared_rest {f : Addr} {cdv : Value} {A : Around} {outer : List Env} {s : Shared} {H0 : Hp} {E : XK} (B : Bi mg) (hall : mg "all" = none) (hr : Room 2 (A.deeper (envOfC "_law_spared" (defScope sSpared) s.heap.objs.size f cdv)))
    (cNew : CalX CX0 P w K mg base 1 "_law_new" spNew) (cRear : CalX CX0 P w K mg base 2 "_law_rear" spRear) :
    ∃ t, PSs (cxOf CX0 P w K mg base sparedN "_law_spared" (defScope sSpared) f cdv A outer s H0 E).nox ((defBody sSpared).drop 5) t ∧
      ∀ (Q : VK) (k : Kd) (l b c ql y z : Addr) (i : Int) (fr en : Bool) (ws ys zs : List Int) (H : Hp), H ql = some (.tup (ws.map V.int)) → H y = some (.tup (ys.map V.int)) → H z = some (.tup (zs.map V.int)) → ws ≠ [] → ws.length ≤ 100 → ys.length ≤ 100 → zs.length ≤ 100 →
        (ys ≠ [] ∨ firstI ws = firstI zs ↔ fr = true) → (zs ≠ [] ∨ lastI ws = lastI ys ↔ en = true) → (∀ (b' : Bool) (H' : Hp), Same H H' → (insOk k ys ws zs ↔ b' = true) → Q (.bl b') H') →
        t { nx := fun _ H' => Q .non H', rt := Q } [some (.str k.nm), some (.ref l), some (.int i), some (.ref b), some (.ref c), some (.ref ql), some (.ref y), some (.ref z), some (.bl fr), some (.bl en), none, none, none] H := by
  refine ⟨_, (pss_cons (ps_if (pt_cmpR op_eq (pv 0) pe_str (nomark _))
 (pss_one (ps_ret (pe_callB (cr_all rfl) (by rfl) hall (by decide +kernel) (pa_cons (pe_lc (own := [("_law_value_here", 12)]) (g := gName 12) (tt := tYes) (te := (tOrV (tOp (rIn K false) (tVar 12) (tVar 6)) (tOp (rIn K false) (tVar 12) (tVar 7)))) rfl scSpared.nd (pi_tup (pv 5)) (blkOk_by (N := ["_law_kind", "_law_parcels", "_law_i", "_law_ahead", "_law_behind", "_law_lost", "_law_y", "_law_z", "_law_front", "_law_end", "_law_one", "_law_other", "_law_value_here"]) (sc := defScope sSpared) (by decide +kernel)) (fun _ _ _ _ _ => (pg_name (i := 12) scSpared.nd rfl (.inl rfl))) (fun _ _ _ _ _ => pts_nil) (fun _ _ _ _ _ => (pe_or (pe_cmpR op_in_seq (pv 12) (pv 6) (by rfl)) (pe_one (pe_cmpR op_in_seq (pv 12) (pv 7) (by rfl)))))) pa_nil)))) pss_nil)
 (pss_cons (ps_if (pt_cmpR op_eq (pv 0) pe_str (nomark _))
 (pss_one (ps_ret (pv 8))) pss_nil)
 (pss_cons (ps_if (pt_cmpR op_eq (pv 0) pe_str (nomark _))
 (pss_one (ps_ret (pv 9))) pss_nil)
 (pss_cons (ps_if (pt_cmpR op_eq (pv 0) pe_str (nomark _))
 (pss_one (ps_ret (pe_and (pv 8) (pe_one (pv 9))))) pss_nil)
 (pss_cons (ps_if (pt_cmpR op_eq (pv 0) pe_str (nomark _))
 (pss_cons (ps_set (i := 10) scSpared.nd rfl (.inl rfl) (pe_cx cNew hr (by decide) pass0 (by rfl) (pa_cons (pv 5) (pa_cons (pv 6) pa_nil))))
 (pss_one (ps_ret (pe_cmpR (op_eqD hr.units) (pe_slice sl_list (pe_cx cNew hr (by decide) pass0 (by rfl) (pa_cons (pv 7) (pa_cons (pv 6) pa_nil))) po_none (po_some (pe_callB call_len_seq (by rfl) B.len PySem.boot_len (pa_cons (pv 10) pa_nil)))) (pv 10) (nomark _))))) pss_nil)
 (pss_cons (ps_if (pt_cmpR op_eq (pv 0) pe_str (nomark _))
 (pss_cons (ps_set (i := 10) scSpared.nd rfl (.inl rfl) (pe_cx cRear hr (by decide) pass0 (by rfl) (pa_cons (pv 5) (pa_cons (pv 7) pa_nil))))
 (pss_cons (ps_set (i := 11) scSpared.nd rfl (.inl rfl) (pe_cx cRear hr (by decide) pass0 (by rfl) (pa_cons (pv 6) (pa_cons (pv 7) pa_nil))))
 (pss_one (ps_ret (pe_and (pe_cmpR op_le (pe_callB call_len_seq (by rfl) B.len PySem.boot_len (pa_cons (pv 10) pa_nil)) (pe_callB call_len_seq (by rfl) B.len PySem.boot_len (pa_cons (pv 11) pa_nil)) (nomark _)) (pe_one (pe_cmpR (op_eqD hr.units) (pe_slice sl_list (pv 11) (po_some (pe_op op_sub (pe_callB call_len_seq (by rfl) B.len PySem.boot_len (pa_cons (pv 11) pa_nil)) (pe_callB call_len_seq (by rfl) B.len PySem.boot_len (pa_cons (pv 10) pa_nil)))) po_none) (pv 10) (nomark _)))))))) pss_nil)
 (pss_one (ps_ret pe_bl)))))))), ?_⟩
  rintro Q k l b c ql y z i fr en ws ys zs H hq hy hz hw lw ly lz hf he q
  try simp only [tSeq, tAsg, gName, tOp, rI, rI0, rU, tUn, tVar, tC, tCB, tCons, tNil, tTest, tIfS, tRet, tRetN, tDrop, tNext, tBreak, tCont, rEq, rNe, CDiv, CDivN, CMul, tBM, tBM0, tTup, tLst, tAug, tIf, tAnd, tOr, tNot, tAndV, tOrV, tNotV, tIsN, tNotN, tB, scal, tCall, cxK, cxKn, rIxT, rIxL, rIn, rAppend, rReverse, tVals, tDSetd, tDGet, tDGet1, tDGet2, tDIn, tDNotIn, rSortV, rSortT, rPop, rSortL, rSortT, tSl, tNoPart, tPart, List.append_nil, L2.start, List.map_cons, List.map_nil, List.length_cons, List.length_nil, List.replicate_succ, List.replicate_zero, List.cons_append, List.nil_append, Nat.reduceAdd, Nat.reduceSub, exists_eq, exists_eq', List.getElem?_cons_zero, List.getElem?_cons_succ, List.set_cons_zero, List.set_cons_succ, Option.some.injEq, V.int.injEq, V.bl.injEq, V.str.injEq, V.ref.injEq, List.cons.injEq, and_true, true_and, and_false, false_and, reduceCtorEq, exists_false, or_false, false_or, exists_and_left, exists_and_right, exists_eq_left, exists_eq_left', exists_eq_right, exists_eq_right', exists_const, ite_true, ite_false, Bool.false_eq_true, if_true, if_false, decide_true, decide_false]
  cases k
  case' set => refine if_T (by decide +kernel) ?_
  case' first => exact if_F (by decide +kernel) (if_T (by decide +kernel) (q fr H (Same.refl H) hf))
  case' last => exact if_F (by decide +kernel) (if_F (by decide +kernel) (if_T (by decide +kernel) (q en H (Same.refl H) he)))
  case' ends => refine if_F (by decide +kernel) (if_F (by decide +kernel) (if_F (by decide +kernel) (if_T (by decide +kernel) ?_)))
  case' heads => refine if_F (by decide +kernel) (if_F (by decide +kernel) (if_F (by decide +kernel) (if_F (by decide +kernel) (if_T (by decide +kernel) ?_))))
  case' tails => refine if_F (by decide +kernel) (if_F (by decide +kernel) (if_F (by decide +kernel) (if_F (by decide +kernel) (if_F (by decide +kernel) (if_T (by decide +kernel) ?_)))))
  case' list => exact if_F (by decide +kernel) (if_F (by decide +kernel) (if_F (by decide +kernel) (if_F (by decide +kernel) (if_F (by decide +kernel) (if_F (by decide +kernel) (q false H (Same.refl H) ⟨False.elim, fun z => by cases z⟩))))))
  case' bag => exact if_F (by decide +kernel) (if_F (by decide +kernel) (if_F (by decide +kernel) (if_F (by decide +kernel) (if_F (by decide +kernel) (if_F (by decide +kernel) (q false H (Same.refl H) ⟨False.elim, fun z => by cases z⟩))))))
  case ends =>
    cases fr with
    | true => exact q en H (Same.refl H) ⟨fun h => he.mp h.2, fun h => ⟨hf.mpr rfl, he.mpr h⟩⟩
    | false => exact q false H (Same.refl H) ⟨fun h => hf.mp h.1, fun h => Bool.noConfusion h⟩
  case set =>
    refine ⟨_, rfl, ql, rfl, ⟨_, tt hq⟩, fun D hD => lc_tup (K := K) (xs := ws.map V.int) (fun i H' => Same H H' ∧ H' D = some (.lst (((ws.take i).map fun x => decide (x ∈ ys ∨ x ∈ zs)).map V.bl))) ⟨same_upd hD, upd_same⟩ (fun i H' _ h => tt (h.1 _ _ hq)) ?_ ?_⟩
    · rintro i x H' hx ⟨s1, hd⟩
      obtain ⟨u, rfl, hu⟩ := int_at hx
      have fin : ∀ b' : Bool, (u ∈ ys ∨ u ∈ zs ↔ b' = true) → (∃ acc, H' D = some (.lst acc) ∧ acc.length < sizeLine ∧ (Same H (upd H' D (.lst (acc ++ [V.bl b']))) ∧ upd H' D (.lst (acc ++ [V.bl b'])) D = some (.lst (((ws.take (i + 1)).map fun x => decide (x ∈ ys ∨ x ∈ zs)).map V.bl)))) := fun b' hb' => by
        refine ⟨_, hd, ?_, fun a o e => ?_, ?_⟩
        · rw [List.length_map, List.length_map, List.length_take]
          exact small1000 (by omega)
        · rw [upd_ne (ne_of_none e hD)]
          exact s1 _ _ e
        · rw [upd_same, List.take_add_one, hu, List.map_append, List.map_append]
          show _ = some (HO.lst (_ ++ [V.bl (decide (u ∈ ys ∨ u ∈ zs))]))
          rw [dec_of hb']
      refine ⟨rfl, ?_⟩
      simp only [tSeq, tAsg, gName, tOp, rI, rI0, rU, tUn, tVar, tC, tCB, tCons, tNil, tTest, tIfS, tRet, tRetN, tDrop, tNext, tBreak, tCont, rEq, rNe, CDiv, CDivN, CMul, tBM, tBM0, tTup, tLst, tAug, tIf, tAnd, tOr, tNot, tAndV, tOrV, tNotV, tIsN, tNotN, tB, scal, tCall, cxK, cxKn, rIxT, rIxL, rIn, rAppend, rReverse, tVals, tDSetd, tDGet, tDGet1, tDGet2, tDIn, tDNotIn, rSortV, rSortT, rPop, rSortL, rSortT, tSl, tNoPart, tPart, List.append_nil, L2.start, List.map_cons, List.map_nil, List.length_cons, List.length_nil, List.replicate_succ, List.replicate_zero, List.cons_append, List.nil_append, Nat.reduceAdd, Nat.reduceSub, exists_eq, exists_eq', wipe, tYes, List.getElem?_cons_zero, List.getElem?_cons_succ, List.set_cons_zero, List.set_cons_succ, Option.some.injEq, V.int.injEq, V.bl.injEq, V.str.injEq, V.ref.injEq, List.cons.injEq, and_true, true_and, and_false, false_and, reduceCtorEq, exists_false, or_false, false_or, exists_and_left, exists_and_right, exists_eq_left, exists_eq_left', exists_eq_right, exists_eq_right', exists_const, ite_true, ite_false, Bool.false_eq_true, if_true, if_false, decide_true, decide_false]
      refine ⟨_, .inr (tt (s1 _ _ hy)), rfl, ints_flat _, ?_⟩
      rw [inV_int]
      refine ite2 (fun e => ?_) (fun e => ⟨_, .inr (tt (s1 _ _ hz)), rfl, ints_flat _, ?_⟩)
      · have e1 := of_decide_eq_true e
        exact fin true ⟨fun _ => rfl, fun _ => .inl e1⟩
      · have e1 : ¬ u ∈ ys := fun h => e (decide_eq_true h)
        rw [inV_int]
        exact fin _ (by rw [decide_eq_true_eq]; exact ⟨fun h => h.elim (fun h => absurd h e1) id, .inr⟩)
    · rintro H' ⟨s1, hd⟩
      rw [List.take_of_length_le (by rw [List.length_map]; exact Nat.le_refl _)] at hd
      refine ⟨D, _, rfl, ll hd, q _ H' s1 ?_⟩
      show (∀ x ∈ ws, x ∈ ys ∨ x ∈ zs) ↔ _
      rw [List.all_eq_true]
      constructor
      · intro h b' hb'
        obtain ⟨x, hx, rfl⟩ := List.mem_map.mp hb'
        exact decide_eq_true (h x hx)
      · intro h x hx
        exact of_decide_eq_true (h _ (List.mem_map.mpr ⟨x, hx, rfl⟩))
  case heads =>
    refine ⟨ql, y, ws, ys, rfl, hq, hy, by omega, by omega, fun H1 o1 s1 _ h1 => ?_⟩
    refine ⟨z, y, zs, ys, rfl, s1 _ _ hz, s1 _ _ hy, by omega, by omega, fun H2 o2 s2 _ h2 => ?_⟩
    refine ⟨o1, rfl, _, .inl (ll (s2 _ _ h1)), o2, _, rfl, ll h2, fun o3 h3 => ?_⟩
    rw [List.length_map, cutV_take, ← List.map_take]
    have s3 := same_upd (o := .lst (((newI zs ys).take (newI ws ys).length).map V.int)) h3
    refine eq_lists (ll upd_same) (ll (s3 _ _ (s2 _ _ h1))) (q _ _ ((s1.trans s2).trans s3) ?_)
    rw [decide_eq_true_eq]
    exact prefix_law _ _
  case tails =>
    refine ⟨ql, z, ws, zs, rfl, hq, hz, by omega, by omega, fun H1 o1 s1 h1 => ?_⟩
    refine ⟨y, z, ys, zs, rfl, s1 _ _ hy, s1 _ _ hz, by omega, by omega, fun H2 o2 s2 h2 => ?_⟩
    have h12 := s2 _ _ h1
    refine ⟨o1, rfl, _, .inl (ll h12), o2, rfl, _, .inl (ll h2), ?_⟩
    rw [List.length_map, List.length_map]
    refine ite2 (fun e => ?_) (fun e => q false _ (s1.trans s2) ?_)
    · have e2 := of_decide_eq_true e
      refine ⟨o2, rfl, _, .inl (ll h2), o1, rfl, _, .inl (ll h12), o2, _, rfl, ll h2, fun o3 h3 => ?_⟩
      rw [List.length_map, List.length_map, ← Int.ofNat_sub (by omega), cutV_drop, ← List.map_drop]
      have s3 := same_upd (o := .lst (((rearI ys zs).drop ((rearI ys zs).length - (rearI ws zs).length)).map V.int)) h3
      refine eq_lists (ll upd_same) (ll (s3 _ _ h12)) (q _ _ ((s1.trans s2).trans s3) ?_)
      show rearI ws zs <:+ rearI ys zs ↔ _
      rw [suffix_law, decide_eq_true_eq]
      exact ⟨fun h => h.2, fun h => ⟨by omega, h⟩⟩
    · show rearI ws zs <:+ rearI ys zs ↔ _
      rw [suffix_law]
      exact ⟨fun h => absurd (decide_eq_true (Int.ofNat_le.mpr h.1)) e, fun h => Bool.noConfusion h⟩
def spSpared : Sp := fun vs H Q _ => ∃ (k : Kd) (l b c : Addr) (L : List (Addr × List Int)) (As Bs : List Int) (i : Nat), vs = [.str k.nm, .ref l, .int i, .ref b, .ref c] ∧ Pcs H l L ∧ H b = some (.tup (As.map V.int)) ∧ H c = some (.tup (Bs.map V.int)) ∧ i < L.length ∧ L.length ≤ 100 ∧
  (∀ q ∈ L, 1 ≤ q.2.length ∧ q.2.length ≤ 4) ∧ As.length + (wds L).flatten.length + Bs.length ≤ 60 ∧
  ∀ H' : Hp, Same H H' → Q (.bl (decide (plainI k (As ++ (wds L).flatten ++ Bs) = plainI k (As ++ (wds (dropL L i)).flatten ++ Bs)))) H'
theorem ok_spared {f : Addr} {fd : FuncData} (F : Fun K "_law_spared" "_law_spared" sSpared f fd) (B : Bi mg) (hall : mg "all" = none) (cJoined : CalX CX0 P w K mg base 1 "_law_joined" spJoined) (cNew : CalX CX0 P w K mg base 1 "_law_new" spNew) (cRear : CalX CX0 P w K mg base 2 "_law_rear" spRear) : FnOk P w K mg base CX0 3 f fd ["_law_kind", "_law_parcels", "_law_i", "_law_ahead", "_law_behind"] spSpared := by
  refine F.ok scSpared (fun vs H Q E h => ?_) (fun cdv A outer s H vs Q E hr h => ?_)
  · obtain ⟨k, l, b, c, L, As, Bs, i, rfl, _⟩ := h
    rfl
  · obtain ⟨k, l, b, c, L, As, Bs, i, rfl, hp, hb, hc, hi0, hL, hq, hz, q⟩ := h
    obtain ⟨tr, hrest, hR⟩ := spared_rest (s := s) (H0 := H) (E := E) (outer := outer) (cdv := cdv) (f := f) (A := A) (K := K) (P := P) (w := w) (base := base) B hall hr cNew cRear
    have hi : L[i]? = some L[i] := List.getElem?_eq_getElem hi0
    generalize L[i] = qi at hi
    have li := hq qi (List.mem_of_getElem? hi)
    have ni : qi.2 ≠ [] := fun e => by
      rw [e] at li
      exact absurd li.1 (by decide)
    have ati : (L.map fun q => V.ref q.1)[i]? = some (.ref qi.1) := by
      rw [List.getElem?_map, hi]
      rfl
    have hpi := hp.all qi (List.mem_of_getElem? hi)
    have e0 := loss_iff k (As := As) (Bs := Bs) hi ni
    have ez := congrArg List.length (whole_word' As Bs L hi)
    simp only [List.length_append] at ez
    refine ⟨_, (pss_cons (ps_set (i := 5) scSpared.nd rfl (.inl rfl) (pe_ix ix_list (pv 1) (pv 2) (fun _ _ => rfl)))
 (pss_cons (ps_set (i := 6) scSpared.nd rfl (.inr rfl) (pe_op op_catA (pv 3) (pe_cx cJoined hr (by decide) pass0 (by rfl) (pa_cons (pe_slice sl_list (pv 1) po_none (po_some (pv 2))) pa_nil))))
 (pss_cons (ps_set (i := 7) scSpared.nd rfl (.inr rfl) (pe_op op_catA (pe_cx cJoined hr (by decide) pass0 (by rfl) (pa_cons (pe_slice sl_list (pv 1) (po_some (pe_op op_add (pv 2) pe_int)) po_none) pa_nil)) (pv 4)))
 (pss_cons (ps_set (i := 8) scSpared.nd rfl (.inl rfl) (pe_or (pe_cmpR op_gt (pe_callB call_len_seq (by rfl) B.len PySem.boot_len (pa_cons (pv 6) pa_nil)) pe_int (nomark _)) (pe_one (pe_and (pe_cmpR op_gt (pe_callB call_len_seq (by rfl) B.len PySem.boot_len (pa_cons (pv 7) pa_nil)) pe_int (nomark _)) (pe_one (pe_cmpR op_eq (pe_ix ix_tup (pv 7) pe_int (fun _ _ => rfl)) (pe_ix ix_tup (pv 5) pe_int (fun _ _ => rfl)) (nomark _)))))))
 (pss_cons (ps_set (i := 9) scSpared.nd rfl (.inl rfl) (pe_or (pe_cmpR op_gt (pe_callB call_len_seq (by rfl) B.len PySem.boot_len (pa_cons (pv 7) pa_nil)) pe_int (nomark _)) (pe_one (pe_and (pe_cmpR op_gt (pe_callB call_len_seq (by rfl) B.len PySem.boot_len (pa_cons (pv 6) pa_nil)) pe_int (nomark _)) (pe_one (pe_cmpR op_eq (pe_ix ix_tup (pv 6) (pe_un un_neg pe_int) (fun _ _ => rfl)) (pe_ix ix_tup (pv 5) (pe_un un_neg pe_int) (fun _ _ => rfl)) (nomark _)))))))
 hrest))))), ?_⟩
    try simp only [tSeq, tAsg, gName, tOp, rI, rI0, rU, tUn, tVar, tC, tCB, tCons, tNil, tTest, tIfS, tRet, tRetN, tDrop, tNext, tBreak, tCont, rEq, rNe, CDiv, CDivN, CMul, tBM, tBM0, tTup, tLst, tAug, tIf, tAnd, tOr, tNot, tAndV, tOrV, tNotV, tIsN, tNotN, tB, scal, tCall, cxK, cxKn, rIxT, rIxL, rIn, rAppend, rReverse, tVals, tDSetd, tDGet, tDGet1, tDGet2, tDIn, tDNotIn, rSortV, rSortT, rPop, rSortL, rSortT, tSl, tNoPart, tPart, List.append_nil, L2.start, List.map_cons, List.map_nil, List.length_cons, List.length_nil, List.replicate_succ, List.replicate_zero, List.cons_append, List.nil_append, Nat.reduceAdd, Nat.reduceSub, exists_eq, exists_eq', List.getElem?_cons_zero, List.getElem?_cons_succ, List.set_cons_zero, List.set_cons_succ, Option.some.injEq, V.int.injEq, V.bl.injEq, V.str.injEq, V.ref.injEq, List.cons.injEq, and_true, true_and, and_false, false_and, reduceCtorEq, exists_false, or_false, false_or, exists_and_left, exists_and_right, exists_eq_left, exists_eq_left', exists_eq_right, exists_eq_right', exists_const, ite_true, ite_false, Bool.false_eq_true, if_true, if_false, decide_true, decide_false]
    refine ⟨_, ll hp.at_, _, atI_nat ati, ?_⟩
    refine ⟨l, _, rfl, ll hp.at_, fun o1 h1 => ?_⟩
    rw [cutV_take, ← List.map_take]
    have s1 := same_upd (o := .lst ((L.take i).map fun q => V.ref q.1)) h1
    refine ⟨o1, _, rfl, hp.part s1 upd_same fun q h => List.mem_of_mem_take h, by omega, fun H2 t2 s2 ht2 => ?_⟩
    have s12 := s1.trans s2
    refine cat_tups (s12 _ _ hb) ht2 (by rw [List.length_map, List.length_map]; omega) fun y H3 s3 hy => ?_
    have s13 := s12.trans s3
    rw [← List.map_append] at hy
    refine ⟨l, _, rfl, ll (s13 _ _ hp.at_), fun o4 h4 => ?_⟩
    rw [show ((i : Int) + 1) = ((i + 1 : Nat) : Int) from rfl, cutV_drop, ← List.map_drop]
    have s4 := same_upd (o := .lst ((L.drop (i + 1)).map fun q => V.ref q.1)) h4
    have s14 := s13.trans s4
    refine ⟨o4, _, rfl, hp.part s14 upd_same fun q h => List.mem_of_mem_drop h, by omega, fun H5 t5 s5 ht5 => ?_⟩
    have s15 := s14.trans s5
    refine cat_tups ht5 (s15 _ _ hc) (by rw [List.length_map, List.length_map]; omega) fun z H6 s6 hz6 => ?_
    have s16 := s15.trans s6
    rw [← List.map_append] at hz6
    have hy6 := s6 _ _ (s5 _ _ (s4 _ _ hy))
    have hq6 := s16 _ _ hpi
    clear h1 h4 s1 s2 s3 s4 s5 s6 s12 s13 s14 s15 ht2 ht5 hy
    have ly : (As ++ (wds (L.take i)).flatten).length ≤ 100 := by rw [List.length_append]; omega
    have lz : ((wds (L.drop (i + 1))).flatten ++ Bs).length ≤ 100 := by rw [List.length_append]; omega
    generalize As ++ (wds (L.take i)).flatten = ys at *
    generalize (wds (L.drop (i + 1))).flatten ++ Bs = zs at *
    obtain ⟨x1, f1, f2⟩ := atI_firstI ni
    obtain ⟨x2, g1, g2⟩ := atI_lastI ni
    have nil_len : ∀ xs : List Int, xs ≠ [] ↔ 0 < xs.length := fun xs => by
      cases xs with
      | nil => simp
      | cons x xs => simp
    have fin : ∀ fr en : Bool, (ys ≠ [] ∨ firstI qi.2 = firstI zs ↔ fr = true) → (zs ≠ [] ∨ lastI qi.2 = lastI ys ↔ en = true) → tr { nx := fun _ H' => Q .non H', rt := Q } [some (.str k.nm), some (.ref l), some (.int i), some (.ref b), some (.ref c), some (.ref qi.1), some (.ref y), some (.ref z), some (.bl fr), some (.bl en), none, none, none] H6 := fun fr en h1 h2 =>
      hR Q k l b c qi.1 y z i fr en qi.2 ys zs H6 hq6 hy6 hz6 ni (by omega) ly lz h1 h2 fun b' H' s7 h7 => by
        have h8 := q H' (s16.trans s7)
        rwa [dec_of (e0.trans h7)] at h8
    try simp only [tSeq, tAsg, gName, tOp, rI, rI0, rU, tUn, tVar, tC, tCB, tCons, tNil, tTest, tIfS, tRet, tRetN, tDrop, tNext, tBreak, tCont, rEq, rNe, CDiv, CDivN, CMul, tBM, tBM0, tTup, tLst, tAug, tIf, tAnd, tOr, tNot, tAndV, tOrV, tNotV, tIsN, tNotN, tB, scal, tCall, cxK, cxKn, rIxT, rIxL, rIn, rAppend, rReverse, tVals, tDSetd, tDGet, tDGet1, tDGet2, tDIn, tDNotIn, rSortV, rSortT, rPop, rSortL, rSortT, tSl, tNoPart, tPart, List.append_nil, L2.start, List.map_cons, List.map_nil, List.length_cons, List.length_nil, List.replicate_succ, List.replicate_zero, List.cons_append, List.nil_append, Nat.reduceAdd, Nat.reduceSub, exists_eq, exists_eq', List.getElem?_cons_zero, List.getElem?_cons_succ, List.set_cons_zero, List.set_cons_succ, Option.some.injEq, V.int.injEq, V.bl.injEq, V.str.injEq, V.ref.injEq, List.cons.injEq, and_true, true_and, and_false, false_and, reduceCtorEq, exists_false, or_false, false_or, exists_and_left, exists_and_right, exists_eq_left, exists_eq_left', exists_eq_right, exists_eq_right', exists_const, ite_true, ite_false, Bool.false_eq_true, if_true, if_false, decide_true, decide_false]
    refine ⟨_, .inr (tt hy6), ite2 (fun e => ?A) (fun e => ⟨_, .inr (tt hz6), ite2 (fun e' => ?B) (fun e' => ?C)⟩)⟩
    case' A =>
      have y0 : ys ≠ [] := (nil_len ys).mpr (by have := of_decide_eq_true e; rw [List.length_map] at this; omega)
      have hfr : ys ≠ [] ∨ firstI qi.2 = firstI zs ↔ true = true := ⟨fun _ => rfl, fun _ => .inl y0⟩
    case' B =>
      have y0 : ¬ ys ≠ [] := fun h => e (decide_eq_true (by rw [List.length_map]; have := (nil_len ys).mp h; omega))
      have z0 : zs ≠ [] := (nil_len zs).mpr (by have := of_decide_eq_true e'; rw [List.length_map] at this; omega)
      obtain ⟨x3, k1, k2⟩ := atI_firstI z0
      refine ⟨_, tt hz6, _, k2, _, tt hq6, _, f2, rfl, ?_⟩
      have hfr : ys ≠ [] ∨ firstI qi.2 = firstI zs ↔ decide (V.int x3 = V.int x1) = true := by
        rw [f1, k1]
        simp only [decide_eq_true_eq, V.int.injEq, List.cons.injEq, and_true]
        exact ⟨fun h => h.elim (fun h => absurd h y0) Eq.symm, fun h => .inr h.symm⟩
      generalize decide (V.int x3 = V.int x1) = frb at hfr
    case' C =>
      have y0 : ¬ ys ≠ [] := fun h => e (decide_eq_true (by rw [List.length_map]; have := (nil_len ys).mp h; omega))
      have z0 : ¬ zs ≠ [] := fun h => e' (decide_eq_true (by rw [List.length_map]; have := (nil_len zs).mp h; omega))
      have z1 : zs = [] := Decidable.not_not.mp z0
      have hfr : ys ≠ [] ∨ firstI qi.2 = firstI zs ↔ false = true := by
        rw [f1, z1]
        exact ⟨fun h => h.elim (fun h => absurd h y0) (fun h => by cases h), fun h => Bool.noConfusion h⟩
    all_goals
      refine ⟨_, .inr (tt hz6), ite2 (fun e2 => ?_) (fun e2 => ⟨_, .inr (tt hy6), ite2 (fun e3 => ?_) (fun e3 => ?_)⟩)⟩
      · have z2 : zs ≠ [] := (nil_len zs).mpr (by have := of_decide_eq_true e2; rw [List.length_map] at this; omega)
        exact fin _ true hfr ⟨fun _ => rfl, fun _ => .inl z2⟩
      · have z2 : ¬ zs ≠ [] := fun h => e2 (decide_eq_true (by rw [List.length_map]; have := (nil_len zs).mp h; omega))
        have y2 : ys ≠ [] := (nil_len ys).mpr (by have := of_decide_eq_true e3; rw [List.length_map] at this; omega)
        obtain ⟨x4, k3, k4⟩ := atI_lastI y2
        refine ⟨_, tt hy6, _, k4, _, tt hq6, _, g2, rfl, ?_⟩
        refine fin _ _ hfr ?_
        rw [g1, k3]
        simp only [decide_eq_true_eq, V.int.injEq, List.cons.injEq, and_true]
        exact ⟨fun h => h.elim (fun h => absurd h z2) Eq.symm, fun h => .inr h.symm⟩
      · have z2 : ¬ zs ≠ [] := fun h => e2 (decide_eq_true (by rw [List.length_map]; have := (nil_len zs).mp h; omega))
        have y2 : ¬ ys ≠ [] := fun h => e3 (decide_eq_true (by rw [List.length_map]; have := (nil_len ys).mp h; omega))
        have y3 : ys = [] := Decidable.not_not.mp y2
        refine fin _ false hfr ?_
        rw [g1, y3]
        exact ⟨fun h => h.elim (fun h => absurd h z2) (fun h => by cases h), fun h => Bool.noConfusion h⟩
end
end Mv

set_option Elab.async false
set_option linter.all false
set_option maxRecDepth 100000
set_option maxHeartbeats 4000000
namespace Mv
open PySem PySem.Spec PyProof.Rows L2
abbrev sTold : Stmt := topS 36
abbrev sAsked : Stmt := topS 37
abbrev sUndone : Stmt := topS 38
abbrev sRef : Stmt := topS 39
/-- what the suite asks of the classes -/
structure RTx (K : PySem.W.Frag) (mg : Str → Option Value) (CB : Addr) : Prop where
  gCB : mg "BadKind" = some (.ref CB)
  xf : XfC K CB
  noN : PySem.W.findIn K (.ref CB) "name" = some none
  te : PySem.W.exmOne K (.ref CB) (.ref CB) = some true
def rLst (K : PySem.W.Frag) : List V → Hp → VK → Prop := fun xs H Q => ∃ p ys, xs = [.ref p] ∧ (SqL K H p ys ∨ SqT K H p ys) ∧ ∀ l, H l = none → Q (.ref l) (upd H l (.lst ys))
/-! ### a def with the keyword-only words before and after, both empty by default -/
structure KwX (P : Program) (w : World) (K : PySem.W.Frag) (mg : Str → Option Value) (base : Heap) (lv : Nat) (x : Str) (sp : Sp) (np : Nat) (e1 e2 : Addr) : Prop where
  m1 : ∀ H : Hp, SqT K H e1 []
  m2 : ∀ H : Hp, SqT K H e2 []
  pos : ∃ (f : Addr) (fd : FuncData) (ps : List Str) (ds : List Value), FnOk P w K mg base (L2.CX P w) lv f fd ps sp ∧ mg x = some (.ref f) ∧ PySem.W.keepIn K (.ref f) = true ∧ Binds K fd ps ds ∧ Vals [.ref e1, .ref e2] ds
  bef : ∃ (f : Addr) (fd : FuncData) (ps : List Str) (g : List Value → List Value → List Value), FnOk P w K mg base (L2.CX P w) lv f fd ps sp ∧ mg x = some (.ref f) ∧ PySem.W.keepIn K (.ref f) = true ∧ KBn K fd ps np ["before"] g (fun vs zs => vs ++ zs ++ [.ref e2])
  aft : ∃ (f : Addr) (fd : FuncData) (ps : List Str) (g : List Value → List Value → List Value), FnOk P w K mg base (L2.CX P w) lv f fd ps sp ∧ mg x = some (.ref f) ∧ PySem.W.keepIn K (.ref f) = true ∧ KBn K fd ps np ["after"] g (fun vs zs => vs ++ [.ref e1] ++ zs)
  both : ∃ (f : Addr) (fd : FuncData) (ps : List Str) (g : List Value → List Value → List Value), FnOk P w K mg base (L2.CX P w) lv f fd ps sp ∧ mg x = some (.ref f) ∧ PySem.W.keepIn K (.ref f) = true ∧ KBn K fd ps np ["before", "after"] g (fun vs zs => vs ++ zs)
section
variable {X : Cx} {k j lv np : Nat} {x : Str} {sp : Sp} {E : XK} {p pos : Pos} {e : Expr} {es : List Expr} {kws : List Keyword} {t tk : TA} {e1 e2 : Addr}
theorem pe_kw {ks : List Str} {gV : List V → List V → List V} (c : ∃ (f : Addr) (fd : FuncData) (ps : List Str) (g : List Value → List Value → List Value), FnOk X.prog X.w X.K X.mg X.base (L2.CX X.prog X.w) lv f fd ps sp ∧ X.mg x = some (.ref f) ∧ PySem.W.keepIn X.K (.ref f) = true ∧ KBn X.K fd ps np ks g gV)
    (hr : Room j X.A) (hk : lv ≤ j) (hx : Passes (L2.CX X.prog X.w) X E) (hg : Gl X x) (ha : PA X (e :: es) t) (hkw : PK X kws tk)
    (hall : (backToKw pos (keywordEach kws X.env)).all (·.1.isSome) = true := by rfl) (hks : (backToKw pos (keywordEach kws X.env)).filterMap (·.1) = ks := by rfl)
    (hdb : (x == ("__debug__" : Str)) = false := by decide) (he : starEach (e :: es) X.env = (false, eval e X.env) :: starEach es X.env := by rfl)
    (hpl : ((backTo pos (starEach (e :: es) X.env)).any (·.1) || (backToKw pos (keywordEach kws X.env)).any (·.1.isNone)) = false := by rfl) :
    PE X (.Call (.Name x p) (e :: es) kws pos) (tCallN np ks.length sp gV E t tk) := by
  obtain ⟨f, fd, ps, g, F, hm, kp, b⟩ := c
  exact pe_callN F (hr.mono hk) hg hm kp b hx ha hkw hall hks hdb he hpl
theorem pe_kp (c : KwX X.prog X.w X.K X.mg X.base lv x sp np e1 e2) (hr : Room j X.A) (hk : lv ≤ j) (hx : Passes (L2.CX X.prog X.w) X E) (hg : Gl X x) (ha : PA X (e :: es) t)
    (hdb : (x == ("__debug__" : Str)) = false := by decide) (he : starEach (e :: es) X.env = (false, eval e X.env) :: starEach es X.env := by rfl) (hpl : (backTo pos (starEach es X.env)).any (·.1) = false := by rfl) :
    PE X (.Call (.Name x p) (e :: es) [] pos) (tCall sp [.ref e1, .ref e2] E t) := by
  obtain ⟨f, fd, ps, ds, F, hm, kp, b, hd⟩ := c.pos
  exact pe_call F (hr.mono hk) hg hm kp b hd hx ha hdb he hpl
theorem pe_kpS {W : WX} (c : KwX X.prog X.w X.K X.mg X.base lv x sp np e1 e2) (hr : Room j X.A) (hk : lv ≤ j) (tk : Takes X W) (hg : Gl X x) (ha : PA X (e :: es) t)
    (hdb : (x == ("__debug__" : Str)) = false := by decide) (he : starEach (e :: es) X.env = (false, eval e X.env) :: starEach es X.env := by rfl) (hpl : (backTo pos (starEach es X.env)).any (·.1) = false := by rfl) :
    PE X (.Call (.Name x p) (e :: es) [] pos) (tCallSD sp [.ref e1, .ref e2] (WE W) t) := by
  obtain ⟨f, fd, ps, ds, F, hm, kp, b, hd⟩ := c.pos
  exact pe_callSD F (hr.mono hk) hg hm kp b hd (fun σ => passAt tk σ) ha hdb he hpl
end
theorem dp_pcs {K : PySem.W.Frag} {H : Hp} : ∀ {L : List (Addr × List Int)}, (∀ q ∈ L, H q.1 = some (.tup (q.2.map V.int))) → DpAll K H (L.map fun q => V.ref q.1) (tupsD (wds L))
  | [], _ => .nil
  | q :: L, h => .cons (.tup (tt (h q List.mem_cons_self)) (dp_ints q.2)) (dp_pcs fun r hr => h r (List.mem_cons_of_mem _ hr))
theorem eq_pcs {K : PySem.W.Frag} {H : Hp} {a b : Addr} {L : List (Addr × List Int)} {Q : VK} (ha : Pcs H a L) (hb : Pcs H b L) (q : Q (.bl true) H) : rEqD K (.ref a) (.ref b) H Q :=
  ⟨_, _, .lst (ll ha.at_) (dp_pcs ha.all), .lst (ll hb.at_) (dp_pcs hb.all), shaped_tups _, shaped_tups _, by rw [show PyData.eqv (.list (tupsD (wds L))) (.list (tupsD (wds L))) = true from PySem.SeqAt.eqvAll_refl _ (lay_tups _)]; exact q⟩
section
variable {P : Program} {w : World} {K : PySem.W.Frag} {mg : Str → Option Value} {base : Heap} {T : List (Addr × Str)} {CB e1 e2 r1 r2 : Addr}
theorem scTold : FnScope ["_law_form", "_law_kind", "_law_parcels", "_law_i", "_law_ahead", "_law_behind"] ["_law_form", "_law_kind", "_law_parcels", "_law_i", "_law_ahead", "_law_behind"] (defScope sTold) := ⟨rfl, rfl, rfl, by decide +kernel, rfl, by decide +kernel, by decide +kernel⟩
/-- what is asked about -/
structure Asks (H : Hp) (l b c : Addr) (L : List (Addr × List Int)) (As Bs : List Int) (form : Int) : Prop where
  hp : Pcs H l L
  hb : H b = some (.tup (As.map V.int))
  hc : H c = some (.tup (Bs.map V.int))
  f1 : 1 < form → As = []
  f2 : form = 1 ∨ form = 3 → Bs = []
  hL : L.length ≤ 12
  hq : ∀ q ∈ L, 1 ≤ q.2.length ∧ q.2.length ≤ 4
  hz : As.length + (wds L).flatten.length + Bs.length ≤ 56
theorem Asks.ext {H H' : Hp} {l b c : Addr} {L : List (Addr × List Int)} {As Bs : List Int} {form : Int} (a : Asks H l b c L As Bs form) (e : LamX.ExtN H H') : Asks H' l b c L As Bs form :=
  ⟨a.hp.ext e, e _ _ a.hb (fun ps z => by cases z), e _ _ a.hc (fun ps z => by cases z), a.f1, a.f2, a.hL, a.hq, a.hz⟩
theorem Asks.long {H : Hp} {l b c : Addr} {L : List (Addr × List Int)} {As Bs : List Int} {form : Int} {i : Nat} (a : Asks H l b c L As Bs form) (hi0 : i < L.length) (j : Nat) : (wds (repL L i j)).flatten.length ≤ (wds L).flatten.length + 4 := by
  have hi : L[i]? = some L[i] := List.getElem?_eq_getElem hi0
  have h1 := rep_word [] [] L (j := j) hi
  have h2 := whole_word [] [] L j
  have h3 := (a.hq _ (List.mem_of_getElem? hi)).2
  have e1 := congrArg List.length h1
  have e2 := congrArg List.length h2
  simp only [List.length_append, List.length_nil] at e1 e2
  omega
theorem Asks.short {H : Hp} {l b c : Addr} {L : List (Addr × List Int)} {As Bs : List Int} {form : Int} {i : Nat} (a : Asks H l b c L As Bs form) (hi0 : i < L.length) : (wds (dropL L i)).flatten.length ≤ (wds L).flatten.length := by
  have e1 := congrArg List.length (drop_word [] [] L i)
  have e2 := congrArg List.length (whole_word' [] [] L (List.getElem?_eq_getElem hi0))
  simp only [List.length_append, List.length_nil] at e1 e2
  omega
def spTold (K : PySem.W.Frag) (T : List (Addr × Str)) : Sp := fun vs H Q _ => ∃ (k : Kd) (l b c : Addr) (L : List (Addr × List Int)) (As Bs : List Int) (form : Int) (i : Nat), vs = [.int form, .str k.nm, .ref l, .int i, .ref b, .ref c] ∧ Asks H l b c L As Bs form ∧ i < L.length ∧ LamX.Tabs T H ∧
  ∀ H' : Hp, Gw T H H' → Q (.bl (decide (plainI k (As ++ (wds (dropL L i)).flatten ++ Bs) = plainI k (As ++ (wds L).flatten ++ Bs)))) H'
theorem ok_told {f : Addr} {fd : FuncData} (F : Fun K "_law_told" "_law_told" sTold f fd) (B : Bi mg) (cFL : KwX P w K mg base 5 "free_loss" (spFL K T CB) 3 e1 e2) : FnOk P w K mg base CX0 6 f fd ["_law_form", "_law_kind", "_law_parcels", "_law_i", "_law_ahead", "_law_behind"] (spTold K T) := by
  refine F.ok scTold (fun vs H Q E h => ?_) (fun cdv A outer s H vs Q E hr h => ?_)
  · obtain ⟨k, l, b, c, L, As, Bs, form, i, rfl, _⟩ := h
    rfl
  · obtain ⟨k, l, b, c, L, As, Bs, form, i, rfl, a, hi, hT, q⟩ := h
    have az := a.hz
    have aL := a.hL
    have gen : ∀ (b' c' : Addr) (As' Bs' : List Int), As' = As → Bs' = Bs → SqT K H b' (As'.map V.int) → SqT K H c' (Bs'.map V.int) → spFL K T CB [.str k.nm, .ref l, .int i, .ref b', .ref c'] H Q E0 := by
      rintro b' c' As' Bs' rfl rfl h1 h2
      exact ⟨_, l, b', c', L, _, _, i, rfl, a.hp, h1, h2, hi, by omega, by omega, .inl ⟨k, rfl, hT, q⟩⟩
    refine ⟨_, (pss_cons (ps_if (pt_cmpR op_eq (pv 0) pe_int (nomark _))
 (pss_one (ps_ret (pe_kw cFL.bef hr (by decide) passL (by rfl) (pa_cons (pv 1) (pa_cons (pv 2) (pa_cons (pv 3) pa_nil))) (pk_cons (pv 4) pk_nil)))) pss_nil)
 (pss_cons (ps_if (pt_cmpR op_eq (pv 0) pe_int (nomark _))
 (pss_one (ps_ret (pe_kw cFL.aft hr (by decide) passL (by rfl) (pa_cons (pv 1) (pa_cons (pv 2) (pa_cons (pv 3) pa_nil))) (pk_cons (pv 5) pk_nil)))) pss_nil)
 (pss_cons (ps_if (pt_cmpR op_eq (pv 0) pe_int (nomark _))
 (pss_one (ps_ret (pe_kp cFL hr (by decide) passL (by rfl) (pa_cons (pv 1) (pa_cons (pv 2) (pa_cons (pv 3) pa_nil)))))) pss_nil)
 (pss_one (ps_ret (pe_kw cFL.both hr (by decide) passL (by rfl) (pa_cons (pv 1) (pa_cons (pv 2) (pa_cons (pv 3) pa_nil))) (pk_cons (pv 4) (pk_cons (pv 5) pk_nil)))))))), ?_⟩
    try simp only [tSeq, tAsg, gName, tOp, rI, rI0, rU, tUn, tVar, tC, tCB, tCons, tNil, tTest, tIfS, tRet, tRetN, tDrop, tNext, tBreak, tCont, rEq, rNe, CDiv, CDivN, CMul, tBM, tBM0, tTup, tLst, tAug, tIf, tAnd, tOr, tNot, tAndV, tOrV, tNotV, tIsN, tNotN, tB, scal, tCall, cxK, cxKn, rIxT, rIxL, rIn, rAppend, rReverse, tVals, tDSetd, tDGet, tDGet1, tDGet2, tDIn, tDNotIn, rSortV, rSortT, rPop, rSortL, rSortT, tSl, tNoPart, tPart, List.append_nil, L2.start, List.map_cons, List.map_nil, List.length_cons, List.length_nil, List.replicate_succ, List.replicate_zero, List.cons_append, List.nil_append, Nat.reduceAdd, Nat.reduceSub, exists_eq, exists_eq', List.getElem?_cons_zero, List.getElem?_cons_succ, List.set_cons_zero, List.set_cons_succ, Option.some.injEq, V.int.injEq, V.bl.injEq, V.str.injEq, V.ref.injEq, List.cons.injEq, and_true, true_and, and_false, false_and, reduceCtorEq, exists_false, or_false, false_or, exists_and_left, exists_and_right, exists_eq_left, exists_eq_left', exists_eq_right, exists_eq_right', exists_const, ite_true, ite_false, Bool.false_eq_true, if_true, if_false, decide_true, decide_false]
    refine ite2 (fun e => ?_) (fun e => ite2 (fun e' => ?_) (fun e' => ite2 (fun e'' => ?_) (fun e'' => ?_)))
    · have e1 : Bs = [] := a.f2 (.inl (of_decide_eq_true e))
      exact ⟨_, rfl, _, rfl, _, rfl, _, rfl, rfl, rfl, gen b e2 As [] rfl e1.symm (tt a.hb) (cFL.m2 H)⟩
    · have e3 : As = [] := a.f1 (by have := of_decide_eq_true e'; omega)
      exact ⟨_, rfl, _, rfl, _, rfl, _, rfl, rfl, rfl, gen e1 c [] Bs e3.symm rfl (cFL.m1 H) (tt a.hc)⟩
    · have e4 := of_decide_eq_true e''
      exact gen e1 e2 [] [] (a.f1 (by omega)).symm (a.f2 (.inr e4)).symm (cFL.m1 H) (cFL.m2 H)
    · exact ⟨_, rfl, _, rfl, _, rfl, _, rfl, _, rfl, rfl, rfl, gen b c As Bs rfl rfl (tt a.hb) (tt a.hc)⟩
theorem scUndone : FnScope ["_law_kind", "_law_parcels", "_law_i", "_law_j", "_law_ahead", "_law_behind", "_law_longer", "_law_told_here", "_law_due"] ["_law_kind", "_law_parcels", "_law_i", "_law_j", "_law_ahead", "_law_behind"] (defScope sUndone) := ⟨rfl, rfl, rfl, by decide +kernel, rfl, by decide +kernel, by decide +kernel⟩
def spUndone (K : PySem.W.Frag) (T : List (Addr × Str)) : Sp := fun vs H Q _ => ∃ (k : Kd) (l b c : Addr) (L : List (Addr × List Int)) (As Bs : List Int) (form : Int) (i j : Nat), vs = [.str k.nm, .ref l, .int i, .int j, .ref b, .ref c] ∧ Asks H l b c L As Bs form ∧ i ≤ j ∧ j < L.length ∧ LamX.Tabs T H ∧
  ∀ H' : Hp, Gw T H H' → Q (.bl true) H'
theorem ok_undone {f : Addr} {fd : FuncData} (F : Fun K "_law_undone" "_law_undone" sUndone f fd) (B : Bi mg) (cFL : KwX P w K mg base 5 "free_loss" (spFL K T CB) 3 e1 e2) (cFR : KwX P w K mg base 5 "free_repeat" (spFR K T CB) 4 r1 r2) : FnOk P w K mg base CX0 6 f fd ["_law_kind", "_law_parcels", "_law_i", "_law_j", "_law_ahead", "_law_behind"] (spUndone K T) := by
  refine F.ok scUndone (fun vs H3 Q E h => ?_) (fun cdv A outer s H3 vs Q E hr h => ?_)
  · obtain ⟨k, l, b, c, L, As, Bs, form, i, j, rfl, _⟩ := h
    rfl
  · obtain ⟨k, l, b, c, L, As, Bs, form, i, j, rfl, a, hij, hj, hT, q⟩ := h
    have al := a.long (i := i) (by omega) j
    have az := a.hz
    have hp3 := a.hp
    have hi : L[i]? = some (L[i]'(by omega)) := List.getElem?_eq_getElem _
    generalize L[i]'(by omega) = qi at hi
    have ati : (L.map fun q => V.ref q.1)[i]? = some (.ref qi.1) := by
      rw [List.getElem?_map, hi]
      rfl
    refine ⟨_, (pss_cons (ps_set (i := 6) scUndone.nd rfl (.inl rfl) (pe_op op_cat (pe_op op_cat (pe_slice sl_list (pv 1) po_none (po_some (pe_op op_add (pv 3) pe_int))) (pe_lst (pa_cons (pe_ix ix_list (pv 1) (pv 2) (fun _ _ => rfl)) pa_nil))) (pe_slice sl_list (pv 1) (po_some (pe_op op_add (pv 3) pe_int)) po_none)))
 (pss_cons (ps_set (i := 7) scUndone.nd rfl (.inl rfl) (pe_kw cFL.both hr (by decide) passL (by rfl) (pa_cons (pv 0) (pa_cons (pv 6) (pa_cons (pe_op op_add (pv 3) pe_int) pa_nil))) (pk_cons (pv 4) (pk_cons (pv 5) pk_nil))))
 (pss_cons (ps_set (i := 8) scUndone.nd rfl (.inl rfl) (pe_kw cFR.both hr (by decide) passL (by rfl) (pa_cons (pv 0) (pa_cons (pe_callTy call_list_of (by rfl) B.list (by decide +kernel) (pa_cons (pv 1) pa_nil)) (pa_cons (pv 2) (pa_cons (pv 3) pa_nil)))) (pk_cons (pv 4) (pk_cons (pv 5) pk_nil))))
 (pss_one (ps_ret (pe_and (pe_callB call_isi (by rfl) B.isinstance (by decide +kernel) (pa_cons (pv 7) (pa_cons (pe_bltn (by rfl) B.bool (by decide +kernel) (v := .ty "bool") rfl) pa_nil))) (pe_and (pe_callB call_isi (by rfl) B.isinstance (by decide +kernel) (pa_cons (pv 8) (pa_cons (pe_bltn (by rfl) B.bool (by decide +kernel) (v := .ty "bool") rfl) pa_nil))) (pe_one (pe_cmpR op_eq (pv 7) (pv 8) (nomark _)))))))))), ?_⟩
    try simp only [tSeq, tAsg, gName, tOp, rI, rI0, rU, tUn, tVar, tC, tCB, tCons, tNil, tTest, tIfS, tRet, tRetN, tDrop, tNext, tBreak, tCont, rEq, rNe, CDiv, CDivN, CMul, tBM, tBM0, tTup, tLst, tAug, tIf, tAnd, tOr, tNot, tAndV, tOrV, tNotV, tIsN, tNotN, tB, scal, tCall, cxK, cxKn, rIxT, rIxL, rIn, rAppend, rReverse, tVals, tDSetd, tDGet, tDGet1, tDGet2, tDIn, tDNotIn, rSortV, rSortT, rPop, rSortL, rSortT, tSl, tNoPart, tPart, List.append_nil, L2.start, List.map_cons, List.map_nil, List.length_cons, List.length_nil, List.replicate_succ, List.replicate_zero, List.cons_append, List.nil_append, Nat.reduceAdd, Nat.reduceSub, exists_eq, exists_eq', List.getElem?_cons_zero, List.getElem?_cons_succ, List.set_cons_zero, List.set_cons_succ, Option.some.injEq, V.int.injEq, V.bl.injEq, V.str.injEq, V.ref.injEq, List.cons.injEq, and_true, true_and, and_false, false_and, reduceCtorEq, exists_false, or_false, false_or, exists_and_left, exists_and_right, exists_eq_left, exists_eq_left', exists_eq_right, exists_eq_right', exists_const, ite_true, ite_false, Bool.false_eq_true, if_true, if_false, decide_true, decide_false]
    have hL := a.hL
    refine ⟨l, _, rfl, ll hp3.at_, fun o1 g1 => ?_⟩
    rw [show ((j : Int) + 1) = ((j + 1 : Nat) : Int) from rfl, cutV_take]
    have u1 := same_upd (o := .lst ((L.map fun q => V.ref q.1).take (j + 1))) g1
    refine ⟨_, ll (u1 _ _ hp3.at_), _, atI_nat ati, by decide, fun o2 g2 => ?_⟩
    have u2 := same_upd (o := .lst [V.ref qi.1]) g2
    refine ⟨o1, o2, _, _, rfl, rfl, u2 _ _ upd_same, upd_same, by simp only [List.length_take, List.length_map, List.length_singleton]; exact small1000' (by omega), fun o3 g3 => ?_⟩
    have u3 := same_upd (o := .lst (((L.map fun q => V.ref q.1).take (j + 1)) ++ [V.ref qi.1])) g3
    refine ⟨l, _, rfl, ll (u3 _ _ (u2 _ _ (u1 _ _ hp3.at_))), fun o4 g4 => ?_⟩
    rw [cutV_drop]
    have u4 := same_upd (o := .lst ((L.map fun q => V.ref q.1).drop (j + 1))) g4
    refine ⟨o3, o4, _, _, rfl, rfl, u4 _ _ upd_same, upd_same, by simp only [List.length_take, List.length_map, List.length_singleton, List.length_append, List.length_drop]; exact small1000' (by omega), fun o5 g5 => ?_⟩
    have u5 := same_upd (o := .lst ((((L.map fun q => V.ref q.1).take (j + 1)) ++ [V.ref qi.1]) ++ (L.map fun q => V.ref q.1).drop (j + 1))) g5
    have g5' : upd (upd (upd (upd (upd H3 o1 (.lst ((L.map fun q => V.ref q.1).take (j + 1)))) o2 (.lst [V.ref qi.1])) o3 (.lst (((L.map fun q => V.ref q.1).take (j + 1)) ++ [V.ref qi.1]))) o4 (.lst ((L.map fun q => V.ref q.1).drop (j + 1)))) o5 (.lst ((((L.map fun q => V.ref q.1).take (j + 1)) ++ [V.ref qi.1]) ++ (L.map fun q => V.ref q.1).drop (j + 1))) o5 = some (.lst ((repL L i j).map fun q => V.ref q.1)) := by
      rw [upd_same]
      unfold repL
      rw [List.map_append, List.map_append, hi, List.map_take, List.map_drop]
      rfl
    have u15 := (((u1.trans u2).trans u3).trans u4).trans u5
    generalize upd (upd (upd (upd (upd H3 o1 (.lst ((L.map fun q => V.ref q.1).take (j + 1)))) o2 (.lst [V.ref qi.1])) o3 (.lst (((L.map fun q => V.ref q.1).take (j + 1)) ++ [V.ref qi.1]))) o4 (.lst ((L.map fun q => V.ref q.1).drop (j + 1)))) o5 (.lst ((((L.map fun q => V.ref q.1).take (j + 1)) ++ [V.ref qi.1]) ++ (L.map fun q => V.ref q.1).drop (j + 1))) = H9 at g5' u15
    have pr : Pcs H9 o5 (repL L i j) := ⟨g5', fun q hq => by
      refine u15 _ _ (hp3.all q ?_)
      unfold repL at hq
      rcases List.mem_append.mp hq with hq | hq
      · rcases List.mem_append.mp hq with hq | hq
        · exact List.mem_of_mem_take hq
        · exact List.mem_of_getElem? (Option.mem_toList.mp hq)
      · exact List.mem_of_mem_drop hq⟩
    clear u1 u2 u3 u4 u5 g1 g2 g3 g4 g5 g5'
    try simp only [tSeq, tAsg, gName, tOp, rI, rI0, rU, tUn, tVar, tC, tCB, tCons, tNil, tTest, tIfS, tRet, tRetN, tDrop, tNext, tBreak, tCont, rEq, rNe, CDiv, CDivN, CMul, tBM, tBM0, tTup, tLst, tAug, tIf, tAnd, tOr, tNot, tAndV, tOrV, tNotV, tIsN, tNotN, tB, scal, tCall, cxK, cxKn, rIxT, rIxL, rIn, rAppend, rReverse, tVals, tDSetd, tDGet, tDGet1, tDGet2, tDIn, tDNotIn, rSortV, rSortT, rPop, rSortL, rSortT, tSl, tNoPart, tPart, List.append_nil, L2.start, List.map_cons, List.map_nil, List.length_cons, List.length_nil, List.replicate_succ, List.replicate_zero, List.cons_append, List.nil_append, Nat.reduceAdd, Nat.reduceSub, exists_eq, exists_eq', List.getElem?_cons_zero, List.getElem?_cons_succ, List.set_cons_zero, List.set_cons_succ, Option.some.injEq, V.int.injEq, V.bl.injEq, V.str.injEq, V.ref.injEq, List.cons.injEq, and_true, true_and, and_false, false_and, reduceCtorEq, exists_false, or_false, false_or, exists_and_left, exists_and_right, exists_eq_left, exists_eq_left', exists_eq_right, exists_eq_right', exists_const, ite_true, ite_false, Bool.false_eq_true, if_true, if_false, decide_true, decide_false]
    have lr : (repL L i j).length = L.length + 1 := by
      unfold repL
      rw [hi, List.length_append, List.length_append, List.length_take, List.length_drop]
      show min (j + 1) L.length + 1 + (L.length - (j + 1)) = _
      omega
    have edr : dropL (repL L i j) (j + 1) = L := drop_rep hi hj
    have hb9 := u15 _ _ a.hb
    have hc9 := u15 _ _ a.hc
    refine ⟨_, rfl, _, rfl, _, rfl, _, _, rfl, rfl, _, rfl, _, rfl, rfl, rfl, _, o5, b, c, repL L i j, As, Bs, j + 1, rfl, pr, tt hb9, tt hc9, by omega, by omega, by omega, .inl ⟨k, rfl, hT.ext u15, fun Ha ga => ?_⟩⟩
    rw [edr]
    have g0 := (Gw.of hT u15).trans ga
    have aa := a.ext g0.1
    refine ⟨_, rfl, _, rfl, l, rfl, _, .inl (ll aa.hp.at_), fun ro hro => ?_⟩
    have sr := same_upd (o := .lst (L.map fun q => V.ref q.1)) hro
    have ab := aa.ext (LamX.ExtN.of sr)
    have pro : Pcs (upd Ha ro (.lst (L.map fun q => V.ref q.1))) ro L := ⟨upd_same, ab.hp.all⟩
    refine ⟨_, rfl, _, rfl, _, rfl, _, rfl, rfl, rfl, _, ro, b, c, L, As, Bs, i, j, rfl, pro, tt ab.hb, tt ab.hc, by omega, by omega, by omega, by omega, .inl ⟨k, rfl, g0.2.ext sr, fun Hb gb => ?_⟩⟩
    have ec : decide (plainI k (As ++ (wds L).flatten ++ Bs) = plainI k (As ++ (wds (repL L i j)).flatten ++ Bs)) = decide (plainI k (As ++ (wds (repL L i j)).flatten ++ Bs) = plainI k (As ++ (wds L).flatten ++ Bs)) := decide_eq_decide.mpr ⟨Eq.symm, Eq.symm⟩
    rw [ec]
    generalize decide (plainI k (As ++ (wds (repL L i j)).flatten ++ Bs) = plainI k (As ++ (wds L).flatten ++ Bs)) = bb
    refine ⟨.bl bb, .ty "bool", .type "bool", .type "bool", true, rfl, .ty _, .base (.bl bb), kit_ty (by decide +kernel), true, rfl, if_T rfl ?_⟩
    refine ⟨.bl bb, .ty "bool", .type "bool", .type "bool", true, rfl, .ty _, .base (.bl bb), kit_ty (by decide +kernel), true, rfl, if_T rfl ⟨rfl, ?_⟩⟩
    rw [decide_eq_true rfl]
    exact q _ (g0.trans ((Gw.of g0.2 sr).trans gb))
theorem scAsked : FnScope ["_law_form", "_law_kind", "_law_parcels", "_law_i", "_law_ahead", "_law_behind", "_law_whole", "_law_shorter", "_law_same", "_law_row", "_law_told_here"] ["_law_form", "_law_kind", "_law_parcels", "_law_i", "_law_ahead", "_law_behind"] (defScope sAsked) := ⟨rfl, rfl, rfl, by decide +kernel, rfl, by decide +kernel, by decide +kernel⟩
def spAsked (K : PySem.W.Frag) (T : List (Addr × Str)) : Sp := fun vs H Q _ => ∃ (k : Kd) (l b c : Addr) (L : List (Addr × List Int)) (As Bs : List Int) (form : Int) (i : Nat), vs = [.int form, .str k.nm, .ref l, .int i, .ref b, .ref c] ∧ Asks H l b c L As Bs form ∧ i < L.length ∧ LamX.Tabs T H ∧
  ∀ H' : Hp, Gw T H H' → Q (.bl true) H'
theorem ok_asked {f : Addr} {fd : FuncData} (F : Fun K "_law_asked" "_law_asked" sAsked f fd) (B : Bi mg) (cJoined : CalX CX0 P w K mg base 1 "_law_joined" spJoined) (cPlain : CalX CX0 P w K mg base 1 "_law_plain" (spPlain K)) (cSpared : CalX CX0 P w K mg base 3 "_law_spared" spSpared) (cTold : CalX CX0 P w K mg base 6 "_law_told" (spTold K T)) : FnOk P w K mg base CX0 7 f fd ["_law_form", "_law_kind", "_law_parcels", "_law_i", "_law_ahead", "_law_behind"] (spAsked K T) := by
  refine F.ok scAsked (fun vs H Q E h => ?_) (fun cdv A outer s H vs Q E hr h => ?_)
  · obtain ⟨k, l, b, c, L, As, Bs, form, i, rfl, _⟩ := h
    rfl
  · obtain ⟨k, l, b, c, L, As, Bs, form, i, rfl, a, hi, hT, q⟩ := h
    have al := a.short hi
    have az := a.hz
    have hL := a.hL
    refine ⟨_, (pss_cons (ps_set (i := 6) scAsked.nd rfl (.inl rfl) (pe_op op_catA (pe_op op_catA (pv 4) (pe_cx cJoined hr (by decide) pass0 (by rfl) (pa_cons (pv 2) pa_nil))) (pv 5)))
 (pss_cons (ps_set (i := 7) scAsked.nd rfl (.inl rfl) (pe_op op_catA (pe_op op_catA (pv 4) (pe_cx cJoined hr (by decide) pass0 (by rfl) (pa_cons (pe_op op_cat (pe_slice sl_list (pv 2) po_none (po_some (pv 3))) (pe_slice sl_list (pv 2) (po_some (pe_op op_add (pv 3) pe_int)) po_none)) pa_nil))) (pv 5)))
 (pss_cons (ps_set (i := 8) scAsked.nd rfl (.inl rfl) (pe_cmpR (op_eqD hr.units) (pe_cx cPlain hr (by decide) pass0 (by rfl) (pa_cons (pv 1) (pa_cons (pv 6) pa_nil))) (pe_cx cPlain hr (by decide) pass0 (by rfl) (pa_cons (pv 1) (pa_cons (pv 7) pa_nil))) (nomark _)))
 (pss_cons (ps_if (pt_cmpR op_ne (pe_cx cSpared hr (by decide) pass0 (by rfl) (pa_cons (pv 1) (pa_cons (pv 2) (pa_cons (pv 3) (pa_cons (pv 4) (pa_cons (pv 5) pa_nil)))))) (pv 8) (nomark _))
 (pss_one (ps_ret pe_bl)) pss_nil)
 (pss_cons (ps_set (i := 9) scAsked.nd rfl (.inl rfl) (pe_callTy call_list_of (by rfl) B.list (by decide +kernel) (pa_cons (pv 2) pa_nil)))
 (pss_cons (ps_set (i := 10) scAsked.nd rfl (.inl rfl) (pe_cx cTold hr (by decide) pass0 (by rfl) (pa_cons (pv 0) (pa_cons (pv 1) (pa_cons (pv 9) (pa_cons (pv 3) (pa_cons (pv 4) (pa_cons (pv 5) pa_nil))))))))
 (pss_one (ps_ret (pe_and (pe_callB call_isi (by rfl) B.isinstance (by decide +kernel) (pa_cons (pv 10) (pa_cons (pe_bltn (by rfl) B.bool (by decide +kernel) (v := .ty "bool") rfl) pa_nil))) (pe_and (pe_cmpR op_eq (pv 10) (pv 8) (nomark _)) (pe_one (pe_cmpR (op_eqD hr.units) (pv 9) (pv 2) (nomark _))))))))))))), ?_⟩
    try simp only [tSeq, tAsg, gName, tOp, rI, rI0, rU, tUn, tVar, tC, tCB, tCons, tNil, tTest, tIfS, tRet, tRetN, tDrop, tNext, tBreak, tCont, rEq, rNe, CDiv, CDivN, CMul, tBM, tBM0, tTup, tLst, tAug, tIf, tAnd, tOr, tNot, tAndV, tOrV, tNotV, tIsN, tNotN, tB, scal, tCall, cxK, cxKn, rIxT, rIxL, rIn, rAppend, rReverse, tVals, tDSetd, tDGet, tDGet1, tDGet2, tDIn, tDNotIn, rSortV, rSortT, rPop, rSortL, rSortT, tSl, tNoPart, tPart, List.append_nil, L2.start, List.map_cons, List.map_nil, List.length_cons, List.length_nil, List.replicate_succ, List.replicate_zero, List.cons_append, List.nil_append, Nat.reduceAdd, Nat.reduceSub, exists_eq, exists_eq', List.getElem?_cons_zero, List.getElem?_cons_succ, List.set_cons_zero, List.set_cons_succ, Option.some.injEq, V.int.injEq, V.bl.injEq, V.str.injEq, V.ref.injEq, List.cons.injEq, and_true, true_and, and_false, false_and, reduceCtorEq, exists_false, or_false, false_or, exists_and_left, exists_and_right, exists_eq_left, exists_eq_left', exists_eq_right, exists_eq_right', exists_const, ite_true, ite_false, Bool.false_eq_true, if_true, if_false, decide_true, decide_false]
    refine ⟨l, L, rfl, a.hp, by omega, fun H1 t1 s1 h1 => ?_⟩
    refine cat_tups (s1 _ _ a.hb) h1 (by rw [List.length_map, List.length_map]; omega) fun t2 H2 s2 h2 => ?_
    have s12 := s1.trans s2
    refine cat_tups h2 (s12 _ _ a.hc) (by simp only [List.length_append, List.length_map]; omega) fun wh H3 s3 h3 => ?_
    have s13 := s12.trans s3
    rw [← List.map_append, ← List.map_append] at h3
    clear h1 h2
    try simp only [tSeq, tAsg, gName, tOp, rI, rI0, rU, tUn, tVar, tC, tCB, tCons, tNil, tTest, tIfS, tRet, tRetN, tDrop, tNext, tBreak, tCont, rEq, rNe, CDiv, CDivN, CMul, tBM, tBM0, tTup, tLst, tAug, tIf, tAnd, tOr, tNot, tAndV, tOrV, tNotV, tIsN, tNotN, tB, scal, tCall, cxK, cxKn, rIxT, rIxL, rIn, rAppend, rReverse, tVals, tDSetd, tDGet, tDGet1, tDGet2, tDIn, tDNotIn, rSortV, rSortT, rPop, rSortL, rSortT, tSl, tNoPart, tPart, List.append_nil, L2.start, List.map_cons, List.map_nil, List.length_cons, List.length_nil, List.replicate_succ, List.replicate_zero, List.cons_append, List.nil_append, Nat.reduceAdd, Nat.reduceSub, exists_eq, exists_eq', List.getElem?_cons_zero, List.getElem?_cons_succ, List.set_cons_zero, List.set_cons_succ, Option.some.injEq, V.int.injEq, V.bl.injEq, V.str.injEq, V.ref.injEq, List.cons.injEq, and_true, true_and, and_false, false_and, reduceCtorEq, exists_false, or_false, false_or, exists_and_left, exists_and_right, exists_eq_left, exists_eq_left', exists_eq_right, exists_eq_right', exists_const, ite_true, ite_false, Bool.false_eq_true, if_true, if_false, decide_true, decide_false]
    have hp3 := a.hp.same s13
    refine ⟨l, _, rfl, ll hp3.at_, fun o1 g1 => ?_⟩
    rw [cutV_take, ← List.map_take]
    have u1 := same_upd (o := .lst ((L.take i).map fun q => V.ref q.1)) g1
    refine ⟨l, _, rfl, ll (u1 _ _ hp3.at_), fun o2 g2 => ?_⟩
    rw [show ((i : Int) + 1) = ((i + 1 : Nat) : Int) from rfl, cutV_drop, ← List.map_drop]
    have u2 := same_upd (o := .lst ((L.drop (i + 1)).map fun q => V.ref q.1)) g2
    refine ⟨o1, o2, _, _, rfl, rfl, u2 _ _ upd_same, upd_same, by simp only [List.length_take, List.length_map, List.length_drop]; exact small1000' (by omega), fun o5 g3 => ?_⟩
    rw [← List.map_append]
    have u3 := same_upd (o := .lst ((L.take i ++ L.drop (i + 1)).map fun q => V.ref q.1)) g3
    have u15 := (u1.trans u2).trans u3
    have pr := hp3.part (M := dropL L i) u15 (upd_same (a := o5)) fun q hq => by
      rcases List.mem_append.mp hq with hq | hq
      · exact List.mem_of_mem_take hq
      · exact List.mem_of_mem_drop hq
    generalize upd (upd (upd H3 o1 (.lst ((L.take i).map fun q => V.ref q.1))) o2 (.lst ((L.drop (i + 1)).map fun q => V.ref q.1))) o5 (.lst ((L.take i ++ L.drop (i + 1)).map fun q => V.ref q.1)) = H9 at u15 pr
    clear u1 u2 u3 g1 g2 g3
    have h9 := u15 _ _ h3
    have s19 := s13.trans u15
    try simp only [tSeq, tAsg, gName, tOp, rI, rI0, rU, tUn, tVar, tC, tCB, tCons, tNil, tTest, tIfS, tRet, tRetN, tDrop, tNext, tBreak, tCont, rEq, rNe, CDiv, CDivN, CMul, tBM, tBM0, tTup, tLst, tAug, tIf, tAnd, tOr, tNot, tAndV, tOrV, tNotV, tIsN, tNotN, tB, scal, tCall, cxK, cxKn, rIxT, rIxL, rIn, rAppend, rReverse, tVals, tDSetd, tDGet, tDGet1, tDGet2, tDIn, tDNotIn, rSortV, rSortT, rPop, rSortL, rSortT, tSl, tNoPart, tPart, List.append_nil, L2.start, List.map_cons, List.map_nil, List.length_cons, List.length_nil, List.replicate_succ, List.replicate_zero, List.cons_append, List.nil_append, Nat.reduceAdd, Nat.reduceSub, exists_eq, exists_eq', List.getElem?_cons_zero, List.getElem?_cons_succ, List.set_cons_zero, List.set_cons_succ, Option.some.injEq, V.int.injEq, V.bl.injEq, V.str.injEq, V.ref.injEq, List.cons.injEq, and_true, true_and, and_false, false_and, reduceCtorEq, exists_false, or_false, false_or, exists_and_left, exists_and_right, exists_eq_left, exists_eq_left', exists_eq_right, exists_eq_right', exists_const, ite_true, ite_false, Bool.false_eq_true, if_true, if_false, decide_true, decide_false]
    refine ⟨o5, dropL L i, rfl, pr, by omega, fun Ha ta sa ha => ?_⟩
    refine cat_tups (sa _ _ (s19 _ _ a.hb)) ha (by rw [List.length_map, List.length_map]; omega) fun tb Hb sb hb => ?_
    have sab := sa.trans sb
    refine cat_tups hb (sab _ _ (s19 _ _ a.hc)) (by simp only [List.length_append, List.length_map]; omega) fun lo Hc sc hc => ?_
    have sac := sab.trans sc
    rw [← List.map_append, ← List.map_append] at hc
    clear ha hb
    have hw := sac _ _ h9
    have s0c := s19.trans sac
    try simp only [tSeq, tAsg, gName, tOp, rI, rI0, rU, tUn, tVar, tC, tCB, tCons, tNil, tTest, tIfS, tRet, tRetN, tDrop, tNext, tBreak, tCont, rEq, rNe, CDiv, CDivN, CMul, tBM, tBM0, tTup, tLst, tAug, tIf, tAnd, tOr, tNot, tAndV, tOrV, tNotV, tIsN, tNotN, tB, scal, tCall, cxK, cxKn, rIxT, rIxL, rIn, rAppend, rReverse, tVals, tDSetd, tDGet, tDGet1, tDGet2, tDIn, tDNotIn, rSortV, rSortT, rPop, rSortL, rSortT, tSl, tNoPart, tPart, List.append_nil, L2.start, List.map_cons, List.map_nil, List.length_cons, List.length_nil, List.replicate_succ, List.replicate_zero, List.cons_append, List.nil_append, Nat.reduceAdd, Nat.reduceSub, exists_eq, exists_eq', List.getElem?_cons_zero, List.getElem?_cons_succ, List.set_cons_zero, List.set_cons_succ, Option.some.injEq, V.int.injEq, V.bl.injEq, V.str.injEq, V.ref.injEq, List.cons.injEq, and_true, true_and, and_false, false_and, reduceCtorEq, exists_false, or_false, false_or, exists_and_left, exists_and_right, exists_eq_left, exists_eq_left', exists_eq_right, exists_eq_right', exists_const, ite_true, ite_false, Bool.false_eq_true, if_true, if_false, decide_true, decide_false]
    have pw := fun xs => plain_len k xs
    refine ⟨k, wh, _, rfl, tt hw, by simp only [List.length_append]; omega, fun Hd t5 sd hd => ?_⟩
    refine ⟨k, lo, _, rfl, tt (sd _ _ hc), by simp only [List.length_append]; omega, fun He t6 se he => ?_⟩
    refine eq_tups (Same.tup se hd) he ?_
    have s0e := (s0c.trans sd).trans se
    have ae := a.ext (LamX.ExtN.of s0e)
    clear hd he hw hc sd se s0c sac sab sa sb sc s19 u15 pr h9 h3 hp3 s13 s12 s1 s2 s3
    try simp only [tSeq, tAsg, gName, tOp, rI, rI0, rU, tUn, tVar, tC, tCB, tCons, tNil, tTest, tIfS, tRet, tRetN, tDrop, tNext, tBreak, tCont, rEq, rNe, CDiv, CDivN, CMul, tBM, tBM0, tTup, tLst, tAug, tIf, tAnd, tOr, tNot, tAndV, tOrV, tNotV, tIsN, tNotN, tB, scal, tCall, cxK, cxKn, rIxT, rIxL, rIn, rAppend, rReverse, tVals, tDSetd, tDGet, tDGet1, tDGet2, tDIn, tDNotIn, rSortV, rSortT, rPop, rSortL, rSortT, tSl, tNoPart, tPart, List.append_nil, L2.start, List.map_cons, List.map_nil, List.length_cons, List.length_nil, List.replicate_succ, List.replicate_zero, List.cons_append, List.nil_append, Nat.reduceAdd, Nat.reduceSub, exists_eq, exists_eq', List.getElem?_cons_zero, List.getElem?_cons_succ, List.set_cons_zero, List.set_cons_succ, Option.some.injEq, V.int.injEq, V.bl.injEq, V.str.injEq, V.ref.injEq, List.cons.injEq, and_true, true_and, and_false, false_and, reduceCtorEq, exists_false, or_false, false_or, exists_and_left, exists_and_right, exists_eq_left, exists_eq_left', exists_eq_right, exists_eq_right', exists_const, ite_true, ite_false, Bool.false_eq_true, if_true, if_false, decide_true, decide_false]
    refine ⟨k, l, b, c, L, As, Bs, i, rfl, ae.hp, ae.hb, ae.hc, hi, by omega, ae.hq, by omega, fun Hf sf => ?_⟩
    have ec : decide (plainI k (As ++ (wds (dropL L i)).flatten ++ Bs) = plainI k (As ++ (wds L).flatten ++ Bs)) = decide (plainI k (As ++ (wds L).flatten ++ Bs) = plainI k (As ++ (wds (dropL L i)).flatten ++ Bs)) := decide_eq_decide.mpr ⟨Eq.symm, Eq.symm⟩
    generalize hbb : decide (plainI k (As ++ (wds L).flatten ++ Bs) = plainI k (As ++ (wds (dropL L i)).flatten ++ Bs)) = bb at ec
    refine ⟨rfl, if_F (by simp) ⟨_, .inl (ll (ae.hp.same sf).at_), fun ro hro => ?_⟩⟩
    have sr := same_upd (o := .lst (L.map fun q => V.ref q.1)) hro
    have ar : Asks (upd Hf ro (.lst (L.map fun q => V.ref q.1))) ro b c L As Bs form := by
      have x := ae.ext (LamX.ExtN.of (sf.trans sr))
      exact ⟨⟨upd_same, x.hp.all⟩, x.hb, x.hc, x.f1, x.f2, x.hL, x.hq, x.hz⟩
    have Tr := hT.ext ((s0e.trans sf).trans sr)
    have pl := (ae.hp.same sf).same sr
    refine ⟨k, ro, b, c, L, As, Bs, form, i, rfl, ar, hi, Tr, fun Hg gg => ?_⟩
    rw [ec]
    refine ⟨.bl bb, .ty "bool", .type "bool", .type "bool", true, rfl, .ty _, .base (.bl bb), kit_ty (by decide +kernel), true, rfl, if_T rfl ⟨rfl, if_T (by simp) ?_⟩⟩
    exact eq_pcs (ar.hp.ext gg.1) (pl.ext gg.1) (q _ ((Gw.of hT ((s0e.trans sf).trans sr)).trans gg))
theorem scRef : FnScope ["_law_name", "_law_parcels", "_law_caught", "_law_told_here", "e"] ["_law_name", "_law_parcels"] (defScope sRef) := ⟨rfl, rfl, rfl, by decide +kernel, rfl, by decide +kernel, by decide +kernel⟩
def spRef : Sp := fun vs H Q _ => ∃ (v : V) (l : Addr) (L : List (Addr × List Int)), vs = [v, .ref l] ∧ Pcs H l L ∧ 0 < L.length ∧ L.length ≤ 12 ∧ (∀ q ∈ L, 1 ≤ q.2.length ∧ q.2.length ≤ 4) ∧ (wds L).flatten.length ≤ 56 ∧ BadV H v ∧ ∀ H' : Hp, LamX.ExtN H H' → Q (.bl true) H'
theorem ok_ref {f : Addr} {fd : FuncData} (F : Fun K "_law_refused" "_law_refused" sRef f fd) (B : Bi mg) (R : RTx K mg CB) (cFL : KwX P w K mg base 5 "free_loss" (spFL K T CB) 3 e1 e2) : FnOk P w K mg base CX0 6 f fd ["_law_name", "_law_parcels"] spRef := by
  refine F.ok scRef (fun vs H Q E h => ?_) (fun cdv A outer s H vs Q E hr h => ?_)
  · obtain ⟨v, l, L, rfl, _⟩ := h
    rfl
  · obtain ⟨v, l, L, rfl, hp, l0, lL, hq, hz, b, q⟩ := h
    refine ⟨_, pss_cons (ps_set (i := 2) scRef.nd rfl (.inl rfl) pe_bl) (pss_cons (ps_set (i := 3) scRef.nd rfl (.inl rfl) pe_str) (pss_cons (ps_try_as (i := 4)
      (tb := fun W => tDrop (tCallSD (spFL K T CB) [.ref e1, .ref e2] (WE W) (tCons (tVar 0) (tCons (tCB (rLst K) (tCons (tVar 1) tNil)) (tCons (tC (V.int 0)) tNil)))))
      (ts := fun a cls d => tSeq (tAsg (tC (V.bl true)) (gName 2)) (tAsg (tXf a cls d CB "name" (tVar 4)) (gName 3))) (Wout := fun _ _ _ _ => False) rfl rfl scRef.nd rfl rfl ⟨rfl, by decide, .inl R.gCB⟩ takes0
        (fun W pn xe tk _ => by exact (pss_one (ps_expr (pe_kpS cFL hr (by decide) tk (by rfl) (pa_cons (pv 0) (pa_cons (pe_callTy call_list_of (by rfl) B.list (by decide +kernel) (pa_cons (pv 1) pa_nil)) (pa_cons pe_int pa_nil)))))))
        (fun a oe cls d pn hz hf => by exact (pss_cons (ps_set (i := 2) scRef.nd rfl (.inl rfl) pe_bl) (pss_one (ps_set (i := 3) scRef.nd rfl (.inl rfl) (pe_xf R.xf R.noN hz hf (pv 4)))))))
      (pss_one (ps_ret (pe_and (pv 2) (pe_one (pe_cmpR op_eq (pv 3) (pv 0) (nomark _)))))))), ?_⟩
    have hE : ∀ H1 : Hp, LamX.ExtN H H1 → Rs CB H1 v (fun cls d H' => wAs K (.ref CB) 4 (fun (a : Addr) (cls : Value) (d : Option Addr) => tSeq (tAsg (tC (V.bl true)) (gName 2)) (tAsg (tXf a cls d CB "name" (tVar 4)) (gName 3))) (fun _ _ _ _ => False) { nx := fun σ' H' => tRet (tAndV (tVar 2) (tOp rEq (tVar 3) (tVar 0))) { nx := fun _ H' => Q .non H', rt := Q } σ' H', rt := Q } cls d [some v, some (.ref l), some (.bl false), some (.str ""), none] H') := by
      intro H1 x1 d H2 x2 hd
      refine ⟨true, R.te, fun _ a ha => ?_, fun z => Bool.noConfusion z⟩
      have hl : List.lookup ("name" : Str) [(("name" : Str), v)] = some v := by simp [List.lookup]
      have fin : Q (.bl true) H2 := q _ (x1.trans x2)
      refine ⟨.ref a, rfl, rfl, rfl, d, _, v, rfl, hd, hl, ?_⟩
      cases b <;> exact ⟨_, rfl, _, rfl, if_T rfl ⟨_, rfl, _, rfl, rfl, by rw [decide_eq_true rfl]; exact fin⟩⟩
    clear q
    revert hE
    generalize (fun (a : Addr) (cls : Value) (d : Option Addr) => tSeq (tAsg (tC (V.bl true)) (gName 2)) (tAsg (tXf a cls d CB "name" (tVar 4)) (gName 3))) = ts
    intro hE
    try simp only [tSeq, tAsg, gName, tOp, rI, rI0, rU, tUn, tVar, tC, tCB, tCons, tNil, tTest, tIfS, tRet, tRetN, tDrop, tNext, tBreak, tCont, rEq, rNe, CDiv, CDivN, CMul, tBM, tBM0, tTup, tLst, tAug, tIf, tAnd, tOr, tNot, tAndV, tOrV, tNotV, tIsN, tNotN, tB, scal, tCall, cxK, cxKn, rIxT, rIxL, rIn, rAppend, rReverse, tVals, tDSetd, tDGet, tDGet1, tDGet2, tDIn, tDNotIn, rSortV, rSortT, rPop, rSortL, rSortT, tSl, tNoPart, tPart, List.append_nil, L2.start, List.map_cons, List.map_nil, List.length_cons, List.length_nil, List.replicate_succ, List.replicate_zero, List.cons_append, List.nil_append, Nat.reduceAdd, Nat.reduceSub, exists_eq, exists_eq', List.getElem?_cons_zero, List.getElem?_cons_succ, List.set_cons_zero, List.set_cons_succ, Option.some.injEq, V.int.injEq, V.bl.injEq, V.str.injEq, V.ref.injEq, List.cons.injEq, and_true, true_and, and_false, false_and, reduceCtorEq, exists_false, or_false, false_or, exists_and_left, exists_and_right, exists_eq_left, exists_eq_left', exists_eq_right, exists_eq_right', exists_const, ite_true, ite_false, Bool.false_eq_true, if_true, if_false, decide_true, decide_false]
    refine ⟨v, rfl, .ref l, rfl, l, _, rfl, .inl (ll hp.at_), fun o ho => ?_⟩
    have so := same_upd (o := .lst (L.map fun q => V.ref q.1)) ho
    have po : Pcs (upd H o (.lst (L.map fun q => V.ref q.1))) o L := ⟨upd_same, (hp.same so).all⟩
    refine ⟨v, o, e1, e2, L, [], [], 0, rfl, po, cFL.m1 _, cFL.m2 _, l0, by omega, by simp only [List.length_nil]; omega, .inr ⟨b.ext (LamX.ExtN.of so), hE _ (LamX.ExtN.of so)⟩⟩
end
end Mv

set_option Elab.async false
set_option linter.all false
set_option maxRecDepth 100000
set_option maxHeartbeats 8000000
namespace Mv
open PySem PySem.Spec PyProof.Rows L2
abbrev sLaw : Stmt := topS 40
def spLaw (K : PySem.W.Frag) (T : List (Addr × Str)) : Sp := fun vs H Q _ => ∃ (a : Addr) (ns : List Int), vs = [.ref a] ∧ SqL K H a (ns.map V.int) ∧ ns.length ≤ 63 ∧ LamX.Tabs T H ∧ ∀ H' : Hp, Q (.bl true) H'
theorem tabs_sx {T : List (Addr × Str)} {H H' : Hp} {a : Addr} (t : LamX.Tabs T H) (hs : Strm H a) (x : Sx a H H') : LamX.Tabs T H' := fun p hp => by
  obtain ⟨ps, h1, h2, h3⟩ := t p hp
  obtain ⟨ns, ha, _⟩ := hs
  have ne : ∀ {b : Addr} {o : HO}, H b = some o → (∀ l, o ≠ .lst l) → b ≠ a := fun {b o} e n z => by
    rw [z, ha] at e
    exact n _ (Option.some.inj e).symm
  refine ⟨ps, x _ _ (ne h1 fun l z => by cases z) h1, h2, fun pos cv hc => ?_⟩
  obtain ⟨c, e1, e2⟩ := h3 pos cv hc
  exact ⟨c, e1, x _ _ (ne e2 fun l z => by unfold LamX.CodeO at z; cases z) e2⟩
theorem Strm.ext {H H' : Hp} {a : Addr} (h : Strm H a) (e : LamX.ExtN H H') : Strm H' a := by
  obtain ⟨ns, h1, h2⟩ := h
  exact ⟨ns, e _ _ h1 (fun ps z => by cases z), h2⟩
/-- the pairs of places -/
structure Prs (H : Hp) (o : Addr) (n : Nat) (M : List (Addr × Nat × Nat)) : Prop where
  at_ : H o = some (.lst (M.map fun q => V.ref q.1))
  all : ∀ q ∈ M, H q.1 = some (.tup [.int (q.2.1 : Int), .int (q.2.2 : Int)]) ∧ q.2.1 ≤ q.2.2 ∧ q.2.2 < n
theorem Prs.ext {H H' : Hp} {o : Addr} {n : Nat} {M : List (Addr × Nat × Nat)} (p : Prs H o n M) (e : LamX.ExtN H H') : Prs H' o n M := ⟨e _ _ p.at_ (fun ps z => by cases z), fun q hq => ⟨e _ _ (p.all q hq).1 (fun ps z => by cases z), (p.all q hq).2⟩⟩
theorem Prs.sx {H H' : Hp} {a o : Addr} {n : Nat} {M : List (Addr × Nat × Nat)} (p : Prs H o n M) (hs : Strm H a) (no : o ≠ a) (e : Sx a H H') : Prs H' o n M := ⟨e _ _ no p.at_, fun q hq => ⟨e _ _ (hs.neT (p.all q hq).1) (p.all q hq).1, (p.all q hq).2⟩⟩
/-- one pair more -/
theorem Prs.snoc {H : Hp} {o t : Addr} {n i j : Nat} {M : List (Addr × Nat × Nat)} (p : Prs H o n M) (ht : H t = none) (hij : i ≤ j) (hj : j < n) :
    Prs (upd (upd H t (.tup [.int (i : Int), .int (j : Int)])) o (.lst (M.map (fun q => V.ref q.1) ++ [.ref t]))) o n (M ++ [(t, i, j)]) := by
  have st := same_upd (o := .tup [.int (i : Int), .int (j : Int)]) ht
  refine ⟨by rw [upd_same, List.map_append]; rfl, fun q hq => ?_⟩
  rcases List.mem_append.mp hq with hq | hq
  · have h := st _ _ (p.all q hq).1
    rw [upd_ne (ne_of h (st _ _ p.at_) (by intro z; cases z))]
    exact ⟨h, (p.all q hq).2⟩
  · rw [List.mem_singleton.mp hq]
    refine ⟨?_, hij, hj⟩
    rw [upd_ne (ne_of (upd_same (H := H) (a := t)) (st _ _ p.at_) (by intro z; cases z))]
    exact upd_same
theorem Asks.sx {H H' : Hp} {a l b c : Addr} {L : List (Addr × List Int)} {As Bs : List Int} {form : Int} (k : Asks H l b c L As Bs form) (hs : Strm H a) (n : l ≠ a) (e : Sx a H H') : Asks H' l b c L As Bs form :=
  ⟨k.hp.sx hs n e, e _ _ (hs.neT k.hb) k.hb, e _ _ (hs.neT k.hc) k.hc, k.f1, k.f2, k.hL, k.hq, k.hz⟩
def badTexts : List Str := ["", "LAST", "set ", "lost", "heads tails"]
theorem bad_texts : ∀ z ∈ badTexts, (∀ k : Kd, ¬ z = k.nm) ∧ z.length ≤ 100 ∧ ∀ c ∈ z.cps.toList, c < 0x110000 := by
  intro z hz
  have h : badTexts.all (fun z => kds.all (fun k => !decide (z = k.nm)) && decide (z.length ≤ 100) && z.cps.toList.all fun c => decide (c < 0x110000)) = true := by decide +kernel
  have h1 := List.all_eq_true.mp h z hz
  rw [Bool.and_eq_true, Bool.and_eq_true] at h1
  refine ⟨fun k e => ?_, of_decide_eq_true h1.1.2, fun c hc => of_decide_eq_true (List.all_eq_true.mp h1.2 c hc)⟩
  have h2 := List.all_eq_true.mp h1.1.1 k (by cases k <;> decide)
  rw [e] at h2
  simp at h2
theorem bad_pick (H : Hp) {n : Nat} (hn : n < 7) : ∃ v, (badTexts.map V.str ++ [.non, .int 1])[n]? = some v ∧ BadV H v := by
  by_cases h5 : n < 5
  · have hb : n < badTexts.length := h5
    refine ⟨.str badTexts[n], ?_, ?_⟩
    · rw [List.getElem?_append_left (by rw [List.length_map]; exact hb), List.getElem?_map, List.getElem?_eq_getElem hb]
      rfl
    · obtain ⟨k1, k2, k3⟩ := bad_texts _ (List.getElem_mem hb)
      exact .str _ k1 k2 k3
  · rw [List.getElem?_append_right (by rw [List.length_map]; exact Nat.not_lt.mp h5), List.length_map]
    obtain rfl | rfl : n = 5 ∨ n = 6 := by omega
    · exact ⟨.non, rfl, .non⟩
    · exact ⟨.int 1, rfl, .int 1 (by decide)⟩
section
variable {P : Program} {w : World} {K : PySem.W.Frag} {mg : Str → Option Value} {base : Heap} {T : List (Addr × Str)} {CB : Addr}
theorem scLaw : FnScope ["_law_script", "_law_stream_here", "_law_style", "_law_many", "_law_parcels", "_law_ahead", "_law_behind", "_law_form", "_law_places", "_law_pairs", "_law_j", "_law_i", "_law_kind", "_law_turn"] ["_law_script"] (defScope sLaw) := ⟨rfl, rfl, rfl, by decide +kernel, rfl, by decide +kernel, by decide +kernel⟩
abbrev lawN : List Str := ["_law_script", "_law_stream_here", "_law_style", "_law_many", "_law_parcels", "_law_ahead", "_law_behind", "_law_form", "_law_places", "_law_pairs", "_law_j", "_law_i", "_law_kind", "_law_turn"]
/-- what stands when all is drawn -/
structure Bas (T : List (Addr × Str)) (H : Hp) (p l b c : Addr) (L : List (Addr × List Int)) (As Bs : List Int) (form : Int) (n : Nat) : Prop where
  st : Strm H p
  nl : l ≠ p
  n1 : 1 ≤ n
  n12 : n ≤ 12
  lL : L.length = n
  as : Asks H l b c L As Bs form
  tb : LamX.Tabs T H
theorem Bas.sx {H H' : Hp} {p l b c : Addr} {L : List (Addr × List Int)} {As Bs : List Int} {form : Int} {n : Nat} (k : Bas T H p l b c L As Bs form n) (e : Sx p H H') (t : Strm H' p) : Bas T H' p l b c L As Bs form n :=
  ⟨t, k.nl, k.n1, k.n12, k.lL, k.as.sx k.st k.nl e, tabs_sx k.tb k.st e⟩
theorem Bas.gw {H H' : Hp} {p l b c : Addr} {L : List (Addr × List Int)} {As Bs : List Int} {form : Int} {n : Nat} (k : Bas T H p l b c L As Bs form n) (e : Gw T H H') : Bas T H' p l b c L As Bs form n :=
  ⟨k.st.ext e.1, k.nl, k.n1, k.n12, k.lL, k.as.ext e.1, e.2⟩
theorem tabs_lx {T : List (Addr × Str)} {H H' : Hp} {o : Addr} {xs : List V} (t : LamX.Tabs T H) (ha : H o = some (.lst xs)) (x : Sx o H H') : LamX.Tabs T H' := fun p hp => by
  obtain ⟨ps, h1, h2, h3⟩ := t p hp
  have ne : ∀ {b : Addr} {u : HO}, H b = some u → (∀ l, u ≠ .lst l) → b ≠ o := fun {b u} e n z => by
    rw [z, ha] at e
    exact n _ (Option.some.inj e).symm
  refine ⟨ps, x _ _ (ne h1 fun l z => by cases z) h1, h2, fun pos cv hc => ?_⟩
  obtain ⟨c, e1, e2⟩ := h3 pos cv hc
  exact ⟨c, e1, x _ _ (ne e2 fun l z => by unfold LamX.CodeO at z; cases z) e2⟩
/-- another list is written -/
theorem Bas.wr {H H' : Hp} {p l b c o : Addr} {L : List (Addr × List Int)} {As Bs : List Int} {form : Int} {n : Nat} {xs : List V} (k : Bas T H p l b c L As Bs form n) (ho : H o = some (.lst xs)) (np : o ≠ p) (nl : o ≠ l) (x : Sx o H H') : Bas T H' p l b c L As Bs form n := by
  have nt : ∀ {z : Addr} {ys : List V}, H z = some (.tup ys) → z ≠ o := fun h => ne_of h ho (by intro z; cases z)
  refine ⟨?_, k.nl, k.n1, k.n12, k.lL, ?_, tabs_lx k.tb ho x⟩
  · obtain ⟨ns, h1, h2⟩ := k.st
    exact ⟨ns, x _ _ np.symm h1, h2⟩
  · have a := k.as
    exact ⟨⟨x _ _ nl.symm a.hp.at_, fun q hq => x _ _ (nt (a.hp.all q hq)) (a.hp.all q hq)⟩, x _ _ (nt a.hb) a.hb, x _ _ (nt a.hc) a.hc, a.f1, a.f2, a.hL, a.hq, a.hz⟩
/-- a pair is put behind the others -/
theorem Bas.snoc {H : Hp} {p l b c o t : Addr} {L : List (Addr × List Int)} {As Bs : List Int} {form : Int} {n i j : Nat} {M : List (Addr × Nat × Nat)} (k : Bas T H p l b c L As Bs form n) (ps : Prs H o n M) (np : o ≠ p) (nl : o ≠ l) (ht : H t = none) :
    Bas T (upd (upd H t (.tup [.int (i : Int), .int (j : Int)])) o (.lst (M.map (fun q => V.ref q.1) ++ [.ref t]))) p l b c L As Bs form n := by
  have st := same_upd (o := .tup [.int (i : Int), .int (j : Int)]) ht
  exact (k.gw (.of k.tb st)).wr (st _ _ ps.at_) np nl Sx.upd
theorem Nw.ne {H : Hp} {l b : Addr} {o : HO} (n : Nw H l) (h : H b = some o) (ht : ∀ ps, o ≠ .tbl ps) : b ≠ l := fun z => by
  obtain ⟨ps, e⟩ := n o (z ▸ h)
  exact ht ps e
/-- a list that the call made is written -/
theorem Gw.wr {T : List (Addr × Str)} {H H1 : Hp} {l : Addr} {xs ys : List V} (g : Gw T H H1) (n : Nw H l) (h : H1 l = some (.lst xs)) : Gw T H (L2.upd H1 l (.lst ys)) := by
  refine ⟨fun b o e ht => ?_, fun p hp => ?_⟩
  · rw [upd_ne (n.ne e ht)]
    exact g.1 b o e ht
  · obtain ⟨ps, hP, ok, hc⟩ := g.2 p hp
    refine ⟨ps, ?_, ok, fun pos cv e => ?_⟩
    · rw [upd_ne (fun z => by rw [z, h] at hP; cases hP)]
      exact hP
    · obtain ⟨c, rfl, h'⟩ := hc pos cv e
      refine ⟨c, rfl, ?_⟩
      rw [upd_ne (fun z => by rw [z, h] at h'; cases h')]
      exact h'
/-- the places asked about -/
structure Plc (H : Hp) (pl : Addr) (n : Nat) (ms : List Nat) : Prop where
  at_ : H pl = some (.lst (ixV ms))
  lt : ∀ m ∈ ms, m < n
  len : ms.length ≤ 12
theorem Plc.ext {H H' : Hp} {pl : Addr} {n : Nat} {ms : List Nat} (p : Plc H pl n ms) (e : LamX.ExtN H H') : Plc H' pl n ms := ⟨e _ _ p.at_ (fun ps z => by cases z), p.lt, p.len⟩
theorem ix_at {ms : List Nat} {i : Nat} {x : V} (h : (ixV ms)[i]? = some x) : ∃ m, m ∈ ms ∧ ms[i]? = some m ∧ x = .int (m : Int) := by
  unfold ixV at h
  rw [List.getElem?_map] at h
  cases e : ms[i]? with
  | none =>
    rw [e] at h
    cases h
  | some m =>
    rw [e] at h
    exact ⟨m, List.mem_of_getElem? e, rfl, (Option.some.inj h).symm⟩
def LawC (T : List (Addr × Str)) (σ : L2.St) (H : Hp) : Prop := ∃ (sc p l b c o pl : Addr) (st form : Int) (n : Nat) (L : List (Addr × List Int)) (As Bs : List Int) (M : List (Addr × Nat × Nat)) (ms : List Nat) (y10 y11 y13 : Option V), σ = [some (.ref sc), some (.ref p), some (.int st), some (.int n), some (.ref l), some (.ref b), some (.ref c), some (.int form), some (.ref pl), some (.ref o), y10, y11, none, y13] ∧ Bas T H p l b c L As Bs form n ∧ Prs H o n M ∧ Plc H pl n ms
theorem law_c {f : Addr} {cdv : Value} {A : Around} {outer : List Env} {s : Shared} {H0 : Hp} {E : XK} (B : Bi mg) (hall : mg "all" = none) (hr : Room 7 (A.deeper (envOfC "law" (defScope sLaw) s.heap.objs.size f cdv))) (cDraw : CalX CX0 P w K mg base 1 "_law_draw" spDraw)
    (cAsked : CalX CX0 P w K mg base 7 "_law_asked" (spAsked K T)) (cUndone : CalX CX0 P w K mg base 6 "_law_undone" (spUndone K T)) (cRef : CalX CX0 P w K mg base 6 "_law_refused" spRef) :
    ∃ t, PSs (cxOf CX0 P w K mg base lawN "law" (defScope sLaw) f cdv A outer s H0 E).nox ((defBody sLaw).drop 12) t ∧ ∀ (Q : VK) (σ : L2.St) (H : Hp), LawC T σ H → (∀ H' : Hp, Q (.bl true) H') → t { nx := fun _ H' => Q .non H', rt := Q } σ H := by
  refine ⟨_, (pss_cons (ps_for PassesOwn.never rfl (pi_tup (pe_tup (pa_cons pe_str (pa_cons pe_str (pa_cons pe_str (pa_cons pe_str (pa_cons pe_str (pa_cons pe_str (pa_cons pe_str (pa_cons pe_str pa_nil)))))))))) (pg_name (i := 12) scLaw.nd rfl (.inr rfl))
 (pss_cons (ps_if (pt_not (pt_val (pe_callB (cr_all rfl) (by rfl) hall (by decide +kernel) (pa_cons (pe_lc (own := [("_law_i", 11)]) (g := gName 11) (tt := tYes) rfl scLaw.nd (pi_list (pv 8)) (blkOk_by (N := ["_law_script", "_law_stream_here", "_law_style", "_law_many", "_law_parcels", "_law_ahead", "_law_behind", "_law_form", "_law_places", "_law_pairs", "_law_j", "_law_i", "_law_kind", "_law_turn"]) (sc := defScope sLaw) (by decide +kernel)) (fun _ _ _ _ _ => (pg_name (i := 11) scLaw.nd rfl (.inl rfl))) (fun _ _ _ _ _ => pts_nil) (fun _ _ _ _ _ => (pe_cx cAsked hr (by decide) pass0 (by rfl) (pa_cons (pv 7) (pa_cons (pv 12) (pa_cons (pv 4) (pa_cons (pv 11) (pa_cons (pv 5) (pa_cons (pv 6) pa_nil))))))))) pa_nil))))
 (pss_one (ps_ret pe_bl)) pss_nil)
 (pss_one (ps_for PassesOwn.never rfl (pi_list (pv 9)) (pg_tup rfl (pgs_cons (pg_name (i := 11) scLaw.nd rfl (.inl rfl)) (pgs_cons (pg_name (i := 10) scLaw.nd rfl (.inl rfl)) pgs_nil)))
 (pss_one (ps_if (pt_not (pt_val (pe_cx cUndone hr (by decide) pass0 (by rfl) (pa_cons (pv 12) (pa_cons (pv 4) (pa_cons (pv 11) (pa_cons (pv 10) (pa_cons (pv 5) (pa_cons (pv 6) pa_nil)))))))))
 (pss_one (ps_ret pe_bl)) pss_nil))))))
 (pss_one (ps_ret (pe_cx cRef hr (by decide) pass0 (by rfl) (pa_cons (pe_ix ix_list (pe_lst (pa_cons pe_str (pa_cons pe_str (pa_cons pe_str (pa_cons pe_str (pa_cons pe_str (pa_cons pe_non (pa_cons pe_int pa_nil)))))))) (pe_cx cDraw hr (by decide) pass0 (by rfl) (pa_cons (pv 1) (pa_cons pe_int pa_nil))) (fun _ _ => rfl)) (pa_cons (pv 4) pa_nil)))))), ?_⟩
  rintro Q σ H ⟨sc, p, l, b, c, o, pl, st, form, n, L, As, Bs, M, ms, y10, y11, y13, rfl, bas, prs, plc⟩ q
  have lLn := bas.lL
  try simp only [tSeq, tAsg, gName, tOp, rI, rI0, rU, tUn, tVar, tC, tCB, tCons, tNil, tTest, tIfS, tRet, tRetN, tDrop, tNext, tBreak, tCont, rEq, rNe, CDiv, CDivN, CMul, tBM, tBM0, tTup, tLst, tAug, tIf, tAnd, tOr, tNot, tAndV, tOrV, tNotV, tIsN, tNotN, tB, scal, tCall, cxK, cxKn, rIxT, rIxL, rIn, rAppend, rReverse, tVals, tDSetd, tDGet, tDGet1, tDGet2, tDIn, tDNotIn, rSortV, rSortT, rPop, rSortL, rSortT, tSl, tNoPart, tPart, List.append_nil, L2.start, List.map_cons, List.map_nil, List.length_cons, List.length_nil, List.replicate_succ, List.replicate_zero, List.cons_append, List.nil_append, Nat.reduceAdd, Nat.reduceSub, exists_eq, exists_eq', List.getElem?_cons_zero, List.getElem?_cons_succ, List.set_cons_zero, List.set_cons_succ, Option.some.injEq, V.int.injEq, V.bl.injEq, V.str.injEq, V.ref.injEq, List.cons.injEq, and_true, true_and, and_false, false_and, reduceCtorEq, exists_false, or_false, false_or, exists_and_left, exists_and_right, exists_eq_left, exists_eq_left', exists_eq_right, exists_eq_right', exists_const, ite_true, ite_false, Bool.false_eq_true, if_true, if_false, decide_true, decide_false]
  refine ⟨by decide, fun tk htk => ?_⟩
  have s1 := same_upd (o := .tup (kds.map kdV)) htk
  have gk : Gw T H (upd H tk (.tup (kds.map kdV))) := .of bas.tb s1
  refine ⟨tk, rfl, ⟨_, tt upd_same⟩, for_tup (K := K) (xs := kds.map kdV) (fun i σ H' => ∃ (y10 y11 y12 y13 : Option V), σ = [some (.ref sc), some (.ref p), some (.int st), some (.int n), some (.ref l), some (.ref b), some (.ref c), some (.int form), some (.ref pl), some (.ref o), y10, y11, y12, y13] ∧ Gw T H H' ∧ H' tk = some (.tup (kds.map kdV)))
    ⟨y10, y11, none, y13, rfl, gk, upd_same⟩ (fun i σ H' _ ⟨_, _, _, _, _, _, h⟩ => tt h) ?_ ?_⟩
  · rintro i x σ H' hx ⟨z10, z11, z12, z13, rfl, g, hk⟩
    obtain ⟨k, rfl⟩ : ∃ k : Kd, x = .str k.nm := by
      obtain ⟨k, _, rfl⟩ := List.mem_map.mp (List.mem_of_getElem? hx)
      exact ⟨k, rfl⟩
    try simp only [tSeq, tAsg, gName, tOp, rI, rI0, rU, tUn, tVar, tC, tCB, tCons, tNil, tTest, tIfS, tRet, tRetN, tDrop, tNext, tBreak, tCont, rEq, rNe, CDiv, CDivN, CMul, tBM, tBM0, tTup, tLst, tAug, tIf, tAnd, tOr, tNot, tAndV, tOrV, tNotV, tIsN, tNotN, tB, scal, tCall, cxK, cxKn, rIxT, rIxL, rIn, rAppend, rReverse, tVals, tDSetd, tDGet, tDGet1, tDGet2, tDIn, tDNotIn, rSortV, rSortT, rPop, rSortL, rSortT, tSl, tNoPart, tPart, List.append_nil, L2.start, List.map_cons, List.map_nil, List.length_cons, List.length_nil, List.replicate_succ, List.replicate_zero, List.cons_append, List.nil_append, Nat.reduceAdd, Nat.reduceSub, exists_eq, exists_eq', List.getElem?_cons_zero, List.getElem?_cons_succ, List.set_cons_zero, List.set_cons_succ, Option.some.injEq, V.int.injEq, V.bl.injEq, V.str.injEq, V.ref.injEq, List.cons.injEq, and_true, true_and, and_false, false_and, reduceCtorEq, exists_false, or_false, false_or, exists_and_left, exists_and_right, exists_eq_left, exists_eq_left', exists_eq_right, exists_eq_right', exists_const, ite_true, ite_false, Bool.false_eq_true, if_true, if_false, decide_true, decide_false]
    have hxs : ∀ H', Gw T H H' → SqL K H' pl (ixV ms) := fun H' g => ll (plc.ext g.1).at_
    refine ⟨_, rfl, pl, rfl, ⟨_, hxs _ g⟩, fun D hD => lc_list (K := K) (xs := ixV ms) (fun i H1 => Gw T H H1 ∧ H1 tk = some (.tup (kds.map kdV)) ∧ H1 D = some (.lst (List.replicate i (V.bl true)))) ⟨g.upd hD, (same_upd hD) _ _ hk, upd_same⟩ (fun i H1 _ h => hxs _ h.1) ?_ ?_⟩
    · rintro i x H1 hx ⟨g1, hk1, hd1⟩
      obtain ⟨m, hm, hmi, rfl⟩ := ix_at hx
      have nD : Nw H D := g.nw hD
      have hmn := plc.lt m hm
      have hlen := plc.len
      have hil : i < ms.length := (List.getElem?_eq_some_iff.mp hmi).1
      refine ⟨rfl, ?_⟩
      simp only [tSeq, tAsg, gName, tOp, rI, rI0, rU, tUn, tVar, tC, tCB, tCons, tNil, tTest, tIfS, tRet, tRetN, tDrop, tNext, tBreak, tCont, rEq, rNe, CDiv, CDivN, CMul, tBM, tBM0, tTup, tLst, tAug, tIf, tAnd, tOr, tNot, tAndV, tOrV, tNotV, tIsN, tNotN, tB, scal, tCall, cxK, cxKn, rIxT, rIxL, rIn, rAppend, rReverse, tVals, tDSetd, tDGet, tDGet1, tDGet2, tDIn, tDNotIn, rSortV, rSortT, rPop, rSortL, rSortT, tSl, tNoPart, tPart, List.append_nil, L2.start, List.map_cons, List.map_nil, List.length_cons, List.length_nil, List.replicate_succ, List.replicate_zero, List.cons_append, List.nil_append, Nat.reduceAdd, Nat.reduceSub, exists_eq, exists_eq', wipe, tYes, List.getElem?_cons_zero, List.getElem?_cons_succ, List.set_cons_zero, List.set_cons_succ, Option.some.injEq, V.int.injEq, V.bl.injEq, V.str.injEq, V.ref.injEq, List.cons.injEq, and_true, true_and, and_false, false_and, reduceCtorEq, exists_false, or_false, false_or, exists_and_left, exists_and_right, exists_eq_left, exists_eq_left', exists_eq_right, exists_eq_right', exists_const, ite_true, ite_false, Bool.false_eq_true, if_true, if_false, decide_true, decide_false]
      refine ⟨k, l, b, c, L, As, Bs, form, m, rfl, (bas.gw g1).as, by omega, g1.2, fun H3 g3 => ?_⟩
      have hd3 := g3.1 _ _ hd1 (fun ps z => by cases z)
      have hk3 := g3.1 _ _ hk1 (fun ps z => by cases z)
      refine ⟨_, hd3, by rw [List.length_replicate]; exact small1000 (by omega), (g1.trans g3).wr nD hd3, ?_, ?_⟩
      · rw [upd_ne (ne_of hk3 hd3 (by intro z; cases z))]
        exact hk3
      · rw [upd_same, ← List.replicate_succ']
        rfl
    rintro HD ⟨gD, hkD, hd⟩
    refine ⟨D, List.replicate ms.length true, rfl, ll (by rw [List.map_replicate, hd]; unfold ixV; rw [List.length_map]), true, by simp, if_F rfl ?_⟩
    refine ⟨_, rfl, o, rfl, ⟨_, ll (prs.ext gD.1).at_⟩, for_list (K := K) (xs := M.map fun q => V.ref q.1) (fun i σ H' => ∃ (y10 y11 : Option V), σ = [some (.ref sc), some (.ref p), some (.int st), some (.int n), some (.ref l), some (.ref b), some (.ref c), some (.int form), some (.ref pl), some (.ref o), y10, y11, some (.str k.nm), z13] ∧ Gw T H H' ∧ H' tk = some (.tup (kds.map kdV)))
      ⟨z10, z11, rfl, gD, hkD⟩ (fun i σ H' _ ⟨_, _, _, g, _⟩ => ll (prs.ext g.1).at_) ?_ ?_⟩
    · rintro i x σ H2 hx ⟨w10, w11, rfl, g2, hk2⟩
      obtain ⟨m, hm, rfl⟩ : ∃ m, m ∈ M ∧ x = .ref m.1 := by
        rw [List.getElem?_map] at hx
        cases e : M[i]? with
        | none =>
          rw [e] at hx
          cases hx
        | some m =>
          rw [e] at hx
          exact ⟨m, List.mem_of_getElem? e, (Option.some.inj hx).symm⟩
      obtain ⟨hm1, hm2, hm3⟩ := (prs.ext g2.1).all m hm
      refine ⟨m.1, _, rfl, tt hm1, rfl, _, _, rfl, _, _, rfl, rfl, ?_⟩
      try simp only [tSeq, tAsg, gName, tOp, rI, rI0, rU, tUn, tVar, tC, tCB, tCons, tNil, tTest, tIfS, tRet, tRetN, tDrop, tNext, tBreak, tCont, rEq, rNe, CDiv, CDivN, CMul, tBM, tBM0, tTup, tLst, tAug, tIf, tAnd, tOr, tNot, tAndV, tOrV, tNotV, tIsN, tNotN, tB, scal, tCall, cxK, cxKn, rIxT, rIxL, rIn, rAppend, rReverse, tVals, tDSetd, tDGet, tDGet1, tDGet2, tDIn, tDNotIn, rSortV, rSortT, rPop, rSortL, rSortT, tSl, tNoPart, tPart, List.append_nil, L2.start, List.map_cons, List.map_nil, List.length_cons, List.length_nil, List.replicate_succ, List.replicate_zero, List.cons_append, List.nil_append, Nat.reduceAdd, Nat.reduceSub, exists_eq, exists_eq', List.getElem?_cons_zero, List.getElem?_cons_succ, List.set_cons_zero, List.set_cons_succ, Option.some.injEq, V.int.injEq, V.bl.injEq, V.str.injEq, V.ref.injEq, List.cons.injEq, and_true, true_and, and_false, false_and, reduceCtorEq, exists_false, or_false, false_or, exists_and_left, exists_and_right, exists_eq_left, exists_eq_left', exists_eq_right, exists_eq_right', exists_const, ite_true, ite_false, Bool.false_eq_true, if_true, if_false, decide_true, decide_false]
      exact ⟨k, l, b, c, L, As, Bs, form, m.2.1, m.2.2, rfl, (bas.gw g2).as, hm2, by omega, g2.2, fun H3 g3 => ⟨true, rfl, if_F rfl ⟨g2.trans g3, g3.1 _ _ hk2 (fun ps z => by cases z)⟩⟩⟩
    · rintro σ H2 ⟨w10, w11, rfl, g2, hk2⟩
      try simp only [tSeq, tAsg, gName, tOp, rI, rI0, rU, tUn, tVar, tC, tCB, tCons, tNil, tTest, tIfS, tRet, tRetN, tDrop, tNext, tBreak, tCont, rEq, rNe, CDiv, CDivN, CMul, tBM, tBM0, tTup, tLst, tAug, tIf, tAnd, tOr, tNot, tAndV, tOrV, tNotV, tIsN, tNotN, tB, scal, tCall, cxK, cxKn, rIxT, rIxL, rIn, rAppend, rReverse, tVals, tDSetd, tDGet, tDGet1, tDGet2, tDIn, tDNotIn, rSortV, rSortT, rPop, rSortL, rSortT, tSl, tNoPart, tPart, List.append_nil, L2.start, List.map_cons, List.map_nil, List.length_cons, List.length_nil, List.replicate_succ, List.replicate_zero, List.cons_append, List.nil_append, Nat.reduceAdd, Nat.reduceSub, exists_eq, exists_eq', List.getElem?_cons_zero, List.getElem?_cons_succ, List.set_cons_zero, List.set_cons_succ, Option.some.injEq, V.int.injEq, V.bl.injEq, V.str.injEq, V.ref.injEq, List.cons.injEq, and_true, true_and, and_false, false_and, reduceCtorEq, exists_false, or_false, false_or, exists_and_left, exists_and_right, exists_eq_left, exists_eq_left', exists_eq_right, exists_eq_right', exists_const, ite_true, ite_false, Bool.false_eq_true, if_true, if_false, decide_true, decide_false]
      exact ⟨g2, hk2⟩
  · rintro σ H2 ⟨z10, z11, z12, z13, rfl, g, hk⟩
    try simp only [tSeq, tAsg, gName, tOp, rI, rI0, rU, tUn, tVar, tC, tCB, tCons, tNil, tTest, tIfS, tRet, tRetN, tDrop, tNext, tBreak, tCont, rEq, rNe, CDiv, CDivN, CMul, tBM, tBM0, tTup, tLst, tAug, tIf, tAnd, tOr, tNot, tAndV, tOrV, tNotV, tIsN, tNotN, tB, scal, tCall, cxK, cxKn, rIxT, rIxL, rIn, rAppend, rReverse, tVals, tDSetd, tDGet, tDGet1, tDGet2, tDIn, tDNotIn, rSortV, rSortT, rPop, rSortL, rSortT, tSl, tNoPart, tPart, List.append_nil, L2.start, List.map_cons, List.map_nil, List.length_cons, List.length_nil, List.replicate_succ, List.replicate_zero, List.cons_append, List.nil_append, Nat.reduceAdd, Nat.reduceSub, exists_eq, exists_eq', List.getElem?_cons_zero, List.getElem?_cons_succ, List.set_cons_zero, List.set_cons_succ, Option.some.injEq, V.int.injEq, V.bl.injEq, V.str.injEq, V.ref.injEq, List.cons.injEq, and_true, true_and, and_false, false_and, reduceCtorEq, exists_false, or_false, false_or, exists_and_left, exists_and_right, exists_eq_left, exists_eq_left', exists_eq_right, exists_eq_right', exists_const, ite_true, ite_false, Bool.false_eq_true, if_true, if_false, decide_true, decide_false]
    have b2 := bas.gw g
    refine ⟨by decide, fun lo hlo => ?_⟩
    have so := same_upd (o := .lst (badTexts.map V.str ++ [.non, .int 1])) hlo
    have b3 := b2.gw (.of b2.tb so)
    refine spDraw_of (by decide) b3.st fun r H3 r0 r7 x3 t3 => ?_
    have hlo3 := x3 _ _ (b2.st.ne hlo).symm upd_same
    have b4 := b3.sx x3 t3
    obtain ⟨m, rfl⟩ := Int.eq_ofNat_of_zero_le r0
    obtain ⟨v, hv, bv⟩ := bad_pick H3 (n := m) (by omega)
    have n1 := b4.n1
    have n12 := b4.n12
    have lL := b4.lL
    have a0 := b4.as
    have az := a0.hz
    exact ⟨_, _, rfl, ll hlo3, v, atI_nat hv, v, l, L, rfl, a0.hp, by omega, by omega, a0.hq, by omega, bv, fun H' _ => q H'⟩
def LawB (T : List (Addr × Str)) (σ : L2.St) (H : Hp) : Prop := ∃ (sc p l b c : Addr) (st form : Int) (n : Nat) (L : List (Addr × List Int)) (As Bs : List Int), σ = [some (.ref sc), some (.ref p), some (.int st), some (.int n), some (.ref l), some (.ref b), some (.ref c), some (.int form), none, none, none, none, none, none] ∧ Bas T H p l b c L As Bs form n
theorem law_b {f : Addr} {cdv : Value} {A : Around} {outer : List Env} {s : Shared} {H0 : Hp} {E : XK} (B : Bi mg) (hall : mg "all" = none) (hr : Room 7 (A.deeper (envOfC "law" (defScope sLaw) s.heap.objs.size f cdv))) (cDraw : CalX CX0 P w K mg base 1 "_law_draw" spDraw)
    (cAsked : CalX CX0 P w K mg base 7 "_law_asked" (spAsked K T)) (cUndone : CalX CX0 P w K mg base 6 "_law_undone" (spUndone K T)) (cRef : CalX CX0 P w K mg base 6 "_law_refused" spRef) :
    ∃ t, PSs (cxOf CX0 P w K mg base lawN "law" (defScope sLaw) f cdv A outer s H0 E).nox ((defBody sLaw).drop 9) t ∧ ∀ (Q : VK) (σ : L2.St) (H : Hp), LawB T σ H → (∀ H' : Hp, Q (.bl true) H') → t { nx := fun _ H' => Q .non H', rt := Q } σ H := by
  obtain ⟨tr, hrest, hq⟩ := law_c (s := s) (H0 := H0) (E := E) (outer := outer) (cdv := cdv) (f := f) (A := A) (T := T) B hall hr cDraw cAsked cUndone cRef
  refine ⟨_, (pss_cons (ps_set (i := 8) scLaw.nd rfl (.inl rfl) (pe_listRg rfl (by rfl) B.list (prg_1 (by rfl) B.range (pv 3))))
 (pss_cons (ps_set (i := 9) scLaw.nd rfl (.inl rfl) (pe_lst pa_nil))
 (pss_cons (ps_if (pt_cmpR op_gt (pv 3) pe_int (nomark _))
 (pss_cons (ps_setLc (i := 8) (own := [("_law_turn", 13)]) (g := gName 13) (tt := tYes) rfl scLaw.nd rfl rfl (sw_true rfl rfl rfl (by decide +kernel)) (pi_range1 (by rfl) B.range (pa_cons pe_int pa_nil)) (blkOk_by (N := ["_law_script", "_law_stream_here", "_law_style", "_law_many", "_law_parcels", "_law_ahead", "_law_behind", "_law_form", "_law_places", "_law_pairs", "_law_j", "_law_i", "_law_kind", "_law_turn"]) (sc := defScope sLaw) (by decide +kernel)) (fun _ _ _ _ _ => (pg_name (i := 13) scLaw.nd rfl (.inl rfl))) (fun _ _ _ _ _ => pts_nil) (fun _ _ _ _ _ => (pe_cx cDraw hr (by decide) pass0 (by rfl) (pa_cons (pv 1) (pa_cons (pv 3) pa_nil)))))
 (pss_one (ps_for PassesOwn.never rfl (pi_list (pv 8)) (pg_name (i := 10) scLaw.nd rfl (.inl rfl))
 (pss_one (ps_expr (pe_bm PySem.F.plainAttrs_list PySem.F.slot_list_append PySem.F.type_list_append mt_append (pv 9) (pa_cons (pe_tup (pa_cons (pe_cx cDraw hr (by decide) pass0 (by rfl) (pa_cons (pv 1) (pa_cons (pe_op op_add (pv 10) pe_int) pa_nil))) (pa_cons (pv 10) pa_nil))) pa_nil))))))) (pss_one (ps_for PassesOwn.never rfl (pi_list (pv 8)) (pg_name (i := 10) scLaw.nd rfl (.inl rfl))
 (pss_one (ps_for PassesOwn.never rfl (pi_range1 (by rfl) B.range (pa_cons (pe_op op_add (pv 10) pe_int) pa_nil)) (pg_name (i := 11) scLaw.nd rfl (.inl rfl))
 (pss_one (ps_expr (pe_bm PySem.F.plainAttrs_list PySem.F.slot_list_append PySem.F.type_list_append mt_append (pv 9) (pa_cons (pe_tup (pa_cons (pv 11) (pa_cons (pv 10) pa_nil))) pa_nil)))))))))
 hrest))), ?_⟩
  rintro Q σ H ⟨sc, p, l, b, c, st, form, n, L, As, Bs, rfl, bas⟩ q
  have n1 := bas.n1
  have n12 := bas.n12
  try simp only [tSeq, tAsg, gName, tOp, rI, rI0, rU, tUn, tVar, tC, tCB, tCons, tNil, tTest, tIfS, tRet, tRetN, tDrop, tNext, tBreak, tCont, rEq, rNe, CDiv, CDivN, CMul, tBM, tBM0, tTup, tLst, tAug, tIf, tAnd, tOr, tNot, tAndV, tOrV, tNotV, tIsN, tNotN, tB, scal, tCall, cxK, cxKn, rIxT, rIxL, rIn, rAppend, rReverse, tVals, tDSetd, tDGet, tDGet1, tDGet2, tDIn, tDNotIn, rSortV, rSortT, rPop, rSortL, rSortT, tSl, tNoPart, tPart, List.append_nil, L2.start, List.map_cons, List.map_nil, List.length_cons, List.length_nil, List.replicate_succ, List.replicate_zero, List.cons_append, List.nil_append, Nat.reduceAdd, Nat.reduceSub, exists_eq, exists_eq', List.getElem?_cons_zero, List.getElem?_cons_succ, List.set_cons_zero, List.set_cons_succ, Option.some.injEq, V.int.injEq, V.bl.injEq, V.str.injEq, V.ref.injEq, List.cons.injEq, and_true, true_and, and_false, false_and, reduceCtorEq, exists_false, or_false, false_or, exists_and_left, exists_and_right, exists_eq_left, exists_eq_left', exists_eq_right, exists_eq_right', exists_const, ite_true, ite_false, Bool.false_eq_true, if_true, if_false, decide_true, decide_false]
  refine ⟨_, rfl, (n : Int), rfl, .of_le (by omega) (by omega) (by omega) (by omega), fun pl hpl => ?_⟩
  rw [rg_ix]
  have s1 := same_upd (o := .lst (ixV (List.range n))) hpl
  have b1 := bas.gw (.of bas.tb s1)
  have p1 : Plc (upd H pl (.lst (ixV (List.range n)))) pl n (List.range n) := ⟨upd_same, fun m hm => List.mem_range.mp hm, by rw [List.length_range]; exact n12⟩
  generalize upd H pl (.lst (ixV (List.range n))) = H1 at b1 p1
  refine ⟨Nat.zero_le _, fun o ho => ?_⟩
  have s2 := same_upd (o := .lst []) ho
  have b2 := b1.gw (.of b1.tb s2)
  have p2 := p1.ext (LamX.ExtN.of s2)
  have no : o ≠ p := (b1.st.ne ho).symm
  have nol : o ≠ l := (ne_of_none b1.as.hp.at_ ho).symm
  have nop : o ≠ pl := (ne_of_none p1.at_ ho).symm
  have r2 : Prs (upd H1 o (.lst [])) o n [] := ⟨upd_same, fun q hq => by cases hq⟩
  generalize upd H1 o (.lst []) = H2 at b2 p2 r2
  clear s1 s2 b1 p1 bas hpl ho
  have fin : ∀ (pl' : Addr) (M : List (Addr × Nat × Nat)) (ms : List Nat) (y10 y11 : Option V) (H3 : Hp), Bas T H3 p l b c L As Bs form n → Prs H3 o n M → Plc H3 pl' n ms → tr { nx := fun _ H' => Q .non H', rt := Q } [some (.ref sc), some (.ref p), some (.int st), some (.int n), some (.ref l), some (.ref b), some (.ref c), some (.int form), some (.ref pl'), some (.ref o), y10, y11, none, none] H3 := fun pl' M ms y10 y11 H3 bs ps pc => hq Q _ H3 ⟨sc, p, l, b, c, o, pl', st, form, n, L, As, Bs, M, ms, y10, y11, none, rfl, bs, ps, pc⟩ q
  refine ite2 (fun e => ?_) (fun e => ?_)
  · refine ⟨6, rfl, by decide, by decide, fun D hD => ?_⟩
    have nDp : D ≠ p := (b2.st.ne hD).symm
    have nDl : D ≠ l := (ne_of_none b2.as.hp.at_ hD).symm
    have nDo : D ≠ o := (ne_of_none r2.at_ hD).symm
    refine lc_range (n := 6) (fun i H' => ∃ ms : List Nat, ms.length = i ∧ (∀ m ∈ ms, m < n) ∧ Bas T H' p l b c L As Bs form n ∧ Prs H' o n [] ∧ H' D = some (.lst (ixV ms)))
      ⟨[], rfl, (fun m hm => by cases hm), b2.gw (.of b2.tb (same_upd hD)), r2.ext (LamX.ExtN.of (same_upd hD)), upd_same⟩ ?_ ?_
    · rintro i H3 hi ⟨ms, lm, hm, bs, ps, hd⟩
      refine ⟨rfl, ?_⟩
      simp only [tSeq, tAsg, gName, tOp, rI, rI0, rU, tUn, tVar, tC, tCB, tCons, tNil, tTest, tIfS, tRet, tRetN, tDrop, tNext, tBreak, tCont, rEq, rNe, CDiv, CDivN, CMul, tBM, tBM0, tTup, tLst, tAug, tIf, tAnd, tOr, tNot, tAndV, tOrV, tNotV, tIsN, tNotN, tB, scal, tCall, cxK, cxKn, rIxT, rIxL, rIn, rAppend, rReverse, tVals, tDSetd, tDGet, tDGet1, tDGet2, tDIn, tDNotIn, rSortV, rSortT, rPop, rSortL, rSortT, tSl, tNoPart, tPart, List.append_nil, L2.start, List.map_cons, List.map_nil, List.length_cons, List.length_nil, List.replicate_succ, List.replicate_zero, List.cons_append, List.nil_append, Nat.reduceAdd, Nat.reduceSub, exists_eq, exists_eq', wipe, tYes, List.getElem?_cons_zero, List.getElem?_cons_succ, List.set_cons_zero, List.set_cons_succ, Option.some.injEq, V.int.injEq, V.bl.injEq, V.str.injEq, V.ref.injEq, List.cons.injEq, and_true, true_and, and_false, false_and, reduceCtorEq, exists_false, or_false, false_or, exists_and_left, exists_and_right, exists_eq_left, exists_eq_left', exists_eq_right, exists_eq_right', exists_const, ite_true, ite_false, Bool.false_eq_true, if_true, if_false, decide_true, decide_false]
      refine spDraw_of (by omega) bs.st fun j H4 j0 jn x4 t4 => ?_
      have bs4 := bs.sx x4 t4
      have ps4 := ps.sx bs.st no x4
      have hd4 := x4 _ _ nDp hd
      obtain ⟨j, rfl⟩ := Int.eq_ofNat_of_zero_le j0
      refine ⟨_, hd4, by unfold ixV; rw [List.length_map, lm]; exact small1000 (by omega), ms ++ [j], by rw [List.length_append, lm]; rfl, fun m hmm => ?_, bs4.wr hd4 nDp nDl Sx.upd, ⟨by rw [upd_ne nDo.symm]; exact ps4.at_, fun q hq => by cases hq⟩, by rw [upd_same]; unfold ixV; rw [List.map_append]; rfl⟩
      rcases List.mem_append.mp hmm with h | h
      · exact hm m h
      · rw [List.mem_singleton.mp h]
        omega
    · rintro H3 ⟨ms, lm, hm, bs, ps, hd⟩
      refine ⟨_, rfl, D, rfl, ⟨_, ll hd⟩, for_list (K := K) (xs := ixV ms) (fun i σ H' => ∃ (M : List (Addr × Nat × Nat)) (y10 : Option V), σ = [some (.ref sc), some (.ref p), some (.int st), some (.int n), some (.ref l), some (.ref b), some (.ref c), some (.int form), some (.ref D), some (.ref o), y10, none, none, none] ∧ M.length = i ∧ Bas T H' p l b c L As Bs form n ∧ Prs H' o n M ∧ H' D = some (.lst (ixV ms)))
        ⟨[], none, rfl, rfl, bs, ps, hd⟩ (fun i σ H' _ ⟨_, _, _, _, _, _, h⟩ => ll h) ?_ ?_⟩
      · rintro i x σ H4 hx ⟨M, y10, rfl, lM, bs4, ps4, hd4⟩
        obtain ⟨m, hmm, hmi, rfl⟩ := ix_at hx
        have hmn := hm m hmm
        have hil : i < ms.length := (List.getElem?_eq_some_iff.mp hmi).1
        try simp only [tSeq, tAsg, gName, tOp, rI, rI0, rU, tUn, tVar, tC, tCB, tCons, tNil, tTest, tIfS, tRet, tRetN, tDrop, tNext, tBreak, tCont, rEq, rNe, CDiv, CDivN, CMul, tBM, tBM0, tTup, tLst, tAug, tIf, tAnd, tOr, tNot, tAndV, tOrV, tNotV, tIsN, tNotN, tB, scal, tCall, cxK, cxKn, rIxT, rIxL, rIn, rAppend, rReverse, tVals, tDSetd, tDGet, tDGet1, tDGet2, tDIn, tDNotIn, rSortV, rSortT, rPop, rSortL, rSortT, tSl, tNoPart, tPart, List.append_nil, L2.start, List.map_cons, List.map_nil, List.length_cons, List.length_nil, List.replicate_succ, List.replicate_zero, List.cons_append, List.nil_append, Nat.reduceAdd, Nat.reduceSub, exists_eq, exists_eq', List.getElem?_cons_zero, List.getElem?_cons_succ, List.set_cons_zero, List.set_cons_succ, Option.some.injEq, V.int.injEq, V.bl.injEq, V.str.injEq, V.ref.injEq, List.cons.injEq, and_true, true_and, and_false, false_and, reduceCtorEq, exists_false, or_false, false_or, exists_and_left, exists_and_right, exists_eq_left, exists_eq_left', exists_eq_right, exists_eq_right', exists_const, ite_true, ite_false, Bool.false_eq_true, if_true, if_false, decide_true, decide_false]
        refine ⟨.inl ⟨rfl, _, SqL.of ps4.at_⟩, spDraw_of (by omega) bs4.st fun i2 H5 i0 ij x5 t5 => ⟨by decide, fun t ht => ?_⟩⟩
        have bs5 := bs4.sx x5 t5
        have ps5 := ps4.sx bs4.st no x5
        have hd5 := x5 _ _ nDp hd4
        obtain ⟨i2, rfl⟩ := Int.eq_ofNat_of_zero_le i0
        refine ⟨_, same_upd ht _ _ ps5.at_, by rw [List.length_map, lM]; exact small1000 (by omega), M ++ [(t, i2, m)], by rw [List.length_append, lM]; rfl, bs5.snoc ps5 no nol ht, ps5.snoc ht (by omega) (by omega), ?_⟩
        rw [upd_ne nDo]
        exact same_upd ht _ _ hd5
      · rintro σ H4 ⟨M, y10, rfl, lM, bs4, ps4, hd4⟩
        exact fin D M ms y10 none H4 bs4 ps4 ⟨hd4, hm, by omega⟩
  · refine ⟨_, rfl, pl, rfl, ⟨_, ll p2.at_⟩, for_list (K := K) (xs := ixV (List.range n)) (fun i σ H' => ∃ (M : List (Addr × Nat × Nat)) (y10 y11 : Option V), σ = [some (.ref sc), some (.ref p), some (.int st), some (.int n), some (.ref l), some (.ref b), some (.ref c), some (.int form), some (.ref pl), some (.ref o), y10, y11, none, none] ∧ M.length ≤ 12 * i ∧ Bas T H' p l b c L As Bs form n ∧ Prs H' o n M ∧ Plc H' pl n (List.range n))
      ⟨[], none, none, rfl, Nat.zero_le _, b2, r2, p2⟩ (fun i σ H' _ ⟨_, _, _, _, _, _, _, h⟩ => ll h.at_) ?_ ?_⟩
    · rintro i0 x σ H3 hx ⟨M, y10, y11, rfl, lM, bs, ps, pc⟩
      obtain ⟨j, hjm, hji, rfl⟩ := ix_at hx
      have hj := List.mem_range.mp hjm
      have hil : i0 < n := by
        have := (List.getElem?_eq_some_iff.mp hji).1
        rwa [List.length_range] at this
      try simp only [tSeq, tAsg, gName, tOp, rI, rI0, rU, tUn, tVar, tC, tCB, tCons, tNil, tTest, tIfS, tRet, tRetN, tDrop, tNext, tBreak, tCont, rEq, rNe, CDiv, CDivN, CMul, tBM, tBM0, tTup, tLst, tAug, tIf, tAnd, tOr, tNot, tAndV, tOrV, tNotV, tIsN, tNotN, tB, scal, tCall, cxK, cxKn, rIxT, rIxL, rIn, rAppend, rReverse, tVals, tDSetd, tDGet, tDGet1, tDGet2, tDIn, tDNotIn, rSortV, rSortT, rPop, rSortL, rSortT, tSl, tNoPart, tPart, List.append_nil, L2.start, List.map_cons, List.map_nil, List.length_cons, List.length_nil, List.replicate_succ, List.replicate_zero, List.cons_append, List.nil_append, Nat.reduceAdd, Nat.reduceSub, exists_eq, exists_eq', List.getElem?_cons_zero, List.getElem?_cons_succ, List.set_cons_zero, List.set_cons_succ, Option.some.injEq, V.int.injEq, V.bl.injEq, V.str.injEq, V.ref.injEq, List.cons.injEq, and_true, true_and, and_false, false_and, reduceCtorEq, exists_false, or_false, false_or, exists_and_left, exists_and_right, exists_eq_left, exists_eq_left', exists_eq_right, exists_eq_right', exists_const, ite_true, ite_false, Bool.false_eq_true, if_true, if_false, decide_true, decide_false]
      refine ⟨_, rfl, _, _, rfl, rfl, j + 1, rfl, by omega, by omega, for_range (n := j + 1) (fun i σ H' => ∃ (M : List (Addr × Nat × Nat)) (y11 : Option V), σ = [some (.ref sc), some (.ref p), some (.int st), some (.int n), some (.ref l), some (.ref b), some (.ref c), some (.int form), some (.ref pl), some (.ref o), some (.int (j : Int)), y11, none, none] ∧ M.length ≤ 12 * i0 + i ∧ Bas T H' p l b c L As Bs form n ∧ Prs H' o n M ∧ Plc H' pl n (List.range n))
        ⟨M, y11, rfl, lM, bs, ps, pc⟩ ?_ ?_⟩
      · rintro i σ H3 hi ⟨M3, y11, rfl, lM3, bs3, ps3, pc3⟩
        try simp only [tSeq, tAsg, gName, tOp, rI, rI0, rU, tUn, tVar, tC, tCB, tCons, tNil, tTest, tIfS, tRet, tRetN, tDrop, tNext, tBreak, tCont, rEq, rNe, CDiv, CDivN, CMul, tBM, tBM0, tTup, tLst, tAug, tIf, tAnd, tOr, tNot, tAndV, tOrV, tNotV, tIsN, tNotN, tB, scal, tCall, cxK, cxKn, rIxT, rIxL, rIn, rAppend, rReverse, tVals, tDSetd, tDGet, tDGet1, tDGet2, tDIn, tDNotIn, rSortV, rSortT, rPop, rSortL, rSortT, tSl, tNoPart, tPart, List.append_nil, L2.start, List.map_cons, List.map_nil, List.length_cons, List.length_nil, List.replicate_succ, List.replicate_zero, List.cons_append, List.nil_append, Nat.reduceAdd, Nat.reduceSub, exists_eq, exists_eq', List.getElem?_cons_zero, List.getElem?_cons_succ, List.set_cons_zero, List.set_cons_succ, Option.some.injEq, V.int.injEq, V.bl.injEq, V.str.injEq, V.ref.injEq, List.cons.injEq, and_true, true_and, and_false, false_and, reduceCtorEq, exists_false, or_false, false_or, exists_and_left, exists_and_right, exists_eq_left, exists_eq_left', exists_eq_right, exists_eq_right', exists_const, ite_true, ite_false, Bool.false_eq_true, if_true, if_false, decide_true, decide_false]
        have ei : (0 : Int) + (i : Int) = (i : Int) := Int.zero_add _
        rw [ei]
        refine ⟨.inl ⟨rfl, _, SqL.of ps3.at_⟩, by decide, fun t ht => ?_⟩
        refine ⟨_, same_upd ht _ _ ps3.at_, by rw [List.length_map]; exact small1000 (by omega), M3 ++ [(t, i, j)], by rw [List.length_append, List.length_singleton]; omega, bs3.snoc ps3 no nol ht, ps3.snoc ht (by omega) (by omega), ⟨?_, pc3.lt, pc3.len⟩⟩
        rw [upd_ne nop.symm]
        exact same_upd ht _ _ pc3.at_
      · rintro σ H3 ⟨M3, y11, rfl, lM3, bs3, ps3, pc3⟩
        try simp only [tSeq, tAsg, gName, tOp, rI, rI0, rU, tUn, tVar, tC, tCB, tCons, tNil, tTest, tIfS, tRet, tRetN, tDrop, tNext, tBreak, tCont, rEq, rNe, CDiv, CDivN, CMul, tBM, tBM0, tTup, tLst, tAug, tIf, tAnd, tOr, tNot, tAndV, tOrV, tNotV, tIsN, tNotN, tB, scal, tCall, cxK, cxKn, rIxT, rIxL, rIn, rAppend, rReverse, tVals, tDSetd, tDGet, tDGet1, tDGet2, tDIn, tDNotIn, rSortV, rSortT, rPop, rSortL, rSortT, tSl, tNoPart, tPart, List.append_nil, L2.start, List.map_cons, List.map_nil, List.length_cons, List.length_nil, List.replicate_succ, List.replicate_zero, List.cons_append, List.nil_append, Nat.reduceAdd, Nat.reduceSub, exists_eq, exists_eq', List.getElem?_cons_zero, List.getElem?_cons_succ, List.set_cons_zero, List.set_cons_succ, Option.some.injEq, V.int.injEq, V.bl.injEq, V.str.injEq, V.ref.injEq, List.cons.injEq, and_true, true_and, and_false, false_and, reduceCtorEq, exists_false, or_false, false_or, exists_and_left, exists_and_right, exists_eq_left, exists_eq_left', exists_eq_right, exists_eq_right', exists_const, ite_true, ite_false, Bool.false_eq_true, if_true, if_false, decide_true, decide_false]
        exact ⟨M3, by omega, bs3, ps3, pc3⟩
    · rintro σ H3 ⟨M, y10, y11, rfl, lM, bs, ps, pc⟩
      exact fin pl M _ y10 y11 H3 bs ps pc
theorem ok_law {f : Addr} {fd : FuncData} (F : Fun K "law" "law" sLaw f fd) (B : Bi mg) (hall : mg "all" = none) (cStream : CalX CX0 P w K mg base 1 "_law_stream" (spStream K)) (cDraw : CalX CX0 P w K mg base 1 "_law_draw" spDraw) (cDrawn : CalX CX0 P w K mg base 6 "_law_drawn" spDrawn) (cAround : CalX CX0 P w K mg base 5 "_law_around" spAround)
    (cAsked : CalX CX0 P w K mg base 7 "_law_asked" (spAsked K T)) (cUndone : CalX CX0 P w K mg base 6 "_law_undone" (spUndone K T)) (cRef : CalX CX0 P w K mg base 6 "_law_refused" spRef) :
    FnOk P w K mg base CX0 8 f fd ["_law_script"] (spLaw K T) := by
  refine F.ok scLaw (fun vs H Q E h => ?_) (fun cdv A outer s H vs Q E hr h => ?_)
  · obtain ⟨a, ns, rfl, _⟩ := h
    rfl
  · obtain ⟨a, ns, rfl, hS, hlen, hT, q⟩ := h
    obtain ⟨tr, hrest, hq⟩ := law_b (s := s) (H0 := H) (E := E) (outer := outer) (cdv := cdv) (f := f) (A := A) (T := T) B hall hr cDraw cAsked cUndone cRef
    refine ⟨_, (pss_cons (ps_set (i := 1) scLaw.nd rfl (.inr rfl) (pe_cx cStream hr (by decide) pass0 (by rfl) (pa_cons (pv 0) pa_nil)))
 (pss_cons (ps_set (i := 2) scLaw.nd rfl (.inl rfl) (pe_cx cDraw hr (by decide) pass0 (by rfl) (pa_cons (pv 1) (pa_cons pe_int pa_nil))))
 (pss_cons (ps_set (i := 3) scLaw.nd rfl (.inr rfl) (pe_ix ix_list (pe_lst (pa_cons pe_int (pa_cons pe_int (pa_cons pe_int (pa_cons pe_int (pa_cons pe_int (pa_cons pe_int (pa_cons pe_int (pa_cons pe_int pa_nil))))))))) (pe_cx cDraw hr (by decide) pass0 (by rfl) (pa_cons (pv 1) (pa_cons pe_int pa_nil))) (fun _ _ => rfl)))
 (pss_cons (ps_set (i := 4) scLaw.nd rfl (.inr rfl) (pe_cx cDrawn hr (by decide) pass0 (by rfl) (pa_cons (pv 1) (pa_cons (pv 3) (pa_cons (pv 2) pa_nil)))))
 (pss_cons (ps_set (i := 5) scLaw.nd rfl (.inr rfl) (pe_cx cAround hr (by decide) pass0 (by rfl) (pa_cons (pv 1) (pa_cons (pv 2) pa_nil))))
 (pss_cons (ps_set (i := 6) scLaw.nd rfl (.inr rfl) (pe_cx cAround hr (by decide) pass0 (by rfl) (pa_cons (pv 1) (pa_cons (pv 2) pa_nil))))
 (pss_cons (ps_set (i := 7) scLaw.nd rfl (.inr rfl) (pe_cx cDraw hr (by decide) pass0 (by rfl) (pa_cons (pv 1) (pa_cons pe_int pa_nil))))
 (pss_cons (ps_if (pt_cmpR op_gt (pv 7) pe_int (nomark _))
 (pss_one (ps_set (i := 5) scLaw.nd rfl (.inr rfl) (pe_tup pa_nil))) pss_nil)
 (pss_cons (ps_if (PW.pt (pw_or (pt_cmpR op_eq (pv 7) pe_int (nomark _)) (pw_or1 (pt_cmpR op_eq (pv 7) pe_int (nomark _)))))
 (pss_one (ps_set (i := 6) scLaw.nd rfl (.inr rfl) (pe_tup pa_nil))) pss_nil)
 hrest))))))))), ?_⟩
    try simp only [tSeq, tAsg, gName, tOp, rI, rI0, rU, tUn, tVar, tC, tCB, tCons, tNil, tTest, tIfS, tRet, tRetN, tDrop, tNext, tBreak, tCont, rEq, rNe, CDiv, CDivN, CMul, tBM, tBM0, tTup, tLst, tAug, tIf, tAnd, tOr, tNot, tAndV, tOrV, tNotV, tIsN, tNotN, tB, scal, tCall, cxK, cxKn, rIxT, rIxL, rIn, rAppend, rReverse, tVals, tDSetd, tDGet, tDGet1, tDGet2, tDIn, tDNotIn, rSortV, rSortT, rPop, rSortL, rSortT, tSl, tNoPart, tPart, List.append_nil, L2.start, List.map_cons, List.map_nil, List.length_cons, List.length_nil, List.replicate_succ, List.replicate_zero, List.cons_append, List.nil_append, Nat.reduceAdd, Nat.reduceSub, exists_eq, exists_eq', List.getElem?_cons_zero, List.getElem?_cons_succ, List.set_cons_zero, List.set_cons_succ, Option.some.injEq, V.int.injEq, V.bl.injEq, V.str.injEq, V.ref.injEq, List.cons.injEq, and_true, true_and, and_false, false_and, reduceCtorEq, exists_false, or_false, false_or, exists_and_left, exists_and_right, exists_eq_left, exists_eq_left', exists_eq_right, exists_eq_right', exists_const, ite_true, ite_false, Bool.false_eq_true, if_true, if_false, decide_true, decide_false]
    refine ⟨a, ns, rfl, hS, hlen, fun H1 p s1 np t1 => ?_⟩
    have T1 := hT.ext s1
    try simp only [tSeq, tAsg, gName, tOp, rI, rI0, rU, tUn, tVar, tC, tCB, tCons, tNil, tTest, tIfS, tRet, tRetN, tDrop, tNext, tBreak, tCont, rEq, rNe, CDiv, CDivN, CMul, tBM, tBM0, tTup, tLst, tAug, tIf, tAnd, tOr, tNot, tAndV, tOrV, tNotV, tIsN, tNotN, tB, scal, tCall, cxK, cxKn, rIxT, rIxL, rIn, rAppend, rReverse, tVals, tDSetd, tDGet, tDGet1, tDGet2, tDIn, tDNotIn, rSortV, rSortT, rPop, rSortL, rSortT, tSl, tNoPart, tPart, List.append_nil, L2.start, List.map_cons, List.map_nil, List.length_cons, List.length_nil, List.replicate_succ, List.replicate_zero, List.cons_append, List.nil_append, Nat.reduceAdd, Nat.reduceSub, exists_eq, exists_eq', List.getElem?_cons_zero, List.getElem?_cons_succ, List.set_cons_zero, List.set_cons_succ, Option.some.injEq, V.int.injEq, V.bl.injEq, V.str.injEq, V.ref.injEq, List.cons.injEq, and_true, true_and, and_false, false_and, reduceCtorEq, exists_false, or_false, false_or, exists_and_left, exists_and_right, exists_eq_left, exists_eq_left', exists_eq_right, exists_eq_right', exists_const, ite_true, ite_false, Bool.false_eq_true, if_true, if_false, decide_true, decide_false]
    refine spDraw_of (by decide) t1 fun st H2 _ _ x2 t2 => ?_
    have T2 := tabs_sx T1 t1 x2
    try simp only [tSeq, tAsg, gName, tOp, rI, rI0, rU, tUn, tVar, tC, tCB, tCons, tNil, tTest, tIfS, tRet, tRetN, tDrop, tNext, tBreak, tCont, rEq, rNe, CDiv, CDivN, CMul, tBM, tBM0, tTup, tLst, tAug, tIf, tAnd, tOr, tNot, tAndV, tOrV, tNotV, tIsN, tNotN, tB, scal, tCall, cxK, cxKn, rIxT, rIxL, rIn, rAppend, rReverse, tVals, tDSetd, tDGet, tDGet1, tDGet2, tDIn, tDNotIn, rSortV, rSortT, rPop, rSortL, rSortT, tSl, tNoPart, tPart, List.append_nil, L2.start, List.map_cons, List.map_nil, List.length_cons, List.length_nil, List.replicate_succ, List.replicate_zero, List.cons_append, List.nil_append, Nat.reduceAdd, Nat.reduceSub, exists_eq, exists_eq', List.getElem?_cons_zero, List.getElem?_cons_succ, List.set_cons_zero, List.set_cons_succ, Option.some.injEq, V.int.injEq, V.bl.injEq, V.str.injEq, V.ref.injEq, List.cons.injEq, and_true, true_and, and_false, false_and, reduceCtorEq, exists_false, or_false, false_or, exists_and_left, exists_and_right, exists_eq_left, exists_eq_left', exists_eq_right, exists_eq_right', exists_const, ite_true, ite_false, Bool.false_eq_true, if_true, if_false, decide_true, decide_false]
    refine ⟨by decide, fun lo hlo => ?_⟩
    have so := same_upd (o := .lst [.int 1, .int 1, .int 2, .int 2, .int 3, .int 4, .int 5, .int 12]) hlo
    have T3 := T2.ext so
    refine spDraw_of (by decide) (t2.same so) fun r H3 r0 r8 x3 t3 => ?_
    have T4 := tabs_sx T3 (t2.same so) x3
    have hlo3 := x3 _ _ (t2.ne hlo).symm upd_same
    obtain ⟨n, hn1, hn12, en⟩ : ∃ n : Nat, 1 ≤ n ∧ n ≤ 12 ∧ ([.int 1, .int 1, .int 2, .int 2, .int 3, .int 4, .int 5, .int 12] : List V)[r.toNat]? = some (.int (n : Int)) := by
      obtain ⟨m, rfl⟩ := Int.eq_ofNat_of_zero_le r0
      have : m < 8 := by omega
      obtain rfl | rfl | rfl | rfl | rfl | rfl | rfl | rfl : m = 0 ∨ m = 1 ∨ m = 2 ∨ m = 3 ∨ m = 4 ∨ m = 5 ∨ m = 6 ∨ m = 7 := by omega
      · exact ⟨1, by decide, by decide, rfl⟩
      · exact ⟨1, by decide, by decide, rfl⟩
      · exact ⟨2, by decide, by decide, rfl⟩
      · exact ⟨2, by decide, by decide, rfl⟩
      · exact ⟨3, by decide, by decide, rfl⟩
      · exact ⟨4, by decide, by decide, rfl⟩
      · exact ⟨5, by decide, by decide, rfl⟩
      · exact ⟨12, by decide, by decide, rfl⟩
    have er : r = ((r.toNat : Nat) : Int) := (Int.toNat_of_nonneg r0).symm
    try simp only [tSeq, tAsg, gName, tOp, rI, rI0, rU, tUn, tVar, tC, tCB, tCons, tNil, tTest, tIfS, tRet, tRetN, tDrop, tNext, tBreak, tCont, rEq, rNe, CDiv, CDivN, CMul, tBM, tBM0, tTup, tLst, tAug, tIf, tAnd, tOr, tNot, tAndV, tOrV, tNotV, tIsN, tNotN, tB, scal, tCall, cxK, cxKn, rIxT, rIxL, rIn, rAppend, rReverse, tVals, tDSetd, tDGet, tDGet1, tDGet2, tDIn, tDNotIn, rSortV, rSortT, rPop, rSortL, rSortT, tSl, tNoPart, tPart, List.append_nil, L2.start, List.map_cons, List.map_nil, List.length_cons, List.length_nil, List.replicate_succ, List.replicate_zero, List.cons_append, List.nil_append, Nat.reduceAdd, Nat.reduceSub, exists_eq, exists_eq', List.getElem?_cons_zero, List.getElem?_cons_succ, List.set_cons_zero, List.set_cons_succ, Option.some.injEq, V.int.injEq, V.bl.injEq, V.str.injEq, V.ref.injEq, List.cons.injEq, and_true, true_and, and_false, false_and, reduceCtorEq, exists_false, or_false, false_or, exists_and_left, exists_and_right, exists_eq_left, exists_eq_left', exists_eq_right, exists_eq_right', exists_const, ite_true, ite_false, Bool.false_eq_true, if_true, if_false, decide_true, decide_false]
    refine ⟨_, ll hlo3, _, by rw [er]; exact atI_nat en, ?_⟩
    refine ⟨p, n, st, rfl, by omega, t3, fun L H4 l lL qL x4 t4 nl hp => ?_⟩
    have T5 := tabs_sx T4 t3 x4
    try simp only [tSeq, tAsg, gName, tOp, rI, rI0, rU, tUn, tVar, tC, tCB, tCons, tNil, tTest, tIfS, tRet, tRetN, tDrop, tNext, tBreak, tCont, rEq, rNe, CDiv, CDivN, CMul, tBM, tBM0, tTup, tLst, tAug, tIf, tAnd, tOr, tNot, tAndV, tOrV, tNotV, tIsN, tNotN, tB, scal, tCall, cxK, cxKn, rIxT, rIxL, rIn, rAppend, rReverse, tVals, tDSetd, tDGet, tDGet1, tDGet2, tDIn, tDNotIn, rSortV, rSortT, rPop, rSortL, rSortT, tSl, tNoPart, tPart, List.append_nil, L2.start, List.map_cons, List.map_nil, List.length_cons, List.length_nil, List.replicate_succ, List.replicate_zero, List.cons_append, List.nil_append, Nat.reduceAdd, Nat.reduceSub, exists_eq, exists_eq', List.getElem?_cons_zero, List.getElem?_cons_succ, List.set_cons_zero, List.set_cons_succ, Option.some.injEq, V.int.injEq, V.bl.injEq, V.str.injEq, V.ref.injEq, List.cons.injEq, and_true, true_and, and_false, false_and, reduceCtorEq, exists_false, or_false, false_or, exists_and_left, exists_and_right, exists_eq_left, exists_eq_left', exists_eq_right, exists_eq_right', exists_const, ite_true, ite_false, Bool.false_eq_true, if_true, if_false, decide_true, decide_false]
    refine ⟨p, st, rfl, t4, fun As H5 b lA x5 t5 hb => ?_⟩
    have T6 := tabs_sx T5 t4 x5
    have hp5 := hp.sx t4 nl x5
    try simp only [tSeq, tAsg, gName, tOp, rI, rI0, rU, tUn, tVar, tC, tCB, tCons, tNil, tTest, tIfS, tRet, tRetN, tDrop, tNext, tBreak, tCont, rEq, rNe, CDiv, CDivN, CMul, tBM, tBM0, tTup, tLst, tAug, tIf, tAnd, tOr, tNot, tAndV, tOrV, tNotV, tIsN, tNotN, tB, scal, tCall, cxK, cxKn, rIxT, rIxL, rIn, rAppend, rReverse, tVals, tDSetd, tDGet, tDGet1, tDGet2, tDIn, tDNotIn, rSortV, rSortT, rPop, rSortL, rSortT, tSl, tNoPart, tPart, List.append_nil, L2.start, List.map_cons, List.map_nil, List.length_cons, List.length_nil, List.replicate_succ, List.replicate_zero, List.cons_append, List.nil_append, Nat.reduceAdd, Nat.reduceSub, exists_eq, exists_eq', List.getElem?_cons_zero, List.getElem?_cons_succ, List.set_cons_zero, List.set_cons_succ, Option.some.injEq, V.int.injEq, V.bl.injEq, V.str.injEq, V.ref.injEq, List.cons.injEq, and_true, true_and, and_false, false_and, reduceCtorEq, exists_false, or_false, false_or, exists_and_left, exists_and_right, exists_eq_left, exists_eq_left', exists_eq_right, exists_eq_right', exists_const, ite_true, ite_false, Bool.false_eq_true, if_true, if_false, decide_true, decide_false]
    refine ⟨p, st, rfl, t5, fun Bs H6 c lB x6 t6 hc => ?_⟩
    have T7 := tabs_sx T6 t5 x6
    have hp6 := hp5.sx t5 nl x6
    have hb6 := x6 _ _ (t5.neT hb) hb
    try simp only [tSeq, tAsg, gName, tOp, rI, rI0, rU, tUn, tVar, tC, tCB, tCons, tNil, tTest, tIfS, tRet, tRetN, tDrop, tNext, tBreak, tCont, rEq, rNe, CDiv, CDivN, CMul, tBM, tBM0, tTup, tLst, tAug, tIf, tAnd, tOr, tNot, tAndV, tOrV, tNotV, tIsN, tNotN, tB, scal, tCall, cxK, cxKn, rIxT, rIxL, rIn, rAppend, rReverse, tVals, tDSetd, tDGet, tDGet1, tDGet2, tDIn, tDNotIn, rSortV, rSortT, rPop, rSortL, rSortT, tSl, tNoPart, tPart, List.append_nil, L2.start, List.map_cons, List.map_nil, List.length_cons, List.length_nil, List.replicate_succ, List.replicate_zero, List.cons_append, List.nil_append, Nat.reduceAdd, Nat.reduceSub, exists_eq, exists_eq', List.getElem?_cons_zero, List.getElem?_cons_succ, List.set_cons_zero, List.set_cons_succ, Option.some.injEq, V.int.injEq, V.bl.injEq, V.str.injEq, V.ref.injEq, List.cons.injEq, and_true, true_and, and_false, false_and, reduceCtorEq, exists_false, or_false, false_or, exists_and_left, exists_and_right, exists_eq_left, exists_eq_left', exists_eq_right, exists_eq_right', exists_const, ite_true, ite_false, Bool.false_eq_true, if_true, if_false, decide_true, decide_false]
    refine spDraw_of (by decide) t6 fun form H7 _ _ x7 t7 => ?_
    have T8 := tabs_sx T7 t6 x7
    have hp7 := hp6.sx t6 nl x7
    have hb7 := x7 _ _ (t6.neT hb6) hb6
    have hc7 := x7 _ _ (t6.neT hc) hc
    clear hp hp5 hp6 hb hb6 hc x2 x3 x4 x5 x6 x7 t1 t2 t3 t4 t5 t6 T1 T2 T3 T4 T5 T6 T7 hT s1 so hlo hlo3 hS en er r0 r8 np
    have lz : (wds L).flatten.length ≤ 48 := by
      have h : ∀ M : List (Addr × List Int), (∀ q ∈ M, 1 ≤ q.2.length ∧ q.2.length ≤ 4) → (wds M).flatten.length ≤ 4 * M.length := fun M => by
        induction M with
        | nil => exact fun _ => Nat.zero_le _
        | cons q M ih =>
          intro hM
          have h1 := ih fun r hr => hM r (List.mem_cons_of_mem _ hr)
          have h2 := (hM q List.mem_cons_self).2
          show (q.2 ++ (wds M).flatten).length ≤ _
          rw [List.length_append, List.length_cons]
          omega
      have := h L qL
      omega
    have fin : ∀ (b' c' : Addr) (As' Bs' : List Int) (H8 : Hp), Same H7 H8 → H8 b' = some (.tup (As'.map V.int)) → H8 c' = some (.tup (Bs'.map V.int)) → As'.length ≤ 2 → Bs'.length ≤ 2 → (1 < form → As' = []) → (form = 1 ∨ form = 3 → Bs' = []) →
        tr { nx := fun _ H' => Q .non H', rt := Q } [some (.ref a), some (.ref p), some (.int st), some (.int n), some (.ref l), some (.ref b'), some (.ref c'), some (.int form), none, none, none, none, none, none] H8 := fun b' c' As' Bs' H8 s8 h1 h2 l1 l2 f1 f2 =>
      hq Q _ H8 ⟨a, p, l, b', c', st, form, n, L, As', Bs', rfl, t7.same s8, nl, hn1, hn12, lL, ⟨hp7.same s8, h1, h2, f1, f2, by omega, qL, by omega⟩, T8.ext s8⟩ q
    try simp only [tSeq, tAsg, gName, tOp, rI, rI0, rU, tUn, tVar, tC, tCB, tCons, tNil, tTest, tIfS, tRet, tRetN, tDrop, tNext, tBreak, tCont, rEq, rNe, CDiv, CDivN, CMul, tBM, tBM0, tTup, tLst, tAug, tIf, tAnd, tOr, tNot, tAndV, tOrV, tNotV, tIsN, tNotN, tB, scal, tCall, cxK, cxKn, rIxT, rIxL, rIn, rAppend, rReverse, tVals, tDSetd, tDGet, tDGet1, tDGet2, tDIn, tDNotIn, rSortV, rSortT, rPop, rSortL, rSortT, tSl, tNoPart, tPart, List.append_nil, L2.start, List.map_cons, List.map_nil, List.length_cons, List.length_nil, List.replicate_succ, List.replicate_zero, List.cons_append, List.nil_append, Nat.reduceAdd, Nat.reduceSub, exists_eq, exists_eq', List.getElem?_cons_zero, List.getElem?_cons_succ, List.set_cons_zero, List.set_cons_succ, Option.some.injEq, V.int.injEq, V.bl.injEq, V.str.injEq, V.ref.injEq, List.cons.injEq, and_true, true_and, and_false, false_and, reduceCtorEq, exists_false, or_false, false_or, exists_and_left, exists_and_right, exists_eq_left, exists_eq_left', exists_eq_right, exists_eq_right', exists_const, ite_true, ite_false, Bool.false_eq_true, if_true, if_false, decide_true, decide_false]
    refine ite2 (fun e => ⟨Nat.zero_le _, fun b2 hb2 => ?_⟩) (fun e => ?_)
    · have e1 := of_decide_eq_true e
      have sb := same_upd (o := .tup []) hb2
      refine ite2 (fun e2 => absurd (of_decide_eq_true e2) (by omega)) (fun e2 => ite2 (fun e3 => ⟨Nat.zero_le _, fun c2 hc2 => ?_⟩) (fun e3 => ?_))
      · have sc := same_upd (o := .tup []) hc2
        exact fin b2 c2 [] [] _ (sb.trans sc) (sc _ _ upd_same) upd_same (Nat.zero_le _) (Nat.zero_le _) (fun _ => rfl) (fun _ => rfl)
      · exact fin b2 c [] Bs _ sb upd_same (sb _ _ hc7) (Nat.zero_le _) lB (fun _ => rfl) (fun z => by
          have n1 : ¬ form = 1 := fun z => e2 (decide_eq_true z)
          have n3 : ¬ form = 3 := fun z => e3 (decide_eq_true z)
          exact z.elim (fun z => absurd z n1) (fun z => absurd z n3))
    · have e1 : ¬ 1 < form := fun z => e (decide_eq_true z)
      refine ite2 (fun e2 => ⟨Nat.zero_le _, fun c2 hc2 => ?_⟩) (fun e2 => ite2 (fun e3 => absurd (of_decide_eq_true e3) (by omega)) (fun e3 => ?_))
      · have sc := same_upd (o := .tup []) hc2
        exact fin b c2 As [] _ sc (sc _ _ hb7) upd_same lA (Nat.zero_le _) (fun z => absurd z e1) (fun _ => rfl)
      · exact fin b c As Bs _ (Same.refl _) hb7 hc7 lA lB (fun z => absurd z e1) (fun z => by
          have n1 : ¬ form = 1 := fun z => e2 (decide_eq_true z)
          have n3 : ¬ form = 3 := fun z => e3 (decide_eq_true z)
          exact z.elim (fun z => absurd z n1) (fun z => absurd z n3))
end
end Mv

set_option Elab.async false
set_option linter.all false
set_option maxRecDepth 100000
set_option maxHeartbeats 4000000
namespace Mv
open PySem PySem.Spec PyProof.Rows L2
theorem kwx_mk {P : Program} {w : World} {K : PySem.W.Frag} {mg : Str → Option Value} {base : Heap} {lv : Nat} {sp : Sp} {f e1 e2 : Addr} {fd : FuncData} (F : FunD K "free_repeat" "free_repeat" (defArgs sFR) (defBody sFR) (defScope sFR) [] [("before", .ref e1), ("after", .ref e2)] f fd)
    (ok : FnOk P w K mg base (L2.CX P w) lv f fd ["kind", "parcels", "i", "j", "before", "after"] sp) (hm : mg "free_repeat" = some (.ref f)) (h1 : ∀ H : Hp, SqT K H e1 []) (h2 : ∀ H : Hp, SqT K H e2 []) : KwX P w K mg base lv "free_repeat" sp 4 e1 e2 := by
  refine ⟨h1, h2, ?_, ?_, ?_, ?_⟩
  · obtain ⟨ds, hv, hb⟩ := F.binds0 (ps := ["kind", "parcels", "i", "j", "before", "after"]) 4 (by simp) rfl fun D doc pm an cdv ct us ks h4 hk => by
      match us, ks, h4, hk with
      | [_, _, _, _], [_, _], _, _ => exact ⟨_, _, _, _, _, _, rfl, rfl, _, _, _, _, _, _, rfl, rfl, rfl⟩
    exact ⟨f, fd, _, ds, ok, hm, F.kp, hb, hv⟩
  · obtain ⟨mv, hb⟩ := kbinds0 (ps := ["kind", "parcels", "i", "j", "before", "after"]) F 4 ["before"] [("after", .ref e2)] (fun us mv ws => us ++ ws ++ mv) (by simp) (by simp) (fun r1 r2 r3 => (r1.append r3).append r2) fun D doc pm an cdv ct us mv ws h4 hk hw => by
      match us, mv, ws, h4, hk, hw with
      | [_, _, _, _], [_], [_], _, _, _ => exact ⟨_, _, _, _, _, _, rfl, rfl, rfl⟩
    exact ⟨f, fd, _, _, ok, hm, F.kp, hb⟩
  · obtain ⟨mv, hb⟩ := kbinds0 (ps := ["kind", "parcels", "i", "j", "before", "after"]) F 4 ["after"] [("before", .ref e1)] (fun us mv ws => us ++ mv ++ ws) (by simp) (by simp) (fun r1 r2 r3 => (r1.append r2).append r3) fun D doc pm an cdv ct us mv ws h4 hk hw => by
      match us, mv, ws, h4, hk, hw with
      | [_, _, _, _], [_], [_], _, _, _ => exact ⟨_, _, _, _, _, _, rfl, rfl, rfl⟩
    exact ⟨f, fd, _, _, ok, hm, F.kp, hb⟩
  · obtain ⟨mv, hb⟩ := kbinds0 (ps := ["kind", "parcels", "i", "j", "before", "after"]) F 4 ["before", "after"] [] (fun us mv ws => us ++ (ws ++ mv)) (by simp) (by simp) (fun r1 r2 r3 => r1.append (r3.append r2)) fun D doc pm an cdv ct us mv ws h4 hk hw => by
      match us, mv, ws, h4, hk, hw with
      | [_, _, _, _], [], [_, _], _, _, _ => exact rfl
    have e : (fun (vs zs : List V) => vs ++ (zs ++ ([] : List (Str × V)).map (·.2))) = fun vs zs => vs ++ zs := by
      funext vs zs
      rw [List.map_nil, List.append_nil]
    rw [e] at hb
    exact ⟨f, fd, _, _, ok, hm, F.kp, hb⟩
theorem kwl_mk {P : Program} {w : World} {K : PySem.W.Frag} {mg : Str → Option Value} {base : Heap} {lv : Nat} {sp : Sp} {f e1 e2 : Addr} {fd : FuncData} (F : FunD K "free_loss" "free_loss" (defArgs sFL) (defBody sFL) (defScope sFL) [] [("before", .ref e1), ("after", .ref e2)] f fd)
    (ok : FnOk P w K mg base (L2.CX P w) lv f fd ["kind", "parcels", "i", "before", "after"] sp) (hm : mg "free_loss" = some (.ref f)) (h1 : ∀ H : Hp, SqT K H e1 []) (h2 : ∀ H : Hp, SqT K H e2 []) : KwX P w K mg base lv "free_loss" sp 3 e1 e2 := by
  refine ⟨h1, h2, ?_, ?_, ?_, ?_⟩
  · obtain ⟨ds, hv, hb⟩ := F.binds0 (ps := ["kind", "parcels", "i", "before", "after"]) 3 (by simp) rfl fun D doc pm an cdv ct us ks h4 hk => by
      match us, ks, h4, hk with
      | [_, _, _], [_, _], _, _ => exact ⟨_, _, _, _, _, _, rfl, rfl, _, _, _, _, _, _, rfl, rfl, rfl⟩
    exact ⟨f, fd, _, ds, ok, hm, F.kp, hb, hv⟩
  · obtain ⟨mv, hb⟩ := kbinds0 (ps := ["kind", "parcels", "i", "before", "after"]) F 3 ["before"] [("after", .ref e2)] (fun us mv ws => us ++ ws ++ mv) (by simp) (by simp) (fun r1 r2 r3 => (r1.append r3).append r2) fun D doc pm an cdv ct us mv ws h4 hk hw => by
      match us, mv, ws, h4, hk, hw with
      | [_, _, _], [_], [_], _, _, _ => exact ⟨_, _, _, _, _, _, rfl, rfl, rfl⟩
    exact ⟨f, fd, _, _, ok, hm, F.kp, hb⟩
  · obtain ⟨mv, hb⟩ := kbinds0 (ps := ["kind", "parcels", "i", "before", "after"]) F 3 ["after"] [("before", .ref e1)] (fun us mv ws => us ++ mv ++ ws) (by simp) (by simp) (fun r1 r2 r3 => (r1.append r2).append r3) fun D doc pm an cdv ct us mv ws h4 hk hw => by
      match us, mv, ws, h4, hk, hw with
      | [_, _, _], [_], [_], _, _, _ => exact ⟨_, _, _, _, _, _, rfl, rfl, rfl⟩
    exact ⟨f, fd, _, _, ok, hm, F.kp, hb⟩
  · obtain ⟨mv, hb⟩ := kbinds0 (ps := ["kind", "parcels", "i", "before", "after"]) F 3 ["before", "after"] [] (fun us mv ws => us ++ (ws ++ mv)) (by simp) (by simp) (fun r1 r2 r3 => r1.append (r3.append r2)) fun D doc pm an cdv ct us mv ws h4 hk hw => by
      match us, mv, ws, h4, hk, hw with
      | [_, _, _], [], [_, _], _, _, _ => exact rfl
    have e : (fun (vs zs : List V) => vs ++ (zs ++ ([] : List (Str × V)).map (·.2))) = fun vs zs => vs ++ zs := by
      funext vs zs
      rw [List.map_nil, List.append_nil]
    rw [e] at hb
    exact ⟨f, fd, _, _, ok, hm, F.kp, hb⟩
end Mv

set_option Elab.async false
set_option linter.all false
set_option maxRecDepth 100000
set_option maxHeartbeats 8000000
namespace Mv
open PySem PySem.Spec PyProof.Rows L2
abbrev sIni : Stmt := inClass (topS 2) 0
theorem cal_of {CX : CXT} {P : Program} {w : World} {K : PySem.W.Frag} {mg : Str → Option Value} {base : Heap} {k : Nat} {x : Str} {st : Stmt} {f : Addr} {fd : FuncData} {ps : List Str} {sp : Sp} (F : Fun K x x st f fd) (hm : mg x = some (.ref f)) (b : Binds K fd ps []) (h : FnOk P w K mg base CX k f fd ps sp) : CalX CX P w K mg base k x sp := ⟨f, fd, ps, h, hm, F.kp, b⟩
theorem scIni : ScI (defScope sIni) "self" "name" := ⟨rfl, rfl, rfl, rfl, rfl, by decide +kernel, by decide +kernel, by decide +kernel, rfl, rfl⟩
theorem ok_bini {P : Program} {w : World} {K : PySem.W.Frag} {mg : Str → Option Value} {base : Heap} {f c cc C : Addr} {kV doc pm ct oc : Value} {an od : Option Addr} {osl : Array (Option Value)}
    (lk : K.lookup f = some ⟨oc, od, .func (PySem.W.ksFn "__init__" "BadKind.__init__" (defArgs sIni) (defBody sIni) (defScope sIni) .none kV doc pm an (.ref c) ct cc), osl⟩) (hcd : PySem.W.codeIn K (.ref c) "BadKind.__init__" = true) (U : SupK P K f c cc C) (hsup : mg "super" = none) (hno : PySem.W.findIn K (.ref C) "name" = some none) :
    FnOk P w K mg base CX0 1 f (PySem.W.ksFn "__init__" "BadKind.__init__" (defArgs sIni) (defBody sIni) (defScope sIni) .none kV doc pm an (.ref c) ct cc) ["self", "name"] (spIniB K C "name") :=
  ok_iniB (kn := 0) (head := "not the name of a kind: ") (fun _ => rfl) (fun _ => rfl) lk hcd scIni U hsup hno (by decide) rfl rfl (by decide) (by decide)
theorem bind_bini {K : PySem.W.Frag} {c cc : Addr} {kV doc pm ct : Value} {an : Option Addr} : Binds K (PySem.W.ksFn "__init__" "BadKind.__init__" (defArgs sIni) (defBody sIni) (defScope sIni) .none kV doc pm an (.ref c) ct cc) ["self", "name"] [] := .all fun us hl => match us, hl with | [_, _], _ => rfl
def clsOf (a b c d e f g h : Addr) : Kd → Addr
  | .list => a | .bag => b | .set => c | .first => d | .last => e | .ends => f | .heads => g | .tails => h
abbrev rwK : PySem.W.OpenLaw := PySem.Challenge.rw_movedstates_k41_free_losses_exactly
theorem all_mk {w : World} {K : PySem.W.Frag} {h : Heap} {mg : Str → Option Value} {fa : Addr}
    {f_w_stream : Addr} {od_w_stream an_w_stream : Option Addr} {sl_w_stream : Array (Option Value)} {oc_w_stream kV_w_stream dc_w_stream pm_w_stream cd_w_stream ct_w_stream : Value}
    {f_w_draw : Addr} {od_w_draw an_w_draw : Option Addr} {sl_w_draw : Array (Option Value)} {oc_w_draw kV_w_draw dc_w_draw pm_w_draw cd_w_draw ct_w_draw : Value}
    {f_w_wide : Addr} {od_w_wide an_w_wide : Option Addr} {sl_w_wide : Array (Option Value)} {oc_w_wide kV_w_wide dc_w_wide pm_w_wide cd_w_wide ct_w_wide : Value}
    {f_w_value : Addr} {od_w_value an_w_value : Option Addr} {sl_w_value : Array (Option Value)} {oc_w_value kV_w_value dc_w_value pm_w_value cd_w_value ct_w_value : Value}
    {f_w_word : Addr} {od_w_word an_w_word : Option Addr} {sl_w_word : Array (Option Value)} {oc_w_word kV_w_word dc_w_word pm_w_word cd_w_word ct_w_word : Value}
    {f_w_parcel : Addr} {od_w_parcel an_w_parcel : Option Addr} {sl_w_parcel : Array (Option Value)} {oc_w_parcel kV_w_parcel dc_w_parcel pm_w_parcel cd_w_parcel ct_w_parcel : Value}
    {f_w_drawn : Addr} {od_w_drawn an_w_drawn : Option Addr} {sl_w_drawn : Array (Option Value)} {oc_w_drawn kV_w_drawn dc_w_drawn pm_w_drawn cd_w_drawn ct_w_drawn : Value}
    {f_w_around : Addr} {od_w_around an_w_around : Option Addr} {sl_w_around : Array (Option Value)} {oc_w_around kV_w_around dc_w_around pm_w_around cd_w_around ct_w_around : Value}
    {f_w_joined : Addr} {od_w_joined an_w_joined : Option Addr} {sl_w_joined : Array (Option Value)} {oc_w_joined kV_w_joined dc_w_joined pm_w_joined cd_w_joined ct_w_joined : Value}
    {f_w_plain : Addr} {od_w_plain an_w_plain : Option Addr} {sl_w_plain : Array (Option Value)} {oc_w_plain kV_w_plain dc_w_plain pm_w_plain cd_w_plain ct_w_plain : Value}
    {f_w_new : Addr} {od_w_new an_w_new : Option Addr} {sl_w_new : Array (Option Value)} {oc_w_new kV_w_new dc_w_new pm_w_new cd_w_new ct_w_new : Value}
    {f_w_rear : Addr} {od_w_rear an_w_rear : Option Addr} {sl_w_rear : Array (Option Value)} {oc_w_rear kV_w_rear dc_w_rear pm_w_rear cd_w_rear ct_w_rear : Value}
    {f_w_spared : Addr} {od_w_spared an_w_spared : Option Addr} {sl_w_spared : Array (Option Value)} {oc_w_spared kV_w_spared dc_w_spared pm_w_spared cd_w_spared ct_w_spared : Value}
    {f_w_told : Addr} {od_w_told an_w_told : Option Addr} {sl_w_told : Array (Option Value)} {oc_w_told kV_w_told dc_w_told pm_w_told cd_w_told ct_w_told : Value}
    {f_w_asked : Addr} {od_w_asked an_w_asked : Option Addr} {sl_w_asked : Array (Option Value)} {oc_w_asked kV_w_asked dc_w_asked pm_w_asked cd_w_asked ct_w_asked : Value}
    {f_w_undone : Addr} {od_w_undone an_w_undone : Option Addr} {sl_w_undone : Array (Option Value)} {oc_w_undone kV_w_undone dc_w_undone pm_w_undone cd_w_undone ct_w_undone : Value}
    {f_w_refused : Addr} {od_w_refused an_w_refused : Option Addr} {sl_w_refused : Array (Option Value)} {oc_w_refused kV_w_refused dc_w_refused pm_w_refused cd_w_refused ct_w_refused : Value}
    {f_law : Addr} {od_law an_law : Option Addr} {sl_law : Array (Option Value)} {oc_law kV_law dc_law pm_law cd_law ct_law : Value}
    {f_least_places : Addr} {od_least_places an_least_places : Option Addr} {sl_least_places : Array (Option Value)} {oc_least_places kV_least_places dc_least_places pm_least_places cd_least_places ct_least_places : Value}
    {f_greatest_places : Addr} {od_greatest_places an_greatest_places : Option Addr} {sl_greatest_places : Array (Option Value)} {oc_greatest_places kV_greatest_places dc_greatest_places pm_greatest_places cd_greatest_places ct_greatest_places : Value}
    {f_kind_named : Addr} {od_kind_named an_kind_named : Option Addr} {sl_kind_named : Array (Option Value)} {oc_kind_named kV_kind_named dc_kind_named pm_kind_named cd_kind_named ct_kind_named : Value}
    {f_alike : Addr} {od_alike an_alike : Option Addr} {sl_alike : Array (Option Value)} {oc_alike kV_alike dc_alike pm_alike cd_alike ct_alike : Value}
    {f_word_of : Addr} {od_word_of an_word_of : Option Addr} {sl_word_of : Array (Option Value)} {oc_word_of kV_word_of dc_word_of pm_word_of cd_word_of ct_word_of : Value}
    {f_free_repeat : Addr} {od_free_repeat an_free_repeat : Option Addr} {sl_free_repeat : Array (Option Value)} {oc_free_repeat dc_free_repeat pm_free_repeat cd_free_repeat ct_free_repeat : Value}
    {D_free_repeat e1_free_repeat e2_free_repeat : Addr} {oe1_free_repeat oe2_free_repeat : Option Addr} {n1_free_repeat n2_free_repeat : Nat} {se1_free_repeat se2_free_repeat : Array (Option Value)}
    {f_free_loss : Addr} {od_free_loss an_free_loss : Option Addr} {sl_free_loss : Array (Option Value)} {oc_free_loss dc_free_loss pm_free_loss cd_free_loss ct_free_loss : Value}
    {D_free_loss e1_free_loss e2_free_loss : Addr} {oe1_free_loss oe2_free_loss : Option Addr} {n1_free_loss n2_free_loss : Nat} {se1_free_loss se2_free_loss : Array (Option Value)}
    {C_Kind : Addr}
    {f_kO : Addr} {od_kO an_kO : Option Addr} {sl_kO : Array (Option Value)} {oc_kO kV_kO dc_kO pm_kO cd_kO ct_kO : Value}
    {C_BagKind : Addr}
    {f_kB : Addr} {od_kB an_kB : Option Addr} {sl_kB : Array (Option Value)} {oc_kB kV_kB dc_kB pm_kB ct_kB : Value}
    {C_SetKind : Addr}
    {f_kS : Addr} {od_kS an_kS : Option Addr} {sl_kS : Array (Option Value)} {oc_kS kV_kS dc_kS pm_kS cd_kS ct_kS : Value}
    {C_FirstKind : Addr}
    {f_kF : Addr} {od_kF an_kF : Option Addr} {sl_kF : Array (Option Value)} {oc_kF kV_kF dc_kF pm_kF cd_kF ct_kF : Value}
    {C_LastKind : Addr}
    {f_kL : Addr} {od_kL an_kL : Option Addr} {sl_kL : Array (Option Value)} {oc_kL kV_kL dc_kL pm_kL cd_kL ct_kL : Value}
    {C_EndsKind : Addr}
    {f_kE : Addr} {od_kE an_kE : Option Addr} {sl_kE : Array (Option Value)} {oc_kE kV_kE dc_kE pm_kE cd_kE ct_kE : Value}
    {C_HeadsKind : Addr}
    {f_kH : Addr} {od_kH an_kH : Option Addr} {sl_kH : Array (Option Value)} {oc_kH kV_kH dc_kH pm_kH cd_kH ct_kH : Value}
    {C_TailsKind : Addr}
    {f_kT : Addr} {od_kT an_kT : Option Addr} {sl_kT : Array (Option Value)} {oc_kT kV_kT dc_kT pm_kT cd_kT ct_kT : Value}
    {cB Pt : Addr}
    {f_pl : Addr} {od_pl an_pl : Option Addr} {sl_pl : Array (Option Value)} {oc_pl kV_pl dc_pl pm_pl cd_pl ct_pl : Value}
    {kn : Addr} {odN : Option Addr} {slN : Array (Option Value)} {nN : Nat} {t0 t1 t2 t3 t4 t5 t6 t7 : Tok}
    {CB : Addr} {nm q : Str} {NB : Addr} {bs : List Value} {bm : List Value} {sn : List Str} {sub : List Value} {ab : Bool} {col : Option Bool} {dd : Option Addr} {m0 m1 m2 m3 m5 : Option Value}
    {f_i c_i cc : Addr} {od_i an_i : Option Addr} {sl_i : Array (Option Value)} {oc_i kV_i dc_i pm_i ct_i : Value} {ccl : Value} {cdd : Option Addr} {vsC : Array Value} {ccs : Array (Option Value)} {file : Str} {tf : Tok} {cl : Value} {cld : Option Addr} {csl : Array (Option Value)} {cdB : ClassData}
    (X : K.In h) (G : h.Ns mainGlobals mg) (hfa : mg "law" = some (.ref fa)) (hPt : h.get? Pt = some { cls := .none, data := .fields #[] })
    (z_len : PySem.W.nsIn K mainGlobals "len" = some none)
    (z_range : PySem.W.nsIn K mainGlobals "range" = some none)
    (z_enumerate : PySem.W.nsIn K mainGlobals "enumerate" = some none)
    (z_abs : PySem.W.nsIn K mainGlobals "abs" = some none)
    (z_int : PySem.W.nsIn K mainGlobals "int" = some none)
    (z_list : PySem.W.nsIn K mainGlobals "list" = some none)
    (z_tuple : PySem.W.nsIn K mainGlobals "tuple" = some none)
    (z_sorted : PySem.W.nsIn K mainGlobals "sorted" = some none)
    (z_isinstance : PySem.W.nsIn K mainGlobals "isinstance" = some none)
    (z_str : PySem.W.nsIn K mainGlobals "str" = some none)
    (z_bool : PySem.W.nsIn K mainGlobals "bool" = some none)
    (z_super : PySem.W.nsIn K mainGlobals "super" = some none)
    (z_ValueError : PySem.W.nsIn K mainGlobals "ValueError" = some none)
    (z_min : PySem.W.nsIn K mainGlobals "min" = some none)
    (z_all : PySem.W.nsIn K mainGlobals "all" = some none)
    (a_w_stream : PySem.W.nsIn K mainGlobals "_law_stream" = some (some (.ref f_w_stream)))
    (l_w_stream : K.lookup f_w_stream = some ⟨oc_w_stream, od_w_stream, .func (PySem.W.fnOf "_law_stream" "_law_stream" (defArgs sStream) (defBody sStream) (defScope sStream) .none kV_w_stream dc_w_stream pm_w_stream an_w_stream cd_w_stream ct_w_stream), sl_w_stream⟩)
    (c_w_stream : PySem.W.codeIn K cd_w_stream "_law_stream" = true)
    (k_w_stream : PySem.W.keepIn K (.ref f_w_stream) = true)
    (a_w_draw : PySem.W.nsIn K mainGlobals "_law_draw" = some (some (.ref f_w_draw)))
    (l_w_draw : K.lookup f_w_draw = some ⟨oc_w_draw, od_w_draw, .func (PySem.W.fnOf "_law_draw" "_law_draw" (defArgs sDraw) (defBody sDraw) (defScope sDraw) .none kV_w_draw dc_w_draw pm_w_draw an_w_draw cd_w_draw ct_w_draw), sl_w_draw⟩)
    (c_w_draw : PySem.W.codeIn K cd_w_draw "_law_draw" = true)
    (k_w_draw : PySem.W.keepIn K (.ref f_w_draw) = true)
    (a_w_wide : PySem.W.nsIn K mainGlobals "_law_wide" = some (some (.ref f_w_wide)))
    (l_w_wide : K.lookup f_w_wide = some ⟨oc_w_wide, od_w_wide, .func (PySem.W.fnOf "_law_wide" "_law_wide" (defArgs sWide) (defBody sWide) (defScope sWide) .none kV_w_wide dc_w_wide pm_w_wide an_w_wide cd_w_wide ct_w_wide), sl_w_wide⟩)
    (c_w_wide : PySem.W.codeIn K cd_w_wide "_law_wide" = true)
    (k_w_wide : PySem.W.keepIn K (.ref f_w_wide) = true)
    (a_w_value : PySem.W.nsIn K mainGlobals "_law_value" = some (some (.ref f_w_value)))
    (l_w_value : K.lookup f_w_value = some ⟨oc_w_value, od_w_value, .func (PySem.W.fnOf "_law_value" "_law_value" (defArgs sValue) (defBody sValue) (defScope sValue) .none kV_w_value dc_w_value pm_w_value an_w_value cd_w_value ct_w_value), sl_w_value⟩)
    (c_w_value : PySem.W.codeIn K cd_w_value "_law_value" = true)
    (k_w_value : PySem.W.keepIn K (.ref f_w_value) = true)
    (a_w_word : PySem.W.nsIn K mainGlobals "_law_word" = some (some (.ref f_w_word)))
    (l_w_word : K.lookup f_w_word = some ⟨oc_w_word, od_w_word, .func (PySem.W.fnOf "_law_word" "_law_word" (defArgs sWord) (defBody sWord) (defScope sWord) .none kV_w_word dc_w_word pm_w_word an_w_word cd_w_word ct_w_word), sl_w_word⟩)
    (c_w_word : PySem.W.codeIn K cd_w_word "_law_word" = true)
    (k_w_word : PySem.W.keepIn K (.ref f_w_word) = true)
    (a_w_parcel : PySem.W.nsIn K mainGlobals "_law_parcel" = some (some (.ref f_w_parcel)))
    (l_w_parcel : K.lookup f_w_parcel = some ⟨oc_w_parcel, od_w_parcel, .func (PySem.W.fnOf "_law_parcel" "_law_parcel" (defArgs sParcel) (defBody sParcel) (defScope sParcel) .none kV_w_parcel dc_w_parcel pm_w_parcel an_w_parcel cd_w_parcel ct_w_parcel), sl_w_parcel⟩)
    (c_w_parcel : PySem.W.codeIn K cd_w_parcel "_law_parcel" = true)
    (k_w_parcel : PySem.W.keepIn K (.ref f_w_parcel) = true)
    (a_w_drawn : PySem.W.nsIn K mainGlobals "_law_drawn" = some (some (.ref f_w_drawn)))
    (l_w_drawn : K.lookup f_w_drawn = some ⟨oc_w_drawn, od_w_drawn, .func (PySem.W.fnOf "_law_drawn" "_law_drawn" (defArgs sDrawn) (defBody sDrawn) (defScope sDrawn) .none kV_w_drawn dc_w_drawn pm_w_drawn an_w_drawn cd_w_drawn ct_w_drawn), sl_w_drawn⟩)
    (c_w_drawn : PySem.W.codeIn K cd_w_drawn "_law_drawn" = true)
    (k_w_drawn : PySem.W.keepIn K (.ref f_w_drawn) = true)
    (a_w_around : PySem.W.nsIn K mainGlobals "_law_around" = some (some (.ref f_w_around)))
    (l_w_around : K.lookup f_w_around = some ⟨oc_w_around, od_w_around, .func (PySem.W.fnOf "_law_around" "_law_around" (defArgs sAround) (defBody sAround) (defScope sAround) .none kV_w_around dc_w_around pm_w_around an_w_around cd_w_around ct_w_around), sl_w_around⟩)
    (c_w_around : PySem.W.codeIn K cd_w_around "_law_around" = true)
    (k_w_around : PySem.W.keepIn K (.ref f_w_around) = true)
    (a_w_joined : PySem.W.nsIn K mainGlobals "_law_joined" = some (some (.ref f_w_joined)))
    (l_w_joined : K.lookup f_w_joined = some ⟨oc_w_joined, od_w_joined, .func (PySem.W.fnOf "_law_joined" "_law_joined" (defArgs sJoined) (defBody sJoined) (defScope sJoined) .none kV_w_joined dc_w_joined pm_w_joined an_w_joined cd_w_joined ct_w_joined), sl_w_joined⟩)
    (c_w_joined : PySem.W.codeIn K cd_w_joined "_law_joined" = true)
    (k_w_joined : PySem.W.keepIn K (.ref f_w_joined) = true)
    (a_w_plain : PySem.W.nsIn K mainGlobals "_law_plain" = some (some (.ref f_w_plain)))
    (l_w_plain : K.lookup f_w_plain = some ⟨oc_w_plain, od_w_plain, .func (PySem.W.fnOf "_law_plain" "_law_plain" (defArgs sPlain) (defBody sPlain) (defScope sPlain) .none kV_w_plain dc_w_plain pm_w_plain an_w_plain cd_w_plain ct_w_plain), sl_w_plain⟩)
    (c_w_plain : PySem.W.codeIn K cd_w_plain "_law_plain" = true)
    (k_w_plain : PySem.W.keepIn K (.ref f_w_plain) = true)
    (a_w_new : PySem.W.nsIn K mainGlobals "_law_new" = some (some (.ref f_w_new)))
    (l_w_new : K.lookup f_w_new = some ⟨oc_w_new, od_w_new, .func (PySem.W.fnOf "_law_new" "_law_new" (defArgs sNew) (defBody sNew) (defScope sNew) .none kV_w_new dc_w_new pm_w_new an_w_new cd_w_new ct_w_new), sl_w_new⟩)
    (c_w_new : PySem.W.codeIn K cd_w_new "_law_new" = true)
    (k_w_new : PySem.W.keepIn K (.ref f_w_new) = true)
    (a_w_rear : PySem.W.nsIn K mainGlobals "_law_rear" = some (some (.ref f_w_rear)))
    (l_w_rear : K.lookup f_w_rear = some ⟨oc_w_rear, od_w_rear, .func (PySem.W.fnOf "_law_rear" "_law_rear" (defArgs sRear) (defBody sRear) (defScope sRear) .none kV_w_rear dc_w_rear pm_w_rear an_w_rear cd_w_rear ct_w_rear), sl_w_rear⟩)
    (c_w_rear : PySem.W.codeIn K cd_w_rear "_law_rear" = true)
    (k_w_rear : PySem.W.keepIn K (.ref f_w_rear) = true)
    (a_w_spared : PySem.W.nsIn K mainGlobals "_law_spared" = some (some (.ref f_w_spared)))
    (l_w_spared : K.lookup f_w_spared = some ⟨oc_w_spared, od_w_spared, .func (PySem.W.fnOf "_law_spared" "_law_spared" (defArgs sSpared) (defBody sSpared) (defScope sSpared) .none kV_w_spared dc_w_spared pm_w_spared an_w_spared cd_w_spared ct_w_spared), sl_w_spared⟩)
    (c_w_spared : PySem.W.codeIn K cd_w_spared "_law_spared" = true)
    (k_w_spared : PySem.W.keepIn K (.ref f_w_spared) = true)
    (a_w_told : PySem.W.nsIn K mainGlobals "_law_told" = some (some (.ref f_w_told)))
    (l_w_told : K.lookup f_w_told = some ⟨oc_w_told, od_w_told, .func (PySem.W.fnOf "_law_told" "_law_told" (defArgs sTold) (defBody sTold) (defScope sTold) .none kV_w_told dc_w_told pm_w_told an_w_told cd_w_told ct_w_told), sl_w_told⟩)
    (c_w_told : PySem.W.codeIn K cd_w_told "_law_told" = true)
    (k_w_told : PySem.W.keepIn K (.ref f_w_told) = true)
    (a_w_asked : PySem.W.nsIn K mainGlobals "_law_asked" = some (some (.ref f_w_asked)))
    (l_w_asked : K.lookup f_w_asked = some ⟨oc_w_asked, od_w_asked, .func (PySem.W.fnOf "_law_asked" "_law_asked" (defArgs sAsked) (defBody sAsked) (defScope sAsked) .none kV_w_asked dc_w_asked pm_w_asked an_w_asked cd_w_asked ct_w_asked), sl_w_asked⟩)
    (c_w_asked : PySem.W.codeIn K cd_w_asked "_law_asked" = true)
    (k_w_asked : PySem.W.keepIn K (.ref f_w_asked) = true)
    (a_w_undone : PySem.W.nsIn K mainGlobals "_law_undone" = some (some (.ref f_w_undone)))
    (l_w_undone : K.lookup f_w_undone = some ⟨oc_w_undone, od_w_undone, .func (PySem.W.fnOf "_law_undone" "_law_undone" (defArgs sUndone) (defBody sUndone) (defScope sUndone) .none kV_w_undone dc_w_undone pm_w_undone an_w_undone cd_w_undone ct_w_undone), sl_w_undone⟩)
    (c_w_undone : PySem.W.codeIn K cd_w_undone "_law_undone" = true)
    (k_w_undone : PySem.W.keepIn K (.ref f_w_undone) = true)
    (a_w_refused : PySem.W.nsIn K mainGlobals "_law_refused" = some (some (.ref f_w_refused)))
    (l_w_refused : K.lookup f_w_refused = some ⟨oc_w_refused, od_w_refused, .func (PySem.W.fnOf "_law_refused" "_law_refused" (defArgs sRef) (defBody sRef) (defScope sRef) .none kV_w_refused dc_w_refused pm_w_refused an_w_refused cd_w_refused ct_w_refused), sl_w_refused⟩)
    (c_w_refused : PySem.W.codeIn K cd_w_refused "_law_refused" = true)
    (k_w_refused : PySem.W.keepIn K (.ref f_w_refused) = true)
    (a_law : PySem.W.nsIn K mainGlobals "law" = some (some (.ref f_law)))
    (l_law : K.lookup f_law = some ⟨oc_law, od_law, .func (PySem.W.fnOf "law" "law" (defArgs sLaw) (defBody sLaw) (defScope sLaw) .none kV_law dc_law pm_law an_law cd_law ct_law), sl_law⟩)
    (c_law : PySem.W.codeIn K cd_law "law" = true)
    (k_law : PySem.W.keepIn K (.ref f_law) = true)
    (a_least_places : PySem.W.nsIn K mainGlobals "least_places" = some (some (.ref f_least_places)))
    (l_least_places : K.lookup f_least_places = some ⟨oc_least_places, od_least_places, .func (PySem.W.fnOf "least_places" "least_places" (defArgs sLeast) (defBody sLeast) (defScope sLeast) .none kV_least_places dc_least_places pm_least_places an_least_places cd_least_places ct_least_places), sl_least_places⟩)
    (c_least_places : PySem.W.codeIn K cd_least_places "least_places" = true)
    (k_least_places : PySem.W.keepIn K (.ref f_least_places) = true)
    (a_greatest_places : PySem.W.nsIn K mainGlobals "greatest_places" = some (some (.ref f_greatest_places)))
    (l_greatest_places : K.lookup f_greatest_places = some ⟨oc_greatest_places, od_greatest_places, .func (PySem.W.fnOf "greatest_places" "greatest_places" (defArgs sGreat) (defBody sGreat) (defScope sGreat) .none kV_greatest_places dc_greatest_places pm_greatest_places an_greatest_places cd_greatest_places ct_greatest_places), sl_greatest_places⟩)
    (c_greatest_places : PySem.W.codeIn K cd_greatest_places "greatest_places" = true)
    (k_greatest_places : PySem.W.keepIn K (.ref f_greatest_places) = true)
    (a_kind_named : PySem.W.nsIn K mainGlobals "kind_named" = some (some (.ref f_kind_named)))
    (l_kind_named : K.lookup f_kind_named = some ⟨oc_kind_named, od_kind_named, .func (PySem.W.fnOf "kind_named" "kind_named" (defArgs sKN) (defBody sKN) (defScope sKN) .none kV_kind_named dc_kind_named pm_kind_named an_kind_named cd_kind_named ct_kind_named), sl_kind_named⟩)
    (c_kind_named : PySem.W.codeIn K cd_kind_named "kind_named" = true)
    (k_kind_named : PySem.W.keepIn K (.ref f_kind_named) = true)
    (a_alike : PySem.W.nsIn K mainGlobals "alike" = some (some (.ref f_alike)))
    (l_alike : K.lookup f_alike = some ⟨oc_alike, od_alike, .func (PySem.W.fnOf "alike" "alike" (defArgs sAl) (defBody sAl) (defScope sAl) .none kV_alike dc_alike pm_alike an_alike cd_alike ct_alike), sl_alike⟩)
    (c_alike : PySem.W.codeIn K cd_alike "alike" = true)
    (k_alike : PySem.W.keepIn K (.ref f_alike) = true)
    (a_word_of : PySem.W.nsIn K mainGlobals "word_of" = some (some (.ref f_word_of)))
    (l_word_of : K.lookup f_word_of = some ⟨oc_word_of, od_word_of, .func (PySem.W.fnOf "word_of" "word_of" (defArgs sWO) (defBody sWO) (defScope sWO) .none kV_word_of dc_word_of pm_word_of an_word_of cd_word_of ct_word_of), sl_word_of⟩)
    (c_word_of : PySem.W.codeIn K cd_word_of "word_of" = true)
    (k_word_of : PySem.W.keepIn K (.ref f_word_of) = true)
    (a_free_repeat : PySem.W.nsIn K mainGlobals "free_repeat" = some (some (.ref f_free_repeat)))
    (l_free_repeat : K.lookup f_free_repeat = some ⟨oc_free_repeat, od_free_repeat, .func (PySem.W.fnOf "free_repeat" "free_repeat" (defArgs sFR) (defBody sFR) (defScope sFR) .none (.ref D_free_repeat) dc_free_repeat pm_free_repeat an_free_repeat cd_free_repeat ct_free_repeat), sl_free_repeat⟩)
    (c_free_repeat : PySem.W.codeIn K cd_free_repeat "free_repeat" = true)
    (k_free_repeat : PySem.W.keepIn K (.ref f_free_repeat) = true)
    (d1_free_repeat : PySem.W.nsIn K D_free_repeat "before" = some (some (.ref e1_free_repeat)))
    (d2_free_repeat : PySem.W.nsIn K D_free_repeat "after" = some (some (.ref e2_free_repeat)))
    (x1_free_repeat : K.lookup e1_free_repeat = some ⟨.type "tuple", oe1_free_repeat, .seq #[] n1_free_repeat, se1_free_repeat⟩)
    (x2_free_repeat : K.lookup e2_free_repeat = some ⟨.type "tuple", oe2_free_repeat, .seq #[] n2_free_repeat, se2_free_repeat⟩)
    (a_free_loss : PySem.W.nsIn K mainGlobals "free_loss" = some (some (.ref f_free_loss)))
    (l_free_loss : K.lookup f_free_loss = some ⟨oc_free_loss, od_free_loss, .func (PySem.W.fnOf "free_loss" "free_loss" (defArgs sFL) (defBody sFL) (defScope sFL) .none (.ref D_free_loss) dc_free_loss pm_free_loss an_free_loss cd_free_loss ct_free_loss), sl_free_loss⟩)
    (c_free_loss : PySem.W.codeIn K cd_free_loss "free_loss" = true)
    (k_free_loss : PySem.W.keepIn K (.ref f_free_loss) = true)
    (d1_free_loss : PySem.W.nsIn K D_free_loss "before" = some (some (.ref e1_free_loss)))
    (d2_free_loss : PySem.W.nsIn K D_free_loss "after" = some (some (.ref e2_free_loss)))
    (x1_free_loss : K.lookup e1_free_loss = some ⟨.type "tuple", oe1_free_loss, .seq #[] n1_free_loss, se1_free_loss⟩)
    (x2_free_loss : K.lookup e2_free_loss = some ⟨.type "tuple", oe2_free_loss, .seq #[] n2_free_loss, se2_free_loss⟩)
    (a_Kind : PySem.W.nsIn K mainGlobals "Kind" = some (some (.ref C_Kind)))
    (mk_Kind : PySem.W.makesIn K C_Kind = true)
    (in_Kind : PySem.W.findIn K (.ref C_Kind) "__init__" = some (some (.builtin "object.__init__")))
    (tp_Kind : PySem.W.mroIn K C_Kind (.type "object") = some true)
    (kc_Kind : PySem.W.keepIn K (.ref C_Kind) = true)
    (pg_Kind : PySem.W.plainGet K C_Kind Str.empty = true)
    (hd_Kind : PySem.W.hasDictIn K C_Kind = true)
    (po_Kind : PySem.W.plainOver K C_Kind = true)
    (sa_Kind : PySem.W.findIn K (.ref C_Kind) "__setattr__" = some (some (.builtin "object.__setattr__")))
    (a_kO : PySem.W.findIn K (.ref C_Kind) "keep" = some (some (.ref f_kO)))
    (i_kO : PySem.W.isFn K (.ref f_kO) = true)
    (l_kO : K.lookup f_kO = some ⟨oc_kO, od_kO, .func (PySem.W.fnOf "keep" "Kind.keep" (defArgs sKeepO) (defBody sKeepO) (defScope sKeepO) .none kV_kO dc_kO pm_kO an_kO cd_kO ct_kO), sl_kO⟩)
    (c_kO : PySem.W.codeIn K cd_kO "Kind.keep" = true)
    (k_kO : PySem.W.keepIn K (.ref f_kO) = true)
    (a_BagKind : PySem.W.nsIn K mainGlobals "BagKind" = some (some (.ref C_BagKind)))
    (mk_BagKind : PySem.W.makesIn K C_BagKind = true)
    (in_BagKind : PySem.W.findIn K (.ref C_BagKind) "__init__" = some (some (.builtin "object.__init__")))
    (tp_BagKind : PySem.W.mroIn K C_BagKind (.type "object") = some true)
    (kc_BagKind : PySem.W.keepIn K (.ref C_BagKind) = true)
    (pg_BagKind : PySem.W.plainGet K C_BagKind Str.empty = true)
    (hd_BagKind : PySem.W.hasDictIn K C_BagKind = true)
    (po_BagKind : PySem.W.plainOver K C_BagKind = true)
    (sa_BagKind : PySem.W.findIn K (.ref C_BagKind) "__setattr__" = some (some (.builtin "object.__setattr__")))
    (a_kB : PySem.W.findIn K (.ref C_BagKind) "keep" = some (some (.ref f_kB)))
    (i_kB : PySem.W.isFn K (.ref f_kB) = true)
    (l_kB : K.lookup f_kB = some ⟨oc_kB, od_kB, .func (PySem.W.fnOf "keep" "BagKind.keep" (defArgs sKeepB) (defBody sKeepB) (defScope sKeepB) .none kV_kB dc_kB pm_kB an_kB (.ref cB) ct_kB), sl_kB⟩)
    (c_kB : PySem.W.codeIn K (.ref cB) "BagKind.keep" = true)
    (k_kB : PySem.W.keepIn K (.ref f_kB) = true)
    (a_SetKind : PySem.W.nsIn K mainGlobals "SetKind" = some (some (.ref C_SetKind)))
    (mk_SetKind : PySem.W.makesIn K C_SetKind = true)
    (in_SetKind : PySem.W.findIn K (.ref C_SetKind) "__init__" = some (some (.builtin "object.__init__")))
    (tp_SetKind : PySem.W.mroIn K C_SetKind (.type "object") = some true)
    (kc_SetKind : PySem.W.keepIn K (.ref C_SetKind) = true)
    (pg_SetKind : PySem.W.plainGet K C_SetKind Str.empty = true)
    (hd_SetKind : PySem.W.hasDictIn K C_SetKind = true)
    (po_SetKind : PySem.W.plainOver K C_SetKind = true)
    (sa_SetKind : PySem.W.findIn K (.ref C_SetKind) "__setattr__" = some (some (.builtin "object.__setattr__")))
    (a_kS : PySem.W.findIn K (.ref C_SetKind) "keep" = some (some (.ref f_kS)))
    (i_kS : PySem.W.isFn K (.ref f_kS) = true)
    (l_kS : K.lookup f_kS = some ⟨oc_kS, od_kS, .func (PySem.W.fnOf "keep" "SetKind.keep" (defArgs sKeepS) (defBody sKeepS) (defScope sKeepS) .none kV_kS dc_kS pm_kS an_kS cd_kS ct_kS), sl_kS⟩)
    (c_kS : PySem.W.codeIn K cd_kS "SetKind.keep" = true)
    (k_kS : PySem.W.keepIn K (.ref f_kS) = true)
    (a_FirstKind : PySem.W.nsIn K mainGlobals "FirstKind" = some (some (.ref C_FirstKind)))
    (mk_FirstKind : PySem.W.makesIn K C_FirstKind = true)
    (in_FirstKind : PySem.W.findIn K (.ref C_FirstKind) "__init__" = some (some (.builtin "object.__init__")))
    (tp_FirstKind : PySem.W.mroIn K C_FirstKind (.type "object") = some true)
    (kc_FirstKind : PySem.W.keepIn K (.ref C_FirstKind) = true)
    (pg_FirstKind : PySem.W.plainGet K C_FirstKind Str.empty = true)
    (hd_FirstKind : PySem.W.hasDictIn K C_FirstKind = true)
    (po_FirstKind : PySem.W.plainOver K C_FirstKind = true)
    (sa_FirstKind : PySem.W.findIn K (.ref C_FirstKind) "__setattr__" = some (some (.builtin "object.__setattr__")))
    (a_kF : PySem.W.findIn K (.ref C_FirstKind) "keep" = some (some (.ref f_kF)))
    (i_kF : PySem.W.isFn K (.ref f_kF) = true)
    (l_kF : K.lookup f_kF = some ⟨oc_kF, od_kF, .func (PySem.W.fnOf "keep" "FirstKind.keep" (defArgs sKeepF) (defBody sKeepF) (defScope sKeepF) .none kV_kF dc_kF pm_kF an_kF cd_kF ct_kF), sl_kF⟩)
    (c_kF : PySem.W.codeIn K cd_kF "FirstKind.keep" = true)
    (k_kF : PySem.W.keepIn K (.ref f_kF) = true)
    (a_LastKind : PySem.W.nsIn K mainGlobals "LastKind" = some (some (.ref C_LastKind)))
    (mk_LastKind : PySem.W.makesIn K C_LastKind = true)
    (in_LastKind : PySem.W.findIn K (.ref C_LastKind) "__init__" = some (some (.builtin "object.__init__")))
    (tp_LastKind : PySem.W.mroIn K C_LastKind (.type "object") = some true)
    (kc_LastKind : PySem.W.keepIn K (.ref C_LastKind) = true)
    (pg_LastKind : PySem.W.plainGet K C_LastKind Str.empty = true)
    (hd_LastKind : PySem.W.hasDictIn K C_LastKind = true)
    (po_LastKind : PySem.W.plainOver K C_LastKind = true)
    (sa_LastKind : PySem.W.findIn K (.ref C_LastKind) "__setattr__" = some (some (.builtin "object.__setattr__")))
    (a_kL : PySem.W.findIn K (.ref C_LastKind) "keep" = some (some (.ref f_kL)))
    (i_kL : PySem.W.isFn K (.ref f_kL) = true)
    (l_kL : K.lookup f_kL = some ⟨oc_kL, od_kL, .func (PySem.W.fnOf "keep" "LastKind.keep" (defArgs sKeepL) (defBody sKeepL) (defScope sKeepL) .none kV_kL dc_kL pm_kL an_kL cd_kL ct_kL), sl_kL⟩)
    (c_kL : PySem.W.codeIn K cd_kL "LastKind.keep" = true)
    (k_kL : PySem.W.keepIn K (.ref f_kL) = true)
    (a_EndsKind : PySem.W.nsIn K mainGlobals "EndsKind" = some (some (.ref C_EndsKind)))
    (mk_EndsKind : PySem.W.makesIn K C_EndsKind = true)
    (in_EndsKind : PySem.W.findIn K (.ref C_EndsKind) "__init__" = some (some (.builtin "object.__init__")))
    (tp_EndsKind : PySem.W.mroIn K C_EndsKind (.type "object") = some true)
    (kc_EndsKind : PySem.W.keepIn K (.ref C_EndsKind) = true)
    (pg_EndsKind : PySem.W.plainGet K C_EndsKind Str.empty = true)
    (hd_EndsKind : PySem.W.hasDictIn K C_EndsKind = true)
    (po_EndsKind : PySem.W.plainOver K C_EndsKind = true)
    (sa_EndsKind : PySem.W.findIn K (.ref C_EndsKind) "__setattr__" = some (some (.builtin "object.__setattr__")))
    (a_kE : PySem.W.findIn K (.ref C_EndsKind) "keep" = some (some (.ref f_kE)))
    (i_kE : PySem.W.isFn K (.ref f_kE) = true)
    (l_kE : K.lookup f_kE = some ⟨oc_kE, od_kE, .func (PySem.W.fnOf "keep" "EndsKind.keep" (defArgs sKeepE) (defBody sKeepE) (defScope sKeepE) .none kV_kE dc_kE pm_kE an_kE cd_kE ct_kE), sl_kE⟩)
    (c_kE : PySem.W.codeIn K cd_kE "EndsKind.keep" = true)
    (k_kE : PySem.W.keepIn K (.ref f_kE) = true)
    (a_HeadsKind : PySem.W.nsIn K mainGlobals "HeadsKind" = some (some (.ref C_HeadsKind)))
    (mk_HeadsKind : PySem.W.makesIn K C_HeadsKind = true)
    (in_HeadsKind : PySem.W.findIn K (.ref C_HeadsKind) "__init__" = some (some (.builtin "object.__init__")))
    (tp_HeadsKind : PySem.W.mroIn K C_HeadsKind (.type "object") = some true)
    (kc_HeadsKind : PySem.W.keepIn K (.ref C_HeadsKind) = true)
    (pg_HeadsKind : PySem.W.plainGet K C_HeadsKind Str.empty = true)
    (hd_HeadsKind : PySem.W.hasDictIn K C_HeadsKind = true)
    (po_HeadsKind : PySem.W.plainOver K C_HeadsKind = true)
    (sa_HeadsKind : PySem.W.findIn K (.ref C_HeadsKind) "__setattr__" = some (some (.builtin "object.__setattr__")))
    (a_kH : PySem.W.findIn K (.ref C_HeadsKind) "keep" = some (some (.ref f_kH)))
    (i_kH : PySem.W.isFn K (.ref f_kH) = true)
    (l_kH : K.lookup f_kH = some ⟨oc_kH, od_kH, .func (PySem.W.fnOf "keep" "HeadsKind.keep" (defArgs sKeepH) (defBody sKeepH) (defScope sKeepH) .none kV_kH dc_kH pm_kH an_kH cd_kH ct_kH), sl_kH⟩)
    (c_kH : PySem.W.codeIn K cd_kH "HeadsKind.keep" = true)
    (k_kH : PySem.W.keepIn K (.ref f_kH) = true)
    (a_TailsKind : PySem.W.nsIn K mainGlobals "TailsKind" = some (some (.ref C_TailsKind)))
    (mk_TailsKind : PySem.W.makesIn K C_TailsKind = true)
    (in_TailsKind : PySem.W.findIn K (.ref C_TailsKind) "__init__" = some (some (.builtin "object.__init__")))
    (tp_TailsKind : PySem.W.mroIn K C_TailsKind (.type "object") = some true)
    (kc_TailsKind : PySem.W.keepIn K (.ref C_TailsKind) = true)
    (pg_TailsKind : PySem.W.plainGet K C_TailsKind Str.empty = true)
    (hd_TailsKind : PySem.W.hasDictIn K C_TailsKind = true)
    (po_TailsKind : PySem.W.plainOver K C_TailsKind = true)
    (sa_TailsKind : PySem.W.findIn K (.ref C_TailsKind) "__setattr__" = some (some (.builtin "object.__setattr__")))
    (a_kT : PySem.W.findIn K (.ref C_TailsKind) "keep" = some (some (.ref f_kT)))
    (i_kT : PySem.W.isFn K (.ref f_kT) = true)
    (l_kT : K.lookup f_kT = some ⟨oc_kT, od_kT, .func (PySem.W.fnOf "keep" "TailsKind.keep" (defArgs sKeepT) (defBody sKeepT) (defScope sKeepT) .none kV_kT dc_kT pm_kT an_kT cd_kT ct_kT), sl_kT⟩)
    (c_kT : PySem.W.codeIn K cd_kT "TailsKind.keep" = true)
    (k_kT : PySem.W.keepIn K (.ref f_kT) = true)
    (p_Kind : PySem.W.findIn K (.ref C_Kind) "plain" = some (some (.ref f_pl)))
    (p_BagKind : PySem.W.findIn K (.ref C_BagKind) "plain" = some (some (.ref f_pl)))
    (p_SetKind : PySem.W.findIn K (.ref C_SetKind) "plain" = some (some (.ref f_pl)))
    (p_FirstKind : PySem.W.findIn K (.ref C_FirstKind) "plain" = some (some (.ref f_pl)))
    (p_LastKind : PySem.W.findIn K (.ref C_LastKind) "plain" = some (some (.ref f_pl)))
    (p_EndsKind : PySem.W.findIn K (.ref C_EndsKind) "plain" = some (some (.ref f_pl)))
    (p_HeadsKind : PySem.W.findIn K (.ref C_HeadsKind) "plain" = some (some (.ref f_pl)))
    (p_TailsKind : PySem.W.findIn K (.ref C_TailsKind) "plain" = some (some (.ref f_pl)))
    (i_pl : PySem.W.isFn K (.ref f_pl) = true)
    (l_pl : K.lookup f_pl = some ⟨oc_pl, od_pl, .func (PySem.W.fnOf "plain" "Kind.plain" (defArgs sPlainM) (defBody sPlainM) (defScope sPlainM) .none kV_pl dc_pl pm_pl an_pl cd_pl ct_pl), sl_pl⟩)
    (c_pl : PySem.W.codeIn K cd_pl "Kind.plain" = true)
    (k_pl : PySem.W.keepIn K (.ref f_pl) = true)
    (t_nK : K.lookup Pt = none)
    (t_cd : PySem.W.codeHdIn K cB Pt = true)
    (n_a : PySem.W.nsIn K mainGlobals "KIND_NAMES" = some (some (.ref kn)))
    (n_l : K.lookup kn = some ⟨.type "tuple", odN, .seq #[.str "list" t0, .str "bag" t1, .str "set" t2, .str "first" t3, .str "last" t4, .str "ends" t5, .str "heads" t6, .str "tails" t7] nN, slN⟩)
    (b_a : PySem.W.nsIn K mainGlobals "BadKind" = some (some (.ref CB)))
    (b_l : K.lookup CB = some (excClassObj nm q CB NB bs bm true sn sub ab col dd m0 m1 m2 m3 m5 "ValueError.__new__"))
    (b_v : PySem.HandSPX.refsVE bm = true)
    (b_sa : PySem.W.findIn K (.ref CB) "__setattr__" = some (some (.builtin "object.__setattr__")))
    (b_ex : PySem.W.subIn K (.ref CB) (.type "BaseException") = some true)
    (b_ty : PySem.W.typeIn K (.ref CB) = some (.type "type"))
    (b_k : PySem.W.keepIn K (.ref CB) = true)
    (b_i : PySem.W.findIn K (.ref CB) "__init__" = some (some (.ref f_i)))
    (b_it : PySem.W.typeIn K (.ref f_i) = some (.type "function"))
    (b_il : K.lookup f_i = some ⟨oc_i, od_i, .func (PySem.W.ksFn "__init__" "BadKind.__init__" (defArgs sIni) (defBody sIni) (defScope sIni) .none kV_i dc_i pm_i an_i (.ref c_i) ct_i cc), sl_i⟩)
    (b_ic : PySem.W.codeIn K (.ref c_i) "BadKind.__init__" = true)
    (b_cl : K.lookup c_i = some ⟨ccl, cdd, .fields vsC, ccs⟩)
    (b_cf : vsC[2]? = some (.str file tf))
    (b_fi : ((PySem.Challenge.rw_movedstates_k41_free_losses_exactly.prog.main.file : Str) == file) = true)
    (b_cc : K.lookup cc = some ⟨cl, cld, .cell (some (.ref CB)), csl⟩)
    (b_se : PySem.W.mroIn K CB (.ref CB) = some true)
    (b_ve : PySem.W.mroIn K CB (.type "ValueError") = some true)
    (b_op : PySem.W.nsIn K cStatics "thirdparty.any" = some none)
    (b_su : PySem.W.ks_superIn K CB CB "__init__" = some (some (.builtin "ValueError.__init__")))
    (b_cd : PySem.W.clsIn K CB = some cdB)
    (b_ga : PySem.W.findIn K (.ref CB) "__getattribute__" = some (some (.builtin "BaseException.__getattribute__")))
    (b_gt : PySem.W.findIn K (.ref CB) "__getattr__" = some none)
    (b_hd : PySem.W.hasDictIn K CB = true)
    (b_no : PySem.W.findIn K (.ref CB) "name" = some none)
    (b_ss : PySem.W.subIn K (.ref CB) (.ref CB) = some true) :
    LamX.LawAtS rwK w K CX0 8 63 "_law_script" mg fa h := by
  cases hfa.symm.trans (PySem.W.mg_of X G a_law)
  have B : Bi mg := ⟨PySem.W.mg_none_of X G z_len, PySem.W.mg_none_of X G z_range, PySem.W.mg_none_of X G z_enumerate, PySem.W.mg_none_of X G z_abs, PySem.W.mg_none_of X G z_int, PySem.W.mg_none_of X G z_list, PySem.W.mg_none_of X G z_tuple, PySem.W.mg_none_of X G z_sorted, PySem.W.mg_none_of X G z_isinstance, PySem.W.mg_none_of X G z_str, PySem.W.mg_none_of X G z_bool, PySem.W.mg_none_of X G z_super, PySem.W.mg_none_of X G z_ValueError⟩
  have F_w_stream := fun_mk (st := sStream) l_w_stream c_w_stream k_w_stream
  have b_w_stream := F_w_stream.binds (ps := ["_law_script"]) fun _ _ _ _ _ _ us hl => match us, hl with | [_], _ => rfl
  have F_w_draw := fun_mk (st := sDraw) l_w_draw c_w_draw k_w_draw
  have b_w_draw := F_w_draw.binds (ps := ["_law_stream_here", "_law_many"]) fun _ _ _ _ _ _ us hl => match us, hl with | [_, _], _ => rfl
  have F_w_wide := fun_mk (st := sWide) l_w_wide c_w_wide k_w_wide
  have b_w_wide := F_w_wide.binds (ps := ["_law_stream_here"]) fun _ _ _ _ _ _ us hl => match us, hl with | [_], _ => rfl
  have F_w_value := fun_mk (st := sValue) l_w_value c_w_value k_w_value
  have b_w_value := F_w_value.binds (ps := ["_law_stream_here", "_law_style"]) fun _ _ _ _ _ _ us hl => match us, hl with | [_, _], _ => rfl
  have F_w_word := fun_mk (st := sWord) l_w_word c_w_word k_w_word
  have b_w_word := F_w_word.binds (ps := ["_law_stream_here", "_law_size", "_law_style"]) fun _ _ _ _ _ _ us hl => match us, hl with | [_, _, _], _ => rfl
  have F_w_parcel := fun_mk (st := sParcel) l_w_parcel c_w_parcel k_w_parcel
  have b_w_parcel := F_w_parcel.binds (ps := ["_law_stream_here", "_law_style", "_law_shape", "_law_stem"]) fun _ _ _ _ _ _ us hl => match us, hl with | [_, _, _, _], _ => rfl
  have F_w_drawn := fun_mk (st := sDrawn) l_w_drawn c_w_drawn k_w_drawn
  have b_w_drawn := F_w_drawn.binds (ps := ["_law_stream_here", "_law_many", "_law_style"]) fun _ _ _ _ _ _ us hl => match us, hl with | [_, _, _], _ => rfl
  have F_w_around := fun_mk (st := sAround) l_w_around c_w_around k_w_around
  have b_w_around := F_w_around.binds (ps := ["_law_stream_here", "_law_style"]) fun _ _ _ _ _ _ us hl => match us, hl with | [_, _], _ => rfl
  have F_w_joined := fun_mk (st := sJoined) l_w_joined c_w_joined k_w_joined
  have b_w_joined := F_w_joined.binds (ps := ["_law_parcels"]) fun _ _ _ _ _ _ us hl => match us, hl with | [_], _ => rfl
  have F_w_plain := fun_mk (st := sPlain) l_w_plain c_w_plain k_w_plain
  have b_w_plain := F_w_plain.binds (ps := ["_law_kind", "_law_word_here"]) fun _ _ _ _ _ _ us hl => match us, hl with | [_, _], _ => rfl
  have F_w_new := fun_mk (st := sNew) l_w_new c_w_new k_w_new
  have b_w_new := F_w_new.binds (ps := ["_law_word_here", "_law_known"]) fun _ _ _ _ _ _ us hl => match us, hl with | [_, _], _ => rfl
  have F_w_rear := fun_mk (st := sRear) l_w_rear c_w_rear k_w_rear
  have b_w_rear := F_w_rear.binds (ps := ["_law_word_here", "_law_known"]) fun _ _ _ _ _ _ us hl => match us, hl with | [_, _], _ => rfl
  have F_w_spared := fun_mk (st := sSpared) l_w_spared c_w_spared k_w_spared
  have b_w_spared := F_w_spared.binds (ps := ["_law_kind", "_law_parcels", "_law_i", "_law_ahead", "_law_behind"]) fun _ _ _ _ _ _ us hl => match us, hl with | [_, _, _, _, _], _ => rfl
  have F_w_told := fun_mk (st := sTold) l_w_told c_w_told k_w_told
  have b_w_told := F_w_told.binds (ps := ["_law_form", "_law_kind", "_law_parcels", "_law_i", "_law_ahead", "_law_behind"]) fun _ _ _ _ _ _ us hl => match us, hl with | [_, _, _, _, _, _], _ => rfl
  have F_w_asked := fun_mk (st := sAsked) l_w_asked c_w_asked k_w_asked
  have b_w_asked := F_w_asked.binds (ps := ["_law_form", "_law_kind", "_law_parcels", "_law_i", "_law_ahead", "_law_behind"]) fun _ _ _ _ _ _ us hl => match us, hl with | [_, _, _, _, _, _], _ => rfl
  have F_w_undone := fun_mk (st := sUndone) l_w_undone c_w_undone k_w_undone
  have b_w_undone := F_w_undone.binds (ps := ["_law_kind", "_law_parcels", "_law_i", "_law_j", "_law_ahead", "_law_behind"]) fun _ _ _ _ _ _ us hl => match us, hl with | [_, _, _, _, _, _], _ => rfl
  have F_w_refused := fun_mk (st := sRef) l_w_refused c_w_refused k_w_refused
  have b_w_refused := F_w_refused.binds (ps := ["_law_name", "_law_parcels"]) fun _ _ _ _ _ _ us hl => match us, hl with | [_, _], _ => rfl
  have F_law := fun_mk (st := sLaw) l_law c_law k_law
  have b_law := F_law.binds (ps := ["_law_script"]) fun _ _ _ _ _ _ us hl => match us, hl with | [_], _ => rfl
  have F_least_places := fun_mk (st := sLeast) l_least_places c_least_places k_least_places
  have b_least_places := F_least_places.binds (ps := ["word"]) fun _ _ _ _ _ _ us hl => match us, hl with | [_], _ => rfl
  have F_greatest_places := fun_mk (st := sGreat) l_greatest_places c_greatest_places k_greatest_places
  have b_greatest_places := F_greatest_places.binds (ps := ["word"]) fun _ _ _ _ _ _ us hl => match us, hl with | [_], _ => rfl
  have F_kind_named := fun_mk (st := sKN) l_kind_named c_kind_named k_kind_named
  have b_kind_named := F_kind_named.binds (ps := ["name"]) fun _ _ _ _ _ _ us hl => match us, hl with | [_], _ => rfl
  have F_alike := fun_mk (st := sAl) l_alike c_alike k_alike
  have b_alike := F_alike.binds (ps := ["kind", "left", "right"]) fun _ _ _ _ _ _ us hl => match us, hl with | [_, _, _], _ => rfl
  have F_word_of := fun_mk (st := sWO) l_word_of c_word_of k_word_of
  have b_word_of := F_word_of.binds (ps := ["before", "parcels", "after"]) fun _ _ _ _ _ _ us hl => match us, hl with | [_, _, _], _ => rfl
  have F_kO := fun_mk (st := sKeepO) l_kO c_kO k_kO
  have b_kO := F_kO.binds (ps := ["self", "word"]) fun _ _ _ _ _ _ us hl => match us, hl with | [_, _], _ => rfl
  have cl_Kind : Cls K C_Kind := ⟨pg_Kind, hd_Kind, po_Kind, sa_Kind⟩
  have F_kB : FunC K "keep" "BagKind.keep" sKeepB f_kB _ cB := ⟨_, _, _, _, _, _, _, _, rfl, l_kB, c_kB⟩
  have F_kB2 := fun_mk (st := sKeepB) l_kB c_kB k_kB
  have b_kB := F_kB2.binds (ps := ["self", "word"]) fun _ _ _ _ _ _ us hl => match us, hl with | [_, _], _ => rfl
  have cl_BagKind : Cls K C_BagKind := ⟨pg_BagKind, hd_BagKind, po_BagKind, sa_BagKind⟩
  have F_kS := fun_mk (st := sKeepS) l_kS c_kS k_kS
  have b_kS := F_kS.binds (ps := ["self", "word"]) fun _ _ _ _ _ _ us hl => match us, hl with | [_, _], _ => rfl
  have cl_SetKind : Cls K C_SetKind := ⟨pg_SetKind, hd_SetKind, po_SetKind, sa_SetKind⟩
  have F_kF := fun_mk (st := sKeepF) l_kF c_kF k_kF
  have b_kF := F_kF.binds (ps := ["self", "word"]) fun _ _ _ _ _ _ us hl => match us, hl with | [_, _], _ => rfl
  have cl_FirstKind : Cls K C_FirstKind := ⟨pg_FirstKind, hd_FirstKind, po_FirstKind, sa_FirstKind⟩
  have F_kL := fun_mk (st := sKeepL) l_kL c_kL k_kL
  have b_kL := F_kL.binds (ps := ["self", "word"]) fun _ _ _ _ _ _ us hl => match us, hl with | [_, _], _ => rfl
  have cl_LastKind : Cls K C_LastKind := ⟨pg_LastKind, hd_LastKind, po_LastKind, sa_LastKind⟩
  have F_kE := fun_mk (st := sKeepE) l_kE c_kE k_kE
  have b_kE := F_kE.binds (ps := ["self", "word"]) fun _ _ _ _ _ _ us hl => match us, hl with | [_, _], _ => rfl
  have cl_EndsKind : Cls K C_EndsKind := ⟨pg_EndsKind, hd_EndsKind, po_EndsKind, sa_EndsKind⟩
  have F_kH := fun_mk (st := sKeepH) l_kH c_kH k_kH
  have b_kH := F_kH.binds (ps := ["self", "word"]) fun _ _ _ _ _ _ us hl => match us, hl with | [_, _], _ => rfl
  have cl_HeadsKind : Cls K C_HeadsKind := ⟨pg_HeadsKind, hd_HeadsKind, po_HeadsKind, sa_HeadsKind⟩
  have F_kT := fun_mk (st := sKeepT) l_kT c_kT k_kT
  have b_kT := F_kT.binds (ps := ["self", "word"]) fun _ _ _ _ _ _ us hl => match us, hl with | [_, _], _ => rfl
  have cl_TailsKind : Cls K C_TailsKind := ⟨pg_TailsKind, hd_TailsKind, po_TailsKind, sa_TailsKind⟩
  have F_pl := fun_mk (st := sPlainM) l_pl c_pl k_pl
  have b_pl := F_pl.binds (ps := ["self", "word"]) fun _ _ _ _ _ _ us hl => match us, hl with | [_, _], _ => rfl
  have tN : ∀ H : Hp, SqT K H kn kindNames := fun H => .inr ⟨_, _, _, n_l, rfl, rfl, by show 8 ≤ sizeLine; decide, .cons ⟨_, rfl⟩ (.cons ⟨_, rfl⟩ (.cons ⟨_, rfl⟩ (.cons ⟨_, rfl⟩ (.cons ⟨_, rfl⟩ (.cons ⟨_, rfl⟩ (.cons ⟨_, rfl⟩ (.cons ⟨_, rfl⟩ .nil)))))))⟩
  have OE : OexC K CB := ⟨⟨_, _, _, _, _, _, _, _, _, _, _, _, _, _, _, b_l, b_v⟩, b_sa, b_ex, b_ty, b_k⟩
  have U : SupK rwK.prog K f_i c_i cc CB := ⟨OE, ⟨_, _, _, _, _, _, b_cl, b_cf, b_fi⟩, ⟨_, _, _, b_cc⟩, by decide +kernel, b_se, b_ve, b_op, b_su, ⟨_, b_cd⟩⟩
  have RT : RTx K mg CB := ⟨PySem.W.mg_of X G b_a, ⟨b_ga, b_gt, b_ex, b_hd⟩, b_no, PySem.W.exm_ref b_ex b_hd b_ty b_ss⟩
  have m0 : ∀ k : Kd, Mk0 K (clsOf C_Kind C_BagKind C_SetKind C_FirstKind C_LastKind C_EndsKind C_HeadsKind C_TailsKind k) := fun k => by
    cases k
    · exact ⟨mk_Kind, in_Kind, tp_Kind, kc_Kind⟩
    · exact ⟨mk_BagKind, in_BagKind, tp_BagKind, kc_BagKind⟩
    · exact ⟨mk_SetKind, in_SetKind, tp_SetKind, kc_SetKind⟩
    · exact ⟨mk_FirstKind, in_FirstKind, tp_FirstKind, kc_FirstKind⟩
    · exact ⟨mk_LastKind, in_LastKind, tp_LastKind, kc_LastKind⟩
    · exact ⟨mk_EndsKind, in_EndsKind, tp_EndsKind, kc_EndsKind⟩
    · exact ⟨mk_HeadsKind, in_HeadsKind, tp_HeadsKind, kc_HeadsKind⟩
    · exact ⟨mk_TailsKind, in_TailsKind, tp_TailsKind, kc_TailsKind⟩
  have gC : ∀ k : Kd, mg k.cn = some (.ref (clsOf C_Kind C_BagKind C_SetKind C_FirstKind C_LastKind C_EndsKind C_HeadsKind C_TailsKind k)) := fun k => by
    cases k
    · exact PySem.W.mg_of X G a_Kind
    · exact PySem.W.mg_of X G a_BagKind
    · exact PySem.W.mg_of X G a_SetKind
    · exact PySem.W.mg_of X G a_FirstKind
    · exact PySem.W.mg_of X G a_LastKind
    · exact PySem.W.mg_of X G a_EndsKind
    · exact PySem.W.mg_of X G a_HeadsKind
    · exact PySem.W.mg_of X G a_TailsKind
  have FD_free_repeat : FunD K "free_repeat" "free_repeat" (defArgs sFR) (defBody sFR) (defScope sFR) [] [("before", .ref e1_free_repeat), ("after", .ref e2_free_repeat)] f_free_repeat _ := ⟨⟨_, _, _, _, _, _, _, _, _, _, rfl, l_free_repeat, c_free_repeat, .inl ⟨rfl, rfl⟩, .inr ⟨_, rfl, fun q hq => by
    rcases List.mem_cons.mp hq with rfl | hq
    · exact ⟨_, d1_free_repeat, rfl⟩
    · rw [List.mem_singleton.mp hq]
      exact ⟨_, d2_free_repeat, rfl⟩⟩⟩, k_free_repeat⟩
  have FF_free_repeat := fun_mk (st := sFR) l_free_repeat c_free_repeat k_free_repeat
  have t1_free_repeat : ∀ H : Hp, SqT K H e1_free_repeat [] := fun H => .inr ⟨_, _, _, x1_free_repeat, rfl, rfl, Nat.zero_le _, .nil⟩
  have t2_free_repeat : ∀ H : Hp, SqT K H e2_free_repeat [] := fun H => .inr ⟨_, _, _, x2_free_repeat, rfl, rfl, Nat.zero_le _, .nil⟩
  have FD_free_loss : FunD K "free_loss" "free_loss" (defArgs sFL) (defBody sFL) (defScope sFL) [] [("before", .ref e1_free_loss), ("after", .ref e2_free_loss)] f_free_loss _ := ⟨⟨_, _, _, _, _, _, _, _, _, _, rfl, l_free_loss, c_free_loss, .inl ⟨rfl, rfl⟩, .inr ⟨_, rfl, fun q hq => by
    rcases List.mem_cons.mp hq with rfl | hq
    · exact ⟨_, d1_free_loss, rfl⟩
    · rw [List.mem_singleton.mp hq]
      exact ⟨_, d2_free_loss, rfl⟩⟩⟩, k_free_loss⟩
  have FF_free_loss := fun_mk (st := sFL) l_free_loss c_free_loss k_free_loss
  have t1_free_loss : ∀ H : Hp, SqT K H e1_free_loss [] := fun H => .inr ⟨_, _, _, x1_free_loss, rfl, rfl, Nat.zero_le _, .nil⟩
  have t2_free_loss : ∀ H : Hp, SqT K H e2_free_loss [] := fun H => .inr ⟨_, _, _, x2_free_loss, rfl, rfl, Nat.zero_le _, .nil⟩
  refine ⟨PySem.W.fnOf "law" "law" (defArgs sLaw) (defBody sLaw) (defScope sLaw) .none kV_law dc_law pm_law an_law cd_law ct_law, [(cB, Pt)], spLaw K [(Pt, lamQ)], fun p hp => by rw [List.mem_singleton.mp hp]; exact hPt, fun p hp => by rw [List.mem_singleton.mp hp]; exact t_nK, fun p hp => by rw [List.mem_singleton.mp hp]; exact PySem.W.codeHd_of_K X t_cd, fun s u => .of_eq rfl, fun H a ns hl _ hH hS => ⟨a, ns, rfl, hS, hl, fun p hp => by rw [List.mem_singleton.mp hp]; exact LamX.TabS.nil (hH (cB, Pt) (List.mem_singleton.mpr rfl)), fun _ => rfl⟩, fun base KB GB TB => ?_⟩
  have TBb := TB (cB, Pt) (List.mem_singleton.mpr rfl)
  have c_least_placesx : CalX CX0 rwK.prog w K mg base 1 "least_places" (spLeast K) := cal_of F_least_places (PySem.W.mg_of X G a_least_places) b_least_places (ok_least F_least_places B)
  have c_greatest_placesx : CalX CX0 rwK.prog w K mg base 1 "greatest_places" (spGreat K) := cal_of F_greatest_places (PySem.W.mg_of X G a_greatest_places) b_greatest_places (ok_great F_greatest_places B)
  have mKeep : ∀ k : Kd, MetX CX0 rwK.prog w K mg base 2 (clsOf C_Kind C_BagKind C_SetKind C_FirstKind C_LastKind C_EndsKind C_HeadsKind C_TailsKind k) "keep" (spKeep K [(Pt, lamQ)] k) := fun k => by
    cases k
    · exact ⟨_, _, _, cl_Kind, ⟨a_kO, i_kO, k_kO⟩, ok_keepO F_kO B, b_kO⟩
    · exact ⟨_, _, _, cl_BagKind, ⟨a_kB, i_kB, k_kB⟩, ok_keepB F_kB B TBb, b_kB⟩
    · exact ⟨_, _, _, cl_SetKind, ⟨a_kS, i_kS, k_kS⟩, ok_keepS F_kS B c_least_placesx, b_kS⟩
    · exact ⟨_, _, _, cl_FirstKind, ⟨a_kF, i_kF, k_kF⟩, ok_keepF F_kF B, b_kF⟩
    · exact ⟨_, _, _, cl_LastKind, ⟨a_kL, i_kL, k_kL⟩, ok_keepL F_kL B, b_kL⟩
    · exact ⟨_, _, _, cl_EndsKind, ⟨a_kE, i_kE, k_kE⟩, ok_keepE F_kE B, b_kE⟩
    · exact ⟨_, _, _, cl_HeadsKind, ⟨a_kH, i_kH, k_kH⟩, ok_keepH F_kH B c_least_placesx, b_kH⟩
    · exact ⟨_, _, _, cl_TailsKind, ⟨a_kT, i_kT, k_kT⟩, ok_keepT F_kT B c_greatest_placesx, b_kT⟩
  have mPlain : ∀ k : Kd, MetX CX0 rwK.prog w K mg base 3 (clsOf C_Kind C_BagKind C_SetKind C_FirstKind C_LastKind C_EndsKind C_HeadsKind C_TailsKind k) "plain" (spPlainM K (clsOf C_Kind C_BagKind C_SetKind C_FirstKind C_LastKind C_EndsKind C_HeadsKind C_TailsKind) [(Pt, lamQ)] k) := fun k => by
    have kk := ok_plainM (cls := clsOf C_Kind C_BagKind C_SetKind C_FirstKind C_LastKind C_EndsKind C_HeadsKind C_TailsKind) F_pl B k (mKeep k)
    cases k
    · exact ⟨_, _, _, cl_Kind, ⟨p_Kind, i_pl, k_pl⟩, kk, b_pl⟩
    · exact ⟨_, _, _, cl_BagKind, ⟨p_BagKind, i_pl, k_pl⟩, kk, b_pl⟩
    · exact ⟨_, _, _, cl_SetKind, ⟨p_SetKind, i_pl, k_pl⟩, kk, b_pl⟩
    · exact ⟨_, _, _, cl_FirstKind, ⟨p_FirstKind, i_pl, k_pl⟩, kk, b_pl⟩
    · exact ⟨_, _, _, cl_LastKind, ⟨p_LastKind, i_pl, k_pl⟩, kk, b_pl⟩
    · exact ⟨_, _, _, cl_EndsKind, ⟨p_EndsKind, i_pl, k_pl⟩, kk, b_pl⟩
    · exact ⟨_, _, _, cl_HeadsKind, ⟨p_HeadsKind, i_pl, k_pl⟩, kk, b_pl⟩
    · exact ⟨_, _, _, cl_TailsKind, ⟨p_TailsKind, i_pl, k_pl⟩, kk, b_pl⟩
  have KT : KTx rwK.prog w K mg base (clsOf C_Kind C_BagKind C_SetKind C_FirstKind C_LastKind C_EndsKind C_HeadsKind C_TailsKind) CB := ⟨m0, gC, ⟨kn, PySem.W.mg_of X G n_a, tN⟩, OE, PySem.W.mg_of X G b_a, ⟨f_i, _, b_i, b_it, ok_bini b_il b_ic U B.super b_no, bind_bini⟩⟩
  have c_kind_namedx : CalX (L2.CX rwK.prog w) rwK.prog w K mg base 3 "kind_named" (spKN (clsOf C_Kind C_BagKind C_SetKind C_FirstKind C_LastKind C_EndsKind C_HeadsKind C_TailsKind) CB) := cal_of F_kind_named (PySem.W.mg_of X G a_kind_named) b_kind_named (ok_kn F_kind_named B KT)
  have c_alikex : CalX (L2.CX rwK.prog w) rwK.prog w K mg base 4 "alike" (spAl K [(Pt, lamQ)] CB) := cal_of F_alike (PySem.W.mg_of X G a_alike) b_alike (ok_al F_alike B c_kind_namedx mPlain)
  have c_w_streamx : CalX CX0 rwK.prog w K mg base 1 "_law_stream" (spStream K) := cal_of F_w_stream (PySem.W.mg_of X G a_w_stream) b_w_stream (ok_stream F_w_stream B)
  have c_w_drawx : CalX CX0 rwK.prog w K mg base 1 "_law_draw" spDraw := cal_of F_w_draw (PySem.W.mg_of X G a_w_draw) b_w_draw (ok_draw F_w_draw B)
  have c_w_widex : CalX CX0 rwK.prog w K mg base 2 "_law_wide" spWide := cal_of F_w_wide (PySem.W.mg_of X G a_w_wide) b_w_wide (ok_wide F_w_wide B c_w_drawx)
  have c_w_valuex : CalX CX0 rwK.prog w K mg base 3 "_law_value" spValue := cal_of F_w_value (PySem.W.mg_of X G a_w_value) b_w_value (ok_value F_w_value B c_w_drawx c_w_widex)
  have c_w_wordx : CalX CX0 rwK.prog w K mg base 4 "_law_word" spWord := cal_of F_w_word (PySem.W.mg_of X G a_w_word) b_w_word (ok_word F_w_word B c_w_valuex)
  have c_w_plainx : CalX CX0 rwK.prog w K mg base 1 "_law_plain" (spPlain K) := cal_of F_w_plain (PySem.W.mg_of X G a_w_plain) b_w_plain (ok_plain F_w_plain B)
  have c_w_parcelx : CalX CX0 rwK.prog w K mg base 5 "_law_parcel" spParcel := cal_of F_w_parcel (PySem.W.mg_of X G a_w_parcel) b_w_parcel (ok_parcel F_w_parcel B (PySem.W.mg_none_of X G z_min) c_w_drawx c_w_wordx)
  have c_w_drawnx : CalX CX0 rwK.prog w K mg base 6 "_law_drawn" spDrawn := cal_of F_w_drawn (PySem.W.mg_of X G a_w_drawn) b_w_drawn (ok_drawn F_w_drawn B c_w_drawx c_w_wordx c_w_parcelx)
  have c_w_aroundx : CalX CX0 rwK.prog w K mg base 5 "_law_around" spAround := cal_of F_w_around (PySem.W.mg_of X G a_w_around) b_w_around (ok_around F_w_around B c_w_drawx c_w_wordx)
  have c_w_joinedx : CalX CX0 rwK.prog w K mg base 1 "_law_joined" spJoined := cal_of F_w_joined (PySem.W.mg_of X G a_w_joined) b_w_joined (ok_joined F_w_joined B)
  have c_w_newx : CalX CX0 rwK.prog w K mg base 1 "_law_new" spNew := cal_of F_w_new (PySem.W.mg_of X G a_w_new) b_w_new (ok_new F_w_new B)
  have c_w_rearx : CalX CX0 rwK.prog w K mg base 2 "_law_rear" spRear := cal_of F_w_rear (PySem.W.mg_of X G a_w_rear) b_w_rear (ok_rear F_w_rear B c_w_newx)
  have c_w_sparedx : CalX CX0 rwK.prog w K mg base 3 "_law_spared" spSpared := cal_of F_w_spared (PySem.W.mg_of X G a_w_spared) b_w_spared (ok_spared F_w_spared B (PySem.W.mg_none_of X G z_all) c_w_joinedx c_w_newx c_w_rearx)
  have c_word_ofx : CalX CX0 rwK.prog w K mg base 1 "word_of" (spWO K) := cal_of F_word_of (PySem.W.mg_of X G a_word_of) b_word_of (ok_wo F_word_of B)
  have kFR : KwX rwK.prog w K mg base 5 "free_repeat" (spFR K [(Pt, lamQ)] CB) 4 e1_free_repeat e2_free_repeat := kwx_mk FD_free_repeat (ok_fr FF_free_repeat B c_word_ofx c_alikex) (PySem.W.mg_of X G a_free_repeat) t1_free_repeat t2_free_repeat
  have kFL : KwX rwK.prog w K mg base 5 "free_loss" (spFL K [(Pt, lamQ)] CB) 3 e1_free_loss e2_free_loss := kwl_mk FD_free_loss (ok_fl FF_free_loss B c_word_ofx c_alikex) (PySem.W.mg_of X G a_free_loss) t1_free_loss t2_free_loss
  have c_w_toldx : CalX CX0 rwK.prog w K mg base 6 "_law_told" (spTold K [(Pt, lamQ)]) := cal_of F_w_told (PySem.W.mg_of X G a_w_told) b_w_told (ok_told F_w_told B kFL)
  have c_w_askedx : CalX CX0 rwK.prog w K mg base 7 "_law_asked" (spAsked K [(Pt, lamQ)]) := cal_of F_w_asked (PySem.W.mg_of X G a_w_asked) b_w_asked (ok_asked F_w_asked B c_w_joinedx c_w_plainx c_w_sparedx c_w_toldx)
  have c_w_undonex : CalX CX0 rwK.prog w K mg base 6 "_law_undone" (spUndone K [(Pt, lamQ)]) := cal_of F_w_undone (PySem.W.mg_of X G a_w_undone) b_w_undone (ok_undone F_w_undone B kFL kFR)
  have c_w_refusedx : CalX CX0 rwK.prog w K mg base 6 "_law_refused" spRef := cal_of F_w_refused (PySem.W.mg_of X G a_w_refused) b_w_refused (ok_ref F_w_refused B RT kFL)
  exact ok_law F_law B (PySem.W.mg_none_of X G z_all) c_w_streamx c_w_drawx c_w_drawnx c_w_aroundx c_w_askedx c_w_undonex c_w_refusedx
end Mv

set_option Elab.async false
open PySem PySem.W PyProof.Rows
set_option maxRecDepth 100000 in
set_option maxHeartbeats 0 in
theorem PySem.Challenge.cw_movedstates_k41_free_losses_exactly_holds : PySem.Challenge.rw_movedstates_k41_free_losses_exactly.Holds := by
  w_on; o_law; k_head; (case hw => w_witness2)
  k_fill
  refine LamX.walk_ofTs (l := PySem.Challenge.rw_movedstates_k41_free_losses_exactly) (n := 63) (k := 8) (x := "_law_script") (CX := fun _ => L2.CX0) rfl (by decide) rfl ⟨rfl, by decide, by decide⟩ (fun w h Y => km_in_of Y) ?F (fun _ _ _ _ _ z => z)
  case F =>
    intro w mg fa h Y KX G hmg
    have TP := km_tabs_of Y
    refine' Mv.all_mk KX G hmg ?hPt ?z_len ?z_range ?z_enumerate ?z_abs ?z_int ?z_list ?z_tuple ?z_sorted ?z_isinstance ?z_str ?z_bool ?z_super ?z_ValueError ?z_min ?z_all ?a_w_stream ?l_w_stream ?c_w_stream ?k_w_stream ?a_w_draw ?l_w_draw ?c_w_draw ?k_w_draw ?a_w_wide ?l_w_wide ?c_w_wide ?k_w_wide ?a_w_value ?l_w_value ?c_w_value ?k_w_value ?a_w_word ?l_w_word ?c_w_word ?k_w_word ?a_w_parcel ?l_w_parcel ?c_w_parcel ?k_w_parcel ?a_w_drawn ?l_w_drawn ?c_w_drawn ?k_w_drawn ?a_w_around ?l_w_around ?c_w_around ?k_w_around ?a_w_joined ?l_w_joined ?c_w_joined ?k_w_joined ?a_w_plain ?l_w_plain ?c_w_plain ?k_w_plain ?a_w_new ?l_w_new ?c_w_new ?k_w_new ?a_w_rear ?l_w_rear ?c_w_rear ?k_w_rear ?a_w_spared ?l_w_spared ?c_w_spared ?k_w_spared ?a_w_told ?l_w_told ?c_w_told ?k_w_told ?a_w_asked ?l_w_asked ?c_w_asked ?k_w_asked ?a_w_undone ?l_w_undone ?c_w_undone ?k_w_undone ?a_w_refused ?l_w_refused ?c_w_refused ?k_w_refused ?a_law ?l_law ?c_law ?k_law ?a_least_places ?l_least_places ?c_least_places ?k_least_places ?a_greatest_places ?l_greatest_places ?c_greatest_places ?k_greatest_places ?a_kind_named ?l_kind_named ?c_kind_named ?k_kind_named ?a_alike ?l_alike ?c_alike ?k_alike ?a_word_of ?l_word_of ?c_word_of ?k_word_of ?a_free_repeat ?l_free_repeat ?c_free_repeat ?k_free_repeat ?d1_free_repeat ?d2_free_repeat ?x1_free_repeat ?x2_free_repeat ?a_free_loss ?l_free_loss ?c_free_loss ?k_free_loss ?d1_free_loss ?d2_free_loss ?x1_free_loss ?x2_free_loss ?a_Kind ?mk_Kind ?in_Kind ?tp_Kind ?kc_Kind ?pg_Kind ?hd_Kind ?po_Kind ?sa_Kind ?a_kO ?i_kO ?l_kO ?c_kO ?k_kO ?a_BagKind ?mk_BagKind ?in_BagKind ?tp_BagKind ?kc_BagKind ?pg_BagKind ?hd_BagKind ?po_BagKind ?sa_BagKind ?a_kB ?i_kB ?l_kB ?c_kB ?k_kB ?a_SetKind ?mk_SetKind ?in_SetKind ?tp_SetKind ?kc_SetKind ?pg_SetKind ?hd_SetKind ?po_SetKind ?sa_SetKind ?a_kS ?i_kS ?l_kS ?c_kS ?k_kS ?a_FirstKind ?mk_FirstKind ?in_FirstKind ?tp_FirstKind ?kc_FirstKind ?pg_FirstKind ?hd_FirstKind ?po_FirstKind ?sa_FirstKind ?a_kF ?i_kF ?l_kF ?c_kF ?k_kF ?a_LastKind ?mk_LastKind ?in_LastKind ?tp_LastKind ?kc_LastKind ?pg_LastKind ?hd_LastKind ?po_LastKind ?sa_LastKind ?a_kL ?i_kL ?l_kL ?c_kL ?k_kL ?a_EndsKind ?mk_EndsKind ?in_EndsKind ?tp_EndsKind ?kc_EndsKind ?pg_EndsKind ?hd_EndsKind ?po_EndsKind ?sa_EndsKind ?a_kE ?i_kE ?l_kE ?c_kE ?k_kE ?a_HeadsKind ?mk_HeadsKind ?in_HeadsKind ?tp_HeadsKind ?kc_HeadsKind ?pg_HeadsKind ?hd_HeadsKind ?po_HeadsKind ?sa_HeadsKind ?a_kH ?i_kH ?l_kH ?c_kH ?k_kH ?a_TailsKind ?mk_TailsKind ?in_TailsKind ?tp_TailsKind ?kc_TailsKind ?pg_TailsKind ?hd_TailsKind ?po_TailsKind ?sa_TailsKind ?a_kT ?i_kT ?l_kT ?c_kT ?k_kT ?p_Kind ?p_BagKind ?p_SetKind ?p_FirstKind ?p_LastKind ?p_EndsKind ?p_HeadsKind ?p_TailsKind ?i_pl ?l_pl ?c_pl ?k_pl ?t_nK ?t_cd ?n_a ?n_l ?b_a ?b_l ?b_v ?b_sa ?b_ex ?b_ty ?b_k ?b_i ?b_it ?b_il ?b_ic ?b_cl ?b_cf ?b_fi ?b_cc ?b_se ?b_ve ?b_op ?b_su ?b_cd ?b_ga ?b_gt ?b_hd ?b_no ?b_ss
    (case hPt => exact TP _ (List.mem_singleton.mpr rfl))
    (case z_len => k_is)
    (case z_range => k_is)
    (case z_enumerate => k_is)
    (case z_abs => k_is)
    (case z_int => k_is)
    (case z_list => k_is)
    (case z_tuple => k_is)
    (case z_sorted => k_is)
    (case z_isinstance => k_is)
    (case z_str => k_is)
    (case z_bool => k_is)
    (case z_super => k_is)
    (case z_ValueError => k_is)
    (case z_min => k_is)
    (case z_all => k_is)
    (case a_w_stream => k_is)
    (case l_w_stream => k_is)
    (case c_w_stream => k_is)
    (case k_w_stream => k_is)
    (case a_w_draw => k_is)
    (case l_w_draw => k_is)
    (case c_w_draw => k_is)
    (case k_w_draw => k_is)
    (case a_w_wide => k_is)
    (case l_w_wide => k_is)
    (case c_w_wide => k_is)
    (case k_w_wide => k_is)
    (case a_w_value => k_is)
    (case l_w_value => k_is)
    (case c_w_value => k_is)
    (case k_w_value => k_is)
    (case a_w_word => k_is)
    (case l_w_word => k_is)
    (case c_w_word => k_is)
    (case k_w_word => k_is)
    (case a_w_parcel => k_is)
    (case l_w_parcel => k_is)
    (case c_w_parcel => k_is)
    (case k_w_parcel => k_is)
    (case a_w_drawn => k_is)
    (case l_w_drawn => k_is)
    (case c_w_drawn => k_is)
    (case k_w_drawn => k_is)
    (case a_w_around => k_is)
    (case l_w_around => k_is)
    (case c_w_around => k_is)
    (case k_w_around => k_is)
    (case a_w_joined => k_is)
    (case l_w_joined => k_is)
    (case c_w_joined => k_is)
    (case k_w_joined => k_is)
    (case a_w_plain => k_is)
    (case l_w_plain => k_is)
    (case c_w_plain => k_is)
    (case k_w_plain => k_is)
    (case a_w_new => k_is)
    (case l_w_new => k_is)
    (case c_w_new => k_is)
    (case k_w_new => k_is)
    (case a_w_rear => k_is)
    (case l_w_rear => k_is)
    (case c_w_rear => k_is)
    (case k_w_rear => k_is)
    (case a_w_spared => k_is)
    (case l_w_spared => k_is)
    (case c_w_spared => k_is)
    (case k_w_spared => k_is)
    (case a_w_told => k_is)
    (case l_w_told => k_is)
    (case c_w_told => k_is)
    (case k_w_told => k_is)
    (case a_w_asked => k_is)
    (case l_w_asked => k_is)
    (case c_w_asked => k_is)
    (case k_w_asked => k_is)
    (case a_w_undone => k_is)
    (case l_w_undone => k_is)
    (case c_w_undone => k_is)
    (case k_w_undone => k_is)
    (case a_w_refused => k_is)
    (case l_w_refused => k_is)
    (case c_w_refused => k_is)
    (case k_w_refused => k_is)
    (case a_law => k_is)
    (case l_law => k_is)
    (case c_law => k_is)
    (case k_law => k_is)
    (case a_least_places => k_is)
    (case l_least_places => k_is)
    (case c_least_places => k_is)
    (case k_least_places => k_is)
    (case a_greatest_places => k_is)
    (case l_greatest_places => k_is)
    (case c_greatest_places => k_is)
    (case k_greatest_places => k_is)
    (case a_kind_named => k_is)
    (case l_kind_named => k_is)
    (case c_kind_named => k_is)
    (case k_kind_named => k_is)
    (case a_alike => k_is)
    (case l_alike => k_is)
    (case c_alike => k_is)
    (case k_alike => k_is)
    (case a_word_of => k_is)
    (case l_word_of => k_is)
    (case c_word_of => k_is)
    (case k_word_of => k_is)
    (case a_free_repeat => k_is)
    (case l_free_repeat => k_is)
    (case c_free_repeat => k_is)
    (case k_free_repeat => k_is)
    (case d1_free_repeat => k_is)
    (case d2_free_repeat => k_is)
    (case x1_free_repeat => k_is)
    (case x2_free_repeat => k_is)
    (case a_free_loss => k_is)
    (case l_free_loss => k_is)
    (case c_free_loss => k_is)
    (case k_free_loss => k_is)
    (case d1_free_loss => k_is)
    (case d2_free_loss => k_is)
    (case x1_free_loss => k_is)
    (case x2_free_loss => k_is)
    (case a_Kind => k_is)
    (case mk_Kind => k_is)
    (case in_Kind => k_is)
    (case tp_Kind => k_is)
    (case kc_Kind => k_is)
    (case pg_Kind => k_is)
    (case hd_Kind => k_is)
    (case po_Kind => k_is)
    (case sa_Kind => k_is)
    (case a_kO => k_is)
    (case i_kO => k_is)
    (case l_kO => k_is)
    (case c_kO => k_is)
    (case k_kO => k_is)
    (case a_BagKind => k_is)
    (case mk_BagKind => k_is)
    (case in_BagKind => k_is)
    (case tp_BagKind => k_is)
    (case kc_BagKind => k_is)
    (case pg_BagKind => k_is)
    (case hd_BagKind => k_is)
    (case po_BagKind => k_is)
    (case sa_BagKind => k_is)
    (case a_kB => k_is)
    (case i_kB => k_is)
    (case l_kB => k_is)
    (case c_kB => k_is)
    (case k_kB => k_is)
    (case a_SetKind => k_is)
    (case mk_SetKind => k_is)
    (case in_SetKind => k_is)
    (case tp_SetKind => k_is)
    (case kc_SetKind => k_is)
    (case pg_SetKind => k_is)
    (case hd_SetKind => k_is)
    (case po_SetKind => k_is)
    (case sa_SetKind => k_is)
    (case a_kS => k_is)
    (case i_kS => k_is)
    (case l_kS => k_is)
    (case c_kS => k_is)
    (case k_kS => k_is)
    (case a_FirstKind => k_is)
    (case mk_FirstKind => k_is)
    (case in_FirstKind => k_is)
    (case tp_FirstKind => k_is)
    (case kc_FirstKind => k_is)
    (case pg_FirstKind => k_is)
    (case hd_FirstKind => k_is)
    (case po_FirstKind => k_is)
    (case sa_FirstKind => k_is)
    (case a_kF => k_is)
    (case i_kF => k_is)
    (case l_kF => k_is)
    (case c_kF => k_is)
    (case k_kF => k_is)
    (case a_LastKind => k_is)
    (case mk_LastKind => k_is)
    (case in_LastKind => k_is)
    (case tp_LastKind => k_is)
    (case kc_LastKind => k_is)
    (case pg_LastKind => k_is)
    (case hd_LastKind => k_is)
    (case po_LastKind => k_is)
    (case sa_LastKind => k_is)
    (case a_kL => k_is)
    (case i_kL => k_is)
    (case l_kL => k_is)
    (case c_kL => k_is)
    (case k_kL => k_is)
    (case a_EndsKind => k_is)
    (case mk_EndsKind => k_is)
    (case in_EndsKind => k_is)
    (case tp_EndsKind => k_is)
    (case kc_EndsKind => k_is)
    (case pg_EndsKind => k_is)
    (case hd_EndsKind => k_is)
    (case po_EndsKind => k_is)
    (case sa_EndsKind => k_is)
    (case a_kE => k_is)
    (case i_kE => k_is)
    (case l_kE => k_is)
    (case c_kE => k_is)
    (case k_kE => k_is)
    (case a_HeadsKind => k_is)
    (case mk_HeadsKind => k_is)
    (case in_HeadsKind => k_is)
    (case tp_HeadsKind => k_is)
    (case kc_HeadsKind => k_is)
    (case pg_HeadsKind => k_is)
    (case hd_HeadsKind => k_is)
    (case po_HeadsKind => k_is)
    (case sa_HeadsKind => k_is)
    (case a_kH => k_is)
    (case i_kH => k_is)
    (case l_kH => k_is)
    (case c_kH => k_is)
    (case k_kH => k_is)
    (case a_TailsKind => k_is)
    (case mk_TailsKind => k_is)
    (case in_TailsKind => k_is)
    (case tp_TailsKind => k_is)
    (case kc_TailsKind => k_is)
    (case pg_TailsKind => k_is)
    (case hd_TailsKind => k_is)
    (case po_TailsKind => k_is)
    (case sa_TailsKind => k_is)
    (case a_kT => k_is)
    (case i_kT => k_is)
    (case l_kT => k_is)
    (case c_kT => k_is)
    (case k_kT => k_is)
    (case p_Kind => k_is)
    (case p_BagKind => k_is)
    (case p_SetKind => k_is)
    (case p_FirstKind => k_is)
    (case p_LastKind => k_is)
    (case p_EndsKind => k_is)
    (case p_HeadsKind => k_is)
    (case p_TailsKind => k_is)
    (case i_pl => k_is)
    (case l_pl => k_is)
    (case c_pl => k_is)
    (case k_pl => k_is)
    (case t_nK => first | exact rfl | kernel_rfl | decide +kernel)
    (case t_cd => first | exact rfl | kernel_rfl | decide +kernel)
    (case n_a => k_is)
    (case n_l => k_is)
    (case b_a => k_is)
    (case b_l => k_is)
    (case b_v => decide +kernel)
    (case b_sa => k_is)
    (case b_ex => k_is)
    (case b_ty => k_is)
    (case b_k => k_is)
    (case b_i => k_is)
    (case b_it => k_is)
    (case b_il => k_is)
    (case b_ic => k_is)
    (case b_cl => k_is)
    (case b_cf => rfl)
    (case b_fi => first | rfl | decide +kernel)
    (case b_cc => k_is)
    (case b_se => k_is)
    (case b_ve => k_is)
    (case b_op => k_is)
    (case b_su => first | k_is | rfl | decide +kernel)
    (case b_cd => k_is)
    (case b_ga => k_is)
    (case b_gt => k_is)
    (case b_hd => k_is)
    (case b_no => k_is)
    (case b_ss => k_is)

