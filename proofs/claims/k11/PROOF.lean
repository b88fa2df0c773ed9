import PyProof.Rows.All
import Wide.All
import OpenK.AllK
import Wide.FinOn
import PySem.Challenge.RW_movedstates_k11_a_row_with_holes
import HandS.Base
import HandS.Call
import HandS.List
import HandS.Comp
import HandS.Ends
import HandS.Dict
import HandS.Iter
import HandS.Text
import HandS.More
import HandS.Words
import HandS.WordsList
import HandS.Wide
import HandS.SortInts
import HandS.DictComp
import HandS.Walk
import HandS.Exc
import HandS.ExcOwn
import HandS.TryOnly
import HandS.WordsExc
import HandS.IsInst
import HandS.ExcIs
import HandS.ExcInit
import HandS.SetKeys
import HandS.Style
import HandS.Conv
import HandS.FStr
import KE.KDictSum
import KE.KDictList
import PyProof.TupleOfSeq
import PyProof.DictValues
import KE.GoesEnum
import KE.GoesMore
import KE.SortKeyHeap
import HandS.Lambda
import HandS.SortKw
import HandS.TupAny
import KE.KExcSuper
import KE.KSuper
import HandS.FStrTup
import HandS.ExcSuper
import HandS.ExcField
import KE.KExcIs
import KE.KEqSeq
import KE.LtData
import HandS.Deep
import HandS.SortRule
import HandS.CallSlots
import PyProof.P3Eq
import HandS.EndTab
import KE.KNestM
set_option Elab.async false
set_option linter.all false
set_option maxRecDepth 100000
set_option maxHeartbeats 4000000
namespace Mv
open PySem PySem.Spec PyProof.Rows L2
/-! ### calls by their promises -/
/-- a def that may be called by its name -/
structure CalX (CX : CXT) (P : Program) (w : World) (K : PySem.W.Frag) (mg : Str → Option Value) (base : Heap) (k : Nat) (x : Str) (sp : Sp) : Prop where
  ex : ∃ (f : Addr) (fd : FuncData) (ps : List Str), FnOk P w K mg base CX k f fd ps sp ∧ mg x = some (.ref f) ∧ PySem.W.keepIn K (.ref f) = true ∧ Binds K fd ps []
/-- a method of the class at C -/
structure MetX (CX : CXT) (P : Program) (w : World) (K : PySem.W.Frag) (mg : Str → Option Value) (base : Heap) (k : Nat) (C : Addr) (m : Str) (sp : Sp) : Prop where
  ex : ∃ (f : Addr) (fd : FuncData) (ps : List Str), Cls K C ∧ Meth K C m f ∧ FnOk P w K mg base CX k f fd ps sp ∧ Binds K fd ps []
section
variable {X : Cx} {CX : CXT} {k j : Nat} {C : Addr} {x m : Str} {sp : Sp} {E : XK} {p pos apos : Pos} {e o : Expr} {es : List Expr} {ta : TE} {t : TA}
theorem pe_cx (c : CalX CX X.prog X.w X.K X.mg X.base k x sp) (hr : Room j X.A) (hk : k ≤ j) (hx : Passes CX X E) (hg : Gl X x) (ha : PA X (e :: es) t)
    (hdb : (x == ("__debug__" : Str)) = false := by decide) (he : starEach (e :: es) X.env = (false, eval e X.env) :: starEach es X.env := by rfl) (hpl : (backTo pos (starEach es X.env)).any (·.1) = false := by rfl) :
    PE X (.Call (.Name x p) (e :: es) [] pos) (tCall sp [] E t) := by
  obtain ⟨f, fd, ps, F, hm, kp, b⟩ := c.ex
  exact pe_call F (hr.mono hk) hg hm kp b .nil hx ha hdb he hpl
theorem pe_mx {pl : Sem Bool} (c : MetX CX X.prog X.w X.K X.mg X.base k C m sp) (hr : Room j X.A) (hk : k ≤ j) (hx : Passes CX X E) (he : PE X o ta) (ha : PA X (e :: es) t)
    (hst : starEach (e :: es) X.env = (false, eval e X.env) :: starEach es X.env := by rfl) (hpl : (backTo pos (starEach es X.env)).any (·.1) = false := by rfl)
    (ht : eval (.Call (.Attribute o m apos) (e :: es) [] pos) X.env = (do
      let ov ← eval o X.env
      standAt apos.atName
      let (f, first) ← holding [ov] (getMethod ov m pl)
      callWith pos f first (backTo pos (starEach (e :: es) X.env)) (backToKw pos (keywordEach [] X.env))) := by rfl) :
    PE X (.Call (.Attribute o m apos) (e :: es) [] pos) (tMeth C m sp [] E ta t) := by
  obtain ⟨f, fd, ps, hc, hm, F, b⟩ := c.ex
  exact pe_meth (pl := pl) he hc hm F (hr.mono hk) b .nil hx ha hst hpl ht
theorem pe_mx0 {pl : Sem Bool} (c : MetX CX X.prog X.w X.K X.mg X.base k C m sp) (hr : Room j X.A) (hk : k ≤ j) (hx : Passes CX X E) (he : PE X o ta)
    (ht : eval (.Call (.Attribute o m apos) [] [] pos) X.env = (do
      let ov ← eval o X.env
      standAt apos.atName
      let (f, first) ← holding [ov] (getMethod ov m pl)
      callWith pos f first (backTo pos (starEach [] X.env)) (backToKw pos (keywordEach [] X.env))) := by rfl) :
    PE X (.Call (.Attribute o m apos) [] [] pos) (tMeth C m sp [] E ta tNil) := by
  obtain ⟨f, fd, ps, hc, hm, F, b⟩ := c.ex
  exact pe_meth0 (pl := pl) he hc hm F (hr.mono hk) b .nil hx ht
end
/-- a def of the module, as the top leaves it -/
structure DefX (K : PySem.W.Frag) (mg : Str → Option Value) (x : Str) (st : Stmt) (ps : List Str) : Prop where
  ex : ∃ (f : Addr) (fd : FuncData), Fun K x x st f fd ∧ mg x = some (.ref f) ∧ Binds K fd ps []
theorem DefX.cal {P : Program} {w : World} {K : PySem.W.Frag} {mg : Str → Option Value} {base : Heap} {CX : CXT} {k : Nat} {x : Str} {st : Stmt} {ps : List Str} {sp : Sp} (D : DefX K mg x st ps)
    (h : ∀ f fd, Fun K x x st f fd → FnOk P w K mg base CX k f fd ps sp) : CalX CX P w K mg base k x sp := by
  obtain ⟨f, fd, F, hm, b⟩ := D.ex
  exact ⟨f, fd, ps, h f fd F, hm, F.kp, b⟩
/-! ### the built-in names that stay -/
structure Bi (mg : Str → Option Value) : Prop where
  len : mg "len" = none
  range : mg "range" = none
  enumerate : mg "enumerate" = none
  abs : mg "abs" = none
  int : mg "int" = none
  list : mg "list" = none
  tuple : mg "tuple" = none
  sorted : mg "sorted" = none
  isinstance : mg "isinstance" = none
  str : mg "str" = none
  bool : mg "bool" = none
  super : mg "super" = none
  ValueError : mg "ValueError" = none
theorem cxK {CX : CXT} {P : Program} {w : World} {K : PySem.W.Frag} {mg : Str → Option Value} {base : Heap} {N : List Str} {q : Str} {sc : Scope} {f : Addr} {cdv : Value} {A : Around} {outer : List Env} {s : Shared} {H : Hp} {E : XK} : (cxOf CX P w K mg base N q sc f cdv A outer s H E).K = K := rfl
theorem cxKn {CX : CXT} {P : Program} {w : World} {K : PySem.W.Frag} {mg : Str → Option Value} {base : Heap} {N : List Str} {q : Str} {sc : Scope} {f : Addr} {cdv : Value} {A : Around} {outer : List Env} {s : Shared} {H : Hp} {E : XK} : (cxOf CX P w K mg base N q sc f cdv A outer s H E).nox.K = K := rfl
/-! ### heaps -/
/-- all but what stands at a is as it was -/
def Sx (a : Addr) (H H' : Hp) : Prop := ∀ b o, b ≠ a → H b = some o → H' b = some o
theorem Sx.refl (a : Addr) (H : Hp) : Sx a H H := fun _ _ _ h => h
theorem Sx.trans {a : Addr} {H H1 H2 : Hp} (h : Sx a H H1) (k : Sx a H1 H2) : Sx a H H2 := fun b o n e => k b o n (h b o n e)
theorem Sx.of {a : Addr} {H H' : Hp} (h : Same H H') : Sx a H H' := fun b o _ e => h b o e
theorem Sx.upd {a : Addr} {H : Hp} {o : HO} : Sx a H (upd H a o) := fun b u n e => by rw [upd_ne n]; exact e
theorem same_upd {H : Hp} {p : Addr} {o : HO} (h : H p = none) : Same H (upd H p o) := fun b x e => by
  rw [upd_ne (ne_of_none e h)]
  exact e
theorem Same.tup {K : PySem.W.Frag} {H H' : Hp} {a : Addr} {xs : List V} (e : Same H H') (h : SqT K H a xs) : SqT K H' a xs := by
  rcases h with (h | ⟨o, h⟩) | h
  · exact .inl (.inl (e _ _ h))
  · exact .inl (.inr ⟨o, e _ _ h⟩)
  · exact .inr h
/-- the stream at a -/
def Strm (H : Hp) (a : Addr) : Prop := ∃ ns : List Int, H a = some (.lst (ns.map V.int)) ∧ ns.length ≤ 4000
theorem Strm.same {H H' : Hp} {a : Addr} (h : Strm H a) (s : Same H H') : Strm H' a := by
  obtain ⟨ns, e, l⟩ := h
  exact ⟨ns, s _ _ e, l⟩
theorem Strm.some {H : Hp} {a : Addr} (h : Strm H a) : ∃ xs, H a = some (.lst xs) := by
  obtain ⟨ns, e, l⟩ := h
  exact ⟨_, e⟩
theorem Strm.ne {H : Hp} {a p : Addr} (h : Strm H a) (n : H p = none) : a ≠ p := by
  obtain ⟨ns, e, l⟩ := h
  exact ne_of_none e n
/-! ### small facts -/
def cutI (ns : List Int) (lo hi : Option Int) : List Int := (ns.drop (HT.sIx ns.length 0 lo)).take (HT.sIx ns.length ns.length hi - HT.sIx ns.length 0 lo)
theorem cutV_int (ns : List Int) (lo hi : Option Int) : cutV (ns.map V.int) lo hi = (cutI ns lo hi).map V.int := by
  unfold cutV cutI
  rw [List.length_map, List.map_take, List.map_drop]
theorem cutI_length (ns : List Int) (lo hi : Option Int) : (cutI ns lo hi).length ≤ ns.length := by
  have h := cutV_length (ns.map V.int) lo hi
  rw [cutV_int, List.length_map, List.length_map] at h
  exact h
theorem int_at {ns : List Int} {i : Nat} {y : V} (h : (ns.map V.int)[i]? = some y) : ∃ u, y = .int u ∧ ns[i]? = some u := by
  rw [List.getElem?_map] at h
  cases e : ns[i]? with
  | none =>
    rw [e] at h
    cases h
  | some u =>
    rw [e] at h
    exact ⟨u, (Option.some.inj h).symm, rfl⟩
theorem abs_nn (i : Int) : 0 ≤ (if i < 0 then -i else i) := by
  by_cases h : i < 0
  · rw [if_pos h]
    omega
  · rw [if_neg h]
    omega
theorem small4000 {n : Nat} (h : n ≤ 4000) : n < sizeLine := Nat.lt_of_le_of_lt h (by decide)
theorem small4000' {n : Nat} (h : n ≤ 4000) : n ≤ sizeLine := Nat.le_of_lt (small4000 h)
theorem ints_flat : ∀ ns : List Int, (ns.map V.int).all flatV = true
  | [] => rfl
  | n :: ns => ints_flat ns
end Mv

set_option Elab.async false
set_option linter.all false
set_option maxRecDepth 100000
set_option maxHeartbeats 1000000
namespace Mv
open PySem
/-! ### sorted lists -/
def sortI (xs : List Int) : List Int := xs.mergeSort fun a b => decide (a ≤ b)
theorem sort_perm (xs : List Int) : (sortI xs).Perm xs := List.mergeSort_perm xs _
theorem sort_le (xs : List Int) : (sortI xs).Pairwise (· ≤ ·) := by
  have h := List.pairwise_mergeSort (le := fun a b : Int => decide (a ≤ b)) (fun a b c h1 h2 => by
    have h1 := of_decide_eq_true h1
    have h2 := of_decide_eq_true h2
    exact decide_eq_true (Int.le_trans h1 h2)) (fun a b => by
    by_cases h : a ≤ b
    · simp [h]
    · have : b ≤ a := by omega
      simp [this]) xs
  exact h.imp fun h => of_decide_eq_true h
theorem sorted_one : ∀ {xs ys : List Int}, xs.Perm ys → xs.Pairwise (· ≤ ·) → ys.Pairwise (· ≤ ·) → xs = ys
  | [], ys, h, _, _ => (List.Perm.nil_eq h)
  | x :: xs, [], h, _, _ => absurd h.length_eq (by simp)
  | x :: xs, y :: ys, h, h1, h2 => by
    have a := List.pairwise_cons.mp h1
    have b := List.pairwise_cons.mp h2
    have e : x = y := by
      have m1 : x ∈ y :: ys := h.mem_iff.mp List.mem_cons_self
      have m2 : y ∈ x :: xs := h.mem_iff.mpr List.mem_cons_self
      rcases List.mem_cons.mp m1 with e | m1
      · exact e
      · rcases List.mem_cons.mp m2 with e | m2
        · exact e.symm
        · exact Int.le_antisymm (a.1 _ m2) (b.1 _ m1)
    subst e
    rw [sorted_one (List.Perm.cons_inv h) a.2 b.2]
theorem sort_is {xs ys : List Int} (h : xs.Perm ys) (s : xs.Pairwise (· ≤ ·)) : xs = sortI ys := sorted_one (h.trans (sort_perm ys).symm) s (sort_le ys)
theorem sort_congr {xs ys : List Int} (h : xs.Perm ys) : sortI xs = sortI ys := sort_is ((sort_perm xs).trans h) (sort_le xs)
theorem sort_nodup {xs : List Int} (h : xs.Nodup) : (sortI xs).Nodup := (sort_perm xs).nodup_iff.mpr h
theorem mem_sort {x : Int} {xs : List Int} : x ∈ sortI xs ↔ x ∈ xs := (sort_perm xs).mem_iff
theorem perm_of_mem {xs ys : List Int} (h1 : xs.Nodup) (h2 : ys.Nodup) (h : ∀ x, x ∈ xs ↔ x ∈ ys) : xs.Perm ys := (List.perm_ext_iff_of_nodup h1 h2).mpr h
theorem sort_mem {xs ys : List Int} (h1 : xs.Nodup) (h2 : ys.Nodup) (h : ∀ x, x ∈ xs ↔ x ∈ ys) : sortI xs = sortI ys := sort_congr (perm_of_mem h1 h2 h)
/-! ### each value once, where it comes first -/
def addI (acc : List Int) (x : Int) : List Int := if x ∈ acc then acc else acc ++ [x]
def headsA (acc xs : List Int) : List Int := xs.foldl addI acc
def headsI (xs : List Int) : List Int := headsA [] xs
def tailsI (xs : List Int) : List Int := (headsI xs.reverse).reverse
theorem headsA_snoc (acc xs : List Int) (x : Int) : headsA acc (xs ++ [x]) = addI (headsA acc xs) x := by
  unfold headsA
  rw [List.foldl_append]
  rfl
theorem headsA_app (acc xs ys : List Int) : headsA acc (xs ++ ys) = headsA (headsA acc xs) ys := by
  unfold headsA
  rw [List.foldl_append]
theorem headsI_snoc (xs : List Int) (x : Int) : headsI (xs ++ [x]) = addI (headsI xs) x := headsA_snoc [] xs x
theorem mem_addI {acc : List Int} {x y : Int} : y ∈ addI acc x ↔ y ∈ acc ∨ y = x := by
  unfold addI
  split
  · rename_i h
    exact ⟨.inl, fun z => z.elim id fun e => e ▸ h⟩
  · simp
theorem snoc_ind {P : List Int → Prop} (h0 : P []) (hs : ∀ xs x, P xs → P (xs ++ [x])) (xs : List Int) : P xs := by
  have h : ∀ ys : List Int, P ys.reverse := fun ys => by
    induction ys with
    | nil => exact h0
    | cons y ys ih =>
      rw [List.reverse_cons]
      exact hs _ _ ih
  have e := h xs.reverse
  rw [List.reverse_reverse] at e
  exact e
theorem mem_headsI {y : Int} (xs : List Int) : y ∈ headsI xs ↔ y ∈ xs := by
  induction xs using snoc_ind with
  | h0 => exact Iff.rfl
  | hs xs x ih =>
    rw [headsI_snoc, mem_addI, ih]
    simp
theorem nodup_addI {acc : List Int} {x : Int} (h : acc.Nodup) : (addI acc x).Nodup := by
  unfold addI
  split
  · exact h
  · rename_i hx
    refine List.nodup_append.mpr ⟨h, by simp, fun a ha b hb => ?_⟩
    rw [List.mem_singleton] at hb
    rw [hb]
    exact fun e => hx (e ▸ ha)
theorem nodup_headsI (xs : List Int) : (headsI xs).Nodup := by
  induction xs using snoc_ind with
  | h0 => exact List.nodup_nil
  | hs xs x ih =>
    rw [headsI_snoc]
    exact nodup_addI ih
theorem headsI_nodup (xs : List Int) : xs.Nodup → headsI xs = xs := by
  induction xs using snoc_ind with
  | h0 => exact fun _ => rfl
  | hs xs x ih =>
    intro h
    obtain ⟨h1, _, h3⟩ := List.nodup_append.mp h
    rw [headsI_snoc, ih h1]
    unfold addI
    rw [if_neg fun hx => h3 x hx x (by simp) rfl]
theorem headsA_eq (acc xs : List Int) : headsA acc xs = acc ++ (headsI xs).filter fun x => decide (x ∉ acc) := by
  induction xs using snoc_ind with
  | h0 => simp [headsA, headsI]
  | hs xs x ih =>
    rw [headsA_snoc, headsI_snoc, ih]
    have hm := mem_headsI (y := x) xs
    unfold addI
    by_cases ha : x ∈ acc
    · rw [if_pos (List.mem_append_left _ ha)]
      split
      · rfl
      · rw [List.filter_append]
        simp [ha]
    · by_cases hx : x ∈ headsI xs
      · rw [if_pos hx, if_pos (List.mem_append_right _ (List.mem_filter.mpr ⟨hx, by simp [ha]⟩))]
      · rw [if_neg hx, if_neg, List.filter_append]
        · simp [ha]
        · intro z
          rcases List.mem_append.mp z with z | z
          · exact ha z
          · exact hx (List.mem_filter.mp z).1
theorem headsI_idem (xs : List Int) : headsI (headsI xs) = headsI xs := headsI_nodup _ (nodup_headsI xs)
theorem headsI_join (u v : List Int) : headsI (headsI u ++ headsI v) = headsI (u ++ v) := by
  show headsA [] _ = headsA [] _
  rw [headsA_app, headsA_app]
  show headsA (headsI (headsI u)) (headsI v) = headsA (headsI u) v
  rw [headsI_idem, headsA_eq, headsI_idem, ← headsA_eq]
theorem tailsI_idem (xs : List Int) : tailsI (tailsI xs) = tailsI xs := by
  unfold tailsI
  rw [List.reverse_reverse, headsI_idem]
theorem tailsI_join (u v : List Int) : tailsI (tailsI u ++ tailsI v) = tailsI (u ++ v) := by
  unfold tailsI
  rw [List.reverse_append, List.reverse_reverse, List.reverse_reverse, headsI_join, List.reverse_append]
/-! ### plain values -/
def firstI (xs : List Int) : List Int := xs.take 1
def lastI (xs : List Int) : List Int := xs.drop (xs.length - 1)
def endsI (xs : List Int) : List Int := xs.take 1 ++ xs.drop (xs.length - 1)
/-- the eight kinds -/
inductive Kd where
  | list | bag | set | first | last | ends | heads | tails
  deriving DecidableEq
def Kd.nm : Kd → Str
  | .list => "list" | .bag => "bag" | .set => "set" | .first => "first" | .last => "last" | .ends => "ends" | .heads => "heads" | .tails => "tails"
def kds : List Kd := [.list, .bag, .set, .first, .last, .ends, .heads, .tails]
def plainI (k : Kd) (xs : List Int) : List Int :=
  match k with
  | .list => xs
  | .bag => sortI xs
  | .set => sortI (headsI xs)
  | .first => firstI xs
  | .last => lastI xs
  | .ends => endsI xs
  | .heads => headsI xs
  | .tails => tailsI xs
theorem lastI_snoc (xs : List Int) (x : Int) : lastI (xs ++ [x]) = [x] := by
  unfold lastI
  rw [List.length_append]
  simp
theorem first_join (u v : List Int) : firstI (firstI u ++ firstI v) = firstI (u ++ v) := by
  cases u with
  | nil => cases v <;> rfl
  | cons x u => rfl
theorem last_join (u v : List Int) : lastI (lastI u ++ lastI v) = lastI (u ++ v) := by
  induction v using snoc_ind with
  | h0 =>
    induction u using snoc_ind with
    | h0 => rfl
    | hs u x _ => simp [lastI_snoc, lastI]
  | hs v y _ => rw [lastI_snoc, lastI_snoc, ← List.append_assoc, lastI_snoc]
theorem endsI_eq (xs : List Int) : endsI xs = firstI xs ++ lastI xs := rfl
theorem last_ends (xs : List Int) : lastI (endsI xs) = lastI xs := by
  induction xs using snoc_ind with
  | h0 => rfl
  | hs xs x _ => rw [endsI_eq, lastI_snoc, lastI_snoc]
theorem first_ends (xs : List Int) : firstI (endsI xs) = firstI xs := by
  cases xs with
  | nil => rfl
  | cons x xs => rfl
theorem first_app (u v : List Int) : firstI (u ++ v) = firstI (firstI u ++ firstI v) := (first_join u v).symm
theorem last_app (u v : List Int) : lastI (u ++ v) = lastI (lastI u ++ lastI v) := (last_join u v).symm
theorem ends_join (u v : List Int) : endsI (endsI u ++ endsI v) = endsI (u ++ v) := by
  rw [endsI_eq (_ ++ _), endsI_eq (u ++ v), first_app (endsI u), last_app (endsI u), first_ends, first_ends, last_ends, last_ends, first_join, last_join]
theorem plain_join (k : Kd) (u v : List Int) : plainI k (plainI k u ++ plainI k v) = plainI k (u ++ v) := by
  cases k with
  | list => rfl
  | bag => exact sort_congr ((sort_perm u).append (sort_perm v))
  | set =>
    refine sort_mem (nodup_headsI _) (nodup_headsI _) fun x => ?_
    show x ∈ headsI (sortI (headsI u) ++ sortI (headsI v)) ↔ _
    rw [mem_headsI, mem_headsI, List.mem_append, List.mem_append, mem_sort, mem_sort, mem_headsI, mem_headsI]
  | first => exact first_join u v
  | last => exact last_join u v
  | ends => exact ends_join u v
  | heads => exact headsI_join u v
  | tails => exact tailsI_join u v
theorem sort_nil : sortI [] = [] := List.Perm.eq_nil (sort_perm [])
theorem plain_nil (k : Kd) : plainI k [] = [] := by
  cases k with
  | bag => exact sort_nil
  | set => exact sort_nil
  | _ => rfl
theorem plain_idem (k : Kd) (u : List Int) : plainI k (plainI k u) = plainI k u := by
  have h := plain_join k u []
  rw [plain_nil, List.append_nil, List.append_nil] at h
  exact h
theorem headsI_len (xs : List Int) : (headsI xs).length ≤ xs.length := by
  induction xs using snoc_ind with
  | h0 => exact Nat.le_refl _
  | hs xs x ih =>
    rw [headsI_snoc, List.length_append]
    unfold addI
    split
    · omega
    · rw [List.length_append]
      simp only [List.length_singleton]
      omega
theorem plain_len (k : Kd) (xs : List Int) : (plainI k xs).length ≤ 2 * xs.length := by
  have h := headsI_len xs
  have h2 := headsI_len xs.reverse
  rw [List.length_reverse] at h2
  cases k with
  | list => show xs.length ≤ _; omega
  | bag => show (sortI xs).length ≤ _; rw [(sort_perm xs).length_eq]; omega
  | set => show (sortI (headsI xs)).length ≤ _; rw [(sort_perm (headsI xs)).length_eq]; omega
  | first => show (xs.take 1).length ≤ _; rw [List.length_take]; omega
  | last => show (xs.drop (xs.length - 1)).length ≤ _; rw [List.length_drop]; omega
  | ends => show (xs.take 1 ++ xs.drop (xs.length - 1)).length ≤ _; rw [List.length_append, List.length_take, List.length_drop]; omega
  | heads => show (headsI xs).length ≤ _; omega
  | tails => show ((headsI xs.reverse).reverse).length ≤ _; rw [List.length_reverse]; omega
end Mv

set_option Elab.async false
set_option linter.all false
set_option maxRecDepth 100000
set_option maxHeartbeats 4000000
namespace Mv
open PySem PySem.Spec PyProof.Rows L2
/-! ### C() where no class on the way has an __init__ -/
structure Mk0 (K : PySem.W.Frag) (C : Addr) : Prop where
  makes : PySem.W.makesIn K C = true
  init : PySem.W.findIn K (.ref C) "__init__" = some (some (.builtin "object.__init__"))
  top : PySem.W.mroIn K C (.type "object") = some true
  kp : PySem.W.keepIn K (.ref C) = true
def tMake0 (C : Addr) : TE := fun _ H Q => ∀ x dx, H x = none → H dx = none → dx ≠ x → Q (.ref x) (upd (upd H dx (.own x)) x (.ins C dx []))
section
variable {X : Cx} {pins : List (Addr × Obj)} {σ : L2.St} {H : Hp} {s : Shared} {Q : VK} {C : Addr}
theorem run_makeB (M : Mk0 X.K C) (I : Inv X pins σ H s) (h : ∀ x dx, H x = none → H dx = none → dx ≠ x → Q (.ref x) (upd (upd H dx (.own x)) x (.ins C dx []))) :
    wpAny (model X.prog X.w) X.A (call (.ref C) []) (EP X pins σ Q) X.xe s := by
  have hq := h (s.heap.objs.size + 1) s.heap.objs.size (I.hok.fresh (Nat.le_succ _)) (I.hok.fresh (Nat.le_refl _)) (Nat.ne_of_lt (Nat.lt_succ_self _))
  have J := Inv.made (C := C) I
  refine wpAny_call (make_map0 I.kIn M.makes M.init (fun self => PySem.W.Looks.of_pure (PySem.W.oi_bind _)) ?_)
  obtain ⟨o, ho, hc⟩ : ∃ o : Obj, ((s.heap.push PySem.W.emptyDict).push (PySem.W.instObj C s.heap.objs.size)).get? (s.heap.objs.size + 1) = some o ∧ o.cls = .ref C := by
    obtain ⟨_, _, _, e, _⟩ := J.hok _ _ upd_same
    exact ⟨_, e, rfl⟩
  have ty : PySem.W.Looks (model X.prog X.w) ((s.heap.push PySem.W.emptyDict).push (PySem.W.instObj C s.heap.objs.size)) (typeOf (.ref (s.heap.objs.size + 1))) (.ref C) := (PySem.W.Looks.ld ho).andThen (by rw [hc]; exact .now)
  have top : PySem.W.Looks (model X.prog X.w) ((s.heap.push PySem.W.emptyDict).push (PySem.W.instObj C s.heap.objs.size)) (isInstance (.ref (s.heap.objs.size + 1)) (.type "object")) true := ty.andThen (PySem.W.looks_mroIn J.kIn M.top)
  refine codeAny_call_builtin PySem.W.oi_plain PySem.W.entry_oi (@PySem.W.check_slot (model X.prog X.w) _ _ _ "object.__init__" "object" "__init__" (.ref (s.heap.objs.size + 1)) [] [] _ PySem.W.oi_kind PySem.W.oi_split top (PySem.W.oi_args _) ?_)
  rw [PySem.W.oi_run]
  exact wpAny_pure ⟨rfl, .ref (s.heap.objs.size + 1), _, J, rfl, hq⟩
theorem pe_makeB {x : Str} {p pos : Pos} (M : Mk0 X.K C) (hg : Gl X x) (hm : X.mg x = some (.ref C)) (hdb : (x == ("__debug__" : Str)) = false := by decide) : PE X (.Call (.Name x p) [] [] pos) (tMake0 C) := by
  refine ⟨fun pins s σ H Q I h => ?_⟩
  refine wpAny_Call_Name_kw (ld_glob I hg hm ?_ hdb)
  exact PySem.W.callWith_K0 I.kIn M.kp (run_makeB M I h)
end
theorem paired_at {α β : Type} {F : α → β → Prop} : ∀ {xs : List α} {ys : List β} {i : Nat} {y : β}, Paired F xs ys → ys[i]? = some y → ∃ x, xs[i]? = some x ∧ F x y
  | _, _, i, y, .nil, h => by cases h
  | _, _, 0, y, .cons r t, h => ⟨_, rfl, by cases h; exact r⟩
  | _, _, i + 1, y, .cons r t, h => paired_at (i := i) t h
/-! ### sorted of ints, whatever they are collected from -/
section
variable {X : Cx} {pins : List (Addr × Obj)} {σ : L2.St} {H : Hp} {s : Shared} {Q : VK}
theorem sorted_from (I : Inv X pins σ H s) {v : Value} {ns : List Int} (hz : ns.length ≤ sizeLine)
    (hc : ∀ R : List Value → Shared → Prop, (∀ (h' : Heap) (tk : Nat) (acc : List Value), (∀ b o, s.heap.get? b = some o → h'.get? b = some o) → IntsAre acc ns → R acc { s with heap := h', toks := tk }) → wpAny (model X.prog X.w) X.A.in1 (collect v) R X.xe s)
    (q : ∀ p : Addr, H p = none → Q (.ref p) (upd H p (.lst ((sortI ns).map V.int)))) :
    wpAny (model X.prog X.w) X.A (call (.builtin "sorted") [v]) (EP X pins σ Q) X.xe s := by
  refine Calls.call_function_entry PyProof.Rows.kind_sorted PyProof.Rows.plain_sorted PyProof.Rows.entry_sorted (PyProof.Rows.args_sorted1 _) ?_
  unfold Builtin.«sorted»
  refine wpAny_bind (m := checkCount "sorted" 1 1 _) (wpAny_pure (wpAny_bind (hc _ fun h' tk acc hk hi => ?_)))
  have I1 : Inv X pins σ H { s with heap := h', toks := tk } := I.kept hk
  have hl : acc.length = ns.length := hi.length
  refine wpAny_bind (wpAny_newList ?_ (by rw [hl]; exact hz))
  have ho : (h'.push (seqObj "list" acc.toArray 0)).get? h'.objs.size = some (seqObj "list" acc.toArray 0) := Heap.get?_push_size _ rfl
  show wpAny _ _ _ _ _ { s with heap := h'.push (seqObj "list" acc.toArray 0), toks := tk }
  refine wpAny_bind (wpAny_holding (wpAny_call_entry PyProof.Rows.slot_list_sort ⟨_, ho, rfl⟩ PyProof.Rows.entry_list_sort
    (SrtO.list_sort_ord (s := { s with heap := h'.push (seqObj "list" acc.toArray 0), toks := tk }) SrtO.swo_int ho (by rw [hl]; exact hz) (fun h2 => SrtO.ints_sortable hi h2) fun out k1 k2 => ⟨_, rfl, ?_⟩) (PyProof.Rows.args_list_sort _)))
  obtain ⟨g1, g2, g3⟩ := SrtO.ints_out hi k1 k2
  rw [sort_is g2 g3] at g1
  obtain ⟨e', he'⟩ := PyProof.Rows.sortedHeap_at (vs := acc) (out := out.toArray) ho
  refine wpAny_pure ⟨_, rfl, .ref h'.objs.size, upd H h'.objs.size (.lst ((sortI ns).map V.int)), I1.laid (t' := tk) (fun b u e => ?_) (Nat.le_refl _)
    (show ObjOk X.prog X.w _ _ _ (.lst ((sortI ns).map V.int)) from ⟨by rw [List.length_map, (sort_perm ns).length_eq]; exact hz, out, e', vals_of_ints g1, he'⟩), rfl, q _ (I1.hok.fresh (Nat.le_refl _))⟩
  have hb : b < h'.objs.size := Heap.lt_size e
  rw [PyProof.Rows.sortedHeap_old (Nat.ne_of_lt hb) (by rw [size_push']; exact Nat.lt_succ_of_lt hb)]
  exact Heap.get?_push_of_some _ e
/-- sorted(t), t a tuple of ints -/
def rSortT (K : PySem.W.Frag) : List V → Hp → VK → Prop := fun vs H Q => ∃ (a : Addr) (ns : List Int), vs = [V.ref a] ∧ SqT K H a (ns.map V.int) ∧ ∀ p : Addr, H p = none → Q (.ref p) (upd H p (.lst ((sortI ns).map V.int)))
theorem cr_sortT' : CallR X (.builtin "sorted") (rSortT X.K) := by
  intro pins s σ H vs us Q I r h
  obtain ⟨a, ns, rfl, hs, q⟩ := h
  rw [Vals.ref1 r]
  obtain ⟨its, rv, ⟨o, h1, h2, n, h3⟩, hz⟩ := I.tuple hs
  have hi := rv.ints
  have hl := hi.length
  rw [List.length_map] at hz
  refine sorted_from I hz (fun R k => wpAny_collect_seq a (.inr rfl) h1 h2 h3 (fun h' hk => ?_) (by rw [List.size_toArray, hl]; exact hz)) q
  have := k h' s.toks its hk hi
  simpa using this
/-- sorted(l), l a list of ints -/
def rSortL (K : PySem.W.Frag) : List V → Hp → VK → Prop := fun vs H Q => ∃ (a : Addr) (ns : List Int), vs = [V.ref a] ∧ SqL K H a (ns.map V.int) ∧ ∀ p : Addr, H p = none → Q (.ref p) (upd H p (.lst ((sortI ns).map V.int)))
theorem cr_sortL : CallR X (.builtin "sorted") (rSortL X.K) := by
  intro pins s σ H vs us Q I r h
  obtain ⟨a, ns, rfl, hs, q⟩ := h
  refine cr_sortedI pins s σ H _ us Q I r ⟨a, ns, rfl, hs, fun ns' p k1 k2 hp => ?_⟩
  rw [sort_is k1 k2]
  exact q p hp
/-! ### d.values() as a thing of its own -/
def valuesO (p d : Addr) : HO := .ext fun h => h.IsValuesView p d
def tVals (td : TE) : TE := fun σ H Q => td σ H fun x H1 => ∃ d kvs, x = .ref d ∧ H1 d = some (.dK kvs) ∧ ∀ p, H1 p = none → Q (.ref p) (upd H1 p (valuesO p d))
theorem pe_vals {e : Expr} {td : TE} {apos cpos : Pos} (he : PE X e td) (hbase : attributeBase e "values" X.env (eval e X.env) = eval e X.env := by rfl) (hline : (apos.endLine == cpos.line) = true := by rfl) : PE X (.Call (.Attribute e "values" apos) [] [] cpos) (tVals td) := by
  refine ⟨fun pins s σ H Q I h => ?_⟩
  refine wpAny_Call_method (T := "dict") (id := "dict.values") hbase rfl hline F.plainAttrs_dict F.slot_dict_values F.type_dict_values (thn (he.run pins s σ H _ I h) fun u s1 ⟨x, H1, I1, rx, d, kvs, ex, hd, q⟩ => ?_)
  subst ex
  obtain rfl : u = Value.ref d := rx
  obtain ⟨z, hgd, vs, kv, dd⟩ := dk_of I1.hok hd
  refine ⟨dd.typeIs, dd.mapOf.noDict, ?_⟩
  have hf : H1 s1.heap.objs.size = none := I1.hok.fresh (Nat.le_refl _)
  have e0 : (s1.heap.push { cls := .type "dict_values", data := .fields #[.ref d] }).get? s1.heap.objs.size = some { cls := .type "dict_values", data := .fields #[.ref d] } := Heap.get?_push_size _ rfl
  have J := I1.laid (a := s1.heap.objs.size) (o := valuesO s1.heap.objs.size d) (h' := s1.heap.push { cls := .type "dict_values", data := .fields #[.ref d] }) (t' := s1.toks) (fun b u e => Heap.get?_push_of_some _ e) (Nat.le_refl _) ⟨⟨_, e0, rfl, rfl⟩, ⟨_, e0⟩, fun h1 h2 ⟨o, ho, r⟩ k => ⟨o, k o ho, r⟩⟩
  show wpAny _ _ (callWith cpos (.builtin "dict.values") [.ref d] [] []) _ X.xe s1
  exact method_meetsIn F.slot_dict_values F.entry_dict_values rfl (PySem.evalArgs_none ⟨rfl, dd.typeIs, F.args_dict_values_1 _, _, meets_dict_values (mixKind X.prog X.w) d hgd, ⟨vs, dd⟩, ⟨.ref s1.heap.objs.size, _, J, rfl, q _ hf⟩⟩)
/-- sorted(v), v the values of a dict, all ints -/
def rSortV : List V → Hp → VK → Prop := fun vs H Q => ∃ (p d : Addr) (kvs : List (Key × V)) (ns : List Int), vs = [V.ref p] ∧ H p = some (valuesO p d) ∧ H d = some (.dK kvs) ∧ kvs.map (·.2) = ns.map V.int ∧ ∀ l : Addr, H l = none → Q (.ref l) (upd H l (.lst ((sortI ns).map V.int)))
theorem cr_sortV (hcalm : X.calm = true) : CallR X (.builtin "sorted") rSortV := by
  intro pins s σ H vs us Q I r h
  obtain ⟨p, d, kvs, ns, rfl, hp, hd, hv, q⟩ := h
  rw [Vals.ref1 r]
  have view : s.heap.IsValuesView p d := (show ObjOk X.prog X.w H s.heap p (valuesO p d) from I.hok p _ hp).1
  obtain ⟨z, lo, ws, rel, dd⟩ := dk_of I.hok hd
  obtain ⟨ep, hat⟩ := dd.dictAt
  have hlv : kvs.length = ws.length := rel.length
  have hln : kvs.length = ns.length := by
    have e := congrArg List.length hv
    rw [List.length_map, List.length_map] at e
    exact e
  refine sorted_from I (by rw [← hln]; exact z) (fun R k => PySem.W.kdu_collect (A := X.A.in1) (PySem.W.kdl_values (knd := mixKind X.prog X.w) (kvs := ws) (ep := ep)) (I.ok.hd hcalm) ⟨view, hat⟩ (by rw [← hlv]; exact z) fun h' tk acc hk hacc => k h' tk acc.toList hk ?_) q
  refine ints_each (by rw [Array.length_toList, hacc.1, ← hlv, hln]) fun j v e => ?_
  rw [Array.getElem?_toList] at e
  obtain ⟨key, e1⟩ := hacc.2 j v e
  obtain ⟨kv, e2, e3, e4⟩ := paired_at rel e1
  have e5 : (kvs.map (·.2))[j]? = some kv.2 := by rw [List.getElem?_map, e2]; rfl
  rw [hv] at e5
  obtain ⟨u, eu, e6⟩ := int_at e5
  rw [eu] at e4
  obtain ⟨t, e4⟩ := e4
  exact ⟨u, t, e6, e4⟩
end
end Mv

set_option Elab.async false
set_option linter.all false
set_option maxRecDepth 100000
set_option maxHeartbeats 4000000
namespace Mv
open PySem PySem.Spec PyProof.Rows L2
/-! ### enumerate(t), t a tuple -/
set_option maxHeartbeats 8000000 in
theorem enum_new1 {v : Value} {o : Obj} {Hh : Heap → Prop} (B : Begins v o Hh) :
    Meets (Builtin.«enumerate.__new__» ⟨[.type "enumerate", v], []⟩) (fun _ R s => Hh s.heap ∧
      R (.ok (.ret (.ref (s.heap.push o).objs.size))) { s with heap := (s.heap.push o).push { cls := .type "enumerate", data := .fields #[.none, .bool false, .ref s.heap.objs.size, rawInt 0, .none, .none] } }) :=
  .of_wp fun prog w A R s h => by
    obtain ⟨hp, g, d, tk, os⟩ := s
    obtain ⟨h1, h⟩ := h
    have hsub := sub_enumerate
    have q1 : ∀ {A' : Around} {E : Value → Shared → Prop} {Q : Value → Shared → Prop}, Q (.ref hp.objs.size) ⟨hp.push o, g, d, tk, os⟩ → wpAny (model prog w) A' (pyIter v) Q E ⟨hp, g, d, tk, os⟩ :=
      fun q => B.iter prog w _ _ ⟨hp, g, d, tk, os⟩ _ h1 q
    wp_walk using q1
    refine wpAny_stack_any fun st => wpAny_pure ?_
    split
    · rename_i c _ _ _ _ _
      cases (c == Value.type "enumerate") <;> (wp_walk using q1) <;> exact ⟨_, rfl, h⟩
    · wp_walk using q1
      exact ⟨_, rfl, h⟩
theorem enum_one {prog : Program} {w : World} {A : Around} {E : Value → Shared → Prop} {s : Shared} {v : Value} {o : Obj} {Hh : Heap → Prop} {Q : Value → Shared → Prop} (B : Begins v o Hh) (h1 : Hh s.heap)
    (h : ∀ h', IsEnum h' (s.heap.objs.size + 1) s.heap.objs.size 0 .none → h'.get? s.heap.objs.size = some o → h'.objs.size = s.heap.objs.size + 2 →
      (∀ b o, s.heap.get? b = some o → h'.get? b = some o) → Q (.ref (s.heap.objs.size + 1)) { s with heap := h' }) :
    wpAny (model prog w) A (call (.type "enumerate") [v]) Q E s := by
  refine callType_new F.called_enumerate (by decide) (F.typeCall_enumerate_1 _) (F.newCall_enumerate_1 _) (fun obj => F.args_object_init_2 obj _) F.entry_enumerate_new (enum_new1 B) ⟨h1, ?_⟩
  have hz : (s.heap.push o).objs.size = s.heap.objs.size + 1 := Heap.size_push ..
  show _ ∧ _
  rw [hz]
  have he := Heap.get?_push_size (s.heap.push o) (o := { cls := .type "enumerate", data := .fields #[.none, .bool false, .ref s.heap.objs.size, rawInt 0, .none, .none] }) rfl
  rw [hz] at he
  exact ⟨⟨_, he, rfl⟩, h _ he (Heap.get?_push_of_some _ (Heap.get?_push_size _ B.free)) (by rw [Heap.size_push, hz]) fun b u x => Heap.get?_push_of_some _ (Heap.get?_push_of_some _ x)⟩
/-- the tuple at a, each item in a new pair -/
def IteT (K : PySem.W.Frag) (a : Addr) : It where
  go := fun i H => ∃ (xs : List V) (x : V), SqT K H a xs ∧ xs[i]? = some x
  yld := fun i H v H' => ∃ T x, v = .ref T ∧ H T = none ∧ H' = upd H T (.tup [.int (i : Nat), x]) ∧ ∀ xs, SqT K H a xs → xs[i]? = some x
  stop := fun i H => ∃ xs : List V, SqT K H a xs ∧ xs.length = i
theorem turn_enumT {P : Program} {w : World} {K : PySem.W.Frag} {elts : List Expr} {kk : Nat} {tpos : Pos} {a e it : Addr} (hae : a ≠ e) (hai : a ≠ it) :
    Turn P w K (.Tuple elts kk tpos) (IteT K a) [e, it] e (fun i h => (∃ old, IsEnum h e it ((i : Nat) : Int) old) ∧ h.IsTupleIter it a i ∧ e ≠ it) where
  mem := List.mem_cons_self ..
  obj := fun i h st b hb => by
    obtain ⟨⟨old, he⟩, ⟨o, ho, hc, hd⟩, _⟩ := st
    rcases List.mem_cons.mp hb with z | z
    · rw [z]
      exact ⟨_, he, fun v q => nomatch q⟩
    · rw [List.mem_singleton.mp z]
      exact ⟨o, ho, fun v q => by rw [hd] at q; cases q⟩
  keep := fun i h h' st k => by
    obtain ⟨⟨old, he⟩, ⟨o, ho, hc, hd⟩, hne⟩ := st
    exact ⟨⟨old, k e (by simp) _ he⟩, ⟨o, k it (by simp) o ho, hc, hd⟩, hne⟩
  item := by
    intro X hP hw hK hc i pins s σ H E I hf st hg
    subst hP hw hK
    obtain ⟨⟨old, he⟩, hit, hne⟩ := st
    obtain ⟨xs, x, hq, hx⟩ := hg
    obtain ⟨its, rv, ⟨o, h1, h2, n, h3⟩, hz⟩ := I.tuple hq
    have p : s.heap.IsTuple a its.toArray := ⟨o, h1, h2, n, h3⟩
    obtain ⟨u, hu, ru⟩ := rv.get hx
    have hi : i < its.toArray.size := by
      rw [List.size_toArray]
      exact (List.getElem?_eq_some_iff.mp hu).1
    have hel : e < s.heap.objs.size := Heap.lt_size he
    have hil : it < s.heap.objs.size := by
      obtain ⟨_, q, _⟩ := hit
      exact Heap.lt_size q
    refine wpAny_pyNext_enum_itemD (Draws.tuple (by exact I.ok.hd hc) it a hai its.toArray) he ⟨hit, p⟩ hi hne (by simp [hne, Ne.symm hae]) fun x' h' tk px ho hs' hT hsz hk => ?_
    obtain rfl : u = x' := by
      rw [List.getElem?_toArray, hu] at px
      exact Option.some.inj px
    refine ⟨_, rfl, wpAny_letOwnedTupleGo_enum (s := { s with heap := h', toks := tk + 1 }) ho fun h'' he' sb => ?_⟩
    have hT2 : h''.get? s.heap.objs.size = some { cls := .type "tuple", data := .seq #[.int i tk, u] } := (sb.2 _ (Nat.ne_of_gt hel)).trans hT
    have new : ObjOk X.prog X.w (upd H s.heap.objs.size (.tup [.int (i : Nat), x])) h'' s.heap.objs.size (.tup [.int (i : Nat), x]) :=
      ⟨by show 2 ≤ sizeLine; decide, [.int i tk, u], .cons ⟨_, rfl⟩ (.cons ru .nil), ⟨_, hT2, rfl, _, rfl⟩⟩
    have I1 : Inv X pins σ (upd H s.heap.objs.size (.tup [.int (i : Nat), x])) { s with heap := h'', toks := tk + 1 } :=
      I.turnedNew (ch := [e, it]) (fun b ob hb q => (sb.2 b (fun z => hb (by simp [z]))).trans (hk b ob (fun z => hb (by simp [z])) (fun z => hb (by simp [z])) q)) hf (Nat.le_refl _) new
    refine ⟨.ref s.heap.objs.size, _, I1, rfl, ⟨_, x, rfl, I.hok.fresh (Nat.le_refl _), rfl, fun ys hy => by rw [I.tuple_inj hy hq]; exact hx⟩, ⟨⟨u, ?_⟩, hs'.1.at fun o q => (sb.2 it (Ne.symm hne)).trans q, hne⟩, fun b hb => ?_⟩
    · rw [show ((i + 1 : Nat) : Int) = (i : Int) + 1 from by omega]
      exact he'
    · have hb' : b < s.heap.objs.size := by
        rcases List.mem_cons.mp hb with z | z
        · rw [z]
          exact hel
        · rw [List.mem_singleton.mp z]
          exact hil
      rw [upd_ne (Nat.ne_of_lt hb')]
      exact (hf b hb).1
  done := by
    intro X hP hw hK hc i pins s σ H E I hf st hg
    subst hP hw hK
    obtain ⟨⟨old, he⟩, hit, hne⟩ := st
    obtain ⟨xs, hq, hx⟩ := hg
    obtain ⟨its, rv, ⟨o, h1, h2, n, h3⟩, hz⟩ := I.tuple hq
    have p : s.heap.IsTuple a its.toArray := ⟨o, h1, h2, n, h3⟩
    obtain ⟨f0, f1, f2, f3, f4, f5⟩ := hf it (by simp)
    have hl := rv.length
    have hz' : its.toArray.size = i := by
      rw [List.size_toArray, ← hl, hx]
    refine wpAny_pyNext_enum_endD (Draws.tuple (by exact I.ok.hd hc) it a hai its.toArray) he ⟨by rw [hz']; exact hit, p⟩ fun h' eb => ⟨rfl, I.turned (t' := s.toks) (fun b o hb q => eb b o hb q) f0 f1 f3 f4 f5⟩
  self := fun A i s Q E st h => let ⟨⟨_, he⟩, _⟩ := st; wpAny_pyIter_enum he h
def iEnumT (K : PySem.W.Frag) (ta : TA) : TI := fun σ H R => ta σ H fun vs H1 => ∃ a xs, vs = [.ref a] ∧ SqT K H1 a xs ∧ R (IteT K a) H1
theorem pi_enumT {X : Cx} {e : Expr} {ta : TA} {p pos tpos : Pos} {elts : List Expr} {kk : Nat} (hg : Gl X "enumerate") (hm : X.mg "enumerate" = none) (ha : PA X [e] ta) (hs : starEach [e] X.env = [(false, eval e X.env)] := by rfl) :
    PI X (.Tuple elts kk tpos) (.Call (.Name "enumerate" p) [e] [] pos) (iEnumT X.K ta) := by
  refine ⟨fun pins s σ H R I h => ?_⟩
  refine Call_ (ld_blt I hg hm boot_enumerate (PyProof.Rows.callWith_type1 (thn (ha.run pos pins s σ H _ I h) fun us s1 ⟨vs, H1, I1, r1, q1⟩ => ?_) hs rfl))
  obtain ⟨a, xs, rfl, hq, q⟩ := q1
  rw [Vals.ref1 r1]
  obtain ⟨its, rv, ⟨o, h1, h2, n, h3⟩, hz⟩ := I1.tuple hq
  have p' : s1.heap.IsTuple a its.toArray := ⟨o, h1, h2, n, h3⟩
  have hal : a < s1.heap.objs.size := Heap.lt_size h1
  refine enum_one (begins_tuple a its.toArray) p' fun h' he hit hsz hk => wpAny_pyIter_enum he ?_
  have I2 : Inv X pins σ H1 { s1 with heap := h' } := I1.kept (t' := s1.toks) hk
  refine ⟨s1.heap.objs.size + 1, [s1.heap.objs.size + 1, s1.heap.objs.size], _, _, H1, rfl, I2, turn_enumT (a := a) (e := s1.heap.objs.size + 1) (it := s1.heap.objs.size) (Nat.ne_of_lt (Nat.lt_succ_of_lt hal)) (Nat.ne_of_lt hal), ⟨⟨.none, he⟩, ⟨_, hit, rfl, rfl⟩, Nat.succ_ne_self _⟩, fun b hb => ?_, q⟩
  have hle : s1.heap.objs.size ≤ b := by
    rcases List.mem_cons.mp hb with z | z
    · rw [z]
      exact Nat.le_add_right _ _
    · rw [List.mem_singleton.mp z]
      exact Nat.le_refl _
  exact I1.fpOk hle (I1.hok.fresh hle)
theorem walk_enumT {K : PySem.W.Frag} {a : Addr} {xs : List V} : Walk (IteT K a) xs.length (fun H => SqT K H a xs) (YPair (fun i => some (.int (i : Nat))) (fun i => xs[i]?)) := by
  refine ⟨fun i _ hi q => ⟨xs, xs[i], q, List.getElem?_eq_getElem hi⟩, fun _ q => ⟨xs, q, rfl⟩, fun i H v H' _ q y => ?_⟩
  obtain ⟨T, x, h1, h2, h3, h4⟩ := y
  exact ⟨T, .int (i : Nat), x, h1, h2, h3, rfl, h4 xs q⟩
/-- a dict comprehension over it -/
theorem dc_it {J : It} {n : Nat} {G : Hp → Prop} {Y : Nat → Hp → V → Hp → Prop} (w : Walk J n G Y) {g : TG} {tt : TT} {tk tv : TE} {vs : List Nat} {σ : L2.St} {H1 : Hp} {D : Addr} {Q : VK} (Pv : Nat → Hp → Prop) (h0 : Pv 0 (upd H1 D (.dK []))) (hG : ∀ i H, i ≤ n → Pv i H → G H)
    (hs : ∀ i x H H', i < n → Pv i H → Y i H x H' → g x (wipe σ vs) H' fun σ2 H2 => wipe σ2 vs = wipe σ vs ∧ tt σ2 H2 fun b H3 =>
      if b = true then tk σ2 H3 fun y H4 => tv σ2 H4 fun z H5 => ∃ kvs k, y = kV k ∧ H5 D = some (.dK kvs) ∧ kvs.length < sizeLine ∧ Pv (i + 1) (upd H5 D (.dK (putK kvs k z))) else Pv (i + 1) H3) (hd : ∀ H, Pv n H → Q (.ref D) H) :
    ∃ W : Nat → Nat → Hp → Prop, (∃ m, W 0 m (upd H1 D (.dK []))) ∧ ∀ i m H, W i m H →
      (J.stop i H ∧ Q (.ref D) H) ∨ (J.go i H ∧ ∃ Nx : Hp → Prop, (∀ H', Nx H' → ∃ m', m' < m ∧ W (i + 1) m' H') ∧ ∀ x H', J.yld i H x H' → g x (wipe σ vs) H' fun σ2 H2 => wipe σ2 vs = wipe σ vs ∧ tt σ2 H2 fun b H3 =>
        if b = true then tk σ2 H3 fun y H4 => tv σ2 H4 fun z H5 => ∃ kvs k, y = kV k ∧ H5 D = some (.dK kvs) ∧ kvs.length < sizeLine ∧ Nx (upd H5 D (.dK (putK kvs k z))) else Nx H3) := by
  refine ⟨fun i m H => m = n - i ∧ i ≤ n ∧ Pv i H, ⟨n, by simp, Nat.zero_le _, h0⟩, ?_⟩
  rintro i m H ⟨rfl, hi, p⟩
  have q := hG i H hi p
  by_cases hlt : i < n
  · exact .inr ⟨w.goes i H hlt q, Pv (i + 1), fun H' p' => ⟨n - (i + 1), by omega, rfl, hlt, p'⟩, fun x H' y => hs i x H H' hlt p (w.yields i H x H' hlt q y)⟩
  · have e : i = n := by omega
    subst e
    exact .inl ⟨w.stops H q, hd H p⟩
end Mv

set_option Elab.async false
set_option linter.all false
set_option maxRecDepth 100000
set_option maxHeartbeats 4000000
namespace Mv
open PySem PySem.Spec PyProof.Rows L2
/-! ### sorted(range(n), key=lambda at: word[at]) -/
/-- the indexes of a word, by their values, equal ones ascending -/
def bagIx (xs : List Int) : List Nat := (List.range xs.length).mergeSort fun i j => decide (xs.getD i 0 ≤ xs.getD j 0)
theorem bagIx_perm (xs : List Int) : (bagIx xs).Perm (List.range xs.length) := List.mergeSort_perm _ _
theorem bagIx_len (xs : List Int) : (bagIx xs).length = xs.length := by rw [(bagIx_perm xs).length_eq, List.length_range]
theorem bagIx_lt {xs : List Int} {i : Nat} (h : i ∈ bagIx xs) : i < xs.length := List.mem_range.mp ((bagIx_perm xs).mem_iff.mp h)
theorem range_get (xs : List Int) : (List.range xs.length).map (fun i => xs.getD i 0) = xs := by
  apply List.ext_getElem?
  intro i
  rw [List.getElem?_map]
  by_cases h : i < xs.length
  · rw [List.getElem?_range h, List.getElem?_eq_getElem h]
    simp [List.getD_eq_getElem?_getD, List.getElem?_eq_getElem h]
  · rw [List.getElem?_eq_none (by rw [List.length_range]; omega), List.getElem?_eq_none (by omega)]
    rfl
theorem bagIx_vals (xs : List Int) : (bagIx xs).map (fun i => xs.getD i 0) = sortI xs := by
  refine sort_is ?_ ?_
  · have h := (bagIx_perm xs).map (fun i => xs.getD i 0)
    rw [range_get] at h
    exact h
  · rw [List.pairwise_map]
    have h := List.pairwise_mergeSort (le := fun i j => decide (xs.getD i 0 ≤ xs.getD j 0)) (by
      intro a b c h1 h2
      have h1 := of_decide_eq_true h1
      have h2 := of_decide_eq_true h2
      exact decide_eq_true (Int.le_trans h1 h2)) (by
      intro a b
      rcases Int.le_total (xs.getD a 0) (xs.getD b 0) with q | q
      · rw [decide_eq_true q]; rfl
      · rw [decide_eq_true q, Bool.or_true]) (List.range xs.length)
    exact h.imp fun {a b} q => of_decide_eq_true q
section
variable {prog : Program} {w : World} {A : Around} {s : Shared}
/-- lambda at: word[at], called -/
theorem lam_key {f c' c p : Addr} {q : Str} {params : Arguments} {scope : Scope} {cl : List (Str × Addr)} {pm ctv : Value} {p1 p2 p3 : Pos} {its : List Value} {i : Nat} {t u : Tok} {n : Int}
    (hroom : A.depth < recursionLimit) (nl : s.heap.NoLimit) (ho : s.heap.get? f = some (PySem.W.kla_obj "<lambda>" q params (.Subscript (.Name "word" p1) (.Name "at" p2) p3) scope cl pm c' ctv))
    (hcd : s.heap.CodeRec (.ref c') q) (hsc : scope.names = [(("at" : Str), NameKind.local), (("word" : Str), NameKind.free)]) (hk : scope.kind = .function) (hco : scope.isCoroutine = false) (hgen : scope.isGenerator = false)
    (hbind : ∀ v : Value, bindArgs (PySem.W.kla_fn "<lambda>" q params (.Subscript (.Name "word" p1) (.Name "at" p2) p3) scope cl pm (.ref c') ctv) ⟨[v], []⟩ = pure [(("at" : Str), v)])
    (hcl : cl.lookup ("word" : Str) = some c) (hcell : s.heap.IsCell c (some (.ref p))) (hseq : s.heap.IsTuple p its.toArray ∨ s.heap.IsList p its.toArray) (hz : its.length ≤ sizeLine) (hat : its[i]? = some (.int n u)) :
    wpAny (model prog w) A (call (.ref f) [.int (i : Nat) t]) (PySem.W.KeyPure (.int n) s) (fun _ _ => False) s := by
  have hi : i < its.length := (List.getElem?_eq_some_iff.mp hat).1
  have hz63 : its.length < 2 ^ 63 := by
    rw [sizeLine_eq] at hz
    omega
  refine wpAny_call (PySem.W.kla_callFunE hroom ho rfl hco hgen rfl hcd ?_)
  rw [hbind]
  refine wpAny_pure (wpAny_newFunctionEnv (by rw [hsc]; decide) (by rw [hsc]; intro y hy; rw [List.mem_singleton.mp hy]; rfl) (fun h₁ hns hsb => ⟨nl.fresh _ hsb, ?_⟩) hk)
  have kp : ∀ b o, s.heap.get? b = some o → h₁.get? b = some o := fun b o e => hsb.extBut b o (Nat.ne_of_lt (Heap.lt_size e)) (Heap.get?_push_of_some _ e)
  show codeAny _ _ (.expr _ (PySem.W.envX q scope s.heap.objs.size f (.ref c') cl)) _ _
  refine PySem.W.kla_codeExpr ?_
  obtain ⟨oc, hoc, hdc⟩ := hcell
  have kn1 : (PySem.W.envX q scope s.heap.objs.size f (.ref c') cl).kindOf "word" = some .free := by
    show scope.names.lookup _ = _
    rw [hsc]
    rfl
  have kn2 : (PySem.W.envX q scope s.heap.objs.size f (.ref c') cl).kindOf "at" = some .local := by
    show scope.names.lookup _ = _
    rw [hsc]
    rfl
  refine Subscript_ (wpAny_Name (wpAny_loadName_free hk kn1 hcl ⟨oc, kp _ _ hoc, hdc⟩ ?_) (by decide))
  refine wpAny_Name (wpAny_loadName_local (v := .int (i : Nat) t) hk kn2 hns rfl ?_) (by decide)
  have fin : PySem.W.KeyPure (.int n) s (.int n u) { s with heap := h₁, toks := s.toks + [(("at" : Str), Value.int (i : Nat) t)].length } := ⟨h₁, _, rfl, kp, .int n u⟩
  rcases hseq with ⟨o, h1, h2, m, h3⟩ | hl
  · refine subscriptTail_builtinR (x := .int n u) ⟨o, kp _ _ h1, h2⟩ slot_tuple_getitem.lookup (getItem_tuple (j := i) ⟨o, kp _ _ h1, h2, m, h3⟩ (by omega) (by omega) ?_ ?_ ⟨rfl, fin⟩)
    · rw [List.size_toArray]
      exact seqIndex_of (Int.natCast_nonneg _) (by omega)
    · rw [List.getElem?_toArray]
      exact hat
  · exact item_listR (x := .int n u) (hl.at fun o e => kp _ _ e) (Int.natCast_nonneg _) (by omega) (by rw [Int.toNat_natCast, List.getElem?_toArray]; exact hat) fin
end
theorem each_vals {out : List Value} {is : List Nat} (e : PySem.W.EachIs (fun v (i : Nat) => ∃ t, v = .int (i : Nat) t) out is) : Vals (is.map fun i => V.int (i : Nat)) out := by
  induction e with
  | nil => exact .nil
  | cons h _ ih =>
    obtain ⟨t, rfl⟩ := h
    exact .cons ⟨t, rfl⟩ ih
section
variable {X : Cx} {pins : List (Addr × Obj)} {σ : L2.St} {H : Hp} {s : Shared} {Q : VK}
/-- sorted(v, key=f), v collected as the ints vs, f a pure key -/
theorem sorted_key_from (I : Inv X pins σ H s) {v : Value} {f : Addr} {n : Nat} {key : Nat → Int} (hz : n ≤ sizeLine) (hu : X.A.units + 2 < cLine)
    (hc : ∀ R : List Value → Shared → Prop, (∀ (h' : Heap) (tk : Nat) (acc : List Value), (∀ b o, s.heap.get? b = some o → h'.get? b = some o) → PySem.W.EachIs (fun v (i : Nat) => ∃ t, v = .int (i : Nat) t) acc (List.range n) → R acc { s with heap := h', toks := tk }) → wpAny (model X.prog X.w) X.A.in1 (collect v) R X.xe s)
    (turn : ∀ (i : Nat) (t : Tok) (h : Heap) (tk : Nat), i < n → (∀ b o, s.heap.get? b = some o → h.get? b = some o) → wpAny (model X.prog X.w) X.A.in1.in1 (call (.ref f) [.int (i : Nat) t]) (PySem.W.KeyPure (.int (key i)) { s with heap := h, toks := tk }) (fun _ _ => False) { s with heap := h, toks := tk })
    (q : ∀ p : Addr, H p = none → Q (.ref p) (upd H p (.lst (((List.range n).mergeSort fun i j => decide (key i ≤ key j)).map fun i => V.int (i : Nat))))) :
    wpAny (model X.prog X.w) X.A (call (.builtin "sorted") [v] [(Str.ofString "key", .ref f)]) (EP X pins σ Q) X.xe s := by
  refine call_function_entry_kw kind_sorted plain_sorted entry_sorted (ksk_s1 _ _) ?_
  unfold Builtin.«sorted»
  refine wpAny_bind (m := checkCount "sorted" 1 1 _) (wpAny_pure (wpAny_bind (hc _ fun h' tk acc hk hi => ?_)))
  have I1 : Inv X pins σ H { s with heap := h', toks := tk } := I.kept hk
  have hl : acc.length = n := by rw [hi.length, List.length_range]
  refine wpAny_bind (wpAny_newList ?_ (by rw [hl]; exact hz))
  have hoL : (h'.push (seqObj "list" acc.toArray 0)).get? h'.objs.size = some (seqObj "list" acc.toArray 0) := Heap.get?_push_size _ rfl
  show wpAny _ _ _ _ _ { s with heap := h'.push (seqObj "list" acc.toArray 0), toks := tk }
  refine wpAny_bind (wpAny_holding (wpAny_call_entry_kw slot_list_sort ⟨_, hoL, rfl⟩ entry_list_sort ?_ (ksk_l1 _ _)))
  rw [ksk_t1]
  have up : ∀ {g : Heap}, PySem.W.KeepsBut h'.objs.size (h'.push (seqObj "list" acc.toArray 0)) g → ∀ b o, h'.get? b = some o → g.get? b = some o := fun {g} kp b o e =>
    kp b o (Nat.ne_of_lt (Heap.lt_size e)) (Heap.get?_push_of_some _ e)
  refine PySem.W.keyH_tree (b := false) (kz := (List.range n).map fun i => PyData.int (key i)) (s := { s with heap := h'.push (seqObj "list" acc.toArray 0), toks := tk }) hoL
    (by rw [List.length_map, List.length_range, hl]) (by rw [hl]; exact hz) (PySem.W.AllAlike.of fun _ _ => by simp [PySem.W.alike]) ?_ (PySem.W.bound_map (A := X.A.in1.in1) (bs := List.range n) (enc := fun i => PyData.int (key i)) fun _ _ => ?_)
    (PySem.W.keyH_turns (s := { s with heap := h'.push (seqObj "list" acc.toArray 0), toks := tk }) hi fun v i hv hin h tk2 kp => ?_) fun h3 tk3 out c kp hD ko => ?_
  · exact PySem.W.Sortable.others fun i => ⟨by simp, by simp⟩
  · show X.A.units + 2 + 0 < _
    omega
  · obtain ⟨t, rfl⟩ := hv
    exact turn i t h tk2 (List.mem_range.mp hin) fun b o e => up kp b o (hk b o e)
  · have eo := PySem.W.keyedOut_each (fun i : Nat => PyData.int (key i)) ko hi
    rw [PySem.W.dataLe_int] at eo
    refine ⟨_, rfl, wpAny_pure ⟨_, rfl, .ref h'.objs.size, upd H h'.objs.size (.lst (((List.range n).mergeSort fun i j => decide (key i ≤ key j)).map fun i => V.int (i : Nat))), I1.laid (t' := tk3) (h' := h3) (up kp) (Nat.le_refl _)
      (show ObjOk X.prog X.w _ _ _ (.lst _) from ⟨?_, out, c, ?_, hD⟩), rfl, q _ (I1.hok.fresh (Nat.le_refl _))⟩⟩
    · rw [List.length_map, List.length_mergeSort, List.length_range]
      exact hz
    · exact each_vals eo
end
end Mv

set_option Elab.async false
set_option linter.all false
set_option maxRecDepth 100000
set_option maxHeartbeats 4000000
namespace Mv
open PySem PySem.Spec PyProof.Rows L2
def tSortAt (K : PySem.W.Frag) (T : List (Addr × Str)) (i : Nat) (ta : TE) : TE := fun σ H Q => ta σ H fun x H1 => ∃ (p : Addr) (xs : List Int), σ[i]? = some (some (.ref p)) ∧ x = .int (xs.length : Int) ∧ (SqT K H1 p (xs.map V.int) ∨ SqL K H1 p (xs.map V.int)) ∧ xs.length ≤ 4000 ∧ LamX.Tabs T H1 ∧
  ∀ H2 l, LamX.ExtN H1 H2 → LamX.Tabs T H2 → H2 l = none → Q (.ref l) (upd H2 l (.lst ((bagIx xs).map fun i => V.int (i : Nat))))
theorem sq_extN {K : PySem.W.Frag} {H H1 : Hp} {p : Addr} {xs : List V} (e : LamX.ExtN H H1) (h : SqT K H p xs ∨ SqL K H p xs) : SqT K H1 p xs ∨ SqL K H1 p xs := by
  rcases h with ((h | ⟨o, h⟩) | h) | ((h | ⟨o, h⟩) | h)
  · exact .inl (.inl (.inl (e _ _ h (fun ps z => by cases z))))
  · exact .inl (.inl (.inr ⟨o, e _ _ h (fun ps z => by cases z)⟩))
  · exact .inl (.inr h)
  · exact .inr (.inl (.inl (e _ _ h (fun ps z => by cases z))))
  · exact .inr (.inl (.inr ⟨o, e _ _ h (fun ps z => by cases z)⟩))
  · exact .inr (.inr h)
/-- sorted(range(a), key=lambda at: word[at]) -/
theorem pe_sortAt {X : Cx} {k : Nat} {T : List (Addr × Str)} {c P : Addr} {params : Arguments} {scope : Scope} {i : Nat} {a : Expr} {ta : TE} {p p2 pos pos2 p3 p4 p5 lpos kpos : Pos}
    (hc : X.calm = true) (hr : Room k X.A) (hg : Gl X "sorted") (hm : X.mg "sorted" = none) (hg2 : Gl X "range") (hm2 : X.mg "range" = none) (ha : PE X a ta)
    (TB : LamX.TabB X.base X.mg c P) (hcode : X.env.code = .ref c) (hmT : (P, X.env.qual ++ "<lambda>") ∈ T) (hu : ∀ p ∈ T, p.1 = P → p.2 = X.env.qual ++ "<lambda>") (hN : X.N[i]? = some "word") (hv : X.env.kindOf "word" = some .cell)
    (hdef : defaultsOf params X.env = ([], [])) (hsc : scope.names = [(("at" : Str), NameKind.local), (("word" : Str), NameKind.free)]) (hk : scope.kind = .function) (hco : scope.isCoroutine = false) (hgen : scope.isGenerator = false)
    (hbind : ∀ (q : Str) (cl : List (Str × Addr)) (pm cv ctv v : Value), bindArgs (PySem.W.kla_fn "<lambda>" q params (.Subscript (.Name "word" p3) (.Name "at" p4) p5) scope cl pm cv ctv) ⟨[v], []⟩ = pure [(("at" : Str), v)])
    (na : starEach [a] X.env = (false, eval a X.env) :: starEach [] X.env := by rfl)
    (ne : starEach [.Call (.Name "range" p2) [a] [] pos2] X.env = (false, eval (.Call (.Name "range" p2) [a] [] pos2) X.env) :: starEach [] X.env := by rfl) :
    PE X (.Call (.Name "sorted" p) [.Call (.Name "range" p2) [a] [] pos2] [⟨some "key", .Lambda params (.Subscript (.Name "word" p3) (.Name "at" p4) p5) scope lpos, kpos⟩] pos) (tSortAt X.K T i ta) := by
  refine ⟨fun pins s σ H Q I h => ?_⟩
  refine wpAny_Call_Name_kw (ld_blt I hg hm boot_sorted ?_)
  refine PyProof.Rows.callWith_kw (args_cons (Call_ (ld_blt I hg2 hm2 boot_range (PyProof.Rows.callWith_type1 (one_arg ha I h (fun v s2 x H2 I2 rx q => ?_) na) na))) ne) (by rw [ne]; rfl) (by rw [ne]; rfl) (by rfl) (by rfl)
  obtain ⟨w1, xs, hσ, rfl, hsq, hlen, hT, q⟩ := q
  obtain ⟨t, rfl⟩ := rx
  refine call_range_1 (args_nil ?_)
  generalize ht0 : s2.toks = t0
  generalize hro : ({ cls := .type "range", data := .fields #[.int 0 t0, .int (xs.length : Int) t, .int 1 (t0 + 1)] } : Obj) = ro
  generalize hs3 : ({ s2 with heap := s2.heap.push ro, toks := t0 + 1 + 1 } : Shared) = s3
  have I3 : Inv X pins σ H2 s3 := by
    rw [← hs3]
    exact I2.kept fun b u e => Heap.get?_push_of_some _ e
  have h3r : s3.heap.get? s2.heap.objs.size = some ro := by
    rw [← hs3]
    exact Heap.get?_push_size _ (by rw [← hro]; rfl)
  have hro' : IsRange s3.heap s2.heap.objs.size 0 (xs.length : Int) 1 t0 t (t0 + 1) := by
    rw [← hro] at h3r
    exact h3r
  have I4 : Inv X ((s2.heap.objs.size, ro) :: pins) σ H2 s3 := I3.pins_of fun p hp => by
    rcases List.mem_cons.mp hp with rfl | hp
    · exact ⟨h3r, I2.hok.fresh (Nat.le_refl _), Nat.ne_of_gt I2.lt, I2.nofs (Nat.le_refl _), fun v z => by rw [← hro] at z; cases z⟩
    · exact I3.pin p (List.mem_append_right _ hp)
  clear hs3
  generalize s2.heap.objs.size = r at *
  obtain ⟨c0, hc0⟩ := I.ok.has _ (.inl hv)
  have hfree : ∀ y ∈ scope.names, y.2 = .free → ∃ c, X.env.cells.lookup y.1 = some c := fun y hy e => by
    rw [hsc] at hy
    rcases List.mem_cons.mp hy with rfl | hy
    · cases e
    · rw [List.mem_singleton.mp hy]
      exact ⟨c0, hc0⟩
  show wpAny _ _ (evalAll ((do let v ← eval (.Lambda params (.Subscript (.Name "word" p3) (.Name "at" p4) p5) scope lpos) X.env; standAt pos; pure v) :: [])) _ _ _
  refine wpAny_evalAll_cons (wpAny_bind (LamX.lam_make2 I4 TB hcode hmT hu hT hdef hfree fun f c' pm ctv H3 s4 I5 eN T1 hf hfn hfr hcd => wpAny_bind (wpAny_standAt (wpAny_pure (wpAny_evalAll_nil ?_)))))
  show wpAny _ _ (call (.builtin "sorted") [.ref r] [(Str.ofString "key", .ref f)]) _ _ _
  have hr4 : IsRange s4.heap r 0 (xs.length : Int) 1 t0 t (t0 + 1) := by
    have h4 := (I5.pin (r, ro) (List.mem_append_right _ (List.mem_cons_self ..))).1
    rw [← hro] at h4
    exact h4
  have hsq3 := sq_extN eN hsq
  have hun := hr.units0
  have hzl : xs.length ≤ sizeLine := small4000' hlen
  have eRs : Builtin.Range.rangeSize 0 (xs.length : Int) 1 = ((xs.length : Nat) : Int).toNat := by
    have := rangeSize_nat 0 (xs.length : Int)
    rw [Int.sub_zero] at this
    exact this
  obtain ⟨oc, vs, tq, hoc, hdc, hvc⟩ := (I5.hok c' _ hcd).1
  -- the word as the machine has it
  obtain ⟨its, rv, hseq⟩ : ∃ its : List Value, Vals (xs.map V.int) its ∧ (s4.heap.IsTuple w1 its.toArray ∨ s4.heap.IsList w1 its.toArray) := by
    rcases hsq3 with z | z
    · obtain ⟨its, rv, ⟨o, h1, h2, n, h3⟩, _⟩ := I5.tuple z
      exact ⟨its, rv, .inl ⟨o, h1, h2, n, h3⟩⟩
    · obtain ⟨its, rv, pl, _⟩ := I5.list z
      exact ⟨its, rv, .inr pl.isList⟩
  have hil : its.length = xs.length := by
    rw [← rv.length, List.length_map]
  obtain ⟨m, hns, hl⟩ := I5.loc
  have hcell : s4.heap.IsCell c0 (some (.ref w1)) := by
    obtain ⟨u, ru, lk⟩ := hl i "word" (.ref w1) hN hσ (.inr (.inl hv))
    obtain rfl : u = Value.ref w1 := ru
    rcases lk with ⟨z, _⟩ | ⟨_, c2, e2, hc2⟩
    · rw [hv] at z
      cases z
    · rw [hc0] at e2
      cases e2
      exact hc2
  refine wpAny_mono (sorted_key_from (n := xs.length) (key := fun i => xs.getD i 0) (Q := Q) I5 hzl (by have := hr.units; omega) (fun R kR => ?_) (fun j tj hp tk hj kp => ?_) (fun l hl2 => q H3 l eN T1 hl2)) (fun v s5 hv5 => ?_) fun _ _ z => z
  · refine collect_range (n := xs.length) (by exact I5.ok.hd hc) hr4 (small_one (by omega) (by omega) (by omega) (by omega)) (by rw [eRs, Int.toNat_natCast]) (by omega) fun h' tk acc k1 k2 => kR h' tk acc.toList k1 ?_
    refine PySem.W.EachIs.of_zip (by rw [Array.length_toList, k2.1, List.length_range]) fun pr hpr => ?_
    obtain ⟨j, hj⟩ := List.getElem?_of_mem hpr
    obtain ⟨e1, e2⟩ := List.getElem?_zip_eq_some.mp hj
    rw [Array.getElem?_toList] at e1
    obtain ⟨tt, e3⟩ := k2.2 j _ e1
    have hj2 : j < xs.length := by
      have := (List.getElem?_eq_some_iff.mp e2).1
      rw [List.length_range] at this
      exact this
    rw [List.getElem?_range hj2] at e2
    refine ⟨tt, ?_⟩
    rw [e3, ← Option.some.inj e2, Int.zero_add, Int.mul_one]
  · have e1 : (xs.map V.int)[j]? = some (.int (xs.getD j 0)) := by
      rw [List.getElem?_map, List.getElem?_eq_getElem hj, List.getD_eq_getElem?_getD, List.getElem?_eq_getElem hj]
      rfl
    obtain ⟨u, hu1, ⟨tu, rfl⟩⟩ := rv.get e1
    refine lam_key (s := { s4 with heap := hp, toks := tk }) (A := X.A.in1.in1) hr.depth (I5.nolimit.keeps kp) (kp _ _ hf) ⟨c', oc, vs, tq, rfl, kp _ _ hoc, hdc, hvc⟩ hsc hk hco hgen (hbind _ _ _ _ _) (c := c0) ?_ ?_ (p := w1) (its := its) ?_ (by rw [hil]; exact hzl) hu1
    · rw [hsc]
      show (cloFrom X.env.cells [(("word" : Str), NameKind.free)] []).lookup _ = _
      show List.lookup _ [(("word" : Str), (X.env.cells.lookup ("word" : Str)).getD 0)] = _
      rw [hc0]
      rfl
    · obtain ⟨o1, h1, h2⟩ := hcell
      exact ⟨o1, kp _ _ h1, h2⟩
    · rcases hseq with ⟨o, h1, h2, n, h3⟩ | z
      · exact .inl ⟨o, kp _ _ h1, h2, n, h3⟩
      · exact .inr (z.at fun o e => kp _ _ e)
  · obtain ⟨v2, H5, J, rv5, q5⟩ := hv5
    exact ⟨v2, H5, J.pins_of fun p hp => J.pin p (List.mem_append_right _ (List.mem_cons_of_mem _ hp)), rv5, q5⟩
end Mv

set_option Elab.async false
set_option linter.all false
set_option maxRecDepth 100000
set_option maxHeartbeats 1000000
namespace Mv
open PySem PySem.Spec PyProof.Rows L2
/-! ### the kept indexes -/
theorem getD_at {xs : List Int} {i : Nat} (h : i < xs.length) : xs.getD i 0 = xs[i] := by
  rw [List.getD_eq_getElem?_getD, List.getElem?_eq_getElem h]
  rfl
theorem idx_get {xs : List Int} {x : Int} (h : x ∈ xs) : xs.getD (xs.idxOf x) 0 = x := by
  rw [getD_at (List.idxOf_lt_length_iff.mpr h)]
  exact List.getElem_idxOf _
theorem get_ixs {xs ys : List Int} (h : ∀ y ∈ ys, y ∈ xs) : (ys.map xs.idxOf).map (fun i => xs.getD i 0) = ys := by
  rw [List.map_map]
  conv => rhs; rw [← List.map_id ys]
  exact List.map_congr_left fun y hy => idx_get (h y hy)
theorem idx_app {xs : List Int} {x y : Int} (h : y ∈ xs) : (xs ++ [x]).idxOf y = xs.idxOf y := by
  rw [List.idxOf_append, if_pos h]
theorem idx_new {xs : List Int} {x : Int} (h : x ∉ xs) : (xs ++ [x]).idxOf x = xs.length := by
  rw [List.idxOf_append, if_neg h]
  simp
theorem ixs_asc (xs : List Int) : ((headsI xs).map xs.idxOf).Pairwise (· < ·) := by
  induction xs using snoc_ind with
  | h0 => exact .nil
  | hs xs x ih =>
    have e : (headsI xs).map (xs ++ [x]).idxOf = (headsI xs).map xs.idxOf := List.map_congr_left fun y hy => idx_app ((mem_headsI xs).mp hy)
    rw [headsI_snoc]
    unfold addI
    split
    · rw [e]
      exact ih
    · rename_i hx
      rw [List.map_append, e, List.map_singleton, idx_new (fun z => hx ((mem_headsI xs).mpr z))]
      refine List.pairwise_append.mpr ⟨ih, List.pairwise_singleton _ _, fun a ha b hb => ?_⟩
      rw [List.mem_singleton.mp hb]
      obtain ⟨y, hy, rfl⟩ := List.mem_map.mp ha
      exact List.idxOf_lt_length_iff.mpr ((mem_headsI xs).mp hy)
/-- where x stands last -/
def lastIx (xs : List Int) (x : Int) : Nat := xs.length - 1 - xs.reverse.idxOf x
theorem lastIx_snoc (xs : List Int) (x y : Int) (h : y = x ∨ y ∈ xs) : lastIx (xs ++ [x]) y = if y = x then xs.length else lastIx xs y := by
  unfold lastIx
  rw [List.reverse_append, List.length_append, List.length_singleton]
  show xs.length + 1 - 1 - List.idxOf y (x :: xs.reverse) = _
  rw [List.idxOf_cons]
  by_cases e : y = x
  · subst e
    simp
  · rw [if_neg e]
    have hb : (x == y) = false := beq_eq_false_iff_ne.mpr (Ne.symm e)
    rw [hb]
    show xs.length + 1 - 1 - (List.idxOf y xs.reverse + 1) = _
    omega
theorem lastIx_lt {xs : List Int} {x : Int} (h : x ∈ xs) : lastIx xs x < xs.length := by
  have := List.length_pos_of_mem h
  unfold lastIx
  omega
theorem lastIx_get {xs : List Int} {x : Int} (h : x ∈ xs) : xs.getD (lastIx xs x) 0 = x := by
  have h1 : xs.reverse.idxOf x < xs.reverse.length := List.idxOf_lt_length_iff.mpr (List.mem_reverse.mpr h)
  have h2 := lastIx_lt h
  rw [getD_at h2]
  have e := List.getElem_idxOf h1
  rw [List.getElem_reverse] at e
  exact e
/-- the tails' indexes -/
def tailIx (xs : List Int) : List Nat := ((headsI xs.reverse).map (lastIx xs)).reverse
theorem tailIx_asc (xs : List Int) : (tailIx xs).Pairwise (· < ·) := by
  unfold tailIx
  rw [List.pairwise_reverse, List.pairwise_map]
  have h := ixs_asc xs.reverse
  rw [List.pairwise_map] at h
  refine List.Pairwise.imp_of_mem (fun {a b} ha hb hab => ?_) h
  have h1 : xs.reverse.idxOf b < xs.length := by
    have := List.idxOf_lt_length_iff.mpr ((mem_headsI xs.reverse).mp hb)
    rw [List.length_reverse] at this
    exact this
  unfold lastIx
  omega
theorem tailIx_vals (xs : List Int) : (tailIx xs).map (fun i => xs.getD i 0) = tailsI xs := by
  unfold tailIx tailsI
  rw [List.map_reverse, List.map_map]
  congr 1
  conv => rhs; rw [← List.map_id (headsI xs.reverse)]
  exact List.map_congr_left fun y hy => lastIx_get (List.mem_reverse.mp ((mem_headsI _).mp hy))
theorem intsOf_asc {is : List Nat} (h : is.Pairwise (· < ·)) : (is.map fun i : Nat => (i : Int)).Pairwise (· ≤ ·) := by
  rw [List.pairwise_map]
  exact h.imp fun {a b} q => by omega
theorem sort_ixs (xs : List Int) : sortI ((headsI xs).map fun x => ((xs.idxOf x : Nat) : Int)) = ((headsI xs).map xs.idxOf).map fun i : Nat => (i : Int) := by
  refine (sort_is ?_ (intsOf_asc (ixs_asc xs))).symm
  rw [List.map_map]
  exact List.Perm.refl _
theorem sort_last (xs : List Int) : sortI ((headsI xs).map fun x => ((lastIx xs x : Nat) : Int)) = (tailIx xs).map fun i : Nat => (i : Int) := by
  refine (sort_is ?_ (intsOf_asc (tailIx_asc xs))).symm
  unfold tailIx
  rw [List.map_reverse, List.map_map]
  refine (List.reverse_perm _).trans ?_
  refine List.Perm.map _ (perm_of_mem (nodup_headsI _) (nodup_headsI _) fun x => ?_)
  rw [mem_headsI, mem_headsI, List.mem_reverse]
/-- what keep gives -/
def keepIx (k : Kd) (xs : List Int) : List Nat :=
  match k with
  | .list => List.range xs.length
  | .bag => bagIx xs
  | .set => (sortI (headsI xs)).map xs.idxOf
  | .first => if xs.length = 0 then [] else [0]
  | .last => if xs.length = 0 then [] else [xs.length - 1]
  | .ends => if xs.length = 0 then [] else [0, xs.length - 1]
  | .heads => (headsI xs).map xs.idxOf
  | .tails => tailIx xs
theorem keep_vals (k : Kd) (xs : List Int) : (keepIx k xs).map (fun i => xs.getD i 0) = plainI k xs := by
  have hlast : xs.length ≠ 0 → xs.drop (xs.length - 1) = [xs.getD (xs.length - 1) 0] := fun h => by
    rw [getD_at (by omega), List.drop_eq_getElem_cons (by omega), show xs.length - 1 + 1 = xs.length from by omega, List.drop_length]
  have hfst : xs.length ≠ 0 → xs.take 1 = [xs.getD 0 0] := fun h => by
    cases xs with
    | nil => exact absurd rfl h
    | cons x r => rfl
  have hnil : xs.length = 0 → xs = [] := List.length_eq_zero_iff.mp
  cases k with
  | list => exact range_get xs
  | bag => exact bagIx_vals xs
  | set => exact get_ixs fun y hy => (mem_headsI xs).mp (mem_sort.mp hy)
  | heads => exact get_ixs fun y hy => (mem_headsI xs).mp hy
  | tails => exact tailIx_vals xs
  | first =>
    show (if xs.length = 0 then [] else [0]).map _ = firstI xs
    split
    · rename_i h
      rw [hnil h]
      rfl
    · rename_i h
      exact (hfst h).symm
  | last =>
    show (if xs.length = 0 then [] else [xs.length - 1]).map _ = lastI xs
    split
    · rename_i h
      rw [hnil h]
      rfl
    · rename_i h
      exact (hlast h).symm
  | ends =>
    show (if xs.length = 0 then [] else [0, xs.length - 1]).map _ = endsI xs
    split
    · rename_i h
      rw [hnil h]
      rfl
    · rename_i h
      unfold endsI
      rw [hfst h, hlast h]
      rfl
theorem keep_lt {k : Kd} {xs : List Int} {i : Nat} (h : i ∈ keepIx k xs) : i < xs.length := by
  cases k with
  | list => exact List.mem_range.mp h
  | bag => exact bagIx_lt h
  | set =>
    obtain ⟨y, hy, rfl⟩ := List.mem_map.mp h
    exact List.idxOf_lt_length_iff.mpr ((mem_headsI xs).mp (mem_sort.mp hy))
  | heads =>
    obtain ⟨y, hy, rfl⟩ := List.mem_map.mp h
    exact List.idxOf_lt_length_iff.mpr ((mem_headsI xs).mp hy)
  | tails =>
    obtain ⟨y, hy, rfl⟩ := List.mem_map.mp (List.mem_reverse.mp h)
    exact lastIx_lt (List.mem_reverse.mp ((mem_headsI _).mp hy))
  | first =>
    revert h
    show i ∈ (if xs.length = 0 then [] else [0]) → _
    split
    · exact fun h => by cases h
    · intro h
      rw [List.mem_singleton.mp h]
      omega
  | last =>
    revert h
    show i ∈ (if xs.length = 0 then [] else [xs.length - 1]) → _
    split
    · exact fun h => by cases h
    · intro h
      rw [List.mem_singleton.mp h]
      omega
  | ends =>
    revert h
    show i ∈ (if xs.length = 0 then [] else [0, xs.length - 1]) → _
    split
    · exact fun h => by cases h
    · intro h
      rcases List.mem_cons.mp h with h | h
      · omega
      · rw [List.mem_singleton.mp h]
        omega
theorem keep_len {k : Kd} {xs : List Int} : (keepIx k xs).length = (plainI k xs).length := by rw [← keep_vals, List.length_map]
/-! ### the dicts by the values -/
def leastD (xs : List Int) (i : Nat) : List (Key × V) := (headsI (xs.take i)).map fun x => (Sum.inl x, V.int ((xs.idxOf x : Nat) : Int))
def greatD (xs : List Int) (i : Nat) : List (Key × V) := (headsI (xs.take i)).map fun x => (Sum.inl x, V.int ((lastIx (xs.take i) x : Nat) : Int))
theorem val_map (g : Int → V) (y : Int) : ∀ ys : List Int, valV (ys.map fun x => ((Sum.inl x : Key), g x)) (.inl y) = if y ∈ ys then some (g y) else none
  | [] => rfl
  | x :: ys => by
    rw [List.map_cons]
    by_cases e : x = y
    · subst e
      rw [valV_pos rfl, if_pos (List.mem_cons_self ..)]
    · rw [valV_neg (fun z => e (Sum.inl.inj z)), val_map g y ys]
      by_cases h : y ∈ ys
      · rw [if_pos h, if_pos (List.mem_cons_of_mem _ h)]
      · rw [if_neg h, if_neg]
        intro z
        rcases List.mem_cons.mp z with z | z
        · exact e z.symm
        · exact h z
theorem take_succ_at {xs : List Int} {i : Nat} {x : Int} (h : xs[i]? = some x) : xs.take (i + 1) = xs.take i ++ [x] := by
  rw [List.take_add_one, h]
  rfl
theorem least_hit {xs : List Int} {i : Nat} {x : Int} (h : xs[i]? = some x) (hx : x ∈ xs.take i) : leastD xs (i + 1) = leastD xs i := by
  unfold leastD
  rw [take_succ_at h, headsI_snoc]
  unfold addI
  rw [if_pos ((mem_headsI _).mpr hx)]
theorem least_new {xs : List Int} {i : Nat} {x : Int} (h : xs[i]? = some x) (hx : x ∉ xs.take i) : leastD xs (i + 1) = putK (leastD xs i) (.inl x) (.int (i : Nat)) := by
  have hv : valV (leastD xs i) (.inl x) = none := by
    unfold leastD
    rw [val_map, if_neg fun z => hx ((mem_headsI _).mp z)]
  rw [putK_new _ hv]
  unfold leastD
  rw [take_succ_at h, headsI_snoc]
  unfold addI
  rw [if_neg fun z => hx ((mem_headsI _).mp z), List.map_append, List.map_singleton]
  have hi : i < xs.length := (List.getElem?_eq_some_iff.mp h).1
  have e : xs.idxOf x = i := by
    have e1 : xs = xs.take i ++ xs.drop i := (List.take_append_drop i xs).symm
    have e2 : xs.drop i = x :: xs.drop (i + 1) := by
      rw [List.drop_eq_getElem_cons hi, (List.getElem?_eq_some_iff.mp h).2]
    rw [e1, List.idxOf_append, if_neg hx, e2, List.idxOf_cons_self, List.length_take, Nat.zero_add]
    omega
  rw [e]
theorem great_put {xs : List Int} {i : Nat} {x : Int} (h : xs[i]? = some x) : greatD xs (i + 1) = putK (greatD xs i) (.inl x) (.int (i : Nat)) := by
  have hi : i < xs.length := (List.getElem?_eq_some_iff.mp h).1
  have hl : (xs.take i).length = i := by
    rw [List.length_take]
    omega
  have hL : ∀ y, y = x ∨ y ∈ xs.take i → lastIx (xs.take (i + 1)) y = if y = x then i else lastIx (xs.take i) y := fun y hy => by
    rw [take_succ_at h, lastIx_snoc _ _ _ hy, hl]
  have hm := fun y => mem_headsI (y := y) (xs.take i)
  by_cases hx : x ∈ xs.take i
  · unfold greatD
    rw [show headsI (xs.take (i + 1)) = headsI (xs.take i) from by
      rw [take_succ_at h, headsI_snoc]
      unfold addI
      rw [if_pos ((hm x).mpr hx)]]
    unfold putK
    rw [if_pos, List.map_map]
    · refine List.map_congr_left fun y hy => ?_
      rw [hL y (.inr ((hm y).mp hy))]
      show _ = if (Sum.inl y : Key) = Sum.inl x then _ else _
      by_cases e : y = x
      · subst e
        rw [if_pos rfl, if_pos rfl]
      · rw [if_neg e, if_neg fun z => e (Sum.inl.inj z)]
    · rw [valV_any, val_map, if_pos ((hm x).mpr hx)]
      rfl
  · have hv : valV (greatD xs i) (.inl x) = none := by
      unfold greatD
      rw [val_map, if_neg fun z => hx ((hm x).mp z)]
    rw [putK_new _ hv]
    unfold greatD
    rw [show headsI (xs.take (i + 1)) = headsI (xs.take i) ++ [x] from by
      rw [take_succ_at h, headsI_snoc]
      unfold addI
      rw [if_neg fun z => hx ((hm x).mp z)], List.map_append, List.map_singleton, hL x (.inl rfl), if_pos rfl]
    congr 1
    refine List.map_congr_left fun y hy => ?_
    have hy := (hm y).mp hy
    rw [hL y (.inr hy), if_neg fun z : y = x => hx (z ▸ hy)]
theorem leastD_len (xs : List Int) (i : Nat) : (leastD xs i).length ≤ i := by
  unfold leastD
  rw [List.length_map]
  refine Nat.le_trans (headsI_len _) ?_
  rw [List.length_take]
  omega
theorem greatD_len (xs : List Int) (i : Nat) : (greatD xs i).length ≤ i := by
  unfold greatD
  rw [List.length_map]
  refine Nat.le_trans (headsI_len _) ?_
  rw [List.length_take]
  omega
end Mv

set_option Elab.async false
set_option linter.all false
set_option maxRecDepth 100000
set_option maxHeartbeats 4000000
namespace Mv
open PySem PySem.Spec PyProof.Rows L2
/-! ### t[::-1], t a tuple: a new tuple -/
section
variable {prog : Program} {w : World} {A : Around} {E : Value → Shared → Prop} {s : Shared}
theorem sliceApplied_back {sl : Addr} {vl vu vs : Value} {n : Nat} {Q : Int × Int × Nat → Shared → Prop} (hs : s.heap.IsSliceOf sl vl vu vs) (pl : IsPart vl none) (pu : IsPart vu none) (ps : IsPart vs (some (-1)))
    (h : Q ((n : Int) - 1, -1, n) s) : wpAny (model prog w) A (Builtin.Slice.sliceApplied (.ref sl) (pure (n : Int))) Q E s := by
  obtain ⟨os, hos, hcs, hds⟩ := id hs
  unfold Builtin.Slice.sliceApplied Builtin.Slice.sliceFields
  refine wpAny_bind (wpAny_bind (wpAny_field hos hds (x := vl) rfl (wpAny_bind (wpAny_field hos hds (x := vu) rfl (wpAny_bind (wpAny_field hos hds (x := vs) rfl (wpAny_pure ?_)))))))
  refine wpAny_bind (HT.slicePart_ ps ?_)
  show wpAny _ _ (if ((-1 : Int) == 0) = true then _ else _) _ _ s
  rw [if_neg (by decide)]
  refine wpAny_bind (HT.slicePart_ pl (wpAny_bind (HT.slicePart_ pu (wpAny_bind (wpAny_pure ?_)))))
  show wpAny _ _ (match Builtin.Slice.sliceAdjust none none (-1) (n : Int) with | (lo, hi) => pure (lo, (-1 : Int), Builtin.Slice.slicePlaces lo hi (-1))) _ _ s
  have e1 : Builtin.Slice.sliceAdjust none none (-1) (n : Int) = ((n : Int) - 1, -1) := rfl
  have e2 : Builtin.Slice.slicePlaces ((n : Int) - 1) (-1) (-1) = n := by
    unfold Builtin.Slice.slicePlaces
    rw [if_neg (by decide), show (- -1 : Int) = 1 by decide, Int.ediv_one]
    split <;> omega
  rw [e1]
  show wpAny _ _ (pure ((n : Int) - 1, (-1 : Int), Builtin.Slice.slicePlaces ((n : Int) - 1) (-1) (-1))) _ _ s
  rw [e2]
  exact wpAny_pure h
theorem fm_congr {α β : Type} {f g : α → Option β} : ∀ {l : List α}, (∀ k ∈ l, f k = g k) → l.filterMap f = l.filterMap g
  | [], _ => rfl
  | x :: l, h => by rw [List.filterMap_cons, List.filterMap_cons, h x List.mem_cons_self, fm_congr fun k hk => h k (List.mem_cons_of_mem _ hk)]
theorem pick_back (xs : Array Value) : ((List.range xs.size).filterMap fun (k : Nat) => xs[((xs.size : Int) - 1 + (k : Int) * (-1)).toNat]?).toArray = xs.toList.reverse.toArray := by
  have h := PySem.W.krv_pick xs
  have e : (List.range xs.size).filterMap (fun (k : Nat) => xs[((xs.size : Int) - 1 + (k : Int) * (-1)).toNat]?) = ((List.range xs.size).map fun k => xs.size - 1 - k).filterMap (xs[·]?) := by
    rw [List.filterMap_map]
    refine fm_congr fun k hk => ?_
    have := List.mem_range.mp hk
    show xs[_]? = xs[xs.size - 1 - k]?
    congr 1
    omega
  rw [e, PySem.W.krv_range, List.filterMap_reverse, PySem.W.krv_all]
theorem getItem_tuple_back {t sl : Addr} {items : Array Value} {vl vu vs : Value} {Q : Value → Shared → Prop} (ht : IsTup s.heap t items) (hs : s.heap.IsSliceOf sl vl vu vs) (pl : IsPart vl none) (pu : IsPart vu none) (ps : IsPart vs (some (-1)))
    (h : Q (.ref s.heap.objs.size) { s with heap := s.heap.push { cls := .type "tuple", data := .seq items.toList.reverse.toArray } }) (hsz : items.size ≤ sizeLine) : wpAny (model prog w) A (getItem (.ref t) (.ref sl)) Q E s := by
  have htake : sizeOk (.seq items.toList.reverse.toArray) := by
    show items.toList.reverse.toArray.size ≤ sizeLine
    rw [List.size_toArray, List.length_reverse, Array.length_toList]
    exact hsz
  obtain ⟨os, hos, hcs, hds⟩ := id hs
  have hTs : s.TypeIs (.ref sl) "slice" := ⟨os, hos, hcs⟩
  unfold getItem
  try with_reducible refine wpAny_holding ?_
  first | refine wpAny_bind (wpAny_pure ?_) | skip
  refine wpAny_bind (wpAny_sequenceKey ht.typeIs (by decide) ?_)
  refine wpAny_bind (wpAny_callSpecial?_slot (name := Str.ofString "__getitem__") ht.typeIs PyProof.Rows.slot_tuple_getitem
    (wpAny_call_entry PyProof.Rows.slot_tuple_getitem ht.typeIs entry_tuple_getitem ?_ (args_tuple_getitem _ _)))
  show wpAny _ _ (Builtin.Tuple.tupleItemsOf (.ref t) >>= _) _ _ s
  refine wpAny_bind (tupleItemsOf_ ht ?_)
  refine wpAny_bind (wpAny_typeOf hTs ?_)
  rw [if_pos (by decide)]
  refine wpAny_bind (sliceApplied_back hs pl pu ps ?_)
  show wpAny _ _ (if (((items.size : Int) - 1) == 0 && (-1 : Int) == 1 && items.size == items.size) = true then _ else _) _ _ s
  rw [if_neg (by rw [show ((-1 : Int) == 1) = false from rfl, Bool.and_false, Bool.false_and]; exact Bool.false_ne_true), pick_back]
  first
    | exact wpAny_bind (m := Builtin.Tuple.tupleExact _) (wpAny_newObj_type (wpAny_pure ⟨_, rfl, wpAny_pure h⟩) htake)
    | exact wpAny_bind (m := Builtin.Tuple.tupleExact _) (wpAny_newObj_type (wpAny_bind (wpAny_pure (wpAny_pure ⟨_, rfl, wpAny_pure h⟩))) htake)
    | exact wpAny_bind (wpAny_bind (m := Builtin.Tuple.tupleExact _) (wpAny_newObj_type (wpAny_pure (wpAny_pure ⟨_, rfl, wpAny_pure h⟩)) htake))
    | exact wpAny_bind (wpAny_bind (m := Builtin.Tuple.tupleExact _) (wpAny_newObj_type (wpAny_pure ⟨_, rfl, wpAny_pure h⟩) htake))
end
section
variable {X : Cx}
def tRevT (K : PySem.W.Frag) (te : TE) : TE := fun σ H Q => te σ H fun x H1 => ∃ a xs, x = .ref a ∧ SqT K H1 a xs ∧ ∀ p, H1 p = none → Q (.ref p) (upd H1 p (.tup xs.reverse))
theorem pe_revT {e : Expr} {te : TE} {k : Nat} {p1 p2 p3 pos : Pos} (he : PE X e te) : PE X (.Subscript e (.Slice none none (some (.UnaryOp .USub (.Constant (.int 1) k p1) p2)) p3) pos) (tRevT X.K te) := by
  refine ⟨fun pins s σ H Q I h => ?_⟩
  refine Subscript_ (thn (he.run pins s σ H _ I h) fun v s1 ⟨x, H1, I1, r1, q1⟩ => ?_)
  obtain ⟨a, xs, ex, hx, q⟩ := q1
  subst ex
  cases r1
  have hst : PO X (some (.UnaryOp .USub (.Constant (.int 1) k p1) p2)) (tPart (tUn (rU fun i => .int (-i)) (tC (.int 1)))) := po_some (pe_un un_neg pe_int)
  refine wpAny_Slice (thn (po_none.run pins s1 σ H1 (fun o H2 => o = none ∧ H2 = H1) I1 ⟨rfl, rfl⟩) fun vl s2 ⟨l, H2, I2, pl, el, e2⟩ => ?_)
  subst el e2
  refine thn (po_none.run pins s2 σ H2 (fun o H3 => o = none ∧ H3 = H2) I2 ⟨rfl, rfl⟩) fun vu s3 ⟨u, H3, I3, pu, eu, e3⟩ => ?_
  subst eu e3
  refine thn (hst.run pins s3 σ H3 (fun o H4 => o = some (-1) ∧ H4 = H3) I3 ⟨1, rfl, -1, rfl, rfl, rfl⟩) fun vs s4 ⟨o, H4, I4, ps, eo, e4⟩ => ?_
  subst eo e4
  have I5 : Inv X pins σ H4 { s4 with heap := s4.heap.push { cls := .type "slice", data := .fields #[vl, vu, vs] } } := I4.kept (t' := s4.toks) fun b ob q => Heap.get?_push_of_some _ q
  obtain ⟨its, r, ht, hz⟩ := I5.tuple hx
  have hlen := r.length
  show wpAny (model X.prog X.w) X.A (subscriptTail e (.Slice none none (some (.UnaryOp .USub (.Constant (.int 1) k p1) p2)) p3) (.ref a) (.ref s4.heap.objs.size)) (EP X pins σ Q) X.xe { s4 with heap := s4.heap.push { cls := .type "slice", data := .fields #[vl, vu, vs] } }
  refine tail_any (ops := [.ref a, .ref s4.heap.objs.size]) ht.typeIs (PyProof.Rows.slot_tuple_getitem.lookup) ?_ (by with_unfolding_all rfl)
  refine getItem_tuple_back ht (Heap.IsSliceOf.new _ vl vu vs) pl pu ps ?_ (by rw [List.size_toArray]; omega)
  refine ⟨.ref _, _, I5.laid (t' := s4.toks) (o := .tup xs.reverse) (fun b ob q => Heap.get?_push_of_some _ q) (Nat.le_refl _) ?_, rfl, q _ (I5.hok.fresh (Nat.le_refl _))⟩
  exact ⟨by rw [List.length_reverse]; exact hz, _, r.reverse, IsTup.new _ _⟩
end
end Mv

set_option Elab.async false
set_option linter.all false
set_option maxRecDepth 100000
set_option maxHeartbeats 4000000
namespace Mv
open PySem PySem.Spec PyProof.Rows L2
def topS (i : Nat) : Stmt := PySem.Challenge.pw_movedstates_k11_a_row_with_holes.main.body.getD i (.Pass ⟨0, 0, 0, 0⟩)
abbrev sStream : Stmt := topS 26
abbrev sDraw : Stmt := topS 27
abbrev sWide : Stmt := topS 28
abbrev sValue : Stmt := topS 30

section
variable {P : Program} {w : World} {K : PySem.W.Frag} {mg : Str → Option Value} {base : Heap}
/-! ### the script's stream -/
theorem scStream : FnScope ["_law_script", "_law_pairs", "_law_at", "_law_cell", "_law_rest", "_law_k"] ["_law_script"] (defScope sStream) := ⟨rfl, rfl, rfl, by decide +kernel, rfl, by decide +kernel, by decide +kernel⟩
def spStream (K : PySem.W.Frag) : Sp := fun vs H Q _ => ∃ (a : Addr) (ns : List Int), vs = [.ref a] ∧ SqL K H a (ns.map V.int) ∧ ns.length ≤ 63 ∧ ∀ (H' : Hp) (p : Addr), Same H H' → H p = none → Strm H' p → Q (.ref p) H'
/-- between two pairs -/
def StmI (H : Hp) (a o c : Addr) (ys : List Int) (n : Nat) (σ : L2.St) (H3 : Hp) : Prop := ∃ (y2 y3 y4 y5 : Option V) (ps : List Int), σ = [some (.ref a), some (.ref o), y2, y3, y4, y5] ∧ Same H H3 ∧ H3 c = some (.lst (ys.map V.int)) ∧ H3 o = some (.lst (ps.map V.int)) ∧ ps.length ≤ n
def StmJ (H : Hp) (a o c : Addr) (ys : List Int) (n : Nat) (x2 x3 : V) (σ : L2.St) (H3 : Hp) : Prop := ∃ (r : Int) (y5 : Option V) (ps : List Int), σ = [some (.ref a), some (.ref o), some x2, some x3, some (.int r), y5] ∧ Same H H3 ∧ H3 c = some (.lst (ys.map V.int)) ∧ H3 o = some (.lst (ps.map V.int)) ∧ ps.length ≤ n
theorem StmJ.i {H : Hp} {a o c : Addr} {ys : List Int} {n m : Nat} {x2 x3 : V} {σ : L2.St} {H3 : Hp} (h : StmJ H a o c ys n x2 x3 σ H3) (hm : n ≤ m) : StmI H a o c ys m σ H3 := by
  obtain ⟨r, y5, ps, e, s, h1, h2, h3⟩ := h
  exact ⟨_, _, _, _, ps, e, s, h1, h2, Nat.le_trans h3 hm⟩
theorem ok_stream {f : Addr} {fd : FuncData} (F : Fun K "_law_stream" "_law_stream" sStream f fd) (B : Bi mg) : FnOk P w K mg base CX0 1 f fd ["_law_script"] (spStream K) := by
  refine F.ok scStream (fun vs H Q E h => ?_) (fun cdv A outer s H vs Q E hr h => ?_)
  · obtain ⟨a, ns, rfl, _⟩ := h
    rfl
  · obtain ⟨a, ns, rfl, hS, hlen, q⟩ := h
    refine ⟨_, (pss_cons (ps_set (i := 1) scStream.nd rfl (.inl rfl) (pe_lst pa_nil))
 (pss_cons (ps_for PassesOwn.never rfl (pi_enum (by rfl) B.enumerate (pa_cons (pe_slice sl_list (pv 0) po_none (po_some pe_int)) pa_nil)) (pg_tup rfl (pgs_cons (pg_name (i := 2) scStream.nd rfl (.inl rfl)) (pgs_cons (pg_name (i := 3) scStream.nd rfl (.inl rfl)) pgs_nil)))
 (pss_cons (ps_set (i := 4) scStream.nd rfl (.inl rfl) (pe_callB call_abs (by rfl) B.abs (by decide +kernel) (pa_cons (pv 3) pa_nil)))
 (pss_cons (ps_if (pt_cmpR op_lt (pv 4) pe_int (nomark _))
 (pss_cons (ps_set (i := 4) scStream.nd rfl (.inl rfl) (pe_op op_mod (pe_callTy call_int1 (by rfl) B.int (by decide +kernel) (pa_cons (pe_op op_mul (pv 4) (pe_op op_add (pe_op op_add pe_int (pe_op op_mul pe_int (pv 2))) (pe_callTy call_int1 (by rfl) B.int (by decide +kernel) (pa_cons (pe_cmpR op_lt (pv 3) pe_int (nomark _)) pa_nil)))) pa_nil)) pe_int))
 (pss_one (ps_set (i := 4) scStream.nd rfl (.inl rfl) (pe_op op_mod (pe_callTy call_int1 (by rfl) B.int (by decide +kernel) (pa_cons (pe_op op_mul (pv 4) (pe_op op_add (pv 4) pe_int)) pa_nil)) pe_int)))) pss_nil)
 (pss_one (ps_for PassesOwn.never rfl (pi_range1 (by rfl) B.range (pa_cons pe_int pa_nil)) (pg_name (i := 5) scStream.nd rfl (.inl rfl))
 (pss_cons (ps_expr (pe_bm PySem.F.plainAttrs_list PySem.F.slot_list_append PySem.F.type_list_append mt_append (pv 1) (pa_cons (pe_op op_mod (pe_callTy call_int1 (by rfl) B.int (by decide +kernel) (pa_cons (pv 4) pa_nil)) pe_int) pa_nil)))
 (pss_cons (ps_set (i := 4) scStream.nd rfl (.inl rfl) (pe_op op_fdiv (pv 4) pe_int))
 (pss_one (ps_if (pt_cmpR op_eq (pv 4) pe_int (nomark _))
 (pss_one ps_break) pss_nil)))))))))
 (pss_cons (ps_expr (pe_bm0 PySem.F.plainAttrs_list PySem.F.slot_list_reverse PySem.F.type_list_reverse mt_reverse (pv 1)))
 (pss_one (ps_ret (pv 1)))))), ?_⟩
    refine ⟨Nat.zero_le _, fun o no => ?_⟩
    have s1 : Same H (upd H o (.lst [])) := same_upd no
    refine ⟨.ref a, rfl, 63, rfl, a, ns.map V.int, rfl, s1.seq hS, fun c nc => ?_⟩
    have s2 : Same (upd H o (.lst [])) (upd (upd H o (.lst [])) c (.lst (cutV (ns.map V.int) none (some 63)))) := same_upd nc
    have nco : c ≠ o := fun e => by
      rw [e, upd_same] at nc
      cases nc
    refine ⟨c, _, rfl, .inl (.inl upd_same), ?_⟩
    rw [cutV_int] at s2 ⊢
    have hcl : (cutI ns none (some 63)).length ≤ 63 := Nat.le_trans (cutI_length _ _ _) hlen
    generalize cutI ns none (some 63) = ys at *
    refine for_it walk_enum (fun i σ H3 => StmI H a o c ys (60 * i) σ H3)
      ⟨none, none, none, none, [], rfl, s1.trans s2, upd_same, by rw [upd_ne nco.symm, upd_same]; rfl, Nat.le_refl _⟩ (fun i σ H3 _ ⟨_, _, _, _, _, _, _, hc3, _⟩ => .inl (.inl hc3)) ?_ ?_
    · rintro i x σ H3 H4 hi ⟨y2, y3, y4, y5, ps, rfl, sm, hc3, ho3, hps⟩ ⟨T, x1, x2, rfl, nT, rfl, e1, e2⟩
      obtain rfl : V.int (i : Nat) = x1 := Option.some.inj e1
      obtain ⟨u, rfl, hu⟩ := int_at e2
      rw [List.length_map] at hi
      have smT : Same H3 (upd H3 T (.tup [.int (i : Nat), .int u])) := same_upd nT
      refine ⟨T, [.int (i : Nat), .int u], rfl, .inl (.inl upd_same), rfl, .int (i : Nat), [.int (i : Nat), .int u].tail, rfl, .int u, [], rfl, rfl, ?_⟩
      have hj : StmJ H a o c ys (60 * i + 0) (.int (i : Nat)) (.int u) [some (.ref a), some (.ref o), some (.int (i : Nat)), some (.int u), some (.int 0), y5] (upd H3 T (.tup [.int (i : Nat), .int u])) :=
        ⟨0, y5, ps, rfl, sm.trans smT, smT _ _ hc3, smT _ _ ho3, hps⟩
      generalize upd H3 T (.tup [.int (i : Nat), .int u]) = H4 at hj ⊢
      -- the inner loop, whatever is left
      have inner : ∀ r : Int, StmJ H a o c ys (60 * i + 0) (.int (i : Nat)) (.int u) [some (.ref a), some (.ref o), some (.int (i : Nat)), some (.int u), some (.int r), y5] H4 := fun r => by
        obtain ⟨r', y5', ps', e, k⟩ := hj
        cases e
        exact ⟨r, _, ps', rfl, k⟩
      clear hj
      refine ⟨.int u, rfl, u, rfl, ?_⟩
      refine ⟨_, rfl, _, _, rfl, rfl, _, rfl, ?_⟩
      refine ite2 ?A ?B
      case' A =>
        intro e
        have e' := of_decide_eq_true e
        have e0 := abs_nn u
        simp only [tSeq, tAsg, gName, tOp, rI, rI0, rU, tUn, tVar, tC, tCB, tCons, tNil, tTest, tIfS, tRet, tRetN, tDrop, tNext, tBreak, tCont, rEq, rNe, CDiv, CDivN, CMul, tBM, tBM0, tTup, tLst, tAug, tIf, tAnd, tOr, tNot, tAndV, tOrV, tNotV, tIsN, tNotN, tB, scal, tCall, cxK, cxKn, rIxT, rIxL, rIn, rAppend, rReverse, tVals, tDSetd, tDGet, tDGet1, tDGet2, tDIn, tDNotIn, rSortV, rSortT, rPop, rSortL, rSortT, tSl, tNoPart, tPart, List.append_nil, L2.start, List.map_cons, List.map_nil, List.length_cons, List.length_nil, List.replicate_succ, List.replicate_zero, List.cons_append, List.nil_append, Nat.reduceAdd, Nat.reduceSub, exists_eq, exists_eq', List.getElem?_cons_zero, List.getElem?_cons_succ, List.set_cons_zero, List.set_cons_succ, Option.some.injEq, V.int.injEq, V.bl.injEq, V.str.injEq, V.ref.injEq, List.cons.injEq, and_true, true_and, and_false, false_and, reduceCtorEq, exists_false, or_false, false_or, exists_and_left, exists_and_right, exists_eq_left, exists_eq_left', exists_eq_right, exists_eq_right', exists_const, ite_true, ite_false, Bool.false_eq_true, if_true, if_false, decide_true, decide_false]
        refine ⟨.inl (by omega), .inl (by omega), by decide, .inl ?_, by decide, ?C⟩
        · have h1 := Int.emod_nonneg ((if u < 0 then -u else u) * (6364136223846793005 + 2 * (i : Int) + if decide (u < 0) = true then 1 else 0)) (show (1000000000000000003 : Int) ≠ 0 by decide)
          have h2 := Int.emod_lt_of_pos ((if u < 0 then -u else u) * (6364136223846793005 + 2 * (i : Int) + if decide (u < 0) = true then 1 else 0)) (show (0 : Int) < 1000000000000000003 by decide)
          omega
        generalize (if u < 0 then -u else u) * (6364136223846793005 + 2 * (i : Int) + if decide (u < 0) = true then 1 else 0) % 1000000000000000003 * ((if u < 0 then -u else u) * (6364136223846793005 + 2 * (i : Int) + if decide (u < 0) = true then 1 else 0) % 1000000000000000003 + 1442695040888963407) % 1000000000000000009 = r
      case' B =>
        intro e
        generalize (if u < 0 then -u else u) = r
      all_goals
        refine ⟨60, rfl, by decide, by decide, for_range (n := 60) (fun j σ H' => StmJ H a o c ys (60 * i + j) (.int (i : Nat)) (.int u) σ H') (inner r) ?_ (fun σ H' h => h.i (by omega))⟩
        rintro j σ H' hj ⟨r', y5', ps', rfl, sm', hc', ho', hps'⟩
        refine ⟨.ref o, rfl, .inl ⟨rfl, _, SqL.of ho'⟩, _, rfl, .inl ⟨_, rfl, ?_⟩⟩
        refine ⟨_, _, rfl, rfl, by show (0 : Int) < 100; decide, o, _, _, rfl, rfl, ho', by rw [List.length_map]; exact small4000 (by omega), ?_⟩
        have hj' : StmJ H a o c ys (60 * i + (j + 1)) (.int (i : Nat)) (.int u) [some (.ref a), some (.ref o), some (.int (i : Nat)), some (.int u), some (.int (r' / 100)), some (.int (0 + (j : Nat)))] (upd H' o (.lst (ps'.map V.int ++ [.int (r' % 100)]))) :=
          ⟨_, _, ps' ++ [r' % 100], rfl, fun b z e => by rw [upd_ne (ne_of_none e no)]; exact sm' _ _ e, by rw [upd_ne nco]; exact hc', by rw [upd_same, List.map_append]; rfl, by rw [List.length_append, List.length_singleton]; omega⟩
        simp only [tSeq, tAsg, gName, tOp, rI, rI0, rU, tUn, tVar, tC, tCB, tCons, tNil, tTest, tIfS, tRet, tRetN, tDrop, tNext, tBreak, tCont, rEq, rNe, CDiv, CDivN, CMul, tBM, tBM0, tTup, tLst, tAug, tIf, tAnd, tOr, tNot, tAndV, tOrV, tNotV, tIsN, tNotN, tB, scal, tCall, cxK, cxKn, rIxT, rIxL, rIn, rAppend, rReverse, tVals, tDSetd, tDGet, tDGet1, tDGet2, tDIn, tDNotIn, rSortV, rSortT, rPop, rSortL, rSortT, tSl, tNoPart, tPart, List.append_nil, L2.start, List.map_cons, List.map_nil, List.length_cons, List.length_nil, List.replicate_succ, List.replicate_zero, List.cons_append, List.nil_append, Nat.reduceAdd, Nat.reduceSub, exists_eq, exists_eq', List.getElem?_cons_zero, List.getElem?_cons_succ, List.set_cons_zero, List.set_cons_succ, Option.some.injEq, V.int.injEq, V.bl.injEq, V.str.injEq, V.ref.injEq, List.cons.injEq, and_true, true_and, and_false, false_and, reduceCtorEq, exists_false, or_false, false_or, exists_and_left, exists_and_right, exists_eq_left, exists_eq_left', exists_eq_right, exists_eq_right', exists_const, ite_true, ite_false, Bool.false_eq_true, if_true, if_false, decide_true, decide_false]
        refine ⟨by decide, ite2 (fun _ => hj'.i (by omega)) (fun _ => hj')⟩
    · rintro σ H3 ⟨y2, y3, y4, y5, ps, rfl, sm, hc3, ho3, hps⟩
      rw [List.length_map] at hps
      refine ⟨.ref o, rfl, .inl ⟨rfl, _, SqL.of ho3⟩, o, ps.map V.int, rfl, rfl, ho3, .ref o, rfl, ?_⟩
      refine q _ o (fun b z e => ?_) no ⟨ps.reverse, ?_, ?_⟩
      · rw [upd_ne (ne_of_none e no)]
        exact sm _ _ e
      · rw [upd_same, List.map_reverse]
      · rw [List.length_reverse]
        omega
end
end Mv

set_option Elab.async false
set_option linter.all false
set_option maxRecDepth 100000
set_option maxHeartbeats 4000000
namespace Mv
open PySem PySem.Spec PyProof.Rows L2
section
variable {P : Program} {w : World} {K : PySem.W.Frag} {mg : Str → Option Value} {base : Heap}
theorem scDraw : FnScope ["_law_stream_here", "_law_many"] ["_law_stream_here", "_law_many"] (defScope sDraw) := ⟨rfl, rfl, rfl, by decide +kernel, rfl, by decide +kernel, by decide +kernel⟩
def spDraw : Sp := fun vs H Q _ => ∃ (a : Addr) (m : Int), vs = [.ref a, .int m] ∧ 0 < m ∧ Strm H a ∧ ∀ (r : Int) (H' : Hp), 0 ≤ r → r < m → Sx a H H' → Strm H' a → Q (.int r) H'
theorem ok_draw {f : Addr} {fd : FuncData} (F : Fun K "_law_draw" "_law_draw" sDraw f fd) (B : Bi mg) : FnOk P w K mg base CX0 1 f fd ["_law_stream_here", "_law_many"] spDraw := by
  refine F.ok scDraw (fun vs H Q E h => ?_) (fun cdv A outer s H vs Q E hr h => ?_)
  · obtain ⟨a, m, rfl, _⟩ := h
    rfl
  · obtain ⟨a, m, rfl, hm, ⟨ns, ha, hl⟩, q⟩ := h
    refine ⟨_, (pss_cons (ps_if (pt_cmpR op_eq (pe_callB call_len_seq (by rfl) B.len PySem.boot_len (pa_cons (pv 0) pa_nil)) pe_int (nomark _))
 (pss_one (ps_ret pe_int)) pss_nil)
 (pss_one (ps_ret (pe_op op_modN (pe_callTy call_int1 (by rfl) B.int (by decide +kernel) (pa_cons (pe_bm0 PySem.F.plainAttrs_list PySem.F.slot_list_pop PySem.F.type_list_pop mt_pop (pv 0)) pa_nil)) (pv 1))))), ?_⟩
    refine ⟨.ref a, rfl, a, ns.map V.int, rfl, .inl (SqL.of ha), rfl, _, rfl, ite2 (fun e => ?_) (fun e => ?_)⟩
    · exact q 0 H (Int.le_refl 0) hm (Sx.refl a H) ⟨ns, ha, hl⟩
    · have hne : ns ≠ [] := fun z => by
        subst z
        exact e (decide_eq_true rfl)
      have hlast : (ns.map V.int)[(ns.map V.int).length - 1]? = some (.int (ns.getLast hne)) := by
        rw [List.length_map, List.getElem?_map]
        rw [← List.getLast?_eq_getElem?, List.getLast?_eq_getLast hne]
        rfl
      refine ⟨.ref a, rfl, .inl ⟨rfl, _, SqL.of ha⟩, a, ns.map V.int, _, rfl, rfl, ha, hlast, .inl ⟨_, rfl, ?_⟩⟩
      refine ⟨.int m, rfl, _, m, rfl, rfl, by omega, ?_⟩
      refine q _ _ (Int.fmod_nonneg_of_pos _ hm) (Int.fmod_lt_of_pos _ hm) Sx.upd ⟨ns.dropLast, ?_, ?_⟩
      · rw [upd_same, List.map_dropLast]
      · rw [List.length_dropLast]
        omega
/-- a draw from the stream: any number of the range may come -/
theorem spDraw_of {a : Addr} {m : Int} {H : Hp} {Q : VK} {E : XK} (hm : 0 < m) (hs : Strm H a) (q : ∀ (r : Int) (H' : Hp), 0 ≤ r → r < m → Sx a H H' → Strm H' a → Q (.int r) H') : spDraw [.ref a, .int m] H Q E := ⟨a, m, rfl, hm, hs, q⟩
theorem scWide : FnScope ["_law_stream_here", "_law_size", "_law_k"] ["_law_stream_here"] (defScope sWide) := ⟨rfl, rfl, rfl, by decide +kernel, rfl, by decide +kernel, by decide +kernel⟩
def spWide : Sp := fun vs H Q _ => ∃ (a : Addr), vs = [.ref a] ∧ Strm H a ∧ ∀ (r : Int) (H' : Hp), Sx a H H' → Strm H' a → Q (.int r) H'
theorem ok_wide {f : Addr} {fd : FuncData} (F : Fun K "_law_wide" "_law_wide" sWide f fd) (B : Bi mg) (cDraw : CalX CX0 P w K mg base 1 "_law_draw" spDraw) : FnOk P w K mg base CX0 2 f fd ["_law_stream_here"] spWide := by
  refine F.ok scWide (fun vs H Q E h => ?_) (fun cdv A outer s H vs Q E hr h => ?_)
  · obtain ⟨a, rfl, _⟩ := h
    rfl
  · obtain ⟨a, rfl, hs, q⟩ := h
    refine ⟨_, (pss_cons (ps_set (i := 1) scWide.nd rfl (.inl rfl) pe_int)
 (pss_cons (ps_for PassesOwn.never rfl (pi_range1 (by rfl) B.range (pa_cons pe_int pa_nil)) (pg_name (i := 2) scWide.nd rfl (.inl rfl))
 (pss_one (ps_set (i := 1) scWide.nd rfl (.inl rfl) (pe_op op_add (pe_op op_mul (pv 1) pe_int) (pe_cx cDraw hr (by decide) pass0 (by rfl) (pa_cons (pv 0) (pa_cons pe_int pa_nil)))))))
 (pss_cons (ps_if (pt_cmpR op_eq (pe_cx cDraw hr (by decide) pass0 (by rfl) (pa_cons (pv 0) (pa_cons pe_int pa_nil))) pe_int (nomark _))
 (pss_one (ps_ret (pe_un un_neg (pv 1)))) pss_nil)
 (pss_one (ps_ret (pv 1)))))), ?_⟩
    refine ⟨11, rfl, by decide, by decide, for_range (n := 11) (fun i σ H' => ∃ (z : Int) (y : Option V), σ = [some (.ref a), some (.int z), y] ∧ Sx a H H' ∧ Strm H' a) ⟨0, none, rfl, Sx.refl a H, hs⟩ ?_ ?_⟩
    · rintro i σ H1 hi ⟨z, y, rfl, x1, t1⟩
      simp only [tSeq, tAsg, gName, tOp, rI, rI0, rU, tUn, tVar, tC, tCB, tCons, tNil, tTest, tIfS, tRet, tRetN, tDrop, tNext, tBreak, tCont, rEq, rNe, CDiv, CDivN, CMul, tBM, tBM0, tTup, tLst, tAug, tIf, tAnd, tOr, tNot, tAndV, tOrV, tNotV, tIsN, tNotN, tB, scal, tCall, cxK, cxKn, rIxT, rIxL, rIn, rAppend, rReverse, tVals, tDSetd, tDGet, tDGet1, tDGet2, tDIn, tDNotIn, rSortV, rSortT, rPop, rSortL, rSortT, tSl, tNoPart, tPart, List.append_nil, L2.start, List.map_cons, List.map_nil, List.length_cons, List.length_nil, List.replicate_succ, List.replicate_zero, List.cons_append, List.nil_append, Nat.reduceAdd, Nat.reduceSub, exists_eq, exists_eq', List.getElem?_cons_zero, List.getElem?_cons_succ, List.set_cons_zero, List.set_cons_succ, Option.some.injEq, V.int.injEq, V.bl.injEq, V.str.injEq, V.ref.injEq, List.cons.injEq, and_true, true_and, and_false, false_and, reduceCtorEq, exists_false, or_false, false_or, exists_and_left, exists_and_right, exists_eq_left, exists_eq_left', exists_eq_right, exists_eq_right', exists_const, ite_true, ite_false, Bool.false_eq_true, if_true, if_false, decide_true, decide_false]
      refine ⟨.inr (by decide), spDraw_of (by decide) t1 fun r H2 _ _ x2 t2 => ?_⟩
      simp only [tSeq, tAsg, gName, tOp, rI, rI0, rU, tUn, tVar, tC, tCB, tCons, tNil, tTest, tIfS, tRet, tRetN, tDrop, tNext, tBreak, tCont, rEq, rNe, CDiv, CDivN, CMul, tBM, tBM0, tTup, tLst, tAug, tIf, tAnd, tOr, tNot, tAndV, tOrV, tNotV, tIsN, tNotN, tB, scal, tCall, cxK, cxKn, rIxT, rIxL, rIn, rAppend, rReverse, tVals, tDSetd, tDGet, tDGet1, tDGet2, tDIn, tDNotIn, rSortV, rSortT, rPop, rSortL, rSortT, tSl, tNoPart, tPart, List.append_nil, L2.start, List.map_cons, List.map_nil, List.length_cons, List.length_nil, List.replicate_succ, List.replicate_zero, List.cons_append, List.nil_append, Nat.reduceAdd, Nat.reduceSub, exists_eq, exists_eq', List.getElem?_cons_zero, List.getElem?_cons_succ, List.set_cons_zero, List.set_cons_succ, Option.some.injEq, V.int.injEq, V.bl.injEq, V.str.injEq, V.ref.injEq, List.cons.injEq, and_true, true_and, and_false, false_and, reduceCtorEq, exists_false, or_false, false_or, exists_and_left, exists_and_right, exists_eq_left, exists_eq_left', exists_eq_right, exists_eq_right', exists_const, ite_true, ite_false, Bool.false_eq_true, if_true, if_false, decide_true, decide_false]
      exact ⟨x1.trans x2, t2⟩
    · rintro σ H1 ⟨z, y, rfl, x1, t1⟩
      simp only [tSeq, tAsg, gName, tOp, rI, rI0, rU, tUn, tVar, tC, tCB, tCons, tNil, tTest, tIfS, tRet, tRetN, tDrop, tNext, tBreak, tCont, rEq, rNe, CDiv, CDivN, CMul, tBM, tBM0, tTup, tLst, tAug, tIf, tAnd, tOr, tNot, tAndV, tOrV, tNotV, tIsN, tNotN, tB, scal, tCall, cxK, cxKn, rIxT, rIxL, rIn, rAppend, rReverse, tVals, tDSetd, tDGet, tDGet1, tDGet2, tDIn, tDNotIn, rSortV, rSortT, rPop, rSortL, rSortT, tSl, tNoPart, tPart, List.append_nil, L2.start, List.map_cons, List.map_nil, List.length_cons, List.length_nil, List.replicate_succ, List.replicate_zero, List.cons_append, List.nil_append, Nat.reduceAdd, Nat.reduceSub, exists_eq, exists_eq', List.getElem?_cons_zero, List.getElem?_cons_succ, List.set_cons_zero, List.set_cons_succ, Option.some.injEq, V.int.injEq, V.bl.injEq, V.str.injEq, V.ref.injEq, List.cons.injEq, and_true, true_and, and_false, false_and, reduceCtorEq, exists_false, or_false, false_or, exists_and_left, exists_and_right, exists_eq_left, exists_eq_left', exists_eq_right, exists_eq_right', exists_const, ite_true, ite_false, Bool.false_eq_true, if_true, if_false, decide_true, decide_false]
      refine spDraw_of (by decide) t1 fun r H2 _ _ x2 t2 => ?_
      simp only [tSeq, tAsg, gName, tOp, rI, rI0, rU, tUn, tVar, tC, tCB, tCons, tNil, tTest, tIfS, tRet, tRetN, tDrop, tNext, tBreak, tCont, rEq, rNe, CDiv, CDivN, CMul, tBM, tBM0, tTup, tLst, tAug, tIf, tAnd, tOr, tNot, tAndV, tOrV, tNotV, tIsN, tNotN, tB, scal, tCall, cxK, cxKn, rIxT, rIxL, rIn, rAppend, rReverse, tVals, tDSetd, tDGet, tDGet1, tDGet2, tDIn, tDNotIn, rSortV, rSortT, rPop, rSortL, rSortT, tSl, tNoPart, tPart, List.append_nil, L2.start, List.map_cons, List.map_nil, List.length_cons, List.length_nil, List.replicate_succ, List.replicate_zero, List.cons_append, List.nil_append, Nat.reduceAdd, Nat.reduceSub, exists_eq, exists_eq', List.getElem?_cons_zero, List.getElem?_cons_succ, List.set_cons_zero, List.set_cons_succ, Option.some.injEq, V.int.injEq, V.bl.injEq, V.str.injEq, V.ref.injEq, List.cons.injEq, and_true, true_and, and_false, false_and, reduceCtorEq, exists_false, or_false, false_or, exists_and_left, exists_and_right, exists_eq_left, exists_eq_left', exists_eq_right, exists_eq_right', exists_const, ite_true, ite_false, Bool.false_eq_true, if_true, if_false, decide_true, decide_false]
      exact ite2 (fun _ => q _ _ (x1.trans x2) t2) (fun _ => q _ _ (x1.trans x2) t2)
theorem scValue : FnScope ["_law_stream_here", "_law_style"] ["_law_stream_here", "_law_style"] (defScope sValue) := ⟨rfl, rfl, rfl, by decide +kernel, rfl, by decide +kernel, by decide +kernel⟩
def spValue : Sp := fun vs H Q _ => ∃ (a : Addr) (z : Int), vs = [.ref a, .int z] ∧ Strm H a ∧ ∀ (r : Int) (H' : Hp), Sx a H H' → Strm H' a → Q (.int r) H'
theorem ok_value {f : Addr} {fd : FuncData} (F : Fun K "_law_value" "_law_value" sValue f fd) (B : Bi mg) (cDraw : CalX CX0 P w K mg base 1 "_law_draw" spDraw) (cWide : CalX CX0 P w K mg base 2 "_law_wide" spWide) : FnOk P w K mg base CX0 3 f fd ["_law_stream_here", "_law_style"] spValue := by
  refine F.ok scValue (fun vs H Q E h => ?_) (fun cdv A outer s H vs Q E hr h => ?_)
  · obtain ⟨a, z, rfl, _⟩ := h
    rfl
  · obtain ⟨a, z, rfl, hs, q⟩ := h
    refine ⟨_, (pss_cons (ps_if (pt_cmpR op_lt (pv 1) pe_int (nomark _))
 (pss_one (ps_ret (pe_cx cDraw hr (by decide) pass0 (by rfl) (pa_cons (pv 0) (pa_cons pe_int pa_nil))))) pss_nil)
 (pss_cons (ps_if (pt_cmpR op_eq (pv 1) pe_int (nomark _))
 (pss_one (ps_ret (pe_cx cDraw hr (by decide) pass0 (by rfl) (pa_cons (pv 0) (pa_cons pe_int pa_nil))))) pss_nil)
 (pss_cons (ps_if (pt_cmpR op_eq (pv 1) pe_int (nomark _))
 (pss_one (ps_ret (pe_op op_sub (pe_cx cDraw hr (by decide) pass0 (by rfl) (pa_cons (pv 0) (pa_cons pe_int pa_nil))) (pe_cx cDraw hr (by decide) pass0 (by rfl) (pa_cons (pv 0) (pa_cons pe_int pa_nil)))))) pss_nil)
 (pss_cons (ps_if (pt_cmpR op_eq (pv 1) pe_int (nomark _))
 (pss_one (ps_ret (pe_op op_mul (pe_op op_sub (pe_cx cDraw hr (by decide) pass0 (by rfl) (pa_cons (pv 0) (pa_cons pe_int pa_nil))) (pe_cx cDraw hr (by decide) pass0 (by rfl) (pa_cons (pv 0) (pa_cons pe_int pa_nil)))) pe_int))) pss_nil)
 (pss_one (ps_ret (pe_cx cWide hr (by decide) pass0 (by rfl) (pa_cons (pv 0) pa_nil)))))))), ?_⟩
    simp only [tSeq, tAsg, gName, tOp, rI, rI0, rU, tUn, tVar, tC, tCB, tCons, tNil, tTest, tIfS, tRet, tRetN, tDrop, tNext, tBreak, tCont, rEq, rNe, CDiv, CDivN, CMul, tBM, tBM0, tTup, tLst, tAug, tIf, tAnd, tOr, tNot, tAndV, tOrV, tNotV, tIsN, tNotN, tB, scal, tCall, cxK, cxKn, rIxT, rIxL, rIn, rAppend, rReverse, tVals, tDSetd, tDGet, tDGet1, tDGet2, tDIn, tDNotIn, rSortV, rSortT, rPop, rSortL, rSortT, tSl, tNoPart, tPart, List.append_nil, L2.start, List.map_cons, List.map_nil, List.length_cons, List.length_nil, List.replicate_succ, List.replicate_zero, List.cons_append, List.nil_append, Nat.reduceAdd, Nat.reduceSub, exists_eq, exists_eq', List.getElem?_cons_zero, List.getElem?_cons_succ, List.set_cons_zero, List.set_cons_succ, Option.some.injEq, V.int.injEq, V.bl.injEq, V.str.injEq, V.ref.injEq, List.cons.injEq, and_true, true_and, and_false, false_and, reduceCtorEq, exists_false, or_false, false_or, exists_and_left, exists_and_right, exists_eq_left, exists_eq_left', exists_eq_right, exists_eq_right', exists_const, ite_true, ite_false, Bool.false_eq_true, if_true, if_false, decide_true, decide_false]
    refine ite2 (fun _ => spDraw_of (by decide) hs fun r H1 _ _ x1 t1 => q _ _ x1 t1) fun _ => ?_
    refine ite2 (fun _ => spDraw_of (by decide) hs fun r H1 _ _ x1 t1 => q _ _ x1 t1) fun _ => ?_
    refine ite2 (fun _ => spDraw_of (by decide) hs fun r H1 _ _ x1 t1 => spDraw_of (by decide) t1 fun r2 H2 _ _ x2 t2 => ?_) fun _ => ?_
    · simp only [tSeq, tAsg, gName, tOp, rI, rI0, rU, tUn, tVar, tC, tCB, tCons, tNil, tTest, tIfS, tRet, tRetN, tDrop, tNext, tBreak, tCont, rEq, rNe, CDiv, CDivN, CMul, tBM, tBM0, tTup, tLst, tAug, tIf, tAnd, tOr, tNot, tAndV, tOrV, tNotV, tIsN, tNotN, tB, scal, tCall, cxK, cxKn, rIxT, rIxL, rIn, rAppend, rReverse, tVals, tDSetd, tDGet, tDGet1, tDGet2, tDIn, tDNotIn, rSortV, rSortT, rPop, rSortL, rSortT, tSl, tNoPart, tPart, List.append_nil, L2.start, List.map_cons, List.map_nil, List.length_cons, List.length_nil, List.replicate_succ, List.replicate_zero, List.cons_append, List.nil_append, Nat.reduceAdd, Nat.reduceSub, exists_eq, exists_eq', List.getElem?_cons_zero, List.getElem?_cons_succ, List.set_cons_zero, List.set_cons_succ, Option.some.injEq, V.int.injEq, V.bl.injEq, V.str.injEq, V.ref.injEq, List.cons.injEq, and_true, true_and, and_false, false_and, reduceCtorEq, exists_false, or_false, false_or, exists_and_left, exists_and_right, exists_eq_left, exists_eq_left', exists_eq_right, exists_eq_right', exists_const, ite_true, ite_false, Bool.false_eq_true, if_true, if_false, decide_true, decide_false]
      exact q _ _ (x1.trans x2) t2
    refine ite2 (fun _ => spDraw_of (by decide) hs fun r H1 h1 h2 x1 t1 => spDraw_of (by decide) t1 fun r2 H2 h3 h4 x2 t2 => ?_) fun _ => ?_
    · simp only [tSeq, tAsg, gName, tOp, rI, rI0, rU, tUn, tVar, tC, tCB, tCons, tNil, tTest, tIfS, tRet, tRetN, tDrop, tNext, tBreak, tCont, rEq, rNe, CDiv, CDivN, CMul, tBM, tBM0, tTup, tLst, tAug, tIf, tAnd, tOr, tNot, tAndV, tOrV, tNotV, tIsN, tNotN, tB, scal, tCall, cxK, cxKn, rIxT, rIxL, rIn, rAppend, rReverse, tVals, tDSetd, tDGet, tDGet1, tDGet2, tDIn, tDNotIn, rSortV, rSortT, rPop, rSortL, rSortT, tSl, tNoPart, tPart, List.append_nil, L2.start, List.map_cons, List.map_nil, List.length_cons, List.length_nil, List.replicate_succ, List.replicate_zero, List.cons_append, List.nil_append, Nat.reduceAdd, Nat.reduceSub, exists_eq, exists_eq', List.getElem?_cons_zero, List.getElem?_cons_succ, List.set_cons_zero, List.set_cons_succ, Option.some.injEq, V.int.injEq, V.bl.injEq, V.str.injEq, V.ref.injEq, List.cons.injEq, and_true, true_and, and_false, false_and, reduceCtorEq, exists_false, or_false, false_or, exists_and_left, exists_and_right, exists_eq_left, exists_eq_left', exists_eq_right, exists_eq_right', exists_const, ite_true, ite_false, Bool.false_eq_true, if_true, if_false, decide_true, decide_false]
      exact ⟨.inl (by omega), q _ _ (x1.trans x2) t2⟩
    · exact ⟨a, rfl, hs, q⟩
end
end Mv

set_option Elab.async false
set_option linter.all false
set_option maxRecDepth 100000
set_option maxHeartbeats 4000000
namespace Mv
open PySem PySem.Spec PyProof.Rows L2
section
variable {P : Program} {w : World} {K : PySem.W.Frag} {mg : Str → Option Value} {base : Heap}
def kdV (k : Kd) : V := .str k.nm
end
end Mv

set_option Elab.async false
set_option linter.all false
set_option maxRecDepth 100000
set_option maxHeartbeats 4000000
namespace Mv
open PySem PySem.Spec PyProof.Rows L2
theorem small1000' {n : Nat} (h : n ≤ 1000) : n ≤ sizeLine := Nat.le_of_lt (small1000 h)
theorem eqV_int (a b : Int) : eqV (.int a) (.int b) = decide (a = b) := by first | rfl | simp [eqV]
theorem inV_int (x : Int) (ns : List Int) : inV (.int x) (ns.map V.int) = decide (x ∈ ns) := by
  induction ns with
  | nil => rfl
  | cons n ns ih =>
    show (eqV (.int n) (.int x) || inV (.int x) (ns.map V.int)) = _
    rw [ih, eqV_int]
    by_cases h : n = x
    · subst h
      simp
    · simp [h, Ne.symm h]
/-- a thing that is no kind's name, as the law draws them -/
inductive BadV (H : Hp) : V → Prop where
  | str (z : Str) (h : ∀ k : Kd, ¬ z = k.nm) (hl : z.length ≤ 100) (hc : ∀ c ∈ z.cps.toList, c < 0x110000) : BadV H (.str z)
  | non : BadV H .non
  | int (i : Int) (h : i = 0 ∨ i = 1 ∨ i = 2 ∨ i = 3 ∨ i = 8) : BadV H (.int i)
/-- a def whose code object is known -/
structure FunC (K : PySem.W.Frag) (x qual : Str) (st : Stmt) (f : Addr) (fd : FuncData) (c : Addr) : Prop where
  ex : ∃ (oc : Value) (od : Option Addr) (kV doc pm : Value) (an : Option Addr) (ct : Value) (osl : Array (Option Value)),
    fd = PySem.W.fnOf x qual (defArgs st) (defBody st) (defScope st) .none kV doc pm an (.ref c) ct ∧ K.lookup f = some ⟨oc, od, .func fd, osl⟩ ∧ PySem.W.codeIn K (.ref c) qual = true
theorem FunC.ok {P : Program} {w : World} {K : PySem.W.Frag} {mg : Str → Option Value} {base : Heap} {x qual : Str} {st : Stmt} {f c : Addr} {fd : FuncData} {N ps : List Str} {k : Nat} {sp : Sp} (F : FunC K x qual st f fd c) (S : FnScope N ps (defScope st)) (len : ∀ vs H Q E, sp vs H Q E → vs.length = ps.length)
    (hbody : ∀ (A : Around) (outer : List Env) (s : Shared) (H : Hp) (vs : List V) (Q : VK) (E : XK), Room k (A.deeper (envOfC qual (defScope st) s.heap.objs.size f (.ref c))) → sp vs H Q E →
      ∃ t, PSs (cxOf CX0 P w K mg base N qual (defScope st) f (.ref c) A outer s H E).nox (defBody st) t ∧ t { nx := fun _ H' => Q .non H', rt := Q } (L2.start N vs) H) : FnOk P w K mg base CX0 (k + 1) f fd ps sp := by
  obtain ⟨oc, od, kV, doc, pm, an, ct, osl, rfl, lk, hcd⟩ := F.ex
  refine fn_of lk hcd S len fun A outer s H vs Q E hr hsp => ?_
  obtain ⟨t, h, q⟩ := hbody A outer s H vs Q E hr hsp
  exact ⟨t, h.nox, q⟩
/-- a word: a tuple or a list of ints -/
def WordS (K : PySem.W.Frag) (H : Hp) (p : Addr) (xs : List Int) : Prop := SqT K H p (xs.map V.int) ∨ SqL K H p (xs.map V.int)
theorem WordS.ext {K : PySem.W.Frag} {H H1 : Hp} {p : Addr} {xs : List Int} (h : WordS K H p xs) (e : LamX.ExtN H H1) : WordS K H1 p xs := sq_extN e h
theorem WordS.same {K : PySem.W.Frag} {H H1 : Hp} {p : Addr} {xs : List Int} (h : WordS K H p xs) (e : Same H H1) : WordS K H1 p xs := h.ext (LamX.ExtN.of e)
theorem ext_upd {H : Hp} {p : Addr} {o : HO} (h : H p = none) : LamX.ExtN H (upd H p o) := LamX.ExtN.of (same_upd h)
theorem tabs_upd {T : List (Addr × Str)} {H : Hp} {p : Addr} {o : HO} (t : LamX.Tabs T H) (h : H p = none) : LamX.Tabs T (upd H p o) := t.ext (same_upd h)
/-- what may make the lambda: all is kept but the tables, which stay tables -/
def Gw (T : List (Addr × Str)) (H H' : Hp) : Prop := LamX.ExtN H H' ∧ LamX.Tabs T H'
theorem Gw.refl {T : List (Addr × Str)} {H : Hp} (t : LamX.Tabs T H) : Gw T H H := ⟨LamX.ExtN.refl H, t⟩
theorem Gw.trans {T : List (Addr × Str)} {H H1 H2 : Hp} (a : Gw T H H1) (b : Gw T H1 H2) : Gw T H H2 := ⟨a.1.trans b.1, b.2⟩
theorem Gw.of {T : List (Addr × Str)} {H H1 : Hp} (t : LamX.Tabs T H) (s : Same H H1) : Gw T H H1 := ⟨LamX.ExtN.of s, t.ext s⟩
theorem Gw.upd {T : List (Addr × Str)} {H H1 : Hp} {p : Addr} {o : HO} (a : Gw T H H1) (h : H1 p = none) : Gw T H (L2.upd H1 p o) := ⟨a.1.trans (ext_upd h), tabs_upd a.2 h⟩
/-- a place that was free, or a table's -/
def Nw (H : Hp) (l : Addr) : Prop := ∀ o, H l = some o → ∃ ps, o = .tbl ps
theorem Gw.nw {T : List (Addr × Str)} {H H1 : Hp} {p : Addr} (a : Gw T H H1) (h : H1 p = none) : Nw H p := fun o e => by
  by_cases hn : ∃ ps, o = HO.tbl ps
  · exact hn
  · have := a.1 _ _ e fun ps z => hn ⟨ps, z⟩
    rw [h] at this
    cases this
abbrev sKeepO : Stmt := inClass (topS 5) 6
abbrev sPlainM : Stmt := inClass (topS 5) 7
abbrev sKeepB : Stmt := inClass (topS 6) 6
abbrev sKeepS : Stmt := inClass (topS 7) 6
abbrev sKeepH : Stmt := inClass (topS 8) 6
abbrev sKeepF : Stmt := inClass (topS 9) 6
abbrev sKeepT : Stmt := inClass (topS 10) 6
abbrev sKeepL : Stmt := inClass (topS 11) 6
abbrev sKeepE : Stmt := inClass (topS 12) 6
abbrev sLeast : Stmt := topS 13
abbrev sGreat : Stmt := topS 14
def ixV (is : List Nat) : List V := is.map fun i : Nat => V.int (i : Int)
theorem ixV_int (is : List Nat) : ixV is = (is.map fun i : Nat => (i : Int)).map V.int := by
  unfold ixV
  rw [List.map_map]
  rfl
def spKeep (K : PySem.W.Frag) (T : List (Addr × Str)) (k : Kd) : Sp := fun vs H Q _ => ∃ (x : V) (p : Addr) (xs : List Int), vs = [x, .ref p] ∧ WordS K H p xs ∧ xs.length ≤ 60 ∧ LamX.Tabs T H ∧ ∀ (H' : Hp) (l : Addr), Gw T H H' → Nw H l → H' l = some (.lst (ixV (keepIx k xs))) → Q (.ref l) H'
def spLeast (K : PySem.W.Frag) : Sp := fun vs H Q _ => ∃ (p : Addr) (xs : List Int), vs = [.ref p] ∧ WordS K H p xs ∧ xs.length ≤ 60 ∧ ∀ (H' : Hp) (d : Addr), Same H H' → H' d = some (.dK (leastD xs xs.length)) → Q (.ref d) H'
def spGreat (K : PySem.W.Frag) : Sp := fun vs H Q _ => ∃ (p : Addr) (xs : List Int), vs = [.ref p] ∧ WordS K H p xs ∧ xs.length ≤ 60 ∧ ∀ (H' : Hp) (d : Addr), Same H H' → H' d = some (.dK (greatD xs xs.length)) → Q (.ref d) H'
theorem rg_ix (n : Nat) : rgV 0 (n : Int) = ixV (List.range n) := by
  unfold rgV ixV
  rw [Int.sub_zero, Int.toNat_natCast]
  exact List.map_congr_left fun i _ => by rw [Int.zero_add]
/-- the two walks of a word -/
def YWord (xs : List Int) : Nat → Hp → V → Hp → Prop := YPair (fun i => some (.int (i : Nat))) (fun i => (xs.map V.int)[i]?)
section
variable {P : Program} {w : World} {K : PySem.W.Frag} {mg : Str → Option Value} {base : Heap} {T : List (Addr × Str)}
theorem scKO : FnScope ["self", "word"] ["self", "word"] (defScope sKeepO) := ⟨rfl, rfl, rfl, by decide +kernel, rfl, by decide +kernel, by decide +kernel⟩
theorem ok_keepO {f : Addr} {fd : FuncData} (F : Fun K "keep" "Kind.keep" sKeepO f fd) (B : Bi mg) : FnOk P w K mg base CX0 2 f fd ["self", "word"] (spKeep K T .list) := by
  refine F.ok scKO (fun vs H Q E h => ?_) (fun cdv A outer s H vs Q E hr h => ?_)
  · obtain ⟨x, p, xs, rfl, _⟩ := h
    rfl
  · obtain ⟨x, p, xs, rfl, hw, hl, ht, q⟩ := h
    refine ⟨_, pss_one (ps_ret (pe_listRg rfl (by rfl) B.list (prg_1 (by rfl) B.range (pe_callB call_len_seq (by rfl) B.len PySem.boot_len (pa_cons (pv 1) pa_nil))))), ?_⟩
    refine ⟨_, rfl, p, xs.map V.int, rfl, hw.symm, (xs.length : Int), by rw [List.length_map], .of_le (by omega) (by omega) (by omega) (by omega), fun l hl => ?_⟩
    rw [rg_ix]
    exact q _ l (Gw.upd (.refl ht) hl) (Gw.nw (.refl ht) hl) upd_same
theorem scKF : FnScope ["self", "word"] ["self", "word"] (defScope sKeepF) := ⟨rfl, rfl, rfl, by decide +kernel, rfl, by decide +kernel, by decide +kernel⟩
theorem ok_keepF {f : Addr} {fd : FuncData} (F : Fun K "keep" "FirstKind.keep" sKeepF f fd) (B : Bi mg) : FnOk P w K mg base CX0 2 f fd ["self", "word"] (spKeep K T .first) := by
  refine F.ok scKF (fun vs H Q E h => ?_) (fun cdv A outer s H vs Q E hr h => ?_)
  · obtain ⟨x, p, xs, rfl, _⟩ := h
    rfl
  · obtain ⟨x, p, xs, rfl, hw, hl, ht, q⟩ := h
    refine ⟨_, (pss_one (ps_ret (pe_ifExp (pt_cmpR op_gt (pe_callB call_len_seq (by rfl) B.len PySem.boot_len (pa_cons (pv 1) pa_nil)) pe_int (nomark _)) (pe_lst (pa_cons pe_int pa_nil)) (pe_lst pa_nil)))), ?_⟩
    simp only [tSeq, tAsg, gName, tOp, rI, rI0, rU, tUn, tVar, tC, tCB, tCons, tNil, tTest, tIfS, tRet, tRetN, tDrop, tNext, tBreak, tCont, rEq, rNe, CDiv, CDivN, CMul, tBM, tBM0, tTup, tLst, tAug, tIf, tAnd, tOr, tNot, tAndV, tOrV, tNotV, tIsN, tNotN, tB, scal, tCall, cxK, cxKn, rIxT, rIxL, rIn, rAppend, rReverse, tVals, tDSetd, tDGet, tDGet1, tDGet2, tDIn, tDNotIn, rSortV, rSortT, rPop, rSortL, rSortT, tSl, tNoPart, tPart, List.append_nil, L2.start, List.map_cons, List.map_nil, List.length_cons, List.length_nil, List.replicate_succ, List.replicate_zero, List.cons_append, List.nil_append, Nat.reduceAdd, Nat.reduceSub, exists_eq, exists_eq', List.getElem?_cons_zero, List.getElem?_cons_succ, List.set_cons_zero, List.set_cons_succ, Option.some.injEq, V.int.injEq, V.bl.injEq, V.str.injEq, V.ref.injEq, List.cons.injEq, and_true, true_and, and_false, false_and, reduceCtorEq, exists_false, or_false, false_or, exists_and_left, exists_and_right, exists_eq_left, exists_eq_left', exists_eq_right, exists_eq_right', exists_const, ite_true, ite_false, Bool.false_eq_true, if_true, if_false, decide_true, decide_false]
    refine ⟨xs.map V.int, hw.symm, ite2 (fun e => ?_) (fun e => ?_)⟩
    · have e1 := of_decide_eq_true e
      rw [List.length_map] at e1
      have e2 : ¬ xs.length = 0 := by omega
      refine ⟨by decide, fun l hl => q _ l (Gw.upd (.refl ht) hl) (Gw.nw (.refl ht) hl) ?_⟩
      rw [show keepIx .first xs = [0] from if_neg e2]
      exact upd_same
    · have e2 : xs.length = 0 := by
        refine Decidable.byContradiction fun z => e (decide_eq_true ?_)
        rw [List.length_map]
        omega
      refine ⟨Nat.zero_le _, fun l hl => q _ l (Gw.upd (.refl ht) hl) (Gw.nw (.refl ht) hl) ?_⟩
      rw [show keepIx .first xs = [] from if_pos e2]
      exact upd_same
theorem scKL : FnScope ["self", "word"] ["self", "word"] (defScope sKeepL) := ⟨rfl, rfl, rfl, by decide +kernel, rfl, by decide +kernel, by decide +kernel⟩
theorem ok_keepL {f : Addr} {fd : FuncData} (F : Fun K "keep" "LastKind.keep" sKeepL f fd) (B : Bi mg) : FnOk P w K mg base CX0 2 f fd ["self", "word"] (spKeep K T .last) := by
  refine F.ok scKL (fun vs H Q E h => ?_) (fun cdv A outer s H vs Q E hr h => ?_)
  · obtain ⟨x, p, xs, rfl, _⟩ := h
    rfl
  · obtain ⟨x, p, xs, rfl, hw, hl, ht, q⟩ := h
    refine ⟨_, (pss_one (ps_ret (pe_ifExp (pt_cmpR op_gt (pe_callB call_len_seq (by rfl) B.len PySem.boot_len (pa_cons (pv 1) pa_nil)) pe_int (nomark _)) (pe_lst (pa_cons (pe_op op_sub (pe_callB call_len_seq (by rfl) B.len PySem.boot_len (pa_cons (pv 1) pa_nil)) pe_int) pa_nil)) (pe_lst pa_nil)))), ?_⟩
    simp only [tSeq, tAsg, gName, tOp, rI, rI0, rU, tUn, tVar, tC, tCB, tCons, tNil, tTest, tIfS, tRet, tRetN, tDrop, tNext, tBreak, tCont, rEq, rNe, CDiv, CDivN, CMul, tBM, tBM0, tTup, tLst, tAug, tIf, tAnd, tOr, tNot, tAndV, tOrV, tNotV, tIsN, tNotN, tB, scal, tCall, cxK, cxKn, rIxT, rIxL, rIn, rAppend, rReverse, tVals, tDSetd, tDGet, tDGet1, tDGet2, tDIn, tDNotIn, rSortV, rSortT, rPop, rSortL, rSortT, tSl, tNoPart, tPart, List.append_nil, L2.start, List.map_cons, List.map_nil, List.length_cons, List.length_nil, List.replicate_succ, List.replicate_zero, List.cons_append, List.nil_append, Nat.reduceAdd, Nat.reduceSub, exists_eq, exists_eq', List.getElem?_cons_zero, List.getElem?_cons_succ, List.set_cons_zero, List.set_cons_succ, Option.some.injEq, V.int.injEq, V.bl.injEq, V.str.injEq, V.ref.injEq, List.cons.injEq, and_true, true_and, and_false, false_and, reduceCtorEq, exists_false, or_false, false_or, exists_and_left, exists_and_right, exists_eq_left, exists_eq_left', exists_eq_right, exists_eq_right', exists_const, ite_true, ite_false, Bool.false_eq_true, if_true, if_false, decide_true, decide_false]
    refine ⟨xs.map V.int, hw.symm, ite2 (fun e => ?_) (fun e => ?_)⟩
    · have e1 := of_decide_eq_true e
      rw [List.length_map] at e1
      have e2 : ¬ xs.length = 0 := by omega
      refine ⟨xs.map V.int, hw.symm, by decide, fun l hl => q _ l (Gw.upd (.refl ht) hl) (Gw.nw (.refl ht) hl) ?_⟩
      rw [show keepIx .last xs = [xs.length - 1] from if_neg e2, upd_same]
      show _ = some (HO.lst [V.int ((xs.length - 1 : Nat) : Int)])
      rw [List.length_map, show ((xs.length - 1 : Nat) : Int) = (xs.length : Int) - 1 from by omega]
    · have e2 : xs.length = 0 := by
        refine Decidable.byContradiction fun z => e (decide_eq_true ?_)
        rw [List.length_map]
        omega
      refine ⟨Nat.zero_le _, fun l hl => q _ l (Gw.upd (.refl ht) hl) (Gw.nw (.refl ht) hl) ?_⟩
      rw [show keepIx .last xs = [] from if_pos e2]
      exact upd_same
theorem scKE : FnScope ["self", "word"] ["self", "word"] (defScope sKeepE) := ⟨rfl, rfl, rfl, by decide +kernel, rfl, by decide +kernel, by decide +kernel⟩
theorem ok_keepE {f : Addr} {fd : FuncData} (F : Fun K "keep" "EndsKind.keep" sKeepE f fd) (B : Bi mg) : FnOk P w K mg base CX0 2 f fd ["self", "word"] (spKeep K T .ends) := by
  refine F.ok scKE (fun vs H Q E h => ?_) (fun cdv A outer s H vs Q E hr h => ?_)
  · obtain ⟨x, p, xs, rfl, _⟩ := h
    rfl
  · obtain ⟨x, p, xs, rfl, hw, hl, ht, q⟩ := h
    refine ⟨_, (pss_one (ps_ret (pe_ifExp (pt_cmpR op_gt (pe_callB call_len_seq (by rfl) B.len PySem.boot_len (pa_cons (pv 1) pa_nil)) pe_int (nomark _)) (pe_lst (pa_cons pe_int (pa_cons (pe_op op_sub (pe_callB call_len_seq (by rfl) B.len PySem.boot_len (pa_cons (pv 1) pa_nil)) pe_int) pa_nil))) (pe_lst pa_nil)))), ?_⟩
    simp only [tSeq, tAsg, gName, tOp, rI, rI0, rU, tUn, tVar, tC, tCB, tCons, tNil, tTest, tIfS, tRet, tRetN, tDrop, tNext, tBreak, tCont, rEq, rNe, CDiv, CDivN, CMul, tBM, tBM0, tTup, tLst, tAug, tIf, tAnd, tOr, tNot, tAndV, tOrV, tNotV, tIsN, tNotN, tB, scal, tCall, cxK, cxKn, rIxT, rIxL, rIn, rAppend, rReverse, tVals, tDSetd, tDGet, tDGet1, tDGet2, tDIn, tDNotIn, rSortV, rSortT, rPop, rSortL, rSortT, tSl, tNoPart, tPart, List.append_nil, L2.start, List.map_cons, List.map_nil, List.length_cons, List.length_nil, List.replicate_succ, List.replicate_zero, List.cons_append, List.nil_append, Nat.reduceAdd, Nat.reduceSub, exists_eq, exists_eq', List.getElem?_cons_zero, List.getElem?_cons_succ, List.set_cons_zero, List.set_cons_succ, Option.some.injEq, V.int.injEq, V.bl.injEq, V.str.injEq, V.ref.injEq, List.cons.injEq, and_true, true_and, and_false, false_and, reduceCtorEq, exists_false, or_false, false_or, exists_and_left, exists_and_right, exists_eq_left, exists_eq_left', exists_eq_right, exists_eq_right', exists_const, ite_true, ite_false, Bool.false_eq_true, if_true, if_false, decide_true, decide_false]
    refine ⟨xs.map V.int, hw.symm, ite2 (fun e => ?_) (fun e => ?_)⟩
    · have e1 := of_decide_eq_true e
      rw [List.length_map] at e1
      have e2 : ¬ xs.length = 0 := by omega
      refine ⟨xs.map V.int, hw.symm, by decide, fun l hl => q _ l (Gw.upd (.refl ht) hl) (Gw.nw (.refl ht) hl) ?_⟩
      rw [show keepIx .ends xs = [0, xs.length - 1] from if_neg e2, upd_same]
      show _ = some (HO.lst [V.int 0, V.int ((xs.length - 1 : Nat) : Int)])
      rw [List.length_map, show ((xs.length - 1 : Nat) : Int) = (xs.length : Int) - 1 from by omega]
    · have e2 : xs.length = 0 := by
        refine Decidable.byContradiction fun z => e (decide_eq_true ?_)
        rw [List.length_map]
        omega
      refine ⟨Nat.zero_le _, fun l hl => q _ l (Gw.upd (.refl ht) hl) (Gw.nw (.refl ht) hl) ?_⟩
      rw [show keepIx .ends xs = [] from if_pos e2]
      exact upd_same
theorem scKB : FnScope ["self", "word"] ["self", "word"] (defScope sKeepB) := ⟨rfl, rfl, rfl, by decide +kernel, rfl, by decide +kernel, by decide +kernel⟩
def lamQ : Str := ("BagKind.keep" : Str) ++ ".<locals>." ++ "<lambda>"
theorem ok_keepB {f c Pt : Addr} {fd : FuncData} (F : FunC K "keep" "BagKind.keep" sKeepB f fd c) (B : Bi mg) (TB : LamX.TabB base mg c Pt) : FnOk P w K mg base CX0 2 f fd ["self", "word"] (spKeep K [(Pt, lamQ)] .bag) := by
  refine F.ok scKB (fun vs H Q E h => ?_) (fun A outer s H vs Q E hr h => ?_)
  · obtain ⟨x, p, xs, rfl, _⟩ := h
    rfl
  · obtain ⟨x, p, xs, rfl, hw, hl, ht, q⟩ := h
    refine ⟨_, pss_one (ps_ret (pe_sortAt (T := [(Pt, lamQ)]) (i := 1) rfl hr (by rfl) B.sorted (by rfl) B.range (pe_callB call_len_seq (by rfl) B.len PySem.boot_len (pa_cons (pv 1) pa_nil)) TB rfl (List.mem_singleton.mpr rfl) (fun p hp _ => by rw [List.mem_singleton.mp hp]; rfl) rfl (by rfl) rfl (by rfl) rfl rfl rfl (fun _ _ _ _ _ _ => rfl))), ?_⟩
    refine ⟨_, rfl, p, xs.map V.int, rfl, hw.symm, p, xs, rfl, by rw [List.length_map], hw, by omega, ht, fun H2 l e2 t2 hl2 => ?_⟩
    exact q _ l (Gw.upd ⟨e2, t2⟩ hl2) (Gw.nw ⟨e2, t2⟩ hl2) upd_same
end
end Mv

set_option Elab.async false
set_option linter.all false
set_option maxRecDepth 100000
set_option maxHeartbeats 4000000
namespace Mv
open PySem PySem.Spec PyProof.Rows L2
section
variable {P : Program} {w : World} {K : PySem.W.Frag} {mg : Str → Option Value} {base : Heap} {T : List (Addr × Str)}
/-- what least_places does between two turns -/
def LpI (H : Hp) (p o : Addr) (xs : List Int) (i : Nat) (σ : L2.St) (H' : Hp) : Prop := ∃ y2 y3, σ = [some (.ref p), some (.ref o), y2, y3] ∧ Same H H' ∧ H' o = some (.dK (leastD xs i))
theorem scLe : FnScope ["word", "places", "at", "value"] ["word"] (defScope sLeast) := ⟨rfl, rfl, rfl, by decide +kernel, rfl, by decide +kernel, by decide +kernel⟩
theorem ok_least {f : Addr} {fd : FuncData} (F : Fun K "least_places" "least_places" sLeast f fd) (B : Bi mg) : FnOk P w K mg base CX0 1 f fd ["word"] (spLeast K) := by
  refine F.ok scLe (fun vs H Q E h => ?_) (fun cdv A outer s H vs Q E hr h => ?_)
  · obtain ⟨p, xs, rfl, _⟩ := h
    rfl
  · obtain ⟨p, xs, rfl, hw, hl, q⟩ := h
    rcases hw with hw | hw
    case' inl => refine ⟨_, (pss_cons (ps_set (i := 1) scLe.nd rfl (.inl rfl) pe_dnewK)
 (pss_cons (ps_for PassesOwn.never rfl (pi_enumT (by rfl) B.enumerate (pa_cons (pv 0) pa_nil)) (pg_tup rfl (pgs_cons (pg_name (i := 2) scLe.nd rfl (.inl rfl)) (pgs_cons (pg_name (i := 3) scLe.nd rfl (.inl rfl)) pgs_nil)))
 (pss_one (ps_expr (pe_dsetd (pv 1) (pv 3) (pv 2) ⟨by rfl, by rfl, by rfl, by rfl⟩))))
 (pss_one (ps_ret (pv 1))))), ?_⟩
    case' inr => refine ⟨_, (pss_cons (ps_set (i := 1) scLe.nd rfl (.inl rfl) pe_dnewK)
 (pss_cons (ps_for PassesOwn.never rfl (pi_enum (by rfl) B.enumerate (pa_cons (pv 0) pa_nil)) (pg_tup rfl (pgs_cons (pg_name (i := 2) scLe.nd rfl (.inl rfl)) (pgs_cons (pg_name (i := 3) scLe.nd rfl (.inl rfl)) pgs_nil)))
 (pss_one (ps_expr (pe_dsetd (pv 1) (pv 3) (pv 2) ⟨by rfl, by rfl, by rfl, by rfl⟩))))
 (pss_one (ps_ret (pv 1))))), ?_⟩
    all_goals
      refine fun o no => ?_
      have so := same_upd (o := .dK []) no
    case' inl =>
      have hw1 := Same.tup so hw
      refine ⟨.ref p, rfl, p, _, rfl, hw1, ?_⟩
      refine for_it walk_enumT (fun i σ H' => LpI H p o xs i σ H') ⟨none, none, rfl, so, upd_same⟩ (fun i σ H' _ ⟨_, _, _, s3, _⟩ => Same.tup s3 hw) ?_ ?_
    case' inr =>
      have hw1 := so.seq hw
      refine ⟨.ref p, rfl, p, _, rfl, hw1, ?_⟩
      refine for_it walk_enum (fun i σ H' => LpI H p o xs i σ H') ⟨none, none, rfl, so, upd_same⟩ (fun i σ H' _ ⟨_, _, _, s3, _⟩ => s3.seq hw) ?_ ?_
    all_goals
      first
      | rintro i x σ H3 H4 hi ⟨y2, y3, rfl, sm, hd⟩ ⟨t, x1, x2, rfl, nT, rfl, e1, e2⟩
        obtain rfl : V.int (i : Nat) = x1 := Option.some.inj e1
        obtain ⟨u, rfl, hu⟩ := int_at e2
        rw [List.length_map] at hi
        have smT : Same H3 (upd H3 t (.tup [.int (i : Nat), .int u])) := same_upd nT
        refine ⟨t, [.int (i : Nat), .int u], rfl, .inl (.inl upd_same), rfl, .int (i : Nat), [.int (i : Nat), .int u].tail, rfl, .int u, [], rfl, rfl, ?_⟩
        have hd4 := smT _ _ hd
        have sm4 := sm.trans smT
        generalize upd H3 t (.tup [.int (i : Nat), .int u]) = H4 at hd4 sm4 ⊢
        simp only [tSeq, tAsg, gName, tOp, rI, rI0, rU, tUn, tVar, tC, tCB, tCons, tNil, tTest, tIfS, tRet, tRetN, tDrop, tNext, tBreak, tCont, rEq, rNe, CDiv, CDivN, CMul, tBM, tBM0, tTup, tLst, tAug, tIf, tAnd, tOr, tNot, tAndV, tOrV, tNotV, tIsN, tNotN, tB, scal, tCall, cxK, cxKn, rIxT, rIxL, rIn, rAppend, rReverse, tVals, tDSetd, tDGet, tDGet1, tDGet2, tDIn, tDNotIn, rSortV, rSortT, rPop, rSortL, rSortT, tSl, tNoPart, tPart, List.append_nil, L2.start, List.map_cons, List.map_nil, List.length_cons, List.length_nil, List.replicate_succ, List.replicate_zero, List.cons_append, List.nil_append, Nat.reduceAdd, Nat.reduceSub, exists_eq, exists_eq', List.getElem?_cons_zero, List.getElem?_cons_succ, List.set_cons_zero, List.set_cons_succ, Option.some.injEq, V.int.injEq, V.bl.injEq, V.str.injEq, V.ref.injEq, List.cons.injEq, and_true, true_and, and_false, false_and, reduceCtorEq, exists_false, or_false, false_or, exists_and_left, exists_and_right, exists_eq_left, exists_eq_left', exists_eq_right, exists_eq_right', exists_const, ite_true, ite_false, Bool.false_eq_true, if_true, if_false, decide_true, decide_false]
        refine ⟨.inl ⟨_, .inl hd4⟩, _, hd4, .inl u, rfl, Nat.lt_of_le_of_lt (leastD_len xs i) (by rw [sizeLine_eq]; omega), fun v hv => ?_, fun hv => ?_⟩
        · have hx : u ∈ xs.take i := by
            refine Decidable.byContradiction fun z => ?_
            unfold leastD at hv
            rw [val_map, if_neg fun y => z ((mem_headsI _).mp y)] at hv
            cases hv
          exact ⟨_, _, rfl, sm4, by rw [least_hit hu hx]; exact hd4⟩
        · have hx : u ∉ xs.take i := fun z => by
            unfold leastD at hv
            rw [val_map, if_pos ((mem_headsI _).mpr z)] at hv
            cases hv
          exact ⟨_, _, rfl, fun b z e => by rw [upd_ne (ne_of_none e no)]; exact sm4 _ _ e, by rw [least_new hu hx]; exact upd_same⟩
      | rintro σ H3 ⟨y2, y3, rfl, sm, hd⟩
        rw [List.length_map] at hd
        simp only [tSeq, tAsg, gName, tOp, rI, rI0, rU, tUn, tVar, tC, tCB, tCons, tNil, tTest, tIfS, tRet, tRetN, tDrop, tNext, tBreak, tCont, rEq, rNe, CDiv, CDivN, CMul, tBM, tBM0, tTup, tLst, tAug, tIf, tAnd, tOr, tNot, tAndV, tOrV, tNotV, tIsN, tNotN, tB, scal, tCall, cxK, cxKn, rIxT, rIxL, rIn, rAppend, rReverse, tVals, tDSetd, tDGet, tDGet1, tDGet2, tDIn, tDNotIn, rSortV, rSortT, rPop, rSortL, rSortT, tSl, tNoPart, tPart, List.append_nil, L2.start, List.map_cons, List.map_nil, List.length_cons, List.length_nil, List.replicate_succ, List.replicate_zero, List.cons_append, List.nil_append, Nat.reduceAdd, Nat.reduceSub, exists_eq, exists_eq', List.getElem?_cons_zero, List.getElem?_cons_succ, List.set_cons_zero, List.set_cons_succ, Option.some.injEq, V.int.injEq, V.bl.injEq, V.str.injEq, V.ref.injEq, List.cons.injEq, and_true, true_and, and_false, false_and, reduceCtorEq, exists_false, or_false, false_or, exists_and_left, exists_and_right, exists_eq_left, exists_eq_left', exists_eq_right, exists_eq_right', exists_const, ite_true, ite_false, Bool.false_eq_true, if_true, if_false, decide_true, decide_false]
        exact q _ o sm hd
theorem scGr : FnScope ["word", "at", "value"] ["word"] (defScope sGreat) := ⟨rfl, rfl, rfl, by decide +kernel, rfl, by decide +kernel, by decide +kernel⟩
theorem ok_great {f : Addr} {fd : FuncData} (F : Fun K "greatest_places" "greatest_places" sGreat f fd) (B : Bi mg) : FnOk P w K mg base CX0 1 f fd ["word"] (spGreat K) := by
  refine F.ok scGr (fun vs H Q E h => ?_) (fun cdv A outer s H vs Q E hr h => ?_)
  · obtain ⟨p, xs, rfl, _⟩ := h
    rfl
  · obtain ⟨p, xs, rfl, hw, hl, q⟩ := h
    rcases hw with hw | hw
    case' inl => refine ⟨_, (pss_one (ps_ret (pe_dc (own := [("at", 1), ("value", 2)]) (g := gTup K 2 (gCons (gName 1) (gCons (gName 2) gNil))) (tt := tYes) rfl scGr.nd (pi_enumT (by rfl) B.enumerate (pa_cons (pv 0) pa_nil)) (blkOk_by (N := ["word", "at", "value"]) (sc := defScope sGreat) (by decide +kernel)) (fun _ _ _ _ _ => (pg_tup rfl (pgs_cons (pg_name (i := 1) scGr.nd rfl (.inl rfl)) (pgs_cons (pg_name (i := 2) scGr.nd rfl (.inl rfl)) pgs_nil)))) (fun _ _ _ _ _ => pts_nil) (fun _ _ _ _ _ => (pv 2)) (fun _ _ _ _ _ => (pv 1))))), ?_⟩
    case' inr => refine ⟨_, (pss_one (ps_ret (pe_dc (own := [("at", 1), ("value", 2)]) (g := gTup K 2 (gCons (gName 1) (gCons (gName 2) gNil))) (tt := tYes) rfl scGr.nd (pi_enum (by rfl) B.enumerate (pa_cons (pv 0) pa_nil)) (blkOk_by (N := ["word", "at", "value"]) (sc := defScope sGreat) (by decide +kernel)) (fun _ _ _ _ _ => (pg_tup rfl (pgs_cons (pg_name (i := 1) scGr.nd rfl (.inl rfl)) (pgs_cons (pg_name (i := 2) scGr.nd rfl (.inl rfl)) pgs_nil)))) (fun _ _ _ _ _ => pts_nil) (fun _ _ _ _ _ => (pv 2)) (fun _ _ _ _ _ => (pv 1))))), ?_⟩
    case' inl =>
      refine ⟨.ref p, rfl, p, _, rfl, hw, fun o no => ?_⟩
      have so := same_upd (o := .dK []) no
      refine dc_it walk_enumT (fun i H' => Same H H' ∧ H' o = some (.dK (greatD xs i))) ⟨so, upd_same⟩ (fun i H' _ h => Same.tup h.1 hw) ?_ ?_
    case' inr =>
      refine ⟨.ref p, rfl, p, _, rfl, hw, fun o no => ?_⟩
      have so := same_upd (o := .dK []) no
      refine dc_it walk_enum (fun i H' => Same H H' ∧ H' o = some (.dK (greatD xs i))) ⟨so, upd_same⟩ (fun i H' _ h => h.1.seq hw) ?_ ?_
    all_goals
      first
      | rintro i x H3 H4 hi ⟨sm, hd⟩ ⟨t, x1, x2, rfl, nT, rfl, e1, e2⟩
        obtain rfl : V.int (i : Nat) = x1 := Option.some.inj e1
        obtain ⟨u, rfl, hu⟩ := int_at e2
        rw [List.length_map] at hi
        have smT : Same H3 (upd H3 t (.tup [.int (i : Nat), .int u])) := same_upd nT
        refine ⟨t, [.int (i : Nat), .int u], rfl, .inl (.inl upd_same), rfl, .int (i : Nat), [.int (i : Nat), .int u].tail, rfl, .int u, [], rfl, rfl, ?_⟩
        have hd4 := smT _ _ hd
        have sm4 := sm.trans smT
        generalize upd H3 t (.tup [.int (i : Nat), .int u]) = H4 at hd4 sm4 ⊢
        refine ⟨rfl, .int u, rfl, .int (i : Nat), rfl, _, .inl u, rfl, hd4, Nat.lt_of_le_of_lt (greatD_len xs i) (by rw [sizeLine_eq]; omega), fun b z e => ?_, ?_⟩
        · rw [upd_ne (ne_of_none e no)]
          exact sm4 _ _ e
        · rw [great_put hu]
          exact upd_same
      | rintro H3 ⟨sm, hd⟩
        rw [List.length_map] at hd
        exact q _ o sm hd
/-! ### keep, by the dicts -/
abbrev N3 : List Str := ["self", "word", "places"]
theorem scKH : FnScope ["self", "word", "places"] ["self", "word"] (defScope sKeepH) := ⟨rfl, rfl, rfl, by decide +kernel, rfl, by decide +kernel, by decide +kernel⟩
theorem ok_keepH {f : Addr} {fd : FuncData} (F : Fun K "keep" "HeadsKind.keep" sKeepH f fd) (B : Bi mg) (cLeast : CalX CX0 P w K mg base 1 "least_places" (spLeast K)) : FnOk P w K mg base CX0 2 f fd ["self", "word"] (spKeep K T .heads) := by
  refine F.ok scKH (fun vs H Q E h => ?_) (fun cdv A outer s H vs Q E hr h => ?_)
  · obtain ⟨x, p, xs, rfl, _⟩ := h
    rfl
  · obtain ⟨x, p, xs, rfl, hw, hl, ht, q⟩ := h
    refine ⟨_, (pss_cons (ps_set (i := 2) scKH.nd rfl (.inl rfl) (pe_cx cLeast hr (by decide) pass0 (by rfl) (pa_cons (pv 1) pa_nil)))
 (pss_one (ps_ret (pe_callB (cr_sortV rfl) (by rfl) B.sorted (by decide +kernel) (pa_cons (pe_vals (pv 2)) pa_nil))))), ?_⟩
    simp only [tSeq, tAsg, gName, tOp, rI, rI0, rU, tUn, tVar, tC, tCB, tCons, tNil, tTest, tIfS, tRet, tRetN, tDrop, tNext, tBreak, tCont, rEq, rNe, CDiv, CDivN, CMul, tBM, tBM0, tTup, tLst, tAug, tIf, tAnd, tOr, tNot, tAndV, tOrV, tNotV, tIsN, tNotN, tB, scal, tCall, cxK, cxKn, rIxT, rIxL, rIn, rAppend, rReverse, tVals, tDSetd, tDGet, tDGet1, tDGet2, tDIn, tDNotIn, rSortV, rSortT, rPop, rSortL, rSortT, tSl, tNoPart, tPart, List.append_nil, L2.start, List.map_cons, List.map_nil, List.length_cons, List.length_nil, List.replicate_succ, List.replicate_zero, List.cons_append, List.nil_append, Nat.reduceAdd, Nat.reduceSub, exists_eq, exists_eq', List.getElem?_cons_zero, List.getElem?_cons_succ, List.set_cons_zero, List.set_cons_succ, Option.some.injEq, V.int.injEq, V.bl.injEq, V.str.injEq, V.ref.injEq, List.cons.injEq, and_true, true_and, and_false, false_and, reduceCtorEq, exists_false, or_false, false_or, exists_and_left, exists_and_right, exists_eq_left, exists_eq_left', exists_eq_right, exists_eq_right', exists_const, ite_true, ite_false, Bool.false_eq_true, if_true, if_false, decide_true, decide_false]
    refine ⟨p, xs, rfl, hw, hl, fun H1 d s1 hd => ?_⟩
    simp only [tSeq, tAsg, gName, tOp, rI, rI0, rU, tUn, tVar, tC, tCB, tCons, tNil, tTest, tIfS, tRet, tRetN, tDrop, tNext, tBreak, tCont, rEq, rNe, CDiv, CDivN, CMul, tBM, tBM0, tTup, tLst, tAug, tIf, tAnd, tOr, tNot, tAndV, tOrV, tNotV, tIsN, tNotN, tB, scal, tCall, cxK, cxKn, rIxT, rIxL, rIn, rAppend, rReverse, tVals, tDSetd, tDGet, tDGet1, tDGet2, tDIn, tDNotIn, rSortV, rSortT, rPop, rSortL, rSortT, tSl, tNoPart, tPart, List.append_nil, L2.start, List.map_cons, List.map_nil, List.length_cons, List.length_nil, List.replicate_succ, List.replicate_zero, List.cons_append, List.nil_append, Nat.reduceAdd, Nat.reduceSub, exists_eq, exists_eq', List.getElem?_cons_zero, List.getElem?_cons_succ, List.set_cons_zero, List.set_cons_succ, Option.some.injEq, V.int.injEq, V.bl.injEq, V.str.injEq, V.ref.injEq, List.cons.injEq, and_true, true_and, and_false, false_and, reduceCtorEq, exists_false, or_false, false_or, exists_and_left, exists_and_right, exists_eq_left, exists_eq_left', exists_eq_right, exists_eq_right', exists_const, ite_true, ite_false, Bool.false_eq_true, if_true, if_false, decide_true, decide_false]
    refine ⟨⟨_, hd⟩, fun v hv => ⟨d, upd_same, leastD xs xs.length, by rw [upd_ne (ne_of_none hd hv)]; exact hd, (headsI xs).map fun x => ((xs.idxOf x : Nat) : Int), ?_, fun l hl' => ?_⟩⟩
    · unfold leastD
      rw [List.take_length, List.map_map, List.map_map]
      rfl
    · rw [sort_ixs, ← ixV_int]
      exact q _ l (Gw.upd (Gw.upd (.of ht s1) hv) hl') (Gw.nw (Gw.upd (.of ht s1) hv) hl') upd_same
theorem scKT : FnScope ["self", "word", "places"] ["self", "word"] (defScope sKeepT) := ⟨rfl, rfl, rfl, by decide +kernel, rfl, by decide +kernel, by decide +kernel⟩
theorem ok_keepT {f : Addr} {fd : FuncData} (F : Fun K "keep" "TailsKind.keep" sKeepT f fd) (B : Bi mg) (cGreat : CalX CX0 P w K mg base 1 "greatest_places" (spGreat K)) : FnOk P w K mg base CX0 2 f fd ["self", "word"] (spKeep K T .tails) := by
  refine F.ok scKT (fun vs H Q E h => ?_) (fun cdv A outer s H vs Q E hr h => ?_)
  · obtain ⟨x, p, xs, rfl, _⟩ := h
    rfl
  · obtain ⟨x, p, xs, rfl, hw, hl, ht, q⟩ := h
    refine ⟨_, (pss_cons (ps_set (i := 2) scKT.nd rfl (.inl rfl) (pe_cx cGreat hr (by decide) pass0 (by rfl) (pa_cons (pv 1) pa_nil)))
 (pss_one (ps_ret (pe_callB (cr_sortV rfl) (by rfl) B.sorted (by decide +kernel) (pa_cons (pe_vals (pv 2)) pa_nil))))), ?_⟩
    simp only [tSeq, tAsg, gName, tOp, rI, rI0, rU, tUn, tVar, tC, tCB, tCons, tNil, tTest, tIfS, tRet, tRetN, tDrop, tNext, tBreak, tCont, rEq, rNe, CDiv, CDivN, CMul, tBM, tBM0, tTup, tLst, tAug, tIf, tAnd, tOr, tNot, tAndV, tOrV, tNotV, tIsN, tNotN, tB, scal, tCall, cxK, cxKn, rIxT, rIxL, rIn, rAppend, rReverse, tVals, tDSetd, tDGet, tDGet1, tDGet2, tDIn, tDNotIn, rSortV, rSortT, rPop, rSortL, rSortT, tSl, tNoPart, tPart, List.append_nil, L2.start, List.map_cons, List.map_nil, List.length_cons, List.length_nil, List.replicate_succ, List.replicate_zero, List.cons_append, List.nil_append, Nat.reduceAdd, Nat.reduceSub, exists_eq, exists_eq', List.getElem?_cons_zero, List.getElem?_cons_succ, List.set_cons_zero, List.set_cons_succ, Option.some.injEq, V.int.injEq, V.bl.injEq, V.str.injEq, V.ref.injEq, List.cons.injEq, and_true, true_and, and_false, false_and, reduceCtorEq, exists_false, or_false, false_or, exists_and_left, exists_and_right, exists_eq_left, exists_eq_left', exists_eq_right, exists_eq_right', exists_const, ite_true, ite_false, Bool.false_eq_true, if_true, if_false, decide_true, decide_false]
    refine ⟨p, xs, rfl, hw, hl, fun H1 d s1 hd => ?_⟩
    simp only [tSeq, tAsg, gName, tOp, rI, rI0, rU, tUn, tVar, tC, tCB, tCons, tNil, tTest, tIfS, tRet, tRetN, tDrop, tNext, tBreak, tCont, rEq, rNe, CDiv, CDivN, CMul, tBM, tBM0, tTup, tLst, tAug, tIf, tAnd, tOr, tNot, tAndV, tOrV, tNotV, tIsN, tNotN, tB, scal, tCall, cxK, cxKn, rIxT, rIxL, rIn, rAppend, rReverse, tVals, tDSetd, tDGet, tDGet1, tDGet2, tDIn, tDNotIn, rSortV, rSortT, rPop, rSortL, rSortT, tSl, tNoPart, tPart, List.append_nil, L2.start, List.map_cons, List.map_nil, List.length_cons, List.length_nil, List.replicate_succ, List.replicate_zero, List.cons_append, List.nil_append, Nat.reduceAdd, Nat.reduceSub, exists_eq, exists_eq', List.getElem?_cons_zero, List.getElem?_cons_succ, List.set_cons_zero, List.set_cons_succ, Option.some.injEq, V.int.injEq, V.bl.injEq, V.str.injEq, V.ref.injEq, List.cons.injEq, and_true, true_and, and_false, false_and, reduceCtorEq, exists_false, or_false, false_or, exists_and_left, exists_and_right, exists_eq_left, exists_eq_left', exists_eq_right, exists_eq_right', exists_const, ite_true, ite_false, Bool.false_eq_true, if_true, if_false, decide_true, decide_false]
    refine ⟨⟨_, hd⟩, fun v hv => ⟨d, upd_same, greatD xs xs.length, by rw [upd_ne (ne_of_none hd hv)]; exact hd, (headsI xs).map fun x => ((lastIx xs x : Nat) : Int), ?_, fun l hl' => ?_⟩⟩
    · unfold greatD
      rw [List.take_length, List.map_map, List.map_map]
      rfl
    · rw [sort_last, ← ixV_int]
      exact q _ l (Gw.upd (Gw.upd (.of ht s1) hv) hl') (Gw.nw (Gw.upd (.of ht s1) hv) hl') upd_same
theorem scKS : FnScope ["self", "word", "places", "value"] ["self", "word"] (defScope sKeepS) := ⟨rfl, rfl, rfl, by decide +kernel, rfl, by decide +kernel, by decide +kernel⟩
theorem ok_keepS {f : Addr} {fd : FuncData} (F : Fun K "keep" "SetKind.keep" sKeepS f fd) (B : Bi mg) (cLeast : CalX CX0 P w K mg base 1 "least_places" (spLeast K)) : FnOk P w K mg base CX0 2 f fd ["self", "word"] (spKeep K T .set) := by
  refine F.ok scKS (fun vs H Q E h => ?_) (fun cdv A outer s H vs Q E hr h => ?_)
  · obtain ⟨x, p, xs, rfl, _⟩ := h
    rfl
  · obtain ⟨x, p, xs, rfl, hw, hl, ht, q⟩ := h
    refine ⟨_, (pss_cons (ps_set (i := 2) scKS.nd rfl (.inr rfl) (pe_cx cLeast hr (by decide) pass0 (by rfl) (pa_cons (pv 1) pa_nil)))
 (pss_one (ps_ret (pe_lc (own := [("value", 3)]) (g := gName 3) (tt := tYes) rfl scKS.nd (pi_list (pe_callB (call_sortedDI rfl) (by rfl) B.sorted (by decide +kernel) (pa_cons (pv 2) pa_nil))) (blkOk_by (N := ["self", "word", "places", "value"]) (sc := defScope sKeepS) (by decide +kernel)) (fun _ _ _ _ _ => (pg_name (i := 3) scKS.nd rfl (.inl rfl))) (fun _ _ _ _ _ => pts_nil) (fun _ _ _ _ _ => (pe_dget (hu_of hr) (pv 2) (pv 3) (fun _ _ => rfl))))))), ?_⟩
    simp only [tSeq, tAsg, gName, tOp, rI, rI0, rU, tUn, tVar, tC, tCB, tCons, tNil, tTest, tIfS, tRet, tRetN, tDrop, tNext, tBreak, tCont, rEq, rNe, CDiv, CDivN, CMul, tBM, tBM0, tTup, tLst, tAug, tIf, tAnd, tOr, tNot, tAndV, tOrV, tNotV, tIsN, tNotN, tB, scal, tCall, cxK, cxKn, rIxT, rIxL, rIn, rAppend, rReverse, tVals, tDSetd, tDGet, tDGet1, tDGet2, tDIn, tDNotIn, rSortV, rSortT, rPop, rSortL, rSortT, tSl, tNoPart, tPart, List.append_nil, L2.start, List.map_cons, List.map_nil, List.length_cons, List.length_nil, List.replicate_succ, List.replicate_zero, List.cons_append, List.nil_append, Nat.reduceAdd, Nat.reduceSub, exists_eq, exists_eq', List.getElem?_cons_zero, List.getElem?_cons_succ, List.set_cons_zero, List.set_cons_succ, Option.some.injEq, V.int.injEq, V.bl.injEq, V.str.injEq, V.ref.injEq, List.cons.injEq, and_true, true_and, and_false, false_and, reduceCtorEq, exists_false, or_false, false_or, exists_and_left, exists_and_right, exists_eq_left, exists_eq_left', exists_eq_right, exists_eq_right', exists_const, ite_true, ite_false, Bool.false_eq_true, if_true, if_false, decide_true, decide_false]
    refine ⟨p, xs, rfl, hw, hl, fun H1 d s1 hd => ?_⟩
    simp only [tSeq, tAsg, gName, tOp, rI, rI0, rU, tUn, tVar, tC, tCB, tCons, tNil, tTest, tIfS, tRet, tRetN, tDrop, tNext, tBreak, tCont, rEq, rNe, CDiv, CDivN, CMul, tBM, tBM0, tTup, tLst, tAug, tIf, tAnd, tOr, tNot, tAndV, tOrV, tNotV, tIsN, tNotN, tB, scal, tCall, cxK, cxKn, rIxT, rIxL, rIn, rAppend, rReverse, tVals, tDSetd, tDGet, tDGet1, tDGet2, tDIn, tDNotIn, rSortV, rSortT, rPop, rSortL, rSortT, tSl, tNoPart, tPart, List.append_nil, L2.start, List.map_cons, List.map_nil, List.length_cons, List.length_nil, List.replicate_succ, List.replicate_zero, List.cons_append, List.nil_append, Nat.reduceAdd, Nat.reduceSub, exists_eq, exists_eq', List.getElem?_cons_zero, List.getElem?_cons_succ, List.set_cons_zero, List.set_cons_succ, Option.some.injEq, V.int.injEq, V.bl.injEq, V.str.injEq, V.ref.injEq, List.cons.injEq, and_true, true_and, and_false, false_and, reduceCtorEq, exists_false, or_false, false_or, exists_and_left, exists_and_right, exists_eq_left, exists_eq_left', exists_eq_right, exists_eq_right', exists_const, ite_true, ite_false, Bool.false_eq_true, if_true, if_false, decide_true, decide_false]
    have hks : (leastD xs xs.length).map (fun x => x.fst) = (headsI xs).map Sum.inl := by
      unfold leastD
      rw [List.take_length, List.map_map]
      rfl
    have hz : (headsI xs).length < 64 := Nat.lt_of_le_of_lt (headsI_len _) (by omega)
    refine ⟨.ref d, rfl, d, rfl, _, .inl hd, headsI xs, hks, hz, fun ys r hp hs hr' => ⟨r, rfl, ⟨_, SqL.of upd_same⟩, fun D hD => ?_⟩⟩
    rw [sort_is hp hs] at hD ⊢
    have nrD : r ≠ D := ne_of_none upd_same hD
    have hd2 : upd H1 r (.lst ((sortI (headsI xs)).map V.int)) d = some (.dK (leastD xs xs.length)) := by
      rw [upd_ne (ne_of_none hd hr')]
      exact hd
    have hg2 : Gw T H (upd H1 r (.lst ((sortI (headsI xs)).map V.int))) := Gw.upd (.of ht s1) hr'
    have hr2 : upd H1 r (.lst ((sortI (headsI xs)).map V.int)) r = some (.lst ((sortI (headsI xs)).map V.int)) := upd_same
    generalize upd H1 r (.lst ((sortI (headsI xs)).map V.int)) = H2 at hD hd2 hg2 hr2 ⊢
    refine lc_list (xs := (sortI (headsI xs)).map V.int) (fun i H' => ∃ acc, H' = upd H2 D (.lst acc) ∧ acc = ixV ((keepIx .set xs).take i)) ⟨_, rfl, rfl⟩ (fun i H' _ ⟨acc, e, _⟩ => by rw [e]; exact SqL.of (by rw [upd_ne nrD]; exact hr2)) ?_ ?_
    · rintro i y H' hy ⟨acc, rfl, rfl⟩
      obtain ⟨u, rfl, hu⟩ := int_at hy
      have hux : u ∈ xs := (mem_headsI xs).mp (mem_sort.mp (List.mem_of_getElem? hu))
      have hik : (keepIx .set xs)[i]? = some (xs.idxOf u) := by
        show ((sortI (headsI xs)).map xs.idxOf)[i]? = _
        rw [List.getElem?_map, hu]
        rfl
      refine ⟨rfl, .ref d, rfl, .int u, rfl, d, .int ((xs.idxOf u : Nat) : Int), rfl, ?_, ixV ((keepIx .set xs).take i), upd_same, ?_, ?_⟩
      · have := DGet.k (H := upd H2 D (.lst (ixV ((keepIx .set xs).take i)))) (k := .inl u) (by rw [upd_ne (ne_of_none hd2 hD)]; exact hd2)
        unfold leastD at this
        rw [List.take_length, val_map, if_pos ((mem_headsI xs).mpr hux)] at this
        exact this
      · unfold ixV
        rw [List.length_map, List.length_take, sizeLine_eq]
        have h1 : (keepIx .set xs).length ≤ 60 := by
          show ((sortI (headsI xs)).map xs.idxOf).length ≤ 60
          rw [List.length_map, (sort_perm _).length_eq]
          exact Nat.le_trans (headsI_len _) hl
        omega
      · refine ⟨_, upd_upd, ?_⟩
        rw [List.take_add_one, hik]
        unfold ixV
        rw [List.map_append]
        rfl
    · rintro H' ⟨acc, rfl, rfl⟩
      refine q _ D (Gw.upd hg2 hD) (Gw.nw hg2 hD) ?_
      rw [upd_same, List.take_of_length_le]
      rw [List.length_map]
      show ((sortI (headsI xs)).map xs.idxOf).length ≤ _
      rw [List.length_map]
      exact Nat.le_refl _
end
end Mv

set_option Elab.async false
set_option linter.all false
set_option maxRecDepth 100000
set_option maxHeartbeats 4000000
namespace Mv
open PySem PySem.Spec PyProof.Rows L2
/-- an object of the kind's class -/
def KObj (cls : Kd → Addr) (H : Hp) (o : Addr) (k : Kd) : Prop := ∃ dx, H o = some (.ins (cls k) dx [])
theorem KObj.ext {cls : Kd → Addr} {H H1 : Hp} {o : Addr} {k : Kd} (h : KObj cls H o k) (e : LamX.ExtN H H1) : KObj cls H1 o k := by
  obtain ⟨dx, h⟩ := h
  exact ⟨dx, e _ _ h fun ps z => by cases z⟩
def spPlainM (K : PySem.W.Frag) (cls : Kd → Addr) (T : List (Addr × Str)) (k : Kd) : Sp := fun vs H Q _ => ∃ (o p : Addr) (xs : List Int), vs = [.ref o, .ref p] ∧ KObj cls H o k ∧ WordS K H p xs ∧ xs.length ≤ 60 ∧ LamX.Tabs T H ∧ ∀ (H' : Hp) (t : Addr), Gw T H H' → H' t = some (.tup ((plainI k xs).map V.int)) → Q (.ref t) H'
theorem ext_tup {K : PySem.W.Frag} {H H1 : Hp} {p : Addr} {xs : List V} (h : SqT K H p xs) (e : LamX.ExtN H H1) : SqT K H1 p xs := by
  rcases h with (h | ⟨o, h⟩) | h
  · exact .inl (.inl (e _ _ h (fun ps z => by cases z)))
  · exact .inl (.inr ⟨o, e _ _ h (fun ps z => by cases z)⟩)
  · exact .inr h
theorem ext_lst {K : PySem.W.Frag} {H H1 : Hp} {p : Addr} {xs : List V} (h : SqL K H p xs) (e : LamX.ExtN H H1) : SqL K H1 p xs := by
  rcases h with (h | ⟨o, h⟩) | h
  · exact .inl (.inl (e _ _ h (fun ps z => by cases z)))
  · exact .inl (.inr ⟨o, e _ _ h (fun ps z => by cases z)⟩)
  · exact .inr h
/-- what the comprehension of plain has behind i turns -/
def PmI (H1 : Hp) (D : Addr) (k : Kd) (xs : List Int) (i : Nat) (H' : Hp) : Prop := H' = upd H1 D (.lst (((keepIx k xs).take i).map fun i => V.int (xs.getD i 0)))
section
variable {P : Program} {w : World} {K : PySem.W.Frag} {mg : Str → Option Value} {base : Heap} {T : List (Addr × Str)} {cls : Kd → Addr}
theorem scPM : FnScope ["self", "word", "at"] ["self", "word"] (defScope sPlainM) := ⟨rfl, rfl, rfl, by decide +kernel, rfl, by decide +kernel, by decide +kernel⟩
theorem ok_plainM {f : Addr} {fd : FuncData} (F : Fun K "plain" "Kind.plain" sPlainM f fd) (B : Bi mg) (k : Kd) (cKeep : MetX CX0 P w K mg base 2 (cls k) "keep" (spKeep K T k)) : FnOk P w K mg base CX0 3 f fd ["self", "word"] (spPlainM K cls T k) := by
  refine F.ok scPM (fun vs H Q E h => ?_) (fun cdv A outer s H vs Q E hr h => ?_)
  · obtain ⟨o, p, xs, rfl, _⟩ := h
    rfl
  · obtain ⟨o, p, xs, rfl, ⟨dx, ho⟩, hw, hl, ht, q⟩ := h
    have hkl : (keepIx k xs).length ≤ 120 := by
      have := plain_len k xs
      rw [keep_len]
      omega
    rcases hw with hw | hw
    case' inl => refine ⟨_, (pss_one (ps_ret (pe_callTy call_tuple_of (by rfl) B.tuple (by decide +kernel) (pa_cons (pe_lc (own := [("at", 2)]) (g := gName 2) (tt := tYes) (te := (tOp (rIxT K) (tVar 1) (tVar 2))) rfl scPM.nd (pi_list (pe_mx cKeep hr (by decide) pass0 (pv 0) (pa_cons (pv 1) pa_nil))) (blkOk_by (N := ["self", "word", "at"]) (sc := defScope sPlainM) (by decide +kernel)) (fun _ _ _ _ _ => (pg_name (i := 2) scPM.nd rfl (.inl rfl))) (fun _ _ _ _ _ => pts_nil) (fun _ _ _ _ _ => (pe_ix ix_tup (pv 1) (pv 2) (fun _ _ => rfl)))) pa_nil)))), ?_⟩
    case' inr => refine ⟨_, (pss_one (ps_ret (pe_callTy call_tuple_of (by rfl) B.tuple (by decide +kernel) (pa_cons (pe_lc (own := [("at", 2)]) (g := gName 2) (tt := tYes) (te := (tOp (rIxL K) (tVar 1) (tVar 2))) rfl scPM.nd (pi_list (pe_mx cKeep hr (by decide) pass0 (pv 0) (pa_cons (pv 1) pa_nil))) (blkOk_by (N := ["self", "word", "at"]) (sc := defScope sPlainM) (by decide +kernel)) (fun _ _ _ _ _ => (pg_name (i := 2) scPM.nd rfl (.inl rfl))) (fun _ _ _ _ _ => pts_nil) (fun _ _ _ _ _ => (pe_ix ix_list (pv 1) (pv 2) (fun _ _ => rfl)))) pa_nil)))), ?_⟩
    case' inl => have hwE := fun (H2 : Hp) (e : LamX.ExtN H H2) => ext_tup hw e
    case' inr => have hwE := fun (H2 : Hp) (e : LamX.ExtN H H2) => ext_lst hw e
    case' inl => refine ⟨.ref o, rfl, o, dx, [], rfl, ho, rfl, .ref p, rfl, .ref o, p, xs, rfl, .inl hw, hl, ht, fun H1 l g1 _ h1 => ⟨l, rfl, ⟨_, SqL.of h1⟩, fun D hD => ?_⟩⟩
    case' inr => refine ⟨.ref o, rfl, o, dx, [], rfl, ho, rfl, .ref p, rfl, .ref o, p, xs, rfl, .inr hw, hl, ht, fun H1 l g1 _ h1 => ⟨l, rfl, ⟨_, SqL.of h1⟩, fun D hD => ?_⟩⟩
    all_goals
      have nlD : l ≠ D := ne_of_none h1 hD
      refine lc_list (xs := ixV (keepIx k xs)) (PmI H1 D k xs) rfl (fun i H' _ e => by rw [show H' = _ from e]; exact SqL.of (by rw [upd_ne nlD]; exact h1)) ?_ ?_
    all_goals
      first
      | rintro i y H' hy rfl
        obtain ⟨n, hn, rfl⟩ : ∃ n : Nat, (keepIx k xs)[i]? = some n ∧ y = .int (n : Int) := by
          unfold ixV at hy
          rw [List.getElem?_map] at hy
          cases e : (keepIx k xs)[i]? with
          | none =>
            rw [e] at hy
            cases hy
          | some n =>
            rw [e] at hy
            exact ⟨n, rfl, (Option.some.inj hy).symm⟩
        have hnl := keep_lt (List.mem_of_getElem? hn)
        refine ⟨rfl, .ref p, rfl, .int (n : Int), rfl, p, xs.map V.int, (n : Int), .int (xs.getD n 0), rfl, rfl, hwE _ (g1.1.trans (ext_upd hD)), atI_nat (by rw [List.getElem?_map, List.getElem?_eq_getElem hnl, getD_at hnl]; rfl), _, upd_same, ?_, ?_⟩
        · rw [List.length_map, List.length_take, sizeLine_eq]
          omega
        · show upd (upd H1 D _) D _ = _
          rw [upd_upd, List.take_add_one, hn, List.map_append]
          rfl
      | rintro H' rfl
        refine ⟨D, _, rfl, .inl ⟨SqL.of upd_same, fun t ht' => ?_⟩⟩
        refine q _ t (Gw.upd (Gw.upd g1 hD) ht') ?_
        rw [upd_same, List.take_of_length_le (by unfold ixV; rw [List.length_map]; exact Nat.le_refl _), ← keep_vals, List.map_map]
        rfl
end
end Mv

set_option Elab.async false
set_option linter.all false
set_option maxRecDepth 100000
set_option maxHeartbeats 4000000
namespace Mv
open PySem PySem.Spec PyProof.Rows L2
/-! ### {name!r} -/
theorem fmt_cost1 : fmtCost [("list" : Str)] + 7 ≤ 100 := by decide +kernel
def tFmtB (K : PySem.W.Frag) (te : TE) : TE := fun σ H Q => te σ H fun x H1 => BadV H1 x ∧ ∀ m : Str, m.length ≤ 2000 → Q (.str m) H1
theorem pe_fmtB {X : Cx} {k : Nat} {e : Expr} {te : TE} {pos : Pos} (hr : Room k X.A) (he : PE X e te) : PE X (.FormattedValue e 114 none pos) (tFmtB X.K te) := by
  refine ⟨fun pins s σ H Q I h => ?_⟩
  refine wpAny_FormattedValue_repr (thn (he.run pins s σ H _ I h) fun v s1 hv => ?_)
  obtain ⟨x, H1, I1, r1, b, q⟩ := hv
  have fin : ∀ (m : Str) (u : Tok) (s2 : Shared), m.length ≤ 2000 → Inv X pins σ H1 s2 → wpAny (model X.prog X.w) X.A (formatField (.str m u) Str.empty) (EP X pins σ Q) X.xe s2 := fun m u s2 hm I2 =>
    wpAny_formatField_str ⟨.str m, H1, I2, ⟨_, rfl⟩, q m hm⟩ ⟨.str m, H1, I2.tok _, ⟨_, rfl⟩, q m hm⟩ (by rw [sizeLine_eq]; omega)
  cases b with
  | str z h hl hc =>
    obtain ⟨t, rfl⟩ := r1
    have h1 := StrLaws.reprText_len z fun c h => Nat.lt_trans (hc c h) (by decide)
    exact pyReprObj_str (fin _ _ _ (by omega) (I1.tok _)) (by rw [sizeLine_eq]; omega)
  | non =>
    obtain rfl : v = Value.none := r1
    exact pyReprObj_none (fin _ _ _ (by decide +kernel) (I1.tok _))
  | int i h =>
    obtain ⟨t, rfl⟩ := r1
    rcases h with rfl | rfl | rfl | rfl | rfl <;> exact pyReprObj_int (by decide +kernel) (fin _ _ _ (by decide +kernel) (I1.tok _))
end Mv

set_option Elab.async false
set_option linter.all false
set_option maxRecDepth 100000
set_option maxHeartbeats 4000000
namespace Mv
open PySem PySem.Spec PyProof.Rows L2
abbrev iEnv (q : Str) (sc : Scope) (L f c cc : Addr) : Env := PySem.W.ksEnv q sc L f (.ref c) cc
/-- the context of an __init__ that says super(): one cell, of the class -/
def cxF (CX : CXT) (P : Program) (w : World) (K : PySem.W.Frag) (mg : Str → Option Value) (base : Heap) (N : List Str) (q : Str) (sc : Scope) (f c cc : Addr) (A : Around) (outer : List Env) (s : Shared) (H : Hp) (E : XK) : Cx where
  prog := P
  w := w
  K := K
  mg := mg
  base := base
  A := A.deeper (iEnv q sc s.heap.objs.size f c cc)
  N := N
  s_0 := s
  H_0 := H
  env := iEnv q sc s.heap.objs.size f c cc
  outer := outer
  stack := iEnv q sc s.heap.objs.size f c cc :: outer
  ex := []
  fn := fun _ => false
  calm := true
  pn := []
  xe := fun e s' => wpAny (model P w) (A.deeper (iEnv q sc s.heap.objs.size f c cc)) (leaving (iEnv q sc s.heap.objs.size f c cc) e) (fun _ s'' => CX outer H s E e s'') (fun e' s'' => CX outer H s E e' s'') s'
/-- what the scope of such an __init__ says -/
structure ScI (sc : Scope) (n1 n2 : Str) : Prop where
  kind : sc.kind = .function
  co : sc.isCoroutine = false
  gen : sc.isGenerator = false
  l1 : sc.names.lookup n1 = some .local
  l2 : sc.names.lookup n2 = some .local
  ne : ¬ n1 = n2
  cell : ∀ y ∈ sc.names, y.2 ≠ .cell
  free : ∀ y ∈ sc.names, y.2 = .free → y.1 = "__class__"
  cls : sc.names.lookup ("__class__" : Str) = some .free
  sup : sc.names.lookup ("super" : Str) = some .globalImplicit
section
variable {CX : CXT} {P : Program} {w : World} {K : PySem.W.Frag} {mg : Str → Option Value} {base : Heap} {q : Str} {sc : Scope} {f c cc : Addr} {A : Around} {outer : List Env} {s : Shared} {H : Hp} {E : XK} {n1 n2 : Str} {h₁ : Heap} {tk : Nat}
theorem inv_startF {v1 v2 : V} {u1 u2 : Value} (S : ScI sc n1 n2) (hd : A.handled = none) (e0 : Env0 P w K mg base A outer s H) (r1 : RelV v1 u1) (r2 : RelV v2 u2) {oc : Obj} {D : Value} (hcc : base.get? cc = some oc) (hoc : oc.data = .cell (some D))
    (hns : h₁.Ns s.heap.objs.size fun y => [(n1, u1), (n2, u2)].reverse.lookup y) (kp : ∀ b o, s.heap.get? b = some o → h₁.get? b = some o) :
    Inv (cxF CX P w K mg base [n1, n2] q sc f c cc A outer s H E) [] [some v1, some v2] H { s with heap := h₁, toks := tk } := by
  have noA : ∀ b : Addr, b ∉ (cxF CX P w K mg base [n1, n2] q sc f c cc A outer s H E).ex := fun b z => absurd (show b ∈ ([] : List Addr) from z) (by simp)
  have onecell : ∀ {y b}, (cxF CX P w K mg base [n1, n2] q sc f c cc A outer s H E).env.cells.lookup y = some b → y = "__class__" ∧ b = cc := fun {y b} z => by
    have z : List.lookup y [(("__class__" : Str), cc)] = some b := z
    unfold List.lookup at z
    split at z
    · rename_i h
      exact ⟨eq_of_beq h, (Option.some.inj z).symm⟩
    · cases z
  have ccS := e0.bs cc oc hcc
  refine ⟨⟨e0.mod, S.kind, rfl, rfl, Nat.le_refl _, fun y z b h1 h2 => (onecell h1).1.trans (onecell h2).1.symm, fun y hy => ?_, fun y b h => absurd (show false = true from h) Bool.false_ne_true, fun _ => hd, Around.frames_deeper e0.frames, .inr ⟨rfl, rfl⟩, fun b z => absurd z (noA b), e0.bs, e0.bsz, fun b _ _ => noA b, fun b z => absurd z (noA b), e0.funs, e0.frf⟩,
    rfl, e0.bare, Un.kept kp, ⟨_, hns, fun i y v h1 h2 h3 => ?_⟩, fun y b h => ?_, e0.hok.fresh (Nat.le_refl _), fun y b h => ?_, fun p hp => absurd (show p ∈ ([] : List (Addr × Obj)) from hp) (by simp), e0.hok.kept kp, rfl⟩
  · have hy : sc.names.lookup y = some .cell ∨ sc.names.lookup y = some .free := hy
    rcases hy with hy | hy
    · exact absurd rfl (S.cell _ (PySem.mem_of_lookup hy))
    · have e := S.free _ (PySem.mem_of_lookup hy) rfl
      have e : y = "__class__" := e
      subst e
      exact ⟨cc, rfl⟩
  · have hm1 : List.lookup n1 [(n1, u1), (n2, u2)].reverse = some u1 := by
      show List.lookup n1 [(n2, u2), (n1, u1)] = some u1
      simp [List.lookup, beq_eq_false_iff_ne.mpr S.ne]
    have hm2 : List.lookup n2 [(n1, u1), (n2, u2)].reverse = some u2 := by
      show List.lookup n2 [(n2, u2), (n1, u1)] = some u2
      simp [List.lookup]
    match i, h1, h2 with
    | 0, h1, h2 =>
      cases h1
      cases h2
      exact ⟨u1, r1, .inl ⟨S.l1, hm1⟩⟩
    | 1, h1, h2 =>
      cases h1
      cases h2
      exact ⟨u2, r2, .inl ⟨S.l2, hm2⟩⟩
    | i + 2, h1, h2 => cases h1
  · rw [(onecell h).2]
    exact ⟨_, oc, kp _ _ ccS.1, hoc⟩
  · rw [(onecell h).2]
    exact ccS.2
end
/-! ### ValueError.__init__, bound to an exception that is being made -/
section
variable {X : Cx} {pins : List (Addr × Obj)} {σ : L2.St} {H : Hp} {s : Shared} {A : Around} {E : Value → Shared → Prop}
theorem bound_init {a C u : Addr} {us : List Value} {Q : Value → Shared → Prop} (T : OexC X.K C) (I : Inv X pins σ H s) (e : H a = some (exo a C none)) (hu : s.heap.get? u = some (PySem.W.kxs_mw "ValueError.__init__" a)) (hl : us.length ≤ sizeLine) (h : ∀ s', Inv X pins σ H s' → Q .none s') :
    wpAny (model X.prog X.w) A (call (.ref u) us) Q E s := by
  obtain ⟨nm, q, N, bs, bm, sn, sub, ab, col, dd, k0, k1, k2, k3, k5, hC, hbm⟩ := T.cls
  obtain ⟨t1, ho⟩ := exo_at I.hok e
  have hC' := I.kIn _ _ hC
  have fin : ∀ h' t2, (∀ b o, b ≠ a → s.heap.get? b = some o → h'.get? b = some o) → h'.get? a = some (HandSPX.excO C t2) → Q .none { s with heap := h' } := fun h' t2 k hx => by
    have J := I.write (t' := s.toks) (x := a) (e := a) (o := exo a C none) (by rw [e]; exact True.intro) (.inl rfl) k ⟨_, hx⟩ (exo_ok hx)
    have eu : upd H a (exo a C none) = H := by
      funext b
      by_cases hb : b = a
      · rw [hb, upd_same, e]
      · rw [upd_ne hb]
    rw [eu] at J
    exact h _ J
  clear h I
  obtain ⟨hp, g, d, t, os⟩ := s
  refine wpAny_call (codeAny_of_tree ?_)
  show wpAny _ A.in1 (callAny (.ref u) ⟨us, []⟩) _ _ _
  simp only [callAny]
  refine wpAny_bind (wpAny_load hu ?_)
  simp only [PySem.W.kxs_mw, show (Value.type "method-wrapper" == Value.type "method" || Value.type "method-wrapper" == Value.type "builtin_function_or_method" || Value.type "method-wrapper" == Value.type "method-wrapper") = true by decide, if_true]
  refine W.KFB.if_so (by decide) ?_
  refine wpAny_bind (ESX.check_bound F.excBase_ValueError hC' ho rfl ?_)
  refine wpAny_bind (wpAny_pure (wpAny_pure ?_))
  refine ⟨Code.quiet_builtin _ (by decide +kernel), codeAny_builtin F.excBase_ValueError.initEntry ?_⟩
  rw [Around.under_plainId F.excBase_ValueError.init.plain _]
  wp_walk
  refine fin _ hp.objs.size (fun b o hb hbo => ?_) ?_
  · rw [Heap.get?_update_other _ _ (Ne.symm hb)]
    exact Heap.get?_push_of_some _ hbo
  · rw [Heap.get?_update_self _ (Heap.get?_push_of_some _ ho) rfl]
    rfl
theorem callWith_mw {M : Model} {A : Around} {E : Value → Shared → Prop} {s : Shared} {i : String} {u x : Addr} {pos : Pos} {env : Env} {e : Expr} {Q : Value → Shared → Prop}
    (h : wpAny M A (spliced (backTo pos (starEach (e :: []) env))) (fun vs s₁ => PySem.W.KxsAt i u x s₁.heap ∧ wpAny M A (call (.ref u) vs) Q E s₁) E s)
    (he : starEach (e :: []) env = (false, eval e env) :: starEach [] env := by rfl) :
    wpAny M A (callWith pos (.ref u) [] (backTo pos (starEach (e :: []) env)) []) Q E s := by
  rw [he] at h ⊢
  refine PySem.W.kxs_callWith (i := i) (x := x) rfl ?_
  exact Calls.evalArgs_plain h
/-- what the written part says of an own exception class whose __init__ says super(), and of that __init__ -/
structure SupK (P : Program) (K : PySem.W.Frag) (f c cc C : Addr) : Prop where
  oex : OexC K C
  code : ∃ (ccl : Value) (cdd : Option Addr) (vs : Array Value) (ccs : Array (Option Value)) (file : Str) (tf : Tok), K.lookup c = some ⟨ccl, cdd, .fields vs, ccs⟩ ∧ vs[2]? = some (.str file tf) ∧ ((P.main.file : Str) == file) = true
  cell : ∃ (cl : Value) (cld : Option Addr) (csl : Array (Option Value)), K.lookup cc = some ⟨cl, cld, .cell (some (.ref C)), csl⟩
  top : (P.main.scope.names.lookup ("super" : Str)).isSome = false
  self : PySem.W.mroIn K C (.ref C) = some true
  ve : PySem.W.mroIn K C (.type "ValueError") = some true
  opq : PySem.W.nsIn K cStatics "thirdparty.any" = some none
  sup : PySem.W.ks_superIn K C C "__init__" = some (some (.builtin "ValueError.__init__"))
  cls : ∃ cd, PySem.W.clsIn K C = some cd
def spIniB (K : PySem.W.Frag) (C : Addr) (n2 : Str) : Sp := fun vs H Q _ => ∃ (a : Addr) (v : V), vs = [.ref a, v] ∧ H a = some (exo a C none) ∧ BadV H v ∧ ∀ dx, H dx = none → dx ≠ a → Q .non (upd (upd H dx (exd dx [(n2, v)])) a (exo a C (some dx)))
/-- def __init__(self, n2): super().__init__(f'..{n2!r}'); self.n2 = n2 -/
theorem ok_iniB {P : Program} {w : World} {K : PySem.W.Frag} {mg : Str → Option Value} {base : Heap} {f c cc C : Addr} {qual n2 : Str} {params : Arguments} {sc : Scope} {kV doc pm ct oc : Value} {an od : Option Addr} {osl : Array (Option Value)} {head : Str}
    {p0 p1 p2 p3 p4 p5 p6 p7 p8 p9 p10 p11 p12 : Pos} {k4 : Nat} {ar : Arg} {kn : Nat} {pl : Env → Sem Bool}
    (hcall : ∀ env : Env, eval (.Call (.Attribute (.Call (.Name "super" p0) [] [] p1) "__init__" p2) [.JoinedStr [.Constant (.str head) k4 p3, .FormattedValue (.Name n2 p4) 114 none p5] p6] [] p7) env = (do
      let ov ← attributeBase (.Call (.Name "super" p0) [] [] p1) "__init__" env (eval (.Call (.Name "super" p0) [] [] p1) env)
      standAt p2.atName
      let (f, first) ← holding [ov] (getMethod ov "__init__" (pl env))
      callWith p7 f first (backTo p7 (starEach [.JoinedStr [.Constant (.str head) k4 p3, .FormattedValue (.Name n2 p4) 114 none p5] p6] env)) []))
    (hswap : ∀ env : Env, swapsWith (.Name n2 p11) (some (.Attribute (.Name "self" p9) n2 p10)) p12.line env = pure false)
    (lk : K.lookup f = some ⟨oc, od, .func (PySem.W.ksFn "__init__" qual params [.Expr (.Call (.Attribute (.Call (.Name "super" p0) [] [] p1) "__init__" p2) [.JoinedStr [.Constant (.str head) k4 p3, .FormattedValue (.Name n2 p4) 114 none p5] p6] [] p7) p8, .Assign [.Attribute (.Name "self" p9) n2 p10] (.Name n2 p11) p12] sc .none kV doc pm an (.ref c) ct cc), osl⟩)
    (hcd : PySem.W.codeIn K (.ref c) qual = true) (S : ScI sc "self" n2) (U : SupK P K f c cc C) (hsup : mg "super" = none) (hno : PySem.W.findIn K (.ref C) n2 = some none) (hh : head.length ≤ 1000)
    (hp : (params.posonlyargs ++ params.args).head? = some ar) (har : ar.arg = "self") (d2 : (n2 == ("__debug__" : Str)) = false) (c2 : (n2 == ("__classdict__" : Str)) = false) :
    FnOk P w K mg base CX0 (kn + 1) f (PySem.W.ksFn "__init__" qual params [.Expr (.Call (.Attribute (.Call (.Name "super" p0) [] [] p1) "__init__" p2) [.JoinedStr [.Constant (.str head) k4 p3, .FormattedValue (.Name n2 p4) 114 none p5] p6] [] p7) p8, .Assign [.Attribute (.Name "self" p9) n2 p10] (.Name n2 p11) p12] sc .none kV doc pm an (.ref c) ct cc) ["self", n2] (spIniB K C n2) := by
  refine ⟨fun vs H Q E h => ?_, fun A outer s H args us vs Q E hr e0 hb r hsp => ?_⟩
  · obtain ⟨a, v, rfl, _⟩ := h
    rfl
  obtain ⟨a, v, rfl, ha, hv, q⟩ := hsp
  obtain ⟨u1, u2, rfl, r1, r2⟩ := vals2 r
  obtain rfl : u1 = Value.ref a := r1
  have KX : K.In s.heap := e0.mod.kin.keeps fun b o e => (e0.bs b o e).1
  have lim : s.heap.NoLimit := e0.mod.nolimit.keeps fun b o e => (e0.bs b o e).1
  obtain ⟨ccl, cdd, vsC, ccs, file, tf, kc, hvs, hfile⟩ := U.code
  obtain ⟨cl0, cld, csl, kcc⟩ := U.cell
  obtain ⟨cdD, hcdD⟩ := U.cls
  refine ks_codeAny_call_defAt hr.depth (KX _ _ lk) rfl lim (PySem.W.codeRec_of KX hcd) rfl (binds := [("self", .ref a), (n2, u2)]) hb S.cell (fun x hx => ?_) (fun h₀ hns kp => ?_) S.co S.gen S.kind
  · rcases List.mem_cons.mp hx with rfl | hx
    · exact S.l1
    · rw [List.mem_singleton.mp hx]
      exact S.l2
  have I : Inv (cxF CX0 P w K mg base ["self", n2] qual sc f c cc A outer s H E) [] [some (.ref a), some v] H { s with heap := h₀, toks := s.toks + 2 } := inv_startF S hr.hd e0 rfl r2 (e0.mod.kin _ _ kcc) rfl hns kp
  generalize hs0 : ({ s with heap := h₀, toks := s.toks + 2 } : Shared) = s0 at I
  have hns0 : s0.heap.Ns s.heap.objs.size fun y => [(("self" : Str), Value.ref a), (n2, u2)].reverse.lookup y := by
    rw [← hs0]
    exact hns
  show _root_.PySem.wpAt _ (A.deeper (iEnv qual sc s.heap.objs.size f c cc)) (.func _ (iEnv qual sc s.heap.objs.size f c cc)) (execs _ (iEnv qual sc s.heap.objs.size f c cc)) _ _ s0
  have K0 : K.In s0.heap := I.kIn
  obtain ⟨t1, hoa⟩ := exo_at I.hok ha
  obtain ⟨oD, hD1, hD2⟩ : ∃ oD, s0.heap.get? C = some oD ∧ oD.data = .cls cdD := by
    unfold PySem.W.clsIn at hcdD
    split at hcdD
    · rename_i c0 d0 cd' sl0 ho0
      cases hcdD
      exact ⟨_, K0 _ _ ho0, rfl⟩
    · cases hcdD
  have hxC : a ≠ C := fun z => by
    rw [z, hD1] at hoa
    have z2 := Option.some.inj hoa
    rw [z2] at hD2
    cases hD2
  have hmself : List.lookup ("self" : Str) [(("self" : Str), Value.ref a), (n2, u2)].reverse = some (.ref a) := by
    show List.lookup ("self" : Str) [(n2, u2), (("self" : Str), Value.ref a)] = some (.ref a)
    have : (("self" : Str) == n2) = false := beq_eq_false_iff_ne.mpr S.ne
    simp [List.lookup, this]
  obtain ⟨hp0, g0, d0, tk0, os0⟩ := s0
  refine ks_wpAt_execs_cons (ks_wpAt_Expr_any (ks_wpAt_MethodCall (ks_wpAt_super_base S.sup S.cls (by decide) rfl (K0 _ _ lk) rfl hp rfl (K0 _ _ kc) rfl hvs hfile U.top ?_) (hcall _)) (by show (sc.kind == .module && _) = false; rw [S.kind]; rfl))
  refine PySem.W.ks_loadName_global S.kind S.sup (Calls.loadGlobal_builtin (env := iEnv qual sc s.heap.objs.size f c cc) (I.mod.glob.keeps I.bk) hsup (I.mod.blt.choose_spec.1.keeps I.bk) ((I.mod.blt.choose_spec.2 _ (by decide +kernel)).trans (by decide +kernel)) ⟨rfl, ?_⟩)
  refine wpAny_loadName_free S.kind S.cls rfl ⟨_, K0 _ _ kcc, rfl⟩ ?_
  rw [har]
  refine wpAny_loadName_local S.kind S.l1 hns0 hmself ?_
  refine ks_wpAny_isType_cls hD1 hD2 ⟨rfl, ?_⟩
  refine ks_wpAny_call_super hD1 hD2 hoa rfl (fun c e => by cases e) (PySem.W.looks_mroIn K0 U.self) (fun h1 e1 k1 => ?_)
  have I1 : Inv (cxF CX0 P w K mg base ["self", n2] qual sc f c cc A outer s H E) [] [some (.ref a), some v] H ⟨h1, g0, d0, tk0, os0⟩ := I.kept (t' := tk0) k1
  have K1 : K.In h1 := I1.kIn
  have hoa1 := k1 _ _ hoa
  have hks := U.sup
  unfold PySem.W.ks_superIn at hks
  rw [hcdD] at hks
  have hin : PySem.W.Looks (model P w) h1 (isInstance (.ref a) (.type "ValueError")) true := by
    have I2 : PySem.W.InstAt h1 a { cls := .ref C, dict := none, data := .fields #[.ref t1, .none, .none, .none, .bool false, .none] } C none := ⟨hoa1, rfl, rfl, trivial⟩
    exact I2.type.andThen (PySem.W.looks_mroIn K1 U.ve)
  refine PySem.W.kxs_getMethod PySem.W.kxs_ValueError e1 (PySem.W.looks_opaque K1 U.opq) (l₀ := cdD.mro) (fun A Q E s k q => wpAny_bind ((PySem.W.looks_clsIn K1 hcdD) A _ E s k (wpAny_pure q))) rfl K1 hks hin hxC (by decide) ?_
  have hu1 : (h1.push (PySem.W.kxs_mw "ValueError.__init__" a)).get? h1.objs.size = some (PySem.W.kxs_mw "ValueError.__init__" a) := Heap.get?_push_size _ rfl
  have I2 : Inv (cxF CX0 P w K mg base ["self", n2] qual sc f c cc A outer s H E) [] [some (.ref a), some v] H ⟨h1.push (PySem.W.kxs_mw "ValueError.__init__" a), g0, d0, tk0 + 1, os0⟩ := I1.kept (t' := tk0 + 1) fun b u e => Heap.get?_push_of_some _ e
  have I3 : Inv (cxF CX0 P w K mg base ["self", n2] qual sc f c cc A outer s H E) [(h1.objs.size, PySem.W.kxs_mw "ValueError.__init__" a)] [some (.ref a), some v] H ⟨h1.push (PySem.W.kxs_mw "ValueError.__init__" a), g0, d0, tk0 + 1, os0⟩ := I2.pins_of fun p hp => by
    rw [List.mem_singleton.mp hp]
    exact ⟨hu1, I1.hok.fresh (Nat.le_refl _), Nat.ne_of_gt I1.lt, I1.nofs (Nat.le_refl _), fun v z => by cases z⟩
  have hrZ : Room kn (cxF CX0 P w K mg base ["self", n2] qual sc f c cc A outer s H E).A := hr.deeper _
  have pv1 : ∀ pos, PE (cxF CX0 P w K mg base ["self", n2] qual sc f c cc A outer s H E) (.Name n2 pos) (tVar 1) := fun pos => pe_var (i := 1) rfl (.inl S.l2) d2 c2
  have pv0 : ∀ pos, PE (cxF CX0 P w K mg base ["self", n2] qual sc f c cc A outer s H E) (.Name "self" pos) (tVar 0) := fun pos => pe_var (i := 0) rfl (.inl S.l1)
  have pj : PE (cxF CX0 P w K mg base ["self", n2] qual sc f c cc A outer s H E) (.JoinedStr [.Constant (.str head) k4 p3, .FormattedValue (.Name n2 p4) 114 none p5] p6) _ := pe_joined (.cons pe_str (.cons (pe_fmtB hrZ (pv1 p4)) .nil))
  refine callWith_mw (i := "ValueError.__init__") (x := a) (args_cons (thn (pj.run _ _ _ H (fun x H1 => (∃ y, x = .str y) ∧ H1 = H) I3 ?_) fun v2 s2 ⟨x2, H2, J2, rx2, ⟨y2, ex2⟩, eH⟩ => args_nil ⟨(J2.pin (h1.objs.size, PySem.W.kxs_mw "ValueError.__init__" a) (List.mem_append_right _ (List.mem_singleton.mpr rfl))).1, ?_⟩))
  · refine ⟨head, rfl, ?_, v, rfl, hv, fun m hm => ⟨m, rfl, ?_, ⟨_, rfl⟩, rfl⟩⟩
    · rw [sizeLine_eq, strLen_append]
      have : (Str.empty).length = 0 := rfl
      omega
    · rw [sizeLine_eq, strLen_append, strLen_append]
      have : (Str.empty).length = 0 := rfl
      omega
  rw [eH] at J2
  refine bound_init U.oex J2 ha ?_ ?_ fun s3 J3 => ?_
  · exact (J2.pin (h1.objs.size, PySem.W.kxs_mw "ValueError.__init__" a) (List.mem_append_right _ (List.mem_singleton.mpr rfl))).1
  · rw [sizeLine_eq]
    show 1 ≤ 16777216
    decide
  refine wpAt_of_wpAny ?_
  have ps := pss_one (ps_ost (pv0 p9) (pv1 p11) (hswap _) (X := cxF CX0 P w K mg base ["self", n2] qual sc f c cc A outer s H E) (f := n2) (p' := p10) (pos := p12))
  refine wpAny_mono (ps.run _ s3 _ H { nx := fun _ H' => Q .non H', rt := Q } J3 ?_) (fun fl s' hs => ?_) fun e s' hs => hs
  · refine ⟨v, rfl, .ref a, rfl, a, C, rfl, U.oex, hno, .inl ⟨ha, fun dx h2 h3 => q dx h2 h3⟩⟩
  · cases fl with
    | ret u =>
      obtain ⟨v', σ', H', J, rv, q'⟩ := hs
      exact ⟨v', H', J.os, J.bare, J.base, J.hok, rv, q'⟩
    | next =>
      obtain ⟨σ', H', J, q'⟩ := hs
      exact ⟨.non, H', J.os, J.bare, J.base, J.hok, rfl, q'⟩
    | brk =>
      obtain ⟨_, _, _, q'⟩ := hs
      exact False.elim q'
    | cont =>
      obtain ⟨_, _, _, q'⟩ := hs
      exact False.elim q'
end
end Mv

set_option Elab.async false
set_option linter.all false
set_option maxRecDepth 100000
set_option maxHeartbeats 4000000
namespace Mv
open PySem PySem.Spec PyProof.Rows L2
abbrev sKN : Stmt := topS 15
def Kd.cn : Kd → Str
  | .list => "Kind" | .bag => "BagKind" | .set => "SetKind" | .first => "FirstKind" | .last => "LastKind" | .ends => "EndsKind" | .heads => "HeadsKind" | .tails => "TailsKind"
/-- the constant KIND_NAMES -/
def kindNames : List V := kds.map kdV
/-- what the module's top has written, as kind_named asks it -/
structure KTx (P : Program) (w : World) (K : PySem.W.Frag) (mg : Str → Option Value) (base : Heap) (cls : Kd → Addr) (CB : Addr) : Prop where
  mk0 : ∀ k, Mk0 K (cls k)
  g : ∀ k : Kd, mg k.cn = some (.ref (cls k))
  names : ∃ kn : Addr, mg "KIND_NAMES" = some (.ref kn) ∧ ∀ H : Hp, SqT K H kn kindNames
  oex : OexC K CB
  gCB : mg "BadKind" = some (.ref CB)
  ini : ∃ (fI : Addr) (fdI : FuncData), PySem.W.findIn K (.ref CB) "__init__" = some (some (.ref fI)) ∧ PySem.W.typeIn K (.ref fI) = some (.type "function") ∧ FnOk P w K mg base CX0 1 fI fdI ["self", "name"] (spIniB K CB "name") ∧ Binds K fdI ["self", "name"] []
/-- the thing is raised -/
def Rs (CB : Addr) (H : Hp) (v : V) (E : XK) : Prop := ∀ (d : Addr) (H' : Hp), LamX.ExtN H H' → H' d = some (.xd [("name", v)]) → E (.ref CB) (some d) H'
def spKN (cls : Kd → Addr) (CB : Addr) : Sp := fun vs H Q E => ∃ v : V, vs = [v] ∧ ((∃ k : Kd, v = .str k.nm ∧ ∀ (H' : Hp) (o : Addr), Same H H' → KObj cls H' o k → Q (.ref o) H') ∨ (BadV H v ∧ Rs CB H v E))
section
variable {P : Program} {w : World} {K : PySem.W.Frag} {mg : Str → Option Value} {base : Heap} {T : List (Addr × Str)} {cls : Kd → Addr} {CB : Addr}
theorem kind_new {H : Hp} {x dx : Addr} {k : Kd} (hx : H x = none) (hd : H dx = none) (ne : dx ≠ x) : Same H (upd (upd H dx (.own x)) x (.ins (cls k) dx [])) ∧ KObj cls (upd (upd H dx (.own x)) x (.ins (cls k) dx [])) x k := by
  refine ⟨fun b o e => ?_, dx, upd_same⟩
  rw [upd_ne (ne_of_none e hx), upd_ne (ne_of_none e hd)]
  exact e
theorem if_T {c : Bool} {A B : Prop} (hc : c = true) (h : A) : if c = true then A else B := by
  rw [if_pos hc]
  exact h
theorem if_F {c : Bool} {A B : Prop} (hc : c = false) (h : B) : if c = true then A else B := by
  rw [if_neg (by rw [hc]; exact Bool.false_ne_true)]
  exact h
theorem BadV.ext {H H' : Hp} {v : V} (b : BadV H v) (e : LamX.ExtN H H') : BadV H' v := by
  cases b with
  | str z h hl hc => exact .str z h hl hc
  | non => exact .non
  | int i h => exact .int i h
theorem eqV_str (a b : Str) : eqV (.str a) (.str b) = decide (a = b) := by first | rfl | simp [eqV]
theorem inV_strs (z : Str) : ∀ ks : List Kd, (∀ k : Kd, ¬ z = k.nm) → inV (.str z) (ks.map kdV) = false
  | [], _ => rfl
  | k :: ks, h => by
    show (eqV (.str k.nm) (.str z) || inV (.str z) (ks.map kdV)) = false
    rw [inV_strs z ks h, eqV_str, decide_eq_false fun e => h k e.symm]
    rfl
theorem raise_bad {H : Hp} {v : V} {E : XK} (b : BadV H v) (r : Rs CB H v E) : tMkO CB (spIniB K CB "name") [] (tCons (tVar 0) tNil) [some v] H fun cls d H' => E cls d H' := by
  refine ⟨v, rfl, by show 1 ≤ 1000; decide, fun a ha => ⟨a, v, rfl, upd_same, b.ext (ext_upd ha), fun dx hdx nda => ⟨rfl, dx, [(("name" : Str), v)], upd_same, by rw [upd_ne nda]; exact upd_same, ?_, r dx _ (fun c o e n => ?_) upd_same⟩⟩⟩
  · rw [upd_ne nda] at hdx
    exact hdx
  · have ca : c ≠ a := ne_of_none e ha
    rw [upd_ne nda] at hdx
    have cd : c ≠ dx := ne_of_none e hdx
    rw [upd_ne cd, del_ne ca, upd_ne ca, upd_ne cd, upd_ne ca]
    exact e
theorem scKN : FnScope ["name"] ["name"] (defScope sKN) := ⟨rfl, rfl, rfl, by decide +kernel, rfl, by decide +kernel, by decide +kernel⟩
theorem ok_kn {f : Addr} {fd : FuncData} (F : Fun K "kind_named" "kind_named" sKN f fd) (B : Bi mg) (X : KTx P w K mg base cls CB) : FnOk P w K mg base (L2.CX P w) 3 f fd ["name"] (spKN cls CB) := by
  obtain ⟨fI, fdI, iC, tI, FI, bI⟩ := X.ini
  obtain ⟨kn, gN, tN⟩ := X.names
  refine F.okX scKN (fun vs H Q E h => ?_) (fun cdv A outer s H vs Q E hr h => ?_)
  · obtain ⟨v, rfl, _⟩ := h
    rfl
  · obtain ⟨v, rfl, h⟩ := h
    refine ⟨_, (pss_cons (ps_if (PW.pt (pw_or (pt_not (pt_val (pe_callB call_isi (by rfl) B.isinstance (by decide +kernel) (pa_cons (pv 0) (pa_cons (pe_bltn (by rfl) B.str (by decide +kernel) (v := .ty "str") rfl) pa_nil))))) (pw_or1 (pt_cmpR op_notIn_seq (pv 0) (pe_glob (v := V.ref kn) (by rfl) gN rfl) (by rfl)))))
 (pss_one (ps_raise rfl (takes_of rfl rfl rfl rfl) (pmk_oex X.oex iC tI FI hr bI .nil pass0 (by rfl) X.gCB (pa_cons (pv 0) pa_nil)))) pss_nil)
 (pss_cons (ps_if (pt_cmpR op_eq (pv 0) pe_str (nomark _))
 (pss_one (ps_ret (pe_makeB (X.mk0 .list) (by rfl) (X.g .list)))) pss_nil)
 (pss_cons (ps_if (pt_cmpR op_eq (pv 0) pe_str (nomark _))
 (pss_one (ps_ret (pe_makeB (X.mk0 .bag) (by rfl) (X.g .bag)))) pss_nil)
 (pss_cons (ps_if (pt_cmpR op_eq (pv 0) pe_str (nomark _))
 (pss_one (ps_ret (pe_makeB (X.mk0 .set) (by rfl) (X.g .set)))) pss_nil)
 (pss_cons (ps_if (pt_cmpR op_eq (pv 0) pe_str (nomark _))
 (pss_one (ps_ret (pe_makeB (X.mk0 .first) (by rfl) (X.g .first)))) pss_nil)
 (pss_cons (ps_if (pt_cmpR op_eq (pv 0) pe_str (nomark _))
 (pss_one (ps_ret (pe_makeB (X.mk0 .last) (by rfl) (X.g .last)))) pss_nil)
 (pss_cons (ps_if (pt_cmpR op_eq (pv 0) pe_str (nomark _))
 (pss_one (ps_ret (pe_makeB (X.mk0 .ends) (by rfl) (X.g .ends)))) pss_nil)
 (pss_cons (ps_if (pt_cmpR op_eq (pv 0) pe_str (nomark _))
 (pss_one (ps_ret (pe_makeB (X.mk0 .heads) (by rfl) (X.g .heads)))) pss_nil)
 (pss_one (ps_ret (pe_makeB (X.mk0 .tails) (by rfl) (X.g .tails)))))))))))), ?_⟩
    rcases h with ⟨k, rfl, q⟩ | ⟨b, r⟩
    · simp only [tSeq, tAsg, gName, tOp, rI, rI0, rU, tUn, tVar, tC, tCB, tCons, tNil, tTest, tIfS, tRet, tRetN, tDrop, tNext, tBreak, tCont, rEq, rNe, CDiv, CDivN, CMul, tBM, tBM0, tTup, tLst, tAug, tIf, tAnd, tOr, tNot, tAndV, tOrV, tNotV, tIsN, tNotN, tB, scal, tCall, cxK, cxKn, rIxT, rIxL, rIn, rAppend, rReverse, tVals, tDSetd, tDGet, tDGet1, tDGet2, tDIn, tDNotIn, rSortV, rSortT, rPop, rSortL, rSortT, tSl, tNoPart, tPart, List.append_nil, L2.start, List.map_cons, List.map_nil, List.length_cons, List.length_nil, List.replicate_succ, List.replicate_zero, List.cons_append, List.nil_append, Nat.reduceAdd, Nat.reduceSub, exists_eq, exists_eq', List.getElem?_cons_zero, List.getElem?_cons_succ, List.set_cons_zero, List.set_cons_succ, Option.some.injEq, V.int.injEq, V.bl.injEq, V.str.injEq, V.ref.injEq, List.cons.injEq, and_true, true_and, and_false, false_and, reduceCtorEq, exists_false, or_false, false_or, exists_and_left, exists_and_right, exists_eq_left, exists_eq_left', exists_eq_right, exists_eq_right', exists_const, ite_true, ite_false, Bool.false_eq_true, if_true, if_false, decide_true, decide_false]
      refine ⟨.str k.nm, .ty "str", .type "str", .type "str", true, rfl, .ty _, .base (.str _), kit_ty (by decide +kernel), true, rfl, iteF ?_⟩
      have new : tMake0 (cls k) [some (.str k.nm)] H Q := fun x dx hx hd ne => by
        obtain ⟨s1, o1⟩ := kind_new (cls := cls) (k := k) hx hd ne
        exact q _ x s1 o1
      clear q
      refine ⟨kindNames, .inr (tN _), rfl, rfl, if_F (by cases k <;> decide +kernel) ?_⟩
      cases k <;> (repeat (first | exact ⟨rfl, if_T (by decide +kernel) new⟩ | refine ⟨rfl, if_F (by decide +kernel) ?_⟩)) <;> exact new
    · have rb := raise_bad (K := K) b r
      cases b with
      | str z h hl hc =>
        simp only [tSeq, tAsg, gName, tOp, rI, rI0, rU, tUn, tVar, tC, tCB, tCons, tNil, tTest, tIfS, tRet, tRetN, tDrop, tNext, tBreak, tCont, rEq, rNe, CDiv, CDivN, CMul, tBM, tBM0, tTup, tLst, tAug, tIf, tAnd, tOr, tNot, tAndV, tOrV, tNotV, tIsN, tNotN, tB, scal, tCall, cxK, cxKn, rIxT, rIxL, rIn, rAppend, rReverse, tVals, tDSetd, tDGet, tDGet1, tDGet2, tDIn, tDNotIn, rSortV, rSortT, rPop, rSortL, rSortT, tSl, tNoPart, tPart, List.append_nil, L2.start, List.map_cons, List.map_nil, List.length_cons, List.length_nil, List.replicate_succ, List.replicate_zero, List.cons_append, List.nil_append, Nat.reduceAdd, Nat.reduceSub, exists_eq, exists_eq', List.getElem?_cons_zero, List.getElem?_cons_succ, List.set_cons_zero, List.set_cons_succ, Option.some.injEq, V.int.injEq, V.bl.injEq, V.str.injEq, V.ref.injEq, List.cons.injEq, and_true, true_and, and_false, false_and, reduceCtorEq, exists_false, or_false, false_or, exists_and_left, exists_and_right, exists_eq_left, exists_eq_left', exists_eq_right, exists_eq_right', exists_const, ite_true, ite_false, Bool.false_eq_true, if_true, if_false, decide_true, decide_false]
        refine ⟨.str z, .ty "str", .type "str", .type "str", true, rfl, .ty _, .base (.str _), kit_ty (by decide +kernel), true, rfl, iteF ?_⟩
        exact ⟨kindNames, .inr (tN _), rfl, rfl, if_T (by unfold kindNames; rw [inV_strs z kds h]; rfl) rb⟩
      | non =>
        simp only [tSeq, tAsg, gName, tOp, rI, rI0, rU, tUn, tVar, tC, tCB, tCons, tNil, tTest, tIfS, tRet, tRetN, tDrop, tNext, tBreak, tCont, rEq, rNe, CDiv, CDivN, CMul, tBM, tBM0, tTup, tLst, tAug, tIf, tAnd, tOr, tNot, tAndV, tOrV, tNotV, tIsN, tNotN, tB, scal, tCall, cxK, cxKn, rIxT, rIxL, rIn, rAppend, rReverse, tVals, tDSetd, tDGet, tDGet1, tDGet2, tDIn, tDNotIn, rSortV, rSortT, rPop, rSortL, rSortT, tSl, tNoPart, tPart, List.append_nil, L2.start, List.map_cons, List.map_nil, List.length_cons, List.length_nil, List.replicate_succ, List.replicate_zero, List.cons_append, List.nil_append, Nat.reduceAdd, Nat.reduceSub, exists_eq, exists_eq', List.getElem?_cons_zero, List.getElem?_cons_succ, List.set_cons_zero, List.set_cons_succ, Option.some.injEq, V.int.injEq, V.bl.injEq, V.str.injEq, V.ref.injEq, List.cons.injEq, and_true, true_and, and_false, false_and, reduceCtorEq, exists_false, or_false, false_or, exists_and_left, exists_and_right, exists_eq_left, exists_eq_left', exists_eq_right, exists_eq_right', exists_const, ite_true, ite_false, Bool.false_eq_true, if_true, if_false, decide_true, decide_false]
        exact ⟨.non, .ty "str", .type "NoneType", .type "str", false, rfl, .ty _, .base .non, kit_ty (by decide +kernel), false, rfl, iteT rb⟩
      | int i hi =>
        simp only [tSeq, tAsg, gName, tOp, rI, rI0, rU, tUn, tVar, tC, tCB, tCons, tNil, tTest, tIfS, tRet, tRetN, tDrop, tNext, tBreak, tCont, rEq, rNe, CDiv, CDivN, CMul, tBM, tBM0, tTup, tLst, tAug, tIf, tAnd, tOr, tNot, tAndV, tOrV, tNotV, tIsN, tNotN, tB, scal, tCall, cxK, cxKn, rIxT, rIxL, rIn, rAppend, rReverse, tVals, tDSetd, tDGet, tDGet1, tDGet2, tDIn, tDNotIn, rSortV, rSortT, rPop, rSortL, rSortT, tSl, tNoPart, tPart, List.append_nil, L2.start, List.map_cons, List.map_nil, List.length_cons, List.length_nil, List.replicate_succ, List.replicate_zero, List.cons_append, List.nil_append, Nat.reduceAdd, Nat.reduceSub, exists_eq, exists_eq', List.getElem?_cons_zero, List.getElem?_cons_succ, List.set_cons_zero, List.set_cons_succ, Option.some.injEq, V.int.injEq, V.bl.injEq, V.str.injEq, V.ref.injEq, List.cons.injEq, and_true, true_and, and_false, false_and, reduceCtorEq, exists_false, or_false, false_or, exists_and_left, exists_and_right, exists_eq_left, exists_eq_left', exists_eq_right, exists_eq_right', exists_const, ite_true, ite_false, Bool.false_eq_true, if_true, if_false, decide_true, decide_false]
        exact ⟨.int i, .ty "str", .type "int", .type "str", false, rfl, .ty _, .base (.int i), kit_ty (by decide +kernel), false, rfl, iteT rb⟩
end
end Mv

set_option Elab.async false
set_option linter.all false
set_option maxRecDepth 100000
set_option maxHeartbeats 4000000
namespace Mv
open PySem PySem.Spec PyProof.Rows L2
theorem dp_ints {K : PySem.W.Frag} {H : Hp} : ∀ xs : List Int, DpAll K H (xs.map V.int) (xs.map PyData.int)
  | [] => .nil
  | x :: xs => .cons (.int x) (dp_ints xs)
theorem eqvAll_ints : ∀ xs ys : List Int, PyData.eqvAll (xs.map PyData.int) (ys.map PyData.int) = decide (xs = ys)
  | [], [] => rfl
  | [], y :: ys => by simp [PyData.eqvAll]
  | x :: xs, [] => by simp [PyData.eqvAll]
  | x :: xs, y :: ys => by
    rw [List.map_cons, List.map_cons, PySem.W.eqv_all_cons, eqvAll_ints xs ys]
    by_cases h : x = y
    · subst h
      simp [PyData.eqv]
    · simp [PyData.eqv, h]
theorem shaped_ints (xs : List Int) : SeqAt.shaped (.tuple (xs.map PyData.int)) = true := by simp [SeqAt.shaped, PyData.canLay0, PyData.depth, PySem.W.ke_canLayAll0, PySem.W.ke_depthAll]
/-- tuples of ints, compared -/
theorem eq_tups {K : PySem.W.Frag} {H : Hp} {a b : Addr} {xs ys : List Int} {Q : VK} (ha : SqT K H a (xs.map V.int)) (hb : SqT K H b (ys.map V.int)) (q : Q (.bl (decide (xs = ys))) H) : rEqD K (.ref a) (.ref b) H Q :=
  ⟨_, _, .tup ha (dp_ints xs), .tup hb (dp_ints ys), shaped_ints xs, shaped_ints ys, by rw [show PyData.eqv (.tuple (xs.map PyData.int)) (.tuple (ys.map PyData.int)) = decide (xs = ys) from eqvAll_ints xs ys]; exact q⟩
theorem ne_tups {K : PySem.W.Frag} {H : Hp} {a b : Addr} {xs ys : List Int} {Q : VK} (ha : SqT K H a (xs.map V.int)) (hb : SqT K H b (ys.map V.int)) (q : Q (.bl (!decide (xs = ys))) H) : rNeD K (.ref a) (.ref b) H Q :=
  ⟨_, _, .tup ha (dp_ints xs), .tup hb (dp_ints ys), shaped_ints xs, shaped_ints ys, by rw [show PyData.eqv (.tuple (xs.map PyData.int)) (.tuple (ys.map PyData.int)) = decide (xs = ys) from eqvAll_ints xs ys]; exact q⟩
theorem Rs.ext {CB : Addr} {H H' : Hp} {v : V} {E : XK} (r : Rs CB H v E) (e : LamX.ExtN H H') : Rs CB H' v E := fun d H2 e2 h => r d H2 (e.trans e2) h
def spAl (K : PySem.W.Frag) (T : List (Addr × Str)) (CB : Addr) : Sp := fun vs H Q E => ∃ (v : V) (p r : Addr), vs = [v, .ref p, .ref r] ∧ ((∃ (k : Kd) (xs ys : List Int), v = .str k.nm ∧ WordS K H p xs ∧ WordS K H r ys ∧ xs.length ≤ 60 ∧ ys.length ≤ 60 ∧ LamX.Tabs T H ∧ ∀ H' : Hp, Gw T H H' → Q (.bl (decide (plainI k xs = plainI k ys))) H') ∨ (BadV H v ∧ Rs CB H v E))
end Mv

set_option Elab.async false
set_option linter.all false
set_option maxRecDepth 100000
set_option maxHeartbeats 4000000
namespace Mv
open PySem PySem.Spec PyProof.Rows L2
/-! ### entries: values and holes -/
inductive En where
  | v (x : Int)
  | h (a b : Int)
deriving DecidableEq
def vals : List En → List Int
  | [] => []
  | .v x :: es => x :: vals es
  | .h _ _ :: es => vals es
def hols : List En → List (Int × Int)
  | [] => []
  | .v _ :: es => hols es
  | .h a b :: es => (a, b) :: hols es
theorem vals_app : ∀ a b : List En, vals (a ++ b) = vals a ++ vals b
  | [], _ => rfl
  | .v x :: a, b => congrArg (x :: ·) (vals_app a b)
  | .h _ _ :: a, b => vals_app a b
theorem hols_app : ∀ a b : List En, hols (a ++ b) = hols a ++ hols b
  | [], _ => rfl
  | .v x :: a, b => hols_app a b
  | .h _ _ :: a, b => congrArg (_ :: ·) (hols_app a b)
theorem vals_v (xs : List Int) : vals (xs.map En.v) = xs := by
  induction xs with
  | nil => rfl
  | cons x xs ih => exact congrArg (x :: ·) ih
theorem hols_v (xs : List Int) : hols (xs.map En.v) = [] := by
  induction xs with
  | nil => rfl
  | cons x xs ih => exact ih
def hE (p : Int × Int) : En := .h p.1 p.2
theorem vals_h (ps : List (Int × Int)) : vals (ps.map hE) = [] := by
  induction ps with
  | nil => rfl
  | cons x xs ih => exact ih
theorem hols_h (ps : List (Int × Int)) : hols (ps.map hE) = ps := by
  induction ps with
  | nil => rfl
  | cons x xs ih => exact congrArg (x :: ·) ih
theorem mem_vals {x : Int} : ∀ {es : List En}, x ∈ vals es ↔ En.v x ∈ es
  | [] => by simp [vals]
  | .v y :: es => by
    show x ∈ y :: vals es ↔ _
    rw [List.mem_cons, List.mem_cons, mem_vals (es := es)]
    simp
  | .h a b :: es => by
    show x ∈ vals es ↔ _
    rw [List.mem_cons, mem_vals (es := es)]
    simp
theorem vals_len (es : List En) : (vals es).length ≤ es.length := by
  induction es with
  | nil => exact Nat.le_refl _
  | cons e es ih =>
    cases e with
    | v x =>
      show (vals es).length + 1 ≤ es.length + 1
      omega
    | h a b =>
      show (vals es).length ≤ es.length + 1
      omega
theorem hols_len (es : List En) : (hols es).length ≤ es.length := by
  induction es with
  | nil => exact Nat.le_refl _
  | cons e es ih =>
    cases e with
    | v x =>
      show (hols es).length ≤ es.length + 1
      omega
    | h a b =>
      show (hols es).length + 1 ≤ es.length + 1
      omega
/-! ### what stays -/
def ok1 (pre : List En) : En → List En
  | .v x => if En.v x ∈ pre then [] else [.v x]
  | .h a b => [.h a b]
theorem ok1_v (p : List En) (x : Int) : ok1 p (.v x) = if En.v x ∈ p then [] else [.v x] := rfl
def hd (pre : List En) : List En → List En
  | [] => []
  | e :: es => ok1 pre e ++ hd (pre ++ [e]) es
def tl (b : List En) : List En → List En
  | [] => []
  | e :: a => ok1 (a ++ b) e ++ tl b a
theorem hd_app (a b : List En) : ∀ pre, hd pre (a ++ b) = hd pre a ++ hd (pre ++ a) b := by
  induction a with
  | nil => exact fun pre => by rw [List.append_nil]; rfl
  | cons e a ih =>
    intro pre
    show ok1 pre e ++ hd (pre ++ [e]) (a ++ b) = (ok1 pre e ++ hd (pre ++ [e]) a) ++ _
    rw [ih, List.append_assoc, List.append_assoc, List.singleton_append]
theorem hd_snoc (a : List En) (e : En) : hd [] (a ++ [e]) = hd [] a ++ ok1 a e := by
  rw [hd_app, List.nil_append]
  show _ ++ (ok1 a e ++ []) = _
  rw [List.append_nil]
theorem ok1_set {p q : List En} (h : ∀ x, En.v x ∈ p ↔ En.v x ∈ q) (e : En) : ok1 p e = ok1 q e := by
  cases e with
  | v x =>
    rw [ok1_v, ok1_v]
    by_cases m : En.v x ∈ p
    · rw [if_pos m, if_pos ((h x).mp m)]
    · rw [if_neg m, if_neg fun z => m ((h x).mpr z)]
  | h a b => rfl
theorem hd_set {es : List En} : ∀ {p q : List En}, (∀ x, En.v x ∈ p ↔ En.v x ∈ q) → hd p es = hd q es := by
  induction es with
  | nil => exact fun _ => rfl
  | cons e es ih =>
    intro p q h
    show ok1 p e ++ hd (p ++ [e]) es = ok1 q e ++ hd (q ++ [e]) es
    rw [ok1_set h, ih (q := q ++ [e]) fun x => by simp only [List.mem_append, h]]
theorem mem_hd {x : Int} {es : List En} : ∀ {p : List En}, En.v x ∈ p ∨ En.v x ∈ hd p es ↔ En.v x ∈ p ∨ En.v x ∈ es := by
  induction es with
  | nil => exact fun {p} => Iff.rfl
  | cons e es ih =>
    intro p
    have := ih (p := p ++ [e])
    show En.v x ∈ p ∨ En.v x ∈ ok1 p e ++ hd (p ++ [e]) es ↔ _
    rw [List.mem_append, List.mem_cons]
    rw [List.mem_append, List.mem_singleton] at this
    have h1 : En.v x ∈ ok1 p e → En.v x = e := by
      cases e with
      | v y =>
        rw [ok1_v]
        split
        · exact fun z => (by cases z)
        · exact fun z => List.mem_singleton.mp z
      | h a b => exact fun z => (by cases List.mem_singleton.mp z)
    have h2 : En.v x = e → En.v x ∈ p ∨ En.v x ∈ ok1 p e := by
      intro z
      subst z
      rw [ok1_v]
      by_cases m : En.v x ∈ p
      · exact .inl m
      · rw [if_neg m]
        exact .inr (List.mem_singleton.mpr rfl)
    constructor
    · rintro (h | h | h)
      · exact .inl h
      · exact .inr (.inl (h1 h))
      · rcases this.mp (.inr h) with (h | h) | h
        · exact .inl h
        · exact .inr (.inl h)
        · exact .inr (.inr h)
    · rintro (h | h | h)
      · exact .inl h
      · rcases h2 h with h | h
        · exact .inl h
        · exact .inr (.inl h)
      · rcases this.mpr (.inr h) with (h | h) | h
        · exact .inl h
        · rcases h2 h with h | h
          · exact .inl h
          · exact .inr (.inl h)
        · exact .inr (.inr h)
/-- substituted entries: a value is itself -/
theorem hd_sub {f : En → List En} (hf : ∀ x, f (.v x) = [.v x]) {es : List En} : ∀ {p0 p : List En}, (∀ x, En.v x ∈ p0 → En.v x ∈ p) → hd p ((hd p0 es).flatMap f) = hd p (es.flatMap f) := by
  induction es with
  | nil => exact fun _ => rfl
  | cons e es ih =>
    intro p0 p h
    show hd p ((ok1 p0 e ++ hd (p0 ++ [e]) es).flatMap f) = hd p ((e :: es).flatMap f)
    rw [List.flatMap_append, List.flatMap_cons, hd_app]
    rw [hd_app]
    cases e with
    | v x =>
      rw [hf, ok1_v]
      by_cases m : En.v x ∈ p0
      · rw [if_pos m, List.flatMap_nil, List.append_nil]
        have e1 : hd p [En.v x] = [] := by
          show ok1 p (.v x) ++ [] = []
          rw [ok1_v, if_pos (h x m)]
          rfl
        rw [e1, List.nil_append]
        show [] ++ _ = _
        rw [List.nil_append, ih (p := p) (p0 := p0 ++ [En.v x]) fun y hy => by
          rcases List.mem_append.mp hy with hy | hy
          · exact h y hy
          · rw [List.mem_singleton.mp hy]
            exact h x m]
        refine hd_set fun y => ?_
        rw [List.mem_append, List.mem_singleton]
        exact ⟨.inl, fun z => z.elim id fun z => by rw [z]; exact h x m⟩
      · rw [if_neg m, List.flatMap_singleton, hf, ih fun y hy => by
          rcases List.mem_append.mp hy with hy | hy
          · exact List.mem_append_left _ (h y hy)
          · exact List.mem_append_right _ hy]
    | h a b =>
      rw [show (ok1 p0 (En.h a b)).flatMap f = f (.h a b) from List.flatMap_singleton _ _, ih fun y hy => by
        rcases List.mem_append.mp hy with hy | hy
        · exact List.mem_append_left _ (h y hy)
        · cases List.mem_singleton.mp hy]
theorem hd_id {es p0 p : List En} (h : ∀ x, En.v x ∈ p0 → En.v x ∈ p) : hd p (hd p0 es) = hd p es := by
  have := hd_sub (f := fun e => [e]) (fun _ => rfl) (es := es) h
  simpa [List.flatMap_singleton'] using this
theorem tl_snoc (e : En) (b : List En) : ∀ a, tl b (a ++ [e]) = tl (e :: b) a ++ ok1 b e
  | [] => by
    show ok1 ([] ++ b) e ++ [] = [] ++ ok1 b e
    rw [List.append_nil, List.nil_append, List.nil_append]
  | x :: a => by
    show ok1 (a ++ [e] ++ b) x ++ tl b (a ++ [e]) = (ok1 (a ++ e :: b) x ++ tl (e :: b) a) ++ _
    rw [tl_snoc e b a, List.append_assoc, List.append_assoc, List.singleton_append]
theorem ok1_rev (p : List En) (e : En) : (ok1 p e).reverse = ok1 p e := by
  cases e with
  | v x =>
    rw [ok1_v]
    split <;> rfl
  | h a b => rfl
theorem tl_rev (b : List En) : ∀ a, (tl b a).reverse = hd b a.reverse
  | [] => rfl
  | e :: a => by
    show (ok1 (a ++ b) e ++ tl b a).reverse = _
    rw [List.reverse_append, tl_rev b a, ok1_rev, List.reverse_cons, hd_app]
    show _ = _ ++ (ok1 (b ++ a.reverse) e ++ [])
    rw [List.append_nil]
    congr 1
    exact ok1_set (fun x => by simp only [List.mem_append, List.mem_reverse]; exact Or.comm) e
/-! ### rows -/
abbrev lexQ (p q : Int × Int) : Bool := decide (p.1 < q.1 ∨ (p.1 = q.1 ∧ p.2 ≤ q.2))
def sortP (ps : List (Int × Int)) : List (Int × Int) := ps.mergeSort lexQ
theorem lex_one : ∀ {xs ys : List (Int × Int)}, xs.Perm ys → xs.Pairwise (fun p q => lexQ p q = true) → ys.Pairwise (fun p q => lexQ p q = true) → xs = ys
  | [], ys, h, _, _ => (List.Perm.nil_eq h)
  | x :: xs, [], h, _, _ => absurd h.length_eq (by simp)
  | x :: xs, y :: ys, h, h1, h2 => by
    have a := List.pairwise_cons.mp h1
    have b := List.pairwise_cons.mp h2
    have e : x = y := by
      have m1 : x ∈ y :: ys := h.mem_iff.mp List.mem_cons_self
      have m2 : y ∈ x :: xs := h.mem_iff.mpr List.mem_cons_self
      rcases List.mem_cons.mp m1 with e | m1
      · exact e
      · rcases List.mem_cons.mp m2 with e | m2
        · exact e.symm
        · have p := of_decide_eq_true (a.1 _ m2)
          have q := of_decide_eq_true (b.1 _ m1)
          refine Prod.ext ?_ ?_ <;> omega
    subst e
    rw [lex_one (List.Perm.cons_inv h) a.2 b.2]
theorem sortP_pw (ps : List (Int × Int)) : (sortP ps).Pairwise (fun p q => lexQ p q = true) := by
  refine List.pairwise_mergeSort (fun p q r h1 h2 => ?_) (fun p q => ?_) ps
  · have h1 := of_decide_eq_true h1
    have h2 := of_decide_eq_true h2
    refine decide_eq_true ?_
    omega
  · have : (p.1 < q.1 ∨ (p.1 = q.1 ∧ p.2 ≤ q.2)) ∨ (q.1 < p.1 ∨ (q.1 = p.1 ∧ q.2 ≤ p.2)) := by omega
    rcases this with h | h
    · rw [show lexQ p q = true from decide_eq_true h]
      rfl
    · rw [show lexQ q p = true from decide_eq_true h, Bool.or_true]
theorem sortP_perm (ps : List (Int × Int)) : (sortP ps).Perm ps := List.mergeSort_perm ps _
theorem sortP_congr {ps qs : List (Int × Int)} (h : ps.Perm qs) : sortP ps = sortP qs := lex_one ((sortP_perm ps).trans (h.trans (sortP_perm qs).symm)) (sortP_pw ps) (sortP_pw qs)
def rowI (k : Kd) (es : List En) : List En :=
  match k with
  | .list => es
  | .heads => hd [] es
  | .tails => tl [] es
  | .bag => (plainI .bag (vals es)).map .v ++ (sortP (hols es)).map hE
  | .set => (plainI .set (vals es)).map .v ++ (sortP (hols es)).map hE
  | .first => (plainI .first (vals es)).map .v
  | .last => (plainI .last (vals es)).map .v
  | .ends => (plainI .ends (vals es)).map .v
theorem plain3 (k : Kd) (a c b : List Int) : plainI k (plainI k a ++ c ++ plainI k b) = plainI k (a ++ c ++ b) := by
  have hl : ∀ u v : List Int, plainI k (plainI k u ++ v) = plainI k (u ++ v) := fun u v => by rw [← plain_join k (plainI k u) v, plain_idem, plain_join]
  have hr : ∀ u v : List Int, plainI k (u ++ plainI k v) = plainI k (u ++ v) := fun u v => by rw [← plain_join k u (plainI k v), plain_idem, plain_join]
  rw [hr, List.append_assoc, hl, List.append_assoc]
theorem row_join (k : Kd) (l m r : List En) : rowI k (rowI k l ++ m ++ rowI k r) = rowI k (l ++ m ++ r) := by
  have hb : ∀ k', plainI k' (vals ((plainI k' (vals l)).map En.v ++ (sortP (hols l)).map hE ++ m ++ ((plainI k' (vals r)).map En.v ++ (sortP (hols r)).map hE))) = plainI k' (vals (l ++ m ++ r)) := fun k' => by
    simp only [vals_app, vals_v, vals_h, List.append_nil]
    exact plain3 k' _ _ _
  have ho : ∀ k', plainI k' (vals ((plainI k' (vals l)).map En.v ++ m ++ (plainI k' (vals r)).map En.v)) = plainI k' (vals (l ++ m ++ r)) := fun k' => by
    simp only [vals_app, vals_v]
    exact plain3 k' _ _ _
  have hs : ∀ k', sortP (hols ((plainI k' (vals l)).map En.v ++ (sortP (hols l)).map hE ++ m ++ ((plainI k' (vals r)).map En.v ++ (sortP (hols r)).map hE))) = sortP (hols (l ++ m ++ r)) := fun k' => by
    simp only [hols_app, hols_v, hols_h, List.nil_append]
    exact sortP_congr (((sortP_perm _).append_right _).append (sortP_perm _))
  have hh : ∀ l m r : List En, hd [] (hd [] l ++ m ++ hd [] r) = hd [] (l ++ m ++ r) := fun l m r => by
    rw [hd_app, hd_app, hd_app, hd_app, hd_id fun x h => h]
    have e1 : ∀ x, En.v x ∈ hd [] l ↔ En.v x ∈ l := fun x => by
      have := mem_hd (x := x) (es := l) (p := [])
      simpa using this
    rw [List.nil_append, List.nil_append, List.nil_append, List.nil_append, hd_set e1, hd_id (fun x h => by cases h)]
    congr 1
    exact hd_set fun x => by rw [List.mem_append, List.mem_append, e1]
  cases k with
  | list => rfl
  | bag =>
    show (plainI .bag (vals _)).map En.v ++ (sortP (hols _)).map hE = (plainI .bag (vals _)).map En.v ++ (sortP (hols _)).map hE
    have a := hb .bag
    have b := hs .bag
    unfold rowI
    rw [a, b]
  | set =>
    show (plainI .set (vals _)).map En.v ++ (sortP (hols _)).map hE = (plainI .set (vals _)).map En.v ++ (sortP (hols _)).map hE
    have a := hb .set
    have b := hs .set
    unfold rowI
    rw [a, b]
  | first => exact congrArg (List.map En.v) (ho .first)
  | last => exact congrArg (List.map En.v) (ho .last)
  | ends => exact congrArg (List.map En.v) (ho .ends)
  | heads => exact hh l m r
  | tails =>
    show tl [] (tl [] l ++ m ++ tl [] r) = tl [] (l ++ m ++ r)
    refine List.reverse_inj.mp ?_
    rw [tl_rev, tl_rev]
    simp only [List.reverse_append, tl_rev]
    rw [← List.append_assoc, hh, List.append_assoc]
theorem row_idem (k : Kd) (l : List En) : rowI k (rowI k l) = rowI k l := by
  have := row_join k l [] []
  have e : rowI k [] = [] := by cases k <;> simp [rowI, vals, hols, plain_nil, sortP, hd, tl]
  rwa [e, List.append_nil, List.append_nil, List.append_nil, List.append_nil] at this
/-- a hole gives way -/
theorem row_sub (k : Kd) {f : En → List En} (hf : ∀ x, f (.v x) = [.v x]) (ho : hols (rowI k es) ≠ []) : rowI k ((rowI k es).flatMap f) = rowI k (es.flatMap f) := by
  have pv : ∀ es : List En, (vals (es.flatMap f)).Perm (vals es ++ (hols es).flatMap fun p => vals (f (hE p))) := fun es => by
    induction es with
    | nil => exact .nil
    | cons e es ih =>
      rw [List.flatMap_cons, vals_app]
      cases e with
      | v x =>
        rw [hf]
        exact ih.cons x
      | h a b =>
        show (vals (f (.h a b)) ++ _).Perm (vals es ++ (vals (f (hE (a, b))) ++ _))
        exact (List.Perm.append_left _ ih).trans (by rw [← List.append_assoc, ← List.append_assoc]; exact List.Perm.append_right _ List.perm_append_comm)
  have ph : ∀ es : List En, hols (es.flatMap f) = (hols es).flatMap fun p => hols (f (hE p)) := fun es => by
    induction es with
    | nil => rfl
    | cons e es ih =>
      rw [List.flatMap_cons, hols_app, ih]
      cases e with
      | v x =>
        rw [hf]
        rfl
      | h a b => rfl
  have hv : ∀ k' : Kd, vals ((plainI k' (vals es)).map En.v ++ (sortP (hols es)).map hE) = plainI k' (vals es) ∧ hols ((plainI k' (vals es)).map En.v ++ (sortP (hols es)).map hE) = sortP (hols es) := fun k' => by
    rw [vals_app, hols_app, vals_v, vals_h, hols_v, hols_h, List.append_nil, List.nil_append]
    exact ⟨rfl, rfl⟩
  cases k with
  | list => rfl
  | heads => exact hd_sub hf fun x h => h
  | tails =>
    show tl [] ((tl [] es).flatMap f) = tl [] (es.flatMap f)
    refine List.reverse_inj.mp ?_
    rw [tl_rev, tl_rev, List.reverse_flatMap, List.reverse_flatMap, tl_rev]
    exact hd_sub (fun x => by rw [Function.comp, hf]; rfl) fun x h => h
  | first => exact absurd (hols_v _) ho
  | last => exact absurd (hols_v _) ho
  | ends => exact absurd (hols_v _) ho
  | bag =>
    have h1 := pv ((plainI .bag (vals es)).map En.v ++ (sortP (hols es)).map hE)
    rw [(hv .bag).1, (hv .bag).2] at h1
    have h2 := pv es
    have e1 : plainI .bag (vals (((plainI .bag (vals es)).map En.v ++ (sortP (hols es)).map hE).flatMap f)) = plainI .bag (vals (es.flatMap f)) := sort_congr (h1.trans ((List.Perm.append (sort_perm _) ((sortP_perm _).flatMap_right _)).trans h2.symm))
    have e2 : sortP (hols (((plainI .bag (vals es)).map En.v ++ (sortP (hols es)).map hE).flatMap f)) = sortP (hols (es.flatMap f)) := by
      rw [ph, ph, (hv .bag).2]
      exact sortP_congr ((sortP_perm _).flatMap_right _)
    show (plainI .bag (vals _)).map En.v ++ (sortP (hols _)).map hE = _
    unfold rowI
    rw [e1, e2]
  | set =>
    have h1 := pv ((plainI .set (vals es)).map En.v ++ (sortP (hols es)).map hE)
    rw [(hv .set).1, (hv .set).2] at h1
    have h2 := pv es
    have e1 : plainI .set (vals (((plainI .set (vals es)).map En.v ++ (sortP (hols es)).map hE).flatMap f)) = plainI .set (vals (es.flatMap f)) := by
      refine sort_mem (nodup_headsI _) (nodup_headsI _) fun x => ?_
      rw [mem_headsI, mem_headsI, h1.mem_iff, h2.mem_iff, List.mem_append, List.mem_append, ((sortP_perm (hols es)).flatMap_right _).mem_iff]
      have : x ∈ plainI .set (vals es) ↔ x ∈ vals es := by
        show x ∈ sortI (headsI _) ↔ _
        rw [mem_sort, mem_headsI]
      rw [this]
    have e2 : sortP (hols (((plainI .set (vals es)).map En.v ++ (sortP (hols es)).map hE).flatMap f)) = sortP (hols (es.flatMap f)) := by
      rw [ph, ph, (hv .set).2]
      exact sortP_congr ((sortP_perm _).flatMap_right _)
    show (plainI .set (vals _)).map En.v ++ (sortP (hols _)).map hE = _
    unfold rowI
    rw [e1, e2]
end Mv

set_option Elab.async false
set_option linter.all false
set_option maxRecDepth 100000
set_option maxHeartbeats 4000000
namespace Mv
open PySem PySem.Spec PyProof.Rows L2
/-- the indexes before i where a value comes last -/
def tlIx (xs : List Int) (i : Nat) : List Nat := (List.range i).filter fun k => decide (xs.getD k 0 ∉ xs.drop (k + 1))
theorem take_snoc {xs : List Int} {i : Nat} (h : i < xs.length) : xs.take (i + 1) = xs.take i ++ [xs[i]] := by
  rw [List.take_succ, List.getElem?_eq_getElem h]
  rfl
theorem asc_one {is js : List Nat} (h1 : is.Pairwise (· < ·)) (h2 : js.Pairwise (· < ·)) (h : ∀ i, i ∈ is ↔ i ∈ js) : is = js := by
  have n1 : is.Nodup := h1.imp fun q => by omega
  have n2 : js.Nodup := h2.imp fun q => by omega
  have p := (List.perm_ext_iff_of_nodup n1 n2).mpr h
  have e := sorted_one (p.map fun i : Nat => (i : Int)) (intsOf_asc h1) (intsOf_asc h2)
  exact List.map_inj_right (fun _ _ => Int.ofNat.inj) |>.mp e
theorem tlIx_all (xs : List Int) : tlIx xs xs.length = tailIx xs := by
  refine asc_one ?_ (tailIx_asc xs) fun i => ?_
  · exact List.Pairwise.filter _ List.pairwise_lt_range
  · unfold tlIx tailIx
    rw [List.mem_filter, List.mem_range, List.mem_reverse, List.mem_map]
    have key : ∀ (x : Int), i < xs.length → xs.reverse.idxOf x = if x ∈ xs.drop (i + 1) then (xs.drop (i + 1)).reverse.idxOf x else (xs.take (i + 1)).reverse.idxOf x + (xs.length - (i + 1)) := fun x h => by
      have e : xs.reverse = (xs.drop (i + 1)).reverse ++ (xs.take (i + 1)).reverse := by rw [← List.reverse_append, List.take_append_drop]
      rw [e, List.idxOf_append, List.length_reverse, List.length_drop]
      simp only [List.mem_reverse]
    constructor
    · rintro ⟨hi, h⟩
      have h := of_decide_eq_true h
      have hm : xs.getD i 0 ∈ xs := by
        rw [getD_at hi]
        exact List.getElem_mem _
      refine ⟨xs.getD i 0, (mem_headsI _).mpr (List.mem_reverse.mpr hm), ?_⟩
      unfold lastIx
      rw [key _ hi, if_neg h, take_snoc hi, List.reverse_append, getD_at hi]
      show xs.length - 1 - (List.idxOf xs[i] (xs[i] :: _) + _) = i
      rw [List.idxOf_cons_self]
      omega
    · rintro ⟨x, hx, rfl⟩
      have hx := List.mem_reverse.mp ((mem_headsI _).mp hx)
      have hi := lastIx_lt hx
      refine ⟨hi, decide_eq_true ?_⟩
      rw [lastIx_get hx]
      intro hm
      have k := key x hi
      rw [if_pos hm] at k
      have l := List.idxOf_lt_length_iff.mpr (List.mem_reverse.mpr hm)
      rw [List.length_reverse, List.length_drop] at l
      have hp := List.length_pos_of_mem hx
      have hr : xs.reverse.idxOf x < xs.length := by
        have := List.idxOf_lt_length_iff.mpr (List.mem_reverse.mpr hx)
        rw [List.length_reverse] at this
        exact this
      unfold lastIx at l k hm
      omega
/-! ### where the values stand -/
def isV (es : List En) (i : Nat) : Bool := match es[i]? with
  | some (.v _) => true
  | _ => false
def plcN (es : List En) (n : Nat) : List Nat := (List.range n).filter (isV es)
theorem plcN_succ (es : List En) (n : Nat) : plcN es (n + 1) = plcN es n ++ if isV es n = true then [n] else [] := by
  unfold plcN
  rw [List.range_succ, List.filter_append]
  congr 1
  exact List.filter_cons.trans (by simp)
theorem plcN_len (es : List En) : ∀ n, n ≤ es.length → (plcN es n).length = (vals (es.take n)).length
  | 0, _ => by simp [plcN, vals]
  | n + 1, h => by
    have ih := plcN_len es n (by omega)
    rw [plcN_succ, List.length_append, ih, List.take_add_one, vals_app, List.length_append]
    have hn : es[n]? = some (es[n]'(by omega)) := List.getElem?_eq_getElem _
    generalize es[n]'(by omega) = e at hn
    unfold isV
    rw [hn]
    cases e <;> rfl
theorem plcN_pre (es : List En) {i : Nat} : ∀ n, i ≤ n → ∃ r, plcN es n = plcN es i ++ r
  | 0, h => ⟨[], by
    obtain rfl : i = 0 := by omega
    rw [List.append_nil]⟩
  | n + 1, h => by
    by_cases e : i = n + 1
    · exact ⟨[], by rw [e, List.append_nil]⟩
    · obtain ⟨r, hr⟩ := plcN_pre es n (i := i) (by omega)
      exact ⟨_, by rw [plcN_succ, hr, List.append_assoc]⟩
theorem plc_at {es : List En} {i : Nat} {x : Int} (h : es[i]? = some (.v x)) : (plcN es es.length)[(vals (es.take i)).length]? = some i ∧ (vals es)[(vals (es.take i)).length]? = some x := by
  have hi := (List.getElem?_eq_some_iff.mp h).1
  obtain ⟨r, hr⟩ := plcN_pre es (i := i + 1) es.length (by omega)
  have h1 : plcN es (i + 1) = plcN es i ++ [i] := by
    rw [plcN_succ]
    unfold isV
    rw [h]
    rfl
  have hl := plcN_len es i (by omega)
  constructor
  · rw [hr, h1, ← hl, List.append_assoc, List.getElem?_append_right (Nat.le_refl _), Nat.sub_self]
    rfl
  · have e : es = es.take i ++ .v x :: es.drop (i + 1) := by
      conv => lhs; rw [← List.take_append_drop (i + 1) es, List.take_add_one, h]
      simp
    conv => lhs; rw [e, vals_app]
    rw [List.getElem?_append_right]
    · have : (vals ((es.take i ++ .v x :: es.drop (i + 1)).take i)).length = (vals (es.take i)).length := by
        rw [← e]
      rw [this, Nat.sub_self]
      rfl
    · rw [← e]
      exact Nat.le_refl _
theorem plc_nodup (es : List En) (n : Nat) : (plcN es n).Nodup := List.Pairwise.filter _ List.nodup_range
theorem plc_inj {es : List En} {n m m' i : Nat} (h : (plcN es n)[m]? = some i) (h' : (plcN es n)[m']? = some i) : m = m' := by
  have hm := (List.getElem?_eq_some_iff.mp h).1
  exact (List.getElem?_inj hm (plc_nodup es n)).mp (h.trans h'.symm)
theorem idx_first {w : List Int} {m : Nat} {x : Int} (h : w[m]? = some x) : w.idxOf x = m ↔ x ∉ w.take m := by
  have hm := (List.getElem?_eq_some_iff.mp h).1
  have e : w = w.take m ++ x :: w.drop (m + 1) := by
    conv => lhs; rw [← List.take_append_drop (m + 1) w, List.take_add_one, h]
    simp
  have hl : (w.take m).length = m := by rw [List.length_take]; omega
  have hi : w.idxOf x = if x ∈ w.take m then (w.take m).idxOf x else m := by
    conv => lhs; rw [e]
    rw [List.idxOf_append, hl]
    split
    · rfl
    · rw [List.idxOf_cons_self, Nat.zero_add]
  rw [hi]
  constructor
  · intro h' hx
    rw [if_pos hx] at h'
    have := List.idxOf_lt_length_of_mem hx
    omega
  · intro hx
    rw [if_neg hx]
theorem keep_heads {w : List Int} {m : Nat} {x : Int} (h : w[m]? = some x) : m ∈ keepIx .heads w ↔ x ∉ w.take m := by
  rw [← idx_first h]
  show m ∈ (headsI w).map w.idxOf ↔ _
  rw [List.mem_map]
  constructor
  · rintro ⟨y, hy, rfl⟩
    have hyw := (mem_headsI _).mp hy
    have : w[w.idxOf y]? = some y := by
      have hlt := List.idxOf_lt_length_of_mem hyw
      rw [List.getElem?_eq_getElem hlt, List.getElem_idxOf hlt]
    obtain rfl : y = x := Option.some.inj (this.symm.trans h)
    rfl
  · intro e
    exact ⟨x, (mem_headsI _).mpr (List.mem_of_getElem? h), e⟩
theorem keep_tails {w : List Int} {m : Nat} {x : Int} (h : w[m]? = some x) : m ∈ keepIx .tails w ↔ x ∉ w.drop (m + 1) := by
  have hm := (List.getElem?_eq_some_iff.mp h).1
  show m ∈ tailIx w ↔ _
  rw [← tlIx_all]
  unfold tlIx
  rw [List.mem_filter, List.mem_range, decide_eq_true_eq]
  have : w.getD m 0 = x := by
    rw [List.getD_eq_getElem?_getD, h]
    rfl
  rw [this]
  exact ⟨fun z => z.2, fun z => ⟨hm, z⟩⟩
/-- whether an entry stays in a row of list, heads, tails -/
def stays (k : Kd) (es : List En) (i : Nat) : List En := match es[i]? with
  | some e => match k with
    | .heads => ok1 (es.take i) e
    | .tails => ok1 (es.drop (i + 1)) e
    | _ => [e]
  | none => []
def part (k : Kd) (es : List En) (i : Nat) : List En := match k with
  | .heads => hd [] (es.take i)
  | .tails => tl (es.drop i) (es.take i)
  | _ => es.take i
theorem part_succ {k : Kd} {es : List En} {i : Nat} (h : i < es.length) : part k es (i + 1) = part k es i ++ stays k es i := by
  have hi : es[i]? = some es[i] := List.getElem?_eq_getElem h
  have ed : es.drop i = es[i] :: es.drop (i + 1) := by rw [List.getElem_cons_drop]
  have et : es.take (i + 1) = es.take i ++ [es[i]] := by
    rw [List.take_add_one, hi]
    rfl
  unfold part stays
  rw [hi]
  cases k
  case heads =>
    show hd [] (es.take (i + 1)) = hd [] (es.take i) ++ ok1 (es.take i) es[i]
    rw [et, hd_snoc]
  case tails =>
    show tl (es.drop (i + 1)) (es.take (i + 1)) = tl (es.drop i) (es.take i) ++ ok1 (es.drop (i + 1)) es[i]
    rw [et, tl_snoc, ← ed]
  all_goals exact et
theorem part_all {k : Kd} {es : List En} (h : k = .list ∨ k = .heads ∨ k = .tails) : part k es es.length = rowI k es := by
  unfold part rowI
  rcases h with rfl | rfl | rfl
  · exact List.take_length
  · show hd [] (es.take es.length) = _
    rw [List.take_length]
  · show tl (es.drop es.length) (es.take es.length) = _
    rw [List.take_length, List.drop_length]
theorem stay_v {k : Kd} {es : List En} {i : Nat} {x : Int} (hk : k = .list ∨ k = .heads ∨ k = .tails) (h : es[i]? = some (.v x)) : stays k es i = if (vals (es.take i)).length ∈ keepIx k (vals es) then [.v x] else [] := by
  obtain ⟨_, hw⟩ := plc_at h
  have e : es = es.take i ++ .v x :: es.drop (i + 1) := by
    conv => lhs; rw [← List.take_append_drop (i + 1) es, List.take_add_one, h]
    simp
  have ev : vals es = vals (es.take i) ++ x :: vals (es.drop (i + 1)) := by
    conv => lhs; rw [e, vals_app]
    rfl
  unfold stays
  rw [h]
  rcases hk with rfl | rfl | rfl
  · rw [if_pos]
    exact List.mem_range.mpr (List.getElem?_eq_some_iff.mp hw).1
  · show ok1 (es.take i) (.v x) = _
    rw [ok1_v]
    have ht : (vals es).take (vals (es.take i)).length = vals (es.take i) := by
      conv => lhs; rw [ev]
      exact List.take_left' rfl
    have := keep_heads hw
    rw [ht, mem_vals] at this
    by_cases m : En.v x ∈ es.take i
    · rw [if_pos m, if_neg fun z => this.mp z m]
    · rw [if_neg m, if_pos (this.mpr m)]
  · show ok1 (es.drop (i + 1)) (.v x) = _
    rw [ok1_v]
    have ht : (vals es).drop ((vals (es.take i)).length + 1) = vals (es.drop (i + 1)) := by
      conv => lhs; rw [ev]
      rw [List.drop_append]
      simp
    have := keep_tails hw
    rw [ht, mem_vals] at this
    by_cases m : En.v x ∈ es.drop (i + 1)
    · rw [if_pos m, if_neg fun z => this.mp z m]
    · rw [if_neg m, if_pos (this.mpr m)]
theorem stay_h {k : Kd} {es : List En} {i : Nat} {a b : Int} (h : es[i]? = some (.h a b)) : stays k es i = [.h a b] := by
  unfold stays
  rw [h]
  cases k <;> rfl
end Mv

set_option Elab.async false
set_option linter.all false
set_option maxRecDepth 100000
set_option maxHeartbeats 4000000
namespace Mv
open PySem PySem.Spec PyProof.Rows L2
abbrev sIH : Stmt := topS 18
abbrev sRV : Stmt := topS 19
abbrev sRH : Stmt := topS 20
theorem tt {K : PySem.W.Frag} {H : Hp} {p : Addr} {xs : List V} (h : H p = some (.tup xs)) : SqT K H p xs := .inl (.inl h)
theorem ll {K : PySem.W.Frag} {H : Hp} {p : Addr} {xs : List V} (h : H p = some (.lst xs)) : SqL K H p xs := .inl (.inl h)
/-- an entry, as it lies in the heap -/
inductive EnV (H : Hp) : V → En → Prop where
  | v (x : Int) : EnV H (.int x) (.v x)
  | h {t : Addr} {a b : Int} (e : H t = some (.tup [.int a, .int b])) : EnV H (.ref t) (.h a b)
abbrev RL := List (V × En)
def ens (R : RL) : List En := R.map (·.2)
def vls (R : RL) : List V := R.map (·.1)
def All (H : Hp) (R : RL) : Prop := ∀ p ∈ R, EnV H p.1 p.2
theorem EnV.ext {H H' : Hp} {x : V} {e : En} (h : EnV H x e) (s : LamX.ExtN H H') : EnV H' x e := by
  cases h with
  | v x => exact .v x
  | h e => exact .h (s _ _ e (fun ps z => by cases z))
theorem EnV.same {H H' : Hp} {x : V} {e : En} (h : EnV H x e) (s : Same H H') : EnV H' x e := h.ext (LamX.ExtN.of s)
theorem All.ext {H H' : Hp} {R : RL} (h : All H R) (s : LamX.ExtN H H') : All H' R := fun p hp => (h p hp).ext s
theorem All.same {H H' : Hp} {R : RL} (h : All H R) (s : Same H H') : All H' R := fun p hp => (h p hp).same s
theorem All.app {H : Hp} {R S : RL} (h : All H R) (h' : All H S) : All H (R ++ S) := fun p hp => (List.mem_append.mp hp).elim (h p) (h' p)
theorem EnV.wr {H H' : Hp} {a : Addr} {ys : List V} {x : V} {e : En} (h : EnV H x e) (ha : H a = some (.lst ys)) (w : Sx a H H') : EnV H' x e := by
  cases h with
  | v x => exact .v x
  | @h t p q e =>
    refine .h (w _ _ (fun z => ?_) e)
    rw [z, ha] at e
    cases e
theorem All.wr {H H' : Hp} {a : Addr} {ys : List V} {R : RL} (h : All H R) (ha : H a = some (.lst ys)) (w : Sx a H H') : All H' R := fun p hp => (h p hp).wr ha w
def En.isH : En → Bool
  | .v _ => false
  | .h _ _ => true
/-- a list or a tuple of entries -/
def SqE (K : PySem.W.Frag) (H : Hp) (p : Addr) (R : RL) : Prop := (SqL K H p (vls R) ∨ SqT K H p (vls R)) ∧ All H R
theorem sql_same {K : PySem.W.Frag} {H H1 : Hp} {p : Addr} {xs : List V} (h : SqL K H p xs) (s : Same H H1) : SqL K H1 p xs := by
  rcases h with (h | ⟨o, h⟩) | h
  · exact .inl (.inl (s _ _ h))
  · exact .inl (.inr ⟨o, s _ _ h⟩)
  · exact .inr h
theorem seq_ext {K : PySem.W.Frag} {H H1 : Hp} {p : Addr} {xs : List V} (h : SqL K H p xs ∨ SqT K H p xs) (s : Same H H1) : SqL K H1 p xs ∨ SqT K H1 p xs := h.elim (fun h => .inl (sql_same h s)) (fun h => .inr (Same.tup s h))
theorem SqE.same {K : PySem.W.Frag} {H H1 : Hp} {p : Addr} {R : RL} (h : SqE K H p R) (s : Same H H1) : SqE K H1 p R := ⟨seq_ext h.1 s, h.2.same s⟩
theorem vls_app (R S : RL) : vls (R ++ S) = vls R ++ vls S := List.map_append
theorem ens_app (R S : RL) : ens (R ++ S) = ens R ++ ens S := List.map_append
theorem vls_at {R : RL} {i : Nat} {x : V} (h : (vls R)[i]? = some x) : ∃ p, R[i]? = some p ∧ x = p.1 := by
  unfold vls at h
  rw [List.getElem?_map] at h
  cases e : R[i]? with
  | none =>
    rw [e] at h
    cases h
  | some p =>
    rw [e] at h
    exact ⟨p, rfl, (Option.some.inj h).symm⟩
theorem exact_small {n m : Nat} (h : n ≤ m) (h' : m ≤ 1000) : n < sizeLine := small1000 (Nat.le_trans h h')
section
variable {P : Program} {w : World} {K : PySem.W.Frag} {mg : Str → Option Value} {base : Heap} {T : List (Addr × Str)} {CB : Addr}
theorem isi_tup {H : Hp} {x : V} {e : En} {Q : VK} (h : EnV H x e) (q : Q (.bl e.isH) H) : rIsi K [x, .ty "tuple"] H Q := by
  cases h with
  | v x => exact ⟨.int x, .ty "tuple", .type "int", .type "tuple", false, rfl, .ty _, .base (.int x), kit_ty (by decide +kernel), q⟩
  | @h t a b e => exact ⟨.ref t, .ty "tuple", .type "tuple", .type "tuple", true, rfl, .ty _, .base (.tup e), kit_ty (by decide +kernel), q⟩
theorem scIH : FnScope ["entry"] ["entry"] (defScope sIH) := ⟨rfl, rfl, rfl, by decide +kernel, rfl, by decide +kernel, by decide +kernel⟩
def spIH : Sp := fun vs H Q _ => ∃ (x : V) (e : En), vs = [x] ∧ EnV H x e ∧ Q (.bl e.isH) H
theorem ok_ih {f : Addr} {fd : FuncData} (F : Fun K "is_hole" "is_hole" sIH f fd) (B : Bi mg) : FnOk P w K mg base CX0 1 f fd ["entry"] spIH := by
  refine F.ok scIH (fun vs H Q E h => ?_) (fun cdv A outer s H vs Q E hr h => ?_)
  · obtain ⟨x, e, rfl, _⟩ := h
    rfl
  · obtain ⟨x, e, rfl, he, q⟩ := h
    refine ⟨_, (pss_one (ps_ret (pe_callB call_isi (by rfl) B.isinstance (by decide +kernel) (pa_cons (pv 0) (pa_cons (pe_bltn (by rfl) B.tuple (by decide +kernel) (v := .ty "tuple") rfl) pa_nil))))), ?_⟩
    try simp only [tSeq, tAsg, gName, tOp, rI, rI0, rU, tUn, tVar, tC, tCB, tCons, tNil, tTest, tIfS, tRet, tRetN, tDrop, tNext, tBreak, tCont, rEq, rNe, CDiv, CDivN, CMul, tBM, tBM0, tTup, tLst, tAug, tIf, tAnd, tOr, tNot, tAndV, tOrV, tNotV, tIsN, tNotN, tB, scal, tCall, cxK, cxKn, rIxT, rIxL, rIn, rAppend, rReverse, tVals, tDSetd, tDGet, tDGet1, tDGet2, tDIn, tDNotIn, rSortV, rSortT, rPop, rSortL, rSortT, tSl, tNoPart, tPart, List.append_nil, L2.start, List.map_cons, List.map_nil, List.length_cons, List.length_nil, List.replicate_succ, List.replicate_zero, List.cons_append, List.nil_append, Nat.reduceAdd, Nat.reduceSub, exists_eq, exists_eq', List.getElem?_cons_zero, List.getElem?_cons_succ, List.set_cons_zero, List.set_cons_succ, Option.some.injEq, V.int.injEq, V.bl.injEq, V.str.injEq, V.ref.injEq, List.cons.injEq, and_true, true_and, and_false, false_and, reduceCtorEq, exists_false, or_false, false_or, exists_and_left, exists_and_right, exists_eq_left, exists_eq_left', exists_eq_right, exists_eq_right', exists_const, ite_true, ite_false, Bool.false_eq_true, if_true, if_false, decide_true, decide_false]
    exact isi_tup he q
theorem scRV : FnScope ["row", "entry"] ["row"] (defScope sRV) := ⟨rfl, rfl, rfl, by decide +kernel, rfl, by decide +kernel, by decide +kernel⟩
def spRV (K : PySem.W.Frag) : Sp := fun vs H Q _ => ∃ (p : Addr) (R : RL), vs = [.ref p] ∧ SqE K H p R ∧ R.length ≤ 500 ∧ ∀ (H' : Hp) (l : Addr), Same H H' → H' l = some (.lst ((vals (ens R)).map V.int)) → Q (.ref l) H'
theorem ok_rv {f : Addr} {fd : FuncData} (F : Fun K "row_values" "row_values" sRV f fd) (B : Bi mg) (cIH : CalX CX0 P w K mg base 1 "is_hole" spIH) : FnOk P w K mg base CX0 2 f fd ["row"] (spRV K) := by
  refine F.ok scRV (fun vs H Q E h => ?_) (fun cdv A outer s H vs Q E hr h => ?_)
  · obtain ⟨p, R, rfl, _⟩ := h
    rfl
  · obtain ⟨p, R, rfl, ⟨hp, al⟩, hl, q⟩ := h
    rcases hp with hp | hp
    case' inl => refine ⟨_, (pss_one (ps_ret (pe_lc (own := [("entry", 1)]) (g := gName 1) (tt := (tNot (tB (tCall spIH [] E0 (tCons (tVar 1) tNil))))) (te := (tVar 1)) rfl scRV.nd (pi_list (pv 0)) (blkOk_by (N := ["row", "entry"]) (sc := defScope sRV) (by decide +kernel)) (fun _ _ _ _ _ => (pg_name (i := 1) scRV.nd rfl (.inl rfl))) (fun _ _ _ _ _ => (pts_one (pt_not (pt_val (pe_cx cIH hr (by decide) pass0 (by rfl) (pa_cons (pv 1) pa_nil)))))) (fun _ _ _ _ _ => (pv 1))))), ?_⟩
    case' inr => refine ⟨_, (pss_one (ps_ret (pe_lc (own := [("entry", 1)]) (g := gName 1) (tt := (tNot (tB (tCall spIH [] E0 (tCons (tVar 1) tNil))))) (te := (tVar 1)) rfl scRV.nd (pi_tup (pv 0)) (blkOk_by (N := ["row", "entry"]) (sc := defScope sRV) (by decide +kernel)) (fun _ _ _ _ _ => (pg_name (i := 1) scRV.nd rfl (.inl rfl))) (fun _ _ _ _ _ => (pts_one (pt_not (pt_val (pe_cx cIH hr (by decide) pass0 (by rfl) (pa_cons (pv 1) pa_nil)))))) (fun _ _ _ _ _ => (pv 1))))), ?_⟩
    case' inl => refine ⟨_, rfl, p, rfl, ⟨_, hp⟩, fun D hD => lc_list (K := K) (xs := vls R) (fun i H' => Same H H' ∧ H' D = some (.lst ((vals ((ens R).take i)).map V.int))) ⟨same_upd hD, upd_same⟩ (fun i H' _ h => sql_same hp h.1) ?_ ?_⟩
    case' inr => refine ⟨_, rfl, p, rfl, ⟨_, hp⟩, fun D hD => lc_tup (K := K) (xs := vls R) (fun i H' => Same H H' ∧ H' D = some (.lst ((vals ((ens R).take i)).map V.int))) ⟨same_upd hD, upd_same⟩ (fun i H' _ h => Same.tup h.1 hp) ?_ ?_⟩
    all_goals
      first
      | rintro i x H1 hx ⟨s1, hd⟩
        obtain ⟨e, he, rfl⟩ := vls_at hx
        have hil := (List.getElem?_eq_some_iff.mp he).1
        have ee : (ens R)[i]? = some e.2 := by
          unfold ens
          rw [List.getElem?_map, he]
          rfl
        have vl : (vals ((ens R).take i)).length ≤ i := Nat.le_trans (vals_len _) (by rw [List.length_take]; exact Nat.min_le_left _ _)
        refine ⟨rfl, ?_⟩
        simp only [tSeq, tAsg, gName, tOp, rI, rI0, rU, tUn, tVar, tC, tCB, tCons, tNil, tTest, tIfS, tRet, tRetN, tDrop, tNext, tBreak, tCont, rEq, rNe, CDiv, CDivN, CMul, tBM, tBM0, tTup, tLst, tAug, tIf, tAnd, tOr, tNot, tAndV, tOrV, tNotV, tIsN, tNotN, tB, scal, tCall, cxK, cxKn, rIxT, rIxL, rIn, rAppend, rReverse, tVals, tDSetd, tDGet, tDGet1, tDGet2, tDIn, tDNotIn, rSortV, rSortT, rPop, rSortL, rSortT, tSl, tNoPart, tPart, List.append_nil, L2.start, List.map_cons, List.map_nil, List.length_cons, List.length_nil, List.replicate_succ, List.replicate_zero, List.cons_append, List.nil_append, Nat.reduceAdd, Nat.reduceSub, exists_eq, exists_eq', wipe, List.getElem?_cons_zero, List.getElem?_cons_succ, List.set_cons_zero, List.set_cons_succ, Option.some.injEq, V.int.injEq, V.bl.injEq, V.str.injEq, V.ref.injEq, List.cons.injEq, and_true, true_and, and_false, false_and, reduceCtorEq, exists_false, or_false, false_or, exists_and_left, exists_and_right, exists_eq_left, exists_eq_left', exists_eq_right, exists_eq_right', exists_const, ite_true, ite_false, Bool.false_eq_true, if_true, if_false, decide_true, decide_false]
        refine ⟨e.1, e.2, rfl, (al e (List.mem_of_getElem? he)).same s1, _, rfl, ?_⟩
        have hev := al e (List.mem_of_getElem? he)
        rw [List.take_add_one, ee]
        obtain ⟨x, en⟩ := e
        cases hev with
        | v x =>
          refine if_T rfl ⟨_, hd, by rw [List.length_map]; exact small1000 (by omega), fun b o e => ?_, ?_⟩
          · rw [upd_ne (ne_of_none e hD)]
            exact s1 _ _ e
          · rw [upd_same, vals_app, List.map_append]
            rfl
        | h e =>
          refine if_F rfl ⟨s1, ?_⟩
          rw [hd, vals_app]
          show _ = some (HO.lst ((_ ++ []).map V.int))
          rw [List.append_nil]
      | rintro H1 ⟨s1, hd⟩
        rw [List.take_of_length_le (by unfold ens vls; rw [List.length_map, List.length_map]; exact Nat.le_refl _)] at hd
        exact q H1 D s1 hd
def hls (R : RL) : RL := R.filter fun p => p.2.isH
theorem hls_all {H : Hp} {R : RL} (h : All H R) : All H (hls R) := fun p hp => h p (List.mem_filter.mp hp).1
theorem hols_hls : ∀ R : RL, ens (hls R) = (hols (ens R)).map hE
  | [] => rfl
  | (x, .v y) :: R => hols_hls R
  | (x, .h a b) :: R => congrArg (En.h a b :: ·) (hols_hls R)
theorem scRH : FnScope ["row", "entry"] ["row"] (defScope sRH) := ⟨rfl, rfl, rfl, by decide +kernel, rfl, by decide +kernel, by decide +kernel⟩
def spRH (K : PySem.W.Frag) : Sp := fun vs H Q _ => ∃ (p : Addr) (R : RL), vs = [.ref p] ∧ SqE K H p R ∧ R.length ≤ 500 ∧ ∀ (H' : Hp) (l : Addr), Same H H' → H' l = some (.lst (vls (hls R))) → Q (.ref l) H'
theorem ok_rh {f : Addr} {fd : FuncData} (F : Fun K "row_holes" "row_holes" sRH f fd) (B : Bi mg) (cIH : CalX CX0 P w K mg base 1 "is_hole" spIH) : FnOk P w K mg base CX0 2 f fd ["row"] (spRH K) := by
  refine F.ok scRH (fun vs H Q E h => ?_) (fun cdv A outer s H vs Q E hr h => ?_)
  · obtain ⟨p, R, rfl, _⟩ := h
    rfl
  · obtain ⟨p, R, rfl, ⟨hp, al⟩, hl, q⟩ := h
    rcases hp with hp | hp
    case' inl => refine ⟨_, (pss_one (ps_ret (pe_lc (own := [("entry", 1)]) (g := gName 1) (tt := (tB (tCall spIH [] E0 (tCons (tVar 1) tNil)))) (te := (tVar 1)) rfl scRH.nd (pi_list (pv 0)) (blkOk_by (N := ["row", "entry"]) (sc := defScope sRH) (by decide +kernel)) (fun _ _ _ _ _ => (pg_name (i := 1) scRH.nd rfl (.inl rfl))) (fun _ _ _ _ _ => (pts_one (pt_val (pe_cx cIH hr (by decide) pass0 (by rfl) (pa_cons (pv 1) pa_nil))))) (fun _ _ _ _ _ => (pv 1))))), ?_⟩
    case' inr => refine ⟨_, (pss_one (ps_ret (pe_lc (own := [("entry", 1)]) (g := gName 1) (tt := (tB (tCall spIH [] E0 (tCons (tVar 1) tNil)))) (te := (tVar 1)) rfl scRH.nd (pi_tup (pv 0)) (blkOk_by (N := ["row", "entry"]) (sc := defScope sRH) (by decide +kernel)) (fun _ _ _ _ _ => (pg_name (i := 1) scRH.nd rfl (.inl rfl))) (fun _ _ _ _ _ => (pts_one (pt_val (pe_cx cIH hr (by decide) pass0 (by rfl) (pa_cons (pv 1) pa_nil))))) (fun _ _ _ _ _ => (pv 1))))), ?_⟩
    case' inl => refine ⟨_, rfl, p, rfl, ⟨_, hp⟩, fun D hD => lc_list (K := K) (xs := vls R) (fun i H' => Same H H' ∧ H' D = some (.lst (vls (hls (R.take i))))) ⟨same_upd hD, upd_same⟩ (fun i H' _ h => sql_same hp h.1) ?_ ?_⟩
    case' inr => refine ⟨_, rfl, p, rfl, ⟨_, hp⟩, fun D hD => lc_tup (K := K) (xs := vls R) (fun i H' => Same H H' ∧ H' D = some (.lst (vls (hls (R.take i))))) ⟨same_upd hD, upd_same⟩ (fun i H' _ h => Same.tup h.1 hp) ?_ ?_⟩
    all_goals
      first
      | rintro i x H1 hx ⟨s1, hd⟩
        obtain ⟨e, he, rfl⟩ := vls_at hx
        have hil := (List.getElem?_eq_some_iff.mp he).1
        have vl : (vls (hls (R.take i))).length ≤ i := by
          unfold vls hls
          rw [List.length_map]
          exact Nat.le_trans (List.length_filter_le _ _) (by rw [List.length_take]; exact Nat.min_le_left _ _)
        refine ⟨rfl, ?_⟩
        simp only [tSeq, tAsg, gName, tOp, rI, rI0, rU, tUn, tVar, tC, tCB, tCons, tNil, tTest, tIfS, tRet, tRetN, tDrop, tNext, tBreak, tCont, rEq, rNe, CDiv, CDivN, CMul, tBM, tBM0, tTup, tLst, tAug, tIf, tAnd, tOr, tNot, tAndV, tOrV, tNotV, tIsN, tNotN, tB, scal, tCall, cxK, cxKn, rIxT, rIxL, rIn, rAppend, rReverse, tVals, tDSetd, tDGet, tDGet1, tDGet2, tDIn, tDNotIn, rSortV, rSortT, rPop, rSortL, rSortT, tSl, tNoPart, tPart, List.append_nil, L2.start, List.map_cons, List.map_nil, List.length_cons, List.length_nil, List.replicate_succ, List.replicate_zero, List.cons_append, List.nil_append, Nat.reduceAdd, Nat.reduceSub, exists_eq, exists_eq', wipe, List.getElem?_cons_zero, List.getElem?_cons_succ, List.set_cons_zero, List.set_cons_succ, Option.some.injEq, V.int.injEq, V.bl.injEq, V.str.injEq, V.ref.injEq, List.cons.injEq, and_true, true_and, and_false, false_and, reduceCtorEq, exists_false, or_false, false_or, exists_and_left, exists_and_right, exists_eq_left, exists_eq_left', exists_eq_right, exists_eq_right', exists_const, ite_true, ite_false, Bool.false_eq_true, if_true, if_false, decide_true, decide_false]
        refine ⟨e.1, e.2, rfl, (al e (List.mem_of_getElem? he)).same s1, _, rfl, ?_⟩
        have es : hls (R.take (i + 1)) = hls (R.take i) ++ if e.2.isH = true then [e] else [] := by
          unfold hls
          rw [List.take_add_one, he, List.filter_append]
          congr 1
          exact List.filter_cons.trans (by simp)
        rw [es]
        refine ite2 (fun eh => ?_) (fun eh => ?_)
        · rw [if_pos eh, vls_app]
          refine ⟨_, hd, exact_small vl (by omega), fun b o e => ?_, ?_⟩
          · rw [upd_ne (ne_of_none e hD)]
            exact s1 _ _ e
          · rw [upd_same]
            rfl
        · rw [if_neg eh, List.append_nil]
          exact ⟨s1, hd⟩
      | rintro H1 ⟨s1, hd⟩
        rw [List.take_of_length_le (by unfold vls; rw [List.length_map]; exact Nat.le_refl _)] at hd
        exact q H1 D s1 hd
end
end Mv

set_option Elab.async false
set_option linter.all false
set_option maxRecDepth 100000
set_option maxHeartbeats 4000000
namespace Mv
open PySem PySem.Spec PyProof.Rows L2
abbrev sRF : Stmt := topS 17
def _root_.Mv.Kd.ordl : Kd → Bool
  | .bag => true
  | .set => true
  | _ => false
def _root_.Mv.Kd.outr : Kd → Bool
  | .first => true
  | .last => true
  | .ends => true
  | _ => false
structure ClsR (K : PySem.W.Frag) (cls : Kd → Addr) : Prop where
  cl : ∀ k, Cls K (cls k)
  od : ∀ k : Kd, ∃ u, Con K (cls k) "ORDERLESS" (.bl k.ordl) u
  ou : ∀ k : Kd, ∃ u, Con K (cls k) "OUTER" (.bl k.outr) u
theorem cat_tups {K : PySem.W.Frag} {H : Hp} {a b : Addr} {xs ys : List V} {Q : VK} (ha : H a = some (.tup xs)) (hb : H b = some (.tup ys)) (hz : xs.length + ys.length ≤ 1000)
    (q : ∀ (z : Addr) (H' : Hp), Same H H' → H' z = some (.tup (xs ++ ys)) → Q (.ref z) H') : rCatA K (.ref a) (.ref b) H Q := by
  refine ⟨a, b, _, _, rfl, rfl, .inl (.inl ha), .inl (.inl hb), small1000' hz, fun e => q b H (Same.refl H) ?_, fun _ e => q a H (Same.refl H) ?_, fun _ _ p hp => q p _ (same_upd hp) upd_same⟩
  · rw [e]
    exact hb
  · rw [e, List.append_nil]
    exact ha
theorem sql_ext {K : PySem.W.Frag} {H H1 : Hp} {p : Addr} {xs : List V} (h : SqL K H p xs) (s : LamX.ExtN H H1) : SqL K H1 p xs := by
  rcases h with (h | ⟨o, h⟩) | h
  · exact .inl (.inl (s _ _ h (fun ps z => by cases z)))
  · exact .inl (.inr ⟨o, s _ _ h (fun ps z => by cases z)⟩)
  · exact .inr h
theorem SqE.ext {K : PySem.W.Frag} {H H1 : Hp} {p : Addr} {R : RL} (h : SqE K H p R) (s : LamX.ExtN H H1) : SqE K H1 p R := ⟨h.1.elim (fun h => .inl (sql_ext h s)) (fun h => .inr (ext_tup h s)), h.2.ext s⟩
def vR (xs : List Int) : RL := xs.map fun x => (V.int x, En.v x)
theorem vls_vR (xs : List Int) : vls (vR xs) = xs.map V.int := by
  unfold vls vR
  rw [List.map_map]
  rfl
theorem ens_vR (xs : List Int) : ens (vR xs) = xs.map En.v := by
  unfold ens vR
  rw [List.map_map]
  rfl
theorem all_vR (H : Hp) (xs : List Int) : All H (vR xs) := fun p hp => by
  obtain ⟨x, _, rfl⟩ := List.mem_map.mp hp
  exact .v x
theorem ens_len (R : RL) : (ens R).length = R.length := List.length_map _
/-- holes, sorted -/
def hk (H : Hp) (x : V) : Int × Int := match x with
  | .ref t => match H t with
    | some (.tup [.int a, .int b]) => (a, b)
    | _ => (0, 0)
  | _ => (0, 0)
theorem hk_of {H : Hp} {t : Addr} {a b : Int} (h : H t = some (.tup [.int a, .int b])) : hk H (.ref t) = (a, b) := by
  simp only [hk, h]
theorem hk_all {H : Hp} : ∀ {R : RL}, All H R → (vls (hls R)).map (hk H) = hols (ens R)
  | [], _ => rfl
  | (x, .v y) :: R, h => hk_all (R := R) fun p hp => h p (List.mem_cons_of_mem _ hp)
  | (x, .h a b) :: R, h => by
    have h1 := h _ List.mem_cons_self
    have h2 := hk_all (R := R) fun p hp => h p (List.mem_cons_of_mem _ hp)
    cases h1 with
    | @h t a b e =>
      show hk H (.ref t) :: (vls (hls R)).map (hk H) = (a, b) :: hols (ens R)
      rw [hk_of e, h2]
theorem hk_ref {H : Hp} {R : RL} (h : All H R) : ∀ x ∈ vls (hls R), ∃ t, x = V.ref t ∧ H t = some (.tup [.int (hk H x).1, .int (hk H x).2]) := by
  intro x hx
  obtain ⟨p, hp, rfl⟩ := List.mem_map.mp hx
  obtain ⟨hp1, hp2⟩ := List.mem_filter.mp hp
  have := h p hp1
  obtain ⟨y, e⟩ := p
  cases this with
  | v x => cases hp2
  | @h t a b e => exact ⟨t, rfl, by rw [hk_of e]; exact e⟩
theorem hk_sorted {H : Hp} {R : RL} (h : All H R) {ys : List V} (s : SrtO.Srtd (ltP (hk H)) ys) (b : SrtO.Stb (ltP (hk H)) ys (vls (hls R))) : ∃ S : RL, vls S = ys ∧ All H S ∧ ens S = (sortP (hols (ens R))).map hE ∧ S.length = (hols (ens R)).length := by
  have e1 : ys.map (hk H) = sortP (hols (ens R)) := by
    refine lex_one ((b.perm.map _).trans ((by rw [hk_all h] : List.Perm ((vls (hls R)).map (hk H)) (hols (ens R))).trans (sortP_perm _).symm)) ?_ (sortP_pw _)
    rw [List.pairwise_map]
    refine s.imp fun {x y} q => ?_
    have q := SrtO.lexB_no.mp q
    refine decide_eq_true ?_
    omega
  have hy : ∀ x ∈ ys, ∃ t, x = V.ref t ∧ H t = some (.tup [.int (hk H x).1, .int (hk H x).2]) := fun x hx => hk_ref h x (b.perm.mem_iff.mp hx)
  refine ⟨ys.map fun x => (x, hE (hk H x)), ?_, fun p hp => ?_, ?_, ?_⟩
  · unfold vls
    rw [List.map_map]
    exact List.map_id ys
  · obtain ⟨x, hx, rfl⟩ := List.mem_map.mp hp
    obtain ⟨t, rfl, ht⟩ := hy x hx
    exact .h ht
  · rw [← e1, List.map_map]
    unfold ens
    rw [List.map_map]
    rfl
  · rw [List.length_map, ← (sortP_perm _).length_eq, ← e1, List.length_map]
section
variable {P : Program} {w : World} {K : PySem.W.Frag} {mg : Str → Option Value} {base : Heap} {T : List (Addr × Str)} {cls : Kd → Addr} {CB : Addr}
theorem con_of {a dx : Addr} {k : Kd} {f : Str} {v : V} {σ : L2.St} {H : Hp} {Q : VK} {i : Nat} (hσ : σ[i]? = some (some (.ref a))) (ho : H a = some (.ins (cls k) dx [])) (c : Cls K (cls k)) (h : ∃ u, Con K (cls k) f v u) (q : Q v H) : tCon K (tVar i) f σ H Q := by
  obtain ⟨u, h⟩ := h
  exact ⟨_, hσ, a, cls k, dx, [], v, u, rfl, ho, c, h, rfl, q⟩
/-- a row is handed back -/
def ResR (Q : VK) (T : List (Addr × Str)) (H : Hp) (k : Kd) (es : List En) : Prop := ∀ (H' : Hp) (t : Addr) (S : RL), Gw T H H' → H' t = some (.tup (vls S)) → All H' S → ens S = rowI k es → Q (.ref t) H'
theorem scRF : FnScope ["kind", "entries", "named", "values", "places", "at", "entry", "kept"] ["kind", "entries"] (defScope sRF) := ⟨rfl, rfl, rfl, by decide +kernel, rfl, by decide +kernel, by decide +kernel⟩
def spRF (K : PySem.W.Frag) (T : List (Addr × Str)) (CB : Addr) : Sp := fun vs H Q E => ∃ (v : V) (p : Addr) (R : RL), vs = [v, .ref p] ∧ SqE K H p R ∧ R.length ≤ 60 ∧ ((∃ k : Kd, v = .str k.nm ∧ LamX.Tabs T H ∧ ResR Q T H k (ens R)) ∨ (BadV H v ∧ Rs CB H v E))
theorem ok_rf {f : Addr} {fd : FuncData} (F : Fun K "row_from" "row_from" sRF f fd) (B : Bi mg) (C : ClsR K cls) (cKN : CalX (L2.CX P w) P w K mg base 3 "kind_named" (spKN cls CB)) (cPlain : ∀ k, MetX CX0 P w K mg base 3 (cls k) "plain" (spPlainM K cls T k)) (cKeep : ∀ k, MetX CX0 P w K mg base 2 (cls k) "keep" (spKeep K T k)) (cIH : CalX CX0 P w K mg base 1 "is_hole" spIH) (cRV : CalX CX0 P w K mg base 2 "row_values" (spRV K)) (cRH : CalX CX0 P w K mg base 2 "row_holes" (spRH K)) : FnOk P w K mg base (L2.CX P w) 4 f fd ["kind", "entries"] (spRF K T CB) := by
  refine F.okX scRF (fun vs H Q E h => ?_) (fun cdv A outer s H vs Q E hr h => ?_)
  · obtain ⟨v, p, R, rfl, _⟩ := h
    rfl
  · obtain ⟨v, p, R, rfl, ⟨hp, al⟩, hl, h⟩ := h
    rcases h with h | ⟨bv, rs⟩
    case' inr =>
      have k := Kd.list
      refine ⟨_, (pss_cons (ps_set (i := 2) scRF.nd rfl (.inl rfl) (pe_cx cKN hr (by decide) (passes_call (takes_of rfl rfl rfl rfl) (fun _ _ _ _ h => h)) (by rfl) (pa_cons (pv 0) pa_nil)))
 (pss_cons (ps_set (i := 3) scRF.nd rfl (.inl rfl) (pe_cx cRV hr (by decide) pass0 (by rfl) (pa_cons (pv 1) pa_nil)))
 (pss_cons (ps_if (pt_val (pe_con (pv 2) rfl))
 (pss_one (ps_ret (pe_mx (cPlain k) hr (by decide) pass0 (pv 2) (pa_cons (pv 3) pa_nil)))) pss_nil)
 (pss_cons (ps_if (pt_val (pe_con (pv 2) rfl))
 (pss_one (ps_ret (pe_op op_catA (pe_mx (cPlain k) hr (by decide) pass0 (pv 2) (pa_cons (pv 3) pa_nil)) (pe_callTy call_tuple_of (by rfl) B.tuple (by decide +kernel) (pa_cons (pe_callB cr_sortedPO (by rfl) B.sorted (by decide +kernel) (pa_cons (pe_cx cRH hr (by decide) pass0 (by rfl) (pa_cons (pv 1) pa_nil)) pa_nil)) pa_nil))))) pss_nil)
 (pss_cons (ps_set (i := 4) scRF.nd rfl (.inr rfl) (pe_lc (own := [("at", 5), ("entry", 6)]) (g := gTup K 2 (gCons (gName 5) (gCons (gName 6) gNil))) (tt := (tNot (tB (tCall spIH [] E0 (tCons (tVar 6) tNil))))) (te := (tVar 5)) rfl scRF.nd (pi_enum (by rfl) B.enumerate (pa_cons (pv 1) pa_nil)) (blkOk_by (N := ["kind", "entries", "named", "values", "places", "at", "entry", "kept"]) (sc := defScope sRF) (by decide +kernel)) (fun _ _ _ _ _ => (pg_tup rfl (pgs_cons (pg_name (i := 5) scRF.nd rfl (.inl rfl)) (pgs_cons (pg_name (i := 6) scRF.nd rfl (.inl rfl)) pgs_nil)))) (fun _ _ _ _ _ => (pts_one (pt_not (pt_val (pe_cx cIH hr (by decide) pass0 (by rfl) (pa_cons (pv 6) pa_nil)))))) (fun _ _ _ _ _ => (pv 5))))
 (pss_cons (ps_set (i := 7) scRF.nd rfl (.inr rfl) (pe_dc (own := [("at", 5)]) (g := gName 5) (tt := tYes) (tk := (tOp (rIxL K) (tVar 4) (tVar 5))) (tv := (tC (V.bl true))) rfl scRF.nd (pi_list (pe_mx (cKeep k) hr (by decide) pass0 (pv 2) (pa_cons (pv 3) pa_nil))) (blkOk_by (N := ["kind", "entries", "named", "values", "places", "at", "entry", "kept"]) (sc := defScope sRF) (by decide +kernel)) (fun _ _ _ _ _ => (pg_name (i := 5) scRF.nd rfl (.inl rfl))) (fun _ _ _ _ _ => pts_nil) (fun _ _ _ _ _ => (pe_ix ix_list (pv 4) (pv 5) (fun _ _ => rfl))) (fun _ _ _ _ _ => pe_bl)))
 (pss_one (ps_ret (pe_callTy call_tuple_of (by rfl) B.tuple (by decide +kernel) (pa_cons (pe_lc (own := [("at", 5), ("entry", 6)]) (g := gTup K 2 (gCons (gName 5) (gCons (gName 6) gNil))) (tt := (tOr (tB (tCall spIH [] E0 (tCons (tVar 6) tNil))) (tTest (tDIn (tVar 5) (tVar 7))))) (te := (tVar 6)) rfl scRF.nd (pi_enum (by rfl) B.enumerate (pa_cons (pv 1) pa_nil)) (blkOk_by (N := ["kind", "entries", "named", "values", "places", "at", "entry", "kept"]) (sc := defScope sRF) (by decide +kernel)) (fun _ _ _ _ _ => (pg_tup rfl (pgs_cons (pg_name (i := 5) scRF.nd rfl (.inl rfl)) (pgs_cons (pg_name (i := 6) scRF.nd rfl (.inl rfl)) pgs_nil)))) (fun _ _ _ _ _ => (pts_one (PW.pt (pw_or (pt_val (pe_cx cIH hr (by decide) pass0 (by rfl) (pa_cons (pv 6) pa_nil))) (pw_or1 (pt_cmp (pc_din (hu_of hr) (pv 5) (pv 7)))))))) (fun _ _ _ _ _ => (pv 6))) pa_nil)))))))))), ?_⟩
      simp only [tSeq, tAsg, gName, tOp, rI, rI0, rU, tUn, tVar, tC, tCB, tCons, tNil, tTest, tIfS, tRet, tRetN, tDrop, tNext, tBreak, tCont, rEq, rNe, CDiv, CDivN, CMul, tBM, tBM0, tTup, tLst, tAug, tIf, tAnd, tOr, tNot, tAndV, tOrV, tNotV, tIsN, tNotN, tB, scal, tCall, cxK, cxKn, rIxT, rIxL, rIn, rAppend, rReverse, tVals, tDSetd, tDGet, tDGet1, tDGet2, tDIn, tDNotIn, rSortV, rSortT, rPop, rSortL, rSortT, tSl, tNoPart, tPart, List.append_nil, L2.start, List.map_cons, List.map_nil, List.length_cons, List.length_nil, List.replicate_succ, List.replicate_zero, List.cons_append, List.nil_append, Nat.reduceAdd, Nat.reduceSub, exists_eq, exists_eq', List.getElem?_cons_zero, List.getElem?_cons_succ, List.set_cons_zero, List.set_cons_succ, Option.some.injEq, V.int.injEq, V.bl.injEq, V.str.injEq, V.ref.injEq, List.cons.injEq, and_true, true_and, and_false, false_and, reduceCtorEq, exists_false, or_false, false_or, exists_and_left, exists_and_right, exists_eq_left, exists_eq_left', exists_eq_right, exists_eq_right', exists_const, ite_true, ite_false, Bool.false_eq_true, if_true, if_false, decide_true, decide_false]
      exact ⟨_, rfl, .inr ⟨bv, rs⟩⟩
    obtain ⟨k, rfl, ht, q⟩ := h
    rcases hp with hp | hp
    case' inl => refine ⟨_, (pss_cons (ps_set (i := 2) scRF.nd rfl (.inl rfl) (pe_cx cKN hr (by decide) (passes_call (takes_of rfl rfl rfl rfl) (fun _ _ _ _ h => h)) (by rfl) (pa_cons (pv 0) pa_nil)))
 (pss_cons (ps_set (i := 3) scRF.nd rfl (.inl rfl) (pe_cx cRV hr (by decide) pass0 (by rfl) (pa_cons (pv 1) pa_nil)))
 (pss_cons (ps_if (pt_val (pe_con (pv 2) rfl))
 (pss_one (ps_ret (pe_mx (cPlain k) hr (by decide) pass0 (pv 2) (pa_cons (pv 3) pa_nil)))) pss_nil)
 (pss_cons (ps_if (pt_val (pe_con (pv 2) rfl))
 (pss_one (ps_ret (pe_op op_catA (pe_mx (cPlain k) hr (by decide) pass0 (pv 2) (pa_cons (pv 3) pa_nil)) (pe_callTy call_tuple_of (by rfl) B.tuple (by decide +kernel) (pa_cons (pe_callB cr_sortedPO (by rfl) B.sorted (by decide +kernel) (pa_cons (pe_cx cRH hr (by decide) pass0 (by rfl) (pa_cons (pv 1) pa_nil)) pa_nil)) pa_nil))))) pss_nil)
 (pss_cons (ps_set (i := 4) scRF.nd rfl (.inr rfl) (pe_lc (own := [("at", 5), ("entry", 6)]) (g := gTup K 2 (gCons (gName 5) (gCons (gName 6) gNil))) (tt := (tNot (tB (tCall spIH [] E0 (tCons (tVar 6) tNil))))) (te := (tVar 5)) rfl scRF.nd (pi_enum (by rfl) B.enumerate (pa_cons (pv 1) pa_nil)) (blkOk_by (N := ["kind", "entries", "named", "values", "places", "at", "entry", "kept"]) (sc := defScope sRF) (by decide +kernel)) (fun _ _ _ _ _ => (pg_tup rfl (pgs_cons (pg_name (i := 5) scRF.nd rfl (.inl rfl)) (pgs_cons (pg_name (i := 6) scRF.nd rfl (.inl rfl)) pgs_nil)))) (fun _ _ _ _ _ => (pts_one (pt_not (pt_val (pe_cx cIH hr (by decide) pass0 (by rfl) (pa_cons (pv 6) pa_nil)))))) (fun _ _ _ _ _ => (pv 5))))
 (pss_cons (ps_set (i := 7) scRF.nd rfl (.inr rfl) (pe_dc (own := [("at", 5)]) (g := gName 5) (tt := tYes) (tk := (tOp (rIxL K) (tVar 4) (tVar 5))) (tv := (tC (V.bl true))) rfl scRF.nd (pi_list (pe_mx (cKeep k) hr (by decide) pass0 (pv 2) (pa_cons (pv 3) pa_nil))) (blkOk_by (N := ["kind", "entries", "named", "values", "places", "at", "entry", "kept"]) (sc := defScope sRF) (by decide +kernel)) (fun _ _ _ _ _ => (pg_name (i := 5) scRF.nd rfl (.inl rfl))) (fun _ _ _ _ _ => pts_nil) (fun _ _ _ _ _ => (pe_ix ix_list (pv 4) (pv 5) (fun _ _ => rfl))) (fun _ _ _ _ _ => pe_bl)))
 (pss_one (ps_ret (pe_callTy call_tuple_of (by rfl) B.tuple (by decide +kernel) (pa_cons (pe_lc (own := [("at", 5), ("entry", 6)]) (g := gTup K 2 (gCons (gName 5) (gCons (gName 6) gNil))) (tt := (tOr (tB (tCall spIH [] E0 (tCons (tVar 6) tNil))) (tTest (tDIn (tVar 5) (tVar 7))))) (te := (tVar 6)) rfl scRF.nd (pi_enum (by rfl) B.enumerate (pa_cons (pv 1) pa_nil)) (blkOk_by (N := ["kind", "entries", "named", "values", "places", "at", "entry", "kept"]) (sc := defScope sRF) (by decide +kernel)) (fun _ _ _ _ _ => (pg_tup rfl (pgs_cons (pg_name (i := 5) scRF.nd rfl (.inl rfl)) (pgs_cons (pg_name (i := 6) scRF.nd rfl (.inl rfl)) pgs_nil)))) (fun _ _ _ _ _ => (pts_one (PW.pt (pw_or (pt_val (pe_cx cIH hr (by decide) pass0 (by rfl) (pa_cons (pv 6) pa_nil))) (pw_or1 (pt_cmp (pc_din (hu_of hr) (pv 5) (pv 7)))))))) (fun _ _ _ _ _ => (pv 6))) pa_nil)))))))))), ?_⟩
    case' inr => refine ⟨_, (pss_cons (ps_set (i := 2) scRF.nd rfl (.inl rfl) (pe_cx cKN hr (by decide) (passes_call (takes_of rfl rfl rfl rfl) (fun _ _ _ _ h => h)) (by rfl) (pa_cons (pv 0) pa_nil)))
 (pss_cons (ps_set (i := 3) scRF.nd rfl (.inl rfl) (pe_cx cRV hr (by decide) pass0 (by rfl) (pa_cons (pv 1) pa_nil)))
 (pss_cons (ps_if (pt_val (pe_con (pv 2) rfl))
 (pss_one (ps_ret (pe_mx (cPlain k) hr (by decide) pass0 (pv 2) (pa_cons (pv 3) pa_nil)))) pss_nil)
 (pss_cons (ps_if (pt_val (pe_con (pv 2) rfl))
 (pss_one (ps_ret (pe_op op_catA (pe_mx (cPlain k) hr (by decide) pass0 (pv 2) (pa_cons (pv 3) pa_nil)) (pe_callTy call_tuple_of (by rfl) B.tuple (by decide +kernel) (pa_cons (pe_callB cr_sortedPO (by rfl) B.sorted (by decide +kernel) (pa_cons (pe_cx cRH hr (by decide) pass0 (by rfl) (pa_cons (pv 1) pa_nil)) pa_nil)) pa_nil))))) pss_nil)
 (pss_cons (ps_set (i := 4) scRF.nd rfl (.inr rfl) (pe_lc (own := [("at", 5), ("entry", 6)]) (g := gTup K 2 (gCons (gName 5) (gCons (gName 6) gNil))) (tt := (tNot (tB (tCall spIH [] E0 (tCons (tVar 6) tNil))))) (te := (tVar 5)) rfl scRF.nd (pi_enumT (by rfl) B.enumerate (pa_cons (pv 1) pa_nil)) (blkOk_by (N := ["kind", "entries", "named", "values", "places", "at", "entry", "kept"]) (sc := defScope sRF) (by decide +kernel)) (fun _ _ _ _ _ => (pg_tup rfl (pgs_cons (pg_name (i := 5) scRF.nd rfl (.inl rfl)) (pgs_cons (pg_name (i := 6) scRF.nd rfl (.inl rfl)) pgs_nil)))) (fun _ _ _ _ _ => (pts_one (pt_not (pt_val (pe_cx cIH hr (by decide) pass0 (by rfl) (pa_cons (pv 6) pa_nil)))))) (fun _ _ _ _ _ => (pv 5))))
 (pss_cons (ps_set (i := 7) scRF.nd rfl (.inr rfl) (pe_dc (own := [("at", 5)]) (g := gName 5) (tt := tYes) (tk := (tOp (rIxL K) (tVar 4) (tVar 5))) (tv := (tC (V.bl true))) rfl scRF.nd (pi_list (pe_mx (cKeep k) hr (by decide) pass0 (pv 2) (pa_cons (pv 3) pa_nil))) (blkOk_by (N := ["kind", "entries", "named", "values", "places", "at", "entry", "kept"]) (sc := defScope sRF) (by decide +kernel)) (fun _ _ _ _ _ => (pg_name (i := 5) scRF.nd rfl (.inl rfl))) (fun _ _ _ _ _ => pts_nil) (fun _ _ _ _ _ => (pe_ix ix_list (pv 4) (pv 5) (fun _ _ => rfl))) (fun _ _ _ _ _ => pe_bl)))
 (pss_one (ps_ret (pe_callTy call_tuple_of (by rfl) B.tuple (by decide +kernel) (pa_cons (pe_lc (own := [("at", 5), ("entry", 6)]) (g := gTup K 2 (gCons (gName 5) (gCons (gName 6) gNil))) (tt := (tOr (tB (tCall spIH [] E0 (tCons (tVar 6) tNil))) (tTest (tDIn (tVar 5) (tVar 7))))) (te := (tVar 6)) rfl scRF.nd (pi_enumT (by rfl) B.enumerate (pa_cons (pv 1) pa_nil)) (blkOk_by (N := ["kind", "entries", "named", "values", "places", "at", "entry", "kept"]) (sc := defScope sRF) (by decide +kernel)) (fun _ _ _ _ _ => (pg_tup rfl (pgs_cons (pg_name (i := 5) scRF.nd rfl (.inl rfl)) (pgs_cons (pg_name (i := 6) scRF.nd rfl (.inl rfl)) pgs_nil)))) (fun _ _ _ _ _ => (pts_one (PW.pt (pw_or (pt_val (pe_cx cIH hr (by decide) pass0 (by rfl) (pa_cons (pv 6) pa_nil))) (pw_or1 (pt_cmp (pc_din (hu_of hr) (pv 5) (pv 7)))))))) (fun _ _ _ _ _ => (pv 6))) pa_nil)))))))))), ?_⟩
    all_goals
      simp only [tSeq, tAsg, gName, tOp, rI, rI0, rU, tUn, tVar, tC, tCB, tCons, tNil, tTest, tIfS, tRet, tRetN, tDrop, tNext, tBreak, tCont, rEq, rNe, CDiv, CDivN, CMul, tBM, tBM0, tTup, tLst, tAug, tIf, tAnd, tOr, tNot, tAndV, tOrV, tNotV, tIsN, tNotN, tB, scal, tCall, cxK, cxKn, rIxT, rIxL, rIn, rAppend, rReverse, tVals, tDSetd, tDGet, tDGet1, tDGet2, tDIn, tDNotIn, rSortV, rSortT, rPop, rSortL, rSortT, tSl, tNoPart, tPart, List.append_nil, L2.start, List.map_cons, List.map_nil, List.length_cons, List.length_nil, List.replicate_succ, List.replicate_zero, List.cons_append, List.nil_append, Nat.reduceAdd, Nat.reduceSub, exists_eq, exists_eq', List.getElem?_cons_zero, List.getElem?_cons_succ, List.set_cons_zero, List.set_cons_succ, Option.some.injEq, V.int.injEq, V.bl.injEq, V.str.injEq, V.ref.injEq, List.cons.injEq, and_true, true_and, and_false, false_and, reduceCtorEq, exists_false, or_false, false_or, exists_and_left, exists_and_right, exists_eq_left, exists_eq_left', exists_eq_right, exists_eq_right', exists_const, ite_true, ite_false, Bool.false_eq_true, if_true, if_false, decide_true, decide_false]
      refine ⟨_, rfl, .inl ⟨k, rfl, fun H1 o s1 ho => ?_⟩⟩
      simp only [tSeq, tAsg, gName, tOp, rI, rI0, rU, tUn, tVar, tC, tCB, tCons, tNil, tTest, tIfS, tRet, tRetN, tDrop, tNext, tBreak, tCont, rEq, rNe, CDiv, CDivN, CMul, tBM, tBM0, tTup, tLst, tAug, tIf, tAnd, tOr, tNot, tAndV, tOrV, tNotV, tIsN, tNotN, tB, scal, tCall, cxK, cxKn, rIxT, rIxL, rIn, rAppend, rReverse, tVals, tDSetd, tDGet, tDGet1, tDGet2, tDIn, tDNotIn, rSortV, rSortT, rPop, rSortL, rSortT, tSl, tNoPart, tPart, List.append_nil, L2.start, List.map_cons, List.map_nil, List.length_cons, List.length_nil, List.replicate_succ, List.replicate_zero, List.cons_append, List.nil_append, Nat.reduceAdd, Nat.reduceSub, exists_eq, exists_eq', List.getElem?_cons_zero, List.getElem?_cons_succ, List.set_cons_zero, List.set_cons_succ, Option.some.injEq, V.int.injEq, V.bl.injEq, V.str.injEq, V.ref.injEq, List.cons.injEq, and_true, true_and, and_false, false_and, reduceCtorEq, exists_false, or_false, false_or, exists_and_left, exists_and_right, exists_eq_left, exists_eq_left', exists_eq_right, exists_eq_right', exists_const, ite_true, ite_false, Bool.false_eq_true, if_true, if_false, decide_true, decide_false]
      have vl := vals_len (ens R)
      have hol := hols_len (ens R)
      rw [ens_len] at vl hol
      have sq : SqE K H p R := by
        first
        | exact ⟨.inl hp, al⟩
        | exact ⟨.inr hp, al⟩
      refine ⟨p, R, rfl, sq.same s1, by omega, fun H2 lv s2 h2 => ?_⟩
      have s12 := s1.trans s2
      have ho2 := ho.ext (LamX.ExtN.of s2)
      obtain ⟨dx, hd2⟩ := id ho2
      have t2 := ht.ext s12
      refine con_of rfl hd2 (C.cl k) (C.ou k) ⟨_, rfl, ite2 (fun e => ?_) (fun e1 => ?_)⟩
      · refine ⟨.ref o, rfl, o, dx, [], rfl, hd2, rfl, .ref lv, rfl, o, lv, vals (ens R), rfl, ho2, .inr (ll h2), by omega, t2, fun H3 t g3 h3 => ?_⟩
        refine q H3 t (vR (plainI k (vals (ens R)))) ((Gw.of ht s12).trans g3) (by rw [vls_vR]; exact h3) (all_vR _ _) ?_
        rw [ens_vR]
        revert e
        cases k <;> intro e <;> first | rfl | exact absurd e (by decide)
      · refine con_of rfl hd2 (C.cl k) (C.od k) ⟨_, rfl, ite2 (fun e => ?_) (fun e2 => ?_)⟩
        · refine ⟨.ref o, rfl, o, dx, [], rfl, hd2, rfl, .ref lv, rfl, o, lv, vals (ens R), rfl, ho2, .inr (ll h2), by omega, t2, fun H3 t g3 h3 => ?_⟩
          have g03 := (Gw.of ht s12).trans g3
          refine ⟨p, R, rfl, sq.ext g03.1, by omega, fun H4 lh s4 h4 => ?_⟩
          have g04 := g03.trans (Gw.of g03.2 s4)
          have al4 := al.ext g04.1
          refine ⟨lh, vls (hls R), hk H4, rfl, ll h4, hk_ref al4, fun ys p2 hs hb hp2 => ?_⟩
          obtain ⟨S, rfl, alS, eS, lS⟩ := hk_sorted al4 hs hb
          have s5 := same_upd (o := .lst (vls S)) hp2
          refine ⟨p2, rfl, _, .inl ⟨ll upd_same, fun t5 h5 => ?_⟩⟩
          have s6 := same_upd (o := .tup (vls S)) h5
          have s56 := s5.trans s6
          have pl := plain_len k (vals (ens R))
          refine cat_tups (s56 _ _ (s4 _ _ h3)) (upd_same (a := t5)) (by unfold vls; rw [List.length_map, List.length_map]; omega) fun z H7 s7 h7 => ?_
          have s47 := s56.trans s7
          refine q H7 z (vR (plainI k (vals (ens R))) ++ S) (g04.trans (Gw.of g04.2 s47)) (by rw [vls_app, vls_vR]; exact h7) ((all_vR _ _).app (alS.same s47)) ?_
          rw [ens_app, ens_vR, eS]
          revert e
          cases k <;> intro e <;> first | rfl | exact absurd e (by decide)
        · have hk : k = .list ∨ k = .heads ∨ k = .tails := by
            revert e1 e2
            cases k <;> intro e1 e2 <;> first | exact .inl rfl | exact .inr (.inl rfl) | exact .inr (.inr rfl) | exact absurd rfl e1 | exact absurd rfl e2
          have sq2 := sq.same s12
          have nl : (vls R).length = (ens R).length := by
            unfold vls ens
            rw [List.length_map, List.length_map]
          first
          | refine ⟨.ref p, rfl, p, _, rfl, Same.tup s12 hp, fun D hD => lc_it walk_enumT (fun i H' => Same H2 H' ∧ H' D = some (.lst (ixV (plcN (ens R) i)))) ⟨same_upd hD, upd_same⟩ (fun i H' _ h => Same.tup (s12.trans h.1) hp) ?_ ?_⟩
          | refine ⟨.ref p, rfl, p, _, rfl, sql_same hp s12, fun D hD => lc_it walk_enum (fun i H' => Same H2 H' ∧ H' D = some (.lst (ixV (plcN (ens R) i)))) ⟨same_upd hD, upd_same⟩ (fun i H' _ h => sql_same hp (s12.trans h.1)) ?_ ?_⟩
          · rintro i x H3 H4 hi ⟨s3, hdd⟩ ⟨t, x1, x2, rfl, nT, rfl, e1', e2'⟩
            obtain rfl : V.int (i : Nat) = x1 := Option.some.inj e1'
            obtain ⟨en, he, rfl⟩ := vls_at e2'
            have ee : (ens R)[i]? = some en.2 := by
              unfold ens
              rw [List.getElem?_map, he]
              rfl
            have hil := (List.getElem?_eq_some_iff.mp he).1
            have smT : Same H3 (upd H3 t (.tup [.int (i : Nat), en.1])) := same_upd nT
            refine ⟨t, [.int (i : Nat), en.1], rfl, .inl (.inl upd_same), rfl, .int (i : Nat), [.int (i : Nat), en.1].tail, rfl, en.1, [], rfl, rfl, ?_⟩
            have s4 := s3.trans smT
            have hd4 := smT _ _ hdd
            generalize upd H3 t (.tup [.int (i : Nat), en.1]) = H4 at s4 hd4 ⊢
            have hev := (al en (List.mem_of_getElem? he)).same (s12.trans s4)
            have pln := plcN_len (ens R) i (by rw [ens_len]; omega)
            have vli := vals_len ((ens R).take i)
            rw [List.length_take] at vli
            refine ⟨rfl, ?_⟩
            simp only [tSeq, tAsg, gName, tOp, rI, rI0, rU, tUn, tVar, tC, tCB, tCons, tNil, tTest, tIfS, tRet, tRetN, tDrop, tNext, tBreak, tCont, rEq, rNe, CDiv, CDivN, CMul, tBM, tBM0, tTup, tLst, tAug, tIf, tAnd, tOr, tNot, tAndV, tOrV, tNotV, tIsN, tNotN, tB, scal, tCall, cxK, cxKn, rIxT, rIxL, rIn, rAppend, rReverse, tVals, tDSetd, tDGet, tDGet1, tDGet2, tDIn, tDNotIn, rSortV, rSortT, rPop, rSortL, rSortT, tSl, tNoPart, tPart, List.append_nil, L2.start, List.map_cons, List.map_nil, List.length_cons, List.length_nil, List.replicate_succ, List.replicate_zero, List.cons_append, List.nil_append, Nat.reduceAdd, Nat.reduceSub, exists_eq, exists_eq', wipe, List.getElem?_cons_zero, List.getElem?_cons_succ, List.set_cons_zero, List.set_cons_succ, Option.some.injEq, V.int.injEq, V.bl.injEq, V.str.injEq, V.ref.injEq, List.cons.injEq, and_true, true_and, and_false, false_and, reduceCtorEq, exists_false, or_false, false_or, exists_and_left, exists_and_right, exists_eq_left, exists_eq_left', exists_eq_right, exists_eq_right', exists_const, ite_true, ite_false, Bool.false_eq_true, if_true, if_false, decide_true, decide_false]
            refine ⟨en.1, en.2, rfl, hev, _, rfl, ?_⟩
            rw [plcN_succ]
            obtain ⟨xv, e0⟩ := en
            simp only at ee hev
            have hv : isV (ens R) i = !e0.isH := by
              unfold isV
              rw [ee]
              cases e0 <;> rfl
            rw [hv]
            refine ite2 (fun eh => ?_) (fun eh => ?_)
            · rw [if_pos eh]
              refine ⟨_, hd4, by unfold ixV; rw [List.length_map]; exact small1000 (by omega), fun b o e => ?_, ?_⟩
              · rw [upd_ne (ne_of_none e hD)]
                exact s4 _ _ e
              · rw [upd_same]
                unfold ixV
                rw [List.map_append]
                rfl
            · rw [if_neg eh, List.append_nil]
              exact ⟨s4, hd4⟩
          · rintro H3 ⟨s3, hd3⟩
            rw [nl] at hd3
            have s13 := s12.trans s3
            have ho3 := ho2.ext (LamX.ExtN.of s3)
            obtain ⟨dx3, hdx3⟩ := id ho3
            have pln := plcN_len (ens R) (ens R).length (Nat.le_refl _)
            rw [List.take_length] at pln
            refine ⟨.ref o, rfl, o, dx3, [], rfl, hdx3, rfl, .ref lv, rfl, .ref o, lv, vals (ens R), rfl, .inr (ll (s3 _ _ h2)), by omega, t2.ext s3, fun H5 l5 g5 n5 h5 => ?_⟩
            have g05 := (Gw.of ht s13).trans g5
            have hd5 := g5.1 _ _ hd3 (fun ps z => by cases z)
            have kl := keep_len (k := k) (xs := vals (ens R))
            have pl := plain_len k (vals (ens R))
            refine ⟨l5, rfl, ⟨_, ll h5⟩, fun D2 hD2 => ?_⟩
            first
            | refine dc_it (Q := fun x H1 => tLc (iEnumT K (tCons (tVar 1) tNil)) (gTup K 2 (gCons (gName 5) (gCons (gName 6) gNil))) (tOr (tB (tCall spIH [] E0 (tCons (tVar 6) tNil))) (tTest (tDIn (tVar 5) (tVar 7)))) (tVar 6) [5, 6] [some (V.str k.nm), some (V.ref p), some (V.ref o), some (V.ref lv), some (V.ref D), none, none, some x] H1 fun x H1 => ∃ p, x = V.ref p ∧ ∃ x, (SqL K H1 p x ∧ ∀ (l : Addr), H1 l = none → Q (V.ref l) (upd H1 l (HO.tup x))) ∨ SqT K H1 p x ∧ Q (V.ref p) H1) (walk_list (xs := ixV (keepIx k (vals (ens R))))) (fun m H' => Same H5 H' ∧ ∃ kvs : List (Key × V), H' D2 = some (.dK kvs) ∧ kvs.length ≤ m ∧ ∀ j : Int, (valV kvs (.inl j)).isSome = true ↔ ∃ m' ∈ (keepIx k (vals (ens R))).take m, ∃ i : Nat, (plcN (ens R) (ens R).length)[m']? = some i ∧ j = (i : Int))
                  ⟨same_upd hD2, [], upd_same, Nat.le_refl _, fun j => ⟨fun z => (by simp [valV] at z), fun ⟨m', hm', _⟩ => (by simp at hm')⟩⟩ (fun m H' _ h => ll (h.1 _ _ h5)) ?_ ?_
            | refine dc_it (Q := fun x H1 => tLc (iEnum K (tCons (tVar 1) tNil)) (gTup K 2 (gCons (gName 5) (gCons (gName 6) gNil))) (tOr (tB (tCall spIH [] E0 (tCons (tVar 6) tNil))) (tTest (tDIn (tVar 5) (tVar 7)))) (tVar 6) [5, 6] [some (V.str k.nm), some (V.ref p), some (V.ref o), some (V.ref lv), some (V.ref D), none, none, some x] H1 fun x H1 => ∃ p, x = V.ref p ∧ ∃ x, (SqL K H1 p x ∧ ∀ (l : Addr), H1 l = none → Q (V.ref l) (upd H1 l (HO.tup x))) ∨ SqT K H1 p x ∧ Q (V.ref p) H1) (walk_list (xs := ixV (keepIx k (vals (ens R))))) (fun m H' => Same H5 H' ∧ ∃ kvs : List (Key × V), H' D2 = some (.dK kvs) ∧ kvs.length ≤ m ∧ ∀ j : Int, (valV kvs (.inl j)).isSome = true ↔ ∃ m' ∈ (keepIx k (vals (ens R))).take m, ∃ i : Nat, (plcN (ens R) (ens R).length)[m']? = some i ∧ j = (i : Int))
                  ⟨same_upd hD2, [], upd_same, Nat.le_refl _, fun j => ⟨fun z => (by simp [valV] at z), fun ⟨m', hm', _⟩ => (by simp at hm')⟩⟩ (fun m H' _ h => ll (h.1 _ _ h5)) ?_ ?_
            · rintro m x H6 H6' hm ⟨s6, kvs, hk6, lk, hkv⟩ ⟨rfl, hx⟩
              have hx' : (ixV (keepIx k (vals (ens R))))[m]? = some x := hx
              obtain ⟨ka, hka, rfl⟩ : ∃ ka, (keepIx k (vals (ens R)))[m]? = some ka ∧ x = .int (ka : Nat) := by
                unfold ixV at hx'
                rw [List.getElem?_map] at hx'
                cases e : (keepIx k (vals (ens R)))[m]? with
                | none =>
                  rw [e] at hx'
                  cases hx'
                | some q =>
                  rw [e] at hx'
                  exact ⟨q, rfl, (Option.some.inj hx').symm⟩
              have hml := (List.getElem?_eq_some_iff.mp hka).1
              have klt := keep_lt (List.mem_of_getElem? hka)
              have hpa : (plcN (ens R) (ens R).length)[ka]? = some ((plcN (ens R) (ens R).length)[ka]'(by omega)) := List.getElem?_eq_getElem _
              generalize (plcN (ens R) (ens R).length)[ka]'(by omega) = pa at hpa
              have atp : (ixV (plcN (ens R) (ens R).length))[ka]? = some (.int (pa : Nat)) := by
                unfold ixV
                rw [List.getElem?_map, hpa]
                rfl
              refine ⟨rfl, ?_⟩
              simp only [tSeq, tAsg, gName, tOp, rI, rI0, rU, tUn, tVar, tC, tCB, tCons, tNil, tTest, tIfS, tRet, tRetN, tDrop, tNext, tBreak, tCont, rEq, rNe, CDiv, CDivN, CMul, tBM, tBM0, tTup, tLst, tAug, tIf, tAnd, tOr, tNot, tAndV, tOrV, tNotV, tIsN, tNotN, tB, scal, tCall, cxK, cxKn, rIxT, rIxL, rIn, rAppend, rReverse, tVals, tDSetd, tDGet, tDGet1, tDGet2, tDIn, tDNotIn, rSortV, rSortT, rPop, rSortL, rSortT, tSl, tNoPart, tPart, List.append_nil, L2.start, List.map_cons, List.map_nil, List.length_cons, List.length_nil, List.replicate_succ, List.replicate_zero, List.cons_append, List.nil_append, Nat.reduceAdd, Nat.reduceSub, exists_eq, exists_eq', wipe, tYes, List.getElem?_cons_zero, List.getElem?_cons_succ, List.set_cons_zero, List.set_cons_succ, Option.some.injEq, V.int.injEq, V.bl.injEq, V.str.injEq, V.ref.injEq, List.cons.injEq, and_true, true_and, and_false, false_and, reduceCtorEq, exists_false, or_false, false_or, exists_and_left, exists_and_right, exists_eq_left, exists_eq_left', exists_eq_right, exists_eq_right', exists_const, ite_true, ite_false, Bool.false_eq_true, if_true, if_false, decide_true, decide_false]
              refine ⟨_, ll (s6 _ _ hd5), _, atI_nat atp, kvs, .inl (pa : Int), rfl, hk6, small1000 (by omega), fun b o e => ?_, _, upd_same, Nat.le_trans (length_putK _ _ _) (Nat.succ_le_succ lk), fun j => ?_⟩
              · rw [upd_ne (ne_of_none e hD2)]
                exact s6 _ _ e
              · rw [valV_put, List.take_add_one, hka]
                by_cases ej : (Sum.inl j : Key) = .inl (pa : Int)
                · rw [if_pos ej]
                  refine ⟨fun _ => ⟨ka, List.mem_append_right _ (List.mem_singleton.mpr rfl), pa, hpa, Sum.inl.inj ej⟩, fun _ => rfl⟩
                · rw [if_neg ej, hkv]
                  constructor
                  · rintro ⟨m', hm', i, h1, h2⟩
                    exact ⟨m', List.mem_append_left _ hm', i, h1, h2⟩
                  · rintro ⟨m', hm', i, h1, h2⟩
                    rcases List.mem_append.mp hm' with hm' | hm'
                    · exact ⟨m', hm', i, h1, h2⟩
                    · obtain rfl : m' = ka := List.mem_singleton.mp hm'
                      rw [hpa] at h1
                      rw [h2, ← Option.some.inj h1] at ej
                      exact absurd rfl ej
            · rintro H6 ⟨s6, kvs, hk6, lk, hkv⟩
              rw [show (ixV (keepIx k (vals (ens R)))).length = (keepIx k (vals (ens R))).length from List.length_map _, List.take_length] at hkv
              have g06 := g05.trans (Gw.of g05.2 s6)
              have sq6 := sq.ext g06.1
              have hp6 := sq6
              have al6 := sq6.2
              first
              | refine ⟨.ref p, rfl, p, _, rfl, ext_tup hp g06.1, fun D3 hD3 => lc_it walk_enumT (fun i H' => Same H6 H' ∧ ∃ S : RL, H' D3 = some (.lst (vls S)) ∧ S.length ≤ i ∧ (∀ e ∈ S, e ∈ R) ∧ ens S = part k (ens R) i) ⟨same_upd hD3, [], upd_same, Nat.le_refl _, fun _ z => (by cases z), (by cases k <;> rfl)⟩ (fun i H' _ h => Same.tup h.1 (ext_tup hp g06.1)) ?_ ?_⟩
              | refine ⟨.ref p, rfl, p, _, rfl, sql_ext hp g06.1, fun D3 hD3 => lc_it walk_enum (fun i H' => Same H6 H' ∧ ∃ S : RL, H' D3 = some (.lst (vls S)) ∧ S.length ≤ i ∧ (∀ e ∈ S, e ∈ R) ∧ ens S = part k (ens R) i) ⟨same_upd hD3, [], upd_same, Nat.le_refl _, fun _ z => (by cases z), (by cases k <;> rfl)⟩ (fun i H' _ h => sql_same (sql_ext hp g06.1) h.1) ?_ ?_⟩
              · rintro i x H7 H8 hi ⟨s7, S, hS, lS, mS, eS⟩ ⟨t, x1, x2, rfl, nT, rfl, e1', e2'⟩
                obtain rfl : V.int (i : Nat) = x1 := Option.some.inj e1'
                obtain ⟨en, he, rfl⟩ := vls_at e2'
                have ee : (ens R)[i]? = some en.2 := by
                  unfold ens
                  rw [List.getElem?_map, he]
                  rfl
                have hil := (List.getElem?_eq_some_iff.mp he).1
                have smT : Same H7 (upd H7 t (.tup [.int (i : Nat), en.1])) := same_upd nT
                refine ⟨t, [.int (i : Nat), en.1], rfl, .inl (.inl upd_same), rfl, .int (i : Nat), [.int (i : Nat), en.1].tail, rfl, en.1, [], rfl, rfl, ?_⟩
                have s8 := s7.trans smT
                have hd8 := smT _ _ hS
                generalize upd H7 t (.tup [.int (i : Nat), en.1]) = H8 at s8 hd8 ⊢
                have hev := (al6 en (List.mem_of_getElem? he)).same s8
                refine ⟨rfl, ?_⟩
                simp only [tSeq, tAsg, gName, tOp, rI, rI0, rU, tUn, tVar, tC, tCB, tCons, tNil, tTest, tIfS, tRet, tRetN, tDrop, tNext, tBreak, tCont, rEq, rNe, CDiv, CDivN, CMul, tBM, tBM0, tTup, tLst, tAug, tIf, tAnd, tOr, tNot, tAndV, tOrV, tNotV, tIsN, tNotN, tB, scal, tCall, cxK, cxKn, rIxT, rIxL, rIn, rAppend, rReverse, tVals, tDSetd, tDGet, tDGet1, tDGet2, tDIn, tDNotIn, rSortV, rSortT, rPop, rSortL, rSortT, tSl, tNoPart, tPart, List.append_nil, L2.start, List.map_cons, List.map_nil, List.length_cons, List.length_nil, List.replicate_succ, List.replicate_zero, List.cons_append, List.nil_append, Nat.reduceAdd, Nat.reduceSub, exists_eq, exists_eq', wipe, List.getElem?_cons_zero, List.getElem?_cons_succ, List.set_cons_zero, List.set_cons_succ, Option.some.injEq, V.int.injEq, V.bl.injEq, V.str.injEq, V.ref.injEq, List.cons.injEq, and_true, true_and, and_false, false_and, reduceCtorEq, exists_false, or_false, false_or, exists_and_left, exists_and_right, exists_eq_left, exists_eq_left', exists_eq_right, exists_eq_right', exists_const, ite_true, ite_false, Bool.false_eq_true, if_true, if_false, decide_true, decide_false]
                refine ⟨en.1, en.2, rfl, hev, _, rfl, ?_⟩
                have hk8 := s8 _ _ hk6
                have hiE : i < (ens R).length := by
                  rw [ens_len]
                  exact hil
                have bl : (vls S).length < sizeLine := by
                  unfold vls
                  rw [List.length_map]
                  exact small1000 (by omega)
                have sm9 : Same H6 (upd H8 D3 (.lst (vls S ++ [en.1]))) := fun b o e => by
                  rw [upd_ne (ne_of_none e hD3)]
                  exact s8 _ _ e
                have add : stays k (ens R) i = [en.2] → ∃ S' : RL, upd H8 D3 (.lst (vls S ++ [en.1])) D3 = some (.lst (vls S')) ∧ S'.length ≤ i + 1 ∧ (∀ e ∈ S', e ∈ R) ∧ ens S' = part k (ens R) (i + 1) := fun est => ⟨S ++ [en], by rw [upd_same, vls_app]; rfl, by rw [List.length_append]; exact Nat.succ_le_succ lS, fun e h => (List.mem_append.mp h).elim (mS e) (fun h => by rw [List.mem_singleton.mp h]; exact List.mem_of_getElem? he), by rw [ens_app, part_succ hiE, eS, est]; rfl⟩
                obtain ⟨xv, e0⟩ := en
                simp only at ee hev
                cases e0 with
                | h a b => exact if_T rfl ⟨_, hd8, bl, sm9, add (stay_h ee)⟩
                | v y =>
                  have key : (valV kvs (.inl (i : Int))).isSome = true ↔ (vals ((ens R).take i)).length ∈ keepIx k (vals (ens R)) := by
                    rw [hkv]
                    constructor
                    · rintro ⟨m', hm', i', h1, h2⟩
                      obtain rfl : i = i' := by omega
                      rw [← plc_inj h1 (plc_at ee).1]
                      exact hm'
                    · exact fun h => ⟨_, h, i, (plc_at ee).1, rfl⟩
                  have sv := stay_v hk ee
                  refine if_F rfl ⟨_, DGet.k (k := .inl (i : Int)) hk8, ite2 (fun hs => ?_) (fun hs => ?_)⟩
                  · rw [if_pos (key.mp hs)] at sv
                    exact ⟨_, hd8, bl, sm9, add sv⟩
                  · rw [if_neg fun z => hs (key.mpr z)] at sv
                    exact ⟨s8, S, hd8, Nat.le_succ_of_le lS, mS, by rw [part_succ hiE, sv, List.append_nil]; exact eS⟩
              · rintro H7 ⟨s7, S, hS, lS, mS, eS⟩
                rw [nl, part_all hk] at eS
                refine ⟨D3, rfl, _, .inl ⟨ll hS, fun t9 h9 => ?_⟩⟩
                have s9 := s7.trans (same_upd (o := .tup (vls S)) h9)
                refine q _ t9 S (g06.trans (Gw.of g06.2 s9)) upd_same (fun e he => (al6 e (mS e he)).same s9) eS
end
end Mv

set_option Elab.async false
set_option linter.all false
set_option maxRecDepth 100000
set_option maxHeartbeats 4000000
namespace Mv
open PySem PySem.Spec PyProof.Rows L2
abbrev sHB : Stmt := topS 23
abbrev sFH : Stmt := topS 22
abbrev sPR : Stmt := topS 21
abbrev sJR : Stmt := topS 24
def btw (a b : Int) : List En := if a < b then [.h a b] else []
def fillE (n v : Int) : En → List En
  | .v x => [.v x]
  | .h a b => if a ≤ n ∧ n < b then btw a n ++ [.v v] ++ btw (n + 1) b else [.h a b]
/-- a new list of entries -/
def ResL (Q : VK) (H : Hp) (es : List En) : Prop := ∀ (H' : Hp) (l : Addr) (S : RL), Same H H' → H' l = some (.lst (vls S)) → All H' S → ens S = es → Q (.ref l) H'
theorem btw_len (a b : Int) : (btw a b).length ≤ 1 := by
  unfold btw
  split
  · exact Nat.le_refl _
  · exact Nat.zero_le _
theorem fill_len (n v : Int) (e : En) : (fillE n v e).length ≤ 3 := by
  cases e with
  | v x => exact (by show 1 ≤ 3; omega)
  | h a b =>
    have h1 := btw_len a n
    have h2 := btw_len (n + 1) b
    show (if a ≤ n ∧ n < b then btw a n ++ [.v v] ++ btw (n + 1) b else [En.h a b]).length ≤ 3
    by_cases c : a ≤ n ∧ n < b
    · rw [if_pos c]
      simp only [List.length_append, List.length_cons, List.length_nil]
      omega
    · rw [if_neg c]
      exact (by show 1 ≤ 3; omega)
theorem cat_rl {H : Hp} {a b : Addr} {X Y : RL} {Q : VK} (ha : H a = some (.lst (vls X))) (hb : H b = some (.lst (vls Y))) (hx : All H X) (hy : All H Y) (hz : X.length + Y.length ≤ 1000)
    (q : ∀ (z : Addr) (H' : Hp), Same H H' → H' z = some (.lst (vls (X ++ Y))) → All H' (X ++ Y) → Q (.ref z) H') : rCat (.ref a) (.ref b) H Q :=
  ⟨a, b, _, _, rfl, rfl, ha, hb, by unfold vls; rw [List.length_map, List.length_map]; exact small1000' hz, fun p hp => q p _ (same_upd hp) (by rw [upd_same, vls_app]) ((hx.app hy).same (same_upd hp))⟩
section
variable {P : Program} {w : World} {K : PySem.W.Frag} {mg : Str → Option Value} {base : Heap} {T : List (Addr × Str)} {cls : Kd → Addr} {CB : Addr}
theorem scHB : FnScope ["start", "end"] ["start", "end"] (defScope sHB) := ⟨rfl, rfl, rfl, by decide +kernel, rfl, by decide +kernel, by decide +kernel⟩
def spHB : Sp := fun vs H Q _ => ∃ (a b : Int), vs = [.int a, .int b] ∧ ResL Q H (btw a b)
theorem ok_hb {f : Addr} {fd : FuncData} (F : Fun K "hole_between" "hole_between" sHB f fd) (B : Bi mg) : FnOk P w K mg base CX0 1 f fd ["start", "end"] spHB := by
  refine F.ok scHB (fun vs H Q E h => ?_) (fun cdv A outer s H vs Q E hr h => ?_)
  · obtain ⟨a, b, rfl, _⟩ := h
    rfl
  · obtain ⟨a, b, rfl, q⟩ := h
    refine ⟨_, (pss_one (ps_ret (pe_ifExp (pt_cmpR op_lt (pv 0) (pv 1) (nomark _)) (pe_lst (pa_cons (pe_tup (pa_cons (pv 0) (pa_cons (pv 1) pa_nil))) pa_nil)) (pe_lst pa_nil)))), ?_⟩
    try simp only [tSeq, tAsg, gName, tOp, rI, rI0, rU, tUn, tVar, tC, tCB, tCons, tNil, tTest, tIfS, tRet, tRetN, tDrop, tNext, tBreak, tCont, rEq, rNe, CDiv, CDivN, CMul, tBM, tBM0, tTup, tLst, tAug, tIf, tAnd, tOr, tNot, tAndV, tOrV, tNotV, tIsN, tNotN, tB, scal, tCall, cxK, cxKn, rIxT, rIxL, rIn, rAppend, rReverse, tVals, tDSetd, tDGet, tDGet1, tDGet2, tDIn, tDNotIn, rSortV, rSortT, rPop, rSortL, rSortT, tSl, tNoPart, tPart, List.append_nil, L2.start, List.map_cons, List.map_nil, List.length_cons, List.length_nil, List.replicate_succ, List.replicate_zero, List.cons_append, List.nil_append, Nat.reduceAdd, Nat.reduceSub, exists_eq, exists_eq', List.getElem?_cons_zero, List.getElem?_cons_succ, List.set_cons_zero, List.set_cons_succ, Option.some.injEq, V.int.injEq, V.bl.injEq, V.str.injEq, V.ref.injEq, List.cons.injEq, and_true, true_and, and_false, false_and, reduceCtorEq, exists_false, or_false, false_or, exists_and_left, exists_and_right, exists_eq_left, exists_eq_left', exists_eq_right, exists_eq_right', exists_const, ite_true, ite_false, Bool.false_eq_true, if_true, if_false, decide_true, decide_false]
    refine ite2 (fun e => ?_) (fun e => ?_)
    · refine ⟨by decide, fun t ht => ⟨by decide, fun l hl => ?_⟩⟩
      have s1 := same_upd (o := .tup [.int a, .int b]) ht
      refine q _ l [(.ref t, .h a b)] (s1.trans (same_upd hl)) upd_same (fun p hp => ?_) (by unfold btw; rw [if_pos (of_decide_eq_true e)]; rfl)
      rw [List.mem_singleton.mp hp]
      exact .h (same_upd hl _ _ upd_same)
    · exact ⟨by decide, fun l hl => q _ l [] (same_upd hl) upd_same (fun p hp => by cases hp) (by unfold btw; rw [if_neg fun z => e (decide_eq_true z)]; rfl)⟩
theorem scFH : FnScope ["hole", "number", "value", "start", "end", "before", "behind"] ["hole", "number", "value"] (defScope sFH) := ⟨rfl, rfl, rfl, by decide +kernel, rfl, by decide +kernel, by decide +kernel⟩
def spFH (K : PySem.W.Frag) : Sp := fun vs H Q _ => ∃ (t : Addr) (a b n v : Int), vs = [.ref t, .int n, .int v] ∧ H t = some (.tup [.int a, .int b]) ∧ ResL Q H (btw a n ++ [.v v] ++ btw (n + 1) b)
theorem ok_fh {f : Addr} {fd : FuncData} (F : Fun K "filled_hole" "filled_hole" sFH f fd) (B : Bi mg) (cHB : CalX CX0 P w K mg base 1 "hole_between" spHB) : FnOk P w K mg base CX0 2 f fd ["hole", "number", "value"] (spFH K) := by
  refine F.ok scFH (fun vs H Q E h => ?_) (fun cdv A outer s H vs Q E hr h => ?_)
  · obtain ⟨t, a, b, n, v, rfl, _⟩ := h
    rfl
  · obtain ⟨t, a, b, n, v, rfl, ht, q⟩ := h
    refine ⟨_, (pss_cons (ps_asg (pv 0) (pg_tup rfl (pgs_cons (pg_name (i := 3) scFH.nd rfl (.inl rfl)) (pgs_cons (pg_name (i := 4) scFH.nd rfl (.inl rfl)) pgs_nil))))
 (pss_cons (ps_set (i := 5) scFH.nd rfl (.inl rfl) (pe_cx cHB hr (by decide) pass0 (by rfl) (pa_cons (pv 3) (pa_cons (pv 1) pa_nil))))
 (pss_cons (ps_set (i := 6) scFH.nd rfl (.inl rfl) (pe_cx cHB hr (by decide) pass0 (by rfl) (pa_cons (pe_op op_add (pv 1) pe_int) (pa_cons (pv 4) pa_nil))))
 (pss_one (ps_ret (pe_op op_cat (pe_op op_cat (pv 5) (pe_lst (pa_cons (pv 2) pa_nil))) (pv 6))))))), ?_⟩
    simp only [tSeq, tAsg, gName, tOp, rI, rI0, rU, tUn, tVar, tC, tCB, tCons, tNil, tTest, tIfS, tRet, tRetN, tDrop, tNext, tBreak, tCont, rEq, rNe, CDiv, CDivN, CMul, tBM, tBM0, tTup, tLst, tAug, tIf, tAnd, tOr, tNot, tAndV, tOrV, tNotV, tIsN, tNotN, tB, scal, tCall, cxK, cxKn, rIxT, rIxL, rIn, rAppend, rReverse, tVals, tDSetd, tDGet, tDGet1, tDGet2, tDIn, tDNotIn, rSortV, rSortT, rPop, rSortL, rSortT, tSl, tNoPart, tPart, List.append_nil, L2.start, List.map_cons, List.map_nil, List.length_cons, List.length_nil, List.replicate_succ, List.replicate_zero, List.cons_append, List.nil_append, Nat.reduceAdd, Nat.reduceSub, exists_eq, exists_eq', List.getElem?_cons_zero, List.getElem?_cons_succ, List.set_cons_zero, List.set_cons_succ, Option.some.injEq, V.int.injEq, V.bl.injEq, V.str.injEq, V.ref.injEq, List.cons.injEq, and_true, true_and, and_false, false_and, reduceCtorEq, exists_false, or_false, false_or, exists_and_left, exists_and_right, exists_eq_left, exists_eq_left', exists_eq_right, exists_eq_right', exists_const, ite_true, ite_false, Bool.false_eq_true, if_true, if_false, decide_true, decide_false]
    refine ⟨t, [.int a, .int b], rfl, .inl (.inl ht), rfl, .int a, [.int b], rfl, .int b, [], rfl, rfl, ?_⟩
    simp only [tSeq, tAsg, gName, tOp, rI, rI0, rU, tUn, tVar, tC, tCB, tCons, tNil, tTest, tIfS, tRet, tRetN, tDrop, tNext, tBreak, tCont, rEq, rNe, CDiv, CDivN, CMul, tBM, tBM0, tTup, tLst, tAug, tIf, tAnd, tOr, tNot, tAndV, tOrV, tNotV, tIsN, tNotN, tB, scal, tCall, cxK, cxKn, rIxT, rIxL, rIn, rAppend, rReverse, tVals, tDSetd, tDGet, tDGet1, tDGet2, tDIn, tDNotIn, rSortV, rSortT, rPop, rSortL, rSortT, tSl, tNoPart, tPart, List.append_nil, L2.start, List.map_cons, List.map_nil, List.length_cons, List.length_nil, List.replicate_succ, List.replicate_zero, List.cons_append, List.nil_append, Nat.reduceAdd, Nat.reduceSub, exists_eq, exists_eq', List.getElem?_cons_zero, List.getElem?_cons_succ, List.set_cons_zero, List.set_cons_succ, Option.some.injEq, V.int.injEq, V.bl.injEq, V.str.injEq, V.ref.injEq, List.cons.injEq, and_true, true_and, and_false, false_and, reduceCtorEq, exists_false, or_false, false_or, exists_and_left, exists_and_right, exists_eq_left, exists_eq_left', exists_eq_right, exists_eq_right', exists_const, ite_true, ite_false, Bool.false_eq_true, if_true, if_false, decide_true, decide_false]
    refine ⟨_, _, rfl, fun H1 l1 S1 s1 h1 a1 e1 => ?_⟩
    refine ⟨_, _, rfl, fun H2 l2 S2 s2 h2 a2 e2 => ⟨by decide, fun l3 h3 => ?_⟩⟩
    have n1 := btw_len a n
    have n2 := btw_len (n + 1) b
    rw [← e1, ens_len] at n1
    rw [← e2, ens_len] at n2
    have s3 := same_upd (o := .lst [.int v]) h3
    refine cat_rl (X := S1) (Y := [(.int v, .v v)]) (s3 _ _ (s2 _ _ h1)) upd_same (a1.same (s2.trans s3)) (fun p hp => by rw [List.mem_singleton.mp hp]; exact .v v) (by rw [List.length_singleton]; omega) fun z H4 s4 h4 a4 => ?_
    refine cat_rl h4 (s4 _ _ (s3 _ _ h2)) a4 (a2.same (s3.trans s4)) (by rw [List.length_append, List.length_singleton]; omega) fun z2 H5 s5 h5 a5 => ?_
    exact q H5 z2 _ (((s1.trans s2).trans s3).trans (s4.trans s5)) h5 a5 (by rw [ens_app, ens_app, e1, e2]; rfl)
theorem scPR : FnScope ["kind", "row", "number", "value", "entries", "entry"] ["kind", "row", "number", "value"] (defScope sPR) := ⟨rfl, rfl, rfl, by decide +kernel, rfl, by decide +kernel, by decide +kernel⟩
def spPR (K : PySem.W.Frag) (T : List (Addr × Str)) (CB : Addr) : Sp := fun vs H Q E => ∃ (kv : V) (p : Addr) (R : RL) (n v : Int), vs = [kv, .ref p, .int n, .int v] ∧ SqT K H p (vls R) ∧ All H R ∧ R.length ≤ 20 ∧ ((∃ k : Kd, kv = .str k.nm ∧ LamX.Tabs T H ∧ ResR Q T H k ((ens R).flatMap (fillE n v))) ∨ (BadV H kv ∧ Rs CB H kv E))
theorem ok_pr {f : Addr} {fd : FuncData} (F : Fun K "put_in_row" "put_in_row" sPR f fd) (B : Bi mg) (cIH : CalX CX0 P w K mg base 1 "is_hole" spIH) (cFH : CalX CX0 P w K mg base 2 "filled_hole" (spFH K)) (cRF : CalX (L2.CX P w) P w K mg base 4 "row_from" (spRF K T CB)) : FnOk P w K mg base (L2.CX P w) 5 f fd ["kind", "row", "number", "value"] (spPR K T CB) := by
  refine F.okX scPR (fun vs H Q E h => ?_) (fun cdv A outer s H vs Q E hr h => ?_)
  · obtain ⟨kv, p, R, n, v, rfl, _⟩ := h
    rfl
  · obtain ⟨kv, p, R, n, v, rfl, hp, al, hl, h⟩ := h
    refine ⟨_, (pss_cons (ps_set (i := 4) scPR.nd rfl (.inl rfl) (pe_lst pa_nil))
 (pss_cons (ps_for (passes_of rfl) rfl (pi_tup (pv 1)) (pg_name (i := 5) scPR.nd rfl (.inl rfl))
 (pss_one (ps_if (PW.pt (pw_and (pt_val (pe_cx cIH hr (by decide) pass0 (by rfl) (pa_cons (pv 5) pa_nil))) (pw_and1 (pt_chain op_le op_lt (pe_ix ix_tup (pv 5) pe_int (fun _ _ => rfl)) (pv 2) (pe_ix ix_tup (pv 5) pe_int (fun _ _ => rfl))))))
 (pss_one (ps_expr (pe_bm PySem.F.plainAttrs_list PySem.F.slot_list_extend PySem.F.type_list_extend mt_extend (pv 4) (pa_cons (pe_cx cFH hr (by decide) pass0 (by rfl) (pa_cons (pv 5) (pa_cons (pv 2) (pa_cons (pv 3) pa_nil)))) pa_nil)))) (pss_one (ps_expr (pe_bm PySem.F.plainAttrs_list PySem.F.slot_list_append PySem.F.type_list_append mt_append (pv 4) (pa_cons (pv 5) pa_nil)))))))
 (pss_one (ps_ret (pe_cx cRF hr (by decide) (passes_call (takes_of rfl rfl rfl rfl) (fun _ _ _ _ h => h)) (by rfl) (pa_cons (pv 0) (pa_cons (pv 4) pa_nil))))))), ?_⟩
    simp only [tSeq, tAsg, gName, tOp, rI, rI0, rU, tUn, tVar, tC, tCB, tCons, tNil, tTest, tIfS, tRet, tRetN, tDrop, tNext, tBreak, tCont, rEq, rNe, CDiv, CDivN, CMul, tBM, tBM0, tTup, tLst, tAug, tIf, tAnd, tOr, tNot, tAndV, tOrV, tNotV, tIsN, tNotN, tB, scal, tCall, cxK, cxKn, rIxT, rIxL, rIn, rAppend, rReverse, tVals, tDSetd, tDGet, tDGet1, tDGet2, tDIn, tDNotIn, rSortV, rSortT, rPop, rSortL, rSortT, tSl, tNoPart, tPart, List.append_nil, L2.start, List.map_cons, List.map_nil, List.length_cons, List.length_nil, List.replicate_succ, List.replicate_zero, List.cons_append, List.nil_append, Nat.reduceAdd, Nat.reduceSub, exists_eq, exists_eq', List.getElem?_cons_zero, List.getElem?_cons_succ, List.set_cons_zero, List.set_cons_succ, Option.some.injEq, V.int.injEq, V.bl.injEq, V.str.injEq, V.ref.injEq, List.cons.injEq, and_true, true_and, and_false, false_and, reduceCtorEq, exists_false, or_false, false_or, exists_and_left, exists_and_right, exists_eq_left, exists_eq_left', exists_eq_right, exists_eq_right', exists_const, ite_true, ite_false, Bool.false_eq_true, if_true, if_false, decide_true, decide_false]
    refine ⟨Nat.zero_le _, fun D hD => ⟨.ref p, rfl, p, rfl, ⟨_, Same.tup (same_upd hD) hp⟩, for_tup (K := K) (xs := vls R) (fun i σ H' => ∃ y5 : Option V, σ = [some kv, some (.ref p), some (.int n), some (.int v), some (.ref D), y5] ∧ Same H H' ∧ ∃ S : RL, H' D = some (.lst (vls S)) ∧ All H' S ∧ S.length ≤ 3 * i ∧ ens S = ((ens R).take i).flatMap (fillE n v))
      ⟨none, rfl, same_upd hD, [], upd_same, fun _ z => (by cases z), Nat.le_refl _, rfl⟩ (fun i σ H' _ ⟨_, _, s1, _⟩ => Same.tup s1 hp) ?_ ?_⟩⟩
    · rintro i x σ H1 hx ⟨y5, rfl, s1, S, hS, aS, lS, eS⟩
      obtain ⟨en, he, rfl⟩ := vls_at hx
      have ee : (ens R)[i]? = some en.2 := by
        unfold ens
        rw [List.getElem?_map, he]
        rfl
      have hil := (List.getElem?_eq_some_iff.mp he).1
      have hev := (al en (List.mem_of_getElem? he)).same s1
      have bl : (vls S).length = S.length := by
        unfold vls
        rw [List.length_map]
      simp only [tSeq, tAsg, gName, tOp, rI, rI0, rU, tUn, tVar, tC, tCB, tCons, tNil, tTest, tIfS, tRet, tRetN, tDrop, tNext, tBreak, tCont, rEq, rNe, CDiv, CDivN, CMul, tBM, tBM0, tTup, tLst, tAug, tIf, tAnd, tOr, tNot, tAndV, tOrV, tNotV, tIsN, tNotN, tB, scal, tCall, cxK, cxKn, rIxT, rIxL, rIn, rAppend, rReverse, tVals, tDSetd, tDGet, tDGet1, tDGet2, tDIn, tDNotIn, rSortV, rSortT, rPop, rSortL, rSortT, tSl, tNoPart, tPart, List.append_nil, L2.start, List.map_cons, List.map_nil, List.length_cons, List.length_nil, List.replicate_succ, List.replicate_zero, List.cons_append, List.nil_append, Nat.reduceAdd, Nat.reduceSub, exists_eq, exists_eq', tChain, List.getElem?_cons_zero, List.getElem?_cons_succ, List.set_cons_zero, List.set_cons_succ, Option.some.injEq, V.int.injEq, V.bl.injEq, V.str.injEq, V.ref.injEq, List.cons.injEq, and_true, true_and, and_false, false_and, reduceCtorEq, exists_false, or_false, false_or, exists_and_left, exists_and_right, exists_eq_left, exists_eq_left', exists_eq_right, exists_eq_right', exists_const, ite_true, ite_false, Bool.false_eq_true, if_true, if_false, decide_true, decide_false]
      refine ⟨en.1, en.2, rfl, hev, _, rfl, ?_⟩
      have add : fillE n v en.2 = [en.2] → tyV K "list" (V.ref D) H1 ∧ ∃ x, H1 D = some (HO.lst x) ∧ x.length < sizeLine ∧ Same H (upd H1 D (HO.lst (x ++ [en.1]))) ∧ ∃ S : RL, upd H1 D (HO.lst (x ++ [en.1])) D = some (HO.lst (vls S)) ∧ All (upd H1 D (HO.lst (x ++ [en.1]))) S ∧ S.length ≤ 3 * (i + 1) ∧ ens S = List.flatMap (fillE n v) (List.take (i + 1) (ens R)) := fun hf => by
        refine ⟨(.inl ⟨rfl, _, ll hS⟩), _, hS, small1000 (by omega), fun b o e => ?_, S ++ [en], by rw [upd_same, vls_app]; rfl, (aS.app (fun p hp => by rw [List.mem_singleton.mp hp]; exact hev)).wr hS Sx.upd, by rw [List.length_append, List.length_singleton]; omega, ?_⟩
        · rw [upd_ne (ne_of_none e hD)]
          exact s1 _ _ e
        · rw [List.take_add_one, ee, ens_app, eS, List.flatMap_append]
          show _ = _ ++ [en.2].flatMap (fillE n v)
          rw [List.flatMap_singleton, hf]
          rfl
      obtain ⟨xv, e0⟩ := en
      simp only at ee hev add
      cases hev with
      | v y => exact if_F rfl (add rfl)
      | @h t a b ht =>
        refine if_T rfl ⟨t, rfl, _, tt ht, _, rfl, a, rfl, ite2 (fun c1 => ⟨t, rfl, _, tt ht, _, rfl, b, rfl, ite2 (fun c2 => ?_) (fun c2 => ?_)⟩) (fun c1 => ?_)⟩
        · have hf : fillE n v (.h a b) = btw a n ++ [.v v] ++ btw (n + 1) b := if_pos ⟨of_decide_eq_true c1, of_decide_eq_true c2⟩
          refine ⟨(.inl ⟨rfl, _, ll hS⟩), t, a, b, n, v, rfl, ht, fun H2 l S2 s2 h2 a2 e2 => ?_⟩
          have hS2 := s2 _ _ hS
          have l2 := fill_len n v (.h a b)
          rw [hf, ← e2, ens_len] at l2
          have b2 : (vls S2).length = S2.length := by
            unfold vls
            rw [List.length_map]
          refine ⟨D, l, _, _, rfl, rfl, hS2, h2, by rw [bl, b2]; exact small1000' (by omega), fun b o e => ?_, S ++ S2, by rw [upd_same, vls_app], ((aS.same s2).app a2).wr hS2 Sx.upd, by rw [List.length_append]; omega, ?_⟩
          · rw [upd_ne (ne_of_none e hD)]
            exact s2 _ _ (s1 _ _ e)
          · rw [List.take_add_one, ee, ens_app, eS, List.flatMap_append]
            show _ = _ ++ [En.h a b].flatMap (fillE n v)
            rw [List.flatMap_singleton, hf, e2]
        · exact add (if_neg fun z => c2 (decide_eq_true z.2))
        · exact add (if_neg fun z => c1 (decide_eq_true z.1))
    · rintro σ H1 ⟨y5, rfl, s1, S, hS, aS, lS, eS⟩
      have nl : (vls R).length = (ens R).length := by
        unfold vls ens
        rw [List.length_map, List.length_map]
      rw [nl, List.take_length] at eS
      have el := ens_len R
      simp only [tSeq, tAsg, gName, tOp, rI, rI0, rU, tUn, tVar, tC, tCB, tCons, tNil, tTest, tIfS, tRet, tRetN, tDrop, tNext, tBreak, tCont, rEq, rNe, CDiv, CDivN, CMul, tBM, tBM0, tTup, tLst, tAug, tIf, tAnd, tOr, tNot, tAndV, tOrV, tNotV, tIsN, tNotN, tB, scal, tCall, cxK, cxKn, rIxT, rIxL, rIn, rAppend, rReverse, tVals, tDSetd, tDGet, tDGet1, tDGet2, tDIn, tDNotIn, rSortV, rSortT, rPop, rSortL, rSortT, tSl, tNoPart, tPart, List.append_nil, L2.start, List.map_cons, List.map_nil, List.length_cons, List.length_nil, List.replicate_succ, List.replicate_zero, List.cons_append, List.nil_append, Nat.reduceAdd, Nat.reduceSub, exists_eq, exists_eq', List.getElem?_cons_zero, List.getElem?_cons_succ, List.set_cons_zero, List.set_cons_succ, Option.some.injEq, V.int.injEq, V.bl.injEq, V.str.injEq, V.ref.injEq, List.cons.injEq, and_true, true_and, and_false, false_and, reduceCtorEq, exists_false, or_false, false_or, exists_and_left, exists_and_right, exists_eq_left, exists_eq_left', exists_eq_right, exists_eq_right', exists_const, ite_true, ite_false, Bool.false_eq_true, if_true, if_false, decide_true, decide_false]
      refine ⟨kv, D, S, rfl, ⟨.inl (ll hS), aS⟩, by omega, ?_⟩
      rcases h with ⟨k, rfl, ht, q⟩ | ⟨bv, rs⟩
      · refine .inl ⟨k, rfl, ht.ext s1, fun H2 t S2 g2 h2 a2 e2 => ?_⟩
        exact q H2 t S2 ((Gw.of ht s1).trans g2) h2 a2 (by rw [e2, eS])
      · exact .inr ⟨bv.ext (LamX.ExtN.of s1), rs.ext (LamX.ExtN.of s1)⟩
theorem scJR : FnScope ["kind", "left", "hole", "right", "between"] ["kind", "left", "hole", "right"] (defScope sJR) := ⟨rfl, rfl, rfl, by decide +kernel, rfl, by decide +kernel, by decide +kernel⟩
def HoV (H : Hp) : V → List En → Prop := fun v es => (v = .non ∧ es = []) ∨ ∃ t a b, v = .ref t ∧ H t = some (.tup [.int a, .int b]) ∧ es = [.h a b]
def spJR (K : PySem.W.Frag) (T : List (Addr × Str)) (CB : Addr) : Sp := fun vs H Q E => ∃ (kv : V) (p r : Addr) (L R : RL) (hv : V) (ho : List En), vs = [kv, .ref p, hv, .ref r] ∧ SqT K H p (vls L) ∧ All H L ∧ SqT K H r (vls R) ∧ All H R ∧ HoV H hv ho ∧ L.length ≤ 20 ∧ R.length ≤ 20 ∧ ((∃ k : Kd, kv = .str k.nm ∧ LamX.Tabs T H ∧ ResR Q T H k (ens L ++ ho ++ ens R)) ∨ (BadV H kv ∧ Rs CB H kv E))
theorem ok_jr {f : Addr} {fd : FuncData} (F : Fun K "joined_rows" "joined_rows" sJR f fd) (B : Bi mg) (cRF : CalX (L2.CX P w) P w K mg base 4 "row_from" (spRF K T CB)) : FnOk P w K mg base (L2.CX P w) 5 f fd ["kind", "left", "hole", "right"] (spJR K T CB) := by
  refine F.okX scJR (fun vs H Q E h => ?_) (fun cdv A outer s H vs Q E hr h => ?_)
  · obtain ⟨kv, p, r, L, R, hv, ho, rfl, _⟩ := h
    rfl
  · obtain ⟨kv, p, r, L, R, hv, ho, rfl, hp, al, hr', ar, hh, ll1, lr, h⟩ := h
    refine ⟨_, (pss_cons (ps_set (i := 4) scJR.nd rfl (.inl rfl) (pe_ifExp (pt_cmpR op_isN (pv 2) pe_non (nomark _)) (pe_lst pa_nil) (pe_lst (pa_cons (pv 2) pa_nil))))
 (pss_one (ps_ret (pe_cx cRF hr (by decide) (passes_call (takes_of rfl rfl rfl rfl) (fun _ _ _ _ h => h)) (by rfl) (pa_cons (pv 0) (pa_cons (pe_op op_cat (pe_op op_cat (pe_callTy call_list_of (by rfl) B.list (by decide +kernel) (pa_cons (pv 1) pa_nil)) (pv 4)) (pe_callTy call_list_of (by rfl) B.list (by decide +kernel) (pa_cons (pv 3) pa_nil))) pa_nil)))))), ?_⟩
    simp only [tSeq, tAsg, gName, tOp, rI, rI0, rU, tUn, tVar, tC, tCB, tCons, tNil, tTest, tIfS, tRet, tRetN, tDrop, tNext, tBreak, tCont, rEq, rNe, CDiv, CDivN, CMul, tBM, tBM0, tTup, tLst, tAug, tIf, tAnd, tOr, tNot, tAndV, tOrV, tNotV, tIsN, tNotN, tB, scal, tCall, cxK, cxKn, rIxT, rIxL, rIn, rAppend, rReverse, tVals, tDSetd, tDGet, tDGet1, tDGet2, tDIn, tDNotIn, rSortV, rSortT, rPop, rSortL, rSortT, tSl, tNoPart, tPart, List.append_nil, L2.start, List.map_cons, List.map_nil, List.length_cons, List.length_nil, List.replicate_succ, List.replicate_zero, List.cons_append, List.nil_append, Nat.reduceAdd, Nat.reduceSub, exists_eq, exists_eq', List.getElem?_cons_zero, List.getElem?_cons_succ, List.set_cons_zero, List.set_cons_succ, Option.some.injEq, V.int.injEq, V.bl.injEq, V.str.injEq, V.ref.injEq, List.cons.injEq, and_true, true_and, and_false, false_and, reduceCtorEq, exists_false, or_false, false_or, exists_and_left, exists_and_right, exists_eq_left, exists_eq_left', exists_eq_right, exists_eq_right', exists_const, ite_true, ite_false, Bool.false_eq_true, if_true, if_false, decide_true, decide_false]
    have rest : ∀ (B : RL) (pb : Addr) (H1 : Hp), Same H H1 → H1 pb = some (.lst (vls B)) → All H1 B → ens B = ho → ∃ x : List V, (SqL K H1 p x ∨ SqT K H1 p x) ∧ ∀ (l : Addr), H1 l = none → rCat (V.ref l) (V.ref pb) (upd H1 l (HO.lst x)) fun x H1 => ∃ x_1, (SqL K H1 r x_1 ∨ SqT K H1 r x_1) ∧ ∀ (l : Addr), H1 l = none → rCat x (V.ref l) (upd H1 l (HO.lst x_1)) fun x H1 => spRF K T CB [kv, x] H1 Q E := by
      intro B pb H1 s1 hb ab eb
      have lb : B.length ≤ 1 := by
        rw [← ens_len, eb]
        rcases hh with ⟨_, rfl⟩ | ⟨_, _, _, _, _, rfl⟩
        · exact Nat.zero_le _
        · exact Nat.le_refl _
      refine ⟨_, .inr (Same.tup s1 hp), fun l hl => ?_⟩
      have s2 := same_upd (o := .lst (vls L)) hl
      refine cat_rl upd_same (s2 _ _ hb) (al.same (s1.trans s2)) (ab.same s2) (by omega) fun z H2 s3 h3 a3 => ?_
      have s13 := (s1.trans s2).trans s3
      refine ⟨_, .inr (Same.tup s13 hr'), fun l2 hl2 => ?_⟩
      have s4 := same_upd (o := .lst (vls R)) hl2
      refine cat_rl (s4 _ _ h3) upd_same (a3.same s4) (ar.same (s13.trans s4)) (by rw [List.length_append]; omega) fun z2 H3 s5 h5 a5 => ?_
      have s15 := (s13.trans s4).trans s5
      refine ⟨kv, z2, _, rfl, ⟨.inl (ll h5), a5⟩, by rw [List.length_append, List.length_append]; omega, ?_⟩
      rcases h with ⟨k, rfl, ht, q⟩ | ⟨bv, rs⟩
      · refine .inl ⟨k, rfl, ht.ext s15, fun H4 t S g4 h4 a4 e4 => ?_⟩
        exact q H4 t S ((Gw.of ht s15).trans g4) h4 a4 (by rw [e4, ens_app, ens_app, eb])
      · exact .inr ⟨bv.ext (LamX.ExtN.of s15), rs.ext (LamX.ExtN.of s15)⟩
    rcases hh with ⟨rfl, rfl⟩ | ⟨t, a, b, rfl, ht, rfl⟩
    · exact if_T rfl ⟨Nat.zero_le _, fun pb hb => rest [] pb _ (same_upd hb) upd_same (fun _ z => by cases z) rfl⟩
    · refine if_F rfl ⟨by decide, fun pb hb => rest [(.ref t, .h a b)] pb _ (same_upd hb) upd_same (fun p hp => ?_) rfl⟩
      rw [List.mem_singleton.mp hp]
      exact .h (same_upd hb _ _ ht)
end
end Mv

set_option Elab.async false
set_option linter.all false
set_option maxRecDepth 100000
set_option maxHeartbeats 4000000
namespace Mv
open PySem PySem.Spec PyProof.Rows L2
abbrev sKind : Stmt := topS 29
abbrev sFill : Stmt := topS 33
abbrev sII : Stmt := topS 34
abbrev sIR : Stmt := topS 35
/-! ### entries as data -/
def enD : En → PyData
  | .v x => .int x
  | .h a b => .tuple [.int a, .int b]
theorem enD_lay (e : En) : (enD e).canLay0 = true := by cases e <;> simp [enD, PyData.canLay0, PyData.canLayAll0]
theorem enD_depth (e : En) : (enD e).depth ≤ 1 := by cases e <;> simp [enD, PyData.depth, PyData.depthAll]
theorem enDs_lay : ∀ es : List En, PyData.canLayAll0 (es.map enD) = true
  | [] => by simp [PyData.canLayAll0]
  | z :: zs => by simp [PyData.canLayAll0, enD_lay z, enDs_lay zs]
theorem enDs_depth : ∀ es : List En, PyData.depthAll (es.map enD) ≤ 1
  | [] => by simp [PyData.depthAll]
  | z :: zs => by
    have h1 := enDs_depth zs
    have h2 := enD_depth z
    simp only [List.map_cons, PyData.depthAll]
    omega
theorem enD_shaped (e : En) : SeqAt.shaped (enD e) = true := by
  have h := enD_depth e
  show ((enD e).canLay0 && decide ((enD e).depth ≤ 64)) = true
  rw [Bool.and_eq_true]
  exact ⟨enD_lay e, decide_eq_true (by omega)⟩
theorem enDs_shaped (es : List En) : SeqAt.shaped (.list (es.map enD)) = true := by
  have h1 := enDs_depth es
  have h2 : PyData.depth (.list (es.map enD)) ≤ 64 := by
    simp only [PyData.depth]
    omega
  show (PyData.canLay0 (.list (es.map enD)) && decide (PyData.depth (.list (es.map enD)) ≤ 64)) = true
  rw [Bool.and_eq_true]
  exact ⟨by simp only [PyData.canLay0]; exact enDs_lay es, decide_eq_true h2⟩
theorem enDt_shaped (es : List En) : SeqAt.shaped (.tuple (es.map enD)) = true := by
  have h1 := enDs_depth es
  have h2 : PyData.depth (.tuple (es.map enD)) ≤ 64 := by
    simp only [PyData.depth]
    omega
  show (PyData.canLay0 (.tuple (es.map enD)) && decide (PyData.depth (.tuple (es.map enD)) ≤ 64)) = true
  rw [Bool.and_eq_true]
  exact ⟨by simp only [PyData.canLay0]; exact enDs_lay es, decide_eq_true h2⟩
theorem enD_eqv (e f : En) : PyData.eqv (enD e) (enD f) = decide (e = f) := by
  cases e with
  | v x =>
    cases f with
    | v y =>
      show (x == y) = _
      by_cases c : x = y
      · subst c; simp
      · rw [decide_eq_false (fun z => c (En.v.inj z))]; simp [c]
    | h a b => rfl
  | h a b =>
    cases f with
    | v y => rfl
    | h c d =>
      have e : PyData.eqv (enD (.h a b)) (enD (.h c d)) = ((a == c) && ((b == d) && true)) := by simp only [enD, PyData.eqv, PyData.eqvAll]
      rw [e]
      by_cases h1 : a = c
      · by_cases h2 : b = d
        · subst h1 h2; simp
        · rw [decide_eq_false (fun z => h2 (En.h.inj z).2)]; simp [h2]
      · rw [decide_eq_false (fun z => h1 (En.h.inj z).1)]; simp [h1]
theorem enDs_self : ∀ es : List En, PyData.eqvAll (es.map enD) (es.map enD) = true
  | [] => rfl
  | e :: es => by
    show (PyData.eqv (enD e) (enD e) && PyData.eqvAll (es.map enD) (es.map enD)) = true
    rw [enD_eqv, enDs_self es]
    simp
theorem any_enD (e : En) (es : List En) : ((es.map enD).any fun z => PyData.eqv z (enD e)) = decide (e ∈ es) := by
  induction es with
  | nil => rfl
  | cons f es ih =>
    rw [List.map_cons, List.any_cons, ih, enD_eqv]
    by_cases c : f = e
    · subst c; simp
    · by_cases d : e ∈ es
      · simp [d]
      · rw [decide_eq_false c, decide_eq_false d, decide_eq_false (by rw [List.mem_cons]; exact fun z => z.elim (fun z => c z.symm) d)]
        rfl
theorem EnV.dp {K : PySem.W.Frag} {H : Hp} {x : V} {e : En} (h : EnV H x e) : Dp K H x (enD e) := by
  cases h with
  | v x => exact .int x
  | @h t a b e => exact .tup (tt e) (.cons (.int a) (.cons (.int b) .nil))
theorem All.dp {K : PySem.W.Frag} {H : Hp} : ∀ {R : RL}, All H R → DpAll K H (vls R) ((ens R).map enD)
  | [], _ => .nil
  | p :: R, h => .cons (h p List.mem_cons_self).dp (All.dp (R := R) fun q hq => h q (List.mem_cons_of_mem _ hq))
theorem dp_l {K : PySem.W.Frag} {H : Hp} {p : Addr} {R : RL} (h : SqL K H p (vls R)) (a : All H R) : Dp K H (.ref p) (.list ((ens R).map enD)) := .lst h a.dp
theorem dp_t {K : PySem.W.Frag} {H : Hp} {p : Addr} {R : RL} (h : SqT K H p (vls R)) (a : All H R) : Dp K H (.ref p) (.tuple ((ens R).map enD)) := .tup h a.dp
/-- two tuples of the same entries -/
theorem ne_rows {K : PySem.W.Frag} {H : Hp} {p q : Addr} {R S : RL} {Q : VK} (hp : SqT K H p (vls R)) (hq : SqT K H q (vls S)) (a : All H R) (b : All H S) (e : ens R = ens S) (k : Q (.bl false) H) : rNeD K (.ref p) (.ref q) H Q := by
  refine ⟨_, _, dp_t hp a, dp_t hq b, enDt_shaped _, enDt_shaped _, ?_⟩
  rw [e]
  have : PyData.eqv (.tuple ((ens S).map enD)) (.tuple ((ens S).map enD)) = true := by
    show PyData.eqvAll _ _ = true
    exact enDs_self _
  rw [this]
  exact k
theorem eq_rows {K : PySem.W.Frag} {H : Hp} {p q : Addr} {R S : RL} {Q : VK} (hp : SqT K H p (vls R)) (hq : SqT K H q (vls S)) (a : All H R) (b : All H S) (e : ens R = ens S) (k : Q (.bl true) H) : rEqD K (.ref p) (.ref q) H Q := by
  refine ⟨_, _, dp_t hp a, dp_t hq b, enDt_shaped _, enDt_shaped _, ?_⟩
  rw [e]
  have : PyData.eqv (.tuple ((ens S).map enD)) (.tuple ((ens S).map enD)) = true := by
    show PyData.eqvAll _ _ = true
    exact enDs_self _
  rw [this]
  exact k
theorem ne_lists {K : PySem.W.Frag} {H : Hp} {p q : Addr} {R S : RL} {Q : VK} (hp : SqL K H p (vls R)) (hq : SqL K H q (vls S)) (a : All H R) (b : All H S) (e : ens R = ens S) (k : Q (.bl false) H) : rNeD K (.ref p) (.ref q) H Q := by
  refine ⟨_, _, dp_l hp a, dp_l hq b, enDs_shaped _, enDs_shaped _, ?_⟩
  rw [e]
  have : PyData.eqv (.list ((ens S).map enD)) (.list ((ens S).map enD)) = true := by
    show PyData.eqvAll _ _ = true
    exact enDs_self _
  rw [this]
  exact k
theorem flat_len (n v : Int) : ∀ (es : List En), (es.flatMap (fillE n v)).length ≤ 3 * es.length
  | [] => Nat.le_refl _
  | e :: es => by
    have h1 := fill_len n v e
    have h2 := flat_len n v es
    rw [List.flatMap_cons, List.length_append, List.length_cons]
    omega
/-- a list that grows -/
def Acc (H : Hp) (D : Addr) (H1 : Hp) (es : List En) : Prop := Same H H1 ∧ ∃ S : RL, H1 D = some (.lst (vls S)) ∧ All H1 S ∧ ens S = es
theorem Acc.new {H : Hp} {D : Addr} (hD : H D = none) : Acc H D (upd H D (.lst [])) [] := ⟨same_upd hD, [], upd_same, fun _ z => (by cases z), rfl⟩
theorem Acc.same {H H1 H2 : Hp} {D : Addr} {es : List En} (h : Acc H D H1 es) (s : Same H1 H2) : Acc H D H2 es := by
  obtain ⟨s1, S, h1, a, e⟩ := h
  exact ⟨s1.trans s, S, s _ _ h1, a.same s, e⟩
theorem Acc.push {H H1 : Hp} {D : Addr} {es : List En} {x : V} {e : En} (hD : H D = none) (h : Acc H D H1 es) (hl : es.length ≤ 990) (he : EnV H1 x e) : ∃ xs, H1 D = some (.lst xs) ∧ xs.length < sizeLine ∧ Acc H D (upd H1 D (.lst (xs ++ [x]))) (es ++ [e]) := by
  obtain ⟨s1, S, h1, a, rfl⟩ := h
  refine ⟨_, h1, ?_, fun b o z => ?_, S ++ [(x, e)], by rw [upd_same, vls_app]; rfl, (a.app fun p hp => by rw [List.mem_singleton.mp hp]; exact he).wr h1 Sx.upd, by rw [ens_app]; rfl⟩
  · rw [ens_len] at hl
    unfold vls
    rw [List.length_map]
    exact small1000 (by omega)
  · rw [upd_ne (ne_of_none z hD)]
    exact s1 _ _ z
section
variable {P : Program} {w : World} {K : PySem.W.Frag} {mg : Str → Option Value} {base : Heap} {T : List (Addr × Str)} {cls : Kd → Addr} {CB : Addr}
theorem scKind : FnScope ["_law_stream_here"] ["_law_stream_here"] (defScope sKind) := ⟨rfl, rfl, rfl, by decide +kernel, rfl, by decide +kernel, by decide +kernel⟩
def spKind : Sp := fun vs H Q _ => ∃ (a : Addr), vs = [.ref a] ∧ Strm H a ∧ ∀ (k : Kd) (H' : Hp), Sx a H H' → Strm H' a → Q (.str k.nm) H'
theorem ok_kind {f : Addr} {fd : FuncData} (F : Fun K "_law_kind" "_law_kind" sKind f fd) (B : Bi mg) (cDraw : CalX CX0 P w K mg base 1 "_law_draw" spDraw) : FnOk P w K mg base CX0 2 f fd ["_law_stream_here"] spKind := by
  refine F.ok scKind (fun vs H Q E h => ?_) (fun cdv A outer s H vs Q E hr h => ?_)
  · obtain ⟨a, rfl, _⟩ := h
    rfl
  · obtain ⟨a, rfl, hs, q⟩ := h
    refine ⟨_, (pss_one (ps_ret (pe_ix ix_tup (pe_tup (pa_cons pe_str (pa_cons pe_str (pa_cons pe_str (pa_cons pe_str (pa_cons pe_str (pa_cons pe_str (pa_cons pe_str (pa_cons pe_str pa_nil))))))))) (pe_cx cDraw hr (by decide) pass0 (by rfl) (pa_cons (pv 0) (pa_cons pe_int pa_nil))) (fun _ _ => rfl)))), ?_⟩
    simp only [tSeq, tAsg, gName, tOp, rI, rI0, rU, tUn, tVar, tC, tCB, tCons, tNil, tTest, tIfS, tRet, tRetN, tDrop, tNext, tBreak, tCont, rEq, rNe, CDiv, CDivN, CMul, tBM, tBM0, tTup, tLst, tAug, tIf, tAnd, tOr, tNot, tAndV, tOrV, tNotV, tIsN, tNotN, tB, scal, tCall, cxK, cxKn, rIxT, rIxL, rIn, rAppend, rReverse, tVals, tDSetd, tDGet, tDGet1, tDGet2, tDIn, tDNotIn, rSortV, rSortT, rPop, rSortL, rSortT, tSl, tNoPart, tPart, List.append_nil, L2.start, List.map_cons, List.map_nil, List.length_cons, List.length_nil, List.replicate_succ, List.replicate_zero, List.cons_append, List.nil_append, Nat.reduceAdd, Nat.reduceSub, exists_eq, exists_eq', List.getElem?_cons_zero, List.getElem?_cons_succ, List.set_cons_zero, List.set_cons_succ, Option.some.injEq, V.int.injEq, V.bl.injEq, V.str.injEq, V.ref.injEq, List.cons.injEq, and_true, true_and, and_false, false_and, reduceCtorEq, exists_false, or_false, false_or, exists_and_left, exists_and_right, exists_eq_left, exists_eq_left', exists_eq_right, exists_eq_right', exists_const, ite_true, ite_false, Bool.false_eq_true, if_true, if_false, decide_true, decide_false]
    refine ⟨by decide, fun p hp => ?_⟩
    have s1 := same_upd (o := .tup [.str "list", .str "bag", .str "set", .str "first", .str "last", .str "ends", .str "heads", .str "tails"]) hp
    refine spDraw_of (by decide) (hs.same s1) fun r H2 h0 h8 x2 t2 => ?_
    obtain ⟨n, rfl⟩ := Int.eq_ofNat_of_zero_le h0
    have hn : n < kds.length := by
      have : (n : Int) < 8 := h8
      show n < 8
      omega
    have hT : SqT K H2 p (kds.map kdV) := .inl (.inl (x2 _ _ (hs.ne hp).symm upd_same))
    simp only [tSeq, tAsg, gName, tOp, rI, rI0, rU, tUn, tVar, tC, tCB, tCons, tNil, tTest, tIfS, tRet, tRetN, tDrop, tNext, tBreak, tCont, rEq, rNe, CDiv, CDivN, CMul, tBM, tBM0, tTup, tLst, tAug, tIf, tAnd, tOr, tNot, tAndV, tOrV, tNotV, tIsN, tNotN, tB, scal, tCall, cxK, cxKn, rIxT, rIxL, rIn, rAppend, rReverse, tVals, tDSetd, tDGet, tDGet1, tDGet2, tDIn, tDNotIn, rSortV, rSortT, rPop, rSortL, rSortT, tSl, tNoPart, tPart, List.append_nil, L2.start, List.map_cons, List.map_nil, List.length_cons, List.length_nil, List.replicate_succ, List.replicate_zero, List.cons_append, List.nil_append, Nat.reduceAdd, Nat.reduceSub, exists_eq, exists_eq', List.getElem?_cons_zero, List.getElem?_cons_succ, List.set_cons_zero, List.set_cons_succ, Option.some.injEq, V.int.injEq, V.bl.injEq, V.str.injEq, V.ref.injEq, List.cons.injEq, and_true, true_and, and_false, false_and, reduceCtorEq, exists_false, or_false, false_or, exists_and_left, exists_and_right, exists_eq_left, exists_eq_left', exists_eq_right, exists_eq_right', exists_const, ite_true, ite_false, Bool.false_eq_true, if_true, if_false, decide_true, decide_false]
    refine ⟨kds.map kdV, hT, .str kds[n].nm, atI_nat ?_, q _ _ (Sx.trans (Sx.of s1) x2) t2⟩
    rw [List.getElem?_map, List.getElem?_eq_getElem hn]
    rfl
theorem scII : FnScope ["_law_actual"] ["_law_actual"] (defScope sII) := ⟨rfl, rfl, rfl, by decide +kernel, rfl, by decide +kernel, by decide +kernel⟩
def spII : Sp := fun vs H Q _ => ∃ x : Int, vs = [.int x] ∧ Q (.bl true) H
theorem ok_ii {f : Addr} {fd : FuncData} (F : Fun K "_law_is_integer" "_law_is_integer" sII f fd) (B : Bi mg) : FnOk P w K mg base CX0 1 f fd ["_law_actual"] spII := by
  refine F.ok scII (fun vs H Q E h => ?_) (fun cdv A outer s H vs Q E hr h => ?_)
  · obtain ⟨x, rfl, _⟩ := h
    rfl
  · obtain ⟨x, rfl, q⟩ := h
    refine ⟨_, (pss_one (ps_ret (pe_and (pe_callB (id := "isinstance") call_isi (by rfl) B.isinstance (by decide +kernel) (pa_cons (pv 0) (pa_cons (pe_bltn (by rfl) B.int (by decide +kernel) (v := .ty "int") rfl) pa_nil))) (pe_one (pe_not (pe_callB (id := "isinstance") call_isi (by rfl) B.isinstance (by decide +kernel) (pa_cons (pv 0) (pa_cons (pe_bltn (by rfl) B.bool (by decide +kernel) (v := .ty "bool") rfl) pa_nil)))))))), ?_⟩
    simp only [tSeq, tAsg, gName, tOp, rI, rI0, rU, tUn, tVar, tC, tCB, tCons, tNil, tTest, tIfS, tRet, tRetN, tDrop, tNext, tBreak, tCont, rEq, rNe, CDiv, CDivN, CMul, tBM, tBM0, tTup, tLst, tAug, tIf, tAnd, tOr, tNot, tAndV, tOrV, tNotV, tIsN, tNotN, tB, scal, tCall, cxK, cxKn, rIxT, rIxL, rIn, rAppend, rReverse, tVals, tDSetd, tDGet, tDGet1, tDGet2, tDIn, tDNotIn, rSortV, rSortT, rPop, rSortL, rSortT, tSl, tNoPart, tPart, List.append_nil, L2.start, List.map_cons, List.map_nil, List.length_cons, List.length_nil, List.replicate_succ, List.replicate_zero, List.cons_append, List.nil_append, Nat.reduceAdd, Nat.reduceSub, exists_eq, exists_eq', List.getElem?_cons_zero, List.getElem?_cons_succ, List.set_cons_zero, List.set_cons_succ, Option.some.injEq, V.int.injEq, V.bl.injEq, V.str.injEq, V.ref.injEq, List.cons.injEq, and_true, true_and, and_false, false_and, reduceCtorEq, exists_false, or_false, false_or, exists_and_left, exists_and_right, exists_eq_left, exists_eq_left', exists_eq_right, exists_eq_right', exists_const, ite_true, ite_false, Bool.false_eq_true, if_true, if_false, decide_true, decide_false]
    exact ⟨.int x, .ty "int", .type "int", .type "int", true, rfl, .ty _, .base (.int x), kit_ty (by decide +kernel), _, rfl, if_T rfl ⟨.int x, .ty "bool", .type "int", .type "bool", false, rfl, .ty _, .base (.int x), kit_ty (by decide +kernel), _, rfl, q⟩⟩
theorem scIR : FnScope ["_law_row_here", "_law_entry"] ["_law_row_here"] (defScope sIR) := ⟨rfl, rfl, rfl, by decide +kernel, rfl, by decide +kernel, by decide +kernel⟩
def spIR (K : PySem.W.Frag) : Sp := fun vs H Q _ => ∃ (p : Addr) (R : RL), vs = [.ref p] ∧ H p = some (.tup (vls R)) ∧ All H R ∧ R.length ≤ 500 ∧ Q (.bl true) H
theorem ok_ir {f : Addr} {fd : FuncData} (F : Fun K "_law_is_row" "_law_is_row" sIR f fd) (B : Bi mg) (cII : CalX CX0 P w K mg base 1 "_law_is_integer" spII) : FnOk P w K mg base CX0 2 f fd ["_law_row_here"] (spIR K) := by
  refine F.ok scIR (fun vs H Q E h => ?_) (fun cdv A outer s H vs Q E hr h => ?_)
  · obtain ⟨p, R, rfl, _⟩ := h
    rfl
  · obtain ⟨p, R, rfl, hp, al, hl, q⟩ := h
    refine ⟨_, (pss_cons (ps_if (pt_not (pt_val (pe_callB (id := "isinstance") call_isi (by rfl) B.isinstance (by decide +kernel) (pa_cons (pv 0) (pa_cons (pe_bltn (by rfl) B.tuple (by decide +kernel) (v := .ty "tuple") rfl) pa_nil)))))
 (pss_one (ps_ret pe_bl)) pss_nil)
 (pss_cons (ps_for PassesOwn.never rfl (pi_tup (pv 0)) (pg_name (i := 1) scIR.nd rfl (.inl rfl))
 (pss_one (ps_if (pt_val (pe_callB (id := "isinstance") call_isi (by rfl) B.isinstance (by decide +kernel) (pa_cons (pv 1) (pa_cons (pe_bltn (by rfl) B.tuple (by decide +kernel) (v := .ty "tuple") rfl) pa_nil))))
 (pss_one (ps_if (PW.pt (pw_or (pt_cmpR op_ne (pe_callB call_len_seq (by rfl) B.len PySem.boot_len (pa_cons (pv 1) pa_nil)) pe_int (nomark _)) (pw_or (pt_not (pt_val (pe_cx cII hr (by decide) pass0 (by rfl) (pa_cons (pe_ix ix_tup (pv 1) pe_int (fun _ _ => rfl)) pa_nil)))) (pw_or1 (pt_not (pt_val (pe_cx cII hr (by decide) pass0 (by rfl) (pa_cons (pe_ix ix_tup (pv 1) pe_int (fun _ _ => rfl)) pa_nil))))))))
 (pss_one (ps_ret pe_bl)) pss_nil)) (pss_one (ps_if (pt_not (pt_val (pe_cx cII hr (by decide) pass0 (by rfl) (pa_cons (pv 1) pa_nil))))
 (pss_one (ps_ret pe_bl)) pss_nil)))))
 (pss_one (ps_ret pe_bl)))), ?_⟩
    simp only [tSeq, tAsg, gName, tOp, rI, rI0, rU, tUn, tVar, tC, tCB, tCons, tNil, tTest, tIfS, tRet, tRetN, tDrop, tNext, tBreak, tCont, rEq, rNe, CDiv, CDivN, CMul, tBM, tBM0, tTup, tLst, tAug, tIf, tAnd, tOr, tNot, tAndV, tOrV, tNotV, tIsN, tNotN, tB, scal, tCall, cxK, cxKn, rIxT, rIxL, rIn, rAppend, rReverse, tVals, tDSetd, tDGet, tDGet1, tDGet2, tDIn, tDNotIn, rSortV, rSortT, rPop, rSortL, rSortT, tSl, tNoPart, tPart, List.append_nil, L2.start, List.map_cons, List.map_nil, List.length_cons, List.length_nil, List.replicate_succ, List.replicate_zero, List.cons_append, List.nil_append, Nat.reduceAdd, Nat.reduceSub, exists_eq, exists_eq', List.getElem?_cons_zero, List.getElem?_cons_succ, List.set_cons_zero, List.set_cons_succ, Option.some.injEq, V.int.injEq, V.bl.injEq, V.str.injEq, V.ref.injEq, List.cons.injEq, and_true, true_and, and_false, false_and, reduceCtorEq, exists_false, or_false, false_or, exists_and_left, exists_and_right, exists_eq_left, exists_eq_left', exists_eq_right, exists_eq_right', exists_const, ite_true, ite_false, Bool.false_eq_true, if_true, if_false, decide_true, decide_false]
    refine ⟨.ref p, .ty "tuple", .type "tuple", .type "tuple", true, rfl, .ty _, .base (.tup hp), kit_ty (by decide +kernel), _, rfl, if_F rfl ?_⟩
    refine ⟨.ref p, rfl, p, rfl, ⟨_, tt hp⟩, for_tup (K := K) (xs := vls R) (fun i σ H' => H' = H ∧ ∃ y, σ = [some (.ref p), y]) ⟨rfl, none, rfl⟩ (fun i σ H' _ h => by rw [h.1]; exact tt hp) ?_ ?_⟩
    · rintro i x σ H1 hx ⟨rfl, y, rfl⟩
      obtain ⟨en, he, rfl⟩ := vls_at hx
      have hev := al en (List.mem_of_getElem? he)
      obtain ⟨xv, e0⟩ := en
      simp only at hev ⊢
      simp only [tSeq, tAsg, gName, tOp, rI, rI0, rU, tUn, tVar, tC, tCB, tCons, tNil, tTest, tIfS, tRet, tRetN, tDrop, tNext, tBreak, tCont, rEq, rNe, CDiv, CDivN, CMul, tBM, tBM0, tTup, tLst, tAug, tIf, tAnd, tOr, tNot, tAndV, tOrV, tNotV, tIsN, tNotN, tB, scal, tCall, cxK, cxKn, rIxT, rIxL, rIn, rAppend, rReverse, tVals, tDSetd, tDGet, tDGet1, tDGet2, tDIn, tDNotIn, rSortV, rSortT, rPop, rSortL, rSortT, tSl, tNoPart, tPart, List.append_nil, L2.start, List.map_cons, List.map_nil, List.length_cons, List.length_nil, List.replicate_succ, List.replicate_zero, List.cons_append, List.nil_append, Nat.reduceAdd, Nat.reduceSub, exists_eq, exists_eq', List.getElem?_cons_zero, List.getElem?_cons_succ, List.set_cons_zero, List.set_cons_succ, Option.some.injEq, V.int.injEq, V.bl.injEq, V.str.injEq, V.ref.injEq, List.cons.injEq, and_true, true_and, and_false, false_and, reduceCtorEq, exists_false, or_false, false_or, exists_and_left, exists_and_right, exists_eq_left, exists_eq_left', exists_eq_right, exists_eq_right', exists_const, ite_true, ite_false, Bool.false_eq_true, if_true, if_false, decide_true, decide_false]
      refine isi_tup hev ⟨_, rfl, ?_⟩
      cases hev with
      | v y => exact if_F rfl ⟨y, rfl, _, rfl, rfl⟩
      | @h t a b ht =>
        refine if_T rfl ?_
        exact ⟨t, rfl, _, .inr (tt ht), if_F rfl ⟨t, rfl, _, tt ht, _, rfl, a, rfl, _, rfl, if_F rfl ⟨t, rfl, _, tt ht, _, rfl, b, rfl, _, rfl, if_F rfl rfl⟩⟩⟩
    · rintro σ H1 ⟨rfl, y, rfl⟩
      exact q
theorem scFill : FnScope ["_law_row_here", "_law_number", "_law_value_here", "_law_entries_here", "_law_entry"] ["_law_row_here", "_law_number", "_law_value_here"] (defScope sFill) := ⟨rfl, rfl, rfl, by decide +kernel, rfl, by decide +kernel, by decide +kernel⟩
def spFill (K : PySem.W.Frag) : Sp := fun vs H Q _ => ∃ (p : Addr) (R : RL) (n v : Int), vs = [.ref p, .int n, .int v] ∧ H p = some (.lst (vls R)) ∧ All H R ∧ R.length ≤ 100 ∧ ResL Q H ((ens R).flatMap (fillE n v))
theorem ok_fill {f : Addr} {fd : FuncData} (F : Fun K "_law_filled" "_law_filled" sFill f fd) (B : Bi mg) : FnOk P w K mg base CX0 1 f fd ["_law_row_here", "_law_number", "_law_value_here"] (spFill K) := by
  refine F.ok scFill (fun vs H Q E h => ?_) (fun cdv A outer s H vs Q E hr h => ?_)
  · obtain ⟨p, R, n, v, rfl, _⟩ := h
    rfl
  · obtain ⟨p, R, n, v, rfl, hp, al, hl, q⟩ := h
    refine ⟨_, (pss_cons (ps_set (i := 3) scFill.nd rfl (.inl rfl) (pe_lst pa_nil))
 (pss_cons (ps_for PassesOwn.never rfl (pi_list (pv 0)) (pg_name (i := 4) scFill.nd rfl (.inl rfl))
 (pss_one (ps_if (PW.pt (pw_and (pt_val (pe_callB (id := "isinstance") call_isi (by rfl) B.isinstance (by decide +kernel) (pa_cons (pv 4) (pa_cons (pe_bltn (by rfl) B.tuple (by decide +kernel) (v := .ty "tuple") rfl) pa_nil)))) (pw_and (pt_cmpR op_le (pe_ix ix_tup (pv 4) pe_int (fun _ _ => rfl)) (pv 1) (nomark _)) (pw_and1 (pt_cmpR op_lt (pv 1) (pe_ix ix_tup (pv 4) pe_int (fun _ _ => rfl)) (nomark _))))))
 (pss_cons (ps_if (pt_cmpR op_lt (pe_ix ix_tup (pv 4) pe_int (fun _ _ => rfl)) (pv 1) (nomark _))
 (pss_one (ps_expr (pe_bm PySem.F.plainAttrs_list PySem.F.slot_list_append PySem.F.type_list_append mt_append (pv 3) (pa_cons (pe_tup (pa_cons (pe_ix ix_tup (pv 4) pe_int (fun _ _ => rfl)) (pa_cons (pv 1) pa_nil))) pa_nil)))) pss_nil)
 (pss_cons (ps_expr (pe_bm PySem.F.plainAttrs_list PySem.F.slot_list_append PySem.F.type_list_append mt_append (pv 3) (pa_cons (pv 2) pa_nil)))
 (pss_one (ps_if (pt_cmpR op_lt (pe_op op_add (pv 1) pe_int) (pe_ix ix_tup (pv 4) pe_int (fun _ _ => rfl)) (nomark _))
 (pss_one (ps_expr (pe_bm PySem.F.plainAttrs_list PySem.F.slot_list_append PySem.F.type_list_append mt_append (pv 3) (pa_cons (pe_tup (pa_cons (pe_op op_add (pv 1) pe_int) (pa_cons (pe_ix ix_tup (pv 4) pe_int (fun _ _ => rfl)) pa_nil))) pa_nil)))) pss_nil)))) (pss_one (ps_expr (pe_bm PySem.F.plainAttrs_list PySem.F.slot_list_append PySem.F.type_list_append mt_append (pv 3) (pa_cons (pv 4) pa_nil)))))))
 (pss_one (ps_ret (pv 3))))), ?_⟩
    simp only [tSeq, tAsg, gName, tOp, rI, rI0, rU, tUn, tVar, tC, tCB, tCons, tNil, tTest, tIfS, tRet, tRetN, tDrop, tNext, tBreak, tCont, rEq, rNe, CDiv, CDivN, CMul, tBM, tBM0, tTup, tLst, tAug, tIf, tAnd, tOr, tNot, tAndV, tOrV, tNotV, tIsN, tNotN, tB, scal, tCall, cxK, cxKn, rIxT, rIxL, rIn, rAppend, rReverse, tVals, tDSetd, tDGet, tDGet1, tDGet2, tDIn, tDNotIn, rSortV, rSortT, rPop, rSortL, rSortT, tSl, tNoPart, tPart, List.append_nil, L2.start, List.map_cons, List.map_nil, List.length_cons, List.length_nil, List.replicate_succ, List.replicate_zero, List.cons_append, List.nil_append, Nat.reduceAdd, Nat.reduceSub, exists_eq, exists_eq', List.getElem?_cons_zero, List.getElem?_cons_succ, List.set_cons_zero, List.set_cons_succ, Option.some.injEq, V.int.injEq, V.bl.injEq, V.str.injEq, V.ref.injEq, List.cons.injEq, and_true, true_and, and_false, false_and, reduceCtorEq, exists_false, or_false, false_or, exists_and_left, exists_and_right, exists_eq_left, exists_eq_left', exists_eq_right, exists_eq_right', exists_const, ite_true, ite_false, Bool.false_eq_true, if_true, if_false, decide_true, decide_false]
    refine ⟨Nat.zero_le _, fun D hD => ⟨.ref p, rfl, p, rfl, ⟨_, ll (same_upd hD _ _ hp)⟩, for_list (K := K) (xs := vls R) (fun i σ H' => ∃ y4 : Option V, σ = [some (.ref p), some (.int n), some (.int v), some (.ref D), y4] ∧ Acc H D H' (((ens R).take i).flatMap (fillE n v)))
      ⟨none, rfl, Acc.new hD⟩ (fun i σ H' _ ⟨_, _, s1, _⟩ => ll (s1 _ _ hp)) ?_ ?_⟩⟩
    · rintro i x σ H1 hx ⟨y4, rfl, ac⟩
      obtain ⟨en, he, rfl⟩ := vls_at hx
      have ee : (ens R)[i]? = some en.2 := by
        unfold ens
        rw [List.getElem?_map, he]
        rfl
      have hil := (List.getElem?_eq_some_iff.mp he).1
      have he0 := al en (List.mem_of_getElem? he)
      have hev := he0.same ac.1
      have fl := flat_len n v ((ens R).take i)
      have tl : ((ens R).take i).length ≤ i := by
        rw [List.length_take]
        exact Nat.min_le_left _ _
      rw [List.take_add_one, ee, Option.toList_some, List.flatMap_append]
      obtain ⟨xv, e0⟩ := en
      simp only at ee he0 hev ⊢
      simp only [tSeq, tAsg, gName, tOp, rI, rI0, rU, tUn, tVar, tC, tCB, tCons, tNil, tTest, tIfS, tRet, tRetN, tDrop, tNext, tBreak, tCont, rEq, rNe, CDiv, CDivN, CMul, tBM, tBM0, tTup, tLst, tAug, tIf, tAnd, tOr, tNot, tAndV, tOrV, tNotV, tIsN, tNotN, tB, scal, tCall, cxK, cxKn, rIxT, rIxL, rIn, rAppend, rReverse, tVals, tDSetd, tDGet, tDGet1, tDGet2, tDIn, tDNotIn, rSortV, rSortT, rPop, rSortL, rSortT, tSl, tNoPart, tPart, List.append_nil, L2.start, List.map_cons, List.map_nil, List.length_cons, List.length_nil, List.replicate_succ, List.replicate_zero, List.cons_append, List.nil_append, Nat.reduceAdd, Nat.reduceSub, exists_eq, exists_eq', List.getElem?_cons_zero, List.getElem?_cons_succ, List.set_cons_zero, List.set_cons_succ, Option.some.injEq, V.int.injEq, V.bl.injEq, V.str.injEq, V.ref.injEq, List.cons.injEq, and_true, true_and, and_false, false_and, reduceCtorEq, exists_false, or_false, false_or, exists_and_left, exists_and_right, exists_eq_left, exists_eq_left', exists_eq_right, exists_eq_right', exists_const, ite_true, ite_false, Bool.false_eq_true, if_true, if_false, decide_true, decide_false]
      refine isi_tup hev ⟨_, rfl, ?_⟩
      generalize ((ens R).take i).flatMap (fillE n v) = es at *
      have add : fillE n v e0 = [e0] → tyV K "list" (V.ref D) H1 ∧ ∃ x, H1 D = some (HO.lst x) ∧ x.length < sizeLine ∧ Acc H D (upd H1 D (HO.lst (x ++ [xv]))) (es ++ [e0].flatMap (fillE n v)) := fun hf => by
        obtain ⟨xs, e1, e2, ac2⟩ := ac.push hD (by omega) hev
        rw [List.flatMap_singleton, hf]
        exact ⟨.inl ⟨rfl, _, ll e1⟩, xs, e1, e2, ac2⟩
      cases he0 with
      | v y => exact if_F rfl (add rfl)
      | @h t a b ht0 =>
        have ht := ac.1 _ _ ht0
        refine if_T rfl ?_
        refine ⟨t, rfl, _, tt ht, _, rfl, a, rfl, ite2 (fun c1 => ⟨t, rfl, _, tt ht, _, rfl, b, rfl, ite2 (fun c2 => ?_) (fun c2 => add (if_neg fun z => c2 (decide_eq_true z.2)))⟩) (fun c1 => add (if_neg fun z => c1 (decide_eq_true z.1)))⟩
        have hf : [En.h a b].flatMap (fillE n v) = btw a n ++ [.v v] ++ btw (n + 1) b := (List.flatMap_singleton _ _).trans (if_pos ⟨of_decide_eq_true c1, of_decide_eq_true c2⟩)
        rw [hf]
        have n1 := btw_len a n
        refine ⟨t, rfl, _, tt ht, _, rfl, a, rfl, ite2 (fun c3 => ?_) (fun c3 => ?_)⟩
        case' refine_1 =>
          have b1 : btw a n = [.h a n] := if_pos (of_decide_eq_true c3)
          refine ⟨.inl ⟨rfl, _, ll (ac.2.choose_spec.1)⟩, t, rfl, _, tt ht, _, rfl, by decide, fun t2 ht2 => ?_⟩
          obtain ⟨xs, e1, e2, ac2⟩ := (ac.same (same_upd ht2)).push (e := .h a n) hD (by omega) (.h upd_same)
          rw [← b1] at ac2
          refine ⟨xs, e1, e2, ?_⟩
          generalize upd (upd H1 t2 _) D _ = H2 at ac2 ⊢
        case' refine_2 =>
          have b1 : btw a n = [] := if_neg fun z => c3 (decide_eq_true z)
          have ac2 : Acc H D H1 (es ++ btw a n) := by rw [b1, List.append_nil]; exact ac
          generalize H1 = H2 at ac2 ⊢
        all_goals
          clear add
          obtain ⟨xs, e1, e2, ac3⟩ := ac2.push (e := .v v) hD (by rw [List.length_append]; omega) (.v v)
          refine ⟨.inl ⟨rfl, _, ll e1⟩, xs, e1, e2, ?_⟩
          generalize upd H2 D _ = H3 at ac3 ⊢
          have ht3 := ac3.1 _ _ ht0
          refine ⟨t, rfl, _, tt ht3, _, rfl, b, rfl, ite2 (fun c4 => ?_) (fun c4 => ?_)⟩
          · have b2 : btw (n + 1) b = [.h (n + 1) b] := if_pos (of_decide_eq_true c4)
            refine ⟨.inl ⟨rfl, _, ll (ac3.2.choose_spec.1)⟩, t, rfl, _, tt ht3, _, rfl, by decide, fun t4 ht4 => ?_⟩
            obtain ⟨ys, e3, e4, ac5⟩ := (ac3.same (same_upd ht4)).push (e := .h (n + 1) b) hD (by rw [List.length_append, List.length_append, List.length_singleton]; omega) (.h upd_same)
            refine ⟨ys, e3, e4, ?_⟩
            rw [← b2, List.append_assoc, List.append_assoc] at ac5
            rw [List.append_assoc]
            exact ac5
          · have b2 : btw (n + 1) b = [] := if_neg fun z => c4 (decide_eq_true z)
            rw [b2, List.append_nil, ← List.append_assoc]
            exact ac3
    · rintro σ H1 ⟨y4, rfl, s1, S, h1, a1, e1⟩
      rw [show (vls R).length = (ens R).length by unfold vls ens; rw [List.length_map, List.length_map], List.take_length] at e1
      exact ⟨_, rfl, q H1 D S s1 h1 a1 e1⟩
end
end Mv

set_option Elab.async false
set_option linter.all false
set_option maxRecDepth 100000
set_option maxHeartbeats 4000000
namespace Mv
open PySem PySem.Spec PyProof.Rows L2
abbrev sPlain : Stmt := topS 31
/-- the words as the loop reads them -/
def turnI (b : Bool) (xs : List Int) : List Int := if b = true then xs.reverse else xs
theorem turnI_len (b : Bool) (xs : List Int) : (turnI b xs).length = xs.length := by
  cases b
  · rfl
  · exact List.length_reverse
theorem heads_take {xs : List Int} {i : Nat} {x : Int} (h : xs[i]? = some x) : headsI (xs.take (i + 1)) = addI (headsI (xs.take i)) x := by
  rw [List.take_add_one, h]
  exact headsI_snoc _ _
section
variable {P : Program} {w : World} {K : PySem.W.Frag} {mg : Str → Option Value} {base : Heap}
theorem scPlain : FnScope ["_law_kind_here", "_law_word", "_law_kept", "_law_turned", "_law_k", "_law_value_here"] ["_law_kind_here", "_law_word"] (defScope sPlain) := ⟨rfl, rfl, rfl, by decide +kernel, rfl, by decide +kernel, by decide +kernel⟩
def spPlain (K : PySem.W.Frag) : Sp := fun vs H Q _ => ∃ (k : Kd) (p : Addr) (xs : List Int), vs = [.str k.nm, .ref p] ∧ H p = some (.lst (xs.map V.int)) ∧ xs.length ≤ 1000 ∧ ∀ (H' : Hp) (t : Addr), Same H H' → H' t = some (.tup ((plainI k xs).map V.int)) → Q (.ref t) H'
theorem ok_plain {f : Addr} {fd : FuncData} (F : Fun K "_law_plain" "_law_plain" sPlain f fd) (B : Bi mg) : FnOk P w K mg base CX0 1 f fd ["_law_kind_here", "_law_word"] (spPlain K) := by
  refine F.ok scPlain (fun vs H Q E h => ?_) (fun cdv A outer s H vs Q E hr h => ?_)
  · obtain ⟨k, p, xs, rfl, _⟩ := h
    rfl
  · obtain ⟨k, p, xs, rfl, hp, hl, q⟩ := h
    refine ⟨_, (pss_cons (ps_if (pt_cmpR op_eq (pv 0) pe_str (nomark _))
 (pss_one (ps_ret (pe_callTy call_tuple_of (by rfl) B.tuple (by decide +kernel) (pa_cons (pv 1) pa_nil)))) pss_nil)
 (pss_cons (ps_if (pt_cmpR op_eq (pv 0) pe_str (nomark _))
 (pss_one (ps_ret (pe_callTy call_tuple_of (by rfl) B.tuple (by decide +kernel) (pa_cons (pe_callB cr_sortL (by rfl) B.sorted (by decide +kernel) (pa_cons (pv 1) pa_nil)) pa_nil)))) pss_nil)
 (pss_cons (ps_if (pt_cmpR op_eq (pe_callB call_len_seq (by rfl) B.len PySem.boot_len (pa_cons (pv 1) pa_nil)) pe_int (nomark _))
 (pss_one (ps_ret (pe_tup pa_nil))) pss_nil)
 (pss_cons (ps_if (pt_cmpR op_eq (pv 0) pe_str (nomark _))
 (pss_one (ps_ret (pe_tup (pa_cons (pe_ix ix_list (pv 1) pe_int (fun _ _ => rfl)) pa_nil)))) pss_nil)
 (pss_cons (ps_if (pt_cmpR op_eq (pv 0) pe_str (nomark _))
 (pss_one (ps_ret (pe_tup (pa_cons (pe_ix ix_list (pv 1) (pe_un un_neg pe_int) (fun _ _ => rfl)) pa_nil)))) pss_nil)
 (pss_cons (ps_if (pt_cmpR op_eq (pv 0) pe_str (nomark _))
 (pss_one (ps_ret (pe_tup (pa_cons (pe_ix ix_list (pv 1) pe_int (fun _ _ => rfl)) (pa_cons (pe_ix ix_list (pv 1) (pe_un un_neg pe_int) (fun _ _ => rfl)) pa_nil))))) pss_nil)
 (pss_cons (ps_set (i := 2) scPlain.nd rfl (.inl rfl) (pe_lst pa_nil))
 (pss_cons (ps_set (i := 3) scPlain.nd rfl (.inl rfl) (pe_cmpR op_eq (pv 0) pe_str (nomark _)))
 (pss_cons (ps_for PassesOwn.never rfl (pi_range1 (by rfl) B.range (pa_cons (pe_callB call_len_seq (by rfl) B.len PySem.boot_len (pa_cons (pv 1) pa_nil)) pa_nil)) (pg_name (i := 4) scPlain.nd rfl (.inl rfl))
 (pss_cons (ps_set (i := 5) scPlain.nd rfl (.inl rfl) (pe_ix ix_list (pv 1) (pv 4) (fun _ _ => rfl)))
 (pss_cons (ps_if (pt_val (pv 3))
 (pss_one (ps_set (i := 5) scPlain.nd rfl (.inl rfl) (pe_ix ix_list (pv 1) (pe_op op_sub (pe_op op_sub (pe_callB call_len_seq (by rfl) B.len PySem.boot_len (pa_cons (pv 1) pa_nil)) pe_int) (pv 4)) (fun _ _ => rfl)))) pss_nil)
 (pss_one (ps_if (pt_cmpR op_notIn_seq (pv 5) (pv 2) (by rfl))
 (pss_one (ps_expr (pe_bm PySem.F.plainAttrs_list PySem.F.slot_list_append PySem.F.type_list_append mt_append (pv 2) (pa_cons (pv 5) pa_nil)))) pss_nil)))))
 (pss_cons (ps_if (pt_val (pv 3))
 (pss_one (ps_expr (pe_bm0 PySem.F.plainAttrs_list PySem.F.slot_list_reverse PySem.F.type_list_reverse mt_reverse (pv 2)))) pss_nil)
 (pss_cons (ps_if (pt_cmpR op_eq (pv 0) pe_str (nomark _))
 (pss_one (ps_ret (pe_callTy call_tuple_of (by rfl) B.tuple (by decide +kernel) (pa_cons (pe_callB cr_sortL (by rfl) B.sorted (by decide +kernel) (pa_cons (pv 2) pa_nil)) pa_nil)))) pss_nil)
 (pss_one (ps_ret (pe_callTy call_tuple_of (by rfl) B.tuple (by decide +kernel) (pa_cons (pv 2) pa_nil))))))))))))))), ?_⟩
    simp only [tSeq, tAsg, gName, tOp, rI, rI0, rU, tUn, tVar, tC, tCB, tCons, tNil, tTest, tIfS, tRet, tRetN, tDrop, tNext, tBreak, tCont, rEq, rNe, CDiv, CDivN, CMul, tBM, tBM0, tTup, tLst, tAug, tIf, tAnd, tOr, tNot, tAndV, tOrV, tNotV, tIsN, tNotN, tB, scal, tCall, cxK, cxKn, rIxT, rIxL, rIn, rAppend, rReverse, tVals, tDSetd, tDGet, tDGet1, tDGet2, tDIn, tDNotIn, rSortV, rSortT, rPop, rSortL, rSortT, tSl, tNoPart, tPart, List.append_nil, L2.start, List.map_cons, List.map_nil, List.length_cons, List.length_nil, List.replicate_succ, List.replicate_zero, List.cons_append, List.nil_append, Nat.reduceAdd, Nat.reduceSub, exists_eq, exists_eq', List.getElem?_cons_zero, List.getElem?_cons_succ, List.set_cons_zero, List.set_cons_succ, Option.some.injEq, V.int.injEq, V.bl.injEq, V.str.injEq, V.ref.injEq, List.cons.injEq, and_true, true_and, and_false, false_and, reduceCtorEq, exists_false, or_false, false_or, exists_and_left, exists_and_right, exists_eq_left, exists_eq_left', exists_eq_right, exists_eq_right', exists_const, ite_true, ite_false, Bool.false_eq_true, if_true, if_false, decide_true, decide_false]
    refine ite2 (fun e => ?_) (fun e1 => ?_)
    · obtain rfl : k = .list := by revert e; cases k <;> decide +kernel
      exact ⟨_, .inl ⟨ll hp, fun t ht => q _ t (same_upd ht) upd_same⟩⟩
    refine ite2 (fun e => ?_) (fun e2 => ?_)
    · obtain rfl : k = .bag := by revert e; cases k <;> decide +kernel
      refine ⟨xs, ll hp, fun l hl' => ⟨_, .inl ⟨SqL.of upd_same, fun t ht => ?_⟩⟩⟩
      exact q _ t ((same_upd hl').trans (same_upd ht)) upd_same
    refine ⟨xs.map V.int, .inl (ll hp), ite2 (fun e => ⟨Nat.zero_le _, fun t ht => ?_⟩) (fun e0 => ?_)⟩
    · have e0 : xs = [] := by
        have h0 := of_decide_eq_true e
        rw [List.length_map] at h0
        exact List.length_eq_zero_iff.mp (by omega)
      subst e0
      rw [plain_nil] at q
      exact q _ t (same_upd ht) upd_same
    have hx0 : xs ≠ [] := fun z => by
      subst z
      exact e0 (decide_eq_true rfl)
    obtain ⟨x, r, rfl⟩ : ∃ x r, xs = x :: r := by
      cases xs with
      | nil => exact absurd rfl hx0
      | cons x r => exact ⟨x, r, rfl⟩
    have hat0 : atI ((x :: r).map V.int) 0 = some (.int x) := atI_nat (j := 0) rfl
    have hz : (x :: r).map V.int = ((x :: r).dropLast.map V.int) ++ [.int ((x :: r).getLast hx0)] := by
      rw [← List.map_singleton, ← List.map_append, List.dropLast_concat_getLast]
    have hatL : atI ((x :: r).map V.int) (-1) = some (.int ((x :: r).getLast hx0)) := by
      rw [hz]
      exact atI_last _ _
    have hlast : lastI (x :: r) = [(x :: r).getLast hx0] := by
      conv => lhs; rw [← List.dropLast_concat_getLast hx0]
      exact lastI_snoc _ _
    refine ite2 (fun e => ⟨_, ll hp, _, hat0, by decide, fun t ht => ?_⟩) (fun e3 => ?_)
    · obtain rfl : k = .first := by revert e; cases k <;> decide +kernel
      exact q _ t (same_upd ht) upd_same
    refine ite2 (fun e => ⟨_, ll hp, _, hatL, by decide, fun t ht => ?_⟩) (fun e4 => ?_)
    · obtain rfl : k = .last := by revert e; cases k <;> decide +kernel
      refine q _ t (same_upd ht) ?_
      show _ = some (HO.tup ((lastI (x :: r)).map V.int))
      rw [hlast]
      exact upd_same
    refine ite2 (fun e => ⟨_, ll hp, _, hat0, _, ll hp, _, hatL, by decide, fun t ht => ?_⟩) (fun e5 => ⟨Nat.zero_le _, fun o no => ?_⟩)
    · obtain rfl : k = .ends := by revert e; cases k <;> decide +kernel
      refine q _ t (same_upd ht) ?_
      show _ = some (HO.tup ((firstI (x :: r) ++ lastI (x :: r)).map V.int))
      rw [hlast]
      exact upd_same
    -- the loop
    have so := same_upd (o := .lst []) no
    have hp1 : upd H o (.lst []) p = some (.lst ((x :: r).map V.int)) := so _ _ hp
    generalize x :: r = xs at *
    have hlen : (turnI (decide (k.nm = "tails")) xs).length = xs.length := turnI_len _ xs
    have hget : ∀ j, j < xs.length → ∃ u, (turnI (decide (k.nm = "tails")) xs)[j]? = some u ∧ ((decide (k.nm = "tails")) = false → xs[j]? = some u) ∧ (decide (k.nm = "tails") = true → xs[xs.length - 1 - j]? = some u) := fun j hj => by
      generalize decide (k.nm = "tails") = b
      cases b with
      | false => exact ⟨xs[j], List.getElem?_eq_getElem hj, fun _ => List.getElem?_eq_getElem hj, fun z => Bool.noConfusion z⟩
      | true =>
        refine ⟨xs[xs.length - 1 - j]'(by omega), ?_, fun z => Bool.noConfusion z, fun _ => List.getElem?_eq_getElem _⟩
        show xs.reverse[j]? = _
        rw [List.getElem?_reverse hj, List.getElem?_eq_getElem]
    refine ⟨.ref p, rfl, p, rfl, xs.map V.int, .inl (ll hp1), ((xs.map V.int).length : Nat), rfl, by rw [List.length_map]; omega, by rw [List.length_map]; omega, ?_⟩
    rw [List.length_map]
    refine for_range (n := xs.length) (fun j σ H3 => ∃ y4 y5, σ = [some (.str k.nm), some (.ref p), some (.ref o), some (.bl (decide (k.nm = "tails"))), y4, y5] ∧ Same H H3 ∧ H3 o = some (.lst ((headsI ((turnI (decide (k.nm = "tails")) xs).take j)).map V.int))) ⟨none, none, rfl, so, upd_same⟩ ?_ ?_
    · rintro j σ H3 hj ⟨y4, y5, rfl, s3, ho⟩
      obtain ⟨u, h1, h2, h3⟩ := hget j hj
      have hj1 : xs[j]? = some xs[j] := List.getElem?_eq_getElem hj
      have hp3 := s3 _ _ hp
      have e6 := heads_take h1
      simp only [tSeq, tAsg, gName, tOp, rI, rI0, rU, tUn, tVar, tC, tCB, tCons, tNil, tTest, tIfS, tRet, tRetN, tDrop, tNext, tBreak, tCont, rEq, rNe, CDiv, CDivN, CMul, tBM, tBM0, tTup, tLst, tAug, tIf, tAnd, tOr, tNot, tAndV, tOrV, tNotV, tIsN, tNotN, tB, scal, tCall, cxK, cxKn, rIxT, rIxL, rIn, rAppend, rReverse, tVals, tDSetd, tDGet, tDGet1, tDGet2, tDIn, tDNotIn, rSortV, rSortT, rPop, rSortL, rSortT, tSl, tNoPart, tPart, List.append_nil, L2.start, List.map_cons, List.map_nil, List.length_cons, List.length_nil, List.replicate_succ, List.replicate_zero, List.cons_append, List.nil_append, Nat.reduceAdd, Nat.reduceSub, exists_eq, exists_eq', List.getElem?_cons_zero, List.getElem?_cons_succ, List.set_cons_zero, List.set_cons_succ, Option.some.injEq, V.int.injEq, V.bl.injEq, V.str.injEq, V.ref.injEq, List.cons.injEq, and_true, true_and, and_false, false_and, reduceCtorEq, exists_false, or_false, false_or, exists_and_left, exists_and_right, exists_eq_left, exists_eq_left', exists_eq_right, exists_eq_right', exists_const, ite_true, ite_false, Bool.false_eq_true, if_true, if_false, decide_true, decide_false]
      refine ⟨xs.map V.int, ll hp3, .int xs[j], at_of (j := j) (by omega) (by rw [List.getElem?_map, hj1]; rfl), ite2 ?A ?B⟩
      case' A =>
        intro e
        refine ⟨_, .inl (ll hp3), xs.map V.int, ll hp3, .int u, at_of (j := xs.length - 1 - j) (by rw [List.length_map]; omega) (by rw [List.getElem?_map, h3 e]; rfl), ?_⟩
      case' B =>
        intro e
        obtain rfl : xs[j] = u := Option.some.inj (hj1.symm.trans (h2 (Bool.eq_false_iff.mpr e)))
        generalize xs[j] = u at *
      all_goals
        refine ⟨_, .inl (SqL.of ho), rfl, ints_flat _, ?_⟩
        rw [inV_int, e6]
        unfold addI
        by_cases hm : u ∈ headsI ((turnI (decide (k.nm = "tails")) xs).take j)
        · rw [if_pos hm, if_neg (by simp [hm])]
          exact ⟨s3, ho⟩
        · rw [if_neg hm, if_pos (by simp [hm])]
          refine ⟨.inl ⟨rfl, _, SqL.of ho⟩, _, ho, ?_, fun b z e => ?_, ?_⟩
          · rw [List.length_map]
            refine small1000 (Nat.le_trans (headsI_len _) ?_)
            rw [List.length_take]
            omega
          · rw [upd_ne (ne_of_none e no)]
            exact s3 _ _ e
          · rw [upd_same, List.map_append]
            rfl
    · rintro σ H3 ⟨y4, y5, rfl, s3, ho⟩
      rw [List.take_of_length_le (by rw [hlen]; exact Nat.le_refl _)] at ho
      have s4 : ∀ z, Same H (upd H3 o z) := fun z b y e => by
        rw [upd_ne (ne_of_none e no)]
        exact s3 _ _ e
      simp only [tSeq, tAsg, gName, tOp, rI, rI0, rU, tUn, tVar, tC, tCB, tCons, tNil, tTest, tIfS, tRet, tRetN, tDrop, tNext, tBreak, tCont, rEq, rNe, CDiv, CDivN, CMul, tBM, tBM0, tTup, tLst, tAug, tIf, tAnd, tOr, tNot, tAndV, tOrV, tNotV, tIsN, tNotN, tB, scal, tCall, cxK, cxKn, rIxT, rIxL, rIn, rAppend, rReverse, tVals, tDSetd, tDGet, tDGet1, tDGet2, tDIn, tDNotIn, rSortV, rSortT, rPop, rSortL, rSortT, tSl, tNoPart, tPart, List.append_nil, L2.start, List.map_cons, List.map_nil, List.length_cons, List.length_nil, List.replicate_succ, List.replicate_zero, List.cons_append, List.nil_append, Nat.reduceAdd, Nat.reduceSub, exists_eq, exists_eq', List.getElem?_cons_zero, List.getElem?_cons_succ, List.set_cons_zero, List.set_cons_succ, Option.some.injEq, V.int.injEq, V.bl.injEq, V.str.injEq, V.ref.injEq, List.cons.injEq, and_true, true_and, and_false, false_and, reduceCtorEq, exists_false, or_false, false_or, exists_and_left, exists_and_right, exists_eq_left, exists_eq_left', exists_eq_right, exists_eq_right', exists_const, ite_true, ite_false, Bool.false_eq_true, if_true, if_false, decide_true, decide_false]
      refine ite2 (fun e => ?_) (fun e => ?_)
      · obtain rfl : k = .tails := by revert e; cases k <;> decide +kernel
        refine ⟨.inl ⟨rfl, _, SqL.of ho⟩, _, ho, ite2 (fun z => absurd z (by decide +kernel)) (fun _ => ⟨_, .inl ⟨SqL.of upd_same, fun t ht => ?_⟩⟩)⟩
        refine q _ t ((s4 _).trans (same_upd ht)) ?_
        rw [upd_same, ← List.map_reverse]
        rfl
      · refine ite2 (fun e7 => ⟨_, SqL.of ho, fun l hl' => ⟨_, .inl ⟨SqL.of upd_same, fun t ht => ?_⟩⟩⟩) (fun e7 => ⟨_, .inl ⟨SqL.of ho, fun t ht => ?_⟩⟩)
        · obtain rfl : k = .set := by revert e7; cases k <;> decide +kernel
          exact q _ t ((s3.trans (same_upd hl')).trans (same_upd ht)) upd_same
        · obtain rfl : k = .heads := by cases k <;> first | rfl | exact absurd (by decide +kernel) e1 | exact absurd (by decide +kernel) e2 | exact absurd (by decide +kernel) e3 | exact absurd (by decide +kernel) e4 | exact absurd (by decide +kernel) e5 | exact absurd (by decide +kernel) e | exact absurd (by decide +kernel) e7
          exact q _ t (s3.trans (same_upd ht)) upd_same
end
end Mv

set_option Elab.async false
set_option linter.all false
set_option maxRecDepth 100000
set_option maxHeartbeats 4000000
namespace Mv
open PySem PySem.Spec PyProof.Rows L2
theorem units65 {k : Nat} {A : Around} (r : Room k A) : A.units + 65 < cLine := by have := r.un; omega
abbrev sRow : Stmt := topS 32
theorem cutV_take (xs : List V) (k : Nat) : cutV xs none (some (k : Int)) = xs.take k := by
  unfold cutV
  rw [HT.sIx_nat]
  show (xs.drop 0).take (min k xs.length - 0) = _
  rw [List.drop_zero, Nat.sub_zero, ← List.take_eq_take_min]
theorem cutV_drop (xs : List V) (k : Nat) : cutV xs (some (k : Int)) none = xs.drop k := by
  unfold cutV
  rw [HT.sIx_nat]
  show (xs.drop (min k xs.length)).take (xs.length - min k xs.length) = _
  rcases Nat.le_total k xs.length with h | h
  · rw [Nat.min_eq_left h, List.take_of_length_le (by rw [List.length_drop]; exact Nat.le_refl _)]
  · rw [Nat.min_eq_right h, List.drop_length, List.take_nil, List.drop_of_length_le h]
theorem sl_takeR {K : PySem.W.Frag} {H : Hp} {l : Addr} {L : RL} {k : Nat} {m : Int} {Q : VK} (e : m = (k : Int)) (p : H l = some (.lst (vls L))) (a : All H L) (q : ∀ (o : Addr) (H' : Hp), Same H H' → H' o = some (.lst (vls (L.take k))) → All H' (L.take k) → Q (.ref o) H') : rSlL K (.ref l) none (some m) H Q := by
  subst e
  refine ⟨l, _, rfl, ll p, fun o ho => q o _ (same_upd ho) ?_ fun z hz => (a z (List.mem_of_mem_take hz)).same (same_upd ho)⟩
  unfold vls
  rw [upd_same, cutV_take, List.map_take]
theorem sl_dropR {K : PySem.W.Frag} {H : Hp} {l : Addr} {L : RL} {k : Nat} {m : Int} {Q : VK} (e : m = (k : Int)) (p : H l = some (.lst (vls L))) (a : All H L) (q : ∀ (o : Addr) (H' : Hp), Same H H' → H' o = some (.lst (vls (L.drop k))) → All H' (L.drop k) → Q (.ref o) H') : rSlL K (.ref l) (some m) none H Q := by
  subst e
  refine ⟨l, _, rfl, ll p, fun o ho => q o _ (same_upd ho) ?_ fun z hz => (a z (List.mem_of_mem_drop hz)).same (same_upd ho)⟩
  unfold vls
  rw [upd_same, cutV_drop, List.map_drop]
theorem stays_heads {es : List En} {i : Nat} {e : En} (h : es[i]? = some e) : stays .heads es i = if e.isH = true ∨ decide (e ∈ es.take i) = false then [e] else [] := by
  unfold stays
  rw [h]
  cases e with
  | v x =>
    show ok1 (es.take i) (.v x) = _
    rw [ok1_v]
    by_cases m : En.v x ∈ es.take i <;> simp [m, En.isH]
  | h a b => rfl
theorem stays_tails {es : List En} {i : Nat} {e : En} (h : es[i]? = some e) : stays .tails es i = if e.isH = true ∨ decide (e ∈ es.drop (i + 1)) = false then [e] else [] := by
  unfold stays
  rw [h]
  cases e with
  | v x =>
    show ok1 (es.drop (i + 1)) (.v x) = _
    rw [ok1_v]
    by_cases m : En.v x ∈ es.drop (i + 1) <;> simp [m, En.isH]
  | h a b => rfl
section
variable {P : Program} {w : World} {K : PySem.W.Frag} {mg : Str → Option Value} {base : Heap} {T : List (Addr × Str)} {cls : Kd → Addr} {CB : Addr}
theorem scRow : FnScope ["_law_kind_here", "_law_entries_here", "_law_word", "_law_entry", "_law_holes", "_law_row_here", "_law_place", "_law_gone"] ["_law_kind_here", "_law_entries_here"] (defScope sRow) := ⟨rfl, rfl, rfl, by decide +kernel, rfl, by decide +kernel, by decide +kernel⟩
def spRow : Sp := fun vs H Q _ => ∃ (k : Kd) (p : Addr) (R : RL), vs = [.str k.nm, .ref p] ∧ H p = some (.lst (vls R)) ∧ All H R ∧ R.length ≤ 100 ∧ ∀ (H' : Hp) (t : Addr) (S : RL), Same H H' → H' t = some (.tup (vls S)) → All H' S → ens S = rowI k (ens R) → Q (.ref t) H'
theorem ok_row {f : Addr} {fd : FuncData} (F : Fun K "_law_row" "_law_row" sRow f fd) (B : Bi mg) (cPlain : CalX CX0 P w K mg base 1 "_law_plain" (spPlain K)) : FnOk P w K mg base CX0 2 f fd ["_law_kind_here", "_law_entries_here"] spRow := by
  refine F.ok scRow (fun vs H Q E h => ?_) (fun cdv A outer s H vs Q E hr h => ?_)
  · obtain ⟨k, p, R, rfl, _⟩ := h
    rfl
  · obtain ⟨k, p, R, rfl, hp, al, hl, q⟩ := h
    refine ⟨_, (pss_cons (ps_setLc (i := 2) (own := [("_law_entry", 3)]) (g := gName 3) (tt := (tNot (tB (tCB (rIsi K) (tCons (tVar 3) (tCons (tC (V.ty "tuple")) tNil)))))) (te := (tVar 3)) rfl scRow.nd rfl rfl (sw_true rfl rfl rfl (by decide +kernel)) (pi_list (pv 1)) (blkOk_by (N := ["_law_kind_here", "_law_entries_here", "_law_word", "_law_entry", "_law_holes", "_law_row_here", "_law_place", "_law_gone"]) (sc := defScope sRow) (by decide +kernel)) (fun _ _ _ _ _ => (pg_name (i := 3) scRow.nd rfl (.inl rfl))) (fun _ _ _ _ _ => (pts_one (pt_not (pt_val (pe_callB (id := "isinstance") call_isi (by rfl) B.isinstance (by decide +kernel) (pa_cons (pv 3) (pa_cons (pe_bltn (by rfl) B.tuple (by decide +kernel) (v := .ty "tuple") rfl) pa_nil))))))) (fun _ _ _ _ _ => (pv 3)))
 (pss_cons (ps_setLc (i := 4) (own := [("_law_entry", 3)]) (g := gName 3) (tt := (tB (tCB (rIsi K) (tCons (tVar 3) (tCons (tC (V.ty "tuple")) tNil))))) (te := (tVar 3)) rfl scRow.nd rfl rfl (sw_true rfl rfl rfl (by decide +kernel)) (pi_list (pv 1)) (blkOk_by (N := ["_law_kind_here", "_law_entries_here", "_law_word", "_law_entry", "_law_holes", "_law_row_here", "_law_place", "_law_gone"]) (sc := defScope sRow) (by decide +kernel)) (fun _ _ _ _ _ => (pg_name (i := 3) scRow.nd rfl (.inl rfl))) (fun _ _ _ _ _ => (pts_one (pt_val (pe_callB (id := "isinstance") call_isi (by rfl) B.isinstance (by decide +kernel) (pa_cons (pv 3) (pa_cons (pe_bltn (by rfl) B.tuple (by decide +kernel) (v := .ty "tuple") rfl) pa_nil)))))) (fun _ _ _ _ _ => (pv 3)))
 (pss_cons (ps_if (pt_cmpR op_in_seq (pv 0) (pe_tup (pa_cons pe_str (pa_cons pe_str (pa_cons pe_str pa_nil)))) (by rfl))
 (pss_one (ps_ret (pe_cx cPlain hr (by decide) pass0 (by rfl) (pa_cons (pv 0) (pa_cons (pv 2) pa_nil))))) pss_nil)
 (pss_cons (ps_if (pt_cmpR op_in_seq (pv 0) (pe_tup (pa_cons pe_str (pa_cons pe_str pa_nil))) (by rfl))
 (pss_one (ps_ret (pe_op op_catA (pe_cx cPlain hr (by decide) pass0 (by rfl) (pa_cons (pv 0) (pa_cons (pv 2) pa_nil))) (pe_callTy call_tuple_of (by rfl) B.tuple (by decide +kernel) (pa_cons (pe_callB cr_sortedPO (by rfl) B.sorted (by decide +kernel) (pa_cons (pv 4) pa_nil)) pa_nil))))) pss_nil)
 (pss_cons (ps_set (i := 5) scRow.nd rfl (.inl rfl) (pe_lst pa_nil))
 (pss_cons (ps_for PassesOwn.never rfl (pi_range1 (by rfl) B.range (pa_cons (pe_callB call_len_seq (by rfl) B.len PySem.boot_len (pa_cons (pv 1) pa_nil)) pa_nil)) (pg_name (i := 6) scRow.nd rfl (.inl rfl))
 (pss_cons (ps_set (i := 3) scRow.nd rfl (.inl rfl) (pe_ix ix_list (pv 1) (pv 6) (fun _ _ => rfl)))
 (pss_cons (ps_set (i := 7) scRow.nd rfl (.inl rfl) pe_bl)
 (pss_cons (ps_if (pt_cmpR op_eq (pv 0) pe_str (nomark _))
 (pss_one (ps_set (i := 7) scRow.nd rfl (.inl rfl) (pe_cmpR (op_inD (units65 hr)) (pv 3) (pe_slice sl_list (pv 1) po_none (po_some (pv 6))) (by rfl)))) pss_nil)
 (pss_cons (ps_if (pt_cmpR op_eq (pv 0) pe_str (nomark _))
 (pss_one (ps_set (i := 7) scRow.nd rfl (.inl rfl) (pe_cmpR (op_inD (units65 hr)) (pv 3) (pe_slice sl_list (pv 1) (po_some (pe_op op_add (pv 6) pe_int)) po_none) (by rfl)))) pss_nil)
 (pss_one (ps_if (PW.pt (pw_or (pt_val (pe_callB (id := "isinstance") call_isi (by rfl) B.isinstance (by decide +kernel) (pa_cons (pv 3) (pa_cons (pe_bltn (by rfl) B.tuple (by decide +kernel) (v := .ty "tuple") rfl) pa_nil)))) (pw_or1 (pt_not (pt_val (pv 7))))))
 (pss_one (ps_expr (pe_bm PySem.F.plainAttrs_list PySem.F.slot_list_append PySem.F.type_list_append mt_append (pv 5) (pa_cons (pv 3) pa_nil)))) pss_nil)))))))
 (pss_one (ps_ret (pe_callTy call_tuple_of (by rfl) B.tuple (by decide +kernel) (pa_cons (pv 5) pa_nil)))))))))), ?_⟩
    try simp only [tSeq, tAsg, gName, tOp, rI, rI0, rU, tUn, tVar, tC, tCB, tCons, tNil, tTest, tIfS, tRet, tRetN, tDrop, tNext, tBreak, tCont, rEq, rNe, CDiv, CDivN, CMul, tBM, tBM0, tTup, tLst, tAug, tIf, tAnd, tOr, tNot, tAndV, tOrV, tNotV, tIsN, tNotN, tB, scal, tCall, cxK, cxKn, rIxT, rIxL, rIn, rAppend, rReverse, tVals, tDSetd, tDGet, tDGet1, tDGet2, tDIn, tDNotIn, rSortV, rSortT, rPop, rSortL, rSortT, tSl, tNoPart, tPart, List.append_nil, L2.start, List.map_cons, List.map_nil, List.length_cons, List.length_nil, List.replicate_succ, List.replicate_zero, List.cons_append, List.nil_append, Nat.reduceAdd, Nat.reduceSub, exists_eq, exists_eq', List.getElem?_cons_zero, List.getElem?_cons_succ, List.set_cons_zero, List.set_cons_succ, Option.some.injEq, V.int.injEq, V.bl.injEq, V.str.injEq, V.ref.injEq, List.cons.injEq, and_true, true_and, and_false, false_and, reduceCtorEq, exists_false, or_false, false_or, exists_and_left, exists_and_right, exists_eq_left, exists_eq_left', exists_eq_right, exists_eq_right', exists_const, ite_true, ite_false, Bool.false_eq_true, if_true, if_false, decide_true, decide_false]
    refine ⟨.ref p, rfl, p, rfl, ⟨_, ll hp⟩, fun D hD => lc_list (K := K) (xs := vls R) (fun i H' => Same H H' ∧ H' D = some (.lst ((vals ((ens R).take i)).map V.int))) ⟨same_upd hD, upd_same⟩ (fun i H' _ h => ll (h.1 _ _ hp)) ?_ ?_⟩
    · rintro i x H1 hx ⟨s1, hd⟩
      obtain ⟨e, he, rfl⟩ := vls_at hx
      have hil := (List.getElem?_eq_some_iff.mp he).1
      have ee : (ens R)[i]? = some e.2 := by
        unfold ens
        rw [List.getElem?_map, he]
        rfl
      have vl : (vals ((ens R).take i)).length ≤ i := Nat.le_trans (vals_len _) (by rw [List.length_take]; exact Nat.min_le_left _ _)
      refine ⟨rfl, ?_⟩
      simp only [tSeq, tAsg, gName, tOp, rI, rI0, rU, tUn, tVar, tC, tCB, tCons, tNil, tTest, tIfS, tRet, tRetN, tDrop, tNext, tBreak, tCont, rEq, rNe, CDiv, CDivN, CMul, tBM, tBM0, tTup, tLst, tAug, tIf, tAnd, tOr, tNot, tAndV, tOrV, tNotV, tIsN, tNotN, tB, scal, tCall, cxK, cxKn, rIxT, rIxL, rIn, rAppend, rReverse, tVals, tDSetd, tDGet, tDGet1, tDGet2, tDIn, tDNotIn, rSortV, rSortT, rPop, rSortL, rSortT, tSl, tNoPart, tPart, List.append_nil, L2.start, List.map_cons, List.map_nil, List.length_cons, List.length_nil, List.replicate_succ, List.replicate_zero, List.cons_append, List.nil_append, Nat.reduceAdd, Nat.reduceSub, exists_eq, exists_eq', wipe, List.getElem?_cons_zero, List.getElem?_cons_succ, List.set_cons_zero, List.set_cons_succ, Option.some.injEq, V.int.injEq, V.bl.injEq, V.str.injEq, V.ref.injEq, List.cons.injEq, and_true, true_and, and_false, false_and, reduceCtorEq, exists_false, or_false, false_or, exists_and_left, exists_and_right, exists_eq_left, exists_eq_left', exists_eq_right, exists_eq_right', exists_const, ite_true, ite_false, Bool.false_eq_true, if_true, if_false, decide_true, decide_false]
      have hev := (al e (List.mem_of_getElem? he)).same s1
      refine isi_tup hev ⟨_, rfl, ?_⟩
      rw [List.take_add_one, ee, Option.toList_some, vals_app]
      obtain ⟨x, en⟩ := e
      cases hev with
      | v x =>
        refine if_T rfl ⟨_, hd, by rw [List.length_map]; exact small1000 (by omega), fun b o e => ?_, ?_⟩
        · rw [upd_ne (ne_of_none e hD)]
          exact s1 _ _ e
        · rw [upd_same, List.map_append]
          rfl
      | h e =>
        refine if_F rfl ⟨s1, ?_⟩
        rw [hd]
        show _ = some (HO.lst ((_ ++ []).map V.int))
        rw [List.append_nil]
    rintro H1 ⟨s1, hd⟩
    rw [List.take_of_length_le (by unfold ens vls; rw [List.length_map, List.length_map]; exact Nat.le_refl _)] at hd
    refine ⟨.ref p, rfl, p, rfl, ⟨_, ll (s1 _ _ hp)⟩, fun D2 hD2 => lc_list (K := K) (xs := vls R) (fun i H' => Same H1 H' ∧ H' D2 = some (.lst (vls (hls (R.take i))))) ⟨same_upd hD2, upd_same⟩ (fun i H' _ h => ll (h.1 _ _ (s1 _ _ hp))) ?_ ?_⟩
    · rintro i x H2 hx ⟨s2, hd2⟩
      obtain ⟨e, he, rfl⟩ := vls_at hx
      have hil := (List.getElem?_eq_some_iff.mp he).1
      have vl : (vls (hls (R.take i))).length ≤ i := by
        unfold vls hls
        rw [List.length_map]
        exact Nat.le_trans (List.length_filter_le _ _) (by rw [List.length_take]; exact Nat.min_le_left _ _)
      refine ⟨rfl, ?_⟩
      simp only [tSeq, tAsg, gName, tOp, rI, rI0, rU, tUn, tVar, tC, tCB, tCons, tNil, tTest, tIfS, tRet, tRetN, tDrop, tNext, tBreak, tCont, rEq, rNe, CDiv, CDivN, CMul, tBM, tBM0, tTup, tLst, tAug, tIf, tAnd, tOr, tNot, tAndV, tOrV, tNotV, tIsN, tNotN, tB, scal, tCall, cxK, cxKn, rIxT, rIxL, rIn, rAppend, rReverse, tVals, tDSetd, tDGet, tDGet1, tDGet2, tDIn, tDNotIn, rSortV, rSortT, rPop, rSortL, rSortT, tSl, tNoPart, tPart, List.append_nil, L2.start, List.map_cons, List.map_nil, List.length_cons, List.length_nil, List.replicate_succ, List.replicate_zero, List.cons_append, List.nil_append, Nat.reduceAdd, Nat.reduceSub, exists_eq, exists_eq', wipe, List.getElem?_cons_zero, List.getElem?_cons_succ, List.set_cons_zero, List.set_cons_succ, Option.some.injEq, V.int.injEq, V.bl.injEq, V.str.injEq, V.ref.injEq, List.cons.injEq, and_true, true_and, and_false, false_and, reduceCtorEq, exists_false, or_false, false_or, exists_and_left, exists_and_right, exists_eq_left, exists_eq_left', exists_eq_right, exists_eq_right', exists_const, ite_true, ite_false, Bool.false_eq_true, if_true, if_false, decide_true, decide_false]
      have hev := (al e (List.mem_of_getElem? he)).same (s1.trans s2)
      refine isi_tup hev ⟨_, rfl, ?_⟩
      have es : hls (R.take (i + 1)) = hls (R.take i) ++ if e.2.isH = true then [e] else [] := by
        unfold hls
        rw [List.take_add_one, he, List.filter_append]
        congr 1
        exact List.filter_cons.trans (by simp)
      rw [es]
      refine ite2 (fun eh => ?_) (fun eh => ?_)
      · rw [if_pos eh, vls_app]
        refine ⟨_, hd2, exact_small vl (by omega), fun b o e => ?_, ?_⟩
        · rw [upd_ne (ne_of_none e hD2)]
          exact s2 _ _ e
        · rw [upd_same]
          rfl
      · rw [if_neg eh, List.append_nil]
        exact ⟨s2, hd2⟩
    rintro H2 ⟨s2, hd2⟩
    rw [List.take_of_length_le (by unfold vls; rw [List.length_map]; exact Nat.le_refl _)] at hd2
    have s12 := s1.trans s2
    have hd1 := s2 _ _ hd
    have vl := vals_len (ens R)
    have hol := hols_len (ens R)
    rw [ens_len] at vl hol
    have pl := plain_len k (vals (ens R))
    refine ⟨by decide, fun p1 h1 => ⟨_, .inr (tt upd_same), rfl, rfl, ite2 (fun e => ?_) (fun e1 => ?_)⟩⟩
    · have s3 := same_upd (o := .tup [.str "first", .str "last", .str "ends"]) h1
      refine ⟨k, D, vals (ens R), rfl, s3 _ _ hd1, by omega, fun H3 t s4 h4 => ?_⟩
      refine q H3 t (vR (plainI k (vals (ens R)))) ((s12.trans s3).trans s4) (by rw [vls_vR]; exact h4) (all_vR _ _) ?_
      rw [ens_vR]
      revert e
      cases k <;> intro e <;> first | rfl | exact absurd e (by decide +kernel)
    have s3 := same_upd (o := .tup [.str "first", .str "last", .str "ends"]) h1
    refine ⟨by decide, fun p2 h2 => ⟨_, .inr (tt upd_same), rfl, rfl, ite2 (fun e => ?_) (fun e2 => ?_)⟩⟩
    · have s4 := s3.trans (same_upd (o := .tup [.str "bag", .str "set"]) h2)
      refine ⟨k, D, vals (ens R), rfl, s4 _ _ hd1, by omega, fun H3 t s5 h3 => ?_⟩
      have s05 := s12.trans (s4.trans s5)
      have al4 := al.same s05
      refine ⟨D2, vls (hls R), hk H3, rfl, ll ((s4.trans s5) _ _ hd2), hk_ref al4, fun ys p3 hs hb hp3 => ?_⟩
      obtain ⟨S, rfl, alS, eS, lS⟩ := hk_sorted al4 hs hb
      have s6 := same_upd (o := .lst (vls S)) hp3
      refine ⟨p3, rfl, _, .inl ⟨ll upd_same, fun t5 h5 => ?_⟩⟩
      have s7 := same_upd (o := .tup (vls S)) h5
      have s67 := s6.trans s7
      refine cat_tups (s67 _ _ h3) (upd_same (a := t5)) (by unfold vls; rw [List.length_map, List.length_map]; omega) fun z H7 s8 h7 => ?_
      have s68 := s67.trans s8
      refine q H7 z (vR (plainI k (vals (ens R))) ++ S) (s05.trans s68) (by rw [vls_app, vls_vR]; exact h7) ((all_vR _ _).app (alS.same s68)) ?_
      rw [ens_app, ens_vR, eS]
      revert e
      cases k <;> intro e <;> first | rfl | exact absurd e (by decide +kernel)
    have hkk : k = .list ∨ k = .heads ∨ k = .tails := by
      revert e1 e2
      cases k <;> intro e1 e2 <;> first | exact .inl rfl | exact .inr (.inl rfl) | exact .inr (.inr rfl) | exact absurd (by decide +kernel) e1 | exact absurd (by decide +kernel) e2
    have s4 := s12.trans (s3.trans (same_upd (o := .tup [.str "bag", .str "set"]) h2))
    generalize upd (upd H2 p1 _) p2 _ = H3 at s4 ⊢
    refine ⟨Nat.zero_le _, fun D3 hD3 => ?_⟩
    have ac0 := Acc.new hD3
    refine ⟨.ref p, rfl, p, rfl, _, .inl (ll (ac0.1 _ _ (s4 _ _ hp))), _, rfl, by unfold vls; rw [List.length_map]; omega, by unfold vls; rw [List.length_map]; omega, ?_⟩
    rw [show (vls R).length = (ens R).length by unfold vls ens; rw [List.length_map, List.length_map]]
    refine for_range (n := (ens R).length) (fun i σ H' => ∃ (y3 y6 y7 : Option V), σ = [some (.str k.nm), some (.ref p), some (.ref D), y3, some (.ref D2), some (.ref D3), y6, y7] ∧ Acc H3 D3 H' (part k (ens R) i)) ⟨none, none, none, rfl, by cases k <;> exact ac0⟩ ?_ ?_
    · rintro i σ H4 hi ⟨y3, y6, y7, rfl, ac⟩
      have s5 := s4.trans ac.1
      have hp4 := s5 _ _ hp
      have al4 := al.same s5
      simp only [tSeq, tAsg, gName, tOp, rI, rI0, rU, tUn, tVar, tC, tCB, tCons, tNil, tTest, tIfS, tRet, tRetN, tDrop, tNext, tBreak, tCont, rEq, rNe, CDiv, CDivN, CMul, tBM, tBM0, tTup, tLst, tAug, tIf, tAnd, tOr, tNot, tAndV, tOrV, tNotV, tIsN, tNotN, tB, scal, tCall, cxK, cxKn, rIxT, rIxL, rIn, rAppend, rReverse, tVals, tDSetd, tDGet, tDGet1, tDGet2, tDIn, tDNotIn, rSortV, rSortT, rPop, rSortL, rSortT, tSl, tNoPart, tPart, List.append_nil, L2.start, List.map_cons, List.map_nil, List.length_cons, List.length_nil, List.replicate_succ, List.replicate_zero, List.cons_append, List.nil_append, Nat.reduceAdd, Nat.reduceSub, exists_eq, exists_eq', List.getElem?_cons_zero, List.getElem?_cons_succ, List.set_cons_zero, List.set_cons_succ, Option.some.injEq, V.int.injEq, V.bl.injEq, V.str.injEq, V.ref.injEq, List.cons.injEq, and_true, true_and, and_false, false_and, reduceCtorEq, exists_false, or_false, false_or, exists_and_left, exists_and_right, exists_eq_left, exists_eq_left', exists_eq_right, exists_eq_right', exists_const, ite_true, ite_false, Bool.false_eq_true, if_true, if_false, decide_true, decide_false]
      have hil : i < R.length := by
        rw [← ens_len]
        exact hi
      have he : R[i]? = some R[i] := List.getElem?_eq_getElem hil
      generalize R[i] = en at he
      have ee : (ens R)[i]? = some en.2 := by
        unfold ens
        rw [List.getElem?_map, he]
        rfl
      have fin : ∀ (H5 : Hp) (b : Bool), Acc H3 D3 H5 (part k (ens R) i) → EnV H5 en.1 en.2 → (stays k (ens R) i = if en.2.isH = true ∨ b = false then [en.2] else []) → rIsi K [en.1, V.ty "tuple"] H5 fun x_2 H1 => ∃ c, x_2 = V.bl c ∧ if c = true then (tyV K "list" (V.ref D3) H1 ∧ ∃ x, H1 D3 = some (HO.lst x) ∧ x.length < sizeLine ∧ Acc H3 D3 (upd H1 D3 (HO.lst (x ++ [en.1]))) (part k (ens R) (i + 1))) else if (!b) = true then (tyV K "list" (V.ref D3) H1 ∧ ∃ x, H1 D3 = some (HO.lst x) ∧ x.length < sizeLine ∧ Acc H3 D3 (upd H1 D3 (HO.lst (x ++ [en.1]))) (part k (ens R) (i + 1))) else Acc H3 D3 H1 (part k (ens R) (i + 1)) := by
        intro H5 b ac5 hev est
        have pln : (part k (ens R) i).length ≤ 990 := by
          obtain ⟨_, S, _, _, _⟩ := ac5
          have : ∀ j, j ≤ (ens R).length → (part k (ens R) j).length ≤ j := by
            intro j
            induction j with
            | zero => intro _; cases k <;> exact Nat.le_refl _
            | succ j ih =>
              intro hj
              rw [part_succ (by omega), List.length_append]
              have h1 := ih (by omega)
              have h2 : (stays k (ens R) j).length ≤ 1 := by
                unfold stays
                cases (ens R)[j]? with
                | none => exact Nat.zero_le _
                | some e => cases k <;> first | exact Nat.le_refl _ | (cases e <;> first | exact Nat.le_refl _ | (show (ok1 _ _).length ≤ 1; rw [ok1_v]; split <;> simp))
              omega
          have := this i (by omega)
          rw [ens_len] at hi
          omega
        have add : stays k (ens R) i = [en.2] → tyV K "list" (V.ref D3) H5 ∧ ∃ x, H5 D3 = some (HO.lst x) ∧ x.length < sizeLine ∧ Acc H3 D3 (upd H5 D3 (HO.lst (x ++ [en.1]))) (part k (ens R) (i + 1)) := fun es1 => by
          obtain ⟨xs, e1, e2, ac2⟩ := ac5.push hD3 pln hev
          rw [part_succ hi, es1]
          exact ⟨.inl ⟨rfl, _, ll e1⟩, xs, e1, e2, ac2⟩
        refine isi_tup hev ⟨_, rfl, ite2 (fun c => add (by rw [est, if_pos (.inl c)])) (fun c => ite2 (fun c2 => add (by rw [est, if_pos (.inr (by revert c2; cases b <;> decide))])) (fun c2 => ?_))⟩
        rw [part_succ hi, est, if_neg, List.append_nil]
        · exact ac5
        · rintro (z | z)
          · exact c z
          · exact c2 (by rw [z]; rfl)
      refine ⟨_, ll hp4, en.1, by rw [Int.zero_add]; exact atI_nat (by unfold vls; rw [List.getElem?_map, he]; rfl), ite2 (fun e => ?_) (fun e => ?_)⟩
      · obtain rfl : k = .heads := by revert e; cases k <;> decide +kernel
        refine sl_takeR (k := i) (by omega) hp4 al4 fun o H5 s6 ho ao => ?_
        have hev := (al4 en (List.mem_of_getElem? he)).same s6
        refine ⟨enD en.2, _, hev.dp, dp_l (ll ho) ao, enD_shaped _, enDs_shaped _, if_F (by decide +kernel) ?_⟩
        have := fin H5 (decide (en.2 ∈ ens (R.take i))) (ac.same s6) hev (by rw [stays_heads ee]; unfold ens; rw [List.map_take])
        rw [any_enD]
        simp only [V.bl.injEq, exists_eq_left']
        exact this
      · refine ite2 (fun e' => ?_) (fun e' => ?_)
        · obtain rfl : k = .tails := by revert e'; cases k <;> decide +kernel
          refine sl_dropR (k := i + 1) (by omega) hp4 al4 fun o H5 s6 ho ao => ?_
          have hev := (al4 en (List.mem_of_getElem? he)).same s6
          refine ⟨enD en.2, _, hev.dp, dp_l (ll ho) ao, enD_shaped _, enDs_shaped _, ?_⟩
          have := fin H5 (decide (en.2 ∈ ens (R.drop (i + 1)))) (ac.same s6) hev (by rw [stays_tails ee]; unfold ens; rw [List.map_drop])
          rw [any_enD]
          simp only [V.bl.injEq, exists_eq_left']
          exact this
        · obtain rfl : k = .list := by revert e e' hkk; cases k <;> intro hkk e e' <;> first | rfl | exact absurd (by decide +kernel) e | exact absurd (by decide +kernel) e' | (rcases hkk with h | h | h <;> cases h)
          refine fin H4 false ac (al4 en (List.mem_of_getElem? he)) ?_
          rw [if_pos (.inr rfl)]
          unfold stays
          rw [ee]
    · rintro σ H4 ⟨y3, y6, y7, rfl, s5, S, h5, a5, e5⟩
      rw [part_all hkk] at e5
      simp only [tSeq, tAsg, gName, tOp, rI, rI0, rU, tUn, tVar, tC, tCB, tCons, tNil, tTest, tIfS, tRet, tRetN, tDrop, tNext, tBreak, tCont, rEq, rNe, CDiv, CDivN, CMul, tBM, tBM0, tTup, tLst, tAug, tIf, tAnd, tOr, tNot, tAndV, tOrV, tNotV, tIsN, tNotN, tB, scal, tCall, cxK, cxKn, rIxT, rIxL, rIn, rAppend, rReverse, tVals, tDSetd, tDGet, tDGet1, tDGet2, tDIn, tDNotIn, rSortV, rSortT, rPop, rSortL, rSortT, tSl, tNoPart, tPart, List.append_nil, L2.start, List.map_cons, List.map_nil, List.length_cons, List.length_nil, List.replicate_succ, List.replicate_zero, List.cons_append, List.nil_append, Nat.reduceAdd, Nat.reduceSub, exists_eq, exists_eq', List.getElem?_cons_zero, List.getElem?_cons_succ, List.set_cons_zero, List.set_cons_succ, Option.some.injEq, V.int.injEq, V.bl.injEq, V.str.injEq, V.ref.injEq, List.cons.injEq, and_true, true_and, and_false, false_and, reduceCtorEq, exists_false, or_false, false_or, exists_and_left, exists_and_right, exists_eq_left, exists_eq_left', exists_eq_right, exists_eq_right', exists_const, ite_true, ite_false, Bool.false_eq_true, if_true, if_false, decide_true, decide_false]
      refine ⟨_, .inl ⟨ll h5, fun t ht => ?_⟩⟩
      exact q _ t S ((s4.trans s5).trans (same_upd ht)) upd_same (a5.same (same_upd ht)) e5
end
end Mv

set_option Elab.async false
set_option linter.all false
set_option maxRecDepth 100000
set_option maxHeartbeats 4000000
namespace Mv
open PySem PySem.Spec PyProof.Rows L2
abbrev sEnt : Stmt := topS 36
abbrev sFills : Stmt := topS 37
def HPos (es : List En) : Prop := ∀ q ∈ hols es, q.1 < q.2
theorem none_of {a b : Addr} {H H1 : Hp} (hs : Strm H1 a) (x : Sx a H H1) (h : H1 b = none) : H b = none ∧ b ≠ a := by
  have ne : b ≠ a := fun z => by
    subst z
    obtain ⟨zs, e, _⟩ := hs
    rw [e] at h
    cases h
  refine ⟨?_, ne⟩
  cases e : H b with
  | none => rfl
  | some o =>
    rw [x _ _ ne e] at h
    cases h
/-- a list that grows beside the stream -/
def AccS (a : Addr) (H : Hp) (D : Addr) (H1 : Hp) (es : List En) : Prop := Sx a H H1 ∧ Strm H1 a ∧ H D = none ∧ D ≠ a ∧ ∃ S : RL, H1 D = some (.lst (vls S)) ∧ All H1 S ∧ ens S = es
theorem AccS.same {a D : Addr} {H H1 H2 : Hp} {es : List En} (h : AccS a H D H1 es) (s : Same H1 H2) : AccS a H D H2 es := by
  obtain ⟨x, t, n, ne, S, h1, al, e⟩ := h
  exact ⟨x.trans (Sx.of s), t.same s, n, ne, S, s _ _ h1, al.same s, e⟩
theorem AccS.wr {a D : Addr} {H H1 H2 : Hp} {es : List En} (h : AccS a H D H1 es) (x2 : Sx a H1 H2) (t2 : Strm H2 a) : AccS a H D H2 es := by
  obtain ⟨x, t, n, ne, S, h1, al, e⟩ := h
  obtain ⟨ns, ea, _⟩ := t
  exact ⟨x.trans x2, t2, n, ne, S, x2 _ _ ne h1, al.wr ea x2, e⟩
theorem AccS.push {a D : Addr} {H H1 : Hp} {es : List En} {x : V} {e : En} (h : AccS a H D H1 es) (hl : es.length ≤ 990) (he : EnV H1 x e) : ∃ xs, H1 D = some (.lst xs) ∧ xs.length < sizeLine ∧ AccS a H D (upd H1 D (.lst (xs ++ [x]))) (es ++ [e]) := by
  obtain ⟨x1, t, n, ne, S, h1, al, rfl⟩ := h
  refine ⟨_, h1, ?_, fun b o nb z => ?_, ?_, n, ne, S ++ [(x, e)], by rw [upd_same, vls_app]; rfl, (al.app fun p hp => by rw [List.mem_singleton.mp hp]; exact he).wr h1 Sx.upd, by rw [ens_app]; rfl⟩
  · rw [ens_len] at hl
    unfold vls
    rw [List.length_map]
    exact small1000 (by omega)
  · rw [upd_ne (ne_of_none z n)]
    exact x1 _ _ nb z
  · obtain ⟨ns, e, l⟩ := t
    exact ⟨ns, by rw [upd_ne ne.symm]; exact e, l⟩
theorem HPos.v {es : List En} (h : HPos es) (x : Int) : HPos (es ++ [.v x]) := fun q hq => by
  rw [hols_app] at hq
  exact h q ((List.mem_append.mp hq).elim id fun z => by cases z)
theorem HPos.h {es : List En} (h : HPos es) {a b : Int} (l : a < b) : HPos (es ++ [.h a b]) := fun q hq => by
  rw [hols_app] at hq
  rcases List.mem_append.mp hq with hq | hq
  · exact h q hq
  · rw [List.mem_singleton.mp hq]
    exact l
section
variable {P : Program} {w : World} {K : PySem.W.Frag} {mg : Str → Option Value} {base : Heap} {T : List (Addr × Str)} {cls : Kd → Addr} {CB : Addr}
theorem scEnt : FnScope ["_law_stream_here", "_law_number", "_law_style", "_law_entries_here", "_law_turn", "_law_lack"] ["_law_stream_here", "_law_number", "_law_style"] (defScope sEnt) := ⟨rfl, rfl, rfl, by decide +kernel, rfl, by decide +kernel, by decide +kernel⟩
def spEnt : Sp := fun vs H Q _ => ∃ (a : Addr) (n z : Int), vs = [.ref a, .int n, .int z] ∧ Strm H a ∧ ∀ (H' : Hp) (t l : Addr) (R : RL) (m : Int), Sx a H H' → Strm H' a → l ≠ a → t ≠ a → H' t = some (.tup [.ref l, .int m]) → H' l = some (.lst (vls R)) → All H' R → R.length ≤ 11 → HPos (ens R) → Q (.ref t) H'
theorem ok_ent {f : Addr} {fd : FuncData} (F : Fun K "_law_entries" "_law_entries" sEnt f fd) (B : Bi mg) (cDraw : CalX CX0 P w K mg base 1 "_law_draw" spDraw) (cValue : CalX CX0 P w K mg base 3 "_law_value" spValue) : FnOk P w K mg base CX0 4 f fd ["_law_stream_here", "_law_number", "_law_style"] spEnt := by
  refine F.ok scEnt (fun vs H Q E h => ?_) (fun cdv A outer s H vs Q E hr h => ?_)
  · obtain ⟨a, n, z, rfl, _⟩ := h
    rfl
  · obtain ⟨a, n, z, rfl, hs, q⟩ := h
    refine ⟨_, (pss_cons (ps_set (i := 3) scEnt.nd rfl (.inl rfl) (pe_lst (pa_cons (pe_cx cValue hr (by decide) pass0 (by rfl) (pa_cons (pv 0) (pa_cons (pv 2) pa_nil))) pa_nil)))
 (pss_cons (ps_set (i := 1) scEnt.nd rfl (.inl rfl) (pe_op op_add (pv 1) pe_int))
 (pss_cons (ps_for PassesOwn.never rfl (pi_range1 (by rfl) B.range (pa_cons (pe_cx cDraw hr (by decide) pass0 (by rfl) (pa_cons (pv 0) (pa_cons pe_int pa_nil))) pa_nil)) (pg_name (i := 4) scEnt.nd rfl (.inl rfl))
 (pss_cons (ps_set (i := 5) scEnt.nd rfl (.inl rfl) (pe_ix ix_tup (pe_tup (pa_cons pe_int (pa_cons pe_int (pa_cons pe_int (pa_cons pe_int (pa_cons pe_int pa_nil)))))) (pe_cx cDraw hr (by decide) pass0 (by rfl) (pa_cons (pv 0) (pa_cons pe_int pa_nil))) (fun _ _ => rfl)))
 (pss_cons (ps_if (pt_cmpR op_gt (pv 5) pe_int (nomark _))
 (pss_one (ps_expr (pe_bm PySem.F.plainAttrs_list PySem.F.slot_list_append PySem.F.type_list_append mt_append (pv 3) (pa_cons (pe_tup (pa_cons (pv 1) (pa_cons (pe_op op_add (pv 1) (pv 5)) pa_nil))) pa_nil)))) pss_nil)
 (pss_cons (ps_expr (pe_bm PySem.F.plainAttrs_list PySem.F.slot_list_append PySem.F.type_list_append mt_append (pv 3) (pa_cons (pe_cx cValue hr (by decide) pass0 (by rfl) (pa_cons (pv 0) (pa_cons (pv 2) pa_nil))) pa_nil)))
 (pss_one (ps_set (i := 1) scEnt.nd rfl (.inl rfl) (pe_op op_add (pe_op op_add (pv 1) (pv 5)) pe_int)))))))
 (pss_one (ps_ret (pe_tup (pa_cons (pv 3) (pa_cons (pv 1) pa_nil)))))))), ?_⟩
    try simp only [tSeq, tAsg, gName, tOp, rI, rI0, rU, tUn, tVar, tC, tCB, tCons, tNil, tTest, tIfS, tRet, tRetN, tDrop, tNext, tBreak, tCont, rEq, rNe, CDiv, CDivN, CMul, tBM, tBM0, tTup, tLst, tAug, tIf, tAnd, tOr, tNot, tAndV, tOrV, tNotV, tIsN, tNotN, tB, scal, tCall, cxK, cxKn, rIxT, rIxL, rIn, rAppend, rReverse, tVals, tDSetd, tDGet, tDGet1, tDGet2, tDIn, tDNotIn, rSortV, rSortT, rPop, rSortL, rSortT, tSl, tNoPart, tPart, List.append_nil, L2.start, List.map_cons, List.map_nil, List.length_cons, List.length_nil, List.replicate_succ, List.replicate_zero, List.cons_append, List.nil_append, Nat.reduceAdd, Nat.reduceSub, exists_eq, exists_eq', List.getElem?_cons_zero, List.getElem?_cons_succ, List.set_cons_zero, List.set_cons_succ, Option.some.injEq, V.int.injEq, V.bl.injEq, V.str.injEq, V.ref.injEq, List.cons.injEq, and_true, true_and, and_false, false_and, reduceCtorEq, exists_false, or_false, false_or, exists_and_left, exists_and_right, exists_eq_left, exists_eq_left', exists_eq_right, exists_eq_right', exists_const, ite_true, ite_false, Bool.false_eq_true, if_true, if_false, decide_true, decide_false]
    refine ⟨a, z, rfl, hs, fun r H1 x1 t1 => ⟨by decide, fun D hD1 => ?_⟩⟩
    obtain ⟨hD, neD⟩ := none_of t1 x1 hD1
    have ac0 : AccS a H D (upd H1 D (.lst [.int r])) [.v r] := ⟨x1.trans (Sx.of (same_upd hD1)), t1.same (same_upd hD1), hD, neD, [(.int r, .v r)], upd_same, fun p hp => by rw [List.mem_singleton.mp hp]; exact .v r, rfl⟩
    generalize upd H1 D _ = H2 at ac0 ⊢
    refine ⟨.ref a, rfl, ⟨a, 6, rfl, by decide, ac0.2.1, fun c H3 hc0 hc1 x3 t3 => ?_⟩⟩
    have ac1 := ac0.wr x3 t3
    obtain ⟨c, rfl⟩ := Int.eq_ofNat_of_zero_le hc0
    refine ⟨(c : Int), rfl, by omega, by omega, ?_⟩
    rw [Int.toNat_natCast]
    refine for_range (n := c) (fun i σ H' => ∃ (m : Int) (y4 y5 : Option V) (es : List En), σ = [some (.ref a), some (.int m), some (.int z), some (.ref D), y4, y5] ∧ AccS a H D H' es ∧ es.length ≤ 1 + 2 * i ∧ HPos es) ⟨_, none, none, _, rfl, ac1, Nat.le_refl _, fun q hq => (by cases hq)⟩ ?_ ?_
    · rintro i σ H4 hi ⟨m, y4, y5, es, rfl, ac, le, ps⟩
      simp only [tSeq, tAsg, gName, tOp, rI, rI0, rU, tUn, tVar, tC, tCB, tCons, tNil, tTest, tIfS, tRet, tRetN, tDrop, tNext, tBreak, tCont, rEq, rNe, CDiv, CDivN, CMul, tBM, tBM0, tTup, tLst, tAug, tIf, tAnd, tOr, tNot, tAndV, tOrV, tNotV, tIsN, tNotN, tB, scal, tCall, cxK, cxKn, rIxT, rIxL, rIn, rAppend, rReverse, tVals, tDSetd, tDGet, tDGet1, tDGet2, tDIn, tDNotIn, rSortV, rSortT, rPop, rSortL, rSortT, tSl, tNoPart, tPart, List.append_nil, L2.start, List.map_cons, List.map_nil, List.length_cons, List.length_nil, List.replicate_succ, List.replicate_zero, List.cons_append, List.nil_append, Nat.reduceAdd, Nat.reduceSub, exists_eq, exists_eq', List.getElem?_cons_zero, List.getElem?_cons_succ, List.set_cons_zero, List.set_cons_succ, Option.some.injEq, V.int.injEq, V.bl.injEq, V.str.injEq, V.ref.injEq, List.cons.injEq, and_true, true_and, and_false, false_and, reduceCtorEq, exists_false, or_false, false_or, exists_and_left, exists_and_right, exists_eq_left, exists_eq_left', exists_eq_right, exists_eq_right', exists_const, ite_true, ite_false, Bool.false_eq_true, if_true, if_false, decide_true, decide_false]
      refine ⟨by decide, fun p5 hp5 => ?_⟩
      have sp := same_upd (o := .tup [.int 0, .int 0, .int 1, .int 2, .int 5]) hp5
      have ne5 := (none_of ac.2.1 ac.1 hp5).2
      have ac5 := ac.same sp
      have hT : upd H4 p5 (.tup [.int 0, .int 0, .int 1, .int 2, .int 5]) p5 = some (.tup ([0, 0, 1, 2, 5].map V.int)) := upd_same
      generalize upd H4 p5 _ = H5 at ac5 hT ⊢
      refine spDraw_of (by decide) ac5.2.1 fun j H6 hj0 hj1 x6 t6 => ?_
      have ac6 := ac5.wr x6 t6
      obtain ⟨j, rfl⟩ := Int.eq_ofNat_of_zero_le hj0
      have hT6 := x6 _ _ ne5 hT
      have hjl : j < [(0 : Int), 0, 1, 2, 5].length := by
        show j < 5
        omega
      have hjy : ([(0 : Int), 0, 1, 2, 5].map V.int)[j]? = some (.int ([(0 : Int), 0, 1, 2, 5][j])) := by
        rw [List.getElem?_map, List.getElem?_eq_getElem hjl]
        rfl
      generalize [(0 : Int), 0, 1, 2, 5][j] = y at hjy
      have fin : ∀ (H7 : Hp) (es7 : List En), AccS a H D H7 es7 → es7.length ≤ 2 + 2 * i → HPos es7 → tyV K "list" (V.ref D) H7 ∧ spValue [V.ref a, V.int z] H7 (fun x H1 => ∃ x_3, H1 D = some (HO.lst x_3) ∧ x_3.length < sizeLine ∧ (∃ x, V.int y = V.int x) ∧ ∃ x_4, AccS a H D (upd H1 D (HO.lst (x_3 ++ [x]))) x_4 ∧ x_4.length ≤ 1 + 2 * (i + 1) ∧ HPos x_4) E0 := by
        intro H7 es7 ac7 l7 p7
        refine ⟨.inl ⟨rfl, _, ll ac7.2.2.2.2.choose_spec.1⟩, a, z, rfl, ac7.2.1, fun r H8 x8 t8 => ?_⟩
        obtain ⟨xs, e1, e2, ac8⟩ := (ac7.wr x8 t8).push (by omega) (EnV.v r)
        exact ⟨xs, e1, e2, ⟨y, rfl⟩, _, ac8, by rw [List.length_append, List.length_singleton]; omega, p7.v r⟩
      refine ⟨_, _, rfl, tt hT6, _, atI_nat hjy, y, rfl, ite2 (fun c => ?_) (fun c => fin H6 es ac6 (by omega) ps)⟩
      refine ⟨.inl ⟨rfl, _, ll ac6.2.2.2.2.choose_spec.1⟩, y, rfl, by decide, fun p7 hp7 => ?_⟩
      obtain ⟨xs, e1, e2, ac8⟩ := (ac6.same (same_upd (o := .tup [.int m, .int (m + y)]) hp7)).push (by omega) (EnV.h upd_same)
      refine ⟨xs, e1, e2, fin _ _ ac8 (by rw [List.length_append, List.length_singleton]; omega) (ps.h (by have := of_decide_eq_true c; omega))⟩
    · rintro σ H4 ⟨m, y4, y5, es, rfl, ⟨x4, t4, n4, ne4, S, h4, a4, rfl⟩, le, ps⟩
      simp only [tSeq, tAsg, gName, tOp, rI, rI0, rU, tUn, tVar, tC, tCB, tCons, tNil, tTest, tIfS, tRet, tRetN, tDrop, tNext, tBreak, tCont, rEq, rNe, CDiv, CDivN, CMul, tBM, tBM0, tTup, tLst, tAug, tIf, tAnd, tOr, tNot, tAndV, tOrV, tNotV, tIsN, tNotN, tB, scal, tCall, cxK, cxKn, rIxT, rIxL, rIn, rAppend, rReverse, tVals, tDSetd, tDGet, tDGet1, tDGet2, tDIn, tDNotIn, rSortV, rSortT, rPop, rSortL, rSortT, tSl, tNoPart, tPart, List.append_nil, L2.start, List.map_cons, List.map_nil, List.length_cons, List.length_nil, List.replicate_succ, List.replicate_zero, List.cons_append, List.nil_append, Nat.reduceAdd, Nat.reduceSub, exists_eq, exists_eq', List.getElem?_cons_zero, List.getElem?_cons_succ, List.set_cons_zero, List.set_cons_succ, Option.some.injEq, V.int.injEq, V.bl.injEq, V.str.injEq, V.ref.injEq, List.cons.injEq, and_true, true_and, and_false, false_and, reduceCtorEq, exists_false, or_false, false_or, exists_and_left, exists_and_right, exists_eq_left, exists_eq_left', exists_eq_right, exists_eq_right', exists_const, ite_true, ite_false, Bool.false_eq_true, if_true, if_false, decide_true, decide_false]
      refine ⟨by decide, fun t ht => ?_⟩
      have st := same_upd (o := .tup [.ref D, .int m]) ht
      rw [ens_len] at le
      exact q _ t D S m (x4.trans (Sx.of st)) (t4.same st) ne4 (none_of t4 x4 ht).2 upd_same (st _ _ h4) (a4.same st) (by omega) ps
end
end Mv

set_option Elab.async false
set_option linter.all false
set_option maxRecDepth 100000
set_option maxHeartbeats 4000000
namespace Mv
open PySem PySem.Spec PyProof.Rows L2
theorem tabs_wr {T : List (Addr × Str)} {H H' : Hp} {a : Addr} {ys : List V} (t : LamX.Tabs T H) (ha : H a = some (.lst ys)) (x : Sx a H H') : LamX.Tabs T H' := fun p hp => by
  obtain ⟨ps, h1, h2, h3⟩ := t p hp
  have ne : ∀ {b : Addr} {o : HO}, H b = some o → (∀ l, o ≠ .lst l) → b ≠ a := fun {b o} e n z => by
    rw [z, ha] at e
    exact n _ (Option.some.inj e).symm
  refine ⟨ps, x _ _ (ne h1 fun l z => by cases z) h1, h2, fun pos cv hc => ?_⟩
  obtain ⟨c, e1, e2⟩ := h3 pos cv hc
  exact ⟨c, e1, x _ _ (ne e2 fun l z => by unfold LamX.CodeO at z; cases z) e2⟩
theorem vh_len (es : List En) : (vals es).length + (hols es).length = es.length := by
  induction es with
  | nil => rfl
  | cons e es ih =>
    cases e with
    | v x =>
      show (vals es).length + 1 + (hols es).length = es.length + 1
      omega
    | h a b =>
      show (vals es).length + ((hols es).length + 1) = es.length + 1
      omega
theorem ok1_len (p : List En) (e : En) : (ok1 p e).length ≤ 1 := by
  cases e with
  | v x =>
    rw [ok1_v]
    split
    · exact Nat.zero_le _
    · exact Nat.le_refl _
  | h a b => exact Nat.le_refl _
theorem hd_len : ∀ (es p : List En), (hd p es).length ≤ es.length
  | [], _ => Nat.le_refl _
  | e :: es, p => by
    show (ok1 p e ++ hd (p ++ [e]) es).length ≤ es.length + 1
    have h1 := ok1_len p e
    have h2 := hd_len es (p ++ [e])
    rw [List.length_append]
    omega
theorem row_len (k : Kd) (es : List En) : (rowI k es).length ≤ es.length + 2 := by
  have vh := vh_len es
  have hs : (sortP (hols es)).length = (hols es).length := (sortP_perm _).length_eq
  have hb : (sortI (vals es)).length = (vals es).length := (sort_perm _).length_eq
  have hb2 : (sortI (headsI (vals es))).length = (headsI (vals es)).length := (sort_perm _).length_eq
  have hh := headsI_len (vals es)
  have hf : (firstI (vals es)).length ≤ 1 := by
    unfold firstI
    rw [List.length_take]
    omega
  have hl : (lastI (vals es)).length ≤ 1 := by
    unfold lastI
    rw [List.length_drop]
    omega
  cases k with
  | list => exact Nat.le_add_right _ _
  | heads => exact Nat.le_trans (hd_len es []) (Nat.le_add_right _ _)
  | tails =>
    have : (tl [] es).length ≤ es.length := by
      rw [← List.length_reverse, tl_rev]
      refine Nat.le_trans (hd_len _ _) ?_
      rw [List.length_reverse]
      exact Nat.le_refl _
    exact Nat.le_trans this (Nat.le_add_right _ _)
  | bag =>
    show ((sortI (vals es)).map En.v ++ (sortP (hols es)).map hE).length ≤ _
    rw [List.length_append, List.length_map, List.length_map]
    omega
  | set =>
    show ((sortI (headsI (vals es))).map En.v ++ (sortP (hols es)).map hE).length ≤ _
    rw [List.length_append, List.length_map, List.length_map]
    omega
  | first =>
    show ((firstI (vals es)).map En.v).length ≤ _
    rw [List.length_map]
    omega
  | last =>
    show ((lastI (vals es)).map En.v).length ≤ _
    rw [List.length_map]
    omega
  | ends =>
    show ((firstI (vals es) ++ lastI (vals es)).map En.v).length ≤ _
    rw [List.length_map, List.length_append]
    omega
theorem hols_hd : ∀ (es p : List En), hols (hd p es) = hols es
  | [], _ => rfl
  | e :: es, p => by
    show hols (ok1 p e ++ hd (p ++ [e]) es) = _
    rw [hols_app, hols_hd es]
    cases e with
    | v x =>
      rw [ok1_v]
      split <;> rfl
    | h a b => rfl
theorem pos_row {k : Kd} {es : List En} (h : HPos es) : HPos (rowI k es) := fun q hq => by
  refine h q ?_
  have hb : ∀ k', q ∈ hols ((plainI k' (vals es)).map En.v ++ (sortP (hols es)).map hE) → q ∈ hols es := fun k' z => by
    rw [hols_app, hols_v, hols_h, List.nil_append] at z
    exact (sortP_perm _).mem_iff.mp z
  have ho : ∀ k', q ∈ hols ((plainI k' (vals es)).map En.v) → q ∈ hols es := fun k' z => by
    rw [hols_v] at z
    cases z
  cases k with
  | list => exact hq
  | heads =>
    have : hols (rowI .heads es) = hols es := hols_hd es []
    rwa [this] at hq
  | tails =>
    have e : ∀ l : List En, hols l.reverse = (hols l).reverse := fun l => by
      induction l with
      | nil => rfl
      | cons x l ih =>
        rw [List.reverse_cons, hols_app, ih]
        cases x with
        | v x => exact List.append_nil _
        | h a b => exact (List.reverse_cons).symm
    have : (hols (rowI .tails es)).reverse = (hols es).reverse := by
      show (hols (tl [] es)).reverse = _
      rw [← e, tl_rev, hols_hd, e]
    have hq2 := List.mem_reverse.mpr hq
    rw [this] at hq2
    exact List.mem_reverse.mp hq2
  | bag => exact hb _ hq
  | set => exact hb _ hq
  | first => exact ho _ hq
  | last => exact ho _ hq
  | ends => exact ho _ hq
section
variable {P : Program} {w : World} {K : PySem.W.Frag} {mg : Str → Option Value} {base : Heap} {T : List (Addr × Str)} {cls : Kd → Addr} {CB : Addr}
theorem scFills : FnScope ["_law_stream_here", "_law_kind_here", "_law_entries_here", "_law_row_here", "_law_style", "_law_holes", "_law_entry", "_law_hole", "_law_number", "_law_value_here", "_law_told"] ["_law_stream_here", "_law_kind_here", "_law_entries_here", "_law_row_here", "_law_style"] (defScope sFills) := ⟨rfl, rfl, rfl, by decide +kernel, rfl, by decide +kernel, by decide +kernel⟩
def spFills (K : PySem.W.Frag) (T : List (Addr × Str)) : Sp := fun vs H Q _ => ∃ (a : Addr) (k : Kd) (l t : Addr) (R S : RL) (z : Int), vs = [.ref a, .str k.nm, .ref l, .ref t, .int z] ∧ Strm H a ∧ l ≠ a ∧ H l = some (.lst (vls R)) ∧ All H R ∧ R.length ≤ 12 ∧ HPos (ens R) ∧ H t = some (.tup (vls S)) ∧ All H S ∧ ens S = rowI k (ens R) ∧ LamX.Tabs T H ∧ ∀ H' : Hp, LamX.Tabs T H' → Strm H' a → Q (.bl true) H'
theorem ok_fills {f : Addr} {fd : FuncData} (F : Fun K "_law_fills" "_law_fills" sFills f fd) (B : Bi mg) (cDraw : CalX CX0 P w K mg base 1 "_law_draw" spDraw) (cValue : CalX CX0 P w K mg base 3 "_law_value" spValue) (cIR : CalX CX0 P w K mg base 2 "_law_is_row" (spIR K)) (cFill : CalX CX0 P w K mg base 1 "_law_filled" (spFill K)) (cRow : CalX CX0 P w K mg base 2 "_law_row" spRow) (cPR : CalX (L2.CX P w) P w K mg base 5 "put_in_row" (spPR K T CB)) : FnOk P w K mg base CX0 6 f fd ["_law_stream_here", "_law_kind_here", "_law_entries_here", "_law_row_here", "_law_style"] (spFills K T) := by
  refine F.ok scFills (fun vs H Q E h => ?_) (fun cdv A outer s H vs Q E hr h => ?_)
  · obtain ⟨a, k, l, t, R, S, z, rfl, _⟩ := h
    rfl
  · obtain ⟨a, k, l, t, R, S, z, rfl, hs, nla, hl, al, lR, ps, ht, as, eS, tb, q⟩ := h
    refine ⟨_, (pss_cons (ps_setLc (i := 5) (own := [("_law_entry", 6)]) (g := gName 6) (tt := (tB (tCB (rIsi K) (tCons (tVar 6) (tCons (tC (V.ty "tuple")) tNil))))) (te := (tVar 6)) rfl scFills.nd rfl rfl (sw_true rfl rfl rfl (by decide +kernel)) (pi_tup (pv 3)) (blkOk_by (N := ["_law_stream_here", "_law_kind_here", "_law_entries_here", "_law_row_here", "_law_style", "_law_holes", "_law_entry", "_law_hole", "_law_number", "_law_value_here", "_law_told"]) (sc := defScope sFills) (by decide +kernel)) (fun _ _ _ _ _ => (pg_name (i := 6) scFills.nd rfl (.inl rfl))) (fun _ _ _ _ _ => (pts_one (pt_val (pe_callB (id := "isinstance") call_isi (by rfl) B.isinstance (by decide +kernel) (pa_cons (pv 6) (pa_cons (pe_bltn (by rfl) B.tuple (by decide +kernel) (v := .ty "tuple") rfl) pa_nil)))))) (fun _ _ _ _ _ => (pv 6)))
 (pss_cons (ps_if (pt_cmpR op_eq (pe_callB call_len_seq (by rfl) B.len PySem.boot_len (pa_cons (pv 5) pa_nil)) pe_int (nomark _))
 (pss_one (ps_ret pe_bl)) pss_nil)
 (pss_cons (ps_set (i := 7) scFills.nd rfl (.inl rfl) (pe_ix ix_list (pv 5) (pe_cx cDraw hr (by decide) pass0 (by rfl) (pa_cons (pv 0) (pa_cons (pe_callB call_len_seq (by rfl) B.len PySem.boot_len (pa_cons (pv 5) pa_nil)) pa_nil))) (fun _ _ => rfl)))
 (pss_cons (ps_set (i := 8) scFills.nd rfl (.inl rfl) (pe_op op_add (pe_ix ix_tup (pv 7) pe_int (fun _ _ => rfl)) (pe_cx cDraw hr (by decide) pass0 (by rfl) (pa_cons (pv 0) (pa_cons (pe_op op_sub (pe_ix ix_tup (pv 7) pe_int (fun _ _ => rfl)) (pe_ix ix_tup (pv 7) pe_int (fun _ _ => rfl))) pa_nil)))))
 (pss_cons (ps_set (i := 9) scFills.nd rfl (.inl rfl) (pe_cx cValue hr (by decide) pass0 (by rfl) (pa_cons (pv 0) (pa_cons (pv 4) pa_nil))))
 (pss_cons (ps_set (i := 10) scFills.nd rfl (.inl rfl) (pe_cx cPR hr (by decide) passL (by rfl) (pa_cons (pv 1) (pa_cons (pv 3) (pa_cons (pv 8) (pa_cons (pv 9) pa_nil))))))
 (pss_one (ps_ret (pe_and (pe_cx cIR hr (by decide) pass0 (by rfl) (pa_cons (pv 10) pa_nil)) (pe_one (pe_cmpR (op_eqD hr.units) (pv 10) (pe_cx cRow hr (by decide) pass0 (by rfl) (pa_cons (pv 1) (pa_cons (pe_cx cFill hr (by decide) pass0 (by rfl) (pa_cons (pv 2) (pa_cons (pv 8) (pa_cons (pv 9) pa_nil)))) pa_nil))) (nomark _)))))))))))), ?_⟩
    try simp only [tSeq, tAsg, gName, tOp, rI, rI0, rU, tUn, tVar, tC, tCB, tCons, tNil, tTest, tIfS, tRet, tRetN, tDrop, tNext, tBreak, tCont, rEq, rNe, CDiv, CDivN, CMul, tBM, tBM0, tTup, tLst, tAug, tIf, tAnd, tOr, tNot, tAndV, tOrV, tNotV, tIsN, tNotN, tB, scal, tCall, cxK, cxKn, rIxT, rIxL, rIn, rAppend, rReverse, tVals, tDSetd, tDGet, tDGet1, tDGet2, tDIn, tDNotIn, rSortV, rSortT, rPop, rSortL, rSortT, tSl, tNoPart, tPart, List.append_nil, L2.start, List.map_cons, List.map_nil, List.length_cons, List.length_nil, List.replicate_succ, List.replicate_zero, List.cons_append, List.nil_append, Nat.reduceAdd, Nat.reduceSub, exists_eq, exists_eq', List.getElem?_cons_zero, List.getElem?_cons_succ, List.set_cons_zero, List.set_cons_succ, Option.some.injEq, V.int.injEq, V.bl.injEq, V.str.injEq, V.ref.injEq, List.cons.injEq, and_true, true_and, and_false, false_and, reduceCtorEq, exists_false, or_false, false_or, exists_and_left, exists_and_right, exists_eq_left, exists_eq_left', exists_eq_right, exists_eq_right', exists_const, ite_true, ite_false, Bool.false_eq_true, if_true, if_false, decide_true, decide_false]
    refine ⟨.ref t, rfl, t, rfl, ⟨_, tt ht⟩, fun D2 hD2 => lc_tup (K := K) (xs := vls S) (fun i H' => Same H H' ∧ H' D2 = some (.lst (vls (hls (S.take i))))) ⟨same_upd hD2, upd_same⟩ (fun i H' _ h => tt (h.1 _ _ ht)) ?_ ?_⟩
    · rintro i x H2 hx ⟨s2, hd2⟩
      obtain ⟨e, he, rfl⟩ := vls_at hx
      have hil := (List.getElem?_eq_some_iff.mp he).1
      have lS := row_len k (ens R)
      rw [← eS, ens_len, ens_len] at lS
      have vl : (vls (hls (S.take i))).length ≤ i := by
        unfold vls hls
        rw [List.length_map]
        exact Nat.le_trans (List.length_filter_le _ _) (by rw [List.length_take]; exact Nat.min_le_left _ _)
      refine ⟨rfl, ?_⟩
      simp only [tSeq, tAsg, gName, tOp, rI, rI0, rU, tUn, tVar, tC, tCB, tCons, tNil, tTest, tIfS, tRet, tRetN, tDrop, tNext, tBreak, tCont, rEq, rNe, CDiv, CDivN, CMul, tBM, tBM0, tTup, tLst, tAug, tIf, tAnd, tOr, tNot, tAndV, tOrV, tNotV, tIsN, tNotN, tB, scal, tCall, cxK, cxKn, rIxT, rIxL, rIn, rAppend, rReverse, tVals, tDSetd, tDGet, tDGet1, tDGet2, tDIn, tDNotIn, rSortV, rSortT, rPop, rSortL, rSortT, tSl, tNoPart, tPart, List.append_nil, L2.start, List.map_cons, List.map_nil, List.length_cons, List.length_nil, List.replicate_succ, List.replicate_zero, List.cons_append, List.nil_append, Nat.reduceAdd, Nat.reduceSub, exists_eq, exists_eq', wipe, List.getElem?_cons_zero, List.getElem?_cons_succ, List.set_cons_zero, List.set_cons_succ, Option.some.injEq, V.int.injEq, V.bl.injEq, V.str.injEq, V.ref.injEq, List.cons.injEq, and_true, true_and, and_false, false_and, reduceCtorEq, exists_false, or_false, false_or, exists_and_left, exists_and_right, exists_eq_left, exists_eq_left', exists_eq_right, exists_eq_right', exists_const, ite_true, ite_false, Bool.false_eq_true, if_true, if_false, decide_true, decide_false]
      have hev := (as e (List.mem_of_getElem? he)).same s2
      refine isi_tup hev ⟨_, rfl, ?_⟩
      have es : hls (S.take (i + 1)) = hls (S.take i) ++ if e.2.isH = true then [e] else [] := by
        unfold hls
        rw [List.take_add_one, he, List.filter_append]
        congr 1
        exact List.filter_cons.trans (by simp)
      rw [es]
      refine ite2 (fun eh => ?_) (fun eh => ?_)
      · rw [if_pos eh, vls_app]
        refine ⟨_, hd2, exact_small vl (by omega), fun b o e => ?_, ?_⟩
        · rw [upd_ne (ne_of_none e hD2)]
          exact s2 _ _ e
        · rw [upd_same]
          rfl
      · rw [if_neg eh, List.append_nil]
        exact ⟨s2, hd2⟩
    rintro H2 ⟨s2, hd2⟩
    rw [List.take_of_length_le (by unfold vls; rw [List.length_map]; exact Nat.le_refl _)] at hd2
    have vh : (vls (hls S)).length = (hls S).length := List.length_map _
    refine ⟨D2, rfl, _, .inl (ll hd2), ite2 (fun e => q H2 (tb.ext s2) (hs.same s2)) (fun e => ?_)⟩
    have hn0 : 0 < (hls S).length := by
      rw [vh] at e
      have := of_decide_eq_false (Bool.eq_false_iff.mpr e)
      omega
    refine ⟨D2, rfl, _, .inl (ll hd2), spDraw_of (by rw [vh]; omega) (hs.same s2) fun j H3 hj0 hj1 x3 t3 => ?_⟩
    rw [vh] at hj1
    obtain ⟨j, rfl⟩ := Int.eq_ofNat_of_zero_le hj0
    have hjl : j < (hls S).length := by omega
    have hje : (hls S)[j]? = some (hls S)[j] := List.getElem?_eq_getElem hjl
    generalize (hls S)[j] = en at hje
    have hjm := List.mem_of_getElem? hje
    obtain ⟨hjS, hjh⟩ := List.mem_filter.mp hjm
    obtain ⟨xv, e0⟩ := en
    have hsa := (hs.same s2).some
    obtain ⟨xs2, hsa⟩ := hsa
    have hev0 := ((as _ hjS).same s2).wr hsa x3
    cases hev0 with
    | v x => cases hjh
    | @h th b0 b1 hth =>
    have hlt : b0 < b1 := by
      refine (eS ▸ pos_row ps : HPos (ens S)) (b0, b1) ?_
      have : (ens (hls S)) = (hols (ens S)).map hE := hols_hls S
      have hm : En.h b0 b1 ∈ ens (hls S) := List.mem_map.mpr ⟨_, hjm, rfl⟩
      rw [this] at hm
      obtain ⟨q0, hq0, e0⟩ := List.mem_map.mp hm
      obtain ⟨u, v⟩ := q0
      obtain ⟨rfl, rfl⟩ := En.h.inj e0
      exact hq0
    have hne : hols (rowI k (ens R)) ≠ [] := by
      rw [← eS]
      intro z
      have := hols_hls S
      rw [z] at this
      have l0 : (ens (hls S)).length = 0 := by
        rw [this]
        rfl
      rw [ens_len] at l0
      omega
    have neD : D2 ≠ a := fun z => by
      obtain ⟨zs, ea, _⟩ := hs
      rw [z, ea] at hD2
      cases hD2
    have hd3 := x3 _ _ neD hd2
    have atj : atI (vls (hls S)) (j : Int) = some (.ref th) := atI_nat (by unfold vls; rw [List.getElem?_map, hje]; rfl)
    refine ⟨D2, rfl, _, _, rfl, ll hd3, _, atj, th, rfl, _, tt hth, _, rfl, th, rfl, _, tt hth, _, rfl, ?_⟩
    refine ⟨th, rfl, _, tt hth, _, rfl, b1, rfl, b0, rfl, spDraw_of (by omega) t3 fun n0 H4 n00 n01 x4 t4 => ⟨b0, rfl, n0, rfl, a, z, rfl, t4, fun r H5 x5 t5 => ?_⟩⟩
    have X : Sx a H H5 := ((Sx.of s2).trans x3).trans (x4.trans x5)
    obtain ⟨zs, hsH⟩ := hs.some
    have nta : t ≠ a := fun z => by
      rw [z, hsH] at ht
      cases ht
    have ht5 := X _ _ nta ht
    have hl5 := X _ _ nla hl
    have as5 := as.wr hsH X
    have al5 := al.wr hsH X
    have tb5 := tabs_wr tb hsH X
    have lS := row_len k (ens R)
    rw [← eS, ens_len, ens_len] at lS
    refine ⟨.str k.nm, t, S, b0 + n0, r, rfl, tt ht5, as5, by omega, .inl ⟨k, rfl, tb5, fun H6 t6 S6 g6 h6 a6 e6 => ?_⟩⟩
    have l6 := row_len k ((ens S).flatMap (fillE (b0 + n0) r))
    have f6 := flat_len (b0 + n0) r (ens S)
    rw [← e6, ens_len] at l6
    rw [ens_len] at f6
    refine ⟨t6, S6, rfl, h6, a6, by omega, _, rfl, if_T rfl ?_⟩
    have hl6 := g6.1 _ _ hl5 (fun ps z => by cases z)
    refine ⟨l, R, b0 + n0, r, rfl, hl6, al5.ext g6.1, by omega, fun H7 l7 S7 s7 h7 a7 e7 => ?_⟩
    have f7 := flat_len (b0 + n0) r (ens R)
    rw [← e7, ens_len, ens_len] at f7
    refine ⟨k, l7, S7, rfl, h7, a7, by omega, fun H8 t8 S8 s8 h8 a8 e8 => ?_⟩
    have s78 := s7.trans s8
    refine eq_rows (tt (s78 _ _ h6)) (tt h8) (a6.same s78) a8 ?_ (q H8 (g6.2.ext s78) ?_)
    · rw [e6, e8, e7, eS]
      exact row_sub k (fun _ => rfl) hne
    · obtain ⟨ns, ea, la⟩ := t5
      exact ⟨ns, s78 _ _ (g6.1 _ _ ea (fun ps z => by cases z)), la⟩
end
end Mv

set_option Elab.async false
set_option linter.all false
set_option maxRecDepth 100000
set_option maxHeartbeats 4000000
namespace Mv
open PySem PySem.Spec PyProof.Rows L2
abbrev sRef : Stmt := topS 38
/-! ### a def that may raise, called in a try -/
theorem pe_cs {X : Cx} {W : WX} {k j : Nat} {x : Str} {sp : Sp} {p pos : Pos} {e : Expr} {es : List Expr} {t : TA} (c : CalX (L2.CX X.prog X.w) X.prog X.w X.K X.mg X.base k x sp) (hr : Room j X.A) (hk : k ≤ j) (tk : Takes X W) (hg : Gl X x) (ha : PA X (e :: es) t)
    (hdb : (x == ("__debug__" : Str)) = false := by decide) (he : starEach (e :: es) X.env = (false, eval e X.env) :: starEach es X.env := by rfl) (hpl : (backTo pos (starEach es X.env)).any (·.1) = false := by rfl) :
    PE X (.Call (.Name x p) (e :: es) [] pos) (tCallS sp (WE W) t) := by
  obtain ⟨f, fd, ps, F, hm, kp, b⟩ := c.ex
  exact pe_callS F (hr.mono hk) hg hm kp b (fun σ => passAt tk σ) ha hdb he hpl
/-- what the suite asks of the classes -/
structure RTx (K : PySem.W.Frag) (mg : Str → Option Value) (CB : Addr) : Prop where
  gCB : mg "BadKind" = some (.ref CB)
  xf : XfC K CB
  noN : PySem.W.findIn K (.ref CB) "name" = some none
  te : PySem.W.exmOne K (.ref CB) (.ref CB) = some true
def spRef : Sp := fun vs H Q _ => ∃ (door : Int) (v : V), vs = [v, .int door] ∧ BadV H v ∧ ∀ H' : Hp, LamX.ExtN H H' → Q v H'
theorem all3 {H : Hp} {p : Addr} (h : H p = some (.tup [.int 1, .int 3])) : All H [(.int 5, .v 5), (.ref p, .h 1 3), (.int 6, .v 6)] := fun q hq => by
  rcases List.mem_cons.mp hq with rfl | hq
  · exact .v 5
  rcases List.mem_cons.mp hq with rfl | hq
  · exact .h h
  · rw [List.mem_singleton.mp hq]
    exact .v 6
section
variable {P : Program} {w : World} {K : PySem.W.Frag} {mg : Str → Option Value} {base : Heap} {T : List (Addr × Str)} {cls : Kd → Addr} {CB : Addr}
theorem scRef : FnScope ["_law_name", "_law_door", "_law_found", "e"] ["_law_name", "_law_door"] (defScope sRef) := ⟨rfl, rfl, rfl, by decide +kernel, rfl, by decide +kernel, by decide +kernel⟩
theorem ok_ref {f : Addr} {fd : FuncData} (F : Fun K "_law_refused" "_law_refused" sRef f fd) (B : Bi mg) (R : RTx K mg CB) (cRF : CalX (L2.CX P w) P w K mg base 4 "row_from" (spRF K T CB)) (cPR : CalX (L2.CX P w) P w K mg base 5 "put_in_row" (spPR K T CB)) (cJR : CalX (L2.CX P w) P w K mg base 5 "joined_rows" (spJR K T CB)) : FnOk P w K mg base CX0 6 f fd ["_law_name", "_law_door"] spRef := by
  refine F.ok scRef (fun vs H Q E h => ?_) (fun cdv A outer s H vs Q E hr h => ?_)
  · obtain ⟨door, v, rfl, _⟩ := h
    rfl
  · obtain ⟨door, v, rfl, b, q⟩ := h
    have hr' : Room 5 _ := hr
    refine ⟨_, pss_cons (ps_set (i := 2) scRef.nd rfl (.inl rfl) pe_non) (pss_cons (ps_try_as (i := 3) (tb := fun W => tIfS (tTest (tOp rEq (tVar 1) (tC (V.int 0)))) (tDrop (tCallS (spRF K T CB) (WE W) (tCons (tVar 0) (tCons (tLst (tCons (tC (V.int 5)) (tCons (tTup (tCons (tC (V.int 1)) (tCons (tC (V.int 3)) tNil))) (tCons (tC (V.int 6)) tNil)))) tNil)))) (tIfS (tTest (tOp rEq (tVar 1) (tC (V.int 1)))) (tDrop (tCallS (spPR K T CB) (WE W) (tCons (tVar 0) (tCons (tTup (tCons (tC (V.int 5)) (tCons (tTup (tCons (tC (V.int 1)) (tCons (tC (V.int 3)) tNil))) (tCons (tC (V.int 6)) tNil)))) (tCons (tC (V.int 1)) (tCons (tC (V.int 0)) tNil)))))) (tDrop (tCallS (spJR K T CB) (WE W) (tCons (tVar 0) (tCons (tTup (tCons (tC (V.int 5)) tNil)) (tCons (tTup (tCons (tC (V.int 1)) (tCons (tC (V.int 3)) tNil))) (tCons (tTup (tCons (tC (V.int 6)) tNil)) tNil)))))))) (ts := fun a cls d => tAsg (tXf a cls d CB "name" (tVar 3)) (gName 2)) (Wout := fun _ _ _ _ => False) rfl rfl scRef.nd rfl rfl ⟨rfl, by decide, .inl R.gCB⟩ takes0
        (fun W pn xe tk _ => by exact (pss_one (ps_if (pt_cmpR op_eq (pv 1) pe_int (nomark _)) (pss_one (ps_expr (pe_cs cRF hr (by decide) tk (by rfl) (pa_cons (pv 0) (pa_cons (pe_lst (pa_cons pe_int (pa_cons (pe_tup (pa_cons pe_int (pa_cons pe_int pa_nil))) (pa_cons pe_int pa_nil)))) pa_nil))))) (pss_one (ps_if (pt_cmpR op_eq (pv 1) pe_int (nomark _)) (pss_one (ps_expr (pe_cs cPR hr (by decide) tk (by rfl) (pa_cons (pv 0) (pa_cons (pe_tup (pa_cons pe_int (pa_cons (pe_tup (pa_cons pe_int (pa_cons pe_int pa_nil))) (pa_cons pe_int pa_nil)))) (pa_cons pe_int (pa_cons pe_int pa_nil))))))) (pss_one (ps_expr (pe_cs cJR hr (by decide) tk (by rfl) (pa_cons (pv 0) (pa_cons (pe_tup (pa_cons pe_int pa_nil)) (pa_cons (pe_tup (pa_cons pe_int (pa_cons pe_int pa_nil))) (pa_cons (pe_tup (pa_cons pe_int pa_nil)) pa_nil))))))))))))
        (fun a oe cls d pn hz hf => by exact (pss_one (ps_set (i := 2) scRef.nd rfl (.inl rfl) (pe_xf R.xf R.noN hz hf (pv 3)))))) (pss_one (ps_ret (pv 2)))), ?_⟩
    have hE : ∀ H1 : Hp, LamX.ExtN H H1 → Rs CB H1 v (fun cls d H' => wAs K (.ref CB) 3 (fun (a : Addr) (cls : Value) (d : Option Addr) => tAsg (tXf a cls d CB "name" (tVar 3)) (gName 2)) (fun _ _ _ _ => False) { nx := fun σ' H' => tRet (tVar 2) { nx := fun _ H' => Q .non H', rt := Q } σ' H', rt := Q } cls d [some v, some (.int door), some .non, none] H') := by
      intro H1 e1 d H2 e2 hd
      refine ⟨true, R.te, fun _ a ha => ?_, fun z => Bool.noConfusion z⟩
      have hl : List.lookup ("name" : Str) [(("name" : Str), v)] = some v := by simp [List.lookup]
      exact ⟨.ref a, rfl, rfl, rfl, d, _, v, rfl, hd, hl, v, rfl, q _ (e1.trans e2)⟩
    clear q
    revert hE
    generalize (fun (a : Addr) (cls : Value) (d : Option Addr) => tAsg (tXf a cls d CB "name" (tVar 3)) (gName 2)) = ts
    intro hE
    simp only [tSeq, tAsg, gName, tOp, rI, rI0, rU, tUn, tVar, tC, tCB, tCons, tNil, tTest, tIfS, tRet, tRetN, tDrop, tNext, tBreak, tCont, rEq, rNe, CDiv, CDivN, CMul, tBM, tBM0, tTup, tLst, tAug, tIf, tAnd, tOr, tNot, tAndV, tOrV, tNotV, tIsN, tNotN, tB, scal, tCall, cxK, cxKn, rIxT, rIxL, rIn, rAppend, rReverse, tVals, tDSetd, tDGet, tDGet1, tDGet2, tDIn, tDNotIn, rSortV, rSortT, rPop, rSortL, rSortT, tSl, tNoPart, tPart, List.append_nil, L2.start, List.map_cons, List.map_nil, List.length_cons, List.length_nil, List.replicate_succ, List.replicate_zero, List.cons_append, List.nil_append, Nat.reduceAdd, Nat.reduceSub, exists_eq, exists_eq', List.getElem?_cons_zero, List.getElem?_cons_succ, List.set_cons_zero, List.set_cons_succ, Option.some.injEq, V.int.injEq, V.bl.injEq, V.str.injEq, V.ref.injEq, List.cons.injEq, and_true, true_and, and_false, false_and, reduceCtorEq, exists_false, or_false, false_or, exists_and_left, exists_and_right, exists_eq_left, exists_eq_left', exists_eq_right, exists_eq_right', exists_const, ite_true, ite_false, Bool.false_eq_true, if_true, if_false, decide_true, decide_false]
    refine ite2 (fun _ => ?_) (fun _ => ite2 (fun _ => ?_) (fun _ => ?_))
    · refine ⟨v, rfl, by show 2 ≤ sizeLine; decide, fun p hp => ⟨by show 3 ≤ sizeLine; decide, fun l hl => ?_⟩⟩
      have s1 := same_upd (o := .tup [.int 1, .int 3]) hp
      have s2 := same_upd (o := .lst [.int 5, .ref p, .int 6]) hl
      have e2 := LamX.ExtN.of (s1.trans s2)
      exact ⟨v, l, [(.int 5, .v 5), (.ref p, .h 1 3), (.int 6, .v 6)], rfl, ⟨.inl (ll upd_same), all3 (s2 _ _ upd_same)⟩, by show 3 ≤ 60; decide, .inr ⟨b.ext e2, hE _ e2⟩⟩
    · refine ⟨v, rfl, by show 2 ≤ sizeLine; decide, fun p hp => ⟨by show 3 ≤ sizeLine; decide, fun l hl => ?_⟩⟩
      have s1 := same_upd (o := .tup [.int 1, .int 3]) hp
      have s2 := same_upd (o := .tup [.int 5, .ref p, .int 6]) hl
      have e2 := LamX.ExtN.of (s1.trans s2)
      exact ⟨v, l, [(.int 5, .v 5), (.ref p, .h 1 3), (.int 6, .v 6)], 1, 0, rfl, tt upd_same, all3 (s2 _ _ upd_same), by show 3 ≤ 20; decide, .inr ⟨b.ext e2, hE _ e2⟩⟩
    · refine ⟨v, rfl, by show 1 ≤ sizeLine; decide, fun p hp => ⟨by show 2 ≤ sizeLine; decide, fun t ht => ⟨by show 1 ≤ sizeLine; decide, fun r hr => ?_⟩⟩⟩
      have s1 := same_upd (o := .tup [.int 5]) hp
      have s2 := same_upd (o := .tup [.int 1, .int 3]) ht
      have s3 := same_upd (o := .tup [.int 6]) hr
      have e2 := LamX.ExtN.of ((s1.trans s2).trans s3)
      exact ⟨v, p, r, [(.int 5, .v 5)], [(.int 6, .v 6)], .ref t, [.h 1 3], rfl, tt (s3 _ _ (s2 _ _ upd_same)), fun q hq => by rw [List.mem_singleton.mp hq]; exact .v 5, tt upd_same, fun q hq => by rw [List.mem_singleton.mp hq]; exact .v 6, .inr ⟨t, 1, 3, rfl, s3 _ _ upd_same, rfl⟩, by decide, by decide, .inr ⟨b.ext e2, hE _ e2⟩⟩
end
end Mv

set_option Elab.async false
set_option linter.all false
set_option maxRecDepth 100000
set_option maxHeartbeats 4000000
namespace Mv
open PySem PySem.Spec PyProof.Rows L2
abbrev sLaw : Stmt := topS 39
def badL : List Str := ["", "List", "lists", "bag ", "heap", "0", "tail", "any"]
theorem bad_texts : ∀ z ∈ badL, (∀ k : Kd, ¬ z = k.nm) ∧ z.length ≤ 100 ∧ ∀ c ∈ z.cps.toList, c < 0x110000 := by
  intro z hz
  have h : badL.all (fun z => kds.all (fun k => !decide (z = k.nm)) && decide (z.length ≤ 100) && z.cps.toList.all fun c => decide (c < 0x110000)) = true := by decide +kernel
  have h1 := List.all_eq_true.mp h z hz
  rw [Bool.and_eq_true, Bool.and_eq_true] at h1
  refine ⟨fun k e => ?_, of_decide_eq_true h1.1.2, fun c hc => of_decide_eq_true (List.all_eq_true.mp h1.2 c hc)⟩
  have h2 := List.all_eq_true.mp h1.1.1 k (by cases k <;> decide)
  rw [e] at h2
  simp at h2
abbrev lawN : List Str := ["_law_script", "_law_stream_here", "_law_kind_here", "_law_style", "_law_left", "_law_number", "_law_lack", "_law_right", "_law_turned", "_law_kept", "_law_row_here", "_law_told", "_law_word", "_law_holes", "_law_entry", "_law_hole", "_law_whole", "_law_name"]
theorem scLaw : FnScope ["_law_script", "_law_stream_here", "_law_kind_here", "_law_style", "_law_left", "_law_number", "_law_lack", "_law_right", "_law_turned", "_law_kept", "_law_row_here", "_law_told", "_law_word", "_law_holes", "_law_entry", "_law_hole", "_law_whole", "_law_name"] ["_law_script"] (defScope sLaw) := ⟨rfl, rfl, rfl, by decide +kernel, rfl, by decide +kernel, by decide +kernel⟩
section
variable {P : Program} {w : World} {K : PySem.W.Frag} {mg : Str → Option Value} {base : Heap} {T : List (Addr × Str)} {cls : Kd → Addr} {CB : Addr}
/-- the name that is refused -/
theorem law_22 {f : Addr} {cdv : Value} {A : Around} {outer : List Env} {s : Shared} {H0 : Hp} {E : XK} (B : Bi mg) (hr : Room 7 (A.deeper (envOfC "law" (defScope sLaw) s.heap.objs.size f cdv))) (cDraw : CalX CX0 P w K mg base 1 "_law_draw" spDraw) (cRef : CalX CX0 P w K mg base 6 "_law_refused" spRef) :
    ∃ t, PSs (cxOf CX0 P w K mg base lawN "law" (defScope sLaw) f cdv A outer s H0 E).nox ((defBody sLaw).drop 22) t ∧ ∀ (Q : VK) (y0 y2 y3 y4 y5 y6 y7 y8 y9 y10 y11 y12 y13 y14 y15 y16 y17 : Option V) (a : Addr) (H : Hp), Strm H a → (∀ H' : Hp, Q (.bl true) H') →
      t { nx := fun _ H' => Q .non H', rt := Q } [y0, some (.ref a), y2, y3, y4, y5, y6, y7, y8, y9, y10, y11, y12, y13, y14, y15, y16, y17] H := by
  refine ⟨_, (pss_cons (ps_set (i := 17) scLaw.nd rfl (.inl rfl) (pe_ix ix_tup (pe_tup (pa_cons pe_str (pa_cons pe_str (pa_cons pe_str (pa_cons pe_str (pa_cons pe_str (pa_cons pe_str (pa_cons pe_str (pa_cons pe_str pa_nil))))))))) (pe_cx cDraw hr (by decide) pass0 (by rfl) (pa_cons (pv 1) (pa_cons pe_int pa_nil))) (fun _ _ => rfl)))
 (pss_one (ps_ret (pe_cmpR op_eq (pe_cx cRef hr (by decide) pass0 (by rfl) (pa_cons (pv 17) (pa_cons (pe_cx cDraw hr (by decide) pass0 (by rfl) (pa_cons (pv 1) (pa_cons pe_int pa_nil))) pa_nil))) (pv 17) (nomark _))))), ?_⟩
  intro Q y0 y2 y3 y4 y5 y6 y7 y8 y9 y10 y11 y12 y13 y14 y15 y16 y17 a H hs q
  try simp only [tSeq, tAsg, gName, tOp, rI, rI0, rU, tUn, tVar, tC, tCB, tCons, tNil, tTest, tIfS, tRet, tRetN, tDrop, tNext, tBreak, tCont, rEq, rNe, CDiv, CDivN, CMul, tBM, tBM0, tTup, tLst, tAug, tIf, tAnd, tOr, tNot, tAndV, tOrV, tNotV, tIsN, tNotN, tB, scal, tCall, cxK, cxKn, rIxT, rIxL, rIn, rAppend, rReverse, tVals, tDSetd, tDGet, tDGet1, tDGet2, tDIn, tDNotIn, rSortV, rSortT, rPop, rSortL, rSortT, tSl, tNoPart, tPart, List.append_nil, L2.start, List.map_cons, List.map_nil, List.length_cons, List.length_nil, List.replicate_succ, List.replicate_zero, List.cons_append, List.nil_append, Nat.reduceAdd, Nat.reduceSub, exists_eq, exists_eq', List.getElem?_cons_zero, List.getElem?_cons_succ, List.set_cons_zero, List.set_cons_succ, Option.some.injEq, V.int.injEq, V.bl.injEq, V.str.injEq, V.ref.injEq, List.cons.injEq, and_true, true_and, and_false, false_and, reduceCtorEq, exists_false, or_false, false_or, exists_and_left, exists_and_right, exists_eq_left, exists_eq_left', exists_eq_right, exists_eq_right', exists_const, ite_true, ite_false, Bool.false_eq_true, if_true, if_false, decide_true, decide_false]
  refine ⟨by decide, fun p hp => ?_⟩
  have s1 := same_upd (o := .tup (badL.map V.str)) hp
  have pna := (none_of hs (Sx.refl a H) hp).2
  have hT : upd H p (.tup (badL.map V.str)) p = some (.tup (badL.map V.str)) := upd_same
  change spDraw _ (upd H p (.tup (badL.map V.str))) _ _
  generalize upd H p (.tup (badL.map V.str)) = H1 at s1 hT ⊢
  refine spDraw_of (by decide) (hs.same s1) fun j H2 hj0 hj1 x2 t2 => ?_
  obtain ⟨j, rfl⟩ := Int.eq_ofNat_of_zero_le hj0
  have hjl : j < badL.length := by
    show j < 8
    omega
  have hje : badL[j]? = some badL[j] := List.getElem?_eq_getElem hjl
  generalize badL[j] = nm at hje
  obtain ⟨k1, k2, k3⟩ := bad_texts nm (List.mem_of_getElem? hje)
  refine ⟨_, _, rfl, tt (x2 _ _ pna hT), .str nm, atI_nat (by rw [List.getElem?_map, hje]; rfl), spDraw_of (by decide) t2 fun d H3 hd0 hd1 x3 t3 => ?_⟩
  refine ⟨d, .str nm, rfl, .str nm k1 k2 k3, fun H4 _ => ?_⟩
  refine ⟨rfl, ?_⟩
  show Q (.bl (decide (V.str nm = V.str nm))) _
  rw [decide_eq_true rfl]
  exact q H4
end
end Mv

set_option Elab.async false
set_option linter.all false
set_option maxRecDepth 100000
set_option maxHeartbeats 4000000
namespace Mv
open PySem PySem.Spec PyProof.Rows L2
/-- the state of the law from the row on -/
structure G11 (T : List (Addr × Str)) (H : Hp) (a ke rt : Addr) (k : Kd) (R S : RL) : Prop where
  st : Strm H a
  ne : ke ≠ a
  hk : H ke = some (.lst (vls R))
  al : All H R
  lR : R.length ≤ 16
  hr : H rt = some (.tup (vls S))
  as : All H S
  eS : ens S = rowI k (ens R)
  tb : LamX.Tabs T H
theorem strm_ext {H H' : Hp} {a : Addr} (h : Strm H a) (e : LamX.ExtN H H') : Strm H' a := by
  obtain ⟨ns, h1, h2⟩ := h
  exact ⟨ns, e _ _ h1 (fun ps z => by cases z), h2⟩
theorem G11.gw {T : List (Addr × Str)} {H H' : Hp} {a ke rt : Addr} {k : Kd} {R S : RL} (g : G11 T H a ke rt k R S) (w : Gw T H H') : G11 T H' a ke rt k R S :=
  ⟨strm_ext g.st w.1, g.ne, w.1 _ _ g.hk (fun ps z => by cases z), g.al.ext w.1, g.lR, w.1 _ _ g.hr (fun ps z => by cases z), g.as.ext w.1, g.eS, w.2⟩
theorem G11.same {T : List (Addr × Str)} {H H' : Hp} {a ke rt : Addr} {k : Kd} {R S : RL} (g : G11 T H a ke rt k R S) (s : Same H H') : G11 T H' a ke rt k R S := g.gw (Gw.of g.tb s)
theorem HoV.same {H H' : Hp} {v : V} {ho : List En} (h : HoV H v ho) (s : Same H H') : HoV H' v ho := by
  rcases h with h | ⟨t, a, b, e, ht, eh⟩
  · exact .inl h
  · exact .inr ⟨t, a, b, e, s _ _ ht, eh⟩
theorem G11.lS {T : List (Addr × Str)} {H : Hp} {a ke rt : Addr} {k : Kd} {R S : RL} (g : G11 T H a ke rt k R S) : S.length ≤ 18 := by
  have h := row_len k (ens R)
  rw [← g.eS, ens_len, ens_len] at h
  have := g.lR
  omega
section
variable {P : Program} {w : World} {K : PySem.W.Frag} {mg : Str → Option Value} {base : Heap} {T : List (Addr × Str)} {cls : Kd → Addr} {CB : Addr}
/-- joining, filling -/
theorem law_16 {f : Addr} {cdv : Value} {A : Around} {outer : List Env} {s : Shared} {H0 : Hp} {E : XK} (B : Bi mg) (hr : Room 7 (A.deeper (envOfC "law" (defScope sLaw) s.heap.objs.size f cdv))) (cDraw : CalX CX0 P w K mg base 1 "_law_draw" spDraw) (cRef : CalX CX0 P w K mg base 6 "_law_refused" spRef)
    (cRow : CalX CX0 P w K mg base 2 "_law_row" spRow) (cJR : CalX (L2.CX P w) P w K mg base 5 "joined_rows" (spJR K T CB)) (cIR : CalX CX0 P w K mg base 2 "_law_is_row" (spIR K)) (cFills : CalX CX0 P w K mg base 6 "_law_fills" (spFills K T)) :
    ∃ t, PSs (cxOf CX0 P w K mg base lawN "law" (defScope sLaw) f cdv A outer s H0 E).nox ((defBody sLaw).drop 16) t ∧ ∀ (Q : VK) (y0 y4 y11 y12 y13 y14 y15 y16 y17 : Option V) (st m n : Int) (tn : Bool) (a ke rt ri : Addr) (k : Kd) (R S RR : RL) (H : Hp), G11 T H a ke rt k R S → ri ≠ a → H ri = some (.lst (vls RR)) → All H RR → RR.length ≤ 11 → (tn = false → R.length ≤ 12 ∧ HPos (ens R)) → (∀ H' : Hp, Q (.bl true) H') →
      t { nx := fun _ H' => Q .non H', rt := Q } [y0, some (.ref a), some (.str k.nm), some (.int st), y4, some (.int m), some (.int n), some (.ref ri), some (.bl tn), some (.ref ke), some (.ref rt), y11, y12, y13, y14, y15, y16, y17] H := by
  obtain ⟨tr, hrest, hR⟩ := law_22 (s := s) (H0 := H0) (E := E) (outer := outer) (cdv := cdv) (f := f) (A := A) (K := K) (P := P) (w := w) (base := base) B hr cDraw cRef
  refine ⟨_, (pss_cons (ps_set (i := 15) scLaw.nd rfl (.inl rfl) pe_non)
 (pss_cons (ps_set (i := 16) scLaw.nd rfl (.inl rfl) (pe_op op_cat (pv 9) (pv 7)))
 (pss_cons (ps_if (pt_cmpR op_gt (pv 6) pe_int (nomark _))
 (pss_cons (ps_set (i := 15) scLaw.nd rfl (.inl rfl) (pe_tup (pa_cons (pv 5) (pa_cons (pe_op op_add (pv 5) (pv 6)) pa_nil))))
 (pss_one (ps_set (i := 16) scLaw.nd rfl (.inl rfl) (pe_op op_cat (pe_op op_cat (pv 9) (pe_lst (pa_cons (pv 15) pa_nil))) (pv 7))))) pss_nil)
 (pss_cons (ps_set (i := 11) scLaw.nd rfl (.inl rfl) (pe_cx cJR hr (by decide) passL (by rfl) (pa_cons (pv 2) (pa_cons (pv 10) (pa_cons (pv 15) (pa_cons (pe_cx cRow hr (by decide) pass0 (by rfl) (pa_cons (pv 2) (pa_cons (pv 7) pa_nil))) pa_nil))))))
 (pss_cons (ps_if (PW.pt (pw_or (pt_not (pt_val (pe_cx cIR hr (by decide) pass0 (by rfl) (pa_cons (pv 11) pa_nil)))) (pw_or1 (pt_cmpR (op_neD hr.units) (pv 11) (pe_cx cRow hr (by decide) pass0 (by rfl) (pa_cons (pv 2) (pa_cons (pv 16) pa_nil))) (nomark _)))))
 (pss_one (ps_ret pe_bl)) pss_nil)
 (pss_cons (ps_if (PW.pt (pw_and (pt_not (pt_val (pv 8))) (pw_and1 (pt_not (pt_val (pe_cx cFills hr (by decide) pass0 (by rfl) (pa_cons (pv 1) (pa_cons (pv 2) (pa_cons (pv 9) (pa_cons (pv 10) (pa_cons (pv 3) pa_nil)))))))))))
 (pss_one (ps_ret pe_bl)) pss_nil)
 hrest)))))), ?_⟩
  intro Q y0 y4 y11 y12 y13 y14 y15 y16 y17 st m n tn a ke rt ri k R S RR H g nri hri aRR lRR hfl q
  have tail : ∀ (H1 : Hp) (hv : V) (ho : List En) (wl : Addr) (W : RL), G11 T H1 a ke rt k R S → H1 ri = some (.lst (vls RR)) → All H1 RR → HoV H1 hv ho → H1 wl = some (.lst (vls W)) → All H1 W → ens W = ens R ++ ho ++ ens RR → W.length ≤ 30 →
      spRow [V.str k.nm, V.ref ri] H1 (fun x_1 H1 => spJR K T CB [V.str k.nm, V.ref rt, hv, x_1] H1 (fun x_2 H1 => spIR K [x_2] H1 (fun x_3 H1 => ∃ c, x_3 = V.bl c ∧ if (!c) = true then Q (V.bl false) H1 else spRow [V.str k.nm, .ref wl] H1 (fun y H2 => rNeD K x_2 y H2 fun x_4 H' => ∃ k_1, x_4 = V.bl k_1 ∧ if k_1 = true then Q (V.bl false) H' else if (!tn) = true then spFills K T [V.ref a, V.str k.nm, V.ref ke, V.ref rt, V.int st] H' (fun x_5 H1 => ∃ c, x_5 = V.bl c ∧ if (!c) = true then Q (V.bl false) H1 else tr { nx := fun x H' => Q V.non H', rt := Q } [y0, some (V.ref a), some (V.str k.nm), some (V.int st), y4, some (V.int m), some (V.int n), some (V.ref ri), some (V.bl tn), some (V.ref ke), some (V.ref rt), some x_2, y12, y13, y14, some hv, some (.ref wl), y17] H1) E0 else tr { nx := fun x H' => Q V.non H', rt := Q } [y0, some (V.ref a), some (V.str k.nm), some (V.int st), y4, some (V.int m), some (V.int n), some (V.ref ri), some (V.bl tn), some (V.ref ke), some (V.ref rt), some x_2, y12, y13, y14, some hv, some (.ref wl), y17] H') E0) E0) E0) E0 := by
    intro H1 hv ho wl W g1 hri1 aRR1 hov hwl aW eW lW
    have lR1 := row_len k (ens RR)
    have lS := g1.lS
    refine ⟨k, ri, RR, rfl, hri1, aRR1, by omega, fun H2 t2 S2 s2 h2 a2 e2 => ?_⟩
    have g2 := g1.same s2
    rw [← e2, ens_len, ens_len] at lR1
    refine ⟨.str k.nm, rt, t2, S, S2, hv, ho, rfl, tt g2.hr, g2.as, tt h2, a2, hov.same s2, by omega, by omega, .inl ⟨k, rfl, g2.tb, fun H3 t3 S3 w3 h3 a3 e3 => ?_⟩⟩
    have g3 := g2.gw w3
    have e3' : ens S3 = rowI k (ens W) := by rw [e3, g1.eS, e2, row_join, eW]
    have l3 := row_len k (ens W)
    rw [← e3', ens_len, ens_len] at l3
    refine ⟨t3, S3, rfl, h3, a3, by omega, _, rfl, if_F rfl ?_⟩
    have hw3 := w3.1 _ _ (s2 _ _ hwl) (fun ps z => by cases z)
    refine ⟨k, wl, W, rfl, hw3, (aW.same s2).ext w3.1, by omega, fun H4 t4 S4 s4 h4 a4 e4 => ne_rows (tt (s4 _ _ h3)) (tt h4) (a3.same s4) a4 (by rw [e3', e4]) ⟨false, rfl, if_F rfl ?_⟩⟩
    have g4 := g3.same s4
    cases tn with
    | false =>
      obtain ⟨f1, f2⟩ := hfl rfl
      exact if_T rfl ⟨a, k, ke, rt, R, S, st, rfl, g4.st, g4.ne, g4.hk, g4.al, f1, f2, g4.hr, g4.as, g4.eS, g4.tb, fun H5 tb5 st5 => ⟨true, rfl, if_F rfl (hR Q _ _ _ _ _ _ _ _ _ _ _ _ _ _ _ _ _ a H5 st5 q)⟩⟩
    | true => exact if_F rfl (hR Q _ _ _ _ _ _ _ _ _ _ _ _ _ _ _ _ _ a H4 g4.st q)
  have lR := g.lR
  try simp only [tSeq, tAsg, gName, tOp, rI, rI0, rU, tUn, tVar, tC, tCB, tCons, tNil, tTest, tIfS, tRet, tRetN, tDrop, tNext, tBreak, tCont, rEq, rNe, CDiv, CDivN, CMul, tBM, tBM0, tTup, tLst, tAug, tIf, tAnd, tOr, tNot, tAndV, tOrV, tNotV, tIsN, tNotN, tB, scal, tCall, cxK, cxKn, rIxT, rIxL, rIn, rAppend, rReverse, tVals, tDSetd, tDGet, tDGet1, tDGet2, tDIn, tDNotIn, rSortV, rSortT, rPop, rSortL, rSortT, tSl, tNoPart, tPart, List.append_nil, L2.start, List.map_cons, List.map_nil, List.length_cons, List.length_nil, List.replicate_succ, List.replicate_zero, List.cons_append, List.nil_append, Nat.reduceAdd, Nat.reduceSub, exists_eq, exists_eq', List.getElem?_cons_zero, List.getElem?_cons_succ, List.set_cons_zero, List.set_cons_succ, Option.some.injEq, V.int.injEq, V.bl.injEq, V.str.injEq, V.ref.injEq, List.cons.injEq, and_true, true_and, and_false, false_and, reduceCtorEq, exists_false, or_false, false_or, exists_and_left, exists_and_right, exists_eq_left, exists_eq_left', exists_eq_right, exists_eq_right', exists_const, ite_true, ite_false, Bool.false_eq_true, if_true, if_false, decide_true, decide_false]
  refine cat_rl g.hk hri g.al aRR (by omega) fun z H1 s1 h1 a1 => ite2 (fun c => ⟨by decide, fun p hp => ⟨by decide, fun l hl => ?_⟩⟩) (fun c => ?_)
  · have sp := same_upd (o := .tup [.int m, .int (m + n)]) hp
    have sl := same_upd (o := .lst [.ref p]) hl
    have s3 := (s1.trans sp).trans sl
    have ep : EnV (upd (upd H1 p (.tup [.int m, .int (m + n)])) l (.lst [.ref p])) (.ref p) (.h m (m + n)) := .h (sl _ _ upd_same)
    refine cat_rl (X := R) (Y := [(.ref p, .h m (m + n))]) (s3 _ _ g.hk) upd_same (g.al.same s3) (fun q hq => by rw [List.mem_singleton.mp hq]; exact ep) (by rw [List.length_singleton]; omega) fun z2 H4 s4 h4 a4 => ?_
    have s34 := s3.trans s4
    refine cat_rl h4 (s34 _ _ hri) a4 (aRR.same s34) (by rw [List.length_append, List.length_singleton]; omega) fun z3 H5 s5 h5 a5 => ?_
    have s35 := s34.trans s5
    refine tail H5 (.ref p) [.h m (m + n)] z3 _ (g.same s35) (s35 _ _ hri) (aRR.same s35) (.inr ⟨p, m, m + n, rfl, (s4.trans s5) _ _ (sl _ _ upd_same), rfl⟩) h5 a5 (by rw [ens_app, ens_app]; rfl) (by rw [List.length_append, List.length_append, List.length_singleton]; omega)
  · exact tail H1 .non [] z _ (g.same s1) (s1 _ _ hri) (aRR.same s1) (.inl ⟨rfl, rfl⟩) h1 a1 (by rw [ens_app, List.append_nil]) (by rw [List.length_append]; omega)
end
end Mv

set_option Elab.async false
set_option linter.all false
set_option maxRecDepth 100000
set_option maxHeartbeats 4000000
namespace Mv
open PySem PySem.Spec PyProof.Rows L2
section
variable {P : Program} {w : World} {K : PySem.W.Frag} {mg : Str → Option Value} {base : Heap} {T : List (Addr × Str)} {cls : Kd → Addr} {CB : Addr}
/-- values and holes of the row -/
theorem law_11 {f : Addr} {cdv : Value} {A : Around} {outer : List Env} {s : Shared} {H0 : Hp} {E : XK} (B : Bi mg) (hr : Room 7 (A.deeper (envOfC "law" (defScope sLaw) s.heap.objs.size f cdv))) (cDraw : CalX CX0 P w K mg base 1 "_law_draw" spDraw) (cRef : CalX CX0 P w K mg base 6 "_law_refused" spRef)
    (cRow : CalX CX0 P w K mg base 2 "_law_row" spRow) (cJR : CalX (L2.CX P w) P w K mg base 5 "joined_rows" (spJR K T CB)) (cIR : CalX CX0 P w K mg base 2 "_law_is_row" (spIR K)) (cFills : CalX CX0 P w K mg base 6 "_law_fills" (spFills K T))
    (cRV : CalX CX0 P w K mg base 2 "row_values" (spRV K)) (cRH : CalX CX0 P w K mg base 2 "row_holes" (spRH K)) :
    ∃ t, PSs (cxOf CX0 P w K mg base lawN "law" (defScope sLaw) f cdv A outer s H0 E).nox ((defBody sLaw).drop 11) t ∧ ∀ (Q : VK) (y0 y11 y12 y13 y14 y15 y16 y17 : Option V) (st m n : Int) (tn : Bool) (a le ke rt ri : Addr) (k : Kd) (R S RR : RL) (H : Hp), G11 T H a ke rt k R S → H le = some (.lst (vls R)) → ri ≠ a → H ri = some (.lst (vls RR)) → All H RR → RR.length ≤ 11 → (tn = false → R.length ≤ 12 ∧ HPos (ens R)) → (∀ H' : Hp, Q (.bl true) H') →
      t { nx := fun _ H' => Q .non H', rt := Q } [y0, some (.ref a), some (.str k.nm), some (.int st), some (.ref le), some (.int m), some (.int n), some (.ref ri), some (.bl tn), some (.ref ke), some (.ref rt), y11, y12, y13, y14, y15, y16, y17] H := by
  obtain ⟨tr, hrest, hR⟩ := law_16 (s := s) (H0 := H0) (E := E) (outer := outer) (cdv := cdv) (f := f) (A := A) (K := K) (P := P) (w := w) (base := base) (T := T) (CB := CB) B hr cDraw cRef cRow cJR cIR cFills
  refine ⟨_, (pss_cons (ps_set (i := 12) scLaw.nd rfl (.inl rfl) (pe_cx cRV hr (by decide) pass0 (by rfl) (pa_cons (pv 10) pa_nil)))
 (pss_cons (ps_set (i := 13) scLaw.nd rfl (.inl rfl) (pe_cx cRH hr (by decide) pass0 (by rfl) (pa_cons (pv 10) pa_nil)))
 (pss_cons (ps_if (PW.pt (pw_or (pt_cmpR (op_neD hr.units) (pv 4) (pv 9) (nomark _)) (pw_or (pt_not (pt_val (pe_callB (id := "isinstance") call_isi (by rfl) B.isinstance (by decide +kernel) (pa_cons (pv 12) (pa_cons (pe_bltn (by rfl) B.list (by decide +kernel) (v := .ty "list") rfl) pa_nil))))) (pw_or1 (pt_not (pt_val (pe_callB (id := "isinstance") call_isi (by rfl) B.isinstance (by decide +kernel) (pa_cons (pv 13) (pa_cons (pe_bltn (by rfl) B.list (by decide +kernel) (v := .ty "list") rfl) pa_nil)))))))))
 (pss_one (ps_ret pe_bl)) pss_nil)
 (pss_cons (ps_if (pt_cmpR (op_neD hr.units) (pv 12) (pe_lc (own := [("_law_entry", 14)]) (g := gName 14) (tt := (tNot (tB (tCB (rIsi K) (tCons (tVar 14) (tCons (tC (V.ty "tuple")) tNil)))))) (te := (tVar 14)) rfl scLaw.nd (pi_tup (pv 10)) (blkOk_by (N := ["_law_script", "_law_stream_here", "_law_kind_here", "_law_style", "_law_left", "_law_number", "_law_lack", "_law_right", "_law_turned", "_law_kept", "_law_row_here", "_law_told", "_law_word", "_law_holes", "_law_entry", "_law_hole", "_law_whole", "_law_name"]) (sc := defScope sLaw) (by decide +kernel)) (fun _ _ _ _ _ => (pg_name (i := 14) scLaw.nd rfl (.inl rfl))) (fun _ _ _ _ _ => (pts_one (pt_not (pt_val (pe_callB (id := "isinstance") call_isi (by rfl) B.isinstance (by decide +kernel) (pa_cons (pv 14) (pa_cons (pe_bltn (by rfl) B.tuple (by decide +kernel) (v := .ty "tuple") rfl) pa_nil))))))) (fun _ _ _ _ _ => (pv 14))) (nomark _))
 (pss_one (ps_ret pe_bl)) pss_nil)
 (pss_cons (ps_if (pt_cmpR (op_neD hr.units) (pv 13) (pe_lc (own := [("_law_entry", 14)]) (g := gName 14) (tt := (tB (tCB (rIsi K) (tCons (tVar 14) (tCons (tC (V.ty "tuple")) tNil))))) (te := (tVar 14)) rfl scLaw.nd (pi_tup (pv 10)) (blkOk_by (N := ["_law_script", "_law_stream_here", "_law_kind_here", "_law_style", "_law_left", "_law_number", "_law_lack", "_law_right", "_law_turned", "_law_kept", "_law_row_here", "_law_told", "_law_word", "_law_holes", "_law_entry", "_law_hole", "_law_whole", "_law_name"]) (sc := defScope sLaw) (by decide +kernel)) (fun _ _ _ _ _ => (pg_name (i := 14) scLaw.nd rfl (.inl rfl))) (fun _ _ _ _ _ => (pts_one (pt_val (pe_callB (id := "isinstance") call_isi (by rfl) B.isinstance (by decide +kernel) (pa_cons (pv 14) (pa_cons (pe_bltn (by rfl) B.tuple (by decide +kernel) (v := .ty "tuple") rfl) pa_nil)))))) (fun _ _ _ _ _ => (pv 14))) (nomark _))
 (pss_one (ps_ret pe_bl)) pss_nil)
 hrest))))), ?_⟩
  intro Q y0 y11 y12 y13 y14 y15 y16 y17 st m n tn a le ke rt ri k R S RR H g hle nri hri aRR lRR hfl q
  try simp only [tSeq, tAsg, gName, tOp, rI, rI0, rU, tUn, tVar, tC, tCB, tCons, tNil, tTest, tIfS, tRet, tRetN, tDrop, tNext, tBreak, tCont, rEq, rNe, CDiv, CDivN, CMul, tBM, tBM0, tTup, tLst, tAug, tIf, tAnd, tOr, tNot, tAndV, tOrV, tNotV, tIsN, tNotN, tB, scal, tCall, cxK, cxKn, rIxT, rIxL, rIn, rAppend, rReverse, tVals, tDSetd, tDGet, tDGet1, tDGet2, tDIn, tDNotIn, rSortV, rSortT, rPop, rSortL, rSortT, tSl, tNoPart, tPart, List.append_nil, L2.start, List.map_cons, List.map_nil, List.length_cons, List.length_nil, List.replicate_succ, List.replicate_zero, List.cons_append, List.nil_append, Nat.reduceAdd, Nat.reduceSub, exists_eq, exists_eq', List.getElem?_cons_zero, List.getElem?_cons_succ, List.set_cons_zero, List.set_cons_succ, Option.some.injEq, V.int.injEq, V.bl.injEq, V.str.injEq, V.ref.injEq, List.cons.injEq, and_true, true_and, and_false, false_and, reduceCtorEq, exists_false, or_false, false_or, exists_and_left, exists_and_right, exists_eq_left, exists_eq_left', exists_eq_right, exists_eq_right', exists_const, ite_true, ite_false, Bool.false_eq_true, if_true, if_false, decide_true, decide_false]
  have lS := g.lS
  refine ⟨rt, S, rfl, ⟨.inr (tt g.hr), g.as⟩, by omega, fun H1 lw s1 h1 => ?_⟩
  have g1 := g.same s1
  refine ⟨rt, S, rfl, ⟨.inr (tt g1.hr), g1.as⟩, by omega, fun H2 lh s2 h2 => ?_⟩
  have g2 := g1.same s2
  have hw2 := s2 _ _ h1
  have hle2 := s2 _ _ (s1 _ _ hle)
  refine ne_lists (ll hle2) (ll g2.hk) g2.al g2.al rfl ?_
  refine ⟨false, rfl, if_F rfl ?_⟩
  refine ⟨.ref lw, .ty "list", .type "list", .type "list", true, rfl, .ty _, .base (.lst hw2), kit_ty (by decide +kernel), true, rfl, if_F rfl ?_⟩
  refine ⟨.ref lh, .ty "list", .type "list", .type "list", true, rfl, .ty _, .base (.lst h2), kit_ty (by decide +kernel), true, rfl, if_F rfl ?_⟩
  refine ⟨.ref rt, rfl, rt, rfl, ⟨_, tt g2.hr⟩, fun D hD => lc_tup (K := K) (xs := vls S) (fun i H' => Same H2 H' ∧ H' D = some (.lst ((vals ((ens S).take i)).map V.int))) ⟨same_upd hD, upd_same⟩ (fun i H' _ h => tt (h.1 _ _ g2.hr)) ?_ ?_⟩
  · rintro i x H3 hx ⟨s3, hd⟩
    obtain ⟨e, he, rfl⟩ := vls_at hx
    have hil := (List.getElem?_eq_some_iff.mp he).1
    have ee : (ens S)[i]? = some e.2 := by
      unfold ens
      rw [List.getElem?_map, he]
      rfl
    have vl : (vals ((ens S).take i)).length ≤ i := Nat.le_trans (vals_len _) (by rw [List.length_take]; exact Nat.min_le_left _ _)
    refine ⟨rfl, ?_⟩
    simp only [tSeq, tAsg, gName, tOp, rI, rI0, rU, tUn, tVar, tC, tCB, tCons, tNil, tTest, tIfS, tRet, tRetN, tDrop, tNext, tBreak, tCont, rEq, rNe, CDiv, CDivN, CMul, tBM, tBM0, tTup, tLst, tAug, tIf, tAnd, tOr, tNot, tAndV, tOrV, tNotV, tIsN, tNotN, tB, scal, tCall, cxK, cxKn, rIxT, rIxL, rIn, rAppend, rReverse, tVals, tDSetd, tDGet, tDGet1, tDGet2, tDIn, tDNotIn, rSortV, rSortT, rPop, rSortL, rSortT, tSl, tNoPart, tPart, List.append_nil, L2.start, List.map_cons, List.map_nil, List.length_cons, List.length_nil, List.replicate_succ, List.replicate_zero, List.cons_append, List.nil_append, Nat.reduceAdd, Nat.reduceSub, exists_eq, exists_eq', wipe, List.getElem?_cons_zero, List.getElem?_cons_succ, List.set_cons_zero, List.set_cons_succ, Option.some.injEq, V.int.injEq, V.bl.injEq, V.str.injEq, V.ref.injEq, List.cons.injEq, and_true, true_and, and_false, false_and, reduceCtorEq, exists_false, or_false, false_or, exists_and_left, exists_and_right, exists_eq_left, exists_eq_left', exists_eq_right, exists_eq_right', exists_const, ite_true, ite_false, Bool.false_eq_true, if_true, if_false, decide_true, decide_false]
    have hev := (g2.as e (List.mem_of_getElem? he)).same s3
    refine isi_tup hev ⟨_, rfl, ?_⟩
    rw [List.take_add_one, ee, Option.toList_some, vals_app]
    obtain ⟨x, en⟩ := e
    cases hev with
    | v x =>
      refine if_T rfl ⟨_, hd, by rw [List.length_map]; exact small1000 (by omega), fun b o e => ?_, ?_⟩
      · rw [upd_ne (ne_of_none e hD)]
        exact s3 _ _ e
      · rw [upd_same, List.map_append]
        rfl
    | h e =>
      refine if_F rfl ⟨s3, ?_⟩
      rw [hd]
      show _ = some (HO.lst ((_ ++ []).map V.int))
      rw [List.append_nil]
  rintro H3 ⟨s3, hd⟩
  rw [List.take_of_length_le (by unfold ens vls; rw [List.length_map, List.length_map]; exact Nat.le_refl _)] at hd
  have g3 := g2.same s3
  refine ne_lists (R := vR (vals (ens S))) (S := vR (vals (ens S))) (ll (by rw [vls_vR]; exact s3 _ _ hw2)) (ll (by rw [vls_vR]; exact hd)) (all_vR _ _) (all_vR _ _) rfl ⟨false, rfl, if_F rfl ?_⟩
  refine ⟨.ref rt, rfl, rt, rfl, ⟨_, tt g3.hr⟩, fun D2 hD2 => lc_tup (K := K) (xs := vls S) (fun i H' => Same H3 H' ∧ H' D2 = some (.lst (vls (hls (S.take i))))) ⟨same_upd hD2, upd_same⟩ (fun i H' _ h => tt (h.1 _ _ g3.hr)) ?_ ?_⟩
  · rintro i x H4 hx ⟨s4, hd2⟩
    obtain ⟨e, he, rfl⟩ := vls_at hx
    have hil := (List.getElem?_eq_some_iff.mp he).1
    have vl : (vls (hls (S.take i))).length ≤ i := by
      unfold vls hls
      rw [List.length_map]
      exact Nat.le_trans (List.length_filter_le _ _) (by rw [List.length_take]; exact Nat.min_le_left _ _)
    refine ⟨rfl, ?_⟩
    simp only [tSeq, tAsg, gName, tOp, rI, rI0, rU, tUn, tVar, tC, tCB, tCons, tNil, tTest, tIfS, tRet, tRetN, tDrop, tNext, tBreak, tCont, rEq, rNe, CDiv, CDivN, CMul, tBM, tBM0, tTup, tLst, tAug, tIf, tAnd, tOr, tNot, tAndV, tOrV, tNotV, tIsN, tNotN, tB, scal, tCall, cxK, cxKn, rIxT, rIxL, rIn, rAppend, rReverse, tVals, tDSetd, tDGet, tDGet1, tDGet2, tDIn, tDNotIn, rSortV, rSortT, rPop, rSortL, rSortT, tSl, tNoPart, tPart, List.append_nil, L2.start, List.map_cons, List.map_nil, List.length_cons, List.length_nil, List.replicate_succ, List.replicate_zero, List.cons_append, List.nil_append, Nat.reduceAdd, Nat.reduceSub, exists_eq, exists_eq', wipe, List.getElem?_cons_zero, List.getElem?_cons_succ, List.set_cons_zero, List.set_cons_succ, Option.some.injEq, V.int.injEq, V.bl.injEq, V.str.injEq, V.ref.injEq, List.cons.injEq, and_true, true_and, and_false, false_and, reduceCtorEq, exists_false, or_false, false_or, exists_and_left, exists_and_right, exists_eq_left, exists_eq_left', exists_eq_right, exists_eq_right', exists_const, ite_true, ite_false, Bool.false_eq_true, if_true, if_false, decide_true, decide_false]
    have hev := (g3.as e (List.mem_of_getElem? he)).same s4
    refine isi_tup hev ⟨_, rfl, ?_⟩
    have es : hls (S.take (i + 1)) = hls (S.take i) ++ if e.2.isH = true then [e] else [] := by
      unfold hls
      rw [List.take_add_one, he, List.filter_append]
      congr 1
      exact List.filter_cons.trans (by simp)
    rw [es]
    refine ite2 (fun eh => ?_) (fun eh => ?_)
    · rw [if_pos eh, vls_app]
      refine ⟨_, hd2, exact_small vl (by omega), fun b o e => ?_, ?_⟩
      · rw [upd_ne (ne_of_none e hD2)]
        exact s4 _ _ e
      · rw [upd_same]
        rfl
    · rw [if_neg eh, List.append_nil]
      exact ⟨s4, hd2⟩
  rintro H4 ⟨s4, hd2⟩
  rw [List.take_of_length_le (by unfold vls; rw [List.length_map]; exact Nat.le_refl _)] at hd2
  have g4 := g3.same s4
  have s24 := s3.trans s4
  have s04 := (s1.trans s2).trans s24
  refine ne_lists (R := hls S) (S := hls S) (ll (s24 _ _ h2)) (ll hd2) (hls_all g4.as) (hls_all g4.as) rfl ⟨false, rfl, if_F rfl ?_⟩
  exact hR Q _ _ _ _ _ _ _ _ _ st m n tn a ke rt ri k R S RR H4 g4 nri (s04 _ _ hri) (aRR.same s04) lRR hfl q
end
end Mv

set_option Elab.async false
set_option linter.all false
set_option maxRecDepth 100000
set_option maxHeartbeats 4000000
namespace Mv
open PySem PySem.Spec PyProof.Rows L2
section
variable {P : Program} {w : World} {K : PySem.W.Frag} {mg : Str → Option Value} {base : Heap} {T : List (Addr × Str)} {cls : Kd → Addr} {CB : Addr}
/-- the row three times -/
theorem law_8 {f : Addr} {cdv : Value} {A : Around} {outer : List Env} {s : Shared} {H0 : Hp} {E : XK} (B : Bi mg) (hr : Room 7 (A.deeper (envOfC "law" (defScope sLaw) s.heap.objs.size f cdv))) (cDraw : CalX CX0 P w K mg base 1 "_law_draw" spDraw) (cRef : CalX CX0 P w K mg base 6 "_law_refused" spRef)
    (cRow : CalX CX0 P w K mg base 2 "_law_row" spRow) (cJR : CalX (L2.CX P w) P w K mg base 5 "joined_rows" (spJR K T CB)) (cIR : CalX CX0 P w K mg base 2 "_law_is_row" (spIR K)) (cFills : CalX CX0 P w K mg base 6 "_law_fills" (spFills K T))
    (cRV : CalX CX0 P w K mg base 2 "row_values" (spRV K)) (cRH : CalX CX0 P w K mg base 2 "row_holes" (spRH K)) (cRF : CalX (L2.CX P w) P w K mg base 4 "row_from" (spRF K T CB)) :
    ∃ t, PSs (cxOf CX0 P w K mg base lawN "law" (defScope sLaw) f cdv A outer s H0 E).nox ((defBody sLaw).drop 8) t ∧ ∀ (Q : VK) (y0 y9 y10 y11 y12 y13 y14 y15 y16 y17 : Option V) (st m n : Int) (tn : Bool) (a le ri : Addr) (k : Kd) (R RR : RL) (H : Hp), Strm H a → LamX.Tabs T H → H le = some (.lst (vls R)) → All H R → R.length ≤ 16 → ri ≠ a → H ri = some (.lst (vls RR)) → All H RR → RR.length ≤ 11 → (tn = false → R.length ≤ 12 ∧ HPos (ens R)) → (∀ H' : Hp, Q (.bl true) H') →
      t { nx := fun _ H' => Q .non H', rt := Q } [y0, some (.ref a), some (.str k.nm), some (.int st), some (.ref le), some (.int m), some (.int n), some (.ref ri), some (.bl tn), y9, y10, y11, y12, y13, y14, y15, y16, y17] H := by
  obtain ⟨tr, hrest, hR⟩ := law_11 (s := s) (H0 := H0) (E := E) (outer := outer) (cdv := cdv) (f := f) (A := A) (K := K) (P := P) (w := w) (base := base) (T := T) (CB := CB) B hr cDraw cRef cRow cJR cIR cFills cRV cRH
  refine ⟨_, (pss_cons (ps_set (i := 9) scLaw.nd rfl (.inl rfl) (pe_callTy call_list_of (by rfl) B.list (by decide +kernel) (pa_cons (pv 4) pa_nil)))
 (pss_cons (ps_set (i := 10) scLaw.nd rfl (.inl rfl) (pe_cx cRow hr (by decide) pass0 (by rfl) (pa_cons (pv 2) (pa_cons (pv 9) pa_nil))))
 (pss_cons (ps_for PassesOwn.never rfl (pi_tup (pe_tup (pa_cons (pe_cx cRF hr (by decide) passL (by rfl) (pa_cons (pv 2) (pa_cons (pv 4) pa_nil))) (pa_cons (pe_cx cRF hr (by decide) passL (by rfl) (pa_cons (pv 2) (pa_cons (pe_callTy call_tuple_of (by rfl) B.tuple (by decide +kernel) (pa_cons (pv 9) pa_nil)) pa_nil))) (pa_cons (pe_cx cRF hr (by decide) passL (by rfl) (pa_cons (pv 2) (pa_cons (pv 10) pa_nil))) pa_nil))))) (pg_name (i := 11) scLaw.nd rfl (.inl rfl))
 (pss_one (ps_if (PW.pt (pw_or (pt_not (pt_val (pe_cx cIR hr (by decide) pass0 (by rfl) (pa_cons (pv 11) pa_nil)))) (pw_or1 (pt_cmpR (op_neD hr.units) (pv 11) (pv 10) (nomark _)))))
 (pss_one (ps_ret pe_bl)) pss_nil)))
 hrest))), ?_⟩
  intro Q y0 y9 y10 y11 y12 y13 y14 y15 y16 y17 st m n tn a le ri k R RR H hs tb hle al lR nri hri aRR lRR hfl q
  try simp only [tSeq, tAsg, gName, tOp, rI, rI0, rU, tUn, tVar, tC, tCB, tCons, tNil, tTest, tIfS, tRet, tRetN, tDrop, tNext, tBreak, tCont, rEq, rNe, CDiv, CDivN, CMul, tBM, tBM0, tTup, tLst, tAug, tIf, tAnd, tOr, tNot, tAndV, tOrV, tNotV, tIsN, tNotN, tB, scal, tCall, cxK, cxKn, rIxT, rIxL, rIn, rAppend, rReverse, tVals, tDSetd, tDGet, tDGet1, tDGet2, tDIn, tDNotIn, rSortV, rSortT, rPop, rSortL, rSortT, tSl, tNoPart, tPart, List.append_nil, L2.start, List.map_cons, List.map_nil, List.length_cons, List.length_nil, List.replicate_succ, List.replicate_zero, List.cons_append, List.nil_append, Nat.reduceAdd, Nat.reduceSub, exists_eq, exists_eq', List.getElem?_cons_zero, List.getElem?_cons_succ, List.set_cons_zero, List.set_cons_succ, Option.some.injEq, V.int.injEq, V.bl.injEq, V.str.injEq, V.ref.injEq, List.cons.injEq, and_true, true_and, and_false, false_and, reduceCtorEq, exists_false, or_false, false_or, exists_and_left, exists_and_right, exists_eq_left, exists_eq_left', exists_eq_right, exists_eq_right', exists_const, ite_true, ite_false, Bool.false_eq_true, if_true, if_false, decide_true, decide_false]
  refine ⟨_, .inl (ll hle), fun ke hke => ?_⟩
  have s1 := same_upd (o := .lst (vls R)) hke
  refine ⟨k, ke, R, rfl, upd_same, al.same s1, by omega, fun H2 rt S s2 h2 a2 e2 => ?_⟩
  have s12 := s1.trans s2
  have g : G11 T H2 a ke rt k R S := ⟨hs.same s12, (none_of hs (Sx.refl a H) hke).2, s2 _ _ upd_same, al.same s12, lR, h2, a2, e2, tb.ext s12⟩
  have hle2 := s12 _ _ hle
  have lS := g.lS
  refine ⟨.str k.nm, rfl, .ref le, rfl, ⟨.str k.nm, le, R, rfl, ⟨.inl (ll hle2), g.al⟩, by omega, .inl ⟨k, rfl, g.tb, fun H3 t1 S1 w1 h1 a1 e1 => ?_⟩⟩⟩
  have g3 := g.gw w1
  refine ⟨.str k.nm, rfl, .ref ke, rfl, ke, rfl, _, .inl ⟨ll g3.hk, fun tp htp => ?_⟩⟩
  have s4 := same_upd (o := .tup (vls R)) htp
  have g4 := g3.same s4
  refine ⟨.str k.nm, tp, R, rfl, ⟨.inr (tt upd_same), g4.al⟩, by omega, .inl ⟨k, rfl, g4.tb, fun H5 t2 S2 w2 h2 a2 e2 => ?_⟩⟩
  have g5 := g4.gw w2
  refine ⟨.str k.nm, rfl, .ref rt, rfl, ⟨.str k.nm, rt, S, rfl, ⟨.inr (tt g5.hr), g5.as⟩, by omega, .inl ⟨k, rfl, g5.tb, fun H6 t3 S3 w3 h3 a3 e3 => ?_⟩⟩⟩
  have g6 := g5.gw w3
  have w26 := ((w1.trans (Gw.of w1.2 s4)).trans w2).trans w3
  have w36 := ((Gw.of w1.2 s4).trans w2).trans w3
  refine ⟨by show 3 ≤ sizeLine; decide, fun tk htk => ?_⟩
  have s7 := same_upd (o := .tup [.ref t1, .ref t2, .ref t3]) htk
  have g7 := g6.same s7
  have rows : ∀ x ∈ [V.ref t1, V.ref t2, V.ref t3], ∃ (t : Addr) (S' : RL), x = .ref t ∧ upd H6 tk (.tup [.ref t1, .ref t2, .ref t3]) t = some (.tup (vls S')) ∧ All (upd H6 tk (.tup [.ref t1, .ref t2, .ref t3])) S' ∧ ens S' = ens S := by
    intro x hx
    rcases List.mem_cons.mp hx with rfl | hx
    · exact ⟨t1, S1, rfl, s7 _ _ (w36.1 _ _ h1 (fun ps z => by cases z)), (a1.ext w36.1).same s7, by rw [e1, g.eS]⟩
    rcases List.mem_cons.mp hx with rfl | hx
    · exact ⟨t2, S2, rfl, s7 _ _ (w3.1 _ _ h2 (fun ps z => by cases z)), (a2.ext w3.1).same s7, by rw [e2, g.eS]⟩
    · exact ⟨t3, S3, List.mem_singleton.mp hx, s7 _ _ h3, a3.same s7, by rw [e3, g.eS, row_idem]⟩
  have hw := w26.1 _ _ hle2 (fun ps z => by cases z)
  have hri7 := s7 _ _ (w26.1 _ _ (s12 _ _ hri) (fun ps z => by cases z))
  have aRR7 := ((aRR.same s12).ext w26.1).same s7
  have hle7 := s7 _ _ hw
  have htk7 : upd H6 tk (.tup [.ref t1, .ref t2, .ref t3]) tk = some (.tup [.ref t1, .ref t2, .ref t3]) := upd_same
  generalize upd H6 tk (.tup [.ref t1, .ref t2, .ref t3]) = H7 at g7 rows hri7 aRR7 hle7 htk7 ⊢
  refine ⟨tk, rfl, ⟨_, tt htk7⟩, for_tup (K := K) (xs := [.ref t1, .ref t2, .ref t3]) (fun i σ H' => H' = H7 ∧ ∃ y, σ = [y0, some (V.ref a), some (V.str k.nm), some (V.int st), some (V.ref le), some (V.int m), some (V.int n), some (V.ref ri), some (V.bl tn), some (V.ref ke), some (V.ref rt), y, y12, y13, y14, y15, y16, y17]) ⟨rfl, _, rfl⟩ (fun i σ H' _ h => by rw [h.1]; exact tt htk7) ?_ ?_⟩
  · rintro i x σ H' hx ⟨rfl, y, rfl⟩
    obtain ⟨t, S', rfl, ht, aS, eS'⟩ := rows x (List.mem_of_getElem? hx)
    have lS' : S'.length = S.length := by rw [← ens_len, eS', ens_len]
    simp only [tSeq, tAsg, gName, tOp, rI, rI0, rU, tUn, tVar, tC, tCB, tCons, tNil, tTest, tIfS, tRet, tRetN, tDrop, tNext, tBreak, tCont, rEq, rNe, CDiv, CDivN, CMul, tBM, tBM0, tTup, tLst, tAug, tIf, tAnd, tOr, tNot, tAndV, tOrV, tNotV, tIsN, tNotN, tB, scal, tCall, cxK, cxKn, rIxT, rIxL, rIn, rAppend, rReverse, tVals, tDSetd, tDGet, tDGet1, tDGet2, tDIn, tDNotIn, rSortV, rSortT, rPop, rSortL, rSortT, tSl, tNoPart, tPart, List.append_nil, L2.start, List.map_cons, List.map_nil, List.length_cons, List.length_nil, List.replicate_succ, List.replicate_zero, List.cons_append, List.nil_append, Nat.reduceAdd, Nat.reduceSub, exists_eq, exists_eq', List.getElem?_cons_zero, List.getElem?_cons_succ, List.set_cons_zero, List.set_cons_succ, Option.some.injEq, V.int.injEq, V.bl.injEq, V.str.injEq, V.ref.injEq, List.cons.injEq, and_true, true_and, and_false, false_and, reduceCtorEq, exists_false, or_false, false_or, exists_and_left, exists_and_right, exists_eq_left, exists_eq_left', exists_eq_right, exists_eq_right', exists_const, ite_true, ite_false, Bool.false_eq_true, if_true, if_false, decide_true, decide_false]
    exact ⟨t, S', rfl, ht, aS, by omega, true, rfl, if_F rfl (ne_rows (tt ht) (tt g7.hr) aS g7.as eS' ⟨false, rfl, if_F rfl rfl⟩)⟩
  · rintro σ H' ⟨rfl, y, rfl⟩
    exact hR Q _ _ _ _ _ _ _ _ st m n tn a le ke rt ri k R S RR H' g7 hle7 nri hri7 aRR7 lRR hfl q
end
end Mv

set_option Elab.async false
set_option linter.all false
set_option maxRecDepth 100000
set_option maxHeartbeats 4000000
namespace Mv
open PySem PySem.Spec PyProof.Rows L2
section
variable {P : Program} {w : World} {K : PySem.W.Frag} {mg : Str → Option Value} {base : Heap} {T : List (Addr × Str)} {cls : Kd → Addr} {CB : Addr}
def spLaw (K : PySem.W.Frag) (T : List (Addr × Str)) : Sp := fun vs H Q _ => ∃ (a : Addr) (ns : List Int), vs = [.ref a] ∧ SqL K H a (ns.map V.int) ∧ ns.length ≤ 63 ∧ LamX.Tabs T H ∧ ∀ H' : Hp, Q (.bl true) H'
theorem ok_law {f : Addr} {fd : FuncData} (F : Fun K "law" "law" sLaw f fd) (B : Bi mg) (cStream : CalX CX0 P w K mg base 1 "_law_stream" (spStream K)) (cDraw : CalX CX0 P w K mg base 1 "_law_draw" spDraw) (cKind : CalX CX0 P w K mg base 2 "_law_kind" spKind) (cEnt : CalX CX0 P w K mg base 4 "_law_entries" spEnt) (cRef : CalX CX0 P w K mg base 6 "_law_refused" spRef)
    (cRow : CalX CX0 P w K mg base 2 "_law_row" spRow) (cJR : CalX (L2.CX P w) P w K mg base 5 "joined_rows" (spJR K T CB)) (cIR : CalX CX0 P w K mg base 2 "_law_is_row" (spIR K)) (cFills : CalX CX0 P w K mg base 6 "_law_fills" (spFills K T))
    (cRV : CalX CX0 P w K mg base 2 "row_values" (spRV K)) (cRH : CalX CX0 P w K mg base 2 "row_holes" (spRH K)) (cRF : CalX (L2.CX P w) P w K mg base 4 "row_from" (spRF K T CB)) :
    FnOk P w K mg base CX0 8 f fd ["_law_script"] (spLaw K T) := by
  refine F.ok scLaw (fun vs H Q E h => ?_) (fun cdv A outer s H vs Q E hr h => ?_)
  · obtain ⟨a, ns, rfl, _⟩ := h
    rfl
  · obtain ⟨b, ns, rfl, hS, hlen, hT, q⟩ := h
    obtain ⟨tr, hrest, hR⟩ := law_8 (s := s) (H0 := H) (E := E) (outer := outer) (cdv := cdv) (f := f) (A := A) (K := K) (P := P) (w := w) (base := base) (T := T) (CB := CB) B hr cDraw cRef cRow cJR cIR cFills cRV cRH cRF
    refine ⟨_, (pss_cons (ps_set (i := 1) scLaw.nd rfl (.inl rfl) (pe_cx cStream hr (by decide) pass0 (by rfl) (pa_cons (pv 0) pa_nil)))
 (pss_cons (ps_set (i := 2) scLaw.nd rfl (.inl rfl) (pe_cx cKind hr (by decide) pass0 (by rfl) (pa_cons (pv 1) pa_nil)))
 (pss_cons (ps_set (i := 3) scLaw.nd rfl (.inl rfl) (pe_cx cDraw hr (by decide) pass0 (by rfl) (pa_cons (pv 1) (pa_cons pe_int pa_nil))))
 (pss_cons (ps_asg (pe_cx cEnt hr (by decide) pass0 (by rfl) (pa_cons (pv 1) (pa_cons (pe_cx cDraw hr (by decide) pass0 (by rfl) (pa_cons (pv 1) (pa_cons pe_int pa_nil))) (pa_cons (pv 3) pa_nil)))) (pg_tup rfl (pgs_cons (pg_name (i := 4) scLaw.nd rfl (.inl rfl)) (pgs_cons (pg_name (i := 5) scLaw.nd rfl (.inl rfl)) pgs_nil))))
 (pss_cons (ps_set (i := 6) scLaw.nd rfl (.inl rfl) (pe_ix ix_tup (pe_tup (pa_cons pe_int (pa_cons pe_int (pa_cons pe_int pa_nil)))) (pe_cx cDraw hr (by decide) pass0 (by rfl) (pa_cons (pv 1) (pa_cons pe_int pa_nil))) (fun _ _ => rfl)))
 (pss_cons (ps_set (i := 7) scLaw.nd rfl (.inl rfl) (pe_ix ix_tup (pe_cx cEnt hr (by decide) pass0 (by rfl) (pa_cons (pv 1) (pa_cons (pe_op op_add (pv 5) (pv 6)) (pa_cons (pv 3) pa_nil)))) pe_int (fun _ _ => rfl)))
 (pss_cons (ps_set (i := 8) scLaw.nd rfl (.inl rfl) (pe_cmpR op_eq (pe_cx cDraw hr (by decide) pass0 (by rfl) (pa_cons (pv 1) (pa_cons pe_int pa_nil))) pe_int (nomark _)))
 (pss_cons (ps_if (pt_val (pv 8))
 (pss_one (ps_set (i := 4) scLaw.nd rfl (.inl rfl) (pe_op op_cat (pe_op op_cat (pe_lst (pa_cons (pe_tup (pa_cons pe_int (pa_cons pe_int pa_nil))) pa_nil)) (pe_revL (pv 4))) (pe_lst (pa_cons (pe_tup (pa_cons pe_int (pa_cons pe_int pa_nil))) (pa_cons (pe_tup (pa_cons pe_int (pa_cons pe_int pa_nil))) pa_nil)))))) pss_nil)
 hrest)))))))), ?_⟩
    try simp only [tSeq, tAsg, gName, tOp, rI, rI0, rU, tUn, tVar, tC, tCB, tCons, tNil, tTest, tIfS, tRet, tRetN, tDrop, tNext, tBreak, tCont, rEq, rNe, CDiv, CDivN, CMul, tBM, tBM0, tTup, tLst, tAug, tIf, tAnd, tOr, tNot, tAndV, tOrV, tNotV, tIsN, tNotN, tB, scal, tCall, cxK, cxKn, rIxT, rIxL, rIn, rAppend, rReverse, tVals, tDSetd, tDGet, tDGet1, tDGet2, tDIn, tDNotIn, rSortV, rSortT, rPop, rSortL, rSortT, tSl, tNoPart, tPart, List.append_nil, L2.start, List.map_cons, List.map_nil, List.length_cons, List.length_nil, List.replicate_succ, List.replicate_zero, List.cons_append, List.nil_append, Nat.reduceAdd, Nat.reduceSub, exists_eq, exists_eq', List.getElem?_cons_zero, List.getElem?_cons_succ, List.set_cons_zero, List.set_cons_succ, Option.some.injEq, V.int.injEq, V.bl.injEq, V.str.injEq, V.ref.injEq, List.cons.injEq, and_true, true_and, and_false, false_and, reduceCtorEq, exists_false, or_false, false_or, exists_and_left, exists_and_right, exists_eq_left, exists_eq_left', exists_eq_right, exists_eq_right', exists_const, ite_true, ite_false, Bool.false_eq_true, if_true, if_false, decide_true, decide_false]
    refine ⟨b, ns, rfl, hS, hlen, fun H1 a s1 np t1 => ?_⟩
    have T1 := hT.ext s1
    refine ⟨a, rfl, t1, fun k H2 x2 t2 => ?_⟩
    obtain ⟨n1, e1, _⟩ := id t1
    have T2 := tabs_wr T1 e1 x2
    refine spDraw_of (by decide) t2 fun st H3 _ _ x3 t3 => ?_
    obtain ⟨n2, e2, _⟩ := id t2
    have T3 := tabs_wr T2 e2 x3
    refine spDraw_of (by decide) t3 fun n0 H4 _ _ x4 t4 => ?_
    obtain ⟨n3, e3, _⟩ := id t3
    have T4 := tabs_wr T3 e3 x4
    refine ⟨a, n0, st, rfl, t4, fun H5 t le R m x5 t5 nle nta ht hle al lR ps => ?_⟩
    obtain ⟨n4, e4, _⟩ := id t4
    have T5 := tabs_wr T4 e4 x5
    refine ⟨t, [.ref le, .int m], rfl, .inl (.inl ht), rfl, .ref le, [.int m], rfl, .int m, [], rfl, rfl, ?_⟩
    try simp only [tSeq, tAsg, gName, tOp, rI, rI0, rU, tUn, tVar, tC, tCB, tCons, tNil, tTest, tIfS, tRet, tRetN, tDrop, tNext, tBreak, tCont, rEq, rNe, CDiv, CDivN, CMul, tBM, tBM0, tTup, tLst, tAug, tIf, tAnd, tOr, tNot, tAndV, tOrV, tNotV, tIsN, tNotN, tB, scal, tCall, cxK, cxKn, rIxT, rIxL, rIn, rAppend, rReverse, tVals, tDSetd, tDGet, tDGet1, tDGet2, tDIn, tDNotIn, rSortV, rSortT, rPop, rSortL, rSortT, tSl, tNoPart, tPart, List.append_nil, L2.start, List.map_cons, List.map_nil, List.length_cons, List.length_nil, List.replicate_succ, List.replicate_zero, List.cons_append, List.nil_append, Nat.reduceAdd, Nat.reduceSub, exists_eq, exists_eq', List.getElem?_cons_zero, List.getElem?_cons_succ, List.set_cons_zero, List.set_cons_succ, Option.some.injEq, V.int.injEq, V.bl.injEq, V.str.injEq, V.ref.injEq, List.cons.injEq, and_true, true_and, and_false, false_and, reduceCtorEq, exists_false, or_false, false_or, exists_and_left, exists_and_right, exists_eq_left, exists_eq_left', exists_eq_right, exists_eq_right', exists_const, ite_true, ite_false, Bool.false_eq_true, if_true, if_false, decide_true, decide_false]
    refine ⟨by decide, fun p3 hp3 => ?_⟩
    have s6 := same_upd (o := .tup ([0, 1, 4].map V.int)) hp3
    have np3 := (none_of t5 (Sx.refl a H5) hp3).2
    have hT3 : upd H5 p3 (.tup ([0, 1, 4].map V.int)) p3 = some (.tup ([0, 1, 4].map V.int)) := upd_same
    have T6 := T5.ext s6
    have t6 := t5.same s6
    have al6 := al.same s6
    have hle6 := s6 _ _ hle
    change spDraw _ (upd H5 p3 (.tup ([0, 1, 4].map V.int))) _ _
    generalize upd H5 p3 (.tup ([0, 1, 4].map V.int)) = H6 at hT3 T6 t6 al6 hle6 ⊢
    refine spDraw_of (by decide) t6 fun j H7 hj0 hj1 x7 t7 => ?_
    obtain ⟨n6, e6, _⟩ := id t6
    have T7 := tabs_wr T6 e6 x7
    have al7 := al6.wr e6 x7
    have hle7 := x7 _ _ nle hle6
    have hT7 := x7 _ _ np3 hT3
    obtain ⟨j, rfl⟩ := Int.eq_ofNat_of_zero_le hj0
    have hjl : j < [(0 : Int), 1, 4].length := by
      show j < 3
      omega
    have hjy : ([(0 : Int), 1, 4].map V.int)[j]? = some (.int ([(0 : Int), 1, 4][j])) := by
      rw [List.getElem?_map, List.getElem?_eq_getElem hjl]
      rfl
    generalize [(0 : Int), 1, 4][j] = y at hjy
    refine ⟨_, _, rfl, tt hT7, _, atI_nat hjy, ?_⟩
    refine ⟨y, rfl, a, m + y, st, rfl, t7, fun H8 te ri RR m2 x8 t8 nri nte hte hri aRR lRR _ => ?_⟩
    obtain ⟨n7, e7, _⟩ := id t7
    have T8 := tabs_wr T7 e7 x8
    have al8 := al7.wr e7 x8
    have hle8 := x8 _ _ nle hle7
    refine ⟨te, rfl, _, tt hte, _, rfl, spDraw_of (by decide) t8 fun d H9 d0 d1 x9 t9 => ⟨rfl, ?_⟩⟩
    obtain ⟨n8, e8, _⟩ := id t8
    have T9 := tabs_wr T8 e8 x9
    have al9 := al8.wr e8 x9
    have hle9 := x9 _ _ nle hle8
    have hri9 := x9 _ _ nri hri
    have aRR9 := aRR.wr e8 x9
    generalize decide (V.int d = V.int 2) = tn
    refine ite2 (fun c => ?_) (fun c => ?_)
    · refine ⟨by decide, fun q1 hq1 => ⟨by decide, fun l1 hl1 => ?_⟩⟩
      have sq1 := same_upd (o := .tup [.int 7, .int 9]) hq1
      have sl1 := same_upd (o := .lst [.ref q1]) hl1
      have s10 := sq1.trans sl1
      have eq1 := sl1 _ _ (upd_same (H := H9) (a := q1) (o := .tup [.int 7, .int 9]))
      have el1 : upd (upd H9 q1 (.tup [.int 7, .int 9])) l1 (.lst [.ref q1]) l1 = some (.lst [.ref q1]) := upd_same
      generalize upd (upd H9 q1 (.tup [.int 7, .int 9])) l1 (.lst [.ref q1]) = HA at s10 eq1 el1 ⊢
      refine ⟨.ref le, rfl, le, vls R, rfl, ll (s10 _ _ hle9), fun l2 hl2 => ?_⟩
      have sl2 := same_upd (o := .lst (vls R).reverse) hl2
      have hrev : upd HA l2 (.lst (vls R).reverse) l2 = some (.lst (vls R.reverse)) := by
        rw [upd_same]
        unfold vls
        rw [List.map_reverse]
      have aR : All HA R.reverse := fun p hp => al9.same s10 p (List.mem_reverse.mp hp)
      refine cat_rl (X := [(.ref q1, .h 7 9)]) (Y := R.reverse) (sl2 _ _ el1) hrev (fun p hp => by rw [List.mem_singleton.mp hp]; exact .h (sl2 _ _ eq1)) (aR.same sl2) (by rw [List.length_singleton, List.length_reverse]; omega) fun z HB sB hB aB => ?_
      have sAB := sl2.trans sB
      refine ⟨by decide, fun q2 hq2 => ⟨by decide, fun q3 hq3 => ⟨by decide, fun l3 hl3 => ?_⟩⟩⟩
      have u2 := same_upd (o := .tup [.int 3, .int 4]) hq2
      have u3 := same_upd (o := .tup [.int 7, .int 9]) hq3
      have u4 := same_upd (o := .lst [.ref q2, .ref q3]) hl3
      have f2 := u4 _ _ (u3 _ _ (upd_same (H := HB) (a := q2) (o := .tup [.int 3, .int 4])))
      have f3 := u4 _ _ (upd_same (H := upd HB q2 (.tup [.int 3, .int 4])) (a := q3) (o := .tup [.int 7, .int 9]))
      have sBC := (u2.trans u3).trans u4
      refine cat_rl (X := [(.ref q1, .h 7 9)] ++ R.reverse) (Y := [(.ref q2, .h 3 4), (.ref q3, .h 7 9)]) (sBC _ _ hB) upd_same (aB.same sBC) (fun p hp => ?_) (by rw [List.length_append, List.length_singleton, List.length_reverse]; show _ + 2 ≤ 1000; omega) fun z2 HD sD hD aD => ?_
      · rcases List.mem_cons.mp hp with rfl | hp
        · exact .h f2
        · rw [List.mem_singleton.mp hp]
          exact .h f3
      have sAll := (s10.trans sAB).trans (sBC.trans sD)
      exact hR Q _ _ _ _ _ _ _ _ _ _ st m y tn a z2 ri k _ RR HD (t9.same sAll) (T9.ext sAll) hD aD (by rw [List.length_append, List.length_append, List.length_singleton, List.length_reverse]; show _ + 2 ≤ 16; omega) nri (sAll _ _ hri9) (aRR9.same sAll) lRR (fun z => by rw [c] at z; cases z) q
    · exact hR Q _ _ _ _ _ _ _ _ _ _ st m y tn a le ri k R RR H9 t9 T9 hle9 al9 (by omega) nri hri9 aRR9 lRR (fun _ => ⟨by omega, ps⟩) q
end
end Mv

set_option Elab.async false
set_option linter.all false
set_option maxRecDepth 100000
set_option maxHeartbeats 8000000
namespace Mv
open PySem PySem.Spec PyProof.Rows L2
abbrev sIni : Stmt := inClass (topS 2) 0
theorem cal_of {CX : CXT} {P : Program} {w : World} {K : PySem.W.Frag} {mg : Str → Option Value} {base : Heap} {k : Nat} {x : Str} {st : Stmt} {f : Addr} {fd : FuncData} {ps : List Str} {sp : Sp} (F : Fun K x x st f fd) (hm : mg x = some (.ref f)) (b : Binds K fd ps []) (h : FnOk P w K mg base CX k f fd ps sp) : CalX CX P w K mg base k x sp := ⟨f, fd, ps, h, hm, F.kp, b⟩
theorem scIni : ScI (defScope sIni) "self" "name" := ⟨rfl, rfl, rfl, rfl, rfl, by decide +kernel, by decide +kernel, by decide +kernel, rfl, rfl⟩
theorem ok_bini {P : Program} {w : World} {K : PySem.W.Frag} {mg : Str → Option Value} {base : Heap} {f c cc C : Addr} {kV doc pm ct oc : Value} {an od : Option Addr} {osl : Array (Option Value)}
    (lk : K.lookup f = some ⟨oc, od, .func (PySem.W.ksFn "__init__" "BadKind.__init__" (defArgs sIni) (defBody sIni) (defScope sIni) .none kV doc pm an (.ref c) ct cc), osl⟩) (hcd : PySem.W.codeIn K (.ref c) "BadKind.__init__" = true) (U : SupK P K f c cc C) (hsup : mg "super" = none) (hno : PySem.W.findIn K (.ref C) "name" = some none) :
    FnOk P w K mg base CX0 1 f (PySem.W.ksFn "__init__" "BadKind.__init__" (defArgs sIni) (defBody sIni) (defScope sIni) .none kV doc pm an (.ref c) ct cc) ["self", "name"] (spIniB K C "name") :=
  ok_iniB (kn := 0) (head := "not the name of a kind: ") (fun _ => rfl) (fun _ => rfl) lk hcd scIni U hsup hno (by decide) rfl rfl (by decide) (by decide)
theorem bind_bini {K : PySem.W.Frag} {c cc : Addr} {kV doc pm ct : Value} {an : Option Addr} : Binds K (PySem.W.ksFn "__init__" "BadKind.__init__" (defArgs sIni) (defBody sIni) (defScope sIni) .none kV doc pm an (.ref c) ct cc) ["self", "name"] [] := .all fun us hl => match us, hl with | [_, _], _ => rfl
def clsOf (a b c d e f g h : Addr) : Kd → Addr
  | .list => a | .bag => b | .set => c | .first => d | .last => e | .ends => f | .heads => g | .tails => h
abbrev rwK : PySem.W.OpenLaw := PySem.Challenge.rw_movedstates_k11_a_row_with_holes
theorem all_mk {w : World} {K : PySem.W.Frag} {h : Heap} {mg : Str → Option Value} {fa : Addr}
    {f_w_stream : Addr} {od_w_stream an_w_stream : Option Addr} {sl_w_stream : Array (Option Value)} {oc_w_stream kV_w_stream dc_w_stream pm_w_stream cd_w_stream ct_w_stream : Value}
    {f_w_draw : Addr} {od_w_draw an_w_draw : Option Addr} {sl_w_draw : Array (Option Value)} {oc_w_draw kV_w_draw dc_w_draw pm_w_draw cd_w_draw ct_w_draw : Value}
    {f_w_wide : Addr} {od_w_wide an_w_wide : Option Addr} {sl_w_wide : Array (Option Value)} {oc_w_wide kV_w_wide dc_w_wide pm_w_wide cd_w_wide ct_w_wide : Value}
    {f_w_kind : Addr} {od_w_kind an_w_kind : Option Addr} {sl_w_kind : Array (Option Value)} {oc_w_kind kV_w_kind dc_w_kind pm_w_kind cd_w_kind ct_w_kind : Value}
    {f_w_value : Addr} {od_w_value an_w_value : Option Addr} {sl_w_value : Array (Option Value)} {oc_w_value kV_w_value dc_w_value pm_w_value cd_w_value ct_w_value : Value}
    {f_w_plain : Addr} {od_w_plain an_w_plain : Option Addr} {sl_w_plain : Array (Option Value)} {oc_w_plain kV_w_plain dc_w_plain pm_w_plain cd_w_plain ct_w_plain : Value}
    {f_w_row : Addr} {od_w_row an_w_row : Option Addr} {sl_w_row : Array (Option Value)} {oc_w_row kV_w_row dc_w_row pm_w_row cd_w_row ct_w_row : Value}
    {f_w_filled : Addr} {od_w_filled an_w_filled : Option Addr} {sl_w_filled : Array (Option Value)} {oc_w_filled kV_w_filled dc_w_filled pm_w_filled cd_w_filled ct_w_filled : Value}
    {f_w_is_integer : Addr} {od_w_is_integer an_w_is_integer : Option Addr} {sl_w_is_integer : Array (Option Value)} {oc_w_is_integer kV_w_is_integer dc_w_is_integer pm_w_is_integer cd_w_is_integer ct_w_is_integer : Value}
    {f_w_is_row : Addr} {od_w_is_row an_w_is_row : Option Addr} {sl_w_is_row : Array (Option Value)} {oc_w_is_row kV_w_is_row dc_w_is_row pm_w_is_row cd_w_is_row ct_w_is_row : Value}
    {f_w_entries : Addr} {od_w_entries an_w_entries : Option Addr} {sl_w_entries : Array (Option Value)} {oc_w_entries kV_w_entries dc_w_entries pm_w_entries cd_w_entries ct_w_entries : Value}
    {f_w_fills : Addr} {od_w_fills an_w_fills : Option Addr} {sl_w_fills : Array (Option Value)} {oc_w_fills kV_w_fills dc_w_fills pm_w_fills cd_w_fills ct_w_fills : Value}
    {f_w_refused : Addr} {od_w_refused an_w_refused : Option Addr} {sl_w_refused : Array (Option Value)} {oc_w_refused kV_w_refused dc_w_refused pm_w_refused cd_w_refused ct_w_refused : Value}
    {f_law : Addr} {od_law an_law : Option Addr} {sl_law : Array (Option Value)} {oc_law kV_law dc_law pm_law cd_law ct_law : Value}
    {f_least_places : Addr} {od_least_places an_least_places : Option Addr} {sl_least_places : Array (Option Value)} {oc_least_places kV_least_places dc_least_places pm_least_places cd_least_places ct_least_places : Value}
    {f_greatest_places : Addr} {od_greatest_places an_greatest_places : Option Addr} {sl_greatest_places : Array (Option Value)} {oc_greatest_places kV_greatest_places dc_greatest_places pm_greatest_places cd_greatest_places ct_greatest_places : Value}
    {f_kind_named : Addr} {od_kind_named an_kind_named : Option Addr} {sl_kind_named : Array (Option Value)} {oc_kind_named kV_kind_named dc_kind_named pm_kind_named cd_kind_named ct_kind_named : Value}
    {f_is_hole : Addr} {od_is_hole an_is_hole : Option Addr} {sl_is_hole : Array (Option Value)} {oc_is_hole kV_is_hole dc_is_hole pm_is_hole cd_is_hole ct_is_hole : Value}
    {f_row_values : Addr} {od_row_values an_row_values : Option Addr} {sl_row_values : Array (Option Value)} {oc_row_values kV_row_values dc_row_values pm_row_values cd_row_values ct_row_values : Value}
    {f_row_holes : Addr} {od_row_holes an_row_holes : Option Addr} {sl_row_holes : Array (Option Value)} {oc_row_holes kV_row_holes dc_row_holes pm_row_holes cd_row_holes ct_row_holes : Value}
    {f_row_from : Addr} {od_row_from an_row_from : Option Addr} {sl_row_from : Array (Option Value)} {oc_row_from kV_row_from dc_row_from pm_row_from cd_row_from ct_row_from : Value}
    {f_hole_between : Addr} {od_hole_between an_hole_between : Option Addr} {sl_hole_between : Array (Option Value)} {oc_hole_between kV_hole_between dc_hole_between pm_hole_between cd_hole_between ct_hole_between : Value}
    {f_filled_hole : Addr} {od_filled_hole an_filled_hole : Option Addr} {sl_filled_hole : Array (Option Value)} {oc_filled_hole kV_filled_hole dc_filled_hole pm_filled_hole cd_filled_hole ct_filled_hole : Value}
    {f_put_in_row : Addr} {od_put_in_row an_put_in_row : Option Addr} {sl_put_in_row : Array (Option Value)} {oc_put_in_row kV_put_in_row dc_put_in_row pm_put_in_row cd_put_in_row ct_put_in_row : Value}
    {f_joined_rows : Addr} {od_joined_rows an_joined_rows : Option Addr} {sl_joined_rows : Array (Option Value)} {oc_joined_rows kV_joined_rows dc_joined_rows pm_joined_rows cd_joined_rows ct_joined_rows : Value}
    {C_Kind : Addr}
    {f_kO : Addr} {od_kO an_kO : Option Addr} {sl_kO : Array (Option Value)} {oc_kO kV_kO dc_kO pm_kO cd_kO ct_kO : Value}
    {C_BagKind : Addr}
    {f_kB : Addr} {od_kB an_kB : Option Addr} {sl_kB : Array (Option Value)} {oc_kB kV_kB dc_kB pm_kB ct_kB : Value}
    {C_SetKind : Addr}
    {f_kS : Addr} {od_kS an_kS : Option Addr} {sl_kS : Array (Option Value)} {oc_kS kV_kS dc_kS pm_kS cd_kS ct_kS : Value}
    {C_FirstKind : Addr}
    {f_kF : Addr} {od_kF an_kF : Option Addr} {sl_kF : Array (Option Value)} {oc_kF kV_kF dc_kF pm_kF cd_kF ct_kF : Value}
    {C_LastKind : Addr}
    {f_kL : Addr} {od_kL an_kL : Option Addr} {sl_kL : Array (Option Value)} {oc_kL kV_kL dc_kL pm_kL cd_kL ct_kL : Value}
    {C_EndsKind : Addr}
    {f_kE : Addr} {od_kE an_kE : Option Addr} {sl_kE : Array (Option Value)} {oc_kE kV_kE dc_kE pm_kE cd_kE ct_kE : Value}
    {C_HeadsKind : Addr}
    {f_kH : Addr} {od_kH an_kH : Option Addr} {sl_kH : Array (Option Value)} {oc_kH kV_kH dc_kH pm_kH cd_kH ct_kH : Value}
    {C_TailsKind : Addr}
    {f_kT : Addr} {od_kT an_kT : Option Addr} {sl_kT : Array (Option Value)} {oc_kT kV_kT dc_kT pm_kT cd_kT ct_kT : Value}
    {cB Pt : Addr}
    {f_pl : Addr} {od_pl an_pl : Option Addr} {sl_pl : Array (Option Value)} {oc_pl kV_pl dc_pl pm_pl cd_pl ct_pl : Value}
    {kn : Addr} {odN : Option Addr} {slN : Array (Option Value)} {nN : Nat} {t0 t1 t2 t3 t4 t5 t6 t7 : Tok}
    {CB : Addr} {nm q : Str} {NB : Addr} {bs : List Value} {bm : List Value} {sn : List Str} {sub : List Value} {ab : Bool} {col : Option Bool} {dd : Option Addr} {m0 m1 m2 m3 m5 : Option Value}
    {f_i c_i cc : Addr} {od_i an_i : Option Addr} {sl_i : Array (Option Value)} {oc_i kV_i dc_i pm_i ct_i : Value} {ccl : Value} {cdd : Option Addr} {vsC : Array Value} {ccs : Array (Option Value)} {file : Str} {tf : Tok} {cl : Value} {cld : Option Addr} {csl : Array (Option Value)} {cdB : ClassData}
    (X : K.In h) (G : h.Ns mainGlobals mg) (hfa : mg "law" = some (.ref fa)) (hPt : h.get? Pt = some { cls := .none, data := .fields #[] })
    (z_len : PySem.W.nsIn K mainGlobals "len" = some none)
    (z_range : PySem.W.nsIn K mainGlobals "range" = some none)
    (z_enumerate : PySem.W.nsIn K mainGlobals "enumerate" = some none)
    (z_abs : PySem.W.nsIn K mainGlobals "abs" = some none)
    (z_int : PySem.W.nsIn K mainGlobals "int" = some none)
    (z_list : PySem.W.nsIn K mainGlobals "list" = some none)
    (z_tuple : PySem.W.nsIn K mainGlobals "tuple" = some none)
    (z_sorted : PySem.W.nsIn K mainGlobals "sorted" = some none)
    (z_isinstance : PySem.W.nsIn K mainGlobals "isinstance" = some none)
    (z_str : PySem.W.nsIn K mainGlobals "str" = some none)
    (z_bool : PySem.W.nsIn K mainGlobals "bool" = some none)
    (z_super : PySem.W.nsIn K mainGlobals "super" = some none)
    (z_ValueError : PySem.W.nsIn K mainGlobals "ValueError" = some none)
    (a_w_stream : PySem.W.nsIn K mainGlobals "_law_stream" = some (some (.ref f_w_stream)))
    (l_w_stream : K.lookup f_w_stream = some ⟨oc_w_stream, od_w_stream, .func (PySem.W.fnOf "_law_stream" "_law_stream" (defArgs sStream) (defBody sStream) (defScope sStream) .none kV_w_stream dc_w_stream pm_w_stream an_w_stream cd_w_stream ct_w_stream), sl_w_stream⟩)
    (c_w_stream : PySem.W.codeIn K cd_w_stream "_law_stream" = true)
    (k_w_stream : PySem.W.keepIn K (.ref f_w_stream) = true)
    (a_w_draw : PySem.W.nsIn K mainGlobals "_law_draw" = some (some (.ref f_w_draw)))
    (l_w_draw : K.lookup f_w_draw = some ⟨oc_w_draw, od_w_draw, .func (PySem.W.fnOf "_law_draw" "_law_draw" (defArgs sDraw) (defBody sDraw) (defScope sDraw) .none kV_w_draw dc_w_draw pm_w_draw an_w_draw cd_w_draw ct_w_draw), sl_w_draw⟩)
    (c_w_draw : PySem.W.codeIn K cd_w_draw "_law_draw" = true)
    (k_w_draw : PySem.W.keepIn K (.ref f_w_draw) = true)
    (a_w_wide : PySem.W.nsIn K mainGlobals "_law_wide" = some (some (.ref f_w_wide)))
    (l_w_wide : K.lookup f_w_wide = some ⟨oc_w_wide, od_w_wide, .func (PySem.W.fnOf "_law_wide" "_law_wide" (defArgs sWide) (defBody sWide) (defScope sWide) .none kV_w_wide dc_w_wide pm_w_wide an_w_wide cd_w_wide ct_w_wide), sl_w_wide⟩)
    (c_w_wide : PySem.W.codeIn K cd_w_wide "_law_wide" = true)
    (k_w_wide : PySem.W.keepIn K (.ref f_w_wide) = true)
    (a_w_kind : PySem.W.nsIn K mainGlobals "_law_kind" = some (some (.ref f_w_kind)))
    (l_w_kind : K.lookup f_w_kind = some ⟨oc_w_kind, od_w_kind, .func (PySem.W.fnOf "_law_kind" "_law_kind" (defArgs sKind) (defBody sKind) (defScope sKind) .none kV_w_kind dc_w_kind pm_w_kind an_w_kind cd_w_kind ct_w_kind), sl_w_kind⟩)
    (c_w_kind : PySem.W.codeIn K cd_w_kind "_law_kind" = true)
    (k_w_kind : PySem.W.keepIn K (.ref f_w_kind) = true)
    (a_w_value : PySem.W.nsIn K mainGlobals "_law_value" = some (some (.ref f_w_value)))
    (l_w_value : K.lookup f_w_value = some ⟨oc_w_value, od_w_value, .func (PySem.W.fnOf "_law_value" "_law_value" (defArgs sValue) (defBody sValue) (defScope sValue) .none kV_w_value dc_w_value pm_w_value an_w_value cd_w_value ct_w_value), sl_w_value⟩)
    (c_w_value : PySem.W.codeIn K cd_w_value "_law_value" = true)
    (k_w_value : PySem.W.keepIn K (.ref f_w_value) = true)
    (a_w_plain : PySem.W.nsIn K mainGlobals "_law_plain" = some (some (.ref f_w_plain)))
    (l_w_plain : K.lookup f_w_plain = some ⟨oc_w_plain, od_w_plain, .func (PySem.W.fnOf "_law_plain" "_law_plain" (defArgs sPlain) (defBody sPlain) (defScope sPlain) .none kV_w_plain dc_w_plain pm_w_plain an_w_plain cd_w_plain ct_w_plain), sl_w_plain⟩)
    (c_w_plain : PySem.W.codeIn K cd_w_plain "_law_plain" = true)
    (k_w_plain : PySem.W.keepIn K (.ref f_w_plain) = true)
    (a_w_row : PySem.W.nsIn K mainGlobals "_law_row" = some (some (.ref f_w_row)))
    (l_w_row : K.lookup f_w_row = some ⟨oc_w_row, od_w_row, .func (PySem.W.fnOf "_law_row" "_law_row" (defArgs sRow) (defBody sRow) (defScope sRow) .none kV_w_row dc_w_row pm_w_row an_w_row cd_w_row ct_w_row), sl_w_row⟩)
    (c_w_row : PySem.W.codeIn K cd_w_row "_law_row" = true)
    (k_w_row : PySem.W.keepIn K (.ref f_w_row) = true)
    (a_w_filled : PySem.W.nsIn K mainGlobals "_law_filled" = some (some (.ref f_w_filled)))
    (l_w_filled : K.lookup f_w_filled = some ⟨oc_w_filled, od_w_filled, .func (PySem.W.fnOf "_law_filled" "_law_filled" (defArgs sFill) (defBody sFill) (defScope sFill) .none kV_w_filled dc_w_filled pm_w_filled an_w_filled cd_w_filled ct_w_filled), sl_w_filled⟩)
    (c_w_filled : PySem.W.codeIn K cd_w_filled "_law_filled" = true)
    (k_w_filled : PySem.W.keepIn K (.ref f_w_filled) = true)
    (a_w_is_integer : PySem.W.nsIn K mainGlobals "_law_is_integer" = some (some (.ref f_w_is_integer)))
    (l_w_is_integer : K.lookup f_w_is_integer = some ⟨oc_w_is_integer, od_w_is_integer, .func (PySem.W.fnOf "_law_is_integer" "_law_is_integer" (defArgs sII) (defBody sII) (defScope sII) .none kV_w_is_integer dc_w_is_integer pm_w_is_integer an_w_is_integer cd_w_is_integer ct_w_is_integer), sl_w_is_integer⟩)
    (c_w_is_integer : PySem.W.codeIn K cd_w_is_integer "_law_is_integer" = true)
    (k_w_is_integer : PySem.W.keepIn K (.ref f_w_is_integer) = true)
    (a_w_is_row : PySem.W.nsIn K mainGlobals "_law_is_row" = some (some (.ref f_w_is_row)))
    (l_w_is_row : K.lookup f_w_is_row = some ⟨oc_w_is_row, od_w_is_row, .func (PySem.W.fnOf "_law_is_row" "_law_is_row" (defArgs sIR) (defBody sIR) (defScope sIR) .none kV_w_is_row dc_w_is_row pm_w_is_row an_w_is_row cd_w_is_row ct_w_is_row), sl_w_is_row⟩)
    (c_w_is_row : PySem.W.codeIn K cd_w_is_row "_law_is_row" = true)
    (k_w_is_row : PySem.W.keepIn K (.ref f_w_is_row) = true)
    (a_w_entries : PySem.W.nsIn K mainGlobals "_law_entries" = some (some (.ref f_w_entries)))
    (l_w_entries : K.lookup f_w_entries = some ⟨oc_w_entries, od_w_entries, .func (PySem.W.fnOf "_law_entries" "_law_entries" (defArgs sEnt) (defBody sEnt) (defScope sEnt) .none kV_w_entries dc_w_entries pm_w_entries an_w_entries cd_w_entries ct_w_entries), sl_w_entries⟩)
    (c_w_entries : PySem.W.codeIn K cd_w_entries "_law_entries" = true)
    (k_w_entries : PySem.W.keepIn K (.ref f_w_entries) = true)
    (a_w_fills : PySem.W.nsIn K mainGlobals "_law_fills" = some (some (.ref f_w_fills)))
    (l_w_fills : K.lookup f_w_fills = some ⟨oc_w_fills, od_w_fills, .func (PySem.W.fnOf "_law_fills" "_law_fills" (defArgs sFills) (defBody sFills) (defScope sFills) .none kV_w_fills dc_w_fills pm_w_fills an_w_fills cd_w_fills ct_w_fills), sl_w_fills⟩)
    (c_w_fills : PySem.W.codeIn K cd_w_fills "_law_fills" = true)
    (k_w_fills : PySem.W.keepIn K (.ref f_w_fills) = true)
    (a_w_refused : PySem.W.nsIn K mainGlobals "_law_refused" = some (some (.ref f_w_refused)))
    (l_w_refused : K.lookup f_w_refused = some ⟨oc_w_refused, od_w_refused, .func (PySem.W.fnOf "_law_refused" "_law_refused" (defArgs sRef) (defBody sRef) (defScope sRef) .none kV_w_refused dc_w_refused pm_w_refused an_w_refused cd_w_refused ct_w_refused), sl_w_refused⟩)
    (c_w_refused : PySem.W.codeIn K cd_w_refused "_law_refused" = true)
    (k_w_refused : PySem.W.keepIn K (.ref f_w_refused) = true)
    (a_law : PySem.W.nsIn K mainGlobals "law" = some (some (.ref f_law)))
    (l_law : K.lookup f_law = some ⟨oc_law, od_law, .func (PySem.W.fnOf "law" "law" (defArgs sLaw) (defBody sLaw) (defScope sLaw) .none kV_law dc_law pm_law an_law cd_law ct_law), sl_law⟩)
    (c_law : PySem.W.codeIn K cd_law "law" = true)
    (k_law : PySem.W.keepIn K (.ref f_law) = true)
    (a_least_places : PySem.W.nsIn K mainGlobals "least_places" = some (some (.ref f_least_places)))
    (l_least_places : K.lookup f_least_places = some ⟨oc_least_places, od_least_places, .func (PySem.W.fnOf "least_places" "least_places" (defArgs sLeast) (defBody sLeast) (defScope sLeast) .none kV_least_places dc_least_places pm_least_places an_least_places cd_least_places ct_least_places), sl_least_places⟩)
    (c_least_places : PySem.W.codeIn K cd_least_places "least_places" = true)
    (k_least_places : PySem.W.keepIn K (.ref f_least_places) = true)
    (a_greatest_places : PySem.W.nsIn K mainGlobals "greatest_places" = some (some (.ref f_greatest_places)))
    (l_greatest_places : K.lookup f_greatest_places = some ⟨oc_greatest_places, od_greatest_places, .func (PySem.W.fnOf "greatest_places" "greatest_places" (defArgs sGreat) (defBody sGreat) (defScope sGreat) .none kV_greatest_places dc_greatest_places pm_greatest_places an_greatest_places cd_greatest_places ct_greatest_places), sl_greatest_places⟩)
    (c_greatest_places : PySem.W.codeIn K cd_greatest_places "greatest_places" = true)
    (k_greatest_places : PySem.W.keepIn K (.ref f_greatest_places) = true)
    (a_kind_named : PySem.W.nsIn K mainGlobals "kind_named" = some (some (.ref f_kind_named)))
    (l_kind_named : K.lookup f_kind_named = some ⟨oc_kind_named, od_kind_named, .func (PySem.W.fnOf "kind_named" "kind_named" (defArgs sKN) (defBody sKN) (defScope sKN) .none kV_kind_named dc_kind_named pm_kind_named an_kind_named cd_kind_named ct_kind_named), sl_kind_named⟩)
    (c_kind_named : PySem.W.codeIn K cd_kind_named "kind_named" = true)
    (k_kind_named : PySem.W.keepIn K (.ref f_kind_named) = true)
    (a_is_hole : PySem.W.nsIn K mainGlobals "is_hole" = some (some (.ref f_is_hole)))
    (l_is_hole : K.lookup f_is_hole = some ⟨oc_is_hole, od_is_hole, .func (PySem.W.fnOf "is_hole" "is_hole" (defArgs sIH) (defBody sIH) (defScope sIH) .none kV_is_hole dc_is_hole pm_is_hole an_is_hole cd_is_hole ct_is_hole), sl_is_hole⟩)
    (c_is_hole : PySem.W.codeIn K cd_is_hole "is_hole" = true)
    (k_is_hole : PySem.W.keepIn K (.ref f_is_hole) = true)
    (a_row_values : PySem.W.nsIn K mainGlobals "row_values" = some (some (.ref f_row_values)))
    (l_row_values : K.lookup f_row_values = some ⟨oc_row_values, od_row_values, .func (PySem.W.fnOf "row_values" "row_values" (defArgs sRV) (defBody sRV) (defScope sRV) .none kV_row_values dc_row_values pm_row_values an_row_values cd_row_values ct_row_values), sl_row_values⟩)
    (c_row_values : PySem.W.codeIn K cd_row_values "row_values" = true)
    (k_row_values : PySem.W.keepIn K (.ref f_row_values) = true)
    (a_row_holes : PySem.W.nsIn K mainGlobals "row_holes" = some (some (.ref f_row_holes)))
    (l_row_holes : K.lookup f_row_holes = some ⟨oc_row_holes, od_row_holes, .func (PySem.W.fnOf "row_holes" "row_holes" (defArgs sRH) (defBody sRH) (defScope sRH) .none kV_row_holes dc_row_holes pm_row_holes an_row_holes cd_row_holes ct_row_holes), sl_row_holes⟩)
    (c_row_holes : PySem.W.codeIn K cd_row_holes "row_holes" = true)
    (k_row_holes : PySem.W.keepIn K (.ref f_row_holes) = true)
    (a_row_from : PySem.W.nsIn K mainGlobals "row_from" = some (some (.ref f_row_from)))
    (l_row_from : K.lookup f_row_from = some ⟨oc_row_from, od_row_from, .func (PySem.W.fnOf "row_from" "row_from" (defArgs sRF) (defBody sRF) (defScope sRF) .none kV_row_from dc_row_from pm_row_from an_row_from cd_row_from ct_row_from), sl_row_from⟩)
    (c_row_from : PySem.W.codeIn K cd_row_from "row_from" = true)
    (k_row_from : PySem.W.keepIn K (.ref f_row_from) = true)
    (a_hole_between : PySem.W.nsIn K mainGlobals "hole_between" = some (some (.ref f_hole_between)))
    (l_hole_between : K.lookup f_hole_between = some ⟨oc_hole_between, od_hole_between, .func (PySem.W.fnOf "hole_between" "hole_between" (defArgs sHB) (defBody sHB) (defScope sHB) .none kV_hole_between dc_hole_between pm_hole_between an_hole_between cd_hole_between ct_hole_between), sl_hole_between⟩)
    (c_hole_between : PySem.W.codeIn K cd_hole_between "hole_between" = true)
    (k_hole_between : PySem.W.keepIn K (.ref f_hole_between) = true)
    (a_filled_hole : PySem.W.nsIn K mainGlobals "filled_hole" = some (some (.ref f_filled_hole)))
    (l_filled_hole : K.lookup f_filled_hole = some ⟨oc_filled_hole, od_filled_hole, .func (PySem.W.fnOf "filled_hole" "filled_hole" (defArgs sFH) (defBody sFH) (defScope sFH) .none kV_filled_hole dc_filled_hole pm_filled_hole an_filled_hole cd_filled_hole ct_filled_hole), sl_filled_hole⟩)
    (c_filled_hole : PySem.W.codeIn K cd_filled_hole "filled_hole" = true)
    (k_filled_hole : PySem.W.keepIn K (.ref f_filled_hole) = true)
    (a_put_in_row : PySem.W.nsIn K mainGlobals "put_in_row" = some (some (.ref f_put_in_row)))
    (l_put_in_row : K.lookup f_put_in_row = some ⟨oc_put_in_row, od_put_in_row, .func (PySem.W.fnOf "put_in_row" "put_in_row" (defArgs sPR) (defBody sPR) (defScope sPR) .none kV_put_in_row dc_put_in_row pm_put_in_row an_put_in_row cd_put_in_row ct_put_in_row), sl_put_in_row⟩)
    (c_put_in_row : PySem.W.codeIn K cd_put_in_row "put_in_row" = true)
    (k_put_in_row : PySem.W.keepIn K (.ref f_put_in_row) = true)
    (a_joined_rows : PySem.W.nsIn K mainGlobals "joined_rows" = some (some (.ref f_joined_rows)))
    (l_joined_rows : K.lookup f_joined_rows = some ⟨oc_joined_rows, od_joined_rows, .func (PySem.W.fnOf "joined_rows" "joined_rows" (defArgs sJR) (defBody sJR) (defScope sJR) .none kV_joined_rows dc_joined_rows pm_joined_rows an_joined_rows cd_joined_rows ct_joined_rows), sl_joined_rows⟩)
    (c_joined_rows : PySem.W.codeIn K cd_joined_rows "joined_rows" = true)
    (k_joined_rows : PySem.W.keepIn K (.ref f_joined_rows) = true)
    (q_bt : PySem.W.specialIn K (.bool true) "__get__" = some none)
    (q_bf : PySem.W.specialIn K (.bool false) "__get__" = some none)
    (a_Kind : PySem.W.nsIn K mainGlobals "Kind" = some (some (.ref C_Kind)))
    (mk_Kind : PySem.W.makesIn K C_Kind = true)
    (in_Kind : PySem.W.findIn K (.ref C_Kind) "__init__" = some (some (.builtin "object.__init__")))
    (tp_Kind : PySem.W.mroIn K C_Kind (.type "object") = some true)
    (kc_Kind : PySem.W.keepIn K (.ref C_Kind) = true)
    (pg_Kind : PySem.W.plainGet K C_Kind Str.empty = true)
    (hd_Kind : PySem.W.hasDictIn K C_Kind = true)
    (po_Kind : PySem.W.plainOver K C_Kind = true)
    (sa_Kind : PySem.W.findIn K (.ref C_Kind) "__setattr__" = some (some (.builtin "object.__setattr__")))
    (qo_Kind : PySem.W.findIn K (.ref C_Kind) "ORDERLESS" = some (some (.bool false)))
    (qu_Kind : PySem.W.findIn K (.ref C_Kind) "OUTER" = some (some (.bool false)))
    (a_kO : PySem.W.findIn K (.ref C_Kind) "keep" = some (some (.ref f_kO)))
    (i_kO : PySem.W.isFn K (.ref f_kO) = true)
    (l_kO : K.lookup f_kO = some ⟨oc_kO, od_kO, .func (PySem.W.fnOf "keep" "Kind.keep" (defArgs sKeepO) (defBody sKeepO) (defScope sKeepO) .none kV_kO dc_kO pm_kO an_kO cd_kO ct_kO), sl_kO⟩)
    (c_kO : PySem.W.codeIn K cd_kO "Kind.keep" = true)
    (k_kO : PySem.W.keepIn K (.ref f_kO) = true)
    (a_BagKind : PySem.W.nsIn K mainGlobals "BagKind" = some (some (.ref C_BagKind)))
    (mk_BagKind : PySem.W.makesIn K C_BagKind = true)
    (in_BagKind : PySem.W.findIn K (.ref C_BagKind) "__init__" = some (some (.builtin "object.__init__")))
    (tp_BagKind : PySem.W.mroIn K C_BagKind (.type "object") = some true)
    (kc_BagKind : PySem.W.keepIn K (.ref C_BagKind) = true)
    (pg_BagKind : PySem.W.plainGet K C_BagKind Str.empty = true)
    (hd_BagKind : PySem.W.hasDictIn K C_BagKind = true)
    (po_BagKind : PySem.W.plainOver K C_BagKind = true)
    (sa_BagKind : PySem.W.findIn K (.ref C_BagKind) "__setattr__" = some (some (.builtin "object.__setattr__")))
    (qo_BagKind : PySem.W.findIn K (.ref C_BagKind) "ORDERLESS" = some (some (.bool true)))
    (qu_BagKind : PySem.W.findIn K (.ref C_BagKind) "OUTER" = some (some (.bool false)))
    (a_kB : PySem.W.findIn K (.ref C_BagKind) "keep" = some (some (.ref f_kB)))
    (i_kB : PySem.W.isFn K (.ref f_kB) = true)
    (l_kB : K.lookup f_kB = some ⟨oc_kB, od_kB, .func (PySem.W.fnOf "keep" "BagKind.keep" (defArgs sKeepB) (defBody sKeepB) (defScope sKeepB) .none kV_kB dc_kB pm_kB an_kB (.ref cB) ct_kB), sl_kB⟩)
    (c_kB : PySem.W.codeIn K (.ref cB) "BagKind.keep" = true)
    (k_kB : PySem.W.keepIn K (.ref f_kB) = true)
    (a_SetKind : PySem.W.nsIn K mainGlobals "SetKind" = some (some (.ref C_SetKind)))
    (mk_SetKind : PySem.W.makesIn K C_SetKind = true)
    (in_SetKind : PySem.W.findIn K (.ref C_SetKind) "__init__" = some (some (.builtin "object.__init__")))
    (tp_SetKind : PySem.W.mroIn K C_SetKind (.type "object") = some true)
    (kc_SetKind : PySem.W.keepIn K (.ref C_SetKind) = true)
    (pg_SetKind : PySem.W.plainGet K C_SetKind Str.empty = true)
    (hd_SetKind : PySem.W.hasDictIn K C_SetKind = true)
    (po_SetKind : PySem.W.plainOver K C_SetKind = true)
    (sa_SetKind : PySem.W.findIn K (.ref C_SetKind) "__setattr__" = some (some (.builtin "object.__setattr__")))
    (qo_SetKind : PySem.W.findIn K (.ref C_SetKind) "ORDERLESS" = some (some (.bool true)))
    (qu_SetKind : PySem.W.findIn K (.ref C_SetKind) "OUTER" = some (some (.bool false)))
    (a_kS : PySem.W.findIn K (.ref C_SetKind) "keep" = some (some (.ref f_kS)))
    (i_kS : PySem.W.isFn K (.ref f_kS) = true)
    (l_kS : K.lookup f_kS = some ⟨oc_kS, od_kS, .func (PySem.W.fnOf "keep" "SetKind.keep" (defArgs sKeepS) (defBody sKeepS) (defScope sKeepS) .none kV_kS dc_kS pm_kS an_kS cd_kS ct_kS), sl_kS⟩)
    (c_kS : PySem.W.codeIn K cd_kS "SetKind.keep" = true)
    (k_kS : PySem.W.keepIn K (.ref f_kS) = true)
    (a_FirstKind : PySem.W.nsIn K mainGlobals "FirstKind" = some (some (.ref C_FirstKind)))
    (mk_FirstKind : PySem.W.makesIn K C_FirstKind = true)
    (in_FirstKind : PySem.W.findIn K (.ref C_FirstKind) "__init__" = some (some (.builtin "object.__init__")))
    (tp_FirstKind : PySem.W.mroIn K C_FirstKind (.type "object") = some true)
    (kc_FirstKind : PySem.W.keepIn K (.ref C_FirstKind) = true)
    (pg_FirstKind : PySem.W.plainGet K C_FirstKind Str.empty = true)
    (hd_FirstKind : PySem.W.hasDictIn K C_FirstKind = true)
    (po_FirstKind : PySem.W.plainOver K C_FirstKind = true)
    (sa_FirstKind : PySem.W.findIn K (.ref C_FirstKind) "__setattr__" = some (some (.builtin "object.__setattr__")))
    (qo_FirstKind : PySem.W.findIn K (.ref C_FirstKind) "ORDERLESS" = some (some (.bool false)))
    (qu_FirstKind : PySem.W.findIn K (.ref C_FirstKind) "OUTER" = some (some (.bool true)))
    (a_kF : PySem.W.findIn K (.ref C_FirstKind) "keep" = some (some (.ref f_kF)))
    (i_kF : PySem.W.isFn K (.ref f_kF) = true)
    (l_kF : K.lookup f_kF = some ⟨oc_kF, od_kF, .func (PySem.W.fnOf "keep" "FirstKind.keep" (defArgs sKeepF) (defBody sKeepF) (defScope sKeepF) .none kV_kF dc_kF pm_kF an_kF cd_kF ct_kF), sl_kF⟩)
    (c_kF : PySem.W.codeIn K cd_kF "FirstKind.keep" = true)
    (k_kF : PySem.W.keepIn K (.ref f_kF) = true)
    (a_LastKind : PySem.W.nsIn K mainGlobals "LastKind" = some (some (.ref C_LastKind)))
    (mk_LastKind : PySem.W.makesIn K C_LastKind = true)
    (in_LastKind : PySem.W.findIn K (.ref C_LastKind) "__init__" = some (some (.builtin "object.__init__")))
    (tp_LastKind : PySem.W.mroIn K C_LastKind (.type "object") = some true)
    (kc_LastKind : PySem.W.keepIn K (.ref C_LastKind) = true)
    (pg_LastKind : PySem.W.plainGet K C_LastKind Str.empty = true)
    (hd_LastKind : PySem.W.hasDictIn K C_LastKind = true)
    (po_LastKind : PySem.W.plainOver K C_LastKind = true)
    (sa_LastKind : PySem.W.findIn K (.ref C_LastKind) "__setattr__" = some (some (.builtin "object.__setattr__")))
    (qo_LastKind : PySem.W.findIn K (.ref C_LastKind) "ORDERLESS" = some (some (.bool false)))
    (qu_LastKind : PySem.W.findIn K (.ref C_LastKind) "OUTER" = some (some (.bool true)))
    (a_kL : PySem.W.findIn K (.ref C_LastKind) "keep" = some (some (.ref f_kL)))
    (i_kL : PySem.W.isFn K (.ref f_kL) = true)
    (l_kL : K.lookup f_kL = some ⟨oc_kL, od_kL, .func (PySem.W.fnOf "keep" "LastKind.keep" (defArgs sKeepL) (defBody sKeepL) (defScope sKeepL) .none kV_kL dc_kL pm_kL an_kL cd_kL ct_kL), sl_kL⟩)
    (c_kL : PySem.W.codeIn K cd_kL "LastKind.keep" = true)
    (k_kL : PySem.W.keepIn K (.ref f_kL) = true)
    (a_EndsKind : PySem.W.nsIn K mainGlobals "EndsKind" = some (some (.ref C_EndsKind)))
    (mk_EndsKind : PySem.W.makesIn K C_EndsKind = true)
    (in_EndsKind : PySem.W.findIn K (.ref C_EndsKind) "__init__" = some (some (.builtin "object.__init__")))
    (tp_EndsKind : PySem.W.mroIn K C_EndsKind (.type "object") = some true)
    (kc_EndsKind : PySem.W.keepIn K (.ref C_EndsKind) = true)
    (pg_EndsKind : PySem.W.plainGet K C_EndsKind Str.empty = true)
    (hd_EndsKind : PySem.W.hasDictIn K C_EndsKind = true)
    (po_EndsKind : PySem.W.plainOver K C_EndsKind = true)
    (sa_EndsKind : PySem.W.findIn K (.ref C_EndsKind) "__setattr__" = some (some (.builtin "object.__setattr__")))
    (qo_EndsKind : PySem.W.findIn K (.ref C_EndsKind) "ORDERLESS" = some (some (.bool false)))
    (qu_EndsKind : PySem.W.findIn K (.ref C_EndsKind) "OUTER" = some (some (.bool true)))
    (a_kE : PySem.W.findIn K (.ref C_EndsKind) "keep" = some (some (.ref f_kE)))
    (i_kE : PySem.W.isFn K (.ref f_kE) = true)
    (l_kE : K.lookup f_kE = some ⟨oc_kE, od_kE, .func (PySem.W.fnOf "keep" "EndsKind.keep" (defArgs sKeepE) (defBody sKeepE) (defScope sKeepE) .none kV_kE dc_kE pm_kE an_kE cd_kE ct_kE), sl_kE⟩)
    (c_kE : PySem.W.codeIn K cd_kE "EndsKind.keep" = true)
    (k_kE : PySem.W.keepIn K (.ref f_kE) = true)
    (a_HeadsKind : PySem.W.nsIn K mainGlobals "HeadsKind" = some (some (.ref C_HeadsKind)))
    (mk_HeadsKind : PySem.W.makesIn K C_HeadsKind = true)
    (in_HeadsKind : PySem.W.findIn K (.ref C_HeadsKind) "__init__" = some (some (.builtin "object.__init__")))
    (tp_HeadsKind : PySem.W.mroIn K C_HeadsKind (.type "object") = some true)
    (kc_HeadsKind : PySem.W.keepIn K (.ref C_HeadsKind) = true)
    (pg_HeadsKind : PySem.W.plainGet K C_HeadsKind Str.empty = true)
    (hd_HeadsKind : PySem.W.hasDictIn K C_HeadsKind = true)
    (po_HeadsKind : PySem.W.plainOver K C_HeadsKind = true)
    (sa_HeadsKind : PySem.W.findIn K (.ref C_HeadsKind) "__setattr__" = some (some (.builtin "object.__setattr__")))
    (qo_HeadsKind : PySem.W.findIn K (.ref C_HeadsKind) "ORDERLESS" = some (some (.bool false)))
    (qu_HeadsKind : PySem.W.findIn K (.ref C_HeadsKind) "OUTER" = some (some (.bool false)))
    (a_kH : PySem.W.findIn K (.ref C_HeadsKind) "keep" = some (some (.ref f_kH)))
    (i_kH : PySem.W.isFn K (.ref f_kH) = true)
    (l_kH : K.lookup f_kH = some ⟨oc_kH, od_kH, .func (PySem.W.fnOf "keep" "HeadsKind.keep" (defArgs sKeepH) (defBody sKeepH) (defScope sKeepH) .none kV_kH dc_kH pm_kH an_kH cd_kH ct_kH), sl_kH⟩)
    (c_kH : PySem.W.codeIn K cd_kH "HeadsKind.keep" = true)
    (k_kH : PySem.W.keepIn K (.ref f_kH) = true)
    (a_TailsKind : PySem.W.nsIn K mainGlobals "TailsKind" = some (some (.ref C_TailsKind)))
    (mk_TailsKind : PySem.W.makesIn K C_TailsKind = true)
    (in_TailsKind : PySem.W.findIn K (.ref C_TailsKind) "__init__" = some (some (.builtin "object.__init__")))
    (tp_TailsKind : PySem.W.mroIn K C_TailsKind (.type "object") = some true)
    (kc_TailsKind : PySem.W.keepIn K (.ref C_TailsKind) = true)
    (pg_TailsKind : PySem.W.plainGet K C_TailsKind Str.empty = true)
    (hd_TailsKind : PySem.W.hasDictIn K C_TailsKind = true)
    (po_TailsKind : PySem.W.plainOver K C_TailsKind = true)
    (sa_TailsKind : PySem.W.findIn K (.ref C_TailsKind) "__setattr__" = some (some (.builtin "object.__setattr__")))
    (qo_TailsKind : PySem.W.findIn K (.ref C_TailsKind) "ORDERLESS" = some (some (.bool false)))
    (qu_TailsKind : PySem.W.findIn K (.ref C_TailsKind) "OUTER" = some (some (.bool false)))
    (a_kT : PySem.W.findIn K (.ref C_TailsKind) "keep" = some (some (.ref f_kT)))
    (i_kT : PySem.W.isFn K (.ref f_kT) = true)
    (l_kT : K.lookup f_kT = some ⟨oc_kT, od_kT, .func (PySem.W.fnOf "keep" "TailsKind.keep" (defArgs sKeepT) (defBody sKeepT) (defScope sKeepT) .none kV_kT dc_kT pm_kT an_kT cd_kT ct_kT), sl_kT⟩)
    (c_kT : PySem.W.codeIn K cd_kT "TailsKind.keep" = true)
    (k_kT : PySem.W.keepIn K (.ref f_kT) = true)
    (p_Kind : PySem.W.findIn K (.ref C_Kind) "plain" = some (some (.ref f_pl)))
    (p_BagKind : PySem.W.findIn K (.ref C_BagKind) "plain" = some (some (.ref f_pl)))
    (p_SetKind : PySem.W.findIn K (.ref C_SetKind) "plain" = some (some (.ref f_pl)))
    (p_FirstKind : PySem.W.findIn K (.ref C_FirstKind) "plain" = some (some (.ref f_pl)))
    (p_LastKind : PySem.W.findIn K (.ref C_LastKind) "plain" = some (some (.ref f_pl)))
    (p_EndsKind : PySem.W.findIn K (.ref C_EndsKind) "plain" = some (some (.ref f_pl)))
    (p_HeadsKind : PySem.W.findIn K (.ref C_HeadsKind) "plain" = some (some (.ref f_pl)))
    (p_TailsKind : PySem.W.findIn K (.ref C_TailsKind) "plain" = some (some (.ref f_pl)))
    (i_pl : PySem.W.isFn K (.ref f_pl) = true)
    (l_pl : K.lookup f_pl = some ⟨oc_pl, od_pl, .func (PySem.W.fnOf "plain" "Kind.plain" (defArgs sPlainM) (defBody sPlainM) (defScope sPlainM) .none kV_pl dc_pl pm_pl an_pl cd_pl ct_pl), sl_pl⟩)
    (c_pl : PySem.W.codeIn K cd_pl "Kind.plain" = true)
    (k_pl : PySem.W.keepIn K (.ref f_pl) = true)
    (t_nK : K.lookup Pt = none)
    (t_cd : PySem.W.codeHdIn K cB Pt = true)
    (n_a : PySem.W.nsIn K mainGlobals "KIND_NAMES" = some (some (.ref kn)))
    (n_l : K.lookup kn = some ⟨.type "tuple", odN, .seq #[.str "list" t0, .str "bag" t1, .str "set" t2, .str "first" t3, .str "last" t4, .str "ends" t5, .str "heads" t6, .str "tails" t7] nN, slN⟩)
    (b_a : PySem.W.nsIn K mainGlobals "BadKind" = some (some (.ref CB)))
    (b_l : K.lookup CB = some (excClassObj nm q CB NB bs bm true sn sub ab col dd m0 m1 m2 m3 m5 "ValueError.__new__"))
    (b_v : PySem.HandSPX.refsVE bm = true)
    (b_sa : PySem.W.findIn K (.ref CB) "__setattr__" = some (some (.builtin "object.__setattr__")))
    (b_ex : PySem.W.subIn K (.ref CB) (.type "BaseException") = some true)
    (b_ty : PySem.W.typeIn K (.ref CB) = some (.type "type"))
    (b_k : PySem.W.keepIn K (.ref CB) = true)
    (b_i : PySem.W.findIn K (.ref CB) "__init__" = some (some (.ref f_i)))
    (b_it : PySem.W.typeIn K (.ref f_i) = some (.type "function"))
    (b_il : K.lookup f_i = some ⟨oc_i, od_i, .func (PySem.W.ksFn "__init__" "BadKind.__init__" (defArgs sIni) (defBody sIni) (defScope sIni) .none kV_i dc_i pm_i an_i (.ref c_i) ct_i cc), sl_i⟩)
    (b_ic : PySem.W.codeIn K (.ref c_i) "BadKind.__init__" = true)
    (b_cl : K.lookup c_i = some ⟨ccl, cdd, .fields vsC, ccs⟩)
    (b_cf : vsC[2]? = some (.str file tf))
    (b_fi : ((PySem.Challenge.rw_movedstates_k11_a_row_with_holes.prog.main.file : Str) == file) = true)
    (b_cc : K.lookup cc = some ⟨cl, cld, .cell (some (.ref CB)), csl⟩)
    (b_se : PySem.W.mroIn K CB (.ref CB) = some true)
    (b_ve : PySem.W.mroIn K CB (.type "ValueError") = some true)
    (b_op : PySem.W.nsIn K cStatics "thirdparty.any" = some none)
    (b_su : PySem.W.ks_superIn K CB CB "__init__" = some (some (.builtin "ValueError.__init__")))
    (b_cd : PySem.W.clsIn K CB = some cdB)
    (b_ga : PySem.W.findIn K (.ref CB) "__getattribute__" = some (some (.builtin "BaseException.__getattribute__")))
    (b_gt : PySem.W.findIn K (.ref CB) "__getattr__" = some none)
    (b_hd : PySem.W.hasDictIn K CB = true)
    (b_no : PySem.W.findIn K (.ref CB) "name" = some none)
    (b_ss : PySem.W.subIn K (.ref CB) (.ref CB) = some true) :
    LamX.LawAtS rwK w K CX0 8 63 "_law_script" mg fa h := by
  cases hfa.symm.trans (PySem.W.mg_of X G a_law)
  have B : Bi mg := ⟨PySem.W.mg_none_of X G z_len, PySem.W.mg_none_of X G z_range, PySem.W.mg_none_of X G z_enumerate, PySem.W.mg_none_of X G z_abs, PySem.W.mg_none_of X G z_int, PySem.W.mg_none_of X G z_list, PySem.W.mg_none_of X G z_tuple, PySem.W.mg_none_of X G z_sorted, PySem.W.mg_none_of X G z_isinstance, PySem.W.mg_none_of X G z_str, PySem.W.mg_none_of X G z_bool, PySem.W.mg_none_of X G z_super, PySem.W.mg_none_of X G z_ValueError⟩
  have F_w_stream := fun_mk (st := sStream) l_w_stream c_w_stream k_w_stream
  have b_w_stream := F_w_stream.binds (ps := ["_law_script"]) fun _ _ _ _ _ _ us hl => match us, hl with | [_], _ => rfl
  have F_w_draw := fun_mk (st := sDraw) l_w_draw c_w_draw k_w_draw
  have b_w_draw := F_w_draw.binds (ps := ["_law_stream_here", "_law_many"]) fun _ _ _ _ _ _ us hl => match us, hl with | [_, _], _ => rfl
  have F_w_wide := fun_mk (st := sWide) l_w_wide c_w_wide k_w_wide
  have b_w_wide := F_w_wide.binds (ps := ["_law_stream_here"]) fun _ _ _ _ _ _ us hl => match us, hl with | [_], _ => rfl
  have F_w_kind := fun_mk (st := sKind) l_w_kind c_w_kind k_w_kind
  have b_w_kind := F_w_kind.binds (ps := ["_law_stream_here"]) fun _ _ _ _ _ _ us hl => match us, hl with | [_], _ => rfl
  have F_w_value := fun_mk (st := sValue) l_w_value c_w_value k_w_value
  have b_w_value := F_w_value.binds (ps := ["_law_stream_here", "_law_style"]) fun _ _ _ _ _ _ us hl => match us, hl with | [_, _], _ => rfl
  have F_w_plain := fun_mk (st := sPlain) l_w_plain c_w_plain k_w_plain
  have b_w_plain := F_w_plain.binds (ps := ["_law_kind_here", "_law_word"]) fun _ _ _ _ _ _ us hl => match us, hl with | [_, _], _ => rfl
  have F_w_row := fun_mk (st := sRow) l_w_row c_w_row k_w_row
  have b_w_row := F_w_row.binds (ps := ["_law_kind_here", "_law_entries_here"]) fun _ _ _ _ _ _ us hl => match us, hl with | [_, _], _ => rfl
  have F_w_filled := fun_mk (st := sFill) l_w_filled c_w_filled k_w_filled
  have b_w_filled := F_w_filled.binds (ps := ["_law_row_here", "_law_number", "_law_value_here"]) fun _ _ _ _ _ _ us hl => match us, hl with | [_, _, _], _ => rfl
  have F_w_is_integer := fun_mk (st := sII) l_w_is_integer c_w_is_integer k_w_is_integer
  have b_w_is_integer := F_w_is_integer.binds (ps := ["_law_actual"]) fun _ _ _ _ _ _ us hl => match us, hl with | [_], _ => rfl
  have F_w_is_row := fun_mk (st := sIR) l_w_is_row c_w_is_row k_w_is_row
  have b_w_is_row := F_w_is_row.binds (ps := ["_law_row_here"]) fun _ _ _ _ _ _ us hl => match us, hl with | [_], _ => rfl
  have F_w_entries := fun_mk (st := sEnt) l_w_entries c_w_entries k_w_entries
  have b_w_entries := F_w_entries.binds (ps := ["_law_stream_here", "_law_number", "_law_style"]) fun _ _ _ _ _ _ us hl => match us, hl with | [_, _, _], _ => rfl
  have F_w_fills := fun_mk (st := sFills) l_w_fills c_w_fills k_w_fills
  have b_w_fills := F_w_fills.binds (ps := ["_law_stream_here", "_law_kind_here", "_law_entries_here", "_law_row_here", "_law_style"]) fun _ _ _ _ _ _ us hl => match us, hl with | [_, _, _, _, _], _ => rfl
  have F_w_refused := fun_mk (st := sRef) l_w_refused c_w_refused k_w_refused
  have b_w_refused := F_w_refused.binds (ps := ["_law_name", "_law_door"]) fun _ _ _ _ _ _ us hl => match us, hl with | [_, _], _ => rfl
  have F_law := fun_mk (st := sLaw) l_law c_law k_law
  have b_law := F_law.binds (ps := ["_law_script"]) fun _ _ _ _ _ _ us hl => match us, hl with | [_], _ => rfl
  have F_least_places := fun_mk (st := sLeast) l_least_places c_least_places k_least_places
  have b_least_places := F_least_places.binds (ps := ["word"]) fun _ _ _ _ _ _ us hl => match us, hl with | [_], _ => rfl
  have F_greatest_places := fun_mk (st := sGreat) l_greatest_places c_greatest_places k_greatest_places
  have b_greatest_places := F_greatest_places.binds (ps := ["word"]) fun _ _ _ _ _ _ us hl => match us, hl with | [_], _ => rfl
  have F_kind_named := fun_mk (st := sKN) l_kind_named c_kind_named k_kind_named
  have b_kind_named := F_kind_named.binds (ps := ["name"]) fun _ _ _ _ _ _ us hl => match us, hl with | [_], _ => rfl
  have F_is_hole := fun_mk (st := sIH) l_is_hole c_is_hole k_is_hole
  have b_is_hole := F_is_hole.binds (ps := ["entry"]) fun _ _ _ _ _ _ us hl => match us, hl with | [_], _ => rfl
  have F_row_values := fun_mk (st := sRV) l_row_values c_row_values k_row_values
  have b_row_values := F_row_values.binds (ps := ["row"]) fun _ _ _ _ _ _ us hl => match us, hl with | [_], _ => rfl
  have F_row_holes := fun_mk (st := sRH) l_row_holes c_row_holes k_row_holes
  have b_row_holes := F_row_holes.binds (ps := ["row"]) fun _ _ _ _ _ _ us hl => match us, hl with | [_], _ => rfl
  have F_row_from := fun_mk (st := sRF) l_row_from c_row_from k_row_from
  have b_row_from := F_row_from.binds (ps := ["kind", "entries"]) fun _ _ _ _ _ _ us hl => match us, hl with | [_, _], _ => rfl
  have F_hole_between := fun_mk (st := sHB) l_hole_between c_hole_between k_hole_between
  have b_hole_between := F_hole_between.binds (ps := ["start", "end"]) fun _ _ _ _ _ _ us hl => match us, hl with | [_, _], _ => rfl
  have F_filled_hole := fun_mk (st := sFH) l_filled_hole c_filled_hole k_filled_hole
  have b_filled_hole := F_filled_hole.binds (ps := ["hole", "number", "value"]) fun _ _ _ _ _ _ us hl => match us, hl with | [_, _, _], _ => rfl
  have F_put_in_row := fun_mk (st := sPR) l_put_in_row c_put_in_row k_put_in_row
  have b_put_in_row := F_put_in_row.binds (ps := ["kind", "row", "number", "value"]) fun _ _ _ _ _ _ us hl => match us, hl with | [_, _, _, _], _ => rfl
  have F_joined_rows := fun_mk (st := sJR) l_joined_rows c_joined_rows k_joined_rows
  have b_joined_rows := F_joined_rows.binds (ps := ["kind", "left", "hole", "right"]) fun _ _ _ _ _ _ us hl => match us, hl with | [_, _, _, _], _ => rfl
  have F_kO := fun_mk (st := sKeepO) l_kO c_kO k_kO
  have b_kO := F_kO.binds (ps := ["self", "word"]) fun _ _ _ _ _ _ us hl => match us, hl with | [_, _], _ => rfl
  have cl_Kind : Cls K C_Kind := ⟨pg_Kind, hd_Kind, po_Kind, sa_Kind⟩
  have F_kB : FunC K "keep" "BagKind.keep" sKeepB f_kB _ cB := ⟨_, _, _, _, _, _, _, _, rfl, l_kB, c_kB⟩
  have F_kB2 := fun_mk (st := sKeepB) l_kB c_kB k_kB
  have b_kB := F_kB2.binds (ps := ["self", "word"]) fun _ _ _ _ _ _ us hl => match us, hl with | [_, _], _ => rfl
  have cl_BagKind : Cls K C_BagKind := ⟨pg_BagKind, hd_BagKind, po_BagKind, sa_BagKind⟩
  have F_kS := fun_mk (st := sKeepS) l_kS c_kS k_kS
  have b_kS := F_kS.binds (ps := ["self", "word"]) fun _ _ _ _ _ _ us hl => match us, hl with | [_, _], _ => rfl
  have cl_SetKind : Cls K C_SetKind := ⟨pg_SetKind, hd_SetKind, po_SetKind, sa_SetKind⟩
  have F_kF := fun_mk (st := sKeepF) l_kF c_kF k_kF
  have b_kF := F_kF.binds (ps := ["self", "word"]) fun _ _ _ _ _ _ us hl => match us, hl with | [_, _], _ => rfl
  have cl_FirstKind : Cls K C_FirstKind := ⟨pg_FirstKind, hd_FirstKind, po_FirstKind, sa_FirstKind⟩
  have F_kL := fun_mk (st := sKeepL) l_kL c_kL k_kL
  have b_kL := F_kL.binds (ps := ["self", "word"]) fun _ _ _ _ _ _ us hl => match us, hl with | [_, _], _ => rfl
  have cl_LastKind : Cls K C_LastKind := ⟨pg_LastKind, hd_LastKind, po_LastKind, sa_LastKind⟩
  have F_kE := fun_mk (st := sKeepE) l_kE c_kE k_kE
  have b_kE := F_kE.binds (ps := ["self", "word"]) fun _ _ _ _ _ _ us hl => match us, hl with | [_, _], _ => rfl
  have cl_EndsKind : Cls K C_EndsKind := ⟨pg_EndsKind, hd_EndsKind, po_EndsKind, sa_EndsKind⟩
  have F_kH := fun_mk (st := sKeepH) l_kH c_kH k_kH
  have b_kH := F_kH.binds (ps := ["self", "word"]) fun _ _ _ _ _ _ us hl => match us, hl with | [_, _], _ => rfl
  have cl_HeadsKind : Cls K C_HeadsKind := ⟨pg_HeadsKind, hd_HeadsKind, po_HeadsKind, sa_HeadsKind⟩
  have F_kT := fun_mk (st := sKeepT) l_kT c_kT k_kT
  have b_kT := F_kT.binds (ps := ["self", "word"]) fun _ _ _ _ _ _ us hl => match us, hl with | [_, _], _ => rfl
  have cl_TailsKind : Cls K C_TailsKind := ⟨pg_TailsKind, hd_TailsKind, po_TailsKind, sa_TailsKind⟩
  have F_pl := fun_mk (st := sPlainM) l_pl c_pl k_pl
  have b_pl := F_pl.binds (ps := ["self", "word"]) fun _ _ _ _ _ _ us hl => match us, hl with | [_, _], _ => rfl
  have tN : ∀ H : Hp, SqT K H kn kindNames := fun H => .inr ⟨_, _, _, n_l, rfl, rfl, by show 8 ≤ sizeLine; decide, .cons ⟨_, rfl⟩ (.cons ⟨_, rfl⟩ (.cons ⟨_, rfl⟩ (.cons ⟨_, rfl⟩ (.cons ⟨_, rfl⟩ (.cons ⟨_, rfl⟩ (.cons ⟨_, rfl⟩ (.cons ⟨_, rfl⟩ .nil)))))))⟩
  have OE : OexC K CB := ⟨⟨_, _, _, _, _, _, _, _, _, _, _, _, _, _, _, b_l, b_v⟩, b_sa, b_ex, b_ty, b_k⟩
  have U : SupK rwK.prog K f_i c_i cc CB := ⟨OE, ⟨_, _, _, _, _, _, b_cl, b_cf, b_fi⟩, ⟨_, _, _, b_cc⟩, by decide +kernel, b_se, b_ve, b_op, b_su, ⟨_, b_cd⟩⟩
  have RT : RTx K mg CB := ⟨PySem.W.mg_of X G b_a, ⟨b_ga, b_gt, b_ex, b_hd⟩, b_no, PySem.W.exm_ref b_ex b_hd b_ty b_ss⟩
  have m0 : ∀ k : Kd, Mk0 K (clsOf C_Kind C_BagKind C_SetKind C_FirstKind C_LastKind C_EndsKind C_HeadsKind C_TailsKind k) := fun k => by
    cases k
    · exact ⟨mk_Kind, in_Kind, tp_Kind, kc_Kind⟩
    · exact ⟨mk_BagKind, in_BagKind, tp_BagKind, kc_BagKind⟩
    · exact ⟨mk_SetKind, in_SetKind, tp_SetKind, kc_SetKind⟩
    · exact ⟨mk_FirstKind, in_FirstKind, tp_FirstKind, kc_FirstKind⟩
    · exact ⟨mk_LastKind, in_LastKind, tp_LastKind, kc_LastKind⟩
    · exact ⟨mk_EndsKind, in_EndsKind, tp_EndsKind, kc_EndsKind⟩
    · exact ⟨mk_HeadsKind, in_HeadsKind, tp_HeadsKind, kc_HeadsKind⟩
    · exact ⟨mk_TailsKind, in_TailsKind, tp_TailsKind, kc_TailsKind⟩
  have gC : ∀ k : Kd, mg k.cn = some (.ref (clsOf C_Kind C_BagKind C_SetKind C_FirstKind C_LastKind C_EndsKind C_HeadsKind C_TailsKind k)) := fun k => by
    cases k
    · exact PySem.W.mg_of X G a_Kind
    · exact PySem.W.mg_of X G a_BagKind
    · exact PySem.W.mg_of X G a_SetKind
    · exact PySem.W.mg_of X G a_FirstKind
    · exact PySem.W.mg_of X G a_LastKind
    · exact PySem.W.mg_of X G a_EndsKind
    · exact PySem.W.mg_of X G a_HeadsKind
    · exact PySem.W.mg_of X G a_TailsKind
  have CR : ClsR K (clsOf C_Kind C_BagKind C_SetKind C_FirstKind C_LastKind C_EndsKind C_HeadsKind C_TailsKind) := ⟨fun k => by
    cases k
    · exact cl_Kind
    · exact cl_BagKind
    · exact cl_SetKind
    · exact cl_FirstKind
    · exact cl_LastKind
    · exact cl_EndsKind
    · exact cl_HeadsKind
    · exact cl_TailsKind, fun k => by
    cases k
    · exact ⟨_, ⟨qo_Kind, rfl, q_bf, by decide +kernel⟩⟩
    · exact ⟨_, ⟨qo_BagKind, rfl, q_bt, by decide +kernel⟩⟩
    · exact ⟨_, ⟨qo_SetKind, rfl, q_bt, by decide +kernel⟩⟩
    · exact ⟨_, ⟨qo_FirstKind, rfl, q_bf, by decide +kernel⟩⟩
    · exact ⟨_, ⟨qo_LastKind, rfl, q_bf, by decide +kernel⟩⟩
    · exact ⟨_, ⟨qo_EndsKind, rfl, q_bf, by decide +kernel⟩⟩
    · exact ⟨_, ⟨qo_HeadsKind, rfl, q_bf, by decide +kernel⟩⟩
    · exact ⟨_, ⟨qo_TailsKind, rfl, q_bf, by decide +kernel⟩⟩, fun k => by
    cases k
    · exact ⟨_, ⟨qu_Kind, rfl, q_bf, by decide +kernel⟩⟩
    · exact ⟨_, ⟨qu_BagKind, rfl, q_bf, by decide +kernel⟩⟩
    · exact ⟨_, ⟨qu_SetKind, rfl, q_bf, by decide +kernel⟩⟩
    · exact ⟨_, ⟨qu_FirstKind, rfl, q_bt, by decide +kernel⟩⟩
    · exact ⟨_, ⟨qu_LastKind, rfl, q_bt, by decide +kernel⟩⟩
    · exact ⟨_, ⟨qu_EndsKind, rfl, q_bt, by decide +kernel⟩⟩
    · exact ⟨_, ⟨qu_HeadsKind, rfl, q_bf, by decide +kernel⟩⟩
    · exact ⟨_, ⟨qu_TailsKind, rfl, q_bf, by decide +kernel⟩⟩⟩
  refine ⟨PySem.W.fnOf "law" "law" (defArgs sLaw) (defBody sLaw) (defScope sLaw) .none kV_law dc_law pm_law an_law cd_law ct_law, [(cB, Pt)], spLaw K [(Pt, lamQ)], fun p hp => by rw [List.mem_singleton.mp hp]; exact hPt, fun p hp => by rw [List.mem_singleton.mp hp]; exact t_nK, fun p hp => by rw [List.mem_singleton.mp hp]; exact PySem.W.codeHd_of_K X t_cd, fun s u => .of_eq rfl, fun H a ns hl _ hH hS => ⟨a, ns, rfl, hS, hl, fun p hp => by rw [List.mem_singleton.mp hp]; exact LamX.TabS.nil (hH (cB, Pt) (List.mem_singleton.mpr rfl)), fun _ => rfl⟩, fun base KB GB TB => ?_⟩
  have TBb := TB (cB, Pt) (List.mem_singleton.mpr rfl)
  have c_least_placesx : CalX CX0 rwK.prog w K mg base 1 "least_places" (spLeast K) := cal_of F_least_places (PySem.W.mg_of X G a_least_places) b_least_places (ok_least F_least_places B)
  have c_greatest_placesx : CalX CX0 rwK.prog w K mg base 1 "greatest_places" (spGreat K) := cal_of F_greatest_places (PySem.W.mg_of X G a_greatest_places) b_greatest_places (ok_great F_greatest_places B)
  have mKeep : ∀ k : Kd, MetX CX0 rwK.prog w K mg base 2 (clsOf C_Kind C_BagKind C_SetKind C_FirstKind C_LastKind C_EndsKind C_HeadsKind C_TailsKind k) "keep" (spKeep K [(Pt, lamQ)] k) := fun k => by
    cases k
    · exact ⟨_, _, _, cl_Kind, ⟨a_kO, i_kO, k_kO⟩, ok_keepO F_kO B, b_kO⟩
    · exact ⟨_, _, _, cl_BagKind, ⟨a_kB, i_kB, k_kB⟩, ok_keepB F_kB B TBb, b_kB⟩
    · exact ⟨_, _, _, cl_SetKind, ⟨a_kS, i_kS, k_kS⟩, ok_keepS F_kS B c_least_placesx, b_kS⟩
    · exact ⟨_, _, _, cl_FirstKind, ⟨a_kF, i_kF, k_kF⟩, ok_keepF F_kF B, b_kF⟩
    · exact ⟨_, _, _, cl_LastKind, ⟨a_kL, i_kL, k_kL⟩, ok_keepL F_kL B, b_kL⟩
    · exact ⟨_, _, _, cl_EndsKind, ⟨a_kE, i_kE, k_kE⟩, ok_keepE F_kE B, b_kE⟩
    · exact ⟨_, _, _, cl_HeadsKind, ⟨a_kH, i_kH, k_kH⟩, ok_keepH F_kH B c_least_placesx, b_kH⟩
    · exact ⟨_, _, _, cl_TailsKind, ⟨a_kT, i_kT, k_kT⟩, ok_keepT F_kT B c_greatest_placesx, b_kT⟩
  have mPlain : ∀ k : Kd, MetX CX0 rwK.prog w K mg base 3 (clsOf C_Kind C_BagKind C_SetKind C_FirstKind C_LastKind C_EndsKind C_HeadsKind C_TailsKind k) "plain" (spPlainM K (clsOf C_Kind C_BagKind C_SetKind C_FirstKind C_LastKind C_EndsKind C_HeadsKind C_TailsKind) [(Pt, lamQ)] k) := fun k => by
    have kk := ok_plainM (cls := clsOf C_Kind C_BagKind C_SetKind C_FirstKind C_LastKind C_EndsKind C_HeadsKind C_TailsKind) F_pl B k (mKeep k)
    cases k
    · exact ⟨_, _, _, cl_Kind, ⟨p_Kind, i_pl, k_pl⟩, kk, b_pl⟩
    · exact ⟨_, _, _, cl_BagKind, ⟨p_BagKind, i_pl, k_pl⟩, kk, b_pl⟩
    · exact ⟨_, _, _, cl_SetKind, ⟨p_SetKind, i_pl, k_pl⟩, kk, b_pl⟩
    · exact ⟨_, _, _, cl_FirstKind, ⟨p_FirstKind, i_pl, k_pl⟩, kk, b_pl⟩
    · exact ⟨_, _, _, cl_LastKind, ⟨p_LastKind, i_pl, k_pl⟩, kk, b_pl⟩
    · exact ⟨_, _, _, cl_EndsKind, ⟨p_EndsKind, i_pl, k_pl⟩, kk, b_pl⟩
    · exact ⟨_, _, _, cl_HeadsKind, ⟨p_HeadsKind, i_pl, k_pl⟩, kk, b_pl⟩
    · exact ⟨_, _, _, cl_TailsKind, ⟨p_TailsKind, i_pl, k_pl⟩, kk, b_pl⟩
  have KT : KTx rwK.prog w K mg base (clsOf C_Kind C_BagKind C_SetKind C_FirstKind C_LastKind C_EndsKind C_HeadsKind C_TailsKind) CB := ⟨m0, gC, ⟨kn, PySem.W.mg_of X G n_a, tN⟩, OE, PySem.W.mg_of X G b_a, ⟨f_i, _, b_i, b_it, ok_bini b_il b_ic U B.super b_no, bind_bini⟩⟩
  have c_kind_namedx : CalX (L2.CX rwK.prog w) rwK.prog w K mg base 3 "kind_named" (spKN (clsOf C_Kind C_BagKind C_SetKind C_FirstKind C_LastKind C_EndsKind C_HeadsKind C_TailsKind) CB) := cal_of F_kind_named (PySem.W.mg_of X G a_kind_named) b_kind_named (ok_kn F_kind_named B KT)
  have c_w_streamx : CalX CX0 rwK.prog w K mg base 1 "_law_stream" (spStream K) := cal_of F_w_stream (PySem.W.mg_of X G a_w_stream) b_w_stream (ok_stream F_w_stream B)
  have c_w_drawx : CalX CX0 rwK.prog w K mg base 1 "_law_draw" spDraw := cal_of F_w_draw (PySem.W.mg_of X G a_w_draw) b_w_draw (ok_draw F_w_draw B)
  have c_w_widex : CalX CX0 rwK.prog w K mg base 2 "_law_wide" spWide := cal_of F_w_wide (PySem.W.mg_of X G a_w_wide) b_w_wide (ok_wide F_w_wide B c_w_drawx)
  have c_w_valuex : CalX CX0 rwK.prog w K mg base 3 "_law_value" spValue := cal_of F_w_value (PySem.W.mg_of X G a_w_value) b_w_value (ok_value F_w_value B c_w_drawx c_w_widex)
  have c_w_kindx : CalX CX0 rwK.prog w K mg base 2 "_law_kind" spKind := cal_of F_w_kind (PySem.W.mg_of X G a_w_kind) b_w_kind (ok_kind F_w_kind B c_w_drawx)
  have c_is_holex : CalX CX0 rwK.prog w K mg base 1 "is_hole" spIH := cal_of F_is_hole (PySem.W.mg_of X G a_is_hole) b_is_hole (ok_ih F_is_hole B)
  have c_row_valuesx : CalX CX0 rwK.prog w K mg base 2 "row_values" (spRV K) := cal_of F_row_values (PySem.W.mg_of X G a_row_values) b_row_values (ok_rv F_row_values B c_is_holex)
  have c_row_holesx : CalX CX0 rwK.prog w K mg base 2 "row_holes" (spRH K) := cal_of F_row_holes (PySem.W.mg_of X G a_row_holes) b_row_holes (ok_rh F_row_holes B c_is_holex)
  have c_row_fromx : CalX (L2.CX rwK.prog w) rwK.prog w K mg base 4 "row_from" (spRF K [(Pt, lamQ)] CB) := cal_of F_row_from (PySem.W.mg_of X G a_row_from) b_row_from (ok_rf F_row_from B CR c_kind_namedx mPlain mKeep c_is_holex c_row_valuesx c_row_holesx)
  have c_hole_betweenx : CalX CX0 rwK.prog w K mg base 1 "hole_between" spHB := cal_of F_hole_between (PySem.W.mg_of X G a_hole_between) b_hole_between (ok_hb F_hole_between B)
  have c_filled_holex : CalX CX0 rwK.prog w K mg base 2 "filled_hole" (spFH K) := cal_of F_filled_hole (PySem.W.mg_of X G a_filled_hole) b_filled_hole (ok_fh F_filled_hole B c_hole_betweenx)
  have c_put_in_rowx : CalX (L2.CX rwK.prog w) rwK.prog w K mg base 5 "put_in_row" (spPR K [(Pt, lamQ)] CB) := cal_of F_put_in_row (PySem.W.mg_of X G a_put_in_row) b_put_in_row (ok_pr F_put_in_row B c_is_holex c_filled_holex c_row_fromx)
  have c_joined_rowsx : CalX (L2.CX rwK.prog w) rwK.prog w K mg base 5 "joined_rows" (spJR K [(Pt, lamQ)] CB) := cal_of F_joined_rows (PySem.W.mg_of X G a_joined_rows) b_joined_rows (ok_jr F_joined_rows B c_row_fromx)
  have c_w_plainx : CalX CX0 rwK.prog w K mg base 1 "_law_plain" (spPlain K) := cal_of F_w_plain (PySem.W.mg_of X G a_w_plain) b_w_plain (ok_plain F_w_plain B)
  have c_w_rowx : CalX CX0 rwK.prog w K mg base 2 "_law_row" spRow := cal_of F_w_row (PySem.W.mg_of X G a_w_row) b_w_row (ok_row F_w_row B c_w_plainx)
  have c_w_filledx : CalX CX0 rwK.prog w K mg base 1 "_law_filled" (spFill K) := cal_of F_w_filled (PySem.W.mg_of X G a_w_filled) b_w_filled (ok_fill F_w_filled B)
  have c_w_is_integerx : CalX CX0 rwK.prog w K mg base 1 "_law_is_integer" spII := cal_of F_w_is_integer (PySem.W.mg_of X G a_w_is_integer) b_w_is_integer (ok_ii F_w_is_integer B)
  have c_w_is_rowx : CalX CX0 rwK.prog w K mg base 2 "_law_is_row" (spIR K) := cal_of F_w_is_row (PySem.W.mg_of X G a_w_is_row) b_w_is_row (ok_ir F_w_is_row B c_w_is_integerx)
  have c_w_entriesx : CalX CX0 rwK.prog w K mg base 4 "_law_entries" spEnt := cal_of F_w_entries (PySem.W.mg_of X G a_w_entries) b_w_entries (ok_ent F_w_entries B c_w_drawx c_w_valuex)
  have c_w_fillsx : CalX CX0 rwK.prog w K mg base 6 "_law_fills" (spFills K [(Pt, lamQ)]) := cal_of F_w_fills (PySem.W.mg_of X G a_w_fills) b_w_fills (ok_fills F_w_fills B c_w_drawx c_w_valuex c_w_is_rowx c_w_filledx c_w_rowx c_put_in_rowx)
  have c_w_refusedx : CalX CX0 rwK.prog w K mg base 6 "_law_refused" spRef := cal_of F_w_refused (PySem.W.mg_of X G a_w_refused) b_w_refused (ok_ref F_w_refused B RT c_row_fromx c_put_in_rowx c_joined_rowsx)
  exact ok_law F_law B c_w_streamx c_w_drawx c_w_kindx c_w_entriesx c_w_refusedx c_w_rowx c_joined_rowsx c_w_is_rowx c_w_fillsx c_row_valuesx c_row_holesx c_row_fromx
end Mv

set_option Elab.async false
open PySem PySem.W PyProof.Rows
set_option maxRecDepth 100000 in
set_option maxHeartbeats 0 in
theorem PySem.Challenge.cw_movedstates_k11_a_row_with_holes_holds : PySem.Challenge.rw_movedstates_k11_a_row_with_holes.Holds := by
  w_on; o_law; k_head; (case hw => w_witness2)
  k_fill
  refine LamX.walk_ofTs (l := PySem.Challenge.rw_movedstates_k11_a_row_with_holes) (n := 63) (k := 8) (x := "_law_script") (CX := fun _ => L2.CX0) rfl (by decide) rfl ⟨rfl, by decide, by decide⟩ (fun w h Y => km_in_of Y) ?F (fun _ _ _ _ _ z => z)
  case F =>
    intro w mg fa h Y KX G hmg
    have TP := km_tabs_of Y
    refine' Mv.all_mk KX G hmg ?hPt ?z_len ?z_range ?z_enumerate ?z_abs ?z_int ?z_list ?z_tuple ?z_sorted ?z_isinstance ?z_str ?z_bool ?z_super ?z_ValueError ?a_w_stream ?l_w_stream ?c_w_stream ?k_w_stream ?a_w_draw ?l_w_draw ?c_w_draw ?k_w_draw ?a_w_wide ?l_w_wide ?c_w_wide ?k_w_wide ?a_w_kind ?l_w_kind ?c_w_kind ?k_w_kind ?a_w_value ?l_w_value ?c_w_value ?k_w_value ?a_w_plain ?l_w_plain ?c_w_plain ?k_w_plain ?a_w_row ?l_w_row ?c_w_row ?k_w_row ?a_w_filled ?l_w_filled ?c_w_filled ?k_w_filled ?a_w_is_integer ?l_w_is_integer ?c_w_is_integer ?k_w_is_integer ?a_w_is_row ?l_w_is_row ?c_w_is_row ?k_w_is_row ?a_w_entries ?l_w_entries ?c_w_entries ?k_w_entries ?a_w_fills ?l_w_fills ?c_w_fills ?k_w_fills ?a_w_refused ?l_w_refused ?c_w_refused ?k_w_refused ?a_law ?l_law ?c_law ?k_law ?a_least_places ?l_least_places ?c_least_places ?k_least_places ?a_greatest_places ?l_greatest_places ?c_greatest_places ?k_greatest_places ?a_kind_named ?l_kind_named ?c_kind_named ?k_kind_named ?a_is_hole ?l_is_hole ?c_is_hole ?k_is_hole ?a_row_values ?l_row_values ?c_row_values ?k_row_values ?a_row_holes ?l_row_holes ?c_row_holes ?k_row_holes ?a_row_from ?l_row_from ?c_row_from ?k_row_from ?a_hole_between ?l_hole_between ?c_hole_between ?k_hole_between ?a_filled_hole ?l_filled_hole ?c_filled_hole ?k_filled_hole ?a_put_in_row ?l_put_in_row ?c_put_in_row ?k_put_in_row ?a_joined_rows ?l_joined_rows ?c_joined_rows ?k_joined_rows ?q_bt ?q_bf ?a_Kind ?mk_Kind ?in_Kind ?tp_Kind ?kc_Kind ?pg_Kind ?hd_Kind ?po_Kind ?sa_Kind ?qo_Kind ?qu_Kind ?a_kO ?i_kO ?l_kO ?c_kO ?k_kO ?a_BagKind ?mk_BagKind ?in_BagKind ?tp_BagKind ?kc_BagKind ?pg_BagKind ?hd_BagKind ?po_BagKind ?sa_BagKind ?qo_BagKind ?qu_BagKind ?a_kB ?i_kB ?l_kB ?c_kB ?k_kB ?a_SetKind ?mk_SetKind ?in_SetKind ?tp_SetKind ?kc_SetKind ?pg_SetKind ?hd_SetKind ?po_SetKind ?sa_SetKind ?qo_SetKind ?qu_SetKind ?a_kS ?i_kS ?l_kS ?c_kS ?k_kS ?a_FirstKind ?mk_FirstKind ?in_FirstKind ?tp_FirstKind ?kc_FirstKind ?pg_FirstKind ?hd_FirstKind ?po_FirstKind ?sa_FirstKind ?qo_FirstKind ?qu_FirstKind ?a_kF ?i_kF ?l_kF ?c_kF ?k_kF ?a_LastKind ?mk_LastKind ?in_LastKind ?tp_LastKind ?kc_LastKind ?pg_LastKind ?hd_LastKind ?po_LastKind ?sa_LastKind ?qo_LastKind ?qu_LastKind ?a_kL ?i_kL ?l_kL ?c_kL ?k_kL ?a_EndsKind ?mk_EndsKind ?in_EndsKind ?tp_EndsKind ?kc_EndsKind ?pg_EndsKind ?hd_EndsKind ?po_EndsKind ?sa_EndsKind ?qo_EndsKind ?qu_EndsKind ?a_kE ?i_kE ?l_kE ?c_kE ?k_kE ?a_HeadsKind ?mk_HeadsKind ?in_HeadsKind ?tp_HeadsKind ?kc_HeadsKind ?pg_HeadsKind ?hd_HeadsKind ?po_HeadsKind ?sa_HeadsKind ?qo_HeadsKind ?qu_HeadsKind ?a_kH ?i_kH ?l_kH ?c_kH ?k_kH ?a_TailsKind ?mk_TailsKind ?in_TailsKind ?tp_TailsKind ?kc_TailsKind ?pg_TailsKind ?hd_TailsKind ?po_TailsKind ?sa_TailsKind ?qo_TailsKind ?qu_TailsKind ?a_kT ?i_kT ?l_kT ?c_kT ?k_kT ?p_Kind ?p_BagKind ?p_SetKind ?p_FirstKind ?p_LastKind ?p_EndsKind ?p_HeadsKind ?p_TailsKind ?i_pl ?l_pl ?c_pl ?k_pl ?t_nK ?t_cd ?n_a ?n_l ?b_a ?b_l ?b_v ?b_sa ?b_ex ?b_ty ?b_k ?b_i ?b_it ?b_il ?b_ic ?b_cl ?b_cf ?b_fi ?b_cc ?b_se ?b_ve ?b_op ?b_su ?b_cd ?b_ga ?b_gt ?b_hd ?b_no ?b_ss
    (case hPt => exact TP _ (List.mem_singleton.mpr rfl))
    (case z_len => k_is)
    (case z_range => k_is)
    (case z_enumerate => k_is)
    (case z_abs => k_is)
    (case z_int => k_is)
    (case z_list => k_is)
    (case z_tuple => k_is)
    (case z_sorted => k_is)
    (case z_isinstance => k_is)
    (case z_str => k_is)
    (case z_bool => k_is)
    (case z_super => k_is)
    (case z_ValueError => k_is)
    (case a_w_stream => k_is)
    (case l_w_stream => k_is)
    (case c_w_stream => k_is)
    (case k_w_stream => k_is)
    (case a_w_draw => k_is)
    (case l_w_draw => k_is)
    (case c_w_draw => k_is)
    (case k_w_draw => k_is)
    (case a_w_wide => k_is)
    (case l_w_wide => k_is)
    (case c_w_wide => k_is)
    (case k_w_wide => k_is)
    (case a_w_kind => k_is)
    (case l_w_kind => k_is)
    (case c_w_kind => k_is)
    (case k_w_kind => k_is)
    (case a_w_value => k_is)
    (case l_w_value => k_is)
    (case c_w_value => k_is)
    (case k_w_value => k_is)
    (case a_w_plain => k_is)
    (case l_w_plain => k_is)
    (case c_w_plain => k_is)
    (case k_w_plain => k_is)
    (case a_w_row => k_is)
    (case l_w_row => k_is)
    (case c_w_row => k_is)
    (case k_w_row => k_is)
    (case a_w_filled => k_is)
    (case l_w_filled => k_is)
    (case c_w_filled => k_is)
    (case k_w_filled => k_is)
    (case a_w_is_integer => k_is)
    (case l_w_is_integer => k_is)
    (case c_w_is_integer => k_is)
    (case k_w_is_integer => k_is)
    (case a_w_is_row => k_is)
    (case l_w_is_row => k_is)
    (case c_w_is_row => k_is)
    (case k_w_is_row => k_is)
    (case a_w_entries => k_is)
    (case l_w_entries => k_is)
    (case c_w_entries => k_is)
    (case k_w_entries => k_is)
    (case a_w_fills => k_is)
    (case l_w_fills => k_is)
    (case c_w_fills => k_is)
    (case k_w_fills => k_is)
    (case a_w_refused => k_is)
    (case l_w_refused => k_is)
    (case c_w_refused => k_is)
    (case k_w_refused => k_is)
    (case a_law => k_is)
    (case l_law => k_is)
    (case c_law => k_is)
    (case k_law => k_is)
    (case a_least_places => k_is)
    (case l_least_places => k_is)
    (case c_least_places => k_is)
    (case k_least_places => k_is)
    (case a_greatest_places => k_is)
    (case l_greatest_places => k_is)
    (case c_greatest_places => k_is)
    (case k_greatest_places => k_is)
    (case a_kind_named => k_is)
    (case l_kind_named => k_is)
    (case c_kind_named => k_is)
    (case k_kind_named => k_is)
    (case a_is_hole => k_is)
    (case l_is_hole => k_is)
    (case c_is_hole => k_is)
    (case k_is_hole => k_is)
    (case a_row_values => k_is)
    (case l_row_values => k_is)
    (case c_row_values => k_is)
    (case k_row_values => k_is)
    (case a_row_holes => k_is)
    (case l_row_holes => k_is)
    (case c_row_holes => k_is)
    (case k_row_holes => k_is)
    (case a_row_from => k_is)
    (case l_row_from => k_is)
    (case c_row_from => k_is)
    (case k_row_from => k_is)
    (case a_hole_between => k_is)
    (case l_hole_between => k_is)
    (case c_hole_between => k_is)
    (case k_hole_between => k_is)
    (case a_filled_hole => k_is)
    (case l_filled_hole => k_is)
    (case c_filled_hole => k_is)
    (case k_filled_hole => k_is)
    (case a_put_in_row => k_is)
    (case l_put_in_row => k_is)
    (case c_put_in_row => k_is)
    (case k_put_in_row => k_is)
    (case a_joined_rows => k_is)
    (case l_joined_rows => k_is)
    (case c_joined_rows => k_is)
    (case k_joined_rows => k_is)
    (case q_bt => k_is)
    (case q_bf => k_is)
    (case a_Kind => k_is)
    (case mk_Kind => k_is)
    (case in_Kind => k_is)
    (case tp_Kind => k_is)
    (case kc_Kind => k_is)
    (case pg_Kind => k_is)
    (case hd_Kind => k_is)
    (case po_Kind => k_is)
    (case sa_Kind => k_is)
    (case qo_Kind => k_is)
    (case qu_Kind => k_is)
    (case a_kO => k_is)
    (case i_kO => k_is)
    (case l_kO => k_is)
    (case c_kO => k_is)
    (case k_kO => k_is)
    (case a_BagKind => k_is)
    (case mk_BagKind => k_is)
    (case in_BagKind => k_is)
    (case tp_BagKind => k_is)
    (case kc_BagKind => k_is)
    (case pg_BagKind => k_is)
    (case hd_BagKind => k_is)
    (case po_BagKind => k_is)
    (case sa_BagKind => k_is)
    (case qo_BagKind => k_is)
    (case qu_BagKind => k_is)
    (case a_kB => k_is)
    (case i_kB => k_is)
    (case l_kB => k_is)
    (case c_kB => k_is)
    (case k_kB => k_is)
    (case a_SetKind => k_is)
    (case mk_SetKind => k_is)
    (case in_SetKind => k_is)
    (case tp_SetKind => k_is)
    (case kc_SetKind => k_is)
    (case pg_SetKind => k_is)
    (case hd_SetKind => k_is)
    (case po_SetKind => k_is)
    (case sa_SetKind => k_is)
    (case qo_SetKind => k_is)
    (case qu_SetKind => k_is)
    (case a_kS => k_is)
    (case i_kS => k_is)
    (case l_kS => k_is)
    (case c_kS => k_is)
    (case k_kS => k_is)
    (case a_FirstKind => k_is)
    (case mk_FirstKind => k_is)
    (case in_FirstKind => k_is)
    (case tp_FirstKind => k_is)
    (case kc_FirstKind => k_is)
    (case pg_FirstKind => k_is)
    (case hd_FirstKind => k_is)
    (case po_FirstKind => k_is)
    (case sa_FirstKind => k_is)
    (case qo_FirstKind => k_is)
    (case qu_FirstKind => k_is)
    (case a_kF => k_is)
    (case i_kF => k_is)
    (case l_kF => k_is)
    (case c_kF => k_is)
    (case k_kF => k_is)
    (case a_LastKind => k_is)
    (case mk_LastKind => k_is)
    (case in_LastKind => k_is)
    (case tp_LastKind => k_is)
    (case kc_LastKind => k_is)
    (case pg_LastKind => k_is)
    (case hd_LastKind => k_is)
    (case po_LastKind => k_is)
    (case sa_LastKind => k_is)
    (case qo_LastKind => k_is)
    (case qu_LastKind => k_is)
    (case a_kL => k_is)
    (case i_kL => k_is)
    (case l_kL => k_is)
    (case c_kL => k_is)
    (case k_kL => k_is)
    (case a_EndsKind => k_is)
    (case mk_EndsKind => k_is)
    (case in_EndsKind => k_is)
    (case tp_EndsKind => k_is)
    (case kc_EndsKind => k_is)
    (case pg_EndsKind => k_is)
    (case hd_EndsKind => k_is)
    (case po_EndsKind => k_is)
    (case sa_EndsKind => k_is)
    (case qo_EndsKind => k_is)
    (case qu_EndsKind => k_is)
    (case a_kE => k_is)
    (case i_kE => k_is)
    (case l_kE => k_is)
    (case c_kE => k_is)
    (case k_kE => k_is)
    (case a_HeadsKind => k_is)
    (case mk_HeadsKind => k_is)
    (case in_HeadsKind => k_is)
    (case tp_HeadsKind => k_is)
    (case kc_HeadsKind => k_is)
    (case pg_HeadsKind => k_is)
    (case hd_HeadsKind => k_is)
    (case po_HeadsKind => k_is)
    (case sa_HeadsKind => k_is)
    (case qo_HeadsKind => k_is)
    (case qu_HeadsKind => k_is)
    (case a_kH => k_is)
    (case i_kH => k_is)
    (case l_kH => k_is)
    (case c_kH => k_is)
    (case k_kH => k_is)
    (case a_TailsKind => k_is)
    (case mk_TailsKind => k_is)
    (case in_TailsKind => k_is)
    (case tp_TailsKind => k_is)
    (case kc_TailsKind => k_is)
    (case pg_TailsKind => k_is)
    (case hd_TailsKind => k_is)
    (case po_TailsKind => k_is)
    (case sa_TailsKind => k_is)
    (case qo_TailsKind => k_is)
    (case qu_TailsKind => k_is)
    (case a_kT => k_is)
    (case i_kT => k_is)
    (case l_kT => k_is)
    (case c_kT => k_is)
    (case k_kT => k_is)
    (case p_Kind => k_is)
    (case p_BagKind => k_is)
    (case p_SetKind => k_is)
    (case p_FirstKind => k_is)
    (case p_LastKind => k_is)
    (case p_EndsKind => k_is)
    (case p_HeadsKind => k_is)
    (case p_TailsKind => k_is)
    (case i_pl => k_is)
    (case l_pl => k_is)
    (case c_pl => k_is)
    (case k_pl => k_is)
    (case t_nK => first | exact rfl | kernel_rfl | decide +kernel)
    (case t_cd => first | exact rfl | kernel_rfl | decide +kernel)
    (case n_a => k_is)
    (case n_l => k_is)
    (case b_a => k_is)
    (case b_l => k_is)
    (case b_v => decide +kernel)
    (case b_sa => k_is)
    (case b_ex => k_is)
    (case b_ty => k_is)
    (case b_k => k_is)
    (case b_i => k_is)
    (case b_it => k_is)
    (case b_il => k_is)
    (case b_ic => k_is)
    (case b_cl => k_is)
    (case b_cf => rfl)
    (case b_fi => first | rfl | decide +kernel)
    (case b_cc => k_is)
    (case b_se => k_is)
    (case b_ve => k_is)
    (case b_op => k_is)
    (case b_su => first | k_is | rfl | decide +kernel)
    (case b_cd => k_is)
    (case b_ga => k_is)
    (case b_gt => k_is)
    (case b_hd => k_is)
    (case b_no => k_is)
    (case b_ss => k_is)

