import PyProof.Rows.All
import Wide.All
import OpenK.AllK
import Wide.FinOn
import PySem.Challenge.RW_movedstates_k01_kept_indexes_and_normal
import HandS.Base
import HandS.Call
import HandS.List
import HandS.Comp
import HandS.Ends
import HandS.Dict
import HandS.Iter
import HandS.Text
import HandS.More
import HandS.Words
import HandS.WordsList
import HandS.Wide
import HandS.SortInts
import HandS.DictComp
import HandS.Walk
import HandS.Exc
import HandS.ExcOwn
import HandS.TryOnly
import HandS.WordsExc
import HandS.IsInst
import HandS.ExcIs
import HandS.ExcInit
import HandS.SetKeys
import HandS.Style
import HandS.Conv
import HandS.FStr
import KE.KDictSum
import KE.KDictList
import PyProof.TupleOfSeq
import PyProof.DictValues
import KE.GoesEnum
import KE.GoesMore
import KE.SortKeyHeap
import HandS.Lambda
import HandS.SortKw
import HandS.TupAny
import KE.KExcSuper
import KE.KSuper
import HandS.FStrTup
import HandS.ExcSuper
import HandS.ExcField
import KE.KExcIs
import KE.KEqSeq
import KE.LtData
import HandS.SortRule
import HandS.EndTab
import KE.KNestM
set_option Elab.async false
set_option linter.all false
set_option maxRecDepth 100000
set_option maxHeartbeats 4000000
namespace Mv
open PySem PySem.Spec PyProof.Rows L2
/-! ### calls by their promises -/
/-- a def that may be called by its name -/
structure CalX (CX : CXT) (P : Program) (w : World) (K : PySem.W.Frag) (mg : Str → Option Value) (base : Heap) (k : Nat) (x : Str) (sp : Sp) : Prop where
  ex : ∃ (f : Addr) (fd : FuncData) (ps : List Str), FnOk P w K mg base CX k f fd ps sp ∧ mg x = some (.ref f) ∧ PySem.W.keepIn K (.ref f) = true ∧ Binds K fd ps []
/-- a method of the class at C -/
structure MetX (CX : CXT) (P : Program) (w : World) (K : PySem.W.Frag) (mg : Str → Option Value) (base : Heap) (k : Nat) (C : Addr) (m : Str) (sp : Sp) : Prop where
  ex : ∃ (f : Addr) (fd : FuncData) (ps : List Str), Cls K C ∧ Meth K C m f ∧ FnOk P w K mg base CX k f fd ps sp ∧ Binds K fd ps []
section
variable {X : Cx} {CX : CXT} {k j : Nat} {C : Addr} {x m : Str} {sp : Sp} {E : XK} {p pos apos : Pos} {e o : Expr} {es : List Expr} {ta : TE} {t : TA}
theorem pe_cx (c : CalX CX X.prog X.w X.K X.mg X.base k x sp) (hr : Room j X.A) (hk : k ≤ j) (hx : Passes CX X E) (hg : Gl X x) (ha : PA X (e :: es) t)
    (hdb : (x == ("__debug__" : Str)) = false := by decide) (he : starEach (e :: es) X.env = (false, eval e X.env) :: starEach es X.env := by rfl) (hpl : (backTo pos (starEach es X.env)).any (·.1) = false := by rfl) :
    PE X (.Call (.Name x p) (e :: es) [] pos) (tCall sp [] E t) := by
  obtain ⟨f, fd, ps, F, hm, kp, b⟩ := c.ex
  exact pe_call F (hr.mono hk) hg hm kp b .nil hx ha hdb he hpl
theorem pe_mx {pl : Sem Bool} (c : MetX CX X.prog X.w X.K X.mg X.base k C m sp) (hr : Room j X.A) (hk : k ≤ j) (hx : Passes CX X E) (he : PE X o ta) (ha : PA X (e :: es) t)
    (hst : starEach (e :: es) X.env = (false, eval e X.env) :: starEach es X.env := by rfl) (hpl : (backTo pos (starEach es X.env)).any (·.1) = false := by rfl)
    (ht : eval (.Call (.Attribute o m apos) (e :: es) [] pos) X.env = (do
      let ov ← eval o X.env
      standAt apos.atName
      let (f, first) ← holding [ov] (getMethod ov m pl)
      callWith pos f first (backTo pos (starEach (e :: es) X.env)) (backToKw pos (keywordEach [] X.env))) := by rfl) :
    PE X (.Call (.Attribute o m apos) (e :: es) [] pos) (tMeth C m sp [] E ta t) := by
  obtain ⟨f, fd, ps, hc, hm, F, b⟩ := c.ex
  exact pe_meth (pl := pl) he hc hm F (hr.mono hk) b .nil hx ha hst hpl ht
theorem pe_mx0 {pl : Sem Bool} (c : MetX CX X.prog X.w X.K X.mg X.base k C m sp) (hr : Room j X.A) (hk : k ≤ j) (hx : Passes CX X E) (he : PE X o ta)
    (ht : eval (.Call (.Attribute o m apos) [] [] pos) X.env = (do
      let ov ← eval o X.env
      standAt apos.atName
      let (f, first) ← holding [ov] (getMethod ov m pl)
      callWith pos f first (backTo pos (starEach [] X.env)) (backToKw pos (keywordEach [] X.env))) := by rfl) :
    PE X (.Call (.Attribute o m apos) [] [] pos) (tMeth C m sp [] E ta tNil) := by
  obtain ⟨f, fd, ps, hc, hm, F, b⟩ := c.ex
  exact pe_meth0 (pl := pl) he hc hm F (hr.mono hk) b .nil hx ht
end
/-- a def of the module, as the top leaves it -/
structure DefX (K : PySem.W.Frag) (mg : Str → Option Value) (x : Str) (st : Stmt) (ps : List Str) : Prop where
  ex : ∃ (f : Addr) (fd : FuncData), Fun K x x st f fd ∧ mg x = some (.ref f) ∧ Binds K fd ps []
theorem DefX.cal {P : Program} {w : World} {K : PySem.W.Frag} {mg : Str → Option Value} {base : Heap} {CX : CXT} {k : Nat} {x : Str} {st : Stmt} {ps : List Str} {sp : Sp} (D : DefX K mg x st ps)
    (h : ∀ f fd, Fun K x x st f fd → FnOk P w K mg base CX k f fd ps sp) : CalX CX P w K mg base k x sp := by
  obtain ⟨f, fd, F, hm, b⟩ := D.ex
  exact ⟨f, fd, ps, h f fd F, hm, F.kp, b⟩
/-! ### the built-in names that stay -/
structure Bi (mg : Str → Option Value) : Prop where
  len : mg "len" = none
  range : mg "range" = none
  enumerate : mg "enumerate" = none
  abs : mg "abs" = none
  int : mg "int" = none
  list : mg "list" = none
  tuple : mg "tuple" = none
  sorted : mg "sorted" = none
  isinstance : mg "isinstance" = none
  str : mg "str" = none
  bool : mg "bool" = none
  super : mg "super" = none
  ValueError : mg "ValueError" = none
theorem cxK {CX : CXT} {P : Program} {w : World} {K : PySem.W.Frag} {mg : Str → Option Value} {base : Heap} {N : List Str} {q : Str} {sc : Scope} {f : Addr} {cdv : Value} {A : Around} {outer : List Env} {s : Shared} {H : Hp} {E : XK} : (cxOf CX P w K mg base N q sc f cdv A outer s H E).K = K := rfl
theorem cxKn {CX : CXT} {P : Program} {w : World} {K : PySem.W.Frag} {mg : Str → Option Value} {base : Heap} {N : List Str} {q : Str} {sc : Scope} {f : Addr} {cdv : Value} {A : Around} {outer : List Env} {s : Shared} {H : Hp} {E : XK} : (cxOf CX P w K mg base N q sc f cdv A outer s H E).nox.K = K := rfl
/-! ### heaps -/
/-- all but what stands at a is as it was -/
def Sx (a : Addr) (H H' : Hp) : Prop := ∀ b o, b ≠ a → H b = some o → H' b = some o
theorem Sx.refl (a : Addr) (H : Hp) : Sx a H H := fun _ _ _ h => h
theorem Sx.trans {a : Addr} {H H1 H2 : Hp} (h : Sx a H H1) (k : Sx a H1 H2) : Sx a H H2 := fun b o n e => k b o n (h b o n e)
theorem Sx.of {a : Addr} {H H' : Hp} (h : Same H H') : Sx a H H' := fun b o _ e => h b o e
theorem Sx.upd {a : Addr} {H : Hp} {o : HO} : Sx a H (upd H a o) := fun b u n e => by rw [upd_ne n]; exact e
theorem same_upd {H : Hp} {p : Addr} {o : HO} (h : H p = none) : Same H (upd H p o) := fun b x e => by
  rw [upd_ne (ne_of_none e h)]
  exact e
theorem Same.tup {K : PySem.W.Frag} {H H' : Hp} {a : Addr} {xs : List V} (e : Same H H') (h : SqT K H a xs) : SqT K H' a xs := by
  rcases h with (h | ⟨o, h⟩) | h
  · exact .inl (.inl (e _ _ h))
  · exact .inl (.inr ⟨o, e _ _ h⟩)
  · exact .inr h
/-- the stream at a -/
def Strm (H : Hp) (a : Addr) : Prop := ∃ ns : List Int, H a = some (.lst (ns.map V.int)) ∧ ns.length ≤ 4000
theorem Strm.same {H H' : Hp} {a : Addr} (h : Strm H a) (s : Same H H') : Strm H' a := by
  obtain ⟨ns, e, l⟩ := h
  exact ⟨ns, s _ _ e, l⟩
theorem Strm.some {H : Hp} {a : Addr} (h : Strm H a) : ∃ xs, H a = some (.lst xs) := by
  obtain ⟨ns, e, l⟩ := h
  exact ⟨_, e⟩
theorem Strm.ne {H : Hp} {a p : Addr} (h : Strm H a) (n : H p = none) : a ≠ p := by
  obtain ⟨ns, e, l⟩ := h
  exact ne_of_none e n
/-! ### small facts -/
def cutI (ns : List Int) (lo hi : Option Int) : List Int := (ns.drop (HT.sIx ns.length 0 lo)).take (HT.sIx ns.length ns.length hi - HT.sIx ns.length 0 lo)
theorem cutV_int (ns : List Int) (lo hi : Option Int) : cutV (ns.map V.int) lo hi = (cutI ns lo hi).map V.int := by
  unfold cutV cutI
  rw [List.length_map, List.map_take, List.map_drop]
theorem cutI_length (ns : List Int) (lo hi : Option Int) : (cutI ns lo hi).length ≤ ns.length := by
  have h := cutV_length (ns.map V.int) lo hi
  rw [cutV_int, List.length_map, List.length_map] at h
  exact h
theorem int_at {ns : List Int} {i : Nat} {y : V} (h : (ns.map V.int)[i]? = some y) : ∃ u, y = .int u ∧ ns[i]? = some u := by
  rw [List.getElem?_map] at h
  cases e : ns[i]? with
  | none =>
    rw [e] at h
    cases h
  | some u =>
    rw [e] at h
    exact ⟨u, (Option.some.inj h).symm, rfl⟩
theorem abs_nn (i : Int) : 0 ≤ (if i < 0 then -i else i) := by
  by_cases h : i < 0
  · rw [if_pos h]
    omega
  · rw [if_neg h]
    omega
theorem small4000 {n : Nat} (h : n ≤ 4000) : n < sizeLine := Nat.lt_of_le_of_lt h (by decide)
theorem small4000' {n : Nat} (h : n ≤ 4000) : n ≤ sizeLine := Nat.le_of_lt (small4000 h)
theorem ints_flat : ∀ ns : List Int, (ns.map V.int).all flatV = true
  | [] => rfl
  | n :: ns => ints_flat ns
end Mv

set_option Elab.async false
set_option linter.all false
set_option maxRecDepth 100000
set_option maxHeartbeats 1000000
namespace Mv
open PySem
/-! ### sorted lists -/
def sortI (xs : List Int) : List Int := xs.mergeSort fun a b => decide (a ≤ b)
theorem sort_perm (xs : List Int) : (sortI xs).Perm xs := List.mergeSort_perm xs _
theorem sort_le (xs : List Int) : (sortI xs).Pairwise (· ≤ ·) := by
  have h := List.pairwise_mergeSort (le := fun a b : Int => decide (a ≤ b)) (fun a b c h1 h2 => by
    have h1 := of_decide_eq_true h1
    have h2 := of_decide_eq_true h2
    exact decide_eq_true (Int.le_trans h1 h2)) (fun a b => by
    by_cases h : a ≤ b
    · simp [h]
    · have : b ≤ a := by omega
      simp [this]) xs
  exact h.imp fun h => of_decide_eq_true h
theorem sorted_one : ∀ {xs ys : List Int}, xs.Perm ys → xs.Pairwise (· ≤ ·) → ys.Pairwise (· ≤ ·) → xs = ys
  | [], ys, h, _, _ => (List.Perm.nil_eq h)
  | x :: xs, [], h, _, _ => absurd h.length_eq (by simp)
  | x :: xs, y :: ys, h, h1, h2 => by
    have a := List.pairwise_cons.mp h1
    have b := List.pairwise_cons.mp h2
    have e : x = y := by
      have m1 : x ∈ y :: ys := h.mem_iff.mp List.mem_cons_self
      have m2 : y ∈ x :: xs := h.mem_iff.mpr List.mem_cons_self
      rcases List.mem_cons.mp m1 with e | m1
      · exact e
      · rcases List.mem_cons.mp m2 with e | m2
        · exact e.symm
        · exact Int.le_antisymm (a.1 _ m2) (b.1 _ m1)
    subst e
    rw [sorted_one (List.Perm.cons_inv h) a.2 b.2]
theorem sort_is {xs ys : List Int} (h : xs.Perm ys) (s : xs.Pairwise (· ≤ ·)) : xs = sortI ys := sorted_one (h.trans (sort_perm ys).symm) s (sort_le ys)
theorem sort_congr {xs ys : List Int} (h : xs.Perm ys) : sortI xs = sortI ys := sort_is ((sort_perm xs).trans h) (sort_le xs)
theorem sort_nodup {xs : List Int} (h : xs.Nodup) : (sortI xs).Nodup := (sort_perm xs).nodup_iff.mpr h
theorem mem_sort {x : Int} {xs : List Int} : x ∈ sortI xs ↔ x ∈ xs := (sort_perm xs).mem_iff
theorem perm_of_mem {xs ys : List Int} (h1 : xs.Nodup) (h2 : ys.Nodup) (h : ∀ x, x ∈ xs ↔ x ∈ ys) : xs.Perm ys := (List.perm_ext_iff_of_nodup h1 h2).mpr h
theorem sort_mem {xs ys : List Int} (h1 : xs.Nodup) (h2 : ys.Nodup) (h : ∀ x, x ∈ xs ↔ x ∈ ys) : sortI xs = sortI ys := sort_congr (perm_of_mem h1 h2 h)
/-! ### each value once, where it comes first -/
def addI (acc : List Int) (x : Int) : List Int := if x ∈ acc then acc else acc ++ [x]
def headsA (acc xs : List Int) : List Int := xs.foldl addI acc
def headsI (xs : List Int) : List Int := headsA [] xs
def tailsI (xs : List Int) : List Int := (headsI xs.reverse).reverse
theorem headsA_snoc (acc xs : List Int) (x : Int) : headsA acc (xs ++ [x]) = addI (headsA acc xs) x := by
  unfold headsA
  rw [List.foldl_append]
  rfl
theorem headsA_app (acc xs ys : List Int) : headsA acc (xs ++ ys) = headsA (headsA acc xs) ys := by
  unfold headsA
  rw [List.foldl_append]
theorem headsI_snoc (xs : List Int) (x : Int) : headsI (xs ++ [x]) = addI (headsI xs) x := headsA_snoc [] xs x
theorem mem_addI {acc : List Int} {x y : Int} : y ∈ addI acc x ↔ y ∈ acc ∨ y = x := by
  unfold addI
  split
  · rename_i h
    exact ⟨.inl, fun z => z.elim id fun e => e ▸ h⟩
  · simp
theorem snoc_ind {P : List Int → Prop} (h0 : P []) (hs : ∀ xs x, P xs → P (xs ++ [x])) (xs : List Int) : P xs := by
  have h : ∀ ys : List Int, P ys.reverse := fun ys => by
    induction ys with
    | nil => exact h0
    | cons y ys ih =>
      rw [List.reverse_cons]
      exact hs _ _ ih
  have e := h xs.reverse
  rw [List.reverse_reverse] at e
  exact e
theorem mem_headsI {y : Int} (xs : List Int) : y ∈ headsI xs ↔ y ∈ xs := by
  induction xs using snoc_ind with
  | h0 => exact Iff.rfl
  | hs xs x ih =>
    rw [headsI_snoc, mem_addI, ih]
    simp
theorem nodup_addI {acc : List Int} {x : Int} (h : acc.Nodup) : (addI acc x).Nodup := by
  unfold addI
  split
  · exact h
  · rename_i hx
    refine List.nodup_append.mpr ⟨h, by simp, fun a ha b hb => ?_⟩
    rw [List.mem_singleton] at hb
    rw [hb]
    exact fun e => hx (e ▸ ha)
theorem nodup_headsI (xs : List Int) : (headsI xs).Nodup := by
  induction xs using snoc_ind with
  | h0 => exact List.nodup_nil
  | hs xs x ih =>
    rw [headsI_snoc]
    exact nodup_addI ih
theorem headsI_nodup (xs : List Int) : xs.Nodup → headsI xs = xs := by
  induction xs using snoc_ind with
  | h0 => exact fun _ => rfl
  | hs xs x ih =>
    intro h
    obtain ⟨h1, _, h3⟩ := List.nodup_append.mp h
    rw [headsI_snoc, ih h1]
    unfold addI
    rw [if_neg fun hx => h3 x hx x (by simp) rfl]
theorem headsA_eq (acc xs : List Int) : headsA acc xs = acc ++ (headsI xs).filter fun x => decide (x ∉ acc) := by
  induction xs using snoc_ind with
  | h0 => simp [headsA, headsI]
  | hs xs x ih =>
    rw [headsA_snoc, headsI_snoc, ih]
    have hm := mem_headsI (y := x) xs
    unfold addI
    by_cases ha : x ∈ acc
    · rw [if_pos (List.mem_append_left _ ha)]
      split
      · rfl
      · rw [List.filter_append]
        simp [ha]
    · by_cases hx : x ∈ headsI xs
      · rw [if_pos hx, if_pos (List.mem_append_right _ (List.mem_filter.mpr ⟨hx, by simp [ha]⟩))]
      · rw [if_neg hx, if_neg, List.filter_append]
        · simp [ha]
        · intro z
          rcases List.mem_append.mp z with z | z
          · exact ha z
          · exact hx (List.mem_filter.mp z).1
theorem headsI_idem (xs : List Int) : headsI (headsI xs) = headsI xs := headsI_nodup _ (nodup_headsI xs)
theorem headsI_join (u v : List Int) : headsI (headsI u ++ headsI v) = headsI (u ++ v) := by
  show headsA [] _ = headsA [] _
  rw [headsA_app, headsA_app]
  show headsA (headsI (headsI u)) (headsI v) = headsA (headsI u) v
  rw [headsI_idem, headsA_eq, headsI_idem, ← headsA_eq]
theorem tailsI_idem (xs : List Int) : tailsI (tailsI xs) = tailsI xs := by
  unfold tailsI
  rw [List.reverse_reverse, headsI_idem]
theorem tailsI_join (u v : List Int) : tailsI (tailsI u ++ tailsI v) = tailsI (u ++ v) := by
  unfold tailsI
  rw [List.reverse_append, List.reverse_reverse, List.reverse_reverse, headsI_join, List.reverse_append]
/-! ### plain values -/
def firstI (xs : List Int) : List Int := xs.take 1
def lastI (xs : List Int) : List Int := xs.drop (xs.length - 1)
def endsI (xs : List Int) : List Int := xs.take 1 ++ xs.drop (xs.length - 1)
/-- the eight kinds -/
inductive Kd where
  | list | bag | set | first | last | ends | heads | tails
  deriving DecidableEq
def Kd.nm : Kd → Str
  | .list => "list" | .bag => "bag" | .set => "set" | .first => "first" | .last => "last" | .ends => "ends" | .heads => "heads" | .tails => "tails"
def kds : List Kd := [.list, .bag, .set, .first, .last, .ends, .heads, .tails]
def plainI (k : Kd) (xs : List Int) : List Int :=
  match k with
  | .list => xs
  | .bag => sortI xs
  | .set => sortI (headsI xs)
  | .first => firstI xs
  | .last => lastI xs
  | .ends => endsI xs
  | .heads => headsI xs
  | .tails => tailsI xs
theorem lastI_snoc (xs : List Int) (x : Int) : lastI (xs ++ [x]) = [x] := by
  unfold lastI
  rw [List.length_append]
  simp
theorem first_join (u v : List Int) : firstI (firstI u ++ firstI v) = firstI (u ++ v) := by
  cases u with
  | nil => cases v <;> rfl
  | cons x u => rfl
theorem last_join (u v : List Int) : lastI (lastI u ++ lastI v) = lastI (u ++ v) := by
  induction v using snoc_ind with
  | h0 =>
    induction u using snoc_ind with
    | h0 => rfl
    | hs u x _ => simp [lastI_snoc, lastI]
  | hs v y _ => rw [lastI_snoc, lastI_snoc, ← List.append_assoc, lastI_snoc]
theorem endsI_eq (xs : List Int) : endsI xs = firstI xs ++ lastI xs := rfl
theorem last_ends (xs : List Int) : lastI (endsI xs) = lastI xs := by
  induction xs using snoc_ind with
  | h0 => rfl
  | hs xs x _ => rw [endsI_eq, lastI_snoc, lastI_snoc]
theorem first_ends (xs : List Int) : firstI (endsI xs) = firstI xs := by
  cases xs with
  | nil => rfl
  | cons x xs => rfl
theorem first_app (u v : List Int) : firstI (u ++ v) = firstI (firstI u ++ firstI v) := (first_join u v).symm
theorem last_app (u v : List Int) : lastI (u ++ v) = lastI (lastI u ++ lastI v) := (last_join u v).symm
theorem ends_join (u v : List Int) : endsI (endsI u ++ endsI v) = endsI (u ++ v) := by
  rw [endsI_eq (_ ++ _), endsI_eq (u ++ v), first_app (endsI u), last_app (endsI u), first_ends, first_ends, last_ends, last_ends, first_join, last_join]
theorem plain_join (k : Kd) (u v : List Int) : plainI k (plainI k u ++ plainI k v) = plainI k (u ++ v) := by
  cases k with
  | list => rfl
  | bag => exact sort_congr ((sort_perm u).append (sort_perm v))
  | set =>
    refine sort_mem (nodup_headsI _) (nodup_headsI _) fun x => ?_
    show x ∈ headsI (sortI (headsI u) ++ sortI (headsI v)) ↔ _
    rw [mem_headsI, mem_headsI, List.mem_append, List.mem_append, mem_sort, mem_sort, mem_headsI, mem_headsI]
  | first => exact first_join u v
  | last => exact last_join u v
  | ends => exact ends_join u v
  | heads => exact headsI_join u v
  | tails => exact tailsI_join u v
theorem sort_nil : sortI [] = [] := List.Perm.eq_nil (sort_perm [])
theorem plain_nil (k : Kd) : plainI k [] = [] := by
  cases k with
  | bag => exact sort_nil
  | set => exact sort_nil
  | _ => rfl
theorem plain_idem (k : Kd) (u : List Int) : plainI k (plainI k u) = plainI k u := by
  have h := plain_join k u []
  rw [plain_nil, List.append_nil, List.append_nil] at h
  exact h
theorem headsI_len (xs : List Int) : (headsI xs).length ≤ xs.length := by
  induction xs using snoc_ind with
  | h0 => exact Nat.le_refl _
  | hs xs x ih =>
    rw [headsI_snoc, List.length_append]
    unfold addI
    split
    · omega
    · rw [List.length_append]
      simp only [List.length_singleton]
      omega
theorem plain_len (k : Kd) (xs : List Int) : (plainI k xs).length ≤ 2 * xs.length := by
  have h := headsI_len xs
  have h2 := headsI_len xs.reverse
  rw [List.length_reverse] at h2
  cases k with
  | list => show xs.length ≤ _; omega
  | bag => show (sortI xs).length ≤ _; rw [(sort_perm xs).length_eq]; omega
  | set => show (sortI (headsI xs)).length ≤ _; rw [(sort_perm (headsI xs)).length_eq]; omega
  | first => show (xs.take 1).length ≤ _; rw [List.length_take]; omega
  | last => show (xs.drop (xs.length - 1)).length ≤ _; rw [List.length_drop]; omega
  | ends => show (xs.take 1 ++ xs.drop (xs.length - 1)).length ≤ _; rw [List.length_append, List.length_take, List.length_drop]; omega
  | heads => show (headsI xs).length ≤ _; omega
  | tails => show ((headsI xs.reverse).reverse).length ≤ _; rw [List.length_reverse]; omega
end Mv

set_option Elab.async false
set_option linter.all false
set_option maxRecDepth 100000
set_option maxHeartbeats 4000000
namespace Mv
open PySem PySem.Spec PyProof.Rows L2
/-! ### C() where no class on the way has an __init__ -/
structure Mk0 (K : PySem.W.Frag) (C : Addr) : Prop where
  makes : PySem.W.makesIn K C = true
  init : PySem.W.findIn K (.ref C) "__init__" = some (some (.builtin "object.__init__"))
  top : PySem.W.mroIn K C (.type "object") = some true
  kp : PySem.W.keepIn K (.ref C) = true
def tMake0 (C : Addr) : TE := fun _ H Q => ∀ x dx, H x = none → H dx = none → dx ≠ x → Q (.ref x) (upd (upd H dx (.own x)) x (.ins C dx []))
section
variable {X : Cx} {pins : List (Addr × Obj)} {σ : L2.St} {H : Hp} {s : Shared} {Q : VK} {C : Addr}
theorem run_makeB (M : Mk0 X.K C) (I : Inv X pins σ H s) (h : ∀ x dx, H x = none → H dx = none → dx ≠ x → Q (.ref x) (upd (upd H dx (.own x)) x (.ins C dx []))) :
    wpAny (model X.prog X.w) X.A (call (.ref C) []) (EP X pins σ Q) X.xe s := by
  have hq := h (s.heap.objs.size + 1) s.heap.objs.size (I.hok.fresh (Nat.le_succ _)) (I.hok.fresh (Nat.le_refl _)) (Nat.ne_of_lt (Nat.lt_succ_self _))
  have J := Inv.made (C := C) I
  refine wpAny_call (make_map0 I.kIn M.makes M.init (fun self => PySem.W.Looks.of_pure (PySem.W.oi_bind _)) ?_)
  obtain ⟨o, ho, hc⟩ : ∃ o : Obj, ((s.heap.push PySem.W.emptyDict).push (PySem.W.instObj C s.heap.objs.size)).get? (s.heap.objs.size + 1) = some o ∧ o.cls = .ref C := by
    obtain ⟨_, _, _, e, _⟩ := J.hok _ _ upd_same
    exact ⟨_, e, rfl⟩
  have ty : PySem.W.Looks (model X.prog X.w) ((s.heap.push PySem.W.emptyDict).push (PySem.W.instObj C s.heap.objs.size)) (typeOf (.ref (s.heap.objs.size + 1))) (.ref C) := (PySem.W.Looks.ld ho).andThen (by rw [hc]; exact .now)
  have top : PySem.W.Looks (model X.prog X.w) ((s.heap.push PySem.W.emptyDict).push (PySem.W.instObj C s.heap.objs.size)) (isInstance (.ref (s.heap.objs.size + 1)) (.type "object")) true := ty.andThen (PySem.W.looks_mroIn J.kIn M.top)
  refine codeAny_call_builtin PySem.W.oi_plain PySem.W.entry_oi (@PySem.W.check_slot (model X.prog X.w) _ _ _ "object.__init__" "object" "__init__" (.ref (s.heap.objs.size + 1)) [] [] _ PySem.W.oi_kind PySem.W.oi_split top (PySem.W.oi_args _) ?_)
  rw [PySem.W.oi_run]
  exact wpAny_pure ⟨rfl, .ref (s.heap.objs.size + 1), _, J, rfl, hq⟩
theorem pe_makeB {x : Str} {p pos : Pos} (M : Mk0 X.K C) (hg : Gl X x) (hm : X.mg x = some (.ref C)) (hdb : (x == ("__debug__" : Str)) = false := by decide) : PE X (.Call (.Name x p) [] [] pos) (tMake0 C) := by
  refine ⟨fun pins s σ H Q I h => ?_⟩
  refine wpAny_Call_Name_kw (ld_glob I hg hm ?_ hdb)
  exact PySem.W.callWith_K0 I.kIn M.kp (run_makeB M I h)
end
theorem paired_at {α β : Type} {F : α → β → Prop} : ∀ {xs : List α} {ys : List β} {i : Nat} {y : β}, Paired F xs ys → ys[i]? = some y → ∃ x, xs[i]? = some x ∧ F x y
  | _, _, i, y, .nil, h => by cases h
  | _, _, 0, y, .cons r t, h => ⟨_, rfl, by cases h; exact r⟩
  | _, _, i + 1, y, .cons r t, h => paired_at (i := i) t h
/-! ### sorted of ints, whatever they are collected from -/
section
variable {X : Cx} {pins : List (Addr × Obj)} {σ : L2.St} {H : Hp} {s : Shared} {Q : VK}
theorem sorted_from (I : Inv X pins σ H s) {v : Value} {ns : List Int} (hz : ns.length ≤ sizeLine)
    (hc : ∀ R : List Value → Shared → Prop, (∀ (h' : Heap) (tk : Nat) (acc : List Value), (∀ b o, s.heap.get? b = some o → h'.get? b = some o) → IntsAre acc ns → R acc { s with heap := h', toks := tk }) → wpAny (model X.prog X.w) X.A.in1 (collect v) R X.xe s)
    (q : ∀ p : Addr, H p = none → Q (.ref p) (upd H p (.lst ((sortI ns).map V.int)))) :
    wpAny (model X.prog X.w) X.A (call (.builtin "sorted") [v]) (EP X pins σ Q) X.xe s := by
  refine Calls.call_function_entry PyProof.Rows.kind_sorted PyProof.Rows.plain_sorted PyProof.Rows.entry_sorted (PyProof.Rows.args_sorted1 _) ?_
  unfold Builtin.«sorted»
  refine wpAny_bind (m := checkCount "sorted" 1 1 _) (wpAny_pure (wpAny_bind (hc _ fun h' tk acc hk hi => ?_)))
  have I1 : Inv X pins σ H { s with heap := h', toks := tk } := I.kept hk
  have hl : acc.length = ns.length := hi.length
  refine wpAny_bind (wpAny_newList ?_ (by rw [hl]; exact hz))
  have ho : (h'.push (seqObj "list" acc.toArray 0)).get? h'.objs.size = some (seqObj "list" acc.toArray 0) := Heap.get?_push_size _ rfl
  show wpAny _ _ _ _ _ { s with heap := h'.push (seqObj "list" acc.toArray 0), toks := tk }
  refine wpAny_bind (wpAny_holding (wpAny_call_entry PyProof.Rows.slot_list_sort ⟨_, ho, rfl⟩ PyProof.Rows.entry_list_sort
    (SrtO.list_sort_ord (s := { s with heap := h'.push (seqObj "list" acc.toArray 0), toks := tk }) SrtO.swo_int ho (by rw [hl]; exact hz) (fun h2 => SrtO.ints_sortable hi h2) fun out k1 k2 => ⟨_, rfl, ?_⟩) (PyProof.Rows.args_list_sort _)))
  obtain ⟨g1, g2, g3⟩ := SrtO.ints_out hi k1 k2
  rw [sort_is g2 g3] at g1
  obtain ⟨e', he'⟩ := PyProof.Rows.sortedHeap_at (vs := acc) (out := out.toArray) ho
  refine wpAny_pure ⟨_, rfl, .ref h'.objs.size, upd H h'.objs.size (.lst ((sortI ns).map V.int)), I1.laid (t' := tk) (fun b u e => ?_) (Nat.le_refl _)
    (show ObjOk X.prog X.w _ _ _ (.lst ((sortI ns).map V.int)) from ⟨by rw [List.length_map, (sort_perm ns).length_eq]; exact hz, out, e', vals_of_ints g1, he'⟩), rfl, q _ (I1.hok.fresh (Nat.le_refl _))⟩
  have hb : b < h'.objs.size := Heap.lt_size e
  rw [PyProof.Rows.sortedHeap_old (Nat.ne_of_lt hb) (by rw [size_push']; exact Nat.lt_succ_of_lt hb)]
  exact Heap.get?_push_of_some _ e
/-- sorted(t), t a tuple of ints -/
def rSortT (K : PySem.W.Frag) : List V → Hp → VK → Prop := fun vs H Q => ∃ (a : Addr) (ns : List Int), vs = [V.ref a] ∧ SqT K H a (ns.map V.int) ∧ ∀ p : Addr, H p = none → Q (.ref p) (upd H p (.lst ((sortI ns).map V.int)))
theorem cr_sortT' : CallR X (.builtin "sorted") (rSortT X.K) := by
  intro pins s σ H vs us Q I r h
  obtain ⟨a, ns, rfl, hs, q⟩ := h
  rw [Vals.ref1 r]
  obtain ⟨its, rv, ⟨o, h1, h2, n, h3⟩, hz⟩ := I.tuple hs
  have hi := rv.ints
  have hl := hi.length
  rw [List.length_map] at hz
  refine sorted_from I hz (fun R k => wpAny_collect_seq a (.inr rfl) h1 h2 h3 (fun h' hk => ?_) (by rw [List.size_toArray, hl]; exact hz)) q
  have := k h' s.toks its hk hi
  simpa using this
/-- sorted(l), l a list of ints -/
def rSortL (K : PySem.W.Frag) : List V → Hp → VK → Prop := fun vs H Q => ∃ (a : Addr) (ns : List Int), vs = [V.ref a] ∧ SqL K H a (ns.map V.int) ∧ ∀ p : Addr, H p = none → Q (.ref p) (upd H p (.lst ((sortI ns).map V.int)))
theorem cr_sortL : CallR X (.builtin "sorted") (rSortL X.K) := by
  intro pins s σ H vs us Q I r h
  obtain ⟨a, ns, rfl, hs, q⟩ := h
  refine cr_sortedI pins s σ H _ us Q I r ⟨a, ns, rfl, hs, fun ns' p k1 k2 hp => ?_⟩
  rw [sort_is k1 k2]
  exact q p hp
/-! ### d.values() as a thing of its own -/
def valuesO (p d : Addr) : HO := .ext fun h => h.IsValuesView p d
def tVals (td : TE) : TE := fun σ H Q => td σ H fun x H1 => ∃ d kvs, x = .ref d ∧ H1 d = some (.dK kvs) ∧ ∀ p, H1 p = none → Q (.ref p) (upd H1 p (valuesO p d))
theorem pe_vals {e : Expr} {td : TE} {apos cpos : Pos} (he : PE X e td) (hbase : attributeBase e "values" X.env (eval e X.env) = eval e X.env := by rfl) (hline : (apos.endLine == cpos.line) = true := by rfl) : PE X (.Call (.Attribute e "values" apos) [] [] cpos) (tVals td) := by
  refine ⟨fun pins s σ H Q I h => ?_⟩
  refine wpAny_Call_method (T := "dict") (id := "dict.values") hbase rfl hline F.plainAttrs_dict F.slot_dict_values F.type_dict_values (thn (he.run pins s σ H _ I h) fun u s1 ⟨x, H1, I1, rx, d, kvs, ex, hd, q⟩ => ?_)
  subst ex
  obtain rfl : u = Value.ref d := rx
  obtain ⟨z, hgd, vs, kv, dd⟩ := dk_of I1.hok hd
  refine ⟨dd.typeIs, dd.mapOf.noDict, ?_⟩
  have hf : H1 s1.heap.objs.size = none := I1.hok.fresh (Nat.le_refl _)
  have e0 : (s1.heap.push { cls := .type "dict_values", data := .fields #[.ref d] }).get? s1.heap.objs.size = some { cls := .type "dict_values", data := .fields #[.ref d] } := Heap.get?_push_size _ rfl
  have J := I1.laid (a := s1.heap.objs.size) (o := valuesO s1.heap.objs.size d) (h' := s1.heap.push { cls := .type "dict_values", data := .fields #[.ref d] }) (t' := s1.toks) (fun b u e => Heap.get?_push_of_some _ e) (Nat.le_refl _) ⟨⟨_, e0, rfl, rfl⟩, ⟨_, e0⟩, fun h1 h2 ⟨o, ho, r⟩ k => ⟨o, k o ho, r⟩⟩
  show wpAny _ _ (callWith cpos (.builtin "dict.values") [.ref d] [] []) _ X.xe s1
  exact method_meetsIn F.slot_dict_values F.entry_dict_values rfl (PySem.evalArgs_none ⟨rfl, dd.typeIs, F.args_dict_values_1 _, _, meets_dict_values (mixKind X.prog X.w) d hgd, ⟨vs, dd⟩, ⟨.ref s1.heap.objs.size, _, J, rfl, q _ hf⟩⟩)
/-- sorted(v), v the values of a dict, all ints -/
def rSortV : List V → Hp → VK → Prop := fun vs H Q => ∃ (p d : Addr) (kvs : List (Key × V)) (ns : List Int), vs = [V.ref p] ∧ H p = some (valuesO p d) ∧ H d = some (.dK kvs) ∧ kvs.map (·.2) = ns.map V.int ∧ ∀ l : Addr, H l = none → Q (.ref l) (upd H l (.lst ((sortI ns).map V.int)))
theorem cr_sortV (hcalm : X.calm = true) : CallR X (.builtin "sorted") rSortV := by
  intro pins s σ H vs us Q I r h
  obtain ⟨p, d, kvs, ns, rfl, hp, hd, hv, q⟩ := h
  rw [Vals.ref1 r]
  have view : s.heap.IsValuesView p d := (show ObjOk X.prog X.w H s.heap p (valuesO p d) from I.hok p _ hp).1
  obtain ⟨z, lo, ws, rel, dd⟩ := dk_of I.hok hd
  obtain ⟨ep, hat⟩ := dd.dictAt
  have hlv : kvs.length = ws.length := rel.length
  have hln : kvs.length = ns.length := by
    have e := congrArg List.length hv
    rw [List.length_map, List.length_map] at e
    exact e
  refine sorted_from I (by rw [← hln]; exact z) (fun R k => PySem.W.kdu_collect (A := X.A.in1) (PySem.W.kdl_values (knd := mixKind X.prog X.w) (kvs := ws) (ep := ep)) (I.ok.hd hcalm) ⟨view, hat⟩ (by rw [← hlv]; exact z) fun h' tk acc hk hacc => k h' tk acc.toList hk ?_) q
  refine ints_each (by rw [Array.length_toList, hacc.1, ← hlv, hln]) fun j v e => ?_
  rw [Array.getElem?_toList] at e
  obtain ⟨key, e1⟩ := hacc.2 j v e
  obtain ⟨kv, e2, e3, e4⟩ := paired_at rel e1
  have e5 : (kvs.map (·.2))[j]? = some kv.2 := by rw [List.getElem?_map, e2]; rfl
  rw [hv] at e5
  obtain ⟨u, eu, e6⟩ := int_at e5
  rw [eu] at e4
  obtain ⟨t, e4⟩ := e4
  exact ⟨u, t, e6, e4⟩
end
end Mv

set_option Elab.async false
set_option linter.all false
set_option maxRecDepth 100000
set_option maxHeartbeats 4000000
namespace Mv
open PySem PySem.Spec PyProof.Rows L2
/-! ### enumerate(t), t a tuple -/
set_option maxHeartbeats 8000000 in
theorem enum_new1 {v : Value} {o : Obj} {Hh : Heap → Prop} (B : Begins v o Hh) :
    Meets (Builtin.«enumerate.__new__» ⟨[.type "enumerate", v], []⟩) (fun _ R s => Hh s.heap ∧
      R (.ok (.ret (.ref (s.heap.push o).objs.size))) { s with heap := (s.heap.push o).push { cls := .type "enumerate", data := .fields #[.none, .bool false, .ref s.heap.objs.size, rawInt 0, .none, .none] } }) :=
  .of_wp fun prog w A R s h => by
    obtain ⟨hp, g, d, tk, os⟩ := s
    obtain ⟨h1, h⟩ := h
    have hsub := sub_enumerate
    have q1 : ∀ {A' : Around} {E : Value → Shared → Prop} {Q : Value → Shared → Prop}, Q (.ref hp.objs.size) ⟨hp.push o, g, d, tk, os⟩ → wpAny (model prog w) A' (pyIter v) Q E ⟨hp, g, d, tk, os⟩ :=
      fun q => B.iter prog w _ _ ⟨hp, g, d, tk, os⟩ _ h1 q
    wp_walk using q1
    refine wpAny_stack_any fun st => wpAny_pure ?_
    split
    · rename_i c _ _ _ _ _
      cases (c == Value.type "enumerate") <;> (wp_walk using q1) <;> exact ⟨_, rfl, h⟩
    · wp_walk using q1
      exact ⟨_, rfl, h⟩
theorem enum_one {prog : Program} {w : World} {A : Around} {E : Value → Shared → Prop} {s : Shared} {v : Value} {o : Obj} {Hh : Heap → Prop} {Q : Value → Shared → Prop} (B : Begins v o Hh) (h1 : Hh s.heap)
    (h : ∀ h', IsEnum h' (s.heap.objs.size + 1) s.heap.objs.size 0 .none → h'.get? s.heap.objs.size = some o → h'.objs.size = s.heap.objs.size + 2 →
      (∀ b o, s.heap.get? b = some o → h'.get? b = some o) → Q (.ref (s.heap.objs.size + 1)) { s with heap := h' }) :
    wpAny (model prog w) A (call (.type "enumerate") [v]) Q E s := by
  refine callType_new F.called_enumerate (by decide) (F.typeCall_enumerate_1 _) (F.newCall_enumerate_1 _) (fun obj => F.args_object_init_2 obj _) F.entry_enumerate_new (enum_new1 B) ⟨h1, ?_⟩
  have hz : (s.heap.push o).objs.size = s.heap.objs.size + 1 := Heap.size_push ..
  show _ ∧ _
  rw [hz]
  have he := Heap.get?_push_size (s.heap.push o) (o := { cls := .type "enumerate", data := .fields #[.none, .bool false, .ref s.heap.objs.size, rawInt 0, .none, .none] }) rfl
  rw [hz] at he
  exact ⟨⟨_, he, rfl⟩, h _ he (Heap.get?_push_of_some _ (Heap.get?_push_size _ B.free)) (by rw [Heap.size_push, hz]) fun b u x => Heap.get?_push_of_some _ (Heap.get?_push_of_some _ x)⟩
/-- the tuple at a, each item in a new pair -/
def IteT (K : PySem.W.Frag) (a : Addr) : It where
  go := fun i H => ∃ (xs : List V) (x : V), SqT K H a xs ∧ xs[i]? = some x
  yld := fun i H v H' => ∃ T x, v = .ref T ∧ H T = none ∧ H' = upd H T (.tup [.int (i : Nat), x]) ∧ ∀ xs, SqT K H a xs → xs[i]? = some x
  stop := fun i H => ∃ xs : List V, SqT K H a xs ∧ xs.length = i
theorem turn_enumT {P : Program} {w : World} {K : PySem.W.Frag} {elts : List Expr} {kk : Nat} {tpos : Pos} {a e it : Addr} (hae : a ≠ e) (hai : a ≠ it) :
    Turn P w K (.Tuple elts kk tpos) (IteT K a) [e, it] e (fun i h => (∃ old, IsEnum h e it ((i : Nat) : Int) old) ∧ h.IsTupleIter it a i ∧ e ≠ it) where
  mem := List.mem_cons_self ..
  obj := fun i h st b hb => by
    obtain ⟨⟨old, he⟩, ⟨o, ho, hc, hd⟩, _⟩ := st
    rcases List.mem_cons.mp hb with z | z
    · rw [z]
      exact ⟨_, he, fun v q => nomatch q⟩
    · rw [List.mem_singleton.mp z]
      exact ⟨o, ho, fun v q => by rw [hd] at q; cases q⟩
  keep := fun i h h' st k => by
    obtain ⟨⟨old, he⟩, ⟨o, ho, hc, hd⟩, hne⟩ := st
    exact ⟨⟨old, k e (by simp) _ he⟩, ⟨o, k it (by simp) o ho, hc, hd⟩, hne⟩
  item := by
    intro X hP hw hK hc i pins s σ H E I hf st hg
    subst hP hw hK
    obtain ⟨⟨old, he⟩, hit, hne⟩ := st
    obtain ⟨xs, x, hq, hx⟩ := hg
    obtain ⟨its, rv, ⟨o, h1, h2, n, h3⟩, hz⟩ := I.tuple hq
    have p : s.heap.IsTuple a its.toArray := ⟨o, h1, h2, n, h3⟩
    obtain ⟨u, hu, ru⟩ := rv.get hx
    have hi : i < its.toArray.size := by
      rw [List.size_toArray]
      exact (List.getElem?_eq_some_iff.mp hu).1
    have hel : e < s.heap.objs.size := Heap.lt_size he
    have hil : it < s.heap.objs.size := by
      obtain ⟨_, q, _⟩ := hit
      exact Heap.lt_size q
    refine wpAny_pyNext_enum_itemD (Draws.tuple (by exact I.ok.hd hc) it a hai its.toArray) he ⟨hit, p⟩ hi hne (by simp [hne, Ne.symm hae]) fun x' h' tk px ho hs' hT hsz hk => ?_
    obtain rfl : u = x' := by
      rw [List.getElem?_toArray, hu] at px
      exact Option.some.inj px
    refine ⟨_, rfl, wpAny_letOwnedTupleGo_enum (s := { s with heap := h', toks := tk + 1 }) ho fun h'' he' sb => ?_⟩
    have hT2 : h''.get? s.heap.objs.size = some { cls := .type "tuple", data := .seq #[.int i tk, u] } := (sb.2 _ (Nat.ne_of_gt hel)).trans hT
    have new : ObjOk X.prog X.w (upd H s.heap.objs.size (.tup [.int (i : Nat), x])) h'' s.heap.objs.size (.tup [.int (i : Nat), x]) :=
      ⟨by show 2 ≤ sizeLine; decide, [.int i tk, u], .cons ⟨_, rfl⟩ (.cons ru .nil), ⟨_, hT2, rfl, _, rfl⟩⟩
    have I1 : Inv X pins σ (upd H s.heap.objs.size (.tup [.int (i : Nat), x])) { s with heap := h'', toks := tk + 1 } :=
      I.turnedNew (ch := [e, it]) (fun b ob hb q => (sb.2 b (fun z => hb (by simp [z]))).trans (hk b ob (fun z => hb (by simp [z])) (fun z => hb (by simp [z])) q)) hf (Nat.le_refl _) new
    refine ⟨.ref s.heap.objs.size, _, I1, rfl, ⟨_, x, rfl, I.hok.fresh (Nat.le_refl _), rfl, fun ys hy => by rw [I.tuple_inj hy hq]; exact hx⟩, ⟨⟨u, ?_⟩, hs'.1.at fun o q => (sb.2 it (Ne.symm hne)).trans q, hne⟩, fun b hb => ?_⟩
    · rw [show ((i + 1 : Nat) : Int) = (i : Int) + 1 from by omega]
      exact he'
    · have hb' : b < s.heap.objs.size := by
        rcases List.mem_cons.mp hb with z | z
        · rw [z]
          exact hel
        · rw [List.mem_singleton.mp z]
          exact hil
      rw [upd_ne (Nat.ne_of_lt hb')]
      exact (hf b hb).1
  done := by
    intro X hP hw hK hc i pins s σ H E I hf st hg
    subst hP hw hK
    obtain ⟨⟨old, he⟩, hit, hne⟩ := st
    obtain ⟨xs, hq, hx⟩ := hg
    obtain ⟨its, rv, ⟨o, h1, h2, n, h3⟩, hz⟩ := I.tuple hq
    have p : s.heap.IsTuple a its.toArray := ⟨o, h1, h2, n, h3⟩
    obtain ⟨f0, f1, f2, f3, f4, f5⟩ := hf it (by simp)
    have hl := rv.length
    have hz' : its.toArray.size = i := by
      rw [List.size_toArray, ← hl, hx]
    refine wpAny_pyNext_enum_endD (Draws.tuple (by exact I.ok.hd hc) it a hai its.toArray) he ⟨by rw [hz']; exact hit, p⟩ fun h' eb => ⟨rfl, I.turned (t' := s.toks) (fun b o hb q => eb b o hb q) f0 f1 f3 f4 f5⟩
  self := fun A i s Q E st h => let ⟨⟨_, he⟩, _⟩ := st; wpAny_pyIter_enum he h
def iEnumT (K : PySem.W.Frag) (ta : TA) : TI := fun σ H R => ta σ H fun vs H1 => ∃ a xs, vs = [.ref a] ∧ SqT K H1 a xs ∧ R (IteT K a) H1
theorem pi_enumT {X : Cx} {e : Expr} {ta : TA} {p pos tpos : Pos} {elts : List Expr} {kk : Nat} (hg : Gl X "enumerate") (hm : X.mg "enumerate" = none) (ha : PA X [e] ta) (hs : starEach [e] X.env = [(false, eval e X.env)] := by rfl) :
    PI X (.Tuple elts kk tpos) (.Call (.Name "enumerate" p) [e] [] pos) (iEnumT X.K ta) := by
  refine ⟨fun pins s σ H R I h => ?_⟩
  refine Call_ (ld_blt I hg hm boot_enumerate (PyProof.Rows.callWith_type1 (thn (ha.run pos pins s σ H _ I h) fun us s1 ⟨vs, H1, I1, r1, q1⟩ => ?_) hs rfl))
  obtain ⟨a, xs, rfl, hq, q⟩ := q1
  rw [Vals.ref1 r1]
  obtain ⟨its, rv, ⟨o, h1, h2, n, h3⟩, hz⟩ := I1.tuple hq
  have p' : s1.heap.IsTuple a its.toArray := ⟨o, h1, h2, n, h3⟩
  have hal : a < s1.heap.objs.size := Heap.lt_size h1
  refine enum_one (begins_tuple a its.toArray) p' fun h' he hit hsz hk => wpAny_pyIter_enum he ?_
  have I2 : Inv X pins σ H1 { s1 with heap := h' } := I1.kept (t' := s1.toks) hk
  refine ⟨s1.heap.objs.size + 1, [s1.heap.objs.size + 1, s1.heap.objs.size], _, _, H1, rfl, I2, turn_enumT (a := a) (e := s1.heap.objs.size + 1) (it := s1.heap.objs.size) (Nat.ne_of_lt (Nat.lt_succ_of_lt hal)) (Nat.ne_of_lt hal), ⟨⟨.none, he⟩, ⟨_, hit, rfl, rfl⟩, Nat.succ_ne_self _⟩, fun b hb => ?_, q⟩
  have hle : s1.heap.objs.size ≤ b := by
    rcases List.mem_cons.mp hb with z | z
    · rw [z]
      exact Nat.le_add_right _ _
    · rw [List.mem_singleton.mp z]
      exact Nat.le_refl _
  exact I1.fpOk hle (I1.hok.fresh hle)
theorem walk_enumT {K : PySem.W.Frag} {a : Addr} {xs : List V} : Walk (IteT K a) xs.length (fun H => SqT K H a xs) (YPair (fun i => some (.int (i : Nat))) (fun i => xs[i]?)) := by
  refine ⟨fun i _ hi q => ⟨xs, xs[i], q, List.getElem?_eq_getElem hi⟩, fun _ q => ⟨xs, q, rfl⟩, fun i H v H' _ q y => ?_⟩
  obtain ⟨T, x, h1, h2, h3, h4⟩ := y
  exact ⟨T, .int (i : Nat), x, h1, h2, h3, rfl, h4 xs q⟩
/-- a dict comprehension over it -/
theorem dc_it {J : It} {n : Nat} {G : Hp → Prop} {Y : Nat → Hp → V → Hp → Prop} (w : Walk J n G Y) {g : TG} {tt : TT} {tk tv : TE} {vs : List Nat} {σ : L2.St} {H1 : Hp} {D : Addr} {Q : VK} (Pv : Nat → Hp → Prop) (h0 : Pv 0 (upd H1 D (.dK []))) (hG : ∀ i H, i ≤ n → Pv i H → G H)
    (hs : ∀ i x H H', i < n → Pv i H → Y i H x H' → g x (wipe σ vs) H' fun σ2 H2 => wipe σ2 vs = wipe σ vs ∧ tt σ2 H2 fun b H3 =>
      if b = true then tk σ2 H3 fun y H4 => tv σ2 H4 fun z H5 => ∃ kvs k, y = kV k ∧ H5 D = some (.dK kvs) ∧ kvs.length < sizeLine ∧ Pv (i + 1) (upd H5 D (.dK (putK kvs k z))) else Pv (i + 1) H3) (hd : ∀ H, Pv n H → Q (.ref D) H) :
    ∃ W : Nat → Nat → Hp → Prop, (∃ m, W 0 m (upd H1 D (.dK []))) ∧ ∀ i m H, W i m H →
      (J.stop i H ∧ Q (.ref D) H) ∨ (J.go i H ∧ ∃ Nx : Hp → Prop, (∀ H', Nx H' → ∃ m', m' < m ∧ W (i + 1) m' H') ∧ ∀ x H', J.yld i H x H' → g x (wipe σ vs) H' fun σ2 H2 => wipe σ2 vs = wipe σ vs ∧ tt σ2 H2 fun b H3 =>
        if b = true then tk σ2 H3 fun y H4 => tv σ2 H4 fun z H5 => ∃ kvs k, y = kV k ∧ H5 D = some (.dK kvs) ∧ kvs.length < sizeLine ∧ Nx (upd H5 D (.dK (putK kvs k z))) else Nx H3) := by
  refine ⟨fun i m H => m = n - i ∧ i ≤ n ∧ Pv i H, ⟨n, by simp, Nat.zero_le _, h0⟩, ?_⟩
  rintro i m H ⟨rfl, hi, p⟩
  have q := hG i H hi p
  by_cases hlt : i < n
  · exact .inr ⟨w.goes i H hlt q, Pv (i + 1), fun H' p' => ⟨n - (i + 1), by omega, rfl, hlt, p'⟩, fun x H' y => hs i x H H' hlt p (w.yields i H x H' hlt q y)⟩
  · have e : i = n := by omega
    subst e
    exact .inl ⟨w.stops H q, hd H p⟩
end Mv

set_option Elab.async false
set_option linter.all false
set_option maxRecDepth 100000
set_option maxHeartbeats 4000000
namespace Mv
open PySem PySem.Spec PyProof.Rows L2
/-! ### sorted(range(n), key=lambda at: word[at]) -/
/-- the indexes of a word, by their values, equal ones ascending -/
def bagIx (xs : List Int) : List Nat := (List.range xs.length).mergeSort fun i j => decide (xs.getD i 0 ≤ xs.getD j 0)
theorem bagIx_perm (xs : List Int) : (bagIx xs).Perm (List.range xs.length) := List.mergeSort_perm _ _
theorem bagIx_len (xs : List Int) : (bagIx xs).length = xs.length := by rw [(bagIx_perm xs).length_eq, List.length_range]
theorem bagIx_lt {xs : List Int} {i : Nat} (h : i ∈ bagIx xs) : i < xs.length := List.mem_range.mp ((bagIx_perm xs).mem_iff.mp h)
theorem range_get (xs : List Int) : (List.range xs.length).map (fun i => xs.getD i 0) = xs := by
  apply List.ext_getElem?
  intro i
  rw [List.getElem?_map]
  by_cases h : i < xs.length
  · rw [List.getElem?_range h, List.getElem?_eq_getElem h]
    simp [List.getD_eq_getElem?_getD, List.getElem?_eq_getElem h]
  · rw [List.getElem?_eq_none (by rw [List.length_range]; omega), List.getElem?_eq_none (by omega)]
    rfl
theorem bagIx_vals (xs : List Int) : (bagIx xs).map (fun i => xs.getD i 0) = sortI xs := by
  refine sort_is ?_ ?_
  · have h := (bagIx_perm xs).map (fun i => xs.getD i 0)
    rw [range_get] at h
    exact h
  · rw [List.pairwise_map]
    have h := List.pairwise_mergeSort (le := fun i j => decide (xs.getD i 0 ≤ xs.getD j 0)) (by
      intro a b c h1 h2
      have h1 := of_decide_eq_true h1
      have h2 := of_decide_eq_true h2
      exact decide_eq_true (Int.le_trans h1 h2)) (by
      intro a b
      rcases Int.le_total (xs.getD a 0) (xs.getD b 0) with q | q
      · rw [decide_eq_true q]; rfl
      · rw [decide_eq_true q, Bool.or_true]) (List.range xs.length)
    exact h.imp fun {a b} q => of_decide_eq_true q
section
variable {prog : Program} {w : World} {A : Around} {s : Shared}
/-- lambda at: word[at], called -/
theorem lam_key {f c' c p : Addr} {q : Str} {params : Arguments} {scope : Scope} {cl : List (Str × Addr)} {pm ctv : Value} {p1 p2 p3 : Pos} {its : List Value} {i : Nat} {t u : Tok} {n : Int}
    (hroom : A.depth < recursionLimit) (nl : s.heap.NoLimit) (ho : s.heap.get? f = some (PySem.W.kla_obj "<lambda>" q params (.Subscript (.Name "word" p1) (.Name "at" p2) p3) scope cl pm c' ctv))
    (hcd : s.heap.CodeRec (.ref c') q) (hsc : scope.names = [(("at" : Str), NameKind.local), (("word" : Str), NameKind.free)]) (hk : scope.kind = .function) (hco : scope.isCoroutine = false) (hgen : scope.isGenerator = false)
    (hbind : ∀ v : Value, bindArgs (PySem.W.kla_fn "<lambda>" q params (.Subscript (.Name "word" p1) (.Name "at" p2) p3) scope cl pm (.ref c') ctv) ⟨[v], []⟩ = pure [(("at" : Str), v)])
    (hcl : cl.lookup ("word" : Str) = some c) (hcell : s.heap.IsCell c (some (.ref p))) (hseq : s.heap.IsTuple p its.toArray ∨ s.heap.IsList p its.toArray) (hz : its.length ≤ sizeLine) (hat : its[i]? = some (.int n u)) :
    wpAny (model prog w) A (call (.ref f) [.int (i : Nat) t]) (PySem.W.KeyPure (.int n) s) (fun _ _ => False) s := by
  have hi : i < its.length := (List.getElem?_eq_some_iff.mp hat).1
  have hz63 : its.length < 2 ^ 63 := by
    rw [sizeLine_eq] at hz
    omega
  refine wpAny_call (PySem.W.kla_callFunE hroom ho rfl hco hgen rfl hcd ?_)
  rw [hbind]
  refine wpAny_pure (wpAny_newFunctionEnv (by rw [hsc]; decide) (by rw [hsc]; intro y hy; rw [List.mem_singleton.mp hy]; rfl) (fun h₁ hns hsb => ⟨nl.fresh _ hsb, ?_⟩) hk)
  have kp : ∀ b o, s.heap.get? b = some o → h₁.get? b = some o := fun b o e => hsb.extBut b o (Nat.ne_of_lt (Heap.lt_size e)) (Heap.get?_push_of_some _ e)
  show codeAny _ _ (.expr _ (PySem.W.envX q scope s.heap.objs.size f (.ref c') cl)) _ _
  refine PySem.W.kla_codeExpr ?_
  obtain ⟨oc, hoc, hdc⟩ := hcell
  have kn1 : (PySem.W.envX q scope s.heap.objs.size f (.ref c') cl).kindOf "word" = some .free := by
    show scope.names.lookup _ = _
    rw [hsc]
    rfl
  have kn2 : (PySem.W.envX q scope s.heap.objs.size f (.ref c') cl).kindOf "at" = some .local := by
    show scope.names.lookup _ = _
    rw [hsc]
    rfl
  refine Subscript_ (wpAny_Name (wpAny_loadName_free hk kn1 hcl ⟨oc, kp _ _ hoc, hdc⟩ ?_) (by decide))
  refine wpAny_Name (wpAny_loadName_local (v := .int (i : Nat) t) hk kn2 hns rfl ?_) (by decide)
  have fin : PySem.W.KeyPure (.int n) s (.int n u) { s with heap := h₁, toks := s.toks + [(("at" : Str), Value.int (i : Nat) t)].length } := ⟨h₁, _, rfl, kp, .int n u⟩
  rcases hseq with ⟨o, h1, h2, m, h3⟩ | hl
  · refine subscriptTail_builtinR (x := .int n u) ⟨o, kp _ _ h1, h2⟩ slot_tuple_getitem.lookup (getItem_tuple (j := i) ⟨o, kp _ _ h1, h2, m, h3⟩ (by omega) (by omega) ?_ ?_ ⟨rfl, fin⟩)
    · rw [List.size_toArray]
      exact seqIndex_of (Int.natCast_nonneg _) (by omega)
    · rw [List.getElem?_toArray]
      exact hat
  · exact item_listR (x := .int n u) (hl.at fun o e => kp _ _ e) (Int.natCast_nonneg _) (by omega) (by rw [Int.toNat_natCast, List.getElem?_toArray]; exact hat) fin
end
theorem each_vals {out : List Value} {is : List Nat} (e : PySem.W.EachIs (fun v (i : Nat) => ∃ t, v = .int (i : Nat) t) out is) : Vals (is.map fun i => V.int (i : Nat)) out := by
  induction e with
  | nil => exact .nil
  | cons h _ ih =>
    obtain ⟨t, rfl⟩ := h
    exact .cons ⟨t, rfl⟩ ih
section
variable {X : Cx} {pins : List (Addr × Obj)} {σ : L2.St} {H : Hp} {s : Shared} {Q : VK}
/-- sorted(v, key=f), v collected as the ints vs, f a pure key -/
theorem sorted_key_from (I : Inv X pins σ H s) {v : Value} {f : Addr} {n : Nat} {key : Nat → Int} (hz : n ≤ sizeLine) (hu : X.A.units + 2 < cLine)
    (hc : ∀ R : List Value → Shared → Prop, (∀ (h' : Heap) (tk : Nat) (acc : List Value), (∀ b o, s.heap.get? b = some o → h'.get? b = some o) → PySem.W.EachIs (fun v (i : Nat) => ∃ t, v = .int (i : Nat) t) acc (List.range n) → R acc { s with heap := h', toks := tk }) → wpAny (model X.prog X.w) X.A.in1 (collect v) R X.xe s)
    (turn : ∀ (i : Nat) (t : Tok) (h : Heap) (tk : Nat), i < n → (∀ b o, s.heap.get? b = some o → h.get? b = some o) → wpAny (model X.prog X.w) X.A.in1.in1 (call (.ref f) [.int (i : Nat) t]) (PySem.W.KeyPure (.int (key i)) { s with heap := h, toks := tk }) (fun _ _ => False) { s with heap := h, toks := tk })
    (q : ∀ p : Addr, H p = none → Q (.ref p) (upd H p (.lst (((List.range n).mergeSort fun i j => decide (key i ≤ key j)).map fun i => V.int (i : Nat))))) :
    wpAny (model X.prog X.w) X.A (call (.builtin "sorted") [v] [(Str.ofString "key", .ref f)]) (EP X pins σ Q) X.xe s := by
  refine call_function_entry_kw kind_sorted plain_sorted entry_sorted (ksk_s1 _ _) ?_
  unfold Builtin.«sorted»
  refine wpAny_bind (m := checkCount "sorted" 1 1 _) (wpAny_pure (wpAny_bind (hc _ fun h' tk acc hk hi => ?_)))
  have I1 : Inv X pins σ H { s with heap := h', toks := tk } := I.kept hk
  have hl : acc.length = n := by rw [hi.length, List.length_range]
  refine wpAny_bind (wpAny_newList ?_ (by rw [hl]; exact hz))
  have hoL : (h'.push (seqObj "list" acc.toArray 0)).get? h'.objs.size = some (seqObj "list" acc.toArray 0) := Heap.get?_push_size _ rfl
  show wpAny _ _ _ _ _ { s with heap := h'.push (seqObj "list" acc.toArray 0), toks := tk }
  refine wpAny_bind (wpAny_holding (wpAny_call_entry_kw slot_list_sort ⟨_, hoL, rfl⟩ entry_list_sort ?_ (ksk_l1 _ _)))
  rw [ksk_t1]
  have up : ∀ {g : Heap}, PySem.W.KeepsBut h'.objs.size (h'.push (seqObj "list" acc.toArray 0)) g → ∀ b o, h'.get? b = some o → g.get? b = some o := fun {g} kp b o e =>
    kp b o (Nat.ne_of_lt (Heap.lt_size e)) (Heap.get?_push_of_some _ e)
  refine PySem.W.keyH_tree (b := false) (kz := (List.range n).map fun i => PyData.int (key i)) (s := { s with heap := h'.push (seqObj "list" acc.toArray 0), toks := tk }) hoL
    (by rw [List.length_map, List.length_range, hl]) (by rw [hl]; exact hz) (PySem.W.AllAlike.of fun _ _ => by simp [PySem.W.alike]) ?_ (PySem.W.bound_map (A := X.A.in1.in1) (bs := List.range n) (enc := fun i => PyData.int (key i)) fun _ _ => ?_)
    (PySem.W.keyH_turns (s := { s with heap := h'.push (seqObj "list" acc.toArray 0), toks := tk }) hi fun v i hv hin h tk2 kp => ?_) fun h3 tk3 out c kp hD ko => ?_
  · exact PySem.W.Sortable.others fun i => ⟨by simp, by simp⟩
  · show X.A.units + 2 + 0 < _
    omega
  · obtain ⟨t, rfl⟩ := hv
    exact turn i t h tk2 (List.mem_range.mp hin) fun b o e => up kp b o (hk b o e)
  · have eo := PySem.W.keyedOut_each (fun i : Nat => PyData.int (key i)) ko hi
    rw [PySem.W.dataLe_int] at eo
    refine ⟨_, rfl, wpAny_pure ⟨_, rfl, .ref h'.objs.size, upd H h'.objs.size (.lst (((List.range n).mergeSort fun i j => decide (key i ≤ key j)).map fun i => V.int (i : Nat))), I1.laid (t' := tk3) (h' := h3) (up kp) (Nat.le_refl _)
      (show ObjOk X.prog X.w _ _ _ (.lst _) from ⟨?_, out, c, ?_, hD⟩), rfl, q _ (I1.hok.fresh (Nat.le_refl _))⟩⟩
    · rw [List.length_map, List.length_mergeSort, List.length_range]
      exact hz
    · exact each_vals eo
end
end Mv

set_option Elab.async false
set_option linter.all false
set_option maxRecDepth 100000
set_option maxHeartbeats 4000000
namespace Mv
open PySem PySem.Spec PyProof.Rows L2
def tSortAt (K : PySem.W.Frag) (T : List (Addr × Str)) (i : Nat) (ta : TE) : TE := fun σ H Q => ta σ H fun x H1 => ∃ (p : Addr) (xs : List Int), σ[i]? = some (some (.ref p)) ∧ x = .int (xs.length : Int) ∧ (SqT K H1 p (xs.map V.int) ∨ SqL K H1 p (xs.map V.int)) ∧ xs.length ≤ 4000 ∧ LamX.Tabs T H1 ∧
  ∀ H2 l, LamX.ExtN H1 H2 → LamX.Tabs T H2 → H2 l = none → Q (.ref l) (upd H2 l (.lst ((bagIx xs).map fun i => V.int (i : Nat))))
theorem sq_extN {K : PySem.W.Frag} {H H1 : Hp} {p : Addr} {xs : List V} (e : LamX.ExtN H H1) (h : SqT K H p xs ∨ SqL K H p xs) : SqT K H1 p xs ∨ SqL K H1 p xs := by
  rcases h with ((h | ⟨o, h⟩) | h) | ((h | ⟨o, h⟩) | h)
  · exact .inl (.inl (.inl (e _ _ h (fun ps z => by cases z))))
  · exact .inl (.inl (.inr ⟨o, e _ _ h (fun ps z => by cases z)⟩))
  · exact .inl (.inr h)
  · exact .inr (.inl (.inl (e _ _ h (fun ps z => by cases z))))
  · exact .inr (.inl (.inr ⟨o, e _ _ h (fun ps z => by cases z)⟩))
  · exact .inr (.inr h)
/-- sorted(range(a), key=lambda at: word[at]) -/
theorem pe_sortAt {X : Cx} {k : Nat} {T : List (Addr × Str)} {c P : Addr} {params : Arguments} {scope : Scope} {i : Nat} {a : Expr} {ta : TE} {p p2 pos pos2 p3 p4 p5 lpos kpos : Pos}
    (hc : X.calm = true) (hr : Room k X.A) (hg : Gl X "sorted") (hm : X.mg "sorted" = none) (hg2 : Gl X "range") (hm2 : X.mg "range" = none) (ha : PE X a ta)
    (TB : LamX.TabB X.base X.mg c P) (hcode : X.env.code = .ref c) (hmT : (P, X.env.qual ++ "<lambda>") ∈ T) (hu : ∀ p ∈ T, p.1 = P → p.2 = X.env.qual ++ "<lambda>") (hN : X.N[i]? = some "word") (hv : X.env.kindOf "word" = some .cell)
    (hdef : defaultsOf params X.env = ([], [])) (hsc : scope.names = [(("at" : Str), NameKind.local), (("word" : Str), NameKind.free)]) (hk : scope.kind = .function) (hco : scope.isCoroutine = false) (hgen : scope.isGenerator = false)
    (hbind : ∀ (q : Str) (cl : List (Str × Addr)) (pm cv ctv v : Value), bindArgs (PySem.W.kla_fn "<lambda>" q params (.Subscript (.Name "word" p3) (.Name "at" p4) p5) scope cl pm cv ctv) ⟨[v], []⟩ = pure [(("at" : Str), v)])
    (na : starEach [a] X.env = (false, eval a X.env) :: starEach [] X.env := by rfl)
    (ne : starEach [.Call (.Name "range" p2) [a] [] pos2] X.env = (false, eval (.Call (.Name "range" p2) [a] [] pos2) X.env) :: starEach [] X.env := by rfl) :
    PE X (.Call (.Name "sorted" p) [.Call (.Name "range" p2) [a] [] pos2] [⟨some "key", .Lambda params (.Subscript (.Name "word" p3) (.Name "at" p4) p5) scope lpos, kpos⟩] pos) (tSortAt X.K T i ta) := by
  refine ⟨fun pins s σ H Q I h => ?_⟩
  refine wpAny_Call_Name_kw (ld_blt I hg hm boot_sorted ?_)
  refine PyProof.Rows.callWith_kw (args_cons (Call_ (ld_blt I hg2 hm2 boot_range (PyProof.Rows.callWith_type1 (one_arg ha I h (fun v s2 x H2 I2 rx q => ?_) na) na))) ne) (by rw [ne]; rfl) (by rw [ne]; rfl) (by rfl) (by rfl)
  obtain ⟨w1, xs, hσ, rfl, hsq, hlen, hT, q⟩ := q
  obtain ⟨t, rfl⟩ := rx
  refine call_range_1 (args_nil ?_)
  generalize ht0 : s2.toks = t0
  generalize hro : ({ cls := .type "range", data := .fields #[.int 0 t0, .int (xs.length : Int) t, .int 1 (t0 + 1)] } : Obj) = ro
  generalize hs3 : ({ s2 with heap := s2.heap.push ro, toks := t0 + 1 + 1 } : Shared) = s3
  have I3 : Inv X pins σ H2 s3 := by
    rw [← hs3]
    exact I2.kept fun b u e => Heap.get?_push_of_some _ e
  have h3r : s3.heap.get? s2.heap.objs.size = some ro := by
    rw [← hs3]
    exact Heap.get?_push_size _ (by rw [← hro]; rfl)
  have hro' : IsRange s3.heap s2.heap.objs.size 0 (xs.length : Int) 1 t0 t (t0 + 1) := by
    rw [← hro] at h3r
    exact h3r
  have I4 : Inv X ((s2.heap.objs.size, ro) :: pins) σ H2 s3 := I3.pins_of fun p hp => by
    rcases List.mem_cons.mp hp with rfl | hp
    · exact ⟨h3r, I2.hok.fresh (Nat.le_refl _), Nat.ne_of_gt I2.lt, I2.nofs (Nat.le_refl _), fun v z => by rw [← hro] at z; cases z⟩
    · exact I3.pin p (List.mem_append_right _ hp)
  clear hs3
  generalize s2.heap.objs.size = r at *
  obtain ⟨c0, hc0⟩ := I.ok.has _ (.inl hv)
  have hfree : ∀ y ∈ scope.names, y.2 = .free → ∃ c, X.env.cells.lookup y.1 = some c := fun y hy e => by
    rw [hsc] at hy
    rcases List.mem_cons.mp hy with rfl | hy
    · cases e
    · rw [List.mem_singleton.mp hy]
      exact ⟨c0, hc0⟩
  show wpAny _ _ (evalAll ((do let v ← eval (.Lambda params (.Subscript (.Name "word" p3) (.Name "at" p4) p5) scope lpos) X.env; standAt pos; pure v) :: [])) _ _ _
  refine wpAny_evalAll_cons (wpAny_bind (LamX.lam_make2 I4 TB hcode hmT hu hT hdef hfree fun f c' pm ctv H3 s4 I5 eN T1 hf hfn hfr hcd => wpAny_bind (wpAny_standAt (wpAny_pure (wpAny_evalAll_nil ?_)))))
  show wpAny _ _ (call (.builtin "sorted") [.ref r] [(Str.ofString "key", .ref f)]) _ _ _
  have hr4 : IsRange s4.heap r 0 (xs.length : Int) 1 t0 t (t0 + 1) := by
    have h4 := (I5.pin (r, ro) (List.mem_append_right _ (List.mem_cons_self ..))).1
    rw [← hro] at h4
    exact h4
  have hsq3 := sq_extN eN hsq
  have hun := hr.units0
  have hzl : xs.length ≤ sizeLine := small4000' hlen
  have eRs : Builtin.Range.rangeSize 0 (xs.length : Int) 1 = ((xs.length : Nat) : Int).toNat := by
    have := rangeSize_nat 0 (xs.length : Int)
    rw [Int.sub_zero] at this
    exact this
  obtain ⟨oc, vs, tq, hoc, hdc, hvc⟩ := (I5.hok c' _ hcd).1
  -- the word as the machine has it
  obtain ⟨its, rv, hseq⟩ : ∃ its : List Value, Vals (xs.map V.int) its ∧ (s4.heap.IsTuple w1 its.toArray ∨ s4.heap.IsList w1 its.toArray) := by
    rcases hsq3 with z | z
    · obtain ⟨its, rv, ⟨o, h1, h2, n, h3⟩, _⟩ := I5.tuple z
      exact ⟨its, rv, .inl ⟨o, h1, h2, n, h3⟩⟩
    · obtain ⟨its, rv, pl, _⟩ := I5.list z
      exact ⟨its, rv, .inr pl.isList⟩
  have hil : its.length = xs.length := by
    rw [← rv.length, List.length_map]
  obtain ⟨m, hns, hl⟩ := I5.loc
  have hcell : s4.heap.IsCell c0 (some (.ref w1)) := by
    obtain ⟨u, ru, lk⟩ := hl i "word" (.ref w1) hN hσ (.inr (.inl hv))
    obtain rfl : u = Value.ref w1 := ru
    rcases lk with ⟨z, _⟩ | ⟨_, c2, e2, hc2⟩
    · rw [hv] at z
      cases z
    · rw [hc0] at e2
      cases e2
      exact hc2
  refine wpAny_mono (sorted_key_from (n := xs.length) (key := fun i => xs.getD i 0) (Q := Q) I5 hzl (by have := hr.units; omega) (fun R kR => ?_) (fun j tj hp tk hj kp => ?_) (fun l hl2 => q H3 l eN T1 hl2)) (fun v s5 hv5 => ?_) fun _ _ z => z
  · refine collect_range (n := xs.length) (by exact I5.ok.hd hc) hr4 (small_one (by omega) (by omega) (by omega) (by omega)) (by rw [eRs, Int.toNat_natCast]) (by omega) fun h' tk acc k1 k2 => kR h' tk acc.toList k1 ?_
    refine PySem.W.EachIs.of_zip (by rw [Array.length_toList, k2.1, List.length_range]) fun pr hpr => ?_
    obtain ⟨j, hj⟩ := List.getElem?_of_mem hpr
    obtain ⟨e1, e2⟩ := List.getElem?_zip_eq_some.mp hj
    rw [Array.getElem?_toList] at e1
    obtain ⟨tt, e3⟩ := k2.2 j _ e1
    have hj2 : j < xs.length := by
      have := (List.getElem?_eq_some_iff.mp e2).1
      rw [List.length_range] at this
      exact this
    rw [List.getElem?_range hj2] at e2
    refine ⟨tt, ?_⟩
    rw [e3, ← Option.some.inj e2, Int.zero_add, Int.mul_one]
  · have e1 : (xs.map V.int)[j]? = some (.int (xs.getD j 0)) := by
      rw [List.getElem?_map, List.getElem?_eq_getElem hj, List.getD_eq_getElem?_getD, List.getElem?_eq_getElem hj]
      rfl
    obtain ⟨u, hu1, ⟨tu, rfl⟩⟩ := rv.get e1
    refine lam_key (s := { s4 with heap := hp, toks := tk }) (A := X.A.in1.in1) hr.depth (I5.nolimit.keeps kp) (kp _ _ hf) ⟨c', oc, vs, tq, rfl, kp _ _ hoc, hdc, hvc⟩ hsc hk hco hgen (hbind _ _ _ _ _) (c := c0) ?_ ?_ (p := w1) (its := its) ?_ (by rw [hil]; exact hzl) hu1
    · rw [hsc]
      show (cloFrom X.env.cells [(("word" : Str), NameKind.free)] []).lookup _ = _
      show List.lookup _ [(("word" : Str), (X.env.cells.lookup ("word" : Str)).getD 0)] = _
      rw [hc0]
      rfl
    · obtain ⟨o1, h1, h2⟩ := hcell
      exact ⟨o1, kp _ _ h1, h2⟩
    · rcases hseq with ⟨o, h1, h2, n, h3⟩ | z
      · exact .inl ⟨o, kp _ _ h1, h2, n, h3⟩
      · exact .inr (z.at fun o e => kp _ _ e)
  · obtain ⟨v2, H5, J, rv5, q5⟩ := hv5
    exact ⟨v2, H5, J.pins_of fun p hp => J.pin p (List.mem_append_right _ (List.mem_cons_of_mem _ hp)), rv5, q5⟩
end Mv

set_option Elab.async false
set_option linter.all false
set_option maxRecDepth 100000
set_option maxHeartbeats 1000000
namespace Mv
open PySem PySem.Spec PyProof.Rows L2
/-! ### the kept indexes -/
theorem getD_at {xs : List Int} {i : Nat} (h : i < xs.length) : xs.getD i 0 = xs[i] := by
  rw [List.getD_eq_getElem?_getD, List.getElem?_eq_getElem h]
  rfl
theorem idx_get {xs : List Int} {x : Int} (h : x ∈ xs) : xs.getD (xs.idxOf x) 0 = x := by
  rw [getD_at (List.idxOf_lt_length_iff.mpr h)]
  exact List.getElem_idxOf _
theorem get_ixs {xs ys : List Int} (h : ∀ y ∈ ys, y ∈ xs) : (ys.map xs.idxOf).map (fun i => xs.getD i 0) = ys := by
  rw [List.map_map]
  conv => rhs; rw [← List.map_id ys]
  exact List.map_congr_left fun y hy => idx_get (h y hy)
theorem idx_app {xs : List Int} {x y : Int} (h : y ∈ xs) : (xs ++ [x]).idxOf y = xs.idxOf y := by
  rw [List.idxOf_append, if_pos h]
theorem idx_new {xs : List Int} {x : Int} (h : x ∉ xs) : (xs ++ [x]).idxOf x = xs.length := by
  rw [List.idxOf_append, if_neg h]
  simp
theorem ixs_asc (xs : List Int) : ((headsI xs).map xs.idxOf).Pairwise (· < ·) := by
  induction xs using snoc_ind with
  | h0 => exact .nil
  | hs xs x ih =>
    have e : (headsI xs).map (xs ++ [x]).idxOf = (headsI xs).map xs.idxOf := List.map_congr_left fun y hy => idx_app ((mem_headsI xs).mp hy)
    rw [headsI_snoc]
    unfold addI
    split
    · rw [e]
      exact ih
    · rename_i hx
      rw [List.map_append, e, List.map_singleton, idx_new (fun z => hx ((mem_headsI xs).mpr z))]
      refine List.pairwise_append.mpr ⟨ih, List.pairwise_singleton _ _, fun a ha b hb => ?_⟩
      rw [List.mem_singleton.mp hb]
      obtain ⟨y, hy, rfl⟩ := List.mem_map.mp ha
      exact List.idxOf_lt_length_iff.mpr ((mem_headsI xs).mp hy)
/-- where x stands last -/
def lastIx (xs : List Int) (x : Int) : Nat := xs.length - 1 - xs.reverse.idxOf x
theorem lastIx_snoc (xs : List Int) (x y : Int) (h : y = x ∨ y ∈ xs) : lastIx (xs ++ [x]) y = if y = x then xs.length else lastIx xs y := by
  unfold lastIx
  rw [List.reverse_append, List.length_append, List.length_singleton]
  show xs.length + 1 - 1 - List.idxOf y (x :: xs.reverse) = _
  rw [List.idxOf_cons]
  by_cases e : y = x
  · subst e
    simp
  · rw [if_neg e]
    have hb : (x == y) = false := beq_eq_false_iff_ne.mpr (Ne.symm e)
    rw [hb]
    show xs.length + 1 - 1 - (List.idxOf y xs.reverse + 1) = _
    omega
theorem lastIx_lt {xs : List Int} {x : Int} (h : x ∈ xs) : lastIx xs x < xs.length := by
  have := List.length_pos_of_mem h
  unfold lastIx
  omega
theorem lastIx_get {xs : List Int} {x : Int} (h : x ∈ xs) : xs.getD (lastIx xs x) 0 = x := by
  have h1 : xs.reverse.idxOf x < xs.reverse.length := List.idxOf_lt_length_iff.mpr (List.mem_reverse.mpr h)
  have h2 := lastIx_lt h
  rw [getD_at h2]
  have e := List.getElem_idxOf h1
  rw [List.getElem_reverse] at e
  exact e
/-- the tails' indexes -/
def tailIx (xs : List Int) : List Nat := ((headsI xs.reverse).map (lastIx xs)).reverse
theorem tailIx_asc (xs : List Int) : (tailIx xs).Pairwise (· < ·) := by
  unfold tailIx
  rw [List.pairwise_reverse, List.pairwise_map]
  have h := ixs_asc xs.reverse
  rw [List.pairwise_map] at h
  refine List.Pairwise.imp_of_mem (fun {a b} ha hb hab => ?_) h
  have h1 : xs.reverse.idxOf b < xs.length := by
    have := List.idxOf_lt_length_iff.mpr ((mem_headsI xs.reverse).mp hb)
    rw [List.length_reverse] at this
    exact this
  unfold lastIx
  omega
theorem tailIx_vals (xs : List Int) : (tailIx xs).map (fun i => xs.getD i 0) = tailsI xs := by
  unfold tailIx tailsI
  rw [List.map_reverse, List.map_map]
  congr 1
  conv => rhs; rw [← List.map_id (headsI xs.reverse)]
  exact List.map_congr_left fun y hy => lastIx_get (List.mem_reverse.mp ((mem_headsI _).mp hy))
theorem intsOf_asc {is : List Nat} (h : is.Pairwise (· < ·)) : (is.map fun i : Nat => (i : Int)).Pairwise (· ≤ ·) := by
  rw [List.pairwise_map]
  exact h.imp fun {a b} q => by omega
theorem sort_ixs (xs : List Int) : sortI ((headsI xs).map fun x => ((xs.idxOf x : Nat) : Int)) = ((headsI xs).map xs.idxOf).map fun i : Nat => (i : Int) := by
  refine (sort_is ?_ (intsOf_asc (ixs_asc xs))).symm
  rw [List.map_map]
  exact List.Perm.refl _
theorem sort_last (xs : List Int) : sortI ((headsI xs).map fun x => ((lastIx xs x : Nat) : Int)) = (tailIx xs).map fun i : Nat => (i : Int) := by
  refine (sort_is ?_ (intsOf_asc (tailIx_asc xs))).symm
  unfold tailIx
  rw [List.map_reverse, List.map_map]
  refine (List.reverse_perm _).trans ?_
  refine List.Perm.map _ (perm_of_mem (nodup_headsI _) (nodup_headsI _) fun x => ?_)
  rw [mem_headsI, mem_headsI, List.mem_reverse]
/-- what keep gives -/
def keepIx (k : Kd) (xs : List Int) : List Nat :=
  match k with
  | .list => List.range xs.length
  | .bag => bagIx xs
  | .set => (sortI (headsI xs)).map xs.idxOf
  | .first => if xs.length = 0 then [] else [0]
  | .last => if xs.length = 0 then [] else [xs.length - 1]
  | .ends => if xs.length = 0 then [] else [0, xs.length - 1]
  | .heads => (headsI xs).map xs.idxOf
  | .tails => tailIx xs
theorem keep_vals (k : Kd) (xs : List Int) : (keepIx k xs).map (fun i => xs.getD i 0) = plainI k xs := by
  have hlast : xs.length ≠ 0 → xs.drop (xs.length - 1) = [xs.getD (xs.length - 1) 0] := fun h => by
    rw [getD_at (by omega), List.drop_eq_getElem_cons (by omega), show xs.length - 1 + 1 = xs.length from by omega, List.drop_length]
  have hfst : xs.length ≠ 0 → xs.take 1 = [xs.getD 0 0] := fun h => by
    cases xs with
    | nil => exact absurd rfl h
    | cons x r => rfl
  have hnil : xs.length = 0 → xs = [] := List.length_eq_zero_iff.mp
  cases k with
  | list => exact range_get xs
  | bag => exact bagIx_vals xs
  | set => exact get_ixs fun y hy => (mem_headsI xs).mp (mem_sort.mp hy)
  | heads => exact get_ixs fun y hy => (mem_headsI xs).mp hy
  | tails => exact tailIx_vals xs
  | first =>
    show (if xs.length = 0 then [] else [0]).map _ = firstI xs
    split
    · rename_i h
      rw [hnil h]
      rfl
    · rename_i h
      exact (hfst h).symm
  | last =>
    show (if xs.length = 0 then [] else [xs.length - 1]).map _ = lastI xs
    split
    · rename_i h
      rw [hnil h]
      rfl
    · rename_i h
      exact (hlast h).symm
  | ends =>
    show (if xs.length = 0 then [] else [0, xs.length - 1]).map _ = endsI xs
    split
    · rename_i h
      rw [hnil h]
      rfl
    · rename_i h
      unfold endsI
      rw [hfst h, hlast h]
      rfl
theorem keep_lt {k : Kd} {xs : List Int} {i : Nat} (h : i ∈ keepIx k xs) : i < xs.length := by
  cases k with
  | list => exact List.mem_range.mp h
  | bag => exact bagIx_lt h
  | set =>
    obtain ⟨y, hy, rfl⟩ := List.mem_map.mp h
    exact List.idxOf_lt_length_iff.mpr ((mem_headsI xs).mp (mem_sort.mp hy))
  | heads =>
    obtain ⟨y, hy, rfl⟩ := List.mem_map.mp h
    exact List.idxOf_lt_length_iff.mpr ((mem_headsI xs).mp hy)
  | tails =>
    obtain ⟨y, hy, rfl⟩ := List.mem_map.mp (List.mem_reverse.mp h)
    exact lastIx_lt (List.mem_reverse.mp ((mem_headsI _).mp hy))
  | first =>
    revert h
    show i ∈ (if xs.length = 0 then [] else [0]) → _
    split
    · exact fun h => by cases h
    · intro h
      rw [List.mem_singleton.mp h]
      omega
  | last =>
    revert h
    show i ∈ (if xs.length = 0 then [] else [xs.length - 1]) → _
    split
    · exact fun h => by cases h
    · intro h
      rw [List.mem_singleton.mp h]
      omega
  | ends =>
    revert h
    show i ∈ (if xs.length = 0 then [] else [0, xs.length - 1]) → _
    split
    · exact fun h => by cases h
    · intro h
      rcases List.mem_cons.mp h with h | h
      · omega
      · rw [List.mem_singleton.mp h]
        omega
theorem keep_len {k : Kd} {xs : List Int} : (keepIx k xs).length = (plainI k xs).length := by rw [← keep_vals, List.length_map]
/-! ### the dicts by the values -/
def leastD (xs : List Int) (i : Nat) : List (Key × V) := (headsI (xs.take i)).map fun x => (Sum.inl x, V.int ((xs.idxOf x : Nat) : Int))
def greatD (xs : List Int) (i : Nat) : List (Key × V) := (headsI (xs.take i)).map fun x => (Sum.inl x, V.int ((lastIx (xs.take i) x : Nat) : Int))
theorem val_map (g : Int → V) (y : Int) : ∀ ys : List Int, valV (ys.map fun x => ((Sum.inl x : Key), g x)) (.inl y) = if y ∈ ys then some (g y) else none
  | [] => rfl
  | x :: ys => by
    rw [List.map_cons]
    by_cases e : x = y
    · subst e
      rw [valV_pos rfl, if_pos (List.mem_cons_self ..)]
    · rw [valV_neg (fun z => e (Sum.inl.inj z)), val_map g y ys]
      by_cases h : y ∈ ys
      · rw [if_pos h, if_pos (List.mem_cons_of_mem _ h)]
      · rw [if_neg h, if_neg]
        intro z
        rcases List.mem_cons.mp z with z | z
        · exact e z.symm
        · exact h z
theorem take_succ_at {xs : List Int} {i : Nat} {x : Int} (h : xs[i]? = some x) : xs.take (i + 1) = xs.take i ++ [x] := by
  rw [List.take_add_one, h]
  rfl
theorem least_hit {xs : List Int} {i : Nat} {x : Int} (h : xs[i]? = some x) (hx : x ∈ xs.take i) : leastD xs (i + 1) = leastD xs i := by
  unfold leastD
  rw [take_succ_at h, headsI_snoc]
  unfold addI
  rw [if_pos ((mem_headsI _).mpr hx)]
theorem least_new {xs : List Int} {i : Nat} {x : Int} (h : xs[i]? = some x) (hx : x ∉ xs.take i) : leastD xs (i + 1) = putK (leastD xs i) (.inl x) (.int (i : Nat)) := by
  have hv : valV (leastD xs i) (.inl x) = none := by
    unfold leastD
    rw [val_map, if_neg fun z => hx ((mem_headsI _).mp z)]
  rw [putK_new _ hv]
  unfold leastD
  rw [take_succ_at h, headsI_snoc]
  unfold addI
  rw [if_neg fun z => hx ((mem_headsI _).mp z), List.map_append, List.map_singleton]
  have hi : i < xs.length := (List.getElem?_eq_some_iff.mp h).1
  have e : xs.idxOf x = i := by
    have e1 : xs = xs.take i ++ xs.drop i := (List.take_append_drop i xs).symm
    have e2 : xs.drop i = x :: xs.drop (i + 1) := by
      rw [List.drop_eq_getElem_cons hi, (List.getElem?_eq_some_iff.mp h).2]
    rw [e1, List.idxOf_append, if_neg hx, e2, List.idxOf_cons_self, List.length_take, Nat.zero_add]
    omega
  rw [e]
theorem great_put {xs : List Int} {i : Nat} {x : Int} (h : xs[i]? = some x) : greatD xs (i + 1) = putK (greatD xs i) (.inl x) (.int (i : Nat)) := by
  have hi : i < xs.length := (List.getElem?_eq_some_iff.mp h).1
  have hl : (xs.take i).length = i := by
    rw [List.length_take]
    omega
  have hL : ∀ y, y = x ∨ y ∈ xs.take i → lastIx (xs.take (i + 1)) y = if y = x then i else lastIx (xs.take i) y := fun y hy => by
    rw [take_succ_at h, lastIx_snoc _ _ _ hy, hl]
  have hm := fun y => mem_headsI (y := y) (xs.take i)
  by_cases hx : x ∈ xs.take i
  · unfold greatD
    rw [show headsI (xs.take (i + 1)) = headsI (xs.take i) from by
      rw [take_succ_at h, headsI_snoc]
      unfold addI
      rw [if_pos ((hm x).mpr hx)]]
    unfold putK
    rw [if_pos, List.map_map]
    · refine List.map_congr_left fun y hy => ?_
      rw [hL y (.inr ((hm y).mp hy))]
      show _ = if (Sum.inl y : Key) = Sum.inl x then _ else _
      by_cases e : y = x
      · subst e
        rw [if_pos rfl, if_pos rfl]
      · rw [if_neg e, if_neg fun z => e (Sum.inl.inj z)]
    · rw [valV_any, val_map, if_pos ((hm x).mpr hx)]
      rfl
  · have hv : valV (greatD xs i) (.inl x) = none := by
      unfold greatD
      rw [val_map, if_neg fun z => hx ((hm x).mp z)]
    rw [putK_new _ hv]
    unfold greatD
    rw [show headsI (xs.take (i + 1)) = headsI (xs.take i) ++ [x] from by
      rw [take_succ_at h, headsI_snoc]
      unfold addI
      rw [if_neg fun z => hx ((hm x).mp z)], List.map_append, List.map_singleton, hL x (.inl rfl), if_pos rfl]
    congr 1
    refine List.map_congr_left fun y hy => ?_
    have hy := (hm y).mp hy
    rw [hL y (.inr hy), if_neg fun z : y = x => hx (z ▸ hy)]
theorem leastD_len (xs : List Int) (i : Nat) : (leastD xs i).length ≤ i := by
  unfold leastD
  rw [List.length_map]
  refine Nat.le_trans (headsI_len _) ?_
  rw [List.length_take]
  omega
theorem greatD_len (xs : List Int) (i : Nat) : (greatD xs i).length ≤ i := by
  unfold greatD
  rw [List.length_map]
  refine Nat.le_trans (headsI_len _) ?_
  rw [List.length_take]
  omega
end Mv

set_option Elab.async false
set_option linter.all false
set_option maxRecDepth 100000
set_option maxHeartbeats 1000000
namespace Mv
open PySem
/-! ### pairs of a value and its index, sorted -/
abbrev lexP (p q : Int × Int) : Bool := decide (p.1 < q.1 ∨ (p.1 = q.1 ∧ p.2 ≤ q.2))
abbrev vk (xs : List Int) (i : Nat) : Int × Int := (xs.getD i 0, (i : Int))
theorem bag_lex (xs : List Int) : (((List.range xs.length).map (vk xs)).mergeSort lexP).map Prod.snd = (bagIx xs).map fun i : Nat => (i : Int) := by
  have e1 : ((List.range xs.length).map (vk xs)).mergeSort lexP = ((List.range xs.length).mergeSort fun i j => lexP (vk xs i) (vk xs j)).map (vk xs) := (List.map_mergeSort (r := fun i j => lexP (vk xs i) (vk xs j)) (s := lexP) (f := vk xs) fun a _ b _ => rfl).symm
  have e2 : bagIx xs = (List.range xs.length).mergeSort fun i j => lexP (vk xs i) (vk xs j) := by
    have hz : (List.range xs.length).zipIdx = (List.range xs.length).map fun i => (i, i) := by
      apply List.ext_getElem?
      intro i
      rw [List.getElem?_zipIdx, List.getElem?_map]
      by_cases h : i < xs.length
      · rw [List.getElem?_range h]
        simp
      · rw [List.getElem?_eq_none (by rw [List.length_range]; omega)]
        rfl
    have h := List.mergeSort_zipIdx (le := fun i j : Nat => decide (xs.getD i 0 ≤ xs.getD j 0)) (l := List.range xs.length)
    rw [hz] at h
    rw [← List.map_mergeSort (r := fun i j => lexP (vk xs i) (vk xs j)) (f := fun i : Nat => (i, i))] at h
    · rw [List.map_map] at h
      unfold bagIx
      rw [← h]
      exact List.map_id _
    · intro a _ b _
      show decide _ = List.zipIdxLE _ (a, a) (b, b)
      unfold List.zipIdxLE
      show decide (xs.getD a 0 < xs.getD b 0 ∨ (xs.getD a 0 = xs.getD b 0 ∧ (a : Int) ≤ (b : Int))) = if decide (xs.getD a 0 ≤ xs.getD b 0) then if decide (xs.getD b 0 ≤ xs.getD a 0) then decide (a ≤ b) else true else false
      generalize xs.getD a 0 = u
      generalize xs.getD b 0 = v
      rw [Bool.eq_iff_iff, decide_eq_true_iff]
      by_cases h1 : u ≤ v
      · by_cases h2 : v ≤ u
        · have : u = v := Int.le_antisymm h1 h2
          simp [h1, h2, this]
        · have : u < v := by omega
          simp [h1, h2, this]
      · simp [h1]
        omega
  rw [e1, ← e2, List.map_map]
  rfl
/-- the indexes before i where a value comes first -/
def headIx (xs : List Int) (i : Nat) : List Nat := (headsI (xs.take i)).map xs.idxOf
theorem headIx_zero (xs : List Int) : headIx xs 0 = [] := rfl
theorem headIx_all (xs : List Int) : headIx xs xs.length = (headsI xs).map xs.idxOf := by
  unfold headIx
  rw [List.take_length]
theorem take_snoc {xs : List Int} {i : Nat} (h : i < xs.length) : xs.take (i + 1) = xs.take i ++ [xs[i]] := by
  rw [List.take_succ, List.getElem?_eq_getElem h]
  rfl
theorem headIx_old {xs : List Int} {i : Nat} (h : i < xs.length) (m : xs[i] ∈ xs.take i) : headIx xs (i + 1) = headIx xs i := by
  unfold headIx
  rw [take_snoc h, headsI_snoc]
  unfold addI
  rw [if_pos ((mem_headsI _).mpr m)]
theorem headIx_new {xs : List Int} {i : Nat} (h : i < xs.length) (m : xs[i] ∉ xs.take i) : headIx xs (i + 1) = headIx xs i ++ [i] := by
  unfold headIx
  rw [take_snoc h, headsI_snoc]
  unfold addI
  rw [if_neg (fun z => m ((mem_headsI _).mp z)), List.map_append, List.map_singleton]
  congr 2
  have e : xs = xs.take i ++ xs.drop i := (List.take_append_drop i xs).symm
  have hl : (xs.take i).length = i := by rw [List.length_take]; omega
  have hd : xs.drop i = xs[i] :: xs.drop (i + 1) := List.drop_eq_getElem_cons h
  conv => lhs; arg 2; rw [e]
  rw [List.idxOf_append, if_neg m, hl, hd, List.idxOf_cons_self]
  omega
theorem set_lex (xs : List Int) : (((headIx xs xs.length).map (vk xs)).mergeSort lexP).map Prod.snd = ((sortI (headsI xs)).map xs.idxOf).map fun i : Nat => (i : Int) := by
  rw [headIx_all, List.map_map]
  have e1 : ((headsI xs).map (vk xs ∘ xs.idxOf)).mergeSort lexP = ((headsI xs).mergeSort fun a b => decide (a ≤ b)).map (vk xs ∘ xs.idxOf) := by
    refine (List.map_mergeSort fun a ha b hb => ?_).symm
    have ea : xs.getD (xs.idxOf a) 0 = a := idx_get ((mem_headsI xs).mp ha)
    have eb : xs.getD (xs.idxOf b) 0 = b := idx_get ((mem_headsI xs).mp hb)
    show decide (a ≤ b) = decide (xs.getD (xs.idxOf a) 0 < xs.getD (xs.idxOf b) 0 ∨ (xs.getD (xs.idxOf a) 0 = xs.getD (xs.idxOf b) 0 ∧ ((xs.idxOf a : Nat) : Int) ≤ (xs.idxOf b : Nat)))
    rw [ea, eb]
    by_cases h : a = b
    · subst h
      simp
    · have : (a ≤ b) ↔ a < b := by omega
      simp [h, this]
  rw [e1, List.map_map, List.map_map]
  rfl
/-- the indexes before i where a value comes last -/
def tlIx (xs : List Int) (i : Nat) : List Nat := (List.range i).filter fun k => decide (xs.getD k 0 ∉ xs.drop (k + 1))
theorem tlIx_succ (xs : List Int) (i : Nat) : tlIx xs (i + 1) = tlIx xs i ++ if xs.getD i 0 ∉ xs.drop (i + 1) then [i] else [] := by
  unfold tlIx
  rw [List.range_succ, List.filter_append]
  congr 1
  by_cases h : xs.getD i 0 ∉ xs.drop (i + 1)
  · rw [if_pos h]
    have : decide (xs.getD i 0 ∉ xs.drop (i + 1)) = true := decide_eq_true h
    show List.filter _ [i] = _
    rw [List.filter_cons, if_pos this]
    rfl
  · rw [if_neg h]
    have : decide (xs.getD i 0 ∉ xs.drop (i + 1)) = false := decide_eq_false h
    rw [List.filter_cons, if_neg (by rw [this]; exact Bool.false_ne_true)]
    rfl
theorem asc_one {is js : List Nat} (h1 : is.Pairwise (· < ·)) (h2 : js.Pairwise (· < ·)) (h : ∀ i, i ∈ is ↔ i ∈ js) : is = js := by
  have n1 : is.Nodup := h1.imp fun q => by omega
  have n2 : js.Nodup := h2.imp fun q => by omega
  have p := (List.perm_ext_iff_of_nodup n1 n2).mpr h
  have e := sorted_one (p.map fun i : Nat => (i : Int)) (intsOf_asc h1) (intsOf_asc h2)
  exact List.map_inj_right (fun _ _ => Int.ofNat.inj) |>.mp e
theorem tlIx_all (xs : List Int) : tlIx xs xs.length = tailIx xs := by
  refine asc_one ?_ (tailIx_asc xs) fun i => ?_
  · exact List.Pairwise.filter _ List.pairwise_lt_range
  · unfold tlIx tailIx
    rw [List.mem_filter, List.mem_range, List.mem_reverse, List.mem_map]
    have key : ∀ (x : Int), i < xs.length → xs.reverse.idxOf x = if x ∈ xs.drop (i + 1) then (xs.drop (i + 1)).reverse.idxOf x else (xs.take (i + 1)).reverse.idxOf x + (xs.length - (i + 1)) := fun x h => by
      have e : xs.reverse = (xs.drop (i + 1)).reverse ++ (xs.take (i + 1)).reverse := by rw [← List.reverse_append, List.take_append_drop]
      rw [e, List.idxOf_append, List.length_reverse, List.length_drop]
      simp only [List.mem_reverse]
    constructor
    · rintro ⟨hi, h⟩
      have h := of_decide_eq_true h
      have hm : xs.getD i 0 ∈ xs := by
        rw [getD_at hi]
        exact List.getElem_mem _
      refine ⟨xs.getD i 0, (mem_headsI _).mpr (List.mem_reverse.mpr hm), ?_⟩
      unfold lastIx
      rw [key _ hi, if_neg h, take_snoc hi, List.reverse_append, getD_at hi]
      show xs.length - 1 - (List.idxOf xs[i] (xs[i] :: _) + _) = i
      rw [List.idxOf_cons_self]
      omega
    · rintro ⟨x, hx, rfl⟩
      have hx := List.mem_reverse.mp ((mem_headsI _).mp hx)
      have hi := lastIx_lt hx
      refine ⟨hi, decide_eq_true ?_⟩
      rw [lastIx_get hx]
      intro hm
      have k := key x hi
      rw [if_pos hm] at k
      have l := List.idxOf_lt_length_iff.mpr (List.mem_reverse.mpr hm)
      rw [List.length_reverse, List.length_drop] at l
      have hp := List.length_pos_of_mem hx
      have hr : xs.reverse.idxOf x < xs.length := by
        have := List.idxOf_lt_length_iff.mpr (List.mem_reverse.mpr hx)
        rw [List.length_reverse] at this
        exact this
      unfold lastIx at l k hm
      omega
end Mv

set_option Elab.async false
set_option linter.all false
set_option maxRecDepth 100000
set_option maxHeartbeats 1000000
namespace Mv
open PySem
/-! ### words that are their own plain value -/
def badAt (k : Kd) (xs : List Int) (j : Nat) : Prop :=
  match k with
  | .bag => xs.getD j 0 < xs.getD (j - 1) 0
  | .set => xs.getD j 0 ≤ xs.getD (j - 1) 0
  | .heads => xs.getD j 0 ∈ xs.take j
  | .tails => xs.getD j 0 ∈ xs.take j
  | _ => False
theorem chain_lt {xs : List Int} {R : Int → Int → Prop} (tr : ∀ a b c, R a b → R b c → R a c) (h : ∀ j, 1 ≤ j → j < xs.length → R (xs.getD (j - 1) 0) (xs.getD j 0)) : xs.Pairwise R := by
  have key : ∀ j, ∀ i, i < j → j < xs.length → R (xs.getD i 0) (xs.getD j 0) := fun j => by
    induction j with
    | zero => intro i hi; omega
    | succ j ih =>
      intro i hi hj
      have hs := h (j + 1) (by omega) hj
      rw [Nat.add_sub_cancel] at hs
      by_cases e : i = j
      · rw [e]
        exact hs
      · exact tr _ _ _ (ih i (by omega) (by omega)) hs
  rw [List.pairwise_iff_getElem]
  intro i j hi hj hij
  have := key j i hij hj
  rw [getD_at hi, getD_at hj] at this
  exact this
theorem pair_at {xs : List Int} {R : Int → Int → Prop} (h : xs.Pairwise R) {j : Nat} (h1 : 1 ≤ j) (hj : j < xs.length) : R (xs.getD (j - 1) 0) (xs.getD j 0) := by
  rw [getD_at (i := j - 1) (by omega), getD_at hj]
  exact List.pairwise_iff_getElem.mp h _ _ _ _ (by omega)
theorem nodup_iff (xs : List Int) : xs.Nodup ↔ ∀ j, 1 ≤ j → j < xs.length → xs.getD j 0 ∉ xs.take j := by
  constructor
  · intro h j _ hj hm
    rw [getD_at hj] at hm
    obtain ⟨i, hi, e⟩ := List.getElem_of_mem hm
    rw [List.length_take] at hi
    rw [List.getElem_take] at e
    exact List.pairwise_iff_getElem.mp h i j (by omega) hj (by omega) e
  · intro h
    refine List.pairwise_iff_getElem.mpr fun i j hi hj hij e => h j (by omega) hj ?_
    rw [getD_at hj, ← e]
    exact List.mem_take_iff_getElem.mpr ⟨i, by omega, rfl⟩
theorem norm_iff {k : Kd} (hk : k = .bag ∨ k = .set ∨ k = .heads ∨ k = .tails) (xs : List Int) : plainI k xs = xs ↔ ∀ j, 1 ≤ j → j < xs.length → ¬ badAt k xs j := by
  rcases hk with rfl | rfl | rfl | rfl
  · show sortI xs = xs ↔ ∀ j, 1 ≤ j → j < xs.length → ¬ (xs.getD j 0 < xs.getD (j - 1) 0)
    constructor
    · intro e j h1 hj
      have p : xs.Pairwise (· ≤ ·) := e ▸ sort_le xs
      have : xs.getD (j - 1) 0 ≤ xs.getD j 0 := pair_at p h1 hj
      omega
    · intro h
      exact (sort_is (List.Perm.refl xs) (chain_lt (fun _ _ _ => Int.le_trans) fun j h1 hj => by have := h j h1 hj; omega)).symm
  · show sortI (headsI xs) = xs ↔ ∀ j, 1 ≤ j → j < xs.length → ¬ (xs.getD j 0 ≤ xs.getD (j - 1) 0)
    constructor
    · intro e j h1 hj
      have p : xs.Pairwise (· ≤ ·) := e ▸ sort_le (headsI xs)
      have n : xs.Nodup := e ▸ sort_nodup (nodup_headsI xs)
      have a : xs.getD (j - 1) 0 ≤ xs.getD j 0 := pair_at p h1 hj
      have b : xs.getD (j - 1) 0 ≠ xs.getD j 0 := pair_at n h1 hj
      omega
    · intro h
      have p : xs.Pairwise (· < ·) := chain_lt (fun _ _ _ => Int.lt_trans) fun j h1 hj => by have := h j h1 hj; omega
      rw [headsI_nodup xs (p.imp fun q => Int.ne_of_lt q)]
      exact (sort_is (List.Perm.refl xs) (p.imp fun q => Int.le_of_lt q)).symm
  · show headsI xs = xs ↔ _
    refine Iff.trans ⟨fun e => ?_, fun h => headsI_nodup xs h⟩ (nodup_iff xs)
    have := nodup_headsI xs
    rw [e] at this
    exact this
  · show (headsI xs.reverse).reverse = xs ↔ _
    refine Iff.trans ⟨fun e => ?_, fun h => ?_⟩ (nodup_iff xs)
    · have := nodup_headsI xs.reverse
      have h2 := (List.reverse_perm (headsI xs.reverse)).nodup_iff.mpr this
      rw [e] at h2
      exact h2
    · rw [headsI_nodup _ ((List.reverse_perm xs).nodup_iff.mpr h), List.reverse_reverse]
theorem norm_first (xs : List Int) : plainI .first xs = xs ↔ xs.length ≤ 1 := by
  show xs.take 1 = xs ↔ _
  constructor
  · intro e
    have := congrArg List.length e
    rw [List.length_take] at this
    omega
  · exact fun h => List.take_of_length_le h
theorem norm_last (xs : List Int) : plainI .last xs = xs ↔ xs.length ≤ 1 := by
  show xs.drop (xs.length - 1) = xs ↔ _
  constructor
  · intro e
    have := congrArg List.length e
    rw [List.length_drop] at this
    omega
  · intro h
    rw [show xs.length - 1 = 0 from by omega]
    rfl
theorem norm_ends (xs : List Int) : plainI .ends xs = xs ↔ xs.length = 0 ∨ xs.length = 2 := by
  have l : xs.length ≠ 0 → (plainI .ends xs).length = 2 := fun h => by
    show (xs.take 1 ++ xs.drop (xs.length - 1)).length = 2
    rw [List.length_append, List.length_take, List.length_drop]
    omega
  constructor
  · intro e
    by_cases h : xs.length = 0
    · exact .inl h
    · have := l h
      rw [e] at this
      exact .inr this
  · intro h
    cases xs with
    | nil => rfl
    | cons x r =>
      cases r with
      | nil => rcases h with h | h <;> cases h
      | cons y r =>
        cases r with
        | nil => rfl
        | cons z r =>
          rcases h with h | h
          · cases h
          · simp at h
end Mv

set_option Elab.async false
set_option linter.all false
set_option maxRecDepth 100000
set_option maxHeartbeats 1000000
namespace Mv
open PySem
theorem heads_dbl (xs : List Int) : headsI (xs ++ xs) = headsI xs := by
  have e : headsI (xs ++ xs) = headsA (headsI xs) xs := headsA_app [] xs xs
  rw [e, headsA_eq]
  have : (headsI xs).filter (fun x => decide (x ∉ headsI xs)) = [] := List.filter_eq_nil_iff.mpr fun x hx => by
    simp [hx]
  rw [this, List.append_nil]
theorem plain_dbl (k : Kd) (xs : List Int) : plainI k (xs ++ xs) = plainI k xs ↔ ((k ≠ .list ∧ k ≠ .bag) ∨ xs.length = 0) := by
  cases k with
  | list =>
    show xs ++ xs = xs ↔ _
    constructor
    · intro e
      have := congrArg List.length e
      rw [List.length_append] at this
      exact .inr (by omega)
    · rintro (⟨h, _⟩ | h)
      · exact absurd rfl h
      · rw [List.length_eq_zero_iff.mp h]
        rfl
  | bag =>
    show sortI (xs ++ xs) = sortI xs ↔ _
    constructor
    · intro e
      have := congrArg List.length e
      rw [(sort_perm _).length_eq, (sort_perm _).length_eq, List.length_append] at this
      exact .inr (by omega)
    · rintro (⟨_, h⟩ | h)
      · exact absurd rfl h
      · rw [List.length_eq_zero_iff.mp h]
        rfl
  | set =>
    refine ⟨fun _ => .inl ⟨by decide, by decide⟩, fun _ => ?_⟩
    show sortI (headsI (xs ++ xs)) = sortI (headsI xs)
    rw [heads_dbl]
  | heads => exact ⟨fun _ => .inl ⟨by decide, by decide⟩, fun _ => heads_dbl xs⟩
  | tails =>
    refine ⟨fun _ => .inl ⟨by decide, by decide⟩, fun _ => ?_⟩
    show (headsI (xs ++ xs).reverse).reverse = (headsI xs.reverse).reverse
    rw [List.reverse_append, heads_dbl]
  | first =>
    refine ⟨fun _ => .inl ⟨by decide, by decide⟩, fun _ => ?_⟩
    show (xs ++ xs).take 1 = xs.take 1
    cases xs <;> rfl
  | last =>
    refine ⟨fun _ => .inl ⟨by decide, by decide⟩, fun _ => ?_⟩
    show lastI (xs ++ xs) = lastI xs
    cases xs using snoc_ind with
    | h0 => rfl
    | hs xs x => rw [← List.append_assoc, lastI_snoc, lastI_snoc]
  | ends =>
    refine ⟨fun _ => .inl ⟨by decide, by decide⟩, fun _ => ?_⟩
    rw [show plainI .ends (xs ++ xs) = firstI (xs ++ xs) ++ lastI (xs ++ xs) from rfl, show plainI .ends xs = firstI xs ++ lastI xs from rfl]
    have h1 : firstI (xs ++ xs) = firstI xs := by cases xs <;> rfl
    have h2 : lastI (xs ++ xs) = lastI xs := by
      cases xs using snoc_ind with
      | h0 => rfl
      | hs xs x => rw [← List.append_assoc, lastI_snoc, lastI_snoc]
    rw [h1, h2]
end Mv

set_option Elab.async false
set_option linter.all false
set_option maxRecDepth 100000
set_option maxHeartbeats 4000000
namespace Mv
open PySem PySem.Spec PyProof.Rows L2
/-! ### t[::-1], t a tuple: a new tuple -/
section
variable {prog : Program} {w : World} {A : Around} {E : Value → Shared → Prop} {s : Shared}
theorem sliceApplied_back {sl : Addr} {vl vu vs : Value} {n : Nat} {Q : Int × Int × Nat → Shared → Prop} (hs : s.heap.IsSliceOf sl vl vu vs) (pl : IsPart vl none) (pu : IsPart vu none) (ps : IsPart vs (some (-1)))
    (h : Q ((n : Int) - 1, -1, n) s) : wpAny (model prog w) A (Builtin.Slice.sliceApplied (.ref sl) (pure (n : Int))) Q E s := by
  obtain ⟨os, hos, hcs, hds⟩ := id hs
  unfold Builtin.Slice.sliceApplied Builtin.Slice.sliceFields
  refine wpAny_bind (wpAny_bind (wpAny_field hos hds (x := vl) rfl (wpAny_bind (wpAny_field hos hds (x := vu) rfl (wpAny_bind (wpAny_field hos hds (x := vs) rfl (wpAny_pure ?_)))))))
  refine wpAny_bind (HT.slicePart_ ps ?_)
  show wpAny _ _ (if ((-1 : Int) == 0) = true then _ else _) _ _ s
  rw [if_neg (by decide)]
  refine wpAny_bind (HT.slicePart_ pl (wpAny_bind (HT.slicePart_ pu (wpAny_bind (wpAny_pure ?_)))))
  show wpAny _ _ (match Builtin.Slice.sliceAdjust none none (-1) (n : Int) with | (lo, hi) => pure (lo, (-1 : Int), Builtin.Slice.slicePlaces lo hi (-1))) _ _ s
  have e1 : Builtin.Slice.sliceAdjust none none (-1) (n : Int) = ((n : Int) - 1, -1) := rfl
  have e2 : Builtin.Slice.slicePlaces ((n : Int) - 1) (-1) (-1) = n := by
    unfold Builtin.Slice.slicePlaces
    rw [if_neg (by decide), show (- -1 : Int) = 1 by decide, Int.ediv_one]
    split <;> omega
  rw [e1]
  show wpAny _ _ (pure ((n : Int) - 1, (-1 : Int), Builtin.Slice.slicePlaces ((n : Int) - 1) (-1) (-1))) _ _ s
  rw [e2]
  exact wpAny_pure h
theorem fm_congr {α β : Type} {f g : α → Option β} : ∀ {l : List α}, (∀ k ∈ l, f k = g k) → l.filterMap f = l.filterMap g
  | [], _ => rfl
  | x :: l, h => by rw [List.filterMap_cons, List.filterMap_cons, h x List.mem_cons_self, fm_congr fun k hk => h k (List.mem_cons_of_mem _ hk)]
theorem pick_back (xs : Array Value) : ((List.range xs.size).filterMap fun (k : Nat) => xs[((xs.size : Int) - 1 + (k : Int) * (-1)).toNat]?).toArray = xs.toList.reverse.toArray := by
  have h := PySem.W.krv_pick xs
  have e : (List.range xs.size).filterMap (fun (k : Nat) => xs[((xs.size : Int) - 1 + (k : Int) * (-1)).toNat]?) = ((List.range xs.size).map fun k => xs.size - 1 - k).filterMap (xs[·]?) := by
    rw [List.filterMap_map]
    refine fm_congr fun k hk => ?_
    have := List.mem_range.mp hk
    show xs[_]? = xs[xs.size - 1 - k]?
    congr 1
    omega
  rw [e, PySem.W.krv_range, List.filterMap_reverse, PySem.W.krv_all]
theorem getItem_tuple_back {t sl : Addr} {items : Array Value} {vl vu vs : Value} {Q : Value → Shared → Prop} (ht : IsTup s.heap t items) (hs : s.heap.IsSliceOf sl vl vu vs) (pl : IsPart vl none) (pu : IsPart vu none) (ps : IsPart vs (some (-1)))
    (h : Q (.ref s.heap.objs.size) { s with heap := s.heap.push { cls := .type "tuple", data := .seq items.toList.reverse.toArray } }) (hsz : items.size ≤ sizeLine) : wpAny (model prog w) A (getItem (.ref t) (.ref sl)) Q E s := by
  have htake : sizeOk (.seq items.toList.reverse.toArray) := by
    show items.toList.reverse.toArray.size ≤ sizeLine
    rw [List.size_toArray, List.length_reverse, Array.length_toList]
    exact hsz
  obtain ⟨os, hos, hcs, hds⟩ := id hs
  have hTs : s.TypeIs (.ref sl) "slice" := ⟨os, hos, hcs⟩
  unfold getItem
  try with_reducible refine wpAny_holding ?_
  first | refine wpAny_bind (wpAny_pure ?_) | skip
  refine wpAny_bind (wpAny_sequenceKey ht.typeIs (by decide) ?_)
  refine wpAny_bind (wpAny_callSpecial?_slot (name := Str.ofString "__getitem__") ht.typeIs PyProof.Rows.slot_tuple_getitem
    (wpAny_call_entry PyProof.Rows.slot_tuple_getitem ht.typeIs entry_tuple_getitem ?_ (args_tuple_getitem _ _)))
  show wpAny _ _ (Builtin.Tuple.tupleItemsOf (.ref t) >>= _) _ _ s
  refine wpAny_bind (tupleItemsOf_ ht ?_)
  refine wpAny_bind (wpAny_typeOf hTs ?_)
  rw [if_pos (by decide)]
  refine wpAny_bind (sliceApplied_back hs pl pu ps ?_)
  show wpAny _ _ (if (((items.size : Int) - 1) == 0 && (-1 : Int) == 1 && items.size == items.size) = true then _ else _) _ _ s
  rw [if_neg (by rw [show ((-1 : Int) == 1) = false from rfl, Bool.and_false, Bool.false_and]; exact Bool.false_ne_true), pick_back]
  first
    | exact wpAny_bind (m := Builtin.Tuple.tupleExact _) (wpAny_newObj_type (wpAny_pure ⟨_, rfl, wpAny_pure h⟩) htake)
    | exact wpAny_bind (m := Builtin.Tuple.tupleExact _) (wpAny_newObj_type (wpAny_bind (wpAny_pure (wpAny_pure ⟨_, rfl, wpAny_pure h⟩))) htake)
    | exact wpAny_bind (wpAny_bind (m := Builtin.Tuple.tupleExact _) (wpAny_newObj_type (wpAny_pure (wpAny_pure ⟨_, rfl, wpAny_pure h⟩)) htake))
    | exact wpAny_bind (wpAny_bind (m := Builtin.Tuple.tupleExact _) (wpAny_newObj_type (wpAny_pure ⟨_, rfl, wpAny_pure h⟩) htake))
end
section
variable {X : Cx}
def tRevT (K : PySem.W.Frag) (te : TE) : TE := fun σ H Q => te σ H fun x H1 => ∃ a xs, x = .ref a ∧ SqT K H1 a xs ∧ ∀ p, H1 p = none → Q (.ref p) (upd H1 p (.tup xs.reverse))
theorem pe_revT {e : Expr} {te : TE} {k : Nat} {p1 p2 p3 pos : Pos} (he : PE X e te) : PE X (.Subscript e (.Slice none none (some (.UnaryOp .USub (.Constant (.int 1) k p1) p2)) p3) pos) (tRevT X.K te) := by
  refine ⟨fun pins s σ H Q I h => ?_⟩
  refine Subscript_ (thn (he.run pins s σ H _ I h) fun v s1 ⟨x, H1, I1, r1, q1⟩ => ?_)
  obtain ⟨a, xs, ex, hx, q⟩ := q1
  subst ex
  cases r1
  have hst : PO X (some (.UnaryOp .USub (.Constant (.int 1) k p1) p2)) (tPart (tUn (rU fun i => .int (-i)) (tC (.int 1)))) := po_some (pe_un un_neg pe_int)
  refine wpAny_Slice (thn (po_none.run pins s1 σ H1 (fun o H2 => o = none ∧ H2 = H1) I1 ⟨rfl, rfl⟩) fun vl s2 ⟨l, H2, I2, pl, el, e2⟩ => ?_)
  subst el e2
  refine thn (po_none.run pins s2 σ H2 (fun o H3 => o = none ∧ H3 = H2) I2 ⟨rfl, rfl⟩) fun vu s3 ⟨u, H3, I3, pu, eu, e3⟩ => ?_
  subst eu e3
  refine thn (hst.run pins s3 σ H3 (fun o H4 => o = some (-1) ∧ H4 = H3) I3 ⟨1, rfl, -1, rfl, rfl, rfl⟩) fun vs s4 ⟨o, H4, I4, ps, eo, e4⟩ => ?_
  subst eo e4
  have I5 : Inv X pins σ H4 { s4 with heap := s4.heap.push { cls := .type "slice", data := .fields #[vl, vu, vs] } } := I4.kept (t' := s4.toks) fun b ob q => Heap.get?_push_of_some _ q
  obtain ⟨its, r, ht, hz⟩ := I5.tuple hx
  have hlen := r.length
  show wpAny (model X.prog X.w) X.A (subscriptTail e (.Slice none none (some (.UnaryOp .USub (.Constant (.int 1) k p1) p2)) p3) (.ref a) (.ref s4.heap.objs.size)) (EP X pins σ Q) X.xe { s4 with heap := s4.heap.push { cls := .type "slice", data := .fields #[vl, vu, vs] } }
  refine tail_any (ops := [.ref a, .ref s4.heap.objs.size]) ht.typeIs (PyProof.Rows.slot_tuple_getitem.lookup) ?_ (by with_unfolding_all rfl)
  refine getItem_tuple_back ht (Heap.IsSliceOf.new _ vl vu vs) pl pu ps ?_ (by rw [List.size_toArray]; omega)
  refine ⟨.ref _, _, I5.laid (t' := s4.toks) (o := .tup xs.reverse) (fun b ob q => Heap.get?_push_of_some _ q) (Nat.le_refl _) ?_, rfl, q _ (I5.hok.fresh (Nat.le_refl _))⟩
  exact ⟨by rw [List.length_reverse]; exact hz, _, r.reverse, IsTup.new _ _⟩
end
end Mv

set_option Elab.async false
set_option linter.all false
set_option maxRecDepth 100000
set_option maxHeartbeats 4000000
namespace Mv
open PySem PySem.Spec PyProof.Rows L2
def topS (i : Nat) : Stmt := PySem.Challenge.pw_movedstates_k01_kept_indexes_and_normal.main.body.getD i (.Pass ⟨0, 0, 0, 0⟩)
abbrev sStream : Stmt := topS 18
abbrev sDraw : Stmt := topS 19
abbrev sWide : Stmt := topS 20
abbrev sKind : Stmt := topS 21
abbrev sValue : Stmt := topS 22
abbrev sWord : Stmt := topS 23
section
variable {P : Program} {w : World} {K : PySem.W.Frag} {mg : Str → Option Value} {base : Heap}
/-! ### the script's stream -/
theorem scStream : FnScope ["_law_script", "_law_pairs", "_law_at", "_law_cell", "_law_rest", "_law_k"] ["_law_script"] (defScope sStream) := ⟨rfl, rfl, rfl, by decide +kernel, rfl, by decide +kernel, by decide +kernel⟩
def spStream (K : PySem.W.Frag) : Sp := fun vs H Q _ => ∃ (a : Addr) (ns : List Int), vs = [.ref a] ∧ SqL K H a (ns.map V.int) ∧ ns.length ≤ 63 ∧ ∀ (H' : Hp) (p : Addr), Same H H' → H p = none → Strm H' p → Q (.ref p) H'
/-- between two pairs -/
def StmI (H : Hp) (a o c : Addr) (ys : List Int) (n : Nat) (σ : L2.St) (H3 : Hp) : Prop := ∃ (y2 y3 y4 y5 : Option V) (ps : List Int), σ = [some (.ref a), some (.ref o), y2, y3, y4, y5] ∧ Same H H3 ∧ H3 c = some (.lst (ys.map V.int)) ∧ H3 o = some (.lst (ps.map V.int)) ∧ ps.length ≤ n
def StmJ (H : Hp) (a o c : Addr) (ys : List Int) (n : Nat) (x2 x3 : V) (σ : L2.St) (H3 : Hp) : Prop := ∃ (r : Int) (y5 : Option V) (ps : List Int), σ = [some (.ref a), some (.ref o), some x2, some x3, some (.int r), y5] ∧ Same H H3 ∧ H3 c = some (.lst (ys.map V.int)) ∧ H3 o = some (.lst (ps.map V.int)) ∧ ps.length ≤ n
theorem StmJ.i {H : Hp} {a o c : Addr} {ys : List Int} {n m : Nat} {x2 x3 : V} {σ : L2.St} {H3 : Hp} (h : StmJ H a o c ys n x2 x3 σ H3) (hm : n ≤ m) : StmI H a o c ys m σ H3 := by
  obtain ⟨r, y5, ps, e, s, h1, h2, h3⟩ := h
  exact ⟨_, _, _, _, ps, e, s, h1, h2, Nat.le_trans h3 hm⟩
theorem ok_stream {f : Addr} {fd : FuncData} (F : Fun K "_law_stream" "_law_stream" sStream f fd) (B : Bi mg) : FnOk P w K mg base CX0 1 f fd ["_law_script"] (spStream K) := by
  refine F.ok scStream (fun vs H Q E h => ?_) (fun cdv A outer s H vs Q E hr h => ?_)
  · obtain ⟨a, ns, rfl, _⟩ := h
    rfl
  · obtain ⟨a, ns, rfl, hS, hlen, q⟩ := h
    refine ⟨_, (pss_cons (ps_set (i := 1) scStream.nd rfl (.inl rfl) (pe_lst pa_nil))
 (pss_cons (ps_for PassesOwn.never rfl (pi_enum (by rfl) B.enumerate (pa_cons (pe_slice sl_list (pv 0) po_none (po_some pe_int)) pa_nil)) (pg_tup rfl (pgs_cons (pg_name (i := 2) scStream.nd rfl (.inl rfl)) (pgs_cons (pg_name (i := 3) scStream.nd rfl (.inl rfl)) pgs_nil)))
 (pss_cons (ps_set (i := 4) scStream.nd rfl (.inl rfl) (pe_callB call_abs (by rfl) B.abs (by decide +kernel) (pa_cons (pv 3) pa_nil)))
 (pss_cons (ps_if (pt_cmpR op_lt (pv 4) pe_int (nomark _))
 (pss_cons (ps_set (i := 4) scStream.nd rfl (.inl rfl) (pe_op op_mod (pe_callTy call_int1 (by rfl) B.int (by decide +kernel) (pa_cons (pe_op op_mul (pv 4) (pe_op op_add (pe_op op_add pe_int (pe_op op_mul pe_int (pv 2))) (pe_callTy call_int1 (by rfl) B.int (by decide +kernel) (pa_cons (pe_cmpR op_lt (pv 3) pe_int (nomark _)) pa_nil)))) pa_nil)) pe_int))
 (pss_one (ps_set (i := 4) scStream.nd rfl (.inl rfl) (pe_op op_mod (pe_callTy call_int1 (by rfl) B.int (by decide +kernel) (pa_cons (pe_op op_mul (pv 4) (pe_op op_add (pv 4) pe_int)) pa_nil)) pe_int)))) pss_nil)
 (pss_one (ps_for PassesOwn.never rfl (pi_range1 (by rfl) B.range (pa_cons pe_int pa_nil)) (pg_name (i := 5) scStream.nd rfl (.inl rfl))
 (pss_cons (ps_expr (pe_bm PySem.F.plainAttrs_list PySem.F.slot_list_append PySem.F.type_list_append mt_append (pv 1) (pa_cons (pe_op op_mod (pe_callTy call_int1 (by rfl) B.int (by decide +kernel) (pa_cons (pv 4) pa_nil)) pe_int) pa_nil)))
 (pss_cons (ps_set (i := 4) scStream.nd rfl (.inl rfl) (pe_op op_fdiv (pv 4) pe_int))
 (pss_one (ps_if (pt_cmpR op_eq (pv 4) pe_int (nomark _))
 (pss_one ps_break) pss_nil)))))))))
 (pss_cons (ps_expr (pe_bm0 PySem.F.plainAttrs_list PySem.F.slot_list_reverse PySem.F.type_list_reverse mt_reverse (pv 1)))
 (pss_one (ps_ret (pv 1)))))), ?_⟩
    refine ⟨Nat.zero_le _, fun o no => ?_⟩
    have s1 : Same H (upd H o (.lst [])) := same_upd no
    refine ⟨.ref a, rfl, 63, rfl, a, ns.map V.int, rfl, s1.seq hS, fun c nc => ?_⟩
    have s2 : Same (upd H o (.lst [])) (upd (upd H o (.lst [])) c (.lst (cutV (ns.map V.int) none (some 63)))) := same_upd nc
    have nco : c ≠ o := fun e => by
      rw [e, upd_same] at nc
      cases nc
    refine ⟨c, _, rfl, .inl (.inl upd_same), ?_⟩
    rw [cutV_int] at s2 ⊢
    have hcl : (cutI ns none (some 63)).length ≤ 63 := Nat.le_trans (cutI_length _ _ _) hlen
    generalize cutI ns none (some 63) = ys at *
    refine for_it walk_enum (fun i σ H3 => StmI H a o c ys (60 * i) σ H3)
      ⟨none, none, none, none, [], rfl, s1.trans s2, upd_same, by rw [upd_ne nco.symm, upd_same]; rfl, Nat.le_refl _⟩ (fun i σ H3 _ ⟨_, _, _, _, _, _, _, hc3, _⟩ => .inl (.inl hc3)) ?_ ?_
    · rintro i x σ H3 H4 hi ⟨y2, y3, y4, y5, ps, rfl, sm, hc3, ho3, hps⟩ ⟨T, x1, x2, rfl, nT, rfl, e1, e2⟩
      obtain rfl : V.int (i : Nat) = x1 := Option.some.inj e1
      obtain ⟨u, rfl, hu⟩ := int_at e2
      rw [List.length_map] at hi
      have smT : Same H3 (upd H3 T (.tup [.int (i : Nat), .int u])) := same_upd nT
      refine ⟨T, [.int (i : Nat), .int u], rfl, .inl (.inl upd_same), rfl, .int (i : Nat), [.int (i : Nat), .int u].tail, rfl, .int u, [], rfl, rfl, ?_⟩
      have hj : StmJ H a o c ys (60 * i + 0) (.int (i : Nat)) (.int u) [some (.ref a), some (.ref o), some (.int (i : Nat)), some (.int u), some (.int 0), y5] (upd H3 T (.tup [.int (i : Nat), .int u])) :=
        ⟨0, y5, ps, rfl, sm.trans smT, smT _ _ hc3, smT _ _ ho3, hps⟩
      generalize upd H3 T (.tup [.int (i : Nat), .int u]) = H4 at hj ⊢
      -- the inner loop, whatever is left
      have inner : ∀ r : Int, StmJ H a o c ys (60 * i + 0) (.int (i : Nat)) (.int u) [some (.ref a), some (.ref o), some (.int (i : Nat)), some (.int u), some (.int r), y5] H4 := fun r => by
        obtain ⟨r', y5', ps', e, k⟩ := hj
        cases e
        exact ⟨r, _, ps', rfl, k⟩
      clear hj
      refine ⟨.int u, rfl, u, rfl, ?_⟩
      refine ⟨_, rfl, _, _, rfl, rfl, _, rfl, ?_⟩
      refine ite2 ?A ?B
      case' A =>
        intro e
        have e' := of_decide_eq_true e
        have e0 := abs_nn u
        simp only [tSeq, tAsg, gName, tOp, rI, rI0, rU, tUn, tVar, tC, tCB, tCons, tNil, tTest, tIfS, tRet, tRetN, tDrop, tNext, tBreak, tCont, rEq, rNe, CDiv, CDivN, CMul, tBM, tBM0, tTup, tLst, tAug, tIf, tAnd, tOr, tNot, tAndV, tOrV, tNotV, tIsN, tNotN, tB, scal, tCall, cxK, cxKn, rIxT, rIxL, rIn, rAppend, rReverse, tVals, tDSetd, tDGet, tDGet1, tDGet2, tDIn, tDNotIn, rSortV, rSortT, rPop, rSortL, rSortT, List.append_nil, L2.start, List.map_cons, List.map_nil, List.length_cons, List.length_nil, List.replicate_succ, List.replicate_zero, List.cons_append, List.nil_append, Nat.reduceAdd, Nat.reduceSub, exists_eq, exists_eq', List.getElem?_cons_zero, List.getElem?_cons_succ, List.set_cons_zero, List.set_cons_succ, Option.some.injEq, V.int.injEq, V.bl.injEq, V.str.injEq, V.ref.injEq, List.cons.injEq, and_true, true_and, and_false, false_and, reduceCtorEq, exists_false, or_false, false_or, exists_and_left, exists_and_right, exists_eq_left, exists_eq_left', exists_eq_right, exists_eq_right', exists_const, ite_true, ite_false, Bool.false_eq_true, if_true, if_false, decide_true, decide_false]
        refine ⟨.inl (by omega), .inl (by omega), by decide, .inl ?_, by decide, ?C⟩
        · have h1 := Int.emod_nonneg ((if u < 0 then -u else u) * (6364136223846793005 + 2 * (i : Int) + if decide (u < 0) = true then 1 else 0)) (show (1000000000000000003 : Int) ≠ 0 by decide)
          have h2 := Int.emod_lt_of_pos ((if u < 0 then -u else u) * (6364136223846793005 + 2 * (i : Int) + if decide (u < 0) = true then 1 else 0)) (show (0 : Int) < 1000000000000000003 by decide)
          omega
        generalize (if u < 0 then -u else u) * (6364136223846793005 + 2 * (i : Int) + if decide (u < 0) = true then 1 else 0) % 1000000000000000003 * ((if u < 0 then -u else u) * (6364136223846793005 + 2 * (i : Int) + if decide (u < 0) = true then 1 else 0) % 1000000000000000003 + 1442695040888963407) % 1000000000000000009 = r
      case' B =>
        intro e
        generalize (if u < 0 then -u else u) = r
      all_goals
        refine ⟨60, rfl, by decide, by decide, for_range (n := 60) (fun j σ H' => StmJ H a o c ys (60 * i + j) (.int (i : Nat)) (.int u) σ H') (inner r) ?_ (fun σ H' h => h.i (by omega))⟩
        rintro j σ H' hj ⟨r', y5', ps', rfl, sm', hc', ho', hps'⟩
        refine ⟨.ref o, rfl, .inl ⟨rfl, _, SqL.of ho'⟩, _, rfl, .inl ⟨_, rfl, ?_⟩⟩
        refine ⟨_, _, rfl, rfl, by show (0 : Int) < 100; decide, o, _, _, rfl, rfl, ho', by rw [List.length_map]; exact small4000 (by omega), ?_⟩
        have hj' : StmJ H a o c ys (60 * i + (j + 1)) (.int (i : Nat)) (.int u) [some (.ref a), some (.ref o), some (.int (i : Nat)), some (.int u), some (.int (r' / 100)), some (.int (0 + (j : Nat)))] (upd H' o (.lst (ps'.map V.int ++ [.int (r' % 100)]))) :=
          ⟨_, _, ps' ++ [r' % 100], rfl, fun b z e => by rw [upd_ne (ne_of_none e no)]; exact sm' _ _ e, by rw [upd_ne nco]; exact hc', by rw [upd_same, List.map_append]; rfl, by rw [List.length_append, List.length_singleton]; omega⟩
        simp only [tSeq, tAsg, gName, tOp, rI, rI0, rU, tUn, tVar, tC, tCB, tCons, tNil, tTest, tIfS, tRet, tRetN, tDrop, tNext, tBreak, tCont, rEq, rNe, CDiv, CDivN, CMul, tBM, tBM0, tTup, tLst, tAug, tIf, tAnd, tOr, tNot, tAndV, tOrV, tNotV, tIsN, tNotN, tB, scal, tCall, cxK, cxKn, rIxT, rIxL, rIn, rAppend, rReverse, tVals, tDSetd, tDGet, tDGet1, tDGet2, tDIn, tDNotIn, rSortV, rSortT, rPop, rSortL, rSortT, List.append_nil, L2.start, List.map_cons, List.map_nil, List.length_cons, List.length_nil, List.replicate_succ, List.replicate_zero, List.cons_append, List.nil_append, Nat.reduceAdd, Nat.reduceSub, exists_eq, exists_eq', List.getElem?_cons_zero, List.getElem?_cons_succ, List.set_cons_zero, List.set_cons_succ, Option.some.injEq, V.int.injEq, V.bl.injEq, V.str.injEq, V.ref.injEq, List.cons.injEq, and_true, true_and, and_false, false_and, reduceCtorEq, exists_false, or_false, false_or, exists_and_left, exists_and_right, exists_eq_left, exists_eq_left', exists_eq_right, exists_eq_right', exists_const, ite_true, ite_false, Bool.false_eq_true, if_true, if_false, decide_true, decide_false]
        refine ⟨by decide, ite2 (fun _ => hj'.i (by omega)) (fun _ => hj')⟩
    · rintro σ H3 ⟨y2, y3, y4, y5, ps, rfl, sm, hc3, ho3, hps⟩
      rw [List.length_map] at hps
      refine ⟨.ref o, rfl, .inl ⟨rfl, _, SqL.of ho3⟩, o, ps.map V.int, rfl, rfl, ho3, .ref o, rfl, ?_⟩
      refine q _ o (fun b z e => ?_) no ⟨ps.reverse, ?_, ?_⟩
      · rw [upd_ne (ne_of_none e no)]
        exact sm _ _ e
      · rw [upd_same, List.map_reverse]
      · rw [List.length_reverse]
        omega
end
end Mv

set_option Elab.async false
set_option linter.all false
set_option maxRecDepth 100000
set_option maxHeartbeats 4000000
namespace Mv
open PySem PySem.Spec PyProof.Rows L2
section
variable {P : Program} {w : World} {K : PySem.W.Frag} {mg : Str → Option Value} {base : Heap}
theorem scDraw : FnScope ["_law_stream_here", "_law_many"] ["_law_stream_here", "_law_many"] (defScope sDraw) := ⟨rfl, rfl, rfl, by decide +kernel, rfl, by decide +kernel, by decide +kernel⟩
def spDraw : Sp := fun vs H Q _ => ∃ (a : Addr) (m : Int), vs = [.ref a, .int m] ∧ 0 < m ∧ Strm H a ∧ ∀ (r : Int) (H' : Hp), 0 ≤ r → r < m → Sx a H H' → Strm H' a → Q (.int r) H'
theorem ok_draw {f : Addr} {fd : FuncData} (F : Fun K "_law_draw" "_law_draw" sDraw f fd) (B : Bi mg) : FnOk P w K mg base CX0 1 f fd ["_law_stream_here", "_law_many"] spDraw := by
  refine F.ok scDraw (fun vs H Q E h => ?_) (fun cdv A outer s H vs Q E hr h => ?_)
  · obtain ⟨a, m, rfl, _⟩ := h
    rfl
  · obtain ⟨a, m, rfl, hm, ⟨ns, ha, hl⟩, q⟩ := h
    refine ⟨_, (pss_cons (ps_if (pt_cmpR op_eq (pe_callB call_len_seq (by rfl) B.len PySem.boot_len (pa_cons (pv 0) pa_nil)) pe_int (nomark _))
 (pss_one (ps_ret pe_int)) pss_nil)
 (pss_one (ps_ret (pe_op op_modN (pe_callTy call_int1 (by rfl) B.int (by decide +kernel) (pa_cons (pe_bm0 PySem.F.plainAttrs_list PySem.F.slot_list_pop PySem.F.type_list_pop mt_pop (pv 0)) pa_nil)) (pv 1))))), ?_⟩
    refine ⟨.ref a, rfl, a, ns.map V.int, rfl, .inl (SqL.of ha), rfl, _, rfl, ite2 (fun e => ?_) (fun e => ?_)⟩
    · exact q 0 H (Int.le_refl 0) hm (Sx.refl a H) ⟨ns, ha, hl⟩
    · have hne : ns ≠ [] := fun z => by
        subst z
        exact e (decide_eq_true rfl)
      have hlast : (ns.map V.int)[(ns.map V.int).length - 1]? = some (.int (ns.getLast hne)) := by
        rw [List.length_map, List.getElem?_map]
        rw [← List.getLast?_eq_getElem?, List.getLast?_eq_getLast hne]
        rfl
      refine ⟨.ref a, rfl, .inl ⟨rfl, _, SqL.of ha⟩, a, ns.map V.int, _, rfl, rfl, ha, hlast, .inl ⟨_, rfl, ?_⟩⟩
      refine ⟨.int m, rfl, _, m, rfl, rfl, by omega, ?_⟩
      refine q _ _ (Int.fmod_nonneg_of_pos _ hm) (Int.fmod_lt_of_pos _ hm) Sx.upd ⟨ns.dropLast, ?_, ?_⟩
      · rw [upd_same, List.map_dropLast]
      · rw [List.length_dropLast]
        omega
/-- a draw from the stream: any number of the range may come -/
theorem spDraw_of {a : Addr} {m : Int} {H : Hp} {Q : VK} {E : XK} (hm : 0 < m) (hs : Strm H a) (q : ∀ (r : Int) (H' : Hp), 0 ≤ r → r < m → Sx a H H' → Strm H' a → Q (.int r) H') : spDraw [.ref a, .int m] H Q E := ⟨a, m, rfl, hm, hs, q⟩
theorem scWide : FnScope ["_law_stream_here", "_law_size", "_law_k"] ["_law_stream_here"] (defScope sWide) := ⟨rfl, rfl, rfl, by decide +kernel, rfl, by decide +kernel, by decide +kernel⟩
def spWide : Sp := fun vs H Q _ => ∃ (a : Addr), vs = [.ref a] ∧ Strm H a ∧ ∀ (r : Int) (H' : Hp), Sx a H H' → Strm H' a → Q (.int r) H'
theorem ok_wide {f : Addr} {fd : FuncData} (F : Fun K "_law_wide" "_law_wide" sWide f fd) (B : Bi mg) (cDraw : CalX CX0 P w K mg base 1 "_law_draw" spDraw) : FnOk P w K mg base CX0 2 f fd ["_law_stream_here"] spWide := by
  refine F.ok scWide (fun vs H Q E h => ?_) (fun cdv A outer s H vs Q E hr h => ?_)
  · obtain ⟨a, rfl, _⟩ := h
    rfl
  · obtain ⟨a, rfl, hs, q⟩ := h
    refine ⟨_, (pss_cons (ps_set (i := 1) scWide.nd rfl (.inl rfl) pe_int)
 (pss_cons (ps_for PassesOwn.never rfl (pi_range1 (by rfl) B.range (pa_cons pe_int pa_nil)) (pg_name (i := 2) scWide.nd rfl (.inl rfl))
 (pss_one (ps_set (i := 1) scWide.nd rfl (.inl rfl) (pe_op op_add (pe_op op_mul (pv 1) pe_int) (pe_cx cDraw hr (by decide) pass0 (by rfl) (pa_cons (pv 0) (pa_cons pe_int pa_nil)))))))
 (pss_cons (ps_if (pt_cmpR op_eq (pe_cx cDraw hr (by decide) pass0 (by rfl) (pa_cons (pv 0) (pa_cons pe_int pa_nil))) pe_int (nomark _))
 (pss_one (ps_ret (pe_un un_neg (pv 1)))) pss_nil)
 (pss_one (ps_ret (pv 1)))))), ?_⟩
    refine ⟨11, rfl, by decide, by decide, for_range (n := 11) (fun i σ H' => ∃ (z : Int) (y : Option V), σ = [some (.ref a), some (.int z), y] ∧ Sx a H H' ∧ Strm H' a) ⟨0, none, rfl, Sx.refl a H, hs⟩ ?_ ?_⟩
    · rintro i σ H1 hi ⟨z, y, rfl, x1, t1⟩
      simp only [tSeq, tAsg, gName, tOp, rI, rI0, rU, tUn, tVar, tC, tCB, tCons, tNil, tTest, tIfS, tRet, tRetN, tDrop, tNext, tBreak, tCont, rEq, rNe, CDiv, CDivN, CMul, tBM, tBM0, tTup, tLst, tAug, tIf, tAnd, tOr, tNot, tAndV, tOrV, tNotV, tIsN, tNotN, tB, scal, tCall, cxK, cxKn, rIxT, rIxL, rIn, rAppend, rReverse, tVals, tDSetd, tDGet, tDGet1, tDGet2, tDIn, tDNotIn, rSortV, rSortT, rPop, rSortL, rSortT, List.append_nil, L2.start, List.map_cons, List.map_nil, List.length_cons, List.length_nil, List.replicate_succ, List.replicate_zero, List.cons_append, List.nil_append, Nat.reduceAdd, Nat.reduceSub, exists_eq, exists_eq', List.getElem?_cons_zero, List.getElem?_cons_succ, List.set_cons_zero, List.set_cons_succ, Option.some.injEq, V.int.injEq, V.bl.injEq, V.str.injEq, V.ref.injEq, List.cons.injEq, and_true, true_and, and_false, false_and, reduceCtorEq, exists_false, or_false, false_or, exists_and_left, exists_and_right, exists_eq_left, exists_eq_left', exists_eq_right, exists_eq_right', exists_const, ite_true, ite_false, Bool.false_eq_true, if_true, if_false, decide_true, decide_false]
      refine ⟨.inr (by decide), spDraw_of (by decide) t1 fun r H2 _ _ x2 t2 => ?_⟩
      simp only [tSeq, tAsg, gName, tOp, rI, rI0, rU, tUn, tVar, tC, tCB, tCons, tNil, tTest, tIfS, tRet, tRetN, tDrop, tNext, tBreak, tCont, rEq, rNe, CDiv, CDivN, CMul, tBM, tBM0, tTup, tLst, tAug, tIf, tAnd, tOr, tNot, tAndV, tOrV, tNotV, tIsN, tNotN, tB, scal, tCall, cxK, cxKn, rIxT, rIxL, rIn, rAppend, rReverse, tVals, tDSetd, tDGet, tDGet1, tDGet2, tDIn, tDNotIn, rSortV, rSortT, rPop, rSortL, rSortT, List.append_nil, L2.start, List.map_cons, List.map_nil, List.length_cons, List.length_nil, List.replicate_succ, List.replicate_zero, List.cons_append, List.nil_append, Nat.reduceAdd, Nat.reduceSub, exists_eq, exists_eq', List.getElem?_cons_zero, List.getElem?_cons_succ, List.set_cons_zero, List.set_cons_succ, Option.some.injEq, V.int.injEq, V.bl.injEq, V.str.injEq, V.ref.injEq, List.cons.injEq, and_true, true_and, and_false, false_and, reduceCtorEq, exists_false, or_false, false_or, exists_and_left, exists_and_right, exists_eq_left, exists_eq_left', exists_eq_right, exists_eq_right', exists_const, ite_true, ite_false, Bool.false_eq_true, if_true, if_false, decide_true, decide_false]
      exact ⟨x1.trans x2, t2⟩
    · rintro σ H1 ⟨z, y, rfl, x1, t1⟩
      simp only [tSeq, tAsg, gName, tOp, rI, rI0, rU, tUn, tVar, tC, tCB, tCons, tNil, tTest, tIfS, tRet, tRetN, tDrop, tNext, tBreak, tCont, rEq, rNe, CDiv, CDivN, CMul, tBM, tBM0, tTup, tLst, tAug, tIf, tAnd, tOr, tNot, tAndV, tOrV, tNotV, tIsN, tNotN, tB, scal, tCall, cxK, cxKn, rIxT, rIxL, rIn, rAppend, rReverse, tVals, tDSetd, tDGet, tDGet1, tDGet2, tDIn, tDNotIn, rSortV, rSortT, rPop, rSortL, rSortT, List.append_nil, L2.start, List.map_cons, List.map_nil, List.length_cons, List.length_nil, List.replicate_succ, List.replicate_zero, List.cons_append, List.nil_append, Nat.reduceAdd, Nat.reduceSub, exists_eq, exists_eq', List.getElem?_cons_zero, List.getElem?_cons_succ, List.set_cons_zero, List.set_cons_succ, Option.some.injEq, V.int.injEq, V.bl.injEq, V.str.injEq, V.ref.injEq, List.cons.injEq, and_true, true_and, and_false, false_and, reduceCtorEq, exists_false, or_false, false_or, exists_and_left, exists_and_right, exists_eq_left, exists_eq_left', exists_eq_right, exists_eq_right', exists_const, ite_true, ite_false, Bool.false_eq_true, if_true, if_false, decide_true, decide_false]
      refine spDraw_of (by decide) t1 fun r H2 _ _ x2 t2 => ?_
      simp only [tSeq, tAsg, gName, tOp, rI, rI0, rU, tUn, tVar, tC, tCB, tCons, tNil, tTest, tIfS, tRet, tRetN, tDrop, tNext, tBreak, tCont, rEq, rNe, CDiv, CDivN, CMul, tBM, tBM0, tTup, tLst, tAug, tIf, tAnd, tOr, tNot, tAndV, tOrV, tNotV, tIsN, tNotN, tB, scal, tCall, cxK, cxKn, rIxT, rIxL, rIn, rAppend, rReverse, tVals, tDSetd, tDGet, tDGet1, tDGet2, tDIn, tDNotIn, rSortV, rSortT, rPop, rSortL, rSortT, List.append_nil, L2.start, List.map_cons, List.map_nil, List.length_cons, List.length_nil, List.replicate_succ, List.replicate_zero, List.cons_append, List.nil_append, Nat.reduceAdd, Nat.reduceSub, exists_eq, exists_eq', List.getElem?_cons_zero, List.getElem?_cons_succ, List.set_cons_zero, List.set_cons_succ, Option.some.injEq, V.int.injEq, V.bl.injEq, V.str.injEq, V.ref.injEq, List.cons.injEq, and_true, true_and, and_false, false_and, reduceCtorEq, exists_false, or_false, false_or, exists_and_left, exists_and_right, exists_eq_left, exists_eq_left', exists_eq_right, exists_eq_right', exists_const, ite_true, ite_false, Bool.false_eq_true, if_true, if_false, decide_true, decide_false]
      exact ite2 (fun _ => q _ _ (x1.trans x2) t2) (fun _ => q _ _ (x1.trans x2) t2)
theorem scValue : FnScope ["_law_stream_here", "_law_style"] ["_law_stream_here", "_law_style"] (defScope sValue) := ⟨rfl, rfl, rfl, by decide +kernel, rfl, by decide +kernel, by decide +kernel⟩
def spValue : Sp := fun vs H Q _ => ∃ (a : Addr) (z : Int), vs = [.ref a, .int z] ∧ Strm H a ∧ ∀ (r : Int) (H' : Hp), Sx a H H' → Strm H' a → Q (.int r) H'
theorem ok_value {f : Addr} {fd : FuncData} (F : Fun K "_law_value" "_law_value" sValue f fd) (B : Bi mg) (cDraw : CalX CX0 P w K mg base 1 "_law_draw" spDraw) (cWide : CalX CX0 P w K mg base 2 "_law_wide" spWide) : FnOk P w K mg base CX0 3 f fd ["_law_stream_here", "_law_style"] spValue := by
  refine F.ok scValue (fun vs H Q E h => ?_) (fun cdv A outer s H vs Q E hr h => ?_)
  · obtain ⟨a, z, rfl, _⟩ := h
    rfl
  · obtain ⟨a, z, rfl, hs, q⟩ := h
    refine ⟨_, (pss_cons (ps_if (pt_cmpR op_lt (pv 1) pe_int (nomark _))
 (pss_one (ps_ret (pe_cx cDraw hr (by decide) pass0 (by rfl) (pa_cons (pv 0) (pa_cons pe_int pa_nil))))) pss_nil)
 (pss_cons (ps_if (pt_cmpR op_eq (pv 1) pe_int (nomark _))
 (pss_one (ps_ret (pe_cx cDraw hr (by decide) pass0 (by rfl) (pa_cons (pv 0) (pa_cons pe_int pa_nil))))) pss_nil)
 (pss_cons (ps_if (pt_cmpR op_eq (pv 1) pe_int (nomark _))
 (pss_one (ps_ret (pe_op op_sub (pe_cx cDraw hr (by decide) pass0 (by rfl) (pa_cons (pv 0) (pa_cons pe_int pa_nil))) (pe_cx cDraw hr (by decide) pass0 (by rfl) (pa_cons (pv 0) (pa_cons pe_int pa_nil)))))) pss_nil)
 (pss_cons (ps_if (pt_cmpR op_eq (pv 1) pe_int (nomark _))
 (pss_one (ps_ret (pe_op op_mul (pe_op op_sub (pe_cx cDraw hr (by decide) pass0 (by rfl) (pa_cons (pv 0) (pa_cons pe_int pa_nil))) (pe_cx cDraw hr (by decide) pass0 (by rfl) (pa_cons (pv 0) (pa_cons pe_int pa_nil)))) pe_int))) pss_nil)
 (pss_one (ps_ret (pe_cx cWide hr (by decide) pass0 (by rfl) (pa_cons (pv 0) pa_nil)))))))), ?_⟩
    simp only [tSeq, tAsg, gName, tOp, rI, rI0, rU, tUn, tVar, tC, tCB, tCons, tNil, tTest, tIfS, tRet, tRetN, tDrop, tNext, tBreak, tCont, rEq, rNe, CDiv, CDivN, CMul, tBM, tBM0, tTup, tLst, tAug, tIf, tAnd, tOr, tNot, tAndV, tOrV, tNotV, tIsN, tNotN, tB, scal, tCall, cxK, cxKn, rIxT, rIxL, rIn, rAppend, rReverse, tVals, tDSetd, tDGet, tDGet1, tDGet2, tDIn, tDNotIn, rSortV, rSortT, rPop, rSortL, rSortT, List.append_nil, L2.start, List.map_cons, List.map_nil, List.length_cons, List.length_nil, List.replicate_succ, List.replicate_zero, List.cons_append, List.nil_append, Nat.reduceAdd, Nat.reduceSub, exists_eq, exists_eq', List.getElem?_cons_zero, List.getElem?_cons_succ, List.set_cons_zero, List.set_cons_succ, Option.some.injEq, V.int.injEq, V.bl.injEq, V.str.injEq, V.ref.injEq, List.cons.injEq, and_true, true_and, and_false, false_and, reduceCtorEq, exists_false, or_false, false_or, exists_and_left, exists_and_right, exists_eq_left, exists_eq_left', exists_eq_right, exists_eq_right', exists_const, ite_true, ite_false, Bool.false_eq_true, if_true, if_false, decide_true, decide_false]
    refine ite2 (fun _ => spDraw_of (by decide) hs fun r H1 _ _ x1 t1 => q _ _ x1 t1) fun _ => ?_
    refine ite2 (fun _ => spDraw_of (by decide) hs fun r H1 _ _ x1 t1 => q _ _ x1 t1) fun _ => ?_
    refine ite2 (fun _ => spDraw_of (by decide) hs fun r H1 _ _ x1 t1 => spDraw_of (by decide) t1 fun r2 H2 _ _ x2 t2 => ?_) fun _ => ?_
    · simp only [tSeq, tAsg, gName, tOp, rI, rI0, rU, tUn, tVar, tC, tCB, tCons, tNil, tTest, tIfS, tRet, tRetN, tDrop, tNext, tBreak, tCont, rEq, rNe, CDiv, CDivN, CMul, tBM, tBM0, tTup, tLst, tAug, tIf, tAnd, tOr, tNot, tAndV, tOrV, tNotV, tIsN, tNotN, tB, scal, tCall, cxK, cxKn, rIxT, rIxL, rIn, rAppend, rReverse, tVals, tDSetd, tDGet, tDGet1, tDGet2, tDIn, tDNotIn, rSortV, rSortT, rPop, rSortL, rSortT, List.append_nil, L2.start, List.map_cons, List.map_nil, List.length_cons, List.length_nil, List.replicate_succ, List.replicate_zero, List.cons_append, List.nil_append, Nat.reduceAdd, Nat.reduceSub, exists_eq, exists_eq', List.getElem?_cons_zero, List.getElem?_cons_succ, List.set_cons_zero, List.set_cons_succ, Option.some.injEq, V.int.injEq, V.bl.injEq, V.str.injEq, V.ref.injEq, List.cons.injEq, and_true, true_and, and_false, false_and, reduceCtorEq, exists_false, or_false, false_or, exists_and_left, exists_and_right, exists_eq_left, exists_eq_left', exists_eq_right, exists_eq_right', exists_const, ite_true, ite_false, Bool.false_eq_true, if_true, if_false, decide_true, decide_false]
      exact q _ _ (x1.trans x2) t2
    refine ite2 (fun _ => spDraw_of (by decide) hs fun r H1 h1 h2 x1 t1 => spDraw_of (by decide) t1 fun r2 H2 h3 h4 x2 t2 => ?_) fun _ => ?_
    · simp only [tSeq, tAsg, gName, tOp, rI, rI0, rU, tUn, tVar, tC, tCB, tCons, tNil, tTest, tIfS, tRet, tRetN, tDrop, tNext, tBreak, tCont, rEq, rNe, CDiv, CDivN, CMul, tBM, tBM0, tTup, tLst, tAug, tIf, tAnd, tOr, tNot, tAndV, tOrV, tNotV, tIsN, tNotN, tB, scal, tCall, cxK, cxKn, rIxT, rIxL, rIn, rAppend, rReverse, tVals, tDSetd, tDGet, tDGet1, tDGet2, tDIn, tDNotIn, rSortV, rSortT, rPop, rSortL, rSortT, List.append_nil, L2.start, List.map_cons, List.map_nil, List.length_cons, List.length_nil, List.replicate_succ, List.replicate_zero, List.cons_append, List.nil_append, Nat.reduceAdd, Nat.reduceSub, exists_eq, exists_eq', List.getElem?_cons_zero, List.getElem?_cons_succ, List.set_cons_zero, List.set_cons_succ, Option.some.injEq, V.int.injEq, V.bl.injEq, V.str.injEq, V.ref.injEq, List.cons.injEq, and_true, true_and, and_false, false_and, reduceCtorEq, exists_false, or_false, false_or, exists_and_left, exists_and_right, exists_eq_left, exists_eq_left', exists_eq_right, exists_eq_right', exists_const, ite_true, ite_false, Bool.false_eq_true, if_true, if_false, decide_true, decide_false]
      exact ⟨.inl (by omega), q _ _ (x1.trans x2) t2⟩
    · exact ⟨a, rfl, hs, q⟩
end
end Mv

set_option Elab.async false
set_option linter.all false
set_option maxRecDepth 100000
set_option maxHeartbeats 4000000
namespace Mv
open PySem PySem.Spec PyProof.Rows L2
section
variable {P : Program} {w : World} {K : PySem.W.Frag} {mg : Str → Option Value} {base : Heap}
theorem scKind : FnScope ["_law_stream_here"] ["_law_stream_here"] (defScope sKind) := ⟨rfl, rfl, rfl, by decide +kernel, rfl, by decide +kernel, by decide +kernel⟩
def kdV (k : Kd) : V := .str k.nm
def spKind : Sp := fun vs H Q _ => ∃ (a : Addr), vs = [.ref a] ∧ Strm H a ∧ ∀ (k : Kd) (H' : Hp), Sx a H H' → Strm H' a → Q (.str k.nm) H'
theorem ok_kind {f : Addr} {fd : FuncData} (F : Fun K "_law_kind" "_law_kind" sKind f fd) (B : Bi mg) (cDraw : CalX CX0 P w K mg base 1 "_law_draw" spDraw) : FnOk P w K mg base CX0 2 f fd ["_law_stream_here"] spKind := by
  refine F.ok scKind (fun vs H Q E h => ?_) (fun cdv A outer s H vs Q E hr h => ?_)
  · obtain ⟨a, rfl, _⟩ := h
    rfl
  · obtain ⟨a, rfl, hs, q⟩ := h
    refine ⟨_, (pss_one (ps_ret (pe_ix ix_tup (pe_tup (pa_cons pe_str (pa_cons pe_str (pa_cons pe_str (pa_cons pe_str (pa_cons pe_str (pa_cons pe_str (pa_cons pe_str (pa_cons pe_str pa_nil))))))))) (pe_cx cDraw hr (by decide) pass0 (by rfl) (pa_cons (pv 0) (pa_cons pe_int pa_nil))) (fun _ _ => rfl)))), ?_⟩
    simp only [tSeq, tAsg, gName, tOp, rI, rI0, rU, tUn, tVar, tC, tCB, tCons, tNil, tTest, tIfS, tRet, tRetN, tDrop, tNext, tBreak, tCont, rEq, rNe, CDiv, CDivN, CMul, tBM, tBM0, tTup, tLst, tAug, tIf, tAnd, tOr, tNot, tAndV, tOrV, tNotV, tIsN, tNotN, tB, scal, tCall, cxK, cxKn, rIxT, rIxL, rIn, rAppend, rReverse, tVals, tDSetd, tDGet, tDGet1, tDGet2, tDIn, tDNotIn, rSortV, rSortT, rPop, rSortL, rSortT, List.append_nil, L2.start, List.map_cons, List.map_nil, List.length_cons, List.length_nil, List.replicate_succ, List.replicate_zero, List.cons_append, List.nil_append, Nat.reduceAdd, Nat.reduceSub, exists_eq, exists_eq', List.getElem?_cons_zero, List.getElem?_cons_succ, List.set_cons_zero, List.set_cons_succ, Option.some.injEq, V.int.injEq, V.bl.injEq, V.str.injEq, V.ref.injEq, List.cons.injEq, and_true, true_and, and_false, false_and, reduceCtorEq, exists_false, or_false, false_or, exists_and_left, exists_and_right, exists_eq_left, exists_eq_left', exists_eq_right, exists_eq_right', exists_const, ite_true, ite_false, Bool.false_eq_true, if_true, if_false, decide_true, decide_false]
    refine ⟨by decide, fun p hp => ?_⟩
    have s1 := same_upd (o := .tup [.str "list", .str "bag", .str "set", .str "first", .str "last", .str "ends", .str "heads", .str "tails"]) hp
    refine spDraw_of (by decide) (hs.same s1) fun r H2 h0 h8 x2 t2 => ?_
    obtain ⟨n, rfl⟩ := Int.eq_ofNat_of_zero_le h0
    have hn : n < kds.length := by
      have : (n : Int) < 8 := h8
      show n < 8
      omega
    have hT : SqT K H2 p (kds.map kdV) := .inl (.inl (x2 _ _ (hs.ne hp).symm upd_same))
    simp only [tSeq, tAsg, gName, tOp, rI, rI0, rU, tUn, tVar, tC, tCB, tCons, tNil, tTest, tIfS, tRet, tRetN, tDrop, tNext, tBreak, tCont, rEq, rNe, CDiv, CDivN, CMul, tBM, tBM0, tTup, tLst, tAug, tIf, tAnd, tOr, tNot, tAndV, tOrV, tNotV, tIsN, tNotN, tB, scal, tCall, cxK, cxKn, rIxT, rIxL, rIn, rAppend, rReverse, tVals, tDSetd, tDGet, tDGet1, tDGet2, tDIn, tDNotIn, rSortV, rSortT, rPop, rSortL, rSortT, List.append_nil, L2.start, List.map_cons, List.map_nil, List.length_cons, List.length_nil, List.replicate_succ, List.replicate_zero, List.cons_append, List.nil_append, Nat.reduceAdd, Nat.reduceSub, exists_eq, exists_eq', List.getElem?_cons_zero, List.getElem?_cons_succ, List.set_cons_zero, List.set_cons_succ, Option.some.injEq, V.int.injEq, V.bl.injEq, V.str.injEq, V.ref.injEq, List.cons.injEq, and_true, true_and, and_false, false_and, reduceCtorEq, exists_false, or_false, false_or, exists_and_left, exists_and_right, exists_eq_left, exists_eq_left', exists_eq_right, exists_eq_right', exists_const, ite_true, ite_false, Bool.false_eq_true, if_true, if_false, decide_true, decide_false]
    refine ⟨kds.map kdV, hT, .str kds[n].nm, atI_nat ?_, q _ _ (Sx.trans (Sx.of s1) x2) t2⟩
    rw [List.getElem?_map, List.getElem?_eq_getElem hn]
    rfl
theorem scWord : FnScope ["_law_stream_here", "_law_size", "_law_style", "_law_k"] ["_law_stream_here", "_law_size", "_law_style"] (defScope sWord) := ⟨rfl, rfl, rfl, by decide +kernel, rfl, by decide +kernel, by decide +kernel⟩
def spWord : Sp := fun vs H Q _ => ∃ (a : Addr) (n : Nat) (z : Int), vs = [.ref a, .int (n : Int), .int z] ∧ n ≤ 1000 ∧ Strm H a ∧ ∀ (xs : List Int) (H' : Hp) (p : Addr), xs.length = n → Sx a H H' → Strm H' a → H p = none → H' p = some (.tup (xs.map V.int)) → Q (.ref p) H'
theorem ok_word {f : Addr} {fd : FuncData} (F : Fun K "_law_word" "_law_word" sWord f fd) (B : Bi mg) (cValue : CalX CX0 P w K mg base 3 "_law_value" spValue) : FnOk P w K mg base CX0 4 f fd ["_law_stream_here", "_law_size", "_law_style"] spWord := by
  refine F.ok scWord (fun vs H Q E h => ?_) (fun cdv A outer s H vs Q E hr h => ?_)
  · obtain ⟨a, n, z, rfl, _⟩ := h
    rfl
  · obtain ⟨a, n, z, rfl, hn, hs, q⟩ := h
    refine ⟨_, (pss_one (ps_ret (pe_callTy call_tuple_of (by rfl) B.tuple (by decide +kernel) (pa_cons (pe_lc (own := [("_law_k", 3)]) (g := gName 3) (tt := tYes) rfl scWord.nd (pi_range1 (by rfl) B.range (pa_cons (pv 1) pa_nil)) (blkOk_by (N := ["_law_stream_here", "_law_size", "_law_style", "_law_k"]) (sc := defScope sWord) (by decide +kernel)) (fun _ _ _ _ _ => (pg_name (i := 3) scWord.nd rfl (.inl rfl))) (fun _ _ _ _ _ => pts_nil) (fun _ _ _ _ _ => (pe_cx cValue hr (by decide) pass0 (by rfl) (pa_cons (pv 0) (pa_cons (pv 2) pa_nil))))) pa_nil)))), ?_⟩
    refine ⟨.int (n : Int), rfl, n, rfl, by omega, by omega, fun D hD => ?_⟩
    refine lc_range (n := n) (fun i H1 => ∃ ys : List Int, ys.length = i ∧ Sx a H H1 ∧ Strm H1 a ∧ H1 D = some (.lst (ys.map V.int))) ⟨[], rfl, Sx.of (same_upd hD), hs.same (same_upd hD), upd_same⟩ ?_ ?_
    · rintro i H1 hi ⟨ys, el, x1, t1, eD⟩
      refine ⟨rfl, .ref a, rfl, .int z, rfl, a, z, rfl, t1, fun r H2 x2 t2 => ?_⟩
      have eD2 := x2 _ _ (hs.ne hD).symm eD
      refine ⟨_, eD2, by rw [List.length_map, el]; exact small4000 (by omega), ys ++ [r], by rw [List.length_append, el]; rfl, fun b o nb e => ?_, ?_, by rw [upd_same, List.map_append]; rfl⟩
      · rw [upd_ne (ne_of_none e hD)]
        exact x2 _ _ nb (x1 _ _ nb e)
      · obtain ⟨ns, e, l⟩ := t2
        exact ⟨ns, by rw [upd_ne (hs.ne hD)]; exact e, l⟩
    · rintro H1 ⟨ys, el, x1, t1, eD⟩
      refine ⟨D, ys.map V.int, rfl, .inl ⟨SqL.of eD, fun l hl => ?_⟩⟩
      have hl0 : H l = none := by
        by_cases hla : l = a
        · subst hla
          obtain ⟨zs, e, _⟩ := t1
          rw [e] at hl
          cases hl
        · cases e : H l with
          | none => rfl
          | some o =>
            rw [x1 _ _ hla e] at hl
            cases hl
      exact q ys _ l el (Sx.trans x1 (Sx.of (same_upd hl))) (t1.same (same_upd hl)) hl0 upd_same
end
end Mv

set_option Elab.async false
set_option linter.all false
set_option maxRecDepth 100000
set_option maxHeartbeats 4000000
namespace Mv
open PySem PySem.Spec PyProof.Rows L2
theorem small1000' {n : Nat} (h : n ≤ 1000) : n ≤ sizeLine := Nat.le_of_lt (small1000 h)
theorem eqV_int (a b : Int) : eqV (.int a) (.int b) = decide (a = b) := by first | rfl | simp [eqV]
theorem inV_int (x : Int) (ns : List Int) : inV (.int x) (ns.map V.int) = decide (x ∈ ns) := by
  induction ns with
  | nil => rfl
  | cons n ns ih =>
    show (eqV (.int n) (.int x) || inV (.int x) (ns.map V.int)) = _
    rw [ih, eqV_int]
    by_cases h : n = x
    · subst h
      simp
    · simp [h, Ne.symm h]
/-- a thing that is no kind's name, as the law draws them -/
inductive BadV (H : Hp) : V → Prop where
  | str (z : Str) (h : ∀ k : Kd, ¬ z = k.nm) (hl : z.length ≤ 100) (hc : ∀ c ∈ z.cps.toList, c < 0x110000) : BadV H (.str z)
  | non : BadV H .non
  | zero : BadV H (.int 0)
  | tup (T : Addr) (h : H T = some (.tup [.str "list"])) : BadV H (.ref T)
/-- a def whose code object is known -/
structure FunC (K : PySem.W.Frag) (x qual : Str) (st : Stmt) (f : Addr) (fd : FuncData) (c : Addr) : Prop where
  ex : ∃ (oc : Value) (od : Option Addr) (kV doc pm : Value) (an : Option Addr) (ct : Value) (osl : Array (Option Value)),
    fd = PySem.W.fnOf x qual (defArgs st) (defBody st) (defScope st) .none kV doc pm an (.ref c) ct ∧ K.lookup f = some ⟨oc, od, .func fd, osl⟩ ∧ PySem.W.codeIn K (.ref c) qual = true
theorem FunC.ok {P : Program} {w : World} {K : PySem.W.Frag} {mg : Str → Option Value} {base : Heap} {x qual : Str} {st : Stmt} {f c : Addr} {fd : FuncData} {N ps : List Str} {k : Nat} {sp : Sp} (F : FunC K x qual st f fd c) (S : FnScope N ps (defScope st)) (len : ∀ vs H Q E, sp vs H Q E → vs.length = ps.length)
    (hbody : ∀ (A : Around) (outer : List Env) (s : Shared) (H : Hp) (vs : List V) (Q : VK) (E : XK), Room k (A.deeper (envOfC qual (defScope st) s.heap.objs.size f (.ref c))) → sp vs H Q E →
      ∃ t, PSs (cxOf CX0 P w K mg base N qual (defScope st) f (.ref c) A outer s H E).nox (defBody st) t ∧ t { nx := fun _ H' => Q .non H', rt := Q } (L2.start N vs) H) : FnOk P w K mg base CX0 (k + 1) f fd ps sp := by
  obtain ⟨oc, od, kV, doc, pm, an, ct, osl, rfl, lk, hcd⟩ := F.ex
  refine fn_of lk hcd S len fun A outer s H vs Q E hr hsp => ?_
  obtain ⟨t, h, q⟩ := hbody A outer s H vs Q E hr hsp
  exact ⟨t, h.nox, q⟩
/-- a word: a tuple or a list of ints -/
def WordS (K : PySem.W.Frag) (H : Hp) (p : Addr) (xs : List Int) : Prop := SqT K H p (xs.map V.int) ∨ SqL K H p (xs.map V.int)
theorem WordS.ext {K : PySem.W.Frag} {H H1 : Hp} {p : Addr} {xs : List Int} (h : WordS K H p xs) (e : LamX.ExtN H H1) : WordS K H1 p xs := sq_extN e h
theorem WordS.same {K : PySem.W.Frag} {H H1 : Hp} {p : Addr} {xs : List Int} (h : WordS K H p xs) (e : Same H H1) : WordS K H1 p xs := h.ext (LamX.ExtN.of e)
theorem ext_upd {H : Hp} {p : Addr} {o : HO} (h : H p = none) : LamX.ExtN H (upd H p o) := LamX.ExtN.of (same_upd h)
theorem tabs_upd {T : List (Addr × Str)} {H : Hp} {p : Addr} {o : HO} (t : LamX.Tabs T H) (h : H p = none) : LamX.Tabs T (upd H p o) := t.ext (same_upd h)
/-- what may make the lambda: all is kept but the tables, which stay tables -/
def Gw (T : List (Addr × Str)) (H H' : Hp) : Prop := LamX.ExtN H H' ∧ LamX.Tabs T H'
theorem Gw.refl {T : List (Addr × Str)} {H : Hp} (t : LamX.Tabs T H) : Gw T H H := ⟨LamX.ExtN.refl H, t⟩
theorem Gw.trans {T : List (Addr × Str)} {H H1 H2 : Hp} (a : Gw T H H1) (b : Gw T H1 H2) : Gw T H H2 := ⟨a.1.trans b.1, b.2⟩
theorem Gw.of {T : List (Addr × Str)} {H H1 : Hp} (t : LamX.Tabs T H) (s : Same H H1) : Gw T H H1 := ⟨LamX.ExtN.of s, t.ext s⟩
theorem Gw.upd {T : List (Addr × Str)} {H H1 : Hp} {p : Addr} {o : HO} (a : Gw T H H1) (h : H1 p = none) : Gw T H (L2.upd H1 p o) := ⟨a.1.trans (ext_upd h), tabs_upd a.2 h⟩
/-- a place that was free, or a table's -/
def Nw (H : Hp) (l : Addr) : Prop := ∀ o, H l = some o → ∃ ps, o = .tbl ps
theorem Gw.nw {T : List (Addr × Str)} {H H1 : Hp} {p : Addr} (a : Gw T H H1) (h : H1 p = none) : Nw H p := fun o e => by
  by_cases hn : ∃ ps, o = HO.tbl ps
  · exact hn
  · have := a.1 _ _ e fun ps z => hn ⟨ps, z⟩
    rw [h] at this
    cases this
abbrev sKeepO : Stmt := inClass (topS 5) 6
abbrev sPlainM : Stmt := inClass (topS 5) 7
abbrev sKeepB : Stmt := inClass (topS 6) 6
abbrev sKeepS : Stmt := inClass (topS 7) 6
abbrev sKeepH : Stmt := inClass (topS 8) 6
abbrev sKeepF : Stmt := inClass (topS 9) 6
abbrev sKeepT : Stmt := inClass (topS 10) 6
abbrev sKeepL : Stmt := inClass (topS 11) 6
abbrev sKeepE : Stmt := inClass (topS 12) 6
abbrev sLeast : Stmt := topS 13
abbrev sGreat : Stmt := topS 14
def ixV (is : List Nat) : List V := is.map fun i : Nat => V.int (i : Int)
theorem ixV_int (is : List Nat) : ixV is = (is.map fun i : Nat => (i : Int)).map V.int := by
  unfold ixV
  rw [List.map_map]
  rfl
def spKeep (K : PySem.W.Frag) (T : List (Addr × Str)) (k : Kd) : Sp := fun vs H Q _ => ∃ (x : V) (p : Addr) (xs : List Int), vs = [x, .ref p] ∧ WordS K H p xs ∧ xs.length ≤ 60 ∧ LamX.Tabs T H ∧ ∀ (H' : Hp) (l : Addr), Gw T H H' → Nw H l → H' l = some (.lst (ixV (keepIx k xs))) → Q (.ref l) H'
def spLeast (K : PySem.W.Frag) : Sp := fun vs H Q _ => ∃ (p : Addr) (xs : List Int), vs = [.ref p] ∧ WordS K H p xs ∧ xs.length ≤ 60 ∧ ∀ (H' : Hp) (d : Addr), Same H H' → H' d = some (.dK (leastD xs xs.length)) → Q (.ref d) H'
def spGreat (K : PySem.W.Frag) : Sp := fun vs H Q _ => ∃ (p : Addr) (xs : List Int), vs = [.ref p] ∧ WordS K H p xs ∧ xs.length ≤ 60 ∧ ∀ (H' : Hp) (d : Addr), Same H H' → H' d = some (.dK (greatD xs xs.length)) → Q (.ref d) H'
theorem rg_ix (n : Nat) : rgV 0 (n : Int) = ixV (List.range n) := by
  unfold rgV ixV
  rw [Int.sub_zero, Int.toNat_natCast]
  exact List.map_congr_left fun i _ => by rw [Int.zero_add]
/-- the two walks of a word -/
def YWord (xs : List Int) : Nat → Hp → V → Hp → Prop := YPair (fun i => some (.int (i : Nat))) (fun i => (xs.map V.int)[i]?)
section
variable {P : Program} {w : World} {K : PySem.W.Frag} {mg : Str → Option Value} {base : Heap} {T : List (Addr × Str)}
theorem scKO : FnScope ["self", "word"] ["self", "word"] (defScope sKeepO) := ⟨rfl, rfl, rfl, by decide +kernel, rfl, by decide +kernel, by decide +kernel⟩
theorem ok_keepO {f : Addr} {fd : FuncData} (F : Fun K "keep" "Kind.keep" sKeepO f fd) (B : Bi mg) : FnOk P w K mg base CX0 2 f fd ["self", "word"] (spKeep K T .list) := by
  refine F.ok scKO (fun vs H Q E h => ?_) (fun cdv A outer s H vs Q E hr h => ?_)
  · obtain ⟨x, p, xs, rfl, _⟩ := h
    rfl
  · obtain ⟨x, p, xs, rfl, hw, hl, ht, q⟩ := h
    refine ⟨_, pss_one (ps_ret (pe_listRg rfl (by rfl) B.list (prg_1 (by rfl) B.range (pe_callB call_len_seq (by rfl) B.len PySem.boot_len (pa_cons (pv 1) pa_nil))))), ?_⟩
    refine ⟨_, rfl, p, xs.map V.int, rfl, hw.symm, (xs.length : Int), by rw [List.length_map], .of_le (by omega) (by omega) (by omega) (by omega), fun l hl => ?_⟩
    rw [rg_ix]
    exact q _ l (Gw.upd (.refl ht) hl) (Gw.nw (.refl ht) hl) upd_same
theorem scKF : FnScope ["self", "word"] ["self", "word"] (defScope sKeepF) := ⟨rfl, rfl, rfl, by decide +kernel, rfl, by decide +kernel, by decide +kernel⟩
theorem ok_keepF {f : Addr} {fd : FuncData} (F : Fun K "keep" "FirstKind.keep" sKeepF f fd) (B : Bi mg) : FnOk P w K mg base CX0 2 f fd ["self", "word"] (spKeep K T .first) := by
  refine F.ok scKF (fun vs H Q E h => ?_) (fun cdv A outer s H vs Q E hr h => ?_)
  · obtain ⟨x, p, xs, rfl, _⟩ := h
    rfl
  · obtain ⟨x, p, xs, rfl, hw, hl, ht, q⟩ := h
    refine ⟨_, (pss_one (ps_ret (pe_ifExp (pt_cmpR op_gt (pe_callB call_len_seq (by rfl) B.len PySem.boot_len (pa_cons (pv 1) pa_nil)) pe_int (nomark _)) (pe_lst (pa_cons pe_int pa_nil)) (pe_lst pa_nil)))), ?_⟩
    simp only [tSeq, tAsg, gName, tOp, rI, rI0, rU, tUn, tVar, tC, tCB, tCons, tNil, tTest, tIfS, tRet, tRetN, tDrop, tNext, tBreak, tCont, rEq, rNe, CDiv, CDivN, CMul, tBM, tBM0, tTup, tLst, tAug, tIf, tAnd, tOr, tNot, tAndV, tOrV, tNotV, tIsN, tNotN, tB, scal, tCall, cxK, cxKn, rIxT, rIxL, rIn, rAppend, rReverse, tVals, tDSetd, tDGet, tDGet1, tDGet2, tDIn, tDNotIn, rSortV, rSortT, rPop, rSortL, rSortT, tSl, tNoPart, tPart, List.append_nil, L2.start, List.map_cons, List.map_nil, List.length_cons, List.length_nil, List.replicate_succ, List.replicate_zero, List.cons_append, List.nil_append, Nat.reduceAdd, Nat.reduceSub, exists_eq, exists_eq', List.getElem?_cons_zero, List.getElem?_cons_succ, List.set_cons_zero, List.set_cons_succ, Option.some.injEq, V.int.injEq, V.bl.injEq, V.str.injEq, V.ref.injEq, List.cons.injEq, and_true, true_and, and_false, false_and, reduceCtorEq, exists_false, or_false, false_or, exists_and_left, exists_and_right, exists_eq_left, exists_eq_left', exists_eq_right, exists_eq_right', exists_const, ite_true, ite_false, Bool.false_eq_true, if_true, if_false, decide_true, decide_false]
    refine ⟨xs.map V.int, hw.symm, ite2 (fun e => ?_) (fun e => ?_)⟩
    · have e1 := of_decide_eq_true e
      rw [List.length_map] at e1
      have e2 : ¬ xs.length = 0 := by omega
      refine ⟨by decide, fun l hl => q _ l (Gw.upd (.refl ht) hl) (Gw.nw (.refl ht) hl) ?_⟩
      rw [show keepIx .first xs = [0] from if_neg e2]
      exact upd_same
    · have e2 : xs.length = 0 := by
        refine Decidable.byContradiction fun z => e (decide_eq_true ?_)
        rw [List.length_map]
        omega
      refine ⟨Nat.zero_le _, fun l hl => q _ l (Gw.upd (.refl ht) hl) (Gw.nw (.refl ht) hl) ?_⟩
      rw [show keepIx .first xs = [] from if_pos e2]
      exact upd_same
theorem scKL : FnScope ["self", "word"] ["self", "word"] (defScope sKeepL) := ⟨rfl, rfl, rfl, by decide +kernel, rfl, by decide +kernel, by decide +kernel⟩
theorem ok_keepL {f : Addr} {fd : FuncData} (F : Fun K "keep" "LastKind.keep" sKeepL f fd) (B : Bi mg) : FnOk P w K mg base CX0 2 f fd ["self", "word"] (spKeep K T .last) := by
  refine F.ok scKL (fun vs H Q E h => ?_) (fun cdv A outer s H vs Q E hr h => ?_)
  · obtain ⟨x, p, xs, rfl, _⟩ := h
    rfl
  · obtain ⟨x, p, xs, rfl, hw, hl, ht, q⟩ := h
    refine ⟨_, (pss_one (ps_ret (pe_ifExp (pt_cmpR op_gt (pe_callB call_len_seq (by rfl) B.len PySem.boot_len (pa_cons (pv 1) pa_nil)) pe_int (nomark _)) (pe_lst (pa_cons (pe_op op_sub (pe_callB call_len_seq (by rfl) B.len PySem.boot_len (pa_cons (pv 1) pa_nil)) pe_int) pa_nil)) (pe_lst pa_nil)))), ?_⟩
    simp only [tSeq, tAsg, gName, tOp, rI, rI0, rU, tUn, tVar, tC, tCB, tCons, tNil, tTest, tIfS, tRet, tRetN, tDrop, tNext, tBreak, tCont, rEq, rNe, CDiv, CDivN, CMul, tBM, tBM0, tTup, tLst, tAug, tIf, tAnd, tOr, tNot, tAndV, tOrV, tNotV, tIsN, tNotN, tB, scal, tCall, cxK, cxKn, rIxT, rIxL, rIn, rAppend, rReverse, tVals, tDSetd, tDGet, tDGet1, tDGet2, tDIn, tDNotIn, rSortV, rSortT, rPop, rSortL, rSortT, tSl, tNoPart, tPart, List.append_nil, L2.start, List.map_cons, List.map_nil, List.length_cons, List.length_nil, List.replicate_succ, List.replicate_zero, List.cons_append, List.nil_append, Nat.reduceAdd, Nat.reduceSub, exists_eq, exists_eq', List.getElem?_cons_zero, List.getElem?_cons_succ, List.set_cons_zero, List.set_cons_succ, Option.some.injEq, V.int.injEq, V.bl.injEq, V.str.injEq, V.ref.injEq, List.cons.injEq, and_true, true_and, and_false, false_and, reduceCtorEq, exists_false, or_false, false_or, exists_and_left, exists_and_right, exists_eq_left, exists_eq_left', exists_eq_right, exists_eq_right', exists_const, ite_true, ite_false, Bool.false_eq_true, if_true, if_false, decide_true, decide_false]
    refine ⟨xs.map V.int, hw.symm, ite2 (fun e => ?_) (fun e => ?_)⟩
    · have e1 := of_decide_eq_true e
      rw [List.length_map] at e1
      have e2 : ¬ xs.length = 0 := by omega
      refine ⟨xs.map V.int, hw.symm, by decide, fun l hl => q _ l (Gw.upd (.refl ht) hl) (Gw.nw (.refl ht) hl) ?_⟩
      rw [show keepIx .last xs = [xs.length - 1] from if_neg e2, upd_same]
      show _ = some (HO.lst [V.int ((xs.length - 1 : Nat) : Int)])
      rw [List.length_map, show ((xs.length - 1 : Nat) : Int) = (xs.length : Int) - 1 from by omega]
    · have e2 : xs.length = 0 := by
        refine Decidable.byContradiction fun z => e (decide_eq_true ?_)
        rw [List.length_map]
        omega
      refine ⟨Nat.zero_le _, fun l hl => q _ l (Gw.upd (.refl ht) hl) (Gw.nw (.refl ht) hl) ?_⟩
      rw [show keepIx .last xs = [] from if_pos e2]
      exact upd_same
theorem scKE : FnScope ["self", "word"] ["self", "word"] (defScope sKeepE) := ⟨rfl, rfl, rfl, by decide +kernel, rfl, by decide +kernel, by decide +kernel⟩
theorem ok_keepE {f : Addr} {fd : FuncData} (F : Fun K "keep" "EndsKind.keep" sKeepE f fd) (B : Bi mg) : FnOk P w K mg base CX0 2 f fd ["self", "word"] (spKeep K T .ends) := by
  refine F.ok scKE (fun vs H Q E h => ?_) (fun cdv A outer s H vs Q E hr h => ?_)
  · obtain ⟨x, p, xs, rfl, _⟩ := h
    rfl
  · obtain ⟨x, p, xs, rfl, hw, hl, ht, q⟩ := h
    refine ⟨_, (pss_one (ps_ret (pe_ifExp (pt_cmpR op_gt (pe_callB call_len_seq (by rfl) B.len PySem.boot_len (pa_cons (pv 1) pa_nil)) pe_int (nomark _)) (pe_lst (pa_cons pe_int (pa_cons (pe_op op_sub (pe_callB call_len_seq (by rfl) B.len PySem.boot_len (pa_cons (pv 1) pa_nil)) pe_int) pa_nil))) (pe_lst pa_nil)))), ?_⟩
    simp only [tSeq, tAsg, gName, tOp, rI, rI0, rU, tUn, tVar, tC, tCB, tCons, tNil, tTest, tIfS, tRet, tRetN, tDrop, tNext, tBreak, tCont, rEq, rNe, CDiv, CDivN, CMul, tBM, tBM0, tTup, tLst, tAug, tIf, tAnd, tOr, tNot, tAndV, tOrV, tNotV, tIsN, tNotN, tB, scal, tCall, cxK, cxKn, rIxT, rIxL, rIn, rAppend, rReverse, tVals, tDSetd, tDGet, tDGet1, tDGet2, tDIn, tDNotIn, rSortV, rSortT, rPop, rSortL, rSortT, tSl, tNoPart, tPart, List.append_nil, L2.start, List.map_cons, List.map_nil, List.length_cons, List.length_nil, List.replicate_succ, List.replicate_zero, List.cons_append, List.nil_append, Nat.reduceAdd, Nat.reduceSub, exists_eq, exists_eq', List.getElem?_cons_zero, List.getElem?_cons_succ, List.set_cons_zero, List.set_cons_succ, Option.some.injEq, V.int.injEq, V.bl.injEq, V.str.injEq, V.ref.injEq, List.cons.injEq, and_true, true_and, and_false, false_and, reduceCtorEq, exists_false, or_false, false_or, exists_and_left, exists_and_right, exists_eq_left, exists_eq_left', exists_eq_right, exists_eq_right', exists_const, ite_true, ite_false, Bool.false_eq_true, if_true, if_false, decide_true, decide_false]
    refine ⟨xs.map V.int, hw.symm, ite2 (fun e => ?_) (fun e => ?_)⟩
    · have e1 := of_decide_eq_true e
      rw [List.length_map] at e1
      have e2 : ¬ xs.length = 0 := by omega
      refine ⟨xs.map V.int, hw.symm, by decide, fun l hl => q _ l (Gw.upd (.refl ht) hl) (Gw.nw (.refl ht) hl) ?_⟩
      rw [show keepIx .ends xs = [0, xs.length - 1] from if_neg e2, upd_same]
      show _ = some (HO.lst [V.int 0, V.int ((xs.length - 1 : Nat) : Int)])
      rw [List.length_map, show ((xs.length - 1 : Nat) : Int) = (xs.length : Int) - 1 from by omega]
    · have e2 : xs.length = 0 := by
        refine Decidable.byContradiction fun z => e (decide_eq_true ?_)
        rw [List.length_map]
        omega
      refine ⟨Nat.zero_le _, fun l hl => q _ l (Gw.upd (.refl ht) hl) (Gw.nw (.refl ht) hl) ?_⟩
      rw [show keepIx .ends xs = [] from if_pos e2]
      exact upd_same
theorem scKB : FnScope ["self", "word"] ["self", "word"] (defScope sKeepB) := ⟨rfl, rfl, rfl, by decide +kernel, rfl, by decide +kernel, by decide +kernel⟩
def lamQ : Str := ("BagKind.keep" : Str) ++ ".<locals>." ++ "<lambda>"
theorem ok_keepB {f c Pt : Addr} {fd : FuncData} (F : FunC K "keep" "BagKind.keep" sKeepB f fd c) (B : Bi mg) (TB : LamX.TabB base mg c Pt) : FnOk P w K mg base CX0 2 f fd ["self", "word"] (spKeep K [(Pt, lamQ)] .bag) := by
  refine F.ok scKB (fun vs H Q E h => ?_) (fun A outer s H vs Q E hr h => ?_)
  · obtain ⟨x, p, xs, rfl, _⟩ := h
    rfl
  · obtain ⟨x, p, xs, rfl, hw, hl, ht, q⟩ := h
    refine ⟨_, pss_one (ps_ret (pe_sortAt (T := [(Pt, lamQ)]) (i := 1) rfl hr (by rfl) B.sorted (by rfl) B.range (pe_callB call_len_seq (by rfl) B.len PySem.boot_len (pa_cons (pv 1) pa_nil)) TB rfl (List.mem_singleton.mpr rfl) (fun p hp _ => by rw [List.mem_singleton.mp hp]; rfl) rfl (by rfl) rfl (by rfl) rfl rfl rfl (fun _ _ _ _ _ _ => rfl))), ?_⟩
    refine ⟨_, rfl, p, xs.map V.int, rfl, hw.symm, p, xs, rfl, by rw [List.length_map], hw, by omega, ht, fun H2 l e2 t2 hl2 => ?_⟩
    exact q _ l (Gw.upd ⟨e2, t2⟩ hl2) (Gw.nw ⟨e2, t2⟩ hl2) upd_same
end
end Mv

set_option Elab.async false
set_option linter.all false
set_option maxRecDepth 100000
set_option maxHeartbeats 4000000
namespace Mv
open PySem PySem.Spec PyProof.Rows L2
section
variable {P : Program} {w : World} {K : PySem.W.Frag} {mg : Str → Option Value} {base : Heap} {T : List (Addr × Str)}
/-- what least_places does between two turns -/
def LpI (H : Hp) (p o : Addr) (xs : List Int) (i : Nat) (σ : L2.St) (H' : Hp) : Prop := ∃ y2 y3, σ = [some (.ref p), some (.ref o), y2, y3] ∧ Same H H' ∧ H' o = some (.dK (leastD xs i))
theorem scLe : FnScope ["word", "places", "at", "value"] ["word"] (defScope sLeast) := ⟨rfl, rfl, rfl, by decide +kernel, rfl, by decide +kernel, by decide +kernel⟩
theorem ok_least {f : Addr} {fd : FuncData} (F : Fun K "least_places" "least_places" sLeast f fd) (B : Bi mg) : FnOk P w K mg base CX0 1 f fd ["word"] (spLeast K) := by
  refine F.ok scLe (fun vs H Q E h => ?_) (fun cdv A outer s H vs Q E hr h => ?_)
  · obtain ⟨p, xs, rfl, _⟩ := h
    rfl
  · obtain ⟨p, xs, rfl, hw, hl, q⟩ := h
    rcases hw with hw | hw
    case' inl => refine ⟨_, (pss_cons (ps_set (i := 1) scLe.nd rfl (.inl rfl) pe_dnewK)
 (pss_cons (ps_for PassesOwn.never rfl (pi_enumT (by rfl) B.enumerate (pa_cons (pv 0) pa_nil)) (pg_tup rfl (pgs_cons (pg_name (i := 2) scLe.nd rfl (.inl rfl)) (pgs_cons (pg_name (i := 3) scLe.nd rfl (.inl rfl)) pgs_nil)))
 (pss_one (ps_expr (pe_dsetd (pv 1) (pv 3) (pv 2) ⟨by rfl, by rfl, by rfl, by rfl⟩))))
 (pss_one (ps_ret (pv 1))))), ?_⟩
    case' inr => refine ⟨_, (pss_cons (ps_set (i := 1) scLe.nd rfl (.inl rfl) pe_dnewK)
 (pss_cons (ps_for PassesOwn.never rfl (pi_enum (by rfl) B.enumerate (pa_cons (pv 0) pa_nil)) (pg_tup rfl (pgs_cons (pg_name (i := 2) scLe.nd rfl (.inl rfl)) (pgs_cons (pg_name (i := 3) scLe.nd rfl (.inl rfl)) pgs_nil)))
 (pss_one (ps_expr (pe_dsetd (pv 1) (pv 3) (pv 2) ⟨by rfl, by rfl, by rfl, by rfl⟩))))
 (pss_one (ps_ret (pv 1))))), ?_⟩
    all_goals
      refine fun o no => ?_
      have so := same_upd (o := .dK []) no
    case' inl =>
      have hw1 := Same.tup so hw
      refine ⟨.ref p, rfl, p, _, rfl, hw1, ?_⟩
      refine for_it walk_enumT (fun i σ H' => LpI H p o xs i σ H') ⟨none, none, rfl, so, upd_same⟩ (fun i σ H' _ ⟨_, _, _, s3, _⟩ => Same.tup s3 hw) ?_ ?_
    case' inr =>
      have hw1 := so.seq hw
      refine ⟨.ref p, rfl, p, _, rfl, hw1, ?_⟩
      refine for_it walk_enum (fun i σ H' => LpI H p o xs i σ H') ⟨none, none, rfl, so, upd_same⟩ (fun i σ H' _ ⟨_, _, _, s3, _⟩ => s3.seq hw) ?_ ?_
    all_goals
      first
      | rintro i x σ H3 H4 hi ⟨y2, y3, rfl, sm, hd⟩ ⟨t, x1, x2, rfl, nT, rfl, e1, e2⟩
        obtain rfl : V.int (i : Nat) = x1 := Option.some.inj e1
        obtain ⟨u, rfl, hu⟩ := int_at e2
        rw [List.length_map] at hi
        have smT : Same H3 (upd H3 t (.tup [.int (i : Nat), .int u])) := same_upd nT
        refine ⟨t, [.int (i : Nat), .int u], rfl, .inl (.inl upd_same), rfl, .int (i : Nat), [.int (i : Nat), .int u].tail, rfl, .int u, [], rfl, rfl, ?_⟩
        have hd4 := smT _ _ hd
        have sm4 := sm.trans smT
        generalize upd H3 t (.tup [.int (i : Nat), .int u]) = H4 at hd4 sm4 ⊢
        simp only [tSeq, tAsg, gName, tOp, rI, rI0, rU, tUn, tVar, tC, tCB, tCons, tNil, tTest, tIfS, tRet, tRetN, tDrop, tNext, tBreak, tCont, rEq, rNe, CDiv, CDivN, CMul, tBM, tBM0, tTup, tLst, tAug, tIf, tAnd, tOr, tNot, tAndV, tOrV, tNotV, tIsN, tNotN, tB, scal, tCall, cxK, cxKn, rIxT, rIxL, rIn, rAppend, rReverse, tVals, tDSetd, tDGet, tDGet1, tDGet2, tDIn, tDNotIn, rSortV, rSortT, rPop, rSortL, rSortT, tSl, tNoPart, tPart, List.append_nil, L2.start, List.map_cons, List.map_nil, List.length_cons, List.length_nil, List.replicate_succ, List.replicate_zero, List.cons_append, List.nil_append, Nat.reduceAdd, Nat.reduceSub, exists_eq, exists_eq', List.getElem?_cons_zero, List.getElem?_cons_succ, List.set_cons_zero, List.set_cons_succ, Option.some.injEq, V.int.injEq, V.bl.injEq, V.str.injEq, V.ref.injEq, List.cons.injEq, and_true, true_and, and_false, false_and, reduceCtorEq, exists_false, or_false, false_or, exists_and_left, exists_and_right, exists_eq_left, exists_eq_left', exists_eq_right, exists_eq_right', exists_const, ite_true, ite_false, Bool.false_eq_true, if_true, if_false, decide_true, decide_false]
        refine ⟨.inl ⟨_, .inl hd4⟩, _, hd4, .inl u, rfl, Nat.lt_of_le_of_lt (leastD_len xs i) (by rw [sizeLine_eq]; omega), fun v hv => ?_, fun hv => ?_⟩
        · have hx : u ∈ xs.take i := by
            refine Decidable.byContradiction fun z => ?_
            unfold leastD at hv
            rw [val_map, if_neg fun y => z ((mem_headsI _).mp y)] at hv
            cases hv
          exact ⟨_, _, rfl, sm4, by rw [least_hit hu hx]; exact hd4⟩
        · have hx : u ∉ xs.take i := fun z => by
            unfold leastD at hv
            rw [val_map, if_pos ((mem_headsI _).mpr z)] at hv
            cases hv
          exact ⟨_, _, rfl, fun b z e => by rw [upd_ne (ne_of_none e no)]; exact sm4 _ _ e, by rw [least_new hu hx]; exact upd_same⟩
      | rintro σ H3 ⟨y2, y3, rfl, sm, hd⟩
        rw [List.length_map] at hd
        simp only [tSeq, tAsg, gName, tOp, rI, rI0, rU, tUn, tVar, tC, tCB, tCons, tNil, tTest, tIfS, tRet, tRetN, tDrop, tNext, tBreak, tCont, rEq, rNe, CDiv, CDivN, CMul, tBM, tBM0, tTup, tLst, tAug, tIf, tAnd, tOr, tNot, tAndV, tOrV, tNotV, tIsN, tNotN, tB, scal, tCall, cxK, cxKn, rIxT, rIxL, rIn, rAppend, rReverse, tVals, tDSetd, tDGet, tDGet1, tDGet2, tDIn, tDNotIn, rSortV, rSortT, rPop, rSortL, rSortT, tSl, tNoPart, tPart, List.append_nil, L2.start, List.map_cons, List.map_nil, List.length_cons, List.length_nil, List.replicate_succ, List.replicate_zero, List.cons_append, List.nil_append, Nat.reduceAdd, Nat.reduceSub, exists_eq, exists_eq', List.getElem?_cons_zero, List.getElem?_cons_succ, List.set_cons_zero, List.set_cons_succ, Option.some.injEq, V.int.injEq, V.bl.injEq, V.str.injEq, V.ref.injEq, List.cons.injEq, and_true, true_and, and_false, false_and, reduceCtorEq, exists_false, or_false, false_or, exists_and_left, exists_and_right, exists_eq_left, exists_eq_left', exists_eq_right, exists_eq_right', exists_const, ite_true, ite_false, Bool.false_eq_true, if_true, if_false, decide_true, decide_false]
        exact q _ o sm hd
theorem scGr : FnScope ["word", "at", "value"] ["word"] (defScope sGreat) := ⟨rfl, rfl, rfl, by decide +kernel, rfl, by decide +kernel, by decide +kernel⟩
theorem ok_great {f : Addr} {fd : FuncData} (F : Fun K "greatest_places" "greatest_places" sGreat f fd) (B : Bi mg) : FnOk P w K mg base CX0 1 f fd ["word"] (spGreat K) := by
  refine F.ok scGr (fun vs H Q E h => ?_) (fun cdv A outer s H vs Q E hr h => ?_)
  · obtain ⟨p, xs, rfl, _⟩ := h
    rfl
  · obtain ⟨p, xs, rfl, hw, hl, q⟩ := h
    rcases hw with hw | hw
    case' inl => refine ⟨_, (pss_one (ps_ret (pe_dc (own := [("at", 1), ("value", 2)]) (g := gTup K 2 (gCons (gName 1) (gCons (gName 2) gNil))) (tt := tYes) rfl scGr.nd (pi_enumT (by rfl) B.enumerate (pa_cons (pv 0) pa_nil)) (blkOk_by (N := ["word", "at", "value"]) (sc := defScope sGreat) (by decide +kernel)) (fun _ _ _ _ _ => (pg_tup rfl (pgs_cons (pg_name (i := 1) scGr.nd rfl (.inl rfl)) (pgs_cons (pg_name (i := 2) scGr.nd rfl (.inl rfl)) pgs_nil)))) (fun _ _ _ _ _ => pts_nil) (fun _ _ _ _ _ => (pv 2)) (fun _ _ _ _ _ => (pv 1))))), ?_⟩
    case' inr => refine ⟨_, (pss_one (ps_ret (pe_dc (own := [("at", 1), ("value", 2)]) (g := gTup K 2 (gCons (gName 1) (gCons (gName 2) gNil))) (tt := tYes) rfl scGr.nd (pi_enum (by rfl) B.enumerate (pa_cons (pv 0) pa_nil)) (blkOk_by (N := ["word", "at", "value"]) (sc := defScope sGreat) (by decide +kernel)) (fun _ _ _ _ _ => (pg_tup rfl (pgs_cons (pg_name (i := 1) scGr.nd rfl (.inl rfl)) (pgs_cons (pg_name (i := 2) scGr.nd rfl (.inl rfl)) pgs_nil)))) (fun _ _ _ _ _ => pts_nil) (fun _ _ _ _ _ => (pv 2)) (fun _ _ _ _ _ => (pv 1))))), ?_⟩
    case' inl =>
      refine ⟨.ref p, rfl, p, _, rfl, hw, fun o no => ?_⟩
      have so := same_upd (o := .dK []) no
      refine dc_it walk_enumT (fun i H' => Same H H' ∧ H' o = some (.dK (greatD xs i))) ⟨so, upd_same⟩ (fun i H' _ h => Same.tup h.1 hw) ?_ ?_
    case' inr =>
      refine ⟨.ref p, rfl, p, _, rfl, hw, fun o no => ?_⟩
      have so := same_upd (o := .dK []) no
      refine dc_it walk_enum (fun i H' => Same H H' ∧ H' o = some (.dK (greatD xs i))) ⟨so, upd_same⟩ (fun i H' _ h => h.1.seq hw) ?_ ?_
    all_goals
      first
      | rintro i x H3 H4 hi ⟨sm, hd⟩ ⟨t, x1, x2, rfl, nT, rfl, e1, e2⟩
        obtain rfl : V.int (i : Nat) = x1 := Option.some.inj e1
        obtain ⟨u, rfl, hu⟩ := int_at e2
        rw [List.length_map] at hi
        have smT : Same H3 (upd H3 t (.tup [.int (i : Nat), .int u])) := same_upd nT
        refine ⟨t, [.int (i : Nat), .int u], rfl, .inl (.inl upd_same), rfl, .int (i : Nat), [.int (i : Nat), .int u].tail, rfl, .int u, [], rfl, rfl, ?_⟩
        have hd4 := smT _ _ hd
        have sm4 := sm.trans smT
        generalize upd H3 t (.tup [.int (i : Nat), .int u]) = H4 at hd4 sm4 ⊢
        refine ⟨rfl, .int u, rfl, .int (i : Nat), rfl, _, .inl u, rfl, hd4, Nat.lt_of_le_of_lt (greatD_len xs i) (by rw [sizeLine_eq]; omega), fun b z e => ?_, ?_⟩
        · rw [upd_ne (ne_of_none e no)]
          exact sm4 _ _ e
        · rw [great_put hu]
          exact upd_same
      | rintro H3 ⟨sm, hd⟩
        rw [List.length_map] at hd
        exact q _ o sm hd
/-! ### keep, by the dicts -/
abbrev N3 : List Str := ["self", "word", "places"]
theorem scKH : FnScope ["self", "word", "places"] ["self", "word"] (defScope sKeepH) := ⟨rfl, rfl, rfl, by decide +kernel, rfl, by decide +kernel, by decide +kernel⟩
theorem ok_keepH {f : Addr} {fd : FuncData} (F : Fun K "keep" "HeadsKind.keep" sKeepH f fd) (B : Bi mg) (cLeast : CalX CX0 P w K mg base 1 "least_places" (spLeast K)) : FnOk P w K mg base CX0 2 f fd ["self", "word"] (spKeep K T .heads) := by
  refine F.ok scKH (fun vs H Q E h => ?_) (fun cdv A outer s H vs Q E hr h => ?_)
  · obtain ⟨x, p, xs, rfl, _⟩ := h
    rfl
  · obtain ⟨x, p, xs, rfl, hw, hl, ht, q⟩ := h
    refine ⟨_, (pss_cons (ps_set (i := 2) scKH.nd rfl (.inl rfl) (pe_cx cLeast hr (by decide) pass0 (by rfl) (pa_cons (pv 1) pa_nil)))
 (pss_one (ps_ret (pe_callB (cr_sortV rfl) (by rfl) B.sorted (by decide +kernel) (pa_cons (pe_vals (pv 2)) pa_nil))))), ?_⟩
    simp only [tSeq, tAsg, gName, tOp, rI, rI0, rU, tUn, tVar, tC, tCB, tCons, tNil, tTest, tIfS, tRet, tRetN, tDrop, tNext, tBreak, tCont, rEq, rNe, CDiv, CDivN, CMul, tBM, tBM0, tTup, tLst, tAug, tIf, tAnd, tOr, tNot, tAndV, tOrV, tNotV, tIsN, tNotN, tB, scal, tCall, cxK, cxKn, rIxT, rIxL, rIn, rAppend, rReverse, tVals, tDSetd, tDGet, tDGet1, tDGet2, tDIn, tDNotIn, rSortV, rSortT, rPop, rSortL, rSortT, tSl, tNoPart, tPart, List.append_nil, L2.start, List.map_cons, List.map_nil, List.length_cons, List.length_nil, List.replicate_succ, List.replicate_zero, List.cons_append, List.nil_append, Nat.reduceAdd, Nat.reduceSub, exists_eq, exists_eq', List.getElem?_cons_zero, List.getElem?_cons_succ, List.set_cons_zero, List.set_cons_succ, Option.some.injEq, V.int.injEq, V.bl.injEq, V.str.injEq, V.ref.injEq, List.cons.injEq, and_true, true_and, and_false, false_and, reduceCtorEq, exists_false, or_false, false_or, exists_and_left, exists_and_right, exists_eq_left, exists_eq_left', exists_eq_right, exists_eq_right', exists_const, ite_true, ite_false, Bool.false_eq_true, if_true, if_false, decide_true, decide_false]
    refine ⟨p, xs, rfl, hw, hl, fun H1 d s1 hd => ?_⟩
    simp only [tSeq, tAsg, gName, tOp, rI, rI0, rU, tUn, tVar, tC, tCB, tCons, tNil, tTest, tIfS, tRet, tRetN, tDrop, tNext, tBreak, tCont, rEq, rNe, CDiv, CDivN, CMul, tBM, tBM0, tTup, tLst, tAug, tIf, tAnd, tOr, tNot, tAndV, tOrV, tNotV, tIsN, tNotN, tB, scal, tCall, cxK, cxKn, rIxT, rIxL, rIn, rAppend, rReverse, tVals, tDSetd, tDGet, tDGet1, tDGet2, tDIn, tDNotIn, rSortV, rSortT, rPop, rSortL, rSortT, tSl, tNoPart, tPart, List.append_nil, L2.start, List.map_cons, List.map_nil, List.length_cons, List.length_nil, List.replicate_succ, List.replicate_zero, List.cons_append, List.nil_append, Nat.reduceAdd, Nat.reduceSub, exists_eq, exists_eq', List.getElem?_cons_zero, List.getElem?_cons_succ, List.set_cons_zero, List.set_cons_succ, Option.some.injEq, V.int.injEq, V.bl.injEq, V.str.injEq, V.ref.injEq, List.cons.injEq, and_true, true_and, and_false, false_and, reduceCtorEq, exists_false, or_false, false_or, exists_and_left, exists_and_right, exists_eq_left, exists_eq_left', exists_eq_right, exists_eq_right', exists_const, ite_true, ite_false, Bool.false_eq_true, if_true, if_false, decide_true, decide_false]
    refine ⟨⟨_, hd⟩, fun v hv => ⟨d, upd_same, leastD xs xs.length, by rw [upd_ne (ne_of_none hd hv)]; exact hd, (headsI xs).map fun x => ((xs.idxOf x : Nat) : Int), ?_, fun l hl' => ?_⟩⟩
    · unfold leastD
      rw [List.take_length, List.map_map, List.map_map]
      rfl
    · rw [sort_ixs, ← ixV_int]
      exact q _ l (Gw.upd (Gw.upd (.of ht s1) hv) hl') (Gw.nw (Gw.upd (.of ht s1) hv) hl') upd_same
theorem scKT : FnScope ["self", "word", "places"] ["self", "word"] (defScope sKeepT) := ⟨rfl, rfl, rfl, by decide +kernel, rfl, by decide +kernel, by decide +kernel⟩
theorem ok_keepT {f : Addr} {fd : FuncData} (F : Fun K "keep" "TailsKind.keep" sKeepT f fd) (B : Bi mg) (cGreat : CalX CX0 P w K mg base 1 "greatest_places" (spGreat K)) : FnOk P w K mg base CX0 2 f fd ["self", "word"] (spKeep K T .tails) := by
  refine F.ok scKT (fun vs H Q E h => ?_) (fun cdv A outer s H vs Q E hr h => ?_)
  · obtain ⟨x, p, xs, rfl, _⟩ := h
    rfl
  · obtain ⟨x, p, xs, rfl, hw, hl, ht, q⟩ := h
    refine ⟨_, (pss_cons (ps_set (i := 2) scKT.nd rfl (.inl rfl) (pe_cx cGreat hr (by decide) pass0 (by rfl) (pa_cons (pv 1) pa_nil)))
 (pss_one (ps_ret (pe_callB (cr_sortV rfl) (by rfl) B.sorted (by decide +kernel) (pa_cons (pe_vals (pv 2)) pa_nil))))), ?_⟩
    simp only [tSeq, tAsg, gName, tOp, rI, rI0, rU, tUn, tVar, tC, tCB, tCons, tNil, tTest, tIfS, tRet, tRetN, tDrop, tNext, tBreak, tCont, rEq, rNe, CDiv, CDivN, CMul, tBM, tBM0, tTup, tLst, tAug, tIf, tAnd, tOr, tNot, tAndV, tOrV, tNotV, tIsN, tNotN, tB, scal, tCall, cxK, cxKn, rIxT, rIxL, rIn, rAppend, rReverse, tVals, tDSetd, tDGet, tDGet1, tDGet2, tDIn, tDNotIn, rSortV, rSortT, rPop, rSortL, rSortT, tSl, tNoPart, tPart, List.append_nil, L2.start, List.map_cons, List.map_nil, List.length_cons, List.length_nil, List.replicate_succ, List.replicate_zero, List.cons_append, List.nil_append, Nat.reduceAdd, Nat.reduceSub, exists_eq, exists_eq', List.getElem?_cons_zero, List.getElem?_cons_succ, List.set_cons_zero, List.set_cons_succ, Option.some.injEq, V.int.injEq, V.bl.injEq, V.str.injEq, V.ref.injEq, List.cons.injEq, and_true, true_and, and_false, false_and, reduceCtorEq, exists_false, or_false, false_or, exists_and_left, exists_and_right, exists_eq_left, exists_eq_left', exists_eq_right, exists_eq_right', exists_const, ite_true, ite_false, Bool.false_eq_true, if_true, if_false, decide_true, decide_false]
    refine ⟨p, xs, rfl, hw, hl, fun H1 d s1 hd => ?_⟩
    simp only [tSeq, tAsg, gName, tOp, rI, rI0, rU, tUn, tVar, tC, tCB, tCons, tNil, tTest, tIfS, tRet, tRetN, tDrop, tNext, tBreak, tCont, rEq, rNe, CDiv, CDivN, CMul, tBM, tBM0, tTup, tLst, tAug, tIf, tAnd, tOr, tNot, tAndV, tOrV, tNotV, tIsN, tNotN, tB, scal, tCall, cxK, cxKn, rIxT, rIxL, rIn, rAppend, rReverse, tVals, tDSetd, tDGet, tDGet1, tDGet2, tDIn, tDNotIn, rSortV, rSortT, rPop, rSortL, rSortT, tSl, tNoPart, tPart, List.append_nil, L2.start, List.map_cons, List.map_nil, List.length_cons, List.length_nil, List.replicate_succ, List.replicate_zero, List.cons_append, List.nil_append, Nat.reduceAdd, Nat.reduceSub, exists_eq, exists_eq', List.getElem?_cons_zero, List.getElem?_cons_succ, List.set_cons_zero, List.set_cons_succ, Option.some.injEq, V.int.injEq, V.bl.injEq, V.str.injEq, V.ref.injEq, List.cons.injEq, and_true, true_and, and_false, false_and, reduceCtorEq, exists_false, or_false, false_or, exists_and_left, exists_and_right, exists_eq_left, exists_eq_left', exists_eq_right, exists_eq_right', exists_const, ite_true, ite_false, Bool.false_eq_true, if_true, if_false, decide_true, decide_false]
    refine ⟨⟨_, hd⟩, fun v hv => ⟨d, upd_same, greatD xs xs.length, by rw [upd_ne (ne_of_none hd hv)]; exact hd, (headsI xs).map fun x => ((lastIx xs x : Nat) : Int), ?_, fun l hl' => ?_⟩⟩
    · unfold greatD
      rw [List.take_length, List.map_map, List.map_map]
      rfl
    · rw [sort_last, ← ixV_int]
      exact q _ l (Gw.upd (Gw.upd (.of ht s1) hv) hl') (Gw.nw (Gw.upd (.of ht s1) hv) hl') upd_same
theorem scKS : FnScope ["self", "word", "places", "value"] ["self", "word"] (defScope sKeepS) := ⟨rfl, rfl, rfl, by decide +kernel, rfl, by decide +kernel, by decide +kernel⟩
theorem ok_keepS {f : Addr} {fd : FuncData} (F : Fun K "keep" "SetKind.keep" sKeepS f fd) (B : Bi mg) (cLeast : CalX CX0 P w K mg base 1 "least_places" (spLeast K)) : FnOk P w K mg base CX0 2 f fd ["self", "word"] (spKeep K T .set) := by
  refine F.ok scKS (fun vs H Q E h => ?_) (fun cdv A outer s H vs Q E hr h => ?_)
  · obtain ⟨x, p, xs, rfl, _⟩ := h
    rfl
  · obtain ⟨x, p, xs, rfl, hw, hl, ht, q⟩ := h
    refine ⟨_, (pss_cons (ps_set (i := 2) scKS.nd rfl (.inr rfl) (pe_cx cLeast hr (by decide) pass0 (by rfl) (pa_cons (pv 1) pa_nil)))
 (pss_one (ps_ret (pe_lc (own := [("value", 3)]) (g := gName 3) (tt := tYes) rfl scKS.nd (pi_list (pe_callB (call_sortedDI rfl) (by rfl) B.sorted (by decide +kernel) (pa_cons (pv 2) pa_nil))) (blkOk_by (N := ["self", "word", "places", "value"]) (sc := defScope sKeepS) (by decide +kernel)) (fun _ _ _ _ _ => (pg_name (i := 3) scKS.nd rfl (.inl rfl))) (fun _ _ _ _ _ => pts_nil) (fun _ _ _ _ _ => (pe_dget (hu_of hr) (pv 2) (pv 3) (fun _ _ => rfl))))))), ?_⟩
    simp only [tSeq, tAsg, gName, tOp, rI, rI0, rU, tUn, tVar, tC, tCB, tCons, tNil, tTest, tIfS, tRet, tRetN, tDrop, tNext, tBreak, tCont, rEq, rNe, CDiv, CDivN, CMul, tBM, tBM0, tTup, tLst, tAug, tIf, tAnd, tOr, tNot, tAndV, tOrV, tNotV, tIsN, tNotN, tB, scal, tCall, cxK, cxKn, rIxT, rIxL, rIn, rAppend, rReverse, tVals, tDSetd, tDGet, tDGet1, tDGet2, tDIn, tDNotIn, rSortV, rSortT, rPop, rSortL, rSortT, tSl, tNoPart, tPart, List.append_nil, L2.start, List.map_cons, List.map_nil, List.length_cons, List.length_nil, List.replicate_succ, List.replicate_zero, List.cons_append, List.nil_append, Nat.reduceAdd, Nat.reduceSub, exists_eq, exists_eq', List.getElem?_cons_zero, List.getElem?_cons_succ, List.set_cons_zero, List.set_cons_succ, Option.some.injEq, V.int.injEq, V.bl.injEq, V.str.injEq, V.ref.injEq, List.cons.injEq, and_true, true_and, and_false, false_and, reduceCtorEq, exists_false, or_false, false_or, exists_and_left, exists_and_right, exists_eq_left, exists_eq_left', exists_eq_right, exists_eq_right', exists_const, ite_true, ite_false, Bool.false_eq_true, if_true, if_false, decide_true, decide_false]
    refine ⟨p, xs, rfl, hw, hl, fun H1 d s1 hd => ?_⟩
    simp only [tSeq, tAsg, gName, tOp, rI, rI0, rU, tUn, tVar, tC, tCB, tCons, tNil, tTest, tIfS, tRet, tRetN, tDrop, tNext, tBreak, tCont, rEq, rNe, CDiv, CDivN, CMul, tBM, tBM0, tTup, tLst, tAug, tIf, tAnd, tOr, tNot, tAndV, tOrV, tNotV, tIsN, tNotN, tB, scal, tCall, cxK, cxKn, rIxT, rIxL, rIn, rAppend, rReverse, tVals, tDSetd, tDGet, tDGet1, tDGet2, tDIn, tDNotIn, rSortV, rSortT, rPop, rSortL, rSortT, tSl, tNoPart, tPart, List.append_nil, L2.start, List.map_cons, List.map_nil, List.length_cons, List.length_nil, List.replicate_succ, List.replicate_zero, List.cons_append, List.nil_append, Nat.reduceAdd, Nat.reduceSub, exists_eq, exists_eq', List.getElem?_cons_zero, List.getElem?_cons_succ, List.set_cons_zero, List.set_cons_succ, Option.some.injEq, V.int.injEq, V.bl.injEq, V.str.injEq, V.ref.injEq, List.cons.injEq, and_true, true_and, and_false, false_and, reduceCtorEq, exists_false, or_false, false_or, exists_and_left, exists_and_right, exists_eq_left, exists_eq_left', exists_eq_right, exists_eq_right', exists_const, ite_true, ite_false, Bool.false_eq_true, if_true, if_false, decide_true, decide_false]
    have hks : (leastD xs xs.length).map (fun x => x.fst) = (headsI xs).map Sum.inl := by
      unfold leastD
      rw [List.take_length, List.map_map]
      rfl
    have hz : (headsI xs).length < 64 := Nat.lt_of_le_of_lt (headsI_len _) (by omega)
    refine ⟨.ref d, rfl, d, rfl, _, .inl hd, headsI xs, hks, hz, fun ys r hp hs hr' => ⟨r, rfl, ⟨_, SqL.of upd_same⟩, fun D hD => ?_⟩⟩
    rw [sort_is hp hs] at hD ⊢
    have nrD : r ≠ D := ne_of_none upd_same hD
    have hd2 : upd H1 r (.lst ((sortI (headsI xs)).map V.int)) d = some (.dK (leastD xs xs.length)) := by
      rw [upd_ne (ne_of_none hd hr')]
      exact hd
    have hg2 : Gw T H (upd H1 r (.lst ((sortI (headsI xs)).map V.int))) := Gw.upd (.of ht s1) hr'
    have hr2 : upd H1 r (.lst ((sortI (headsI xs)).map V.int)) r = some (.lst ((sortI (headsI xs)).map V.int)) := upd_same
    generalize upd H1 r (.lst ((sortI (headsI xs)).map V.int)) = H2 at hD hd2 hg2 hr2 ⊢
    refine lc_list (xs := (sortI (headsI xs)).map V.int) (fun i H' => ∃ acc, H' = upd H2 D (.lst acc) ∧ acc = ixV ((keepIx .set xs).take i)) ⟨_, rfl, rfl⟩ (fun i H' _ ⟨acc, e, _⟩ => by rw [e]; exact SqL.of (by rw [upd_ne nrD]; exact hr2)) ?_ ?_
    · rintro i y H' hy ⟨acc, rfl, rfl⟩
      obtain ⟨u, rfl, hu⟩ := int_at hy
      have hux : u ∈ xs := (mem_headsI xs).mp (mem_sort.mp (List.mem_of_getElem? hu))
      have hik : (keepIx .set xs)[i]? = some (xs.idxOf u) := by
        show ((sortI (headsI xs)).map xs.idxOf)[i]? = _
        rw [List.getElem?_map, hu]
        rfl
      refine ⟨rfl, .ref d, rfl, .int u, rfl, d, .int ((xs.idxOf u : Nat) : Int), rfl, ?_, ixV ((keepIx .set xs).take i), upd_same, ?_, ?_⟩
      · have := DGet.k (H := upd H2 D (.lst (ixV ((keepIx .set xs).take i)))) (k := .inl u) (by rw [upd_ne (ne_of_none hd2 hD)]; exact hd2)
        unfold leastD at this
        rw [List.take_length, val_map, if_pos ((mem_headsI xs).mpr hux)] at this
        exact this
      · unfold ixV
        rw [List.length_map, List.length_take, sizeLine_eq]
        have h1 : (keepIx .set xs).length ≤ 60 := by
          show ((sortI (headsI xs)).map xs.idxOf).length ≤ 60
          rw [List.length_map, (sort_perm _).length_eq]
          exact Nat.le_trans (headsI_len _) hl
        omega
      · refine ⟨_, upd_upd, ?_⟩
        rw [List.take_add_one, hik]
        unfold ixV
        rw [List.map_append]
        rfl
    · rintro H' ⟨acc, rfl, rfl⟩
      refine q _ D (Gw.upd hg2 hD) (Gw.nw hg2 hD) ?_
      rw [upd_same, List.take_of_length_le]
      rw [List.length_map]
      show ((sortI (headsI xs)).map xs.idxOf).length ≤ _
      rw [List.length_map]
      exact Nat.le_refl _
end
end Mv

set_option Elab.async false
set_option linter.all false
set_option maxRecDepth 100000
set_option maxHeartbeats 4000000
namespace Mv
open PySem PySem.Spec PyProof.Rows L2
/-- an object of the kind's class -/
def KObj (cls : Kd → Addr) (H : Hp) (o : Addr) (k : Kd) : Prop := ∃ dx, H o = some (.ins (cls k) dx [])
theorem KObj.ext {cls : Kd → Addr} {H H1 : Hp} {o : Addr} {k : Kd} (h : KObj cls H o k) (e : LamX.ExtN H H1) : KObj cls H1 o k := by
  obtain ⟨dx, h⟩ := h
  exact ⟨dx, e _ _ h fun ps z => by cases z⟩
def spPlainM (K : PySem.W.Frag) (cls : Kd → Addr) (T : List (Addr × Str)) (k : Kd) : Sp := fun vs H Q _ => ∃ (o p : Addr) (xs : List Int), vs = [.ref o, .ref p] ∧ KObj cls H o k ∧ WordS K H p xs ∧ xs.length ≤ 60 ∧ LamX.Tabs T H ∧ ∀ (H' : Hp) (t : Addr), Gw T H H' → H' t = some (.tup ((plainI k xs).map V.int)) → Q (.ref t) H'
theorem ext_tup {K : PySem.W.Frag} {H H1 : Hp} {p : Addr} {xs : List V} (h : SqT K H p xs) (e : LamX.ExtN H H1) : SqT K H1 p xs := by
  rcases h with (h | ⟨o, h⟩) | h
  · exact .inl (.inl (e _ _ h (fun ps z => by cases z)))
  · exact .inl (.inr ⟨o, e _ _ h (fun ps z => by cases z)⟩)
  · exact .inr h
theorem ext_lst {K : PySem.W.Frag} {H H1 : Hp} {p : Addr} {xs : List V} (h : SqL K H p xs) (e : LamX.ExtN H H1) : SqL K H1 p xs := by
  rcases h with (h | ⟨o, h⟩) | h
  · exact .inl (.inl (e _ _ h (fun ps z => by cases z)))
  · exact .inl (.inr ⟨o, e _ _ h (fun ps z => by cases z)⟩)
  · exact .inr h
/-- what the comprehension of plain has behind i turns -/
def PmI (H1 : Hp) (D : Addr) (k : Kd) (xs : List Int) (i : Nat) (H' : Hp) : Prop := H' = upd H1 D (.lst (((keepIx k xs).take i).map fun i => V.int (xs.getD i 0)))
section
variable {P : Program} {w : World} {K : PySem.W.Frag} {mg : Str → Option Value} {base : Heap} {T : List (Addr × Str)} {cls : Kd → Addr}
theorem scPM : FnScope ["self", "word", "at"] ["self", "word"] (defScope sPlainM) := ⟨rfl, rfl, rfl, by decide +kernel, rfl, by decide +kernel, by decide +kernel⟩
theorem ok_plainM {f : Addr} {fd : FuncData} (F : Fun K "plain" "Kind.plain" sPlainM f fd) (B : Bi mg) (k : Kd) (cKeep : MetX CX0 P w K mg base 2 (cls k) "keep" (spKeep K T k)) : FnOk P w K mg base CX0 3 f fd ["self", "word"] (spPlainM K cls T k) := by
  refine F.ok scPM (fun vs H Q E h => ?_) (fun cdv A outer s H vs Q E hr h => ?_)
  · obtain ⟨o, p, xs, rfl, _⟩ := h
    rfl
  · obtain ⟨o, p, xs, rfl, ⟨dx, ho⟩, hw, hl, ht, q⟩ := h
    have hkl : (keepIx k xs).length ≤ 120 := by
      have := plain_len k xs
      rw [keep_len]
      omega
    rcases hw with hw | hw
    case' inl => refine ⟨_, (pss_one (ps_ret (pe_callTy call_tuple_of (by rfl) B.tuple (by decide +kernel) (pa_cons (pe_lc (own := [("at", 2)]) (g := gName 2) (tt := tYes) (te := (tOp (rIxT K) (tVar 1) (tVar 2))) rfl scPM.nd (pi_list (pe_mx cKeep hr (by decide) pass0 (pv 0) (pa_cons (pv 1) pa_nil))) (blkOk_by (N := ["self", "word", "at"]) (sc := defScope sPlainM) (by decide +kernel)) (fun _ _ _ _ _ => (pg_name (i := 2) scPM.nd rfl (.inl rfl))) (fun _ _ _ _ _ => pts_nil) (fun _ _ _ _ _ => (pe_ix ix_tup (pv 1) (pv 2) (fun _ _ => rfl)))) pa_nil)))), ?_⟩
    case' inr => refine ⟨_, (pss_one (ps_ret (pe_callTy call_tuple_of (by rfl) B.tuple (by decide +kernel) (pa_cons (pe_lc (own := [("at", 2)]) (g := gName 2) (tt := tYes) (te := (tOp (rIxL K) (tVar 1) (tVar 2))) rfl scPM.nd (pi_list (pe_mx cKeep hr (by decide) pass0 (pv 0) (pa_cons (pv 1) pa_nil))) (blkOk_by (N := ["self", "word", "at"]) (sc := defScope sPlainM) (by decide +kernel)) (fun _ _ _ _ _ => (pg_name (i := 2) scPM.nd rfl (.inl rfl))) (fun _ _ _ _ _ => pts_nil) (fun _ _ _ _ _ => (pe_ix ix_list (pv 1) (pv 2) (fun _ _ => rfl)))) pa_nil)))), ?_⟩
    case' inl => have hwE := fun (H2 : Hp) (e : LamX.ExtN H H2) => ext_tup hw e
    case' inr => have hwE := fun (H2 : Hp) (e : LamX.ExtN H H2) => ext_lst hw e
    case' inl => refine ⟨.ref o, rfl, o, dx, [], rfl, ho, rfl, .ref p, rfl, .ref o, p, xs, rfl, .inl hw, hl, ht, fun H1 l g1 _ h1 => ⟨l, rfl, ⟨_, SqL.of h1⟩, fun D hD => ?_⟩⟩
    case' inr => refine ⟨.ref o, rfl, o, dx, [], rfl, ho, rfl, .ref p, rfl, .ref o, p, xs, rfl, .inr hw, hl, ht, fun H1 l g1 _ h1 => ⟨l, rfl, ⟨_, SqL.of h1⟩, fun D hD => ?_⟩⟩
    all_goals
      have nlD : l ≠ D := ne_of_none h1 hD
      refine lc_list (xs := ixV (keepIx k xs)) (PmI H1 D k xs) rfl (fun i H' _ e => by rw [show H' = _ from e]; exact SqL.of (by rw [upd_ne nlD]; exact h1)) ?_ ?_
    all_goals
      first
      | rintro i y H' hy rfl
        obtain ⟨n, hn, rfl⟩ : ∃ n : Nat, (keepIx k xs)[i]? = some n ∧ y = .int (n : Int) := by
          unfold ixV at hy
          rw [List.getElem?_map] at hy
          cases e : (keepIx k xs)[i]? with
          | none =>
            rw [e] at hy
            cases hy
          | some n =>
            rw [e] at hy
            exact ⟨n, rfl, (Option.some.inj hy).symm⟩
        have hnl := keep_lt (List.mem_of_getElem? hn)
        refine ⟨rfl, .ref p, rfl, .int (n : Int), rfl, p, xs.map V.int, (n : Int), .int (xs.getD n 0), rfl, rfl, hwE _ (g1.1.trans (ext_upd hD)), atI_nat (by rw [List.getElem?_map, List.getElem?_eq_getElem hnl, getD_at hnl]; rfl), _, upd_same, ?_, ?_⟩
        · rw [List.length_map, List.length_take, sizeLine_eq]
          omega
        · show upd (upd H1 D _) D _ = _
          rw [upd_upd, List.take_add_one, hn, List.map_append]
          rfl
      | rintro H' rfl
        refine ⟨D, _, rfl, .inl ⟨SqL.of upd_same, fun t ht' => ?_⟩⟩
        refine q _ t (Gw.upd (Gw.upd g1 hD) ht') ?_
        rw [upd_same, List.take_of_length_le (by unfold ixV; rw [List.length_map]; exact Nat.le_refl _), ← keep_vals, List.map_map]
        rfl
end
end Mv

set_option Elab.async false
set_option linter.all false
set_option maxRecDepth 100000
set_option maxHeartbeats 4000000
namespace Mv
open PySem PySem.Spec PyProof.Rows L2
/-! ### {name!r} -/
theorem fmt_cost1 : fmtCost [("list" : Str)] + 7 ≤ 100 := by decide +kernel
def tFmtB (K : PySem.W.Frag) (te : TE) : TE := fun σ H Q => te σ H fun x H1 => BadV H1 x ∧ ∀ m : Str, m.length ≤ 2000 → Q (.str m) H1
theorem pe_fmtB {X : Cx} {k : Nat} {e : Expr} {te : TE} {pos : Pos} (hr : Room k X.A) (he : PE X e te) : PE X (.FormattedValue e 114 none pos) (tFmtB X.K te) := by
  refine ⟨fun pins s σ H Q I h => ?_⟩
  refine wpAny_FormattedValue_repr (thn (he.run pins s σ H _ I h) fun v s1 hv => ?_)
  obtain ⟨x, H1, I1, r1, b, q⟩ := hv
  have fin : ∀ (m : Str) (u : Tok) (s2 : Shared), m.length ≤ 2000 → Inv X pins σ H1 s2 → wpAny (model X.prog X.w) X.A (formatField (.str m u) Str.empty) (EP X pins σ Q) X.xe s2 := fun m u s2 hm I2 =>
    wpAny_formatField_str ⟨.str m, H1, I2, ⟨_, rfl⟩, q m hm⟩ ⟨.str m, H1, I2.tok _, ⟨_, rfl⟩, q m hm⟩ (by rw [sizeLine_eq]; omega)
  cases b with
  | str z h hl hc =>
    obtain ⟨t, rfl⟩ := r1
    have h1 := StrLaws.reprText_len z fun c h => Nat.lt_trans (hc c h) (by decide)
    exact pyReprObj_str (fin _ _ _ (by omega) (I1.tok _)) (by rw [sizeLine_eq]; omega)
  | non =>
    obtain rfl : v = Value.none := r1
    exact pyReprObj_none (fin _ _ _ (by decide +kernel) (I1.tok _))
  | zero =>
    obtain ⟨t, rfl⟩ := r1
    exact pyReprObj_int (by decide +kernel) (fin _ _ _ (by decide +kernel) (I1.tok _))
  | tup T hT =>
    cases r1
    obtain ⟨its, rv, ⟨o, ho, hcl, n, hd⟩, _⟩ := I1.tuple (X := X) (.inl (.inl hT))
    have hp := fmt_piled [("list" : Str)] (by decide +kernel)
    have htx := fmt_text ([("list" : Str)].map reprText)
    have hu := hr.units
    have hc1 := fmt_cost1
    refine wpAny_pyReprObj_slot (by omega) ⟨o, ho, hcl⟩ F.slot_tuple_repr (fmt_tuple_repr (ts := [("list" : Str)].map reprText) ho hcl hd (repr_all rv (by decide +kernel)) (by rw [sizeLine_eq]; omega) fun m u tk hm => ⟨m, u, rfl, fin m u _ (by omega) (I1.tok _)⟩)
end Mv

set_option Elab.async false
set_option linter.all false
set_option maxRecDepth 100000
set_option maxHeartbeats 4000000
namespace Mv
open PySem PySem.Spec PyProof.Rows L2
abbrev iEnv (q : Str) (sc : Scope) (L f c cc : Addr) : Env := PySem.W.ksEnv q sc L f (.ref c) cc
/-- the context of an __init__ that says super(): one cell, of the class -/
def cxF (CX : CXT) (P : Program) (w : World) (K : PySem.W.Frag) (mg : Str → Option Value) (base : Heap) (N : List Str) (q : Str) (sc : Scope) (f c cc : Addr) (A : Around) (outer : List Env) (s : Shared) (H : Hp) (E : XK) : Cx where
  prog := P
  w := w
  K := K
  mg := mg
  base := base
  A := A.deeper (iEnv q sc s.heap.objs.size f c cc)
  N := N
  s_0 := s
  H_0 := H
  env := iEnv q sc s.heap.objs.size f c cc
  outer := outer
  stack := iEnv q sc s.heap.objs.size f c cc :: outer
  ex := []
  fn := fun _ => false
  calm := true
  pn := []
  xe := fun e s' => wpAny (model P w) (A.deeper (iEnv q sc s.heap.objs.size f c cc)) (leaving (iEnv q sc s.heap.objs.size f c cc) e) (fun _ s'' => CX outer H s E e s'') (fun e' s'' => CX outer H s E e' s'') s'
/-- what the scope of such an __init__ says -/
structure ScI (sc : Scope) (n1 n2 : Str) : Prop where
  kind : sc.kind = .function
  co : sc.isCoroutine = false
  gen : sc.isGenerator = false
  l1 : sc.names.lookup n1 = some .local
  l2 : sc.names.lookup n2 = some .local
  ne : ¬ n1 = n2
  cell : ∀ y ∈ sc.names, y.2 ≠ .cell
  free : ∀ y ∈ sc.names, y.2 = .free → y.1 = "__class__"
  cls : sc.names.lookup ("__class__" : Str) = some .free
  sup : sc.names.lookup ("super" : Str) = some .globalImplicit
section
variable {CX : CXT} {P : Program} {w : World} {K : PySem.W.Frag} {mg : Str → Option Value} {base : Heap} {q : Str} {sc : Scope} {f c cc : Addr} {A : Around} {outer : List Env} {s : Shared} {H : Hp} {E : XK} {n1 n2 : Str} {h₁ : Heap} {tk : Nat}
theorem inv_startF {v1 v2 : V} {u1 u2 : Value} (S : ScI sc n1 n2) (hd : A.handled = none) (e0 : Env0 P w K mg base A outer s H) (r1 : RelV v1 u1) (r2 : RelV v2 u2) {oc : Obj} {D : Value} (hcc : base.get? cc = some oc) (hoc : oc.data = .cell (some D))
    (hns : h₁.Ns s.heap.objs.size fun y => [(n1, u1), (n2, u2)].reverse.lookup y) (kp : ∀ b o, s.heap.get? b = some o → h₁.get? b = some o) :
    Inv (cxF CX P w K mg base [n1, n2] q sc f c cc A outer s H E) [] [some v1, some v2] H { s with heap := h₁, toks := tk } := by
  have noA : ∀ b : Addr, b ∉ (cxF CX P w K mg base [n1, n2] q sc f c cc A outer s H E).ex := fun b z => absurd (show b ∈ ([] : List Addr) from z) (by simp)
  have onecell : ∀ {y b}, (cxF CX P w K mg base [n1, n2] q sc f c cc A outer s H E).env.cells.lookup y = some b → y = "__class__" ∧ b = cc := fun {y b} z => by
    have z : List.lookup y [(("__class__" : Str), cc)] = some b := z
    unfold List.lookup at z
    split at z
    · rename_i h
      exact ⟨eq_of_beq h, (Option.some.inj z).symm⟩
    · cases z
  have ccS := e0.bs cc oc hcc
  refine ⟨⟨e0.mod, S.kind, rfl, rfl, Nat.le_refl _, fun y z b h1 h2 => (onecell h1).1.trans (onecell h2).1.symm, fun y hy => ?_, fun y b h => absurd (show false = true from h) Bool.false_ne_true, fun _ => hd, Around.frames_deeper e0.frames, .inr ⟨rfl, rfl⟩, fun b z => absurd z (noA b), e0.bs, e0.bsz, fun b _ _ => noA b, fun b z => absurd z (noA b), e0.funs, e0.frf⟩,
    rfl, e0.bare, Un.kept kp, ⟨_, hns, fun i y v h1 h2 h3 => ?_⟩, fun y b h => ?_, e0.hok.fresh (Nat.le_refl _), fun y b h => ?_, fun p hp => absurd (show p ∈ ([] : List (Addr × Obj)) from hp) (by simp), e0.hok.kept kp, rfl⟩
  · have hy : sc.names.lookup y = some .cell ∨ sc.names.lookup y = some .free := hy
    rcases hy with hy | hy
    · exact absurd rfl (S.cell _ (PySem.mem_of_lookup hy))
    · have e := S.free _ (PySem.mem_of_lookup hy) rfl
      have e : y = "__class__" := e
      subst e
      exact ⟨cc, rfl⟩
  · have hm1 : List.lookup n1 [(n1, u1), (n2, u2)].reverse = some u1 := by
      show List.lookup n1 [(n2, u2), (n1, u1)] = some u1
      simp [List.lookup, beq_eq_false_iff_ne.mpr S.ne]
    have hm2 : List.lookup n2 [(n1, u1), (n2, u2)].reverse = some u2 := by
      show List.lookup n2 [(n2, u2), (n1, u1)] = some u2
      simp [List.lookup]
    match i, h1, h2 with
    | 0, h1, h2 =>
      cases h1
      cases h2
      exact ⟨u1, r1, .inl ⟨S.l1, hm1⟩⟩
    | 1, h1, h2 =>
      cases h1
      cases h2
      exact ⟨u2, r2, .inl ⟨S.l2, hm2⟩⟩
    | i + 2, h1, h2 => cases h1
  · rw [(onecell h).2]
    exact ⟨_, oc, kp _ _ ccS.1, hoc⟩
  · rw [(onecell h).2]
    exact ccS.2
end
/-! ### ValueError.__init__, bound to an exception that is being made -/
section
variable {X : Cx} {pins : List (Addr × Obj)} {σ : L2.St} {H : Hp} {s : Shared} {A : Around} {E : Value → Shared → Prop}
theorem bound_init {a C u : Addr} {us : List Value} {Q : Value → Shared → Prop} (T : OexC X.K C) (I : Inv X pins σ H s) (e : H a = some (exo a C none)) (hu : s.heap.get? u = some (PySem.W.kxs_mw "ValueError.__init__" a)) (hl : us.length ≤ sizeLine) (h : ∀ s', Inv X pins σ H s' → Q .none s') :
    wpAny (model X.prog X.w) A (call (.ref u) us) Q E s := by
  obtain ⟨nm, q, N, bs, bm, sn, sub, ab, col, dd, k0, k1, k2, k3, k5, hC, hbm⟩ := T.cls
  obtain ⟨t1, ho⟩ := exo_at I.hok e
  have hC' := I.kIn _ _ hC
  have fin : ∀ h' t2, (∀ b o, b ≠ a → s.heap.get? b = some o → h'.get? b = some o) → h'.get? a = some (HandSPX.excO C t2) → Q .none { s with heap := h' } := fun h' t2 k hx => by
    have J := I.write (t' := s.toks) (x := a) (e := a) (o := exo a C none) (by rw [e]; exact True.intro) (.inl rfl) k ⟨_, hx⟩ (exo_ok hx)
    have eu : upd H a (exo a C none) = H := by
      funext b
      by_cases hb : b = a
      · rw [hb, upd_same, e]
      · rw [upd_ne hb]
    rw [eu] at J
    exact h _ J
  clear h I
  obtain ⟨hp, g, d, t, os⟩ := s
  refine wpAny_call (codeAny_of_tree ?_)
  show wpAny _ A.in1 (callAny (.ref u) ⟨us, []⟩) _ _ _
  simp only [callAny]
  refine wpAny_bind (wpAny_load hu ?_)
  simp only [PySem.W.kxs_mw, show (Value.type "method-wrapper" == Value.type "method" || Value.type "method-wrapper" == Value.type "builtin_function_or_method" || Value.type "method-wrapper" == Value.type "method-wrapper") = true by decide, if_true]
  refine W.KFB.if_so (by decide) ?_
  refine wpAny_bind (ESX.check_bound F.excBase_ValueError hC' ho rfl ?_)
  refine wpAny_bind (wpAny_pure (wpAny_pure ?_))
  refine ⟨Code.quiet_builtin _ (by decide +kernel), codeAny_builtin F.excBase_ValueError.initEntry ?_⟩
  rw [Around.under_plainId F.excBase_ValueError.init.plain _]
  wp_walk
  refine fin _ hp.objs.size (fun b o hb hbo => ?_) ?_
  · rw [Heap.get?_update_other _ _ (Ne.symm hb)]
    exact Heap.get?_push_of_some _ hbo
  · rw [Heap.get?_update_self _ (Heap.get?_push_of_some _ ho) rfl]
    rfl
theorem callWith_mw {M : Model} {A : Around} {E : Value → Shared → Prop} {s : Shared} {i : String} {u x : Addr} {pos : Pos} {env : Env} {e : Expr} {Q : Value → Shared → Prop}
    (h : wpAny M A (spliced (backTo pos (starEach (e :: []) env))) (fun vs s₁ => PySem.W.KxsAt i u x s₁.heap ∧ wpAny M A (call (.ref u) vs) Q E s₁) E s)
    (he : starEach (e :: []) env = (false, eval e env) :: starEach [] env := by rfl) :
    wpAny M A (callWith pos (.ref u) [] (backTo pos (starEach (e :: []) env)) []) Q E s := by
  rw [he] at h ⊢
  refine PySem.W.kxs_callWith (i := i) (x := x) rfl ?_
  exact Calls.evalArgs_plain h
/-- what the written part says of an own exception class whose __init__ says super(), and of that __init__ -/
structure SupK (P : Program) (K : PySem.W.Frag) (f c cc C : Addr) : Prop where
  oex : OexC K C
  code : ∃ (ccl : Value) (cdd : Option Addr) (vs : Array Value) (ccs : Array (Option Value)) (file : Str) (tf : Tok), K.lookup c = some ⟨ccl, cdd, .fields vs, ccs⟩ ∧ vs[2]? = some (.str file tf) ∧ ((P.main.file : Str) == file) = true
  cell : ∃ (cl : Value) (cld : Option Addr) (csl : Array (Option Value)), K.lookup cc = some ⟨cl, cld, .cell (some (.ref C)), csl⟩
  top : (P.main.scope.names.lookup ("super" : Str)).isSome = false
  self : PySem.W.mroIn K C (.ref C) = some true
  ve : PySem.W.mroIn K C (.type "ValueError") = some true
  opq : PySem.W.nsIn K cStatics "thirdparty.any" = some none
  sup : PySem.W.ks_superIn K C C "__init__" = some (some (.builtin "ValueError.__init__"))
  cls : ∃ cd, PySem.W.clsIn K C = some cd
def spIniB (K : PySem.W.Frag) (C : Addr) (n2 : Str) : Sp := fun vs H Q _ => ∃ (a : Addr) (v : V), vs = [.ref a, v] ∧ H a = some (exo a C none) ∧ BadV H v ∧ ∀ dx, H dx = none → dx ≠ a → Q .non (upd (upd H dx (exd dx [(n2, v)])) a (exo a C (some dx)))
/-- def __init__(self, n2): super().__init__(f'..{n2!r}'); self.n2 = n2 -/
theorem ok_iniB {P : Program} {w : World} {K : PySem.W.Frag} {mg : Str → Option Value} {base : Heap} {f c cc C : Addr} {qual n2 : Str} {params : Arguments} {sc : Scope} {kV doc pm ct oc : Value} {an od : Option Addr} {osl : Array (Option Value)} {head : Str}
    {p0 p1 p2 p3 p4 p5 p6 p7 p8 p9 p10 p11 p12 : Pos} {k4 : Nat} {ar : Arg} {kn : Nat} {pl : Env → Sem Bool}
    (hcall : ∀ env : Env, eval (.Call (.Attribute (.Call (.Name "super" p0) [] [] p1) "__init__" p2) [.JoinedStr [.Constant (.str head) k4 p3, .FormattedValue (.Name n2 p4) 114 none p5] p6] [] p7) env = (do
      let ov ← attributeBase (.Call (.Name "super" p0) [] [] p1) "__init__" env (eval (.Call (.Name "super" p0) [] [] p1) env)
      standAt p2.atName
      let (f, first) ← holding [ov] (getMethod ov "__init__" (pl env))
      callWith p7 f first (backTo p7 (starEach [.JoinedStr [.Constant (.str head) k4 p3, .FormattedValue (.Name n2 p4) 114 none p5] p6] env)) []))
    (hswap : ∀ env : Env, swapsWith (.Name n2 p11) (some (.Attribute (.Name "self" p9) n2 p10)) p12.line env = pure false)
    (lk : K.lookup f = some ⟨oc, od, .func (PySem.W.ksFn "__init__" qual params [.Expr (.Call (.Attribute (.Call (.Name "super" p0) [] [] p1) "__init__" p2) [.JoinedStr [.Constant (.str head) k4 p3, .FormattedValue (.Name n2 p4) 114 none p5] p6] [] p7) p8, .Assign [.Attribute (.Name "self" p9) n2 p10] (.Name n2 p11) p12] sc .none kV doc pm an (.ref c) ct cc), osl⟩)
    (hcd : PySem.W.codeIn K (.ref c) qual = true) (S : ScI sc "self" n2) (U : SupK P K f c cc C) (hsup : mg "super" = none) (hno : PySem.W.findIn K (.ref C) n2 = some none) (hh : head.length ≤ 1000)
    (hp : (params.posonlyargs ++ params.args).head? = some ar) (har : ar.arg = "self") (d2 : (n2 == ("__debug__" : Str)) = false) (c2 : (n2 == ("__classdict__" : Str)) = false) :
    FnOk P w K mg base CX0 (kn + 1) f (PySem.W.ksFn "__init__" qual params [.Expr (.Call (.Attribute (.Call (.Name "super" p0) [] [] p1) "__init__" p2) [.JoinedStr [.Constant (.str head) k4 p3, .FormattedValue (.Name n2 p4) 114 none p5] p6] [] p7) p8, .Assign [.Attribute (.Name "self" p9) n2 p10] (.Name n2 p11) p12] sc .none kV doc pm an (.ref c) ct cc) ["self", n2] (spIniB K C n2) := by
  refine ⟨fun vs H Q E h => ?_, fun A outer s H args us vs Q E hr e0 hb r hsp => ?_⟩
  · obtain ⟨a, v, rfl, _⟩ := h
    rfl
  obtain ⟨a, v, rfl, ha, hv, q⟩ := hsp
  obtain ⟨u1, u2, rfl, r1, r2⟩ := vals2 r
  obtain rfl : u1 = Value.ref a := r1
  have KX : K.In s.heap := e0.mod.kin.keeps fun b o e => (e0.bs b o e).1
  have lim : s.heap.NoLimit := e0.mod.nolimit.keeps fun b o e => (e0.bs b o e).1
  obtain ⟨ccl, cdd, vsC, ccs, file, tf, kc, hvs, hfile⟩ := U.code
  obtain ⟨cl0, cld, csl, kcc⟩ := U.cell
  obtain ⟨cdD, hcdD⟩ := U.cls
  refine ks_codeAny_call_defAt hr.depth (KX _ _ lk) rfl lim (PySem.W.codeRec_of KX hcd) rfl (binds := [("self", .ref a), (n2, u2)]) hb S.cell (fun x hx => ?_) (fun h₀ hns kp => ?_) S.co S.gen S.kind
  · rcases List.mem_cons.mp hx with rfl | hx
    · exact S.l1
    · rw [List.mem_singleton.mp hx]
      exact S.l2
  have I : Inv (cxF CX0 P w K mg base ["self", n2] qual sc f c cc A outer s H E) [] [some (.ref a), some v] H { s with heap := h₀, toks := s.toks + 2 } := inv_startF S hr.hd e0 rfl r2 (e0.mod.kin _ _ kcc) rfl hns kp
  generalize hs0 : ({ s with heap := h₀, toks := s.toks + 2 } : Shared) = s0 at I
  have hns0 : s0.heap.Ns s.heap.objs.size fun y => [(("self" : Str), Value.ref a), (n2, u2)].reverse.lookup y := by
    rw [← hs0]
    exact hns
  show _root_.PySem.wpAt _ (A.deeper (iEnv qual sc s.heap.objs.size f c cc)) (.func _ (iEnv qual sc s.heap.objs.size f c cc)) (execs _ (iEnv qual sc s.heap.objs.size f c cc)) _ _ s0
  have K0 : K.In s0.heap := I.kIn
  obtain ⟨t1, hoa⟩ := exo_at I.hok ha
  obtain ⟨oD, hD1, hD2⟩ : ∃ oD, s0.heap.get? C = some oD ∧ oD.data = .cls cdD := by
    unfold PySem.W.clsIn at hcdD
    split at hcdD
    · rename_i c0 d0 cd' sl0 ho0
      cases hcdD
      exact ⟨_, K0 _ _ ho0, rfl⟩
    · cases hcdD
  have hxC : a ≠ C := fun z => by
    rw [z, hD1] at hoa
    have z2 := Option.some.inj hoa
    rw [z2] at hD2
    cases hD2
  have hmself : List.lookup ("self" : Str) [(("self" : Str), Value.ref a), (n2, u2)].reverse = some (.ref a) := by
    show List.lookup ("self" : Str) [(n2, u2), (("self" : Str), Value.ref a)] = some (.ref a)
    have : (("self" : Str) == n2) = false := beq_eq_false_iff_ne.mpr S.ne
    simp [List.lookup, this]
  obtain ⟨hp0, g0, d0, tk0, os0⟩ := s0
  refine ks_wpAt_execs_cons (ks_wpAt_Expr_any (ks_wpAt_MethodCall (ks_wpAt_super_base S.sup S.cls (by decide) rfl (K0 _ _ lk) rfl hp rfl (K0 _ _ kc) rfl hvs hfile U.top ?_) (hcall _)) (by show (sc.kind == .module && _) = false; rw [S.kind]; rfl))
  refine PySem.W.ks_loadName_global S.kind S.sup (Calls.loadGlobal_builtin (env := iEnv qual sc s.heap.objs.size f c cc) (I.mod.glob.keeps I.bk) hsup (I.mod.blt.choose_spec.1.keeps I.bk) ((I.mod.blt.choose_spec.2 _ (by decide +kernel)).trans (by decide +kernel)) ⟨rfl, ?_⟩)
  refine wpAny_loadName_free S.kind S.cls rfl ⟨_, K0 _ _ kcc, rfl⟩ ?_
  rw [har]
  refine wpAny_loadName_local S.kind S.l1 hns0 hmself ?_
  refine ks_wpAny_isType_cls hD1 hD2 ⟨rfl, ?_⟩
  refine ks_wpAny_call_super hD1 hD2 hoa rfl (fun c e => by cases e) (PySem.W.looks_mroIn K0 U.self) (fun h1 e1 k1 => ?_)
  have I1 : Inv (cxF CX0 P w K mg base ["self", n2] qual sc f c cc A outer s H E) [] [some (.ref a), some v] H ⟨h1, g0, d0, tk0, os0⟩ := I.kept (t' := tk0) k1
  have K1 : K.In h1 := I1.kIn
  have hoa1 := k1 _ _ hoa
  have hks := U.sup
  unfold PySem.W.ks_superIn at hks
  rw [hcdD] at hks
  have hin : PySem.W.Looks (model P w) h1 (isInstance (.ref a) (.type "ValueError")) true := by
    have I2 : PySem.W.InstAt h1 a { cls := .ref C, dict := none, data := .fields #[.ref t1, .none, .none, .none, .bool false, .none] } C none := ⟨hoa1, rfl, rfl, trivial⟩
    exact I2.type.andThen (PySem.W.looks_mroIn K1 U.ve)
  refine PySem.W.kxs_getMethod PySem.W.kxs_ValueError e1 (PySem.W.looks_opaque K1 U.opq) (l₀ := cdD.mro) (fun A Q E s k q => wpAny_bind ((PySem.W.looks_clsIn K1 hcdD) A _ E s k (wpAny_pure q))) rfl K1 hks hin hxC (by decide) ?_
  have hu1 : (h1.push (PySem.W.kxs_mw "ValueError.__init__" a)).get? h1.objs.size = some (PySem.W.kxs_mw "ValueError.__init__" a) := Heap.get?_push_size _ rfl
  have I2 : Inv (cxF CX0 P w K mg base ["self", n2] qual sc f c cc A outer s H E) [] [some (.ref a), some v] H ⟨h1.push (PySem.W.kxs_mw "ValueError.__init__" a), g0, d0, tk0 + 1, os0⟩ := I1.kept (t' := tk0 + 1) fun b u e => Heap.get?_push_of_some _ e
  have I3 : Inv (cxF CX0 P w K mg base ["self", n2] qual sc f c cc A outer s H E) [(h1.objs.size, PySem.W.kxs_mw "ValueError.__init__" a)] [some (.ref a), some v] H ⟨h1.push (PySem.W.kxs_mw "ValueError.__init__" a), g0, d0, tk0 + 1, os0⟩ := I2.pins_of fun p hp => by
    rw [List.mem_singleton.mp hp]
    exact ⟨hu1, I1.hok.fresh (Nat.le_refl _), Nat.ne_of_gt I1.lt, I1.nofs (Nat.le_refl _), fun v z => by cases z⟩
  have hrZ : Room kn (cxF CX0 P w K mg base ["self", n2] qual sc f c cc A outer s H E).A := hr.deeper _
  have pv1 : ∀ pos, PE (cxF CX0 P w K mg base ["self", n2] qual sc f c cc A outer s H E) (.Name n2 pos) (tVar 1) := fun pos => pe_var (i := 1) rfl (.inl S.l2) d2 c2
  have pv0 : ∀ pos, PE (cxF CX0 P w K mg base ["self", n2] qual sc f c cc A outer s H E) (.Name "self" pos) (tVar 0) := fun pos => pe_var (i := 0) rfl (.inl S.l1)
  have pj : PE (cxF CX0 P w K mg base ["self", n2] qual sc f c cc A outer s H E) (.JoinedStr [.Constant (.str head) k4 p3, .FormattedValue (.Name n2 p4) 114 none p5] p6) _ := pe_joined (.cons pe_str (.cons (pe_fmtB hrZ (pv1 p4)) .nil))
  refine callWith_mw (i := "ValueError.__init__") (x := a) (args_cons (thn (pj.run _ _ _ H (fun x H1 => (∃ y, x = .str y) ∧ H1 = H) I3 ?_) fun v2 s2 ⟨x2, H2, J2, rx2, ⟨y2, ex2⟩, eH⟩ => args_nil ⟨(J2.pin (h1.objs.size, PySem.W.kxs_mw "ValueError.__init__" a) (List.mem_append_right _ (List.mem_singleton.mpr rfl))).1, ?_⟩))
  · refine ⟨head, rfl, ?_, v, rfl, hv, fun m hm => ⟨m, rfl, ?_, ⟨_, rfl⟩, rfl⟩⟩
    · rw [sizeLine_eq, strLen_append]
      have : (Str.empty).length = 0 := rfl
      omega
    · rw [sizeLine_eq, strLen_append, strLen_append]
      have : (Str.empty).length = 0 := rfl
      omega
  rw [eH] at J2
  refine bound_init U.oex J2 ha ?_ ?_ fun s3 J3 => ?_
  · exact (J2.pin (h1.objs.size, PySem.W.kxs_mw "ValueError.__init__" a) (List.mem_append_right _ (List.mem_singleton.mpr rfl))).1
  · rw [sizeLine_eq]
    show 1 ≤ 16777216
    decide
  refine wpAt_of_wpAny ?_
  have ps := pss_one (ps_ost (pv0 p9) (pv1 p11) (hswap _) (X := cxF CX0 P w K mg base ["self", n2] qual sc f c cc A outer s H E) (f := n2) (p' := p10) (pos := p12))
  refine wpAny_mono (ps.run _ s3 _ H { nx := fun _ H' => Q .non H', rt := Q } J3 ?_) (fun fl s' hs => ?_) fun e s' hs => hs
  · refine ⟨v, rfl, .ref a, rfl, a, C, rfl, U.oex, hno, .inl ⟨ha, fun dx h2 h3 => q dx h2 h3⟩⟩
  · cases fl with
    | ret u =>
      obtain ⟨v', σ', H', J, rv, q'⟩ := hs
      exact ⟨v', H', J.os, J.bare, J.base, J.hok, rv, q'⟩
    | next =>
      obtain ⟨σ', H', J, q'⟩ := hs
      exact ⟨.non, H', J.os, J.bare, J.base, J.hok, rfl, q'⟩
    | brk =>
      obtain ⟨_, _, _, q'⟩ := hs
      exact False.elim q'
    | cont =>
      obtain ⟨_, _, _, q'⟩ := hs
      exact False.elim q'
end
end Mv

set_option Elab.async false
set_option linter.all false
set_option maxRecDepth 100000
set_option maxHeartbeats 4000000
namespace Mv
open PySem PySem.Spec PyProof.Rows L2
abbrev sKN : Stmt := topS 15
abbrev sPV : Stmt := topS 16
def Kd.cn : Kd → Str
  | .list => "Kind" | .bag => "BagKind" | .set => "SetKind" | .first => "FirstKind" | .last => "LastKind" | .ends => "EndsKind" | .heads => "HeadsKind" | .tails => "TailsKind"
/-- the constant KIND_NAMES -/
def kindNames : List V := kds.map kdV
/-- what the module's top has written, as kind_named asks it -/
structure KTx (P : Program) (w : World) (K : PySem.W.Frag) (mg : Str → Option Value) (base : Heap) (cls : Kd → Addr) (CB : Addr) : Prop where
  mk0 : ∀ k, Mk0 K (cls k)
  g : ∀ k : Kd, mg k.cn = some (.ref (cls k))
  names : ∃ kn : Addr, mg "KIND_NAMES" = some (.ref kn) ∧ ∀ H : Hp, SqT K H kn kindNames
  oex : OexC K CB
  gCB : mg "BadKind" = some (.ref CB)
  ini : ∃ (fI : Addr) (fdI : FuncData), PySem.W.findIn K (.ref CB) "__init__" = some (some (.ref fI)) ∧ PySem.W.typeIn K (.ref fI) = some (.type "function") ∧ FnOk P w K mg base CX0 1 fI fdI ["self", "name"] (spIniB K CB "name") ∧ Binds K fdI ["self", "name"] []
/-- the thing is raised -/
def Rs (CB : Addr) (H : Hp) (v : V) (E : XK) : Prop := ∀ (d : Addr) (H' : Hp), LamX.ExtN H H' → H' d = some (.xd [("name", v)]) → E (.ref CB) (some d) H'
def spKN (cls : Kd → Addr) (CB : Addr) : Sp := fun vs H Q E => ∃ v : V, vs = [v] ∧ ((∃ k : Kd, v = .str k.nm ∧ ∀ (H' : Hp) (o : Addr), Same H H' → KObj cls H' o k → Q (.ref o) H') ∨ (BadV H v ∧ Rs CB H v E))
section
variable {P : Program} {w : World} {K : PySem.W.Frag} {mg : Str → Option Value} {base : Heap} {T : List (Addr × Str)} {cls : Kd → Addr} {CB : Addr}
theorem kind_new {H : Hp} {x dx : Addr} {k : Kd} (hx : H x = none) (hd : H dx = none) (ne : dx ≠ x) : Same H (upd (upd H dx (.own x)) x (.ins (cls k) dx [])) ∧ KObj cls (upd (upd H dx (.own x)) x (.ins (cls k) dx [])) x k := by
  refine ⟨fun b o e => ?_, dx, upd_same⟩
  rw [upd_ne (ne_of_none e hx), upd_ne (ne_of_none e hd)]
  exact e
theorem if_T {c : Bool} {A B : Prop} (hc : c = true) (h : A) : if c = true then A else B := by
  rw [if_pos hc]
  exact h
theorem if_F {c : Bool} {A B : Prop} (hc : c = false) (h : B) : if c = true then A else B := by
  rw [if_neg (by rw [hc]; exact Bool.false_ne_true)]
  exact h
theorem BadV.ext {H H' : Hp} {v : V} (b : BadV H v) (e : LamX.ExtN H H') : BadV H' v := by
  cases b with
  | str z h hl hc => exact .str z h hl hc
  | non => exact .non
  | zero => exact .zero
  | tup T h => exact .tup T (e _ _ h fun ps z => by cases z)
theorem eqV_str (a b : Str) : eqV (.str a) (.str b) = decide (a = b) := by first | rfl | simp [eqV]
theorem inV_strs (z : Str) : ∀ ks : List Kd, (∀ k : Kd, ¬ z = k.nm) → inV (.str z) (ks.map kdV) = false
  | [], _ => rfl
  | k :: ks, h => by
    show (eqV (.str k.nm) (.str z) || inV (.str z) (ks.map kdV)) = false
    rw [inV_strs z ks h, eqV_str, decide_eq_false fun e => h k e.symm]
    rfl
theorem raise_bad {H : Hp} {v : V} {E : XK} (b : BadV H v) (r : Rs CB H v E) : tMkO CB (spIniB K CB "name") [] (tCons (tVar 0) tNil) [some v] H fun cls d H' => E cls d H' := by
  refine ⟨v, rfl, by show 1 ≤ 1000; decide, fun a ha => ⟨a, v, rfl, upd_same, b.ext (ext_upd ha), fun dx hdx nda => ⟨rfl, dx, [(("name" : Str), v)], upd_same, by rw [upd_ne nda]; exact upd_same, ?_, r dx _ (fun c o e n => ?_) upd_same⟩⟩⟩
  · rw [upd_ne nda] at hdx
    exact hdx
  · have ca : c ≠ a := ne_of_none e ha
    rw [upd_ne nda] at hdx
    have cd : c ≠ dx := ne_of_none e hdx
    rw [upd_ne cd, del_ne ca, upd_ne ca, upd_ne cd, upd_ne ca]
    exact e
theorem scKN : FnScope ["name"] ["name"] (defScope sKN) := ⟨rfl, rfl, rfl, by decide +kernel, rfl, by decide +kernel, by decide +kernel⟩
theorem ok_kn {f : Addr} {fd : FuncData} (F : Fun K "kind_named" "kind_named" sKN f fd) (B : Bi mg) (X : KTx P w K mg base cls CB) : FnOk P w K mg base (L2.CX P w) 3 f fd ["name"] (spKN cls CB) := by
  obtain ⟨fI, fdI, iC, tI, FI, bI⟩ := X.ini
  obtain ⟨kn, gN, tN⟩ := X.names
  refine F.okX scKN (fun vs H Q E h => ?_) (fun cdv A outer s H vs Q E hr h => ?_)
  · obtain ⟨v, rfl, _⟩ := h
    rfl
  · obtain ⟨v, rfl, h⟩ := h
    refine ⟨_, (pss_cons (ps_if (PW.pt (pw_or (pt_not (pt_val (pe_callB call_isi (by rfl) B.isinstance (by decide +kernel) (pa_cons (pv 0) (pa_cons (pe_bltn (by rfl) B.str (by decide +kernel) (v := .ty "str") rfl) pa_nil))))) (pw_or1 (pt_cmpR op_notIn_seq (pv 0) (pe_glob (v := V.ref kn) (by rfl) gN rfl) (by rfl)))))
 (pss_one (ps_raise rfl (takes_of rfl rfl rfl rfl) (pmk_oex X.oex iC tI FI hr bI .nil pass0 (by rfl) X.gCB (pa_cons (pv 0) pa_nil)))) pss_nil)
 (pss_cons (ps_if (pt_cmpR op_eq (pv 0) pe_str (nomark _))
 (pss_one (ps_ret (pe_makeB (X.mk0 .list) (by rfl) (X.g .list)))) pss_nil)
 (pss_cons (ps_if (pt_cmpR op_eq (pv 0) pe_str (nomark _))
 (pss_one (ps_ret (pe_makeB (X.mk0 .bag) (by rfl) (X.g .bag)))) pss_nil)
 (pss_cons (ps_if (pt_cmpR op_eq (pv 0) pe_str (nomark _))
 (pss_one (ps_ret (pe_makeB (X.mk0 .set) (by rfl) (X.g .set)))) pss_nil)
 (pss_cons (ps_if (pt_cmpR op_eq (pv 0) pe_str (nomark _))
 (pss_one (ps_ret (pe_makeB (X.mk0 .first) (by rfl) (X.g .first)))) pss_nil)
 (pss_cons (ps_if (pt_cmpR op_eq (pv 0) pe_str (nomark _))
 (pss_one (ps_ret (pe_makeB (X.mk0 .last) (by rfl) (X.g .last)))) pss_nil)
 (pss_cons (ps_if (pt_cmpR op_eq (pv 0) pe_str (nomark _))
 (pss_one (ps_ret (pe_makeB (X.mk0 .ends) (by rfl) (X.g .ends)))) pss_nil)
 (pss_cons (ps_if (pt_cmpR op_eq (pv 0) pe_str (nomark _))
 (pss_one (ps_ret (pe_makeB (X.mk0 .heads) (by rfl) (X.g .heads)))) pss_nil)
 (pss_one (ps_ret (pe_makeB (X.mk0 .tails) (by rfl) (X.g .tails)))))))))))), ?_⟩
    rcases h with ⟨k, rfl, q⟩ | ⟨b, r⟩
    · simp only [tSeq, tAsg, gName, tOp, rI, rI0, rU, tUn, tVar, tC, tCB, tCons, tNil, tTest, tIfS, tRet, tRetN, tDrop, tNext, tBreak, tCont, rEq, rNe, CDiv, CDivN, CMul, tBM, tBM0, tTup, tLst, tAug, tIf, tAnd, tOr, tNot, tAndV, tOrV, tNotV, tIsN, tNotN, tB, scal, tCall, cxK, cxKn, rIxT, rIxL, rIn, rAppend, rReverse, tVals, tDSetd, tDGet, tDGet1, tDGet2, tDIn, tDNotIn, rSortV, rSortT, rPop, rSortL, rSortT, tSl, tNoPart, tPart, List.append_nil, L2.start, List.map_cons, List.map_nil, List.length_cons, List.length_nil, List.replicate_succ, List.replicate_zero, List.cons_append, List.nil_append, Nat.reduceAdd, Nat.reduceSub, exists_eq, exists_eq', List.getElem?_cons_zero, List.getElem?_cons_succ, List.set_cons_zero, List.set_cons_succ, Option.some.injEq, V.int.injEq, V.bl.injEq, V.str.injEq, V.ref.injEq, List.cons.injEq, and_true, true_and, and_false, false_and, reduceCtorEq, exists_false, or_false, false_or, exists_and_left, exists_and_right, exists_eq_left, exists_eq_left', exists_eq_right, exists_eq_right', exists_const, ite_true, ite_false, Bool.false_eq_true, if_true, if_false, decide_true, decide_false]
      refine ⟨.str k.nm, .ty "str", .type "str", .type "str", true, rfl, .ty _, .base (.str _), kit_ty (by decide +kernel), true, rfl, iteF ?_⟩
      have new : tMake0 (cls k) [some (.str k.nm)] H Q := fun x dx hx hd ne => by
        obtain ⟨s1, o1⟩ := kind_new (cls := cls) (k := k) hx hd ne
        exact q _ x s1 o1
      clear q
      refine ⟨kindNames, .inr (tN _), rfl, rfl, if_F (by cases k <;> decide +kernel) ?_⟩
      cases k <;> (repeat (first | exact ⟨rfl, if_T (by decide +kernel) new⟩ | refine ⟨rfl, if_F (by decide +kernel) ?_⟩)) <;> exact new
    · have rb := raise_bad (K := K) b r
      cases b with
      | str z h hl hc =>
        simp only [tSeq, tAsg, gName, tOp, rI, rI0, rU, tUn, tVar, tC, tCB, tCons, tNil, tTest, tIfS, tRet, tRetN, tDrop, tNext, tBreak, tCont, rEq, rNe, CDiv, CDivN, CMul, tBM, tBM0, tTup, tLst, tAug, tIf, tAnd, tOr, tNot, tAndV, tOrV, tNotV, tIsN, tNotN, tB, scal, tCall, cxK, cxKn, rIxT, rIxL, rIn, rAppend, rReverse, tVals, tDSetd, tDGet, tDGet1, tDGet2, tDIn, tDNotIn, rSortV, rSortT, rPop, rSortL, rSortT, tSl, tNoPart, tPart, List.append_nil, L2.start, List.map_cons, List.map_nil, List.length_cons, List.length_nil, List.replicate_succ, List.replicate_zero, List.cons_append, List.nil_append, Nat.reduceAdd, Nat.reduceSub, exists_eq, exists_eq', List.getElem?_cons_zero, List.getElem?_cons_succ, List.set_cons_zero, List.set_cons_succ, Option.some.injEq, V.int.injEq, V.bl.injEq, V.str.injEq, V.ref.injEq, List.cons.injEq, and_true, true_and, and_false, false_and, reduceCtorEq, exists_false, or_false, false_or, exists_and_left, exists_and_right, exists_eq_left, exists_eq_left', exists_eq_right, exists_eq_right', exists_const, ite_true, ite_false, Bool.false_eq_true, if_true, if_false, decide_true, decide_false]
        refine ⟨.str z, .ty "str", .type "str", .type "str", true, rfl, .ty _, .base (.str _), kit_ty (by decide +kernel), true, rfl, iteF ?_⟩
        exact ⟨kindNames, .inr (tN _), rfl, rfl, if_T (by unfold kindNames; rw [inV_strs z kds h]; rfl) rb⟩
      | non =>
        simp only [tSeq, tAsg, gName, tOp, rI, rI0, rU, tUn, tVar, tC, tCB, tCons, tNil, tTest, tIfS, tRet, tRetN, tDrop, tNext, tBreak, tCont, rEq, rNe, CDiv, CDivN, CMul, tBM, tBM0, tTup, tLst, tAug, tIf, tAnd, tOr, tNot, tAndV, tOrV, tNotV, tIsN, tNotN, tB, scal, tCall, cxK, cxKn, rIxT, rIxL, rIn, rAppend, rReverse, tVals, tDSetd, tDGet, tDGet1, tDGet2, tDIn, tDNotIn, rSortV, rSortT, rPop, rSortL, rSortT, tSl, tNoPart, tPart, List.append_nil, L2.start, List.map_cons, List.map_nil, List.length_cons, List.length_nil, List.replicate_succ, List.replicate_zero, List.cons_append, List.nil_append, Nat.reduceAdd, Nat.reduceSub, exists_eq, exists_eq', List.getElem?_cons_zero, List.getElem?_cons_succ, List.set_cons_zero, List.set_cons_succ, Option.some.injEq, V.int.injEq, V.bl.injEq, V.str.injEq, V.ref.injEq, List.cons.injEq, and_true, true_and, and_false, false_and, reduceCtorEq, exists_false, or_false, false_or, exists_and_left, exists_and_right, exists_eq_left, exists_eq_left', exists_eq_right, exists_eq_right', exists_const, ite_true, ite_false, Bool.false_eq_true, if_true, if_false, decide_true, decide_false]
        exact ⟨.non, .ty "str", .type "NoneType", .type "str", false, rfl, .ty _, .base .non, kit_ty (by decide +kernel), false, rfl, iteT rb⟩
      | zero =>
        simp only [tSeq, tAsg, gName, tOp, rI, rI0, rU, tUn, tVar, tC, tCB, tCons, tNil, tTest, tIfS, tRet, tRetN, tDrop, tNext, tBreak, tCont, rEq, rNe, CDiv, CDivN, CMul, tBM, tBM0, tTup, tLst, tAug, tIf, tAnd, tOr, tNot, tAndV, tOrV, tNotV, tIsN, tNotN, tB, scal, tCall, cxK, cxKn, rIxT, rIxL, rIn, rAppend, rReverse, tVals, tDSetd, tDGet, tDGet1, tDGet2, tDIn, tDNotIn, rSortV, rSortT, rPop, rSortL, rSortT, tSl, tNoPart, tPart, List.append_nil, L2.start, List.map_cons, List.map_nil, List.length_cons, List.length_nil, List.replicate_succ, List.replicate_zero, List.cons_append, List.nil_append, Nat.reduceAdd, Nat.reduceSub, exists_eq, exists_eq', List.getElem?_cons_zero, List.getElem?_cons_succ, List.set_cons_zero, List.set_cons_succ, Option.some.injEq, V.int.injEq, V.bl.injEq, V.str.injEq, V.ref.injEq, List.cons.injEq, and_true, true_and, and_false, false_and, reduceCtorEq, exists_false, or_false, false_or, exists_and_left, exists_and_right, exists_eq_left, exists_eq_left', exists_eq_right, exists_eq_right', exists_const, ite_true, ite_false, Bool.false_eq_true, if_true, if_false, decide_true, decide_false]
        exact ⟨.int 0, .ty "str", .type "int", .type "str", false, rfl, .ty _, .base (.int 0), kit_ty (by decide +kernel), false, rfl, iteT rb⟩
      | tup T hT =>
        simp only [tSeq, tAsg, gName, tOp, rI, rI0, rU, tUn, tVar, tC, tCB, tCons, tNil, tTest, tIfS, tRet, tRetN, tDrop, tNext, tBreak, tCont, rEq, rNe, CDiv, CDivN, CMul, tBM, tBM0, tTup, tLst, tAug, tIf, tAnd, tOr, tNot, tAndV, tOrV, tNotV, tIsN, tNotN, tB, scal, tCall, cxK, cxKn, rIxT, rIxL, rIn, rAppend, rReverse, tVals, tDSetd, tDGet, tDGet1, tDGet2, tDIn, tDNotIn, rSortV, rSortT, rPop, rSortL, rSortT, tSl, tNoPart, tPart, List.append_nil, L2.start, List.map_cons, List.map_nil, List.length_cons, List.length_nil, List.replicate_succ, List.replicate_zero, List.cons_append, List.nil_append, Nat.reduceAdd, Nat.reduceSub, exists_eq, exists_eq', List.getElem?_cons_zero, List.getElem?_cons_succ, List.set_cons_zero, List.set_cons_succ, Option.some.injEq, V.int.injEq, V.bl.injEq, V.str.injEq, V.ref.injEq, List.cons.injEq, and_true, true_and, and_false, false_and, reduceCtorEq, exists_false, or_false, false_or, exists_and_left, exists_and_right, exists_eq_left, exists_eq_left', exists_eq_right, exists_eq_right', exists_const, ite_true, ite_false, Bool.false_eq_true, if_true, if_false, decide_true, decide_false]
        exact ⟨.ref T, .ty "str", .type "tuple", .type "str", false, rfl, .ty _, .base (.tup hT), kit_ty (by decide +kernel), false, rfl, iteT rb⟩
end
end Mv

set_option Elab.async false
set_option linter.all false
set_option maxRecDepth 100000
set_option maxHeartbeats 4000000
namespace Mv
open PySem PySem.Spec PyProof.Rows L2
theorem dp_ints {K : PySem.W.Frag} {H : Hp} : ∀ xs : List Int, DpAll K H (xs.map V.int) (xs.map PyData.int)
  | [] => .nil
  | x :: xs => .cons (.int x) (dp_ints xs)
theorem eqvAll_ints : ∀ xs ys : List Int, PyData.eqvAll (xs.map PyData.int) (ys.map PyData.int) = decide (xs = ys)
  | [], [] => rfl
  | [], y :: ys => by simp [PyData.eqvAll]
  | x :: xs, [] => by simp [PyData.eqvAll]
  | x :: xs, y :: ys => by
    rw [List.map_cons, List.map_cons, PySem.W.eqv_all_cons, eqvAll_ints xs ys]
    by_cases h : x = y
    · subst h
      simp [PyData.eqv]
    · simp [PyData.eqv, h]
theorem shaped_ints (xs : List Int) : SeqAt.shaped (.tuple (xs.map PyData.int)) = true := by simp [SeqAt.shaped, PyData.canLay0, PyData.depth, PySem.W.ke_canLayAll0, PySem.W.ke_depthAll]
/-- tuples of ints, compared -/
theorem eq_tups {K : PySem.W.Frag} {H : Hp} {a b : Addr} {xs ys : List Int} {Q : VK} (ha : SqT K H a (xs.map V.int)) (hb : SqT K H b (ys.map V.int)) (q : Q (.bl (decide (xs = ys))) H) : rEqD K (.ref a) (.ref b) H Q :=
  ⟨_, _, .tup ha (dp_ints xs), .tup hb (dp_ints ys), shaped_ints xs, shaped_ints ys, by rw [show PyData.eqv (.tuple (xs.map PyData.int)) (.tuple (ys.map PyData.int)) = decide (xs = ys) from eqvAll_ints xs ys]; exact q⟩
theorem ne_tups {K : PySem.W.Frag} {H : Hp} {a b : Addr} {xs ys : List Int} {Q : VK} (ha : SqT K H a (xs.map V.int)) (hb : SqT K H b (ys.map V.int)) (q : Q (.bl (!decide (xs = ys))) H) : rNeD K (.ref a) (.ref b) H Q :=
  ⟨_, _, .tup ha (dp_ints xs), .tup hb (dp_ints ys), shaped_ints xs, shaped_ints ys, by rw [show PyData.eqv (.tuple (xs.map PyData.int)) (.tuple (ys.map PyData.int)) = decide (xs = ys) from eqvAll_ints xs ys]; exact q⟩
theorem Rs.ext {CB : Addr} {H H' : Hp} {v : V} {E : XK} (r : Rs CB H v E) (e : LamX.ExtN H H') : Rs CB H' v E := fun d H2 e2 h => r d H2 (e.trans e2) h
def spPV (K : PySem.W.Frag) (T : List (Addr × Str)) (CB : Addr) : Sp := fun vs H Q E => ∃ (v : V) (p : Addr), vs = [v, .ref p] ∧ ((∃ (k : Kd) (xs : List Int), v = .str k.nm ∧ WordS K H p xs ∧ xs.length ≤ 60 ∧ LamX.Tabs T H ∧ ∀ (H' : Hp) (t : Addr), Gw T H H' → H' t = some (.tup ((plainI k xs).map V.int)) → Q (.ref t) H') ∨ (BadV H v ∧ Rs CB H v E))
def spAl (K : PySem.W.Frag) (T : List (Addr × Str)) (CB : Addr) : Sp := fun vs H Q E => ∃ (v : V) (p r : Addr), vs = [v, .ref p, .ref r] ∧ ((∃ (k : Kd) (xs ys : List Int), v = .str k.nm ∧ WordS K H p xs ∧ WordS K H r ys ∧ xs.length ≤ 60 ∧ ys.length ≤ 60 ∧ LamX.Tabs T H ∧ ∀ H' : Hp, Gw T H H' → Q (.bl (decide (plainI k xs = plainI k ys))) H') ∨ (BadV H v ∧ Rs CB H v E))
section
variable {P : Program} {w : World} {K : PySem.W.Frag} {mg : Str → Option Value} {base : Heap} {T : List (Addr × Str)} {cls : Kd → Addr} {CB : Addr}
theorem scPV : FnScope ["kind", "word", "named"] ["kind", "word"] (defScope sPV) := ⟨rfl, rfl, rfl, by decide +kernel, rfl, by decide +kernel, by decide +kernel⟩
theorem ok_pv {f : Addr} {fd : FuncData} (F : Fun K "plain_value" "plain_value" sPV f fd) (B : Bi mg) (cKN : CalX (L2.CX P w) P w K mg base 3 "kind_named" (spKN cls CB)) (cPlain : ∀ k, MetX CX0 P w K mg base 3 (cls k) "plain" (spPlainM K cls T k)) : FnOk P w K mg base (L2.CX P w) 4 f fd ["kind", "word"] (spPV K T CB) := by
  refine F.okX scPV (fun vs H Q E h => ?_) (fun cdv A outer s H vs Q E hr h => ?_)
  · obtain ⟨v, p, rfl, _⟩ := h
    rfl
  · obtain ⟨v, p, rfl, h⟩ := h
    rcases h with ⟨k, xs, rfl, hw, hl, ht, q⟩ | ⟨b, r⟩
    · refine ⟨_, (pss_cons (ps_set (i := 2) scPV.nd rfl (.inl rfl) (pe_cx cKN hr (by decide) (passes_call (takes_of rfl rfl rfl rfl) (fun _ _ _ _ h => h)) (by rfl) (pa_cons (pv 0) pa_nil)))
 (pss_one (ps_ret (pe_mx (cPlain k) hr (by decide) pass0 (pv 2) (pa_cons (pv 1) pa_nil))))), ?_⟩
      simp only [tSeq, tAsg, gName, tOp, rI, rI0, rU, tUn, tVar, tC, tCB, tCons, tNil, tTest, tIfS, tRet, tRetN, tDrop, tNext, tBreak, tCont, rEq, rNe, CDiv, CDivN, CMul, tBM, tBM0, tTup, tLst, tAug, tIf, tAnd, tOr, tNot, tAndV, tOrV, tNotV, tIsN, tNotN, tB, scal, tCall, cxK, cxKn, rIxT, rIxL, rIn, rAppend, rReverse, tVals, tDSetd, tDGet, tDGet1, tDGet2, tDIn, tDNotIn, rSortV, rSortT, rPop, rSortL, rSortT, tSl, tNoPart, tPart, List.append_nil, L2.start, List.map_cons, List.map_nil, List.length_cons, List.length_nil, List.replicate_succ, List.replicate_zero, List.cons_append, List.nil_append, Nat.reduceAdd, Nat.reduceSub, exists_eq, exists_eq', List.getElem?_cons_zero, List.getElem?_cons_succ, List.set_cons_zero, List.set_cons_succ, Option.some.injEq, V.int.injEq, V.bl.injEq, V.str.injEq, V.ref.injEq, List.cons.injEq, and_true, true_and, and_false, false_and, reduceCtorEq, exists_false, or_false, false_or, exists_and_left, exists_and_right, exists_eq_left, exists_eq_left', exists_eq_right, exists_eq_right', exists_const, ite_true, ite_false, Bool.false_eq_true, if_true, if_false, decide_true, decide_false]
      refine ⟨_, rfl, .inl ⟨k, rfl, fun H1 o s1 ho => ?_⟩⟩
      simp only [tSeq, tAsg, gName, tOp, rI, rI0, rU, tUn, tVar, tC, tCB, tCons, tNil, tTest, tIfS, tRet, tRetN, tDrop, tNext, tBreak, tCont, rEq, rNe, CDiv, CDivN, CMul, tBM, tBM0, tTup, tLst, tAug, tIf, tAnd, tOr, tNot, tAndV, tOrV, tNotV, tIsN, tNotN, tB, scal, tCall, cxK, cxKn, rIxT, rIxL, rIn, rAppend, rReverse, tVals, tDSetd, tDGet, tDGet1, tDGet2, tDIn, tDNotIn, rSortV, rSortT, rPop, rSortL, rSortT, tSl, tNoPart, tPart, List.append_nil, L2.start, List.map_cons, List.map_nil, List.length_cons, List.length_nil, List.replicate_succ, List.replicate_zero, List.cons_append, List.nil_append, Nat.reduceAdd, Nat.reduceSub, exists_eq, exists_eq', List.getElem?_cons_zero, List.getElem?_cons_succ, List.set_cons_zero, List.set_cons_succ, Option.some.injEq, V.int.injEq, V.bl.injEq, V.str.injEq, V.ref.injEq, List.cons.injEq, and_true, true_and, and_false, false_and, reduceCtorEq, exists_false, or_false, false_or, exists_and_left, exists_and_right, exists_eq_left, exists_eq_left', exists_eq_right, exists_eq_right', exists_const, ite_true, ite_false, Bool.false_eq_true, if_true, if_false, decide_true, decide_false]
      obtain ⟨dx, hd⟩ := id ho
      exact ⟨.ref o, rfl, o, dx, [], rfl, hd, rfl, .ref p, rfl, o, p, xs, rfl, ho, hw.same s1, hl, ht.ext s1, fun H2 t g2 h2 => q H2 t ((Gw.of ht s1).trans g2) h2⟩
    · have k := Kd.list
      refine ⟨_, (pss_cons (ps_set (i := 2) scPV.nd rfl (.inl rfl) (pe_cx cKN hr (by decide) (passes_call (takes_of rfl rfl rfl rfl) (fun _ _ _ _ h => h)) (by rfl) (pa_cons (pv 0) pa_nil)))
 (pss_one (ps_ret (pe_mx (cPlain k) hr (by decide) pass0 (pv 2) (pa_cons (pv 1) pa_nil))))), ?_⟩
      simp only [tSeq, tAsg, gName, tOp, rI, rI0, rU, tUn, tVar, tC, tCB, tCons, tNil, tTest, tIfS, tRet, tRetN, tDrop, tNext, tBreak, tCont, rEq, rNe, CDiv, CDivN, CMul, tBM, tBM0, tTup, tLst, tAug, tIf, tAnd, tOr, tNot, tAndV, tOrV, tNotV, tIsN, tNotN, tB, scal, tCall, cxK, cxKn, rIxT, rIxL, rIn, rAppend, rReverse, tVals, tDSetd, tDGet, tDGet1, tDGet2, tDIn, tDNotIn, rSortV, rSortT, rPop, rSortL, rSortT, tSl, tNoPart, tPart, List.append_nil, L2.start, List.map_cons, List.map_nil, List.length_cons, List.length_nil, List.replicate_succ, List.replicate_zero, List.cons_append, List.nil_append, Nat.reduceAdd, Nat.reduceSub, exists_eq, exists_eq', List.getElem?_cons_zero, List.getElem?_cons_succ, List.set_cons_zero, List.set_cons_succ, Option.some.injEq, V.int.injEq, V.bl.injEq, V.str.injEq, V.ref.injEq, List.cons.injEq, and_true, true_and, and_false, false_and, reduceCtorEq, exists_false, or_false, false_or, exists_and_left, exists_and_right, exists_eq_left, exists_eq_left', exists_eq_right, exists_eq_right', exists_const, ite_true, ite_false, Bool.false_eq_true, if_true, if_false, decide_true, decide_false]
      exact ⟨_, rfl, .inr ⟨b, r⟩⟩
end
end Mv

set_option Elab.async false
set_option linter.all false
set_option maxRecDepth 100000
set_option maxHeartbeats 4000000
namespace Mv
open PySem PySem.Spec PyProof.Rows L2
abbrev sShaped : Stmt := topS 24
theorem tt {K : PySem.W.Frag} {H : Hp} {b : Addr} {xs : List V} (h : H b = some (.tup xs)) : SqT K H b xs := .inl (.inl h)
theorem ll {K : PySem.W.Frag} {H : Hp} {b : Addr} {xs : List V} (h : H b = some (.lst xs)) : SqL K H b xs := .inl (.inl h)
/-- some ints, put into a list that is being made -/
def SomeI (H : Hp) (D : Addr) (n i : Nat) (H' : Hp) : Prop := ∃ acc : List Int, H' = upd H D (.lst (acc.map V.int)) ∧ acc.length ≤ i ∧ acc.length ≤ n
theorem SomeI.snoc {H : Hp} {D : Addr} {n i : Nat} {acc : List Int} (y : Int) (hl : acc.length ≤ i) (hi : i < n) : SomeI H D n (i + 1) (upd (upd H D (.lst (acc.map V.int))) D (.lst (acc.map V.int ++ [.int y]))) :=
  ⟨acc ++ [y], by rw [upd_upd, List.map_append]; rfl, by rw [List.length_append, List.length_singleton]; omega, by rw [List.length_append, List.length_singleton]; omega⟩
section
variable {P : Program} {w : World} {K : PySem.W.Frag} {mg : Str → Option Value} {base : Heap}
theorem scShaped : FnScope ["_law_stream_here", "_law_word_here", "_law_shape", "_law_row", "_law_k"] ["_law_stream_here", "_law_word_here"] (defScope sShaped) := ⟨rfl, rfl, rfl, by decide +kernel, rfl, by decide +kernel, by decide +kernel⟩
def spShaped : Sp := fun vs H Q _ => ∃ (a p : Addr) (xs : List Int), vs = [.ref a, .ref p] ∧ Strm H a ∧ H p = some (.tup (xs.map V.int)) ∧ xs.length ≤ 10 ∧ ∀ (H' : Hp) (z : Addr) (ys : List Int), Sx a H H' → Strm H' a → H' z = some (.tup (ys.map V.int)) → ys.length ≤ 10 → Q (.ref z) H'
theorem ok_shaped {f : Addr} {fd : FuncData} (F : Fun K "_law_shaped" "_law_shaped" sShaped f fd) (B : Bi mg) (cDraw : CalX CX0 P w K mg base 1 "_law_draw" spDraw) : FnOk P w K mg base CX0 2 f fd ["_law_stream_here", "_law_word_here"] spShaped := by
  refine F.ok scShaped (fun vs H Q E h => ?_) (fun cdv A outer s H vs Q E hr h => ?_)
  · obtain ⟨a, p, xs, rfl, _⟩ := h
    rfl
  · obtain ⟨a, p, xs, rfl, hs, hp, hl, q⟩ := h
    refine ⟨_, (pss_cons (ps_set (i := 2) scShaped.nd rfl (.inl rfl) (pe_cx cDraw hr (by decide) pass0 (by rfl) (pa_cons (pv 0) (pa_cons pe_int pa_nil))))
 (pss_cons (ps_if (pt_cmpR op_eq (pv 2) pe_int (nomark _))
 (pss_one (ps_ret (pe_callTy call_tuple_of (by rfl) B.tuple (by decide +kernel) (pa_cons (pe_callB cr_sortT' (by rfl) B.sorted (by decide +kernel) (pa_cons (pv 1) pa_nil)) pa_nil)))) pss_nil)
 (pss_cons (ps_if (pt_cmpR op_eq (pv 2) pe_int (nomark _))
 (pss_cons (ps_set (i := 3) scShaped.nd rfl (.inr rfl) (pe_callB cr_sortT' (by rfl) B.sorted (by decide +kernel) (pa_cons (pv 1) pa_nil)))
 (pss_one (ps_ret (pe_callTy call_tuple_of (by rfl) B.tuple (by decide +kernel) (pa_cons (pe_lc (own := [("_law_k", 4)]) (g := gName 4) (tt := (tOr (tTest (tOp rEq (tVar 4) (tC (V.int 0)))) (tTest (tOp rNe (tOp (rIxL K) (tVar 3) (tVar 4)) (tOp (rIxL K) (tVar 3) (tOp (rI0 fun i j => .int (i - j)) (tVar 4) (tC (V.int 1)))))))) (te := (tOp (rIxL K) (tVar 3) (tVar 4))) rfl scShaped.nd (pi_range1 (by rfl) B.range (pa_cons (pe_callB call_len_seq (by rfl) B.len PySem.boot_len (pa_cons (pv 3) pa_nil)) pa_nil)) (blkOk_by (N := ["_law_stream_here", "_law_word_here", "_law_shape", "_law_row", "_law_k"]) (sc := defScope sShaped) (by decide +kernel)) (fun _ _ _ _ _ => (pg_name (i := 4) scShaped.nd rfl (.inl rfl))) (fun _ _ _ _ _ => (pts_one (PW.pt (pw_or (pt_cmpR op_eq (pv 4) pe_int (nomark _)) (pw_or1 (pt_cmpR op_ne (pe_ix ix_list (pv 3) (pv 4) (fun _ _ => rfl)) (pe_ix ix_list (pv 3) (pe_op op_sub (pv 4) pe_int) (fun _ _ => rfl)) (nomark _))))))) (fun _ _ _ _ _ => (pe_ix ix_list (pv 3) (pv 4) (fun _ _ => rfl)))) pa_nil))))) pss_nil)
 (pss_cons (ps_if (pt_cmpR op_eq (pv 2) pe_int (nomark _))
 (pss_one (ps_ret (pe_slice sl_tupA (pv 1) po_none (po_some pe_int)))) pss_nil)
 (pss_cons (ps_if (pt_cmpR op_eq (pv 2) pe_int (nomark _))
 (pss_one (ps_ret (pe_callTy call_tuple_of (by rfl) B.tuple (by decide +kernel) (pa_cons (pe_lc (own := [("_law_k", 4)]) (g := gName 4) (tt := tYes) (te := (tOp (rIxT K) (tVar 1) (tC (V.int 0)))) rfl scShaped.nd (pi_range1 (by rfl) B.range (pa_cons (pe_callB call_len_seq (by rfl) B.len PySem.boot_len (pa_cons (pv 1) pa_nil)) pa_nil)) (blkOk_by (N := ["_law_stream_here", "_law_word_here", "_law_shape", "_law_row", "_law_k"]) (sc := defScope sShaped) (by decide +kernel)) (fun _ _ _ _ _ => (pg_name (i := 4) scShaped.nd rfl (.inl rfl))) (fun _ _ _ _ _ => pts_nil) (fun _ _ _ _ _ => (pe_ix ix_tup (pv 1) pe_int (fun _ _ => rfl)))) pa_nil)))) pss_nil)
 (pss_one (ps_ret (pv 1)))))))), ?_⟩
    simp only [tSeq, tAsg, gName, tOp, rI, rI0, rU, tUn, tVar, tC, tCB, tCons, tNil, tTest, tIfS, tRet, tRetN, tDrop, tNext, tBreak, tCont, rEq, rNe, CDiv, CDivN, CMul, tBM, tBM0, tTup, tLst, tAug, tIf, tAnd, tOr, tNot, tAndV, tOrV, tNotV, tIsN, tNotN, tB, scal, tCall, cxK, cxKn, rIxT, rIxL, rIn, rAppend, rReverse, tVals, tDSetd, tDGet, tDGet1, tDGet2, tDIn, tDNotIn, rSortV, rSortT, rPop, rSortL, rSortT, tSl, tNoPart, tPart, List.append_nil, L2.start, List.map_cons, List.map_nil, List.length_cons, List.length_nil, List.replicate_succ, List.replicate_zero, List.cons_append, List.nil_append, Nat.reduceAdd, Nat.reduceSub, exists_eq, exists_eq', List.getElem?_cons_zero, List.getElem?_cons_succ, List.set_cons_zero, List.set_cons_succ, Option.some.injEq, V.int.injEq, V.bl.injEq, V.str.injEq, V.ref.injEq, List.cons.injEq, and_true, true_and, and_false, false_and, reduceCtorEq, exists_false, or_false, false_or, exists_and_left, exists_and_right, exists_eq_left, exists_eq_left', exists_eq_right, exists_eq_right', exists_const, ite_true, ite_false, Bool.false_eq_true, if_true, if_false, decide_true, decide_false]
    refine spDraw_of (by decide) hs fun r H1 _ _ x1 t1 => ?_
    have np : p ≠ a := fun z => by
      obtain ⟨ms, ha, _⟩ := hs
      rw [z, ha] at hp
      cases hp
    have hp1 := x1 _ _ np hp
    have fin : ∀ (H' : Hp) (z : Addr) (ys : List Int), Same H1 H' → H' z = some (.tup (ys.map V.int)) → ys.length ≤ 10 → Q (.ref z) H' := fun H' z ys s2 hz hy => q H' z ys (x1.trans (Sx.of s2)) (t1.same s2) hz hy
    clear q hs hp x1
    simp only [tSeq, tAsg, gName, tOp, rI, rI0, rU, tUn, tVar, tC, tCB, tCons, tNil, tTest, tIfS, tRet, tRetN, tDrop, tNext, tBreak, tCont, rEq, rNe, CDiv, CDivN, CMul, tBM, tBM0, tTup, tLst, tAug, tIf, tAnd, tOr, tNot, tAndV, tOrV, tNotV, tIsN, tNotN, tB, scal, tCall, cxK, cxKn, rIxT, rIxL, rIn, rAppend, rReverse, tVals, tDSetd, tDGet, tDGet1, tDGet2, tDIn, tDNotIn, rSortV, rSortT, rPop, rSortL, rSortT, tSl, tNoPart, tPart, List.append_nil, L2.start, List.map_cons, List.map_nil, List.length_cons, List.length_nil, List.replicate_succ, List.replicate_zero, List.cons_append, List.nil_append, Nat.reduceAdd, Nat.reduceSub, exists_eq, exists_eq', List.getElem?_cons_zero, List.getElem?_cons_succ, List.set_cons_zero, List.set_cons_succ, Option.some.injEq, V.int.injEq, V.bl.injEq, V.str.injEq, V.ref.injEq, List.cons.injEq, and_true, true_and, and_false, false_and, reduceCtorEq, exists_false, or_false, false_or, exists_and_left, exists_and_right, exists_eq_left, exists_eq_left', exists_eq_right, exists_eq_right', exists_const, ite_true, ite_false, Bool.false_eq_true, if_true, if_false, decide_true, decide_false]
    refine ite2 (fun _ => ?_) (fun _ => ite2 (fun _ => ?_) (fun _ => ite2 (fun _ => ?_) (fun _ => ite2 (fun _ => ?_) (fun _ => fin H1 p xs (Same.refl H1) hp1 hl))))
    · refine ⟨xs, tt hp1, fun l hl' => ⟨_, .inl ⟨SqL.of upd_same, fun z hz => fin _ z (sortI xs) ((same_upd hl').trans (same_upd hz)) upd_same ?_⟩⟩⟩
      rw [(sort_perm xs).length_eq]
      exact hl
    · refine ⟨xs, tt hp1, fun row hrow => ?_⟩
      have sr := same_upd (o := .lst ((sortI xs).map V.int)) hrow
      have h2 : upd H1 row (.lst ((sortI xs).map V.int)) row = some (.lst ((sortI xs).map V.int)) := upd_same
      have hsl : (sortI xs).length ≤ 10 := by
        rw [(sort_perm xs).length_eq]
        exact hl
      generalize upd H1 row (.lst ((sortI xs).map V.int)) = H2 at sr h2 ⊢
      generalize sortI xs = ys at h2 hsl
      refine ⟨.ref row, rfl, row, rfl, ys.map V.int, .inl (ll h2), (ys.length : Nat), by rw [List.length_map], by omega, by omega, fun D hD => ?_⟩
      have nrD : row ≠ D := ne_of_none h2 hD
      refine lc_range (n := ys.length) (SomeI H2 D ys.length) ⟨[], rfl, Nat.le_refl _, Nat.zero_le _⟩ ?_ ?_
      · rintro i H' hi ⟨acc, rfl, ha, hb⟩
        have hq : ∀ o, SqL K (upd H2 D o) row (ys.map V.int) := fun o => ll (by rw [upd_ne nrD]; exact h2)
        have ei : ys[i]? = some ys[i] := List.getElem?_eq_getElem hi
        have at1 : atI (ys.map V.int) (0 + (i : Int)) = some (.int ys[i]) := at_of (j := i) (by omega) (by rw [List.getElem?_map, ei]; rfl)
        have put : ∃ ac : List V, upd H2 D (.lst (acc.map V.int)) D = some (.lst ac) ∧ ac.length < sizeLine ∧ SomeI H2 D ys.length (i + 1) (upd (upd H2 D (.lst (acc.map V.int))) D (.lst (ac ++ [.int ys[i]]))) :=
          ⟨acc.map V.int, upd_same, by rw [List.length_map, sizeLine_eq]; omega, SomeI.snoc _ ha hi⟩
        refine ⟨rfl, ?_⟩
        simp only [tSeq, tAsg, gName, tOp, rI, rI0, rU, tUn, tVar, tC, tCB, tCons, tNil, tTest, tIfS, tRet, tRetN, tDrop, tNext, tBreak, tCont, rEq, rNe, CDiv, CDivN, CMul, tBM, tBM0, tTup, tLst, tAug, tIf, tAnd, tOr, tNot, tAndV, tOrV, tNotV, tIsN, tNotN, tB, scal, tCall, cxK, cxKn, rIxT, rIxL, rIn, rAppend, rReverse, tVals, tDSetd, tDGet, tDGet1, tDGet2, tDIn, tDNotIn, rSortV, rSortT, rPop, rSortL, rSortT, tSl, tNoPart, tPart, List.append_nil, L2.start, List.map_cons, List.map_nil, List.length_cons, List.length_nil, List.replicate_succ, List.replicate_zero, List.cons_append, List.nil_append, Nat.reduceAdd, Nat.reduceSub, exists_eq, exists_eq', List.getElem?_cons_zero, List.getElem?_cons_succ, List.set_cons_zero, List.set_cons_succ, Option.some.injEq, V.int.injEq, V.bl.injEq, V.str.injEq, V.ref.injEq, List.cons.injEq, and_true, true_and, and_false, false_and, reduceCtorEq, exists_false, or_false, false_or, exists_and_left, exists_and_right, exists_eq_left, exists_eq_left', exists_eq_right, exists_eq_right', exists_const, ite_true, ite_false, Bool.false_eq_true, if_true, if_false, decide_true, decide_false]
        obtain ⟨ac, p1, p2, p3⟩ := put
        refine ⟨.int (0 + (i : Int)), rfl, rfl, ite2 (fun _ => ?_) (fun h0 => ?_)⟩
        · exact ⟨.ref row, rfl, .int (0 + (i : Int)), rfl, row, rfl, _, _, rfl, hq _, _, at1, ac, p1, p2, p3⟩
        · have i0 : i ≠ 0 := fun z => h0 (by subst z; rfl)
          have em : ys[i - 1]? = some ys[i - 1] := List.getElem?_eq_getElem (by omega)
          have at0 : atI (ys.map V.int) (0 + (i : Int) - 1) = some (.int ys[i - 1]) := at_of (j := i - 1) (by omega) (by rw [List.getElem?_map, em]; rfl)
          refine ⟨.ref row, rfl, .int (0 + (i : Int)), rfl, row, rfl, _, _, rfl, hq _, _, at1, .ref row, rfl, .int (0 + (i : Int)), rfl, _, rfl, row, rfl, _, hq _, _, at0, rfl, ite2 (fun _ => ?_) (fun _ => ?_)⟩
          · exact ⟨.ref row, rfl, .int (0 + (i : Int)), rfl, row, rfl, _, _, rfl, hq _, _, at1, ac, p1, p2, p3⟩
          · exact ⟨acc, rfl, by omega, hb⟩
      · rintro H' ⟨acc, rfl, ha, hb⟩
        simp only [tSeq, tAsg, gName, tOp, rI, rI0, rU, tUn, tVar, tC, tCB, tCons, tNil, tTest, tIfS, tRet, tRetN, tDrop, tNext, tBreak, tCont, rEq, rNe, CDiv, CDivN, CMul, tBM, tBM0, tTup, tLst, tAug, tIf, tAnd, tOr, tNot, tAndV, tOrV, tNotV, tIsN, tNotN, tB, scal, tCall, cxK, cxKn, rIxT, rIxL, rIn, rAppend, rReverse, tVals, tDSetd, tDGet, tDGet1, tDGet2, tDIn, tDNotIn, rSortV, rSortT, rPop, rSortL, rSortT, tSl, tNoPart, tPart, List.append_nil, L2.start, List.map_cons, List.map_nil, List.length_cons, List.length_nil, List.replicate_succ, List.replicate_zero, List.cons_append, List.nil_append, Nat.reduceAdd, Nat.reduceSub, exists_eq, exists_eq', List.getElem?_cons_zero, List.getElem?_cons_succ, List.set_cons_zero, List.set_cons_succ, Option.some.injEq, V.int.injEq, V.bl.injEq, V.str.injEq, V.ref.injEq, List.cons.injEq, and_true, true_and, and_false, false_and, reduceCtorEq, exists_false, or_false, false_or, exists_and_left, exists_and_right, exists_eq_left, exists_eq_left', exists_eq_right, exists_eq_right', exists_const, ite_true, ite_false, Bool.false_eq_true, if_true, if_false, decide_true, decide_false]
        refine ⟨_, .inl ⟨SqL.of upd_same, fun z hz => fin _ z acc ((sr.trans (same_upd hD)).trans (same_upd hz)) upd_same (by omega)⟩⟩
    · refine ⟨p, xs.map V.int, rfl, tt hp1, fun _ => fin H1 p xs (Same.refl H1) hp1 hl, fun _ z hz => ?_⟩
      rw [cutV_int]
      exact fin _ z _ (same_upd hz) upd_same (Nat.le_trans (cutI_length _ _ _) hl)
    · refine ⟨.ref p, rfl, p, rfl, xs.map V.int, .inr (tt hp1), (xs.length : Nat), by rw [List.length_map], by omega, by omega, fun D hD => ?_⟩
      have npD : p ≠ D := ne_of_none hp1 hD
      refine lc_range (n := xs.length) (SomeI H1 D xs.length) ⟨[], rfl, Nat.le_refl _, Nat.zero_le _⟩ ?_ ?_
      · rintro i H' hi ⟨acc, rfl, ha, hb⟩
        refine ⟨rfl, ?_⟩
        simp only [tSeq, tAsg, gName, tOp, rI, rI0, rU, tUn, tVar, tC, tCB, tCons, tNil, tTest, tIfS, tRet, tRetN, tDrop, tNext, tBreak, tCont, rEq, rNe, CDiv, CDivN, CMul, tBM, tBM0, tTup, tLst, tAug, tIf, tAnd, tOr, tNot, tAndV, tOrV, tNotV, tIsN, tNotN, tB, scal, tCall, cxK, cxKn, rIxT, rIxL, rIn, rAppend, rReverse, tVals, tDSetd, tDGet, tDGet1, tDGet2, tDIn, tDNotIn, rSortV, rSortT, rPop, rSortL, rSortT, tSl, tNoPart, tPart, List.append_nil, L2.start, List.map_cons, List.map_nil, List.length_cons, List.length_nil, List.replicate_succ, List.replicate_zero, List.cons_append, List.nil_append, Nat.reduceAdd, Nat.reduceSub, exists_eq, exists_eq', List.getElem?_cons_zero, List.getElem?_cons_succ, List.set_cons_zero, List.set_cons_succ, Option.some.injEq, V.int.injEq, V.bl.injEq, V.str.injEq, V.ref.injEq, List.cons.injEq, and_true, true_and, and_false, false_and, reduceCtorEq, exists_false, or_false, false_or, exists_and_left, exists_and_right, exists_eq_left, exists_eq_left', exists_eq_right, exists_eq_right', exists_const, ite_true, ite_false, Bool.false_eq_true, if_true, if_false, decide_true, decide_false]
        refine ⟨.ref p, rfl, p, rfl, xs.map V.int, tt (by rw [upd_ne npD]; exact hp1), .int (xs[0]'(by omega)), atI_nat (j := 0) (by rw [List.getElem?_map, List.getElem?_eq_getElem (by omega)]; rfl), acc.map V.int, upd_same, by rw [List.length_map, sizeLine_eq]; omega, SomeI.snoc _ ha hi⟩
      · rintro H' ⟨acc, rfl, ha, hb⟩
        simp only [tSeq, tAsg, gName, tOp, rI, rI0, rU, tUn, tVar, tC, tCB, tCons, tNil, tTest, tIfS, tRet, tRetN, tDrop, tNext, tBreak, tCont, rEq, rNe, CDiv, CDivN, CMul, tBM, tBM0, tTup, tLst, tAug, tIf, tAnd, tOr, tNot, tAndV, tOrV, tNotV, tIsN, tNotN, tB, scal, tCall, cxK, cxKn, rIxT, rIxL, rIn, rAppend, rReverse, tVals, tDSetd, tDGet, tDGet1, tDGet2, tDIn, tDNotIn, rSortV, rSortT, rPop, rSortL, rSortT, tSl, tNoPart, tPart, List.append_nil, L2.start, List.map_cons, List.map_nil, List.length_cons, List.length_nil, List.replicate_succ, List.replicate_zero, List.cons_append, List.nil_append, Nat.reduceAdd, Nat.reduceSub, exists_eq, exists_eq', List.getElem?_cons_zero, List.getElem?_cons_succ, List.set_cons_zero, List.set_cons_succ, Option.some.injEq, V.int.injEq, V.bl.injEq, V.str.injEq, V.ref.injEq, List.cons.injEq, and_true, true_and, and_false, false_and, reduceCtorEq, exists_false, or_false, false_or, exists_and_left, exists_and_right, exists_eq_left, exists_eq_left', exists_eq_right, exists_eq_right', exists_const, ite_true, ite_false, Bool.false_eq_true, if_true, if_false, decide_true, decide_false]
        exact ⟨_, .inl ⟨SqL.of upd_same, fun z hz => fin _ z acc ((same_upd hD).trans (same_upd hz)) upd_same (by omega)⟩⟩
end
end Mv

set_option Elab.async false
set_option linter.all false
set_option maxRecDepth 100000
set_option maxHeartbeats 4000000
namespace Mv
open PySem PySem.Spec PyProof.Rows L2
abbrev sKept : Stmt := topS 25
theorem ixV_snoc (is : List Nat) (i : Nat) : ixV (is ++ [i]) = ixV is ++ [.int (i : Int)] := by
  unfold ixV
  rw [List.map_append]
  rfl
theorem nth {xs : List Int} {i : Nat} (h : i < xs.length) : (xs.map V.int)[i]? = some (.int xs[i]) := by
  rw [List.getElem?_map, List.getElem?_eq_getElem h]
  rfl
theorem cut_take (xs : List Int) {i : Nat} (h : i ≤ xs.length) : cutI xs none (some (i : Int)) = xs.take i := by
  unfold cutI
  rw [HT.sIx_none, HT.sIx_nat, List.drop_zero, Nat.sub_zero, Nat.min_eq_left h]
theorem cut_drop (xs : List Int) {i : Nat} (h : i ≤ xs.length) : cutI xs (some (i : Int)) none = xs.drop i := by
  unfold cutI
  rw [HT.sIx_none, HT.sIx_nat, Nat.min_eq_left h, List.take_of_length_le (by rw [List.length_drop]; exact Nat.le_refl _)]
theorem sla_ints {K : PySem.W.Frag} {H : Hp} {p : Addr} {xs : List Int} {lo hi : Option Int} {Q : VK} (h : SqT K H p (xs.map V.int)) (q : ∀ (z : Addr) (H' : Hp), Same H H' → SqT K H' z ((cutI xs lo hi).map V.int) → Q (.ref z) H') : rSlA K (.ref p) lo hi H Q := by
  refine ⟨p, xs.map V.int, rfl, h, fun e => ?_, fun _ z hz => ?_⟩
  · refine q p H (Same.refl H) ?_
    rw [List.length_map] at e
    unfold cutI
    rw [e.1, e.2, List.drop_zero, Nat.sub_zero, List.take_length]
    exact h
  · refine q z _ (same_upd hz) ?_
    rw [cutV_int]
    exact tt upd_same
theorem t_notin {K : PySem.W.Frag} {σ : L2.St} {H : Hp} {p : Addr} {i : Nat} {xs : List Int} {tl tu : TO} {lo hi : Option Int} {QT : Bool → Hp → Prop} (e1 : σ[1]? = some (some (.ref p))) (e3 : σ[3]? = some (some (.int (i : Int)))) (h : SqT K H p (xs.map V.int)) (hi' : i < xs.length)
    (hl : ∀ Q : Option Int → Hp → Prop, Q lo H → tl σ H Q) (hu : ∀ Q : Option Int → Hp → Prop, Q hi H → tu σ H Q) (q : ∀ H', Same H H' → QT (decide (xs[i] ∉ cutI xs lo hi)) H') :
    tTest (tOp (rIn K true) (tOp (rIxT K) (tVar 1) (tVar 3)) (tSl (rSlA K) (tVar 1) tl tu)) σ H QT := by
  refine ⟨_, e1, _, e3, p, _, _, _, rfl, rfl, h, atI_nat (nth hi'), _, e1, hl _ (hu _ (sla_ints h fun z H' sm hz => ?_))⟩
  refine ⟨z, _, rfl, .inr hz, rfl, ints_flat _, _, rfl, ?_⟩
  rw [inV_int]
  have e : (if true = true then !decide (xs[i] ∈ cutI xs lo hi) else decide (xs[i] ∈ cutI xs lo hi)) = decide (xs[i] ∉ cutI xs lo hi) := by
    rw [if_pos rfl, decide_not]
  rw [e]
  exact q H' sm
theorem headIx_len (xs : List Int) (i : Nat) : (headIx xs i).length ≤ xs.length := by
  unfold headIx
  rw [List.length_map]
  have h := nodup_headsI (xs.take i)
  refine Nat.le_trans (List.Nodup.length_le_of_subset h (l₂ := xs) fun y hy => List.mem_of_mem_take ((mem_headsI _).mp hy)) (Nat.le_refl _)
theorem tlIx_len (xs : List Int) (i : Nat) : (tlIx xs i).length ≤ i := by
  unfold tlIx
  exact Nat.le_trans (List.length_filter_le _ _) (by rw [List.length_range]; exact Nat.le_refl _)
theorem cut_last (n : Nat) : cutI ((List.range n).map fun i : Nat => (i : Int)) (some (-1)) none = ((if n = 0 then [] else [n - 1] : List Nat)).map fun i : Nat => (i : Int) := by
  cases n with
  | zero => rfl
  | succ n =>
    unfold cutI
    rw [List.length_map, List.length_range, HT.sIx_none]
    have e : HT.sIx (n + 1) 0 (some (-1)) = n := by
      show (if (-1 : Int) < 0 then ((-1 : Int) + ((n + 1 : Nat) : Int)).toNat else min ((-1 : Int)).toNat (n + 1)) = n
      rw [if_pos (by decide)]
      omega
    rw [e, List.range_succ, List.map_append, List.drop_append_of_le_length (by simp), show n + 1 - n = 1 from by omega]
    rw [List.drop_of_length_le (by simp)]
    rfl
theorem cut_first (n : Nat) : cutI ((List.range n).map fun i : Nat => (i : Int)) none (some 1) = ((if n = 0 then [] else [0] : List Nat)).map fun i : Nat => (i : Int) := by
  cases n with
  | zero => rfl
  | succ n =>
    have := cut_take ((List.range (n + 1)).map fun i : Nat => (i : Int)) (i := 1) (by simp)
    rw [show ((1 : Nat) : Int) = 1 from rfl] at this
    rw [this, List.range_succ_eq_map]
    rfl
theorem two_le : 2 ≤ sizeLine := by
  rw [sizeLine_eq]
  omega
theorem cutv_last (n : Nat) : cutV (rgV 0 (n : Int)) (some (-1)) none = ixV (if n = 0 then [] else [n - 1]) := by rw [rg_ix, ixV_int, cutV_int, cut_last, ← ixV_int]
theorem cutv_first (n : Nat) : cutV (rgV 0 (n : Int)) none (some 1) = ixV (if n = 0 then [] else [0]) := by rw [rg_ix, ixV_int, cutV_int, cut_first, ← ixV_int]
/-- what a pair on the heap holds -/
def kv (H : Hp) : V → Int × Int
  | .ref t => match H t with
    | some (.tup [.int a, .int b]) => (a, b)
    | _ => (0, 0)
  | _ => (0, 0)
def IsPr (H : Hp) (x : V) : Prop := ∃ t a b, x = .ref t ∧ H t = some (.tup [.int a, .int b])
theorem kv_of {H : Hp} {t : Addr} {a b : Int} (h : H t = some (.tup [.int a, .int b])) : kv H (.ref t) = (a, b) := by
  show (match H t with
    | some (.tup [.int a, .int b]) => (a, b)
    | _ => (0, 0)) = _
  rw [h]
def Prs (H : Hp) (acc : List V) (ps : List (Int × Int)) : Prop := acc.map (kv H) = ps ∧ ∀ x ∈ acc, IsPr H x
theorem Prs.sx {H H' : Hp} {D : Addr} {acc : List V} {ps : List (Int × Int)} (h : Prs H acc ps) (s : Sx D H H') (hD : ∀ xs, H D ≠ some (.tup xs)) : Prs H' acc ps := by
  obtain ⟨h1, h2⟩ := h
  have h3 : ∀ x ∈ acc, kv H' x = kv H x ∧ IsPr H' x := fun x hx => by
    obtain ⟨t, a, b, rfl, ht⟩ := h2 x hx
    have ht' := s _ _ (fun z => hD _ (z ▸ ht)) ht
    exact ⟨by rw [kv_of ht, kv_of ht'], t, a, b, rfl, ht'⟩
  refine ⟨?_, fun x hx => (h3 x hx).2⟩
  rw [← h1]
  exact List.map_congr_left fun x hx => (h3 x hx).1
theorem Prs.snoc {H : Hp} {acc : List V} {ps : List (Int × Int)} {t : Addr} {a b : Int} (h : Prs H acc ps) (ht : H t = some (.tup [.int a, .int b])) : Prs H (acc ++ [.ref t]) (ps ++ [(a, b)]) := by
  refine ⟨by rw [List.map_append, h.1, List.map_singleton, kv_of ht], fun x hx => ?_⟩
  rcases List.mem_append.mp hx with hx | hx
  · exact h.2 x hx
  · rw [List.mem_singleton.mp hx]
    exact ⟨t, a, b, rfl, ht⟩
theorem lex_one : ∀ {xs ys : List (Int × Int)}, xs.Perm ys → xs.Pairwise (fun p q => lexP p q = true) → ys.Pairwise (fun p q => lexP p q = true) → xs = ys
  | [], ys, h, _, _ => (List.Perm.nil_eq h)
  | x :: xs, [], h, _, _ => absurd h.length_eq (by simp)
  | x :: xs, y :: ys, h, h1, h2 => by
    have a := List.pairwise_cons.mp h1
    have b := List.pairwise_cons.mp h2
    have e : x = y := by
      have m1 : x ∈ y :: ys := h.mem_iff.mp List.mem_cons_self
      have m2 : y ∈ x :: xs := h.mem_iff.mpr List.mem_cons_self
      rcases List.mem_cons.mp m1 with e | m1
      · exact e
      · rcases List.mem_cons.mp m2 with e | m2
        · exact e.symm
        · have p := of_decide_eq_true (a.1 _ m2)
          have q := of_decide_eq_true (b.1 _ m1)
          refine Prod.ext ?_ ?_ <;> omega
    subst e
    rw [lex_one (List.Perm.cons_inv h) a.2 b.2]
theorem sorted_prs {H : Hp} {xs ys : List V} {ps : List (Int × Int)} (h : xs.map (kv H) = ps) (s : SrtO.Srtd (ltP (kv H)) ys) (b : SrtO.Stb (ltP (kv H)) ys xs) : ys.map (kv H) = ps.mergeSort lexP := by
  refine lex_one ((b.perm.map _).trans ((by rw [h] : List.Perm (xs.map (kv H)) ps).trans (List.mergeSort_perm _ _).symm)) ?_ ?_
  · rw [List.pairwise_map]
    refine s.imp fun {x y} q => ?_
    have q := SrtO.lexB_no.mp q
    refine decide_eq_true ?_
    omega
  · refine List.pairwise_mergeSort (fun p q r h1 h2 => ?_) (fun p q => ?_) ps
    · have h1 := of_decide_eq_true h1
      have h2 := of_decide_eq_true h2
      refine decide_eq_true ?_
      omega
    · rw [Bool.or_eq_true, decide_eq_true_iff, decide_eq_true_iff]
      omega
/-- [pair[1] for pair in sorted(..)] -/
theorem sort_second {K : PySem.W.Frag} {a b c : V} {H : Hp} {Q : VK} {inner : TE} {ps : List (Int × Int)} (hlen : ps.length ≤ 60)
    (hin : ∀ Q' : VK, (∀ (D : Addr) (H' : Hp) (acc : List V), Same H H' → H' D = some (.lst acc) → Prs H' acc ps → Q' (.ref D) H') → inner [some a, some b, some c, none, none] H Q')
    (q : ∀ (z : Addr) (H' : Hp), Same H H' → H' z = some (.lst (((ps.mergeSort lexP).map Prod.snd).map V.int)) → Q (.ref z) H') :
    tLc (iList K (tCB (rSortedPO K) (tCons inner tNil))) (gName 4) tYes (tOp (rIxT K) (tVar 4) (tC (V.int 1))) [4] [some a, some b, some c, none, none] H Q := by
  refine hin _ fun D H1 acc s1 hd pr => ?_
  refine ⟨D, acc, kv H1, rfl, SqL.of hd, fun x hx => ?_, fun ys p sr sb np => ?_⟩
  · obtain ⟨t, i, j, rfl, ht⟩ := pr.2 x hx
    exact ⟨t, rfl, by rw [kv_of ht]; exact ht⟩
  have eys := sorted_prs pr.1 sr sb
  have hys : ∀ x ∈ ys, IsPr H1 x := fun x hx => pr.2 x (sb.perm.mem_iff.mp hx)
  have lys : ys.length ≤ 60 := by
    have := congrArg List.length pr.1
    rw [List.length_map] at this
    rw [sb.perm.length_eq, this]
    exact hlen
  have s2 := s1.trans (same_upd (o := .lst ys) np)
  have s12 : Same H1 (upd H1 p (.lst ys)) := same_upd np
  have hp2 : upd H1 p (.lst ys) p = some (.lst ys) := upd_same
  generalize upd H1 p (.lst ys) = H2 at s2 s12 hp2
  refine ⟨p, rfl, ⟨ys, SqL.of hp2⟩, fun D2 hD2 => ?_⟩
  have npD : p ≠ D2 := ne_of_none hp2 hD2
  refine lc_list (xs := ys) (fun i H' => Sx D2 H2 H' ∧ H' D2 = some (.lst (((ys.take i).map fun x => (kv H1 x).2).map V.int))) ⟨Sx.upd, upd_same⟩ (fun i H' _ h => SqL.of (h.1 _ _ npD hp2)) ?_ ?_
  · rintro i x H' hx ⟨sx, hd⟩
    obtain ⟨t, u, v, rfl, ht⟩ := hys x (List.mem_of_getElem? hx)
    have ht2 := s12 _ _ ht
    have ht' := sx _ _ (ne_of_none ht2 hD2) ht2
    have hi : i < ys.length := (List.getElem?_eq_some_iff.mp hx).1
    refine ⟨rfl, ?_⟩
    simp only [tYes, if_true]
    refine ⟨_, rfl, t, [.int u, .int v], 1, .int v, rfl, rfl, tt ht', rfl, _, hd, by rw [List.length_map, List.length_map, sizeLine_eq]; have := List.length_take_le i ys; omega, sx.trans Sx.upd, ?_⟩
    rw [List.take_succ, hx, upd_same, List.map_append, List.map_append]
    have e : (kv H1 (.ref t)).2 = v := by rw [kv_of ht]
    show _ = some (HO.lst (_ ++ [.int (kv H1 (.ref t)).2]))
    rw [e]
  · rintro H' ⟨sx, hd⟩
    refine q D2 H' (fun b o e => sx b o (ne_of_none (s2 _ _ e) hD2) (s2 _ _ e)) ?_
    rw [List.take_length] at hd
    rw [hd, ← eys, List.map_map, List.map_map, List.map_map]
    rfl
section
variable {P : Program} {w : World} {K : PySem.W.Frag} {mg : Str → Option Value} {base : Heap}
theorem scKept : FnScope ["_law_kind_here", "_law_word_here", "_law_size", "_law_k", "_law_pair"] ["_law_kind_here", "_law_word_here"] (defScope sKept) := ⟨rfl, rfl, rfl, by decide +kernel, rfl, by decide +kernel, by decide +kernel⟩
def spKept : Sp := fun vs H Q _ => ∃ (k : Kd) (p : Addr) (xs : List Int), vs = [.str k.nm, .ref p] ∧ H p = some (.tup (xs.map V.int)) ∧ xs.length ≤ 60 ∧ ∀ (H' : Hp) (z : Addr), Same H H' → H' z = some (.lst (ixV (keepIx k xs))) → Q (.ref z) H'
theorem ok_kept {f : Addr} {fd : FuncData} (F : Fun K "_law_kept" "_law_kept" sKept f fd) (B : Bi mg) (hmin : mg "min" = none) : FnOk P w K mg base CX0 1 f fd ["_law_kind_here", "_law_word_here"] spKept := by
  refine F.ok scKept (fun vs H Q E h => ?_) (fun cdv A outer s H vs Q E hr h => ?_)
  · obtain ⟨k, p, xs, rfl, _⟩ := h
    rfl
  · obtain ⟨k, p, xs, rfl, hp, hl, q⟩ := h
    refine ⟨_, (pss_cons (ps_set (i := 2) scKept.nd rfl (.inl rfl) (pe_callB call_len_seq (by rfl) B.len PySem.boot_len (pa_cons (pv 1) pa_nil)))
 (pss_cons (ps_if (pt_cmpR op_eq (pv 0) pe_str (nomark _))
 (pss_one (ps_ret (pe_listRg rfl (by rfl) B.list (prg_1 (by rfl) B.range (pv 2))))) pss_nil)
 (pss_cons (ps_if (pt_cmpR op_eq (pv 0) pe_str (nomark _))
 (pss_one (ps_ret (pe_lc (own := [("_law_pair", 4)]) (g := gName 4) (tt := tYes) (te := (tOp (rIxT K) (tVar 4) (tC (V.int 1)))) rfl scKept.nd (pi_list (pe_callB cr_sortedPO (by rfl) B.sorted (by decide +kernel) (pa_cons (pe_lc (own := [("_law_k", 3)]) (g := gName 3) (tt := tYes) (te := (tTup (tCons (tOp (rIxT K) (tVar 1) (tVar 3)) (tCons (tVar 3) tNil)))) rfl scKept.nd (pi_range1 (by rfl) B.range (pa_cons (pv 2) pa_nil)) (blkOk_by (N := ["_law_kind_here", "_law_word_here", "_law_size", "_law_k", "_law_pair"]) (sc := defScope sKept) (by decide +kernel)) (fun _ _ _ _ _ => (pg_name (i := 3) scKept.nd rfl (.inl rfl))) (fun _ _ _ _ _ => pts_nil) (fun _ _ _ _ _ => (pe_tup (pa_cons (pe_ix ix_tup (pv 1) (pv 3) (fun _ _ => rfl)) (pa_cons (pv 3) pa_nil))))) pa_nil))) (blkOk_by (N := ["_law_kind_here", "_law_word_here", "_law_size", "_law_k", "_law_pair"]) (sc := defScope sKept) (by decide +kernel)) (fun _ _ _ _ _ => (pg_name (i := 4) scKept.nd rfl (.inl rfl))) (fun _ _ _ _ _ => pts_nil) (fun _ _ _ _ _ => (pe_ix ix_tup (pv 4) pe_int (fun _ _ => rfl)))))) pss_nil)
 (pss_cons (ps_if (pt_cmpR op_eq (pv 0) pe_str (nomark _))
 (pss_one (ps_ret (pe_lc (own := [("_law_pair", 4)]) (g := gName 4) (tt := tYes) (te := (tOp (rIxT K) (tVar 4) (tC (V.int 1)))) rfl scKept.nd (pi_list (pe_callB cr_sortedPO (by rfl) B.sorted (by decide +kernel) (pa_cons (pe_lc (own := [("_law_k", 3)]) (g := gName 3) (tt := (tTest (tOp (rIn K true) (tOp (rIxT K) (tVar 1) (tVar 3)) (tSl (rSlA K) (tVar 1) tNoPart (tPart (tVar 3)))))) (te := (tTup (tCons (tOp (rIxT K) (tVar 1) (tVar 3)) (tCons (tVar 3) tNil)))) rfl scKept.nd (pi_range1 (by rfl) B.range (pa_cons (pv 2) pa_nil)) (blkOk_by (N := ["_law_kind_here", "_law_word_here", "_law_size", "_law_k", "_law_pair"]) (sc := defScope sKept) (by decide +kernel)) (fun _ _ _ _ _ => (pg_name (i := 3) scKept.nd rfl (.inl rfl))) (fun _ _ _ _ _ => (pts_one (pt_cmpR op_notIn_seq (pe_ix ix_tup (pv 1) (pv 3) (fun _ _ => rfl)) (pe_slice sl_tupA (pv 1) po_none (po_some (pv 3))) (by rfl)))) (fun _ _ _ _ _ => (pe_tup (pa_cons (pe_ix ix_tup (pv 1) (pv 3) (fun _ _ => rfl)) (pa_cons (pv 3) pa_nil))))) pa_nil))) (blkOk_by (N := ["_law_kind_here", "_law_word_here", "_law_size", "_law_k", "_law_pair"]) (sc := defScope sKept) (by decide +kernel)) (fun _ _ _ _ _ => (pg_name (i := 4) scKept.nd rfl (.inl rfl))) (fun _ _ _ _ _ => pts_nil) (fun _ _ _ _ _ => (pe_ix ix_tup (pv 4) pe_int (fun _ _ => rfl)))))) pss_nil)
 (pss_cons (ps_if (pt_cmpR op_eq (pv 0) pe_str (nomark _))
 (pss_one (ps_ret (pe_listRg rfl (by rfl) B.list (prg_1 (by rfl) B.range (pe_callB (call_min2 rfl) (by rfl) hmin (by decide +kernel) (pa_cons (pv 2) (pa_cons pe_int pa_nil))))))) pss_nil)
 (pss_cons (ps_if (pt_cmpR op_eq (pv 0) pe_str (nomark _))
 (pss_one (ps_ret (pe_slice sl_list (pe_listRg rfl (by rfl) B.list (prg_1 (by rfl) B.range (pv 2))) (po_some (pe_un un_neg pe_int)) po_none))) pss_nil)
 (pss_cons (ps_if (pt_cmpR op_eq (pv 0) pe_str (nomark _))
 (pss_one (ps_ret (pe_op op_cat (pe_slice sl_list (pe_listRg rfl (by rfl) B.list (prg_1 (by rfl) B.range (pv 2))) po_none (po_some pe_int)) (pe_slice sl_list (pe_listRg rfl (by rfl) B.list (prg_1 (by rfl) B.range (pv 2))) (po_some (pe_un un_neg pe_int)) po_none)))) pss_nil)
 (pss_cons (ps_if (pt_cmpR op_eq (pv 0) pe_str (nomark _))
 (pss_one (ps_ret (pe_lc (own := [("_law_k", 3)]) (g := gName 3) (tt := (tTest (tOp (rIn K true) (tOp (rIxT K) (tVar 1) (tVar 3)) (tSl (rSlA K) (tVar 1) tNoPart (tPart (tVar 3)))))) (te := (tVar 3)) rfl scKept.nd (pi_range1 (by rfl) B.range (pa_cons (pv 2) pa_nil)) (blkOk_by (N := ["_law_kind_here", "_law_word_here", "_law_size", "_law_k", "_law_pair"]) (sc := defScope sKept) (by decide +kernel)) (fun _ _ _ _ _ => (pg_name (i := 3) scKept.nd rfl (.inl rfl))) (fun _ _ _ _ _ => (pts_one (pt_cmpR op_notIn_seq (pe_ix ix_tup (pv 1) (pv 3) (fun _ _ => rfl)) (pe_slice sl_tupA (pv 1) po_none (po_some (pv 3))) (by rfl)))) (fun _ _ _ _ _ => (pv 3))))) pss_nil)
 (pss_one (ps_ret (pe_lc (own := [("_law_k", 3)]) (g := gName 3) (tt := (tTest (tOp (rIn K true) (tOp (rIxT K) (tVar 1) (tVar 3)) (tSl (rSlA K) (tVar 1) (tPart (tOp (rI0 fun i j => .int (i + j)) (tVar 3) (tC (V.int 1)))) tNoPart)))) (te := (tVar 3)) rfl scKept.nd (pi_range1 (by rfl) B.range (pa_cons (pv 2) pa_nil)) (blkOk_by (N := ["_law_kind_here", "_law_word_here", "_law_size", "_law_k", "_law_pair"]) (sc := defScope sKept) (by decide +kernel)) (fun _ _ _ _ _ => (pg_name (i := 3) scKept.nd rfl (.inl rfl))) (fun _ _ _ _ _ => (pts_one (pt_cmpR op_notIn_seq (pe_ix ix_tup (pv 1) (pv 3) (fun _ _ => rfl)) (pe_slice sl_tupA (pv 1) (po_some (pe_op op_add (pv 3) pe_int)) po_none) (by rfl)))) (fun _ _ _ _ _ => (pv 3))))))))))))), ?_⟩
    simp only [tSeq, tAsg, gName, tOp, rI, rI0, rU, tUn, tVar, tC, tCB, tCons, tNil, tTest, tIfS, tRet, tRetN, tDrop, tNext, tBreak, tCont, rEq, rNe, CDiv, CDivN, CMul, tBM, tBM0, tTup, tLst, tAug, tIf, tAnd, tOr, tNot, tAndV, tOrV, tNotV, tIsN, tNotN, tB, scal, tCall, cxK, cxKn, rIxT, rIxL, rIn, rAppend, rReverse, tVals, tDSetd, tDGet, tDGet1, tDGet2, tDIn, tDNotIn, rSortV, rSortT, rPop, rSortL, rSortT, tSl, tNoPart, tPart, List.append_nil, L2.start, List.map_cons, List.map_nil, List.length_cons, List.length_nil, List.replicate_succ, List.replicate_zero, List.cons_append, List.nil_append, Nat.reduceAdd, Nat.reduceSub, exists_eq, exists_eq', tLstRg, tRg1, List.getElem?_cons_zero, List.getElem?_cons_succ, List.set_cons_zero, List.set_cons_succ, Option.some.injEq, V.int.injEq, V.bl.injEq, V.str.injEq, V.ref.injEq, List.cons.injEq, and_true, true_and, and_false, false_and, reduceCtorEq, exists_false, or_false, false_or, exists_and_left, exists_and_right, exists_eq_left, exists_eq_left', exists_eq_right, exists_eq_right', exists_const, ite_true, ite_false, Bool.false_eq_true, if_true, if_false, decide_true, decide_false]
    refine ⟨xs.map V.int, .inr (tt hp), ?_⟩
    rw [List.length_map]
    refine ite2 (fun e => ?_) (fun e1 => ?_)
    · obtain rfl : k = .list := by revert e; cases k <;> decide +kernel
      refine ⟨.of_le (by omega) (by omega) (by omega) (by omega), fun l hl => ?_⟩
      rw [rg_ix]
      exact q _ l (same_upd hl) upd_same
    refine ite2 (fun e => ?_) (fun e2 => ?_)
    · obtain rfl : k = .bag := by revert e; cases k <;> decide +kernel
      refine sort_second (ps := (List.range xs.length).map (vk xs)) (by rw [List.length_map, List.length_range]; exact hl) (fun Q' q' => ?_) fun z H' s2 hz => ?_
      · refine ⟨.int (xs.length : Int), rfl, (xs.length : Nat), rfl, by omega, by omega, fun D hD => ?_⟩
        have npD : p ≠ D := ne_of_none hp hD
        refine lc_range (n := xs.length) (fun i H' => Sx D H H' ∧ ∃ acc, H' D = some (.lst acc) ∧ Prs H' acc ((List.range i).map (vk xs))) ⟨Sx.upd, _, upd_same, rfl, fun x hx => by cases hx⟩ ?_ ?_
        · rintro i H' hi ⟨sx, acc, hd, pr⟩
          rw [Int.zero_add]
          have la : acc.length = i := by
            have := congrArg List.length pr.1
            rw [List.length_map, List.length_map, List.length_range] at this
            exact this
          refine ⟨rfl, ?_⟩
          simp only [tYes, if_true]
          refine ⟨_, rfl, _, rfl, p, _, _, _, rfl, rfl, tt (sx _ _ npD hp), atI_nat (nth hi), _, rfl, two_le, fun t ht => ?_⟩
          have s2 : Same H' (upd H' t (.tup [.int xs[i], .int (i : Int)])) := same_upd ht
          have h2 : upd H' t (.tup [.int xs[i], .int (i : Int)]) t = some (.tup [.int xs[i], .int (i : Int)]) := upd_same
          have hd2 := s2 _ _ hd
          generalize upd H' t (.tup [.int xs[i], .int (i : Int)]) = H2 at s2 h2 hd2
          refine ⟨acc, hd2, by rw [la, sizeLine_eq]; omega, (sx.trans (Sx.of s2)).trans Sx.upd, _, upd_same, ?_⟩
          have pr2 := (pr.sx (Sx.of (a := D) s2) (fun ys z => by rw [hd] at z; cases z)).snoc h2
          rw [List.range_succ, List.map_append]
          rw [← getD_at hi] at pr2
          exact pr2.sx Sx.upd (fun ys z => by rw [hd2] at z; cases z)
        · rintro H' ⟨sx, acc, hd, pr⟩
          exact q' D H' acc (fun b o e => sx b o (ne_of_none e hD) e) hd pr
      · rw [bag_lex, ← ixV_int] at hz
        exact q H' z s2 hz
    refine ite2 (fun e => ?_) (fun e3 => ?_)
    · obtain rfl : k = .set := by revert e; cases k <;> decide +kernel
      refine sort_second (ps := (headIx xs xs.length).map (vk xs)) (by rw [List.length_map]; exact Nat.le_trans (headIx_len xs _) hl) (fun Q' q' => ?_) fun z H' s2 hz => ?_
      · refine ⟨.int (xs.length : Int), rfl, (xs.length : Nat), rfl, by omega, by omega, fun D hD => ?_⟩
        have npD : p ≠ D := ne_of_none hp hD
        refine lc_range (n := xs.length) (fun i H' => Sx D H H' ∧ ∃ acc, H' D = some (.lst acc) ∧ Prs H' acc ((headIx xs i).map (vk xs))) ⟨Sx.upd, _, upd_same, rfl, fun x hx => by cases hx⟩ ?_ ?_
        · rintro i H' hi ⟨sx, acc, hd, pr⟩
          rw [Int.zero_add]
          refine ⟨rfl, t_notin rfl rfl (tt (sx _ _ npD hp)) hi (fun _ z => z) (fun _ z => ⟨_, rfl, _, rfl, z⟩) fun H2 s2 => ?_⟩
          replace sx := sx.trans (Sx.of s2)
          replace pr := pr.sx (Sx.of (a := D) s2) (fun ys z => by rw [hd] at z; cases z)
          replace hd := s2 _ _ hd
          clear s2
          rw [cut_take xs (Nat.le_of_lt hi)]
          refine ite2 (fun m => ?_) (fun m => ?_)
          · have la : acc.length ≤ xs.length := by
              have := congrArg List.length pr.1
              rw [List.length_map, List.length_map] at this
              rw [this]
              exact headIx_len xs i
            refine ⟨_, rfl, _, rfl, p, _, _, _, rfl, rfl, tt (sx _ _ npD hp), atI_nat (nth hi), _, rfl, two_le, fun t ht => ?_⟩
            have s2 : Same H2 (upd H2 t (.tup [.int xs[i], .int (i : Int)])) := same_upd ht
            have h2 : upd H2 t (.tup [.int xs[i], .int (i : Int)]) t = some (.tup [.int xs[i], .int (i : Int)]) := upd_same
            have hd2 := s2 _ _ hd
            generalize upd H2 t (.tup [.int xs[i], .int (i : Int)]) = H3 at s2 h2 hd2
            refine ⟨acc, hd2, by rw [sizeLine_eq]; omega, (sx.trans (Sx.of s2)).trans Sx.upd, _, upd_same, ?_⟩
            have pr2 := (pr.sx (Sx.of (a := D) s2) (fun ys z => by rw [hd] at z; cases z)).snoc h2
            rw [headIx_new hi (of_decide_eq_true m), List.map_append]
            rw [← getD_at hi] at pr2
            exact pr2.sx Sx.upd (fun ys z => by rw [hd2] at z; cases z)
          · refine ⟨sx, acc, hd, ?_⟩
            rw [headIx_old hi (Decidable.not_not.mp fun z => m (decide_eq_true z))]
            exact pr
        · rintro H' ⟨sx, acc, hd, pr⟩
          exact q' D H' acc (fun b o e => sx b o (ne_of_none e hD) e) hd pr
      · rw [set_lex, ← ixV_int] at hz
        exact q H' z s2 hz
    refine ite2 (fun e => ?_) (fun e4 => ?_)
    · obtain rfl : k = .first := by revert e; cases k <;> decide +kernel
      refine ⟨_, _, ⟨rfl, rfl⟩, ?_⟩
      cases xs with
      | nil => exact ⟨.of_le (by decide) (by decide) (by decide) (by decide), fun l hl => q _ l (same_upd hl) upd_same⟩
      | cons x r =>
        have e9 : (if (1 : Int) < ((x :: r).length : Nat) then (1 : Int) else ((x :: r).length : Nat)) = 1 := by
          rw [List.length_cons]
          split <;> omega
        rw [e9]
        exact ⟨.of_le (by decide) (by decide) (by decide) (by decide), fun l hl => q _ l (same_upd hl) upd_same⟩
    refine ite2 (fun e => ?_) (fun e5 => ?_)
    · obtain rfl : k = .last := by revert e; cases k <;> decide +kernel
      refine ⟨.of_le (by omega) (by omega) (by omega) (by omega), fun l hl' => ⟨l, _, rfl, SqL.of upd_same, fun z hz => ?_⟩⟩
      refine q _ z ((same_upd hl').trans (same_upd hz)) ?_
      rw [cutv_last]
      exact upd_same
    refine ite2 (fun e => ?_) (fun e6 => ?_)
    · obtain rfl : k = .ends := by revert e; cases k <;> decide +kernel
      refine ⟨.of_le (by omega) (by omega) (by omega) (by omega), fun l hl' => ⟨l, _, rfl, SqL.of upd_same, fun z hz => ⟨.of_le (by omega) (by omega) (by omega) (by omega), fun l2 hl2 => ⟨l2, _, rfl, SqL.of upd_same, fun z2 hz2 => ?_⟩⟩⟩⟩
      rw [cutv_first, cutv_last] at *
      have sz := same_upd (o := .lst (rgV 0 (xs.length : Nat))) hl2
      have s1 := (same_upd (o := .lst (rgV 0 (xs.length : Nat))) hl').trans (same_upd (o := .lst (ixV (if xs.length = 0 then [] else [0]))) hz)
      have s2 := (sz.trans (same_upd (o := .lst (ixV (if xs.length = 0 then [] else [xs.length - 1]))) hz2))
      refine ⟨z, z2, _, _, rfl, rfl, s2 _ _ upd_same, upd_same, (by rw [sizeLine_eq]; by_cases h0 : xs.length = 0 <;> simp [h0, ixV]), fun o no => ?_⟩
      refine q _ o ((s1.trans s2).trans (same_upd no)) ?_
      rw [upd_same]
      show _ = some (HO.lst (ixV (if xs.length = 0 then [] else [0, xs.length - 1])))
      by_cases h0 : xs.length = 0
      · rw [if_pos h0, if_pos h0, if_pos h0]
        rfl
      · rw [if_neg h0, if_neg h0, if_neg h0]
        rfl
    refine ite2 (fun e => ?_) (fun e7 => ?_)
    · obtain rfl : k = .heads := by revert e; cases k <;> decide +kernel
      refine ⟨.int (xs.length : Int), rfl, (xs.length : Nat), rfl, by omega, by omega, fun D hD => ?_⟩
      have npD : p ≠ D := ne_of_none hp hD
      refine lc_range (n := xs.length) (fun i H' => Sx D H H' ∧ H' D = some (.lst (ixV (headIx xs i)))) ⟨Sx.upd, upd_same⟩ ?_ ?_
      · rintro i H' hi ⟨sx, hd⟩
        rw [Int.zero_add]
        refine ⟨rfl, t_notin rfl rfl (tt (sx _ _ npD hp)) hi (fun _ z => z) (fun _ z => ⟨_, rfl, _, rfl, z⟩) fun H2 s2 => ?_⟩
        have sx2 := sx.trans (Sx.of s2)
        have hd2 := s2 _ _ hd
        rw [cut_take xs (Nat.le_of_lt hi)]
        refine ite2 (fun m => ?_) (fun m => ?_)
        · refine ⟨_, rfl, _, hd2, by unfold ixV; rw [List.length_map, sizeLine_eq]; have := headIx_len xs i; omega, sx2.trans Sx.upd, ?_⟩
          rw [headIx_new hi (of_decide_eq_true m), ixV_snoc]
          exact upd_same
        · refine ⟨sx2, ?_⟩
          rw [headIx_old hi (Decidable.not_not.mp fun z => m (decide_eq_true z))]
          exact hd2
      · rintro H' ⟨sx, hd⟩
        rw [headIx_all] at hd
        exact q H' D (fun b o e => sx b o (ne_of_none e hD) e) hd
    obtain rfl : k = .tails := by cases k <;> first | rfl | exact absurd (by decide +kernel) e1 | exact absurd (by decide +kernel) e2 | exact absurd (by decide +kernel) e3 | exact absurd (by decide +kernel) e4 | exact absurd (by decide +kernel) e5 | exact absurd (by decide +kernel) e6 | exact absurd (by decide +kernel) e7
    refine ⟨.int (xs.length : Int), rfl, (xs.length : Nat), rfl, by omega, by omega, fun D hD => ?_⟩
    have npD : p ≠ D := ne_of_none hp hD
    refine lc_range (n := xs.length) (fun i H' => Sx D H H' ∧ H' D = some (.lst (ixV (tlIx xs i)))) ⟨Sx.upd, upd_same⟩ ?_ ?_
    · rintro i H' hi ⟨sx, hd⟩
      rw [Int.zero_add]
      refine ⟨rfl, t_notin rfl rfl (tt (sx _ _ npD hp)) hi (fun _ z => ⟨_, rfl, _, _, rfl, rfl, (i : Int) + 1, rfl, z⟩) (fun _ z => z) fun H2 s2 => ?_⟩
      have sx2 := sx.trans (Sx.of s2)
      have hd2 := s2 _ _ hd
      rw [show ((i : Int) + 1) = ((i + 1 : Nat) : Int) from rfl, cut_drop xs (by omega)]
      have hs := tlIx_succ xs i
      rw [getD_at hi] at hs
      refine ite2 (fun m => ?_) (fun m => ?_)
      · rw [if_pos (of_decide_eq_true m)] at hs
        refine ⟨_, rfl, _, hd2, by unfold ixV; rw [List.length_map, sizeLine_eq]; have := tlIx_len xs i; omega, sx2.trans Sx.upd, ?_⟩
        rw [hs, ixV_snoc]
        exact upd_same
      · rw [if_neg (fun z => m (decide_eq_true z)), List.append_nil] at hs
        refine ⟨sx2, ?_⟩
        rw [hs]
        exact hd2
    · rintro H' ⟨sx, hd⟩
      rw [tlIx_all] at hd
      exact q H' D (fun b o e => sx b o (ne_of_none e hD) e) hd
end
end Mv

set_option Elab.async false
set_option linter.all false
set_option maxRecDepth 100000
set_option maxHeartbeats 4000000
namespace Mv
open PySem PySem.Spec PyProof.Rows L2
theorem dT {p : Prop} {i : Decidable p} (h : @decide p i = true) : p := of_decide_eq_true h
theorem dF {p : Prop} {i : Decidable p} (h : ¬ @decide p i = true) : ¬ p := fun z => h (decide_eq_true z)
abbrev sNormal : Stmt := topS 26
abbrev sMade : Stmt := topS 27
abbrev sRules : Stmt := topS 28
section
variable {P : Program} {w : World} {K : PySem.W.Frag} {mg : Str → Option Value} {base : Heap} {cls : Kd → Addr} {CB : Addr}
theorem scNormal : FnScope ["_law_kind_here", "_law_word_here", "_law_size", "_law_k"] ["_law_kind_here", "_law_word_here"] (defScope sNormal) := ⟨rfl, rfl, rfl, by decide +kernel, rfl, by decide +kernel, by decide +kernel⟩
def spNormal (K : PySem.W.Frag) : Sp := fun vs H Q _ => ∃ (k : Kd) (p : Addr) (xs : List Int), vs = [.str k.nm, .ref p] ∧ SqT K H p (xs.map V.int) ∧ xs.length ≤ 60 ∧ ∀ (H' : Hp), Same H H' → Q (.bl (decide (plainI k xs = xs))) H'
theorem ok_normal {f : Addr} {fd : FuncData} (F : Fun K "_law_normal" "_law_normal" sNormal f fd) (B : Bi mg) : FnOk P w K mg base CX0 1 f fd ["_law_kind_here", "_law_word_here"] (spNormal K) := by
  refine F.ok scNormal (fun vs H Q E h => ?_) (fun cdv A outer s H vs Q E hr h => ?_)
  · obtain ⟨k, p, xs, rfl, _⟩ := h
    rfl
  · obtain ⟨k, p, xs, rfl, hp, hl, q⟩ := h
    refine ⟨_, (pss_cons (ps_set (i := 2) scNormal.nd rfl (.inl rfl) (pe_callB call_len_seq (by rfl) B.len PySem.boot_len (pa_cons (pv 1) pa_nil)))
 (pss_cons (ps_if (pt_cmpR op_eq (pv 0) pe_str (nomark _))
 (pss_one (ps_ret pe_bl)) pss_nil)
 (pss_cons (ps_if (PW.pt (pw_or (pt_cmpR op_eq (pv 0) pe_str (nomark _)) (pw_or1 (pt_cmpR op_eq (pv 0) pe_str (nomark _)))))
 (pss_one (ps_ret (pe_cmpR op_le (pv 2) pe_int (nomark _)))) pss_nil)
 (pss_cons (ps_if (pt_cmpR op_eq (pv 0) pe_str (nomark _))
 (pss_one (ps_ret (pe_or (pe_cmpR op_eq (pv 2) pe_int (nomark _)) (pe_one (pe_cmpR op_eq (pv 2) pe_int (nomark _)))))) pss_nil)
 (pss_cons (ps_for PassesOwn.never rfl (pi_range2 (by rfl) B.range (pa_cons pe_int (pa_cons (pv 2) pa_nil))) (pg_name (i := 3) scNormal.nd rfl (.inl rfl))
 (pss_cons (ps_if (PW.pt (pw_and (pt_cmpR op_eq (pv 0) pe_str (nomark _)) (pw_and1 (pt_cmpR op_lt (pe_ix ix_tup (pv 1) (pv 3) (fun _ _ => rfl)) (pe_ix ix_tup (pv 1) (pe_op op_sub (pv 3) pe_int) (fun _ _ => rfl)) (nomark _)))))
 (pss_one (ps_ret pe_bl)) pss_nil)
 (pss_cons (ps_if (PW.pt (pw_and (pt_cmpR op_eq (pv 0) pe_str (nomark _)) (pw_and1 (pt_cmpR op_le (pe_ix ix_tup (pv 1) (pv 3) (fun _ _ => rfl)) (pe_ix ix_tup (pv 1) (pe_op op_sub (pv 3) pe_int) (fun _ _ => rfl)) (nomark _)))))
 (pss_one (ps_ret pe_bl)) pss_nil)
 (pss_one (ps_if (PW.pt (pw_and (PW.pt (pw_or (pt_cmpR op_eq (pv 0) pe_str (nomark _)) (pw_or1 (pt_cmpR op_eq (pv 0) pe_str (nomark _))))) (pw_and1 (pt_cmpR op_in_seq (pe_ix ix_tup (pv 1) (pv 3) (fun _ _ => rfl)) (pe_slice sl_tupA (pv 1) po_none (po_some (pv 3))) (by rfl)))))
 (pss_one (ps_ret pe_bl)) pss_nil)))))
 (pss_one (ps_ret pe_bl))))))), ?_⟩
    simp only [tSeq, tAsg, gName, tOp, rI, rI0, rU, tUn, tVar, tC, tCB, tCons, tNil, tTest, tIfS, tRet, tRetN, tDrop, tNext, tBreak, tCont, rEq, rNe, CDiv, CDivN, CMul, tBM, tBM0, tTup, tLst, tAug, tIf, tAnd, tOr, tNot, tAndV, tOrV, tNotV, tIsN, tNotN, tB, scal, tCall, cxK, cxKn, rIxT, rIxL, rIn, rAppend, rReverse, tVals, tDSetd, tDGet, tDGet1, tDGet2, tDIn, tDNotIn, rSortV, rSortT, rPop, rSortL, rSortT, tSl, tNoPart, tPart, List.append_nil, L2.start, List.map_cons, List.map_nil, List.length_cons, List.length_nil, List.replicate_succ, List.replicate_zero, List.cons_append, List.nil_append, Nat.reduceAdd, Nat.reduceSub, exists_eq, exists_eq', List.getElem?_cons_zero, List.getElem?_cons_succ, List.set_cons_zero, List.set_cons_succ, Option.some.injEq, V.int.injEq, V.bl.injEq, V.str.injEq, V.ref.injEq, List.cons.injEq, and_true, true_and, and_false, false_and, reduceCtorEq, exists_false, or_false, false_or, exists_and_left, exists_and_right, exists_eq_left, exists_eq_left', exists_eq_right, exists_eq_right', exists_const, ite_true, ite_false, Bool.false_eq_true, if_true, if_false, decide_true, decide_false]
    refine ⟨xs.map V.int, .inr hp, ?_⟩
    rw [List.length_map]
    refine ite2 (fun e => ?_) (fun e1 => ?_)
    · obtain rfl : k = .list := by revert e; cases k <;> decide +kernel
      have := q H (Same.refl H)
      rw [decide_eq_true (show plainI .list xs = xs from rfl)] at this
      exact this
    refine ite2 (fun e => ?_) (fun e2 => ?_)
    · obtain rfl : k = .first := by revert e; cases k <;> decide +kernel
      have := q H (Same.refl H)
      rw [decide_eq_decide.mpr (norm_first xs)] at this
      rw [show decide ((xs.length : Int) ≤ 1) = decide (xs.length ≤ 1) from decide_eq_decide.mpr (by omega)]
      exact this
    refine ite2 (fun e => ?_) (fun e3 => ?_)
    · obtain rfl : k = .last := by revert e; cases k <;> decide +kernel
      have := q H (Same.refl H)
      rw [decide_eq_decide.mpr (norm_last xs)] at this
      rw [show decide ((xs.length : Int) ≤ 1) = decide (xs.length ≤ 1) from decide_eq_decide.mpr (by omega)]
      exact this
    refine ite2 (fun e => ?_) (fun e4 => ?_)
    · obtain rfl : k = .ends := by revert e; cases k <;> decide +kernel
      have := q H (Same.refl H)
      rw [decide_eq_decide.mpr (norm_ends xs)] at this
      refine ite2 (fun h0 => ?_) (fun h0 => ?_)
      · have h0 := of_decide_eq_true h0
        rw [decide_eq_true (.inl (by omega))] at this
        exact this
      · have h0 : ¬ xs.length = 0 := fun z => h0 (decide_eq_true (by omega))
        rw [show decide ((xs.length : Int) = 2) = decide (xs.length = 0 ∨ xs.length = 2) from decide_eq_decide.mpr (by omega)]
        exact this
    have hk : k = .bag ∨ k = .set ∨ k = .heads ∨ k = .tails := by
      cases k with
      | list => exact absurd (by decide +kernel) e1
      | first => exact absurd (by decide +kernel) e2
      | last => exact absurd (by decide +kernel) e3
      | ends => exact absurd (by decide +kernel) e4
      | bag => exact .inl rfl
      | set => exact .inr (.inl rfl)
      | heads => exact .inr (.inr (.inl rfl))
      | tails => exact .inr (.inr (.inr rfl))
    have hn := norm_iff hk xs
    have no : ∀ (H' : Hp) (j : Nat), Same H H' → 1 ≤ j → j < xs.length → badAt k xs j → Q (.bl false) H' := fun H' j s1 h1 hj hb => by
      have := q H' s1
      rw [decide_eq_false (fun z => hn.mp z j h1 hj hb)] at this
      exact this
    refine ⟨.int (xs.length : Int), rfl, 1, (xs.length : Int), rfl, ⟨by omega, by omega, by omega, by omega⟩, ?_⟩
    rw [show ((xs.length : Int) - 1).toNat = xs.length - 1 from by omega]
    refine for_range (n := xs.length - 1) (fun j σ H' => ∃ y, σ = [some (.str k.nm), some (.ref p), some (.int (xs.length : Int)), y] ∧ Same H H' ∧ ∀ i, 1 ≤ i → i ≤ j → ¬ badAt k xs i) ⟨none, rfl, Same.refl H, fun i h1 h2 => by omega⟩ ?_ ?_
    · rintro j σ H' hj ⟨y, rfl, s1, hb⟩
      have hj1 : j + 1 < xs.length := by omega
      have hp1 := Same.tup s1 hp
      have ne := no H' (j + 1) s1 (by omega) hj1
      have at1 : atI (xs.map V.int) (1 + (j : Int)) = some (.int (xs.getD (j + 1) 0)) := at_of (j := j + 1) (by omega) (by rw [getD_at hj1]; exact nth hj1)
      have at0 : atI (xs.map V.int) (1 + (j : Int) - 1) = some (.int (xs.getD j 0)) := at_of (j := j) (by omega) (by rw [getD_at (show j < xs.length by omega)]; exact nth _)
      have nx : ∀ (H2 : Hp), Same H H2 → ¬ badAt k xs (j + 1) → Same H H2 ∧ ∀ i, 1 ≤ i → i ≤ j + 1 → ¬ badAt k xs i := fun H2 s2 nb => ⟨s2, fun i h1 h2 => by
        by_cases e : i = j + 1
        · rw [e]
          exact nb
        · exact hb i h1 (by omega)⟩
      have sl : ∀ {Q' : VK}, (∀ (z : Addr) (H2 : Hp), Same H' H2 → SqT K H2 z ((xs.take (j + 1)).map V.int) → Q' (.ref z) H2) → rSlA K (.ref p) none (some (1 + (j : Int))) H' Q' := fun q' => by
        refine sla_ints hp1 fun z H2 s2 hz => q' z H2 s2 ?_
        rw [show (1 + (j : Int)) = ((j + 1 : Nat) : Int) from by omega, cut_take xs (by omega)] at hz
        exact hz
      rcases hk with rfl | rfl | rfl | rfl
      all_goals simp only [tSeq, tAsg, gName, tOp, rI, rI0, rU, tUn, tVar, tC, tCB, tCons, tNil, tTest, tIfS, tRet, tRetN, tDrop, tNext, tBreak, tCont, rEq, rNe, CDiv, CDivN, CMul, tBM, tBM0, tTup, tLst, tAug, tIf, tAnd, tOr, tNot, tAndV, tOrV, tNotV, tIsN, tNotN, tB, scal, tCall, cxK, cxKn, rIxT, rIxL, rIn, rAppend, rReverse, tVals, tDSetd, tDGet, tDGet1, tDGet2, tDIn, tDNotIn, rSortV, rSortT, rPop, rSortL, rSortT, tSl, tNoPart, tPart, List.append_nil, L2.start, List.map_cons, List.map_nil, List.length_cons, List.length_nil, List.replicate_succ, List.replicate_zero, List.cons_append, List.nil_append, Nat.reduceAdd, Nat.reduceSub, exists_eq, exists_eq', List.getElem?_cons_zero, List.getElem?_cons_succ, List.set_cons_zero, List.set_cons_succ, Option.some.injEq, V.int.injEq, V.bl.injEq, V.str.injEq, V.ref.injEq, List.cons.injEq, and_true, true_and, and_false, false_and, reduceCtorEq, exists_false, or_false, false_or, exists_and_left, exists_and_right, exists_eq_left, exists_eq_left', exists_eq_right, exists_eq_right', exists_const, ite_true, ite_false, Bool.false_eq_true, if_true, if_false, decide_true, decide_false]
      · exact if_T (by decide +kernel) ⟨_, hp1, _, at1, _, hp1, _, at0, _, rfl, _, rfl, ite2 (fun h => ne (dT h)) fun h => if_F (by decide +kernel) (if_F (by decide +kernel) (if_F (by decide +kernel) (nx _ s1 (dF h))))⟩
      · exact if_F (by decide +kernel) (if_T (by decide +kernel) ⟨_, hp1, _, at1, _, hp1, _, at0, _, rfl, _, rfl, ite2 (fun h => ne (dT h)) fun h => if_F (by decide +kernel) (if_F (by decide +kernel) (nx _ s1 (dF h)))⟩)
      · refine if_F (by decide +kernel) (if_F (by decide +kernel) (if_T (by decide +kernel) ⟨_, hp1, _, at1, sl fun z H2 s2 hz => ⟨z, rfl, _, .inr hz, rfl, ints_flat _, ?_⟩⟩))
        rw [inV_int]
        exact ite2 (fun h => no _ _ (s1.trans s2) (by omega) hj1 (dT h)) fun h => nx _ (s1.trans s2) (dF h)
      · refine if_F (by decide +kernel) (if_F (by decide +kernel) (if_F (by decide +kernel) (if_T (by decide +kernel) ⟨_, hp1, _, at1, sl fun z H2 s2 hz => ⟨z, rfl, _, .inr hz, rfl, ints_flat _, ?_⟩⟩)))
        rw [inV_int]
        exact ite2 (fun h => no _ _ (s1.trans s2) (by omega) hj1 (dT h)) fun h => nx _ (s1.trans s2) (dF h)
    · rintro σ H' ⟨y, rfl, s1, hb⟩
      have := q H' s1
      rw [decide_eq_true (hn.mpr fun j h1 hj => hb j h1 (by omega))] at this
      exact this
theorem scMade : FnScope ["_law_kind_here"] ["_law_kind_here"] (defScope sMade) := ⟨rfl, rfl, rfl, by decide +kernel, rfl, by decide +kernel, by decide +kernel⟩
def spMade (cls : Kd → Addr) : Sp := fun vs H Q _ => ∃ k : Kd, vs = [.str k.nm] ∧ ∀ (H' : Hp) (o : Addr), Same H H' → KObj cls H' o k → Q (.ref o) H'
theorem ok_made {f : Addr} {fd : FuncData} (F : Fun K "_law_made" "_law_made" sMade f fd) (B : Bi mg) (X : KTx P w K mg base cls CB) : FnOk P w K mg base CX0 3 f fd ["_law_kind_here"] (spMade cls) := by
  refine F.ok scMade (fun vs H Q E h => ?_) (fun cdv A outer s H vs Q E hr h => ?_)
  · obtain ⟨k, rfl, _⟩ := h
    rfl
  · obtain ⟨k, rfl, q⟩ := h
    refine ⟨_, (pss_cons (ps_if (pt_cmpR op_eq (pv 0) pe_str (nomark _))
 (pss_one (ps_ret (pe_makeB (X.mk0 .list) (by rfl) (X.g .list)))) pss_nil)
 (pss_cons (ps_if (pt_cmpR op_eq (pv 0) pe_str (nomark _))
 (pss_one (ps_ret (pe_makeB (X.mk0 .bag) (by rfl) (X.g .bag)))) pss_nil)
 (pss_cons (ps_if (pt_cmpR op_eq (pv 0) pe_str (nomark _))
 (pss_one (ps_ret (pe_makeB (X.mk0 .set) (by rfl) (X.g .set)))) pss_nil)
 (pss_cons (ps_if (pt_cmpR op_eq (pv 0) pe_str (nomark _))
 (pss_one (ps_ret (pe_makeB (X.mk0 .first) (by rfl) (X.g .first)))) pss_nil)
 (pss_cons (ps_if (pt_cmpR op_eq (pv 0) pe_str (nomark _))
 (pss_one (ps_ret (pe_makeB (X.mk0 .last) (by rfl) (X.g .last)))) pss_nil)
 (pss_cons (ps_if (pt_cmpR op_eq (pv 0) pe_str (nomark _))
 (pss_one (ps_ret (pe_makeB (X.mk0 .ends) (by rfl) (X.g .ends)))) pss_nil)
 (pss_cons (ps_if (pt_cmpR op_eq (pv 0) pe_str (nomark _))
 (pss_one (ps_ret (pe_makeB (X.mk0 .heads) (by rfl) (X.g .heads)))) pss_nil)
 (pss_one (ps_ret (pe_makeB (X.mk0 .tails) (by rfl) (X.g .tails))))))))))), ?_⟩
    simp only [tSeq, tAsg, gName, tOp, rI, rI0, rU, tUn, tVar, tC, tCB, tCons, tNil, tTest, tIfS, tRet, tRetN, tDrop, tNext, tBreak, tCont, rEq, rNe, CDiv, CDivN, CMul, tBM, tBM0, tTup, tLst, tAug, tIf, tAnd, tOr, tNot, tAndV, tOrV, tNotV, tIsN, tNotN, tB, scal, tCall, cxK, cxKn, rIxT, rIxL, rIn, rAppend, rReverse, tVals, tDSetd, tDGet, tDGet1, tDGet2, tDIn, tDNotIn, rSortV, rSortT, rPop, rSortL, rSortT, tSl, tNoPart, tPart, List.append_nil, L2.start, List.map_cons, List.map_nil, List.length_cons, List.length_nil, List.replicate_succ, List.replicate_zero, List.cons_append, List.nil_append, Nat.reduceAdd, Nat.reduceSub, exists_eq, exists_eq', List.getElem?_cons_zero, List.getElem?_cons_succ, List.set_cons_zero, List.set_cons_succ, Option.some.injEq, V.int.injEq, V.bl.injEq, V.str.injEq, V.ref.injEq, List.cons.injEq, and_true, true_and, and_false, false_and, reduceCtorEq, exists_false, or_false, false_or, exists_and_left, exists_and_right, exists_eq_left, exists_eq_left', exists_eq_right, exists_eq_right', exists_const, ite_true, ite_false, Bool.false_eq_true, if_true, if_false, decide_true, decide_false]
    have new : tMake0 (cls k) [some (.str k.nm)] H Q := fun x dx hx hd ne => by
      obtain ⟨s1, o1⟩ := kind_new (cls := cls) (k := k) hx hd ne
      exact q _ x s1 o1
    clear q
    cases k <;> (repeat (first | exact if_T (by decide +kernel) new | refine if_F (by decide +kernel) ?_)) <;> exact new
theorem scRules : FnScope ["_law_kind_here"] ["_law_kind_here"] (defScope sRules) := ⟨rfl, rfl, rfl, by decide +kernel, rfl, by decide +kernel, by decide +kernel⟩
def Kd.rules : Kd → List Str
  | .list => [] | .bag => ["12=21"] | .set => ["12=21", "11=1"] | .first => ["12=1"] | .last => ["12=2"] | .ends => ["11=1", "123=13"] | .heads => ["11=1", "121=12"] | .tails => ["11=1", "121=21"]
def spRules : Sp := fun vs H Q _ => ∃ k : Kd, vs = [.str k.nm] ∧ ∀ (H' : Hp) (o : Addr), Same H H' → H' o = some (.tup (k.rules.map V.str)) → Q (.ref o) H'
theorem ok_rules {f : Addr} {fd : FuncData} (F : Fun K "_law_rules" "_law_rules" sRules f fd) (B : Bi mg) : FnOk P w K mg base CX0 1 f fd ["_law_kind_here"] spRules := by
  refine F.ok scRules (fun vs H Q E h => ?_) (fun cdv A outer s H vs Q E hr h => ?_)
  · obtain ⟨k, rfl, _⟩ := h
    rfl
  · obtain ⟨k, rfl, q⟩ := h
    refine ⟨_, (pss_cons (ps_if (pt_cmpR op_eq (pv 0) pe_str (nomark _))
 (pss_one (ps_ret (pe_tup (pa_cons pe_str pa_nil)))) pss_nil)
 (pss_cons (ps_if (pt_cmpR op_eq (pv 0) pe_str (nomark _))
 (pss_one (ps_ret (pe_tup (pa_cons pe_str (pa_cons pe_str pa_nil))))) pss_nil)
 (pss_cons (ps_if (pt_cmpR op_eq (pv 0) pe_str (nomark _))
 (pss_one (ps_ret (pe_tup (pa_cons pe_str pa_nil)))) pss_nil)
 (pss_cons (ps_if (pt_cmpR op_eq (pv 0) pe_str (nomark _))
 (pss_one (ps_ret (pe_tup (pa_cons pe_str pa_nil)))) pss_nil)
 (pss_cons (ps_if (pt_cmpR op_eq (pv 0) pe_str (nomark _))
 (pss_one (ps_ret (pe_tup (pa_cons pe_str (pa_cons pe_str pa_nil))))) pss_nil)
 (pss_cons (ps_if (pt_cmpR op_eq (pv 0) pe_str (nomark _))
 (pss_one (ps_ret (pe_tup (pa_cons pe_str (pa_cons pe_str pa_nil))))) pss_nil)
 (pss_cons (ps_if (pt_cmpR op_eq (pv 0) pe_str (nomark _))
 (pss_one (ps_ret (pe_tup (pa_cons pe_str (pa_cons pe_str pa_nil))))) pss_nil)
 (pss_one (ps_ret (pe_tup pa_nil)))))))))), ?_⟩
    simp only [tSeq, tAsg, gName, tOp, rI, rI0, rU, tUn, tVar, tC, tCB, tCons, tNil, tTest, tIfS, tRet, tRetN, tDrop, tNext, tBreak, tCont, rEq, rNe, CDiv, CDivN, CMul, tBM, tBM0, tTup, tLst, tAug, tIf, tAnd, tOr, tNot, tAndV, tOrV, tNotV, tIsN, tNotN, tB, scal, tCall, cxK, cxKn, rIxT, rIxL, rIn, rAppend, rReverse, tVals, tDSetd, tDGet, tDGet1, tDGet2, tDIn, tDNotIn, rSortV, rSortT, rPop, rSortL, rSortT, tSl, tNoPart, tPart, List.append_nil, L2.start, List.map_cons, List.map_nil, List.length_cons, List.length_nil, List.replicate_succ, List.replicate_zero, List.cons_append, List.nil_append, Nat.reduceAdd, Nat.reduceSub, exists_eq, exists_eq', List.getElem?_cons_zero, List.getElem?_cons_succ, List.set_cons_zero, List.set_cons_succ, Option.some.injEq, V.int.injEq, V.bl.injEq, V.str.injEq, V.ref.injEq, List.cons.injEq, and_true, true_and, and_false, false_and, reduceCtorEq, exists_false, or_false, false_or, exists_and_left, exists_and_right, exists_eq_left, exists_eq_left', exists_eq_right, exists_eq_right', exists_const, ite_true, ite_false, Bool.false_eq_true, if_true, if_false, decide_true, decide_false]
    cases k <;> (repeat (first | exact if_T (by decide +kernel) ⟨small4000' (by decide), fun p hp => q _ p (same_upd hp) upd_same⟩ | refine if_F (by decide +kernel) ?_)) <;> exact ⟨small4000' (by decide), fun p hp => q _ p (same_upd hp) upd_same⟩
end
end Mv

set_option Elab.async false
set_option linter.all false
set_option maxRecDepth 100000
set_option maxHeartbeats 4000000
namespace Mv
open PySem PySem.Spec PyProof.Rows L2
abbrev sClassed : Stmt := topS 29
def Kd.idem (k : Kd) : Bool := !(k == .list || k == .bag)
def Kd.ordl (k : Kd) : Bool := k == .bag || k == .set
def Kd.plac (k : Kd) : Bool := k == .list || k == .heads || k == .tails
def Kd.outr (k : Kd) : Bool := k == .first || k == .last || k == .ends
def Kd.kinH (k : Kd) : Bool := k == .heads || k == .first
def Kd.kinT (k : Kd) : Bool := k == .tails || k == .last
/-- the class of a kind, as _law_classed asks it -/
structure ClsF (K : PySem.W.Frag) (cls : Kd → Addr) (k : Kd) : Prop where
  cl : Cls K (cls k)
  nm : ∃ u, Con K (cls k) "NAME" (.str k.nm) u
  rl : ∃ (r : Addr) (u : Value), Con K (cls k) "RULES" (.ref r) u ∧ (∀ H, TyX K H (.ref r) (.type "tuple")) ∧ ∀ H, SqT K H r (k.rules.map V.str)
  id : ∃ u, Con K (cls k) "IDEMPOTENT" (.bl k.idem) u
  od : ∃ u, Con K (cls k) "ORDERLESS" (.bl k.ordl) u
  pl : ∃ u, Con K (cls k) "PLACED" (.bl k.plac) u
  ou : ∃ u, Con K (cls k) "OUTER" (.bl k.outr) u
  ty : ∀ (H : Hp) (o dx : Addr), H o = some (.ins (cls k) dx []) → TyOf K H (.ref o) (.ref (cls k))
  kB : PySem.W.kitOne K (.ref (cls k)) (.ref (cls .bag)) = some k.ordl
  kH : PySem.W.kitOne K (.ref (cls k)) (.ref (cls .heads)) = some k.kinH
  kT : PySem.W.kitOne K (.ref (cls k)) (.ref (cls .tails)) = some k.kinT
  kK : PySem.W.kitOne K (.ref (cls k)) (.ref (cls .list)) = some true
theorem dp_strs {K : PySem.W.Frag} {H : Hp} : ∀ xs : List Str, DpAll K H (xs.map V.str) (xs.map PyData.str)
  | [] => .nil
  | x :: xs => .cons (.str x) (dp_strs xs)
theorem dp_bls {K : PySem.W.Frag} {H : Hp} : ∀ xs : List Bool, DpAll K H (xs.map V.bl) (xs.map PyData.bool)
  | [] => .nil
  | x :: xs => .cons (.bl x) (dp_bls xs)
section
variable {P : Program} {w : World} {K : PySem.W.Frag} {mg : Str → Option Value} {base : Heap} {cls : Kd → Addr} {CB : Addr}
theorem con_of {a dx : Addr} {k : Kd} {f : Str} {v : V} {σ : L2.St} {H : Hp} {Q : VK} {i : Nat} (hσ : σ[i]? = some (some (.ref a))) (ho : H a = some (.ins (cls k) dx [])) (c : Cls K (cls k)) (h : ∃ u, Con K (cls k) f v u) (q : Q v H) : tCon K (tVar i) f σ H Q := by
  obtain ⟨u, h⟩ := h
  exact ⟨_, hσ, a, cls k, dx, [], v, u, rfl, ho, c, h, rfl, q⟩
/-- 'x' in ('a', ..) -/
theorem in_strs {neg : Bool} {σ : L2.St} {H : Hp} {Q : VK} {x : Str} {ts : TA} {cs : List Str} (h0 : σ[0]? = some (some (.str x))) (ht : ∀ Q' : List V → Hp → Prop, Q' (cs.map V.str) H → ts σ H Q') (hl : cs.length ≤ 100) {b : Bool} (hb : (if neg then !inV (.str x) (cs.map V.str) else inV (.str x) (cs.map V.str)) = b) (q : ∀ H', Same H H' → Q (.bl b) H') :
    tOp (rIn K neg) (tVar 0) (tTup ts) σ H Q := by
  refine ⟨_, h0, ht _ ⟨by rw [List.length_map]; exact small4000' (by omega), fun p hp => ⟨p, _, rfl, .inr (tt upd_same), rfl, ?_, by rw [hb]; exact q _ (same_upd hp)⟩⟩⟩
  rw [List.all_eq_true]
  intro y hy
  obtain ⟨n, _, rfl⟩ := List.mem_map.mp hy
  rfl
theorem scClassed : FnScope ["_law_kind_here", "_law_made_here", "_law_flags", "_law_flag", "_law_due", "_law_kin"] ["_law_kind_here", "_law_made_here"] (defScope sClassed) := ⟨rfl, rfl, rfl, by decide +kernel, rfl, by decide +kernel, by decide +kernel⟩
def spClassed (cls : Kd → Addr) : Sp := fun vs H Q _ => ∃ (k : Kd) (o : Addr), vs = [.str k.nm, .ref o] ∧ KObj cls H o k ∧ ∀ (H' : Hp), Same H H' → Q (.bl true) H'
theorem ok_classed {f : Addr} {fd : FuncData} (F : Fun K "_law_classed" "_law_classed" sClassed f fd) (B : Bi mg) (X : KTx P w K mg base cls CB) (cRules : CalX CX0 P w K mg base 1 "_law_rules" spRules) (hC : ∀ k, ClsF K cls k) : FnOk P w K mg base CX0 2 f fd ["_law_kind_here", "_law_made_here"] (spClassed cls) := by
  refine F.ok scClassed (fun vs H Q E h => ?_) (fun cdv A outer s H vs Q E hr h => ?_)
  · obtain ⟨k, o, rfl, _⟩ := h
    rfl
  · obtain ⟨k, o, rfl, ⟨dx, ho⟩, q⟩ := h
    obtain ⟨cl, nm, ⟨r, ur, hcr, htr, hsr⟩, hid, hod, hpl, hou, hty, kB, kH, kT, kK⟩ := hC k
    refine ⟨_, (pss_cons (ps_if (PW.pt (pw_or (pt_cmpR op_ne (pe_con (pv 1) rfl) (pv 0) (nomark _)) (pw_or (pt_cmpR (op_neD hr.units) (pe_con (pv 1) rfl) (pe_cx cRules hr (by decide) pass0 (by rfl) (pa_cons (pv 0) pa_nil)) (nomark _)) (pw_or1 (pt_not (pt_val (pe_callB call_isi (by rfl) B.isinstance (by decide +kernel) (pa_cons (pe_con (pv 1) rfl) (pa_cons (pe_bltn (by rfl) B.tuple (by decide +kernel) (v := .ty "tuple") rfl) pa_nil)))))))))
 (pss_one (ps_ret pe_bl)) pss_nil)
 (pss_cons (ps_set (i := 2) scClassed.nd rfl (.inl rfl) (pe_lst (pa_cons (pe_con (pv 1) rfl) (pa_cons (pe_con (pv 1) rfl) (pa_cons (pe_con (pv 1) rfl) (pa_cons (pe_con (pv 1) rfl) pa_nil))))))
 (pss_cons (ps_for PassesOwn.never rfl (pi_list (pv 2)) (pg_name (i := 3) scClassed.nd rfl (.inl rfl))
 (pss_one (ps_if (pt_not (pt_val (pe_callB call_isi (by rfl) B.isinstance (by decide +kernel) (pa_cons (pv 3) (pa_cons (pe_bltn (by rfl) B.bool (by decide +kernel) (v := .ty "bool") rfl) pa_nil)))))
 (pss_one (ps_ret pe_bl)) pss_nil)))
 (pss_cons (ps_set (i := 4) scClassed.nd rfl (.inl rfl) (pe_lst (pa_cons (pe_cmpR op_notIn_seq (pv 0) (pe_tup (pa_cons pe_str (pa_cons pe_str pa_nil))) (by rfl)) (pa_cons (pe_cmpR op_in_seq (pv 0) (pe_tup (pa_cons pe_str (pa_cons pe_str pa_nil))) (by rfl)) (pa_cons (pe_cmpR op_in_seq (pv 0) (pe_tup (pa_cons pe_str (pa_cons pe_str (pa_cons pe_str pa_nil)))) (by rfl)) pa_nil)))))
 (pss_cons (ps_if (pt_cmpR (op_neD hr.units) (pv 2) (pe_op op_cat (pv 4) (pe_lst (pa_cons (pe_cmpR op_in_seq (pv 0) (pe_tup (pa_cons pe_str (pa_cons pe_str (pa_cons pe_str pa_nil)))) (by rfl)) pa_nil))) (nomark _))
 (pss_one (ps_ret pe_bl)) pss_nil)
 (pss_cons (ps_set (i := 5) scClassed.nd rfl (.inl rfl) (pe_lst (pa_cons (pe_callB call_isi (by rfl) B.isinstance (by decide +kernel) (pa_cons (pv 1) (pa_cons (pe_glob (v := V.ref (cls .bag)) (by rfl) (X.g .bag) rfl) pa_nil))) (pa_cons (pe_callB call_isi (by rfl) B.isinstance (by decide +kernel) (pa_cons (pv 1) (pa_cons (pe_glob (v := V.ref (cls .heads)) (by rfl) (X.g .heads) rfl) pa_nil))) (pa_cons (pe_callB call_isi (by rfl) B.isinstance (by decide +kernel) (pa_cons (pv 1) (pa_cons (pe_glob (v := V.ref (cls .tails)) (by rfl) (X.g .tails) rfl) pa_nil))) (pa_cons (pe_callB call_isi (by rfl) B.isinstance (by decide +kernel) (pa_cons (pv 1) (pa_cons (pe_glob (v := V.ref (cls .list)) (by rfl) (X.g .list) rfl) pa_nil))) pa_nil))))))
 (pss_one (ps_ret (pe_cmpR (op_eqD hr.units) (pv 5) (pe_lst (pa_cons (pe_cmpR op_in_seq (pv 0) (pe_tup (pa_cons pe_str (pa_cons pe_str pa_nil))) (by rfl)) (pa_cons (pe_cmpR op_in_seq (pv 0) (pe_tup (pa_cons pe_str (pa_cons pe_str pa_nil))) (by rfl)) (pa_cons (pe_cmpR op_in_seq (pv 0) (pe_tup (pa_cons pe_str (pa_cons pe_str pa_nil))) (by rfl)) (pa_cons pe_bl pa_nil))))) (nomark _)))))))))), ?_⟩
    simp only [tSeq, tAsg, gName, tOp, rI, rI0, rU, tUn, tVar, tC, tCB, tCons, tNil, tTest, tIfS, tRet, tRetN, tDrop, tNext, tBreak, tCont, rEq, rNe, CDiv, CDivN, CMul, tBM, tBM0, tTup, tLst, tAug, tIf, tAnd, tOr, tNot, tAndV, tOrV, tNotV, tIsN, tNotN, tB, scal, tCall, cxK, cxKn, rIxT, rIxL, rIn, rAppend, rReverse, tVals, tDSetd, tDGet, tDGet1, tDGet2, tDIn, tDNotIn, rSortV, rSortT, rPop, rSortL, rSortT, tSl, tNoPart, tPart, List.append_nil, L2.start, List.map_cons, List.map_nil, List.length_cons, List.length_nil, List.replicate_succ, List.replicate_zero, List.cons_append, List.nil_append, Nat.reduceAdd, Nat.reduceSub, exists_eq, exists_eq', List.getElem?_cons_zero, List.getElem?_cons_succ, List.set_cons_zero, List.set_cons_succ, Option.some.injEq, V.int.injEq, V.bl.injEq, V.str.injEq, V.ref.injEq, List.cons.injEq, and_true, true_and, and_false, false_and, reduceCtorEq, exists_false, or_false, false_or, exists_and_left, exists_and_right, exists_eq_left, exists_eq_left', exists_eq_right, exists_eq_right', exists_const, ite_true, ite_false, Bool.false_eq_true, if_true, if_false, decide_true, decide_false]
    have shp : SeqAt.shaped (.tuple (k.rules.map PyData.str)) = true := by cases k <;> decide +kernel
    have shl : PyData.canLay0 (.tuple (k.rules.map PyData.str)) = true := by cases k <;> decide +kernel
    refine con_of rfl ho cl nm ⟨rfl, if_F (by rw [decide_eq_true rfl]; rfl) ?_⟩
    refine con_of rfl ho cl ⟨ur, hcr⟩ ⟨k, rfl, fun H1 z s1 hz => ⟨_, _, .tup (hsr H1) (dp_strs _), .tup (tt hz) (dp_strs _), shp, shp, _, rfl, if_F (by rw [SeqAt.eqv_refl _ shl]; rfl) ?_⟩⟩
    have ho1 := s1 _ _ ho
    refine con_of rfl ho1 cl ⟨ur, hcr⟩ ⟨_, _, _, _, true, rfl, .ty _, htr _, kit_ty (by decide +kernel), true, rfl, if_F rfl ?_⟩
    refine con_of rfl ho1 cl hid (con_of rfl ho1 cl hod (con_of rfl ho1 cl hpl (con_of rfl ho1 cl hou ⟨small4000' (by decide), fun p hp => ?_⟩)))
    have s2 := s1.trans (same_upd (o := .lst [.bl k.idem, .bl k.ordl, .bl k.plac, .bl k.outr]) hp)
    have hp2 : upd H1 p (.lst [.bl k.idem, .bl k.ordl, .bl k.plac, .bl k.outr]) p = some (.lst ([k.idem, k.ordl, k.plac, k.outr].map V.bl)) := upd_same
    generalize upd H1 p (.lst [.bl k.idem, .bl k.ordl, .bl k.plac, .bl k.outr]) = H2 at s2 hp2
    clear ho1 hz s1 hp
    refine ⟨_, rfl, p, rfl, ⟨_, SqL.of hp2⟩, for_list (K := K) (xs := [k.idem, k.ordl, k.plac, k.outr].map V.bl) (fun i σ H' => ∃ y, σ = [some (.str k.nm), some (.ref o), some (.ref p), y, none, none] ∧ H' = H2) ⟨none, rfl, rfl⟩ (fun i σ H' _ ⟨_, _, e⟩ => by rw [e]; exact SqL.of hp2) ?_ ?_⟩
    · rintro i x σ H' hx ⟨y, rfl, rfl⟩
      obtain ⟨b, _, rfl⟩ := List.mem_map.mp (List.mem_of_getElem? hx)
      simp only [tSeq, tAsg, gName, tOp, rI, rI0, rU, tUn, tVar, tC, tCB, tCons, tNil, tTest, tIfS, tRet, tRetN, tDrop, tNext, tBreak, tCont, rEq, rNe, CDiv, CDivN, CMul, tBM, tBM0, tTup, tLst, tAug, tIf, tAnd, tOr, tNot, tAndV, tOrV, tNotV, tIsN, tNotN, tB, scal, tCall, cxK, cxKn, rIxT, rIxL, rIn, rAppend, rReverse, tVals, tDSetd, tDGet, tDGet1, tDGet2, tDIn, tDNotIn, rSortV, rSortT, rPop, rSortL, rSortT, tSl, tNoPart, tPart, List.append_nil, L2.start, List.map_cons, List.map_nil, List.length_cons, List.length_nil, List.replicate_succ, List.replicate_zero, List.cons_append, List.nil_append, Nat.reduceAdd, Nat.reduceSub, exists_eq, exists_eq', List.getElem?_cons_zero, List.getElem?_cons_succ, List.set_cons_zero, List.set_cons_succ, Option.some.injEq, V.int.injEq, V.bl.injEq, V.str.injEq, V.ref.injEq, List.cons.injEq, and_true, true_and, and_false, false_and, reduceCtorEq, exists_false, or_false, false_or, exists_and_left, exists_and_right, exists_eq_left, exists_eq_left', exists_eq_right, exists_eq_right', exists_const, ite_true, ite_false, Bool.false_eq_true, if_true, if_false, decide_true, decide_false]
      exact ⟨_, _, _, _, true, rfl, .ty _, .base (.bl b), kit_ty (by decide +kernel), true, rfl, if_F rfl rfl⟩
    · rintro σ H' ⟨y, rfl, rfl⟩
      simp only [tSeq, tAsg, tLst, tCons, tNil]
      refine in_strs (cs := ["list", "bag"]) rfl (fun _ h => h) (by decide) (b := k.idem) (by cases k <;> decide +kernel) fun H3 s3 => ?_
      refine in_strs (cs := ["bag", "set"]) rfl (fun _ h => h) (by decide) (b := k.ordl) (by cases k <;> decide +kernel) fun H4 s4 => ?_
      refine in_strs (cs := ["list", "heads", "tails"]) rfl (fun _ h => h) (by decide) (b := k.plac) (by cases k <;> decide +kernel) fun H5 s5 => ⟨small4000' (by simp), fun d hd => ?_⟩
      have s6 := ((s3.trans s4).trans s5).trans (same_upd (o := .lst [.bl k.idem, .bl k.ordl, .bl k.plac]) hd)
      have hd6 : upd H5 d (.lst [.bl k.idem, .bl k.ordl, .bl k.plac]) d = some (.lst [.bl k.idem, .bl k.ordl, .bl k.plac]) := upd_same
      generalize upd H5 d (.lst [.bl k.idem, .bl k.ordl, .bl k.plac]) = H6 at s6 hd6
      clear s3 s4 s5 hd
      have shb : ∀ bs : List Bool, bs.length ≤ 4 → SeqAt.shaped (.list (bs.map PyData.bool)) = true ∧ PyData.canLay0 (.list (bs.map PyData.bool)) = true := fun bs hb => by
        match bs, hb with
        | [], _ => decide +kernel
        | [a], _ => revert a; decide +kernel
        | [a, b], _ => revert a b; decide +kernel
        | [a, b, c], _ => revert a b c; decide +kernel
        | [a, b, c, d], _ => revert a b c d; decide +kernel
        | _ :: _ :: _ :: _ :: _ :: _, h => simp at h
      have sh4 := shb [k.idem, k.ordl, k.plac, k.outr] (by simp)
      refine ⟨_, rfl, _, rfl, in_strs (cs := ["first", "last", "ends"]) rfl (fun _ h => h) (by decide) (b := k.outr) (by cases k <;> decide +kernel) fun H7 s7 => ⟨small4000' (by simp), fun e he => ⟨d, e, _, _, rfl, rfl, same_upd he _ _ (s7 _ _ hd6), upd_same, small4000' (by simp), fun g hg => ?_⟩⟩⟩
      have s8 := (s6.trans (s7.trans (same_upd (o := .lst [.bl k.outr]) he))).trans (same_upd (o := .lst ([.bl k.idem, .bl k.ordl, .bl k.plac] ++ [.bl k.outr])) hg)
      have hg8 : upd (upd H7 e (.lst [.bl k.outr])) g (.lst ([.bl k.idem, .bl k.ordl, .bl k.plac] ++ [.bl k.outr])) g = some (.lst ([k.idem, k.ordl, k.plac, k.outr].map V.bl)) := upd_same
      generalize upd (upd H7 e (.lst [.bl k.outr])) g (.lst ([.bl k.idem, .bl k.ordl, .bl k.plac] ++ [.bl k.outr])) = H8 at s8 hg8
      clear s6 hd6 he hg s7
      refine ⟨_, _, .lst (SqL.of (s8 _ _ hp2)) (dp_bls _), .lst (SqL.of hg8) (dp_bls _), sh4.1, sh4.1, _, rfl, if_F (by rw [SeqAt.eqv_refl _ sh4.2]; rfl) ?_⟩
      have ho8 := (s2.trans s8) _ _ ho
      have ty8 := hty _ _ _ ho8
      simp only [tSeq, tAsg, tLst, tCons, tNil]
      refine ⟨_, rfl, _, _, _, _, _, rfl, .own _, .base ty8, kB, ⟨_, rfl, _, _, _, _, _, rfl, .own _, .base ty8, kH, ⟨_, rfl, _, _, _, _, _, rfl, .own _, .base ty8, kT, ⟨_, rfl, _, _, _, _, _, rfl, .own _, .base ty8, kK, small4000' (by simp), fun u hu => ?_⟩⟩⟩⟩
      have s9 := (s2.trans s8).trans (same_upd (o := .lst [.bl k.ordl, .bl k.kinH, .bl k.kinT, .bl true]) hu)
      have hu9 : upd H8 u (.lst [.bl k.ordl, .bl k.kinH, .bl k.kinT, .bl true]) u = some (.lst ([k.ordl, k.kinH, k.kinT, true].map V.bl)) := upd_same
      generalize upd H8 u (.lst [.bl k.ordl, .bl k.kinH, .bl k.kinT, .bl true]) = H9 at s9 hu9
      clear s8 hg8 ho8 ty8 hu s2 hp2
      have sh5 := shb [k.ordl, k.kinH, k.kinT, true] (by simp)
      refine ⟨_, rfl, in_strs (cs := ["bag", "set"]) rfl (fun _ h => h) (by decide) (b := k.ordl) (by cases k <;> decide +kernel) fun H3 s3 => ?_⟩
      refine in_strs (cs := ["heads", "first"]) rfl (fun _ h => h) (by decide) (b := k.kinH) (by cases k <;> decide +kernel) fun H4 s4 => ?_
      refine in_strs (cs := ["tails", "last"]) rfl (fun _ h => h) (by decide) (b := k.kinT) (by cases k <;> decide +kernel) fun H5 s5 => ⟨small4000' (by simp), fun d hd => ?_⟩
      have s6 := ((s3.trans s4).trans s5).trans (same_upd (o := .lst [.bl k.ordl, .bl k.kinH, .bl k.kinT, .bl true]) hd)
      have hd6 : upd H5 d (.lst [.bl k.ordl, .bl k.kinH, .bl k.kinT, .bl true]) d = some (.lst ([k.ordl, k.kinH, k.kinT, true].map V.bl)) := upd_same
      generalize upd H5 d (.lst [.bl k.ordl, .bl k.kinH, .bl k.kinT, .bl true]) = H6 at s6 hd6
      have qq := q H6 (s9.trans s6)
      refine ⟨_, _, .lst (SqL.of (s6 _ _ hu9)) (dp_bls _), .lst (SqL.of hd6) (dp_bls _), sh5.1, sh5.1, ?_⟩
      rw [SeqAt.eqv_refl _ sh5.2]
      exact qq
end
end Mv

set_option Elab.async false
set_option linter.all false
set_option maxRecDepth 100000
set_option maxHeartbeats 4000000
namespace Mv
open PySem PySem.Spec PyProof.Rows L2
abbrev sKeeps : Stmt := topS 30
theorem ne_lists {K : PySem.W.Frag} {H : Hp} {a b : Addr} {xs ys : List Int} {Q : VK} (ha : SqL K H a (xs.map V.int)) (hb : SqL K H b (ys.map V.int)) (e : xs = ys) (q : Q (.bl false) H) : rNeD K (.ref a) (.ref b) H Q :=
  ⟨_, _, .lst ha (dp_ints xs), .lst hb (dp_ints ys), PySem.W.ke_shaped_ints xs, PySem.W.ke_shaped_ints ys, by rw [show PyData.eqv (.list (xs.map PyData.int)) (.list (ys.map PyData.int)) = decide (xs = ys) from eqvAll_ints xs ys, decide_eq_true e]; exact q⟩
theorem eq_lists {K : PySem.W.Frag} {H : Hp} {a b : Addr} {xs ys : List Int} {Q : VK} (ha : SqL K H a (xs.map V.int)) (hb : SqL K H b (ys.map V.int)) (q : Q (.bl (decide (xs = ys))) H) : rEqD K (.ref a) (.ref b) H Q :=
  ⟨_, _, .lst ha (dp_ints xs), .lst hb (dp_ints ys), PySem.W.ke_shaped_ints xs, PySem.W.ke_shaped_ints ys, by rw [show PyData.eqv (.list (xs.map PyData.int)) (.list (ys.map PyData.int)) = decide (xs = ys) from eqvAll_ints xs ys]; exact q⟩
theorem Nw.ne {H : Hp} {l b : Addr} {o : HO} (n : Nw H l) (h : H b = some o) (ht : ∀ ps, o ≠ .tbl ps) : b ≠ l := fun z => by
  obtain ⟨ps, e⟩ := n o (z ▸ h)
  exact ht ps e
/-- a list that the call made is written -/
theorem Gw.wr {T : List (Addr × Str)} {H H1 : Hp} {l : Addr} {xs ys : List V} (g : Gw T H H1) (n : Nw H l) (h : H1 l = some (.lst xs)) : Gw T H (L2.upd H1 l (.lst ys)) := by
  refine ⟨fun b o e ht => ?_, fun p hp => ?_⟩
  · rw [upd_ne (n.ne e ht)]
    exact g.1 b o e ht
  · obtain ⟨ps, hP, ok, hc⟩ := g.2 p hp
    refine ⟨ps, ?_, ok, fun pos cv e => ?_⟩
    · rw [upd_ne (fun z => by rw [z, h] at hP; cases hP)]
      exact hP
    · obtain ⟨c, rfl, h'⟩ := hc pos cv e
      refine ⟨c, rfl, ?_⟩
      rw [upd_ne (fun z => by rw [z, h] at h'; cases h')]
      exact h'
section
variable {P : Program} {w : World} {K : PySem.W.Frag} {mg : Str → Option Value} {base : Heap} {T : List (Addr × Str)} {cls : Kd → Addr} {CB : Addr}
theorem scKeeps : FnScope ["_law_kind_here", "_law_made_here", "_law_word_here", "_law_due", "_law_found", "_law_index"] ["_law_kind_here", "_law_made_here", "_law_word_here"] (defScope sKeeps) := ⟨rfl, rfl, rfl, by decide +kernel, rfl, by decide +kernel, by decide +kernel⟩
def spKeeps (cls : Kd → Addr) (T : List (Addr × Str)) : Sp := fun vs H Q _ => ∃ (k : Kd) (o p : Addr) (xs : List Int), vs = [.str k.nm, .ref o, .ref p] ∧ KObj cls H o k ∧ H p = some (.tup (xs.map V.int)) ∧ xs.length ≤ 60 ∧ LamX.Tabs T H ∧ ∀ (H' : Hp), Gw T H H' → Q (.bl true) H'
theorem ok_keeps {f : Addr} {fd : FuncData} (F : Fun K "_law_keeps" "_law_keeps" sKeeps f fd) (B : Bi mg) (cKept : CalX CX0 P w K mg base 1 "_law_kept" spKept) (cK : ∀ k, MetX CX0 P w K mg base 2 (cls k) "keep" (spKeep K T k)) (cPlain : ∀ k, MetX CX0 P w K mg base 3 (cls k) "plain" (spPlainM K cls T k)) : FnOk P w K mg base CX0 4 f fd ["_law_kind_here", "_law_made_here", "_law_word_here"] (spKeeps cls T) := by
  refine F.ok scKeeps (fun vs H Q E h => ?_) (fun cdv A outer s H vs Q E hr h => ?_)
  · obtain ⟨k, o, p, xs, rfl, _⟩ := h
    rfl
  · obtain ⟨k, o, p, xs, rfl, ⟨dx, ho⟩, hp, hl, ht, q⟩ := h
    have cKeep := cK k
    refine ⟨_, (pss_cons (ps_set (i := 3) scKeeps.nd rfl (.inl rfl) (pe_cx cKept hr (by decide) pass0 (by rfl) (pa_cons (pv 0) (pa_cons (pv 2) pa_nil))))
 (pss_cons (ps_set (i := 4) scKeeps.nd rfl (.inl rfl) (pe_mx cKeep hr (by decide) pass0 (pv 1) (pa_cons (pv 2) pa_nil)))
 (pss_cons (ps_if (pt_not (pt_val (pe_callB call_isi (by rfl) B.isinstance (by decide +kernel) (pa_cons (pv 4) (pa_cons (pe_bltn (by rfl) B.list (by decide +kernel) (v := .ty "list") rfl) pa_nil)))))
 (pss_one (ps_ret pe_bl)) pss_nil)
 (pss_cons (ps_for PassesOwn.never rfl (pi_list (pv 4)) (pg_name (i := 5) scKeeps.nd rfl (.inl rfl))
 (pss_one (ps_if (PW.pt (pw_or (pt_not (pt_val (pe_callB call_isi (by rfl) B.isinstance (by decide +kernel) (pa_cons (pv 5) (pa_cons (pe_bltn (by rfl) B.int (by decide +kernel) (v := .ty "int") rfl) pa_nil))))) (pw_or1 (pt_val (pe_callB call_isi (by rfl) B.isinstance (by decide +kernel) (pa_cons (pv 5) (pa_cons (pe_bltn (by rfl) B.bool (by decide +kernel) (v := .ty "bool") rfl) pa_nil)))))))
 (pss_one (ps_ret pe_bl)) pss_nil)))
 (pss_cons (ps_if (PW.pt (pw_or (pt_cmpR (op_neD hr.units) (pv 4) (pv 3) (nomark _)) (pw_or1 (pt_cmpR (op_neD hr.units) (pe_mx (cPlain k) hr (by decide) pass0 (pv 1) (pa_cons (pv 2) pa_nil)) (pe_callTy call_tuple_of (by rfl) B.tuple (by decide +kernel) (pa_cons (pe_lc (own := [("_law_index", 5)]) (g := gName 5) (tt := tYes) (te := (tOp (rIxT K) (tVar 2) (tVar 5))) rfl scKeeps.nd (pi_list (pv 3)) (blkOk_by (N := ["_law_kind_here", "_law_made_here", "_law_word_here", "_law_due", "_law_found", "_law_index"]) (sc := defScope sKeeps) (by decide +kernel)) (fun _ _ _ _ _ => (pg_name (i := 5) scKeeps.nd rfl (.inl rfl))) (fun _ _ _ _ _ => pts_nil) (fun _ _ _ _ _ => (pe_ix ix_tup (pv 2) (pv 5) (fun _ _ => rfl)))) pa_nil)) (nomark _)))))
 (pss_one (ps_ret pe_bl)) pss_nil)
 (pss_cons (ps_expr (pe_bm PySem.F.plainAttrs_list PySem.F.slot_list_append PySem.F.type_list_append mt_append (pv 4) (pa_cons pe_int pa_nil)))
 (pss_one (ps_ret (pe_cmpR (op_eqD hr.units) (pe_mx cKeep hr (by decide) pass0 (pv 1) (pa_cons (pe_callTy call_list_of (by rfl) B.list (by decide +kernel) (pa_cons (pv 2) pa_nil)) pa_nil)) (pv 3) (nomark _)))))))))), ?_⟩
    simp only [tSeq, tAsg, gName, tOp, rI, rI0, rU, tUn, tVar, tC, tCB, tCons, tNil, tTest, tIfS, tRet, tRetN, tDrop, tNext, tBreak, tCont, rEq, rNe, CDiv, CDivN, CMul, tBM, tBM0, tTup, tLst, tAug, tIf, tAnd, tOr, tNot, tAndV, tOrV, tNotV, tIsN, tNotN, tB, scal, tCall, cxK, cxKn, rIxT, rIxL, rIn, rAppend, rReverse, tVals, tDSetd, tDGet, tDGet1, tDGet2, tDIn, tDNotIn, rSortV, rSortT, rPop, rSortL, rSortT, tSl, tNoPart, tPart, List.append_nil, L2.start, List.map_cons, List.map_nil, List.length_cons, List.length_nil, List.replicate_succ, List.replicate_zero, List.cons_append, List.nil_append, Nat.reduceAdd, Nat.reduceSub, exists_eq, exists_eq', List.getElem?_cons_zero, List.getElem?_cons_succ, List.set_cons_zero, List.set_cons_succ, Option.some.injEq, V.int.injEq, V.bl.injEq, V.str.injEq, V.ref.injEq, List.cons.injEq, and_true, true_and, and_false, false_and, reduceCtorEq, exists_false, or_false, false_or, exists_and_left, exists_and_right, exists_eq_left, exists_eq_left', exists_eq_right, exists_eq_right', exists_const, ite_true, ite_false, Bool.false_eq_true, if_true, if_false, decide_true, decide_false]
    refine ⟨k, p, xs, rfl, hp, hl, fun H1 z s1 hz => ?_⟩
    refine ⟨.ref o, rfl, o, dx, [], rfl, s1 _ _ ho, rfl, .ref p, rfl, .ref o, p, xs, rfl, .inl (tt (s1 _ _ hp)), hl, ht.ext s1, fun H2 l g2 n2 h2 => ?_⟩
    have zl : z ≠ l := n2.ne hz (fun ps e => by cases e)
    have pl : p ≠ l := n2.ne (s1 _ _ hp) (fun ps e => by cases e)
    have ol : o ≠ l := n2.ne (s1 _ _ ho) (fun ps e => by cases e)
    have nH : Nw H l := fun o e => n2 o (s1 _ _ e)
    have kl : (keepIx k xs).length ≤ 120 := by
      have := plain_len k xs
      rw [keep_len]
      omega
    have kv0 := keep_vals k xs
    have klt : ∀ i ∈ keepIx k xs, i < xs.length := fun i hi => keep_lt hi
    have gH := (Gw.of ht s1).trans g2
    have ho2 := g2.1 _ _ (s1 _ _ ho) (fun ps e => by cases e)
    have hp2 := g2.1 _ _ (s1 _ _ hp) (fun ps e => by cases e)
    have hz2 := g2.1 _ _ hz (fun ps e => by cases e)
    rw [ixV_int] at h2 hz2
    refine ⟨_, _, _, _, true, rfl, .ty _, .base (.lst h2), kit_ty (by decide +kernel), true, rfl, if_F rfl ?_⟩
    refine ⟨_, rfl, l, rfl, ⟨_, SqL.of h2⟩, for_list (K := K) (xs := ((keepIx k xs).map fun i : Nat => (i : Int)).map V.int) (fun i σ H' => ∃ y, σ = [some (.str k.nm), some (.ref o), some (.ref p), some (.ref z), some (.ref l), y] ∧ H' = H2) ⟨none, rfl, rfl⟩ (fun i σ H' _ ⟨_, _, e⟩ => by rw [e]; exact SqL.of h2) ?_ ?_⟩
    · rintro i x σ H' hx ⟨y, rfl, rfl⟩
      obtain ⟨n, _, rfl⟩ := List.mem_map.mp (List.mem_of_getElem? hx)
      simp only [tSeq, tAsg, gName, tOp, rI, rI0, rU, tUn, tVar, tC, tCB, tCons, tNil, tTest, tIfS, tRet, tRetN, tDrop, tNext, tBreak, tCont, rEq, rNe, CDiv, CDivN, CMul, tBM, tBM0, tTup, tLst, tAug, tIf, tAnd, tOr, tNot, tAndV, tOrV, tNotV, tIsN, tNotN, tB, scal, tCall, cxK, cxKn, rIxT, rIxL, rIn, rAppend, rReverse, tVals, tDSetd, tDGet, tDGet1, tDGet2, tDIn, tDNotIn, rSortV, rSortT, rPop, rSortL, rSortT, tSl, tNoPart, tPart, List.append_nil, L2.start, List.map_cons, List.map_nil, List.length_cons, List.length_nil, List.replicate_succ, List.replicate_zero, List.cons_append, List.nil_append, Nat.reduceAdd, Nat.reduceSub, exists_eq, exists_eq', List.getElem?_cons_zero, List.getElem?_cons_succ, List.set_cons_zero, List.set_cons_succ, Option.some.injEq, V.int.injEq, V.bl.injEq, V.str.injEq, V.ref.injEq, List.cons.injEq, and_true, true_and, and_false, false_and, reduceCtorEq, exists_false, or_false, false_or, exists_and_left, exists_and_right, exists_eq_left, exists_eq_left', exists_eq_right, exists_eq_right', exists_const, ite_true, ite_false, Bool.false_eq_true, if_true, if_false, decide_true, decide_false]
      exact ⟨_, _, _, _, true, rfl, .ty _, .base (.int n), kit_ty (by decide +kernel), true, rfl, if_F rfl ⟨_, _, _, _, false, rfl, .ty _, .base (.int n), kit_ty (by decide +kernel), false, rfl, if_F rfl rfl⟩⟩
    · rintro σ H' ⟨y, rfl, rfl⟩
      simp only [tSeq, tAsg, gName, tOp, rI, rI0, rU, tUn, tVar, tC, tCB, tCons, tNil, tTest, tIfS, tRet, tRetN, tDrop, tNext, tBreak, tCont, rEq, rNe, CDiv, CDivN, CMul, tBM, tBM0, tTup, tLst, tAug, tIf, tAnd, tOr, tNot, tAndV, tOrV, tNotV, tIsN, tNotN, tB, scal, tCall, cxK, cxKn, rIxT, rIxL, rIn, rAppend, rReverse, tVals, tDSetd, tDGet, tDGet1, tDGet2, tDIn, tDNotIn, rSortV, rSortT, rPop, rSortL, rSortT, tSl, tNoPart, tPart, List.append_nil, L2.start, List.map_cons, List.map_nil, List.length_cons, List.length_nil, List.replicate_succ, List.replicate_zero, List.cons_append, List.nil_append, Nat.reduceAdd, Nat.reduceSub, exists_eq, exists_eq', List.getElem?_cons_zero, List.getElem?_cons_succ, List.set_cons_zero, List.set_cons_succ, Option.some.injEq, V.int.injEq, V.bl.injEq, V.str.injEq, V.ref.injEq, List.cons.injEq, and_true, true_and, and_false, false_and, reduceCtorEq, exists_false, or_false, false_or, exists_and_left, exists_and_right, exists_eq_left, exists_eq_left', exists_eq_right, exists_eq_right', exists_const, ite_true, ite_false, Bool.false_eq_true, if_true, if_false, decide_true, decide_false]
      refine ne_lists (SqL.of h2) (SqL.of hz2) rfl ⟨false, rfl, if_F rfl ?_⟩
      refine ⟨.ref o, rfl, o, dx, [], rfl, ho2, rfl, .ref p, rfl, o, p, xs, rfl, ⟨dx, ho2⟩, .inl (tt hp2), hl, g2.2, fun H3 t g3 h3 => ?_⟩
      have hz3 := g3.1 _ _ hz2 (fun ps e => by cases e)
      have hp3 := g3.1 _ _ hp2 (fun ps e => by cases e)
      have ho3 := g3.1 _ _ ho2 (fun ps e => by cases e)
      have hl3 := g3.1 _ _ h2 (fun ps e => by cases e)
      refine ⟨.ref z, rfl, z, rfl, ⟨_, SqL.of hz3⟩, fun D hD => ?_⟩
      have zD : z ≠ D := ne_of_none hz3 hD
      refine lc_list (xs := ((keepIx k xs).map fun i : Nat => (i : Int)).map V.int) (fun i H' => Sx D H3 H' ∧ H' D = some (.lst ((((keepIx k xs).take i).map fun i => xs.getD i 0).map V.int))) ⟨Sx.upd, upd_same⟩ (fun i H' _ h => SqL.of (h.1 _ _ zD hz3)) ?_ ?_
      · rintro i x H' hx ⟨sx, hd⟩
        rw [List.getElem?_map, List.getElem?_map] at hx
        cases hk : (keepIx k xs)[i]? with
        | none =>
          rw [hk] at hx
          cases hx
        | some n =>
          rw [hk] at hx
          obtain rfl : V.int (n : Int) = x := Option.some.inj hx
          have hn := klt n (List.mem_of_getElem? hk)
          refine ⟨rfl, ?_⟩
          simp only [tYes, if_true]
          refine ⟨_, rfl, _, rfl, p, _, _, _, rfl, rfl, tt (sx _ _ (ne_of_none hp3 hD) hp3), atI_nat (nth hn), _, hd, by rw [List.length_map, List.length_map, sizeLine_eq]; have := (List.take_sublist i (keepIx k xs)).length_le; omega, sx.trans Sx.upd, ?_⟩
          rw [upd_same, List.take_succ, hk, List.map_append, List.map_append]
          show _ = some (HO.lst (_ ++ [.int (xs.getD n 0)]))
          rw [getD_at hn]
      · rintro H' ⟨sx, hd⟩
        have s4 : Same H3 H' := fun b o e => sx b o (ne_of_none e hD) e
        rw [List.take_of_length_le (by rw [List.length_map, List.length_map]; exact Nat.le_refl _), kv0] at hd
        refine ⟨D, rfl, _, .inl ⟨SqL.of hd, fun u hu => ?_⟩⟩
        have s5 := s4.trans (same_upd (o := .tup ((plainI k xs).map V.int)) hu)
        have hu5 : upd H' u (.tup ((plainI k xs).map V.int)) u = some (.tup ((plainI k xs).map V.int)) := upd_same
        generalize upd H' u (.tup ((plainI k xs).map V.int)) = H5 at s5 hu5
        clear hd sx s4 hu hD zD
        refine ne_tups (tt (s5 _ _ h3)) (tt hu5) ?_
        rw [decide_eq_true rfl]
        refine ⟨false, rfl, if_F rfl ?_⟩
        have hz5 := s5 _ _ hz3
        have ho5 := s5 _ _ ho3
        have hp5 := s5 _ _ hp3
        have hl5 := s5 _ _ hl3
        have g5 : Gw T H H5 := (gH.trans g3).trans (.of g3.2 s5)
        refine ⟨.inl ⟨rfl, _, SqL.of hl5⟩, _, hl5, by rw [List.length_map, List.length_map, sizeLine_eq]; omega, ?_⟩
        have g6 := Gw.wr (ys := ((keepIx k xs).map fun i : Nat => (i : Int)).map V.int ++ [.int 0]) g5 nH hl5
        have hz6 : upd H5 l (.lst (((keepIx k xs).map fun i : Nat => (i : Int)).map V.int ++ [.int 0])) z = _ := (upd_ne zl).trans hz5
        have ho6 : upd H5 l (.lst (((keepIx k xs).map fun i : Nat => (i : Int)).map V.int ++ [.int 0])) o = _ := (upd_ne ol).trans ho5
        have hp6 : upd H5 l (.lst (((keepIx k xs).map fun i : Nat => (i : Int)).map V.int ++ [.int 0])) p = _ := (upd_ne pl).trans hp5
        generalize upd H5 l (.lst (((keepIx k xs).map fun i : Nat => (i : Int)).map V.int ++ [.int 0])) = H6 at g6 hz6 ho6 hp6
        refine ⟨.ref o, rfl, o, dx, [], rfl, ho6, rfl, .ref p, rfl, p, rfl, _, .inr (tt hp6), fun c hc => ⟨.ref o, c, xs, rfl, .inr (SqL.of upd_same), hl, tabs_upd g6.2 hc, fun H7 l2 g7 n7 h7 => ?_⟩⟩
        have hz7 := g7.1 _ _ (same_upd hc _ _ hz6) (fun ps e => by cases e)
        rw [ixV_int] at h7
        refine eq_lists (SqL.of h7) (SqL.of hz7) ?_
        rw [decide_eq_true rfl]
        exact q H7 ((g6.upd hc).trans g7)
end
end Mv

set_option Elab.async false
set_option linter.all false
set_option maxRecDepth 100000
set_option maxHeartbeats 8000000
namespace Mv
open PySem PySem.Spec PyProof.Rows L2
abbrev sLaw : Stmt := topS 31
def spLaw (K : PySem.W.Frag) (T : List (Addr × Str)) : Sp := fun vs H Q _ => ∃ (a : Addr) (ns : List Int), vs = [.ref a] ∧ SqL K H a (ns.map V.int) ∧ ns.length ≤ 63 ∧ LamX.Tabs T H ∧ ∀ H' : Hp, Q (.bl true) H'
section
variable {P : Program} {w : World} {K : PySem.W.Frag} {mg : Str → Option Value} {base : Heap} {T : List (Addr × Str)} {cls : Kd → Addr} {CB : Addr}
theorem scLaw : FnScope ["_law_script", "_law_stream_here", "_law_kind_here", "_law_style", "_law_word_here", "_law_made_here", "_law_plain", "_law_normal_here", "_law_other", "_law_found", "_law_doubled"] ["_law_script"] (defScope sLaw) := ⟨rfl, rfl, rfl, by decide +kernel, rfl, by decide +kernel, by decide +kernel⟩
theorem tabs_sx {T : List (Addr × Str)} {H H' : Hp} {a : Addr} (t : LamX.Tabs T H) (hs : Strm H a) (x : Sx a H H') : LamX.Tabs T H' := fun p hp => by
  obtain ⟨ps, h1, h2, h3⟩ := t p hp
  obtain ⟨ns, ha, _⟩ := hs
  have ne : ∀ {b : Addr} {o : HO}, H b = some o → (∀ l, o ≠ .lst l) → b ≠ a := fun {b o} e n z => by
    rw [z, ha] at e
    exact n _ (Option.some.inj e).symm
  refine ⟨ps, x _ _ (ne h1 fun l z => by cases z) h1, h2, fun pos cv hc => ?_⟩
  obtain ⟨c, e1, e2⟩ := h3 pos cv hc
  exact ⟨c, e1, x _ _ (ne e2 fun l z => by unfold LamX.CodeO at z; cases z) e2⟩
theorem cat_any {K : PySem.W.Frag} {H : Hp} {a b : Addr} {xs ys : List Int} {Q : VK} (ha : H a = some (.tup (xs.map V.int))) (hb : H b = some (.tup (ys.map V.int))) (hz : xs.length + ys.length ≤ 1000)
    (q : ∀ (z : Addr) (H' : Hp), Same H H' → H' z = some (.tup ((xs ++ ys).map V.int)) → Q (.ref z) H') : rCatA K (.ref a) (.ref b) H Q := by
  refine ⟨a, b, _, _, rfl, rfl, .inl (.inl ha), .inl (.inl hb), ?_, ?_⟩
  · rw [List.length_map, List.length_map]
    exact small1000' hz
  · refine ⟨fun e => q b H (Same.refl H) ?_, fun _ e => q a H (Same.refl H) ?_, fun _ _ p hp => q p _ (same_upd hp) ?_⟩
    · rw [List.map_append, e]
      exact hb
    · rw [List.map_append, e, List.append_nil]
      exact ha
    · rw [upd_same, List.map_append]
theorem _root_.LamX.ExtN.t {H H' : Hp} {b : Addr} {xs : List V} (e : LamX.ExtN H H') (h : H b = some (.tup xs)) : H' b = some (.tup xs) := e _ _ h fun ps z => by cases z
theorem ok_law {f : Addr} {fd : FuncData} (F : Fun K "law" "law" sLaw f fd) (B : Bi mg) (X : KTx P w K mg base cls CB) (cStream : CalX CX0 P w K mg base 1 "_law_stream" (spStream K)) (cDraw : CalX CX0 P w K mg base 1 "_law_draw" spDraw) (cKind : CalX CX0 P w K mg base 2 "_law_kind" spKind) (cWord : CalX CX0 P w K mg base 4 "_law_word" spWord)
    (cShaped : CalX CX0 P w K mg base 2 "_law_shaped" spShaped) (cNormal : CalX CX0 P w K mg base 1 "_law_normal" (spNormal K)) (cMade : CalX CX0 P w K mg base 3 "_law_made" (spMade cls)) (cClassed : CalX CX0 P w K mg base 2 "_law_classed" (spClassed cls)) (cKeeps : CalX CX0 P w K mg base 4 "_law_keeps" (spKeeps cls T))
    (cKN : CalX (L2.CX P w) P w K mg base 3 "kind_named" (spKN cls CB)) (cPV : CalX (L2.CX P w) P w K mg base 4 "plain_value" (spPV K T CB)) :
    FnOk P w K mg base CX0 6 f fd ["_law_script"] (spLaw K T) := by
  obtain ⟨kn, gN, tN⟩ := X.names
  refine F.ok scLaw (fun vs H Q E h => ?_) (fun cdv A outer s H vs Q E hr h => ?_)
  · obtain ⟨a, ns, rfl, _⟩ := h
    rfl
  · obtain ⟨a, ns, rfl, hS, hlen, hT, q⟩ := h
    refine ⟨_, (pss_cons (ps_set (i := 1) scLaw.nd rfl (.inl rfl) (pe_cx cStream hr (by decide) pass0 (by rfl) (pa_cons (pv 0) pa_nil)))
 (pss_cons (ps_set (i := 2) scLaw.nd rfl (.inl rfl) (pe_cx cKind hr (by decide) pass0 (by rfl) (pa_cons (pv 1) pa_nil)))
 (pss_cons (ps_set (i := 3) scLaw.nd rfl (.inl rfl) (pe_cx cDraw hr (by decide) pass0 (by rfl) (pa_cons (pv 1) (pa_cons pe_int pa_nil))))
 (pss_cons (ps_set (i := 4) scLaw.nd rfl (.inl rfl) (pe_cx cShaped hr (by decide) pass0 (by rfl) (pa_cons (pv 1) (pa_cons (pe_cx cWord hr (by decide) pass0 (by rfl) (pa_cons (pv 1) (pa_cons (pe_cx cDraw hr (by decide) pass0 (by rfl) (pa_cons (pv 1) (pa_cons pe_int pa_nil))) (pa_cons (pv 3) pa_nil)))) pa_nil))))
 (pss_cons (ps_if (pt_cmpR (op_neD hr.units) (pe_glob (v := V.ref kn) (by rfl) gN rfl) (pe_tup (pa_cons pe_str (pa_cons pe_str (pa_cons pe_str (pa_cons pe_str (pa_cons pe_str (pa_cons pe_str (pa_cons pe_str (pa_cons pe_str pa_nil))))))))) (nomark _))
 (pss_one (ps_ret pe_bl)) pss_nil)
 (pss_cons (ps_for PassesOwn.never rfl (pi_tup (pe_tup (pa_cons (pe_cx cMade hr (by decide) pass0 (by rfl) (pa_cons (pv 2) pa_nil)) (pa_cons (pe_cx cKN hr (by decide) passL (by rfl) (pa_cons (pv 2) pa_nil)) pa_nil)))) (pg_name (i := 5) scLaw.nd rfl (.inl rfl))
 (pss_cons (ps_if (PW.pt (pw_or (pt_not (pt_val (pe_cx cKeeps hr (by decide) pass0 (by rfl) (pa_cons (pv 2) (pa_cons (pv 5) (pa_cons (pv 4) pa_nil)))))) (pw_or1 (pt_not (pt_val (pe_cx cClassed hr (by decide) pass0 (by rfl) (pa_cons (pv 2) (pa_cons (pv 5) pa_nil))))))))
 (pss_one (ps_ret pe_bl)) pss_nil)
 (pss_one (ps_if (pt_not (pt_val (pe_cx cKeeps hr (by decide) pass0 (by rfl) (pa_cons (pv 2) (pa_cons (pv 5) (pa_cons (pe_revT (pv 4)) pa_nil))))))
 (pss_one (ps_ret pe_bl)) pss_nil))))
 (pss_cons (ps_set (i := 6) scLaw.nd rfl (.inl rfl) (pe_cx cPV hr (by decide) passL (by rfl) (pa_cons (pv 2) (pa_cons (pv 4) pa_nil))))
 (pss_cons (ps_set (i := 7) scLaw.nd rfl (.inl rfl) (pe_cx cNormal hr (by decide) pass0 (by rfl) (pa_cons (pv 2) (pa_cons (pv 4) pa_nil))))
 (pss_cons (ps_if (pt_cmpR op_ne (pe_cmpR (op_eqD hr.units) (pv 6) (pv 4) (nomark _)) (pv 7) (nomark _))
 (pss_one (ps_ret pe_bl)) pss_nil)
 (pss_cons (ps_for PassesOwn.never rfl (pi_tup (pe_tup (pa_cons (pv 4) (pa_cons (pe_op op_catA (pv 4) (pv 4)) (pa_cons (pe_revT (pv 4)) (pa_cons (pe_op op_catA (pv 4) (pv 6)) (pa_cons (pe_op op_catA (pv 6) (pv 4)) (pa_cons (pv 6) pa_nil)))))))) (pg_name (i := 8) scLaw.nd rfl (.inl rfl))
 (pss_cons (ps_set (i := 9) scLaw.nd rfl (.inl rfl) (pe_cx cPV hr (by decide) passL (by rfl) (pa_cons (pv 2) (pa_cons (pv 8) pa_nil))))
 (pss_one (ps_if (PW.pt (pw_or (pt_not (pt_val (pe_cx cNormal hr (by decide) pass0 (by rfl) (pa_cons (pv 2) (pa_cons (pv 9) pa_nil))))) (pw_or1 (PW.pt (pw_and (pt_not (pt_val (pv 7))) (pw_and1 (pt_cmpR (op_eqD hr.units) (pv 9) (pv 4) (nomark _))))))))
 (pss_one (ps_ret pe_bl)) pss_nil))))
 (pss_cons (ps_set (i := 10) scLaw.nd rfl (.inl rfl) (pe_cmpR (op_eqD hr.units) (pe_cx cPV hr (by decide) passL (by rfl) (pa_cons (pv 2) (pa_cons (pe_op op_catA (pv 4) (pv 4)) pa_nil))) (pv 6) (nomark _)))
 (pss_one (ps_ret (pe_cmpR op_eq (pv 10) (pe_or (pe_cmpR op_notIn_seq (pv 2) (pe_tup (pa_cons pe_str (pa_cons pe_str pa_nil))) (by rfl)) (pe_one (pe_cmpR op_eq (pe_callB call_len_seq (by rfl) B.len PySem.boot_len (pa_cons (pv 4) pa_nil)) pe_int (nomark _)))) (nomark _))))))))))))))), ?_⟩
    simp only [tSeq, tAsg, gName, tOp, rI, rI0, rU, tUn, tVar, tC, tCB, tCons, tNil, tTest, tIfS, tRet, tRetN, tDrop, tNext, tBreak, tCont, rEq, rNe, CDiv, CDivN, CMul, tBM, tBM0, tTup, tLst, tAug, tIf, tAnd, tOr, tNot, tAndV, tOrV, tNotV, tIsN, tNotN, tB, scal, tCall, cxK, cxKn, rIxT, rIxL, rIn, rAppend, rReverse, tVals, tDSetd, tDGet, tDGet1, tDGet2, tDIn, tDNotIn, rSortV, rSortT, rPop, rSortL, rSortT, tSl, tNoPart, tPart, List.append_nil, L2.start, List.map_cons, List.map_nil, List.length_cons, List.length_nil, List.replicate_succ, List.replicate_zero, List.cons_append, List.nil_append, Nat.reduceAdd, Nat.reduceSub, exists_eq, exists_eq', List.getElem?_cons_zero, List.getElem?_cons_succ, List.set_cons_zero, List.set_cons_succ, Option.some.injEq, V.int.injEq, V.bl.injEq, V.str.injEq, V.ref.injEq, List.cons.injEq, and_true, true_and, and_false, false_and, reduceCtorEq, exists_false, or_false, false_or, exists_and_left, exists_and_right, exists_eq_left, exists_eq_left', exists_eq_right, exists_eq_right', exists_const, ite_true, ite_false, Bool.false_eq_true, if_true, if_false, decide_true, decide_false]
    refine ⟨a, ns, rfl, hS, hlen, fun H1 p s1 np t1 => ?_⟩
    have T1 := hT.ext s1
    refine ⟨p, rfl, t1, fun k H2 x2 t2 => ?_⟩
    have T2 := tabs_sx T1 t1 x2
    refine spDraw_of (by decide) t2 fun st H3 _ _ x3 t3 => ?_
    have T3 := tabs_sx T2 t2 x3
    refine spDraw_of (by decide) t3 fun n1 H4 p1 l1 x4 t4 => ?_
    have T4 := tabs_sx T3 t3 x4
    obtain ⟨n1, rfl⟩ := Int.eq_ofNat_of_zero_le p1
    refine ⟨p, n1, st, rfl, by omega, t4, fun xs0 H5 l0 ex x5 t5 nl hl0 => ?_⟩
    have T5 := tabs_sx T4 t4 x5
    refine ⟨p, l0, xs0, rfl, t5, hl0, by omega, fun H6 l xs x6 t6 hl lx => ?_⟩
    have T6 := tabs_sx T5 t5 x6
    clear hS hlen hT s1 np t1 T1 x2 t2 T2 x3 t3 T3 x4 t4 T4 x5 t5 T5 x6 hl0 ex nl l1 p1
    have shn : SeqAt.shaped (.tuple ((kds.map Kd.nm).map PyData.str)) = true := by decide +kernel
    have eqn : PyData.eqv (.tuple ((kds.map Kd.nm).map PyData.str)) (.tuple ((kds.map Kd.nm).map PyData.str)) = true := by decide +kernel
    refine ⟨small4000' (by decide), fun tn htn => ⟨_, _, .tup (xs := (kds.map Kd.nm).map V.str) (tN _) (dp_strs _), .tup (xs := (kds.map Kd.nm).map V.str) (tt upd_same) (dp_strs _), shn, shn, false, by rw [eqn]; rfl, if_F rfl ?_⟩⟩
    have s7 := same_upd (o := .tup ((kds.map Kd.nm).map V.str)) htn
    have hl7 := s7 _ _ hl
    have T7 := T6.ext s7
    refine ⟨_, rfl, k, rfl, fun H8 o1 s8 ho1 => ⟨_, rfl, _, rfl, .inl ⟨k, rfl, fun H9 o2 s9 ho2 => ⟨small4000' (by simp), fun tp htp => ?_⟩⟩⟩⟩
    have s10 := same_upd (o := .tup [.ref o1, .ref o2]) htp
    have T10 := ((T7.ext s8).ext s9).ext s10
    have hl10 := s10 _ _ (s9 _ _ (s8 _ _ hl7))
    have k1 : KObj cls _ o1 k := ho1.ext (LamX.ExtN.of (s9.trans s10))
    have k2 : KObj cls _ o2 k := ho2.ext (LamX.ExtN.of s10)
    have htp10 : upd H9 tp (.tup [.ref o1, .ref o2]) tp = some (.tup [.ref o1, .ref o2]) := upd_same
    generalize upd H9 tp (.tup [.ref o1, .ref o2]) = H10 at T10 hl10 k1 k2 htp10
    clear s7 hl7 T7 s8 ho1 s9 ho2 htp s10 t6 T6 hl htn
    refine ⟨tp, rfl, ⟨_, tt htp10⟩, for_tup (K := K) (xs := [.ref o1, .ref o2]) (fun i σ H' => ∃ y, σ = [some (.ref a), some (.ref p), some (.str k.nm), some (.int st), some (.ref l), y, none, none, none, none, none] ∧ Gw T H10 H') ⟨none, rfl, .refl T10⟩ (fun i σ H' _ ⟨_, _, g⟩ => tt (g.1.t htp10)) ?_ ?_⟩
    · rintro i x σ H' hx ⟨y, rfl, g⟩
      obtain ⟨o, rfl, ko⟩ : ∃ o, x = .ref o ∧ KObj cls H10 o k := by
        have hm := List.mem_of_getElem? hx
        rcases List.mem_cons.mp hm with rfl | hm
        · exact ⟨o1, rfl, k1⟩
        · rw [List.mem_singleton.mp hm]
          exact ⟨o2, rfl, k2⟩
      simp only [tSeq, tAsg, gName, tOp, rI, rI0, rU, tUn, tVar, tC, tCB, tCons, tNil, tTest, tIfS, tRet, tRetN, tDrop, tNext, tBreak, tCont, rEq, rNe, CDiv, CDivN, CMul, tBM, tBM0, tTup, tLst, tAug, tIf, tAnd, tOr, tNot, tAndV, tOrV, tNotV, tIsN, tNotN, tB, scal, tCall, cxK, cxKn, rIxT, rIxL, rIn, rAppend, rReverse, tVals, tDSetd, tDGet, tDGet1, tDGet2, tDIn, tDNotIn, rSortV, rSortT, rPop, rSortL, rSortT, tSl, tNoPart, tPart, List.append_nil, L2.start, List.map_cons, List.map_nil, List.length_cons, List.length_nil, List.replicate_succ, List.replicate_zero, List.cons_append, List.nil_append, Nat.reduceAdd, Nat.reduceSub, exists_eq, exists_eq', List.getElem?_cons_zero, List.getElem?_cons_succ, List.set_cons_zero, List.set_cons_succ, Option.some.injEq, V.int.injEq, V.bl.injEq, V.str.injEq, V.ref.injEq, List.cons.injEq, and_true, true_and, and_false, false_and, reduceCtorEq, exists_false, or_false, false_or, exists_and_left, exists_and_right, exists_eq_left, exists_eq_left', exists_eq_right, exists_eq_right', exists_const, ite_true, ite_false, Bool.false_eq_true, if_true, if_false, decide_true, decide_false]
      have ko' := ko.ext g.1
      have hl' := g.1.t hl10
      refine ⟨k, o, l, xs, rfl, ko', hl', by omega, g.2, fun Ha ga => ⟨true, rfl, if_F rfl ⟨k, o, rfl, ko'.ext ga.1, fun Hb sb => ⟨true, rfl, if_F rfl ?_⟩⟩⟩⟩
      have gb := ga.trans (.of ga.2 sb)
      refine ⟨_, rfl, l, _, rfl, tt (gb.1.t hl'), fun r hr => ?_⟩
      have gr := gb.upd (o := .tup (xs.map V.int).reverse) hr
      refine ⟨k, o, r, xs.reverse, rfl, ko'.ext gr.1, by rw [upd_same, List.map_reverse], by rw [List.length_reverse]; omega, gr.2, fun Hc gc => ⟨true, rfl, if_F rfl ?_⟩⟩
      exact (g.trans gr).trans gc
    · rintro σ H' ⟨y, rfl, g⟩
      have hl' := g.1.t hl10
      have T' := g.2
      clear g k1 k2 htp10 hl10 T10
      simp only [tSeq, tAsg, gName, tOp, rI, rI0, rU, tUn, tVar, tC, tCB, tCons, tNil, tTest, tIfS, tRet, tRetN, tDrop, tNext, tBreak, tCont, rEq, rNe, CDiv, CDivN, CMul, tBM, tBM0, tTup, tLst, tAug, tIf, tAnd, tOr, tNot, tAndV, tOrV, tNotV, tIsN, tNotN, tB, scal, tCall, cxK, cxKn, rIxT, rIxL, rIn, rAppend, rReverse, tVals, tDSetd, tDGet, tDGet1, tDGet2, tDIn, tDNotIn, rSortV, rSortT, rPop, rSortL, rSortT, tSl, tNoPart, tPart, List.append_nil, L2.start, List.map_cons, List.map_nil, List.length_cons, List.length_nil, List.replicate_succ, List.replicate_zero, List.cons_append, List.nil_append, Nat.reduceAdd, Nat.reduceSub, exists_eq, exists_eq', List.getElem?_cons_zero, List.getElem?_cons_succ, List.set_cons_zero, List.set_cons_succ, Option.some.injEq, V.int.injEq, V.bl.injEq, V.str.injEq, V.ref.injEq, List.cons.injEq, and_true, true_and, and_false, false_and, reduceCtorEq, exists_false, or_false, false_or, exists_and_left, exists_and_right, exists_eq_left, exists_eq_left', exists_eq_right, exists_eq_right', exists_const, ite_true, ite_false, Bool.false_eq_true, if_true, if_false, decide_true, decide_false]
      have pl := plain_len k xs
      refine ⟨_, l, rfl, .inl ⟨k, xs, rfl, .inl (tt hl'), by omega, T', fun H11 pz g11 hpz => ?_⟩⟩
      have hl11 := g11.1.t hl'
      refine ⟨k, l, xs, rfl, tt hl11, by omega, fun H12 s12 => ?_⟩
      have hl12 := s12 _ _ hl11
      have hpz12 := s12 _ _ hpz
      have T12 := g11.2.ext s12
      refine eq_tups (tt hpz12) (tt hl12) ⟨rfl, if_F (by rw [decide_eq_true rfl]; rfl) ?_⟩
      clear hl11 hpz g11 s12 hl' T'
      -- the six words
      refine ⟨_, rfl, _, rfl, _, rfl, cat_any hl12 hl12 (by omega) fun d Hd sd hd => ⟨_, rfl, l, _, rfl, tt (sd _ _ hl12), fun r hr => ⟨_, rfl, _, rfl, ?_⟩⟩⟩
      have sr := same_upd (o := .tup (xs.map V.int).reverse) hr
      have hrr : upd Hd r (.tup (xs.map V.int).reverse) r = some (.tup (xs.reverse.map V.int)) := by rw [upd_same, List.map_reverse]
      generalize upd Hd r (.tup (xs.map V.int).reverse) = H13 at sr hrr
      refine cat_any (sr _ _ (sd _ _ hl12)) (sr _ _ (sd _ _ hpz12)) (by omega) fun c1 H14 s14 h1 => ⟨_, rfl, _, rfl, ?_⟩
      refine cat_any (s14 _ _ (sr _ _ (sd _ _ hpz12))) (s14 _ _ (sr _ _ (sd _ _ hl12))) (by omega) fun c2 H15 s15 h2 => ⟨_, rfl, small4000' (by simp), fun tp htp => ?_⟩
      have s16 := same_upd (o := .tup [.ref l, .ref d, .ref r, .ref c1, .ref c2, .ref pz]) htp
      have htp16 : upd H15 tp (.tup [.ref l, .ref d, .ref r, .ref c1, .ref c2, .ref pz]) tp = some (.tup [.ref l, .ref d, .ref r, .ref c1, .ref c2, .ref pz]) := upd_same
      generalize upd H15 tp (.tup [.ref l, .ref d, .ref r, .ref c1, .ref c2, .ref pz]) = H16 at s16 htp16
      have sA := ((sd.trans sr).trans s14).trans (s15.trans s16)
      have hl16 := sA _ _ hl12
      have hpz16 := sA _ _ hpz12
      have T16 := T12.ext sA
      have words : ∀ x ∈ ([.ref l, .ref d, .ref r, .ref c1, .ref c2, .ref pz] : List V), ∃ (b : Addr) (ys : List Int), x = .ref b ∧ H16 b = some (.tup (ys.map V.int)) ∧ ys.length ≤ 30 := by
        have hd16 := s16 _ _ (s15 _ _ (s14 _ _ (sr _ _ hd)))
        have hr16 := s16 _ _ (s15 _ _ (s14 _ _ hrr))
        have h116 := s16 _ _ (s15 _ _ h1)
        have h216 := s16 _ _ h2
        simp only [List.mem_cons, List.not_mem_nil, or_false]
        rintro x (rfl | rfl | rfl | rfl | rfl | rfl)
        · exact ⟨l, xs, rfl, hl16, by omega⟩
        · exact ⟨d, _, rfl, hd16, by rw [List.length_append]; omega⟩
        · exact ⟨r, _, rfl, hr16, by rw [List.length_reverse]; omega⟩
        · exact ⟨c1, _, rfl, h116, by rw [List.length_append]; omega⟩
        · exact ⟨c2, _, rfl, h216, by rw [List.length_append]; omega⟩
        · exact ⟨pz, _, rfl, hpz16, by omega⟩
      clear sd hd hr sr hrr s14 h1 s15 h2 htp s16 sA hl12 hpz12 T12
      refine ⟨tp, rfl, ⟨_, tt htp16⟩, for_tup (K := K) (xs := [.ref l, .ref d, .ref r, .ref c1, .ref c2, .ref pz]) (fun i σ H' => ∃ y8 y9, σ = [some (.ref a), some (.ref p), some (.str k.nm), some (.int st), some (.ref l), y, some (.ref pz), some (.bl (decide (plainI k xs = xs))), y8, y9, none] ∧ Gw T H16 H') ⟨none, none, rfl, .refl T16⟩ (fun i σ H' _ ⟨_, _, _, g⟩ => tt (g.1.t htp16)) ?_ ?_⟩
      · rintro i x σ H' hx ⟨y8, y9, rfl, g⟩
        obtain ⟨b, ys, rfl, hb, ly⟩ := words x (List.mem_of_getElem? hx)
        have ply := plain_len k ys
        simp only [tSeq, tAsg, gName, tOp, rI, rI0, rU, tUn, tVar, tC, tCB, tCons, tNil, tTest, tIfS, tRet, tRetN, tDrop, tNext, tBreak, tCont, rEq, rNe, CDiv, CDivN, CMul, tBM, tBM0, tTup, tLst, tAug, tIf, tAnd, tOr, tNot, tAndV, tOrV, tNotV, tIsN, tNotN, tB, scal, tCall, cxK, cxKn, rIxT, rIxL, rIn, rAppend, rReverse, tVals, tDSetd, tDGet, tDGet1, tDGet2, tDIn, tDNotIn, rSortV, rSortT, rPop, rSortL, rSortT, tSl, tNoPart, tPart, List.append_nil, L2.start, List.map_cons, List.map_nil, List.length_cons, List.length_nil, List.replicate_succ, List.replicate_zero, List.cons_append, List.nil_append, Nat.reduceAdd, Nat.reduceSub, exists_eq, exists_eq', List.getElem?_cons_zero, List.getElem?_cons_succ, List.set_cons_zero, List.set_cons_succ, Option.some.injEq, V.int.injEq, V.bl.injEq, V.str.injEq, V.ref.injEq, List.cons.injEq, and_true, true_and, and_false, false_and, reduceCtorEq, exists_false, or_false, false_or, exists_and_left, exists_and_right, exists_eq_left, exists_eq_left', exists_eq_right, exists_eq_right', exists_const, ite_true, ite_false, Bool.false_eq_true, if_true, if_false, decide_true, decide_false]
        refine ⟨_, b, rfl, .inl ⟨k, ys, rfl, .inl (tt (g.1.t hb)), by omega, g.2, fun Ha fz ga hfz => ?_⟩⟩
        have gA := g.trans ga
        refine ⟨k, fz, plainI k ys, rfl, tt hfz, by omega, fun Hb sb => ⟨_, rfl, if_F (by rw [decide_eq_true (plain_idem k ys)]; rfl) ?_⟩⟩
        have gB := gA.trans (.of gA.2 sb)
        refine ite2 (fun hn => eq_tups (tt (sb _ _ hfz)) (tt (gB.1.t hl16)) ⟨_, rfl, if_F (decide_eq_false fun e => ?_) gB⟩) (fun _ => gB)
        have e2 : plainI k xs = xs := by rw [← e]; exact plain_idem k ys
        rw [decide_eq_true e2] at hn
        cases hn
      · rintro σ H' ⟨y8, y9, rfl, g⟩
        have hl' := g.1.t hl16
        have hpz' := g.1.t hpz16
        have T' := g.2
        simp only [tSeq, tAsg, gName, tOp, rI, rI0, rU, tUn, tVar, tC, tCB, tCons, tNil, tTest, tIfS, tRet, tRetN, tDrop, tNext, tBreak, tCont, rEq, rNe, CDiv, CDivN, CMul, tBM, tBM0, tTup, tLst, tAug, tIf, tAnd, tOr, tNot, tAndV, tOrV, tNotV, tIsN, tNotN, tB, scal, tCall, cxK, cxKn, rIxT, rIxL, rIn, rAppend, rReverse, tVals, tDSetd, tDGet, tDGet1, tDGet2, tDIn, tDNotIn, rSortV, rSortT, rPop, rSortL, rSortT, tSl, tNoPart, tPart, List.append_nil, L2.start, List.map_cons, List.map_nil, List.length_cons, List.length_nil, List.replicate_succ, List.replicate_zero, List.cons_append, List.nil_append, Nat.reduceAdd, Nat.reduceSub, exists_eq, exists_eq', List.getElem?_cons_zero, List.getElem?_cons_succ, List.set_cons_zero, List.set_cons_succ, Option.some.injEq, V.int.injEq, V.bl.injEq, V.str.injEq, V.ref.injEq, List.cons.injEq, and_true, true_and, and_false, false_and, reduceCtorEq, exists_false, or_false, false_or, exists_and_left, exists_and_right, exists_eq_left, exists_eq_left', exists_eq_right, exists_eq_right', exists_const, ite_true, ite_false, Bool.false_eq_true, if_true, if_false, decide_true, decide_false]
        refine cat_any hl' hl' (by omega) fun d Hd sd hd => ?_
        refine ⟨_, d, rfl, .inl ⟨k, xs ++ xs, rfl, .inl (tt hd), by rw [List.length_append]; omega, T'.ext sd, fun He ez ge hez => ?_⟩⟩
        refine eq_tups (tt hez) (tt (ge.1.t (sd _ _ hpz'))) ⟨small4000' (by decide), fun tq htq => ⟨_, .inr (tt upd_same), rfl, rfl, ite2 (fun hn => ⟨rfl, ?_⟩) (fun hn => ⟨_, .inr (tt (same_upd htq _ _ (ge.1.t (sd _ _ hl')))), rfl, ?_⟩)⟩⟩
        · have e : plainI k (xs ++ xs) = plainI k xs := (plain_dbl k xs).mpr (.inl (by cases k <;> first | exact ⟨by decide, by decide⟩ | exact absurd hn (by decide +kernel)))
          rw [decide_eq_true e, decide_eq_true rfl]
          exact q _
        · have hk : k = .list ∨ k = .bag := by
            cases k <;> first | exact .inl rfl | exact .inr rfl | exact absurd (by decide +kernel) hn
          have e : plainI k (xs ++ xs) = plainI k xs ↔ (((xs.map V.int).length : Nat) : Int) = 0 := by
            refine (plain_dbl k xs).trans ⟨fun h => ?_, fun h => ?_⟩
            · rcases h with ⟨h1, h2⟩ | h
              · rcases hk with hk | hk
                · exact absurd hk h1
                · exact absurd hk h2
              · rw [List.length_map]
                omega
            · rw [List.length_map] at h
              exact .inr (by omega)
          rw [decide_eq_decide.mpr e, decide_eq_true rfl]
          exact q _
end
end Mv

set_option Elab.async false
set_option linter.all false
set_option maxRecDepth 100000
set_option maxHeartbeats 8000000
namespace Mv
open PySem PySem.Spec PyProof.Rows L2
abbrev sIni : Stmt := inClass (topS 2) 0
theorem cal_of {CX : CXT} {P : Program} {w : World} {K : PySem.W.Frag} {mg : Str → Option Value} {base : Heap} {k : Nat} {x : Str} {st : Stmt} {f : Addr} {fd : FuncData} {ps : List Str} {sp : Sp} (F : Fun K x x st f fd) (hm : mg x = some (.ref f)) (b : Binds K fd ps []) (h : FnOk P w K mg base CX k f fd ps sp) : CalX CX P w K mg base k x sp := ⟨f, fd, ps, h, hm, F.kp, b⟩
theorem scIni : ScI (defScope sIni) "self" "name" := ⟨rfl, rfl, rfl, rfl, rfl, by decide +kernel, by decide +kernel, by decide +kernel, rfl, rfl⟩
theorem ok_bini {P : Program} {w : World} {K : PySem.W.Frag} {mg : Str → Option Value} {base : Heap} {f c cc C : Addr} {kV doc pm ct oc : Value} {an od : Option Addr} {osl : Array (Option Value)}
    (lk : K.lookup f = some ⟨oc, od, .func (PySem.W.ksFn "__init__" "BadKind.__init__" (defArgs sIni) (defBody sIni) (defScope sIni) .none kV doc pm an (.ref c) ct cc), osl⟩) (hcd : PySem.W.codeIn K (.ref c) "BadKind.__init__" = true) (U : SupK P K f c cc C) (hsup : mg "super" = none) (hno : PySem.W.findIn K (.ref C) "name" = some none) :
    FnOk P w K mg base CX0 1 f (PySem.W.ksFn "__init__" "BadKind.__init__" (defArgs sIni) (defBody sIni) (defScope sIni) .none kV doc pm an (.ref c) ct cc) ["self", "name"] (spIniB K C "name") :=
  ok_iniB (kn := 0) (head := "not the name of a kind: ") (fun _ => rfl) (fun _ => rfl) lk hcd scIni U hsup hno (by decide) rfl rfl (by decide) (by decide)
theorem bind_bini {K : PySem.W.Frag} {c cc : Addr} {kV doc pm ct : Value} {an : Option Addr} : Binds K (PySem.W.ksFn "__init__" "BadKind.__init__" (defArgs sIni) (defBody sIni) (defScope sIni) .none kV doc pm an (.ref c) ct cc) ["self", "name"] [] := .all fun us hl => match us, hl with | [_, _], _ => rfl
def clsOf (a b c d e f g h : Addr) : Kd → Addr
  | .list => a | .bag => b | .set => c | .first => d | .last => e | .ends => f | .heads => g | .tails => h
abbrev rwK : PySem.W.OpenLaw := PySem.Challenge.rw_movedstates_k01_kept_indexes_and_normal
theorem all_mk {w : World} {K : PySem.W.Frag} {h : Heap} {mg : Str → Option Value} {fa : Addr}
    {f_w_stream : Addr} {od_w_stream an_w_stream : Option Addr} {sl_w_stream : Array (Option Value)} {oc_w_stream kV_w_stream dc_w_stream pm_w_stream cd_w_stream ct_w_stream : Value}
    {f_w_draw : Addr} {od_w_draw an_w_draw : Option Addr} {sl_w_draw : Array (Option Value)} {oc_w_draw kV_w_draw dc_w_draw pm_w_draw cd_w_draw ct_w_draw : Value}
    {f_w_wide : Addr} {od_w_wide an_w_wide : Option Addr} {sl_w_wide : Array (Option Value)} {oc_w_wide kV_w_wide dc_w_wide pm_w_wide cd_w_wide ct_w_wide : Value}
    {f_w_kind : Addr} {od_w_kind an_w_kind : Option Addr} {sl_w_kind : Array (Option Value)} {oc_w_kind kV_w_kind dc_w_kind pm_w_kind cd_w_kind ct_w_kind : Value}
    {f_w_value : Addr} {od_w_value an_w_value : Option Addr} {sl_w_value : Array (Option Value)} {oc_w_value kV_w_value dc_w_value pm_w_value cd_w_value ct_w_value : Value}
    {f_w_word : Addr} {od_w_word an_w_word : Option Addr} {sl_w_word : Array (Option Value)} {oc_w_word kV_w_word dc_w_word pm_w_word cd_w_word ct_w_word : Value}
    {f_w_shaped : Addr} {od_w_shaped an_w_shaped : Option Addr} {sl_w_shaped : Array (Option Value)} {oc_w_shaped kV_w_shaped dc_w_shaped pm_w_shaped cd_w_shaped ct_w_shaped : Value}
    {f_w_kept : Addr} {od_w_kept an_w_kept : Option Addr} {sl_w_kept : Array (Option Value)} {oc_w_kept kV_w_kept dc_w_kept pm_w_kept cd_w_kept ct_w_kept : Value}
    {f_w_normal : Addr} {od_w_normal an_w_normal : Option Addr} {sl_w_normal : Array (Option Value)} {oc_w_normal kV_w_normal dc_w_normal pm_w_normal cd_w_normal ct_w_normal : Value}
    {f_w_made : Addr} {od_w_made an_w_made : Option Addr} {sl_w_made : Array (Option Value)} {oc_w_made kV_w_made dc_w_made pm_w_made cd_w_made ct_w_made : Value}
    {f_w_rules : Addr} {od_w_rules an_w_rules : Option Addr} {sl_w_rules : Array (Option Value)} {oc_w_rules kV_w_rules dc_w_rules pm_w_rules cd_w_rules ct_w_rules : Value}
    {f_w_classed : Addr} {od_w_classed an_w_classed : Option Addr} {sl_w_classed : Array (Option Value)} {oc_w_classed kV_w_classed dc_w_classed pm_w_classed cd_w_classed ct_w_classed : Value}
    {f_w_keeps : Addr} {od_w_keeps an_w_keeps : Option Addr} {sl_w_keeps : Array (Option Value)} {oc_w_keeps kV_w_keeps dc_w_keeps pm_w_keeps cd_w_keeps ct_w_keeps : Value}
    {f_law : Addr} {od_law an_law : Option Addr} {sl_law : Array (Option Value)} {oc_law kV_law dc_law pm_law cd_law ct_law : Value}
    {f_least_places : Addr} {od_least_places an_least_places : Option Addr} {sl_least_places : Array (Option Value)} {oc_least_places kV_least_places dc_least_places pm_least_places cd_least_places ct_least_places : Value}
    {f_greatest_places : Addr} {od_greatest_places an_greatest_places : Option Addr} {sl_greatest_places : Array (Option Value)} {oc_greatest_places kV_greatest_places dc_greatest_places pm_greatest_places cd_greatest_places ct_greatest_places : Value}
    {f_kind_named : Addr} {od_kind_named an_kind_named : Option Addr} {sl_kind_named : Array (Option Value)} {oc_kind_named kV_kind_named dc_kind_named pm_kind_named cd_kind_named ct_kind_named : Value}
    {f_plain_value : Addr} {od_plain_value an_plain_value : Option Addr} {sl_plain_value : Array (Option Value)} {oc_plain_value kV_plain_value dc_plain_value pm_plain_value cd_plain_value ct_plain_value : Value}
    {C_Kind : Addr}
    {nt_Kind : Tok} {r_Kind : Addr} {rod_Kind : Option Addr} {rsl_Kind : Array (Option Value)} {rn_Kind : Nat}
    {f_kO : Addr} {od_kO an_kO : Option Addr} {sl_kO : Array (Option Value)} {oc_kO kV_kO dc_kO pm_kO cd_kO ct_kO : Value}
    {C_BagKind : Addr}
    {nt_BagKind : Tok} {r_BagKind : Addr} {rod_BagKind : Option Addr} {rsl_BagKind : Array (Option Value)} {rn_BagKind : Nat} {rt0_BagKind : Tok}
    {f_kB : Addr} {od_kB an_kB : Option Addr} {sl_kB : Array (Option Value)} {oc_kB kV_kB dc_kB pm_kB ct_kB : Value}
    {C_SetKind : Addr}
    {nt_SetKind : Tok} {r_SetKind : Addr} {rod_SetKind : Option Addr} {rsl_SetKind : Array (Option Value)} {rn_SetKind : Nat} {rt0_SetKind rt1_SetKind : Tok}
    {f_kS : Addr} {od_kS an_kS : Option Addr} {sl_kS : Array (Option Value)} {oc_kS kV_kS dc_kS pm_kS cd_kS ct_kS : Value}
    {C_FirstKind : Addr}
    {nt_FirstKind : Tok} {r_FirstKind : Addr} {rod_FirstKind : Option Addr} {rsl_FirstKind : Array (Option Value)} {rn_FirstKind : Nat} {rt0_FirstKind : Tok}
    {f_kF : Addr} {od_kF an_kF : Option Addr} {sl_kF : Array (Option Value)} {oc_kF kV_kF dc_kF pm_kF cd_kF ct_kF : Value}
    {C_LastKind : Addr}
    {nt_LastKind : Tok} {r_LastKind : Addr} {rod_LastKind : Option Addr} {rsl_LastKind : Array (Option Value)} {rn_LastKind : Nat} {rt0_LastKind : Tok}
    {f_kL : Addr} {od_kL an_kL : Option Addr} {sl_kL : Array (Option Value)} {oc_kL kV_kL dc_kL pm_kL cd_kL ct_kL : Value}
    {C_EndsKind : Addr}
    {nt_EndsKind : Tok} {r_EndsKind : Addr} {rod_EndsKind : Option Addr} {rsl_EndsKind : Array (Option Value)} {rn_EndsKind : Nat} {rt0_EndsKind rt1_EndsKind : Tok}
    {f_kE : Addr} {od_kE an_kE : Option Addr} {sl_kE : Array (Option Value)} {oc_kE kV_kE dc_kE pm_kE cd_kE ct_kE : Value}
    {C_HeadsKind : Addr}
    {nt_HeadsKind : Tok} {r_HeadsKind : Addr} {rod_HeadsKind : Option Addr} {rsl_HeadsKind : Array (Option Value)} {rn_HeadsKind : Nat} {rt0_HeadsKind rt1_HeadsKind : Tok}
    {f_kH : Addr} {od_kH an_kH : Option Addr} {sl_kH : Array (Option Value)} {oc_kH kV_kH dc_kH pm_kH cd_kH ct_kH : Value}
    {C_TailsKind : Addr}
    {nt_TailsKind : Tok} {r_TailsKind : Addr} {rod_TailsKind : Option Addr} {rsl_TailsKind : Array (Option Value)} {rn_TailsKind : Nat} {rt0_TailsKind rt1_TailsKind : Tok}
    {f_kT : Addr} {od_kT an_kT : Option Addr} {sl_kT : Array (Option Value)} {oc_kT kV_kT dc_kT pm_kT cd_kT ct_kT : Value}
    {cB Pt : Addr}
    {f_pl : Addr} {od_pl an_pl : Option Addr} {sl_pl : Array (Option Value)} {oc_pl kV_pl dc_pl pm_pl cd_pl ct_pl : Value}
    {kn : Addr} {odN : Option Addr} {slN : Array (Option Value)} {nN : Nat} {t0 t1 t2 t3 t4 t5 t6 t7 : Tok}
    {CB : Addr} {nm q : Str} {NB : Addr} {bs : List Value} {bm : List Value} {sn : List Str} {sub : List Value} {ab : Bool} {col : Option Bool} {dd : Option Addr} {m0 m1 m2 m3 m5 : Option Value}
    {f_i c_i cc : Addr} {od_i an_i : Option Addr} {sl_i : Array (Option Value)} {oc_i kV_i dc_i pm_i ct_i : Value} {ccl : Value} {cdd : Option Addr} {vsC : Array Value} {ccs : Array (Option Value)} {file : Str} {tf : Tok} {cl : Value} {cld : Option Addr} {csl : Array (Option Value)} {cdB : ClassData}
    (X : K.In h) (G : h.Ns mainGlobals mg) (hfa : mg "law" = some (.ref fa)) (hPt : h.get? Pt = some { cls := .none, data := .fields #[] })
    (z_min : PySem.W.nsIn K mainGlobals "min" = some none)
    (z_len : PySem.W.nsIn K mainGlobals "len" = some none)
    (z_range : PySem.W.nsIn K mainGlobals "range" = some none)
    (z_enumerate : PySem.W.nsIn K mainGlobals "enumerate" = some none)
    (z_abs : PySem.W.nsIn K mainGlobals "abs" = some none)
    (z_int : PySem.W.nsIn K mainGlobals "int" = some none)
    (z_list : PySem.W.nsIn K mainGlobals "list" = some none)
    (z_tuple : PySem.W.nsIn K mainGlobals "tuple" = some none)
    (z_sorted : PySem.W.nsIn K mainGlobals "sorted" = some none)
    (z_isinstance : PySem.W.nsIn K mainGlobals "isinstance" = some none)
    (z_str : PySem.W.nsIn K mainGlobals "str" = some none)
    (z_bool : PySem.W.nsIn K mainGlobals "bool" = some none)
    (z_super : PySem.W.nsIn K mainGlobals "super" = some none)
    (z_ValueError : PySem.W.nsIn K mainGlobals "ValueError" = some none)
    (a_w_stream : PySem.W.nsIn K mainGlobals "_law_stream" = some (some (.ref f_w_stream)))
    (l_w_stream : K.lookup f_w_stream = some ⟨oc_w_stream, od_w_stream, .func (PySem.W.fnOf "_law_stream" "_law_stream" (defArgs sStream) (defBody sStream) (defScope sStream) .none kV_w_stream dc_w_stream pm_w_stream an_w_stream cd_w_stream ct_w_stream), sl_w_stream⟩)
    (c_w_stream : PySem.W.codeIn K cd_w_stream "_law_stream" = true)
    (k_w_stream : PySem.W.keepIn K (.ref f_w_stream) = true)
    (a_w_draw : PySem.W.nsIn K mainGlobals "_law_draw" = some (some (.ref f_w_draw)))
    (l_w_draw : K.lookup f_w_draw = some ⟨oc_w_draw, od_w_draw, .func (PySem.W.fnOf "_law_draw" "_law_draw" (defArgs sDraw) (defBody sDraw) (defScope sDraw) .none kV_w_draw dc_w_draw pm_w_draw an_w_draw cd_w_draw ct_w_draw), sl_w_draw⟩)
    (c_w_draw : PySem.W.codeIn K cd_w_draw "_law_draw" = true)
    (k_w_draw : PySem.W.keepIn K (.ref f_w_draw) = true)
    (a_w_wide : PySem.W.nsIn K mainGlobals "_law_wide" = some (some (.ref f_w_wide)))
    (l_w_wide : K.lookup f_w_wide = some ⟨oc_w_wide, od_w_wide, .func (PySem.W.fnOf "_law_wide" "_law_wide" (defArgs sWide) (defBody sWide) (defScope sWide) .none kV_w_wide dc_w_wide pm_w_wide an_w_wide cd_w_wide ct_w_wide), sl_w_wide⟩)
    (c_w_wide : PySem.W.codeIn K cd_w_wide "_law_wide" = true)
    (k_w_wide : PySem.W.keepIn K (.ref f_w_wide) = true)
    (a_w_kind : PySem.W.nsIn K mainGlobals "_law_kind" = some (some (.ref f_w_kind)))
    (l_w_kind : K.lookup f_w_kind = some ⟨oc_w_kind, od_w_kind, .func (PySem.W.fnOf "_law_kind" "_law_kind" (defArgs sKind) (defBody sKind) (defScope sKind) .none kV_w_kind dc_w_kind pm_w_kind an_w_kind cd_w_kind ct_w_kind), sl_w_kind⟩)
    (c_w_kind : PySem.W.codeIn K cd_w_kind "_law_kind" = true)
    (k_w_kind : PySem.W.keepIn K (.ref f_w_kind) = true)
    (a_w_value : PySem.W.nsIn K mainGlobals "_law_value" = some (some (.ref f_w_value)))
    (l_w_value : K.lookup f_w_value = some ⟨oc_w_value, od_w_value, .func (PySem.W.fnOf "_law_value" "_law_value" (defArgs sValue) (defBody sValue) (defScope sValue) .none kV_w_value dc_w_value pm_w_value an_w_value cd_w_value ct_w_value), sl_w_value⟩)
    (c_w_value : PySem.W.codeIn K cd_w_value "_law_value" = true)
    (k_w_value : PySem.W.keepIn K (.ref f_w_value) = true)
    (a_w_word : PySem.W.nsIn K mainGlobals "_law_word" = some (some (.ref f_w_word)))
    (l_w_word : K.lookup f_w_word = some ⟨oc_w_word, od_w_word, .func (PySem.W.fnOf "_law_word" "_law_word" (defArgs sWord) (defBody sWord) (defScope sWord) .none kV_w_word dc_w_word pm_w_word an_w_word cd_w_word ct_w_word), sl_w_word⟩)
    (c_w_word : PySem.W.codeIn K cd_w_word "_law_word" = true)
    (k_w_word : PySem.W.keepIn K (.ref f_w_word) = true)
    (a_w_shaped : PySem.W.nsIn K mainGlobals "_law_shaped" = some (some (.ref f_w_shaped)))
    (l_w_shaped : K.lookup f_w_shaped = some ⟨oc_w_shaped, od_w_shaped, .func (PySem.W.fnOf "_law_shaped" "_law_shaped" (defArgs sShaped) (defBody sShaped) (defScope sShaped) .none kV_w_shaped dc_w_shaped pm_w_shaped an_w_shaped cd_w_shaped ct_w_shaped), sl_w_shaped⟩)
    (c_w_shaped : PySem.W.codeIn K cd_w_shaped "_law_shaped" = true)
    (k_w_shaped : PySem.W.keepIn K (.ref f_w_shaped) = true)
    (a_w_kept : PySem.W.nsIn K mainGlobals "_law_kept" = some (some (.ref f_w_kept)))
    (l_w_kept : K.lookup f_w_kept = some ⟨oc_w_kept, od_w_kept, .func (PySem.W.fnOf "_law_kept" "_law_kept" (defArgs sKept) (defBody sKept) (defScope sKept) .none kV_w_kept dc_w_kept pm_w_kept an_w_kept cd_w_kept ct_w_kept), sl_w_kept⟩)
    (c_w_kept : PySem.W.codeIn K cd_w_kept "_law_kept" = true)
    (k_w_kept : PySem.W.keepIn K (.ref f_w_kept) = true)
    (a_w_normal : PySem.W.nsIn K mainGlobals "_law_normal" = some (some (.ref f_w_normal)))
    (l_w_normal : K.lookup f_w_normal = some ⟨oc_w_normal, od_w_normal, .func (PySem.W.fnOf "_law_normal" "_law_normal" (defArgs sNormal) (defBody sNormal) (defScope sNormal) .none kV_w_normal dc_w_normal pm_w_normal an_w_normal cd_w_normal ct_w_normal), sl_w_normal⟩)
    (c_w_normal : PySem.W.codeIn K cd_w_normal "_law_normal" = true)
    (k_w_normal : PySem.W.keepIn K (.ref f_w_normal) = true)
    (a_w_made : PySem.W.nsIn K mainGlobals "_law_made" = some (some (.ref f_w_made)))
    (l_w_made : K.lookup f_w_made = some ⟨oc_w_made, od_w_made, .func (PySem.W.fnOf "_law_made" "_law_made" (defArgs sMade) (defBody sMade) (defScope sMade) .none kV_w_made dc_w_made pm_w_made an_w_made cd_w_made ct_w_made), sl_w_made⟩)
    (c_w_made : PySem.W.codeIn K cd_w_made "_law_made" = true)
    (k_w_made : PySem.W.keepIn K (.ref f_w_made) = true)
    (a_w_rules : PySem.W.nsIn K mainGlobals "_law_rules" = some (some (.ref f_w_rules)))
    (l_w_rules : K.lookup f_w_rules = some ⟨oc_w_rules, od_w_rules, .func (PySem.W.fnOf "_law_rules" "_law_rules" (defArgs sRules) (defBody sRules) (defScope sRules) .none kV_w_rules dc_w_rules pm_w_rules an_w_rules cd_w_rules ct_w_rules), sl_w_rules⟩)
    (c_w_rules : PySem.W.codeIn K cd_w_rules "_law_rules" = true)
    (k_w_rules : PySem.W.keepIn K (.ref f_w_rules) = true)
    (a_w_classed : PySem.W.nsIn K mainGlobals "_law_classed" = some (some (.ref f_w_classed)))
    (l_w_classed : K.lookup f_w_classed = some ⟨oc_w_classed, od_w_classed, .func (PySem.W.fnOf "_law_classed" "_law_classed" (defArgs sClassed) (defBody sClassed) (defScope sClassed) .none kV_w_classed dc_w_classed pm_w_classed an_w_classed cd_w_classed ct_w_classed), sl_w_classed⟩)
    (c_w_classed : PySem.W.codeIn K cd_w_classed "_law_classed" = true)
    (k_w_classed : PySem.W.keepIn K (.ref f_w_classed) = true)
    (a_w_keeps : PySem.W.nsIn K mainGlobals "_law_keeps" = some (some (.ref f_w_keeps)))
    (l_w_keeps : K.lookup f_w_keeps = some ⟨oc_w_keeps, od_w_keeps, .func (PySem.W.fnOf "_law_keeps" "_law_keeps" (defArgs sKeeps) (defBody sKeeps) (defScope sKeeps) .none kV_w_keeps dc_w_keeps pm_w_keeps an_w_keeps cd_w_keeps ct_w_keeps), sl_w_keeps⟩)
    (c_w_keeps : PySem.W.codeIn K cd_w_keeps "_law_keeps" = true)
    (k_w_keeps : PySem.W.keepIn K (.ref f_w_keeps) = true)
    (a_law : PySem.W.nsIn K mainGlobals "law" = some (some (.ref f_law)))
    (l_law : K.lookup f_law = some ⟨oc_law, od_law, .func (PySem.W.fnOf "law" "law" (defArgs sLaw) (defBody sLaw) (defScope sLaw) .none kV_law dc_law pm_law an_law cd_law ct_law), sl_law⟩)
    (c_law : PySem.W.codeIn K cd_law "law" = true)
    (k_law : PySem.W.keepIn K (.ref f_law) = true)
    (a_least_places : PySem.W.nsIn K mainGlobals "least_places" = some (some (.ref f_least_places)))
    (l_least_places : K.lookup f_least_places = some ⟨oc_least_places, od_least_places, .func (PySem.W.fnOf "least_places" "least_places" (defArgs sLeast) (defBody sLeast) (defScope sLeast) .none kV_least_places dc_least_places pm_least_places an_least_places cd_least_places ct_least_places), sl_least_places⟩)
    (c_least_places : PySem.W.codeIn K cd_least_places "least_places" = true)
    (k_least_places : PySem.W.keepIn K (.ref f_least_places) = true)
    (a_greatest_places : PySem.W.nsIn K mainGlobals "greatest_places" = some (some (.ref f_greatest_places)))
    (l_greatest_places : K.lookup f_greatest_places = some ⟨oc_greatest_places, od_greatest_places, .func (PySem.W.fnOf "greatest_places" "greatest_places" (defArgs sGreat) (defBody sGreat) (defScope sGreat) .none kV_greatest_places dc_greatest_places pm_greatest_places an_greatest_places cd_greatest_places ct_greatest_places), sl_greatest_places⟩)
    (c_greatest_places : PySem.W.codeIn K cd_greatest_places "greatest_places" = true)
    (k_greatest_places : PySem.W.keepIn K (.ref f_greatest_places) = true)
    (a_kind_named : PySem.W.nsIn K mainGlobals "kind_named" = some (some (.ref f_kind_named)))
    (l_kind_named : K.lookup f_kind_named = some ⟨oc_kind_named, od_kind_named, .func (PySem.W.fnOf "kind_named" "kind_named" (defArgs sKN) (defBody sKN) (defScope sKN) .none kV_kind_named dc_kind_named pm_kind_named an_kind_named cd_kind_named ct_kind_named), sl_kind_named⟩)
    (c_kind_named : PySem.W.codeIn K cd_kind_named "kind_named" = true)
    (k_kind_named : PySem.W.keepIn K (.ref f_kind_named) = true)
    (a_plain_value : PySem.W.nsIn K mainGlobals "plain_value" = some (some (.ref f_plain_value)))
    (l_plain_value : K.lookup f_plain_value = some ⟨oc_plain_value, od_plain_value, .func (PySem.W.fnOf "plain_value" "plain_value" (defArgs sPV) (defBody sPV) (defScope sPV) .none kV_plain_value dc_plain_value pm_plain_value an_plain_value cd_plain_value ct_plain_value), sl_plain_value⟩)
    (c_plain_value : PySem.W.codeIn K cd_plain_value "plain_value" = true)
    (k_plain_value : PySem.W.keepIn K (.ref f_plain_value) = true)
    (a_Kind : PySem.W.nsIn K mainGlobals "Kind" = some (some (.ref C_Kind)))
    (mk_Kind : PySem.W.makesIn K C_Kind = true)
    (in_Kind : PySem.W.findIn K (.ref C_Kind) "__init__" = some (some (.builtin "object.__init__")))
    (tp_Kind : PySem.W.mroIn K C_Kind (.type "object") = some true)
    (kc_Kind : PySem.W.keepIn K (.ref C_Kind) = true)
    (pg_Kind : PySem.W.plainGet K C_Kind Str.empty = true)
    (hd_Kind : PySem.W.hasDictIn K C_Kind = true)
    (po_Kind : PySem.W.plainOver K C_Kind = true)
    (sa_Kind : PySem.W.findIn K (.ref C_Kind) "__setattr__" = some (some (.builtin "object.__setattr__")))
    (qn_Kind : PySem.W.findIn K (.ref C_Kind) "NAME" = some (some (.str "list" nt_Kind)))
    (qng_Kind : PySem.W.specialIn K (.str "list" nt_Kind) "__get__" = some none)
    (qr_Kind : PySem.W.findIn K (.ref C_Kind) "RULES" = some (some (.ref r_Kind)))
    (qrg_Kind : PySem.W.specialIn K (.ref r_Kind) "__get__" = some none)
    (qrl_Kind : K.lookup r_Kind = some ⟨.type "tuple", rod_Kind, .seq #[] rn_Kind, rsl_Kind⟩)
    (qid_Kind : PySem.W.findIn K (.ref C_Kind) "IDEMPOTENT" = some (some (.bool false)))
    (qor_Kind : PySem.W.findIn K (.ref C_Kind) "ORDERLESS" = some (some (.bool false)))
    (qpl_Kind : PySem.W.findIn K (.ref C_Kind) "PLACED" = some (some (.bool true)))
    (qou_Kind : PySem.W.findIn K (.ref C_Kind) "OUTER" = some (some (.bool false)))
    (qhc_Kind : PySem.W.findIn K (.ref C_Kind) "__class__" = some (some (.builtin "object.__class__")))
    (a_kO : PySem.W.findIn K (.ref C_Kind) "keep" = some (some (.ref f_kO)))
    (i_kO : PySem.W.isFn K (.ref f_kO) = true)
    (l_kO : K.lookup f_kO = some ⟨oc_kO, od_kO, .func (PySem.W.fnOf "keep" "Kind.keep" (defArgs sKeepO) (defBody sKeepO) (defScope sKeepO) .none kV_kO dc_kO pm_kO an_kO cd_kO ct_kO), sl_kO⟩)
    (c_kO : PySem.W.codeIn K cd_kO "Kind.keep" = true)
    (k_kO : PySem.W.keepIn K (.ref f_kO) = true)
    (a_BagKind : PySem.W.nsIn K mainGlobals "BagKind" = some (some (.ref C_BagKind)))
    (mk_BagKind : PySem.W.makesIn K C_BagKind = true)
    (in_BagKind : PySem.W.findIn K (.ref C_BagKind) "__init__" = some (some (.builtin "object.__init__")))
    (tp_BagKind : PySem.W.mroIn K C_BagKind (.type "object") = some true)
    (kc_BagKind : PySem.W.keepIn K (.ref C_BagKind) = true)
    (pg_BagKind : PySem.W.plainGet K C_BagKind Str.empty = true)
    (hd_BagKind : PySem.W.hasDictIn K C_BagKind = true)
    (po_BagKind : PySem.W.plainOver K C_BagKind = true)
    (sa_BagKind : PySem.W.findIn K (.ref C_BagKind) "__setattr__" = some (some (.builtin "object.__setattr__")))
    (qn_BagKind : PySem.W.findIn K (.ref C_BagKind) "NAME" = some (some (.str "bag" nt_BagKind)))
    (qng_BagKind : PySem.W.specialIn K (.str "bag" nt_BagKind) "__get__" = some none)
    (qr_BagKind : PySem.W.findIn K (.ref C_BagKind) "RULES" = some (some (.ref r_BagKind)))
    (qrg_BagKind : PySem.W.specialIn K (.ref r_BagKind) "__get__" = some none)
    (qrl_BagKind : K.lookup r_BagKind = some ⟨.type "tuple", rod_BagKind, .seq #[.str "12=21" rt0_BagKind] rn_BagKind, rsl_BagKind⟩)
    (qid_BagKind : PySem.W.findIn K (.ref C_BagKind) "IDEMPOTENT" = some (some (.bool false)))
    (qor_BagKind : PySem.W.findIn K (.ref C_BagKind) "ORDERLESS" = some (some (.bool true)))
    (qpl_BagKind : PySem.W.findIn K (.ref C_BagKind) "PLACED" = some (some (.bool false)))
    (qou_BagKind : PySem.W.findIn K (.ref C_BagKind) "OUTER" = some (some (.bool false)))
    (qhc_BagKind : PySem.W.findIn K (.ref C_BagKind) "__class__" = some (some (.builtin "object.__class__")))
    (a_kB : PySem.W.findIn K (.ref C_BagKind) "keep" = some (some (.ref f_kB)))
    (i_kB : PySem.W.isFn K (.ref f_kB) = true)
    (l_kB : K.lookup f_kB = some ⟨oc_kB, od_kB, .func (PySem.W.fnOf "keep" "BagKind.keep" (defArgs sKeepB) (defBody sKeepB) (defScope sKeepB) .none kV_kB dc_kB pm_kB an_kB (.ref cB) ct_kB), sl_kB⟩)
    (c_kB : PySem.W.codeIn K (.ref cB) "BagKind.keep" = true)
    (k_kB : PySem.W.keepIn K (.ref f_kB) = true)
    (a_SetKind : PySem.W.nsIn K mainGlobals "SetKind" = some (some (.ref C_SetKind)))
    (mk_SetKind : PySem.W.makesIn K C_SetKind = true)
    (in_SetKind : PySem.W.findIn K (.ref C_SetKind) "__init__" = some (some (.builtin "object.__init__")))
    (tp_SetKind : PySem.W.mroIn K C_SetKind (.type "object") = some true)
    (kc_SetKind : PySem.W.keepIn K (.ref C_SetKind) = true)
    (pg_SetKind : PySem.W.plainGet K C_SetKind Str.empty = true)
    (hd_SetKind : PySem.W.hasDictIn K C_SetKind = true)
    (po_SetKind : PySem.W.plainOver K C_SetKind = true)
    (sa_SetKind : PySem.W.findIn K (.ref C_SetKind) "__setattr__" = some (some (.builtin "object.__setattr__")))
    (qn_SetKind : PySem.W.findIn K (.ref C_SetKind) "NAME" = some (some (.str "set" nt_SetKind)))
    (qng_SetKind : PySem.W.specialIn K (.str "set" nt_SetKind) "__get__" = some none)
    (qr_SetKind : PySem.W.findIn K (.ref C_SetKind) "RULES" = some (some (.ref r_SetKind)))
    (qrg_SetKind : PySem.W.specialIn K (.ref r_SetKind) "__get__" = some none)
    (qrl_SetKind : K.lookup r_SetKind = some ⟨.type "tuple", rod_SetKind, .seq #[.str "12=21" rt0_SetKind, .str "11=1" rt1_SetKind] rn_SetKind, rsl_SetKind⟩)
    (qid_SetKind : PySem.W.findIn K (.ref C_SetKind) "IDEMPOTENT" = some (some (.bool true)))
    (qor_SetKind : PySem.W.findIn K (.ref C_SetKind) "ORDERLESS" = some (some (.bool true)))
    (qpl_SetKind : PySem.W.findIn K (.ref C_SetKind) "PLACED" = some (some (.bool false)))
    (qou_SetKind : PySem.W.findIn K (.ref C_SetKind) "OUTER" = some (some (.bool false)))
    (qhc_SetKind : PySem.W.findIn K (.ref C_SetKind) "__class__" = some (some (.builtin "object.__class__")))
    (a_kS : PySem.W.findIn K (.ref C_SetKind) "keep" = some (some (.ref f_kS)))
    (i_kS : PySem.W.isFn K (.ref f_kS) = true)
    (l_kS : K.lookup f_kS = some ⟨oc_kS, od_kS, .func (PySem.W.fnOf "keep" "SetKind.keep" (defArgs sKeepS) (defBody sKeepS) (defScope sKeepS) .none kV_kS dc_kS pm_kS an_kS cd_kS ct_kS), sl_kS⟩)
    (c_kS : PySem.W.codeIn K cd_kS "SetKind.keep" = true)
    (k_kS : PySem.W.keepIn K (.ref f_kS) = true)
    (a_FirstKind : PySem.W.nsIn K mainGlobals "FirstKind" = some (some (.ref C_FirstKind)))
    (mk_FirstKind : PySem.W.makesIn K C_FirstKind = true)
    (in_FirstKind : PySem.W.findIn K (.ref C_FirstKind) "__init__" = some (some (.builtin "object.__init__")))
    (tp_FirstKind : PySem.W.mroIn K C_FirstKind (.type "object") = some true)
    (kc_FirstKind : PySem.W.keepIn K (.ref C_FirstKind) = true)
    (pg_FirstKind : PySem.W.plainGet K C_FirstKind Str.empty = true)
    (hd_FirstKind : PySem.W.hasDictIn K C_FirstKind = true)
    (po_FirstKind : PySem.W.plainOver K C_FirstKind = true)
    (sa_FirstKind : PySem.W.findIn K (.ref C_FirstKind) "__setattr__" = some (some (.builtin "object.__setattr__")))
    (qn_FirstKind : PySem.W.findIn K (.ref C_FirstKind) "NAME" = some (some (.str "first" nt_FirstKind)))
    (qng_FirstKind : PySem.W.specialIn K (.str "first" nt_FirstKind) "__get__" = some none)
    (qr_FirstKind : PySem.W.findIn K (.ref C_FirstKind) "RULES" = some (some (.ref r_FirstKind)))
    (qrg_FirstKind : PySem.W.specialIn K (.ref r_FirstKind) "__get__" = some none)
    (qrl_FirstKind : K.lookup r_FirstKind = some ⟨.type "tuple", rod_FirstKind, .seq #[.str "12=1" rt0_FirstKind] rn_FirstKind, rsl_FirstKind⟩)
    (qid_FirstKind : PySem.W.findIn K (.ref C_FirstKind) "IDEMPOTENT" = some (some (.bool true)))
    (qor_FirstKind : PySem.W.findIn K (.ref C_FirstKind) "ORDERLESS" = some (some (.bool false)))
    (qpl_FirstKind : PySem.W.findIn K (.ref C_FirstKind) "PLACED" = some (some (.bool false)))
    (qou_FirstKind : PySem.W.findIn K (.ref C_FirstKind) "OUTER" = some (some (.bool true)))
    (qhc_FirstKind : PySem.W.findIn K (.ref C_FirstKind) "__class__" = some (some (.builtin "object.__class__")))
    (a_kF : PySem.W.findIn K (.ref C_FirstKind) "keep" = some (some (.ref f_kF)))
    (i_kF : PySem.W.isFn K (.ref f_kF) = true)
    (l_kF : K.lookup f_kF = some ⟨oc_kF, od_kF, .func (PySem.W.fnOf "keep" "FirstKind.keep" (defArgs sKeepF) (defBody sKeepF) (defScope sKeepF) .none kV_kF dc_kF pm_kF an_kF cd_kF ct_kF), sl_kF⟩)
    (c_kF : PySem.W.codeIn K cd_kF "FirstKind.keep" = true)
    (k_kF : PySem.W.keepIn K (.ref f_kF) = true)
    (a_LastKind : PySem.W.nsIn K mainGlobals "LastKind" = some (some (.ref C_LastKind)))
    (mk_LastKind : PySem.W.makesIn K C_LastKind = true)
    (in_LastKind : PySem.W.findIn K (.ref C_LastKind) "__init__" = some (some (.builtin "object.__init__")))
    (tp_LastKind : PySem.W.mroIn K C_LastKind (.type "object") = some true)
    (kc_LastKind : PySem.W.keepIn K (.ref C_LastKind) = true)
    (pg_LastKind : PySem.W.plainGet K C_LastKind Str.empty = true)
    (hd_LastKind : PySem.W.hasDictIn K C_LastKind = true)
    (po_LastKind : PySem.W.plainOver K C_LastKind = true)
    (sa_LastKind : PySem.W.findIn K (.ref C_LastKind) "__setattr__" = some (some (.builtin "object.__setattr__")))
    (qn_LastKind : PySem.W.findIn K (.ref C_LastKind) "NAME" = some (some (.str "last" nt_LastKind)))
    (qng_LastKind : PySem.W.specialIn K (.str "last" nt_LastKind) "__get__" = some none)
    (qr_LastKind : PySem.W.findIn K (.ref C_LastKind) "RULES" = some (some (.ref r_LastKind)))
    (qrg_LastKind : PySem.W.specialIn K (.ref r_LastKind) "__get__" = some none)
    (qrl_LastKind : K.lookup r_LastKind = some ⟨.type "tuple", rod_LastKind, .seq #[.str "12=2" rt0_LastKind] rn_LastKind, rsl_LastKind⟩)
    (qid_LastKind : PySem.W.findIn K (.ref C_LastKind) "IDEMPOTENT" = some (some (.bool true)))
    (qor_LastKind : PySem.W.findIn K (.ref C_LastKind) "ORDERLESS" = some (some (.bool false)))
    (qpl_LastKind : PySem.W.findIn K (.ref C_LastKind) "PLACED" = some (some (.bool false)))
    (qou_LastKind : PySem.W.findIn K (.ref C_LastKind) "OUTER" = some (some (.bool true)))
    (qhc_LastKind : PySem.W.findIn K (.ref C_LastKind) "__class__" = some (some (.builtin "object.__class__")))
    (a_kL : PySem.W.findIn K (.ref C_LastKind) "keep" = some (some (.ref f_kL)))
    (i_kL : PySem.W.isFn K (.ref f_kL) = true)
    (l_kL : K.lookup f_kL = some ⟨oc_kL, od_kL, .func (PySem.W.fnOf "keep" "LastKind.keep" (defArgs sKeepL) (defBody sKeepL) (defScope sKeepL) .none kV_kL dc_kL pm_kL an_kL cd_kL ct_kL), sl_kL⟩)
    (c_kL : PySem.W.codeIn K cd_kL "LastKind.keep" = true)
    (k_kL : PySem.W.keepIn K (.ref f_kL) = true)
    (a_EndsKind : PySem.W.nsIn K mainGlobals "EndsKind" = some (some (.ref C_EndsKind)))
    (mk_EndsKind : PySem.W.makesIn K C_EndsKind = true)
    (in_EndsKind : PySem.W.findIn K (.ref C_EndsKind) "__init__" = some (some (.builtin "object.__init__")))
    (tp_EndsKind : PySem.W.mroIn K C_EndsKind (.type "object") = some true)
    (kc_EndsKind : PySem.W.keepIn K (.ref C_EndsKind) = true)
    (pg_EndsKind : PySem.W.plainGet K C_EndsKind Str.empty = true)
    (hd_EndsKind : PySem.W.hasDictIn K C_EndsKind = true)
    (po_EndsKind : PySem.W.plainOver K C_EndsKind = true)
    (sa_EndsKind : PySem.W.findIn K (.ref C_EndsKind) "__setattr__" = some (some (.builtin "object.__setattr__")))
    (qn_EndsKind : PySem.W.findIn K (.ref C_EndsKind) "NAME" = some (some (.str "ends" nt_EndsKind)))
    (qng_EndsKind : PySem.W.specialIn K (.str "ends" nt_EndsKind) "__get__" = some none)
    (qr_EndsKind : PySem.W.findIn K (.ref C_EndsKind) "RULES" = some (some (.ref r_EndsKind)))
    (qrg_EndsKind : PySem.W.specialIn K (.ref r_EndsKind) "__get__" = some none)
    (qrl_EndsKind : K.lookup r_EndsKind = some ⟨.type "tuple", rod_EndsKind, .seq #[.str "11=1" rt0_EndsKind, .str "123=13" rt1_EndsKind] rn_EndsKind, rsl_EndsKind⟩)
    (qid_EndsKind : PySem.W.findIn K (.ref C_EndsKind) "IDEMPOTENT" = some (some (.bool true)))
    (qor_EndsKind : PySem.W.findIn K (.ref C_EndsKind) "ORDERLESS" = some (some (.bool false)))
    (qpl_EndsKind : PySem.W.findIn K (.ref C_EndsKind) "PLACED" = some (some (.bool false)))
    (qou_EndsKind : PySem.W.findIn K (.ref C_EndsKind) "OUTER" = some (some (.bool true)))
    (qhc_EndsKind : PySem.W.findIn K (.ref C_EndsKind) "__class__" = some (some (.builtin "object.__class__")))
    (a_kE : PySem.W.findIn K (.ref C_EndsKind) "keep" = some (some (.ref f_kE)))
    (i_kE : PySem.W.isFn K (.ref f_kE) = true)
    (l_kE : K.lookup f_kE = some ⟨oc_kE, od_kE, .func (PySem.W.fnOf "keep" "EndsKind.keep" (defArgs sKeepE) (defBody sKeepE) (defScope sKeepE) .none kV_kE dc_kE pm_kE an_kE cd_kE ct_kE), sl_kE⟩)
    (c_kE : PySem.W.codeIn K cd_kE "EndsKind.keep" = true)
    (k_kE : PySem.W.keepIn K (.ref f_kE) = true)
    (a_HeadsKind : PySem.W.nsIn K mainGlobals "HeadsKind" = some (some (.ref C_HeadsKind)))
    (mk_HeadsKind : PySem.W.makesIn K C_HeadsKind = true)
    (in_HeadsKind : PySem.W.findIn K (.ref C_HeadsKind) "__init__" = some (some (.builtin "object.__init__")))
    (tp_HeadsKind : PySem.W.mroIn K C_HeadsKind (.type "object") = some true)
    (kc_HeadsKind : PySem.W.keepIn K (.ref C_HeadsKind) = true)
    (pg_HeadsKind : PySem.W.plainGet K C_HeadsKind Str.empty = true)
    (hd_HeadsKind : PySem.W.hasDictIn K C_HeadsKind = true)
    (po_HeadsKind : PySem.W.plainOver K C_HeadsKind = true)
    (sa_HeadsKind : PySem.W.findIn K (.ref C_HeadsKind) "__setattr__" = some (some (.builtin "object.__setattr__")))
    (qn_HeadsKind : PySem.W.findIn K (.ref C_HeadsKind) "NAME" = some (some (.str "heads" nt_HeadsKind)))
    (qng_HeadsKind : PySem.W.specialIn K (.str "heads" nt_HeadsKind) "__get__" = some none)
    (qr_HeadsKind : PySem.W.findIn K (.ref C_HeadsKind) "RULES" = some (some (.ref r_HeadsKind)))
    (qrg_HeadsKind : PySem.W.specialIn K (.ref r_HeadsKind) "__get__" = some none)
    (qrl_HeadsKind : K.lookup r_HeadsKind = some ⟨.type "tuple", rod_HeadsKind, .seq #[.str "11=1" rt0_HeadsKind, .str "121=12" rt1_HeadsKind] rn_HeadsKind, rsl_HeadsKind⟩)
    (qid_HeadsKind : PySem.W.findIn K (.ref C_HeadsKind) "IDEMPOTENT" = some (some (.bool true)))
    (qor_HeadsKind : PySem.W.findIn K (.ref C_HeadsKind) "ORDERLESS" = some (some (.bool false)))
    (qpl_HeadsKind : PySem.W.findIn K (.ref C_HeadsKind) "PLACED" = some (some (.bool true)))
    (qou_HeadsKind : PySem.W.findIn K (.ref C_HeadsKind) "OUTER" = some (some (.bool false)))
    (qhc_HeadsKind : PySem.W.findIn K (.ref C_HeadsKind) "__class__" = some (some (.builtin "object.__class__")))
    (a_kH : PySem.W.findIn K (.ref C_HeadsKind) "keep" = some (some (.ref f_kH)))
    (i_kH : PySem.W.isFn K (.ref f_kH) = true)
    (l_kH : K.lookup f_kH = some ⟨oc_kH, od_kH, .func (PySem.W.fnOf "keep" "HeadsKind.keep" (defArgs sKeepH) (defBody sKeepH) (defScope sKeepH) .none kV_kH dc_kH pm_kH an_kH cd_kH ct_kH), sl_kH⟩)
    (c_kH : PySem.W.codeIn K cd_kH "HeadsKind.keep" = true)
    (k_kH : PySem.W.keepIn K (.ref f_kH) = true)
    (a_TailsKind : PySem.W.nsIn K mainGlobals "TailsKind" = some (some (.ref C_TailsKind)))
    (mk_TailsKind : PySem.W.makesIn K C_TailsKind = true)
    (in_TailsKind : PySem.W.findIn K (.ref C_TailsKind) "__init__" = some (some (.builtin "object.__init__")))
    (tp_TailsKind : PySem.W.mroIn K C_TailsKind (.type "object") = some true)
    (kc_TailsKind : PySem.W.keepIn K (.ref C_TailsKind) = true)
    (pg_TailsKind : PySem.W.plainGet K C_TailsKind Str.empty = true)
    (hd_TailsKind : PySem.W.hasDictIn K C_TailsKind = true)
    (po_TailsKind : PySem.W.plainOver K C_TailsKind = true)
    (sa_TailsKind : PySem.W.findIn K (.ref C_TailsKind) "__setattr__" = some (some (.builtin "object.__setattr__")))
    (qn_TailsKind : PySem.W.findIn K (.ref C_TailsKind) "NAME" = some (some (.str "tails" nt_TailsKind)))
    (qng_TailsKind : PySem.W.specialIn K (.str "tails" nt_TailsKind) "__get__" = some none)
    (qr_TailsKind : PySem.W.findIn K (.ref C_TailsKind) "RULES" = some (some (.ref r_TailsKind)))
    (qrg_TailsKind : PySem.W.specialIn K (.ref r_TailsKind) "__get__" = some none)
    (qrl_TailsKind : K.lookup r_TailsKind = some ⟨.type "tuple", rod_TailsKind, .seq #[.str "11=1" rt0_TailsKind, .str "121=21" rt1_TailsKind] rn_TailsKind, rsl_TailsKind⟩)
    (qid_TailsKind : PySem.W.findIn K (.ref C_TailsKind) "IDEMPOTENT" = some (some (.bool true)))
    (qor_TailsKind : PySem.W.findIn K (.ref C_TailsKind) "ORDERLESS" = some (some (.bool false)))
    (qpl_TailsKind : PySem.W.findIn K (.ref C_TailsKind) "PLACED" = some (some (.bool true)))
    (qou_TailsKind : PySem.W.findIn K (.ref C_TailsKind) "OUTER" = some (some (.bool false)))
    (qhc_TailsKind : PySem.W.findIn K (.ref C_TailsKind) "__class__" = some (some (.builtin "object.__class__")))
    (a_kT : PySem.W.findIn K (.ref C_TailsKind) "keep" = some (some (.ref f_kT)))
    (i_kT : PySem.W.isFn K (.ref f_kT) = true)
    (l_kT : K.lookup f_kT = some ⟨oc_kT, od_kT, .func (PySem.W.fnOf "keep" "TailsKind.keep" (defArgs sKeepT) (defBody sKeepT) (defScope sKeepT) .none kV_kT dc_kT pm_kT an_kT cd_kT ct_kT), sl_kT⟩)
    (c_kT : PySem.W.codeIn K cd_kT "TailsKind.keep" = true)
    (k_kT : PySem.W.keepIn K (.ref f_kT) = true)
    (qkB_Kind : PySem.W.kitOne K (.ref C_Kind) (.ref C_BagKind) = some false)
    (qkH_Kind : PySem.W.kitOne K (.ref C_Kind) (.ref C_HeadsKind) = some false)
    (qkT_Kind : PySem.W.kitOne K (.ref C_Kind) (.ref C_TailsKind) = some false)
    (qkK_Kind : PySem.W.kitOne K (.ref C_Kind) (.ref C_Kind) = some true)
    (qkB_BagKind : PySem.W.kitOne K (.ref C_BagKind) (.ref C_BagKind) = some true)
    (qkH_BagKind : PySem.W.kitOne K (.ref C_BagKind) (.ref C_HeadsKind) = some false)
    (qkT_BagKind : PySem.W.kitOne K (.ref C_BagKind) (.ref C_TailsKind) = some false)
    (qkK_BagKind : PySem.W.kitOne K (.ref C_BagKind) (.ref C_Kind) = some true)
    (qkB_SetKind : PySem.W.kitOne K (.ref C_SetKind) (.ref C_BagKind) = some true)
    (qkH_SetKind : PySem.W.kitOne K (.ref C_SetKind) (.ref C_HeadsKind) = some false)
    (qkT_SetKind : PySem.W.kitOne K (.ref C_SetKind) (.ref C_TailsKind) = some false)
    (qkK_SetKind : PySem.W.kitOne K (.ref C_SetKind) (.ref C_Kind) = some true)
    (qkB_FirstKind : PySem.W.kitOne K (.ref C_FirstKind) (.ref C_BagKind) = some false)
    (qkH_FirstKind : PySem.W.kitOne K (.ref C_FirstKind) (.ref C_HeadsKind) = some true)
    (qkT_FirstKind : PySem.W.kitOne K (.ref C_FirstKind) (.ref C_TailsKind) = some false)
    (qkK_FirstKind : PySem.W.kitOne K (.ref C_FirstKind) (.ref C_Kind) = some true)
    (qkB_LastKind : PySem.W.kitOne K (.ref C_LastKind) (.ref C_BagKind) = some false)
    (qkH_LastKind : PySem.W.kitOne K (.ref C_LastKind) (.ref C_HeadsKind) = some false)
    (qkT_LastKind : PySem.W.kitOne K (.ref C_LastKind) (.ref C_TailsKind) = some true)
    (qkK_LastKind : PySem.W.kitOne K (.ref C_LastKind) (.ref C_Kind) = some true)
    (qkB_EndsKind : PySem.W.kitOne K (.ref C_EndsKind) (.ref C_BagKind) = some false)
    (qkH_EndsKind : PySem.W.kitOne K (.ref C_EndsKind) (.ref C_HeadsKind) = some false)
    (qkT_EndsKind : PySem.W.kitOne K (.ref C_EndsKind) (.ref C_TailsKind) = some false)
    (qkK_EndsKind : PySem.W.kitOne K (.ref C_EndsKind) (.ref C_Kind) = some true)
    (qkB_HeadsKind : PySem.W.kitOne K (.ref C_HeadsKind) (.ref C_BagKind) = some false)
    (qkH_HeadsKind : PySem.W.kitOne K (.ref C_HeadsKind) (.ref C_HeadsKind) = some true)
    (qkT_HeadsKind : PySem.W.kitOne K (.ref C_HeadsKind) (.ref C_TailsKind) = some false)
    (qkK_HeadsKind : PySem.W.kitOne K (.ref C_HeadsKind) (.ref C_Kind) = some true)
    (qkB_TailsKind : PySem.W.kitOne K (.ref C_TailsKind) (.ref C_BagKind) = some false)
    (qkH_TailsKind : PySem.W.kitOne K (.ref C_TailsKind) (.ref C_HeadsKind) = some false)
    (qkT_TailsKind : PySem.W.kitOne K (.ref C_TailsKind) (.ref C_TailsKind) = some true)
    (qkK_TailsKind : PySem.W.kitOne K (.ref C_TailsKind) (.ref C_Kind) = some true)
    (q_bt : PySem.W.specialIn K (.bool true) "__get__" = some none)
    (q_bf : PySem.W.specialIn K (.bool false) "__get__" = some none)
    (p_Kind : PySem.W.findIn K (.ref C_Kind) "plain" = some (some (.ref f_pl)))
    (p_BagKind : PySem.W.findIn K (.ref C_BagKind) "plain" = some (some (.ref f_pl)))
    (p_SetKind : PySem.W.findIn K (.ref C_SetKind) "plain" = some (some (.ref f_pl)))
    (p_FirstKind : PySem.W.findIn K (.ref C_FirstKind) "plain" = some (some (.ref f_pl)))
    (p_LastKind : PySem.W.findIn K (.ref C_LastKind) "plain" = some (some (.ref f_pl)))
    (p_EndsKind : PySem.W.findIn K (.ref C_EndsKind) "plain" = some (some (.ref f_pl)))
    (p_HeadsKind : PySem.W.findIn K (.ref C_HeadsKind) "plain" = some (some (.ref f_pl)))
    (p_TailsKind : PySem.W.findIn K (.ref C_TailsKind) "plain" = some (some (.ref f_pl)))
    (i_pl : PySem.W.isFn K (.ref f_pl) = true)
    (l_pl : K.lookup f_pl = some ⟨oc_pl, od_pl, .func (PySem.W.fnOf "plain" "Kind.plain" (defArgs sPlainM) (defBody sPlainM) (defScope sPlainM) .none kV_pl dc_pl pm_pl an_pl cd_pl ct_pl), sl_pl⟩)
    (c_pl : PySem.W.codeIn K cd_pl "Kind.plain" = true)
    (k_pl : PySem.W.keepIn K (.ref f_pl) = true)
    (t_nK : K.lookup Pt = none)
    (t_cd : PySem.W.codeHdIn K cB Pt = true)
    (n_a : PySem.W.nsIn K mainGlobals "KIND_NAMES" = some (some (.ref kn)))
    (n_l : K.lookup kn = some ⟨.type "tuple", odN, .seq #[.str "list" t0, .str "bag" t1, .str "set" t2, .str "first" t3, .str "last" t4, .str "ends" t5, .str "heads" t6, .str "tails" t7] nN, slN⟩)
    (b_a : PySem.W.nsIn K mainGlobals "BadKind" = some (some (.ref CB)))
    (b_l : K.lookup CB = some (excClassObj nm q CB NB bs bm true sn sub ab col dd m0 m1 m2 m3 m5 "ValueError.__new__"))
    (b_v : PySem.HandSPX.refsVE bm = true)
    (b_sa : PySem.W.findIn K (.ref CB) "__setattr__" = some (some (.builtin "object.__setattr__")))
    (b_ex : PySem.W.subIn K (.ref CB) (.type "BaseException") = some true)
    (b_ty : PySem.W.typeIn K (.ref CB) = some (.type "type"))
    (b_k : PySem.W.keepIn K (.ref CB) = true)
    (b_i : PySem.W.findIn K (.ref CB) "__init__" = some (some (.ref f_i)))
    (b_it : PySem.W.typeIn K (.ref f_i) = some (.type "function"))
    (b_il : K.lookup f_i = some ⟨oc_i, od_i, .func (PySem.W.ksFn "__init__" "BadKind.__init__" (defArgs sIni) (defBody sIni) (defScope sIni) .none kV_i dc_i pm_i an_i (.ref c_i) ct_i cc), sl_i⟩)
    (b_ic : PySem.W.codeIn K (.ref c_i) "BadKind.__init__" = true)
    (b_cl : K.lookup c_i = some ⟨ccl, cdd, .fields vsC, ccs⟩)
    (b_cf : vsC[2]? = some (.str file tf))
    (b_fi : ((PySem.Challenge.rw_movedstates_k01_kept_indexes_and_normal.prog.main.file : Str) == file) = true)
    (b_cc : K.lookup cc = some ⟨cl, cld, .cell (some (.ref CB)), csl⟩)
    (b_se : PySem.W.mroIn K CB (.ref CB) = some true)
    (b_ve : PySem.W.mroIn K CB (.type "ValueError") = some true)
    (b_op : PySem.W.nsIn K cStatics "thirdparty.any" = some none)
    (b_su : PySem.W.ks_superIn K CB CB "__init__" = some (some (.builtin "ValueError.__init__")))
    (b_cd : PySem.W.clsIn K CB = some cdB)
    (b_hn : PySem.W.specialIn K (.builtin "object.__class__") "__get__" = some (some (.builtin "getset_descriptor.__get__")))
    (b_ht : PySem.W.takesIn K (.builtin "object.__class__") = some true)
    (b_no : PySem.W.findIn K (.ref CB) "name" = some none) :
    LamX.LawAtS rwK w K CX0 6 63 "_law_script" mg fa h := by
  cases hfa.symm.trans (PySem.W.mg_of X G a_law)
  have B : Bi mg := ⟨PySem.W.mg_none_of X G z_len, PySem.W.mg_none_of X G z_range, PySem.W.mg_none_of X G z_enumerate, PySem.W.mg_none_of X G z_abs, PySem.W.mg_none_of X G z_int, PySem.W.mg_none_of X G z_list, PySem.W.mg_none_of X G z_tuple, PySem.W.mg_none_of X G z_sorted, PySem.W.mg_none_of X G z_isinstance, PySem.W.mg_none_of X G z_str, PySem.W.mg_none_of X G z_bool, PySem.W.mg_none_of X G z_super, PySem.W.mg_none_of X G z_ValueError⟩
  have F_w_stream := fun_mk (st := sStream) l_w_stream c_w_stream k_w_stream
  have b_w_stream := F_w_stream.binds (ps := ["_law_script"]) fun _ _ _ _ _ _ us hl => match us, hl with | [_], _ => rfl
  have F_w_draw := fun_mk (st := sDraw) l_w_draw c_w_draw k_w_draw
  have b_w_draw := F_w_draw.binds (ps := ["_law_stream_here", "_law_many"]) fun _ _ _ _ _ _ us hl => match us, hl with | [_, _], _ => rfl
  have F_w_wide := fun_mk (st := sWide) l_w_wide c_w_wide k_w_wide
  have b_w_wide := F_w_wide.binds (ps := ["_law_stream_here"]) fun _ _ _ _ _ _ us hl => match us, hl with | [_], _ => rfl
  have F_w_kind := fun_mk (st := sKind) l_w_kind c_w_kind k_w_kind
  have b_w_kind := F_w_kind.binds (ps := ["_law_stream_here"]) fun _ _ _ _ _ _ us hl => match us, hl with | [_], _ => rfl
  have F_w_value := fun_mk (st := sValue) l_w_value c_w_value k_w_value
  have b_w_value := F_w_value.binds (ps := ["_law_stream_here", "_law_style"]) fun _ _ _ _ _ _ us hl => match us, hl with | [_, _], _ => rfl
  have F_w_word := fun_mk (st := sWord) l_w_word c_w_word k_w_word
  have b_w_word := F_w_word.binds (ps := ["_law_stream_here", "_law_size", "_law_style"]) fun _ _ _ _ _ _ us hl => match us, hl with | [_, _, _], _ => rfl
  have F_w_shaped := fun_mk (st := sShaped) l_w_shaped c_w_shaped k_w_shaped
  have b_w_shaped := F_w_shaped.binds (ps := ["_law_stream_here", "_law_word_here"]) fun _ _ _ _ _ _ us hl => match us, hl with | [_, _], _ => rfl
  have F_w_kept := fun_mk (st := sKept) l_w_kept c_w_kept k_w_kept
  have b_w_kept := F_w_kept.binds (ps := ["_law_kind_here", "_law_word_here"]) fun _ _ _ _ _ _ us hl => match us, hl with | [_, _], _ => rfl
  have F_w_normal := fun_mk (st := sNormal) l_w_normal c_w_normal k_w_normal
  have b_w_normal := F_w_normal.binds (ps := ["_law_kind_here", "_law_word_here"]) fun _ _ _ _ _ _ us hl => match us, hl with | [_, _], _ => rfl
  have F_w_made := fun_mk (st := sMade) l_w_made c_w_made k_w_made
  have b_w_made := F_w_made.binds (ps := ["_law_kind_here"]) fun _ _ _ _ _ _ us hl => match us, hl with | [_], _ => rfl
  have F_w_rules := fun_mk (st := sRules) l_w_rules c_w_rules k_w_rules
  have b_w_rules := F_w_rules.binds (ps := ["_law_kind_here"]) fun _ _ _ _ _ _ us hl => match us, hl with | [_], _ => rfl
  have F_w_classed := fun_mk (st := sClassed) l_w_classed c_w_classed k_w_classed
  have b_w_classed := F_w_classed.binds (ps := ["_law_kind_here", "_law_made_here"]) fun _ _ _ _ _ _ us hl => match us, hl with | [_, _], _ => rfl
  have F_w_keeps := fun_mk (st := sKeeps) l_w_keeps c_w_keeps k_w_keeps
  have b_w_keeps := F_w_keeps.binds (ps := ["_law_kind_here", "_law_made_here", "_law_word_here"]) fun _ _ _ _ _ _ us hl => match us, hl with | [_, _, _], _ => rfl
  have F_law := fun_mk (st := sLaw) l_law c_law k_law
  have b_law := F_law.binds (ps := ["_law_script"]) fun _ _ _ _ _ _ us hl => match us, hl with | [_], _ => rfl
  have F_least_places := fun_mk (st := sLeast) l_least_places c_least_places k_least_places
  have b_least_places := F_least_places.binds (ps := ["word"]) fun _ _ _ _ _ _ us hl => match us, hl with | [_], _ => rfl
  have F_greatest_places := fun_mk (st := sGreat) l_greatest_places c_greatest_places k_greatest_places
  have b_greatest_places := F_greatest_places.binds (ps := ["word"]) fun _ _ _ _ _ _ us hl => match us, hl with | [_], _ => rfl
  have F_kind_named := fun_mk (st := sKN) l_kind_named c_kind_named k_kind_named
  have b_kind_named := F_kind_named.binds (ps := ["name"]) fun _ _ _ _ _ _ us hl => match us, hl with | [_], _ => rfl
  have F_plain_value := fun_mk (st := sPV) l_plain_value c_plain_value k_plain_value
  have b_plain_value := F_plain_value.binds (ps := ["kind", "word"]) fun _ _ _ _ _ _ us hl => match us, hl with | [_, _], _ => rfl
  have F_kO := fun_mk (st := sKeepO) l_kO c_kO k_kO
  have b_kO := F_kO.binds (ps := ["self", "word"]) fun _ _ _ _ _ _ us hl => match us, hl with | [_, _], _ => rfl
  have cl_Kind : Cls K C_Kind := ⟨pg_Kind, hd_Kind, po_Kind, sa_Kind⟩
  have F_kB : FunC K "keep" "BagKind.keep" sKeepB f_kB _ cB := ⟨_, _, _, _, _, _, _, _, rfl, l_kB, c_kB⟩
  have F_kB2 := fun_mk (st := sKeepB) l_kB c_kB k_kB
  have b_kB := F_kB2.binds (ps := ["self", "word"]) fun _ _ _ _ _ _ us hl => match us, hl with | [_, _], _ => rfl
  have cl_BagKind : Cls K C_BagKind := ⟨pg_BagKind, hd_BagKind, po_BagKind, sa_BagKind⟩
  have F_kS := fun_mk (st := sKeepS) l_kS c_kS k_kS
  have b_kS := F_kS.binds (ps := ["self", "word"]) fun _ _ _ _ _ _ us hl => match us, hl with | [_, _], _ => rfl
  have cl_SetKind : Cls K C_SetKind := ⟨pg_SetKind, hd_SetKind, po_SetKind, sa_SetKind⟩
  have F_kF := fun_mk (st := sKeepF) l_kF c_kF k_kF
  have b_kF := F_kF.binds (ps := ["self", "word"]) fun _ _ _ _ _ _ us hl => match us, hl with | [_, _], _ => rfl
  have cl_FirstKind : Cls K C_FirstKind := ⟨pg_FirstKind, hd_FirstKind, po_FirstKind, sa_FirstKind⟩
  have F_kL := fun_mk (st := sKeepL) l_kL c_kL k_kL
  have b_kL := F_kL.binds (ps := ["self", "word"]) fun _ _ _ _ _ _ us hl => match us, hl with | [_, _], _ => rfl
  have cl_LastKind : Cls K C_LastKind := ⟨pg_LastKind, hd_LastKind, po_LastKind, sa_LastKind⟩
  have F_kE := fun_mk (st := sKeepE) l_kE c_kE k_kE
  have b_kE := F_kE.binds (ps := ["self", "word"]) fun _ _ _ _ _ _ us hl => match us, hl with | [_, _], _ => rfl
  have cl_EndsKind : Cls K C_EndsKind := ⟨pg_EndsKind, hd_EndsKind, po_EndsKind, sa_EndsKind⟩
  have F_kH := fun_mk (st := sKeepH) l_kH c_kH k_kH
  have b_kH := F_kH.binds (ps := ["self", "word"]) fun _ _ _ _ _ _ us hl => match us, hl with | [_, _], _ => rfl
  have cl_HeadsKind : Cls K C_HeadsKind := ⟨pg_HeadsKind, hd_HeadsKind, po_HeadsKind, sa_HeadsKind⟩
  have F_kT := fun_mk (st := sKeepT) l_kT c_kT k_kT
  have b_kT := F_kT.binds (ps := ["self", "word"]) fun _ _ _ _ _ _ us hl => match us, hl with | [_, _], _ => rfl
  have cl_TailsKind : Cls K C_TailsKind := ⟨pg_TailsKind, hd_TailsKind, po_TailsKind, sa_TailsKind⟩
  have F_pl := fun_mk (st := sPlainM) l_pl c_pl k_pl
  have b_pl := F_pl.binds (ps := ["self", "word"]) fun _ _ _ _ _ _ us hl => match us, hl with | [_, _], _ => rfl
  have tN : ∀ H : Hp, SqT K H kn kindNames := fun H => .inr ⟨_, _, _, n_l, rfl, rfl, by show 8 ≤ sizeLine; decide, .cons ⟨_, rfl⟩ (.cons ⟨_, rfl⟩ (.cons ⟨_, rfl⟩ (.cons ⟨_, rfl⟩ (.cons ⟨_, rfl⟩ (.cons ⟨_, rfl⟩ (.cons ⟨_, rfl⟩ (.cons ⟨_, rfl⟩ .nil)))))))⟩
  have OE : OexC K CB := ⟨⟨_, _, _, _, _, _, _, _, _, _, _, _, _, _, _, b_l, b_v⟩, b_sa, b_ex, b_ty, b_k⟩
  have U : SupK rwK.prog K f_i c_i cc CB := ⟨OE, ⟨_, _, _, _, _, _, b_cl, b_cf, b_fi⟩, ⟨_, _, _, b_cc⟩, by decide +kernel, b_se, b_ve, b_op, b_su, ⟨_, b_cd⟩⟩
  have m0 : ∀ k : Kd, Mk0 K (clsOf C_Kind C_BagKind C_SetKind C_FirstKind C_LastKind C_EndsKind C_HeadsKind C_TailsKind k) := fun k => by
    cases k
    · exact ⟨mk_Kind, in_Kind, tp_Kind, kc_Kind⟩
    · exact ⟨mk_BagKind, in_BagKind, tp_BagKind, kc_BagKind⟩
    · exact ⟨mk_SetKind, in_SetKind, tp_SetKind, kc_SetKind⟩
    · exact ⟨mk_FirstKind, in_FirstKind, tp_FirstKind, kc_FirstKind⟩
    · exact ⟨mk_LastKind, in_LastKind, tp_LastKind, kc_LastKind⟩
    · exact ⟨mk_EndsKind, in_EndsKind, tp_EndsKind, kc_EndsKind⟩
    · exact ⟨mk_HeadsKind, in_HeadsKind, tp_HeadsKind, kc_HeadsKind⟩
    · exact ⟨mk_TailsKind, in_TailsKind, tp_TailsKind, kc_TailsKind⟩
  have gC : ∀ k : Kd, mg k.cn = some (.ref (clsOf C_Kind C_BagKind C_SetKind C_FirstKind C_LastKind C_EndsKind C_HeadsKind C_TailsKind k)) := fun k => by
    cases k
    · exact PySem.W.mg_of X G a_Kind
    · exact PySem.W.mg_of X G a_BagKind
    · exact PySem.W.mg_of X G a_SetKind
    · exact PySem.W.mg_of X G a_FirstKind
    · exact PySem.W.mg_of X G a_LastKind
    · exact PySem.W.mg_of X G a_EndsKind
    · exact PySem.W.mg_of X G a_HeadsKind
    · exact PySem.W.mg_of X G a_TailsKind
  refine ⟨PySem.W.fnOf "law" "law" (defArgs sLaw) (defBody sLaw) (defScope sLaw) .none kV_law dc_law pm_law an_law cd_law ct_law, [(cB, Pt)], spLaw K [(Pt, lamQ)], fun p hp => by rw [List.mem_singleton.mp hp]; exact hPt, fun p hp => by rw [List.mem_singleton.mp hp]; exact t_nK, fun p hp => by rw [List.mem_singleton.mp hp]; exact PySem.W.codeHd_of_K X t_cd, fun s u => .of_eq rfl, fun H a ns hl _ hH hS => ⟨a, ns, rfl, hS, hl, fun p hp => by rw [List.mem_singleton.mp hp]; exact LamX.TabS.nil (hH (cB, Pt) (List.mem_singleton.mpr rfl)), fun _ => rfl⟩, fun base KB GB TB => ?_⟩
  have TBb := TB (cB, Pt) (List.mem_singleton.mpr rfl)
  have c_w_streamx : CalX CX0 rwK.prog w K mg base 1 "_law_stream" (spStream K) := cal_of F_w_stream (PySem.W.mg_of X G a_w_stream) b_w_stream (ok_stream F_w_stream B)
  have c_w_drawx : CalX CX0 rwK.prog w K mg base 1 "_law_draw" spDraw := cal_of F_w_draw (PySem.W.mg_of X G a_w_draw) b_w_draw (ok_draw F_w_draw B)
  have c_w_widex : CalX CX0 rwK.prog w K mg base 2 "_law_wide" spWide := cal_of F_w_wide (PySem.W.mg_of X G a_w_wide) b_w_wide (ok_wide F_w_wide B c_w_drawx)
  have c_w_kindx : CalX CX0 rwK.prog w K mg base 2 "_law_kind" spKind := cal_of F_w_kind (PySem.W.mg_of X G a_w_kind) b_w_kind (ok_kind F_w_kind B c_w_drawx)
  have c_w_valuex : CalX CX0 rwK.prog w K mg base 3 "_law_value" spValue := cal_of F_w_value (PySem.W.mg_of X G a_w_value) b_w_value (ok_value F_w_value B c_w_drawx c_w_widex)
  have c_w_wordx : CalX CX0 rwK.prog w K mg base 4 "_law_word" spWord := cal_of F_w_word (PySem.W.mg_of X G a_w_word) b_w_word (ok_word F_w_word B c_w_valuex)
  have c_least_placesx : CalX CX0 rwK.prog w K mg base 1 "least_places" (spLeast K) := cal_of F_least_places (PySem.W.mg_of X G a_least_places) b_least_places (ok_least F_least_places B)
  have c_greatest_placesx : CalX CX0 rwK.prog w K mg base 1 "greatest_places" (spGreat K) := cal_of F_greatest_places (PySem.W.mg_of X G a_greatest_places) b_greatest_places (ok_great F_greatest_places B)
  have mKeep : ∀ k : Kd, MetX CX0 rwK.prog w K mg base 2 (clsOf C_Kind C_BagKind C_SetKind C_FirstKind C_LastKind C_EndsKind C_HeadsKind C_TailsKind k) "keep" (spKeep K [(Pt, lamQ)] k) := fun k => by
    cases k
    · exact ⟨_, _, _, cl_Kind, ⟨a_kO, i_kO, k_kO⟩, ok_keepO F_kO B, b_kO⟩
    · exact ⟨_, _, _, cl_BagKind, ⟨a_kB, i_kB, k_kB⟩, ok_keepB F_kB B TBb, b_kB⟩
    · exact ⟨_, _, _, cl_SetKind, ⟨a_kS, i_kS, k_kS⟩, ok_keepS F_kS B c_least_placesx, b_kS⟩
    · exact ⟨_, _, _, cl_FirstKind, ⟨a_kF, i_kF, k_kF⟩, ok_keepF F_kF B, b_kF⟩
    · exact ⟨_, _, _, cl_LastKind, ⟨a_kL, i_kL, k_kL⟩, ok_keepL F_kL B, b_kL⟩
    · exact ⟨_, _, _, cl_EndsKind, ⟨a_kE, i_kE, k_kE⟩, ok_keepE F_kE B, b_kE⟩
    · exact ⟨_, _, _, cl_HeadsKind, ⟨a_kH, i_kH, k_kH⟩, ok_keepH F_kH B c_least_placesx, b_kH⟩
    · exact ⟨_, _, _, cl_TailsKind, ⟨a_kT, i_kT, k_kT⟩, ok_keepT F_kT B c_greatest_placesx, b_kT⟩
  have mPlain : ∀ k : Kd, MetX CX0 rwK.prog w K mg base 3 (clsOf C_Kind C_BagKind C_SetKind C_FirstKind C_LastKind C_EndsKind C_HeadsKind C_TailsKind k) "plain" (spPlainM K (clsOf C_Kind C_BagKind C_SetKind C_FirstKind C_LastKind C_EndsKind C_HeadsKind C_TailsKind) [(Pt, lamQ)] k) := fun k => by
    have kk := ok_plainM (cls := clsOf C_Kind C_BagKind C_SetKind C_FirstKind C_LastKind C_EndsKind C_HeadsKind C_TailsKind) F_pl B k (mKeep k)
    cases k
    · exact ⟨_, _, _, cl_Kind, ⟨p_Kind, i_pl, k_pl⟩, kk, b_pl⟩
    · exact ⟨_, _, _, cl_BagKind, ⟨p_BagKind, i_pl, k_pl⟩, kk, b_pl⟩
    · exact ⟨_, _, _, cl_SetKind, ⟨p_SetKind, i_pl, k_pl⟩, kk, b_pl⟩
    · exact ⟨_, _, _, cl_FirstKind, ⟨p_FirstKind, i_pl, k_pl⟩, kk, b_pl⟩
    · exact ⟨_, _, _, cl_LastKind, ⟨p_LastKind, i_pl, k_pl⟩, kk, b_pl⟩
    · exact ⟨_, _, _, cl_EndsKind, ⟨p_EndsKind, i_pl, k_pl⟩, kk, b_pl⟩
    · exact ⟨_, _, _, cl_HeadsKind, ⟨p_HeadsKind, i_pl, k_pl⟩, kk, b_pl⟩
    · exact ⟨_, _, _, cl_TailsKind, ⟨p_TailsKind, i_pl, k_pl⟩, kk, b_pl⟩
  have KT : KTx rwK.prog w K mg base (clsOf C_Kind C_BagKind C_SetKind C_FirstKind C_LastKind C_EndsKind C_HeadsKind C_TailsKind) CB := ⟨m0, gC, ⟨kn, PySem.W.mg_of X G n_a, tN⟩, OE, PySem.W.mg_of X G b_a, ⟨f_i, _, b_i, b_it, ok_bini b_il b_ic U B.super b_no, bind_bini⟩⟩
  have c_kind_namedx : CalX (L2.CX rwK.prog w) rwK.prog w K mg base 3 "kind_named" (spKN (clsOf C_Kind C_BagKind C_SetKind C_FirstKind C_LastKind C_EndsKind C_HeadsKind C_TailsKind) CB) := cal_of F_kind_named (PySem.W.mg_of X G a_kind_named) b_kind_named (ok_kn F_kind_named B KT)
  have c_plain_valuex : CalX (L2.CX rwK.prog w) rwK.prog w K mg base 4 "plain_value" (spPV K [(Pt, lamQ)] CB) := cal_of F_plain_value (PySem.W.mg_of X G a_plain_value) b_plain_value (ok_pv F_plain_value B c_kind_namedx mPlain)
  have CF : ∀ k : Kd, ClsF K (clsOf C_Kind C_BagKind C_SetKind C_FirstKind C_LastKind C_EndsKind C_HeadsKind C_TailsKind) k := fun k => by
    cases k
    · exact ⟨cl_Kind, ⟨_, ⟨qn_Kind, ⟨_, rfl⟩, qng_Kind, by decide +kernel⟩⟩, ⟨r_Kind, _, ⟨qr_Kind, rfl, qrg_Kind, by decide +kernel⟩, fun H => .kTuple qrl_Kind rfl, fun H => .inr ⟨_, _, _, qrl_Kind, rfl, rfl, by show 0 ≤ sizeLine; decide, .nil⟩⟩, ⟨_, ⟨qid_Kind, rfl, q_bf, by decide +kernel⟩⟩, ⟨_, ⟨qor_Kind, rfl, q_bf, by decide +kernel⟩⟩, ⟨_, ⟨qpl_Kind, rfl, q_bt, by decide +kernel⟩⟩, ⟨_, ⟨qou_Kind, rfl, q_bf, by decide +kernel⟩⟩, fun H o dx e => .ins e cl_Kind qhc_Kind b_hn b_ht tp_Kind, qkB_Kind, qkH_Kind, qkT_Kind, qkK_Kind⟩
    · exact ⟨cl_BagKind, ⟨_, ⟨qn_BagKind, ⟨_, rfl⟩, qng_BagKind, by decide +kernel⟩⟩, ⟨r_BagKind, _, ⟨qr_BagKind, rfl, qrg_BagKind, by decide +kernel⟩, fun H => .kTuple qrl_BagKind rfl, fun H => .inr ⟨_, _, _, qrl_BagKind, rfl, rfl, by show 1 ≤ sizeLine; decide, .cons ⟨_, rfl⟩ (.nil)⟩⟩, ⟨_, ⟨qid_BagKind, rfl, q_bf, by decide +kernel⟩⟩, ⟨_, ⟨qor_BagKind, rfl, q_bt, by decide +kernel⟩⟩, ⟨_, ⟨qpl_BagKind, rfl, q_bf, by decide +kernel⟩⟩, ⟨_, ⟨qou_BagKind, rfl, q_bf, by decide +kernel⟩⟩, fun H o dx e => .ins e cl_BagKind qhc_BagKind b_hn b_ht tp_BagKind, qkB_BagKind, qkH_BagKind, qkT_BagKind, qkK_BagKind⟩
    · exact ⟨cl_SetKind, ⟨_, ⟨qn_SetKind, ⟨_, rfl⟩, qng_SetKind, by decide +kernel⟩⟩, ⟨r_SetKind, _, ⟨qr_SetKind, rfl, qrg_SetKind, by decide +kernel⟩, fun H => .kTuple qrl_SetKind rfl, fun H => .inr ⟨_, _, _, qrl_SetKind, rfl, rfl, by show 2 ≤ sizeLine; decide, .cons ⟨_, rfl⟩ (.cons ⟨_, rfl⟩ (.nil))⟩⟩, ⟨_, ⟨qid_SetKind, rfl, q_bt, by decide +kernel⟩⟩, ⟨_, ⟨qor_SetKind, rfl, q_bt, by decide +kernel⟩⟩, ⟨_, ⟨qpl_SetKind, rfl, q_bf, by decide +kernel⟩⟩, ⟨_, ⟨qou_SetKind, rfl, q_bf, by decide +kernel⟩⟩, fun H o dx e => .ins e cl_SetKind qhc_SetKind b_hn b_ht tp_SetKind, qkB_SetKind, qkH_SetKind, qkT_SetKind, qkK_SetKind⟩
    · exact ⟨cl_FirstKind, ⟨_, ⟨qn_FirstKind, ⟨_, rfl⟩, qng_FirstKind, by decide +kernel⟩⟩, ⟨r_FirstKind, _, ⟨qr_FirstKind, rfl, qrg_FirstKind, by decide +kernel⟩, fun H => .kTuple qrl_FirstKind rfl, fun H => .inr ⟨_, _, _, qrl_FirstKind, rfl, rfl, by show 1 ≤ sizeLine; decide, .cons ⟨_, rfl⟩ (.nil)⟩⟩, ⟨_, ⟨qid_FirstKind, rfl, q_bt, by decide +kernel⟩⟩, ⟨_, ⟨qor_FirstKind, rfl, q_bf, by decide +kernel⟩⟩, ⟨_, ⟨qpl_FirstKind, rfl, q_bf, by decide +kernel⟩⟩, ⟨_, ⟨qou_FirstKind, rfl, q_bt, by decide +kernel⟩⟩, fun H o dx e => .ins e cl_FirstKind qhc_FirstKind b_hn b_ht tp_FirstKind, qkB_FirstKind, qkH_FirstKind, qkT_FirstKind, qkK_FirstKind⟩
    · exact ⟨cl_LastKind, ⟨_, ⟨qn_LastKind, ⟨_, rfl⟩, qng_LastKind, by decide +kernel⟩⟩, ⟨r_LastKind, _, ⟨qr_LastKind, rfl, qrg_LastKind, by decide +kernel⟩, fun H => .kTuple qrl_LastKind rfl, fun H => .inr ⟨_, _, _, qrl_LastKind, rfl, rfl, by show 1 ≤ sizeLine; decide, .cons ⟨_, rfl⟩ (.nil)⟩⟩, ⟨_, ⟨qid_LastKind, rfl, q_bt, by decide +kernel⟩⟩, ⟨_, ⟨qor_LastKind, rfl, q_bf, by decide +kernel⟩⟩, ⟨_, ⟨qpl_LastKind, rfl, q_bf, by decide +kernel⟩⟩, ⟨_, ⟨qou_LastKind, rfl, q_bt, by decide +kernel⟩⟩, fun H o dx e => .ins e cl_LastKind qhc_LastKind b_hn b_ht tp_LastKind, qkB_LastKind, qkH_LastKind, qkT_LastKind, qkK_LastKind⟩
    · exact ⟨cl_EndsKind, ⟨_, ⟨qn_EndsKind, ⟨_, rfl⟩, qng_EndsKind, by decide +kernel⟩⟩, ⟨r_EndsKind, _, ⟨qr_EndsKind, rfl, qrg_EndsKind, by decide +kernel⟩, fun H => .kTuple qrl_EndsKind rfl, fun H => .inr ⟨_, _, _, qrl_EndsKind, rfl, rfl, by show 2 ≤ sizeLine; decide, .cons ⟨_, rfl⟩ (.cons ⟨_, rfl⟩ (.nil))⟩⟩, ⟨_, ⟨qid_EndsKind, rfl, q_bt, by decide +kernel⟩⟩, ⟨_, ⟨qor_EndsKind, rfl, q_bf, by decide +kernel⟩⟩, ⟨_, ⟨qpl_EndsKind, rfl, q_bf, by decide +kernel⟩⟩, ⟨_, ⟨qou_EndsKind, rfl, q_bt, by decide +kernel⟩⟩, fun H o dx e => .ins e cl_EndsKind qhc_EndsKind b_hn b_ht tp_EndsKind, qkB_EndsKind, qkH_EndsKind, qkT_EndsKind, qkK_EndsKind⟩
    · exact ⟨cl_HeadsKind, ⟨_, ⟨qn_HeadsKind, ⟨_, rfl⟩, qng_HeadsKind, by decide +kernel⟩⟩, ⟨r_HeadsKind, _, ⟨qr_HeadsKind, rfl, qrg_HeadsKind, by decide +kernel⟩, fun H => .kTuple qrl_HeadsKind rfl, fun H => .inr ⟨_, _, _, qrl_HeadsKind, rfl, rfl, by show 2 ≤ sizeLine; decide, .cons ⟨_, rfl⟩ (.cons ⟨_, rfl⟩ (.nil))⟩⟩, ⟨_, ⟨qid_HeadsKind, rfl, q_bt, by decide +kernel⟩⟩, ⟨_, ⟨qor_HeadsKind, rfl, q_bf, by decide +kernel⟩⟩, ⟨_, ⟨qpl_HeadsKind, rfl, q_bt, by decide +kernel⟩⟩, ⟨_, ⟨qou_HeadsKind, rfl, q_bf, by decide +kernel⟩⟩, fun H o dx e => .ins e cl_HeadsKind qhc_HeadsKind b_hn b_ht tp_HeadsKind, qkB_HeadsKind, qkH_HeadsKind, qkT_HeadsKind, qkK_HeadsKind⟩
    · exact ⟨cl_TailsKind, ⟨_, ⟨qn_TailsKind, ⟨_, rfl⟩, qng_TailsKind, by decide +kernel⟩⟩, ⟨r_TailsKind, _, ⟨qr_TailsKind, rfl, qrg_TailsKind, by decide +kernel⟩, fun H => .kTuple qrl_TailsKind rfl, fun H => .inr ⟨_, _, _, qrl_TailsKind, rfl, rfl, by show 2 ≤ sizeLine; decide, .cons ⟨_, rfl⟩ (.cons ⟨_, rfl⟩ (.nil))⟩⟩, ⟨_, ⟨qid_TailsKind, rfl, q_bt, by decide +kernel⟩⟩, ⟨_, ⟨qor_TailsKind, rfl, q_bf, by decide +kernel⟩⟩, ⟨_, ⟨qpl_TailsKind, rfl, q_bt, by decide +kernel⟩⟩, ⟨_, ⟨qou_TailsKind, rfl, q_bf, by decide +kernel⟩⟩, fun H o dx e => .ins e cl_TailsKind qhc_TailsKind b_hn b_ht tp_TailsKind, qkB_TailsKind, qkH_TailsKind, qkT_TailsKind, qkK_TailsKind⟩
  have c_w_shapedx : CalX CX0 rwK.prog w K mg base 2 "_law_shaped" spShaped := cal_of F_w_shaped (PySem.W.mg_of X G a_w_shaped) b_w_shaped (ok_shaped F_w_shaped B c_w_drawx)
  have c_w_keptx : CalX CX0 rwK.prog w K mg base 1 "_law_kept" spKept := cal_of F_w_kept (PySem.W.mg_of X G a_w_kept) b_w_kept (ok_kept F_w_kept B (PySem.W.mg_none_of X G z_min))
  have c_w_normalx : CalX CX0 rwK.prog w K mg base 1 "_law_normal" (spNormal K) := cal_of F_w_normal (PySem.W.mg_of X G a_w_normal) b_w_normal (ok_normal F_w_normal B)
  have c_w_madex : CalX CX0 rwK.prog w K mg base 3 "_law_made" (spMade (clsOf C_Kind C_BagKind C_SetKind C_FirstKind C_LastKind C_EndsKind C_HeadsKind C_TailsKind)) := cal_of F_w_made (PySem.W.mg_of X G a_w_made) b_w_made (ok_made F_w_made B KT)
  have c_w_rulesx : CalX CX0 rwK.prog w K mg base 1 "_law_rules" spRules := cal_of F_w_rules (PySem.W.mg_of X G a_w_rules) b_w_rules (ok_rules F_w_rules B)
  have c_w_classedx : CalX CX0 rwK.prog w K mg base 2 "_law_classed" (spClassed (clsOf C_Kind C_BagKind C_SetKind C_FirstKind C_LastKind C_EndsKind C_HeadsKind C_TailsKind)) := cal_of F_w_classed (PySem.W.mg_of X G a_w_classed) b_w_classed (ok_classed F_w_classed B KT c_w_rulesx CF)
  have c_w_keepsx : CalX CX0 rwK.prog w K mg base 4 "_law_keeps" (spKeeps (clsOf C_Kind C_BagKind C_SetKind C_FirstKind C_LastKind C_EndsKind C_HeadsKind C_TailsKind) [(Pt, lamQ)]) := cal_of F_w_keeps (PySem.W.mg_of X G a_w_keeps) b_w_keeps (ok_keeps F_w_keeps B c_w_keptx mKeep mPlain)
  exact ok_law F_law B KT c_w_streamx c_w_drawx c_w_kindx c_w_wordx c_w_shapedx c_w_normalx c_w_madex c_w_classedx c_w_keepsx c_kind_namedx c_plain_valuex
end Mv

set_option Elab.async false
open PySem PySem.W PyProof.Rows
set_option maxRecDepth 100000 in
set_option maxHeartbeats 0 in
theorem PySem.Challenge.cw_movedstates_k01_kept_indexes_and_normal_holds : PySem.Challenge.rw_movedstates_k01_kept_indexes_and_normal.Holds := by
  w_on; o_law; k_head; (case hw => w_witness2)
  k_fill
  refine LamX.walk_ofTs (l := PySem.Challenge.rw_movedstates_k01_kept_indexes_and_normal) (n := 63) (k := 6) (x := "_law_script") (CX := fun _ => L2.CX0) rfl (by decide) rfl ⟨rfl, by decide, by decide⟩ (fun w h Y => km_in_of Y) ?F (fun _ _ _ _ _ z => z)
  case F =>
    intro w mg fa h Y KX G hmg
    have TP := km_tabs_of Y
    refine' Mv.all_mk KX G hmg ?hPt ?z_min ?z_len ?z_range ?z_enumerate ?z_abs ?z_int ?z_list ?z_tuple ?z_sorted ?z_isinstance ?z_str ?z_bool ?z_super ?z_ValueError ?a_w_stream ?l_w_stream ?c_w_stream ?k_w_stream ?a_w_draw ?l_w_draw ?c_w_draw ?k_w_draw ?a_w_wide ?l_w_wide ?c_w_wide ?k_w_wide ?a_w_kind ?l_w_kind ?c_w_kind ?k_w_kind ?a_w_value ?l_w_value ?c_w_value ?k_w_value ?a_w_word ?l_w_word ?c_w_word ?k_w_word ?a_w_shaped ?l_w_shaped ?c_w_shaped ?k_w_shaped ?a_w_kept ?l_w_kept ?c_w_kept ?k_w_kept ?a_w_normal ?l_w_normal ?c_w_normal ?k_w_normal ?a_w_made ?l_w_made ?c_w_made ?k_w_made ?a_w_rules ?l_w_rules ?c_w_rules ?k_w_rules ?a_w_classed ?l_w_classed ?c_w_classed ?k_w_classed ?a_w_keeps ?l_w_keeps ?c_w_keeps ?k_w_keeps ?a_law ?l_law ?c_law ?k_law ?a_least_places ?l_least_places ?c_least_places ?k_least_places ?a_greatest_places ?l_greatest_places ?c_greatest_places ?k_greatest_places ?a_kind_named ?l_kind_named ?c_kind_named ?k_kind_named ?a_plain_value ?l_plain_value ?c_plain_value ?k_plain_value ?a_Kind ?mk_Kind ?in_Kind ?tp_Kind ?kc_Kind ?pg_Kind ?hd_Kind ?po_Kind ?sa_Kind ?qn_Kind ?qng_Kind ?qr_Kind ?qrg_Kind ?qrl_Kind ?qid_Kind ?qor_Kind ?qpl_Kind ?qou_Kind ?qhc_Kind ?a_kO ?i_kO ?l_kO ?c_kO ?k_kO ?a_BagKind ?mk_BagKind ?in_BagKind ?tp_BagKind ?kc_BagKind ?pg_BagKind ?hd_BagKind ?po_BagKind ?sa_BagKind ?qn_BagKind ?qng_BagKind ?qr_BagKind ?qrg_BagKind ?qrl_BagKind ?qid_BagKind ?qor_BagKind ?qpl_BagKind ?qou_BagKind ?qhc_BagKind ?a_kB ?i_kB ?l_kB ?c_kB ?k_kB ?a_SetKind ?mk_SetKind ?in_SetKind ?tp_SetKind ?kc_SetKind ?pg_SetKind ?hd_SetKind ?po_SetKind ?sa_SetKind ?qn_SetKind ?qng_SetKind ?qr_SetKind ?qrg_SetKind ?qrl_SetKind ?qid_SetKind ?qor_SetKind ?qpl_SetKind ?qou_SetKind ?qhc_SetKind ?a_kS ?i_kS ?l_kS ?c_kS ?k_kS ?a_FirstKind ?mk_FirstKind ?in_FirstKind ?tp_FirstKind ?kc_FirstKind ?pg_FirstKind ?hd_FirstKind ?po_FirstKind ?sa_FirstKind ?qn_FirstKind ?qng_FirstKind ?qr_FirstKind ?qrg_FirstKind ?qrl_FirstKind ?qid_FirstKind ?qor_FirstKind ?qpl_FirstKind ?qou_FirstKind ?qhc_FirstKind ?a_kF ?i_kF ?l_kF ?c_kF ?k_kF ?a_LastKind ?mk_LastKind ?in_LastKind ?tp_LastKind ?kc_LastKind ?pg_LastKind ?hd_LastKind ?po_LastKind ?sa_LastKind ?qn_LastKind ?qng_LastKind ?qr_LastKind ?qrg_LastKind ?qrl_LastKind ?qid_LastKind ?qor_LastKind ?qpl_LastKind ?qou_LastKind ?qhc_LastKind ?a_kL ?i_kL ?l_kL ?c_kL ?k_kL ?a_EndsKind ?mk_EndsKind ?in_EndsKind ?tp_EndsKind ?kc_EndsKind ?pg_EndsKind ?hd_EndsKind ?po_EndsKind ?sa_EndsKind ?qn_EndsKind ?qng_EndsKind ?qr_EndsKind ?qrg_EndsKind ?qrl_EndsKind ?qid_EndsKind ?qor_EndsKind ?qpl_EndsKind ?qou_EndsKind ?qhc_EndsKind ?a_kE ?i_kE ?l_kE ?c_kE ?k_kE ?a_HeadsKind ?mk_HeadsKind ?in_HeadsKind ?tp_HeadsKind ?kc_HeadsKind ?pg_HeadsKind ?hd_HeadsKind ?po_HeadsKind ?sa_HeadsKind ?qn_HeadsKind ?qng_HeadsKind ?qr_HeadsKind ?qrg_HeadsKind ?qrl_HeadsKind ?qid_HeadsKind ?qor_HeadsKind ?qpl_HeadsKind ?qou_HeadsKind ?qhc_HeadsKind ?a_kH ?i_kH ?l_kH ?c_kH ?k_kH ?a_TailsKind ?mk_TailsKind ?in_TailsKind ?tp_TailsKind ?kc_TailsKind ?pg_TailsKind ?hd_TailsKind ?po_TailsKind ?sa_TailsKind ?qn_TailsKind ?qng_TailsKind ?qr_TailsKind ?qrg_TailsKind ?qrl_TailsKind ?qid_TailsKind ?qor_TailsKind ?qpl_TailsKind ?qou_TailsKind ?qhc_TailsKind ?a_kT ?i_kT ?l_kT ?c_kT ?k_kT ?qkB_Kind ?qkH_Kind ?qkT_Kind ?qkK_Kind ?qkB_BagKind ?qkH_BagKind ?qkT_BagKind ?qkK_BagKind ?qkB_SetKind ?qkH_SetKind ?qkT_SetKind ?qkK_SetKind ?qkB_FirstKind ?qkH_FirstKind ?qkT_FirstKind ?qkK_FirstKind ?qkB_LastKind ?qkH_LastKind ?qkT_LastKind ?qkK_LastKind ?qkB_EndsKind ?qkH_EndsKind ?qkT_EndsKind ?qkK_EndsKind ?qkB_HeadsKind ?qkH_HeadsKind ?qkT_HeadsKind ?qkK_HeadsKind ?qkB_TailsKind ?qkH_TailsKind ?qkT_TailsKind ?qkK_TailsKind ?q_bt ?q_bf ?p_Kind ?p_BagKind ?p_SetKind ?p_FirstKind ?p_LastKind ?p_EndsKind ?p_HeadsKind ?p_TailsKind ?i_pl ?l_pl ?c_pl ?k_pl ?t_nK ?t_cd ?n_a ?n_l ?b_a ?b_l ?b_v ?b_sa ?b_ex ?b_ty ?b_k ?b_i ?b_it ?b_il ?b_ic ?b_cl ?b_cf ?b_fi ?b_cc ?b_se ?b_ve ?b_op ?b_su ?b_cd ?b_hn ?b_ht ?b_no
    (case hPt => exact TP _ (List.mem_singleton.mpr rfl))
    (case z_min => k_is)
    (case z_len => k_is)
    (case z_range => k_is)
    (case z_enumerate => k_is)
    (case z_abs => k_is)
    (case z_int => k_is)
    (case z_list => k_is)
    (case z_tuple => k_is)
    (case z_sorted => k_is)
    (case z_isinstance => k_is)
    (case z_str => k_is)
    (case z_bool => k_is)
    (case z_super => k_is)
    (case z_ValueError => k_is)
    (case a_w_stream => k_is)
    (case l_w_stream => k_is)
    (case c_w_stream => k_is)
    (case k_w_stream => k_is)
    (case a_w_draw => k_is)
    (case l_w_draw => k_is)
    (case c_w_draw => k_is)
    (case k_w_draw => k_is)
    (case a_w_wide => k_is)
    (case l_w_wide => k_is)
    (case c_w_wide => k_is)
    (case k_w_wide => k_is)
    (case a_w_kind => k_is)
    (case l_w_kind => k_is)
    (case c_w_kind => k_is)
    (case k_w_kind => k_is)
    (case a_w_value => k_is)
    (case l_w_value => k_is)
    (case c_w_value => k_is)
    (case k_w_value => k_is)
    (case a_w_word => k_is)
    (case l_w_word => k_is)
    (case c_w_word => k_is)
    (case k_w_word => k_is)
    (case a_w_shaped => k_is)
    (case l_w_shaped => k_is)
    (case c_w_shaped => k_is)
    (case k_w_shaped => k_is)
    (case a_w_kept => k_is)
    (case l_w_kept => k_is)
    (case c_w_kept => k_is)
    (case k_w_kept => k_is)
    (case a_w_normal => k_is)
    (case l_w_normal => k_is)
    (case c_w_normal => k_is)
    (case k_w_normal => k_is)
    (case a_w_made => k_is)
    (case l_w_made => k_is)
    (case c_w_made => k_is)
    (case k_w_made => k_is)
    (case a_w_rules => k_is)
    (case l_w_rules => k_is)
    (case c_w_rules => k_is)
    (case k_w_rules => k_is)
    (case a_w_classed => k_is)
    (case l_w_classed => k_is)
    (case c_w_classed => k_is)
    (case k_w_classed => k_is)
    (case a_w_keeps => k_is)
    (case l_w_keeps => k_is)
    (case c_w_keeps => k_is)
    (case k_w_keeps => k_is)
    (case a_law => k_is)
    (case l_law => k_is)
    (case c_law => k_is)
    (case k_law => k_is)
    (case a_least_places => k_is)
    (case l_least_places => k_is)
    (case c_least_places => k_is)
    (case k_least_places => k_is)
    (case a_greatest_places => k_is)
    (case l_greatest_places => k_is)
    (case c_greatest_places => k_is)
    (case k_greatest_places => k_is)
    (case a_kind_named => k_is)
    (case l_kind_named => k_is)
    (case c_kind_named => k_is)
    (case k_kind_named => k_is)
    (case a_plain_value => k_is)
    (case l_plain_value => k_is)
    (case c_plain_value => k_is)
    (case k_plain_value => k_is)
    (case a_Kind => k_is)
    (case mk_Kind => k_is)
    (case in_Kind => k_is)
    (case tp_Kind => k_is)
    (case kc_Kind => k_is)
    (case pg_Kind => k_is)
    (case hd_Kind => k_is)
    (case po_Kind => k_is)
    (case sa_Kind => k_is)
    (case qn_Kind => k_is)
    (case qng_Kind => k_is)
    (case qr_Kind => k_is)
    (case qrg_Kind => k_is)
    (case qrl_Kind => k_is)
    (case qid_Kind => k_is)
    (case qor_Kind => k_is)
    (case qpl_Kind => k_is)
    (case qou_Kind => k_is)
    (case qhc_Kind => k_is)
    (case a_kO => k_is)
    (case i_kO => k_is)
    (case l_kO => k_is)
    (case c_kO => k_is)
    (case k_kO => k_is)
    (case a_BagKind => k_is)
    (case mk_BagKind => k_is)
    (case in_BagKind => k_is)
    (case tp_BagKind => k_is)
    (case kc_BagKind => k_is)
    (case pg_BagKind => k_is)
    (case hd_BagKind => k_is)
    (case po_BagKind => k_is)
    (case sa_BagKind => k_is)
    (case qn_BagKind => k_is)
    (case qng_BagKind => k_is)
    (case qr_BagKind => k_is)
    (case qrg_BagKind => k_is)
    (case qrl_BagKind => k_is)
    (case qid_BagKind => k_is)
    (case qor_BagKind => k_is)
    (case qpl_BagKind => k_is)
    (case qou_BagKind => k_is)
    (case qhc_BagKind => k_is)
    (case a_kB => k_is)
    (case i_kB => k_is)
    (case l_kB => k_is)
    (case c_kB => k_is)
    (case k_kB => k_is)
    (case a_SetKind => k_is)
    (case mk_SetKind => k_is)
    (case in_SetKind => k_is)
    (case tp_SetKind => k_is)
    (case kc_SetKind => k_is)
    (case pg_SetKind => k_is)
    (case hd_SetKind => k_is)
    (case po_SetKind => k_is)
    (case sa_SetKind => k_is)
    (case qn_SetKind => k_is)
    (case qng_SetKind => k_is)
    (case qr_SetKind => k_is)
    (case qrg_SetKind => k_is)
    (case qrl_SetKind => k_is)
    (case qid_SetKind => k_is)
    (case qor_SetKind => k_is)
    (case qpl_SetKind => k_is)
    (case qou_SetKind => k_is)
    (case qhc_SetKind => k_is)
    (case a_kS => k_is)
    (case i_kS => k_is)
    (case l_kS => k_is)
    (case c_kS => k_is)
    (case k_kS => k_is)
    (case a_FirstKind => k_is)
    (case mk_FirstKind => k_is)
    (case in_FirstKind => k_is)
    (case tp_FirstKind => k_is)
    (case kc_FirstKind => k_is)
    (case pg_FirstKind => k_is)
    (case hd_FirstKind => k_is)
    (case po_FirstKind => k_is)
    (case sa_FirstKind => k_is)
    (case qn_FirstKind => k_is)
    (case qng_FirstKind => k_is)
    (case qr_FirstKind => k_is)
    (case qrg_FirstKind => k_is)
    (case qrl_FirstKind => k_is)
    (case qid_FirstKind => k_is)
    (case qor_FirstKind => k_is)
    (case qpl_FirstKind => k_is)
    (case qou_FirstKind => k_is)
    (case qhc_FirstKind => k_is)
    (case a_kF => k_is)
    (case i_kF => k_is)
    (case l_kF => k_is)
    (case c_kF => k_is)
    (case k_kF => k_is)
    (case a_LastKind => k_is)
    (case mk_LastKind => k_is)
    (case in_LastKind => k_is)
    (case tp_LastKind => k_is)
    (case kc_LastKind => k_is)
    (case pg_LastKind => k_is)
    (case hd_LastKind => k_is)
    (case po_LastKind => k_is)
    (case sa_LastKind => k_is)
    (case qn_LastKind => k_is)
    (case qng_LastKind => k_is)
    (case qr_LastKind => k_is)
    (case qrg_LastKind => k_is)
    (case qrl_LastKind => k_is)
    (case qid_LastKind => k_is)
    (case qor_LastKind => k_is)
    (case qpl_LastKind => k_is)
    (case qou_LastKind => k_is)
    (case qhc_LastKind => k_is)
    (case a_kL => k_is)
    (case i_kL => k_is)
    (case l_kL => k_is)
    (case c_kL => k_is)
    (case k_kL => k_is)
    (case a_EndsKind => k_is)
    (case mk_EndsKind => k_is)
    (case in_EndsKind => k_is)
    (case tp_EndsKind => k_is)
    (case kc_EndsKind => k_is)
    (case pg_EndsKind => k_is)
    (case hd_EndsKind => k_is)
    (case po_EndsKind => k_is)
    (case sa_EndsKind => k_is)
    (case qn_EndsKind => k_is)
    (case qng_EndsKind => k_is)
    (case qr_EndsKind => k_is)
    (case qrg_EndsKind => k_is)
    (case qrl_EndsKind => k_is)
    (case qid_EndsKind => k_is)
    (case qor_EndsKind => k_is)
    (case qpl_EndsKind => k_is)
    (case qou_EndsKind => k_is)
    (case qhc_EndsKind => k_is)
    (case a_kE => k_is)
    (case i_kE => k_is)
    (case l_kE => k_is)
    (case c_kE => k_is)
    (case k_kE => k_is)
    (case a_HeadsKind => k_is)
    (case mk_HeadsKind => k_is)
    (case in_HeadsKind => k_is)
    (case tp_HeadsKind => k_is)
    (case kc_HeadsKind => k_is)
    (case pg_HeadsKind => k_is)
    (case hd_HeadsKind => k_is)
    (case po_HeadsKind => k_is)
    (case sa_HeadsKind => k_is)
    (case qn_HeadsKind => k_is)
    (case qng_HeadsKind => k_is)
    (case qr_HeadsKind => k_is)
    (case qrg_HeadsKind => k_is)
    (case qrl_HeadsKind => k_is)
    (case qid_HeadsKind => k_is)
    (case qor_HeadsKind => k_is)
    (case qpl_HeadsKind => k_is)
    (case qou_HeadsKind => k_is)
    (case qhc_HeadsKind => k_is)
    (case a_kH => k_is)
    (case i_kH => k_is)
    (case l_kH => k_is)
    (case c_kH => k_is)
    (case k_kH => k_is)
    (case a_TailsKind => k_is)
    (case mk_TailsKind => k_is)
    (case in_TailsKind => k_is)
    (case tp_TailsKind => k_is)
    (case kc_TailsKind => k_is)
    (case pg_TailsKind => k_is)
    (case hd_TailsKind => k_is)
    (case po_TailsKind => k_is)
    (case sa_TailsKind => k_is)
    (case qn_TailsKind => k_is)
    (case qng_TailsKind => k_is)
    (case qr_TailsKind => k_is)
    (case qrg_TailsKind => k_is)
    (case qrl_TailsKind => k_is)
    (case qid_TailsKind => k_is)
    (case qor_TailsKind => k_is)
    (case qpl_TailsKind => k_is)
    (case qou_TailsKind => k_is)
    (case qhc_TailsKind => k_is)
    (case a_kT => k_is)
    (case i_kT => k_is)
    (case l_kT => k_is)
    (case c_kT => k_is)
    (case k_kT => k_is)
    (case qkB_Kind => kit_is)
    (case qkH_Kind => kit_is)
    (case qkT_Kind => kit_is)
    (case qkK_Kind => kit_is)
    (case qkB_BagKind => kit_is)
    (case qkH_BagKind => kit_is)
    (case qkT_BagKind => kit_is)
    (case qkK_BagKind => kit_is)
    (case qkB_SetKind => kit_is)
    (case qkH_SetKind => kit_is)
    (case qkT_SetKind => kit_is)
    (case qkK_SetKind => kit_is)
    (case qkB_FirstKind => kit_is)
    (case qkH_FirstKind => kit_is)
    (case qkT_FirstKind => kit_is)
    (case qkK_FirstKind => kit_is)
    (case qkB_LastKind => kit_is)
    (case qkH_LastKind => kit_is)
    (case qkT_LastKind => kit_is)
    (case qkK_LastKind => kit_is)
    (case qkB_EndsKind => kit_is)
    (case qkH_EndsKind => kit_is)
    (case qkT_EndsKind => kit_is)
    (case qkK_EndsKind => kit_is)
    (case qkB_HeadsKind => kit_is)
    (case qkH_HeadsKind => kit_is)
    (case qkT_HeadsKind => kit_is)
    (case qkK_HeadsKind => kit_is)
    (case qkB_TailsKind => kit_is)
    (case qkH_TailsKind => kit_is)
    (case qkT_TailsKind => kit_is)
    (case qkK_TailsKind => kit_is)
    (case q_bt => k_is)
    (case q_bf => k_is)
    (case p_Kind => k_is)
    (case p_BagKind => k_is)
    (case p_SetKind => k_is)
    (case p_FirstKind => k_is)
    (case p_LastKind => k_is)
    (case p_EndsKind => k_is)
    (case p_HeadsKind => k_is)
    (case p_TailsKind => k_is)
    (case i_pl => k_is)
    (case l_pl => k_is)
    (case c_pl => k_is)
    (case k_pl => k_is)
    (case t_nK => first | exact rfl | kernel_rfl | decide +kernel)
    (case t_cd => first | exact rfl | kernel_rfl | decide +kernel)
    (case n_a => k_is)
    (case n_l => k_is)
    (case b_a => k_is)
    (case b_l => k_is)
    (case b_v => decide +kernel)
    (case b_sa => k_is)
    (case b_ex => k_is)
    (case b_ty => k_is)
    (case b_k => k_is)
    (case b_i => k_is)
    (case b_it => k_is)
    (case b_il => k_is)
    (case b_ic => k_is)
    (case b_cl => k_is)
    (case b_cf => rfl)
    (case b_fi => first | rfl | decide +kernel)
    (case b_cc => k_is)
    (case b_se => k_is)
    (case b_ve => k_is)
    (case b_op => k_is)
    (case b_su => first | k_is | rfl | decide +kernel)
    (case b_cd => k_is)
    (case b_hn => k_is)
    (case b_ht => k_is)
    (case b_no => k_is)

