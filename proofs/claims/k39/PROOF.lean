import PyProof.Rows.All
import Wide.All
import OpenK.AllK
import Wide.FinOn
import PySem.Challenge.RW_movedstates_k39_free_orders_exactly
import HandS.Base
import HandS.Call
import HandS.List
import HandS.Comp
import HandS.Ends
import HandS.Dict
import HandS.Iter
import HandS.Text
import HandS.More
import HandS.Words
import HandS.WordsList
import HandS.Wide
import HandS.SortInts
import HandS.DictComp
import HandS.Walk
import HandS.Exc
import HandS.ExcOwn
import HandS.TryOnly
import HandS.WordsExc
import HandS.IsInst
import HandS.ExcIs
import HandS.ExcInit
import HandS.SetKeys
import HandS.Style
import HandS.Conv
import HandS.FStr
import KE.KDictSum
import KE.KDictList
import PyProof.TupleOfSeq
import PyProof.DictValues
import KE.GoesEnum
import KE.GoesMore
import KE.SortKeyHeap
import HandS.Lambda
import HandS.SortKw
import HandS.TupAny
import PyProof.ListMulRoad
import PyProof.FactsAll.tuple_2
import HandS.TupMul
import HandS.Defaults
import HandS.CallSlots
import KE.KExcSuper
import KE.KSuper
import HandS.FStrTup
import HandS.ExcSuper
import HandS.ExcField
import KE.KExcIs
import KE.KEqSeq
import KE.LtData
import PyProof.P3Eq
import HandS.EndTab
import KE.KNestM
set_option Elab.async false
set_option linter.all false
set_option maxRecDepth 100000
set_option maxHeartbeats 4000000
namespace Mv
open PySem PySem.Spec PyProof.Rows L2
/-! ### calls by their promises -/
/-- a def that may be called by its name -/
structure CalX (CX : CXT) (P : Program) (w : World) (K : PySem.W.Frag) (mg : Str → Option Value) (base : Heap) (k : Nat) (x : Str) (sp : Sp) : Prop where
  ex : ∃ (f : Addr) (fd : FuncData) (ps : List Str), FnOk P w K mg base CX k f fd ps sp ∧ mg x = some (.ref f) ∧ PySem.W.keepIn K (.ref f) = true ∧ Binds K fd ps []
/-- a method of the class at C -/
structure MetX (CX : CXT) (P : Program) (w : World) (K : PySem.W.Frag) (mg : Str → Option Value) (base : Heap) (k : Nat) (C : Addr) (m : Str) (sp : Sp) : Prop where
  ex : ∃ (f : Addr) (fd : FuncData) (ps : List Str), Cls K C ∧ Meth K C m f ∧ FnOk P w K mg base CX k f fd ps sp ∧ Binds K fd ps []
section
variable {X : Cx} {CX : CXT} {k j : Nat} {C : Addr} {x m : Str} {sp : Sp} {E : XK} {p pos apos : Pos} {e o : Expr} {es : List Expr} {ta : TE} {t : TA}
theorem pe_cx (c : CalX CX X.prog X.w X.K X.mg X.base k x sp) (hr : Room j X.A) (hk : k ≤ j) (hx : Passes CX X E) (hg : Gl X x) (ha : PA X (e :: es) t)
    (hdb : (x == ("__debug__" : Str)) = false := by decide) (he : starEach (e :: es) X.env = (false, eval e X.env) :: starEach es X.env := by rfl) (hpl : (backTo pos (starEach es X.env)).any (·.1) = false := by rfl) :
    PE X (.Call (.Name x p) (e :: es) [] pos) (tCall sp [] E t) := by
  obtain ⟨f, fd, ps, F, hm, kp, b⟩ := c.ex
  exact pe_call F (hr.mono hk) hg hm kp b .nil hx ha hdb he hpl
theorem pe_mx {pl : Sem Bool} (c : MetX CX X.prog X.w X.K X.mg X.base k C m sp) (hr : Room j X.A) (hk : k ≤ j) (hx : Passes CX X E) (he : PE X o ta) (ha : PA X (e :: es) t)
    (hst : starEach (e :: es) X.env = (false, eval e X.env) :: starEach es X.env := by rfl) (hpl : (backTo pos (starEach es X.env)).any (·.1) = false := by rfl)
    (ht : eval (.Call (.Attribute o m apos) (e :: es) [] pos) X.env = (do
      let ov ← eval o X.env
      standAt apos.atName
      let (f, first) ← holding [ov] (getMethod ov m pl)
      callWith pos f first (backTo pos (starEach (e :: es) X.env)) (backToKw pos (keywordEach [] X.env))) := by rfl) :
    PE X (.Call (.Attribute o m apos) (e :: es) [] pos) (tMeth C m sp [] E ta t) := by
  obtain ⟨f, fd, ps, hc, hm, F, b⟩ := c.ex
  exact pe_meth (pl := pl) he hc hm F (hr.mono hk) b .nil hx ha hst hpl ht
theorem pe_mx0 {pl : Sem Bool} (c : MetX CX X.prog X.w X.K X.mg X.base k C m sp) (hr : Room j X.A) (hk : k ≤ j) (hx : Passes CX X E) (he : PE X o ta)
    (ht : eval (.Call (.Attribute o m apos) [] [] pos) X.env = (do
      let ov ← eval o X.env
      standAt apos.atName
      let (f, first) ← holding [ov] (getMethod ov m pl)
      callWith pos f first (backTo pos (starEach [] X.env)) (backToKw pos (keywordEach [] X.env))) := by rfl) :
    PE X (.Call (.Attribute o m apos) [] [] pos) (tMeth C m sp [] E ta tNil) := by
  obtain ⟨f, fd, ps, hc, hm, F, b⟩ := c.ex
  exact pe_meth0 (pl := pl) he hc hm F (hr.mono hk) b .nil hx ht
end
/-- a def of the module, as the top leaves it -/
structure DefX (K : PySem.W.Frag) (mg : Str → Option Value) (x : Str) (st : Stmt) (ps : List Str) : Prop where
  ex : ∃ (f : Addr) (fd : FuncData), Fun K x x st f fd ∧ mg x = some (.ref f) ∧ Binds K fd ps []
theorem DefX.cal {P : Program} {w : World} {K : PySem.W.Frag} {mg : Str → Option Value} {base : Heap} {CX : CXT} {k : Nat} {x : Str} {st : Stmt} {ps : List Str} {sp : Sp} (D : DefX K mg x st ps)
    (h : ∀ f fd, Fun K x x st f fd → FnOk P w K mg base CX k f fd ps sp) : CalX CX P w K mg base k x sp := by
  obtain ⟨f, fd, F, hm, b⟩ := D.ex
  exact ⟨f, fd, ps, h f fd F, hm, F.kp, b⟩
/-! ### the built-in names that stay -/
structure Bi (mg : Str → Option Value) : Prop where
  len : mg "len" = none
  range : mg "range" = none
  enumerate : mg "enumerate" = none
  abs : mg "abs" = none
  int : mg "int" = none
  list : mg "list" = none
  tuple : mg "tuple" = none
  sorted : mg "sorted" = none
  isinstance : mg "isinstance" = none
  str : mg "str" = none
  bool : mg "bool" = none
  super : mg "super" = none
  ValueError : mg "ValueError" = none
theorem cxK {CX : CXT} {P : Program} {w : World} {K : PySem.W.Frag} {mg : Str → Option Value} {base : Heap} {N : List Str} {q : Str} {sc : Scope} {f : Addr} {cdv : Value} {A : Around} {outer : List Env} {s : Shared} {H : Hp} {E : XK} : (cxOf CX P w K mg base N q sc f cdv A outer s H E).K = K := rfl
theorem cxKn {CX : CXT} {P : Program} {w : World} {K : PySem.W.Frag} {mg : Str → Option Value} {base : Heap} {N : List Str} {q : Str} {sc : Scope} {f : Addr} {cdv : Value} {A : Around} {outer : List Env} {s : Shared} {H : Hp} {E : XK} : (cxOf CX P w K mg base N q sc f cdv A outer s H E).nox.K = K := rfl
/-! ### heaps -/
/-- all but what stands at a is as it was -/
def Sx (a : Addr) (H H' : Hp) : Prop := ∀ b o, b ≠ a → H b = some o → H' b = some o
theorem Sx.refl (a : Addr) (H : Hp) : Sx a H H := fun _ _ _ h => h
theorem Sx.trans {a : Addr} {H H1 H2 : Hp} (h : Sx a H H1) (k : Sx a H1 H2) : Sx a H H2 := fun b o n e => k b o n (h b o n e)
theorem Sx.of {a : Addr} {H H' : Hp} (h : Same H H') : Sx a H H' := fun b o _ e => h b o e
theorem Sx.upd {a : Addr} {H : Hp} {o : HO} : Sx a H (upd H a o) := fun b u n e => by rw [upd_ne n]; exact e
theorem same_upd {H : Hp} {p : Addr} {o : HO} (h : H p = none) : Same H (upd H p o) := fun b x e => by
  rw [upd_ne (ne_of_none e h)]
  exact e
theorem Same.tup {K : PySem.W.Frag} {H H' : Hp} {a : Addr} {xs : List V} (e : Same H H') (h : SqT K H a xs) : SqT K H' a xs := by
  rcases h with (h | ⟨o, h⟩) | h
  · exact .inl (.inl (e _ _ h))
  · exact .inl (.inr ⟨o, e _ _ h⟩)
  · exact .inr h
/-- the stream at a -/
def Strm (H : Hp) (a : Addr) : Prop := ∃ ns : List Int, H a = some (.lst (ns.map V.int)) ∧ ns.length ≤ 4000
theorem Strm.same {H H' : Hp} {a : Addr} (h : Strm H a) (s : Same H H') : Strm H' a := by
  obtain ⟨ns, e, l⟩ := h
  exact ⟨ns, s _ _ e, l⟩
theorem Strm.some {H : Hp} {a : Addr} (h : Strm H a) : ∃ xs, H a = some (.lst xs) := by
  obtain ⟨ns, e, l⟩ := h
  exact ⟨_, e⟩
theorem Strm.ne {H : Hp} {a p : Addr} (h : Strm H a) (n : H p = none) : a ≠ p := by
  obtain ⟨ns, e, l⟩ := h
  exact ne_of_none e n
/-! ### small facts -/
def cutI (ns : List Int) (lo hi : Option Int) : List Int := (ns.drop (HT.sIx ns.length 0 lo)).take (HT.sIx ns.length ns.length hi - HT.sIx ns.length 0 lo)
theorem cutV_int (ns : List Int) (lo hi : Option Int) : cutV (ns.map V.int) lo hi = (cutI ns lo hi).map V.int := by
  unfold cutV cutI
  rw [List.length_map, List.map_take, List.map_drop]
theorem cutI_length (ns : List Int) (lo hi : Option Int) : (cutI ns lo hi).length ≤ ns.length := by
  have h := cutV_length (ns.map V.int) lo hi
  rw [cutV_int, List.length_map, List.length_map] at h
  exact h
theorem int_at {ns : List Int} {i : Nat} {y : V} (h : (ns.map V.int)[i]? = some y) : ∃ u, y = .int u ∧ ns[i]? = some u := by
  rw [List.getElem?_map] at h
  cases e : ns[i]? with
  | none =>
    rw [e] at h
    cases h
  | some u =>
    rw [e] at h
    exact ⟨u, (Option.some.inj h).symm, rfl⟩
theorem abs_nn (i : Int) : 0 ≤ (if i < 0 then -i else i) := by
  by_cases h : i < 0
  · rw [if_pos h]
    omega
  · rw [if_neg h]
    omega
theorem small4000 {n : Nat} (h : n ≤ 4000) : n < sizeLine := Nat.lt_of_le_of_lt h (by decide)
theorem small4000' {n : Nat} (h : n ≤ 4000) : n ≤ sizeLine := Nat.le_of_lt (small4000 h)
theorem ints_flat : ∀ ns : List Int, (ns.map V.int).all flatV = true
  | [] => rfl
  | n :: ns => ints_flat ns
end Mv

set_option Elab.async false
set_option linter.all false
set_option maxRecDepth 100000
set_option maxHeartbeats 1000000
namespace Mv
open PySem
/-! ### sorted lists -/
def sortI (xs : List Int) : List Int := xs.mergeSort fun a b => decide (a ≤ b)
theorem sort_perm (xs : List Int) : (sortI xs).Perm xs := List.mergeSort_perm xs _
theorem sort_le (xs : List Int) : (sortI xs).Pairwise (· ≤ ·) := by
  have h := List.pairwise_mergeSort (le := fun a b : Int => decide (a ≤ b)) (fun a b c h1 h2 => by
    have h1 := of_decide_eq_true h1
    have h2 := of_decide_eq_true h2
    exact decide_eq_true (Int.le_trans h1 h2)) (fun a b => by
    by_cases h : a ≤ b
    · simp [h]
    · have : b ≤ a := by omega
      simp [this]) xs
  exact h.imp fun h => of_decide_eq_true h
theorem sorted_one : ∀ {xs ys : List Int}, xs.Perm ys → xs.Pairwise (· ≤ ·) → ys.Pairwise (· ≤ ·) → xs = ys
  | [], ys, h, _, _ => (List.Perm.nil_eq h)
  | x :: xs, [], h, _, _ => absurd h.length_eq (by simp)
  | x :: xs, y :: ys, h, h1, h2 => by
    have a := List.pairwise_cons.mp h1
    have b := List.pairwise_cons.mp h2
    have e : x = y := by
      have m1 : x ∈ y :: ys := h.mem_iff.mp List.mem_cons_self
      have m2 : y ∈ x :: xs := h.mem_iff.mpr List.mem_cons_self
      rcases List.mem_cons.mp m1 with e | m1
      · exact e
      · rcases List.mem_cons.mp m2 with e | m2
        · exact e.symm
        · exact Int.le_antisymm (a.1 _ m2) (b.1 _ m1)
    subst e
    rw [sorted_one (List.Perm.cons_inv h) a.2 b.2]
theorem sort_is {xs ys : List Int} (h : xs.Perm ys) (s : xs.Pairwise (· ≤ ·)) : xs = sortI ys := sorted_one (h.trans (sort_perm ys).symm) s (sort_le ys)
theorem sort_congr {xs ys : List Int} (h : xs.Perm ys) : sortI xs = sortI ys := sort_is ((sort_perm xs).trans h) (sort_le xs)
theorem sort_nodup {xs : List Int} (h : xs.Nodup) : (sortI xs).Nodup := (sort_perm xs).nodup_iff.mpr h
theorem mem_sort {x : Int} {xs : List Int} : x ∈ sortI xs ↔ x ∈ xs := (sort_perm xs).mem_iff
theorem perm_of_mem {xs ys : List Int} (h1 : xs.Nodup) (h2 : ys.Nodup) (h : ∀ x, x ∈ xs ↔ x ∈ ys) : xs.Perm ys := (List.perm_ext_iff_of_nodup h1 h2).mpr h
theorem sort_mem {xs ys : List Int} (h1 : xs.Nodup) (h2 : ys.Nodup) (h : ∀ x, x ∈ xs ↔ x ∈ ys) : sortI xs = sortI ys := sort_congr (perm_of_mem h1 h2 h)
/-! ### each value once, where it comes first -/
def addI (acc : List Int) (x : Int) : List Int := if x ∈ acc then acc else acc ++ [x]
def headsA (acc xs : List Int) : List Int := xs.foldl addI acc
def headsI (xs : List Int) : List Int := headsA [] xs
def tailsI (xs : List Int) : List Int := (headsI xs.reverse).reverse
theorem headsA_snoc (acc xs : List Int) (x : Int) : headsA acc (xs ++ [x]) = addI (headsA acc xs) x := by
  unfold headsA
  rw [List.foldl_append]
  rfl
theorem headsA_app (acc xs ys : List Int) : headsA acc (xs ++ ys) = headsA (headsA acc xs) ys := by
  unfold headsA
  rw [List.foldl_append]
theorem headsI_snoc (xs : List Int) (x : Int) : headsI (xs ++ [x]) = addI (headsI xs) x := headsA_snoc [] xs x
theorem mem_addI {acc : List Int} {x y : Int} : y ∈ addI acc x ↔ y ∈ acc ∨ y = x := by
  unfold addI
  split
  · rename_i h
    exact ⟨.inl, fun z => z.elim id fun e => e ▸ h⟩
  · simp
theorem snoc_ind {P : List Int → Prop} (h0 : P []) (hs : ∀ xs x, P xs → P (xs ++ [x])) (xs : List Int) : P xs := by
  have h : ∀ ys : List Int, P ys.reverse := fun ys => by
    induction ys with
    | nil => exact h0
    | cons y ys ih =>
      rw [List.reverse_cons]
      exact hs _ _ ih
  have e := h xs.reverse
  rw [List.reverse_reverse] at e
  exact e
theorem mem_headsI {y : Int} (xs : List Int) : y ∈ headsI xs ↔ y ∈ xs := by
  induction xs using snoc_ind with
  | h0 => exact Iff.rfl
  | hs xs x ih =>
    rw [headsI_snoc, mem_addI, ih]
    simp
theorem nodup_addI {acc : List Int} {x : Int} (h : acc.Nodup) : (addI acc x).Nodup := by
  unfold addI
  split
  · exact h
  · rename_i hx
    refine List.nodup_append.mpr ⟨h, by simp, fun a ha b hb => ?_⟩
    rw [List.mem_singleton] at hb
    rw [hb]
    exact fun e => hx (e ▸ ha)
theorem nodup_headsI (xs : List Int) : (headsI xs).Nodup := by
  induction xs using snoc_ind with
  | h0 => exact List.nodup_nil
  | hs xs x ih =>
    rw [headsI_snoc]
    exact nodup_addI ih
theorem headsI_nodup (xs : List Int) : xs.Nodup → headsI xs = xs := by
  induction xs using snoc_ind with
  | h0 => exact fun _ => rfl
  | hs xs x ih =>
    intro h
    obtain ⟨h1, _, h3⟩ := List.nodup_append.mp h
    rw [headsI_snoc, ih h1]
    unfold addI
    rw [if_neg fun hx => h3 x hx x (by simp) rfl]
theorem headsA_eq (acc xs : List Int) : headsA acc xs = acc ++ (headsI xs).filter fun x => decide (x ∉ acc) := by
  induction xs using snoc_ind with
  | h0 => simp [headsA, headsI]
  | hs xs x ih =>
    rw [headsA_snoc, headsI_snoc, ih]
    have hm := mem_headsI (y := x) xs
    unfold addI
    by_cases ha : x ∈ acc
    · rw [if_pos (List.mem_append_left _ ha)]
      split
      · rfl
      · rw [List.filter_append]
        simp [ha]
    · by_cases hx : x ∈ headsI xs
      · rw [if_pos hx, if_pos (List.mem_append_right _ (List.mem_filter.mpr ⟨hx, by simp [ha]⟩))]
      · rw [if_neg hx, if_neg, List.filter_append]
        · simp [ha]
        · intro z
          rcases List.mem_append.mp z with z | z
          · exact ha z
          · exact hx (List.mem_filter.mp z).1
theorem headsI_idem (xs : List Int) : headsI (headsI xs) = headsI xs := headsI_nodup _ (nodup_headsI xs)
theorem headsI_join (u v : List Int) : headsI (headsI u ++ headsI v) = headsI (u ++ v) := by
  show headsA [] _ = headsA [] _
  rw [headsA_app, headsA_app]
  show headsA (headsI (headsI u)) (headsI v) = headsA (headsI u) v
  rw [headsI_idem, headsA_eq, headsI_idem, ← headsA_eq]
theorem tailsI_idem (xs : List Int) : tailsI (tailsI xs) = tailsI xs := by
  unfold tailsI
  rw [List.reverse_reverse, headsI_idem]
theorem tailsI_join (u v : List Int) : tailsI (tailsI u ++ tailsI v) = tailsI (u ++ v) := by
  unfold tailsI
  rw [List.reverse_append, List.reverse_reverse, List.reverse_reverse, headsI_join, List.reverse_append]
/-! ### plain values -/
def firstI (xs : List Int) : List Int := xs.take 1
def lastI (xs : List Int) : List Int := xs.drop (xs.length - 1)
def endsI (xs : List Int) : List Int := xs.take 1 ++ xs.drop (xs.length - 1)
/-- the eight kinds -/
inductive Kd where
  | list | bag | set | first | last | ends | heads | tails
  deriving DecidableEq
def Kd.nm : Kd → Str
  | .list => "list" | .bag => "bag" | .set => "set" | .first => "first" | .last => "last" | .ends => "ends" | .heads => "heads" | .tails => "tails"
def kds : List Kd := [.list, .bag, .set, .first, .last, .ends, .heads, .tails]
def plainI (k : Kd) (xs : List Int) : List Int :=
  match k with
  | .list => xs
  | .bag => sortI xs
  | .set => sortI (headsI xs)
  | .first => firstI xs
  | .last => lastI xs
  | .ends => endsI xs
  | .heads => headsI xs
  | .tails => tailsI xs
theorem lastI_snoc (xs : List Int) (x : Int) : lastI (xs ++ [x]) = [x] := by
  unfold lastI
  rw [List.length_append]
  simp
theorem first_join (u v : List Int) : firstI (firstI u ++ firstI v) = firstI (u ++ v) := by
  cases u with
  | nil => cases v <;> rfl
  | cons x u => rfl
theorem last_join (u v : List Int) : lastI (lastI u ++ lastI v) = lastI (u ++ v) := by
  induction v using snoc_ind with
  | h0 =>
    induction u using snoc_ind with
    | h0 => rfl
    | hs u x _ => simp [lastI_snoc, lastI]
  | hs v y _ => rw [lastI_snoc, lastI_snoc, ← List.append_assoc, lastI_snoc]
theorem endsI_eq (xs : List Int) : endsI xs = firstI xs ++ lastI xs := rfl
theorem last_ends (xs : List Int) : lastI (endsI xs) = lastI xs := by
  induction xs using snoc_ind with
  | h0 => rfl
  | hs xs x _ => rw [endsI_eq, lastI_snoc, lastI_snoc]
theorem first_ends (xs : List Int) : firstI (endsI xs) = firstI xs := by
  cases xs with
  | nil => rfl
  | cons x xs => rfl
theorem first_app (u v : List Int) : firstI (u ++ v) = firstI (firstI u ++ firstI v) := (first_join u v).symm
theorem last_app (u v : List Int) : lastI (u ++ v) = lastI (lastI u ++ lastI v) := (last_join u v).symm
theorem ends_join (u v : List Int) : endsI (endsI u ++ endsI v) = endsI (u ++ v) := by
  rw [endsI_eq (_ ++ _), endsI_eq (u ++ v), first_app (endsI u), last_app (endsI u), first_ends, first_ends, last_ends, last_ends, first_join, last_join]
theorem plain_join (k : Kd) (u v : List Int) : plainI k (plainI k u ++ plainI k v) = plainI k (u ++ v) := by
  cases k with
  | list => rfl
  | bag => exact sort_congr ((sort_perm u).append (sort_perm v))
  | set =>
    refine sort_mem (nodup_headsI _) (nodup_headsI _) fun x => ?_
    show x ∈ headsI (sortI (headsI u) ++ sortI (headsI v)) ↔ _
    rw [mem_headsI, mem_headsI, List.mem_append, List.mem_append, mem_sort, mem_sort, mem_headsI, mem_headsI]
  | first => exact first_join u v
  | last => exact last_join u v
  | ends => exact ends_join u v
  | heads => exact headsI_join u v
  | tails => exact tailsI_join u v
theorem sort_nil : sortI [] = [] := List.Perm.eq_nil (sort_perm [])
theorem plain_nil (k : Kd) : plainI k [] = [] := by
  cases k with
  | bag => exact sort_nil
  | set => exact sort_nil
  | _ => rfl
theorem plain_idem (k : Kd) (u : List Int) : plainI k (plainI k u) = plainI k u := by
  have h := plain_join k u []
  rw [plain_nil, List.append_nil, List.append_nil] at h
  exact h
theorem headsI_len (xs : List Int) : (headsI xs).length ≤ xs.length := by
  induction xs using snoc_ind with
  | h0 => exact Nat.le_refl _
  | hs xs x ih =>
    rw [headsI_snoc, List.length_append]
    unfold addI
    split
    · omega
    · rw [List.length_append]
      simp only [List.length_singleton]
      omega
theorem plain_len (k : Kd) (xs : List Int) : (plainI k xs).length ≤ 2 * xs.length := by
  have h := headsI_len xs
  have h2 := headsI_len xs.reverse
  rw [List.length_reverse] at h2
  cases k with
  | list => show xs.length ≤ _; omega
  | bag => show (sortI xs).length ≤ _; rw [(sort_perm xs).length_eq]; omega
  | set => show (sortI (headsI xs)).length ≤ _; rw [(sort_perm (headsI xs)).length_eq]; omega
  | first => show (xs.take 1).length ≤ _; rw [List.length_take]; omega
  | last => show (xs.drop (xs.length - 1)).length ≤ _; rw [List.length_drop]; omega
  | ends => show (xs.take 1 ++ xs.drop (xs.length - 1)).length ≤ _; rw [List.length_append, List.length_take, List.length_drop]; omega
  | heads => show (headsI xs).length ≤ _; omega
  | tails => show ((headsI xs.reverse).reverse).length ≤ _; rw [List.length_reverse]; omega
end Mv

set_option Elab.async false
set_option linter.all false
set_option maxRecDepth 100000
set_option maxHeartbeats 4000000
namespace Mv
open PySem PySem.Spec PyProof.Rows L2
/-! ### C() where no class on the way has an __init__ -/
structure Mk0 (K : PySem.W.Frag) (C : Addr) : Prop where
  makes : PySem.W.makesIn K C = true
  init : PySem.W.findIn K (.ref C) "__init__" = some (some (.builtin "object.__init__"))
  top : PySem.W.mroIn K C (.type "object") = some true
  kp : PySem.W.keepIn K (.ref C) = true
def tMake0 (C : Addr) : TE := fun _ H Q => ∀ x dx, H x = none → H dx = none → dx ≠ x → Q (.ref x) (upd (upd H dx (.own x)) x (.ins C dx []))
section
variable {X : Cx} {pins : List (Addr × Obj)} {σ : L2.St} {H : Hp} {s : Shared} {Q : VK} {C : Addr}
theorem run_makeB (M : Mk0 X.K C) (I : Inv X pins σ H s) (h : ∀ x dx, H x = none → H dx = none → dx ≠ x → Q (.ref x) (upd (upd H dx (.own x)) x (.ins C dx []))) :
    wpAny (model X.prog X.w) X.A (call (.ref C) []) (EP X pins σ Q) X.xe s := by
  have hq := h (s.heap.objs.size + 1) s.heap.objs.size (I.hok.fresh (Nat.le_succ _)) (I.hok.fresh (Nat.le_refl _)) (Nat.ne_of_lt (Nat.lt_succ_self _))
  have J := Inv.made (C := C) I
  refine wpAny_call (make_map0 I.kIn M.makes M.init (fun self => PySem.W.Looks.of_pure (PySem.W.oi_bind _)) ?_)
  obtain ⟨o, ho, hc⟩ : ∃ o : Obj, ((s.heap.push PySem.W.emptyDict).push (PySem.W.instObj C s.heap.objs.size)).get? (s.heap.objs.size + 1) = some o ∧ o.cls = .ref C := by
    obtain ⟨_, _, _, e, _⟩ := J.hok _ _ upd_same
    exact ⟨_, e, rfl⟩
  have ty : PySem.W.Looks (model X.prog X.w) ((s.heap.push PySem.W.emptyDict).push (PySem.W.instObj C s.heap.objs.size)) (typeOf (.ref (s.heap.objs.size + 1))) (.ref C) := (PySem.W.Looks.ld ho).andThen (by rw [hc]; exact .now)
  have top : PySem.W.Looks (model X.prog X.w) ((s.heap.push PySem.W.emptyDict).push (PySem.W.instObj C s.heap.objs.size)) (isInstance (.ref (s.heap.objs.size + 1)) (.type "object")) true := ty.andThen (PySem.W.looks_mroIn J.kIn M.top)
  refine codeAny_call_builtin PySem.W.oi_plain PySem.W.entry_oi (@PySem.W.check_slot (model X.prog X.w) _ _ _ "object.__init__" "object" "__init__" (.ref (s.heap.objs.size + 1)) [] [] _ PySem.W.oi_kind PySem.W.oi_split top (PySem.W.oi_args _) ?_)
  rw [PySem.W.oi_run]
  exact wpAny_pure ⟨rfl, .ref (s.heap.objs.size + 1), _, J, rfl, hq⟩
theorem pe_makeB {x : Str} {p pos : Pos} (M : Mk0 X.K C) (hg : Gl X x) (hm : X.mg x = some (.ref C)) (hdb : (x == ("__debug__" : Str)) = false := by decide) : PE X (.Call (.Name x p) [] [] pos) (tMake0 C) := by
  refine ⟨fun pins s σ H Q I h => ?_⟩
  refine wpAny_Call_Name_kw (ld_glob I hg hm ?_ hdb)
  exact PySem.W.callWith_K0 I.kIn M.kp (run_makeB M I h)
end
theorem paired_at {α β : Type} {F : α → β → Prop} : ∀ {xs : List α} {ys : List β} {i : Nat} {y : β}, Paired F xs ys → ys[i]? = some y → ∃ x, xs[i]? = some x ∧ F x y
  | _, _, i, y, .nil, h => by cases h
  | _, _, 0, y, .cons r t, h => ⟨_, rfl, by cases h; exact r⟩
  | _, _, i + 1, y, .cons r t, h => paired_at (i := i) t h
/-! ### sorted of ints, whatever they are collected from -/
section
variable {X : Cx} {pins : List (Addr × Obj)} {σ : L2.St} {H : Hp} {s : Shared} {Q : VK}
theorem sorted_from (I : Inv X pins σ H s) {v : Value} {ns : List Int} (hz : ns.length ≤ sizeLine)
    (hc : ∀ R : List Value → Shared → Prop, (∀ (h' : Heap) (tk : Nat) (acc : List Value), (∀ b o, s.heap.get? b = some o → h'.get? b = some o) → IntsAre acc ns → R acc { s with heap := h', toks := tk }) → wpAny (model X.prog X.w) X.A.in1 (collect v) R X.xe s)
    (q : ∀ p : Addr, H p = none → Q (.ref p) (upd H p (.lst ((sortI ns).map V.int)))) :
    wpAny (model X.prog X.w) X.A (call (.builtin "sorted") [v]) (EP X pins σ Q) X.xe s := by
  refine Calls.call_function_entry PyProof.Rows.kind_sorted PyProof.Rows.plain_sorted PyProof.Rows.entry_sorted (PyProof.Rows.args_sorted1 _) ?_
  unfold Builtin.«sorted»
  refine wpAny_bind (m := checkCount "sorted" 1 1 _) (wpAny_pure (wpAny_bind (hc _ fun h' tk acc hk hi => ?_)))
  have I1 : Inv X pins σ H { s with heap := h', toks := tk } := I.kept hk
  have hl : acc.length = ns.length := hi.length
  refine wpAny_bind (wpAny_newList ?_ (by rw [hl]; exact hz))
  have ho : (h'.push (seqObj "list" acc.toArray 0)).get? h'.objs.size = some (seqObj "list" acc.toArray 0) := Heap.get?_push_size _ rfl
  show wpAny _ _ _ _ _ { s with heap := h'.push (seqObj "list" acc.toArray 0), toks := tk }
  refine wpAny_bind (wpAny_holding (wpAny_call_entry PyProof.Rows.slot_list_sort ⟨_, ho, rfl⟩ PyProof.Rows.entry_list_sort
    (SrtO.list_sort_ord (s := { s with heap := h'.push (seqObj "list" acc.toArray 0), toks := tk }) SrtO.swo_int ho (by rw [hl]; exact hz) (fun h2 => SrtO.ints_sortable hi h2) fun out k1 k2 => ⟨_, rfl, ?_⟩) (PyProof.Rows.args_list_sort _)))
  obtain ⟨g1, g2, g3⟩ := SrtO.ints_out hi k1 k2
  rw [sort_is g2 g3] at g1
  obtain ⟨e', he'⟩ := PyProof.Rows.sortedHeap_at (vs := acc) (out := out.toArray) ho
  refine wpAny_pure ⟨_, rfl, .ref h'.objs.size, upd H h'.objs.size (.lst ((sortI ns).map V.int)), I1.laid (t' := tk) (fun b u e => ?_) (Nat.le_refl _)
    (show ObjOk X.prog X.w _ _ _ (.lst ((sortI ns).map V.int)) from ⟨by rw [List.length_map, (sort_perm ns).length_eq]; exact hz, out, e', vals_of_ints g1, he'⟩), rfl, q _ (I1.hok.fresh (Nat.le_refl _))⟩
  have hb : b < h'.objs.size := Heap.lt_size e
  rw [PyProof.Rows.sortedHeap_old (Nat.ne_of_lt hb) (by rw [size_push']; exact Nat.lt_succ_of_lt hb)]
  exact Heap.get?_push_of_some _ e
/-- sorted(t), t a tuple of ints -/
def rSortT (K : PySem.W.Frag) : List V → Hp → VK → Prop := fun vs H Q => ∃ (a : Addr) (ns : List Int), vs = [V.ref a] ∧ SqT K H a (ns.map V.int) ∧ ∀ p : Addr, H p = none → Q (.ref p) (upd H p (.lst ((sortI ns).map V.int)))
theorem cr_sortT' : CallR X (.builtin "sorted") (rSortT X.K) := by
  intro pins s σ H vs us Q I r h
  obtain ⟨a, ns, rfl, hs, q⟩ := h
  rw [Vals.ref1 r]
  obtain ⟨its, rv, ⟨o, h1, h2, n, h3⟩, hz⟩ := I.tuple hs
  have hi := rv.ints
  have hl := hi.length
  rw [List.length_map] at hz
  refine sorted_from I hz (fun R k => wpAny_collect_seq a (.inr rfl) h1 h2 h3 (fun h' hk => ?_) (by rw [List.size_toArray, hl]; exact hz)) q
  have := k h' s.toks its hk hi
  simpa using this
/-- sorted(l), l a list of ints -/
def rSortL (K : PySem.W.Frag) : List V → Hp → VK → Prop := fun vs H Q => ∃ (a : Addr) (ns : List Int), vs = [V.ref a] ∧ SqL K H a (ns.map V.int) ∧ ∀ p : Addr, H p = none → Q (.ref p) (upd H p (.lst ((sortI ns).map V.int)))
theorem cr_sortL : CallR X (.builtin "sorted") (rSortL X.K) := by
  intro pins s σ H vs us Q I r h
  obtain ⟨a, ns, rfl, hs, q⟩ := h
  refine cr_sortedI pins s σ H _ us Q I r ⟨a, ns, rfl, hs, fun ns' p k1 k2 hp => ?_⟩
  rw [sort_is k1 k2]
  exact q p hp
/-! ### d.values() as a thing of its own -/
def valuesO (p d : Addr) : HO := .ext fun h => h.IsValuesView p d
def tVals (td : TE) : TE := fun σ H Q => td σ H fun x H1 => ∃ d kvs, x = .ref d ∧ H1 d = some (.dK kvs) ∧ ∀ p, H1 p = none → Q (.ref p) (upd H1 p (valuesO p d))
theorem pe_vals {e : Expr} {td : TE} {apos cpos : Pos} (he : PE X e td) (hbase : attributeBase e "values" X.env (eval e X.env) = eval e X.env := by rfl) (hline : (apos.endLine == cpos.line) = true := by rfl) : PE X (.Call (.Attribute e "values" apos) [] [] cpos) (tVals td) := by
  refine ⟨fun pins s σ H Q I h => ?_⟩
  refine wpAny_Call_method (T := "dict") (id := "dict.values") hbase rfl hline F.plainAttrs_dict F.slot_dict_values F.type_dict_values (thn (he.run pins s σ H _ I h) fun u s1 ⟨x, H1, I1, rx, d, kvs, ex, hd, q⟩ => ?_)
  subst ex
  obtain rfl : u = Value.ref d := rx
  obtain ⟨z, hgd, vs, kv, dd⟩ := dk_of I1.hok hd
  refine ⟨dd.typeIs, dd.mapOf.noDict, ?_⟩
  have hf : H1 s1.heap.objs.size = none := I1.hok.fresh (Nat.le_refl _)
  have e0 : (s1.heap.push { cls := .type "dict_values", data := .fields #[.ref d] }).get? s1.heap.objs.size = some { cls := .type "dict_values", data := .fields #[.ref d] } := Heap.get?_push_size _ rfl
  have J := I1.laid (a := s1.heap.objs.size) (o := valuesO s1.heap.objs.size d) (h' := s1.heap.push { cls := .type "dict_values", data := .fields #[.ref d] }) (t' := s1.toks) (fun b u e => Heap.get?_push_of_some _ e) (Nat.le_refl _) ⟨⟨_, e0, rfl, rfl⟩, ⟨_, e0⟩, fun h1 h2 ⟨o, ho, r⟩ k => ⟨o, k o ho, r⟩⟩
  show wpAny _ _ (callWith cpos (.builtin "dict.values") [.ref d] [] []) _ X.xe s1
  exact method_meetsIn F.slot_dict_values F.entry_dict_values rfl (PySem.evalArgs_none ⟨rfl, dd.typeIs, F.args_dict_values_1 _, _, meets_dict_values (mixKind X.prog X.w) d hgd, ⟨vs, dd⟩, ⟨.ref s1.heap.objs.size, _, J, rfl, q _ hf⟩⟩)
/-- sorted(v), v the values of a dict, all ints -/
def rSortV : List V → Hp → VK → Prop := fun vs H Q => ∃ (p d : Addr) (kvs : List (Key × V)) (ns : List Int), vs = [V.ref p] ∧ H p = some (valuesO p d) ∧ H d = some (.dK kvs) ∧ kvs.map (·.2) = ns.map V.int ∧ ∀ l : Addr, H l = none → Q (.ref l) (upd H l (.lst ((sortI ns).map V.int)))
theorem cr_sortV (hcalm : X.calm = true) : CallR X (.builtin "sorted") rSortV := by
  intro pins s σ H vs us Q I r h
  obtain ⟨p, d, kvs, ns, rfl, hp, hd, hv, q⟩ := h
  rw [Vals.ref1 r]
  have view : s.heap.IsValuesView p d := (show ObjOk X.prog X.w H s.heap p (valuesO p d) from I.hok p _ hp).1
  obtain ⟨z, lo, ws, rel, dd⟩ := dk_of I.hok hd
  obtain ⟨ep, hat⟩ := dd.dictAt
  have hlv : kvs.length = ws.length := rel.length
  have hln : kvs.length = ns.length := by
    have e := congrArg List.length hv
    rw [List.length_map, List.length_map] at e
    exact e
  refine sorted_from I (by rw [← hln]; exact z) (fun R k => PySem.W.kdu_collect (A := X.A.in1) (PySem.W.kdl_values (knd := mixKind X.prog X.w) (kvs := ws) (ep := ep)) (I.ok.hd hcalm) ⟨view, hat⟩ (by rw [← hlv]; exact z) fun h' tk acc hk hacc => k h' tk acc.toList hk ?_) q
  refine ints_each (by rw [Array.length_toList, hacc.1, ← hlv, hln]) fun j v e => ?_
  rw [Array.getElem?_toList] at e
  obtain ⟨key, e1⟩ := hacc.2 j v e
  obtain ⟨kv, e2, e3, e4⟩ := paired_at rel e1
  have e5 : (kvs.map (·.2))[j]? = some kv.2 := by rw [List.getElem?_map, e2]; rfl
  rw [hv] at e5
  obtain ⟨u, eu, e6⟩ := int_at e5
  rw [eu] at e4
  obtain ⟨t, e4⟩ := e4
  exact ⟨u, t, e6, e4⟩
end
end Mv

set_option Elab.async false
set_option linter.all false
set_option maxRecDepth 100000
set_option maxHeartbeats 4000000
namespace Mv
open PySem PySem.Spec PyProof.Rows L2
/-! ### enumerate(t), t a tuple -/
set_option maxHeartbeats 8000000 in
theorem enum_new1 {v : Value} {o : Obj} {Hh : Heap → Prop} (B : Begins v o Hh) :
    Meets (Builtin.«enumerate.__new__» ⟨[.type "enumerate", v], []⟩) (fun _ R s => Hh s.heap ∧
      R (.ok (.ret (.ref (s.heap.push o).objs.size))) { s with heap := (s.heap.push o).push { cls := .type "enumerate", data := .fields #[.none, .bool false, .ref s.heap.objs.size, rawInt 0, .none, .none] } }) :=
  .of_wp fun prog w A R s h => by
    obtain ⟨hp, g, d, tk, os⟩ := s
    obtain ⟨h1, h⟩ := h
    have hsub := sub_enumerate
    have q1 : ∀ {A' : Around} {E : Value → Shared → Prop} {Q : Value → Shared → Prop}, Q (.ref hp.objs.size) ⟨hp.push o, g, d, tk, os⟩ → wpAny (model prog w) A' (pyIter v) Q E ⟨hp, g, d, tk, os⟩ :=
      fun q => B.iter prog w _ _ ⟨hp, g, d, tk, os⟩ _ h1 q
    wp_walk using q1
    refine wpAny_stack_any fun st => wpAny_pure ?_
    split
    · rename_i c _ _ _ _ _
      cases (c == Value.type "enumerate") <;> (wp_walk using q1) <;> exact ⟨_, rfl, h⟩
    · wp_walk using q1
      exact ⟨_, rfl, h⟩
theorem enum_one {prog : Program} {w : World} {A : Around} {E : Value → Shared → Prop} {s : Shared} {v : Value} {o : Obj} {Hh : Heap → Prop} {Q : Value → Shared → Prop} (B : Begins v o Hh) (h1 : Hh s.heap)
    (h : ∀ h', IsEnum h' (s.heap.objs.size + 1) s.heap.objs.size 0 .none → h'.get? s.heap.objs.size = some o → h'.objs.size = s.heap.objs.size + 2 →
      (∀ b o, s.heap.get? b = some o → h'.get? b = some o) → Q (.ref (s.heap.objs.size + 1)) { s with heap := h' }) :
    wpAny (model prog w) A (call (.type "enumerate") [v]) Q E s := by
  refine callType_new F.called_enumerate (by decide) (F.typeCall_enumerate_1 _) (F.newCall_enumerate_1 _) (fun obj => F.args_object_init_2 obj _) F.entry_enumerate_new (enum_new1 B) ⟨h1, ?_⟩
  have hz : (s.heap.push o).objs.size = s.heap.objs.size + 1 := Heap.size_push ..
  show _ ∧ _
  rw [hz]
  have he := Heap.get?_push_size (s.heap.push o) (o := { cls := .type "enumerate", data := .fields #[.none, .bool false, .ref s.heap.objs.size, rawInt 0, .none, .none] }) rfl
  rw [hz] at he
  exact ⟨⟨_, he, rfl⟩, h _ he (Heap.get?_push_of_some _ (Heap.get?_push_size _ B.free)) (by rw [Heap.size_push, hz]) fun b u x => Heap.get?_push_of_some _ (Heap.get?_push_of_some _ x)⟩
/-- the tuple at a, each item in a new pair -/
def IteT (K : PySem.W.Frag) (a : Addr) : It where
  go := fun i H => ∃ (xs : List V) (x : V), SqT K H a xs ∧ xs[i]? = some x
  yld := fun i H v H' => ∃ T x, v = .ref T ∧ H T = none ∧ H' = upd H T (.tup [.int (i : Nat), x]) ∧ ∀ xs, SqT K H a xs → xs[i]? = some x
  stop := fun i H => ∃ xs : List V, SqT K H a xs ∧ xs.length = i
theorem turn_enumT {P : Program} {w : World} {K : PySem.W.Frag} {elts : List Expr} {kk : Nat} {tpos : Pos} {a e it : Addr} (hae : a ≠ e) (hai : a ≠ it) :
    Turn P w K (.Tuple elts kk tpos) (IteT K a) [e, it] e (fun i h => (∃ old, IsEnum h e it ((i : Nat) : Int) old) ∧ h.IsTupleIter it a i ∧ e ≠ it) where
  mem := List.mem_cons_self ..
  obj := fun i h st b hb => by
    obtain ⟨⟨old, he⟩, ⟨o, ho, hc, hd⟩, _⟩ := st
    rcases List.mem_cons.mp hb with z | z
    · rw [z]
      exact ⟨_, he, fun v q => nomatch q⟩
    · rw [List.mem_singleton.mp z]
      exact ⟨o, ho, fun v q => by rw [hd] at q; cases q⟩
  keep := fun i h h' st k => by
    obtain ⟨⟨old, he⟩, ⟨o, ho, hc, hd⟩, hne⟩ := st
    exact ⟨⟨old, k e (by simp) _ he⟩, ⟨o, k it (by simp) o ho, hc, hd⟩, hne⟩
  item := by
    intro X hP hw hK hc i pins s σ H E I hf st hg
    subst hP hw hK
    obtain ⟨⟨old, he⟩, hit, hne⟩ := st
    obtain ⟨xs, x, hq, hx⟩ := hg
    obtain ⟨its, rv, ⟨o, h1, h2, n, h3⟩, hz⟩ := I.tuple hq
    have p : s.heap.IsTuple a its.toArray := ⟨o, h1, h2, n, h3⟩
    obtain ⟨u, hu, ru⟩ := rv.get hx
    have hi : i < its.toArray.size := by
      rw [List.size_toArray]
      exact (List.getElem?_eq_some_iff.mp hu).1
    have hel : e < s.heap.objs.size := Heap.lt_size he
    have hil : it < s.heap.objs.size := by
      obtain ⟨_, q, _⟩ := hit
      exact Heap.lt_size q
    refine wpAny_pyNext_enum_itemD (Draws.tuple (by exact I.ok.hd hc) it a hai its.toArray) he ⟨hit, p⟩ hi hne (by simp [hne, Ne.symm hae]) fun x' h' tk px ho hs' hT hsz hk => ?_
    obtain rfl : u = x' := by
      rw [List.getElem?_toArray, hu] at px
      exact Option.some.inj px
    refine ⟨_, rfl, wpAny_letOwnedTupleGo_enum (s := { s with heap := h', toks := tk + 1 }) ho fun h'' he' sb => ?_⟩
    have hT2 : h''.get? s.heap.objs.size = some { cls := .type "tuple", data := .seq #[.int i tk, u] } := (sb.2 _ (Nat.ne_of_gt hel)).trans hT
    have new : ObjOk X.prog X.w (upd H s.heap.objs.size (.tup [.int (i : Nat), x])) h'' s.heap.objs.size (.tup [.int (i : Nat), x]) :=
      ⟨by show 2 ≤ sizeLine; decide, [.int i tk, u], .cons ⟨_, rfl⟩ (.cons ru .nil), ⟨_, hT2, rfl, _, rfl⟩⟩
    have I1 : Inv X pins σ (upd H s.heap.objs.size (.tup [.int (i : Nat), x])) { s with heap := h'', toks := tk + 1 } :=
      I.turnedNew (ch := [e, it]) (fun b ob hb q => (sb.2 b (fun z => hb (by simp [z]))).trans (hk b ob (fun z => hb (by simp [z])) (fun z => hb (by simp [z])) q)) hf (Nat.le_refl _) new
    refine ⟨.ref s.heap.objs.size, _, I1, rfl, ⟨_, x, rfl, I.hok.fresh (Nat.le_refl _), rfl, fun ys hy => by rw [I.tuple_inj hy hq]; exact hx⟩, ⟨⟨u, ?_⟩, hs'.1.at fun o q => (sb.2 it (Ne.symm hne)).trans q, hne⟩, fun b hb => ?_⟩
    · rw [show ((i + 1 : Nat) : Int) = (i : Int) + 1 from by omega]
      exact he'
    · have hb' : b < s.heap.objs.size := by
        rcases List.mem_cons.mp hb with z | z
        · rw [z]
          exact hel
        · rw [List.mem_singleton.mp z]
          exact hil
      rw [upd_ne (Nat.ne_of_lt hb')]
      exact (hf b hb).1
  done := by
    intro X hP hw hK hc i pins s σ H E I hf st hg
    subst hP hw hK
    obtain ⟨⟨old, he⟩, hit, hne⟩ := st
    obtain ⟨xs, hq, hx⟩ := hg
    obtain ⟨its, rv, ⟨o, h1, h2, n, h3⟩, hz⟩ := I.tuple hq
    have p : s.heap.IsTuple a its.toArray := ⟨o, h1, h2, n, h3⟩
    obtain ⟨f0, f1, f2, f3, f4, f5⟩ := hf it (by simp)
    have hl := rv.length
    have hz' : its.toArray.size = i := by
      rw [List.size_toArray, ← hl, hx]
    refine wpAny_pyNext_enum_endD (Draws.tuple (by exact I.ok.hd hc) it a hai its.toArray) he ⟨by rw [hz']; exact hit, p⟩ fun h' eb => ⟨rfl, I.turned (t' := s.toks) (fun b o hb q => eb b o hb q) f0 f1 f3 f4 f5⟩
  self := fun A i s Q E st h => let ⟨⟨_, he⟩, _⟩ := st; wpAny_pyIter_enum he h
def iEnumT (K : PySem.W.Frag) (ta : TA) : TI := fun σ H R => ta σ H fun vs H1 => ∃ a xs, vs = [.ref a] ∧ SqT K H1 a xs ∧ R (IteT K a) H1
theorem pi_enumT {X : Cx} {e : Expr} {ta : TA} {p pos tpos : Pos} {elts : List Expr} {kk : Nat} (hg : Gl X "enumerate") (hm : X.mg "enumerate" = none) (ha : PA X [e] ta) (hs : starEach [e] X.env = [(false, eval e X.env)] := by rfl) :
    PI X (.Tuple elts kk tpos) (.Call (.Name "enumerate" p) [e] [] pos) (iEnumT X.K ta) := by
  refine ⟨fun pins s σ H R I h => ?_⟩
  refine Call_ (ld_blt I hg hm boot_enumerate (PyProof.Rows.callWith_type1 (thn (ha.run pos pins s σ H _ I h) fun us s1 ⟨vs, H1, I1, r1, q1⟩ => ?_) hs rfl))
  obtain ⟨a, xs, rfl, hq, q⟩ := q1
  rw [Vals.ref1 r1]
  obtain ⟨its, rv, ⟨o, h1, h2, n, h3⟩, hz⟩ := I1.tuple hq
  have p' : s1.heap.IsTuple a its.toArray := ⟨o, h1, h2, n, h3⟩
  have hal : a < s1.heap.objs.size := Heap.lt_size h1
  refine enum_one (begins_tuple a its.toArray) p' fun h' he hit hsz hk => wpAny_pyIter_enum he ?_
  have I2 : Inv X pins σ H1 { s1 with heap := h' } := I1.kept (t' := s1.toks) hk
  refine ⟨s1.heap.objs.size + 1, [s1.heap.objs.size + 1, s1.heap.objs.size], _, _, H1, rfl, I2, turn_enumT (a := a) (e := s1.heap.objs.size + 1) (it := s1.heap.objs.size) (Nat.ne_of_lt (Nat.lt_succ_of_lt hal)) (Nat.ne_of_lt hal), ⟨⟨.none, he⟩, ⟨_, hit, rfl, rfl⟩, Nat.succ_ne_self _⟩, fun b hb => ?_, q⟩
  have hle : s1.heap.objs.size ≤ b := by
    rcases List.mem_cons.mp hb with z | z
    · rw [z]
      exact Nat.le_add_right _ _
    · rw [List.mem_singleton.mp z]
      exact Nat.le_refl _
  exact I1.fpOk hle (I1.hok.fresh hle)
theorem walk_enumT {K : PySem.W.Frag} {a : Addr} {xs : List V} : Walk (IteT K a) xs.length (fun H => SqT K H a xs) (YPair (fun i => some (.int (i : Nat))) (fun i => xs[i]?)) := by
  refine ⟨fun i _ hi q => ⟨xs, xs[i], q, List.getElem?_eq_getElem hi⟩, fun _ q => ⟨xs, q, rfl⟩, fun i H v H' _ q y => ?_⟩
  obtain ⟨T, x, h1, h2, h3, h4⟩ := y
  exact ⟨T, .int (i : Nat), x, h1, h2, h3, rfl, h4 xs q⟩
/-- a dict comprehension over it -/
theorem dc_it {J : It} {n : Nat} {G : Hp → Prop} {Y : Nat → Hp → V → Hp → Prop} (w : Walk J n G Y) {g : TG} {tt : TT} {tk tv : TE} {vs : List Nat} {σ : L2.St} {H1 : Hp} {D : Addr} {Q : VK} (Pv : Nat → Hp → Prop) (h0 : Pv 0 (upd H1 D (.dK []))) (hG : ∀ i H, i ≤ n → Pv i H → G H)
    (hs : ∀ i x H H', i < n → Pv i H → Y i H x H' → g x (wipe σ vs) H' fun σ2 H2 => wipe σ2 vs = wipe σ vs ∧ tt σ2 H2 fun b H3 =>
      if b = true then tk σ2 H3 fun y H4 => tv σ2 H4 fun z H5 => ∃ kvs k, y = kV k ∧ H5 D = some (.dK kvs) ∧ kvs.length < sizeLine ∧ Pv (i + 1) (upd H5 D (.dK (putK kvs k z))) else Pv (i + 1) H3) (hd : ∀ H, Pv n H → Q (.ref D) H) :
    ∃ W : Nat → Nat → Hp → Prop, (∃ m, W 0 m (upd H1 D (.dK []))) ∧ ∀ i m H, W i m H →
      (J.stop i H ∧ Q (.ref D) H) ∨ (J.go i H ∧ ∃ Nx : Hp → Prop, (∀ H', Nx H' → ∃ m', m' < m ∧ W (i + 1) m' H') ∧ ∀ x H', J.yld i H x H' → g x (wipe σ vs) H' fun σ2 H2 => wipe σ2 vs = wipe σ vs ∧ tt σ2 H2 fun b H3 =>
        if b = true then tk σ2 H3 fun y H4 => tv σ2 H4 fun z H5 => ∃ kvs k, y = kV k ∧ H5 D = some (.dK kvs) ∧ kvs.length < sizeLine ∧ Nx (upd H5 D (.dK (putK kvs k z))) else Nx H3) := by
  refine ⟨fun i m H => m = n - i ∧ i ≤ n ∧ Pv i H, ⟨n, by simp, Nat.zero_le _, h0⟩, ?_⟩
  rintro i m H ⟨rfl, hi, p⟩
  have q := hG i H hi p
  by_cases hlt : i < n
  · exact .inr ⟨w.goes i H hlt q, Pv (i + 1), fun H' p' => ⟨n - (i + 1), by omega, rfl, hlt, p'⟩, fun x H' y => hs i x H H' hlt p (w.yields i H x H' hlt q y)⟩
  · have e : i = n := by omega
    subst e
    exact .inl ⟨w.stops H q, hd H p⟩
end Mv

set_option Elab.async false
set_option linter.all false
set_option maxRecDepth 100000
set_option maxHeartbeats 4000000
namespace Mv
open PySem PySem.Spec PyProof.Rows L2
/-! ### sorted(range(n), key=lambda at: word[at]) -/
/-- the indexes of a word, by their values, equal ones ascending -/
def bagIx (xs : List Int) : List Nat := (List.range xs.length).mergeSort fun i j => decide (xs.getD i 0 ≤ xs.getD j 0)
theorem bagIx_perm (xs : List Int) : (bagIx xs).Perm (List.range xs.length) := List.mergeSort_perm _ _
theorem bagIx_len (xs : List Int) : (bagIx xs).length = xs.length := by rw [(bagIx_perm xs).length_eq, List.length_range]
theorem bagIx_lt {xs : List Int} {i : Nat} (h : i ∈ bagIx xs) : i < xs.length := List.mem_range.mp ((bagIx_perm xs).mem_iff.mp h)
theorem range_get (xs : List Int) : (List.range xs.length).map (fun i => xs.getD i 0) = xs := by
  apply List.ext_getElem?
  intro i
  rw [List.getElem?_map]
  by_cases h : i < xs.length
  · rw [List.getElem?_range h, List.getElem?_eq_getElem h]
    simp [List.getD_eq_getElem?_getD, List.getElem?_eq_getElem h]
  · rw [List.getElem?_eq_none (by rw [List.length_range]; omega), List.getElem?_eq_none (by omega)]
    rfl
theorem bagIx_vals (xs : List Int) : (bagIx xs).map (fun i => xs.getD i 0) = sortI xs := by
  refine sort_is ?_ ?_
  · have h := (bagIx_perm xs).map (fun i => xs.getD i 0)
    rw [range_get] at h
    exact h
  · rw [List.pairwise_map]
    have h := List.pairwise_mergeSort (le := fun i j => decide (xs.getD i 0 ≤ xs.getD j 0)) (by
      intro a b c h1 h2
      have h1 := of_decide_eq_true h1
      have h2 := of_decide_eq_true h2
      exact decide_eq_true (Int.le_trans h1 h2)) (by
      intro a b
      rcases Int.le_total (xs.getD a 0) (xs.getD b 0) with q | q
      · rw [decide_eq_true q]; rfl
      · rw [decide_eq_true q, Bool.or_true]) (List.range xs.length)
    exact h.imp fun {a b} q => of_decide_eq_true q
section
variable {prog : Program} {w : World} {A : Around} {s : Shared}
/-- lambda at: word[at], called -/
theorem lam_key {f c' c p : Addr} {q : Str} {params : Arguments} {scope : Scope} {cl : List (Str × Addr)} {pm ctv : Value} {p1 p2 p3 : Pos} {its : List Value} {i : Nat} {t u : Tok} {n : Int}
    (hroom : A.depth < recursionLimit) (nl : s.heap.NoLimit) (ho : s.heap.get? f = some (PySem.W.kla_obj "<lambda>" q params (.Subscript (.Name "word" p1) (.Name "at" p2) p3) scope cl pm c' ctv))
    (hcd : s.heap.CodeRec (.ref c') q) (hsc : scope.names = [(("at" : Str), NameKind.local), (("word" : Str), NameKind.free)]) (hk : scope.kind = .function) (hco : scope.isCoroutine = false) (hgen : scope.isGenerator = false)
    (hbind : ∀ v : Value, bindArgs (PySem.W.kla_fn "<lambda>" q params (.Subscript (.Name "word" p1) (.Name "at" p2) p3) scope cl pm (.ref c') ctv) ⟨[v], []⟩ = pure [(("at" : Str), v)])
    (hcl : cl.lookup ("word" : Str) = some c) (hcell : s.heap.IsCell c (some (.ref p))) (hseq : s.heap.IsTuple p its.toArray ∨ s.heap.IsList p its.toArray) (hz : its.length ≤ sizeLine) (hat : its[i]? = some (.int n u)) :
    wpAny (model prog w) A (call (.ref f) [.int (i : Nat) t]) (PySem.W.KeyPure (.int n) s) (fun _ _ => False) s := by
  have hi : i < its.length := (List.getElem?_eq_some_iff.mp hat).1
  have hz63 : its.length < 2 ^ 63 := by
    rw [sizeLine_eq] at hz
    omega
  refine wpAny_call (PySem.W.kla_callFunE hroom ho rfl hco hgen rfl hcd ?_)
  rw [hbind]
  refine wpAny_pure (wpAny_newFunctionEnv (by rw [hsc]; decide) (by rw [hsc]; intro y hy; rw [List.mem_singleton.mp hy]; rfl) (fun h₁ hns hsb => ⟨nl.fresh _ hsb, ?_⟩) hk)
  have kp : ∀ b o, s.heap.get? b = some o → h₁.get? b = some o := fun b o e => hsb.extBut b o (Nat.ne_of_lt (Heap.lt_size e)) (Heap.get?_push_of_some _ e)
  show codeAny _ _ (.expr _ (PySem.W.envX q scope s.heap.objs.size f (.ref c') cl)) _ _
  refine PySem.W.kla_codeExpr ?_
  obtain ⟨oc, hoc, hdc⟩ := hcell
  have kn1 : (PySem.W.envX q scope s.heap.objs.size f (.ref c') cl).kindOf "word" = some .free := by
    show scope.names.lookup _ = _
    rw [hsc]
    rfl
  have kn2 : (PySem.W.envX q scope s.heap.objs.size f (.ref c') cl).kindOf "at" = some .local := by
    show scope.names.lookup _ = _
    rw [hsc]
    rfl
  refine Subscript_ (wpAny_Name (wpAny_loadName_free hk kn1 hcl ⟨oc, kp _ _ hoc, hdc⟩ ?_) (by decide))
  refine wpAny_Name (wpAny_loadName_local (v := .int (i : Nat) t) hk kn2 hns rfl ?_) (by decide)
  have fin : PySem.W.KeyPure (.int n) s (.int n u) { s with heap := h₁, toks := s.toks + [(("at" : Str), Value.int (i : Nat) t)].length } := ⟨h₁, _, rfl, kp, .int n u⟩
  rcases hseq with ⟨o, h1, h2, m, h3⟩ | hl
  · refine subscriptTail_builtinR (x := .int n u) ⟨o, kp _ _ h1, h2⟩ slot_tuple_getitem.lookup (getItem_tuple (j := i) ⟨o, kp _ _ h1, h2, m, h3⟩ (by omega) (by omega) ?_ ?_ ⟨rfl, fin⟩)
    · rw [List.size_toArray]
      exact seqIndex_of (Int.natCast_nonneg _) (by omega)
    · rw [List.getElem?_toArray]
      exact hat
  · exact item_listR (x := .int n u) (hl.at fun o e => kp _ _ e) (Int.natCast_nonneg _) (by omega) (by rw [Int.toNat_natCast, List.getElem?_toArray]; exact hat) fin
end
theorem each_vals {out : List Value} {is : List Nat} (e : PySem.W.EachIs (fun v (i : Nat) => ∃ t, v = .int (i : Nat) t) out is) : Vals (is.map fun i => V.int (i : Nat)) out := by
  induction e with
  | nil => exact .nil
  | cons h _ ih =>
    obtain ⟨t, rfl⟩ := h
    exact .cons ⟨t, rfl⟩ ih
section
variable {X : Cx} {pins : List (Addr × Obj)} {σ : L2.St} {H : Hp} {s : Shared} {Q : VK}
/-- sorted(v, key=f), v collected as the ints vs, f a pure key -/
theorem sorted_key_from (I : Inv X pins σ H s) {v : Value} {f : Addr} {n : Nat} {key : Nat → Int} (hz : n ≤ sizeLine) (hu : X.A.units + 2 < cLine)
    (hc : ∀ R : List Value → Shared → Prop, (∀ (h' : Heap) (tk : Nat) (acc : List Value), (∀ b o, s.heap.get? b = some o → h'.get? b = some o) → PySem.W.EachIs (fun v (i : Nat) => ∃ t, v = .int (i : Nat) t) acc (List.range n) → R acc { s with heap := h', toks := tk }) → wpAny (model X.prog X.w) X.A.in1 (collect v) R X.xe s)
    (turn : ∀ (i : Nat) (t : Tok) (h : Heap) (tk : Nat), i < n → (∀ b o, s.heap.get? b = some o → h.get? b = some o) → wpAny (model X.prog X.w) X.A.in1.in1 (call (.ref f) [.int (i : Nat) t]) (PySem.W.KeyPure (.int (key i)) { s with heap := h, toks := tk }) (fun _ _ => False) { s with heap := h, toks := tk })
    (q : ∀ p : Addr, H p = none → Q (.ref p) (upd H p (.lst (((List.range n).mergeSort fun i j => decide (key i ≤ key j)).map fun i => V.int (i : Nat))))) :
    wpAny (model X.prog X.w) X.A (call (.builtin "sorted") [v] [(Str.ofString "key", .ref f)]) (EP X pins σ Q) X.xe s := by
  refine call_function_entry_kw kind_sorted plain_sorted entry_sorted (ksk_s1 _ _) ?_
  unfold Builtin.«sorted»
  refine wpAny_bind (m := checkCount "sorted" 1 1 _) (wpAny_pure (wpAny_bind (hc _ fun h' tk acc hk hi => ?_)))
  have I1 : Inv X pins σ H { s with heap := h', toks := tk } := I.kept hk
  have hl : acc.length = n := by rw [hi.length, List.length_range]
  refine wpAny_bind (wpAny_newList ?_ (by rw [hl]; exact hz))
  have hoL : (h'.push (seqObj "list" acc.toArray 0)).get? h'.objs.size = some (seqObj "list" acc.toArray 0) := Heap.get?_push_size _ rfl
  show wpAny _ _ _ _ _ { s with heap := h'.push (seqObj "list" acc.toArray 0), toks := tk }
  refine wpAny_bind (wpAny_holding (wpAny_call_entry_kw slot_list_sort ⟨_, hoL, rfl⟩ entry_list_sort ?_ (ksk_l1 _ _)))
  rw [ksk_t1]
  have up : ∀ {g : Heap}, PySem.W.KeepsBut h'.objs.size (h'.push (seqObj "list" acc.toArray 0)) g → ∀ b o, h'.get? b = some o → g.get? b = some o := fun {g} kp b o e =>
    kp b o (Nat.ne_of_lt (Heap.lt_size e)) (Heap.get?_push_of_some _ e)
  refine PySem.W.keyH_tree (b := false) (kz := (List.range n).map fun i => PyData.int (key i)) (s := { s with heap := h'.push (seqObj "list" acc.toArray 0), toks := tk }) hoL
    (by rw [List.length_map, List.length_range, hl]) (by rw [hl]; exact hz) (PySem.W.AllAlike.of fun _ _ => by simp [PySem.W.alike]) ?_ (PySem.W.bound_map (A := X.A.in1.in1) (bs := List.range n) (enc := fun i => PyData.int (key i)) fun _ _ => ?_)
    (PySem.W.keyH_turns (s := { s with heap := h'.push (seqObj "list" acc.toArray 0), toks := tk }) hi fun v i hv hin h tk2 kp => ?_) fun h3 tk3 out c kp hD ko => ?_
  · exact PySem.W.Sortable.others fun i => ⟨by simp, by simp⟩
  · show X.A.units + 2 + 0 < _
    omega
  · obtain ⟨t, rfl⟩ := hv
    exact turn i t h tk2 (List.mem_range.mp hin) fun b o e => up kp b o (hk b o e)
  · have eo := PySem.W.keyedOut_each (fun i : Nat => PyData.int (key i)) ko hi
    rw [PySem.W.dataLe_int] at eo
    refine ⟨_, rfl, wpAny_pure ⟨_, rfl, .ref h'.objs.size, upd H h'.objs.size (.lst (((List.range n).mergeSort fun i j => decide (key i ≤ key j)).map fun i => V.int (i : Nat))), I1.laid (t' := tk3) (h' := h3) (up kp) (Nat.le_refl _)
      (show ObjOk X.prog X.w _ _ _ (.lst _) from ⟨?_, out, c, ?_, hD⟩), rfl, q _ (I1.hok.fresh (Nat.le_refl _))⟩⟩
    · rw [List.length_map, List.length_mergeSort, List.length_range]
      exact hz
    · exact each_vals eo
end
end Mv

set_option Elab.async false
set_option linter.all false
set_option maxRecDepth 100000
set_option maxHeartbeats 4000000
namespace Mv
open PySem PySem.Spec PyProof.Rows L2
def tSortAt (K : PySem.W.Frag) (T : List (Addr × Str)) (i : Nat) (ta : TE) : TE := fun σ H Q => ta σ H fun x H1 => ∃ (p : Addr) (xs : List Int), σ[i]? = some (some (.ref p)) ∧ x = .int (xs.length : Int) ∧ (SqT K H1 p (xs.map V.int) ∨ SqL K H1 p (xs.map V.int)) ∧ xs.length ≤ 4000 ∧ LamX.Tabs T H1 ∧
  ∀ H2 l, LamX.ExtN H1 H2 → LamX.Tabs T H2 → H2 l = none → Q (.ref l) (upd H2 l (.lst ((bagIx xs).map fun i => V.int (i : Nat))))
theorem sq_extN {K : PySem.W.Frag} {H H1 : Hp} {p : Addr} {xs : List V} (e : LamX.ExtN H H1) (h : SqT K H p xs ∨ SqL K H p xs) : SqT K H1 p xs ∨ SqL K H1 p xs := by
  rcases h with ((h | ⟨o, h⟩) | h) | ((h | ⟨o, h⟩) | h)
  · exact .inl (.inl (.inl (e _ _ h (fun ps z => by cases z))))
  · exact .inl (.inl (.inr ⟨o, e _ _ h (fun ps z => by cases z)⟩))
  · exact .inl (.inr h)
  · exact .inr (.inl (.inl (e _ _ h (fun ps z => by cases z))))
  · exact .inr (.inl (.inr ⟨o, e _ _ h (fun ps z => by cases z)⟩))
  · exact .inr (.inr h)
/-- sorted(range(a), key=lambda at: word[at]) -/
theorem pe_sortAt {X : Cx} {k : Nat} {T : List (Addr × Str)} {c P : Addr} {params : Arguments} {scope : Scope} {i : Nat} {a : Expr} {ta : TE} {p p2 pos pos2 p3 p4 p5 lpos kpos : Pos}
    (hc : X.calm = true) (hr : Room k X.A) (hg : Gl X "sorted") (hm : X.mg "sorted" = none) (hg2 : Gl X "range") (hm2 : X.mg "range" = none) (ha : PE X a ta)
    (TB : LamX.TabB X.base X.mg c P) (hcode : X.env.code = .ref c) (hmT : (P, X.env.qual ++ "<lambda>") ∈ T) (hu : ∀ p ∈ T, p.1 = P → p.2 = X.env.qual ++ "<lambda>") (hN : X.N[i]? = some "word") (hv : X.env.kindOf "word" = some .cell)
    (hdef : defaultsOf params X.env = ([], [])) (hsc : scope.names = [(("at" : Str), NameKind.local), (("word" : Str), NameKind.free)]) (hk : scope.kind = .function) (hco : scope.isCoroutine = false) (hgen : scope.isGenerator = false)
    (hbind : ∀ (q : Str) (cl : List (Str × Addr)) (pm cv ctv v : Value), bindArgs (PySem.W.kla_fn "<lambda>" q params (.Subscript (.Name "word" p3) (.Name "at" p4) p5) scope cl pm cv ctv) ⟨[v], []⟩ = pure [(("at" : Str), v)])
    (na : starEach [a] X.env = (false, eval a X.env) :: starEach [] X.env := by rfl)
    (ne : starEach [.Call (.Name "range" p2) [a] [] pos2] X.env = (false, eval (.Call (.Name "range" p2) [a] [] pos2) X.env) :: starEach [] X.env := by rfl) :
    PE X (.Call (.Name "sorted" p) [.Call (.Name "range" p2) [a] [] pos2] [⟨some "key", .Lambda params (.Subscript (.Name "word" p3) (.Name "at" p4) p5) scope lpos, kpos⟩] pos) (tSortAt X.K T i ta) := by
  refine ⟨fun pins s σ H Q I h => ?_⟩
  refine wpAny_Call_Name_kw (ld_blt I hg hm boot_sorted ?_)
  refine PyProof.Rows.callWith_kw (args_cons (Call_ (ld_blt I hg2 hm2 boot_range (PyProof.Rows.callWith_type1 (one_arg ha I h (fun v s2 x H2 I2 rx q => ?_) na) na))) ne) (by rw [ne]; rfl) (by rw [ne]; rfl) (by rfl) (by rfl)
  obtain ⟨w1, xs, hσ, rfl, hsq, hlen, hT, q⟩ := q
  obtain ⟨t, rfl⟩ := rx
  refine call_range_1 (args_nil ?_)
  generalize ht0 : s2.toks = t0
  generalize hro : ({ cls := .type "range", data := .fields #[.int 0 t0, .int (xs.length : Int) t, .int 1 (t0 + 1)] } : Obj) = ro
  generalize hs3 : ({ s2 with heap := s2.heap.push ro, toks := t0 + 1 + 1 } : Shared) = s3
  have I3 : Inv X pins σ H2 s3 := by
    rw [← hs3]
    exact I2.kept fun b u e => Heap.get?_push_of_some _ e
  have h3r : s3.heap.get? s2.heap.objs.size = some ro := by
    rw [← hs3]
    exact Heap.get?_push_size _ (by rw [← hro]; rfl)
  have hro' : IsRange s3.heap s2.heap.objs.size 0 (xs.length : Int) 1 t0 t (t0 + 1) := by
    rw [← hro] at h3r
    exact h3r
  have I4 : Inv X ((s2.heap.objs.size, ro) :: pins) σ H2 s3 := I3.pins_of fun p hp => by
    rcases List.mem_cons.mp hp with rfl | hp
    · exact ⟨h3r, I2.hok.fresh (Nat.le_refl _), Nat.ne_of_gt I2.lt, I2.nofs (Nat.le_refl _), fun v z => by rw [← hro] at z; cases z⟩
    · exact I3.pin p (List.mem_append_right _ hp)
  clear hs3
  generalize s2.heap.objs.size = r at *
  obtain ⟨c0, hc0⟩ := I.ok.has _ (.inl hv)
  have hfree : ∀ y ∈ scope.names, y.2 = .free → ∃ c, X.env.cells.lookup y.1 = some c := fun y hy e => by
    rw [hsc] at hy
    rcases List.mem_cons.mp hy with rfl | hy
    · cases e
    · rw [List.mem_singleton.mp hy]
      exact ⟨c0, hc0⟩
  show wpAny _ _ (evalAll ((do let v ← eval (.Lambda params (.Subscript (.Name "word" p3) (.Name "at" p4) p5) scope lpos) X.env; standAt pos; pure v) :: [])) _ _ _
  refine wpAny_evalAll_cons (wpAny_bind (LamX.lam_make2 I4 TB hcode hmT hu hT hdef hfree fun f c' pm ctv H3 s4 I5 eN T1 hf hfn hfr hcd => wpAny_bind (wpAny_standAt (wpAny_pure (wpAny_evalAll_nil ?_)))))
  show wpAny _ _ (call (.builtin "sorted") [.ref r] [(Str.ofString "key", .ref f)]) _ _ _
  have hr4 : IsRange s4.heap r 0 (xs.length : Int) 1 t0 t (t0 + 1) := by
    have h4 := (I5.pin (r, ro) (List.mem_append_right _ (List.mem_cons_self ..))).1
    rw [← hro] at h4
    exact h4
  have hsq3 := sq_extN eN hsq
  have hun := hr.units0
  have hzl : xs.length ≤ sizeLine := small4000' hlen
  have eRs : Builtin.Range.rangeSize 0 (xs.length : Int) 1 = ((xs.length : Nat) : Int).toNat := by
    have := rangeSize_nat 0 (xs.length : Int)
    rw [Int.sub_zero] at this
    exact this
  obtain ⟨oc, vs, tq, hoc, hdc, hvc⟩ := (I5.hok c' _ hcd).1
  -- the word as the machine has it
  obtain ⟨its, rv, hseq⟩ : ∃ its : List Value, Vals (xs.map V.int) its ∧ (s4.heap.IsTuple w1 its.toArray ∨ s4.heap.IsList w1 its.toArray) := by
    rcases hsq3 with z | z
    · obtain ⟨its, rv, ⟨o, h1, h2, n, h3⟩, _⟩ := I5.tuple z
      exact ⟨its, rv, .inl ⟨o, h1, h2, n, h3⟩⟩
    · obtain ⟨its, rv, pl, _⟩ := I5.list z
      exact ⟨its, rv, .inr pl.isList⟩
  have hil : its.length = xs.length := by
    rw [← rv.length, List.length_map]
  obtain ⟨m, hns, hl⟩ := I5.loc
  have hcell : s4.heap.IsCell c0 (some (.ref w1)) := by
    obtain ⟨u, ru, lk⟩ := hl i "word" (.ref w1) hN hσ (.inr (.inl hv))
    obtain rfl : u = Value.ref w1 := ru
    rcases lk with ⟨z, _⟩ | ⟨_, c2, e2, hc2⟩
    · rw [hv] at z
      cases z
    · rw [hc0] at e2
      cases e2
      exact hc2
  refine wpAny_mono (sorted_key_from (n := xs.length) (key := fun i => xs.getD i 0) (Q := Q) I5 hzl (by have := hr.units; omega) (fun R kR => ?_) (fun j tj hp tk hj kp => ?_) (fun l hl2 => q H3 l eN T1 hl2)) (fun v s5 hv5 => ?_) fun _ _ z => z
  · refine collect_range (n := xs.length) (by exact I5.ok.hd hc) hr4 (small_one (by omega) (by omega) (by omega) (by omega)) (by rw [eRs, Int.toNat_natCast]) (by omega) fun h' tk acc k1 k2 => kR h' tk acc.toList k1 ?_
    refine PySem.W.EachIs.of_zip (by rw [Array.length_toList, k2.1, List.length_range]) fun pr hpr => ?_
    obtain ⟨j, hj⟩ := List.getElem?_of_mem hpr
    obtain ⟨e1, e2⟩ := List.getElem?_zip_eq_some.mp hj
    rw [Array.getElem?_toList] at e1
    obtain ⟨tt, e3⟩ := k2.2 j _ e1
    have hj2 : j < xs.length := by
      have := (List.getElem?_eq_some_iff.mp e2).1
      rw [List.length_range] at this
      exact this
    rw [List.getElem?_range hj2] at e2
    refine ⟨tt, ?_⟩
    rw [e3, ← Option.some.inj e2, Int.zero_add, Int.mul_one]
  · have e1 : (xs.map V.int)[j]? = some (.int (xs.getD j 0)) := by
      rw [List.getElem?_map, List.getElem?_eq_getElem hj, List.getD_eq_getElem?_getD, List.getElem?_eq_getElem hj]
      rfl
    obtain ⟨u, hu1, ⟨tu, rfl⟩⟩ := rv.get e1
    refine lam_key (s := { s4 with heap := hp, toks := tk }) (A := X.A.in1.in1) hr.depth (I5.nolimit.keeps kp) (kp _ _ hf) ⟨c', oc, vs, tq, rfl, kp _ _ hoc, hdc, hvc⟩ hsc hk hco hgen (hbind _ _ _ _ _) (c := c0) ?_ ?_ (p := w1) (its := its) ?_ (by rw [hil]; exact hzl) hu1
    · rw [hsc]
      show (cloFrom X.env.cells [(("word" : Str), NameKind.free)] []).lookup _ = _
      show List.lookup _ [(("word" : Str), (X.env.cells.lookup ("word" : Str)).getD 0)] = _
      rw [hc0]
      rfl
    · obtain ⟨o1, h1, h2⟩ := hcell
      exact ⟨o1, kp _ _ h1, h2⟩
    · rcases hseq with ⟨o, h1, h2, n, h3⟩ | z
      · exact .inl ⟨o, kp _ _ h1, h2, n, h3⟩
      · exact .inr (z.at fun o e => kp _ _ e)
  · obtain ⟨v2, H5, J, rv5, q5⟩ := hv5
    exact ⟨v2, H5, J.pins_of fun p hp => J.pin p (List.mem_append_right _ (List.mem_cons_of_mem _ hp)), rv5, q5⟩
end Mv

set_option Elab.async false
set_option linter.all false
set_option maxRecDepth 100000
set_option maxHeartbeats 1000000
namespace Mv
open PySem PySem.Spec PyProof.Rows L2
/-! ### the kept indexes -/
theorem getD_at {xs : List Int} {i : Nat} (h : i < xs.length) : xs.getD i 0 = xs[i] := by
  rw [List.getD_eq_getElem?_getD, List.getElem?_eq_getElem h]
  rfl
theorem idx_get {xs : List Int} {x : Int} (h : x ∈ xs) : xs.getD (xs.idxOf x) 0 = x := by
  rw [getD_at (List.idxOf_lt_length_iff.mpr h)]
  exact List.getElem_idxOf _
theorem get_ixs {xs ys : List Int} (h : ∀ y ∈ ys, y ∈ xs) : (ys.map xs.idxOf).map (fun i => xs.getD i 0) = ys := by
  rw [List.map_map]
  conv => rhs; rw [← List.map_id ys]
  exact List.map_congr_left fun y hy => idx_get (h y hy)
theorem idx_app {xs : List Int} {x y : Int} (h : y ∈ xs) : (xs ++ [x]).idxOf y = xs.idxOf y := by
  rw [List.idxOf_append, if_pos h]
theorem idx_new {xs : List Int} {x : Int} (h : x ∉ xs) : (xs ++ [x]).idxOf x = xs.length := by
  rw [List.idxOf_append, if_neg h]
  simp
theorem ixs_asc (xs : List Int) : ((headsI xs).map xs.idxOf).Pairwise (· < ·) := by
  induction xs using snoc_ind with
  | h0 => exact .nil
  | hs xs x ih =>
    have e : (headsI xs).map (xs ++ [x]).idxOf = (headsI xs).map xs.idxOf := List.map_congr_left fun y hy => idx_app ((mem_headsI xs).mp hy)
    rw [headsI_snoc]
    unfold addI
    split
    · rw [e]
      exact ih
    · rename_i hx
      rw [List.map_append, e, List.map_singleton, idx_new (fun z => hx ((mem_headsI xs).mpr z))]
      refine List.pairwise_append.mpr ⟨ih, List.pairwise_singleton _ _, fun a ha b hb => ?_⟩
      rw [List.mem_singleton.mp hb]
      obtain ⟨y, hy, rfl⟩ := List.mem_map.mp ha
      exact List.idxOf_lt_length_iff.mpr ((mem_headsI xs).mp hy)
/-- where x stands last -/
def lastIx (xs : List Int) (x : Int) : Nat := xs.length - 1 - xs.reverse.idxOf x
theorem lastIx_snoc (xs : List Int) (x y : Int) (h : y = x ∨ y ∈ xs) : lastIx (xs ++ [x]) y = if y = x then xs.length else lastIx xs y := by
  unfold lastIx
  rw [List.reverse_append, List.length_append, List.length_singleton]
  show xs.length + 1 - 1 - List.idxOf y (x :: xs.reverse) = _
  rw [List.idxOf_cons]
  by_cases e : y = x
  · subst e
    simp
  · rw [if_neg e]
    have hb : (x == y) = false := beq_eq_false_iff_ne.mpr (Ne.symm e)
    rw [hb]
    show xs.length + 1 - 1 - (List.idxOf y xs.reverse + 1) = _
    omega
theorem lastIx_lt {xs : List Int} {x : Int} (h : x ∈ xs) : lastIx xs x < xs.length := by
  have := List.length_pos_of_mem h
  unfold lastIx
  omega
theorem lastIx_get {xs : List Int} {x : Int} (h : x ∈ xs) : xs.getD (lastIx xs x) 0 = x := by
  have h1 : xs.reverse.idxOf x < xs.reverse.length := List.idxOf_lt_length_iff.mpr (List.mem_reverse.mpr h)
  have h2 := lastIx_lt h
  rw [getD_at h2]
  have e := List.getElem_idxOf h1
  rw [List.getElem_reverse] at e
  exact e
/-- the tails' indexes -/
def tailIx (xs : List Int) : List Nat := ((headsI xs.reverse).map (lastIx xs)).reverse
theorem tailIx_asc (xs : List Int) : (tailIx xs).Pairwise (· < ·) := by
  unfold tailIx
  rw [List.pairwise_reverse, List.pairwise_map]
  have h := ixs_asc xs.reverse
  rw [List.pairwise_map] at h
  refine List.Pairwise.imp_of_mem (fun {a b} ha hb hab => ?_) h
  have h1 : xs.reverse.idxOf b < xs.length := by
    have := List.idxOf_lt_length_iff.mpr ((mem_headsI xs.reverse).mp hb)
    rw [List.length_reverse] at this
    exact this
  unfold lastIx
  omega
theorem tailIx_vals (xs : List Int) : (tailIx xs).map (fun i => xs.getD i 0) = tailsI xs := by
  unfold tailIx tailsI
  rw [List.map_reverse, List.map_map]
  congr 1
  conv => rhs; rw [← List.map_id (headsI xs.reverse)]
  exact List.map_congr_left fun y hy => lastIx_get (List.mem_reverse.mp ((mem_headsI _).mp hy))
theorem intsOf_asc {is : List Nat} (h : is.Pairwise (· < ·)) : (is.map fun i : Nat => (i : Int)).Pairwise (· ≤ ·) := by
  rw [List.pairwise_map]
  exact h.imp fun {a b} q => by omega
theorem sort_ixs (xs : List Int) : sortI ((headsI xs).map fun x => ((xs.idxOf x : Nat) : Int)) = ((headsI xs).map xs.idxOf).map fun i : Nat => (i : Int) := by
  refine (sort_is ?_ (intsOf_asc (ixs_asc xs))).symm
  rw [List.map_map]
  exact List.Perm.refl _
theorem sort_last (xs : List Int) : sortI ((headsI xs).map fun x => ((lastIx xs x : Nat) : Int)) = (tailIx xs).map fun i : Nat => (i : Int) := by
  refine (sort_is ?_ (intsOf_asc (tailIx_asc xs))).symm
  unfold tailIx
  rw [List.map_reverse, List.map_map]
  refine (List.reverse_perm _).trans ?_
  refine List.Perm.map _ (perm_of_mem (nodup_headsI _) (nodup_headsI _) fun x => ?_)
  rw [mem_headsI, mem_headsI, List.mem_reverse]
/-- what keep gives -/
def keepIx (k : Kd) (xs : List Int) : List Nat :=
  match k with
  | .list => List.range xs.length
  | .bag => bagIx xs
  | .set => (sortI (headsI xs)).map xs.idxOf
  | .first => if xs.length = 0 then [] else [0]
  | .last => if xs.length = 0 then [] else [xs.length - 1]
  | .ends => if xs.length = 0 then [] else [0, xs.length - 1]
  | .heads => (headsI xs).map xs.idxOf
  | .tails => tailIx xs
theorem keep_vals (k : Kd) (xs : List Int) : (keepIx k xs).map (fun i => xs.getD i 0) = plainI k xs := by
  have hlast : xs.length ≠ 0 → xs.drop (xs.length - 1) = [xs.getD (xs.length - 1) 0] := fun h => by
    rw [getD_at (by omega), List.drop_eq_getElem_cons (by omega), show xs.length - 1 + 1 = xs.length from by omega, List.drop_length]
  have hfst : xs.length ≠ 0 → xs.take 1 = [xs.getD 0 0] := fun h => by
    cases xs with
    | nil => exact absurd rfl h
    | cons x r => rfl
  have hnil : xs.length = 0 → xs = [] := List.length_eq_zero_iff.mp
  cases k with
  | list => exact range_get xs
  | bag => exact bagIx_vals xs
  | set => exact get_ixs fun y hy => (mem_headsI xs).mp (mem_sort.mp hy)
  | heads => exact get_ixs fun y hy => (mem_headsI xs).mp hy
  | tails => exact tailIx_vals xs
  | first =>
    show (if xs.length = 0 then [] else [0]).map _ = firstI xs
    split
    · rename_i h
      rw [hnil h]
      rfl
    · rename_i h
      exact (hfst h).symm
  | last =>
    show (if xs.length = 0 then [] else [xs.length - 1]).map _ = lastI xs
    split
    · rename_i h
      rw [hnil h]
      rfl
    · rename_i h
      exact (hlast h).symm
  | ends =>
    show (if xs.length = 0 then [] else [0, xs.length - 1]).map _ = endsI xs
    split
    · rename_i h
      rw [hnil h]
      rfl
    · rename_i h
      unfold endsI
      rw [hfst h, hlast h]
      rfl
theorem keep_lt {k : Kd} {xs : List Int} {i : Nat} (h : i ∈ keepIx k xs) : i < xs.length := by
  cases k with
  | list => exact List.mem_range.mp h
  | bag => exact bagIx_lt h
  | set =>
    obtain ⟨y, hy, rfl⟩ := List.mem_map.mp h
    exact List.idxOf_lt_length_iff.mpr ((mem_headsI xs).mp (mem_sort.mp hy))
  | heads =>
    obtain ⟨y, hy, rfl⟩ := List.mem_map.mp h
    exact List.idxOf_lt_length_iff.mpr ((mem_headsI xs).mp hy)
  | tails =>
    obtain ⟨y, hy, rfl⟩ := List.mem_map.mp (List.mem_reverse.mp h)
    exact lastIx_lt (List.mem_reverse.mp ((mem_headsI _).mp hy))
  | first =>
    revert h
    show i ∈ (if xs.length = 0 then [] else [0]) → _
    split
    · exact fun h => by cases h
    · intro h
      rw [List.mem_singleton.mp h]
      omega
  | last =>
    revert h
    show i ∈ (if xs.length = 0 then [] else [xs.length - 1]) → _
    split
    · exact fun h => by cases h
    · intro h
      rw [List.mem_singleton.mp h]
      omega
  | ends =>
    revert h
    show i ∈ (if xs.length = 0 then [] else [0, xs.length - 1]) → _
    split
    · exact fun h => by cases h
    · intro h
      rcases List.mem_cons.mp h with h | h
      · omega
      · rw [List.mem_singleton.mp h]
        omega
theorem keep_len {k : Kd} {xs : List Int} : (keepIx k xs).length = (plainI k xs).length := by rw [← keep_vals, List.length_map]
/-! ### the dicts by the values -/
def leastD (xs : List Int) (i : Nat) : List (Key × V) := (headsI (xs.take i)).map fun x => (Sum.inl x, V.int ((xs.idxOf x : Nat) : Int))
def greatD (xs : List Int) (i : Nat) : List (Key × V) := (headsI (xs.take i)).map fun x => (Sum.inl x, V.int ((lastIx (xs.take i) x : Nat) : Int))
theorem val_map (g : Int → V) (y : Int) : ∀ ys : List Int, valV (ys.map fun x => ((Sum.inl x : Key), g x)) (.inl y) = if y ∈ ys then some (g y) else none
  | [] => rfl
  | x :: ys => by
    rw [List.map_cons]
    by_cases e : x = y
    · subst e
      rw [valV_pos rfl, if_pos (List.mem_cons_self ..)]
    · rw [valV_neg (fun z => e (Sum.inl.inj z)), val_map g y ys]
      by_cases h : y ∈ ys
      · rw [if_pos h, if_pos (List.mem_cons_of_mem _ h)]
      · rw [if_neg h, if_neg]
        intro z
        rcases List.mem_cons.mp z with z | z
        · exact e z.symm
        · exact h z
theorem take_succ_at {xs : List Int} {i : Nat} {x : Int} (h : xs[i]? = some x) : xs.take (i + 1) = xs.take i ++ [x] := by
  rw [List.take_add_one, h]
  rfl
theorem least_hit {xs : List Int} {i : Nat} {x : Int} (h : xs[i]? = some x) (hx : x ∈ xs.take i) : leastD xs (i + 1) = leastD xs i := by
  unfold leastD
  rw [take_succ_at h, headsI_snoc]
  unfold addI
  rw [if_pos ((mem_headsI _).mpr hx)]
theorem least_new {xs : List Int} {i : Nat} {x : Int} (h : xs[i]? = some x) (hx : x ∉ xs.take i) : leastD xs (i + 1) = putK (leastD xs i) (.inl x) (.int (i : Nat)) := by
  have hv : valV (leastD xs i) (.inl x) = none := by
    unfold leastD
    rw [val_map, if_neg fun z => hx ((mem_headsI _).mp z)]
  rw [putK_new _ hv]
  unfold leastD
  rw [take_succ_at h, headsI_snoc]
  unfold addI
  rw [if_neg fun z => hx ((mem_headsI _).mp z), List.map_append, List.map_singleton]
  have hi : i < xs.length := (List.getElem?_eq_some_iff.mp h).1
  have e : xs.idxOf x = i := by
    have e1 : xs = xs.take i ++ xs.drop i := (List.take_append_drop i xs).symm
    have e2 : xs.drop i = x :: xs.drop (i + 1) := by
      rw [List.drop_eq_getElem_cons hi, (List.getElem?_eq_some_iff.mp h).2]
    rw [e1, List.idxOf_append, if_neg hx, e2, List.idxOf_cons_self, List.length_take, Nat.zero_add]
    omega
  rw [e]
theorem great_put {xs : List Int} {i : Nat} {x : Int} (h : xs[i]? = some x) : greatD xs (i + 1) = putK (greatD xs i) (.inl x) (.int (i : Nat)) := by
  have hi : i < xs.length := (List.getElem?_eq_some_iff.mp h).1
  have hl : (xs.take i).length = i := by
    rw [List.length_take]
    omega
  have hL : ∀ y, y = x ∨ y ∈ xs.take i → lastIx (xs.take (i + 1)) y = if y = x then i else lastIx (xs.take i) y := fun y hy => by
    rw [take_succ_at h, lastIx_snoc _ _ _ hy, hl]
  have hm := fun y => mem_headsI (y := y) (xs.take i)
  by_cases hx : x ∈ xs.take i
  · unfold greatD
    rw [show headsI (xs.take (i + 1)) = headsI (xs.take i) from by
      rw [take_succ_at h, headsI_snoc]
      unfold addI
      rw [if_pos ((hm x).mpr hx)]]
    unfold putK
    rw [if_pos, List.map_map]
    · refine List.map_congr_left fun y hy => ?_
      rw [hL y (.inr ((hm y).mp hy))]
      show _ = if (Sum.inl y : Key) = Sum.inl x then _ else _
      by_cases e : y = x
      · subst e
        rw [if_pos rfl, if_pos rfl]
      · rw [if_neg e, if_neg fun z => e (Sum.inl.inj z)]
    · rw [valV_any, val_map, if_pos ((hm x).mpr hx)]
      rfl
  · have hv : valV (greatD xs i) (.inl x) = none := by
      unfold greatD
      rw [val_map, if_neg fun z => hx ((hm x).mp z)]
    rw [putK_new _ hv]
    unfold greatD
    rw [show headsI (xs.take (i + 1)) = headsI (xs.take i) ++ [x] from by
      rw [take_succ_at h, headsI_snoc]
      unfold addI
      rw [if_neg fun z => hx ((hm x).mp z)], List.map_append, List.map_singleton, hL x (.inl rfl), if_pos rfl]
    congr 1
    refine List.map_congr_left fun y hy => ?_
    have hy := (hm y).mp hy
    rw [hL y (.inr hy), if_neg fun z : y = x => hx (z ▸ hy)]
theorem leastD_len (xs : List Int) (i : Nat) : (leastD xs i).length ≤ i := by
  unfold leastD
  rw [List.length_map]
  refine Nat.le_trans (headsI_len _) ?_
  rw [List.length_take]
  omega
theorem greatD_len (xs : List Int) (i : Nat) : (greatD xs i).length ≤ i := by
  unfold greatD
  rw [List.length_map]
  refine Nat.le_trans (headsI_len _) ?_
  rw [List.length_take]
  omega
end Mv

set_option Elab.async false
set_option linter.all false
set_option maxRecDepth 100000
set_option maxHeartbeats 4000000
namespace Mv
open PySem PySem.Spec PyProof.Rows L2
/-! ### t[::-1], t a tuple: a new tuple -/
section
variable {prog : Program} {w : World} {A : Around} {E : Value → Shared → Prop} {s : Shared}
theorem sliceApplied_back {sl : Addr} {vl vu vs : Value} {n : Nat} {Q : Int × Int × Nat → Shared → Prop} (hs : s.heap.IsSliceOf sl vl vu vs) (pl : IsPart vl none) (pu : IsPart vu none) (ps : IsPart vs (some (-1)))
    (h : Q ((n : Int) - 1, -1, n) s) : wpAny (model prog w) A (Builtin.Slice.sliceApplied (.ref sl) (pure (n : Int))) Q E s := by
  obtain ⟨os, hos, hcs, hds⟩ := id hs
  unfold Builtin.Slice.sliceApplied Builtin.Slice.sliceFields
  refine wpAny_bind (wpAny_bind (wpAny_field hos hds (x := vl) rfl (wpAny_bind (wpAny_field hos hds (x := vu) rfl (wpAny_bind (wpAny_field hos hds (x := vs) rfl (wpAny_pure ?_)))))))
  refine wpAny_bind (HT.slicePart_ ps ?_)
  show wpAny _ _ (if ((-1 : Int) == 0) = true then _ else _) _ _ s
  rw [if_neg (by decide)]
  refine wpAny_bind (HT.slicePart_ pl (wpAny_bind (HT.slicePart_ pu (wpAny_bind (wpAny_pure ?_)))))
  show wpAny _ _ (match Builtin.Slice.sliceAdjust none none (-1) (n : Int) with | (lo, hi) => pure (lo, (-1 : Int), Builtin.Slice.slicePlaces lo hi (-1))) _ _ s
  have e1 : Builtin.Slice.sliceAdjust none none (-1) (n : Int) = ((n : Int) - 1, -1) := rfl
  have e2 : Builtin.Slice.slicePlaces ((n : Int) - 1) (-1) (-1) = n := by
    unfold Builtin.Slice.slicePlaces
    rw [if_neg (by decide), show (- -1 : Int) = 1 by decide, Int.ediv_one]
    split <;> omega
  rw [e1]
  show wpAny _ _ (pure ((n : Int) - 1, (-1 : Int), Builtin.Slice.slicePlaces ((n : Int) - 1) (-1) (-1))) _ _ s
  rw [e2]
  exact wpAny_pure h
theorem fm_congr {α β : Type} {f g : α → Option β} : ∀ {l : List α}, (∀ k ∈ l, f k = g k) → l.filterMap f = l.filterMap g
  | [], _ => rfl
  | x :: l, h => by rw [List.filterMap_cons, List.filterMap_cons, h x List.mem_cons_self, fm_congr fun k hk => h k (List.mem_cons_of_mem _ hk)]
theorem pick_back (xs : Array Value) : ((List.range xs.size).filterMap fun (k : Nat) => xs[((xs.size : Int) - 1 + (k : Int) * (-1)).toNat]?).toArray = xs.toList.reverse.toArray := by
  have h := PySem.W.krv_pick xs
  have e : (List.range xs.size).filterMap (fun (k : Nat) => xs[((xs.size : Int) - 1 + (k : Int) * (-1)).toNat]?) = ((List.range xs.size).map fun k => xs.size - 1 - k).filterMap (xs[·]?) := by
    rw [List.filterMap_map]
    refine fm_congr fun k hk => ?_
    have := List.mem_range.mp hk
    show xs[_]? = xs[xs.size - 1 - k]?
    congr 1
    omega
  rw [e, PySem.W.krv_range, List.filterMap_reverse, PySem.W.krv_all]
theorem getItem_tuple_back {t sl : Addr} {items : Array Value} {vl vu vs : Value} {Q : Value → Shared → Prop} (ht : IsTup s.heap t items) (hs : s.heap.IsSliceOf sl vl vu vs) (pl : IsPart vl none) (pu : IsPart vu none) (ps : IsPart vs (some (-1)))
    (h : Q (.ref s.heap.objs.size) { s with heap := s.heap.push { cls := .type "tuple", data := .seq items.toList.reverse.toArray } }) (hsz : items.size ≤ sizeLine) : wpAny (model prog w) A (getItem (.ref t) (.ref sl)) Q E s := by
  have htake : sizeOk (.seq items.toList.reverse.toArray) := by
    show items.toList.reverse.toArray.size ≤ sizeLine
    rw [List.size_toArray, List.length_reverse, Array.length_toList]
    exact hsz
  obtain ⟨os, hos, hcs, hds⟩ := id hs
  have hTs : s.TypeIs (.ref sl) "slice" := ⟨os, hos, hcs⟩
  unfold getItem
  try with_reducible refine wpAny_holding ?_
  first | refine wpAny_bind (wpAny_pure ?_) | skip
  refine wpAny_bind (wpAny_sequenceKey ht.typeIs (by decide) ?_)
  refine wpAny_bind (wpAny_callSpecial?_slot (name := Str.ofString "__getitem__") ht.typeIs PyProof.Rows.slot_tuple_getitem
    (wpAny_call_entry PyProof.Rows.slot_tuple_getitem ht.typeIs entry_tuple_getitem ?_ (args_tuple_getitem _ _)))
  show wpAny _ _ (Builtin.Tuple.tupleItemsOf (.ref t) >>= _) _ _ s
  refine wpAny_bind (tupleItemsOf_ ht ?_)
  refine wpAny_bind (wpAny_typeOf hTs ?_)
  rw [if_pos (by decide)]
  refine wpAny_bind (sliceApplied_back hs pl pu ps ?_)
  show wpAny _ _ (if (((items.size : Int) - 1) == 0 && (-1 : Int) == 1 && items.size == items.size) = true then _ else _) _ _ s
  rw [if_neg (by rw [show ((-1 : Int) == 1) = false from rfl, Bool.and_false, Bool.false_and]; exact Bool.false_ne_true), pick_back]
  first
    | exact wpAny_bind (m := Builtin.Tuple.tupleExact _) (wpAny_newObj_type (wpAny_pure ⟨_, rfl, wpAny_pure h⟩) htake)
    | exact wpAny_bind (m := Builtin.Tuple.tupleExact _) (wpAny_newObj_type (wpAny_bind (wpAny_pure (wpAny_pure ⟨_, rfl, wpAny_pure h⟩))) htake)
    | exact wpAny_bind (wpAny_bind (m := Builtin.Tuple.tupleExact _) (wpAny_newObj_type (wpAny_pure (wpAny_pure ⟨_, rfl, wpAny_pure h⟩)) htake))
    | exact wpAny_bind (wpAny_bind (m := Builtin.Tuple.tupleExact _) (wpAny_newObj_type (wpAny_pure ⟨_, rfl, wpAny_pure h⟩) htake))
end
section
variable {X : Cx}
def tRevT (K : PySem.W.Frag) (te : TE) : TE := fun σ H Q => te σ H fun x H1 => ∃ a xs, x = .ref a ∧ SqT K H1 a xs ∧ ∀ p, H1 p = none → Q (.ref p) (upd H1 p (.tup xs.reverse))
theorem pe_revT {e : Expr} {te : TE} {k : Nat} {p1 p2 p3 pos : Pos} (he : PE X e te) : PE X (.Subscript e (.Slice none none (some (.UnaryOp .USub (.Constant (.int 1) k p1) p2)) p3) pos) (tRevT X.K te) := by
  refine ⟨fun pins s σ H Q I h => ?_⟩
  refine Subscript_ (thn (he.run pins s σ H _ I h) fun v s1 ⟨x, H1, I1, r1, q1⟩ => ?_)
  obtain ⟨a, xs, ex, hx, q⟩ := q1
  subst ex
  cases r1
  have hst : PO X (some (.UnaryOp .USub (.Constant (.int 1) k p1) p2)) (tPart (tUn (rU fun i => .int (-i)) (tC (.int 1)))) := po_some (pe_un un_neg pe_int)
  refine wpAny_Slice (thn (po_none.run pins s1 σ H1 (fun o H2 => o = none ∧ H2 = H1) I1 ⟨rfl, rfl⟩) fun vl s2 ⟨l, H2, I2, pl, el, e2⟩ => ?_)
  subst el e2
  refine thn (po_none.run pins s2 σ H2 (fun o H3 => o = none ∧ H3 = H2) I2 ⟨rfl, rfl⟩) fun vu s3 ⟨u, H3, I3, pu, eu, e3⟩ => ?_
  subst eu e3
  refine thn (hst.run pins s3 σ H3 (fun o H4 => o = some (-1) ∧ H4 = H3) I3 ⟨1, rfl, -1, rfl, rfl, rfl⟩) fun vs s4 ⟨o, H4, I4, ps, eo, e4⟩ => ?_
  subst eo e4
  have I5 : Inv X pins σ H4 { s4 with heap := s4.heap.push { cls := .type "slice", data := .fields #[vl, vu, vs] } } := I4.kept (t' := s4.toks) fun b ob q => Heap.get?_push_of_some _ q
  obtain ⟨its, r, ht, hz⟩ := I5.tuple hx
  have hlen := r.length
  show wpAny (model X.prog X.w) X.A (subscriptTail e (.Slice none none (some (.UnaryOp .USub (.Constant (.int 1) k p1) p2)) p3) (.ref a) (.ref s4.heap.objs.size)) (EP X pins σ Q) X.xe { s4 with heap := s4.heap.push { cls := .type "slice", data := .fields #[vl, vu, vs] } }
  refine tail_any (ops := [.ref a, .ref s4.heap.objs.size]) ht.typeIs (PyProof.Rows.slot_tuple_getitem.lookup) ?_ (by with_unfolding_all rfl)
  refine getItem_tuple_back ht (Heap.IsSliceOf.new _ vl vu vs) pl pu ps ?_ (by rw [List.size_toArray]; omega)
  refine ⟨.ref _, _, I5.laid (t' := s4.toks) (o := .tup xs.reverse) (fun b ob q => Heap.get?_push_of_some _ q) (Nat.le_refl _) ?_, rfl, q _ (I5.hok.fresh (Nat.le_refl _))⟩
  exact ⟨by rw [List.length_reverse]; exact hz, _, r.reverse, IsTup.new _ _⟩
end
end Mv

set_option Elab.async false
set_option linter.all false
set_option maxRecDepth 100000
set_option maxHeartbeats 1000000
namespace Mv
open PySem
/-! ### a word put between two others -/
/-- each value of w that is not in p, once, where it comes first -/
def newI (w p : List Int) : List Int := (headsI w).filter fun x => decide (x ∉ p)
def rearI (w p : List Int) : List Int := (newI w.reverse p).reverse
theorem newI_nil (p : List Int) : newI [] p = [] := rfl
theorem newI_snoc (w p : List Int) (x : Int) : newI (w ++ [x]) p = if x ∈ p ∨ x ∈ newI w p then newI w p else newI w p ++ [x] := by
  unfold newI
  rw [headsI_snoc]
  unfold addI
  by_cases hp : x ∈ p
  · by_cases hw : x ∈ headsI w
    · rw [if_pos hw, if_pos (show x ∈ p ∨ _ from .inl hp)]
    · rw [if_neg hw, if_pos (show x ∈ p ∨ _ from .inl hp), List.filter_append]
      simp [hp]
  · by_cases hw : x ∈ headsI w
    · rw [if_pos hw, if_pos (.inr (List.mem_filter.mpr ⟨hw, by simp [hp]⟩))]
    · rw [if_neg hw, if_neg, List.filter_append]
      · simp [hp]
      · rintro (z | z)
        · exact hp z
        · exact hw (List.mem_filter.mp z).1
theorem mem_newI {w p : List Int} {x : Int} : x ∈ newI w p ↔ x ∈ w ∧ x ∉ p := by
  unfold newI
  rw [List.mem_filter, mem_headsI]
  simp
theorem nodup_newI (w p : List Int) : (newI w p).Nodup := (nodup_headsI w).sublist List.filter_sublist
theorem newI_len (w p : List Int) : (newI w p).length ≤ w.length := Nat.le_trans (List.length_filter_le _ _) (headsI_len w)
theorem heads_app (a c : List Int) : headsI (a ++ c) = headsI a ++ newI c a := by
  show headsA [] (a ++ c) = _
  rw [headsA_app, headsA_eq]
  show headsI a ++ _ = _
  congr 1
  unfold newI
  refine List.filter_congr fun x _ => ?_
  have e : x ∉ headsA [] a ↔ x ∉ a := not_congr (mem_headsI a)
  exact decide_eq_decide.mpr e
theorem new_app (b c a : List Int) : newI (b ++ c) a = newI b a ++ (newI c a).filter fun x => decide (x ∉ b) := by
  unfold newI
  rw [heads_app, List.filter_append]
  congr 1
  unfold newI
  rw [List.filter_filter, List.filter_filter]
  refine List.filter_congr fun x _ => ?_
  rw [Bool.and_comm]
theorem new_prefix (b c a : List Int) : newI b a ++ (newI c a).filter (fun x => decide (x ∉ b)) = newI c a ↔ newI b a <+: newI c a := by
  constructor
  · intro h
    exact ⟨_, h⟩
  · rintro ⟨R, h⟩
    have nd := nodup_newI c a
    have hm : ∀ x ∈ newI c a, x ∉ a := fun x hx => (mem_newI.mp hx).2
    rw [← h] at nd hm ⊢
    have h1 : (newI b a).filter (fun x => decide (x ∉ b)) = [] := by
      refine List.filter_eq_nil_iff.mpr fun x hx => ?_
      have := (mem_newI.mp hx).1
      simp [this]
    have h2 : R.filter (fun x => decide (x ∉ b)) = R := by
      refine List.filter_eq_self.mpr fun x hx => decide_eq_true fun hb => ?_
      have h3 : x ∈ newI b a := mem_newI.mpr ⟨hb, hm x (List.mem_append_right _ hx)⟩
      exact (List.nodup_append.mp nd).2.2 x h3 x hx rfl
    rw [List.filter_append, h1, h2, List.nil_append]
theorem heads_ins (a b c : List Int) : headsI (a ++ b ++ c) = headsI (a ++ c) ↔ newI b a <+: newI c a := by
  rw [List.append_assoc, heads_app a (b ++ c), heads_app a c, new_app, List.append_right_inj, new_prefix]
theorem tails_ins (y w z : List Int) : tailsI (y ++ w ++ z) = tailsI (y ++ z) ↔ rearI w z <:+ rearI y z := by
  unfold tailsI rearI
  have hr : ∀ a p : List Int, (newI a p = newI a p.reverse) := fun a p => by
    unfold newI
    exact List.filter_congr fun x _ => decide_eq_decide.mpr (not_congr List.mem_reverse.symm)
  rw [List.reverse_inj, List.reverse_append, List.reverse_append, List.reverse_append, ← List.append_assoc, heads_ins, ← hr, ← hr, ← List.reverse_prefix, List.reverse_reverse, List.reverse_reverse]
theorem firstI_app {w : List Int} (hw : w ≠ []) (z : List Int) : firstI (w ++ z) = firstI w := by
  cases w with
  | nil => exact absurd rfl hw
  | cons x w => rfl
theorem firstI_len {w : List Int} (hw : w ≠ []) : (firstI w).length = 1 := by
  cases w with
  | nil => exact absurd rfl hw
  | cons x w => simp [firstI]
theorem snoc_of {w : List Int} (hw : w ≠ []) : ∃ v x, w = v ++ [x] := ⟨w.dropLast, w.getLast hw, (List.dropLast_concat_getLast hw).symm⟩
theorem lastI_app {w : List Int} (hw : w ≠ []) (y : List Int) : lastI (y ++ w) = lastI w := by
  obtain ⟨v, x, rfl⟩ := snoc_of hw
  rw [← List.append_assoc, lastI_snoc, lastI_snoc]
theorem lastI_len {w : List Int} (hw : w ≠ []) : (lastI w).length = 1 := by
  obtain ⟨v, x, rfl⟩ := snoc_of hw
  rw [lastI_snoc]
  rfl
theorem first_ins (y w z : List Int) (hw : w ≠ []) : firstI (y ++ w ++ z) = firstI (y ++ z) ↔ y ≠ [] ∨ firstI w = firstI z := by
  cases y with
  | nil =>
    rw [List.nil_append, List.nil_append, firstI_app hw]
    simp
  | cons a y => simp [firstI]
theorem last_ins (y w z : List Int) (hw : w ≠ []) : lastI (y ++ w ++ z) = lastI (y ++ z) ↔ z ≠ [] ∨ lastI w = lastI y := by
  by_cases hz : z = []
  · subst hz
    rw [List.append_nil, List.append_nil, lastI_app hw]
    simp
  · rw [lastI_app hz, lastI_app hz]
    simp [hz]
theorem ends_ins (y w z : List Int) (hw : w ≠ []) : endsI (y ++ w ++ z) = endsI (y ++ z) ↔ (y ≠ [] ∨ firstI w = firstI z) ∧ (z ≠ [] ∨ lastI w = lastI y) := by
  rw [← first_ins y w z hw, ← last_ins y w z hw, endsI_eq, endsI_eq]
  by_cases h : y ++ z = []
  · have hy := (List.append_eq_nil_iff.mp h).1
    have hz := (List.append_eq_nil_iff.mp h).2
    subst hy hz
    have e : firstI w ≠ [] := fun e => by
      have := firstI_len hw
      rw [e] at this
      cases this
    constructor
    · intro q
      refine absurd ?_ e
      have q2 := (List.append_eq_nil_iff.mp (show firstI ([] ++ w ++ []) ++ lastI ([] ++ w ++ []) = [] from q)).1
      rw [List.append_nil, List.nil_append] at q2
      exact q2
    · intro q
      refine absurd ?_ e
      have q2 := q.1
      rw [List.append_nil, List.nil_append] at q2
      exact q2
  · have hl : y ++ w ++ z ≠ [] := fun e => hw (by
      have := List.append_eq_nil_iff.mp (List.append_eq_nil_iff.mp e).1
      exact this.2)
    constructor
    · intro q
      exact List.append_inj q (by rw [firstI_len hl, firstI_len h])
    · rintro ⟨q1, q2⟩
      rw [q1, q2]
theorem set_ins (y w z : List Int) : sortI (headsI (y ++ w ++ z)) = sortI (headsI (y ++ z)) ↔ ∀ x ∈ w, x ∈ y ∨ x ∈ z := by
  constructor
  · intro h x hx
    have h1 : x ∈ sortI (headsI (y ++ w ++ z)) := mem_sort.mpr ((mem_headsI _).mpr (List.mem_append_left _ (List.mem_append_right _ hx)))
    rw [h] at h1
    exact List.mem_append.mp ((mem_headsI _).mp (mem_sort.mp h1))
  · intro h
    refine sort_mem (nodup_headsI _) (nodup_headsI _) fun x => ?_
    rw [mem_headsI, mem_headsI]
    simp only [List.mem_append]
    constructor
    · rintro ((q | q) | q)
      · exact .inl q
      · exact h x q
      · exact .inr q
    · rintro (q | q)
      · exact .inl (.inl q)
      · exact .inr q
def insOk (k : Kd) (y w z : List Int) : Prop :=
  match k with
  | .list => False
  | .bag => False
  | .set => ∀ x ∈ w, x ∈ y ∨ x ∈ z
  | .first => y ≠ [] ∨ firstI w = firstI z
  | .last => z ≠ [] ∨ lastI w = lastI y
  | .ends => (y ≠ [] ∨ firstI w = firstI z) ∧ (z ≠ [] ∨ lastI w = lastI y)
  | .heads => newI w y <+: newI z y
  | .tails => rearI w z <:+ rearI y z
theorem ins_iff (k : Kd) (y w z : List Int) (hw : w ≠ []) : plainI k (y ++ w ++ z) = plainI k (y ++ z) ↔ insOk k y w z := by
  have hl : ¬ (y ++ w ++ z).length = (y ++ z).length := fun e => hw (by
    rw [List.length_append, List.length_append, List.length_append] at e
    exact List.length_eq_zero_iff.mp (by omega))
  cases k with
  | list => exact ⟨fun h => hl (congrArg List.length h), False.elim⟩
  | bag => exact ⟨fun h => hl (by rw [← (sort_perm (y ++ w ++ z)).length_eq, ← (sort_perm (y ++ z)).length_eq]; exact congrArg List.length h), False.elim⟩
  | set => exact set_ins y w z
  | first => exact first_ins y w z hw
  | last => exact last_ins y w z hw
  | ends => exact ends_ins y w z hw
  | heads => exact heads_ins y w z
  | tails => exact tails_ins y w z
/-- w is a part of y -/
theorem rep_iff (k : Kd) (y w z : List Int) (hw : w ≠ []) (hy : ∀ x ∈ w, x ∈ y) : plainI k (y ++ w ++ z) = plainI k (y ++ z) ↔
    (match k with | .list => False | .bag => False | .last => z ≠ [] ∨ lastI w = lastI y | .ends => z ≠ [] ∨ lastI w = lastI y | .tails => rearI w z <:+ rearI y z | _ => True) := by
  have hn : y ≠ [] := fun e => by
    cases w with
    | nil => exact hw rfl
    | cons a w =>
      have := hy a List.mem_cons_self
      rw [e] at this
      cases this
  refine (ins_iff k y w z hw).trans ?_
  cases k with
  | list => exact Iff.rfl
  | bag => exact Iff.rfl
  | set => exact ⟨fun _ => trivial, fun _ x hx => .inl (hy x hx)⟩
  | first => exact ⟨fun _ => trivial, fun _ => .inl hn⟩
  | last => exact Iff.rfl
  | ends => exact ⟨fun h => h.2, fun h => ⟨.inl hn, h⟩⟩
  | heads =>
    refine ⟨fun _ => trivial, fun _ => ?_⟩
    have e : newI w y = [] := by
      refine List.filter_eq_nil_iff.mpr fun x hx => ?_
      have := hy x ((mem_headsI w).mp hx)
      simp [this]
    show newI w y <+: newI z y
    rw [e]
    exact List.nil_prefix
  | tails => exact Iff.rfl
/-- the law's own way to say «one is an end of other» -/
theorem suffix_law (one other : List Int) : one <:+ other ↔ one.length ≤ other.length ∧ other.drop (other.length - one.length) = one := by
  constructor
  · rintro ⟨t, rfl⟩
    refine ⟨by rw [List.length_append]; omega, ?_⟩
    rw [List.length_append, show t.length + one.length - one.length = t.length from by omega, List.drop_left]
  · rintro ⟨_, h⟩
    rw [← h]
    exact List.drop_suffix _ _
theorem prefix_law (one other : List Int) : one <+: other ↔ other.take one.length = one := by
  rw [List.prefix_iff_eq_take]
  exact ⟨fun h => h.symm, fun h => h.symm⟩
end Mv

set_option Elab.async false
set_option linter.all false
set_option maxRecDepth 100000
set_option maxHeartbeats 4000000
namespace Mv
open PySem PySem.Spec PyProof.Rows L2
/-! ### l.extend(t), t a tuple -/
theorem list_extend_tup (l : Addr) (items : Array Value) (n : Nat) (b : Addr) (items2 : Array Value) (n2 : Nat) (dd : Option Addr) (sl : Array (Option Value)) (hs0 : ¬(!items.isEmpty && Builtin.List.listTooLong (items.size + items2.size)) = true) (hs1 : items.size ≤ sizeLine) (hs2 : items.size + items2.size ≤ sizeLine + 1) :
    Meets (Builtin.«list.extend» ⟨[.ref l, .ref b], []⟩) (fun _ R s => s.heap.get? l = some { cls := .type "list", dict := none, data := .seq items n, slots := #[] } ∧ s.heap.get? b = some { cls := .type "tuple", dict := dd, data := .seq items2 n2, slots := sl } ∧ R (.ok (.ret Value.none)) { s with heap := s.heap.update l (Obj.mapSeq fun x => x ++ items2), toks := s.toks }) :=
  .of_wp fun prog w A R s h => by
    obtain ⟨hp, g, d, tk, os⟩ := s
    obtain ⟨hl, hb, h⟩ := h
    have f1 := AutoSeq1.idx_int
    have f2 := AutoSeq1.sub_tuple_tuple
    have f3 := AutoSeq1.sub_list_list
    have f4 := AutoSeq1.sub_tuple_list
    have f5 := AutoSeq1.sub_list_tuple
    have hz' : (items ++ items2).size ≤ sizeLine + 1 := by rw [Array.size_append]; exact hs2
    wp_walk using (wpAny_updateSeq hl rfl (hz := hs1) (_hz' := hz')), wpAny_loadPart' hl, wpAny_loadPart' hb
    exact ⟨_, rfl, h⟩
section
variable {X : Cx}
def rExtendT (K : PySem.W.Frag) : V → List V → Hp → VK → Prop := fun x vs H Q => ∃ l b xs zs, x = .ref l ∧ vs = [.ref b] ∧ H l = some (.lst xs) ∧ SqT K H b zs ∧ xs.length + zs.length ≤ sizeLine ∧ Q .non (upd H l (.lst (xs ++ zs)))
theorem mt_extendT : MtR X "list.extend" (rExtendT X.K) := by
  intro pins s σ H x vs v us Q I rx rv h
  obtain ⟨l, b, xs, zs, rfl, rfl, hH, hB, hz, q⟩ := h
  cases rx
  obtain ⟨u, rfl, ru⟩ := rv.one
  cases ru
  obtain ⟨z, its, n, r, hl, e⟩ := I.lstM hH
  obtain ⟨its2, r2, ⟨⟨cls, dd, data, sl⟩, ho, hc, n2, hd⟩, hl2⟩ := I.tuple hB
  simp only at hc hd
  subst hc hd
  have hle2 : its2.length = zs.length := r2.length.symm
  have hsz : its.toArray.size + its2.toArray.size ≤ sizeLine := by rw [List.size_toArray, List.size_toArray]; omega
  have hlong : ¬ (!its.toArray.isEmpty && Builtin.List.listTooLong (its.toArray.size + its2.toArray.size)) = true := by
    rw [notLongL hsz, Bool.and_false]
    exact Bool.false_ne_true
  refine call_meets F.slot_list_extend ⟨_, e, rfl⟩ F.entry_list_extend (F.args_list_extend_2 _ _)
    (list_extend_tup l its.toArray n b its2.toArray n2 dd sl hlong (by rw [List.size_toArray]; omega) (by omega)) ⟨e, ho, ?_⟩
  refine ⟨.non, _, I.lset (its' := its ++ its2) hH e (by simp) (r.append r2) ?_, rfl, q⟩
  rw [List.length_append]
  omega
end
/-! ### t * 1 is t -/
theorem tuple_mulOne (l : Addr) (items : Array Value) (n : Nat) (dd : Option Addr) (sl : Array (Option Value)) (u : Tok) :
    Meets (Builtin.«tuple.__mul__» ⟨[.ref l, .int 1 u], []⟩) (fun _ R s => s.heap.get? l = some { cls := .type "tuple", dict := dd, data := .seq items n, slots := sl } ∧ R (.ok (.ret (Value.ref l))) s) :=
  .of_wp fun prog w A R s h => by
    obtain ⟨hp, g, d, tk, os⟩ := s
    obtain ⟨hl, h⟩ := h
    have f1 := AutoSeq1.idx_int
    have c0 : (decide ((1 : Int) < -(2 ^ 63)) || decide ((1 : Int) ≥ 2 ^ 63)) = false := by decide
    have c1 : (items.isEmpty || (1 : Int) == 1) = true := by simp
    wp_walk using wpAny_loadPart' hl
    repeat (first
      | (refine wpAny_ite_false (decide_eq_false (by rw [c0]; exact Bool.false_ne_true)) ?_; wp_walk using wpAny_loadPart' hl)
      | (refine wpAny_ite_true (decide_eq_true c1) ?_; wp_walk using wpAny_loadPart' hl))
    exact ⟨_, rfl, h⟩
section
variable {X : Cx}
/-- t * k, k at least 1 -/
def rRepT1 (K : PySem.W.Frag) : R2 := fun x y H Q => ∃ l k xs, x = .ref l ∧ y = .int k ∧ SqT K H l xs ∧ xs ≠ [] ∧ 1 ≤ k ∧ k ≤ 1000 ∧ xs.length ≤ 1000 ∧ (k = 1 → Q (.ref l) H) ∧ (2 ≤ k → ∀ p, H p = none → Q (.ref p) (upd H p (.tup (List.replicate k.toNat xs).flatten)))
theorem op_repT1 : OpR X (binaryOp .Mult) (rRepT1 X.K) := by
  intro pins s σ H x y v u Q I rx ry h
  obtain ⟨l, k, xs, rfl, rfl, hT, hne, h1, h2, hz, q1, q2⟩ := h
  by_cases hk : k = 1
  · subst hk
    cases rx
    obtain ⟨t, rfl⟩ := ry
    obtain ⟨its, r, ⟨⟨cls, dd, data, sl⟩, ho, hc, n, hd⟩, hs⟩ := I.tuple hT
    simp only at hc hd
    subst hc hd
    exact wpAny_binaryOp_repeat_ref (T := "tuple") (U := "int") (by decide) ⟨_, ho, rfl⟩ (fun s' => typeIs_int s' 1 t) noFill_tuple_mul F.fills_int_mul F.slot_int_rmul repeat_tuple F.slot_int_index.lookup
      (call_meets F.slot_int_rmul (typeIs_int s 1 t) F.entry_int_rmul (F.args_int_rmul_2 _ _) (int_rmul_tuple 1 t l its.toArray n dd sl)
        ⟨ho, rfl, ⟨_, ho, rfl⟩, call_meets F.slot_tuple_mul ⟨_, ho, rfl⟩ F.entry_tuple_mul (F.args_tuple_mul_2 _ _) (tuple_mulOne l its.toArray n dd sl t) ⟨ho, .ref l, H, I, rfl, q1 rfl⟩⟩)
  · exact op_repT pins s σ H _ _ v u Q I rx ry ⟨l, k, xs, rfl, rfl, hT, hne, by omega, h2, hz, q2 (by omega)⟩
end
/-! ### a def with keyword-only parameters alone -/
theorem kbinds0 {K : PySem.W.Frag} {x qual : Str} {params : Arguments} {body : List Stmt} {scope : Scope} {kws : List (Str × V)} {f : Addr} {fd : FuncData} {ps : List Str}
    (F : FunD K x qual params body scope [] kws f fd) (n : Nat) (ks : List Str) (ms : List (Str × V)) (g : {α : Type} → List α → List α → List α → List α) (hk : kws ≠ []) (hms : ∀ q ∈ ms, q ∈ kws)
    (hrel : ∀ {vs mz zs : List V} {us mv ws : List Value}, Vals vs us → Vals mz mv → Vals zs ws → Vals (g vs mz zs) (g us mv ws))
    (h : ∀ (D : Addr) (doc pm : Value) (an : Option Addr) (cdv ct : Value) (us mv ws : List Value), us.length = n → mv.length = ms.length → ws.length = ks.length →
      KwChain D ((ms.map (·.1)).zip mv) (bindArgs (PySem.W.fnOf x qual params body scope .none (.ref D) doc pm an cdv ct) ⟨us, ks.zip ws⟩) (ps.zip (g us mv ws))) :
    ∃ mv : List Value, KBn K fd ps n ks (fun us ws => g us mv ws) (fun vs zs => g vs (ms.map (·.2)) zs) := by
  obtain ⟨oc, od, dV, kV, doc, pm, an, cdv, ct, osl, rfl, lk, hcd, hD, hK⟩ := F.ex
  rcases hD with ⟨_, rfl⟩ | ⟨e, _⟩
  · rcases hK with e | ⟨D, rfl, hq⟩
    · exact absurd e hk
    · obtain ⟨mv, hl, rk, hks⟩ := kwd_vals (ms := ms) fun q hm => hq q (hms q hm)
      refine ⟨mv, ⟨fun s us ws X l1 l2 => ?_, fun r1 r2 => hrel r1 rk r2⟩⟩
      exact BindsTo.of_looks fun M => KwChain.looks X hks (h D doc pm an cdv ct us mv ws l1 hl l2)
  · exact absurd rfl e
/-! ### lists of tuples of ints, compared -/
def tupsD (xss : List (List Int)) : List PyData := xss.map fun xs => .tuple (xs.map .int)
theorem lay_tups : ∀ xss : List (List Int), PyData.canLayAll0 (tupsD xss) = true
  | [] => rfl
  | xs :: r => by
    have := lay_tups r
    unfold tupsD at this ⊢
    simp [PyData.canLayAll0, PyData.canLay0, PySem.W.ke_canLayAll0, this]
theorem depth_tups : ∀ xss : List (List Int), PyData.depthAll (tupsD xss) ≤ 1
  | [] => Nat.zero_le _
  | xs :: r => by
    have := depth_tups r
    unfold tupsD at this ⊢
    simp [PyData.depthAll, PyData.depth, PySem.W.ke_depthAll, this]
theorem shaped_tups (xss : List (List Int)) : SeqAt.shaped (.list (tupsD xss)) = true := by
  have := depth_tups xss
  simp [SeqAt.shaped, PyData.canLay0, PyData.depth, lay_tups]
  omega
end Mv

set_option Elab.async false
set_option linter.all false
set_option maxRecDepth 100000
set_option maxHeartbeats 1000000
namespace Mv
open PySem
/-! ### two words that change places -/
/-- one is a beginning of the other -/
def chn (a b : List Int) : Prop := a <+: b ∨ b <+: a
theorem chn_swap (a b : List Int) (ha : a.Nodup) (hb : b.Nodup) : a ++ b.filter (fun x => decide (x ∉ a)) = b ++ a.filter (fun x => decide (x ∉ b)) ↔ chn a b := by
  have key : ∀ a b : List Int, b.Nodup → a <+: b → a ++ b.filter (fun x => decide (x ∉ a)) = b ++ a.filter (fun x => decide (x ∉ b)) := by
    rintro a b hb ⟨r, rfl⟩
    have e1 : (a ++ r).filter (fun x => decide (x ∉ a)) = r := by
      rw [List.filter_append, List.filter_eq_nil_iff.mpr (fun x hx => by simp [hx]), List.nil_append]
      exact List.filter_eq_self.mpr fun x hx => decide_eq_true fun h => (List.nodup_append.mp hb).2.2 x h x hx rfl
    have e2 : a.filter (fun x => decide (x ∉ a ++ r)) = [] := List.filter_eq_nil_iff.mpr fun x hx => by simp [hx]
    rw [e1, e2, List.append_nil]
  constructor
  · intro h
    exact List.prefix_or_prefix_of_prefix (l₃ := a ++ b.filter fun x => decide (x ∉ a)) (List.prefix_append _ _) (h ▸ List.prefix_append _ _)
  · rintro (h | h)
    · exact key a b hb h
    · exact (key b a ha h).symm
theorem new_congr (b : List Int) {p q : List Int} (h : ∀ x, x ∈ p ↔ x ∈ q) : newI b p = newI b q := List.filter_congr fun x _ => decide_eq_decide.mpr (not_congr (h x))
theorem new_more (b a p : List Int) : newI b (a ++ p) = (newI b a).filter fun x => decide (x ∉ p) := by
  unfold newI
  rw [List.filter_filter]
  refine List.filter_congr fun x _ => ?_
  rw [← Bool.decide_and]
  exact decide_eq_decide.mpr (by rw [List.mem_append]; exact ⟨fun h => ⟨fun z => h (.inr z), fun z => h (.inl z)⟩, fun h z => z.elim h.2 h.1⟩)
theorem new_filter (u v a : List Int) : (newI v a).filter (fun x => decide (x ∉ u)) = (newI v a).filter (fun x => decide (x ∉ newI u a)) := by
  refine List.filter_congr fun x hx => decide_eq_decide.mpr (not_congr ?_)
  rw [mem_newI]
  exact ⟨fun h => ⟨h, (mem_newI.mp hx).2⟩, fun h => h.1⟩
theorem heads_swap (a u v b : List Int) : headsI (a ++ u ++ v ++ b) = headsI (a ++ v ++ u ++ b) ↔ chn (newI u a) (newI v a) := by
  rw [heads_app (a ++ u ++ v) b, heads_app (a ++ v ++ u) b, new_congr b (p := a ++ u ++ v) (q := a ++ v ++ u) fun x => by simp only [List.mem_append]; exact ⟨fun h => h.elim (fun h => h.elim (fun h => .inl (.inl h)) .inr) (fun h => .inl (.inr h)), fun h => h.elim (fun h => h.elim (fun h => .inl (.inl h)) .inr) (fun h => .inl (.inr h))⟩, List.append_left_inj]
  rw [List.append_assoc a u v, List.append_assoc a v u, heads_app a (u ++ v), heads_app a (v ++ u), List.append_right_inj, new_app, new_app, new_filter u v a, new_filter v u a]
  exact chn_swap _ _ (nodup_newI u a) (nodup_newI v a)
theorem chn_filter {a b : List Int} (p : Int → Bool) (h : chn a b) : chn (a.filter p) (b.filter p) := h.elim (fun h => .inl (h.filter p)) (fun h => .inr (h.filter p))
def chnT (a b : List Int) : Prop := a <:+ b ∨ b <:+ a
theorem new_rev (a p : List Int) : newI a p.reverse = newI a p := new_congr a fun x => List.mem_reverse
theorem chn_rear (u v b : List Int) : chn (newI v.reverse b.reverse) (newI u.reverse b.reverse) ↔ chnT (rearI u b) (rearI v b) := by
  unfold chn chnT rearI
  rw [new_rev, new_rev, List.reverse_suffix, List.reverse_suffix]
  exact Or.comm
theorem tails_swap (a u v b : List Int) : tailsI (a ++ u ++ v ++ b) = tailsI (a ++ v ++ u ++ b) ↔ chnT (rearI u b) (rearI v b) := by
  unfold tailsI
  rw [List.reverse_inj, ← chn_rear, ← heads_swap b.reverse v.reverse u.reverse a.reverse]
  simp only [List.reverse_append, List.append_assoc]
theorem chn_law (a b : List Int) : chn a b ↔ a.take (min a.length b.length) = b.take (min a.length b.length) := by
  constructor
  · rintro (h | h)
    · obtain ⟨r, rfl⟩ := h
      rw [List.length_append, Nat.min_eq_left (by omega), List.take_length, List.take_left]
    · obtain ⟨r, rfl⟩ := h
      rw [List.length_append, Nat.min_eq_right (by omega), List.take_length, List.take_left]
  · intro h
    rcases Nat.le_total a.length b.length with q | q
    · rw [Nat.min_eq_left q, List.take_length] at h
      exact .inl (h ▸ List.take_prefix _ _)
    · rw [Nat.min_eq_right q, List.take_length] at h
      exact .inr (h ▸ List.take_prefix _ _)
theorem chnT_law (a b : List Int) : chnT a b ↔ a.drop (a.length - min a.length b.length) = b.drop (b.length - min a.length b.length) := by
  constructor
  · rintro (h | h)
    · obtain ⟨r, rfl⟩ := h
      rw [List.length_append, Nat.min_eq_left (by omega), Nat.sub_self, List.drop_zero, show r.length + a.length - a.length = r.length from by omega, List.drop_left]
    · obtain ⟨r, rfl⟩ := h
      rw [List.length_append, Nat.min_eq_right (by omega), Nat.sub_self, List.drop_zero, show r.length + b.length - b.length = r.length from by omega, List.drop_left]
  · intro h
    rcases Nat.le_total a.length b.length with q | q
    · rw [Nat.min_eq_left q, Nat.sub_self, List.drop_zero] at h
      exact .inl (h ▸ List.drop_suffix _ _)
    · rw [Nat.min_eq_right q, Nat.sub_self, List.drop_zero] at h
      exact .inr (h ▸ List.drop_suffix _ _)
theorem sort_swap {xs ys : List Int} (h : xs.Perm ys) : sortI xs = sortI ys := sort_congr h
theorem perm_swap (a u v b : List Int) : (a ++ u ++ v ++ b).Perm (a ++ v ++ u ++ b) := by
  refine List.Perm.append_right b ?_
  rw [List.append_assoc, List.append_assoc]
  exact List.Perm.append_left a List.perm_append_comm
/-- the cases in which two words may change places (but for list) -/
def swapOk (k : Kd) (a b u v : List Int) : Prop :=
  match k with
  | .list => u ++ v = v ++ u
  | .bag => True
  | .set => True
  | .first => a ≠ [] ∨ firstI u = firstI v
  | .last => b ≠ [] ∨ lastI u = lastI v
  | .ends => (a ≠ [] ∨ firstI u = firstI v) ∧ (b ≠ [] ∨ lastI u = lastI v)
  | .heads => chn (newI u a) (newI v a)
  | .tails => chnT (rearI u b) (rearI v b)
theorem first_swap {a u v b : List Int} (hu : u ≠ []) (hv : v ≠ []) : firstI (a ++ u ++ v ++ b) = firstI (a ++ v ++ u ++ b) ↔ a ≠ [] ∨ firstI u = firstI v := by
  cases a with
  | nil =>
    rw [List.nil_append, List.nil_append, List.append_assoc, List.append_assoc, firstI_app hu, firstI_app hv]
    simp
  | cons x a => simp [firstI]
theorem last_swap {a u v b : List Int} (hu : u ≠ []) (hv : v ≠ []) : lastI (a ++ u ++ v ++ b) = lastI (a ++ v ++ u ++ b) ↔ b ≠ [] ∨ lastI u = lastI v := by
  by_cases hb : b = []
  · subst hb
    rw [List.append_nil, List.append_nil, lastI_app hv, lastI_app hu]
    simp
    exact ⟨Eq.symm, Eq.symm⟩
  · rw [lastI_app hb, lastI_app hb]
    simp [hb]
theorem swap_iff (k : Kd) {a u v b : List Int} (hu : u ≠ []) (hv : v ≠ []) : plainI k (a ++ u ++ v ++ b) = plainI k (a ++ v ++ u ++ b) ↔ swapOk k a b u v := by
  cases k with
  | list =>
    show a ++ u ++ v ++ b = a ++ v ++ u ++ b ↔ u ++ v = v ++ u
    rw [List.append_left_inj, List.append_assoc, List.append_assoc, List.append_right_inj]
  | bag => exact ⟨fun _ => trivial, fun _ => sort_congr (perm_swap a u v b)⟩
  | set => exact ⟨fun _ => trivial, fun _ => sort_mem (nodup_headsI _) (nodup_headsI _) fun x => by rw [mem_headsI, mem_headsI]; exact (perm_swap a u v b).mem_iff⟩
  | first => exact first_swap hu hv
  | last => exact last_swap hu hv
  | ends =>
    have l1 : a ++ u ++ v ++ b ≠ [] := fun e => hu (List.append_eq_nil_iff.mp (List.append_eq_nil_iff.mp (List.append_eq_nil_iff.mp e).1).1).2
    have l2 : a ++ v ++ u ++ b ≠ [] := fun e => hv (List.append_eq_nil_iff.mp (List.append_eq_nil_iff.mp (List.append_eq_nil_iff.mp e).1).1).2
    show endsI _ = endsI _ ↔ (a ≠ [] ∨ firstI u = firstI v) ∧ (b ≠ [] ∨ lastI u = lastI v)
    rw [← first_swap (b := b) hu hv, ← last_swap (a := a) hu hv, endsI_eq, endsI_eq]
    exact ⟨fun q => List.append_inj q (by rw [firstI_len l1, firstI_len l2]), fun q => by rw [q.1, q.2]⟩
  | heads => exact heads_swap a u v b
  | tails => exact tails_swap a u v b
theorem swapOk_comm (k : Kd) {a b u v : List Int} (h : swapOk k a b u v) : swapOk k a b v u := by
  cases k with
  | list => exact h.symm
  | bag => trivial
  | set => trivial
  | first => exact h.imp id Eq.symm
  | last => exact h.imp id Eq.symm
  | ends => exact ⟨h.1.imp id Eq.symm, h.2.imp id Eq.symm⟩
  | heads => exact h.symm
  | tails => exact h.symm
/-- what is left may change places when a first part has come -/
theorem swap_step (k : Kd) (hk : k ≠ .list) {a b x u v : List Int} (hx : x ≠ []) (hu : u ≠ []) (h : swapOk k a b (x ++ u) v) : swapOk k (a ++ x) b u v := by
  have ha : a ++ x ≠ [] := fun e => hx (List.append_eq_nil_iff.mp e).2
  cases k with
  | list => exact absurd rfl hk
  | bag => trivial
  | set => trivial
  | first => exact .inl ha
  | last => exact h.imp id fun h => by rw [lastI_app hu] at h; exact h
  | ends => exact ⟨.inl ha, h.2.imp id fun h => by rw [lastI_app hu] at h; exact h⟩
  | heads =>
    have e1 : newI u (a ++ x) = (newI (x ++ u) a).filter fun z => decide (z ∉ x) := by
      rw [new_app, List.filter_append, List.filter_eq_nil_iff.mpr (fun z hz => by simp [(mem_newI.mp hz).1]), List.nil_append, List.filter_filter, new_more]
      exact List.filter_congr fun z _ => by simp
    show chn (newI u (a ++ x)) (newI v (a ++ x))
    rw [e1, new_more]
    exact chn_filter _ h
  | tails =>
    have e1 : rearI u b <:+ rearI (x ++ u) b := by
      unfold rearI
      rw [List.reverse_suffix, List.reverse_append, new_app]
      exact List.prefix_append _ _
    show chnT (rearI u b) (rearI v b)
    rcases h with h | h
    · exact .inl (e1.trans h)
    · exact List.suffix_or_suffix_of_suffix e1 h
/-! ### parcels that clash under list -/
def comm (x y : List Int) : Prop := x ++ y = y ++ x
instance (x y : List Int) : Decidable (comm x y) := inferInstanceAs (Decidable (x ++ y = y ++ x))
def clash : List (List Int) → List (List Int) → Option (Nat × Nat)
  | [], _ => none
  | x :: U, V => match V.findIdx? (fun y => !decide (comm x y)) with
    | some j => some (0, j)
    | none => (clash U V).map fun p => (p.1 + 1, p.2)
theorem clash_none : ∀ {U V : List (List Int)}, clash U V = none ↔ ∀ x ∈ U, ∀ y ∈ V, comm x y
  | [], V => ⟨(fun _ x hx => by cases hx), fun _ => rfl⟩
  | x :: U, V => by
    have ih := clash_none (U := U) (V := V)
    unfold clash
    cases e : V.findIdx? (fun y => !decide (comm x y)) with
    | some j =>
      refine ⟨(fun h => by cases h), fun h => ?_⟩
      obtain ⟨hj, hp, _⟩ := List.findIdx?_eq_some_iff_getElem.mp e
      have := h x List.mem_cons_self V[j] (List.getElem_mem hj)
      simp [this] at hp
    | none =>
      rw [List.findIdx?_eq_none_iff] at e
      simp only [Option.map_eq_none_iff, ih]
      constructor
      · intro h z hz y hy
        rcases List.mem_cons.mp hz with rfl | hz
        · have := e y hy
          simpa using this
        · exact h z hz y hy
      · exact fun h z hz => h z (List.mem_cons_of_mem _ hz)
theorem clash_some : ∀ {U V : List (List Int)} {i j : Nat} {x y : List Int}, (∀ z ∈ U.take i, ∀ y ∈ V, comm z y) → U[i]? = some x → (∀ z ∈ V.take j, comm x z) → V[j]? = some y → ¬ comm x y → clash U V = some (i, j)
  | [], V, i, j, x, y, _, hx, _, _, _ => by cases hx
  | z :: U, V, 0, j, x, y, _, hx, h2, hy, h3 => by
    obtain rfl : z = x := Option.some.inj hx
    unfold clash
    have e : V.findIdx? (fun y => !decide (comm z y)) = some j := by
      rw [List.findIdx?_eq_some_iff_getElem]
      obtain ⟨hj, ey⟩ := List.getElem?_eq_some_iff.mp hy
      refine ⟨hj, by rw [ey]; simp [h3], fun m hm => ?_⟩
      have : comm z V[m] := h2 V[m] (List.mem_take_iff_getElem.mpr ⟨m, by omega, rfl⟩)
      simp [this]
    rw [e]
  | z :: U, V, i + 1, j, x, y, h1, hx, h2, hy, h3 => by
    have ih := clash_some (U := U) (V := V) (i := i) (j := j) (fun w hw => h1 w (by rw [List.take_succ_cons]; exact List.mem_cons_of_mem _ hw)) hx h2 hy h3
    unfold clash
    have e : V.findIdx? (fun y => !decide (comm z y)) = none := by
      rw [List.findIdx?_eq_none_iff]
      intro y hy
      have : comm z y := h1 z (by rw [List.take_succ_cons]; exact List.mem_cons_self) y hy
      simp [this]
    rw [e, ih]
    rfl
theorem comm_flat {x : List Int} : ∀ {V : List (List Int)}, (∀ y ∈ V, comm x y) → comm x V.flatten
  | [], _ => by unfold comm; simp
  | y :: V, h => by
    have h1 : x ++ y = y ++ x := h y List.mem_cons_self
    have h2 : x ++ V.flatten = V.flatten ++ x := comm_flat (V := V) fun z hz => h z (List.mem_cons_of_mem _ hz)
    show x ++ (y ++ V.flatten) = (y ++ V.flatten) ++ x
    rw [← List.append_assoc, h1, List.append_assoc, h2, List.append_assoc]
theorem flat_comm : ∀ {U V : List (List Int)}, (∀ x ∈ U, ∀ y ∈ V, comm x y) → comm U.flatten V.flatten
  | [], V, _ => by unfold comm; simp
  | x :: U, V, h => by
    have h1 : x ++ V.flatten = V.flatten ++ x := comm_flat (h x List.mem_cons_self)
    have h2 : U.flatten ++ V.flatten = V.flatten ++ U.flatten := flat_comm (U := U) fun z hz => h z (List.mem_cons_of_mem _ hz)
    show (x ++ U.flatten) ++ V.flatten = V.flatten ++ (x ++ U.flatten)
    rw [List.append_assoc, h2, ← List.append_assoc, h1, List.append_assoc]
end Mv

set_option Elab.async false
set_option linter.all false
set_option maxRecDepth 100000
set_option maxHeartbeats 4000000
namespace Mv
open PySem PySem.Spec PyProof.Rows L2
def topS (i : Nat) : Stmt := PySem.Challenge.pw_movedstates_k39_free_orders_exactly.main.body.getD i (.Pass ⟨0, 0, 0, 0⟩)
abbrev sStream : Stmt := topS 23
abbrev sDraw : Stmt := topS 24
abbrev sWide : Stmt := topS 25
abbrev sValue : Stmt := topS 26
abbrev sWord : Stmt := topS 27
section
variable {P : Program} {w : World} {K : PySem.W.Frag} {mg : Str → Option Value} {base : Heap}
/-! ### the script's stream -/
theorem scStream : FnScope ["_law_script", "_law_pairs", "_law_at", "_law_cell", "_law_rest", "_law_k"] ["_law_script"] (defScope sStream) := ⟨rfl, rfl, rfl, by decide +kernel, rfl, by decide +kernel, by decide +kernel⟩
def spStream (K : PySem.W.Frag) : Sp := fun vs H Q _ => ∃ (a : Addr) (ns : List Int), vs = [.ref a] ∧ SqL K H a (ns.map V.int) ∧ ns.length ≤ 63 ∧ ∀ (H' : Hp) (p : Addr), Same H H' → H p = none → Strm H' p → Q (.ref p) H'
/-- between two pairs -/
def StmI (H : Hp) (a o c : Addr) (ys : List Int) (n : Nat) (σ : L2.St) (H3 : Hp) : Prop := ∃ (y2 y3 y4 y5 : Option V) (ps : List Int), σ = [some (.ref a), some (.ref o), y2, y3, y4, y5] ∧ Same H H3 ∧ H3 c = some (.lst (ys.map V.int)) ∧ H3 o = some (.lst (ps.map V.int)) ∧ ps.length ≤ n
def StmJ (H : Hp) (a o c : Addr) (ys : List Int) (n : Nat) (x2 x3 : V) (σ : L2.St) (H3 : Hp) : Prop := ∃ (r : Int) (y5 : Option V) (ps : List Int), σ = [some (.ref a), some (.ref o), some x2, some x3, some (.int r), y5] ∧ Same H H3 ∧ H3 c = some (.lst (ys.map V.int)) ∧ H3 o = some (.lst (ps.map V.int)) ∧ ps.length ≤ n
theorem StmJ.i {H : Hp} {a o c : Addr} {ys : List Int} {n m : Nat} {x2 x3 : V} {σ : L2.St} {H3 : Hp} (h : StmJ H a o c ys n x2 x3 σ H3) (hm : n ≤ m) : StmI H a o c ys m σ H3 := by
  obtain ⟨r, y5, ps, e, s, h1, h2, h3⟩ := h
  exact ⟨_, _, _, _, ps, e, s, h1, h2, Nat.le_trans h3 hm⟩
theorem ok_stream {f : Addr} {fd : FuncData} (F : Fun K "_law_stream" "_law_stream" sStream f fd) (B : Bi mg) : FnOk P w K mg base CX0 1 f fd ["_law_script"] (spStream K) := by
  refine F.ok scStream (fun vs H Q E h => ?_) (fun cdv A outer s H vs Q E hr h => ?_)
  · obtain ⟨a, ns, rfl, _⟩ := h
    rfl
  · obtain ⟨a, ns, rfl, hS, hlen, q⟩ := h
    refine ⟨_, (pss_cons (ps_set (i := 1) scStream.nd rfl (.inl rfl) (pe_lst pa_nil))
 (pss_cons (ps_for PassesOwn.never rfl (pi_enum (by rfl) B.enumerate (pa_cons (pe_slice sl_list (pv 0) po_none (po_some pe_int)) pa_nil)) (pg_tup rfl (pgs_cons (pg_name (i := 2) scStream.nd rfl (.inl rfl)) (pgs_cons (pg_name (i := 3) scStream.nd rfl (.inl rfl)) pgs_nil)))
 (pss_cons (ps_set (i := 4) scStream.nd rfl (.inl rfl) (pe_callB call_abs (by rfl) B.abs (by decide +kernel) (pa_cons (pv 3) pa_nil)))
 (pss_cons (ps_if (pt_cmpR op_lt (pv 4) pe_int (nomark _))
 (pss_cons (ps_set (i := 4) scStream.nd rfl (.inl rfl) (pe_op op_mod (pe_callTy call_int1 (by rfl) B.int (by decide +kernel) (pa_cons (pe_op op_mul (pv 4) (pe_op op_add (pe_op op_add pe_int (pe_op op_mul pe_int (pv 2))) (pe_callTy call_int1 (by rfl) B.int (by decide +kernel) (pa_cons (pe_cmpR op_lt (pv 3) pe_int (nomark _)) pa_nil)))) pa_nil)) pe_int))
 (pss_one (ps_set (i := 4) scStream.nd rfl (.inl rfl) (pe_op op_mod (pe_callTy call_int1 (by rfl) B.int (by decide +kernel) (pa_cons (pe_op op_mul (pv 4) (pe_op op_add (pv 4) pe_int)) pa_nil)) pe_int)))) pss_nil)
 (pss_one (ps_for PassesOwn.never rfl (pi_range1 (by rfl) B.range (pa_cons pe_int pa_nil)) (pg_name (i := 5) scStream.nd rfl (.inl rfl))
 (pss_cons (ps_expr (pe_bm PySem.F.plainAttrs_list PySem.F.slot_list_append PySem.F.type_list_append mt_append (pv 1) (pa_cons (pe_op op_mod (pe_callTy call_int1 (by rfl) B.int (by decide +kernel) (pa_cons (pv 4) pa_nil)) pe_int) pa_nil)))
 (pss_cons (ps_set (i := 4) scStream.nd rfl (.inl rfl) (pe_op op_fdiv (pv 4) pe_int))
 (pss_one (ps_if (pt_cmpR op_eq (pv 4) pe_int (nomark _))
 (pss_one ps_break) pss_nil)))))))))
 (pss_cons (ps_expr (pe_bm0 PySem.F.plainAttrs_list PySem.F.slot_list_reverse PySem.F.type_list_reverse mt_reverse (pv 1)))
 (pss_one (ps_ret (pv 1)))))), ?_⟩
    refine ⟨Nat.zero_le _, fun o no => ?_⟩
    have s1 : Same H (upd H o (.lst [])) := same_upd no
    refine ⟨.ref a, rfl, 63, rfl, a, ns.map V.int, rfl, s1.seq hS, fun c nc => ?_⟩
    have s2 : Same (upd H o (.lst [])) (upd (upd H o (.lst [])) c (.lst (cutV (ns.map V.int) none (some 63)))) := same_upd nc
    have nco : c ≠ o := fun e => by
      rw [e, upd_same] at nc
      cases nc
    refine ⟨c, _, rfl, .inl (.inl upd_same), ?_⟩
    rw [cutV_int] at s2 ⊢
    have hcl : (cutI ns none (some 63)).length ≤ 63 := Nat.le_trans (cutI_length _ _ _) hlen
    generalize cutI ns none (some 63) = ys at *
    refine for_it walk_enum (fun i σ H3 => StmI H a o c ys (60 * i) σ H3)
      ⟨none, none, none, none, [], rfl, s1.trans s2, upd_same, by rw [upd_ne nco.symm, upd_same]; rfl, Nat.le_refl _⟩ (fun i σ H3 _ ⟨_, _, _, _, _, _, _, hc3, _⟩ => .inl (.inl hc3)) ?_ ?_
    · rintro i x σ H3 H4 hi ⟨y2, y3, y4, y5, ps, rfl, sm, hc3, ho3, hps⟩ ⟨T, x1, x2, rfl, nT, rfl, e1, e2⟩
      obtain rfl : V.int (i : Nat) = x1 := Option.some.inj e1
      obtain ⟨u, rfl, hu⟩ := int_at e2
      rw [List.length_map] at hi
      have smT : Same H3 (upd H3 T (.tup [.int (i : Nat), .int u])) := same_upd nT
      refine ⟨T, [.int (i : Nat), .int u], rfl, .inl (.inl upd_same), rfl, .int (i : Nat), [.int (i : Nat), .int u].tail, rfl, .int u, [], rfl, rfl, ?_⟩
      have hj : StmJ H a o c ys (60 * i + 0) (.int (i : Nat)) (.int u) [some (.ref a), some (.ref o), some (.int (i : Nat)), some (.int u), some (.int 0), y5] (upd H3 T (.tup [.int (i : Nat), .int u])) :=
        ⟨0, y5, ps, rfl, sm.trans smT, smT _ _ hc3, smT _ _ ho3, hps⟩
      generalize upd H3 T (.tup [.int (i : Nat), .int u]) = H4 at hj ⊢
      -- the inner loop, whatever is left
      have inner : ∀ r : Int, StmJ H a o c ys (60 * i + 0) (.int (i : Nat)) (.int u) [some (.ref a), some (.ref o), some (.int (i : Nat)), some (.int u), some (.int r), y5] H4 := fun r => by
        obtain ⟨r', y5', ps', e, k⟩ := hj
        cases e
        exact ⟨r, _, ps', rfl, k⟩
      clear hj
      refine ⟨.int u, rfl, u, rfl, ?_⟩
      refine ⟨_, rfl, _, _, rfl, rfl, _, rfl, ?_⟩
      refine ite2 ?A ?B
      case' A =>
        intro e
        have e' := of_decide_eq_true e
        have e0 := abs_nn u
        simp only [tSeq, tAsg, gName, tOp, rI, rI0, rU, tUn, tVar, tC, tCB, tCons, tNil, tTest, tIfS, tRet, tRetN, tDrop, tNext, tBreak, tCont, rEq, rNe, CDiv, CDivN, CMul, tBM, tBM0, tTup, tLst, tAug, tIf, tAnd, tOr, tNot, tAndV, tOrV, tNotV, tIsN, tNotN, tB, scal, tCall, cxK, cxKn, rIxT, rIxL, rIn, rAppend, rReverse, tVals, tDSetd, tDGet, tDGet1, tDGet2, tDIn, tDNotIn, rSortV, rSortT, rPop, rSortL, rSortT, tSl, tNoPart, tPart, List.append_nil, L2.start, List.map_cons, List.map_nil, List.length_cons, List.length_nil, List.replicate_succ, List.replicate_zero, List.cons_append, List.nil_append, Nat.reduceAdd, Nat.reduceSub, exists_eq, exists_eq', List.getElem?_cons_zero, List.getElem?_cons_succ, List.set_cons_zero, List.set_cons_succ, Option.some.injEq, V.int.injEq, V.bl.injEq, V.str.injEq, V.ref.injEq, List.cons.injEq, and_true, true_and, and_false, false_and, reduceCtorEq, exists_false, or_false, false_or, exists_and_left, exists_and_right, exists_eq_left, exists_eq_left', exists_eq_right, exists_eq_right', exists_const, ite_true, ite_false, Bool.false_eq_true, if_true, if_false, decide_true, decide_false]
        refine ⟨.inl (by omega), .inl (by omega), by decide, .inl ?_, by decide, ?C⟩
        · have h1 := Int.emod_nonneg ((if u < 0 then -u else u) * (6364136223846793005 + 2 * (i : Int) + if decide (u < 0) = true then 1 else 0)) (show (1000000000000000003 : Int) ≠ 0 by decide)
          have h2 := Int.emod_lt_of_pos ((if u < 0 then -u else u) * (6364136223846793005 + 2 * (i : Int) + if decide (u < 0) = true then 1 else 0)) (show (0 : Int) < 1000000000000000003 by decide)
          omega
        generalize (if u < 0 then -u else u) * (6364136223846793005 + 2 * (i : Int) + if decide (u < 0) = true then 1 else 0) % 1000000000000000003 * ((if u < 0 then -u else u) * (6364136223846793005 + 2 * (i : Int) + if decide (u < 0) = true then 1 else 0) % 1000000000000000003 + 1442695040888963407) % 1000000000000000009 = r
      case' B =>
        intro e
        generalize (if u < 0 then -u else u) = r
      all_goals
        refine ⟨60, rfl, by decide, by decide, for_range (n := 60) (fun j σ H' => StmJ H a o c ys (60 * i + j) (.int (i : Nat)) (.int u) σ H') (inner r) ?_ (fun σ H' h => h.i (by omega))⟩
        rintro j σ H' hj ⟨r', y5', ps', rfl, sm', hc', ho', hps'⟩
        refine ⟨.ref o, rfl, .inl ⟨rfl, _, SqL.of ho'⟩, _, rfl, .inl ⟨_, rfl, ?_⟩⟩
        refine ⟨_, _, rfl, rfl, by show (0 : Int) < 100; decide, o, _, _, rfl, rfl, ho', by rw [List.length_map]; exact small4000 (by omega), ?_⟩
        have hj' : StmJ H a o c ys (60 * i + (j + 1)) (.int (i : Nat)) (.int u) [some (.ref a), some (.ref o), some (.int (i : Nat)), some (.int u), some (.int (r' / 100)), some (.int (0 + (j : Nat)))] (upd H' o (.lst (ps'.map V.int ++ [.int (r' % 100)]))) :=
          ⟨_, _, ps' ++ [r' % 100], rfl, fun b z e => by rw [upd_ne (ne_of_none e no)]; exact sm' _ _ e, by rw [upd_ne nco]; exact hc', by rw [upd_same, List.map_append]; rfl, by rw [List.length_append, List.length_singleton]; omega⟩
        simp only [tSeq, tAsg, gName, tOp, rI, rI0, rU, tUn, tVar, tC, tCB, tCons, tNil, tTest, tIfS, tRet, tRetN, tDrop, tNext, tBreak, tCont, rEq, rNe, CDiv, CDivN, CMul, tBM, tBM0, tTup, tLst, tAug, tIf, tAnd, tOr, tNot, tAndV, tOrV, tNotV, tIsN, tNotN, tB, scal, tCall, cxK, cxKn, rIxT, rIxL, rIn, rAppend, rReverse, tVals, tDSetd, tDGet, tDGet1, tDGet2, tDIn, tDNotIn, rSortV, rSortT, rPop, rSortL, rSortT, tSl, tNoPart, tPart, List.append_nil, L2.start, List.map_cons, List.map_nil, List.length_cons, List.length_nil, List.replicate_succ, List.replicate_zero, List.cons_append, List.nil_append, Nat.reduceAdd, Nat.reduceSub, exists_eq, exists_eq', List.getElem?_cons_zero, List.getElem?_cons_succ, List.set_cons_zero, List.set_cons_succ, Option.some.injEq, V.int.injEq, V.bl.injEq, V.str.injEq, V.ref.injEq, List.cons.injEq, and_true, true_and, and_false, false_and, reduceCtorEq, exists_false, or_false, false_or, exists_and_left, exists_and_right, exists_eq_left, exists_eq_left', exists_eq_right, exists_eq_right', exists_const, ite_true, ite_false, Bool.false_eq_true, if_true, if_false, decide_true, decide_false]
        refine ⟨by decide, ite2 (fun _ => hj'.i (by omega)) (fun _ => hj')⟩
    · rintro σ H3 ⟨y2, y3, y4, y5, ps, rfl, sm, hc3, ho3, hps⟩
      rw [List.length_map] at hps
      refine ⟨.ref o, rfl, .inl ⟨rfl, _, SqL.of ho3⟩, o, ps.map V.int, rfl, rfl, ho3, .ref o, rfl, ?_⟩
      refine q _ o (fun b z e => ?_) no ⟨ps.reverse, ?_, ?_⟩
      · rw [upd_ne (ne_of_none e no)]
        exact sm _ _ e
      · rw [upd_same, List.map_reverse]
      · rw [List.length_reverse]
        omega
end
end Mv

set_option Elab.async false
set_option linter.all false
set_option maxRecDepth 100000
set_option maxHeartbeats 4000000
namespace Mv
open PySem PySem.Spec PyProof.Rows L2
section
variable {P : Program} {w : World} {K : PySem.W.Frag} {mg : Str → Option Value} {base : Heap}
theorem scDraw : FnScope ["_law_stream_here", "_law_many"] ["_law_stream_here", "_law_many"] (defScope sDraw) := ⟨rfl, rfl, rfl, by decide +kernel, rfl, by decide +kernel, by decide +kernel⟩
def spDraw : Sp := fun vs H Q _ => ∃ (a : Addr) (m : Int), vs = [.ref a, .int m] ∧ 0 < m ∧ Strm H a ∧ ∀ (r : Int) (H' : Hp), 0 ≤ r → r < m → Sx a H H' → Strm H' a → Q (.int r) H'
theorem ok_draw {f : Addr} {fd : FuncData} (F : Fun K "_law_draw" "_law_draw" sDraw f fd) (B : Bi mg) : FnOk P w K mg base CX0 1 f fd ["_law_stream_here", "_law_many"] spDraw := by
  refine F.ok scDraw (fun vs H Q E h => ?_) (fun cdv A outer s H vs Q E hr h => ?_)
  · obtain ⟨a, m, rfl, _⟩ := h
    rfl
  · obtain ⟨a, m, rfl, hm, ⟨ns, ha, hl⟩, q⟩ := h
    refine ⟨_, (pss_cons (ps_if (pt_cmpR op_eq (pe_callB call_len_seq (by rfl) B.len PySem.boot_len (pa_cons (pv 0) pa_nil)) pe_int (nomark _))
 (pss_one (ps_ret pe_int)) pss_nil)
 (pss_one (ps_ret (pe_op op_modN (pe_callTy call_int1 (by rfl) B.int (by decide +kernel) (pa_cons (pe_bm0 PySem.F.plainAttrs_list PySem.F.slot_list_pop PySem.F.type_list_pop mt_pop (pv 0)) pa_nil)) (pv 1))))), ?_⟩
    refine ⟨.ref a, rfl, a, ns.map V.int, rfl, .inl (SqL.of ha), rfl, _, rfl, ite2 (fun e => ?_) (fun e => ?_)⟩
    · exact q 0 H (Int.le_refl 0) hm (Sx.refl a H) ⟨ns, ha, hl⟩
    · have hne : ns ≠ [] := fun z => by
        subst z
        exact e (decide_eq_true rfl)
      have hlast : (ns.map V.int)[(ns.map V.int).length - 1]? = some (.int (ns.getLast hne)) := by
        rw [List.length_map, List.getElem?_map]
        rw [← List.getLast?_eq_getElem?, List.getLast?_eq_getLast hne]
        rfl
      refine ⟨.ref a, rfl, .inl ⟨rfl, _, SqL.of ha⟩, a, ns.map V.int, _, rfl, rfl, ha, hlast, .inl ⟨_, rfl, ?_⟩⟩
      refine ⟨.int m, rfl, _, m, rfl, rfl, by omega, ?_⟩
      refine q _ _ (Int.fmod_nonneg_of_pos _ hm) (Int.fmod_lt_of_pos _ hm) Sx.upd ⟨ns.dropLast, ?_, ?_⟩
      · rw [upd_same, List.map_dropLast]
      · rw [List.length_dropLast]
        omega
/-- a draw from the stream: any number of the range may come -/
theorem spDraw_of {a : Addr} {m : Int} {H : Hp} {Q : VK} {E : XK} (hm : 0 < m) (hs : Strm H a) (q : ∀ (r : Int) (H' : Hp), 0 ≤ r → r < m → Sx a H H' → Strm H' a → Q (.int r) H') : spDraw [.ref a, .int m] H Q E := ⟨a, m, rfl, hm, hs, q⟩
theorem scWide : FnScope ["_law_stream_here", "_law_size", "_law_k"] ["_law_stream_here"] (defScope sWide) := ⟨rfl, rfl, rfl, by decide +kernel, rfl, by decide +kernel, by decide +kernel⟩
def spWide : Sp := fun vs H Q _ => ∃ (a : Addr), vs = [.ref a] ∧ Strm H a ∧ ∀ (r : Int) (H' : Hp), Sx a H H' → Strm H' a → Q (.int r) H'
theorem ok_wide {f : Addr} {fd : FuncData} (F : Fun K "_law_wide" "_law_wide" sWide f fd) (B : Bi mg) (cDraw : CalX CX0 P w K mg base 1 "_law_draw" spDraw) : FnOk P w K mg base CX0 2 f fd ["_law_stream_here"] spWide := by
  refine F.ok scWide (fun vs H Q E h => ?_) (fun cdv A outer s H vs Q E hr h => ?_)
  · obtain ⟨a, rfl, _⟩ := h
    rfl
  · obtain ⟨a, rfl, hs, q⟩ := h
    refine ⟨_, (pss_cons (ps_set (i := 1) scWide.nd rfl (.inl rfl) pe_int)
 (pss_cons (ps_for PassesOwn.never rfl (pi_range1 (by rfl) B.range (pa_cons pe_int pa_nil)) (pg_name (i := 2) scWide.nd rfl (.inl rfl))
 (pss_one (ps_set (i := 1) scWide.nd rfl (.inl rfl) (pe_op op_add (pe_op op_mul (pv 1) pe_int) (pe_cx cDraw hr (by decide) pass0 (by rfl) (pa_cons (pv 0) (pa_cons pe_int pa_nil)))))))
 (pss_cons (ps_if (pt_cmpR op_eq (pe_cx cDraw hr (by decide) pass0 (by rfl) (pa_cons (pv 0) (pa_cons pe_int pa_nil))) pe_int (nomark _))
 (pss_one (ps_ret (pe_un un_neg (pv 1)))) pss_nil)
 (pss_one (ps_ret (pv 1)))))), ?_⟩
    refine ⟨11, rfl, by decide, by decide, for_range (n := 11) (fun i σ H' => ∃ (z : Int) (y : Option V), σ = [some (.ref a), some (.int z), y] ∧ Sx a H H' ∧ Strm H' a) ⟨0, none, rfl, Sx.refl a H, hs⟩ ?_ ?_⟩
    · rintro i σ H1 hi ⟨z, y, rfl, x1, t1⟩
      simp only [tSeq, tAsg, gName, tOp, rI, rI0, rU, tUn, tVar, tC, tCB, tCons, tNil, tTest, tIfS, tRet, tRetN, tDrop, tNext, tBreak, tCont, rEq, rNe, CDiv, CDivN, CMul, tBM, tBM0, tTup, tLst, tAug, tIf, tAnd, tOr, tNot, tAndV, tOrV, tNotV, tIsN, tNotN, tB, scal, tCall, cxK, cxKn, rIxT, rIxL, rIn, rAppend, rReverse, tVals, tDSetd, tDGet, tDGet1, tDGet2, tDIn, tDNotIn, rSortV, rSortT, rPop, rSortL, rSortT, tSl, tNoPart, tPart, List.append_nil, L2.start, List.map_cons, List.map_nil, List.length_cons, List.length_nil, List.replicate_succ, List.replicate_zero, List.cons_append, List.nil_append, Nat.reduceAdd, Nat.reduceSub, exists_eq, exists_eq', List.getElem?_cons_zero, List.getElem?_cons_succ, List.set_cons_zero, List.set_cons_succ, Option.some.injEq, V.int.injEq, V.bl.injEq, V.str.injEq, V.ref.injEq, List.cons.injEq, and_true, true_and, and_false, false_and, reduceCtorEq, exists_false, or_false, false_or, exists_and_left, exists_and_right, exists_eq_left, exists_eq_left', exists_eq_right, exists_eq_right', exists_const, ite_true, ite_false, Bool.false_eq_true, if_true, if_false, decide_true, decide_false]
      refine ⟨.inr (by decide), spDraw_of (by decide) t1 fun r H2 _ _ x2 t2 => ?_⟩
      simp only [tSeq, tAsg, gName, tOp, rI, rI0, rU, tUn, tVar, tC, tCB, tCons, tNil, tTest, tIfS, tRet, tRetN, tDrop, tNext, tBreak, tCont, rEq, rNe, CDiv, CDivN, CMul, tBM, tBM0, tTup, tLst, tAug, tIf, tAnd, tOr, tNot, tAndV, tOrV, tNotV, tIsN, tNotN, tB, scal, tCall, cxK, cxKn, rIxT, rIxL, rIn, rAppend, rReverse, tVals, tDSetd, tDGet, tDGet1, tDGet2, tDIn, tDNotIn, rSortV, rSortT, rPop, rSortL, rSortT, tSl, tNoPart, tPart, List.append_nil, L2.start, List.map_cons, List.map_nil, List.length_cons, List.length_nil, List.replicate_succ, List.replicate_zero, List.cons_append, List.nil_append, Nat.reduceAdd, Nat.reduceSub, exists_eq, exists_eq', List.getElem?_cons_zero, List.getElem?_cons_succ, List.set_cons_zero, List.set_cons_succ, Option.some.injEq, V.int.injEq, V.bl.injEq, V.str.injEq, V.ref.injEq, List.cons.injEq, and_true, true_and, and_false, false_and, reduceCtorEq, exists_false, or_false, false_or, exists_and_left, exists_and_right, exists_eq_left, exists_eq_left', exists_eq_right, exists_eq_right', exists_const, ite_true, ite_false, Bool.false_eq_true, if_true, if_false, decide_true, decide_false]
      exact ⟨x1.trans x2, t2⟩
    · rintro σ H1 ⟨z, y, rfl, x1, t1⟩
      simp only [tSeq, tAsg, gName, tOp, rI, rI0, rU, tUn, tVar, tC, tCB, tCons, tNil, tTest, tIfS, tRet, tRetN, tDrop, tNext, tBreak, tCont, rEq, rNe, CDiv, CDivN, CMul, tBM, tBM0, tTup, tLst, tAug, tIf, tAnd, tOr, tNot, tAndV, tOrV, tNotV, tIsN, tNotN, tB, scal, tCall, cxK, cxKn, rIxT, rIxL, rIn, rAppend, rReverse, tVals, tDSetd, tDGet, tDGet1, tDGet2, tDIn, tDNotIn, rSortV, rSortT, rPop, rSortL, rSortT, tSl, tNoPart, tPart, List.append_nil, L2.start, List.map_cons, List.map_nil, List.length_cons, List.length_nil, List.replicate_succ, List.replicate_zero, List.cons_append, List.nil_append, Nat.reduceAdd, Nat.reduceSub, exists_eq, exists_eq', List.getElem?_cons_zero, List.getElem?_cons_succ, List.set_cons_zero, List.set_cons_succ, Option.some.injEq, V.int.injEq, V.bl.injEq, V.str.injEq, V.ref.injEq, List.cons.injEq, and_true, true_and, and_false, false_and, reduceCtorEq, exists_false, or_false, false_or, exists_and_left, exists_and_right, exists_eq_left, exists_eq_left', exists_eq_right, exists_eq_right', exists_const, ite_true, ite_false, Bool.false_eq_true, if_true, if_false, decide_true, decide_false]
      refine spDraw_of (by decide) t1 fun r H2 _ _ x2 t2 => ?_
      simp only [tSeq, tAsg, gName, tOp, rI, rI0, rU, tUn, tVar, tC, tCB, tCons, tNil, tTest, tIfS, tRet, tRetN, tDrop, tNext, tBreak, tCont, rEq, rNe, CDiv, CDivN, CMul, tBM, tBM0, tTup, tLst, tAug, tIf, tAnd, tOr, tNot, tAndV, tOrV, tNotV, tIsN, tNotN, tB, scal, tCall, cxK, cxKn, rIxT, rIxL, rIn, rAppend, rReverse, tVals, tDSetd, tDGet, tDGet1, tDGet2, tDIn, tDNotIn, rSortV, rSortT, rPop, rSortL, rSortT, tSl, tNoPart, tPart, List.append_nil, L2.start, List.map_cons, List.map_nil, List.length_cons, List.length_nil, List.replicate_succ, List.replicate_zero, List.cons_append, List.nil_append, Nat.reduceAdd, Nat.reduceSub, exists_eq, exists_eq', List.getElem?_cons_zero, List.getElem?_cons_succ, List.set_cons_zero, List.set_cons_succ, Option.some.injEq, V.int.injEq, V.bl.injEq, V.str.injEq, V.ref.injEq, List.cons.injEq, and_true, true_and, and_false, false_and, reduceCtorEq, exists_false, or_false, false_or, exists_and_left, exists_and_right, exists_eq_left, exists_eq_left', exists_eq_right, exists_eq_right', exists_const, ite_true, ite_false, Bool.false_eq_true, if_true, if_false, decide_true, decide_false]
      exact ite2 (fun _ => q _ _ (x1.trans x2) t2) (fun _ => q _ _ (x1.trans x2) t2)
theorem scValue : FnScope ["_law_stream_here", "_law_style"] ["_law_stream_here", "_law_style"] (defScope sValue) := ⟨rfl, rfl, rfl, by decide +kernel, rfl, by decide +kernel, by decide +kernel⟩
def spValue : Sp := fun vs H Q _ => ∃ (a : Addr) (z : Int), vs = [.ref a, .int z] ∧ Strm H a ∧ ∀ (r : Int) (H' : Hp), Sx a H H' → Strm H' a → Q (.int r) H'
theorem ok_value {f : Addr} {fd : FuncData} (F : Fun K "_law_value" "_law_value" sValue f fd) (B : Bi mg) (cDraw : CalX CX0 P w K mg base 1 "_law_draw" spDraw) (cWide : CalX CX0 P w K mg base 2 "_law_wide" spWide) : FnOk P w K mg base CX0 3 f fd ["_law_stream_here", "_law_style"] spValue := by
  refine F.ok scValue (fun vs H Q E h => ?_) (fun cdv A outer s H vs Q E hr h => ?_)
  · obtain ⟨a, z, rfl, _⟩ := h
    rfl
  · obtain ⟨a, z, rfl, hs, q⟩ := h
    refine ⟨_, (pss_cons (ps_if (pt_cmpR op_lt (pv 1) pe_int (nomark _))
 (pss_one (ps_ret (pe_cx cDraw hr (by decide) pass0 (by rfl) (pa_cons (pv 0) (pa_cons pe_int pa_nil))))) pss_nil)
 (pss_cons (ps_if (pt_cmpR op_eq (pv 1) pe_int (nomark _))
 (pss_one (ps_ret (pe_cx cDraw hr (by decide) pass0 (by rfl) (pa_cons (pv 0) (pa_cons pe_int pa_nil))))) pss_nil)
 (pss_cons (ps_if (pt_cmpR op_eq (pv 1) pe_int (nomark _))
 (pss_one (ps_ret (pe_op op_sub (pe_cx cDraw hr (by decide) pass0 (by rfl) (pa_cons (pv 0) (pa_cons pe_int pa_nil))) (pe_cx cDraw hr (by decide) pass0 (by rfl) (pa_cons (pv 0) (pa_cons pe_int pa_nil)))))) pss_nil)
 (pss_cons (ps_if (pt_cmpR op_eq (pv 1) pe_int (nomark _))
 (pss_one (ps_ret (pe_op op_mul (pe_op op_sub (pe_cx cDraw hr (by decide) pass0 (by rfl) (pa_cons (pv 0) (pa_cons pe_int pa_nil))) (pe_cx cDraw hr (by decide) pass0 (by rfl) (pa_cons (pv 0) (pa_cons pe_int pa_nil)))) pe_int))) pss_nil)
 (pss_one (ps_ret (pe_cx cWide hr (by decide) pass0 (by rfl) (pa_cons (pv 0) pa_nil)))))))), ?_⟩
    simp only [tSeq, tAsg, gName, tOp, rI, rI0, rU, tUn, tVar, tC, tCB, tCons, tNil, tTest, tIfS, tRet, tRetN, tDrop, tNext, tBreak, tCont, rEq, rNe, CDiv, CDivN, CMul, tBM, tBM0, tTup, tLst, tAug, tIf, tAnd, tOr, tNot, tAndV, tOrV, tNotV, tIsN, tNotN, tB, scal, tCall, cxK, cxKn, rIxT, rIxL, rIn, rAppend, rReverse, tVals, tDSetd, tDGet, tDGet1, tDGet2, tDIn, tDNotIn, rSortV, rSortT, rPop, rSortL, rSortT, tSl, tNoPart, tPart, List.append_nil, L2.start, List.map_cons, List.map_nil, List.length_cons, List.length_nil, List.replicate_succ, List.replicate_zero, List.cons_append, List.nil_append, Nat.reduceAdd, Nat.reduceSub, exists_eq, exists_eq', List.getElem?_cons_zero, List.getElem?_cons_succ, List.set_cons_zero, List.set_cons_succ, Option.some.injEq, V.int.injEq, V.bl.injEq, V.str.injEq, V.ref.injEq, List.cons.injEq, and_true, true_and, and_false, false_and, reduceCtorEq, exists_false, or_false, false_or, exists_and_left, exists_and_right, exists_eq_left, exists_eq_left', exists_eq_right, exists_eq_right', exists_const, ite_true, ite_false, Bool.false_eq_true, if_true, if_false, decide_true, decide_false]
    refine ite2 (fun _ => spDraw_of (by decide) hs fun r H1 _ _ x1 t1 => q _ _ x1 t1) fun _ => ?_
    refine ite2 (fun _ => spDraw_of (by decide) hs fun r H1 _ _ x1 t1 => q _ _ x1 t1) fun _ => ?_
    refine ite2 (fun _ => spDraw_of (by decide) hs fun r H1 _ _ x1 t1 => spDraw_of (by decide) t1 fun r2 H2 _ _ x2 t2 => ?_) fun _ => ?_
    · simp only [tSeq, tAsg, gName, tOp, rI, rI0, rU, tUn, tVar, tC, tCB, tCons, tNil, tTest, tIfS, tRet, tRetN, tDrop, tNext, tBreak, tCont, rEq, rNe, CDiv, CDivN, CMul, tBM, tBM0, tTup, tLst, tAug, tIf, tAnd, tOr, tNot, tAndV, tOrV, tNotV, tIsN, tNotN, tB, scal, tCall, cxK, cxKn, rIxT, rIxL, rIn, rAppend, rReverse, tVals, tDSetd, tDGet, tDGet1, tDGet2, tDIn, tDNotIn, rSortV, rSortT, rPop, rSortL, rSortT, tSl, tNoPart, tPart, List.append_nil, L2.start, List.map_cons, List.map_nil, List.length_cons, List.length_nil, List.replicate_succ, List.replicate_zero, List.cons_append, List.nil_append, Nat.reduceAdd, Nat.reduceSub, exists_eq, exists_eq', List.getElem?_cons_zero, List.getElem?_cons_succ, List.set_cons_zero, List.set_cons_succ, Option.some.injEq, V.int.injEq, V.bl.injEq, V.str.injEq, V.ref.injEq, List.cons.injEq, and_true, true_and, and_false, false_and, reduceCtorEq, exists_false, or_false, false_or, exists_and_left, exists_and_right, exists_eq_left, exists_eq_left', exists_eq_right, exists_eq_right', exists_const, ite_true, ite_false, Bool.false_eq_true, if_true, if_false, decide_true, decide_false]
      exact q _ _ (x1.trans x2) t2
    refine ite2 (fun _ => spDraw_of (by decide) hs fun r H1 h1 h2 x1 t1 => spDraw_of (by decide) t1 fun r2 H2 h3 h4 x2 t2 => ?_) fun _ => ?_
    · simp only [tSeq, tAsg, gName, tOp, rI, rI0, rU, tUn, tVar, tC, tCB, tCons, tNil, tTest, tIfS, tRet, tRetN, tDrop, tNext, tBreak, tCont, rEq, rNe, CDiv, CDivN, CMul, tBM, tBM0, tTup, tLst, tAug, tIf, tAnd, tOr, tNot, tAndV, tOrV, tNotV, tIsN, tNotN, tB, scal, tCall, cxK, cxKn, rIxT, rIxL, rIn, rAppend, rReverse, tVals, tDSetd, tDGet, tDGet1, tDGet2, tDIn, tDNotIn, rSortV, rSortT, rPop, rSortL, rSortT, tSl, tNoPart, tPart, List.append_nil, L2.start, List.map_cons, List.map_nil, List.length_cons, List.length_nil, List.replicate_succ, List.replicate_zero, List.cons_append, List.nil_append, Nat.reduceAdd, Nat.reduceSub, exists_eq, exists_eq', List.getElem?_cons_zero, List.getElem?_cons_succ, List.set_cons_zero, List.set_cons_succ, Option.some.injEq, V.int.injEq, V.bl.injEq, V.str.injEq, V.ref.injEq, List.cons.injEq, and_true, true_and, and_false, false_and, reduceCtorEq, exists_false, or_false, false_or, exists_and_left, exists_and_right, exists_eq_left, exists_eq_left', exists_eq_right, exists_eq_right', exists_const, ite_true, ite_false, Bool.false_eq_true, if_true, if_false, decide_true, decide_false]
      exact ⟨.inl (by omega), q _ _ (x1.trans x2) t2⟩
    · exact ⟨a, rfl, hs, q⟩
end
end Mv

set_option Elab.async false
set_option linter.all false
set_option maxRecDepth 100000
set_option maxHeartbeats 4000000
namespace Mv
open PySem PySem.Spec PyProof.Rows L2
section
variable {P : Program} {w : World} {K : PySem.W.Frag} {mg : Str → Option Value} {base : Heap}
def kdV (k : Kd) : V := .str k.nm
theorem scWord : FnScope ["_law_stream_here", "_law_size", "_law_style", "_law_k"] ["_law_stream_here", "_law_size", "_law_style"] (defScope sWord) := ⟨rfl, rfl, rfl, by decide +kernel, rfl, by decide +kernel, by decide +kernel⟩
def spWord : Sp := fun vs H Q _ => ∃ (a : Addr) (n : Nat) (z : Int), vs = [.ref a, .int (n : Int), .int z] ∧ n ≤ 1000 ∧ Strm H a ∧ ∀ (xs : List Int) (H' : Hp) (p : Addr), xs.length = n → Sx a H H' → Strm H' a → H p = none → H' p = some (.tup (xs.map V.int)) → Q (.ref p) H'
theorem ok_word {f : Addr} {fd : FuncData} (F : Fun K "_law_word" "_law_word" sWord f fd) (B : Bi mg) (cValue : CalX CX0 P w K mg base 3 "_law_value" spValue) : FnOk P w K mg base CX0 4 f fd ["_law_stream_here", "_law_size", "_law_style"] spWord := by
  refine F.ok scWord (fun vs H Q E h => ?_) (fun cdv A outer s H vs Q E hr h => ?_)
  · obtain ⟨a, n, z, rfl, _⟩ := h
    rfl
  · obtain ⟨a, n, z, rfl, hn, hs, q⟩ := h
    refine ⟨_, (pss_one (ps_ret (pe_callTy call_tuple_of (by rfl) B.tuple (by decide +kernel) (pa_cons (pe_lc (own := [("_law_k", 3)]) (g := gName 3) (tt := tYes) rfl scWord.nd (pi_range1 (by rfl) B.range (pa_cons (pv 1) pa_nil)) (blkOk_by (N := ["_law_stream_here", "_law_size", "_law_style", "_law_k"]) (sc := defScope sWord) (by decide +kernel)) (fun _ _ _ _ _ => (pg_name (i := 3) scWord.nd rfl (.inl rfl))) (fun _ _ _ _ _ => pts_nil) (fun _ _ _ _ _ => (pe_cx cValue hr (by decide) pass0 (by rfl) (pa_cons (pv 0) (pa_cons (pv 2) pa_nil))))) pa_nil)))), ?_⟩
    refine ⟨.int (n : Int), rfl, n, rfl, by omega, by omega, fun D hD => ?_⟩
    refine lc_range (n := n) (fun i H1 => ∃ ys : List Int, ys.length = i ∧ Sx a H H1 ∧ Strm H1 a ∧ H1 D = some (.lst (ys.map V.int))) ⟨[], rfl, Sx.of (same_upd hD), hs.same (same_upd hD), upd_same⟩ ?_ ?_
    · rintro i H1 hi ⟨ys, el, x1, t1, eD⟩
      refine ⟨rfl, .ref a, rfl, .int z, rfl, a, z, rfl, t1, fun r H2 x2 t2 => ?_⟩
      have eD2 := x2 _ _ (hs.ne hD).symm eD
      refine ⟨_, eD2, by rw [List.length_map, el]; exact small4000 (by omega), ys ++ [r], by rw [List.length_append, el]; rfl, fun b o nb e => ?_, ?_, by rw [upd_same, List.map_append]; rfl⟩
      · rw [upd_ne (ne_of_none e hD)]
        exact x2 _ _ nb (x1 _ _ nb e)
      · obtain ⟨ns, e, l⟩ := t2
        exact ⟨ns, by rw [upd_ne (hs.ne hD)]; exact e, l⟩
    · rintro H1 ⟨ys, el, x1, t1, eD⟩
      refine ⟨D, ys.map V.int, rfl, .inl ⟨SqL.of eD, fun l hl => ?_⟩⟩
      have hl0 : H l = none := by
        by_cases hla : l = a
        · subst hla
          obtain ⟨zs, e, _⟩ := t1
          rw [e] at hl
          cases hl
        · cases e : H l with
          | none => rfl
          | some o =>
            rw [x1 _ _ hla e] at hl
            cases hl
      exact q ys _ l el (Sx.trans x1 (Sx.of (same_upd hl))) (t1.same (same_upd hl)) hl0 upd_same
end
end Mv

set_option Elab.async false
set_option linter.all false
set_option maxRecDepth 100000
set_option maxHeartbeats 4000000
namespace Mv
open PySem PySem.Spec PyProof.Rows L2
theorem small1000' {n : Nat} (h : n ≤ 1000) : n ≤ sizeLine := Nat.le_of_lt (small1000 h)
theorem eqV_int (a b : Int) : eqV (.int a) (.int b) = decide (a = b) := by first | rfl | simp [eqV]
theorem inV_int (x : Int) (ns : List Int) : inV (.int x) (ns.map V.int) = decide (x ∈ ns) := by
  induction ns with
  | nil => rfl
  | cons n ns ih =>
    show (eqV (.int n) (.int x) || inV (.int x) (ns.map V.int)) = _
    rw [ih, eqV_int]
    by_cases h : n = x
    · subst h
      simp
    · simp [h, Ne.symm h]
/-- a thing that is no kind's name, as the law draws them -/
inductive BadV (H : Hp) : V → Prop where
  | str (z : Str) (h : ∀ k : Kd, ¬ z = k.nm) (hl : z.length ≤ 100) (hc : ∀ c ∈ z.cps.toList, c < 0x110000) : BadV H (.str z)
  | non : BadV H .non
  | int (i : Int) (h : i = 0 ∨ i = 1 ∨ i = 2 ∨ i = 3 ∨ i = 8) : BadV H (.int i)
/-- a def whose code object is known -/
structure FunC (K : PySem.W.Frag) (x qual : Str) (st : Stmt) (f : Addr) (fd : FuncData) (c : Addr) : Prop where
  ex : ∃ (oc : Value) (od : Option Addr) (kV doc pm : Value) (an : Option Addr) (ct : Value) (osl : Array (Option Value)),
    fd = PySem.W.fnOf x qual (defArgs st) (defBody st) (defScope st) .none kV doc pm an (.ref c) ct ∧ K.lookup f = some ⟨oc, od, .func fd, osl⟩ ∧ PySem.W.codeIn K (.ref c) qual = true
theorem FunC.ok {P : Program} {w : World} {K : PySem.W.Frag} {mg : Str → Option Value} {base : Heap} {x qual : Str} {st : Stmt} {f c : Addr} {fd : FuncData} {N ps : List Str} {k : Nat} {sp : Sp} (F : FunC K x qual st f fd c) (S : FnScope N ps (defScope st)) (len : ∀ vs H Q E, sp vs H Q E → vs.length = ps.length)
    (hbody : ∀ (A : Around) (outer : List Env) (s : Shared) (H : Hp) (vs : List V) (Q : VK) (E : XK), Room k (A.deeper (envOfC qual (defScope st) s.heap.objs.size f (.ref c))) → sp vs H Q E →
      ∃ t, PSs (cxOf CX0 P w K mg base N qual (defScope st) f (.ref c) A outer s H E).nox (defBody st) t ∧ t { nx := fun _ H' => Q .non H', rt := Q } (L2.start N vs) H) : FnOk P w K mg base CX0 (k + 1) f fd ps sp := by
  obtain ⟨oc, od, kV, doc, pm, an, ct, osl, rfl, lk, hcd⟩ := F.ex
  refine fn_of lk hcd S len fun A outer s H vs Q E hr hsp => ?_
  obtain ⟨t, h, q⟩ := hbody A outer s H vs Q E hr hsp
  exact ⟨t, h.nox, q⟩
/-- a word: a tuple or a list of ints -/
def WordS (K : PySem.W.Frag) (H : Hp) (p : Addr) (xs : List Int) : Prop := SqT K H p (xs.map V.int) ∨ SqL K H p (xs.map V.int)
theorem WordS.ext {K : PySem.W.Frag} {H H1 : Hp} {p : Addr} {xs : List Int} (h : WordS K H p xs) (e : LamX.ExtN H H1) : WordS K H1 p xs := sq_extN e h
theorem WordS.same {K : PySem.W.Frag} {H H1 : Hp} {p : Addr} {xs : List Int} (h : WordS K H p xs) (e : Same H H1) : WordS K H1 p xs := h.ext (LamX.ExtN.of e)
theorem ext_upd {H : Hp} {p : Addr} {o : HO} (h : H p = none) : LamX.ExtN H (upd H p o) := LamX.ExtN.of (same_upd h)
theorem tabs_upd {T : List (Addr × Str)} {H : Hp} {p : Addr} {o : HO} (t : LamX.Tabs T H) (h : H p = none) : LamX.Tabs T (upd H p o) := t.ext (same_upd h)
/-- what may make the lambda: all is kept but the tables, which stay tables -/
def Gw (T : List (Addr × Str)) (H H' : Hp) : Prop := LamX.ExtN H H' ∧ LamX.Tabs T H'
theorem Gw.refl {T : List (Addr × Str)} {H : Hp} (t : LamX.Tabs T H) : Gw T H H := ⟨LamX.ExtN.refl H, t⟩
theorem Gw.trans {T : List (Addr × Str)} {H H1 H2 : Hp} (a : Gw T H H1) (b : Gw T H1 H2) : Gw T H H2 := ⟨a.1.trans b.1, b.2⟩
theorem Gw.of {T : List (Addr × Str)} {H H1 : Hp} (t : LamX.Tabs T H) (s : Same H H1) : Gw T H H1 := ⟨LamX.ExtN.of s, t.ext s⟩
theorem Gw.upd {T : List (Addr × Str)} {H H1 : Hp} {p : Addr} {o : HO} (a : Gw T H H1) (h : H1 p = none) : Gw T H (L2.upd H1 p o) := ⟨a.1.trans (ext_upd h), tabs_upd a.2 h⟩
/-- a place that was free, or a table's -/
def Nw (H : Hp) (l : Addr) : Prop := ∀ o, H l = some o → ∃ ps, o = .tbl ps
theorem Gw.nw {T : List (Addr × Str)} {H H1 : Hp} {p : Addr} (a : Gw T H H1) (h : H1 p = none) : Nw H p := fun o e => by
  by_cases hn : ∃ ps, o = HO.tbl ps
  · exact hn
  · have := a.1 _ _ e fun ps z => hn ⟨ps, z⟩
    rw [h] at this
    cases this
abbrev sKeepO : Stmt := inClass (topS 5) 6
abbrev sPlainM : Stmt := inClass (topS 5) 7
abbrev sKeepB : Stmt := inClass (topS 6) 6
abbrev sKeepS : Stmt := inClass (topS 7) 6
abbrev sKeepH : Stmt := inClass (topS 8) 6
abbrev sKeepF : Stmt := inClass (topS 9) 6
abbrev sKeepT : Stmt := inClass (topS 10) 6
abbrev sKeepL : Stmt := inClass (topS 11) 6
abbrev sKeepE : Stmt := inClass (topS 12) 6
abbrev sLeast : Stmt := topS 13
abbrev sGreat : Stmt := topS 14
def ixV (is : List Nat) : List V := is.map fun i : Nat => V.int (i : Int)
theorem ixV_int (is : List Nat) : ixV is = (is.map fun i : Nat => (i : Int)).map V.int := by
  unfold ixV
  rw [List.map_map]
  rfl
def spKeep (K : PySem.W.Frag) (T : List (Addr × Str)) (k : Kd) : Sp := fun vs H Q _ => ∃ (x : V) (p : Addr) (xs : List Int), vs = [x, .ref p] ∧ WordS K H p xs ∧ xs.length ≤ 60 ∧ LamX.Tabs T H ∧ ∀ (H' : Hp) (l : Addr), Gw T H H' → Nw H l → H' l = some (.lst (ixV (keepIx k xs))) → Q (.ref l) H'
def spLeast (K : PySem.W.Frag) : Sp := fun vs H Q _ => ∃ (p : Addr) (xs : List Int), vs = [.ref p] ∧ WordS K H p xs ∧ xs.length ≤ 60 ∧ ∀ (H' : Hp) (d : Addr), Same H H' → H' d = some (.dK (leastD xs xs.length)) → Q (.ref d) H'
def spGreat (K : PySem.W.Frag) : Sp := fun vs H Q _ => ∃ (p : Addr) (xs : List Int), vs = [.ref p] ∧ WordS K H p xs ∧ xs.length ≤ 60 ∧ ∀ (H' : Hp) (d : Addr), Same H H' → H' d = some (.dK (greatD xs xs.length)) → Q (.ref d) H'
theorem rg_ix (n : Nat) : rgV 0 (n : Int) = ixV (List.range n) := by
  unfold rgV ixV
  rw [Int.sub_zero, Int.toNat_natCast]
  exact List.map_congr_left fun i _ => by rw [Int.zero_add]
/-- the two walks of a word -/
def YWord (xs : List Int) : Nat → Hp → V → Hp → Prop := YPair (fun i => some (.int (i : Nat))) (fun i => (xs.map V.int)[i]?)
section
variable {P : Program} {w : World} {K : PySem.W.Frag} {mg : Str → Option Value} {base : Heap} {T : List (Addr × Str)}
theorem scKO : FnScope ["self", "word"] ["self", "word"] (defScope sKeepO) := ⟨rfl, rfl, rfl, by decide +kernel, rfl, by decide +kernel, by decide +kernel⟩
theorem ok_keepO {f : Addr} {fd : FuncData} (F : Fun K "keep" "Kind.keep" sKeepO f fd) (B : Bi mg) : FnOk P w K mg base CX0 2 f fd ["self", "word"] (spKeep K T .list) := by
  refine F.ok scKO (fun vs H Q E h => ?_) (fun cdv A outer s H vs Q E hr h => ?_)
  · obtain ⟨x, p, xs, rfl, _⟩ := h
    rfl
  · obtain ⟨x, p, xs, rfl, hw, hl, ht, q⟩ := h
    refine ⟨_, pss_one (ps_ret (pe_listRg rfl (by rfl) B.list (prg_1 (by rfl) B.range (pe_callB call_len_seq (by rfl) B.len PySem.boot_len (pa_cons (pv 1) pa_nil))))), ?_⟩
    refine ⟨_, rfl, p, xs.map V.int, rfl, hw.symm, (xs.length : Int), by rw [List.length_map], .of_le (by omega) (by omega) (by omega) (by omega), fun l hl => ?_⟩
    rw [rg_ix]
    exact q _ l (Gw.upd (.refl ht) hl) (Gw.nw (.refl ht) hl) upd_same
theorem scKF : FnScope ["self", "word"] ["self", "word"] (defScope sKeepF) := ⟨rfl, rfl, rfl, by decide +kernel, rfl, by decide +kernel, by decide +kernel⟩
theorem ok_keepF {f : Addr} {fd : FuncData} (F : Fun K "keep" "FirstKind.keep" sKeepF f fd) (B : Bi mg) : FnOk P w K mg base CX0 2 f fd ["self", "word"] (spKeep K T .first) := by
  refine F.ok scKF (fun vs H Q E h => ?_) (fun cdv A outer s H vs Q E hr h => ?_)
  · obtain ⟨x, p, xs, rfl, _⟩ := h
    rfl
  · obtain ⟨x, p, xs, rfl, hw, hl, ht, q⟩ := h
    refine ⟨_, (pss_one (ps_ret (pe_ifExp (pt_cmpR op_gt (pe_callB call_len_seq (by rfl) B.len PySem.boot_len (pa_cons (pv 1) pa_nil)) pe_int (nomark _)) (pe_lst (pa_cons pe_int pa_nil)) (pe_lst pa_nil)))), ?_⟩
    simp only [tSeq, tAsg, gName, tOp, rI, rI0, rU, tUn, tVar, tC, tCB, tCons, tNil, tTest, tIfS, tRet, tRetN, tDrop, tNext, tBreak, tCont, rEq, rNe, CDiv, CDivN, CMul, tBM, tBM0, tTup, tLst, tAug, tIf, tAnd, tOr, tNot, tAndV, tOrV, tNotV, tIsN, tNotN, tB, scal, tCall, cxK, cxKn, rIxT, rIxL, rIn, rAppend, rReverse, tVals, tDSetd, tDGet, tDGet1, tDGet2, tDIn, tDNotIn, rSortV, rSortT, rPop, rSortL, rSortT, tSl, tNoPart, tPart, List.append_nil, L2.start, List.map_cons, List.map_nil, List.length_cons, List.length_nil, List.replicate_succ, List.replicate_zero, List.cons_append, List.nil_append, Nat.reduceAdd, Nat.reduceSub, exists_eq, exists_eq', List.getElem?_cons_zero, List.getElem?_cons_succ, List.set_cons_zero, List.set_cons_succ, Option.some.injEq, V.int.injEq, V.bl.injEq, V.str.injEq, V.ref.injEq, List.cons.injEq, and_true, true_and, and_false, false_and, reduceCtorEq, exists_false, or_false, false_or, exists_and_left, exists_and_right, exists_eq_left, exists_eq_left', exists_eq_right, exists_eq_right', exists_const, ite_true, ite_false, Bool.false_eq_true, if_true, if_false, decide_true, decide_false]
    refine ⟨xs.map V.int, hw.symm, ite2 (fun e => ?_) (fun e => ?_)⟩
    · have e1 := of_decide_eq_true e
      rw [List.length_map] at e1
      have e2 : ¬ xs.length = 0 := by omega
      refine ⟨by decide, fun l hl => q _ l (Gw.upd (.refl ht) hl) (Gw.nw (.refl ht) hl) ?_⟩
      rw [show keepIx .first xs = [0] from if_neg e2]
      exact upd_same
    · have e2 : xs.length = 0 := by
        refine Decidable.byContradiction fun z => e (decide_eq_true ?_)
        rw [List.length_map]
        omega
      refine ⟨Nat.zero_le _, fun l hl => q _ l (Gw.upd (.refl ht) hl) (Gw.nw (.refl ht) hl) ?_⟩
      rw [show keepIx .first xs = [] from if_pos e2]
      exact upd_same
theorem scKL : FnScope ["self", "word"] ["self", "word"] (defScope sKeepL) := ⟨rfl, rfl, rfl, by decide +kernel, rfl, by decide +kernel, by decide +kernel⟩
theorem ok_keepL {f : Addr} {fd : FuncData} (F : Fun K "keep" "LastKind.keep" sKeepL f fd) (B : Bi mg) : FnOk P w K mg base CX0 2 f fd ["self", "word"] (spKeep K T .last) := by
  refine F.ok scKL (fun vs H Q E h => ?_) (fun cdv A outer s H vs Q E hr h => ?_)
  · obtain ⟨x, p, xs, rfl, _⟩ := h
    rfl
  · obtain ⟨x, p, xs, rfl, hw, hl, ht, q⟩ := h
    refine ⟨_, (pss_one (ps_ret (pe_ifExp (pt_cmpR op_gt (pe_callB call_len_seq (by rfl) B.len PySem.boot_len (pa_cons (pv 1) pa_nil)) pe_int (nomark _)) (pe_lst (pa_cons (pe_op op_sub (pe_callB call_len_seq (by rfl) B.len PySem.boot_len (pa_cons (pv 1) pa_nil)) pe_int) pa_nil)) (pe_lst pa_nil)))), ?_⟩
    simp only [tSeq, tAsg, gName, tOp, rI, rI0, rU, tUn, tVar, tC, tCB, tCons, tNil, tTest, tIfS, tRet, tRetN, tDrop, tNext, tBreak, tCont, rEq, rNe, CDiv, CDivN, CMul, tBM, tBM0, tTup, tLst, tAug, tIf, tAnd, tOr, tNot, tAndV, tOrV, tNotV, tIsN, tNotN, tB, scal, tCall, cxK, cxKn, rIxT, rIxL, rIn, rAppend, rReverse, tVals, tDSetd, tDGet, tDGet1, tDGet2, tDIn, tDNotIn, rSortV, rSortT, rPop, rSortL, rSortT, tSl, tNoPart, tPart, List.append_nil, L2.start, List.map_cons, List.map_nil, List.length_cons, List.length_nil, List.replicate_succ, List.replicate_zero, List.cons_append, List.nil_append, Nat.reduceAdd, Nat.reduceSub, exists_eq, exists_eq', List.getElem?_cons_zero, List.getElem?_cons_succ, List.set_cons_zero, List.set_cons_succ, Option.some.injEq, V.int.injEq, V.bl.injEq, V.str.injEq, V.ref.injEq, List.cons.injEq, and_true, true_and, and_false, false_and, reduceCtorEq, exists_false, or_false, false_or, exists_and_left, exists_and_right, exists_eq_left, exists_eq_left', exists_eq_right, exists_eq_right', exists_const, ite_true, ite_false, Bool.false_eq_true, if_true, if_false, decide_true, decide_false]
    refine ⟨xs.map V.int, hw.symm, ite2 (fun e => ?_) (fun e => ?_)⟩
    · have e1 := of_decide_eq_true e
      rw [List.length_map] at e1
      have e2 : ¬ xs.length = 0 := by omega
      refine ⟨xs.map V.int, hw.symm, by decide, fun l hl => q _ l (Gw.upd (.refl ht) hl) (Gw.nw (.refl ht) hl) ?_⟩
      rw [show keepIx .last xs = [xs.length - 1] from if_neg e2, upd_same]
      show _ = some (HO.lst [V.int ((xs.length - 1 : Nat) : Int)])
      rw [List.length_map, show ((xs.length - 1 : Nat) : Int) = (xs.length : Int) - 1 from by omega]
    · have e2 : xs.length = 0 := by
        refine Decidable.byContradiction fun z => e (decide_eq_true ?_)
        rw [List.length_map]
        omega
      refine ⟨Nat.zero_le _, fun l hl => q _ l (Gw.upd (.refl ht) hl) (Gw.nw (.refl ht) hl) ?_⟩
      rw [show keepIx .last xs = [] from if_pos e2]
      exact upd_same
theorem scKE : FnScope ["self", "word"] ["self", "word"] (defScope sKeepE) := ⟨rfl, rfl, rfl, by decide +kernel, rfl, by decide +kernel, by decide +kernel⟩
theorem ok_keepE {f : Addr} {fd : FuncData} (F : Fun K "keep" "EndsKind.keep" sKeepE f fd) (B : Bi mg) : FnOk P w K mg base CX0 2 f fd ["self", "word"] (spKeep K T .ends) := by
  refine F.ok scKE (fun vs H Q E h => ?_) (fun cdv A outer s H vs Q E hr h => ?_)
  · obtain ⟨x, p, xs, rfl, _⟩ := h
    rfl
  · obtain ⟨x, p, xs, rfl, hw, hl, ht, q⟩ := h
    refine ⟨_, (pss_one (ps_ret (pe_ifExp (pt_cmpR op_gt (pe_callB call_len_seq (by rfl) B.len PySem.boot_len (pa_cons (pv 1) pa_nil)) pe_int (nomark _)) (pe_lst (pa_cons pe_int (pa_cons (pe_op op_sub (pe_callB call_len_seq (by rfl) B.len PySem.boot_len (pa_cons (pv 1) pa_nil)) pe_int) pa_nil))) (pe_lst pa_nil)))), ?_⟩
    simp only [tSeq, tAsg, gName, tOp, rI, rI0, rU, tUn, tVar, tC, tCB, tCons, tNil, tTest, tIfS, tRet, tRetN, tDrop, tNext, tBreak, tCont, rEq, rNe, CDiv, CDivN, CMul, tBM, tBM0, tTup, tLst, tAug, tIf, tAnd, tOr, tNot, tAndV, tOrV, tNotV, tIsN, tNotN, tB, scal, tCall, cxK, cxKn, rIxT, rIxL, rIn, rAppend, rReverse, tVals, tDSetd, tDGet, tDGet1, tDGet2, tDIn, tDNotIn, rSortV, rSortT, rPop, rSortL, rSortT, tSl, tNoPart, tPart, List.append_nil, L2.start, List.map_cons, List.map_nil, List.length_cons, List.length_nil, List.replicate_succ, List.replicate_zero, List.cons_append, List.nil_append, Nat.reduceAdd, Nat.reduceSub, exists_eq, exists_eq', List.getElem?_cons_zero, List.getElem?_cons_succ, List.set_cons_zero, List.set_cons_succ, Option.some.injEq, V.int.injEq, V.bl.injEq, V.str.injEq, V.ref.injEq, List.cons.injEq, and_true, true_and, and_false, false_and, reduceCtorEq, exists_false, or_false, false_or, exists_and_left, exists_and_right, exists_eq_left, exists_eq_left', exists_eq_right, exists_eq_right', exists_const, ite_true, ite_false, Bool.false_eq_true, if_true, if_false, decide_true, decide_false]
    refine ⟨xs.map V.int, hw.symm, ite2 (fun e => ?_) (fun e => ?_)⟩
    · have e1 := of_decide_eq_true e
      rw [List.length_map] at e1
      have e2 : ¬ xs.length = 0 := by omega
      refine ⟨xs.map V.int, hw.symm, by decide, fun l hl => q _ l (Gw.upd (.refl ht) hl) (Gw.nw (.refl ht) hl) ?_⟩
      rw [show keepIx .ends xs = [0, xs.length - 1] from if_neg e2, upd_same]
      show _ = some (HO.lst [V.int 0, V.int ((xs.length - 1 : Nat) : Int)])
      rw [List.length_map, show ((xs.length - 1 : Nat) : Int) = (xs.length : Int) - 1 from by omega]
    · have e2 : xs.length = 0 := by
        refine Decidable.byContradiction fun z => e (decide_eq_true ?_)
        rw [List.length_map]
        omega
      refine ⟨Nat.zero_le _, fun l hl => q _ l (Gw.upd (.refl ht) hl) (Gw.nw (.refl ht) hl) ?_⟩
      rw [show keepIx .ends xs = [] from if_pos e2]
      exact upd_same
theorem scKB : FnScope ["self", "word"] ["self", "word"] (defScope sKeepB) := ⟨rfl, rfl, rfl, by decide +kernel, rfl, by decide +kernel, by decide +kernel⟩
def lamQ : Str := ("BagKind.keep" : Str) ++ ".<locals>." ++ "<lambda>"
theorem ok_keepB {f c Pt : Addr} {fd : FuncData} (F : FunC K "keep" "BagKind.keep" sKeepB f fd c) (B : Bi mg) (TB : LamX.TabB base mg c Pt) : FnOk P w K mg base CX0 2 f fd ["self", "word"] (spKeep K [(Pt, lamQ)] .bag) := by
  refine F.ok scKB (fun vs H Q E h => ?_) (fun A outer s H vs Q E hr h => ?_)
  · obtain ⟨x, p, xs, rfl, _⟩ := h
    rfl
  · obtain ⟨x, p, xs, rfl, hw, hl, ht, q⟩ := h
    refine ⟨_, pss_one (ps_ret (pe_sortAt (T := [(Pt, lamQ)]) (i := 1) rfl hr (by rfl) B.sorted (by rfl) B.range (pe_callB call_len_seq (by rfl) B.len PySem.boot_len (pa_cons (pv 1) pa_nil)) TB rfl (List.mem_singleton.mpr rfl) (fun p hp _ => by rw [List.mem_singleton.mp hp]; rfl) rfl (by rfl) rfl (by rfl) rfl rfl rfl (fun _ _ _ _ _ _ => rfl))), ?_⟩
    refine ⟨_, rfl, p, xs.map V.int, rfl, hw.symm, p, xs, rfl, by rw [List.length_map], hw, by omega, ht, fun H2 l e2 t2 hl2 => ?_⟩
    exact q _ l (Gw.upd ⟨e2, t2⟩ hl2) (Gw.nw ⟨e2, t2⟩ hl2) upd_same
end
end Mv

set_option Elab.async false
set_option linter.all false
set_option maxRecDepth 100000
set_option maxHeartbeats 4000000
namespace Mv
open PySem PySem.Spec PyProof.Rows L2
section
variable {P : Program} {w : World} {K : PySem.W.Frag} {mg : Str → Option Value} {base : Heap} {T : List (Addr × Str)}
/-- what least_places does between two turns -/
def LpI (H : Hp) (p o : Addr) (xs : List Int) (i : Nat) (σ : L2.St) (H' : Hp) : Prop := ∃ y2 y3, σ = [some (.ref p), some (.ref o), y2, y3] ∧ Same H H' ∧ H' o = some (.dK (leastD xs i))
theorem scLe : FnScope ["word", "places", "at", "value"] ["word"] (defScope sLeast) := ⟨rfl, rfl, rfl, by decide +kernel, rfl, by decide +kernel, by decide +kernel⟩
theorem ok_least {f : Addr} {fd : FuncData} (F : Fun K "least_places" "least_places" sLeast f fd) (B : Bi mg) : FnOk P w K mg base CX0 1 f fd ["word"] (spLeast K) := by
  refine F.ok scLe (fun vs H Q E h => ?_) (fun cdv A outer s H vs Q E hr h => ?_)
  · obtain ⟨p, xs, rfl, _⟩ := h
    rfl
  · obtain ⟨p, xs, rfl, hw, hl, q⟩ := h
    rcases hw with hw | hw
    case' inl => refine ⟨_, (pss_cons (ps_set (i := 1) scLe.nd rfl (.inl rfl) pe_dnewK)
 (pss_cons (ps_for PassesOwn.never rfl (pi_enumT (by rfl) B.enumerate (pa_cons (pv 0) pa_nil)) (pg_tup rfl (pgs_cons (pg_name (i := 2) scLe.nd rfl (.inl rfl)) (pgs_cons (pg_name (i := 3) scLe.nd rfl (.inl rfl)) pgs_nil)))
 (pss_one (ps_expr (pe_dsetd (pv 1) (pv 3) (pv 2) ⟨by rfl, by rfl, by rfl, by rfl⟩))))
 (pss_one (ps_ret (pv 1))))), ?_⟩
    case' inr => refine ⟨_, (pss_cons (ps_set (i := 1) scLe.nd rfl (.inl rfl) pe_dnewK)
 (pss_cons (ps_for PassesOwn.never rfl (pi_enum (by rfl) B.enumerate (pa_cons (pv 0) pa_nil)) (pg_tup rfl (pgs_cons (pg_name (i := 2) scLe.nd rfl (.inl rfl)) (pgs_cons (pg_name (i := 3) scLe.nd rfl (.inl rfl)) pgs_nil)))
 (pss_one (ps_expr (pe_dsetd (pv 1) (pv 3) (pv 2) ⟨by rfl, by rfl, by rfl, by rfl⟩))))
 (pss_one (ps_ret (pv 1))))), ?_⟩
    all_goals
      refine fun o no => ?_
      have so := same_upd (o := .dK []) no
    case' inl =>
      have hw1 := Same.tup so hw
      refine ⟨.ref p, rfl, p, _, rfl, hw1, ?_⟩
      refine for_it walk_enumT (fun i σ H' => LpI H p o xs i σ H') ⟨none, none, rfl, so, upd_same⟩ (fun i σ H' _ ⟨_, _, _, s3, _⟩ => Same.tup s3 hw) ?_ ?_
    case' inr =>
      have hw1 := so.seq hw
      refine ⟨.ref p, rfl, p, _, rfl, hw1, ?_⟩
      refine for_it walk_enum (fun i σ H' => LpI H p o xs i σ H') ⟨none, none, rfl, so, upd_same⟩ (fun i σ H' _ ⟨_, _, _, s3, _⟩ => s3.seq hw) ?_ ?_
    all_goals
      first
      | rintro i x σ H3 H4 hi ⟨y2, y3, rfl, sm, hd⟩ ⟨t, x1, x2, rfl, nT, rfl, e1, e2⟩
        obtain rfl : V.int (i : Nat) = x1 := Option.some.inj e1
        obtain ⟨u, rfl, hu⟩ := int_at e2
        rw [List.length_map] at hi
        have smT : Same H3 (upd H3 t (.tup [.int (i : Nat), .int u])) := same_upd nT
        refine ⟨t, [.int (i : Nat), .int u], rfl, .inl (.inl upd_same), rfl, .int (i : Nat), [.int (i : Nat), .int u].tail, rfl, .int u, [], rfl, rfl, ?_⟩
        have hd4 := smT _ _ hd
        have sm4 := sm.trans smT
        generalize upd H3 t (.tup [.int (i : Nat), .int u]) = H4 at hd4 sm4 ⊢
        simp only [tSeq, tAsg, gName, tOp, rI, rI0, rU, tUn, tVar, tC, tCB, tCons, tNil, tTest, tIfS, tRet, tRetN, tDrop, tNext, tBreak, tCont, rEq, rNe, CDiv, CDivN, CMul, tBM, tBM0, tTup, tLst, tAug, tIf, tAnd, tOr, tNot, tAndV, tOrV, tNotV, tIsN, tNotN, tB, scal, tCall, cxK, cxKn, rIxT, rIxL, rIn, rAppend, rReverse, tVals, tDSetd, tDGet, tDGet1, tDGet2, tDIn, tDNotIn, rSortV, rSortT, rPop, rSortL, rSortT, tSl, tNoPart, tPart, List.append_nil, L2.start, List.map_cons, List.map_nil, List.length_cons, List.length_nil, List.replicate_succ, List.replicate_zero, List.cons_append, List.nil_append, Nat.reduceAdd, Nat.reduceSub, exists_eq, exists_eq', List.getElem?_cons_zero, List.getElem?_cons_succ, List.set_cons_zero, List.set_cons_succ, Option.some.injEq, V.int.injEq, V.bl.injEq, V.str.injEq, V.ref.injEq, List.cons.injEq, and_true, true_and, and_false, false_and, reduceCtorEq, exists_false, or_false, false_or, exists_and_left, exists_and_right, exists_eq_left, exists_eq_left', exists_eq_right, exists_eq_right', exists_const, ite_true, ite_false, Bool.false_eq_true, if_true, if_false, decide_true, decide_false]
        refine ⟨.inl ⟨_, .inl hd4⟩, _, hd4, .inl u, rfl, Nat.lt_of_le_of_lt (leastD_len xs i) (by rw [sizeLine_eq]; omega), fun v hv => ?_, fun hv => ?_⟩
        · have hx : u ∈ xs.take i := by
            refine Decidable.byContradiction fun z => ?_
            unfold leastD at hv
            rw [val_map, if_neg fun y => z ((mem_headsI _).mp y)] at hv
            cases hv
          exact ⟨_, _, rfl, sm4, by rw [least_hit hu hx]; exact hd4⟩
        · have hx : u ∉ xs.take i := fun z => by
            unfold leastD at hv
            rw [val_map, if_pos ((mem_headsI _).mpr z)] at hv
            cases hv
          exact ⟨_, _, rfl, fun b z e => by rw [upd_ne (ne_of_none e no)]; exact sm4 _ _ e, by rw [least_new hu hx]; exact upd_same⟩
      | rintro σ H3 ⟨y2, y3, rfl, sm, hd⟩
        rw [List.length_map] at hd
        simp only [tSeq, tAsg, gName, tOp, rI, rI0, rU, tUn, tVar, tC, tCB, tCons, tNil, tTest, tIfS, tRet, tRetN, tDrop, tNext, tBreak, tCont, rEq, rNe, CDiv, CDivN, CMul, tBM, tBM0, tTup, tLst, tAug, tIf, tAnd, tOr, tNot, tAndV, tOrV, tNotV, tIsN, tNotN, tB, scal, tCall, cxK, cxKn, rIxT, rIxL, rIn, rAppend, rReverse, tVals, tDSetd, tDGet, tDGet1, tDGet2, tDIn, tDNotIn, rSortV, rSortT, rPop, rSortL, rSortT, tSl, tNoPart, tPart, List.append_nil, L2.start, List.map_cons, List.map_nil, List.length_cons, List.length_nil, List.replicate_succ, List.replicate_zero, List.cons_append, List.nil_append, Nat.reduceAdd, Nat.reduceSub, exists_eq, exists_eq', List.getElem?_cons_zero, List.getElem?_cons_succ, List.set_cons_zero, List.set_cons_succ, Option.some.injEq, V.int.injEq, V.bl.injEq, V.str.injEq, V.ref.injEq, List.cons.injEq, and_true, true_and, and_false, false_and, reduceCtorEq, exists_false, or_false, false_or, exists_and_left, exists_and_right, exists_eq_left, exists_eq_left', exists_eq_right, exists_eq_right', exists_const, ite_true, ite_false, Bool.false_eq_true, if_true, if_false, decide_true, decide_false]
        exact q _ o sm hd
theorem scGr : FnScope ["word", "at", "value"] ["word"] (defScope sGreat) := ⟨rfl, rfl, rfl, by decide +kernel, rfl, by decide +kernel, by decide +kernel⟩
theorem ok_great {f : Addr} {fd : FuncData} (F : Fun K "greatest_places" "greatest_places" sGreat f fd) (B : Bi mg) : FnOk P w K mg base CX0 1 f fd ["word"] (spGreat K) := by
  refine F.ok scGr (fun vs H Q E h => ?_) (fun cdv A outer s H vs Q E hr h => ?_)
  · obtain ⟨p, xs, rfl, _⟩ := h
    rfl
  · obtain ⟨p, xs, rfl, hw, hl, q⟩ := h
    rcases hw with hw | hw
    case' inl => refine ⟨_, (pss_one (ps_ret (pe_dc (own := [("at", 1), ("value", 2)]) (g := gTup K 2 (gCons (gName 1) (gCons (gName 2) gNil))) (tt := tYes) rfl scGr.nd (pi_enumT (by rfl) B.enumerate (pa_cons (pv 0) pa_nil)) (blkOk_by (N := ["word", "at", "value"]) (sc := defScope sGreat) (by decide +kernel)) (fun _ _ _ _ _ => (pg_tup rfl (pgs_cons (pg_name (i := 1) scGr.nd rfl (.inl rfl)) (pgs_cons (pg_name (i := 2) scGr.nd rfl (.inl rfl)) pgs_nil)))) (fun _ _ _ _ _ => pts_nil) (fun _ _ _ _ _ => (pv 2)) (fun _ _ _ _ _ => (pv 1))))), ?_⟩
    case' inr => refine ⟨_, (pss_one (ps_ret (pe_dc (own := [("at", 1), ("value", 2)]) (g := gTup K 2 (gCons (gName 1) (gCons (gName 2) gNil))) (tt := tYes) rfl scGr.nd (pi_enum (by rfl) B.enumerate (pa_cons (pv 0) pa_nil)) (blkOk_by (N := ["word", "at", "value"]) (sc := defScope sGreat) (by decide +kernel)) (fun _ _ _ _ _ => (pg_tup rfl (pgs_cons (pg_name (i := 1) scGr.nd rfl (.inl rfl)) (pgs_cons (pg_name (i := 2) scGr.nd rfl (.inl rfl)) pgs_nil)))) (fun _ _ _ _ _ => pts_nil) (fun _ _ _ _ _ => (pv 2)) (fun _ _ _ _ _ => (pv 1))))), ?_⟩
    case' inl =>
      refine ⟨.ref p, rfl, p, _, rfl, hw, fun o no => ?_⟩
      have so := same_upd (o := .dK []) no
      refine dc_it walk_enumT (fun i H' => Same H H' ∧ H' o = some (.dK (greatD xs i))) ⟨so, upd_same⟩ (fun i H' _ h => Same.tup h.1 hw) ?_ ?_
    case' inr =>
      refine ⟨.ref p, rfl, p, _, rfl, hw, fun o no => ?_⟩
      have so := same_upd (o := .dK []) no
      refine dc_it walk_enum (fun i H' => Same H H' ∧ H' o = some (.dK (greatD xs i))) ⟨so, upd_same⟩ (fun i H' _ h => h.1.seq hw) ?_ ?_
    all_goals
      first
      | rintro i x H3 H4 hi ⟨sm, hd⟩ ⟨t, x1, x2, rfl, nT, rfl, e1, e2⟩
        obtain rfl : V.int (i : Nat) = x1 := Option.some.inj e1
        obtain ⟨u, rfl, hu⟩ := int_at e2
        rw [List.length_map] at hi
        have smT : Same H3 (upd H3 t (.tup [.int (i : Nat), .int u])) := same_upd nT
        refine ⟨t, [.int (i : Nat), .int u], rfl, .inl (.inl upd_same), rfl, .int (i : Nat), [.int (i : Nat), .int u].tail, rfl, .int u, [], rfl, rfl, ?_⟩
        have hd4 := smT _ _ hd
        have sm4 := sm.trans smT
        generalize upd H3 t (.tup [.int (i : Nat), .int u]) = H4 at hd4 sm4 ⊢
        refine ⟨rfl, .int u, rfl, .int (i : Nat), rfl, _, .inl u, rfl, hd4, Nat.lt_of_le_of_lt (greatD_len xs i) (by rw [sizeLine_eq]; omega), fun b z e => ?_, ?_⟩
        · rw [upd_ne (ne_of_none e no)]
          exact sm4 _ _ e
        · rw [great_put hu]
          exact upd_same
      | rintro H3 ⟨sm, hd⟩
        rw [List.length_map] at hd
        exact q _ o sm hd
/-! ### keep, by the dicts -/
abbrev N3 : List Str := ["self", "word", "places"]
theorem scKH : FnScope ["self", "word", "places"] ["self", "word"] (defScope sKeepH) := ⟨rfl, rfl, rfl, by decide +kernel, rfl, by decide +kernel, by decide +kernel⟩
theorem ok_keepH {f : Addr} {fd : FuncData} (F : Fun K "keep" "HeadsKind.keep" sKeepH f fd) (B : Bi mg) (cLeast : CalX CX0 P w K mg base 1 "least_places" (spLeast K)) : FnOk P w K mg base CX0 2 f fd ["self", "word"] (spKeep K T .heads) := by
  refine F.ok scKH (fun vs H Q E h => ?_) (fun cdv A outer s H vs Q E hr h => ?_)
  · obtain ⟨x, p, xs, rfl, _⟩ := h
    rfl
  · obtain ⟨x, p, xs, rfl, hw, hl, ht, q⟩ := h
    refine ⟨_, (pss_cons (ps_set (i := 2) scKH.nd rfl (.inl rfl) (pe_cx cLeast hr (by decide) pass0 (by rfl) (pa_cons (pv 1) pa_nil)))
 (pss_one (ps_ret (pe_callB (cr_sortV rfl) (by rfl) B.sorted (by decide +kernel) (pa_cons (pe_vals (pv 2)) pa_nil))))), ?_⟩
    simp only [tSeq, tAsg, gName, tOp, rI, rI0, rU, tUn, tVar, tC, tCB, tCons, tNil, tTest, tIfS, tRet, tRetN, tDrop, tNext, tBreak, tCont, rEq, rNe, CDiv, CDivN, CMul, tBM, tBM0, tTup, tLst, tAug, tIf, tAnd, tOr, tNot, tAndV, tOrV, tNotV, tIsN, tNotN, tB, scal, tCall, cxK, cxKn, rIxT, rIxL, rIn, rAppend, rReverse, tVals, tDSetd, tDGet, tDGet1, tDGet2, tDIn, tDNotIn, rSortV, rSortT, rPop, rSortL, rSortT, tSl, tNoPart, tPart, List.append_nil, L2.start, List.map_cons, List.map_nil, List.length_cons, List.length_nil, List.replicate_succ, List.replicate_zero, List.cons_append, List.nil_append, Nat.reduceAdd, Nat.reduceSub, exists_eq, exists_eq', List.getElem?_cons_zero, List.getElem?_cons_succ, List.set_cons_zero, List.set_cons_succ, Option.some.injEq, V.int.injEq, V.bl.injEq, V.str.injEq, V.ref.injEq, List.cons.injEq, and_true, true_and, and_false, false_and, reduceCtorEq, exists_false, or_false, false_or, exists_and_left, exists_and_right, exists_eq_left, exists_eq_left', exists_eq_right, exists_eq_right', exists_const, ite_true, ite_false, Bool.false_eq_true, if_true, if_false, decide_true, decide_false]
    refine ⟨p, xs, rfl, hw, hl, fun H1 d s1 hd => ?_⟩
    simp only [tSeq, tAsg, gName, tOp, rI, rI0, rU, tUn, tVar, tC, tCB, tCons, tNil, tTest, tIfS, tRet, tRetN, tDrop, tNext, tBreak, tCont, rEq, rNe, CDiv, CDivN, CMul, tBM, tBM0, tTup, tLst, tAug, tIf, tAnd, tOr, tNot, tAndV, tOrV, tNotV, tIsN, tNotN, tB, scal, tCall, cxK, cxKn, rIxT, rIxL, rIn, rAppend, rReverse, tVals, tDSetd, tDGet, tDGet1, tDGet2, tDIn, tDNotIn, rSortV, rSortT, rPop, rSortL, rSortT, tSl, tNoPart, tPart, List.append_nil, L2.start, List.map_cons, List.map_nil, List.length_cons, List.length_nil, List.replicate_succ, List.replicate_zero, List.cons_append, List.nil_append, Nat.reduceAdd, Nat.reduceSub, exists_eq, exists_eq', List.getElem?_cons_zero, List.getElem?_cons_succ, List.set_cons_zero, List.set_cons_succ, Option.some.injEq, V.int.injEq, V.bl.injEq, V.str.injEq, V.ref.injEq, List.cons.injEq, and_true, true_and, and_false, false_and, reduceCtorEq, exists_false, or_false, false_or, exists_and_left, exists_and_right, exists_eq_left, exists_eq_left', exists_eq_right, exists_eq_right', exists_const, ite_true, ite_false, Bool.false_eq_true, if_true, if_false, decide_true, decide_false]
    refine ⟨⟨_, hd⟩, fun v hv => ⟨d, upd_same, leastD xs xs.length, by rw [upd_ne (ne_of_none hd hv)]; exact hd, (headsI xs).map fun x => ((xs.idxOf x : Nat) : Int), ?_, fun l hl' => ?_⟩⟩
    · unfold leastD
      rw [List.take_length, List.map_map, List.map_map]
      rfl
    · rw [sort_ixs, ← ixV_int]
      exact q _ l (Gw.upd (Gw.upd (.of ht s1) hv) hl') (Gw.nw (Gw.upd (.of ht s1) hv) hl') upd_same
theorem scKT : FnScope ["self", "word", "places"] ["self", "word"] (defScope sKeepT) := ⟨rfl, rfl, rfl, by decide +kernel, rfl, by decide +kernel, by decide +kernel⟩
theorem ok_keepT {f : Addr} {fd : FuncData} (F : Fun K "keep" "TailsKind.keep" sKeepT f fd) (B : Bi mg) (cGreat : CalX CX0 P w K mg base 1 "greatest_places" (spGreat K)) : FnOk P w K mg base CX0 2 f fd ["self", "word"] (spKeep K T .tails) := by
  refine F.ok scKT (fun vs H Q E h => ?_) (fun cdv A outer s H vs Q E hr h => ?_)
  · obtain ⟨x, p, xs, rfl, _⟩ := h
    rfl
  · obtain ⟨x, p, xs, rfl, hw, hl, ht, q⟩ := h
    refine ⟨_, (pss_cons (ps_set (i := 2) scKT.nd rfl (.inl rfl) (pe_cx cGreat hr (by decide) pass0 (by rfl) (pa_cons (pv 1) pa_nil)))
 (pss_one (ps_ret (pe_callB (cr_sortV rfl) (by rfl) B.sorted (by decide +kernel) (pa_cons (pe_vals (pv 2)) pa_nil))))), ?_⟩
    simp only [tSeq, tAsg, gName, tOp, rI, rI0, rU, tUn, tVar, tC, tCB, tCons, tNil, tTest, tIfS, tRet, tRetN, tDrop, tNext, tBreak, tCont, rEq, rNe, CDiv, CDivN, CMul, tBM, tBM0, tTup, tLst, tAug, tIf, tAnd, tOr, tNot, tAndV, tOrV, tNotV, tIsN, tNotN, tB, scal, tCall, cxK, cxKn, rIxT, rIxL, rIn, rAppend, rReverse, tVals, tDSetd, tDGet, tDGet1, tDGet2, tDIn, tDNotIn, rSortV, rSortT, rPop, rSortL, rSortT, tSl, tNoPart, tPart, List.append_nil, L2.start, List.map_cons, List.map_nil, List.length_cons, List.length_nil, List.replicate_succ, List.replicate_zero, List.cons_append, List.nil_append, Nat.reduceAdd, Nat.reduceSub, exists_eq, exists_eq', List.getElem?_cons_zero, List.getElem?_cons_succ, List.set_cons_zero, List.set_cons_succ, Option.some.injEq, V.int.injEq, V.bl.injEq, V.str.injEq, V.ref.injEq, List.cons.injEq, and_true, true_and, and_false, false_and, reduceCtorEq, exists_false, or_false, false_or, exists_and_left, exists_and_right, exists_eq_left, exists_eq_left', exists_eq_right, exists_eq_right', exists_const, ite_true, ite_false, Bool.false_eq_true, if_true, if_false, decide_true, decide_false]
    refine ⟨p, xs, rfl, hw, hl, fun H1 d s1 hd => ?_⟩
    simp only [tSeq, tAsg, gName, tOp, rI, rI0, rU, tUn, tVar, tC, tCB, tCons, tNil, tTest, tIfS, tRet, tRetN, tDrop, tNext, tBreak, tCont, rEq, rNe, CDiv, CDivN, CMul, tBM, tBM0, tTup, tLst, tAug, tIf, tAnd, tOr, tNot, tAndV, tOrV, tNotV, tIsN, tNotN, tB, scal, tCall, cxK, cxKn, rIxT, rIxL, rIn, rAppend, rReverse, tVals, tDSetd, tDGet, tDGet1, tDGet2, tDIn, tDNotIn, rSortV, rSortT, rPop, rSortL, rSortT, tSl, tNoPart, tPart, List.append_nil, L2.start, List.map_cons, List.map_nil, List.length_cons, List.length_nil, List.replicate_succ, List.replicate_zero, List.cons_append, List.nil_append, Nat.reduceAdd, Nat.reduceSub, exists_eq, exists_eq', List.getElem?_cons_zero, List.getElem?_cons_succ, List.set_cons_zero, List.set_cons_succ, Option.some.injEq, V.int.injEq, V.bl.injEq, V.str.injEq, V.ref.injEq, List.cons.injEq, and_true, true_and, and_false, false_and, reduceCtorEq, exists_false, or_false, false_or, exists_and_left, exists_and_right, exists_eq_left, exists_eq_left', exists_eq_right, exists_eq_right', exists_const, ite_true, ite_false, Bool.false_eq_true, if_true, if_false, decide_true, decide_false]
    refine ⟨⟨_, hd⟩, fun v hv => ⟨d, upd_same, greatD xs xs.length, by rw [upd_ne (ne_of_none hd hv)]; exact hd, (headsI xs).map fun x => ((lastIx xs x : Nat) : Int), ?_, fun l hl' => ?_⟩⟩
    · unfold greatD
      rw [List.take_length, List.map_map, List.map_map]
      rfl
    · rw [sort_last, ← ixV_int]
      exact q _ l (Gw.upd (Gw.upd (.of ht s1) hv) hl') (Gw.nw (Gw.upd (.of ht s1) hv) hl') upd_same
theorem scKS : FnScope ["self", "word", "places", "value"] ["self", "word"] (defScope sKeepS) := ⟨rfl, rfl, rfl, by decide +kernel, rfl, by decide +kernel, by decide +kernel⟩
theorem ok_keepS {f : Addr} {fd : FuncData} (F : Fun K "keep" "SetKind.keep" sKeepS f fd) (B : Bi mg) (cLeast : CalX CX0 P w K mg base 1 "least_places" (spLeast K)) : FnOk P w K mg base CX0 2 f fd ["self", "word"] (spKeep K T .set) := by
  refine F.ok scKS (fun vs H Q E h => ?_) (fun cdv A outer s H vs Q E hr h => ?_)
  · obtain ⟨x, p, xs, rfl, _⟩ := h
    rfl
  · obtain ⟨x, p, xs, rfl, hw, hl, ht, q⟩ := h
    refine ⟨_, (pss_cons (ps_set (i := 2) scKS.nd rfl (.inr rfl) (pe_cx cLeast hr (by decide) pass0 (by rfl) (pa_cons (pv 1) pa_nil)))
 (pss_one (ps_ret (pe_lc (own := [("value", 3)]) (g := gName 3) (tt := tYes) rfl scKS.nd (pi_list (pe_callB (call_sortedDI rfl) (by rfl) B.sorted (by decide +kernel) (pa_cons (pv 2) pa_nil))) (blkOk_by (N := ["self", "word", "places", "value"]) (sc := defScope sKeepS) (by decide +kernel)) (fun _ _ _ _ _ => (pg_name (i := 3) scKS.nd rfl (.inl rfl))) (fun _ _ _ _ _ => pts_nil) (fun _ _ _ _ _ => (pe_dget (hu_of hr) (pv 2) (pv 3) (fun _ _ => rfl))))))), ?_⟩
    simp only [tSeq, tAsg, gName, tOp, rI, rI0, rU, tUn, tVar, tC, tCB, tCons, tNil, tTest, tIfS, tRet, tRetN, tDrop, tNext, tBreak, tCont, rEq, rNe, CDiv, CDivN, CMul, tBM, tBM0, tTup, tLst, tAug, tIf, tAnd, tOr, tNot, tAndV, tOrV, tNotV, tIsN, tNotN, tB, scal, tCall, cxK, cxKn, rIxT, rIxL, rIn, rAppend, rReverse, tVals, tDSetd, tDGet, tDGet1, tDGet2, tDIn, tDNotIn, rSortV, rSortT, rPop, rSortL, rSortT, tSl, tNoPart, tPart, List.append_nil, L2.start, List.map_cons, List.map_nil, List.length_cons, List.length_nil, List.replicate_succ, List.replicate_zero, List.cons_append, List.nil_append, Nat.reduceAdd, Nat.reduceSub, exists_eq, exists_eq', List.getElem?_cons_zero, List.getElem?_cons_succ, List.set_cons_zero, List.set_cons_succ, Option.some.injEq, V.int.injEq, V.bl.injEq, V.str.injEq, V.ref.injEq, List.cons.injEq, and_true, true_and, and_false, false_and, reduceCtorEq, exists_false, or_false, false_or, exists_and_left, exists_and_right, exists_eq_left, exists_eq_left', exists_eq_right, exists_eq_right', exists_const, ite_true, ite_false, Bool.false_eq_true, if_true, if_false, decide_true, decide_false]
    refine ⟨p, xs, rfl, hw, hl, fun H1 d s1 hd => ?_⟩
    simp only [tSeq, tAsg, gName, tOp, rI, rI0, rU, tUn, tVar, tC, tCB, tCons, tNil, tTest, tIfS, tRet, tRetN, tDrop, tNext, tBreak, tCont, rEq, rNe, CDiv, CDivN, CMul, tBM, tBM0, tTup, tLst, tAug, tIf, tAnd, tOr, tNot, tAndV, tOrV, tNotV, tIsN, tNotN, tB, scal, tCall, cxK, cxKn, rIxT, rIxL, rIn, rAppend, rReverse, tVals, tDSetd, tDGet, tDGet1, tDGet2, tDIn, tDNotIn, rSortV, rSortT, rPop, rSortL, rSortT, tSl, tNoPart, tPart, List.append_nil, L2.start, List.map_cons, List.map_nil, List.length_cons, List.length_nil, List.replicate_succ, List.replicate_zero, List.cons_append, List.nil_append, Nat.reduceAdd, Nat.reduceSub, exists_eq, exists_eq', List.getElem?_cons_zero, List.getElem?_cons_succ, List.set_cons_zero, List.set_cons_succ, Option.some.injEq, V.int.injEq, V.bl.injEq, V.str.injEq, V.ref.injEq, List.cons.injEq, and_true, true_and, and_false, false_and, reduceCtorEq, exists_false, or_false, false_or, exists_and_left, exists_and_right, exists_eq_left, exists_eq_left', exists_eq_right, exists_eq_right', exists_const, ite_true, ite_false, Bool.false_eq_true, if_true, if_false, decide_true, decide_false]
    have hks : (leastD xs xs.length).map (fun x => x.fst) = (headsI xs).map Sum.inl := by
      unfold leastD
      rw [List.take_length, List.map_map]
      rfl
    have hz : (headsI xs).length < 64 := Nat.lt_of_le_of_lt (headsI_len _) (by omega)
    refine ⟨.ref d, rfl, d, rfl, _, .inl hd, headsI xs, hks, hz, fun ys r hp hs hr' => ⟨r, rfl, ⟨_, SqL.of upd_same⟩, fun D hD => ?_⟩⟩
    rw [sort_is hp hs] at hD ⊢
    have nrD : r ≠ D := ne_of_none upd_same hD
    have hd2 : upd H1 r (.lst ((sortI (headsI xs)).map V.int)) d = some (.dK (leastD xs xs.length)) := by
      rw [upd_ne (ne_of_none hd hr')]
      exact hd
    have hg2 : Gw T H (upd H1 r (.lst ((sortI (headsI xs)).map V.int))) := Gw.upd (.of ht s1) hr'
    have hr2 : upd H1 r (.lst ((sortI (headsI xs)).map V.int)) r = some (.lst ((sortI (headsI xs)).map V.int)) := upd_same
    generalize upd H1 r (.lst ((sortI (headsI xs)).map V.int)) = H2 at hD hd2 hg2 hr2 ⊢
    refine lc_list (xs := (sortI (headsI xs)).map V.int) (fun i H' => ∃ acc, H' = upd H2 D (.lst acc) ∧ acc = ixV ((keepIx .set xs).take i)) ⟨_, rfl, rfl⟩ (fun i H' _ ⟨acc, e, _⟩ => by rw [e]; exact SqL.of (by rw [upd_ne nrD]; exact hr2)) ?_ ?_
    · rintro i y H' hy ⟨acc, rfl, rfl⟩
      obtain ⟨u, rfl, hu⟩ := int_at hy
      have hux : u ∈ xs := (mem_headsI xs).mp (mem_sort.mp (List.mem_of_getElem? hu))
      have hik : (keepIx .set xs)[i]? = some (xs.idxOf u) := by
        show ((sortI (headsI xs)).map xs.idxOf)[i]? = _
        rw [List.getElem?_map, hu]
        rfl
      refine ⟨rfl, .ref d, rfl, .int u, rfl, d, .int ((xs.idxOf u : Nat) : Int), rfl, ?_, ixV ((keepIx .set xs).take i), upd_same, ?_, ?_⟩
      · have := DGet.k (H := upd H2 D (.lst (ixV ((keepIx .set xs).take i)))) (k := .inl u) (by rw [upd_ne (ne_of_none hd2 hD)]; exact hd2)
        unfold leastD at this
        rw [List.take_length, val_map, if_pos ((mem_headsI xs).mpr hux)] at this
        exact this
      · unfold ixV
        rw [List.length_map, List.length_take, sizeLine_eq]
        have h1 : (keepIx .set xs).length ≤ 60 := by
          show ((sortI (headsI xs)).map xs.idxOf).length ≤ 60
          rw [List.length_map, (sort_perm _).length_eq]
          exact Nat.le_trans (headsI_len _) hl
        omega
      · refine ⟨_, upd_upd, ?_⟩
        rw [List.take_add_one, hik]
        unfold ixV
        rw [List.map_append]
        rfl
    · rintro H' ⟨acc, rfl, rfl⟩
      refine q _ D (Gw.upd hg2 hD) (Gw.nw hg2 hD) ?_
      rw [upd_same, List.take_of_length_le]
      rw [List.length_map]
      show ((sortI (headsI xs)).map xs.idxOf).length ≤ _
      rw [List.length_map]
      exact Nat.le_refl _
end
end Mv

set_option Elab.async false
set_option linter.all false
set_option maxRecDepth 100000
set_option maxHeartbeats 4000000
namespace Mv
open PySem PySem.Spec PyProof.Rows L2
/-- an object of the kind's class -/
def KObj (cls : Kd → Addr) (H : Hp) (o : Addr) (k : Kd) : Prop := ∃ dx, H o = some (.ins (cls k) dx [])
theorem KObj.ext {cls : Kd → Addr} {H H1 : Hp} {o : Addr} {k : Kd} (h : KObj cls H o k) (e : LamX.ExtN H H1) : KObj cls H1 o k := by
  obtain ⟨dx, h⟩ := h
  exact ⟨dx, e _ _ h fun ps z => by cases z⟩
def spPlainM (K : PySem.W.Frag) (cls : Kd → Addr) (T : List (Addr × Str)) (k : Kd) : Sp := fun vs H Q _ => ∃ (o p : Addr) (xs : List Int), vs = [.ref o, .ref p] ∧ KObj cls H o k ∧ WordS K H p xs ∧ xs.length ≤ 60 ∧ LamX.Tabs T H ∧ ∀ (H' : Hp) (t : Addr), Gw T H H' → H' t = some (.tup ((plainI k xs).map V.int)) → Q (.ref t) H'
theorem ext_tup {K : PySem.W.Frag} {H H1 : Hp} {p : Addr} {xs : List V} (h : SqT K H p xs) (e : LamX.ExtN H H1) : SqT K H1 p xs := by
  rcases h with (h | ⟨o, h⟩) | h
  · exact .inl (.inl (e _ _ h (fun ps z => by cases z)))
  · exact .inl (.inr ⟨o, e _ _ h (fun ps z => by cases z)⟩)
  · exact .inr h
theorem ext_lst {K : PySem.W.Frag} {H H1 : Hp} {p : Addr} {xs : List V} (h : SqL K H p xs) (e : LamX.ExtN H H1) : SqL K H1 p xs := by
  rcases h with (h | ⟨o, h⟩) | h
  · exact .inl (.inl (e _ _ h (fun ps z => by cases z)))
  · exact .inl (.inr ⟨o, e _ _ h (fun ps z => by cases z)⟩)
  · exact .inr h
/-- what the comprehension of plain has behind i turns -/
def PmI (H1 : Hp) (D : Addr) (k : Kd) (xs : List Int) (i : Nat) (H' : Hp) : Prop := H' = upd H1 D (.lst (((keepIx k xs).take i).map fun i => V.int (xs.getD i 0)))
section
variable {P : Program} {w : World} {K : PySem.W.Frag} {mg : Str → Option Value} {base : Heap} {T : List (Addr × Str)} {cls : Kd → Addr}
theorem scPM : FnScope ["self", "word", "at"] ["self", "word"] (defScope sPlainM) := ⟨rfl, rfl, rfl, by decide +kernel, rfl, by decide +kernel, by decide +kernel⟩
theorem ok_plainM {f : Addr} {fd : FuncData} (F : Fun K "plain" "Kind.plain" sPlainM f fd) (B : Bi mg) (k : Kd) (cKeep : MetX CX0 P w K mg base 2 (cls k) "keep" (spKeep K T k)) : FnOk P w K mg base CX0 3 f fd ["self", "word"] (spPlainM K cls T k) := by
  refine F.ok scPM (fun vs H Q E h => ?_) (fun cdv A outer s H vs Q E hr h => ?_)
  · obtain ⟨o, p, xs, rfl, _⟩ := h
    rfl
  · obtain ⟨o, p, xs, rfl, ⟨dx, ho⟩, hw, hl, ht, q⟩ := h
    have hkl : (keepIx k xs).length ≤ 120 := by
      have := plain_len k xs
      rw [keep_len]
      omega
    rcases hw with hw | hw
    case' inl => refine ⟨_, (pss_one (ps_ret (pe_callTy call_tuple_of (by rfl) B.tuple (by decide +kernel) (pa_cons (pe_lc (own := [("at", 2)]) (g := gName 2) (tt := tYes) (te := (tOp (rIxT K) (tVar 1) (tVar 2))) rfl scPM.nd (pi_list (pe_mx cKeep hr (by decide) pass0 (pv 0) (pa_cons (pv 1) pa_nil))) (blkOk_by (N := ["self", "word", "at"]) (sc := defScope sPlainM) (by decide +kernel)) (fun _ _ _ _ _ => (pg_name (i := 2) scPM.nd rfl (.inl rfl))) (fun _ _ _ _ _ => pts_nil) (fun _ _ _ _ _ => (pe_ix ix_tup (pv 1) (pv 2) (fun _ _ => rfl)))) pa_nil)))), ?_⟩
    case' inr => refine ⟨_, (pss_one (ps_ret (pe_callTy call_tuple_of (by rfl) B.tuple (by decide +kernel) (pa_cons (pe_lc (own := [("at", 2)]) (g := gName 2) (tt := tYes) (te := (tOp (rIxL K) (tVar 1) (tVar 2))) rfl scPM.nd (pi_list (pe_mx cKeep hr (by decide) pass0 (pv 0) (pa_cons (pv 1) pa_nil))) (blkOk_by (N := ["self", "word", "at"]) (sc := defScope sPlainM) (by decide +kernel)) (fun _ _ _ _ _ => (pg_name (i := 2) scPM.nd rfl (.inl rfl))) (fun _ _ _ _ _ => pts_nil) (fun _ _ _ _ _ => (pe_ix ix_list (pv 1) (pv 2) (fun _ _ => rfl)))) pa_nil)))), ?_⟩
    case' inl => have hwE := fun (H2 : Hp) (e : LamX.ExtN H H2) => ext_tup hw e
    case' inr => have hwE := fun (H2 : Hp) (e : LamX.ExtN H H2) => ext_lst hw e
    case' inl => refine ⟨.ref o, rfl, o, dx, [], rfl, ho, rfl, .ref p, rfl, .ref o, p, xs, rfl, .inl hw, hl, ht, fun H1 l g1 _ h1 => ⟨l, rfl, ⟨_, SqL.of h1⟩, fun D hD => ?_⟩⟩
    case' inr => refine ⟨.ref o, rfl, o, dx, [], rfl, ho, rfl, .ref p, rfl, .ref o, p, xs, rfl, .inr hw, hl, ht, fun H1 l g1 _ h1 => ⟨l, rfl, ⟨_, SqL.of h1⟩, fun D hD => ?_⟩⟩
    all_goals
      have nlD : l ≠ D := ne_of_none h1 hD
      refine lc_list (xs := ixV (keepIx k xs)) (PmI H1 D k xs) rfl (fun i H' _ e => by rw [show H' = _ from e]; exact SqL.of (by rw [upd_ne nlD]; exact h1)) ?_ ?_
    all_goals
      first
      | rintro i y H' hy rfl
        obtain ⟨n, hn, rfl⟩ : ∃ n : Nat, (keepIx k xs)[i]? = some n ∧ y = .int (n : Int) := by
          unfold ixV at hy
          rw [List.getElem?_map] at hy
          cases e : (keepIx k xs)[i]? with
          | none =>
            rw [e] at hy
            cases hy
          | some n =>
            rw [e] at hy
            exact ⟨n, rfl, (Option.some.inj hy).symm⟩
        have hnl := keep_lt (List.mem_of_getElem? hn)
        refine ⟨rfl, .ref p, rfl, .int (n : Int), rfl, p, xs.map V.int, (n : Int), .int (xs.getD n 0), rfl, rfl, hwE _ (g1.1.trans (ext_upd hD)), atI_nat (by rw [List.getElem?_map, List.getElem?_eq_getElem hnl, getD_at hnl]; rfl), _, upd_same, ?_, ?_⟩
        · rw [List.length_map, List.length_take, sizeLine_eq]
          omega
        · show upd (upd H1 D _) D _ = _
          rw [upd_upd, List.take_add_one, hn, List.map_append]
          rfl
      | rintro H' rfl
        refine ⟨D, _, rfl, .inl ⟨SqL.of upd_same, fun t ht' => ?_⟩⟩
        refine q _ t (Gw.upd (Gw.upd g1 hD) ht') ?_
        rw [upd_same, List.take_of_length_le (by unfold ixV; rw [List.length_map]; exact Nat.le_refl _), ← keep_vals, List.map_map]
        rfl
end
end Mv

set_option Elab.async false
set_option linter.all false
set_option maxRecDepth 100000
set_option maxHeartbeats 4000000
namespace Mv
open PySem PySem.Spec PyProof.Rows L2
/-! ### {name!r} -/
theorem fmt_cost1 : fmtCost [("list" : Str)] + 7 ≤ 100 := by decide +kernel
def tFmtB (K : PySem.W.Frag) (te : TE) : TE := fun σ H Q => te σ H fun x H1 => BadV H1 x ∧ ∀ m : Str, m.length ≤ 2000 → Q (.str m) H1
theorem pe_fmtB {X : Cx} {k : Nat} {e : Expr} {te : TE} {pos : Pos} (hr : Room k X.A) (he : PE X e te) : PE X (.FormattedValue e 114 none pos) (tFmtB X.K te) := by
  refine ⟨fun pins s σ H Q I h => ?_⟩
  refine wpAny_FormattedValue_repr (thn (he.run pins s σ H _ I h) fun v s1 hv => ?_)
  obtain ⟨x, H1, I1, r1, b, q⟩ := hv
  have fin : ∀ (m : Str) (u : Tok) (s2 : Shared), m.length ≤ 2000 → Inv X pins σ H1 s2 → wpAny (model X.prog X.w) X.A (formatField (.str m u) Str.empty) (EP X pins σ Q) X.xe s2 := fun m u s2 hm I2 =>
    wpAny_formatField_str ⟨.str m, H1, I2, ⟨_, rfl⟩, q m hm⟩ ⟨.str m, H1, I2.tok _, ⟨_, rfl⟩, q m hm⟩ (by rw [sizeLine_eq]; omega)
  cases b with
  | str z h hl hc =>
    obtain ⟨t, rfl⟩ := r1
    have h1 := StrLaws.reprText_len z fun c h => Nat.lt_trans (hc c h) (by decide)
    exact pyReprObj_str (fin _ _ _ (by omega) (I1.tok _)) (by rw [sizeLine_eq]; omega)
  | non =>
    obtain rfl : v = Value.none := r1
    exact pyReprObj_none (fin _ _ _ (by decide +kernel) (I1.tok _))
  | int i h =>
    obtain ⟨t, rfl⟩ := r1
    rcases h with rfl | rfl | rfl | rfl | rfl <;> exact pyReprObj_int (by decide +kernel) (fin _ _ _ (by decide +kernel) (I1.tok _))
end Mv

set_option Elab.async false
set_option linter.all false
set_option maxRecDepth 100000
set_option maxHeartbeats 4000000
namespace Mv
open PySem PySem.Spec PyProof.Rows L2
abbrev iEnv (q : Str) (sc : Scope) (L f c cc : Addr) : Env := PySem.W.ksEnv q sc L f (.ref c) cc
/-- the context of an __init__ that says super(): one cell, of the class -/
def cxF (CX : CXT) (P : Program) (w : World) (K : PySem.W.Frag) (mg : Str → Option Value) (base : Heap) (N : List Str) (q : Str) (sc : Scope) (f c cc : Addr) (A : Around) (outer : List Env) (s : Shared) (H : Hp) (E : XK) : Cx where
  prog := P
  w := w
  K := K
  mg := mg
  base := base
  A := A.deeper (iEnv q sc s.heap.objs.size f c cc)
  N := N
  s_0 := s
  H_0 := H
  env := iEnv q sc s.heap.objs.size f c cc
  outer := outer
  stack := iEnv q sc s.heap.objs.size f c cc :: outer
  ex := []
  fn := fun _ => false
  calm := true
  pn := []
  xe := fun e s' => wpAny (model P w) (A.deeper (iEnv q sc s.heap.objs.size f c cc)) (leaving (iEnv q sc s.heap.objs.size f c cc) e) (fun _ s'' => CX outer H s E e s'') (fun e' s'' => CX outer H s E e' s'') s'
/-- what the scope of such an __init__ says -/
structure ScI (sc : Scope) (n1 n2 : Str) : Prop where
  kind : sc.kind = .function
  co : sc.isCoroutine = false
  gen : sc.isGenerator = false
  l1 : sc.names.lookup n1 = some .local
  l2 : sc.names.lookup n2 = some .local
  ne : ¬ n1 = n2
  cell : ∀ y ∈ sc.names, y.2 ≠ .cell
  free : ∀ y ∈ sc.names, y.2 = .free → y.1 = "__class__"
  cls : sc.names.lookup ("__class__" : Str) = some .free
  sup : sc.names.lookup ("super" : Str) = some .globalImplicit
section
variable {CX : CXT} {P : Program} {w : World} {K : PySem.W.Frag} {mg : Str → Option Value} {base : Heap} {q : Str} {sc : Scope} {f c cc : Addr} {A : Around} {outer : List Env} {s : Shared} {H : Hp} {E : XK} {n1 n2 : Str} {h₁ : Heap} {tk : Nat}
theorem inv_startF {v1 v2 : V} {u1 u2 : Value} (S : ScI sc n1 n2) (hd : A.handled = none) (e0 : Env0 P w K mg base A outer s H) (r1 : RelV v1 u1) (r2 : RelV v2 u2) {oc : Obj} {D : Value} (hcc : base.get? cc = some oc) (hoc : oc.data = .cell (some D))
    (hns : h₁.Ns s.heap.objs.size fun y => [(n1, u1), (n2, u2)].reverse.lookup y) (kp : ∀ b o, s.heap.get? b = some o → h₁.get? b = some o) :
    Inv (cxF CX P w K mg base [n1, n2] q sc f c cc A outer s H E) [] [some v1, some v2] H { s with heap := h₁, toks := tk } := by
  have noA : ∀ b : Addr, b ∉ (cxF CX P w K mg base [n1, n2] q sc f c cc A outer s H E).ex := fun b z => absurd (show b ∈ ([] : List Addr) from z) (by simp)
  have onecell : ∀ {y b}, (cxF CX P w K mg base [n1, n2] q sc f c cc A outer s H E).env.cells.lookup y = some b → y = "__class__" ∧ b = cc := fun {y b} z => by
    have z : List.lookup y [(("__class__" : Str), cc)] = some b := z
    unfold List.lookup at z
    split at z
    · rename_i h
      exact ⟨eq_of_beq h, (Option.some.inj z).symm⟩
    · cases z
  have ccS := e0.bs cc oc hcc
  refine ⟨⟨e0.mod, S.kind, rfl, rfl, Nat.le_refl _, fun y z b h1 h2 => (onecell h1).1.trans (onecell h2).1.symm, fun y hy => ?_, fun y b h => absurd (show false = true from h) Bool.false_ne_true, fun _ => hd, Around.frames_deeper e0.frames, .inr ⟨rfl, rfl⟩, fun b z => absurd z (noA b), e0.bs, e0.bsz, fun b _ _ => noA b, fun b z => absurd z (noA b), e0.funs, e0.frf⟩,
    rfl, e0.bare, Un.kept kp, ⟨_, hns, fun i y v h1 h2 h3 => ?_⟩, fun y b h => ?_, e0.hok.fresh (Nat.le_refl _), fun y b h => ?_, fun p hp => absurd (show p ∈ ([] : List (Addr × Obj)) from hp) (by simp), e0.hok.kept kp, rfl⟩
  · have hy : sc.names.lookup y = some .cell ∨ sc.names.lookup y = some .free := hy
    rcases hy with hy | hy
    · exact absurd rfl (S.cell _ (PySem.mem_of_lookup hy))
    · have e := S.free _ (PySem.mem_of_lookup hy) rfl
      have e : y = "__class__" := e
      subst e
      exact ⟨cc, rfl⟩
  · have hm1 : List.lookup n1 [(n1, u1), (n2, u2)].reverse = some u1 := by
      show List.lookup n1 [(n2, u2), (n1, u1)] = some u1
      simp [List.lookup, beq_eq_false_iff_ne.mpr S.ne]
    have hm2 : List.lookup n2 [(n1, u1), (n2, u2)].reverse = some u2 := by
      show List.lookup n2 [(n2, u2), (n1, u1)] = some u2
      simp [List.lookup]
    match i, h1, h2 with
    | 0, h1, h2 =>
      cases h1
      cases h2
      exact ⟨u1, r1, .inl ⟨S.l1, hm1⟩⟩
    | 1, h1, h2 =>
      cases h1
      cases h2
      exact ⟨u2, r2, .inl ⟨S.l2, hm2⟩⟩
    | i + 2, h1, h2 => cases h1
  · rw [(onecell h).2]
    exact ⟨_, oc, kp _ _ ccS.1, hoc⟩
  · rw [(onecell h).2]
    exact ccS.2
end
/-! ### ValueError.__init__, bound to an exception that is being made -/
section
variable {X : Cx} {pins : List (Addr × Obj)} {σ : L2.St} {H : Hp} {s : Shared} {A : Around} {E : Value → Shared → Prop}
theorem bound_init {a C u : Addr} {us : List Value} {Q : Value → Shared → Prop} (T : OexC X.K C) (I : Inv X pins σ H s) (e : H a = some (exo a C none)) (hu : s.heap.get? u = some (PySem.W.kxs_mw "ValueError.__init__" a)) (hl : us.length ≤ sizeLine) (h : ∀ s', Inv X pins σ H s' → Q .none s') :
    wpAny (model X.prog X.w) A (call (.ref u) us) Q E s := by
  obtain ⟨nm, q, N, bs, bm, sn, sub, ab, col, dd, k0, k1, k2, k3, k5, hC, hbm⟩ := T.cls
  obtain ⟨t1, ho⟩ := exo_at I.hok e
  have hC' := I.kIn _ _ hC
  have fin : ∀ h' t2, (∀ b o, b ≠ a → s.heap.get? b = some o → h'.get? b = some o) → h'.get? a = some (HandSPX.excO C t2) → Q .none { s with heap := h' } := fun h' t2 k hx => by
    have J := I.write (t' := s.toks) (x := a) (e := a) (o := exo a C none) (by rw [e]; exact True.intro) (.inl rfl) k ⟨_, hx⟩ (exo_ok hx)
    have eu : upd H a (exo a C none) = H := by
      funext b
      by_cases hb : b = a
      · rw [hb, upd_same, e]
      · rw [upd_ne hb]
    rw [eu] at J
    exact h _ J
  clear h I
  obtain ⟨hp, g, d, t, os⟩ := s
  refine wpAny_call (codeAny_of_tree ?_)
  show wpAny _ A.in1 (callAny (.ref u) ⟨us, []⟩) _ _ _
  simp only [callAny]
  refine wpAny_bind (wpAny_load hu ?_)
  simp only [PySem.W.kxs_mw, show (Value.type "method-wrapper" == Value.type "method" || Value.type "method-wrapper" == Value.type "builtin_function_or_method" || Value.type "method-wrapper" == Value.type "method-wrapper") = true by decide, if_true]
  refine W.KFB.if_so (by decide) ?_
  refine wpAny_bind (ESX.check_bound F.excBase_ValueError hC' ho rfl ?_)
  refine wpAny_bind (wpAny_pure (wpAny_pure ?_))
  refine ⟨Code.quiet_builtin _ (by decide +kernel), codeAny_builtin F.excBase_ValueError.initEntry ?_⟩
  rw [Around.under_plainId F.excBase_ValueError.init.plain _]
  wp_walk
  refine fin _ hp.objs.size (fun b o hb hbo => ?_) ?_
  · rw [Heap.get?_update_other _ _ (Ne.symm hb)]
    exact Heap.get?_push_of_some _ hbo
  · rw [Heap.get?_update_self _ (Heap.get?_push_of_some _ ho) rfl]
    rfl
theorem callWith_mw {M : Model} {A : Around} {E : Value → Shared → Prop} {s : Shared} {i : String} {u x : Addr} {pos : Pos} {env : Env} {e : Expr} {Q : Value → Shared → Prop}
    (h : wpAny M A (spliced (backTo pos (starEach (e :: []) env))) (fun vs s₁ => PySem.W.KxsAt i u x s₁.heap ∧ wpAny M A (call (.ref u) vs) Q E s₁) E s)
    (he : starEach (e :: []) env = (false, eval e env) :: starEach [] env := by rfl) :
    wpAny M A (callWith pos (.ref u) [] (backTo pos (starEach (e :: []) env)) []) Q E s := by
  rw [he] at h ⊢
  refine PySem.W.kxs_callWith (i := i) (x := x) rfl ?_
  exact Calls.evalArgs_plain h
/-- what the written part says of an own exception class whose __init__ says super(), and of that __init__ -/
structure SupK (P : Program) (K : PySem.W.Frag) (f c cc C : Addr) : Prop where
  oex : OexC K C
  code : ∃ (ccl : Value) (cdd : Option Addr) (vs : Array Value) (ccs : Array (Option Value)) (file : Str) (tf : Tok), K.lookup c = some ⟨ccl, cdd, .fields vs, ccs⟩ ∧ vs[2]? = some (.str file tf) ∧ ((P.main.file : Str) == file) = true
  cell : ∃ (cl : Value) (cld : Option Addr) (csl : Array (Option Value)), K.lookup cc = some ⟨cl, cld, .cell (some (.ref C)), csl⟩
  top : (P.main.scope.names.lookup ("super" : Str)).isSome = false
  self : PySem.W.mroIn K C (.ref C) = some true
  ve : PySem.W.mroIn K C (.type "ValueError") = some true
  opq : PySem.W.nsIn K cStatics "thirdparty.any" = some none
  sup : PySem.W.ks_superIn K C C "__init__" = some (some (.builtin "ValueError.__init__"))
  cls : ∃ cd, PySem.W.clsIn K C = some cd
def spIniB (K : PySem.W.Frag) (C : Addr) (n2 : Str) : Sp := fun vs H Q _ => ∃ (a : Addr) (v : V), vs = [.ref a, v] ∧ H a = some (exo a C none) ∧ BadV H v ∧ ∀ dx, H dx = none → dx ≠ a → Q .non (upd (upd H dx (exd dx [(n2, v)])) a (exo a C (some dx)))
/-- def __init__(self, n2): super().__init__(f'..{n2!r}'); self.n2 = n2 -/
theorem ok_iniB {P : Program} {w : World} {K : PySem.W.Frag} {mg : Str → Option Value} {base : Heap} {f c cc C : Addr} {qual n2 : Str} {params : Arguments} {sc : Scope} {kV doc pm ct oc : Value} {an od : Option Addr} {osl : Array (Option Value)} {head : Str}
    {p0 p1 p2 p3 p4 p5 p6 p7 p8 p9 p10 p11 p12 : Pos} {k4 : Nat} {ar : Arg} {kn : Nat} {pl : Env → Sem Bool}
    (hcall : ∀ env : Env, eval (.Call (.Attribute (.Call (.Name "super" p0) [] [] p1) "__init__" p2) [.JoinedStr [.Constant (.str head) k4 p3, .FormattedValue (.Name n2 p4) 114 none p5] p6] [] p7) env = (do
      let ov ← attributeBase (.Call (.Name "super" p0) [] [] p1) "__init__" env (eval (.Call (.Name "super" p0) [] [] p1) env)
      standAt p2.atName
      let (f, first) ← holding [ov] (getMethod ov "__init__" (pl env))
      callWith p7 f first (backTo p7 (starEach [.JoinedStr [.Constant (.str head) k4 p3, .FormattedValue (.Name n2 p4) 114 none p5] p6] env)) []))
    (hswap : ∀ env : Env, swapsWith (.Name n2 p11) (some (.Attribute (.Name "self" p9) n2 p10)) p12.line env = pure false)
    (lk : K.lookup f = some ⟨oc, od, .func (PySem.W.ksFn "__init__" qual params [.Expr (.Call (.Attribute (.Call (.Name "super" p0) [] [] p1) "__init__" p2) [.JoinedStr [.Constant (.str head) k4 p3, .FormattedValue (.Name n2 p4) 114 none p5] p6] [] p7) p8, .Assign [.Attribute (.Name "self" p9) n2 p10] (.Name n2 p11) p12] sc .none kV doc pm an (.ref c) ct cc), osl⟩)
    (hcd : PySem.W.codeIn K (.ref c) qual = true) (S : ScI sc "self" n2) (U : SupK P K f c cc C) (hsup : mg "super" = none) (hno : PySem.W.findIn K (.ref C) n2 = some none) (hh : head.length ≤ 1000)
    (hp : (params.posonlyargs ++ params.args).head? = some ar) (har : ar.arg = "self") (d2 : (n2 == ("__debug__" : Str)) = false) (c2 : (n2 == ("__classdict__" : Str)) = false) :
    FnOk P w K mg base CX0 (kn + 1) f (PySem.W.ksFn "__init__" qual params [.Expr (.Call (.Attribute (.Call (.Name "super" p0) [] [] p1) "__init__" p2) [.JoinedStr [.Constant (.str head) k4 p3, .FormattedValue (.Name n2 p4) 114 none p5] p6] [] p7) p8, .Assign [.Attribute (.Name "self" p9) n2 p10] (.Name n2 p11) p12] sc .none kV doc pm an (.ref c) ct cc) ["self", n2] (spIniB K C n2) := by
  refine ⟨fun vs H Q E h => ?_, fun A outer s H args us vs Q E hr e0 hb r hsp => ?_⟩
  · obtain ⟨a, v, rfl, _⟩ := h
    rfl
  obtain ⟨a, v, rfl, ha, hv, q⟩ := hsp
  obtain ⟨u1, u2, rfl, r1, r2⟩ := vals2 r
  obtain rfl : u1 = Value.ref a := r1
  have KX : K.In s.heap := e0.mod.kin.keeps fun b o e => (e0.bs b o e).1
  have lim : s.heap.NoLimit := e0.mod.nolimit.keeps fun b o e => (e0.bs b o e).1
  obtain ⟨ccl, cdd, vsC, ccs, file, tf, kc, hvs, hfile⟩ := U.code
  obtain ⟨cl0, cld, csl, kcc⟩ := U.cell
  obtain ⟨cdD, hcdD⟩ := U.cls
  refine ks_codeAny_call_defAt hr.depth (KX _ _ lk) rfl lim (PySem.W.codeRec_of KX hcd) rfl (binds := [("self", .ref a), (n2, u2)]) hb S.cell (fun x hx => ?_) (fun h₀ hns kp => ?_) S.co S.gen S.kind
  · rcases List.mem_cons.mp hx with rfl | hx
    · exact S.l1
    · rw [List.mem_singleton.mp hx]
      exact S.l2
  have I : Inv (cxF CX0 P w K mg base ["self", n2] qual sc f c cc A outer s H E) [] [some (.ref a), some v] H { s with heap := h₀, toks := s.toks + 2 } := inv_startF S hr.hd e0 rfl r2 (e0.mod.kin _ _ kcc) rfl hns kp
  generalize hs0 : ({ s with heap := h₀, toks := s.toks + 2 } : Shared) = s0 at I
  have hns0 : s0.heap.Ns s.heap.objs.size fun y => [(("self" : Str), Value.ref a), (n2, u2)].reverse.lookup y := by
    rw [← hs0]
    exact hns
  show _root_.PySem.wpAt _ (A.deeper (iEnv qual sc s.heap.objs.size f c cc)) (.func _ (iEnv qual sc s.heap.objs.size f c cc)) (execs _ (iEnv qual sc s.heap.objs.size f c cc)) _ _ s0
  have K0 : K.In s0.heap := I.kIn
  obtain ⟨t1, hoa⟩ := exo_at I.hok ha
  obtain ⟨oD, hD1, hD2⟩ : ∃ oD, s0.heap.get? C = some oD ∧ oD.data = .cls cdD := by
    unfold PySem.W.clsIn at hcdD
    split at hcdD
    · rename_i c0 d0 cd' sl0 ho0
      cases hcdD
      exact ⟨_, K0 _ _ ho0, rfl⟩
    · cases hcdD
  have hxC : a ≠ C := fun z => by
    rw [z, hD1] at hoa
    have z2 := Option.some.inj hoa
    rw [z2] at hD2
    cases hD2
  have hmself : List.lookup ("self" : Str) [(("self" : Str), Value.ref a), (n2, u2)].reverse = some (.ref a) := by
    show List.lookup ("self" : Str) [(n2, u2), (("self" : Str), Value.ref a)] = some (.ref a)
    have : (("self" : Str) == n2) = false := beq_eq_false_iff_ne.mpr S.ne
    simp [List.lookup, this]
  obtain ⟨hp0, g0, d0, tk0, os0⟩ := s0
  refine ks_wpAt_execs_cons (ks_wpAt_Expr_any (ks_wpAt_MethodCall (ks_wpAt_super_base S.sup S.cls (by decide) rfl (K0 _ _ lk) rfl hp rfl (K0 _ _ kc) rfl hvs hfile U.top ?_) (hcall _)) (by show (sc.kind == .module && _) = false; rw [S.kind]; rfl))
  refine PySem.W.ks_loadName_global S.kind S.sup (Calls.loadGlobal_builtin (env := iEnv qual sc s.heap.objs.size f c cc) (I.mod.glob.keeps I.bk) hsup (I.mod.blt.choose_spec.1.keeps I.bk) ((I.mod.blt.choose_spec.2 _ (by decide +kernel)).trans (by decide +kernel)) ⟨rfl, ?_⟩)
  refine wpAny_loadName_free S.kind S.cls rfl ⟨_, K0 _ _ kcc, rfl⟩ ?_
  rw [har]
  refine wpAny_loadName_local S.kind S.l1 hns0 hmself ?_
  refine ks_wpAny_isType_cls hD1 hD2 ⟨rfl, ?_⟩
  refine ks_wpAny_call_super hD1 hD2 hoa rfl (fun c e => by cases e) (PySem.W.looks_mroIn K0 U.self) (fun h1 e1 k1 => ?_)
  have I1 : Inv (cxF CX0 P w K mg base ["self", n2] qual sc f c cc A outer s H E) [] [some (.ref a), some v] H ⟨h1, g0, d0, tk0, os0⟩ := I.kept (t' := tk0) k1
  have K1 : K.In h1 := I1.kIn
  have hoa1 := k1 _ _ hoa
  have hks := U.sup
  unfold PySem.W.ks_superIn at hks
  rw [hcdD] at hks
  have hin : PySem.W.Looks (model P w) h1 (isInstance (.ref a) (.type "ValueError")) true := by
    have I2 : PySem.W.InstAt h1 a { cls := .ref C, dict := none, data := .fields #[.ref t1, .none, .none, .none, .bool false, .none] } C none := ⟨hoa1, rfl, rfl, trivial⟩
    exact I2.type.andThen (PySem.W.looks_mroIn K1 U.ve)
  refine PySem.W.kxs_getMethod PySem.W.kxs_ValueError e1 (PySem.W.looks_opaque K1 U.opq) (l₀ := cdD.mro) (fun A Q E s k q => wpAny_bind ((PySem.W.looks_clsIn K1 hcdD) A _ E s k (wpAny_pure q))) rfl K1 hks hin hxC (by decide) ?_
  have hu1 : (h1.push (PySem.W.kxs_mw "ValueError.__init__" a)).get? h1.objs.size = some (PySem.W.kxs_mw "ValueError.__init__" a) := Heap.get?_push_size _ rfl
  have I2 : Inv (cxF CX0 P w K mg base ["self", n2] qual sc f c cc A outer s H E) [] [some (.ref a), some v] H ⟨h1.push (PySem.W.kxs_mw "ValueError.__init__" a), g0, d0, tk0 + 1, os0⟩ := I1.kept (t' := tk0 + 1) fun b u e => Heap.get?_push_of_some _ e
  have I3 : Inv (cxF CX0 P w K mg base ["self", n2] qual sc f c cc A outer s H E) [(h1.objs.size, PySem.W.kxs_mw "ValueError.__init__" a)] [some (.ref a), some v] H ⟨h1.push (PySem.W.kxs_mw "ValueError.__init__" a), g0, d0, tk0 + 1, os0⟩ := I2.pins_of fun p hp => by
    rw [List.mem_singleton.mp hp]
    exact ⟨hu1, I1.hok.fresh (Nat.le_refl _), Nat.ne_of_gt I1.lt, I1.nofs (Nat.le_refl _), fun v z => by cases z⟩
  have hrZ : Room kn (cxF CX0 P w K mg base ["self", n2] qual sc f c cc A outer s H E).A := hr.deeper _
  have pv1 : ∀ pos, PE (cxF CX0 P w K mg base ["self", n2] qual sc f c cc A outer s H E) (.Name n2 pos) (tVar 1) := fun pos => pe_var (i := 1) rfl (.inl S.l2) d2 c2
  have pv0 : ∀ pos, PE (cxF CX0 P w K mg base ["self", n2] qual sc f c cc A outer s H E) (.Name "self" pos) (tVar 0) := fun pos => pe_var (i := 0) rfl (.inl S.l1)
  have pj : PE (cxF CX0 P w K mg base ["self", n2] qual sc f c cc A outer s H E) (.JoinedStr [.Constant (.str head) k4 p3, .FormattedValue (.Name n2 p4) 114 none p5] p6) _ := pe_joined (.cons pe_str (.cons (pe_fmtB hrZ (pv1 p4)) .nil))
  refine callWith_mw (i := "ValueError.__init__") (x := a) (args_cons (thn (pj.run _ _ _ H (fun x H1 => (∃ y, x = .str y) ∧ H1 = H) I3 ?_) fun v2 s2 ⟨x2, H2, J2, rx2, ⟨y2, ex2⟩, eH⟩ => args_nil ⟨(J2.pin (h1.objs.size, PySem.W.kxs_mw "ValueError.__init__" a) (List.mem_append_right _ (List.mem_singleton.mpr rfl))).1, ?_⟩))
  · refine ⟨head, rfl, ?_, v, rfl, hv, fun m hm => ⟨m, rfl, ?_, ⟨_, rfl⟩, rfl⟩⟩
    · rw [sizeLine_eq, strLen_append]
      have : (Str.empty).length = 0 := rfl
      omega
    · rw [sizeLine_eq, strLen_append, strLen_append]
      have : (Str.empty).length = 0 := rfl
      omega
  rw [eH] at J2
  refine bound_init U.oex J2 ha ?_ ?_ fun s3 J3 => ?_
  · exact (J2.pin (h1.objs.size, PySem.W.kxs_mw "ValueError.__init__" a) (List.mem_append_right _ (List.mem_singleton.mpr rfl))).1
  · rw [sizeLine_eq]
    show 1 ≤ 16777216
    decide
  refine wpAt_of_wpAny ?_
  have ps := pss_one (ps_ost (pv0 p9) (pv1 p11) (hswap _) (X := cxF CX0 P w K mg base ["self", n2] qual sc f c cc A outer s H E) (f := n2) (p' := p10) (pos := p12))
  refine wpAny_mono (ps.run _ s3 _ H { nx := fun _ H' => Q .non H', rt := Q } J3 ?_) (fun fl s' hs => ?_) fun e s' hs => hs
  · refine ⟨v, rfl, .ref a, rfl, a, C, rfl, U.oex, hno, .inl ⟨ha, fun dx h2 h3 => q dx h2 h3⟩⟩
  · cases fl with
    | ret u =>
      obtain ⟨v', σ', H', J, rv, q'⟩ := hs
      exact ⟨v', H', J.os, J.bare, J.base, J.hok, rv, q'⟩
    | next =>
      obtain ⟨σ', H', J, q'⟩ := hs
      exact ⟨.non, H', J.os, J.bare, J.base, J.hok, rfl, q'⟩
    | brk =>
      obtain ⟨_, _, _, q'⟩ := hs
      exact False.elim q'
    | cont =>
      obtain ⟨_, _, _, q'⟩ := hs
      exact False.elim q'
end
end Mv

set_option Elab.async false
set_option linter.all false
set_option maxRecDepth 100000
set_option maxHeartbeats 4000000
namespace Mv
open PySem PySem.Spec PyProof.Rows L2
abbrev sKN : Stmt := topS 15
def Kd.cn : Kd → Str
  | .list => "Kind" | .bag => "BagKind" | .set => "SetKind" | .first => "FirstKind" | .last => "LastKind" | .ends => "EndsKind" | .heads => "HeadsKind" | .tails => "TailsKind"
/-- the constant KIND_NAMES -/
def kindNames : List V := kds.map kdV
/-- what the module's top has written, as kind_named asks it -/
structure KTx (P : Program) (w : World) (K : PySem.W.Frag) (mg : Str → Option Value) (base : Heap) (cls : Kd → Addr) (CB : Addr) : Prop where
  mk0 : ∀ k, Mk0 K (cls k)
  g : ∀ k : Kd, mg k.cn = some (.ref (cls k))
  names : ∃ kn : Addr, mg "KIND_NAMES" = some (.ref kn) ∧ ∀ H : Hp, SqT K H kn kindNames
  oex : OexC K CB
  gCB : mg "BadKind" = some (.ref CB)
  ini : ∃ (fI : Addr) (fdI : FuncData), PySem.W.findIn K (.ref CB) "__init__" = some (some (.ref fI)) ∧ PySem.W.typeIn K (.ref fI) = some (.type "function") ∧ FnOk P w K mg base CX0 1 fI fdI ["self", "name"] (spIniB K CB "name") ∧ Binds K fdI ["self", "name"] []
/-- the thing is raised -/
def Rs (CB : Addr) (H : Hp) (v : V) (E : XK) : Prop := ∀ (d : Addr) (H' : Hp), LamX.ExtN H H' → H' d = some (.xd [("name", v)]) → E (.ref CB) (some d) H'
def spKN (cls : Kd → Addr) (CB : Addr) : Sp := fun vs H Q E => ∃ v : V, vs = [v] ∧ ((∃ k : Kd, v = .str k.nm ∧ ∀ (H' : Hp) (o : Addr), Same H H' → KObj cls H' o k → Q (.ref o) H') ∨ (BadV H v ∧ Rs CB H v E))
section
variable {P : Program} {w : World} {K : PySem.W.Frag} {mg : Str → Option Value} {base : Heap} {T : List (Addr × Str)} {cls : Kd → Addr} {CB : Addr}
theorem kind_new {H : Hp} {x dx : Addr} {k : Kd} (hx : H x = none) (hd : H dx = none) (ne : dx ≠ x) : Same H (upd (upd H dx (.own x)) x (.ins (cls k) dx [])) ∧ KObj cls (upd (upd H dx (.own x)) x (.ins (cls k) dx [])) x k := by
  refine ⟨fun b o e => ?_, dx, upd_same⟩
  rw [upd_ne (ne_of_none e hx), upd_ne (ne_of_none e hd)]
  exact e
theorem if_T {c : Bool} {A B : Prop} (hc : c = true) (h : A) : if c = true then A else B := by
  rw [if_pos hc]
  exact h
theorem if_F {c : Bool} {A B : Prop} (hc : c = false) (h : B) : if c = true then A else B := by
  rw [if_neg (by rw [hc]; exact Bool.false_ne_true)]
  exact h
theorem BadV.ext {H H' : Hp} {v : V} (b : BadV H v) (e : LamX.ExtN H H') : BadV H' v := by
  cases b with
  | str z h hl hc => exact .str z h hl hc
  | non => exact .non
  | int i h => exact .int i h
theorem eqV_str (a b : Str) : eqV (.str a) (.str b) = decide (a = b) := by first | rfl | simp [eqV]
theorem inV_strs (z : Str) : ∀ ks : List Kd, (∀ k : Kd, ¬ z = k.nm) → inV (.str z) (ks.map kdV) = false
  | [], _ => rfl
  | k :: ks, h => by
    show (eqV (.str k.nm) (.str z) || inV (.str z) (ks.map kdV)) = false
    rw [inV_strs z ks h, eqV_str, decide_eq_false fun e => h k e.symm]
    rfl
theorem raise_bad {H : Hp} {v : V} {E : XK} (b : BadV H v) (r : Rs CB H v E) : tMkO CB (spIniB K CB "name") [] (tCons (tVar 0) tNil) [some v] H fun cls d H' => E cls d H' := by
  refine ⟨v, rfl, by show 1 ≤ 1000; decide, fun a ha => ⟨a, v, rfl, upd_same, b.ext (ext_upd ha), fun dx hdx nda => ⟨rfl, dx, [(("name" : Str), v)], upd_same, by rw [upd_ne nda]; exact upd_same, ?_, r dx _ (fun c o e n => ?_) upd_same⟩⟩⟩
  · rw [upd_ne nda] at hdx
    exact hdx
  · have ca : c ≠ a := ne_of_none e ha
    rw [upd_ne nda] at hdx
    have cd : c ≠ dx := ne_of_none e hdx
    rw [upd_ne cd, del_ne ca, upd_ne ca, upd_ne cd, upd_ne ca]
    exact e
theorem scKN : FnScope ["name"] ["name"] (defScope sKN) := ⟨rfl, rfl, rfl, by decide +kernel, rfl, by decide +kernel, by decide +kernel⟩
theorem ok_kn {f : Addr} {fd : FuncData} (F : Fun K "kind_named" "kind_named" sKN f fd) (B : Bi mg) (X : KTx P w K mg base cls CB) : FnOk P w K mg base (L2.CX P w) 3 f fd ["name"] (spKN cls CB) := by
  obtain ⟨fI, fdI, iC, tI, FI, bI⟩ := X.ini
  obtain ⟨kn, gN, tN⟩ := X.names
  refine F.okX scKN (fun vs H Q E h => ?_) (fun cdv A outer s H vs Q E hr h => ?_)
  · obtain ⟨v, rfl, _⟩ := h
    rfl
  · obtain ⟨v, rfl, h⟩ := h
    refine ⟨_, (pss_cons (ps_if (PW.pt (pw_or (pt_not (pt_val (pe_callB call_isi (by rfl) B.isinstance (by decide +kernel) (pa_cons (pv 0) (pa_cons (pe_bltn (by rfl) B.str (by decide +kernel) (v := .ty "str") rfl) pa_nil))))) (pw_or1 (pt_cmpR op_notIn_seq (pv 0) (pe_glob (v := V.ref kn) (by rfl) gN rfl) (by rfl)))))
 (pss_one (ps_raise rfl (takes_of rfl rfl rfl rfl) (pmk_oex X.oex iC tI FI hr bI .nil pass0 (by rfl) X.gCB (pa_cons (pv 0) pa_nil)))) pss_nil)
 (pss_cons (ps_if (pt_cmpR op_eq (pv 0) pe_str (nomark _))
 (pss_one (ps_ret (pe_makeB (X.mk0 .list) (by rfl) (X.g .list)))) pss_nil)
 (pss_cons (ps_if (pt_cmpR op_eq (pv 0) pe_str (nomark _))
 (pss_one (ps_ret (pe_makeB (X.mk0 .bag) (by rfl) (X.g .bag)))) pss_nil)
 (pss_cons (ps_if (pt_cmpR op_eq (pv 0) pe_str (nomark _))
 (pss_one (ps_ret (pe_makeB (X.mk0 .set) (by rfl) (X.g .set)))) pss_nil)
 (pss_cons (ps_if (pt_cmpR op_eq (pv 0) pe_str (nomark _))
 (pss_one (ps_ret (pe_makeB (X.mk0 .first) (by rfl) (X.g .first)))) pss_nil)
 (pss_cons (ps_if (pt_cmpR op_eq (pv 0) pe_str (nomark _))
 (pss_one (ps_ret (pe_makeB (X.mk0 .last) (by rfl) (X.g .last)))) pss_nil)
 (pss_cons (ps_if (pt_cmpR op_eq (pv 0) pe_str (nomark _))
 (pss_one (ps_ret (pe_makeB (X.mk0 .ends) (by rfl) (X.g .ends)))) pss_nil)
 (pss_cons (ps_if (pt_cmpR op_eq (pv 0) pe_str (nomark _))
 (pss_one (ps_ret (pe_makeB (X.mk0 .heads) (by rfl) (X.g .heads)))) pss_nil)
 (pss_one (ps_ret (pe_makeB (X.mk0 .tails) (by rfl) (X.g .tails)))))))))))), ?_⟩
    rcases h with ⟨k, rfl, q⟩ | ⟨b, r⟩
    · simp only [tSeq, tAsg, gName, tOp, rI, rI0, rU, tUn, tVar, tC, tCB, tCons, tNil, tTest, tIfS, tRet, tRetN, tDrop, tNext, tBreak, tCont, rEq, rNe, CDiv, CDivN, CMul, tBM, tBM0, tTup, tLst, tAug, tIf, tAnd, tOr, tNot, tAndV, tOrV, tNotV, tIsN, tNotN, tB, scal, tCall, cxK, cxKn, rIxT, rIxL, rIn, rAppend, rReverse, tVals, tDSetd, tDGet, tDGet1, tDGet2, tDIn, tDNotIn, rSortV, rSortT, rPop, rSortL, rSortT, tSl, tNoPart, tPart, List.append_nil, L2.start, List.map_cons, List.map_nil, List.length_cons, List.length_nil, List.replicate_succ, List.replicate_zero, List.cons_append, List.nil_append, Nat.reduceAdd, Nat.reduceSub, exists_eq, exists_eq', List.getElem?_cons_zero, List.getElem?_cons_succ, List.set_cons_zero, List.set_cons_succ, Option.some.injEq, V.int.injEq, V.bl.injEq, V.str.injEq, V.ref.injEq, List.cons.injEq, and_true, true_and, and_false, false_and, reduceCtorEq, exists_false, or_false, false_or, exists_and_left, exists_and_right, exists_eq_left, exists_eq_left', exists_eq_right, exists_eq_right', exists_const, ite_true, ite_false, Bool.false_eq_true, if_true, if_false, decide_true, decide_false]
      refine ⟨.str k.nm, .ty "str", .type "str", .type "str", true, rfl, .ty _, .base (.str _), kit_ty (by decide +kernel), true, rfl, iteF ?_⟩
      have new : tMake0 (cls k) [some (.str k.nm)] H Q := fun x dx hx hd ne => by
        obtain ⟨s1, o1⟩ := kind_new (cls := cls) (k := k) hx hd ne
        exact q _ x s1 o1
      clear q
      refine ⟨kindNames, .inr (tN _), rfl, rfl, if_F (by cases k <;> decide +kernel) ?_⟩
      cases k <;> (repeat (first | exact ⟨rfl, if_T (by decide +kernel) new⟩ | refine ⟨rfl, if_F (by decide +kernel) ?_⟩)) <;> exact new
    · have rb := raise_bad (K := K) b r
      cases b with
      | str z h hl hc =>
        simp only [tSeq, tAsg, gName, tOp, rI, rI0, rU, tUn, tVar, tC, tCB, tCons, tNil, tTest, tIfS, tRet, tRetN, tDrop, tNext, tBreak, tCont, rEq, rNe, CDiv, CDivN, CMul, tBM, tBM0, tTup, tLst, tAug, tIf, tAnd, tOr, tNot, tAndV, tOrV, tNotV, tIsN, tNotN, tB, scal, tCall, cxK, cxKn, rIxT, rIxL, rIn, rAppend, rReverse, tVals, tDSetd, tDGet, tDGet1, tDGet2, tDIn, tDNotIn, rSortV, rSortT, rPop, rSortL, rSortT, tSl, tNoPart, tPart, List.append_nil, L2.start, List.map_cons, List.map_nil, List.length_cons, List.length_nil, List.replicate_succ, List.replicate_zero, List.cons_append, List.nil_append, Nat.reduceAdd, Nat.reduceSub, exists_eq, exists_eq', List.getElem?_cons_zero, List.getElem?_cons_succ, List.set_cons_zero, List.set_cons_succ, Option.some.injEq, V.int.injEq, V.bl.injEq, V.str.injEq, V.ref.injEq, List.cons.injEq, and_true, true_and, and_false, false_and, reduceCtorEq, exists_false, or_false, false_or, exists_and_left, exists_and_right, exists_eq_left, exists_eq_left', exists_eq_right, exists_eq_right', exists_const, ite_true, ite_false, Bool.false_eq_true, if_true, if_false, decide_true, decide_false]
        refine ⟨.str z, .ty "str", .type "str", .type "str", true, rfl, .ty _, .base (.str _), kit_ty (by decide +kernel), true, rfl, iteF ?_⟩
        exact ⟨kindNames, .inr (tN _), rfl, rfl, if_T (by unfold kindNames; rw [inV_strs z kds h]; rfl) rb⟩
      | non =>
        simp only [tSeq, tAsg, gName, tOp, rI, rI0, rU, tUn, tVar, tC, tCB, tCons, tNil, tTest, tIfS, tRet, tRetN, tDrop, tNext, tBreak, tCont, rEq, rNe, CDiv, CDivN, CMul, tBM, tBM0, tTup, tLst, tAug, tIf, tAnd, tOr, tNot, tAndV, tOrV, tNotV, tIsN, tNotN, tB, scal, tCall, cxK, cxKn, rIxT, rIxL, rIn, rAppend, rReverse, tVals, tDSetd, tDGet, tDGet1, tDGet2, tDIn, tDNotIn, rSortV, rSortT, rPop, rSortL, rSortT, tSl, tNoPart, tPart, List.append_nil, L2.start, List.map_cons, List.map_nil, List.length_cons, List.length_nil, List.replicate_succ, List.replicate_zero, List.cons_append, List.nil_append, Nat.reduceAdd, Nat.reduceSub, exists_eq, exists_eq', List.getElem?_cons_zero, List.getElem?_cons_succ, List.set_cons_zero, List.set_cons_succ, Option.some.injEq, V.int.injEq, V.bl.injEq, V.str.injEq, V.ref.injEq, List.cons.injEq, and_true, true_and, and_false, false_and, reduceCtorEq, exists_false, or_false, false_or, exists_and_left, exists_and_right, exists_eq_left, exists_eq_left', exists_eq_right, exists_eq_right', exists_const, ite_true, ite_false, Bool.false_eq_true, if_true, if_false, decide_true, decide_false]
        exact ⟨.non, .ty "str", .type "NoneType", .type "str", false, rfl, .ty _, .base .non, kit_ty (by decide +kernel), false, rfl, iteT rb⟩
      | int i hi =>
        simp only [tSeq, tAsg, gName, tOp, rI, rI0, rU, tUn, tVar, tC, tCB, tCons, tNil, tTest, tIfS, tRet, tRetN, tDrop, tNext, tBreak, tCont, rEq, rNe, CDiv, CDivN, CMul, tBM, tBM0, tTup, tLst, tAug, tIf, tAnd, tOr, tNot, tAndV, tOrV, tNotV, tIsN, tNotN, tB, scal, tCall, cxK, cxKn, rIxT, rIxL, rIn, rAppend, rReverse, tVals, tDSetd, tDGet, tDGet1, tDGet2, tDIn, tDNotIn, rSortV, rSortT, rPop, rSortL, rSortT, tSl, tNoPart, tPart, List.append_nil, L2.start, List.map_cons, List.map_nil, List.length_cons, List.length_nil, List.replicate_succ, List.replicate_zero, List.cons_append, List.nil_append, Nat.reduceAdd, Nat.reduceSub, exists_eq, exists_eq', List.getElem?_cons_zero, List.getElem?_cons_succ, List.set_cons_zero, List.set_cons_succ, Option.some.injEq, V.int.injEq, V.bl.injEq, V.str.injEq, V.ref.injEq, List.cons.injEq, and_true, true_and, and_false, false_and, reduceCtorEq, exists_false, or_false, false_or, exists_and_left, exists_and_right, exists_eq_left, exists_eq_left', exists_eq_right, exists_eq_right', exists_const, ite_true, ite_false, Bool.false_eq_true, if_true, if_false, decide_true, decide_false]
        exact ⟨.int i, .ty "str", .type "int", .type "str", false, rfl, .ty _, .base (.int i), kit_ty (by decide +kernel), false, rfl, iteT rb⟩
end
end Mv

set_option Elab.async false
set_option linter.all false
set_option maxRecDepth 100000
set_option maxHeartbeats 4000000
namespace Mv
open PySem PySem.Spec PyProof.Rows L2
theorem dp_ints {K : PySem.W.Frag} {H : Hp} : ∀ xs : List Int, DpAll K H (xs.map V.int) (xs.map PyData.int)
  | [] => .nil
  | x :: xs => .cons (.int x) (dp_ints xs)
theorem eqvAll_ints : ∀ xs ys : List Int, PyData.eqvAll (xs.map PyData.int) (ys.map PyData.int) = decide (xs = ys)
  | [], [] => rfl
  | [], y :: ys => by simp [PyData.eqvAll]
  | x :: xs, [] => by simp [PyData.eqvAll]
  | x :: xs, y :: ys => by
    rw [List.map_cons, List.map_cons, PySem.W.eqv_all_cons, eqvAll_ints xs ys]
    by_cases h : x = y
    · subst h
      simp [PyData.eqv]
    · simp [PyData.eqv, h]
theorem shaped_ints (xs : List Int) : SeqAt.shaped (.tuple (xs.map PyData.int)) = true := by simp [SeqAt.shaped, PyData.canLay0, PyData.depth, PySem.W.ke_canLayAll0, PySem.W.ke_depthAll]
/-- tuples of ints, compared -/
theorem eq_tups {K : PySem.W.Frag} {H : Hp} {a b : Addr} {xs ys : List Int} {Q : VK} (ha : SqT K H a (xs.map V.int)) (hb : SqT K H b (ys.map V.int)) (q : Q (.bl (decide (xs = ys))) H) : rEqD K (.ref a) (.ref b) H Q :=
  ⟨_, _, .tup ha (dp_ints xs), .tup hb (dp_ints ys), shaped_ints xs, shaped_ints ys, by rw [show PyData.eqv (.tuple (xs.map PyData.int)) (.tuple (ys.map PyData.int)) = decide (xs = ys) from eqvAll_ints xs ys]; exact q⟩
theorem ne_tups {K : PySem.W.Frag} {H : Hp} {a b : Addr} {xs ys : List Int} {Q : VK} (ha : SqT K H a (xs.map V.int)) (hb : SqT K H b (ys.map V.int)) (q : Q (.bl (!decide (xs = ys))) H) : rNeD K (.ref a) (.ref b) H Q :=
  ⟨_, _, .tup ha (dp_ints xs), .tup hb (dp_ints ys), shaped_ints xs, shaped_ints ys, by rw [show PyData.eqv (.tuple (xs.map PyData.int)) (.tuple (ys.map PyData.int)) = decide (xs = ys) from eqvAll_ints xs ys]; exact q⟩
theorem Rs.ext {CB : Addr} {H H' : Hp} {v : V} {E : XK} (r : Rs CB H v E) (e : LamX.ExtN H H') : Rs CB H' v E := fun d H2 e2 h => r d H2 (e.trans e2) h
def spAl (K : PySem.W.Frag) (T : List (Addr × Str)) (CB : Addr) : Sp := fun vs H Q E => ∃ (v : V) (p r : Addr), vs = [v, .ref p, .ref r] ∧ ((∃ (k : Kd) (xs ys : List Int), v = .str k.nm ∧ WordS K H p xs ∧ WordS K H r ys ∧ xs.length ≤ 60 ∧ ys.length ≤ 60 ∧ LamX.Tabs T H ∧ ∀ H' : Hp, Gw T H H' → Q (.bl (decide (plainI k xs = plainI k ys))) H') ∨ (BadV H v ∧ Rs CB H v E))
end Mv

set_option Elab.async false
set_option linter.all false
set_option maxRecDepth 100000
set_option maxHeartbeats 4000000
namespace Mv
open PySem PySem.Spec PyProof.Rows L2
abbrev sPlain : Stmt := topS 32
/-- the words as the loop reads them -/
def turnI (b : Bool) (xs : List Int) : List Int := if b = true then xs.reverse else xs
theorem turnI_len (b : Bool) (xs : List Int) : (turnI b xs).length = xs.length := by
  cases b
  · rfl
  · exact List.length_reverse
theorem heads_take {xs : List Int} {i : Nat} {x : Int} (h : xs[i]? = some x) : headsI (xs.take (i + 1)) = addI (headsI (xs.take i)) x := by
  rw [List.take_add_one, h]
  exact headsI_snoc _ _
section
variable {P : Program} {w : World} {K : PySem.W.Frag} {mg : Str → Option Value} {base : Heap}
theorem scPlain : FnScope ["_law_kind", "_law_word_here", "_law_kept", "_law_turned", "_law_k", "_law_value_here"] ["_law_kind", "_law_word_here"] (defScope sPlain) := ⟨rfl, rfl, rfl, by decide +kernel, rfl, by decide +kernel, by decide +kernel⟩
def spPlain (K : PySem.W.Frag) : Sp := fun vs H Q _ => ∃ (k : Kd) (p : Addr) (xs : List Int), vs = [.str k.nm, .ref p] ∧ SqT K H p (xs.map V.int) ∧ xs.length ≤ 1000 ∧ ∀ (H' : Hp) (t : Addr), Same H H' → SqT K H' t ((plainI k xs).map V.int) → Q (.ref t) H'
theorem ok_plain {f : Addr} {fd : FuncData} (F : Fun K "_law_plain" "_law_plain" sPlain f fd) (B : Bi mg) : FnOk P w K mg base CX0 1 f fd ["_law_kind", "_law_word_here"] (spPlain K) := by
  refine F.ok scPlain (fun vs H Q E h => ?_) (fun cdv A outer s H vs Q E hr h => ?_)
  · obtain ⟨k, p, xs, rfl, _⟩ := h
    rfl
  · obtain ⟨k, p, xs, rfl, hp, hl, q⟩ := h
    refine ⟨_, (pss_cons (ps_if (pt_cmpR op_eq (pv 0) pe_str (nomark _))
 (pss_one (ps_ret (pe_callTy call_tuple_of (by rfl) B.tuple (by decide +kernel) (pa_cons (pv 1) pa_nil)))) pss_nil)
 (pss_cons (ps_if (pt_cmpR op_eq (pv 0) pe_str (nomark _))
 (pss_one (ps_ret (pe_callTy call_tuple_of (by rfl) B.tuple (by decide +kernel) (pa_cons (pe_callB cr_sortT' (by rfl) B.sorted (by decide +kernel) (pa_cons (pv 1) pa_nil)) pa_nil)))) pss_nil)
 (pss_cons (ps_if (pt_cmpR op_eq (pe_callB call_len_seq (by rfl) B.len PySem.boot_len (pa_cons (pv 1) pa_nil)) pe_int (nomark _))
 (pss_one (ps_ret (pe_tup pa_nil))) pss_nil)
 (pss_cons (ps_if (pt_cmpR op_eq (pv 0) pe_str (nomark _))
 (pss_one (ps_ret (pe_tup (pa_cons (pe_ix ix_tup (pv 1) pe_int (fun _ _ => rfl)) pa_nil)))) pss_nil)
 (pss_cons (ps_if (pt_cmpR op_eq (pv 0) pe_str (nomark _))
 (pss_one (ps_ret (pe_tup (pa_cons (pe_ix ix_tup (pv 1) (pe_un un_neg pe_int) (fun _ _ => rfl)) pa_nil)))) pss_nil)
 (pss_cons (ps_if (pt_cmpR op_eq (pv 0) pe_str (nomark _))
 (pss_one (ps_ret (pe_tup (pa_cons (pe_ix ix_tup (pv 1) pe_int (fun _ _ => rfl)) (pa_cons (pe_ix ix_tup (pv 1) (pe_un un_neg pe_int) (fun _ _ => rfl)) pa_nil))))) pss_nil)
 (pss_cons (ps_set (i := 2) scPlain.nd rfl (.inl rfl) (pe_lst pa_nil))
 (pss_cons (ps_set (i := 3) scPlain.nd rfl (.inl rfl) (pe_cmpR op_eq (pv 0) pe_str (nomark _)))
 (pss_cons (ps_for PassesOwn.never rfl (pi_range1 (by rfl) B.range (pa_cons (pe_callB call_len_seq (by rfl) B.len PySem.boot_len (pa_cons (pv 1) pa_nil)) pa_nil)) (pg_name (i := 4) scPlain.nd rfl (.inl rfl))
 (pss_cons (ps_set (i := 5) scPlain.nd rfl (.inl rfl) (pe_ix ix_tup (pv 1) (pv 4) (fun _ _ => rfl)))
 (pss_cons (ps_if (pt_val (pv 3))
 (pss_one (ps_set (i := 5) scPlain.nd rfl (.inl rfl) (pe_ix ix_tup (pv 1) (pe_op op_sub (pe_op op_sub (pe_callB call_len_seq (by rfl) B.len PySem.boot_len (pa_cons (pv 1) pa_nil)) pe_int) (pv 4)) (fun _ _ => rfl)))) pss_nil)
 (pss_one (ps_if (pt_cmpR op_notIn_seq (pv 5) (pv 2) (by rfl))
 (pss_one (ps_expr (pe_bm PySem.F.plainAttrs_list PySem.F.slot_list_append PySem.F.type_list_append mt_append (pv 2) (pa_cons (pv 5) pa_nil)))) pss_nil)))))
 (pss_cons (ps_if (pt_val (pv 3))
 (pss_one (ps_expr (pe_bm0 PySem.F.plainAttrs_list PySem.F.slot_list_reverse PySem.F.type_list_reverse mt_reverse (pv 2)))) pss_nil)
 (pss_cons (ps_if (pt_cmpR op_eq (pv 0) pe_str (nomark _))
 (pss_one (ps_ret (pe_callTy call_tuple_of (by rfl) B.tuple (by decide +kernel) (pa_cons (pe_callB cr_sortL (by rfl) B.sorted (by decide +kernel) (pa_cons (pv 2) pa_nil)) pa_nil)))) pss_nil)
 (pss_one (ps_ret (pe_callTy call_tuple_of (by rfl) B.tuple (by decide +kernel) (pa_cons (pv 2) pa_nil))))))))))))))), ?_⟩
    simp only [tSeq, tAsg, gName, tOp, rI, rI0, rU, tUn, tVar, tC, tCB, tCons, tNil, tTest, tIfS, tRet, tRetN, tDrop, tNext, tBreak, tCont, rEq, rNe, CDiv, CDivN, CMul, tBM, tBM0, tTup, tLst, tAug, tIf, tAnd, tOr, tNot, tAndV, tOrV, tNotV, tIsN, tNotN, tB, scal, tCall, cxK, cxKn, rIxT, rIxL, rIn, rAppend, rReverse, tVals, tDSetd, tDGet, tDGet1, tDGet2, tDIn, tDNotIn, rSortV, rSortT, rPop, rSortL, rSortT, tSl, tNoPart, tPart, List.append_nil, L2.start, List.map_cons, List.map_nil, List.length_cons, List.length_nil, List.replicate_succ, List.replicate_zero, List.cons_append, List.nil_append, Nat.reduceAdd, Nat.reduceSub, exists_eq, exists_eq', List.getElem?_cons_zero, List.getElem?_cons_succ, List.set_cons_zero, List.set_cons_succ, Option.some.injEq, V.int.injEq, V.bl.injEq, V.str.injEq, V.ref.injEq, List.cons.injEq, and_true, true_and, and_false, false_and, reduceCtorEq, exists_false, or_false, false_or, exists_and_left, exists_and_right, exists_eq_left, exists_eq_left', exists_eq_right, exists_eq_right', exists_const, ite_true, ite_false, Bool.false_eq_true, if_true, if_false, decide_true, decide_false]
    refine ite2 (fun e => ?_) (fun e1 => ?_)
    · obtain rfl : k = .list := by revert e; cases k <;> decide +kernel
      exact ⟨_, .inr ⟨hp, q H p (Same.refl H) hp⟩⟩
    refine ite2 (fun e => ?_) (fun e2 => ?_)
    · obtain rfl : k = .bag := by revert e; cases k <;> decide +kernel
      refine ⟨xs, hp, fun l hl' => ⟨_, .inl ⟨SqL.of upd_same, fun t ht => ?_⟩⟩⟩
      exact q _ t ((same_upd hl').trans (same_upd ht)) (.inl (.inl upd_same))
    refine ⟨xs.map V.int, .inr hp, ite2 (fun e => ⟨Nat.zero_le _, fun t ht => ?_⟩) (fun e0 => ?_)⟩
    · have e0 : xs = [] := by
        have h0 := of_decide_eq_true e
        rw [List.length_map] at h0
        exact List.length_eq_zero_iff.mp (by omega)
      subst e0
      rw [plain_nil] at q
      exact q _ t (same_upd ht) (.inl (.inl upd_same))
    have hx0 : xs ≠ [] := fun z => by
      subst z
      exact e0 (decide_eq_true rfl)
    obtain ⟨x, r, rfl⟩ : ∃ x r, xs = x :: r := by
      cases xs with
      | nil => exact absurd rfl hx0
      | cons x r => exact ⟨x, r, rfl⟩
    have hat0 : atI ((x :: r).map V.int) 0 = some (.int x) := atI_nat (j := 0) rfl
    have hz : (x :: r).map V.int = ((x :: r).dropLast.map V.int) ++ [.int ((x :: r).getLast hx0)] := by
      rw [← List.map_singleton, ← List.map_append, List.dropLast_concat_getLast]
    have hatL : atI ((x :: r).map V.int) (-1) = some (.int ((x :: r).getLast hx0)) := by
      rw [hz]
      exact atI_last _ _
    have hlast : lastI (x :: r) = [(x :: r).getLast hx0] := by
      conv => lhs; rw [← List.dropLast_concat_getLast hx0]
      exact lastI_snoc _ _
    refine ite2 (fun e => ⟨_, hp, _, hat0, by decide, fun t ht => ?_⟩) (fun e3 => ?_)
    · obtain rfl : k = .first := by revert e; cases k <;> decide +kernel
      exact q _ t (same_upd ht) (.inl (.inl upd_same))
    refine ite2 (fun e => ⟨_, hp, _, hatL, by decide, fun t ht => ?_⟩) (fun e4 => ?_)
    · obtain rfl : k = .last := by revert e; cases k <;> decide +kernel
      refine q _ t (same_upd ht) (.inl (.inl ?_))
      show _ = some (HO.tup ((lastI (x :: r)).map V.int))
      rw [hlast]
      exact upd_same
    refine ite2 (fun e => ⟨_, hp, _, hat0, _, hp, _, hatL, by decide, fun t ht => ?_⟩) (fun e5 => ⟨Nat.zero_le _, fun o no => ?_⟩)
    · obtain rfl : k = .ends := by revert e; cases k <;> decide +kernel
      refine q _ t (same_upd ht) (.inl (.inl ?_))
      show _ = some (HO.tup ((firstI (x :: r) ++ lastI (x :: r)).map V.int))
      rw [hlast]
      exact upd_same
    -- the loop
    have so := same_upd (o := .lst []) no
    have hp1 : SqT K (upd H o (.lst [])) p ((x :: r).map V.int) := Same.tup so hp
    generalize x :: r = xs at *
    have hlen : (turnI (decide (k.nm = "tails")) xs).length = xs.length := turnI_len _ xs
    have hget : ∀ j, j < xs.length → ∃ u, (turnI (decide (k.nm = "tails")) xs)[j]? = some u ∧ ((decide (k.nm = "tails")) = false → xs[j]? = some u) ∧ (decide (k.nm = "tails") = true → xs[xs.length - 1 - j]? = some u) := fun j hj => by
      generalize decide (k.nm = "tails") = b
      cases b with
      | false => exact ⟨xs[j], List.getElem?_eq_getElem hj, fun _ => List.getElem?_eq_getElem hj, fun z => Bool.noConfusion z⟩
      | true =>
        refine ⟨xs[xs.length - 1 - j]'(by omega), ?_, fun z => Bool.noConfusion z, fun _ => List.getElem?_eq_getElem _⟩
        show xs.reverse[j]? = _
        rw [List.getElem?_reverse hj, List.getElem?_eq_getElem]
    refine ⟨.ref p, rfl, p, rfl, xs.map V.int, .inr hp1, ((xs.map V.int).length : Nat), rfl, by rw [List.length_map]; omega, by rw [List.length_map]; omega, ?_⟩
    rw [List.length_map]
    refine for_range (n := xs.length) (fun j σ H3 => ∃ y4 y5, σ = [some (.str k.nm), some (.ref p), some (.ref o), some (.bl (decide (k.nm = "tails"))), y4, y5] ∧ Same H H3 ∧ H3 o = some (.lst ((headsI ((turnI (decide (k.nm = "tails")) xs).take j)).map V.int))) ⟨none, none, rfl, so, upd_same⟩ ?_ ?_
    · rintro j σ H3 hj ⟨y4, y5, rfl, s3, ho⟩
      obtain ⟨u, h1, h2, h3⟩ := hget j hj
      have hj1 : xs[j]? = some xs[j] := List.getElem?_eq_getElem hj
      have hp3 := Same.tup s3 hp
      have e6 := heads_take h1
      simp only [tSeq, tAsg, gName, tOp, rI, rI0, rU, tUn, tVar, tC, tCB, tCons, tNil, tTest, tIfS, tRet, tRetN, tDrop, tNext, tBreak, tCont, rEq, rNe, CDiv, CDivN, CMul, tBM, tBM0, tTup, tLst, tAug, tIf, tAnd, tOr, tNot, tAndV, tOrV, tNotV, tIsN, tNotN, tB, scal, tCall, cxK, cxKn, rIxT, rIxL, rIn, rAppend, rReverse, tVals, tDSetd, tDGet, tDGet1, tDGet2, tDIn, tDNotIn, rSortV, rSortT, rPop, rSortL, rSortT, tSl, tNoPart, tPart, List.append_nil, L2.start, List.map_cons, List.map_nil, List.length_cons, List.length_nil, List.replicate_succ, List.replicate_zero, List.cons_append, List.nil_append, Nat.reduceAdd, Nat.reduceSub, exists_eq, exists_eq', List.getElem?_cons_zero, List.getElem?_cons_succ, List.set_cons_zero, List.set_cons_succ, Option.some.injEq, V.int.injEq, V.bl.injEq, V.str.injEq, V.ref.injEq, List.cons.injEq, and_true, true_and, and_false, false_and, reduceCtorEq, exists_false, or_false, false_or, exists_and_left, exists_and_right, exists_eq_left, exists_eq_left', exists_eq_right, exists_eq_right', exists_const, ite_true, ite_false, Bool.false_eq_true, if_true, if_false, decide_true, decide_false]
      refine ⟨xs.map V.int, hp3, .int xs[j], at_of (j := j) (by omega) (by rw [List.getElem?_map, hj1]; rfl), ite2 ?A ?B⟩
      case' A =>
        intro e
        refine ⟨_, .inr hp3, xs.map V.int, hp3, .int u, at_of (j := xs.length - 1 - j) (by rw [List.length_map]; omega) (by rw [List.getElem?_map, h3 e]; rfl), ?_⟩
      case' B =>
        intro e
        obtain rfl : xs[j] = u := Option.some.inj (hj1.symm.trans (h2 (Bool.eq_false_iff.mpr e)))
        generalize xs[j] = u at *
      all_goals
        refine ⟨_, .inl (SqL.of ho), rfl, ints_flat _, ?_⟩
        rw [inV_int, e6]
        unfold addI
        by_cases hm : u ∈ headsI ((turnI (decide (k.nm = "tails")) xs).take j)
        · rw [if_pos hm, if_neg (by simp [hm])]
          exact ⟨s3, ho⟩
        · rw [if_neg hm, if_pos (by simp [hm])]
          refine ⟨.inl ⟨rfl, _, SqL.of ho⟩, _, ho, ?_, fun b z e => ?_, ?_⟩
          · rw [List.length_map]
            refine small1000 (Nat.le_trans (headsI_len _) ?_)
            rw [List.length_take]
            omega
          · rw [upd_ne (ne_of_none e no)]
            exact s3 _ _ e
          · rw [upd_same, List.map_append]
            rfl
    · rintro σ H3 ⟨y4, y5, rfl, s3, ho⟩
      rw [List.take_of_length_le (by rw [hlen]; exact Nat.le_refl _)] at ho
      have s4 : ∀ z, Same H (upd H3 o z) := fun z b y e => by
        rw [upd_ne (ne_of_none e no)]
        exact s3 _ _ e
      simp only [tSeq, tAsg, gName, tOp, rI, rI0, rU, tUn, tVar, tC, tCB, tCons, tNil, tTest, tIfS, tRet, tRetN, tDrop, tNext, tBreak, tCont, rEq, rNe, CDiv, CDivN, CMul, tBM, tBM0, tTup, tLst, tAug, tIf, tAnd, tOr, tNot, tAndV, tOrV, tNotV, tIsN, tNotN, tB, scal, tCall, cxK, cxKn, rIxT, rIxL, rIn, rAppend, rReverse, tVals, tDSetd, tDGet, tDGet1, tDGet2, tDIn, tDNotIn, rSortV, rSortT, rPop, rSortL, rSortT, tSl, tNoPart, tPart, List.append_nil, L2.start, List.map_cons, List.map_nil, List.length_cons, List.length_nil, List.replicate_succ, List.replicate_zero, List.cons_append, List.nil_append, Nat.reduceAdd, Nat.reduceSub, exists_eq, exists_eq', List.getElem?_cons_zero, List.getElem?_cons_succ, List.set_cons_zero, List.set_cons_succ, Option.some.injEq, V.int.injEq, V.bl.injEq, V.str.injEq, V.ref.injEq, List.cons.injEq, and_true, true_and, and_false, false_and, reduceCtorEq, exists_false, or_false, false_or, exists_and_left, exists_and_right, exists_eq_left, exists_eq_left', exists_eq_right, exists_eq_right', exists_const, ite_true, ite_false, Bool.false_eq_true, if_true, if_false, decide_true, decide_false]
      refine ite2 (fun e => ?_) (fun e => ?_)
      · obtain rfl : k = .tails := by revert e; cases k <;> decide +kernel
        refine ⟨.inl ⟨rfl, _, SqL.of ho⟩, _, ho, ite2 (fun z => absurd z (by decide +kernel)) (fun _ => ⟨_, .inl ⟨SqL.of upd_same, fun t ht => ?_⟩⟩)⟩
        refine q _ t ((s4 _).trans (same_upd ht)) (.inl (.inl ?_))
        rw [upd_same, ← List.map_reverse]
        rfl
      · refine ite2 (fun e7 => ⟨_, SqL.of ho, fun l hl' => ⟨_, .inl ⟨SqL.of upd_same, fun t ht => ?_⟩⟩⟩) (fun e7 => ⟨_, .inl ⟨SqL.of ho, fun t ht => ?_⟩⟩)
        · obtain rfl : k = .set := by revert e7; cases k <;> decide +kernel
          exact q _ t ((s3.trans (same_upd hl')).trans (same_upd ht)) (.inl (.inl upd_same))
        · obtain rfl : k = .heads := by cases k <;> first | rfl | exact absurd (by decide +kernel) e1 | exact absurd (by decide +kernel) e2 | exact absurd (by decide +kernel) e3 | exact absurd (by decide +kernel) e4 | exact absurd (by decide +kernel) e5 | exact absurd (by decide +kernel) e | exact absurd (by decide +kernel) e7
          exact q _ t (s3.trans (same_upd ht)) (.inl (.inl upd_same))
/-! ### a word of ints -/
end
end Mv

set_option Elab.async false
set_option linter.all false
set_option maxRecDepth 100000
set_option maxHeartbeats 4000000
namespace Mv
open PySem PySem.Spec PyProof.Rows L2
/-! ### slices -/
theorem cutV_take (xs : List V) (k : Nat) : cutV xs none (some (k : Int)) = xs.take k := by
  unfold cutV
  rw [HT.sIx_nat]
  show (xs.drop 0).take (min k xs.length - 0) = _
  rw [List.drop_zero, Nat.sub_zero, ← List.take_eq_take_min]
theorem cutV_drop (xs : List V) (k : Nat) : cutV xs (some (k : Int)) none = xs.drop k := by
  unfold cutV
  rw [HT.sIx_nat]
  show (xs.drop (min k xs.length)).take (xs.length - min k xs.length) = _
  rcases Nat.le_total k xs.length with h | h
  · rw [Nat.min_eq_left h, List.take_of_length_le (by rw [List.length_drop]; exact Nat.le_refl _)]
  · rw [Nat.min_eq_right h, List.drop_length, List.take_nil, List.drop_of_length_le h]
theorem cutV_last (xs : List V) : cutV xs (some (-1)) none = xs.drop (xs.length - 1) := by
  unfold cutV
  have e : HT.sIx xs.length 0 (some (-1)) = xs.length - 1 := by
    show (if (-1 : Int) < 0 then ((-1 : Int) + (xs.length : Int)).toNat else min (-1 : Int).toNat xs.length) = _
    rw [if_pos (by decide)]
    omega
  rw [e]
  have e2 : HT.sIx xs.length xs.length none = xs.length := rfl
  rw [e2]
  show (xs.drop (xs.length - 1)).take (xs.length - (xs.length - 1)) = _
  rw [List.take_of_length_le (by rw [List.length_drop]; exact Nat.le_refl _)]
theorem sl_any {K : PySem.W.Frag} {H : Hp} {p : Addr} {xs : List V} {lo hi : Option Int} {Q : VK} (hp : SqT K H p xs) (q : ∀ (t : Addr) (H' : Hp), Same H H' → SqT K H' t (cutV xs lo hi) → (H p = some (.tup xs) → H' t = some (.tup (cutV xs lo hi))) → Q (.ref t) H') : rSlA K (.ref p) lo hi H Q := by
  refine ⟨p, xs, rfl, hp, fun e => q p H (Same.refl H) ?_ ?_, fun _ t ht => q t _ (same_upd ht) (.inl (.inl upd_same)) fun _ => upd_same⟩
  all_goals
    have ec : cutV xs lo hi = xs := by
      unfold cutV
      rw [e.1, e.2, List.drop_zero, Nat.sub_zero, List.take_length]
    rw [ec]
  · exact hp
  · exact id
theorem cat_tups {K : PySem.W.Frag} {H : Hp} {a b : Addr} {xs ys : List V} {Q : VK} (ha : H a = some (.tup xs)) (hb : H b = some (.tup ys)) (hz : xs.length + ys.length ≤ 1000)
    (q : ∀ (z : Addr) (H' : Hp), Same H H' → H' z = some (.tup (xs ++ ys)) → Q (.ref z) H') : rCatA K (.ref a) (.ref b) H Q := by
  refine ⟨a, b, _, _, rfl, rfl, .inl (.inl ha), .inl (.inl hb), small1000' hz, fun e => q b H (Same.refl H) ?_, fun _ e => q a H (Same.refl H) ?_, fun _ _ p hp => q p _ (same_upd hp) upd_same⟩
  · rw [e]
    exact hb
  · rw [e, List.append_nil]
    exact ha
/-! ### a list of words, each of them a tuple -/
structure Pcs (H : Hp) (l : Addr) (L : List (Addr × List Int)) : Prop where
  at_ : H l = some (.lst (L.map fun q => V.ref q.1))
  all : ∀ q ∈ L, H q.1 = some (.tup (q.2.map V.int))
def wds (L : List (Addr × List Int)) : List (List Int) := L.map (·.2)
theorem Pcs.ext {H H' : Hp} {l : Addr} {L : List (Addr × List Int)} (p : Pcs H l L) (e : LamX.ExtN H H') : Pcs H' l L := ⟨e _ _ p.at_ (fun ps z => by cases z), fun q hq => e _ _ (p.all q hq) (fun ps z => by cases z)⟩
theorem Pcs.same {H H' : Hp} {l : Addr} {L : List (Addr × List Int)} (p : Pcs H l L) (e : Same H H') : Pcs H' l L := ⟨e _ _ p.at_, fun q hq => e _ _ (p.all q hq)⟩
theorem Strm.neT {H : Hp} {a b : Addr} {ys : List V} (h : Strm H a) (e : H b = Option.some (.tup ys)) : b ≠ a := fun z => by
  obtain ⟨ns, ha, _⟩ := h
  rw [z, ha] at e
  cases Option.some.inj e
theorem Pcs.sx {H H' : Hp} {a l : Addr} {L : List (Addr × List Int)} (p : Pcs H l L) (hs : Strm H a) (n : l ≠ a) (e : Sx a H H') : Pcs H' l L := ⟨e _ _ n p.at_, fun q hq => e _ _ (hs.neT (p.all q hq)) (p.all q hq)⟩
theorem spWord_of {a : Addr} {n : Nat} {m z : Int} {H : Hp} {Q : VK} {E : XK} (e : m = (n : Int)) (hn : n ≤ 1000) (hs : Strm H a) (q : ∀ (xs : List Int) (H' : Hp) (p : Addr), xs.length = n → Sx a H H' → Strm H' a → H' p = some (.tup (xs.map V.int)) → Q (.ref p) H') : spWord [.ref a, .int m, .int z] H Q E :=
  ⟨a, n, z, by rw [e], hn, hs, fun xs H' p l x t _ h => q xs H' p l x t h⟩
theorem tt {K : PySem.W.Frag} {H : Hp} {p : Addr} {xs : List V} (h : H p = some (.tup xs)) : SqT K H p xs := .inl (.inl h)
theorem ll {K : PySem.W.Frag} {H : Hp} {p : Addr} {xs : List V} (h : H p = some (.lst xs)) : SqL K H p xs := .inl (.inl h)
theorem tup_of {xs : List Int} {ys : List V} (h : ys = xs.map V.int) {H : Hp} {t : Addr} (e : H t = some (.tup ys)) : H t = some (.tup (xs.map V.int)) := by rw [e, h]
end Mv

set_option Elab.async false
set_option linter.all false
set_option maxRecDepth 100000
set_option maxHeartbeats 4000000
namespace Mv
open PySem PySem.Spec PyProof.Rows L2
abbrev sParcel : Stmt := topS 28
abbrev sDrawn : Stmt := topS 29
abbrev sAround : Stmt := topS 30
section
variable {P : Program} {w : World} {K : PySem.W.Frag} {mg : Str → Option Value} {base : Heap}
theorem scParcel : FnScope ["_law_stream_here", "_law_style", "_law_shape", "_law_stem", "_law_size"] ["_law_stream_here", "_law_style", "_law_shape", "_law_stem"] (defScope sParcel) := ⟨rfl, rfl, rfl, by decide +kernel, rfl, by decide +kernel, by decide +kernel⟩
def spParcel : Sp := fun vs H Q _ => ∃ (a p : Addr) (z s : Int) (xs : List Int), vs = [.ref a, .int z, .int s, .ref p] ∧ Strm H a ∧ H p = some (.tup (xs.map V.int)) ∧ 1 ≤ xs.length ∧ xs.length ≤ 3 ∧ (s = 2 → xs.length ≤ 2) ∧ (s ≠ 2 → xs.length = 3) ∧
  ∀ (ys : List Int) (H' : Hp) (t : Addr), 1 ≤ ys.length → ys.length ≤ 4 → Sx a H H' → Strm H' a → H' t = some (.tup (ys.map V.int)) → Q (.ref t) H'
theorem ok_parcel {f : Addr} {fd : FuncData} (F : Fun K "_law_parcel" "_law_parcel" sParcel f fd) (B : Bi mg) (hmin : mg "min" = none) (cDraw : CalX CX0 P w K mg base 1 "_law_draw" spDraw) (cWord : CalX CX0 P w K mg base 4 "_law_word" spWord) : FnOk P w K mg base CX0 5 f fd ["_law_stream_here", "_law_style", "_law_shape", "_law_stem"] spParcel := by
  refine F.ok scParcel (fun vs H Q E h => ?_) (fun cdv A outer s H vs Q E hr h => ?_)
  · obtain ⟨a, p, z, s, xs, rfl, _⟩ := h
    rfl
  · obtain ⟨a, p, z, sh, xs, rfl, hs, hp, l1, l3, k2, k3, q⟩ := h
    refine ⟨_, (pss_cons (ps_set (i := 4) scParcel.nd rfl (.inl rfl) (pe_op op_add pe_int (pe_cx cDraw hr (by decide) pass0 (by rfl) (pa_cons (pv 0) (pa_cons pe_int pa_nil)))))
 (pss_cons (ps_if (PW.pt (pw_or (pt_cmpR op_lt (pv 2) pe_int (nomark _)) (pw_or1 (pt_cmpR op_eq (pe_cx cDraw hr (by decide) pass0 (by rfl) (pa_cons (pv 0) (pa_cons pe_int pa_nil))) pe_int (nomark _)))))
 (pss_one (ps_ret (pe_cx cWord hr (by decide) pass0 (by rfl) (pa_cons (pv 0) (pa_cons (pv 4) (pa_cons (pv 1) pa_nil)))))) pss_nil)
 (pss_cons (ps_if (pt_cmpR op_eq (pv 2) pe_int (nomark _))
 (pss_one (ps_ret (pe_op op_repT1 (pv 3) (pe_callB (call_min2 rfl) (by rfl) hmin (by decide +kernel) (pa_cons (pv 4) (pa_cons (pe_op op_fdivN pe_int (pe_callB call_len_seq (by rfl) B.len PySem.boot_len (pa_cons (pv 3) pa_nil))) pa_nil)))))) pss_nil)
 (pss_cons (ps_if (pt_cmpR op_eq (pv 2) pe_int (nomark _))
 (pss_one (ps_ret (pe_slice sl_tupA (pv 3) po_none (po_some (pv 4))))) pss_nil)
 (pss_cons (ps_if (pt_cmpR op_eq (pv 2) pe_int (nomark _))
 (pss_one (ps_ret (pe_slice sl_tupA (pv 3) (po_some (pe_op op_sub pe_int (pv 4))) po_none))) pss_nil)
 (pss_one (ps_ret (pe_op op_catA (pe_op op_catA (pe_slice sl_tupA (pv 3) po_none (po_some pe_int)) (pe_cx cWord hr (by decide) pass0 (by rfl) (pa_cons (pv 0) (pa_cons (pe_op op_sub (pv 4) pe_int) (pa_cons (pv 1) pa_nil))))) (pe_slice sl_tupA (pv 3) (po_some (pe_un un_neg pe_int)) po_none))))))))), ?_⟩
    simp only [tSeq, tAsg, gName, tOp, rI, rI0, rU, tUn, tVar, tC, tCB, tCons, tNil, tTest, tIfS, tRet, tRetN, tDrop, tNext, tBreak, tCont, rEq, rNe, CDiv, CDivN, CMul, tBM, tBM0, tTup, tLst, tAug, tIf, tAnd, tOr, tNot, tAndV, tOrV, tNotV, tIsN, tNotN, tB, scal, tCall, cxK, cxKn, rIxT, rIxL, rIn, rAppend, rReverse, tVals, tDSetd, tDGet, tDGet1, tDGet2, tDIn, tDNotIn, rSortV, rSortT, rPop, rSortL, rSortT, tSl, tNoPart, tPart, List.append_nil, L2.start, List.map_cons, List.map_nil, List.length_cons, List.length_nil, List.replicate_succ, List.replicate_zero, List.cons_append, List.nil_append, Nat.reduceAdd, Nat.reduceSub, exists_eq, exists_eq', List.getElem?_cons_zero, List.getElem?_cons_succ, List.set_cons_zero, List.set_cons_succ, Option.some.injEq, V.int.injEq, V.bl.injEq, V.str.injEq, V.ref.injEq, List.cons.injEq, and_true, true_and, and_false, false_and, reduceCtorEq, exists_false, or_false, false_or, exists_and_left, exists_and_right, exists_eq_left, exists_eq_left', exists_eq_right, exists_eq_right', exists_const, ite_true, ite_false, Bool.false_eq_true, if_true, if_false, decide_true, decide_false]
    refine spDraw_of (by decide) hs fun r H1 h0 h3 x1 t1 => ?_
    obtain ⟨n, rfl⟩ := Int.eq_ofNat_of_zero_le h0
    have hn : n < 3 := by omega
    have hp1 := x1 _ _ (hs.neT hp) hp
    have wd : ∀ H2, Sx a H H2 → Strm H2 a → spWord [.ref a, .int (1 + (n : Int)), .int z] H2 Q E0 := fun H2 x2 t2 =>
      spWord_of (n := 1 + n) rfl (by omega) t2 fun ys H3 t l x3 t3 h => q ys H3 t (by omega) (by omega) (x2.trans x3) t3 h
    simp only [tSeq, tAsg, gName, tOp, rI, rI0, rU, tUn, tVar, tC, tCB, tCons, tNil, tTest, tIfS, tRet, tRetN, tDrop, tNext, tBreak, tCont, rEq, rNe, CDiv, CDivN, CMul, tBM, tBM0, tTup, tLst, tAug, tIf, tAnd, tOr, tNot, tAndV, tOrV, tNotV, tIsN, tNotN, tB, scal, tCall, cxK, cxKn, rIxT, rIxL, rIn, rAppend, rReverse, tVals, tDSetd, tDGet, tDGet1, tDGet2, tDIn, tDNotIn, rSortV, rSortT, rPop, rSortL, rSortT, tSl, tNoPart, tPart, List.append_nil, L2.start, List.map_cons, List.map_nil, List.length_cons, List.length_nil, List.replicate_succ, List.replicate_zero, List.cons_append, List.nil_append, Nat.reduceAdd, Nat.reduceSub, exists_eq, exists_eq', List.getElem?_cons_zero, List.getElem?_cons_succ, List.set_cons_zero, List.set_cons_succ, Option.some.injEq, V.int.injEq, V.bl.injEq, V.str.injEq, V.ref.injEq, List.cons.injEq, and_true, true_and, and_false, false_and, reduceCtorEq, exists_false, or_false, false_or, exists_and_left, exists_and_right, exists_eq_left, exists_eq_left', exists_eq_right, exists_eq_right', exists_const, ite_true, ite_false, Bool.false_eq_true, if_true, if_false, decide_true, decide_false]
    refine ite2 (fun _ => wd _ x1 t1) (fun _ => spDraw_of (by decide) t1 fun r2 H2 _ _ x2 t2 => ?_)
    have hp2 := x2 _ _ (t1.neT hp1) hp1
    have x12 := x1.trans x2
    simp only [tSeq, tAsg, gName, tOp, rI, rI0, rU, tUn, tVar, tC, tCB, tCons, tNil, tTest, tIfS, tRet, tRetN, tDrop, tNext, tBreak, tCont, rEq, rNe, CDiv, CDivN, CMul, tBM, tBM0, tTup, tLst, tAug, tIf, tAnd, tOr, tNot, tAndV, tOrV, tNotV, tIsN, tNotN, tB, scal, tCall, cxK, cxKn, rIxT, rIxL, rIn, rAppend, rReverse, tVals, tDSetd, tDGet, tDGet1, tDGet2, tDIn, tDNotIn, rSortV, rSortT, rPop, rSortL, rSortT, tSl, tNoPart, tPart, List.append_nil, L2.start, List.map_cons, List.map_nil, List.length_cons, List.length_nil, List.replicate_succ, List.replicate_zero, List.cons_append, List.nil_append, Nat.reduceAdd, Nat.reduceSub, exists_eq, exists_eq', List.getElem?_cons_zero, List.getElem?_cons_succ, List.set_cons_zero, List.set_cons_succ, Option.some.injEq, V.int.injEq, V.bl.injEq, V.str.injEq, V.ref.injEq, List.cons.injEq, and_true, true_and, and_false, false_and, reduceCtorEq, exists_false, or_false, false_or, exists_and_left, exists_and_right, exists_eq_left, exists_eq_left', exists_eq_right, exists_eq_right', exists_const, ite_true, ite_false, Bool.false_eq_true, if_true, if_false, decide_true, decide_false]
    refine ite2 (fun _ => wd _ x12 t2) (fun _ => ?_)
    refine ite2 (fun e => ?_) (fun e => ite2 (fun e3 => ?_) (fun e3 => ite2 (fun e4 => ?_) (fun e4 => ?_)))
    · have hk := k2 (of_decide_eq_true e)
      refine ⟨_, .inr (tt hp2), ⟨by rw [List.length_map]; omega, by rw [List.length_map]; omega⟩, _, _, ⟨rfl, rfl⟩, ?_⟩
      rw [List.length_map]
      obtain ⟨m, em, m1, m4⟩ : ∃ m : Nat, (if Int.fdiv 4 (xs.length : Int) < 1 + (n : Int) then Int.fdiv 4 (xs.length : Int) else 1 + (n : Int)) = (m : Int) ∧ 1 ≤ m ∧ m * xs.length ≤ 4 := by
        obtain h | h : xs.length = 1 ∨ xs.length = 2 := by omega
        · rw [h, show Int.fdiv 4 ((1 : Nat) : Int) = 4 from by decide, if_neg (by omega)]
          exact ⟨1 + n, rfl, by omega, by omega⟩
        · rw [h, show Int.fdiv 4 ((2 : Nat) : Int) = 2 from by decide]
          obtain rfl | rfl | rfl : n = 0 ∨ n = 1 ∨ n = 2 := by omega
          · exact ⟨1, by decide, by omega, by omega⟩
          · exact ⟨2, by decide, by omega, by omega⟩
          · exact ⟨2, by decide, by omega, by omega⟩
      have m5 : m ≤ 4 := Nat.le_trans (Nat.le_mul_of_pos_right m l1) m4
      refine ⟨p, _, _, rfl, congrArg V.int em, tt hp2, fun z => ?_, by omega, by omega, by rw [List.length_map]; omega, fun e1 => ?_, fun e2 t ht => ?_⟩
      · rw [List.map_eq_nil_iff] at z
        rw [z] at l1
        exact absurd l1 (by decide)
      · exact q xs H2 p l1 (by omega) x12 t2 hp2
      · have ef : (List.replicate (m : Int).toNat (xs.map V.int)).flatten = ((List.replicate m xs).flatten).map V.int := by
          rw [List.map_flatten, List.map_replicate, Int.toNat_natCast]
        have el : ((List.replicate m xs).flatten).length = m * xs.length := by
          rw [List.length_flatten, List.map_replicate, List.sum_replicate_nat]
        rw [ef]
        exact q _ _ t (by rw [el]; exact Nat.mul_pos m1 l1) (by rw [el]; exact m4) (x12.trans (Sx.of (same_upd ht))) (t2.same (same_upd ht)) upd_same
    · have hk := k3 (fun z => e (decide_eq_true z))
      have en : (1 + (n : Int)) = ((1 + n : Nat) : Int) := rfl
      rw [en]
      refine sl_any (tt hp2) fun t H3 s3 _ h3 => ?_
      have h4 := h3 hp2
      rw [cutV_take, ← List.map_take] at h4
      exact q _ _ t (by rw [List.length_take]; omega) (by rw [List.length_take]; omega) (x12.trans (Sx.of s3)) (t2.same s3) h4
    · have hk := k3 (fun z => e (decide_eq_true z))
      have en : (3 - (1 + (n : Int))) = ((2 - n : Nat) : Int) := by omega
      rw [en]
      refine sl_any (tt hp2) fun t H3 s3 _ h3 => ?_
      have h4 := h3 hp2
      rw [cutV_drop, ← List.map_drop] at h4
      exact q _ _ t (by rw [List.length_drop]; omega) (by rw [List.length_drop]; omega) (x12.trans (Sx.of s3)) (t2.same s3) h4
    · have hk := k3 (fun z => e (decide_eq_true z))
      refine sl_any (tt hp2) fun t H3 s3 _ h3 => ?_
      have h4 := h3 hp2
      rw [show (1 : Int) = ((1 : Nat) : Int) from rfl, cutV_take, ← List.map_take] at h4
      refine spWord_of (n := n) (by omega) (by omega) (t2.same s3) fun ys H4 t4 ly x4 t5 hy => ?_
      have hp4 := x4 _ _ ((t2.same s3).neT (s3 _ _ hp2)) (s3 _ _ hp2)
      have h44 := x4 _ _ ((t2.same s3).neT h4) h4
      refine cat_tups h44 hy (by rw [List.length_map, List.length_map, List.length_take]; omega) fun c H5 s5 hc => ?_
      refine sl_any (tt (s5 _ _ hp4)) fun u H6 s6 _ h6 => ?_
      have h7 := h6 (s5 _ _ hp4)
      rw [cutV_last, ← List.map_drop] at h7
      refine cat_tups (s6 _ _ hc) h7 (by simp only [List.length_append, List.length_map, List.length_take, List.length_drop]; omega) fun v H7 s7 hv => ?_
      rw [← List.map_append, ← List.map_append] at hv
      refine q _ H7 v ?_ ?_ ((x12.trans (Sx.of s3)).trans (x4.trans (Sx.of ((s5.trans s6).trans s7)))) (t5.same ((s5.trans s6).trans s7)) hv
      · simp only [List.length_append, List.length_map, List.length_take, List.length_drop]; omega
      · simp only [List.length_append, List.length_map, List.length_take, List.length_drop]; omega
end
end Mv

set_option Elab.async false
set_option linter.all false
set_option maxRecDepth 100000
set_option maxHeartbeats 4000000
namespace Mv
open PySem PySem.Spec PyProof.Rows L2
section
variable {P : Program} {w : World} {K : PySem.W.Frag} {mg : Str → Option Value} {base : Heap}
theorem scAround : FnScope ["_law_stream_here", "_law_style"] ["_law_stream_here", "_law_style"] (defScope sAround) := ⟨rfl, rfl, rfl, by decide +kernel, rfl, by decide +kernel, by decide +kernel⟩
def spAround : Sp := fun vs H Q _ => ∃ (a : Addr) (z : Int), vs = [.ref a, .int z] ∧ Strm H a ∧ ∀ (xs : List Int) (H' : Hp) (t : Addr), xs.length ≤ 2 → Sx a H H' → Strm H' a → H' t = some (.tup (xs.map V.int)) → Q (.ref t) H'
theorem ok_around {f : Addr} {fd : FuncData} (F : Fun K "_law_around" "_law_around" sAround f fd) (B : Bi mg) (cDraw : CalX CX0 P w K mg base 1 "_law_draw" spDraw) (cWord : CalX CX0 P w K mg base 4 "_law_word" spWord) : FnOk P w K mg base CX0 5 f fd ["_law_stream_here", "_law_style"] spAround := by
  refine F.ok scAround (fun vs H Q E h => ?_) (fun cdv A outer s H vs Q E hr h => ?_)
  · obtain ⟨a, z, rfl, _⟩ := h
    rfl
  · obtain ⟨a, z, rfl, hs, q⟩ := h
    refine ⟨_, (pss_one (ps_ret (pe_cx cWord hr (by decide) pass0 (by rfl) (pa_cons (pv 0) (pa_cons (pe_ix ix_list (pe_lst (pa_cons pe_int (pa_cons pe_int (pa_cons pe_int (pa_cons pe_int pa_nil))))) (pe_cx cDraw hr (by decide) pass0 (by rfl) (pa_cons (pv 0) (pa_cons pe_int pa_nil))) (fun _ _ => rfl)) (pa_cons (pv 1) pa_nil)))))), ?_⟩
    try simp only [tSeq, tAsg, gName, tOp, rI, rI0, rU, tUn, tVar, tC, tCB, tCons, tNil, tTest, tIfS, tRet, tRetN, tDrop, tNext, tBreak, tCont, rEq, rNe, CDiv, CDivN, CMul, tBM, tBM0, tTup, tLst, tAug, tIf, tAnd, tOr, tNot, tAndV, tOrV, tNotV, tIsN, tNotN, tB, scal, tCall, cxK, cxKn, rIxT, rIxL, rIn, rAppend, rReverse, tVals, tDSetd, tDGet, tDGet1, tDGet2, tDIn, tDNotIn, rSortV, rSortT, rPop, rSortL, rSortT, tSl, tNoPart, tPart, List.append_nil, L2.start, List.map_cons, List.map_nil, List.length_cons, List.length_nil, List.replicate_succ, List.replicate_zero, List.cons_append, List.nil_append, Nat.reduceAdd, Nat.reduceSub, exists_eq, exists_eq', List.getElem?_cons_zero, List.getElem?_cons_succ, List.set_cons_zero, List.set_cons_succ, Option.some.injEq, V.int.injEq, V.bl.injEq, V.str.injEq, V.ref.injEq, List.cons.injEq, and_true, true_and, and_false, false_and, reduceCtorEq, exists_false, or_false, false_or, exists_and_left, exists_and_right, exists_eq_left, exists_eq_left', exists_eq_right, exists_eq_right', exists_const, ite_true, ite_false, Bool.false_eq_true, if_true, if_false, decide_true, decide_false]
    refine ⟨by decide, fun l hl => ?_⟩
    have s1 := same_upd (o := .lst [.int 0, .int 0, .int 1, .int 2]) hl
    refine spDraw_of (by decide) (hs.same s1) fun r H2 h0 h4 x2 t2 => ?_
    have hl2 := x2 _ _ (hs.ne hl).symm upd_same
    obtain ⟨n, rfl⟩ := Int.eq_ofNat_of_zero_le h0
    have hn : n < 4 := by omega
    obtain ⟨m, hm, e⟩ : ∃ m : Nat, m ≤ 2 ∧ ([.int 0, .int 0, .int 1, .int 2] : List V)[n]? = some (.int (m : Int)) := by
      obtain rfl | rfl | rfl | rfl : n = 0 ∨ n = 1 ∨ n = 2 ∨ n = 3 := by omega
      · exact ⟨0, by decide, rfl⟩
      · exact ⟨0, by decide, rfl⟩
      · exact ⟨1, by decide, rfl⟩
      · exact ⟨2, by decide, rfl⟩
    try simp only [tSeq, tAsg, gName, tOp, rI, rI0, rU, tUn, tVar, tC, tCB, tCons, tNil, tTest, tIfS, tRet, tRetN, tDrop, tNext, tBreak, tCont, rEq, rNe, CDiv, CDivN, CMul, tBM, tBM0, tTup, tLst, tAug, tIf, tAnd, tOr, tNot, tAndV, tOrV, tNotV, tIsN, tNotN, tB, scal, tCall, cxK, cxKn, rIxT, rIxL, rIn, rAppend, rReverse, tVals, tDSetd, tDGet, tDGet1, tDGet2, tDIn, tDNotIn, rSortV, rSortT, rPop, rSortL, rSortT, tSl, tNoPart, tPart, List.append_nil, L2.start, List.map_cons, List.map_nil, List.length_cons, List.length_nil, List.replicate_succ, List.replicate_zero, List.cons_append, List.nil_append, Nat.reduceAdd, Nat.reduceSub, exists_eq, exists_eq', List.getElem?_cons_zero, List.getElem?_cons_succ, List.set_cons_zero, List.set_cons_succ, Option.some.injEq, V.int.injEq, V.bl.injEq, V.str.injEq, V.ref.injEq, List.cons.injEq, and_true, true_and, and_false, false_and, reduceCtorEq, exists_false, or_false, false_or, exists_and_left, exists_and_right, exists_eq_left, exists_eq_left', exists_eq_right, exists_eq_right', exists_const, ite_true, ite_false, Bool.false_eq_true, if_true, if_false, decide_true, decide_false]
    refine ⟨_, ll hl2, _, atI_nat e, ?_⟩
    exact spWord_of rfl (by omega) t2 fun xs H3 t lx x3 t3 h => q xs H3 t (by omega) ((Sx.of s1).trans (x2.trans x3)) t3 h
theorem scDrawn : FnScope ["_law_stream_here", "_law_many", "_law_style", "_law_shape", "_law_stem", "_law_parcels", "_law_k"] ["_law_stream_here", "_law_many", "_law_style"] (defScope sDrawn) := ⟨rfl, rfl, rfl, by decide +kernel, rfl, by decide +kernel, by decide +kernel⟩
def spDrawn : Sp := fun vs H Q _ => ∃ (a : Addr) (n : Nat) (z : Int), vs = [.ref a, .int (n : Int), .int z] ∧ n ≤ 100 ∧ Strm H a ∧ ∀ (L : List (Addr × List Int)) (H' : Hp) (l : Addr), L.length = n → (∀ q ∈ L, 1 ≤ q.2.length ∧ q.2.length ≤ 4) → Sx a H H' → Strm H' a → l ≠ a → Pcs H' l L → Q (.ref l) H'
theorem ok_drawn {f : Addr} {fd : FuncData} (F : Fun K "_law_drawn" "_law_drawn" sDrawn f fd) (B : Bi mg) (cDraw : CalX CX0 P w K mg base 1 "_law_draw" spDraw) (cWord : CalX CX0 P w K mg base 4 "_law_word" spWord) (cParcel : CalX CX0 P w K mg base 5 "_law_parcel" spParcel) : FnOk P w K mg base CX0 6 f fd ["_law_stream_here", "_law_many", "_law_style"] spDrawn := by
  refine F.ok scDrawn (fun vs H Q E h => ?_) (fun cdv A outer s H vs Q E hr h => ?_)
  · obtain ⟨a, n, z, rfl, _⟩ := h
    rfl
  · obtain ⟨a, n, z, rfl, hn, hs, q⟩ := h
    refine ⟨_, (pss_cons (ps_set (i := 3) scDrawn.nd rfl (.inl rfl) (pe_cx cDraw hr (by decide) pass0 (by rfl) (pa_cons (pv 0) (pa_cons pe_int pa_nil))))
 (pss_cons (ps_set (i := 4) scDrawn.nd rfl (.inl rfl) (pe_cx cWord hr (by decide) pass0 (by rfl) (pa_cons (pv 0) (pa_cons pe_int (pa_cons (pv 2) pa_nil)))))
 (pss_cons (ps_if (pt_cmpR op_eq (pv 3) pe_int (nomark _))
 (pss_one (ps_set (i := 4) scDrawn.nd rfl (.inl rfl) (pe_slice sl_tupA (pv 4) po_none (po_some (pe_op op_add pe_int (pe_cx cDraw hr (by decide) pass0 (by rfl) (pa_cons (pv 0) (pa_cons pe_int pa_nil)))))))) pss_nil)
 (pss_cons (ps_set (i := 5) scDrawn.nd rfl (.inl rfl) (pe_lst pa_nil))
 (pss_cons (ps_for PassesOwn.never rfl (pi_range1 (by rfl) B.range (pa_cons (pv 1) pa_nil)) (pg_name (i := 6) scDrawn.nd rfl (.inl rfl))
 (pss_one (ps_expr (pe_bm PySem.F.plainAttrs_list PySem.F.slot_list_append PySem.F.type_list_append mt_append (pv 5) (pa_cons (pe_cx cParcel hr (by decide) pass0 (by rfl) (pa_cons (pv 0) (pa_cons (pv 2) (pa_cons (pv 3) (pa_cons (pv 4) pa_nil))))) pa_nil)))))
 (pss_one (ps_ret (pv 5)))))))), ?_⟩
    try simp only [tSeq, tAsg, gName, tOp, rI, rI0, rU, tUn, tVar, tC, tCB, tCons, tNil, tTest, tIfS, tRet, tRetN, tDrop, tNext, tBreak, tCont, rEq, rNe, CDiv, CDivN, CMul, tBM, tBM0, tTup, tLst, tAug, tIf, tAnd, tOr, tNot, tAndV, tOrV, tNotV, tIsN, tNotN, tB, scal, tCall, cxK, cxKn, rIxT, rIxL, rIn, rAppend, rReverse, tVals, tDSetd, tDGet, tDGet1, tDGet2, tDIn, tDNotIn, rSortV, rSortT, rPop, rSortL, rSortT, tSl, tNoPart, tPart, List.append_nil, L2.start, List.map_cons, List.map_nil, List.length_cons, List.length_nil, List.replicate_succ, List.replicate_zero, List.cons_append, List.nil_append, Nat.reduceAdd, Nat.reduceSub, exists_eq, exists_eq', List.getElem?_cons_zero, List.getElem?_cons_succ, List.set_cons_zero, List.set_cons_succ, Option.some.injEq, V.int.injEq, V.bl.injEq, V.str.injEq, V.ref.injEq, List.cons.injEq, and_true, true_and, and_false, false_and, reduceCtorEq, exists_false, or_false, false_or, exists_and_left, exists_and_right, exists_eq_left, exists_eq_left', exists_eq_right, exists_eq_right', exists_const, ite_true, ite_false, Bool.false_eq_true, if_true, if_false, decide_true, decide_false]
    refine spDraw_of (by decide) hs fun sh H1 h0 h6 x1 t1 => ?_
    try simp only [tSeq, tAsg, gName, tOp, rI, rI0, rU, tUn, tVar, tC, tCB, tCons, tNil, tTest, tIfS, tRet, tRetN, tDrop, tNext, tBreak, tCont, rEq, rNe, CDiv, CDivN, CMul, tBM, tBM0, tTup, tLst, tAug, tIf, tAnd, tOr, tNot, tAndV, tOrV, tNotV, tIsN, tNotN, tB, scal, tCall, cxK, cxKn, rIxT, rIxL, rIn, rAppend, rReverse, tVals, tDSetd, tDGet, tDGet1, tDGet2, tDIn, tDNotIn, rSortV, rSortT, rPop, rSortL, rSortT, tSl, tNoPart, tPart, List.append_nil, L2.start, List.map_cons, List.map_nil, List.length_cons, List.length_nil, List.replicate_succ, List.replicate_zero, List.cons_append, List.nil_append, Nat.reduceAdd, Nat.reduceSub, exists_eq, exists_eq', List.getElem?_cons_zero, List.getElem?_cons_succ, List.set_cons_zero, List.set_cons_succ, Option.some.injEq, V.int.injEq, V.bl.injEq, V.str.injEq, V.ref.injEq, List.cons.injEq, and_true, true_and, and_false, false_and, reduceCtorEq, exists_false, or_false, false_or, exists_and_left, exists_and_right, exists_eq_left, exists_eq_left', exists_eq_right, exists_eq_right', exists_const, ite_true, ite_false, Bool.false_eq_true, if_true, if_false, decide_true, decide_false]
    refine spWord_of (n := 3) rfl (by decide) t1 fun xs H2 p lx x2 t2 hp => ?_
    try simp only [tSeq, tAsg, gName, tOp, rI, rI0, rU, tUn, tVar, tC, tCB, tCons, tNil, tTest, tIfS, tRet, tRetN, tDrop, tNext, tBreak, tCont, rEq, rNe, CDiv, CDivN, CMul, tBM, tBM0, tTup, tLst, tAug, tIf, tAnd, tOr, tNot, tAndV, tOrV, tNotV, tIsN, tNotN, tB, scal, tCall, cxK, cxKn, rIxT, rIxL, rIn, rAppend, rReverse, tVals, tDSetd, tDGet, tDGet1, tDGet2, tDIn, tDNotIn, rSortV, rSortT, rPop, rSortL, rSortT, tSl, tNoPart, tPart, List.append_nil, L2.start, List.map_cons, List.map_nil, List.length_cons, List.length_nil, List.replicate_succ, List.replicate_zero, List.cons_append, List.nil_append, Nat.reduceAdd, Nat.reduceSub, exists_eq, exists_eq', List.getElem?_cons_zero, List.getElem?_cons_succ, List.set_cons_zero, List.set_cons_succ, Option.some.injEq, V.int.injEq, V.bl.injEq, V.str.injEq, V.ref.injEq, List.cons.injEq, and_true, true_and, and_false, false_and, reduceCtorEq, exists_false, or_false, false_or, exists_and_left, exists_and_right, exists_eq_left, exists_eq_left', exists_eq_right, exists_eq_right', exists_const, ite_true, ite_false, Bool.false_eq_true, if_true, if_false, decide_true, decide_false]
    have x12 := x1.trans x2
    clear x1 x2 t1 hs
    refine ite2 ?A ?B
    case' A =>
      intro e
      refine spDraw_of (by decide) t2 fun r H3 r0 r2 x3 t3 => ?_
      obtain ⟨k, rfl⟩ := Int.eq_ofNat_of_zero_le r0
      have hk : k < 2 := by omega
      try simp only [tSeq, tAsg, gName, tOp, rI, rI0, rU, tUn, tVar, tC, tCB, tCons, tNil, tTest, tIfS, tRet, tRetN, tDrop, tNext, tBreak, tCont, rEq, rNe, CDiv, CDivN, CMul, tBM, tBM0, tTup, tLst, tAug, tIf, tAnd, tOr, tNot, tAndV, tOrV, tNotV, tIsN, tNotN, tB, scal, tCall, cxK, cxKn, rIxT, rIxL, rIn, rAppend, rReverse, tVals, tDSetd, tDGet, tDGet1, tDGet2, tDIn, tDNotIn, rSortV, rSortT, rPop, rSortL, rSortT, tSl, tNoPart, tPart, List.append_nil, L2.start, List.map_cons, List.map_nil, List.length_cons, List.length_nil, List.replicate_succ, List.replicate_zero, List.cons_append, List.nil_append, Nat.reduceAdd, Nat.reduceSub, exists_eq, exists_eq', List.getElem?_cons_zero, List.getElem?_cons_succ, List.set_cons_zero, List.set_cons_succ, Option.some.injEq, V.int.injEq, V.bl.injEq, V.str.injEq, V.ref.injEq, List.cons.injEq, and_true, true_and, and_false, false_and, reduceCtorEq, exists_false, or_false, false_or, exists_and_left, exists_and_right, exists_eq_left, exists_eq_left', exists_eq_right, exists_eq_right', exists_const, ite_true, ite_false, Bool.false_eq_true, if_true, if_false, decide_true, decide_false]
      rw [show (1 + (k : Int)) = ((1 + k : Nat) : Int) from rfl]
      refine sl_any (tt (x3 _ _ (t2.neT hp) hp)) fun t H4 s4 _ h4 => ?_
      have h5 := h4 (x3 _ _ (t2.neT hp) hp)
      rw [cutV_take, ← List.map_take] at h5
      have l1 : 1 ≤ (xs.take (1 + k)).length := by rw [List.length_take]; omega
      have l3 : (xs.take (1 + k)).length ≤ 3 := by rw [List.length_take]; omega
      have k2 : sh = 2 → (xs.take (1 + k)).length ≤ 2 := fun _ => by rw [List.length_take]; omega
      have k3 : sh ≠ 2 → (xs.take (1 + k)).length = 3 := fun z => absurd (of_decide_eq_true e) z
      have x4 := x12.trans (x3.trans (Sx.of s4))
      have t4 := t3.same s4
      clear x12 x3 t3 s4 h4 hp t2
      generalize xs.take (1 + k) = xs at *
    case' B =>
      intro e
      have l1 : 1 ≤ xs.length := by omega
      have l3 : xs.length ≤ 3 := by omega
      have k2 : sh = 2 → xs.length ≤ 2 := fun z => absurd (decide_eq_true z) e
      have k3 : sh ≠ 2 → xs.length = 3 := fun _ => lx
      have x4 := x12
      have t4 := t2
      have h5 := hp
      clear x12 t2 hp
      generalize p = t at *
      generalize H2 = H4 at *
    all_goals
      try simp only [tSeq, tAsg, gName, tOp, rI, rI0, rU, tUn, tVar, tC, tCB, tCons, tNil, tTest, tIfS, tRet, tRetN, tDrop, tNext, tBreak, tCont, rEq, rNe, CDiv, CDivN, CMul, tBM, tBM0, tTup, tLst, tAug, tIf, tAnd, tOr, tNot, tAndV, tOrV, tNotV, tIsN, tNotN, tB, scal, tCall, cxK, cxKn, rIxT, rIxL, rIn, rAppend, rReverse, tVals, tDSetd, tDGet, tDGet1, tDGet2, tDIn, tDNotIn, rSortV, rSortT, rPop, rSortL, rSortT, tSl, tNoPart, tPart, List.append_nil, L2.start, List.map_cons, List.map_nil, List.length_cons, List.length_nil, List.replicate_succ, List.replicate_zero, List.cons_append, List.nil_append, Nat.reduceAdd, Nat.reduceSub, exists_eq, exists_eq', List.getElem?_cons_zero, List.getElem?_cons_succ, List.set_cons_zero, List.set_cons_succ, Option.some.injEq, V.int.injEq, V.bl.injEq, V.str.injEq, V.ref.injEq, List.cons.injEq, and_true, true_and, and_false, false_and, reduceCtorEq, exists_false, or_false, false_or, exists_and_left, exists_and_right, exists_eq_left, exists_eq_left', exists_eq_right, exists_eq_right', exists_const, ite_true, ite_false, Bool.false_eq_true, if_true, if_false, decide_true, decide_false]
      refine ⟨Nat.zero_le _, fun o ho => ?_⟩
      refine ⟨_, rfl, n, rfl, by omega, by omega, ?_⟩
      have nao : a ≠ o := t4.ne ho
      refine for_range (n := n) (fun i σ H' => ∃ (L : List (Addr × List Int)) (y : Option V), σ = [some (.ref a), some (.int n), some (.int z), some (.int sh), some (.ref t), some (.ref o), y] ∧ L.length = i ∧ (∀ q ∈ L, 1 ≤ q.2.length ∧ q.2.length ≤ 4) ∧ Sx a H4 H' ∧ Strm H' a ∧ Pcs H' o L)
        ⟨[], none, rfl, rfl, (fun _ z => by cases z), Sx.of (same_upd ho), t4.same (same_upd ho), ⟨upd_same, (fun _ z => by cases z)⟩⟩ ?_ ?_
      · rintro i σ H5 hi ⟨L, y, rfl, ll, lL, x5, t5, pL⟩
        have h6 := x5 _ _ (t4.neT h5) h5
        try simp only [tSeq, tAsg, gName, tOp, rI, rI0, rU, tUn, tVar, tC, tCB, tCons, tNil, tTest, tIfS, tRet, tRetN, tDrop, tNext, tBreak, tCont, rEq, rNe, CDiv, CDivN, CMul, tBM, tBM0, tTup, tLst, tAug, tIf, tAnd, tOr, tNot, tAndV, tOrV, tNotV, tIsN, tNotN, tB, scal, tCall, cxK, cxKn, rIxT, rIxL, rIn, rAppend, rReverse, tVals, tDSetd, tDGet, tDGet1, tDGet2, tDIn, tDNotIn, rSortV, rSortT, rPop, rSortL, rSortT, tSl, tNoPart, tPart, List.append_nil, L2.start, List.map_cons, List.map_nil, List.length_cons, List.length_nil, List.replicate_succ, List.replicate_zero, List.cons_append, List.nil_append, Nat.reduceAdd, Nat.reduceSub, exists_eq, exists_eq', List.getElem?_cons_zero, List.getElem?_cons_succ, List.set_cons_zero, List.set_cons_succ, Option.some.injEq, V.int.injEq, V.bl.injEq, V.str.injEq, V.ref.injEq, List.cons.injEq, and_true, true_and, and_false, false_and, reduceCtorEq, exists_false, or_false, false_or, exists_and_left, exists_and_right, exists_eq_left, exists_eq_left', exists_eq_right, exists_eq_right', exists_const, ite_true, ite_false, Bool.false_eq_true, if_true, if_false, decide_true, decide_false]
        refine ⟨.inl ⟨rfl, _, SqL.of pL.at_⟩, a, t, z, sh, xs, rfl, t5, h6, l1, l3, k2, k3, fun ys H6 u y1 y4 x6 t6 hu => ?_⟩
        have pL6 := pL.sx t5 nao.symm x6
        refine ⟨_, pL6.at_, by rw [List.length_map, ll]; exact small4000 (by omega), L ++ [(u, ys)], by rw [List.length_append, ll]; rfl, fun q hq => ?_, fun b ob nb e => ?_, ?_, ⟨?_, fun q hq => ?_⟩⟩
        · rcases List.mem_append.mp hq with hq | hq
          · exact lL q hq
          · rw [List.mem_singleton.mp hq]
            exact ⟨y1, y4⟩
        · rw [upd_ne (ne_of_none e ho)]
          exact x6 _ _ nb (x5 _ _ nb e)
        · obtain ⟨ns, e1, e2⟩ := t6
          exact ⟨ns, by rw [upd_ne nao]; exact e1, e2⟩
        · rw [upd_same, List.map_append]
          rfl
        · have e : H6 q.1 = some (.tup (q.2.map V.int)) := by
            rcases List.mem_append.mp hq with hq | hq
            · exact pL6.all q hq
            · rw [List.mem_singleton.mp hq]
              exact hu
          rw [upd_ne (ne_of e pL6.at_ (by intro z; cases z))]
          exact e
      · rintro σ H5 ⟨L, y, rfl, ll, lL, x5, t5, pL⟩
        try simp only [tSeq, tAsg, gName, tOp, rI, rI0, rU, tUn, tVar, tC, tCB, tCons, tNil, tTest, tIfS, tRet, tRetN, tDrop, tNext, tBreak, tCont, rEq, rNe, CDiv, CDivN, CMul, tBM, tBM0, tTup, tLst, tAug, tIf, tAnd, tOr, tNot, tAndV, tOrV, tNotV, tIsN, tNotN, tB, scal, tCall, cxK, cxKn, rIxT, rIxL, rIn, rAppend, rReverse, tVals, tDSetd, tDGet, tDGet1, tDGet2, tDIn, tDNotIn, rSortV, rSortT, rPop, rSortL, rSortT, tSl, tNoPart, tPart, List.append_nil, L2.start, List.map_cons, List.map_nil, List.length_cons, List.length_nil, List.replicate_succ, List.replicate_zero, List.cons_append, List.nil_append, Nat.reduceAdd, Nat.reduceSub, exists_eq, exists_eq', List.getElem?_cons_zero, List.getElem?_cons_succ, List.set_cons_zero, List.set_cons_succ, Option.some.injEq, V.int.injEq, V.bl.injEq, V.str.injEq, V.ref.injEq, List.cons.injEq, and_true, true_and, and_false, false_and, reduceCtorEq, exists_false, or_false, false_or, exists_and_left, exists_and_right, exists_eq_left, exists_eq_left', exists_eq_right, exists_eq_right', exists_const, ite_true, ite_false, Bool.false_eq_true, if_true, if_false, decide_true, decide_false]
        exact q L H5 o ll lL (x4.trans x5) t5 nao.symm pL
end
end Mv

set_option Elab.async false
set_option linter.all false
set_option maxRecDepth 100000
set_option maxHeartbeats 4000000
namespace Mv
open PySem PySem.Spec PyProof.Rows L2
abbrev sJoined : Stmt := topS 31
abbrev sNew : Stmt := topS 33
abbrev sRear : Stmt := topS 34
theorem flat_take (xss : List (List Int)) (k : Nat) : (xss.take k).flatten.length ≤ xss.flatten.length := by
  conv => rhs; rw [← List.take_append_drop k xss, List.flatten_append, List.length_append]
  omega
theorem wds_at {L : List (Addr × List Int)} {i : Nat} {x : V} (h : (L.map fun q => V.ref q.1)[i]? = some x) : ∃ q, L[i]? = some q ∧ x = .ref q.1 := by
  rw [List.getElem?_map] at h
  cases e : L[i]? with
  | none =>
    rw [e] at h
    cases h
  | some q =>
    rw [e] at h
    exact ⟨q, rfl, (Option.some.inj h).symm⟩
section
variable {P : Program} {w : World} {K : PySem.W.Frag} {mg : Str → Option Value} {base : Heap}
theorem scJoined : FnScope ["_law_parcels", "_law_word_here", "_law_parcel_here"] ["_law_parcels"] (defScope sJoined) := ⟨rfl, rfl, rfl, by decide +kernel, rfl, by decide +kernel, by decide +kernel⟩
def spJoined : Sp := fun vs H Q _ => ∃ (l : Addr) (L : List (Addr × List Int)), vs = [.ref l] ∧ Pcs H l L ∧ (wds L).flatten.length ≤ 500 ∧ ∀ (H' : Hp) (t : Addr), Same H H' → H' t = some (.tup ((wds L).flatten.map V.int)) → Q (.ref t) H'
theorem ok_joined {f : Addr} {fd : FuncData} (F : Fun K "_law_joined" "_law_joined" sJoined f fd) (B : Bi mg) : FnOk P w K mg base CX0 1 f fd ["_law_parcels"] spJoined := by
  refine F.ok scJoined (fun vs H Q E h => ?_) (fun cdv A outer s H vs Q E hr h => ?_)
  · obtain ⟨l, L, rfl, _⟩ := h
    rfl
  · obtain ⟨l, L, rfl, hp, hl, q⟩ := h
    refine ⟨_, (pss_cons (ps_set (i := 1) scJoined.nd rfl (.inl rfl) (pe_tup pa_nil))
 (pss_cons (ps_for PassesOwn.never rfl (pi_list (pv 0)) (pg_name (i := 2) scJoined.nd rfl (.inl rfl))
 (pss_one (ps_set (i := 1) scJoined.nd rfl (.inl rfl) (pe_op op_catA (pv 1) (pv 2)))))
 (pss_one (ps_ret (pv 1))))), ?_⟩
    try simp only [tSeq, tAsg, gName, tOp, rI, rI0, rU, tUn, tVar, tC, tCB, tCons, tNil, tTest, tIfS, tRet, tRetN, tDrop, tNext, tBreak, tCont, rEq, rNe, CDiv, CDivN, CMul, tBM, tBM0, tTup, tLst, tAug, tIf, tAnd, tOr, tNot, tAndV, tOrV, tNotV, tIsN, tNotN, tB, scal, tCall, cxK, cxKn, rIxT, rIxL, rIn, rAppend, rReverse, tVals, tDSetd, tDGet, tDGet1, tDGet2, tDIn, tDNotIn, rSortV, rSortT, rPop, rSortL, rSortT, tSl, tNoPart, tPart, List.append_nil, L2.start, List.map_cons, List.map_nil, List.length_cons, List.length_nil, List.replicate_succ, List.replicate_zero, List.cons_append, List.nil_append, Nat.reduceAdd, Nat.reduceSub, exists_eq, exists_eq', List.getElem?_cons_zero, List.getElem?_cons_succ, List.set_cons_zero, List.set_cons_succ, Option.some.injEq, V.int.injEq, V.bl.injEq, V.str.injEq, V.ref.injEq, List.cons.injEq, and_true, true_and, and_false, false_and, reduceCtorEq, exists_false, or_false, false_or, exists_and_left, exists_and_right, exists_eq_left, exists_eq_left', exists_eq_right, exists_eq_right', exists_const, ite_true, ite_false, Bool.false_eq_true, if_true, if_false, decide_true, decide_false]
    refine ⟨Nat.zero_le _, fun t ht => ?_⟩
    have hp1 := hp.same (same_upd ht (o := .tup []))
    refine ⟨_, rfl, l, rfl, ⟨_, ll hp1.at_⟩, for_list (K := K) (xs := L.map fun q => V.ref q.1) (fun i σ H' => ∃ (u : Addr) (y : Option V), σ = [some (.ref l), some (.ref u), y] ∧ Same H H' ∧ H' u = some (.tup (((wds L).take i).flatten.map V.int)))
      ⟨t, none, rfl, same_upd ht, upd_same⟩ (fun i σ H' _ ⟨_, _, _, s, _⟩ => ll (hp.same s).at_) ?_ ?_⟩
    · rintro i x σ H' hx ⟨u, y, rfl, s1, hu⟩
      obtain ⟨q0, hq, rfl⟩ := wds_at hx
      have e1 : ((wds L).take (i + 1)).flatten = ((wds L).take i).flatten ++ q0.2 := by
        have : (wds L)[i]? = some q0.2 := by
          unfold wds
          rw [List.getElem?_map, hq]
          rfl
        rw [List.take_add_one, this, List.flatten_append]
        simp
      have l2 := flat_take (wds L) (i + 1)
      rw [e1, List.length_append] at l2
      try simp only [tSeq, tAsg, gName, tOp, rI, rI0, rU, tUn, tVar, tC, tCB, tCons, tNil, tTest, tIfS, tRet, tRetN, tDrop, tNext, tBreak, tCont, rEq, rNe, CDiv, CDivN, CMul, tBM, tBM0, tTup, tLst, tAug, tIf, tAnd, tOr, tNot, tAndV, tOrV, tNotV, tIsN, tNotN, tB, scal, tCall, cxK, cxKn, rIxT, rIxL, rIn, rAppend, rReverse, tVals, tDSetd, tDGet, tDGet1, tDGet2, tDIn, tDNotIn, rSortV, rSortT, rPop, rSortL, rSortT, tSl, tNoPart, tPart, List.append_nil, L2.start, List.map_cons, List.map_nil, List.length_cons, List.length_nil, List.replicate_succ, List.replicate_zero, List.cons_append, List.nil_append, Nat.reduceAdd, Nat.reduceSub, exists_eq, exists_eq', List.getElem?_cons_zero, List.getElem?_cons_succ, List.set_cons_zero, List.set_cons_succ, Option.some.injEq, V.int.injEq, V.bl.injEq, V.str.injEq, V.ref.injEq, List.cons.injEq, and_true, true_and, and_false, false_and, reduceCtorEq, exists_false, or_false, false_or, exists_and_left, exists_and_right, exists_eq_left, exists_eq_left', exists_eq_right, exists_eq_right', exists_const, ite_true, ite_false, Bool.false_eq_true, if_true, if_false, decide_true, decide_false]
      refine cat_tups hu ((hp.same s1).all q0 (List.mem_of_getElem? hq)) (by rw [List.length_map, List.length_map]; omega) fun z H2 s2 hz => ?_
      refine ⟨z, rfl, s1.trans s2, ?_⟩
      rw [e1, List.map_append]
      exact hz
    · rintro σ H' ⟨u, y, rfl, s1, hu⟩
      try simp only [tSeq, tAsg, gName, tOp, rI, rI0, rU, tUn, tVar, tC, tCB, tCons, tNil, tTest, tIfS, tRet, tRetN, tDrop, tNext, tBreak, tCont, rEq, rNe, CDiv, CDivN, CMul, tBM, tBM0, tTup, tLst, tAug, tIf, tAnd, tOr, tNot, tAndV, tOrV, tNotV, tIsN, tNotN, tB, scal, tCall, cxK, cxKn, rIxT, rIxL, rIn, rAppend, rReverse, tVals, tDSetd, tDGet, tDGet1, tDGet2, tDIn, tDNotIn, rSortV, rSortT, rPop, rSortL, rSortT, tSl, tNoPart, tPart, List.append_nil, L2.start, List.map_cons, List.map_nil, List.length_cons, List.length_nil, List.replicate_succ, List.replicate_zero, List.cons_append, List.nil_append, Nat.reduceAdd, Nat.reduceSub, exists_eq, exists_eq', List.getElem?_cons_zero, List.getElem?_cons_succ, List.set_cons_zero, List.set_cons_succ, Option.some.injEq, V.int.injEq, V.bl.injEq, V.str.injEq, V.ref.injEq, List.cons.injEq, and_true, true_and, and_false, false_and, reduceCtorEq, exists_false, or_false, false_or, exists_and_left, exists_and_right, exists_eq_left, exists_eq_left', exists_eq_right, exists_eq_right', exists_const, ite_true, ite_false, Bool.false_eq_true, if_true, if_false, decide_true, decide_false]
      rw [List.take_of_length_le (by unfold wds; rw [List.length_map, List.length_map]; exact Nat.le_refl _)] at hu
      exact q _ u s1 hu
theorem scNew : FnScope ["_law_word_here", "_law_known", "_law_kept", "_law_value_here"] ["_law_word_here", "_law_known"] (defScope sNew) := ⟨rfl, rfl, rfl, by decide +kernel, rfl, by decide +kernel, by decide +kernel⟩
def spNew : Sp := fun vs H Q _ => ∃ (p r : Addr) (xs ks : List Int), vs = [.ref p, .ref r] ∧ H p = some (.tup (xs.map V.int)) ∧ H r = some (.tup (ks.map V.int)) ∧ xs.length ≤ 500 ∧ ks.length ≤ 500 ∧ ∀ (H' : Hp) (l : Addr), Same H H' → H l = none → H' l = some (.lst ((newI xs ks).map V.int)) → Q (.ref l) H'
theorem ok_new {f : Addr} {fd : FuncData} (F : Fun K "_law_new" "_law_new" sNew f fd) (B : Bi mg) : FnOk P w K mg base CX0 1 f fd ["_law_word_here", "_law_known"] spNew := by
  refine F.ok scNew (fun vs H Q E h => ?_) (fun cdv A outer s H vs Q E hr h => ?_)
  · obtain ⟨p, r, xs, ks, rfl, _⟩ := h
    rfl
  · obtain ⟨p, r, xs, ks, rfl, hp, hk, hl, hl2, q⟩ := h
    refine ⟨_, (pss_cons (ps_set (i := 2) scNew.nd rfl (.inl rfl) (pe_lst pa_nil))
 (pss_cons (ps_for PassesOwn.never rfl (pi_tup (pv 0)) (pg_name (i := 3) scNew.nd rfl (.inl rfl))
 (pss_one (ps_if (PW.pt (pw_and (pt_cmpR op_notIn_seq (pv 3) (pv 1) (by rfl)) (pw_and1 (pt_cmpR op_notIn_seq (pv 3) (pv 2) (by rfl)))))
 (pss_one (ps_expr (pe_bm PySem.F.plainAttrs_list PySem.F.slot_list_append PySem.F.type_list_append mt_append (pv 2) (pa_cons (pv 3) pa_nil)))) pss_nil)))
 (pss_one (ps_ret (pv 2))))), ?_⟩
    try simp only [tSeq, tAsg, gName, tOp, rI, rI0, rU, tUn, tVar, tC, tCB, tCons, tNil, tTest, tIfS, tRet, tRetN, tDrop, tNext, tBreak, tCont, rEq, rNe, CDiv, CDivN, CMul, tBM, tBM0, tTup, tLst, tAug, tIf, tAnd, tOr, tNot, tAndV, tOrV, tNotV, tIsN, tNotN, tB, scal, tCall, cxK, cxKn, rIxT, rIxL, rIn, rAppend, rReverse, tVals, tDSetd, tDGet, tDGet1, tDGet2, tDIn, tDNotIn, rSortV, rSortT, rPop, rSortL, rSortT, tSl, tNoPart, tPart, List.append_nil, L2.start, List.map_cons, List.map_nil, List.length_cons, List.length_nil, List.replicate_succ, List.replicate_zero, List.cons_append, List.nil_append, Nat.reduceAdd, Nat.reduceSub, exists_eq, exists_eq', List.getElem?_cons_zero, List.getElem?_cons_succ, List.set_cons_zero, List.set_cons_succ, Option.some.injEq, V.int.injEq, V.bl.injEq, V.str.injEq, V.ref.injEq, List.cons.injEq, and_true, true_and, and_false, false_and, reduceCtorEq, exists_false, or_false, false_or, exists_and_left, exists_and_right, exists_eq_left, exists_eq_left', exists_eq_right, exists_eq_right', exists_const, ite_true, ite_false, Bool.false_eq_true, if_true, if_false, decide_true, decide_false]
    refine ⟨Nat.zero_le _, fun o ho => ?_⟩
    have so := same_upd (o := .lst []) ho
    refine ⟨_, rfl, p, rfl, ⟨_, tt (so _ _ hp)⟩, for_tup (K := K) (xs := xs.map V.int) (fun i σ H' => ∃ (y : Option V), σ = [some (.ref p), some (.ref r), some (.ref o), y] ∧ Same H H' ∧ H' o = some (.lst ((newI (xs.take i) ks).map V.int)))
      ⟨none, rfl, so, upd_same⟩ (fun i σ H' _ ⟨_, _, s, _⟩ => tt (s _ _ hp)) ?_ ?_⟩
    · rintro i x σ H' hx ⟨y, rfl, s1, hu⟩
      obtain ⟨u, rfl, hui⟩ := int_at hx
      have e1 : xs.take (i + 1) = xs.take i ++ [u] := by
        rw [List.take_add_one, hui]
        rfl
      have ln : (newI (xs.take i) ks).length ≤ 500 := by
        have := newI_len (xs.take i) ks
        rw [List.length_take] at this
        omega
      try simp only [tSeq, tAsg, gName, tOp, rI, rI0, rU, tUn, tVar, tC, tCB, tCons, tNil, tTest, tIfS, tRet, tRetN, tDrop, tNext, tBreak, tCont, rEq, rNe, CDiv, CDivN, CMul, tBM, tBM0, tTup, tLst, tAug, tIf, tAnd, tOr, tNot, tAndV, tOrV, tNotV, tIsN, tNotN, tB, scal, tCall, cxK, cxKn, rIxT, rIxL, rIn, rAppend, rReverse, tVals, tDSetd, tDGet, tDGet1, tDGet2, tDIn, tDNotIn, rSortV, rSortT, rPop, rSortL, rSortT, tSl, tNoPart, tPart, List.append_nil, L2.start, List.map_cons, List.map_nil, List.length_cons, List.length_nil, List.replicate_succ, List.replicate_zero, List.cons_append, List.nil_append, Nat.reduceAdd, Nat.reduceSub, exists_eq, exists_eq', List.getElem?_cons_zero, List.getElem?_cons_succ, List.set_cons_zero, List.set_cons_succ, Option.some.injEq, V.int.injEq, V.bl.injEq, V.str.injEq, V.ref.injEq, List.cons.injEq, and_true, true_and, and_false, false_and, reduceCtorEq, exists_false, or_false, false_or, exists_and_left, exists_and_right, exists_eq_left, exists_eq_left', exists_eq_right, exists_eq_right', exists_const, ite_true, ite_false, Bool.false_eq_true, if_true, if_false, decide_true, decide_false]
      rw [e1, newI_snoc]
      refine ⟨_, .inr (tt (s1 _ _ hk)), rfl, ints_flat _, ?_⟩
      rw [inV_int]
      by_cases h1 : u ∈ ks
      · rw [if_neg (by simp [h1]), if_pos (.inl h1)]
        exact ⟨s1, hu⟩
      · rw [if_pos (by simp [h1])]
        refine ⟨_, .inl (SqL.of hu), rfl, ints_flat _, ?_⟩
        rw [inV_int]
        by_cases h2 : u ∈ newI (xs.take i) ks
        · rw [if_neg (by simp [h2]), if_pos (.inr h2)]
          exact ⟨s1, hu⟩
        · rw [if_pos (by simp [h2]), if_neg (by rintro (z | z); exact h1 z; exact h2 z)]
          refine ⟨.inl ⟨rfl, _, SqL.of hu⟩, _, hu, by rw [List.length_map]; exact small1000 (by omega), fun b z e => ?_, ?_⟩
          · rw [upd_ne (ne_of_none e ho)]
            exact s1 _ _ e
          · rw [upd_same, List.map_append]
            rfl
    · rintro σ H' ⟨y, rfl, s1, hu⟩
      try simp only [tSeq, tAsg, gName, tOp, rI, rI0, rU, tUn, tVar, tC, tCB, tCons, tNil, tTest, tIfS, tRet, tRetN, tDrop, tNext, tBreak, tCont, rEq, rNe, CDiv, CDivN, CMul, tBM, tBM0, tTup, tLst, tAug, tIf, tAnd, tOr, tNot, tAndV, tOrV, tNotV, tIsN, tNotN, tB, scal, tCall, cxK, cxKn, rIxT, rIxL, rIn, rAppend, rReverse, tVals, tDSetd, tDGet, tDGet1, tDGet2, tDIn, tDNotIn, rSortV, rSortT, rPop, rSortL, rSortT, tSl, tNoPart, tPart, List.append_nil, L2.start, List.map_cons, List.map_nil, List.length_cons, List.length_nil, List.replicate_succ, List.replicate_zero, List.cons_append, List.nil_append, Nat.reduceAdd, Nat.reduceSub, exists_eq, exists_eq', List.getElem?_cons_zero, List.getElem?_cons_succ, List.set_cons_zero, List.set_cons_succ, Option.some.injEq, V.int.injEq, V.bl.injEq, V.str.injEq, V.ref.injEq, List.cons.injEq, and_true, true_and, and_false, false_and, reduceCtorEq, exists_false, or_false, false_or, exists_and_left, exists_and_right, exists_eq_left, exists_eq_left', exists_eq_right, exists_eq_right', exists_const, ite_true, ite_false, Bool.false_eq_true, if_true, if_false, decide_true, decide_false]
      rw [List.take_of_length_le (by rw [List.length_map]; exact Nat.le_refl _)] at hu
      exact q _ o s1 ho hu
theorem scRear : FnScope ["_law_word_here", "_law_known", "_law_kept"] ["_law_word_here", "_law_known"] (defScope sRear) := ⟨rfl, rfl, rfl, by decide +kernel, rfl, by decide +kernel, by decide +kernel⟩
def spRear : Sp := fun vs H Q _ => ∃ (p r : Addr) (xs ks : List Int), vs = [.ref p, .ref r] ∧ H p = some (.tup (xs.map V.int)) ∧ H r = some (.tup (ks.map V.int)) ∧ xs.length ≤ 500 ∧ ks.length ≤ 500 ∧ ∀ (H' : Hp) (l : Addr), Same H H' → H' l = some (.lst ((rearI xs ks).map V.int)) → Q (.ref l) H'
theorem ok_rear {f : Addr} {fd : FuncData} (F : Fun K "_law_rear" "_law_rear" sRear f fd) (B : Bi mg) (cNew : CalX CX0 P w K mg base 1 "_law_new" spNew) : FnOk P w K mg base CX0 2 f fd ["_law_word_here", "_law_known"] spRear := by
  refine F.ok scRear (fun vs H Q E h => ?_) (fun cdv A outer s H vs Q E hr h => ?_)
  · obtain ⟨p, r, xs, ks, rfl, _⟩ := h
    rfl
  · obtain ⟨p, r, xs, ks, rfl, hp, hk, hl, hl2, q⟩ := h
    refine ⟨_, (pss_cons (ps_set (i := 2) scRear.nd rfl (.inl rfl) (pe_cx cNew hr (by decide) pass0 (by rfl) (pa_cons (pe_revT (pv 0)) (pa_cons (pv 1) pa_nil))))
 (pss_cons (ps_expr (pe_bm0 PySem.F.plainAttrs_list PySem.F.slot_list_reverse PySem.F.type_list_reverse mt_reverse (pv 2)))
 (pss_one (ps_ret (pv 2))))), ?_⟩
    try simp only [tSeq, tAsg, gName, tOp, rI, rI0, rU, tUn, tVar, tC, tCB, tCons, tNil, tTest, tIfS, tRet, tRetN, tDrop, tNext, tBreak, tCont, rEq, rNe, CDiv, CDivN, CMul, tBM, tBM0, tTup, tLst, tAug, tIf, tAnd, tOr, tNot, tAndV, tOrV, tNotV, tIsN, tNotN, tB, scal, tCall, cxK, cxKn, rIxT, rIxL, rIn, rAppend, rReverse, tVals, tDSetd, tDGet, tDGet1, tDGet2, tDIn, tDNotIn, rSortV, rSortT, rPop, rSortL, rSortT, tSl, tNoPart, tPart, List.append_nil, L2.start, List.map_cons, List.map_nil, List.length_cons, List.length_nil, List.replicate_succ, List.replicate_zero, List.cons_append, List.nil_append, Nat.reduceAdd, Nat.reduceSub, exists_eq, exists_eq', List.getElem?_cons_zero, List.getElem?_cons_succ, List.set_cons_zero, List.set_cons_succ, Option.some.injEq, V.int.injEq, V.bl.injEq, V.str.injEq, V.ref.injEq, List.cons.injEq, and_true, true_and, and_false, false_and, reduceCtorEq, exists_false, or_false, false_or, exists_and_left, exists_and_right, exists_eq_left, exists_eq_left', exists_eq_right, exists_eq_right', exists_const, ite_true, ite_false, Bool.false_eq_true, if_true, if_false, decide_true, decide_false]
    refine ⟨_, rfl, p, _, rfl, tt hp, fun t ht => ?_⟩
    have st := same_upd (o := .tup (xs.map V.int).reverse) ht
    try simp only [tSeq, tAsg, gName, tOp, rI, rI0, rU, tUn, tVar, tC, tCB, tCons, tNil, tTest, tIfS, tRet, tRetN, tDrop, tNext, tBreak, tCont, rEq, rNe, CDiv, CDivN, CMul, tBM, tBM0, tTup, tLst, tAug, tIf, tAnd, tOr, tNot, tAndV, tOrV, tNotV, tIsN, tNotN, tB, scal, tCall, cxK, cxKn, rIxT, rIxL, rIn, rAppend, rReverse, tVals, tDSetd, tDGet, tDGet1, tDGet2, tDIn, tDNotIn, rSortV, rSortT, rPop, rSortL, rSortT, tSl, tNoPart, tPart, List.append_nil, L2.start, List.map_cons, List.map_nil, List.length_cons, List.length_nil, List.replicate_succ, List.replicate_zero, List.cons_append, List.nil_append, Nat.reduceAdd, Nat.reduceSub, exists_eq, exists_eq', List.getElem?_cons_zero, List.getElem?_cons_succ, List.set_cons_zero, List.set_cons_succ, Option.some.injEq, V.int.injEq, V.bl.injEq, V.str.injEq, V.ref.injEq, List.cons.injEq, and_true, true_and, and_false, false_and, reduceCtorEq, exists_false, or_false, false_or, exists_and_left, exists_and_right, exists_eq_left, exists_eq_left', exists_eq_right, exists_eq_right', exists_const, ite_true, ite_false, Bool.false_eq_true, if_true, if_false, decide_true, decide_false]
    refine ⟨t, r, xs.reverse, ks, rfl, by rw [upd_same, List.map_reverse], st _ _ hk, by rw [List.length_reverse]; omega, hl2, fun H2 l s2 nl h2 => ?_⟩
    have nl0 : H l = none := by
      cases e : H l with
      | none => rfl
      | some o =>
        have := st _ _ e
        rw [nl] at this
        cases this
    try simp only [tSeq, tAsg, gName, tOp, rI, rI0, rU, tUn, tVar, tC, tCB, tCons, tNil, tTest, tIfS, tRet, tRetN, tDrop, tNext, tBreak, tCont, rEq, rNe, CDiv, CDivN, CMul, tBM, tBM0, tTup, tLst, tAug, tIf, tAnd, tOr, tNot, tAndV, tOrV, tNotV, tIsN, tNotN, tB, scal, tCall, cxK, cxKn, rIxT, rIxL, rIn, rAppend, rReverse, tVals, tDSetd, tDGet, tDGet1, tDGet2, tDIn, tDNotIn, rSortV, rSortT, rPop, rSortL, rSortT, tSl, tNoPart, tPart, List.append_nil, L2.start, List.map_cons, List.map_nil, List.length_cons, List.length_nil, List.replicate_succ, List.replicate_zero, List.cons_append, List.nil_append, Nat.reduceAdd, Nat.reduceSub, exists_eq, exists_eq', List.getElem?_cons_zero, List.getElem?_cons_succ, List.set_cons_zero, List.set_cons_succ, Option.some.injEq, V.int.injEq, V.bl.injEq, V.str.injEq, V.ref.injEq, List.cons.injEq, and_true, true_and, and_false, false_and, reduceCtorEq, exists_false, or_false, false_or, exists_and_left, exists_and_right, exists_eq_left, exists_eq_left', exists_eq_right, exists_eq_right', exists_const, ite_true, ite_false, Bool.false_eq_true, if_true, if_false, decide_true, decide_false]
    refine ⟨.inl ⟨rfl, _, SqL.of h2⟩, _, h2, ?_⟩
    refine q _ l (fun b z e => ?_) ?_
    · rw [upd_ne (ne_of_none e nl0)]
      exact s2 _ _ (st _ _ e)
    · rw [upd_same, ← List.map_reverse]
      rfl
end
end Mv

set_option Elab.async false
set_option linter.all false
set_option maxRecDepth 100000
set_option maxHeartbeats 4000000
namespace Mv
open PySem PySem.Spec PyProof.Rows L2
abbrev sWO : Stmt := topS 21
theorem same_free {H H' : Hp} {p : Addr} (s : Same H H') (h : H' p = none) : H p = none := by
  cases e : H p with
  | none => rfl
  | some o =>
    have := s _ _ e
    rw [h] at this
    cases this
section
variable {P : Program} {w : World} {K : PySem.W.Frag} {mg : Str → Option Value} {base : Heap} {T : List (Addr × Str)} {CB : Addr}
theorem scWO : FnScope ["before", "parcels", "after", "word", "parcel"] ["before", "parcels", "after"] (defScope sWO) := ⟨rfl, rfl, rfl, by decide +kernel, rfl, by decide +kernel, by decide +kernel⟩
def spWO (K : PySem.W.Frag) : Sp := fun vs H Q _ => ∃ (b l c : Addr) (L : List (Addr × List Int)) (As Bs : List Int), vs = [.ref b, .ref l, .ref c] ∧ SqT K H b (As.map V.int) ∧ Pcs H l L ∧ SqT K H c (Bs.map V.int) ∧ As.length + (wds L).flatten.length + Bs.length ≤ 500 ∧
  ∀ (H' : Hp) (t : Addr), Same H H' → H' t = some (.tup ((As ++ (wds L).flatten ++ Bs).map V.int)) → Q (.ref t) H'
theorem ok_wo {f : Addr} {fd : FuncData} (F : Fun K "word_of" "word_of" sWO f fd) (B : Bi mg) : FnOk P w K mg base CX0 1 f fd ["before", "parcels", "after"] (spWO K) := by
  refine F.ok scWO (fun vs H Q E h => ?_) (fun cdv A outer s H vs Q E hr h => ?_)
  · obtain ⟨b, l, c, L, As, Bs, rfl, _⟩ := h
    rfl
  · obtain ⟨b, l, c, L, As, Bs, rfl, hb, hp, hc, hl, q⟩ := h
    refine ⟨_, (pss_cons (ps_set (i := 3) scWO.nd rfl (.inl rfl) (pe_callTy call_list_of (by rfl) B.list (by decide +kernel) (pa_cons (pv 0) pa_nil)))
 (pss_cons (ps_for PassesOwn.never rfl (pi_list (pv 1)) (pg_name (i := 4) scWO.nd rfl (.inl rfl))
 (pss_one (ps_expr (pe_bm PySem.F.plainAttrs_list PySem.F.slot_list_extend PySem.F.type_list_extend mt_extendT (pv 3) (pa_cons (pv 4) pa_nil)))))
 (pss_one (ps_ret (pe_callTy call_tuple_of (by rfl) B.tuple (by decide +kernel) (pa_cons (pe_op op_cat (pv 3) (pe_callTy call_list_of (by rfl) B.list (by decide +kernel) (pa_cons (pv 2) pa_nil))) pa_nil)))))), ?_⟩
    try simp only [tSeq, tAsg, gName, tOp, rI, rI0, rU, tUn, tVar, tC, tCB, tCons, tNil, tTest, tIfS, tRet, tRetN, tDrop, tNext, tBreak, tCont, rEq, rNe, CDiv, CDivN, CMul, tBM, tBM0, tTup, tLst, tAug, tIf, tAnd, tOr, tNot, tAndV, tOrV, tNotV, tIsN, tNotN, tB, scal, tCall, cxK, cxKn, rIxT, rIxL, rIn, rAppend, rReverse, tVals, tDSetd, tDGet, tDGet1, tDGet2, tDIn, tDNotIn, rSortV, rSortT, rPop, rSortL, rSortT, tSl, tNoPart, tPart, List.append_nil, L2.start, List.map_cons, List.map_nil, List.length_cons, List.length_nil, List.replicate_succ, List.replicate_zero, List.cons_append, List.nil_append, Nat.reduceAdd, Nat.reduceSub, exists_eq, exists_eq', List.getElem?_cons_zero, List.getElem?_cons_succ, List.set_cons_zero, List.set_cons_succ, Option.some.injEq, V.int.injEq, V.bl.injEq, V.str.injEq, V.ref.injEq, List.cons.injEq, and_true, true_and, and_false, false_and, reduceCtorEq, exists_false, or_false, false_or, exists_and_left, exists_and_right, exists_eq_left, exists_eq_left', exists_eq_right, exists_eq_right', exists_const, ite_true, ite_false, Bool.false_eq_true, if_true, if_false, decide_true, decide_false]
    refine ⟨_, .inr hb, fun o ho => ?_⟩
    have so := same_upd (o := .lst (As.map V.int)) ho
    refine ⟨_, rfl, l, rfl, ⟨_, ll (hp.same so).at_⟩, for_list (K := K) (xs := L.map fun q => V.ref q.1) (fun i σ H' => ∃ (y : Option V), σ = [some (.ref b), some (.ref l), some (.ref c), some (.ref o), y] ∧ Same H H' ∧ H' o = some (.lst ((As ++ ((wds L).take i).flatten).map V.int)))
      ⟨none, rfl, so, by rw [upd_same]; simp⟩ (fun i σ H' _ ⟨_, _, s, _⟩ => ll (hp.same s).at_) ?_ ?_⟩
    · rintro i x σ H' hx ⟨y, rfl, s1, hu⟩
      obtain ⟨q0, hq, rfl⟩ := wds_at hx
      have e1 : ((wds L).take (i + 1)).flatten = ((wds L).take i).flatten ++ q0.2 := by
        have : (wds L)[i]? = some q0.2 := by
          unfold wds
          rw [List.getElem?_map, hq]
          rfl
        rw [List.take_add_one, this, List.flatten_append]
        simp
      have l2 := flat_take (wds L) (i + 1)
      rw [e1, List.length_append] at l2
      try simp only [tSeq, tAsg, gName, tOp, rI, rI0, rU, tUn, tVar, tC, tCB, tCons, tNil, tTest, tIfS, tRet, tRetN, tDrop, tNext, tBreak, tCont, rEq, rNe, CDiv, CDivN, CMul, tBM, tBM0, tTup, tLst, tAug, tIf, tAnd, tOr, tNot, tAndV, tOrV, tNotV, tIsN, tNotN, tB, scal, tCall, cxK, cxKn, rIxT, rIxL, rIn, rAppend, rReverse, tVals, tDSetd, tDGet, tDGet1, tDGet2, tDIn, tDNotIn, rSortV, rSortT, rPop, rSortL, rSortT, tSl, tNoPart, tPart, List.append_nil, L2.start, List.map_cons, List.map_nil, List.length_cons, List.length_nil, List.replicate_succ, List.replicate_zero, List.cons_append, List.nil_append, Nat.reduceAdd, Nat.reduceSub, exists_eq, exists_eq', List.getElem?_cons_zero, List.getElem?_cons_succ, List.set_cons_zero, List.set_cons_succ, Option.some.injEq, V.int.injEq, V.bl.injEq, V.str.injEq, V.ref.injEq, List.cons.injEq, and_true, true_and, and_false, false_and, reduceCtorEq, exists_false, or_false, false_or, exists_and_left, exists_and_right, exists_eq_left, exists_eq_left', exists_eq_right, exists_eq_right', exists_const, ite_true, ite_false, Bool.false_eq_true, if_true, if_false, decide_true, decide_false]
      refine ⟨.inl ⟨rfl, _, SqL.of hu⟩, o, q0.1, _, _, rfl, rfl, hu, tt ((hp.same s1).all q0 (List.mem_of_getElem? hq)), by simp only [List.length_map, List.length_append]; exact small1000' (by omega), fun bb z e => ?_, ?_⟩
      · rw [upd_ne (ne_of_none e ho)]
        exact s1 _ _ e
      · rw [upd_same, e1, ← List.append_assoc, List.map_append (l₁ := As ++ ((wds L).take i).flatten)]
    · rintro σ H' ⟨y, rfl, s1, hu⟩
      try simp only [tSeq, tAsg, gName, tOp, rI, rI0, rU, tUn, tVar, tC, tCB, tCons, tNil, tTest, tIfS, tRet, tRetN, tDrop, tNext, tBreak, tCont, rEq, rNe, CDiv, CDivN, CMul, tBM, tBM0, tTup, tLst, tAug, tIf, tAnd, tOr, tNot, tAndV, tOrV, tNotV, tIsN, tNotN, tB, scal, tCall, cxK, cxKn, rIxT, rIxL, rIn, rAppend, rReverse, tVals, tDSetd, tDGet, tDGet1, tDGet2, tDIn, tDNotIn, rSortV, rSortT, rPop, rSortL, rSortT, tSl, tNoPart, tPart, List.append_nil, L2.start, List.map_cons, List.map_nil, List.length_cons, List.length_nil, List.replicate_succ, List.replicate_zero, List.cons_append, List.nil_append, Nat.reduceAdd, Nat.reduceSub, exists_eq, exists_eq', List.getElem?_cons_zero, List.getElem?_cons_succ, List.set_cons_zero, List.set_cons_succ, Option.some.injEq, V.int.injEq, V.bl.injEq, V.str.injEq, V.ref.injEq, List.cons.injEq, and_true, true_and, and_false, false_and, reduceCtorEq, exists_false, or_false, false_or, exists_and_left, exists_and_right, exists_eq_left, exists_eq_left', exists_eq_right, exists_eq_right', exists_const, ite_true, ite_false, Bool.false_eq_true, if_true, if_false, decide_true, decide_false]
      rw [List.take_of_length_le (by unfold wds; rw [List.length_map, List.length_map]; exact Nat.le_refl _)] at hu
      refine ⟨_, .inr (Same.tup s1 hc), fun d hd => ?_⟩
      have sd := same_upd (o := .lst (Bs.map V.int)) hd
      refine ⟨o, d, _, _, rfl, rfl, sd _ _ hu, upd_same, by simp only [List.length_map, List.length_append]; exact small1000' (by omega), fun e he => ?_⟩
      refine ⟨e, rfl, _, .inl ⟨ll upd_same, fun t ht => ?_⟩⟩
      refine q _ t ((s1.trans sd).trans ((same_upd he).trans (same_upd ht))) ?_
      rw [upd_same, ← List.map_append]
end
end Mv

set_option Elab.async false
set_option linter.all false
set_option maxRecDepth 100000
set_option maxHeartbeats 4000000
namespace Mv
open PySem PySem.Spec PyProof.Rows L2
abbrev sPP : Stmt := topS 18
/-! ### lists of words: slices, joins, displays -/
theorem wds_app (L M : List (Addr × List Int)) : wds (L ++ M) = wds L ++ wds M := List.map_append
theorem Pcs.part {H H' : Hp} {l t : Addr} {L M : List (Addr × List Int)} (p : Pcs H l L) (s : Same H H') (h : H' t = some (.lst (M.map fun q => V.ref q.1))) (hm : ∀ q ∈ M, q ∈ L) : Pcs H' t M := ⟨h, fun q hq => s _ _ (p.all q (hm q hq))⟩
theorem sl_take {K : PySem.W.Frag} {H : Hp} {l : Addr} {L : List (Addr × List Int)} {k : Nat} {m : Int} {Q : VK} (e : m = (k : Int)) (p : Pcs H l L) (q : ∀ (o : Addr) (H' : Hp), Same H H' → Pcs H' o (L.take k) → Q (.ref o) H') : rSlL K (.ref l) none (some m) H Q := by
  subst e
  refine ⟨l, _, rfl, ll p.at_, fun o ho => ?_⟩
  rw [cutV_take, ← List.map_take]
  exact q o _ (same_upd ho) (p.part (same_upd ho) upd_same fun q hq => List.mem_of_mem_take hq)
theorem sl_drop {K : PySem.W.Frag} {H : Hp} {l : Addr} {L : List (Addr × List Int)} {k : Nat} {m : Int} {Q : VK} (e : m = (k : Int)) (p : Pcs H l L) (q : ∀ (o : Addr) (H' : Hp), Same H H' → Pcs H' o (L.drop k) → Q (.ref o) H') : rSlL K (.ref l) (some m) none H Q := by
  subst e
  refine ⟨l, _, rfl, ll p.at_, fun o ho => ?_⟩
  rw [cutV_drop, ← List.map_drop]
  exact q o _ (same_upd ho) (p.part (same_upd ho) upd_same fun q hq => List.mem_of_mem_drop hq)
theorem cat_pcs {H : Hp} {a b : Addr} {L M : List (Addr × List Int)} {Q : VK} (pa : Pcs H a L) (pb : Pcs H b M) (hz : L.length + M.length ≤ 1000) (q : ∀ (o : Addr) (H' : Hp), Same H H' → Pcs H' o (L ++ M) → Q (.ref o) H') : rCat (.ref a) (.ref b) H Q := by
  refine ⟨a, b, _, _, rfl, rfl, pa.at_, pb.at_, by rw [List.length_map, List.length_map]; exact small1000' hz, fun o ho => ?_⟩
  rw [← List.map_append]
  have s := same_upd (o := .lst ((L ++ M).map fun q => V.ref q.1)) ho
  exact q o _ s ⟨upd_same, fun r hr => s _ _ ((List.mem_append.mp hr).elim (pa.all r) (pb.all r))⟩
theorem Pcs.new2 {H : Hp} {o : Addr} {q r : Addr × List Int} (ho : H o = none) (hq : H q.1 = some (.tup (q.2.map V.int))) (hr : H r.1 = some (.tup (r.2.map V.int))) : Pcs (upd H o (.lst [.ref q.1, .ref r.1])) o [q, r] := by
  have s := same_upd (o := .lst [.ref q.1, .ref r.1]) ho
  refine ⟨upd_same, fun z hz => ?_⟩
  rcases List.mem_cons.mp hz with rfl | hz
  · exact s _ _ hq
  · rw [List.mem_singleton.mp hz]
    exact s _ _ hr
theorem Pcs.snoc {H : Hp} {l t : Addr} {N : List (Addr × List Int)} {W : List Int} (p : Pcs H l N) (h : H t = some (.tup (W.map V.int))) : Pcs (upd H l (.lst (N.map (fun q => V.ref q.1) ++ [.ref t]))) l (N ++ [(t, W)]) := by
  refine ⟨by rw [upd_same, List.map_append]; rfl, fun q hq => ?_⟩
  have e : H q.1 = some (.tup (q.2.map V.int)) := by
    rcases List.mem_append.mp hq with hq | hq
    · exact p.all q hq
    · rw [List.mem_singleton.mp hq]
      exact h
  rw [upd_ne (ne_of e p.at_ (by intro z; cases z))]
  exact e
theorem take_len (L : List (Addr × List Int)) (k : Nat) : (L.take k).length ≤ L.length := by rw [List.length_take]; omega
theorem drop_len (L : List (Addr × List Int)) (k : Nat) : (L.drop k).length ≤ L.length := by rw [List.length_drop]; omega
/-! ### what the two shuffles are -/
def pairL (L M : List (Addr × List Int)) : Option (Nat × Nat) → List (Addr × List Int) × List (Addr × List Int)
  | some (i, j) => (L.take i ++ M.take j ++ ((L[i]?).toList ++ (M[j]?).toList) ++ L.drop (i + 1) ++ M.drop (j + 1), L.take i ++ M.take j ++ ((M[j]?).toList ++ (L[i]?).toList) ++ L.drop (i + 1) ++ M.drop (j + 1))
  | none => (L ++ M, M ++ L)
def wrd (As Bs : List Int) (L : List (Addr × List Int)) : List Int := As ++ (wds L).flatten ++ Bs
def pairW (As Bs : List Int) (L M : List (Addr × List Int)) (p : Option (Nat × Nat)) : List Int × List Int := (wrd As Bs (pairL L M p).1, wrd As Bs (pairL L M p).2)
/-- what is handed back: None or two words -/
def Res (Q : VK) (H : Hp) : Option (List Int × List Int) → Prop
  | none => Q .non H
  | some p => ∀ t x y : Addr, H t = some (.tup [.ref x, .ref y]) → H x = some (.tup (p.1.map V.int)) → H y = some (.tup (p.2.map V.int)) → Q (.ref t) H
theorem wds_len (L : List (Addr × List Int)) : (wds L).length = L.length := List.length_map _
theorem wds_get {L : List (Addr × List Int)} {i : Nat} {q : Addr × List Int} (h : L[i]? = some q) : (wds L)[i]? = some q.2 := by
  unfold wds
  rw [List.getElem?_map, h]
  rfl
/-- words may be put otherwise: only their values count -/
theorem flat_len_perm {L M : List (Addr × List Int)} (h : L.Perm M) : (wds L).flatten.length = (wds M).flatten.length := (List.Perm.flatten (h.map _)).length_eq
theorem pairL_perm (L M : List (Addr × List Int)) {i j : Nat} (hi : i < L.length) (hj : j < M.length) : (pairL L M (some (i, j))).1.Perm (L ++ M) ∧ (pairL L M (some (i, j))).2.Perm (L ++ M) := by
  have e1 : L = L.take i ++ (L[i]?).toList ++ L.drop (i + 1) := by
    conv => lhs; rw [← List.take_append_drop (i + 1) L]
    rw [List.take_add_one]
  have e2 : M = M.take j ++ (M[j]?).toList ++ M.drop (j + 1) := by
    conv => lhs; rw [← List.take_append_drop (j + 1) M]
    rw [List.take_add_one]
  have key : ∀ a b c d e f : List (Addr × List Int), (a ++ b ++ (c ++ d) ++ e ++ f).Perm (a ++ c ++ e ++ (b ++ d ++ f)) := fun a b c d e f => by
    refine List.perm_iff_count.mpr fun z => ?_
    simp only [List.count_append]
    omega
  have p1 : (pairL L M (some (i, j))).1.Perm (L ++ M) := by
    conv => rhs; rw [e1, e2]
    exact key _ _ _ _ _ _
  refine ⟨p1, List.Perm.trans ?_ p1⟩
  exact List.Perm.append_right _ (List.Perm.append_right _ (List.Perm.append_left _ List.perm_append_comm))
theorem mem_flat_len : ∀ {L : List (Addr × List Int)} {q : Addr × List Int}, q ∈ L → q.2.length ≤ (wds L).flatten.length
  | [], _, h => by cases h
  | p :: L, q, h => by
    show _ ≤ (p.2 ++ (wds L).flatten).length
    rw [List.length_append]
    rcases List.mem_cons.mp h with rfl | h
    · omega
    · have := mem_flat_len h
      omega
section
variable {P : Program} {w : World} {K : PySem.W.Frag} {mg : Str → Option Value} {base : Heap} {T : List (Addr × Str)} {CB : Addr}
theorem scPP : FnScope ["u", "v", "before", "after", "i", "one", "j", "other", "ahead", "behind", "words", "pair"] ["u", "v", "before", "after"] (defScope sPP) := ⟨rfl, rfl, rfl, by decide +kernel, rfl, by decide +kernel, by decide +kernel⟩
def spPP (K : PySem.W.Frag) : Sp := fun vs H Q _ => ∃ (lu lv b c : Addr) (L M : List (Addr × List Int)) (As Bs : List Int), vs = [.ref lu, .ref lv, .ref b, .ref c] ∧ Pcs H lu L ∧ Pcs H lv M ∧ SqT K H b (As.map V.int) ∧ SqT K H c (Bs.map V.int) ∧ L.length ≤ 60 ∧ M.length ≤ 60 ∧ As.length + (wds (L ++ M)).flatten.length + Bs.length ≤ 60 ∧
  ∀ H' : Hp, Same H H' → Res Q H' ((clash (wds L) (wds M)).map fun p => pairW As Bs L M (some p))
theorem ok_pp {f : Addr} {fd : FuncData} (F : Fun K "parted_parcels" "parted_parcels" sPP f fd) (B : Bi mg) (cWO : CalX CX0 P w K mg base 1 "word_of" (spWO K)) : FnOk P w K mg base CX0 2 f fd ["u", "v", "before", "after"] (spPP K) := by
  refine F.ok scPP (fun vs H Q E h => ?_) (fun cdv A outer s H vs Q E hr h => ?_)
  · obtain ⟨lu, lv, b, c, L, M, As, Bs, rfl, _⟩ := h
    rfl
  · obtain ⟨lu, lv, b, c, L, M, As, Bs, rfl, pu, pv', hb, hc, hL, hM, hz, q⟩ := h
    refine ⟨_, (pss_cons (ps_for PassesOwn.never rfl (pi_enum (by rfl) B.enumerate (pa_cons (pv 0) pa_nil)) (pg_tup rfl (pgs_cons (pg_name (i := 4) scPP.nd rfl (.inl rfl)) (pgs_cons (pg_name (i := 5) scPP.nd rfl (.inl rfl)) pgs_nil)))
 (pss_one (ps_for PassesOwn.never rfl (pi_enum (by rfl) B.enumerate (pa_cons (pv 1) pa_nil)) (pg_tup rfl (pgs_cons (pg_name (i := 6) scPP.nd rfl (.inl rfl)) (pgs_cons (pg_name (i := 7) scPP.nd rfl (.inl rfl)) pgs_nil)))
 (pss_one (ps_if (pt_cmpR (op_neD hr.units) (pe_op op_catA (pv 5) (pv 7)) (pe_op op_catA (pv 7) (pv 5)) (nomark _))
 (pss_cons (ps_asg (pe_tup (pa_cons (pe_op op_cat (pe_slice sl_list (pv 0) po_none (po_some (pv 4))) (pe_slice sl_list (pv 1) po_none (po_some (pv 6)))) (pa_cons (pe_op op_cat (pe_slice sl_list (pv 0) (po_some (pe_op op_add (pv 4) pe_int)) po_none) (pe_slice sl_list (pv 1) (po_some (pe_op op_add (pv 6) pe_int)) po_none)) pa_nil))) (pg_tup rfl (pgs_cons (pg_name (i := 8) scPP.nd rfl (.inr rfl)) (pgs_cons (pg_name (i := 9) scPP.nd rfl (.inr rfl)) pgs_nil))))
 (pss_cons (ps_setLc (i := 10) (own := [("pair", 11)]) (g := gName 11) (tt := tYes) rfl scPP.nd rfl rfl (sw_true rfl rfl rfl (by decide +kernel)) (pi_tup (pe_tup (pa_cons (pe_lst (pa_cons (pv 5) (pa_cons (pv 7) pa_nil))) (pa_cons (pe_lst (pa_cons (pv 7) (pa_cons (pv 5) pa_nil))) pa_nil)))) (blkOk_by (N := ["u", "v", "before", "after", "i", "one", "j", "other", "ahead", "behind", "words", "pair"]) (sc := defScope sPP) (by decide +kernel)) (fun _ _ _ _ _ => (pg_name (i := 11) scPP.nd rfl (.inl rfl))) (fun _ _ _ _ _ => pts_nil) (fun _ _ _ _ _ => (pe_cx cWO hr (by decide) pass0 (by rfl) (pa_cons (pv 2) (pa_cons (pe_op op_cat (pe_op op_cat (pv 8) (pv 11)) (pv 9)) (pa_cons (pv 3) pa_nil))))))
 (pss_one (ps_ret (pe_callTy call_tuple_of (by rfl) B.tuple (by decide +kernel) (pa_cons (pv 10) pa_nil)))))) pss_nil)))))
 (pss_one (ps_ret pe_non))), ?_⟩
    refine ⟨.ref lu, rfl, lu, _, rfl, ll pu.at_, ?_⟩
    refine for_it walk_enum (fun i σ H' => ∃ (y4 y5 y6 y7 : Option V), σ = [some (.ref lu), some (.ref lv), some (.ref b), some (.ref c), y4, y5, y6, y7, none, none, none, none] ∧ Same H H' ∧ ∀ z ∈ (wds L).take i, ∀ y ∈ wds M, comm z y)
      ⟨none, none, none, none, rfl, Same.refl H, fun z hz => by simp at hz⟩ (fun i σ H' _ ⟨_, _, _, _, _, s, _⟩ => ll (pu.same s).at_) ?_ ?_
    · rintro i x σ H3 H4 hi ⟨y4, y5, y6, y7, rfl, s3, hcm⟩ ⟨t, x1, x2, rfl, nT, rfl, e1, e2⟩
      obtain rfl : V.int (i : Nat) = x1 := Option.some.inj e1
      obtain ⟨qi, hqi, rfl⟩ := wds_at e2
      have smT : Same H3 (upd H3 t (.tup [.int (i : Nat), .ref qi.1])) := same_upd nT
      refine ⟨t, [.int (i : Nat), .ref qi.1], rfl, .inl (.inl upd_same), rfl, .int (i : Nat), [.int (i : Nat), .ref qi.1].tail, rfl, .ref qi.1, [], rfl, rfl, ?_⟩
      have s4 := s3.trans smT
      generalize upd H3 t (.tup [.int (i : Nat), .ref qi.1]) = H4 at s4 ⊢
      refine ⟨.ref lv, rfl, lv, _, rfl, ll (pv'.same s4).at_, ?_⟩
      refine for_it walk_enum (fun j σ H' => ∃ (y6 y7 : Option V), σ = [some (.ref lu), some (.ref lv), some (.ref b), some (.ref c), some (.int (i : Nat)), some (.ref qi.1), y6, y7, none, none, none, none] ∧ Same H H' ∧ ∀ y ∈ (wds M).take j, comm qi.2 y)
        ⟨y6, y7, rfl, s4, fun z hz => by simp at hz⟩ (fun i σ H' _ ⟨_, _, _, s, _⟩ => ll (pv'.same s).at_) ?_ ?_
      · rintro j x σ H5 H6 hj ⟨z6, z7, rfl, s5, hcj⟩ ⟨t2, x1, x2, rfl, nT2, rfl, e3, e4⟩
        obtain rfl : V.int (j : Nat) = x1 := Option.some.inj e3
        obtain ⟨qj, hqj, rfl⟩ := wds_at e4
        have smT2 : Same H5 (upd H5 t2 (.tup [.int (j : Nat), .ref qj.1])) := same_upd nT2
        refine ⟨t2, [.int (j : Nat), .ref qj.1], rfl, .inl (.inl upd_same), rfl, .int (j : Nat), [.int (j : Nat), .ref qj.1].tail, rfl, .ref qj.1, [], rfl, rfl, ?_⟩
        have s6 := s5.trans smT2
        generalize upd H5 t2 (.tup [.int (j : Nat), .ref qj.1]) = H6 at s6 ⊢
        have mi := List.mem_of_getElem? hqi
        have mj := List.mem_of_getElem? hqj
        have zi := mem_flat_len (L := L ++ M) (List.mem_append_left _ mi)
        have zj := mem_flat_len (L := L ++ M) (List.mem_append_right _ mj)
        rw [List.length_map] at hi hj
        try simp only [tSeq, tAsg, gName, tOp, rI, rI0, rU, tUn, tVar, tC, tCB, tCons, tNil, tTest, tIfS, tRet, tRetN, tDrop, tNext, tBreak, tCont, rEq, rNe, CDiv, CDivN, CMul, tBM, tBM0, tTup, tLst, tAug, tIf, tAnd, tOr, tNot, tAndV, tOrV, tNotV, tIsN, tNotN, tB, scal, tCall, cxK, cxKn, rIxT, rIxL, rIn, rAppend, rReverse, tVals, tDSetd, tDGet, tDGet1, tDGet2, tDIn, tDNotIn, rSortV, rSortT, rPop, rSortL, rSortT, tSl, tNoPart, tPart, List.append_nil, L2.start, List.map_cons, List.map_nil, List.length_cons, List.length_nil, List.replicate_succ, List.replicate_zero, List.cons_append, List.nil_append, Nat.reduceAdd, Nat.reduceSub, exists_eq, exists_eq', List.getElem?_cons_zero, List.getElem?_cons_succ, List.set_cons_zero, List.set_cons_succ, Option.some.injEq, V.int.injEq, V.bl.injEq, V.str.injEq, V.ref.injEq, List.cons.injEq, and_true, true_and, and_false, false_and, reduceCtorEq, exists_false, or_false, false_or, exists_and_left, exists_and_right, exists_eq_left, exists_eq_left', exists_eq_right, exists_eq_right', exists_const, ite_true, ite_false, Bool.false_eq_true, if_true, if_false, decide_true, decide_false]
        refine cat_tups (s6 _ _ (pu.all qi mi)) (s6 _ _ (pv'.all qj mj)) (by rw [List.length_map, List.length_map]; omega) fun ta Ha sa ha => ?_
        have s7 := s6.trans sa
        refine cat_tups (s7 _ _ (pv'.all qj mj)) (s7 _ _ (pu.all qi mi)) (by rw [List.length_map, List.length_map]; omega) fun tb Hb sb hb => ?_
        have s8 := s7.trans sb
        have ha8 := sb _ _ ha
        rw [← List.map_append] at ha8 hb
        refine ne_tups (tt ha8) (tt hb) ⟨_, rfl, ite2 (fun e => ?_) (fun e => ?_)⟩
        · have ncm : ¬ comm qi.2 qj.2 := by
            unfold comm
            simpa using e
          have ecl : clash (wds L) (wds M) = some (i, j) := clash_some hcm (wds_get hqi) hcj (wds_get hqj) ncm
          rw [ecl] at q
          clear ha ha8 hb sa sb
          refine sl_take rfl (pu.same s8) fun o1 H1 u1 p1 => ?_
          refine sl_take rfl ((pv'.same s8).same u1) fun o2 H2 u2 p2 => ?_
          have t2 := take_len L i
          have t3 := take_len M j
          have t4 := drop_len L (i + 1)
          have t5 := drop_len M (j + 1)
          refine cat_pcs (p1.same u2) p2 (by omega) fun oA HA uA pA => ?_
          have s9 := (s8.trans u1).trans (u2.trans uA)
          refine sl_drop (k := i + 1) rfl (pu.same s9) fun o3 H3' u3 p3 => ?_
          refine sl_drop (k := j + 1) rfl ((pv'.same s9).same u3) fun o4 H4' u4 p4 => ?_
          refine cat_pcs (p3.same u4) p4 (by omega) fun oB HB uB pB => ?_
          have s10 := s9.trans ((u3.trans u4).trans uB)
          have pA2 := pA.same ((u3.trans u4).trans uB)
          clear u1 u2 uA u3 u4 uB p1 p2 p3 p4 pA s9 s8 s7 s6
          refine ⟨by decide, fun t9 ht9 => ?_⟩
          have sT := same_upd (o := .tup [.ref oA, .ref oB]) ht9
          refine ⟨t9, [.ref oA, .ref oB], rfl, .inl (.inl upd_same), rfl, .ref oA, [.ref oA, .ref oB].tail, rfl, .ref oB, [], rfl, rfl, ?_⟩
          have s11 := s10.trans sT
          have pA3 := pA2.same sT
          have pB3 := pB.same sT
          generalize upd HB t9 (.tup [.ref oA, .ref oB]) = HC at s11 pA3 pB3
          have hLM := hz
          rw [wds_app, List.flatten_append, List.length_append] at hLM
          have pW := pairL_perm L M (i := i) (j := j) (by omega) (by omega)
          have w1 := flat_len_perm pW.1
          have w2 := flat_len_perm pW.2
          have ea : L.take i ++ M.take j ++ [qi, qj] ++ (L.drop (i + 1) ++ M.drop (j + 1)) = (pairL L M (some (i, j))).1 := by
            show _ = L.take i ++ M.take j ++ ((L[i]?).toList ++ (M[j]?).toList) ++ L.drop (i + 1) ++ M.drop (j + 1)
            rw [hqi, hqj]
            simp [Option.toList]
          have eb : L.take i ++ M.take j ++ [qj, qi] ++ (L.drop (i + 1) ++ M.drop (j + 1)) = (pairL L M (some (i, j))).2 := by
            show _ = L.take i ++ M.take j ++ ((M[j]?).toList ++ (L[i]?).toList) ++ L.drop (i + 1) ++ M.drop (j + 1)
            rw [hqi, hqj]
            simp [Option.toList]
          refine ⟨_, rfl, _, rfl, by show 2 ≤ sizeLine; decide, fun o6 h6 => ⟨_, rfl, _, rfl, by show 2 ≤ sizeLine; decide, fun o7 h7 => ⟨by show 2 ≤ sizeLine; decide, fun t8 ht8 => ?_⟩⟩⟩
          have q6 := Pcs.new2 (q := qi) (r := qj) h6 (s11 _ _ (pu.all qi mi)) (s11 _ _ (pv'.all qj mj))
          have u6 := same_upd (o := .lst [.ref qi.1, .ref qj.1]) h6
          have q7 := Pcs.new2 (q := qj) (r := qi) h7 (u6 _ _ (s11 _ _ (pv'.all qj mj))) (u6 _ _ (s11 _ _ (pu.all qi mi)))
          have u7 := same_upd (o := .lst [.ref qj.1, .ref qi.1]) h7
          have u8 := same_upd (o := .tup [.ref o6, .ref o7]) ht8
          have q6' := (q6.same u7).same u8
          have q7' := q7.same u8
          have s12 := ((s11.trans u6).trans u7).trans u8
          have pA4 := ((pA3.same u6).same u7).same u8
          have pB4 := ((pB3.same u6).same u7).same u8
          have ht8' : upd (upd (upd HC o6 (.lst [.ref qi.1, .ref qj.1])) o7 (.lst [.ref qj.1, .ref qi.1])) t8 (.tup [.ref o6, .ref o7]) t8 = some (.tup [.ref o6, .ref o7]) := upd_same
          generalize upd (upd (upd HC o6 (.lst [.ref qi.1, .ref qj.1])) o7 (.lst [.ref qj.1, .ref qi.1])) t8 (.tup [.ref o6, .ref o7]) = HD at q6' q7' s12 pA4 pB4 ht8'
          clear q6 u6 q7 u7 u8 h6 h7 ht8 pA2 pA3 pB pB3 s10 s11 sT ht9
          refine ⟨t8, rfl, ⟨_, tt ht8'⟩, fun D hD => ?_⟩
          refine lc_tup (K := K) (xs := [.ref o6, .ref o7]) (fun n H' => Same HD H' ∧ ∃ N : List (Addr × List Int), Pcs H' D N ∧ wds N = [wrd As Bs (pairL L M (some (i, j))).1, wrd As Bs (pairL L M (some (i, j))).2].take n)
            ⟨same_upd hD, [], ⟨upd_same, fun q hq => by cases hq⟩, rfl⟩ (fun n H' _ h => tt (h.1 _ _ ht8')) ?_ ?_
          · rintro n x H' hx ⟨sD, N, pN, eN⟩
            refine ⟨rfl, ?_⟩
            simp only [tSeq, tAsg, gName, tOp, rI, rI0, rU, tUn, tVar, tC, tCB, tCons, tNil, tTest, tIfS, tRet, tRetN, tDrop, tNext, tBreak, tCont, rEq, rNe, CDiv, CDivN, CMul, tBM, tBM0, tTup, tLst, tAug, tIf, tAnd, tOr, tNot, tAndV, tOrV, tNotV, tIsN, tNotN, tB, scal, tCall, cxK, cxKn, rIxT, rIxL, rIn, rAppend, rReverse, tVals, tDSetd, tDGet, tDGet1, tDGet2, tDIn, tDNotIn, rSortV, rSortT, rPop, rSortL, rSortT, tSl, tNoPart, tPart, List.append_nil, L2.start, List.map_cons, List.map_nil, List.length_cons, List.length_nil, List.replicate_succ, List.replicate_zero, List.cons_append, List.nil_append, Nat.reduceAdd, Nat.reduceSub, exists_eq, exists_eq', wipe, tYes, List.getElem?_cons_zero, List.getElem?_cons_succ, List.set_cons_zero, List.set_cons_succ, Option.some.injEq, V.int.injEq, V.bl.injEq, V.str.injEq, V.ref.injEq, List.cons.injEq, and_true, true_and, and_false, false_and, reduceCtorEq, exists_false, or_false, false_or, exists_and_left, exists_and_right, exists_eq_left, exists_eq_left', exists_eq_right, exists_eq_right', exists_const, ite_true, ite_false, Bool.false_eq_true, if_true, if_false, decide_true, decide_false]
            obtain ⟨ox, PP, rfl, pox, lP, eW, lW⟩ : ∃ (ox : Addr) (PP : List (Addr × List Int)), x = .ref ox ∧ Pcs HD ox PP ∧ PP.length = 2 ∧
                [wrd As Bs (pairL L M (some (i, j))).1, wrd As Bs (pairL L M (some (i, j))).2].take (n + 1) = [wrd As Bs (pairL L M (some (i, j))).1, wrd As Bs (pairL L M (some (i, j))).2].take n ++ [wrd As Bs (L.take i ++ M.take j ++ PP ++ (L.drop (i + 1) ++ M.drop (j + 1)))] ∧
                (wds (L.take i ++ M.take j ++ PP ++ (L.drop (i + 1) ++ M.drop (j + 1)))).flatten.length = (wds (L ++ M)).flatten.length ∧ n ≤ 1 := by
              match n, hx with
              | 0, hx =>
                refine ⟨o6, [qi, qj], (Option.some.inj hx).symm, q6', rfl, ?_, ?_, by decide⟩
                · rw [ea]
                  rfl
                · rw [ea, w1]
              | 1, hx =>
                refine ⟨o7, [qj, qi], (Option.some.inj hx).symm, q7', rfl, ?_, ?_, by decide⟩
                · rw [eb]
                  rfl
                · rw [eb, w2]
              | n + 2, hx => cases hx
            have lN : N.length ≤ 2 := by
              have := congrArg List.length eN
              rw [wds_len, List.length_take] at this
              simp only [List.length_cons, List.length_nil] at this
              omega
            refine cat_pcs (pA4.same sD) (pox.same sD) (by rw [List.length_append, lP]; omega) fun o9 H9 v9 p9 => ?_
            refine cat_pcs p9 ((pB4.same sD).same v9) (by simp only [List.length_append]; omega) fun o10 H10 v10 p10 => ?_
            have sE := (sD.trans v9).trans v10
            have pN2 := (pN.same v9).same v10
            refine ⟨b, o10, c, _, As, Bs, rfl, Same.tup (s12.trans sE) hb, p10, Same.tup (s12.trans sE) hc, by omega, fun H11 t11 s11 h11 => ?_⟩
            have pN3 := pN2.same s11
            refine ⟨_, pN3.at_, by rw [List.length_map]; exact small1000 (by omega), fun bb o e => ?_, N ++ [(t11, _)], pN3.snoc h11, ?_⟩
            · rw [upd_ne (ne_of_none e hD)]
              exact (sE.trans s11) _ _ e
            · rw [wds_app, eN, eW]
              rfl
          · rintro H' ⟨sD, N, pN, eN⟩
            try simp only [tSeq, tAsg, gName, tOp, rI, rI0, rU, tUn, tVar, tC, tCB, tCons, tNil, tTest, tIfS, tRet, tRetN, tDrop, tNext, tBreak, tCont, rEq, rNe, CDiv, CDivN, CMul, tBM, tBM0, tTup, tLst, tAug, tIf, tAnd, tOr, tNot, tAndV, tOrV, tNotV, tIsN, tNotN, tB, scal, tCall, cxK, cxKn, rIxT, rIxL, rIn, rAppend, rReverse, tVals, tDSetd, tDGet, tDGet1, tDGet2, tDIn, tDNotIn, rSortV, rSortT, rPop, rSortL, rSortT, tSl, tNoPart, tPart, List.append_nil, L2.start, List.map_cons, List.map_nil, List.length_cons, List.length_nil, List.replicate_succ, List.replicate_zero, List.cons_append, List.nil_append, Nat.reduceAdd, Nat.reduceSub, exists_eq, exists_eq', List.getElem?_cons_zero, List.getElem?_cons_succ, List.set_cons_zero, List.set_cons_succ, Option.some.injEq, V.int.injEq, V.bl.injEq, V.str.injEq, V.ref.injEq, List.cons.injEq, and_true, true_and, and_false, false_and, reduceCtorEq, exists_false, or_false, false_or, exists_and_left, exists_and_right, exists_eq_left, exists_eq_left', exists_eq_right, exists_eq_right', exists_const, ite_true, ite_false, Bool.false_eq_true, if_true, if_false, decide_true, decide_false]
            refine ⟨_, .inl ⟨ll pN.at_, fun t ht => ?_⟩⟩
            match N, pN, eN with
            | [q1, q2], pN, eN =>
              obtain ⟨e1, e2⟩ : q1.2 = wrd As Bs (pairL L M (some (i, j))).1 ∧ q2.2 = wrd As Bs (pairL L M (some (i, j))).2 := by
                have e : [q1.2, q2.2] = [wrd As Bs (pairL L M (some (i, j))).1, wrd As Bs (pairL L M (some (i, j))).2] := eN
                injection e with e1 e2
                injection e2 with e2 _
                exact ⟨e1, e2⟩
              have st := same_upd (o := .tup [V.ref q1.1, V.ref q2.1]) ht
              have h1 := st _ _ (pN.all q1 List.mem_cons_self)
              have h2 := st _ _ (pN.all q2 (List.mem_cons_of_mem _ List.mem_cons_self))
              rw [e1] at h1
              rw [e2] at h2
              exact q _ ((s12.trans sD).trans st) t q1.1 q2.1 upd_same h1 h2
            | [], _, eN => exact absurd (congrArg List.length eN) (by simp [wds])
            | [_], _, eN => exact absurd (congrArg List.length eN) (by simp [wds])
            | _ :: _ :: _ :: _, _, eN => exact absurd (congrArg List.length eN) (by simp [wds])
        · have cm : comm qi.2 qj.2 := by
            unfold comm
            simpa using e
          refine ⟨s8, fun y hy => ?_⟩
          rw [List.take_add_one, wds_get hqj] at hy
          rcases List.mem_append.mp hy with hy | hy
          · exact hcj y hy
          · rw [Option.mem_toList.mp hy |> Option.some.inj |>.symm]
            exact cm
      · rintro σ H5 ⟨z6, z7, rfl, s5, hcj⟩
        rw [List.length_map] at hcj
        refine ⟨_, _, _, _, rfl, s5, fun z hz => ?_⟩
        rw [List.take_add_one, wds_get hqi] at hz
        rcases List.mem_append.mp hz with hz | hz
        · exact hcm z hz
        · obtain rfl : qi.2 = z := Option.some.inj (Option.mem_toList.mp hz)
          exact fun y hy => hcj y (by rw [List.take_of_length_le (by rw [wds_len]; exact Nat.le_refl _)]; exact hy)
    · rintro σ H3 ⟨y4, y5, y6, y7, rfl, s3, hcm⟩
      rw [List.length_map] at hcm
      have e : clash (wds L) (wds M) = none := clash_none.mpr fun z hz => hcm z (by rw [List.take_of_length_le (by rw [wds_len]; exact Nat.le_refl _)]; exact hz)
      rw [e] at q
      exact q H3 s3
end
end Mv

set_option Elab.async false
set_option linter.all false
set_option maxRecDepth 100000
set_option maxHeartbeats 4000000
namespace Mv
open PySem PySem.Spec PyProof.Rows L2
abbrev sFS : Stmt := topS 17
structure ClsN (K : PySem.W.Frag) (cls : Kd → Addr) : Prop where
  cl : ∀ k, Cls K (cls k)
  nm : ∀ k : Kd, ∃ u, Con K (cls k) "NAME" (.str k.nm) u
def fsR (k : Kd) (As Bs : List Int) (L M : List (Addr × List Int)) : Option (List Int × List Int) :=
  if k = .list then (clash (wds L) (wds M)).map fun p => pairW As Bs L M (some p)
  else if plainI k (wrd As Bs (L ++ M)) = plainI k (wrd As Bs (M ++ L)) then none else some (pairW As Bs L M none)
section
variable {P : Program} {w : World} {K : PySem.W.Frag} {mg : Str → Option Value} {base : Heap} {T : List (Addr × Str)} {cls : Kd → Addr} {CB : Addr}
theorem con_of {a dx : Addr} {k : Kd} {f : Str} {v : V} {σ : L2.St} {H : Hp} {Q : VK} {i : Nat} (hσ : σ[i]? = some (some (.ref a))) (ho : H a = some (.ins (cls k) dx [])) (c : Cls K (cls k)) (h : ∃ u, Con K (cls k) f v u) (q : Q v H) : tCon K (tVar i) f σ H Q := by
  obtain ⟨u, h⟩ := h
  exact ⟨_, hσ, a, cls k, dx, [], v, u, rfl, ho, c, h, rfl, q⟩
theorem wrd_len (As Bs : List Int) (L M : List (Addr × List Int)) : (wrd As Bs (L ++ M)).length = As.length + (wds (L ++ M)).flatten.length + Bs.length ∧ (wrd As Bs (M ++ L)).length = As.length + (wds (L ++ M)).flatten.length + Bs.length := by
  have e := flat_len_perm (L := M ++ L) (M := L ++ M) List.perm_append_comm
  unfold wrd
  rw [List.length_append, List.length_append, List.length_append, List.length_append]
  exact ⟨rfl, by rw [e]⟩
theorem scFS : FnScope ["kind", "u", "v", "before", "after", "named", "one", "other"] ["kind", "u", "v", "before", "after"] (defScope sFS) := ⟨rfl, rfl, rfl, by decide +kernel, rfl, by decide +kernel, by decide +kernel⟩
def spFS (K : PySem.W.Frag) (T : List (Addr × Str)) (CB : Addr) : Sp := fun vs H Q E => ∃ (v : V) (lu lv b c : Addr) (L M : List (Addr × List Int)) (As Bs : List Int), vs = [v, .ref lu, .ref lv, .ref b, .ref c] ∧ Pcs H lu L ∧ Pcs H lv M ∧ SqT K H b (As.map V.int) ∧ SqT K H c (Bs.map V.int) ∧ L.length ≤ 60 ∧ M.length ≤ 60 ∧ As.length + (wds (L ++ M)).flatten.length + Bs.length ≤ 60 ∧
  ((∃ k : Kd, v = .str k.nm ∧ LamX.Tabs T H ∧ ∀ H' : Hp, Gw T H H' → Res Q H' (fsR k As Bs L M)) ∨ (BadV H v ∧ Rs CB H v E))
theorem ok_fs {f : Addr} {fd : FuncData} (F : Fun K "free_shuffles" "free_shuffles" sFS f fd) (B : Bi mg) (C : ClsN K cls) (cKN : CalX (L2.CX P w) P w K mg base 3 "kind_named" (spKN cls CB)) (cPlain : ∀ k, MetX CX0 P w K mg base 3 (cls k) "plain" (spPlainM K cls T k)) (cWO : CalX CX0 P w K mg base 1 "word_of" (spWO K)) (cPP : CalX CX0 P w K mg base 2 "parted_parcels" (spPP K)) : FnOk P w K mg base (L2.CX P w) 4 f fd ["kind", "u", "v", "before", "after"] (spFS K T CB) := by
  refine F.okX scFS (fun vs H Q E h => ?_) (fun cdv A outer s H vs Q E hr h => ?_)
  · obtain ⟨v, lu, lv, b, c, L, M, As, Bs, rfl, _⟩ := h
    rfl
  · obtain ⟨v, lu, lv, b, c, L, M, As, Bs, rfl, pu, pv', hb, hc, hL, hM, hz, h⟩ := h
    rcases h with h | ⟨bv, rs⟩
    case' inr =>
      have k := Kd.list
      refine ⟨_, (pss_cons (ps_set (i := 5) scFS.nd rfl (.inl rfl) (pe_cx cKN hr (by decide) (passes_call (takes_of rfl rfl rfl rfl) (fun _ _ _ _ h => h)) (by rfl) (pa_cons (pv 0) pa_nil)))
 (pss_cons (ps_if (pt_cmpR op_eq (pe_con (pv 5) rfl) pe_str (nomark _))
 (pss_one (ps_ret (pe_cx cPP hr (by decide) pass0 (by rfl) (pa_cons (pv 1) (pa_cons (pv 2) (pa_cons (pv 3) (pa_cons (pv 4) pa_nil))))))) pss_nil)
 (pss_cons (ps_par (i := 6) (j := 7) rfl scFS.nd rfl rfl (by decide) rfl rfl (pa_cons (pe_cx cWO hr (by decide) pass0 (by rfl) (pa_cons (pv 3) (pa_cons (pe_op op_cat (pv 1) (pv 2)) (pa_cons (pv 4) pa_nil)))) (pa_cons (pe_cx cWO hr (by decide) pass0 (by rfl) (pa_cons (pv 3) (pa_cons (pe_op op_cat (pv 2) (pv 1)) (pa_cons (pv 4) pa_nil)))) pa_nil)) rfl)
 (pss_one (ps_ret (pe_ifExp (pt_cmpR (op_eqD hr.units) (pe_mx (cPlain k) hr (by decide) pass0 (pv 5) (pa_cons (pv 6) pa_nil)) (pe_mx (cPlain k) hr (by decide) pass0 (pv 5) (pa_cons (pv 7) pa_nil)) (nomark _)) pe_non (pe_tup (pa_cons (pv 6) (pa_cons (pv 7) pa_nil))))))))), ?_⟩
      simp only [tSeq, tAsg, gName, tOp, rI, rI0, rU, tUn, tVar, tC, tCB, tCons, tNil, tTest, tIfS, tRet, tRetN, tDrop, tNext, tBreak, tCont, rEq, rNe, CDiv, CDivN, CMul, tBM, tBM0, tTup, tLst, tAug, tIf, tAnd, tOr, tNot, tAndV, tOrV, tNotV, tIsN, tNotN, tB, scal, tCall, cxK, cxKn, rIxT, rIxL, rIn, rAppend, rReverse, tVals, tDSetd, tDGet, tDGet1, tDGet2, tDIn, tDNotIn, rSortV, rSortT, rPop, rSortL, rSortT, tSl, tNoPart, tPart, List.append_nil, L2.start, List.map_cons, List.map_nil, List.length_cons, List.length_nil, List.replicate_succ, List.replicate_zero, List.cons_append, List.nil_append, Nat.reduceAdd, Nat.reduceSub, exists_eq, exists_eq', tPar, List.getElem?_cons_zero, List.getElem?_cons_succ, List.set_cons_zero, List.set_cons_succ, Option.some.injEq, V.int.injEq, V.bl.injEq, V.str.injEq, V.ref.injEq, List.cons.injEq, and_true, true_and, and_false, false_and, reduceCtorEq, exists_false, or_false, false_or, exists_and_left, exists_and_right, exists_eq_left, exists_eq_left', exists_eq_right, exists_eq_right', exists_const, ite_true, ite_false, Bool.false_eq_true, if_true, if_false, decide_true, decide_false]
      exact ⟨_, rfl, .inr ⟨bv, rs⟩⟩
    obtain ⟨k, rfl, ht, q⟩ := h
    have hw := wrd_len As Bs L M
    refine ⟨_, (pss_cons (ps_set (i := 5) scFS.nd rfl (.inl rfl) (pe_cx cKN hr (by decide) (passes_call (takes_of rfl rfl rfl rfl) (fun _ _ _ _ h => h)) (by rfl) (pa_cons (pv 0) pa_nil)))
 (pss_cons (ps_if (pt_cmpR op_eq (pe_con (pv 5) rfl) pe_str (nomark _))
 (pss_one (ps_ret (pe_cx cPP hr (by decide) pass0 (by rfl) (pa_cons (pv 1) (pa_cons (pv 2) (pa_cons (pv 3) (pa_cons (pv 4) pa_nil))))))) pss_nil)
 (pss_cons (ps_par (i := 6) (j := 7) rfl scFS.nd rfl rfl (by decide) rfl rfl (pa_cons (pe_cx cWO hr (by decide) pass0 (by rfl) (pa_cons (pv 3) (pa_cons (pe_op op_cat (pv 1) (pv 2)) (pa_cons (pv 4) pa_nil)))) (pa_cons (pe_cx cWO hr (by decide) pass0 (by rfl) (pa_cons (pv 3) (pa_cons (pe_op op_cat (pv 2) (pv 1)) (pa_cons (pv 4) pa_nil)))) pa_nil)) rfl)
 (pss_one (ps_ret (pe_ifExp (pt_cmpR (op_eqD hr.units) (pe_mx (cPlain k) hr (by decide) pass0 (pv 5) (pa_cons (pv 6) pa_nil)) (pe_mx (cPlain k) hr (by decide) pass0 (pv 5) (pa_cons (pv 7) pa_nil)) (nomark _)) pe_non (pe_tup (pa_cons (pv 6) (pa_cons (pv 7) pa_nil))))))))), ?_⟩
    simp only [tSeq, tAsg, gName, tOp, rI, rI0, rU, tUn, tVar, tC, tCB, tCons, tNil, tTest, tIfS, tRet, tRetN, tDrop, tNext, tBreak, tCont, rEq, rNe, CDiv, CDivN, CMul, tBM, tBM0, tTup, tLst, tAug, tIf, tAnd, tOr, tNot, tAndV, tOrV, tNotV, tIsN, tNotN, tB, scal, tCall, cxK, cxKn, rIxT, rIxL, rIn, rAppend, rReverse, tVals, tDSetd, tDGet, tDGet1, tDGet2, tDIn, tDNotIn, rSortV, rSortT, rPop, rSortL, rSortT, tSl, tNoPart, tPart, List.append_nil, L2.start, List.map_cons, List.map_nil, List.length_cons, List.length_nil, List.replicate_succ, List.replicate_zero, List.cons_append, List.nil_append, Nat.reduceAdd, Nat.reduceSub, exists_eq, exists_eq', tPar, List.getElem?_cons_zero, List.getElem?_cons_succ, List.set_cons_zero, List.set_cons_succ, Option.some.injEq, V.int.injEq, V.bl.injEq, V.str.injEq, V.ref.injEq, List.cons.injEq, and_true, true_and, and_false, false_and, reduceCtorEq, exists_false, or_false, false_or, exists_and_left, exists_and_right, exists_eq_left, exists_eq_left', exists_eq_right, exists_eq_right', exists_const, ite_true, ite_false, Bool.false_eq_true, if_true, if_false, decide_true, decide_false]
    refine ⟨_, rfl, .inl ⟨k, rfl, fun H1 o s1 ho => ?_⟩⟩
    simp only [tSeq, tAsg, gName, tOp, rI, rI0, rU, tUn, tVar, tC, tCB, tCons, tNil, tTest, tIfS, tRet, tRetN, tDrop, tNext, tBreak, tCont, rEq, rNe, CDiv, CDivN, CMul, tBM, tBM0, tTup, tLst, tAug, tIf, tAnd, tOr, tNot, tAndV, tOrV, tNotV, tIsN, tNotN, tB, scal, tCall, cxK, cxKn, rIxT, rIxL, rIn, rAppend, rReverse, tVals, tDSetd, tDGet, tDGet1, tDGet2, tDIn, tDNotIn, rSortV, rSortT, rPop, rSortL, rSortT, tSl, tNoPart, tPart, List.append_nil, L2.start, List.map_cons, List.map_nil, List.length_cons, List.length_nil, List.replicate_succ, List.replicate_zero, List.cons_append, List.nil_append, Nat.reduceAdd, Nat.reduceSub, exists_eq, exists_eq', tPar, List.getElem?_cons_zero, List.getElem?_cons_succ, List.set_cons_zero, List.set_cons_succ, Option.some.injEq, V.int.injEq, V.bl.injEq, V.str.injEq, V.ref.injEq, List.cons.injEq, and_true, true_and, and_false, false_and, reduceCtorEq, exists_false, or_false, false_or, exists_and_left, exists_and_right, exists_eq_left, exists_eq_left', exists_eq_right, exists_eq_right', exists_const, ite_true, ite_false, Bool.false_eq_true, if_true, if_false, decide_true, decide_false]
    obtain ⟨dx, hd⟩ := id ho
    refine con_of rfl hd (C.cl k) (C.nm k) ?_
    refine ⟨rfl, ite2 (fun e => ?_) (fun e => ?_)⟩
    · obtain rfl : k = .list := by revert e; cases k <;> decide +kernel
      refine ⟨lu, lv, b, c, L, M, As, Bs, rfl, pu.same s1, pv'.same s1, Same.tup s1 hb, Same.tup s1 hc, hL, hM, hz, fun H2 s2 => ?_⟩
      exact q H2 (Gw.of ht (s1.trans s2))
    · have nk : k ≠ .list := fun z => by
        subst z
        exact e (by decide +kernel)
      have q' : ∀ H' : Hp, Gw T H H' → Res Q H' (if plainI k (wrd As Bs (L ++ M)) = plainI k (wrd As Bs (M ++ L)) then none else some (pairW As Bs L M none)) := fun H' g => by
        have := q H' g
        unfold fsR at this
        rwa [if_neg nk] at this
      clear q
      refine cat_pcs (pu.same s1) (pv'.same s1) (by omega) fun oA HA uA pA => ?_
      have s2 := s1.trans uA
      refine ⟨b, oA, c, _, As, Bs, rfl, Same.tup s2 hb, pA, Same.tup s2 hc, by omega, fun H3 t3 u3 h3 => ?_⟩
      have s3 := s2.trans u3
      refine cat_pcs (pv'.same s3) (pu.same s3) (by omega) fun oB HB uB pB => ?_
      have s4 := s3.trans uB
      have hfl := flat_len_perm (L := M ++ L) (M := L ++ M) List.perm_append_comm
      refine ⟨b, oB, c, _, As, Bs, rfl, Same.tup s4 hb, pB, Same.tup s4 hc, by omega, fun H5 t5 u5 h5 => ?_⟩
      have s5 := s4.trans u5
      have h3' := u5 _ _ (uB _ _ h3)
      refine ⟨_, _, ⟨rfl, rfl⟩, ?_⟩
      try simp only [tSeq, tAsg, gName, tOp, rI, rI0, rU, tUn, tVar, tC, tCB, tCons, tNil, tTest, tIfS, tRet, tRetN, tDrop, tNext, tBreak, tCont, rEq, rNe, CDiv, CDivN, CMul, tBM, tBM0, tTup, tLst, tAug, tIf, tAnd, tOr, tNot, tAndV, tOrV, tNotV, tIsN, tNotN, tB, scal, tCall, cxK, cxKn, rIxT, rIxL, rIn, rAppend, rReverse, tVals, tDSetd, tDGet, tDGet1, tDGet2, tDIn, tDNotIn, rSortV, rSortT, rPop, rSortL, rSortT, tSl, tNoPart, tPart, List.append_nil, L2.start, List.map_cons, List.map_nil, List.length_cons, List.length_nil, List.replicate_succ, List.replicate_zero, List.cons_append, List.nil_append, Nat.reduceAdd, Nat.reduceSub, exists_eq, exists_eq', List.getElem?_cons_zero, List.getElem?_cons_succ, List.set_cons_zero, List.set_cons_succ, Option.some.injEq, V.int.injEq, V.bl.injEq, V.str.injEq, V.ref.injEq, List.cons.injEq, and_true, true_and, and_false, false_and, reduceCtorEq, exists_false, or_false, false_or, exists_and_left, exists_and_right, exists_eq_left, exists_eq_left', exists_eq_right, exists_eq_right', exists_const, ite_true, ite_false, Bool.false_eq_true, if_true, if_false, decide_true, decide_false]
      have ho5 : KObj cls H5 o k := ho.ext (LamX.ExtN.of (((uA.trans u3).trans uB).trans u5))
      obtain ⟨dx2, hd2⟩ := id ho5
      clear uA u3 uB u5 s2 s3 s4 pA pB h3 hd
      refine ⟨.ref o, rfl, o, dx2, [], rfl, hd2, rfl, .ref t3, rfl, o, t3, wrd As Bs (L ++ M), rfl, ho5, .inl (tt h3'), by omega, ht.ext s5, fun H6 t6 g6 h6 => ?_⟩
      have ho6 := ho5.ext g6.1
      obtain ⟨dx3, hd3⟩ := id ho6
      refine ⟨.ref o, rfl, o, dx3, [], rfl, hd3, rfl, .ref t5, rfl, o, t5, wrd As Bs (M ++ L), rfl, ho6, .inl (ext_tup (tt h5) g6.1), by omega, g6.2, fun H7 t7 g7 h7 => ?_⟩
      have g07 := ((Gw.of ht s5).trans g6).trans g7
      have q7 := q' H7 g07
      refine eq_tups (ext_tup (tt h6) g7.1) (tt h7) ?_
      refine ⟨_, rfl, ite2 (fun e2 => ?_) (fun e2 => ⟨by decide, fun t8 ht8 => ?_⟩)⟩
      · rw [if_pos (of_decide_eq_true e2)] at q7
        exact q7
      · have s8 := same_upd (o := .tup [.ref t3, .ref t5]) ht8
        have q8 := q' _ (g07.trans (Gw.of g07.2 s8))
        rw [if_neg (fun z => e2 (decide_eq_true z))] at q8
        have gx := g6.trans g7
        exact q8 t8 t3 t5 upd_same (s8 _ _ (gx.1 _ _ h3' (fun ps z => by cases z))) (s8 _ _ (gx.1 _ _ h5 (fun ps z => by cases z)))
end
end Mv

set_option Elab.async false
set_option linter.all false
set_option maxRecDepth 100000
set_option maxHeartbeats 4000000
namespace Mv
open PySem PySem.Spec PyProof.Rows L2
abbrev sChained : Stmt := topS 35
theorem atI_lastI {w : List Int} (hw : w ≠ []) : ∃ x, lastI w = [x] ∧ atI (w.map V.int) (-1) = some (.int x) := by
  obtain ⟨v, x, rfl⟩ := snoc_of hw
  refine ⟨x, lastI_snoc v x, ?_⟩
  rw [List.map_append]
  exact atI_last _ _
theorem atI_firstI {w : List Int} (hw : w ≠ []) : ∃ x, firstI w = [x] ∧ atI (w.map V.int) 0 = some (.int x) := by
  cases w with
  | nil => exact absurd rfl hw
  | cons x w => exact ⟨x, rfl, atI_nat (j := 0) rfl⟩
theorem dec_of {p : Prop} [Decidable p] {b : Bool} (h : p ↔ b = true) : decide p = b := by
  cases b with
  | true => exact decide_eq_true (h.mpr rfl)
  | false => exact decide_eq_false fun z => Bool.noConfusion (h.mp z)
theorem eq_lists {K : PySem.W.Frag} {H : Hp} {a b : Addr} {xs ys : List Int} {Q : VK} (ha : SqL K H a (xs.map V.int)) (hb : SqL K H b (ys.map V.int)) (q : Q (.bl (decide (xs = ys))) H) : rEqD K (.ref a) (.ref b) H Q :=
  ⟨_, _, .lst ha (dp_ints xs), .lst hb (dp_ints ys), PySem.W.ke_shaped_ints xs, PySem.W.ke_shaped_ints ys, by rw [show PyData.eqv (.list (xs.map PyData.int)) (.list (ys.map PyData.int)) = decide (xs = ys) from eqvAll_ints xs ys]; exact q⟩
/-- where two lists clash, handed back -/
def ResC (Q : VK) (H : Hp) : Option (Nat × Nat) → Prop
  | none => Q .non H
  | some p => ∀ t : Addr, H t = some (.tup [.int (p.1 : Nat), .int (p.2 : Nat)]) → Q (.ref t) H
def freeI (k : Kd) (As Bs : List Int) (L M : List (Addr × List Int)) : Prop :=
  if k = .list then clash (wds L) (wds M) = none else swapOk k As Bs (wds L).flatten (wds M).flatten
section
variable {P : Program} {w : World} {K : PySem.W.Frag} {mg : Str → Option Value} {base : Heap} {T : List (Addr × Str)} {CB : Addr}
theorem scChained : FnScope ["_law_kind", "_law_one", "_law_other", "_law_size"] ["_law_kind", "_law_one", "_law_other"] (defScope sChained) := ⟨rfl, rfl, rfl, by decide +kernel, rfl, by decide +kernel, by decide +kernel⟩
def spChained : Sp := fun vs H Q _ => ∃ (k : Kd) (a b : Addr) (xs ys : List Int), vs = [.str k.nm, .ref a, .ref b] ∧ H a = some (.lst (xs.map V.int)) ∧ H b = some (.lst (ys.map V.int)) ∧ xs.length ≤ 500 ∧ ys.length ≤ 500 ∧
  ∀ (b' : Bool) (H' : Hp), Same H H' → ((if k = .heads then chn xs ys else chnT xs ys) ↔ b' = true) → Q (.bl b') H'
theorem ok_chained {f : Addr} {fd : FuncData} (F : Fun K "_law_chained" "_law_chained" sChained f fd) (B : Bi mg) (hmin : mg "min" = none) : FnOk P w K mg base CX0 1 f fd ["_law_kind", "_law_one", "_law_other"] spChained := by
  refine F.ok scChained (fun vs H Q E h => ?_) (fun cdv A outer s H vs Q E hr h => ?_)
  · obtain ⟨k, a, b, xs, ys, rfl, _⟩ := h
    rfl
  · obtain ⟨k, a, b, xs, ys, rfl, ha, hb, lx, ly, q⟩ := h
    refine ⟨_, (pss_cons (ps_set (i := 3) scChained.nd rfl (.inl rfl) (pe_callB (call_min2 rfl) (by rfl) hmin (by decide +kernel) (pa_cons (pe_callB call_len_seq (by rfl) B.len PySem.boot_len (pa_cons (pv 1) pa_nil)) (pa_cons (pe_callB call_len_seq (by rfl) B.len PySem.boot_len (pa_cons (pv 2) pa_nil)) pa_nil))))
 (pss_cons (ps_if (pt_cmpR op_eq (pv 0) pe_str (nomark _))
 (pss_one (ps_ret (pe_cmpR (op_eqD hr.units) (pe_slice sl_list (pv 1) po_none (po_some (pv 3))) (pe_slice sl_list (pv 2) po_none (po_some (pv 3))) (nomark _)))) pss_nil)
 (pss_one (ps_ret (pe_cmpR (op_eqD hr.units) (pe_slice sl_list (pv 1) (po_some (pe_op op_sub (pe_callB call_len_seq (by rfl) B.len PySem.boot_len (pa_cons (pv 1) pa_nil)) (pv 3))) po_none) (pe_slice sl_list (pv 2) (po_some (pe_op op_sub (pe_callB call_len_seq (by rfl) B.len PySem.boot_len (pa_cons (pv 2) pa_nil)) (pv 3))) po_none) (nomark _)))))), ?_⟩
    try simp only [tSeq, tAsg, gName, tOp, rI, rI0, rU, tUn, tVar, tC, tCB, tCons, tNil, tTest, tIfS, tRet, tRetN, tDrop, tNext, tBreak, tCont, rEq, rNe, CDiv, CDivN, CMul, tBM, tBM0, tTup, tLst, tAug, tIf, tAnd, tOr, tNot, tAndV, tOrV, tNotV, tIsN, tNotN, tB, scal, tCall, cxK, cxKn, rIxT, rIxL, rIn, rAppend, rReverse, tVals, tDSetd, tDGet, tDGet1, tDGet2, tDIn, tDNotIn, rSortV, rSortT, rPop, rSortL, rSortT, tSl, tNoPart, tPart, List.append_nil, L2.start, List.map_cons, List.map_nil, List.length_cons, List.length_nil, List.replicate_succ, List.replicate_zero, List.cons_append, List.nil_append, Nat.reduceAdd, Nat.reduceSub, exists_eq, exists_eq', List.getElem?_cons_zero, List.getElem?_cons_succ, List.set_cons_zero, List.set_cons_succ, Option.some.injEq, V.int.injEq, V.bl.injEq, V.str.injEq, V.ref.injEq, List.cons.injEq, and_true, true_and, and_false, false_and, reduceCtorEq, exists_false, or_false, false_or, exists_and_left, exists_and_right, exists_eq_left, exists_eq_left', exists_eq_right, exists_eq_right', exists_const, ite_true, ite_false, Bool.false_eq_true, if_true, if_false, decide_true, decide_false]
    refine ⟨_, .inl (ll ha), _, .inl (ll hb), _, _, ⟨rfl, rfl⟩, ?_⟩
    rw [List.length_map, List.length_map]
    have em : (if (ys.length : Int) < (xs.length : Int) then (ys.length : Int) else (xs.length : Int)) = ((min xs.length ys.length : Nat) : Int) := by
      split <;> omega
    rw [em]
    have m1 : min xs.length ys.length ≤ xs.length := Nat.min_le_left _ _
    have m2 : min xs.length ys.length ≤ ys.length := Nat.min_le_right _ _
    refine ite2 (fun e => ?_) (fun e => ?_)
    · obtain rfl : k = .heads := by revert e; cases k <;> decide +kernel
      refine ⟨a, _, rfl, ll ha, fun o1 h1 => ?_⟩
      rw [cutV_take, ← List.map_take]
      have s1 := same_upd (o := .lst ((xs.take (min xs.length ys.length)).map V.int)) h1
      refine ⟨b, _, rfl, ll (s1 _ _ hb), fun o2 h2 => ?_⟩
      rw [cutV_take, ← List.map_take]
      have s2 := same_upd (o := .lst ((ys.take (min xs.length ys.length)).map V.int)) h2
      refine eq_lists (ll (s2 _ _ upd_same)) (ll upd_same) (q _ _ (s1.trans s2) ?_)
      rw [if_pos rfl, chn_law, decide_eq_true_eq]
    · have nk : k ≠ .heads := fun z => by
        subst z
        exact e (by decide +kernel)
      rw [if_neg nk] at q
      refine ⟨_, .inl (ll ha), a, _, rfl, ll ha, fun o1 h1 => ?_⟩
      rw [List.length_map, ← Int.ofNat_sub m1, cutV_drop, ← List.map_drop]
      have s1 := same_upd (o := .lst ((xs.drop (xs.length - min xs.length ys.length)).map V.int)) h1
      refine ⟨_, .inl (ll (s1 _ _ hb)), b, _, rfl, ll (s1 _ _ hb), fun o2 h2 => ?_⟩
      rw [List.length_map, ← Int.ofNat_sub m2, cutV_drop, ← List.map_drop]
      have s2 := same_upd (o := .lst ((ys.drop (ys.length - min xs.length ys.length)).map V.int)) h2
      refine eq_lists (ll (s2 _ _ upd_same)) (ll upd_same) (q _ _ (s1.trans s2) ?_)
      rw [chnT_law, decide_eq_true_eq]
end
end Mv

set_option Elab.async false
set_option linter.all false
set_option maxRecDepth 100000
set_option maxHeartbeats 4000000
namespace Mv
open PySem PySem.Spec PyProof.Rows L2
abbrev PL := List (Addr × List Int)
def fl (L : PL) : List Int := (wds L).flatten
theorem fl_cons (q : Addr × List Int) (L : PL) : fl (q :: L) = q.2 ++ fl L := rfl
theorem fl_nil : fl [] = [] := rfl
theorem fl_app (L M : PL) : fl (L ++ M) = fl L ++ fl M := by
  unfold fl
  rw [wds_app, List.flatten_append]
theorem ne_of_len {q : List Int} (h : 1 ≤ q.length) : q ≠ [] := fun e => by rw [e] at h; exact absurd h (by decide)
/-! ### more words ahead or behind -/
theorem swap_ahead (k : Kd) {a b u v : List Int} (r : List Int) (h : swapOk k a b u v) : swapOk k (a ++ r) b u v := by
  have ha : a ≠ [] → a ++ r ≠ [] := fun n e => n (List.append_eq_nil_iff.mp e).1
  cases k with
  | list => exact h
  | bag => trivial
  | set => trivial
  | first => exact h.imp ha id
  | last => exact h
  | ends => exact ⟨h.1.imp ha id, h.2⟩
  | heads =>
    show chn (newI u (a ++ r)) (newI v (a ++ r))
    rw [new_more, new_more]
    exact chn_filter _ h
  | tails => exact h
theorem swap_behind (k : Kd) {a b u v : List Int} (r : List Int) (h : swapOk k a b u v) : swapOk k a (r ++ b) u v := by
  have hb : b ≠ [] → r ++ b ≠ [] := fun n e => n (List.append_eq_nil_iff.mp e).2
  cases k with
  | list => exact h
  | bag => trivial
  | set => trivial
  | first => exact h
  | last => exact h.imp hb id
  | ends => exact ⟨h.1, h.2.imp hb id⟩
  | heads => exact h
  | tails =>
    show chnT (rearI u (r ++ b)) (rearI v (r ++ b))
    have h' : chnT (rearI u b) (rearI v b) := h
    rw [← chn_rear] at h' ⊢
    rw [List.reverse_append, new_more, new_more]
    exact chn_filter _ h'
theorem swap_both (k : Kd) {a b u v r : List Int} (h : swapOk k a (r ++ b) u v) (h' : swapOk k (a ++ r) b u v) : swapOk k a b u v := by
  cases k with
  | list => exact h
  | bag => trivial
  | set => trivial
  | first => exact h
  | last => exact h'
  | ends => exact ⟨h.1, h'.2⟩
  | heads => exact h
  | tails => exact h'
theorem swap_refl (k : Kd) {a b u : List Int} (hu : u ≠ []) : swapOk k a b u u := (swap_iff k hu hu).mp rfl
/-! ### orders -/
def Two (k : Kd) (As Bs : List Int) (L : PL) : Prop := ∀ x ∈ L, ∀ y ∈ L, swapOk k As Bs x.2 y.2
theorem perm_same (k : Kd) {Bs : List Int} {N M : PL} (h : N.Perm M) : ∀ {As : List Int}, (∀ q ∈ M, 1 ≤ q.2.length) → Two k As Bs M → plainI k (As ++ fl N ++ Bs) = plainI k (As ++ fl M ++ Bs) := by
  induction h with
  | nil => exact fun _ _ => rfl
  | @cons x l1 l2 h ih =>
    intro As hq ht
    have := ih (As := As ++ x.2) (fun q hq' => hq q (List.mem_cons_of_mem _ hq')) fun a ha b hb => swap_ahead k _ (ht a (List.mem_cons_of_mem _ ha) b (List.mem_cons_of_mem _ hb))
    rw [fl_cons, fl_cons]
    simpa [List.append_assoc] using this
  | swap x y l =>
    intro As hq ht
    have hx : x.2 ≠ [] := ne_of_len (hq x List.mem_cons_self)
    have hy : y.2 ≠ [] := ne_of_len (hq y (List.mem_cons_of_mem _ List.mem_cons_self))
    have := (swap_iff k (a := As) (b := fl l ++ Bs) hy hx).mpr (swap_behind k _ (ht y (List.mem_cons_of_mem _ List.mem_cons_self) x List.mem_cons_self))
    rw [fl_cons, fl_cons, fl_cons, fl_cons]
    simpa [List.append_assoc] using this
  | @trans l1 l2 l3 h1 h2 ih1 ih2 =>
    intro As hq ht
    rw [ih1 (fun q hq' => hq q (h2.mem_iff.mp hq')) fun a ha b hb => ht a (h2.mem_iff.mp ha) b (h2.mem_iff.mp hb)]
    exact ih2 hq ht
def er2 (L : PL) (i j : Nat) : PL := (L.eraseIdx (max i j)).eraseIdx (min i j)
def mvd (L : PL) (i j : Nat) (ah : Bool) : PL := if ah = true then ((L[i]?).toList ++ (L[j]?).toList) ++ er2 L i j else er2 L i j ++ ((L[i]?).toList ++ (L[j]?).toList)
theorem er2_comm (L : PL) (i j : Nat) : er2 L i j = er2 L j i := by
  unfold er2
  rw [Nat.max_comm, Nat.min_comm]
theorem er2_eq {L : PL} {i j : Nat} (hij : i < j) (hj : j < L.length) : er2 L i j = L.take i ++ (L.drop (i + 1)).take (j - (i + 1)) ++ L.drop (j + 1) := by
  unfold er2
  rw [Nat.max_eq_right (Nat.le_of_lt hij), Nat.min_eq_left (Nat.le_of_lt hij), List.eraseIdx_eq_take_drop_succ L j]
  have l1 : i < (L.take j).length := by rw [List.length_take]; omega
  rw [List.eraseIdx_append_of_lt_length l1, List.eraseIdx_eq_take_drop_succ, List.take_take, Nat.min_eq_left (Nat.le_of_lt hij), List.drop_take]
theorem split2 {L : PL} {i j : Nat} (hij : i < j) (hj : j < L.length) : L = L.take i ++ (L[i]?).toList ++ (L.drop (i + 1)).take (j - (i + 1)) ++ (L[j]?).toList ++ L.drop (j + 1) := by
  have e1 : L.take (j + 1) = L.take j ++ (L[j]?).toList := List.take_add_one
  have e2 : L.take j = L.take (i + 1) ++ (L.drop (i + 1)).take (j - (i + 1)) := by
    conv => lhs; rw [show j = (i + 1) + (j - (i + 1)) by omega, List.take_add]
  have e3 : L.take (i + 1) = L.take i ++ (L[i]?).toList := List.take_add_one
  conv => lhs; rw [← List.take_append_drop (j + 1) L, e1, e2, e3]
theorem mvd_perm {L : PL} {i j : Nat} (hij : i < j) (hj : j < L.length) (ah : Bool) : (mvd L i j ah).Perm L ∧ (mvd L j i ah).Perm L := by
  have key : ∀ a b c d e : PL, (b ++ d ++ (a ++ c ++ e)).Perm (a ++ b ++ c ++ d ++ e) ∧ (d ++ b ++ (a ++ c ++ e)).Perm (a ++ b ++ c ++ d ++ e) ∧ (a ++ c ++ e ++ (b ++ d)).Perm (a ++ b ++ c ++ d ++ e) ∧ (a ++ c ++ e ++ (d ++ b)).Perm (a ++ b ++ c ++ d ++ e) := fun a b c d e => by
    refine ⟨?_, ?_, ?_, ?_⟩
    all_goals
      refine List.perm_iff_count.mpr fun z => ?_
      simp only [List.count_append]
      omega
  have k := key (L.take i) (L[i]?).toList ((L.drop (i + 1)).take (j - (i + 1))) (L[j]?).toList (L.drop (j + 1))
  rw [← split2 hij hj, ← er2_eq hij hj] at k
  unfold mvd
  rw [er2_comm L j i]
  cases ah with
  | true => exact ⟨k.1, k.2.1⟩
  | false => exact ⟨k.2.2.1, k.2.2.2⟩
def dif (k : Kd) (As Bs : List Int) (L : PL) (ah : Bool) (i j : Nat) : Option (List Int × List Int) :=
  if plainI k (wrd As Bs (mvd L i j ah)) = plainI k (wrd As Bs (mvd L j i ah)) then none else some (wrd As Bs (mvd L i j ah), wrd As Bs (mvd L j i ah))
def fo2 (k : Kd) (As Bs : List Int) (L : PL) (ah : Bool) (i : Nat) : Option (List Int × List Int) := (List.range L.length).findSome? fun j => if i < j then dif k As Bs L ah i j else none
def fo1 (k : Kd) (As Bs : List Int) (L : PL) (ah : Bool) : Option (List Int × List Int) := (List.range L.length).findSome? (fo2 k As Bs L ah)
def fo (k : Kd) (As Bs : List Int) (L : PL) : Option (List Int × List Int) := [true, false].findSome? (fo1 k As Bs L)
theorem fo_none {k : Kd} {As Bs : List Int} {L : PL} : fo k As Bs L = none ↔ ∀ ah i j, i < j → j < L.length → dif k As Bs L ah i j = none := by
  unfold fo fo1 fo2
  simp only [List.findSome?_eq_none_iff, List.mem_range]
  constructor
  · intro h ah i j hij hj
    have := h ah (by cases ah <;> simp) i (by omega) j hj
    rwa [if_pos hij] at this
  · intro h ah _ i _ j hj
    split
    · rename_i hij
      exact h ah i j hij hj
    · rfl
theorem fo_some {k : Kd} {As Bs : List Int} {L : PL} {p : List Int × List Int} (h : fo k As Bs L = some p) :
    ∃ ah i j, i < j ∧ j < L.length ∧ p = (wrd As Bs (mvd L i j ah), wrd As Bs (mvd L j i ah)) ∧ plainI k (wrd As Bs (mvd L i j ah)) ≠ plainI k (wrd As Bs (mvd L j i ah)) := by
  unfold fo fo1 fo2 at h
  obtain ⟨ah, _, h⟩ := List.exists_of_findSome?_eq_some h
  obtain ⟨i, _, h⟩ := List.exists_of_findSome?_eq_some h
  obtain ⟨j, hj, h⟩ := List.exists_of_findSome?_eq_some h
  split at h
  · rename_i hij
    unfold dif at h
    split at h
    · cases h
    · rename_i ne
      exact ⟨ah, i, j, hij, List.mem_range.mp hj, (Option.some.inj h).symm, ne⟩
  · cases h
theorem find_first {α β : Type} {f : α → Option β} : ∀ {l : List α} {i : Nat} {x : α} {y : β}, (∀ z ∈ l.take i, f z = none) → l[i]? = some x → f x = some y → l.findSome? f = some y
  | [], i, x, y, _, h, _ => by cases h
  | a :: l, 0, x, y, _, h, hy => by
    obtain rfl : a = x := Option.some.inj h
    rw [List.findSome?_cons, hy]
  | a :: l, i + 1, x, y, hn, h, hy => by
    rw [List.findSome?_cons, hn a (by rw [List.take_succ_cons]; exact List.mem_cons_self)]
    exact find_first (fun z hz => hn z (by rw [List.take_succ_cons]; exact List.mem_cons_of_mem _ hz)) h hy
def freeO (k : Kd) (As Bs : List Int) (L : PL) : Prop := ∀ (i j : Nat) (x y : Addr × List Int), j < i → L[i]? = some x → L[j]? = some y → swapOk k As Bs y.2 x.2
theorem free_two {k : Kd} {As Bs : List Int} {L : PL} (hq : ∀ q ∈ L, 1 ≤ q.2.length) (h : freeO k As Bs L) : Two k As Bs L := by
  intro x hx y hy
  obtain ⟨i, hi⟩ := List.mem_iff_getElem?.mp hx
  obtain ⟨j, hj⟩ := List.mem_iff_getElem?.mp hy
  rcases Nat.lt_trichotomy i j with l | l | l
  · exact h j i y x l hj hi
  · subst l
    obtain rfl : x = y := Option.some.inj (hi.symm.trans hj)
    exact swap_refl k (ne_of_len (hq x hx))
  · exact swapOk_comm k (h i j x y l hi hj)
theorem fo_free (k : Kd) {As Bs : List Int} {L : PL} (hq : ∀ q ∈ L, 1 ≤ q.2.length) : fo k As Bs L = none ↔ freeO k As Bs L := by
  rw [fo_none]
  constructor
  · intro h i j x y hji hi hj
    have hil := (List.getElem?_eq_some_iff.mp hi).1
    have hx := ne_of_len (hq x (List.mem_of_getElem? hi))
    have hy := ne_of_len (hq y (List.mem_of_getElem? hj))
    have un : ∀ ah, plainI k (wrd As Bs (mvd L j i ah)) = plainI k (wrd As Bs (mvd L i j ah)) := fun ah => by
      have := h ah j i hji hil
      unfold dif at this
      split at this
      · assumption
      · cases this
    have h1 := un true
    have h2 := un false
    have ei : (L[i]?).toList = [x] := by rw [hi]; rfl
    have ej : (L[j]?).toList = [y] := by rw [hj]; rfl
    unfold mvd wrd at h1 h2
    rw [if_pos rfl, if_pos rfl, er2_comm L i j] at h1
    rw [if_neg (by decide), if_neg (by decide), er2_comm L i j] at h2
    simp only [ei, ej, wds_app, List.flatten_append] at h1 h2
    refine swap_both k (r := fl (er2 L j i)) ?_ ?_
    · refine (swap_iff k hy hx).mp ?_
      simpa [wds, fl, List.append_assoc] using h1
    · refine (swap_iff k hy hx).mp ?_
      simpa [wds, fl, List.append_assoc] using h2
  · intro h ah i j hij hj
    have p := mvd_perm hij hj ah
    have t := free_two hq h
    unfold dif
    rw [if_pos]
    have e : ∀ N : PL, N.Perm L → plainI k (wrd As Bs N) = plainI k (wrd As Bs L) := fun N hN => perm_same k hN hq t
    rw [e _ p.1, e _ p.2]
/-! ### all orders -/
def rowsT (n : Nat) : Nat → List (List Nat)
  | 0 => [[]]
  | t + 1 => (rowsT n t).flatMap fun r => ((List.range n).filter fun k => decide (k ∉ r)).map fun k => r ++ [k]
theorem rows_sound (n : Nat) : ∀ t r, r ∈ rowsT n t → r.Nodup ∧ r.length = t ∧ ∀ x ∈ r, x < n
  | 0, r, h => by
    rw [List.mem_singleton.mp h]
    exact ⟨.nil, rfl, fun x hx => by cases hx⟩
  | t + 1, r, h => by
    obtain ⟨q, hq, hr⟩ := List.mem_flatMap.mp h
    obtain ⟨k, hk, rfl⟩ := List.mem_map.mp hr
    obtain ⟨hk1, hk2⟩ := List.mem_filter.mp hk
    obtain ⟨h1, h2, h3⟩ := rows_sound n t q hq
    have hk2 := of_decide_eq_true hk2
    refine ⟨?_, by rw [List.length_append, h2]; rfl, fun x hx => ?_⟩
    · rw [List.nodup_append]
      exact ⟨h1, by simp, fun a ha b hb e => hk2 (by rw [← List.mem_singleton.mp hb, ← e]; exact ha)⟩
    · rcases List.mem_append.mp hx with hx | hx
      · exact h3 x hx
      · rw [List.mem_singleton.mp hx]
        exact List.mem_range.mp hk1
theorem rows_all (n : Nat) : ∀ t (r : List Nat), r.Nodup → r.length = t → (∀ x ∈ r, x < n) → r ∈ rowsT n t
  | 0, r, _, h, _ => by
    rw [List.length_eq_zero_iff.mp h]
    exact List.mem_singleton.mpr rfl
  | t + 1, r, hn, hl, hx => by
    have hne : r ≠ [] := fun e => by rw [e] at hl; cases hl
    have e := List.dropLast_concat_getLast hne
    rw [← e] at hn hx ⊢
    rw [List.nodup_append] at hn
    refine List.mem_flatMap.mpr ⟨r.dropLast, rows_all n t _ hn.1 (by rw [List.length_dropLast]; omega) (fun x h => hx x (List.mem_append_left _ h)), List.mem_map.mpr ⟨_, List.mem_filter.mpr ⟨List.mem_range.mpr (hx _ (List.mem_append_right _ (List.mem_singleton.mpr rfl))), ?_⟩, rfl⟩⟩
    exact decide_eq_true fun h => hn.2.2 _ h _ (List.mem_singleton.mpr rfl) rfl
theorem rows_len (n : Nat) : ∀ t, (rowsT n t).length ≤ n ^ t
  | 0 => Nat.le_refl _
  | t + 1 => by
    have ih := rows_len n t
    show ((rowsT n t).flatMap _).length ≤ _
    rw [List.length_flatMap]
    have : ∀ R : List (List Nat), (R.map fun r => (((List.range n).filter fun k => decide (k ∉ r)).map fun k => r ++ [k]).length).sum ≤ n * R.length := fun R => by
      induction R with
      | nil => exact Nat.le_refl _
      | cons r R ih =>
        rw [List.map_cons, List.sum_cons, List.length_cons, List.length_map]
        have := List.length_filter_le (fun k => decide (k ∉ r)) (List.range n)
        rw [List.length_range] at this
        rw [Nat.mul_succ]
        omega
    have := this (rowsT n t)
    rw [Nat.pow_succ, Nat.mul_comm]
    exact Nat.le_trans this (Nat.mul_le_mul_left _ ih)
def ofRow (L : PL) (r : List Nat) : PL := r.filterMap fun k => L[k]?
theorem perm_of_nodup {α : Type} [DecidableEq α] : ∀ {r S : List α}, r.Nodup → S.length = r.length → (∀ x ∈ r, x ∈ S) → r.Perm S
  | [], S, _, h, _ => by
    rw [List.length_eq_zero_iff.mp h]
  | x :: r, S, hn, hl, hx => by
    have hS := hx x List.mem_cons_self
    have hn' := List.nodup_cons.mp hn
    have p := List.perm_cons_erase hS
    have ih := perm_of_nodup (r := r) (S := S.erase x) hn'.2 (by rw [List.length_erase_of_mem hS, hl]; rfl) fun y hy => (List.mem_erase_of_ne (fun e => hn'.1 (by rw [← e]; exact hy))).mpr (hx y (List.mem_cons_of_mem _ hy))
    exact (ih.cons x).trans p.symm
theorem ofRow_range (L : PL) : ofRow L (List.range L.length) = L := by
  unfold ofRow
  apply List.ext_getElem?
  intro i
  have : ∀ n, n ≤ L.length → (List.range n).filterMap (fun k => L[k]?) = L.take n := fun n => by
    induction n with
    | zero => exact fun _ => by simp
    | succ n ih =>
      intro h
      rw [List.range_succ, List.filterMap_append, ih (by omega), List.take_add_one]
      rw [List.getElem?_eq_getElem (show n < L.length by omega)]
      simp [List.getElem?_eq_getElem (show n < L.length by omega)]
  rw [this _ (Nat.le_refl _), List.take_length]
theorem row_perm {L : PL} {r : List Nat} (h : r ∈ rowsT L.length L.length) : (ofRow L r).Perm L := by
  obtain ⟨h1, h2, h3⟩ := rows_sound _ _ _ h
  have p : r.Perm (List.range L.length) := perm_of_nodup h1 (by rw [List.length_range, h2]) fun x hx => List.mem_range.mpr (h3 x hx)
  have := p.filterMap fun k => L[k]?
  have e := ofRow_range L
  unfold ofRow at e ⊢
  rwa [e] at this
theorem perm_lift {α β : Type} {f : α → β} {N M : List β} (h : N.Perm M) : ∀ {l : List α}, M = l.map f → ∃ l' : List α, l'.Perm l ∧ l'.map f = N := by
  induction h with
  | nil => exact fun {l} e => ⟨l, .refl _, e.symm⟩
  | @cons x l1 l2 h ih =>
    intro l e
    cases l with
    | nil => cases e
    | cons a l =>
      injection e with e1 e2
      obtain ⟨l', p, e'⟩ := ih e2
      exact ⟨a :: l', p.cons a, by rw [List.map_cons, e', ← e1]⟩
  | swap x y l0 =>
    intro l e
    match l, e with
    | a :: b :: l, e =>
      injection e with e1 e2
      injection e2 with e2 e3
      exact ⟨b :: a :: l, .swap _ _ _, by rw [List.map_cons, List.map_cons, ← e1, ← e2, ← e3]⟩
  | trans h1 h2 ih1 ih2 =>
    intro l e
    obtain ⟨l1, p1, e1⟩ := ih2 e
    obtain ⟨l2, p2, e2⟩ := ih1 e1.symm
    exact ⟨l2, p2.trans p1, e2⟩
theorem row_of {L N : PL} (h : N.Perm L) : ∃ r ∈ rowsT L.length L.length, ofRow L r = N := by
  obtain ⟨Z, hZ, eZ⟩ := perm_lift (f := fun p : (Addr × List Int) × Nat => p.1) h (l := L.zipIdx) (by simp)
  have e2 : (L.zipIdx.map fun p => p.2) = List.range L.length := by
    rw [List.range_eq_range']
    simp
  have pr : (Z.map fun p => p.2).Perm (List.range L.length) := by
    rw [← e2]
    exact hZ.map _
  refine ⟨Z.map fun p => p.2, rows_all _ _ _ (pr.nodup_iff.mpr List.nodup_range) (by rw [pr.length_eq, List.length_range]) (fun x hx => List.mem_range.mp (pr.mem_iff.mp hx)), ?_⟩
  have hm : ∀ p ∈ Z, L[p.2]? = some p.1 := fun p hp => by
    have := hZ.mem_iff.mp hp
    exact List.mem_zipIdx_iff_getElem?.mp this
  have : ∀ Z : List ((Addr × List Int) × Nat), (∀ p ∈ Z, L[p.2]? = some p.1) → ofRow L (Z.map fun p => p.2) = Z.map fun p => p.1 := fun Z => by
    induction Z with
    | nil => exact fun _ => rfl
    | cons p Z ih =>
      intro h
      unfold ofRow at ih ⊢
      rw [List.map_cons, List.filterMap_cons, h p List.mem_cons_self, ih fun q hq => h q (List.mem_cons_of_mem _ hq)]
      rfl
  rw [this Z hm, eZ]
end Mv

set_option Elab.async false
set_option linter.all false
set_option maxRecDepth 100000
set_option maxHeartbeats 4000000
namespace Mv
open PySem PySem.Spec PyProof.Rows L2
abbrev sMP : Stmt := topS 20
abbrev sFO : Stmt := topS 19
theorem cat_new {H : Hp} {a b : Addr} {L M : PL} {Q : VK} (pa : Pcs H a L) (pb : Pcs H b M) (hz : L.length + M.length ≤ 1000) (q : ∀ (o : Addr) (H' : Hp), H o = none → Same H H' → Pcs H' o (L ++ M) → Q (.ref o) H') : rCat (.ref a) (.ref b) H Q := by
  refine ⟨a, b, _, _, rfl, rfl, pa.at_, pb.at_, by rw [List.length_map, List.length_map]; exact small1000' hz, fun o ho => ?_⟩
  rw [← List.map_append]
  have s := same_upd (o := .lst ((L ++ M).map fun q => V.ref q.1)) ho
  exact q o _ ho s ⟨upd_same, fun r hr => s _ _ ((List.mem_append.mp hr).elim (pa.all r) (pb.all r))⟩
/-- what is left without two places, item by item -/
theorem er2_snoc {l : PL} {x : Addr × List Int} {i j : Nat} (hij : i ≠ j) : er2 (l ++ [x]) i j = if l.length = i ∨ l.length = j then er2 l i j else er2 l i j ++ [x] := by
  have key : ∀ i j : Nat, i < j → (((l ++ [x]).eraseIdx j).eraseIdx i) = if l.length = i ∨ l.length = j then ((l.eraseIdx j).eraseIdx i) else ((l.eraseIdx j).eraseIdx i) ++ [x] := fun i j h => by
    have ge : ∀ (m : PL) (n : Nat), m.length ≤ n → m.eraseIdx n = m := fun m n h => List.eraseIdx_of_length_le h
    have eq : ∀ (m : PL), (m ++ [x]).eraseIdx m.length = m := fun m => by
      rw [List.eraseIdx_append_of_length_le (Nat.le_refl _), Nat.sub_self]
      simp
    have lt : ∀ (m : PL) (n : Nat), n < m.length → (m ++ [x]).eraseIdx n = m.eraseIdx n ++ [x] := fun m n h => List.eraseIdx_append_of_lt_length h _
    have l1 : (l ++ [x]).length = l.length + 1 := by rw [List.length_append]; rfl
    rcases Nat.lt_trichotomy l.length j with lj | lj | lj
    · rw [ge (l ++ [x]) j (by omega), ge l j (by omega)]
      rcases Nat.lt_trichotomy l.length i with li | li | li
      · rw [ge (l ++ [x]) i (by omega), ge l i (by omega), if_neg (by omega)]
      · subst li
        rw [eq l, if_pos (.inl rfl), ge l l.length (Nat.le_refl _)]
      · rw [lt l i li, if_neg (by omega)]
    · subst lj
      rw [eq l, if_pos (.inr rfl), ge l l.length (Nat.le_refl _)]
    · rw [lt l j lj, if_neg (by omega)]
      have : i < (l.eraseIdx j).length := by
        rw [List.length_eraseIdx_of_lt lj]
        omega
      rw [lt _ i this]
  unfold er2
  rcases Nat.lt_or_gt_of_ne hij with h | h
  · rw [Nat.max_eq_right (Nat.le_of_lt h), Nat.min_eq_left (Nat.le_of_lt h)]
    exact key i j h
  · rw [Nat.max_eq_left (Nat.le_of_lt h), Nat.min_eq_right (Nat.le_of_lt h), key j i h]
    simp only [Or.comm]
section
variable {P : Program} {w : World} {K : PySem.W.Frag} {mg : Str → Option Value} {base : Heap} {T : List (Addr × Str)} {cls : Kd → Addr} {CB : Addr}
theorem scMP : FnScope ["parcels", "i", "j", "ahead", "pair", "rest", "at", "parcel"] ["parcels", "i", "j", "ahead"] (defScope sMP) := ⟨rfl, rfl, rfl, by decide +kernel, rfl, by decide +kernel, by decide +kernel⟩
def spMP : Sp := fun vs H Q _ => ∃ (l : Addr) (L : PL) (i j : Nat) (ah : Bool), vs = [.ref l, .int i, .int j, .bl ah] ∧ Pcs H l L ∧ i < L.length ∧ j < L.length ∧ i ≠ j ∧ L.length ≤ 60 ∧
  ∀ (H' : Hp) (o : Addr), Same H H' → Pcs H' o (mvd L i j ah) → Q (.ref o) H'
theorem ok_mp {f : Addr} {fd : FuncData} (F : Fun K "moved_pair" "moved_pair" sMP f fd) (B : Bi mg) : FnOk P w K mg base CX0 1 f fd ["parcels", "i", "j", "ahead"] spMP := by
  refine F.ok scMP (fun vs H Q E h => ?_) (fun cdv A outer s H vs Q E hr h => ?_)
  · obtain ⟨l, L, i, j, ah, rfl, _⟩ := h
    rfl
  · obtain ⟨l, L, i, j, ah, rfl, pl, hi, hj, hij, hL, q⟩ := h
    have hqi : L[i]? = some L[i] := List.getElem?_eq_getElem hi
    have hqj : L[j]? = some L[j] := List.getElem?_eq_getElem hj
    generalize L[i] = qi at hqi
    generalize L[j] = qj at hqj
    have ati : (L.map fun q => V.ref q.1)[i]? = some (.ref qi.1) := by
      rw [List.getElem?_map, hqi]
      rfl
    have atj : (L.map fun q => V.ref q.1)[j]? = some (.ref qj.1) := by
      rw [List.getElem?_map, hqj]
      rfl
    refine ⟨_, (pss_cons (ps_set (i := 4) scMP.nd rfl (.inl rfl) (pe_lst (pa_cons (pe_ix ix_list (pv 0) (pv 1) (fun _ _ => rfl)) (pa_cons (pe_ix ix_list (pv 0) (pv 2) (fun _ _ => rfl)) pa_nil))))
 (pss_cons (ps_setLc (i := 5) (own := [("at", 6), ("parcel", 7)]) (g := gTup K 2 (gCons (gName 6) (gCons (gName 7) gNil))) (tt := (tAnd (tTest (tOp rNe (tVar 6) (tVar 1))) (tTest (tOp rNe (tVar 6) (tVar 2))))) (te := (tVar 7)) rfl scMP.nd rfl rfl (sw_true rfl rfl rfl (by decide +kernel)) (pi_enum (by rfl) B.enumerate (pa_cons (pv 0) pa_nil)) (blkOk_by (N := ["parcels", "i", "j", "ahead", "pair", "rest", "at", "parcel"]) (sc := defScope sMP) (by decide +kernel)) (fun _ _ _ _ _ => (pg_tup rfl (pgs_cons (pg_name (i := 6) scMP.nd rfl (.inl rfl)) (pgs_cons (pg_name (i := 7) scMP.nd rfl (.inl rfl)) pgs_nil)))) (fun _ _ _ _ _ => (pts_one (PW.pt (pw_and (pt_cmpR op_ne (pv 6) (pv 1) (nomark _)) (pw_and1 (pt_cmpR op_ne (pv 6) (pv 2) (nomark _))))))) (fun _ _ _ _ _ => (pv 7)))
 (pss_one (ps_ret (pe_ifExp (pt_val (pv 3)) (pe_op op_cat (pv 4) (pv 5)) (pe_op op_cat (pv 5) (pv 4))))))), ?_⟩
    try simp only [tSeq, tAsg, gName, tOp, rI, rI0, rU, tUn, tVar, tC, tCB, tCons, tNil, tTest, tIfS, tRet, tRetN, tDrop, tNext, tBreak, tCont, rEq, rNe, CDiv, CDivN, CMul, tBM, tBM0, tTup, tLst, tAug, tIf, tAnd, tOr, tNot, tAndV, tOrV, tNotV, tIsN, tNotN, tB, scal, tCall, cxK, cxKn, rIxT, rIxL, rIn, rAppend, rReverse, tVals, tDSetd, tDGet, tDGet1, tDGet2, tDIn, tDNotIn, rSortV, rSortT, rPop, rSortL, rSortT, tSl, tNoPart, tPart, List.append_nil, L2.start, List.map_cons, List.map_nil, List.length_cons, List.length_nil, List.replicate_succ, List.replicate_zero, List.cons_append, List.nil_append, Nat.reduceAdd, Nat.reduceSub, exists_eq, exists_eq', List.getElem?_cons_zero, List.getElem?_cons_succ, List.set_cons_zero, List.set_cons_succ, Option.some.injEq, V.int.injEq, V.bl.injEq, V.str.injEq, V.ref.injEq, List.cons.injEq, and_true, true_and, and_false, false_and, reduceCtorEq, exists_false, or_false, false_or, exists_and_left, exists_and_right, exists_eq_left, exists_eq_left', exists_eq_right, exists_eq_right', exists_const, ite_true, ite_false, Bool.false_eq_true, if_true, if_false, decide_true, decide_false]
    refine ⟨_, ll pl.at_, _, atI_nat ati, _, ll pl.at_, _, atI_nat atj, by decide, fun o1 h1 => ?_⟩
    have s1 := same_upd (o := .lst [.ref qi.1, .ref qj.1]) h1
    have p1 := Pcs.new2 (q := qi) (r := qj) h1 (pl.all qi (List.mem_of_getElem? hqi)) (pl.all qj (List.mem_of_getElem? hqj))
    refine ⟨.ref l, rfl, l, _, rfl, ll (s1 _ _ pl.at_), fun D hD => lc_it walk_enum (fun n H' => Same (upd H o1 (.lst [.ref qi.1, .ref qj.1])) H' ∧ Pcs H' D (er2 (L.take n) i j))
      ⟨same_upd hD, ⟨by rw [List.take_zero]; exact upd_same, fun q hq => (by rw [List.take_zero] at hq; unfold er2 at hq; simp at hq)⟩⟩ (fun n H' _ h => ll (h.1 _ _ (s1 _ _ pl.at_))) ?_ ?_⟩
    · rintro n x H3 H4 hn ⟨s3, pD⟩ ⟨t, x1, x2, rfl, nT, rfl, e1, e2⟩
      obtain rfl : V.int (n : Nat) = x1 := Option.some.inj e1
      obtain ⟨qn, hqn, rfl⟩ := wds_at e2
      rw [List.length_map] at hn
      have smT : Same H3 (upd H3 t (.tup [.int (n : Nat), .ref qn.1])) := same_upd nT
      refine ⟨t, [.int (n : Nat), .ref qn.1], rfl, .inl (.inl upd_same), rfl, .int (n : Nat), [.int (n : Nat), .ref qn.1].tail, rfl, .ref qn.1, [], rfl, rfl, ?_⟩
      have s4 := s3.trans smT
      have pD4 := pD.same smT
      generalize upd H3 t (.tup [.int (n : Nat), .ref qn.1]) = H4 at s4 pD4 ⊢
      refine ⟨rfl, ?_⟩
      simp only [tSeq, tAsg, gName, tOp, rI, rI0, rU, tUn, tVar, tC, tCB, tCons, tNil, tTest, tIfS, tRet, tRetN, tDrop, tNext, tBreak, tCont, rEq, rNe, CDiv, CDivN, CMul, tBM, tBM0, tTup, tLst, tAug, tIf, tAnd, tOr, tNot, tAndV, tOrV, tNotV, tIsN, tNotN, tB, scal, tCall, cxK, cxKn, rIxT, rIxL, rIn, rAppend, rReverse, tVals, tDSetd, tDGet, tDGet1, tDGet2, tDIn, tDNotIn, rSortV, rSortT, rPop, rSortL, rSortT, tSl, tNoPart, tPart, List.append_nil, L2.start, List.map_cons, List.map_nil, List.length_cons, List.length_nil, List.replicate_succ, List.replicate_zero, List.cons_append, List.nil_append, Nat.reduceAdd, Nat.reduceSub, exists_eq, exists_eq', wipe, tAnd, List.getElem?_cons_zero, List.getElem?_cons_succ, List.set_cons_zero, List.set_cons_succ, Option.some.injEq, V.int.injEq, V.bl.injEq, V.str.injEq, V.ref.injEq, List.cons.injEq, and_true, true_and, and_false, false_and, reduceCtorEq, exists_false, or_false, false_or, exists_and_left, exists_and_right, exists_eq_left, exists_eq_left', exists_eq_right, exists_eq_right', exists_const, ite_true, ite_false, Bool.false_eq_true, if_true, if_false, decide_true, decide_false]
      have el : (L.take n).length = n := by rw [List.length_take]; omega
      have es : er2 (L.take (n + 1)) i j = if n = i ∨ n = j then er2 (L.take n) i j else er2 (L.take n) i j ++ [qn] := by
        rw [List.take_add_one, hqn]
        have := er2_snoc (l := L.take n) (x := qn) hij
        rw [el] at this
        exact this
      rw [es]
      refine ite2 (fun e => ite2 (fun e' => ?_) (fun e' => ?_)) (fun e => ?_)
      · have ne : ¬ (n = i ∨ n = j) := by
          simp only [Bool.not_eq_true', decide_eq_false_iff_not, Int.natCast_inj] at e e'
          omega
        rw [if_neg ne]
        have lz : (er2 (L.take n) i j).length ≤ 60 := by
          unfold er2
          have := List.length_eraseIdx_le ((L.take n).eraseIdx (max i j)) (min i j)
          have := List.length_eraseIdx_le (L.take n) (max i j)
          omega
        refine ⟨_, pD4.at_, by rw [List.length_map]; exact small1000 (by omega), fun b o e => ?_, pD4.snoc (s4 _ _ (s1 _ _ (pl.all qn (List.mem_of_getElem? hqn))))⟩
        rw [upd_ne (ne_of_none e hD)]
        exact s4 _ _ e
      · have eq : n = i ∨ n = j := by
          simp only [Bool.not_eq_true', decide_eq_false_iff_not, Int.natCast_inj, Decidable.not_not] at e'
          exact .inr e'
        rw [if_pos eq]
        exact ⟨s4, pD4⟩
      · have eq : n = i ∨ n = j := by
          simp only [Bool.not_eq_true', decide_eq_false_iff_not, Int.natCast_inj, Decidable.not_not] at e
          exact .inl e
        rw [if_pos eq]
        exact ⟨s4, pD4⟩
    · rintro H3 ⟨s3, pD⟩
      rw [List.length_map, List.take_length] at pD
      have lz : (er2 L i j).length ≤ 60 := by
        unfold er2
        have := List.length_eraseIdx_le (L.eraseIdx (max i j)) (min i j)
        have := List.length_eraseIdx_le L (max i j)
        omega
      have s13 := s1.trans s3
      have em : ∀ b, mvd L i j b = if b = true then [qi, qj] ++ er2 L i j else er2 L i j ++ [qi, qj] := fun b => by
        unfold mvd
        rw [hqi, hqj]
        rfl
      rw [em] at q
      cases ah with
      | true =>
        refine if_T rfl (cat_new (p1.same s3) pD (by simp only [List.length_cons, List.length_nil]; omega) fun o H5 _ s5 p5 => q H5 o (s13.trans s5) ?_)
        rw [if_pos rfl]
        exact p5
      | false =>
        refine if_F rfl (cat_new pD (p1.same s3) (by simp only [List.length_cons, List.length_nil]; omega) fun o H5 _ s5 p5 => q H5 o (s13.trans s5) ?_)
        rw [if_neg (by decide)]
        exact p5
def _root_.Mv.Kd.ordl : Kd → Bool
  | .bag => true
  | .set => true
  | _ => false
structure ClsO (K : PySem.W.Frag) (cls : Kd → Addr) : Prop where
  cl : ∀ k, Cls K (cls k)
  od : ∀ k : Kd, ∃ u, Con K (cls k) "ORDERLESS" (.bl k.ordl) u
theorem scFO : FnScope ["kind", "parcels", "before", "after", "named", "ahead", "i", "j", "one", "other"] ["kind", "parcels", "before", "after"] (defScope sFO) := ⟨rfl, rfl, rfl, by decide +kernel, rfl, by decide +kernel, by decide +kernel⟩
def spFO (K : PySem.W.Frag) (T : List (Addr × Str)) (CB : Addr) : Sp := fun vs H Q E => ∃ (v : V) (l b c : Addr) (L : PL) (As Bs : List Int), vs = [v, .ref l, .ref b, .ref c] ∧ Pcs H l L ∧ SqT K H b (As.map V.int) ∧ SqT K H c (Bs.map V.int) ∧ L.length ≤ 60 ∧ (∀ q ∈ L, 1 ≤ q.2.length) ∧ As.length + (wds L).flatten.length + Bs.length ≤ 60 ∧
  ((∃ k : Kd, v = .str k.nm ∧ LamX.Tabs T H ∧ ∀ H' : Hp, Gw T H H' → Res Q H' (fo k As Bs L)) ∨ (BadV H v ∧ Rs CB H v E))
abbrev foN : List Str := ["kind", "parcels", "before", "after", "named", "ahead", "i", "j", "one", "other"]
theorem fo_rest {f : Addr} {cdv : Value} {A : Around} {outer : List Env} {s : Shared} {H0 : Hp} {E : XK} (B : Bi mg) (hr : Room 3 (A.deeper (envOfC "free_orders" (defScope sFO) s.heap.objs.size f cdv))) (k : Kd) (cPlain : ∀ k, MetX CX0 P w K mg base 3 (cls k) "plain" (spPlainM K cls T k)) (cWO : CalX CX0 P w K mg base 1 "word_of" (spWO K)) (cMP : CalX CX0 P w K mg base 1 "moved_pair" spMP) :
    ∃ t, PSs (cxOf (L2.CX P w) P w K mg base foN "free_orders" (defScope sFO) f cdv A outer s H0 E).nox ((defBody sFO).drop 2) t ∧
      ∀ (Q : VK) (l b c o : Addr) (L : PL) (As Bs : List Int) (H : Hp), Pcs H l L → SqT K H b (As.map V.int) → SqT K H c (Bs.map V.int) → L.length ≤ 60 → As.length + (wds L).flatten.length + Bs.length ≤ 60 → KObj cls H o k → LamX.Tabs T H → (∀ H' : Hp, Gw T H H' → Res Q H' (fo k As Bs L)) →
        t { nx := fun _ H' => Q .non H', rt := Q } [some (.str k.nm), some (.ref l), some (.ref b), some (.ref c), some (.ref o), none, none, none, none, none] H := by
  refine ⟨_, (pss_cons (ps_for PassesOwn.never rfl (pi_tup (pe_tup (pa_cons pe_bl (pa_cons pe_bl pa_nil)))) (pg_name (i := 5) scFO.nd rfl (.inl rfl))
 (pss_one (ps_for PassesOwn.never rfl (pi_range1 (by rfl) B.range (pa_cons (pe_callB call_len_seq (by rfl) B.len PySem.boot_len (pa_cons (pv 1) pa_nil)) pa_nil)) (pg_name (i := 6) scFO.nd rfl (.inl rfl))
 (pss_one (ps_for PassesOwn.never rfl (pi_range2 (by rfl) B.range (pa_cons (pe_op op_add (pv 6) pe_int) (pa_cons (pe_callB call_len_seq (by rfl) B.len PySem.boot_len (pa_cons (pv 1) pa_nil)) pa_nil))) (pg_name (i := 7) scFO.nd rfl (.inl rfl))
 (pss_cons (ps_set (i := 8) scFO.nd rfl (.inl rfl) (pe_cx cWO hr (by decide) pass0 (by rfl) (pa_cons (pv 2) (pa_cons (pe_cx cMP hr (by decide) pass0 (by rfl) (pa_cons (pv 1) (pa_cons (pv 6) (pa_cons (pv 7) (pa_cons (pv 5) pa_nil))))) (pa_cons (pv 3) pa_nil)))))
 (pss_cons (ps_set (i := 9) scFO.nd rfl (.inl rfl) (pe_cx cWO hr (by decide) pass0 (by rfl) (pa_cons (pv 2) (pa_cons (pe_cx cMP hr (by decide) pass0 (by rfl) (pa_cons (pv 1) (pa_cons (pv 7) (pa_cons (pv 6) (pa_cons (pv 5) pa_nil))))) (pa_cons (pv 3) pa_nil)))))
 (pss_one (ps_if (pt_cmpR (op_neD hr.units) (pe_mx (cPlain k) hr (by decide) pass0 (pv 4) (pa_cons (pv 8) pa_nil)) (pe_mx (cPlain k) hr (by decide) pass0 (pv 4) (pa_cons (pv 9) pa_nil)) (nomark _))
 (pss_one (ps_ret (pe_tup (pa_cons (pv 8) (pa_cons (pv 9) pa_nil))))) pss_nil)))))))))
 (pss_one (ps_ret pe_non))), ?_⟩
  rintro Q l b c o L As Bs H pl hb hc hL hz ho ht q
  have wl : ∀ N : PL, N.Perm L → (wrd As Bs N).length ≤ 60 := fun N hN => by
    have := flat_len_perm hN
    unfold wrd
    simp only [List.length_append]
    omega
  try simp only [tSeq, tAsg, gName, tOp, rI, rI0, rU, tUn, tVar, tC, tCB, tCons, tNil, tTest, tIfS, tRet, tRetN, tDrop, tNext, tBreak, tCont, rEq, rNe, CDiv, CDivN, CMul, tBM, tBM0, tTup, tLst, tAug, tIf, tAnd, tOr, tNot, tAndV, tOrV, tNotV, tIsN, tNotN, tB, scal, tCall, cxK, cxKn, rIxT, rIxL, rIn, rAppend, rReverse, tVals, tDSetd, tDGet, tDGet1, tDGet2, tDIn, tDNotIn, rSortV, rSortT, rPop, rSortL, rSortT, tSl, tNoPart, tPart, List.append_nil, L2.start, List.map_cons, List.map_nil, List.length_cons, List.length_nil, List.replicate_succ, List.replicate_zero, List.cons_append, List.nil_append, Nat.reduceAdd, Nat.reduceSub, exists_eq, exists_eq', List.getElem?_cons_zero, List.getElem?_cons_succ, List.set_cons_zero, List.set_cons_succ, Option.some.injEq, V.int.injEq, V.bl.injEq, V.str.injEq, V.ref.injEq, List.cons.injEq, and_true, true_and, and_false, false_and, reduceCtorEq, exists_false, or_false, false_or, exists_and_left, exists_and_right, exists_eq_left, exists_eq_left', exists_eq_right, exists_eq_right', exists_const, ite_true, ite_false, Bool.false_eq_true, if_true, if_false, decide_true, decide_false]
  refine ⟨by decide, fun tk htk => ?_⟩
  have sk := same_upd (o := .tup [.bl true, .bl false]) htk
  refine ⟨tk, rfl, ⟨_, tt upd_same⟩, for_tup (K := K) (xs := [.bl true, .bl false]) (fun n σ H' => ∃ (y5 y6 y7 y8 y9 : Option V), σ = [some (.str k.nm), some (.ref l), some (.ref b), some (.ref c), some (.ref o), y5, y6, y7, y8, y9] ∧ Gw T H H' ∧ H' tk = some (.tup [.bl true, .bl false]) ∧ ∀ ah ∈ [true, false].take n, fo1 k As Bs L ah = none)
    ⟨none, none, none, none, none, rfl, Gw.of ht sk, upd_same, fun ah h => (by cases h)⟩ (fun n σ H' _ ⟨_, _, _, _, _, _, _, h, _⟩ => tt h) ?_ ?_⟩
  · rintro n x σ H' hx ⟨y5, y6, y7, y8, y9, rfl, g1, hk1, hn1⟩
    obtain ⟨ah, hah, rfl⟩ : ∃ ah : Bool, [true, false][n]? = some ah ∧ x = .bl ah := by
      match n, hx with
      | 0, hx => exact ⟨true, rfl, (Option.some.inj hx).symm⟩
      | 1, hx => exact ⟨false, rfl, (Option.some.inj hx).symm⟩
      | n + 2, hx => cases hx
    try simp only [tSeq, tAsg, gName, tOp, rI, rI0, rU, tUn, tVar, tC, tCB, tCons, tNil, tTest, tIfS, tRet, tRetN, tDrop, tNext, tBreak, tCont, rEq, rNe, CDiv, CDivN, CMul, tBM, tBM0, tTup, tLst, tAug, tIf, tAnd, tOr, tNot, tAndV, tOrV, tNotV, tIsN, tNotN, tB, scal, tCall, cxK, cxKn, rIxT, rIxL, rIn, rAppend, rReverse, tVals, tDSetd, tDGet, tDGet1, tDGet2, tDIn, tDNotIn, rSortV, rSortT, rPop, rSortL, rSortT, tSl, tNoPart, tPart, List.append_nil, L2.start, List.map_cons, List.map_nil, List.length_cons, List.length_nil, List.replicate_succ, List.replicate_zero, List.cons_append, List.nil_append, Nat.reduceAdd, Nat.reduceSub, exists_eq, exists_eq', List.getElem?_cons_zero, List.getElem?_cons_succ, List.set_cons_zero, List.set_cons_succ, Option.some.injEq, V.int.injEq, V.bl.injEq, V.str.injEq, V.ref.injEq, List.cons.injEq, and_true, true_and, and_false, false_and, reduceCtorEq, exists_false, or_false, false_or, exists_and_left, exists_and_right, exists_eq_left, exists_eq_left', exists_eq_right, exists_eq_right', exists_const, ite_true, ite_false, Bool.false_eq_true, if_true, if_false, decide_true, decide_false]
    refine ⟨.ref l, rfl, l, rfl, _, .inl (ll (pl.ext g1.1).at_), _, rfl, by rw [List.length_map]; omega, by rw [List.length_map]; omega, ?_⟩
    rw [List.length_map]
    refine for_range (n := L.length) (fun i σ H' => ∃ (y6 y7 y8 y9 : Option V), σ = [some (.str k.nm), some (.ref l), some (.ref b), some (.ref c), some (.ref o), some (.bl ah), y6, y7, y8, y9] ∧ Gw T H H' ∧ H' tk = some (.tup [.bl true, .bl false]) ∧ ∀ i' ∈ (List.range L.length).take i, fo2 k As Bs L ah i' = none)
      ⟨y6, y7, y8, y9, rfl, g1, hk1, fun i h => (by rw [List.take_zero] at h; cases h)⟩ ?_ ?_
    · rintro i σ H2 hi ⟨y6, y7, y8, y9, rfl, g2, hk2, hn2⟩
      try simp only [tSeq, tAsg, gName, tOp, rI, rI0, rU, tUn, tVar, tC, tCB, tCons, tNil, tTest, tIfS, tRet, tRetN, tDrop, tNext, tBreak, tCont, rEq, rNe, CDiv, CDivN, CMul, tBM, tBM0, tTup, tLst, tAug, tIf, tAnd, tOr, tNot, tAndV, tOrV, tNotV, tIsN, tNotN, tB, scal, tCall, cxK, cxKn, rIxT, rIxL, rIn, rAppend, rReverse, tVals, tDSetd, tDGet, tDGet1, tDGet2, tDIn, tDNotIn, rSortV, rSortT, rPop, rSortL, rSortT, tSl, tNoPart, tPart, List.append_nil, L2.start, List.map_cons, List.map_nil, List.length_cons, List.length_nil, List.replicate_succ, List.replicate_zero, List.cons_append, List.nil_append, Nat.reduceAdd, Nat.reduceSub, exists_eq, exists_eq', List.getElem?_cons_zero, List.getElem?_cons_succ, List.set_cons_zero, List.set_cons_succ, Option.some.injEq, V.int.injEq, V.bl.injEq, V.str.injEq, V.ref.injEq, List.cons.injEq, and_true, true_and, and_false, false_and, reduceCtorEq, exists_false, or_false, false_or, exists_and_left, exists_and_right, exists_eq_left, exists_eq_left', exists_eq_right, exists_eq_right', exists_const, ite_true, ite_false, Bool.false_eq_true, if_true, if_false, decide_true, decide_false]
      simp only [Int.zero_add]
      refine ⟨_, rfl, _, _, rfl, rfl, .ref l, rfl, l, rfl, _, .inl (ll (pl.ext g2.1).at_), _, _, rfl, ⟨by omega, by omega, by rw [List.length_map]; omega, by rw [List.length_map]; omega⟩, ?_⟩
      rw [List.length_map, show ((L.length : Int) - ((i : Int) + 1)).toNat = L.length - (i + 1) by omega]
      refine for_range (n := L.length - (i + 1)) (fun m σ H' => ∃ (y7 y8 y9 : Option V), σ = [some (.str k.nm), some (.ref l), some (.ref b), some (.ref c), some (.ref o), some (.bl ah), some (.int (i : Nat)), y7, y8, y9] ∧ Gw T H H' ∧ H' tk = some (.tup [.bl true, .bl false]) ∧ ∀ j, i < j → j < i + 1 + m → dif k As Bs L ah i j = none)
        ⟨y7, y8, y9, rfl, g2, hk2, fun j h1 h2 => absurd h1 (by omega)⟩ ?_ ?_
      · rintro m σ H3 hm ⟨y7, y8, y9, rfl, g3, hk3, hn3⟩
        obtain ⟨j, hj⟩ : ∃ j, j = i + 1 + m := ⟨_, rfl⟩
        have hjl : j < L.length := by omega
        have hij : i < j := by omega
        rw [show ((i : Int) + 1 + (m : Int)) = ((j : Nat) : Int) by omega]
        have pm := mvd_perm hij hjl ah
        have w1 := wl _ pm.1
        have w2 := wl _ pm.2
        have f1 := flat_len_perm pm.1
        have f2 := flat_len_perm pm.2
        try simp only [tSeq, tAsg, gName, tOp, rI, rI0, rU, tUn, tVar, tC, tCB, tCons, tNil, tTest, tIfS, tRet, tRetN, tDrop, tNext, tBreak, tCont, rEq, rNe, CDiv, CDivN, CMul, tBM, tBM0, tTup, tLst, tAug, tIf, tAnd, tOr, tNot, tAndV, tOrV, tNotV, tIsN, tNotN, tB, scal, tCall, cxK, cxKn, rIxT, rIxL, rIn, rAppend, rReverse, tVals, tDSetd, tDGet, tDGet1, tDGet2, tDIn, tDNotIn, rSortV, rSortT, rPop, rSortL, rSortT, tSl, tNoPart, tPart, List.append_nil, L2.start, List.map_cons, List.map_nil, List.length_cons, List.length_nil, List.replicate_succ, List.replicate_zero, List.cons_append, List.nil_append, Nat.reduceAdd, Nat.reduceSub, exists_eq, exists_eq', List.getElem?_cons_zero, List.getElem?_cons_succ, List.set_cons_zero, List.set_cons_succ, Option.some.injEq, V.int.injEq, V.bl.injEq, V.str.injEq, V.ref.injEq, List.cons.injEq, and_true, true_and, and_false, false_and, reduceCtorEq, exists_false, or_false, false_or, exists_and_left, exists_and_right, exists_eq_left, exists_eq_left', exists_eq_right, exists_eq_right', exists_const, ite_true, ite_false, Bool.false_eq_true, if_true, if_false, decide_true, decide_false]
        have pl3 := pl.ext g3.1
        refine ⟨l, L, i, j, ah, rfl, pl3, hi, hjl, by omega, by omega, fun H4 o4 s4 p4 => ?_⟩
        have g4 := g3.trans (Gw.of g3.2 s4)
        refine ⟨b, o4, c, _, As, Bs, rfl, ext_tup hb g4.1, p4, ext_tup hc g4.1, by omega, fun H5 t5 s5 h5 => ?_⟩
        have g5 := g4.trans (Gw.of g4.2 s5)
        try simp only [tSeq, tAsg, gName, tOp, rI, rI0, rU, tUn, tVar, tC, tCB, tCons, tNil, tTest, tIfS, tRet, tRetN, tDrop, tNext, tBreak, tCont, rEq, rNe, CDiv, CDivN, CMul, tBM, tBM0, tTup, tLst, tAug, tIf, tAnd, tOr, tNot, tAndV, tOrV, tNotV, tIsN, tNotN, tB, scal, tCall, cxK, cxKn, rIxT, rIxL, rIn, rAppend, rReverse, tVals, tDSetd, tDGet, tDGet1, tDGet2, tDIn, tDNotIn, rSortV, rSortT, rPop, rSortL, rSortT, tSl, tNoPart, tPart, List.append_nil, L2.start, List.map_cons, List.map_nil, List.length_cons, List.length_nil, List.replicate_succ, List.replicate_zero, List.cons_append, List.nil_append, Nat.reduceAdd, Nat.reduceSub, exists_eq, exists_eq', List.getElem?_cons_zero, List.getElem?_cons_succ, List.set_cons_zero, List.set_cons_succ, Option.some.injEq, V.int.injEq, V.bl.injEq, V.str.injEq, V.ref.injEq, List.cons.injEq, and_true, true_and, and_false, false_and, reduceCtorEq, exists_false, or_false, false_or, exists_and_left, exists_and_right, exists_eq_left, exists_eq_left', exists_eq_right, exists_eq_right', exists_const, ite_true, ite_false, Bool.false_eq_true, if_true, if_false, decide_true, decide_false]
        refine ⟨l, L, j, i, ah, rfl, pl.ext g5.1, hjl, hi, by omega, by omega, fun H6 o6 s6 p6 => ?_⟩
        have g6 := g5.trans (Gw.of g5.2 s6)
        refine ⟨b, o6, c, _, As, Bs, rfl, ext_tup hb g6.1, p6, ext_tup hc g6.1, by omega, fun H7 t7 s7 h7 => ?_⟩
        have g7 := g6.trans (Gw.of g6.2 s7)
        have h5' := s7 _ _ (s6 _ _ h5)
        try simp only [tSeq, tAsg, gName, tOp, rI, rI0, rU, tUn, tVar, tC, tCB, tCons, tNil, tTest, tIfS, tRet, tRetN, tDrop, tNext, tBreak, tCont, rEq, rNe, CDiv, CDivN, CMul, tBM, tBM0, tTup, tLst, tAug, tIf, tAnd, tOr, tNot, tAndV, tOrV, tNotV, tIsN, tNotN, tB, scal, tCall, cxK, cxKn, rIxT, rIxL, rIn, rAppend, rReverse, tVals, tDSetd, tDGet, tDGet1, tDGet2, tDIn, tDNotIn, rSortV, rSortT, rPop, rSortL, rSortT, tSl, tNoPart, tPart, List.append_nil, L2.start, List.map_cons, List.map_nil, List.length_cons, List.length_nil, List.replicate_succ, List.replicate_zero, List.cons_append, List.nil_append, Nat.reduceAdd, Nat.reduceSub, exists_eq, exists_eq', List.getElem?_cons_zero, List.getElem?_cons_succ, List.set_cons_zero, List.set_cons_succ, Option.some.injEq, V.int.injEq, V.bl.injEq, V.str.injEq, V.ref.injEq, List.cons.injEq, and_true, true_and, and_false, false_and, reduceCtorEq, exists_false, or_false, false_or, exists_and_left, exists_and_right, exists_eq_left, exists_eq_left', exists_eq_right, exists_eq_right', exists_const, ite_true, ite_false, Bool.false_eq_true, if_true, if_false, decide_true, decide_false]
        have ho7 := ho.ext g7.1
        obtain ⟨dx2, hd2⟩ := id ho7
        refine ⟨.ref o, rfl, o, dx2, [], rfl, hd2, rfl, .ref t5, rfl, o, t5, wrd As Bs (mvd L i j ah), rfl, ho7, .inl (tt h5'), w1, g7.2, fun H8 t8 g8 h8 => ?_⟩
        have ho8 := ho7.ext g8.1
        obtain ⟨dx3, hd3⟩ := id ho8
        refine ⟨.ref o, rfl, o, dx3, [], rfl, hd3, rfl, .ref t7, rfl, o, t7, wrd As Bs (mvd L j i ah), rfl, ho8, .inl (ext_tup (tt h7) g8.1), w2, g8.2, fun H9 t9 g9 h9 => ?_⟩
        have g89 := g8.trans g9
        have kept : ∀ (z : Addr) (zs : List V), H3 z = some (.tup zs) → H9 z = some (.tup zs) := fun z zs h => g89.1 _ _ (s7 _ _ (s6 _ _ (s5 _ _ (s4 _ _ h)))) (fun ps z => by cases z)
        have g09 := g7.trans g89
        refine ne_tups (ext_tup (tt h8) g9.1) (tt h9) ⟨_, rfl, ite2 (fun e => ⟨by decide, fun ta hta => ?_⟩) (fun e => ?_)⟩
        · have ne : ¬ plainI k (wrd As Bs (mvd L i j ah)) = plainI k (wrd As Bs (mvd L j i ah)) := by simpa using e
          have ed : dif k As Bs L ah i j = some (wrd As Bs (mvd L i j ah), wrd As Bs (mvd L j i ah)) := if_neg ne
          have ef2 : fo2 k As Bs L ah i = some (wrd As Bs (mvd L i j ah), wrd As Bs (mvd L j i ah)) := by
            refine find_first (i := j) (x := j) (fun z hz => ?_) (List.getElem?_range hjl) (by rw [if_pos hij]; exact ed)
            split
            · rename_i hiz
              refine hn3 z hiz ?_
              obtain ⟨y, hy, rfl⟩ := List.mem_take_iff_getElem.mp hz
              rw [List.getElem_range]
              omega
            · rfl
          have ef1 : fo1 k As Bs L ah = some (wrd As Bs (mvd L i j ah), wrd As Bs (mvd L j i ah)) := find_first hn2 (List.getElem?_range hi) ef2
          have ef : fo k As Bs L = some (wrd As Bs (mvd L i j ah), wrd As Bs (mvd L j i ah)) := find_first hn1 hah ef1
          have sa := same_upd (o := .tup [.ref t5, .ref t7]) hta
          have qa := q _ (g09.trans (Gw.of g09.2 sa))
          rw [ef] at qa
          exact qa ta t5 t7 upd_same (sa _ _ (g89.1 _ _ h5' (fun ps z => by cases z))) (sa _ _ (g89.1 _ _ h7 (fun ps z => by cases z)))
        · have eq : plainI k (wrd As Bs (mvd L i j ah)) = plainI k (wrd As Bs (mvd L j i ah)) := by simpa using e
          refine ⟨g09, kept _ _ hk3, fun j' h1 h2 => ?_⟩
          by_cases ej : j' = j
          · subst ej
            exact if_pos eq
          · exact hn3 j' h1 (by omega)
      · rintro σ H3 ⟨y7, y8, y9, rfl, g3, hk3, hn3⟩
        try simp only [tSeq, tAsg, gName, tOp, rI, rI0, rU, tUn, tVar, tC, tCB, tCons, tNil, tTest, tIfS, tRet, tRetN, tDrop, tNext, tBreak, tCont, rEq, rNe, CDiv, CDivN, CMul, tBM, tBM0, tTup, tLst, tAug, tIf, tAnd, tOr, tNot, tAndV, tOrV, tNotV, tIsN, tNotN, tB, scal, tCall, cxK, cxKn, rIxT, rIxL, rIn, rAppend, rReverse, tVals, tDSetd, tDGet, tDGet1, tDGet2, tDIn, tDNotIn, rSortV, rSortT, rPop, rSortL, rSortT, tSl, tNoPart, tPart, List.append_nil, L2.start, List.map_cons, List.map_nil, List.length_cons, List.length_nil, List.replicate_succ, List.replicate_zero, List.cons_append, List.nil_append, Nat.reduceAdd, Nat.reduceSub, exists_eq, exists_eq', List.getElem?_cons_zero, List.getElem?_cons_succ, List.set_cons_zero, List.set_cons_succ, Option.some.injEq, V.int.injEq, V.bl.injEq, V.str.injEq, V.ref.injEq, List.cons.injEq, and_true, true_and, and_false, false_and, reduceCtorEq, exists_false, or_false, false_or, exists_and_left, exists_and_right, exists_eq_left, exists_eq_left', exists_eq_right, exists_eq_right', exists_const, ite_true, ite_false, Bool.false_eq_true, if_true, if_false, decide_true, decide_false]
        refine ⟨g3, hk3, fun i' hi' => ?_⟩
        rw [List.take_add_one, List.getElem?_range hi] at hi'
        rcases List.mem_append.mp hi' with hi' | hi'
        · exact hn2 i' hi'
        · rw [List.mem_singleton.mp hi']
          refine List.findSome?_eq_none_iff.mpr fun j hj => ?_
          have hjl := List.mem_range.mp hj
          split
          · rename_i hij
            exact hn3 j hij (by omega)
          · rfl
    · rintro σ H2 ⟨y6, y7, y8, y9, rfl, g2, hk2, hn2⟩
      try simp only [tSeq, tAsg, gName, tOp, rI, rI0, rU, tUn, tVar, tC, tCB, tCons, tNil, tTest, tIfS, tRet, tRetN, tDrop, tNext, tBreak, tCont, rEq, rNe, CDiv, CDivN, CMul, tBM, tBM0, tTup, tLst, tAug, tIf, tAnd, tOr, tNot, tAndV, tOrV, tNotV, tIsN, tNotN, tB, scal, tCall, cxK, cxKn, rIxT, rIxL, rIn, rAppend, rReverse, tVals, tDSetd, tDGet, tDGet1, tDGet2, tDIn, tDNotIn, rSortV, rSortT, rPop, rSortL, rSortT, tSl, tNoPart, tPart, List.append_nil, L2.start, List.map_cons, List.map_nil, List.length_cons, List.length_nil, List.replicate_succ, List.replicate_zero, List.cons_append, List.nil_append, Nat.reduceAdd, Nat.reduceSub, exists_eq, exists_eq', List.getElem?_cons_zero, List.getElem?_cons_succ, List.set_cons_zero, List.set_cons_succ, Option.some.injEq, V.int.injEq, V.bl.injEq, V.str.injEq, V.ref.injEq, List.cons.injEq, and_true, true_and, and_false, false_and, reduceCtorEq, exists_false, or_false, false_or, exists_and_left, exists_and_right, exists_eq_left, exists_eq_left', exists_eq_right, exists_eq_right', exists_const, ite_true, ite_false, Bool.false_eq_true, if_true, if_false, decide_true, decide_false]
      rw [List.take_of_length_le (by rw [List.length_range]; exact Nat.le_refl _)] at hn2
      refine ⟨g2, hk2, fun a ha => ?_⟩
      rw [List.take_add_one, hah] at ha
      rcases List.mem_append.mp ha with ha | ha
      · exact hn1 a ha
      · rw [List.mem_singleton.mp ha]
        exact List.findSome?_eq_none_iff.mpr hn2
  · rintro σ H' ⟨y5, y6, y7, y8, y9, rfl, g1, hk1, hn1⟩
    try simp only [tSeq, tAsg, gName, tOp, rI, rI0, rU, tUn, tVar, tC, tCB, tCons, tNil, tTest, tIfS, tRet, tRetN, tDrop, tNext, tBreak, tCont, rEq, rNe, CDiv, CDivN, CMul, tBM, tBM0, tTup, tLst, tAug, tIf, tAnd, tOr, tNot, tAndV, tOrV, tNotV, tIsN, tNotN, tB, scal, tCall, cxK, cxKn, rIxT, rIxL, rIn, rAppend, rReverse, tVals, tDSetd, tDGet, tDGet1, tDGet2, tDIn, tDNotIn, rSortV, rSortT, rPop, rSortL, rSortT, tSl, tNoPart, tPart, List.append_nil, L2.start, List.map_cons, List.map_nil, List.length_cons, List.length_nil, List.replicate_succ, List.replicate_zero, List.cons_append, List.nil_append, Nat.reduceAdd, Nat.reduceSub, exists_eq, exists_eq', List.getElem?_cons_zero, List.getElem?_cons_succ, List.set_cons_zero, List.set_cons_succ, Option.some.injEq, V.int.injEq, V.bl.injEq, V.str.injEq, V.ref.injEq, List.cons.injEq, and_true, true_and, and_false, false_and, reduceCtorEq, exists_false, or_false, false_or, exists_and_left, exists_and_right, exists_eq_left, exists_eq_left', exists_eq_right, exists_eq_right', exists_const, ite_true, ite_false, Bool.false_eq_true, if_true, if_false, decide_true, decide_false]
    have := q H' g1
    rw [show fo k As Bs L = none from List.findSome?_eq_none_iff.mpr hn1] at this
    exact this
theorem ok_fo {f : Addr} {fd : FuncData} (F : Fun K "free_orders" "free_orders" sFO f fd) (B : Bi mg) (C : ClsO K cls) (cKN : CalX (L2.CX P w) P w K mg base 3 "kind_named" (spKN cls CB)) (cPlain : ∀ k, MetX CX0 P w K mg base 3 (cls k) "plain" (spPlainM K cls T k)) (cWO : CalX CX0 P w K mg base 1 "word_of" (spWO K)) (cMP : CalX CX0 P w K mg base 1 "moved_pair" spMP) : FnOk P w K mg base (L2.CX P w) 4 f fd ["kind", "parcels", "before", "after"] (spFO K T CB) := by
  refine F.okX scFO (fun vs H Q E h => ?_) (fun cdv A outer s H vs Q E hr h => ?_)
  · obtain ⟨v, l, b, c, L, As, Bs, rfl, _⟩ := h
    rfl
  · obtain ⟨v, l, b, c, L, As, Bs, rfl, pl, hb, hc, hL, hq, hz, h⟩ := h
    rcases h with h | ⟨bv, rs⟩
    case' inr =>
      have k := Kd.list
      obtain ⟨tr, hrest, hR⟩ := fo_rest (s := s) (H0 := H) (E := E) (outer := outer) (cdv := cdv) (f := f) (A := A) (K := K) (P := P) (w := w) (base := base) (T := T) B hr .list cPlain cWO cMP
      refine ⟨_, (pss_cons (ps_set (i := 4) scFO.nd rfl (.inl rfl) (pe_cx cKN hr (by decide) (passes_call (takes_of rfl rfl rfl rfl) (fun _ _ _ _ h => h)) (by rfl) (pa_cons (pv 0) pa_nil)))
 (pss_cons (ps_if (pt_val (pe_con (pv 4) rfl))
 (pss_one (ps_ret pe_non)) pss_nil)
 (PSs.nox hrest))), ?_⟩
      simp only [tSeq, tAsg, gName, tOp, rI, rI0, rU, tUn, tVar, tC, tCB, tCons, tNil, tTest, tIfS, tRet, tRetN, tDrop, tNext, tBreak, tCont, rEq, rNe, CDiv, CDivN, CMul, tBM, tBM0, tTup, tLst, tAug, tIf, tAnd, tOr, tNot, tAndV, tOrV, tNotV, tIsN, tNotN, tB, scal, tCall, cxK, cxKn, rIxT, rIxL, rIn, rAppend, rReverse, tVals, tDSetd, tDGet, tDGet1, tDGet2, tDIn, tDNotIn, rSortV, rSortT, rPop, rSortL, rSortT, tSl, tNoPart, tPart, List.append_nil, L2.start, List.map_cons, List.map_nil, List.length_cons, List.length_nil, List.replicate_succ, List.replicate_zero, List.cons_append, List.nil_append, Nat.reduceAdd, Nat.reduceSub, exists_eq, exists_eq', List.getElem?_cons_zero, List.getElem?_cons_succ, List.set_cons_zero, List.set_cons_succ, Option.some.injEq, V.int.injEq, V.bl.injEq, V.str.injEq, V.ref.injEq, List.cons.injEq, and_true, true_and, and_false, false_and, reduceCtorEq, exists_false, or_false, false_or, exists_and_left, exists_and_right, exists_eq_left, exists_eq_left', exists_eq_right, exists_eq_right', exists_const, ite_true, ite_false, Bool.false_eq_true, if_true, if_false, decide_true, decide_false]
      exact ⟨_, rfl, .inr ⟨bv, rs⟩⟩
    obtain ⟨k, rfl, ht, q⟩ := h
    obtain ⟨tr, hrest, hR⟩ := fo_rest (s := s) (H0 := H) (E := E) (outer := outer) (cdv := cdv) (f := f) (A := A) (K := K) (P := P) (w := w) (base := base) (T := T) B hr k cPlain cWO cMP
    refine ⟨_, (pss_cons (ps_set (i := 4) scFO.nd rfl (.inl rfl) (pe_cx cKN hr (by decide) (passes_call (takes_of rfl rfl rfl rfl) (fun _ _ _ _ h => h)) (by rfl) (pa_cons (pv 0) pa_nil)))
 (pss_cons (ps_if (pt_val (pe_con (pv 4) rfl))
 (pss_one (ps_ret pe_non)) pss_nil)
 (PSs.nox hrest))), ?_⟩
    simp only [tSeq, tAsg, gName, tOp, rI, rI0, rU, tUn, tVar, tC, tCB, tCons, tNil, tTest, tIfS, tRet, tRetN, tDrop, tNext, tBreak, tCont, rEq, rNe, CDiv, CDivN, CMul, tBM, tBM0, tTup, tLst, tAug, tIf, tAnd, tOr, tNot, tAndV, tOrV, tNotV, tIsN, tNotN, tB, scal, tCall, cxK, cxKn, rIxT, rIxL, rIn, rAppend, rReverse, tVals, tDSetd, tDGet, tDGet1, tDGet2, tDIn, tDNotIn, rSortV, rSortT, rPop, rSortL, rSortT, tSl, tNoPart, tPart, List.append_nil, L2.start, List.map_cons, List.map_nil, List.length_cons, List.length_nil, List.replicate_succ, List.replicate_zero, List.cons_append, List.nil_append, Nat.reduceAdd, Nat.reduceSub, exists_eq, exists_eq', List.getElem?_cons_zero, List.getElem?_cons_succ, List.set_cons_zero, List.set_cons_succ, Option.some.injEq, V.int.injEq, V.bl.injEq, V.str.injEq, V.ref.injEq, List.cons.injEq, and_true, true_and, and_false, false_and, reduceCtorEq, exists_false, or_false, false_or, exists_and_left, exists_and_right, exists_eq_left, exists_eq_left', exists_eq_right, exists_eq_right', exists_const, ite_true, ite_false, Bool.false_eq_true, if_true, if_false, decide_true, decide_false]
    refine ⟨_, rfl, .inl ⟨k, rfl, fun H1 o s1 ho => ?_⟩⟩
    simp only [tSeq, tAsg, gName, tOp, rI, rI0, rU, tUn, tVar, tC, tCB, tCons, tNil, tTest, tIfS, tRet, tRetN, tDrop, tNext, tBreak, tCont, rEq, rNe, CDiv, CDivN, CMul, tBM, tBM0, tTup, tLst, tAug, tIf, tAnd, tOr, tNot, tAndV, tOrV, tNotV, tIsN, tNotN, tB, scal, tCall, cxK, cxKn, rIxT, rIxL, rIn, rAppend, rReverse, tVals, tDSetd, tDGet, tDGet1, tDGet2, tDIn, tDNotIn, rSortV, rSortT, rPop, rSortL, rSortT, tSl, tNoPart, tPart, List.append_nil, L2.start, List.map_cons, List.map_nil, List.length_cons, List.length_nil, List.replicate_succ, List.replicate_zero, List.cons_append, List.nil_append, Nat.reduceAdd, Nat.reduceSub, exists_eq, exists_eq', List.getElem?_cons_zero, List.getElem?_cons_succ, List.set_cons_zero, List.set_cons_succ, Option.some.injEq, V.int.injEq, V.bl.injEq, V.str.injEq, V.ref.injEq, List.cons.injEq, and_true, true_and, and_false, false_and, reduceCtorEq, exists_false, or_false, false_or, exists_and_left, exists_and_right, exists_eq_left, exists_eq_left', exists_eq_right, exists_eq_right', exists_const, ite_true, ite_false, Bool.false_eq_true, if_true, if_false, decide_true, decide_false]
    obtain ⟨dx, hd⟩ := id ho
    refine con_of rfl hd (C.cl k) (C.od k) ?_
    refine ⟨_, rfl, ite2 (fun e => ?_) (fun e => ?_)⟩
    · have hf : freeO k As Bs L := fun i j x y _ _ _ => by
        revert e
        cases k <;> intro e <;> first | trivial | exact absurd e (by decide)
      have := q H1 (Gw.of ht s1)
      rw [(fo_free k hq).mpr hf] at this
      exact this
    · exact hR Q l b c o L As Bs H1 (pl.same s1) (Same.tup s1 hb) (Same.tup s1 hc) hL hz ho (ht.ext s1) fun H' g => q H' ((Gw.of ht s1).trans g)
end
end Mv

set_option Elab.async false
set_option linter.all false
set_option maxRecDepth 100000
set_option maxHeartbeats 4000000
namespace Mv
open PySem PySem.Spec PyProof.Rows L2
abbrev sOrd : Stmt := topS 36
abbrev sTwo : Stmt := topS 37
abbrev sFree : Stmt := topS 38
/-! ### rows of numbers -/
structure Irs (H : Hp) (o : Addr) (R : List (Addr × List Nat)) : Prop where
  at_ : H o = some (.lst (R.map fun q => V.ref q.1))
  all : ∀ q ∈ R, H q.1 = some (.lst (ixV q.2))
theorem Irs.same {H H' : Hp} {o : Addr} {R : List (Addr × List Nat)} (h : Irs H o R) (s : Same H H') : Irs H' o R := ⟨s _ _ h.at_, fun q hq => s _ _ (h.all q hq)⟩
theorem Irs.snoc {H : Hp} {D r : Addr} {N : List (Addr × List Nat)} {n : List Nat} (h : Irs H D N) (hn : ∀ q ∈ N, q.1 ≠ D) (hr : H r = some (.lst (ixV n))) (nr : r ≠ D) : Irs (upd H D (.lst (N.map (fun q => V.ref q.1) ++ [.ref r]))) D (N ++ [(r, n)]) := by
  refine ⟨by rw [upd_same, List.map_append]; rfl, fun q hq => ?_⟩
  rcases List.mem_append.mp hq with hq | hq
  · rw [upd_ne (hn q hq)]
    exact h.all q hq
  · rw [List.mem_singleton.mp hq, upd_ne nr]
    exact hr
theorem inV_ix (k : Nat) (r : List Nat) : inV (.int (k : Int)) (ixV r) = decide (k ∈ r) := by
  have : ixV r = (r.map fun n : Nat => (n : Int)).map V.int := by
    unfold ixV
    rw [List.map_map]
    rfl
  rw [this, inV_int]
  refine decide_eq_decide.mpr ?_
  rw [List.mem_map]
  exact ⟨fun ⟨a, ha, e⟩ => by rw [← Int.natCast_inj.mp e]; exact ha, fun h => ⟨k, h, rfl⟩⟩
theorem ix_flat (r : List Nat) : (ixV r).all flatV = true := by
  have : ixV r = (r.map fun n : Nat => (n : Int)).map V.int := by
    unfold ixV
    rw [List.map_map]
    rfl
  rw [this]
  exact ints_flat _
section
variable {P : Program} {w : World} {K : PySem.W.Frag} {mg : Str → Option Value} {base : Heap} {T : List (Addr × Str)} {CB : Addr}
theorem scOrd : FnScope ["_law_many", "_law_rows", "_law_turn", "_law_longer", "_law_row", "_law_k"] ["_law_many"] (defScope sOrd) := ⟨rfl, rfl, rfl, by decide +kernel, rfl, by decide +kernel, by decide +kernel⟩
def spOrd : Sp := fun vs H Q _ => ∃ n : Nat, vs = [.int (n : Int)] ∧ n ≤ 5 ∧ ∀ (H' : Hp) (o : Addr) (R : List (Addr × List Nat)), Same H H' → Irs H' o R → R.map (·.2) = rowsT n n → Q (.ref o) H'
theorem ok_ord {f : Addr} {fd : FuncData} (F : Fun K "_law_orders" "_law_orders" sOrd f fd) (B : Bi mg) : FnOk P w K mg base CX0 1 f fd ["_law_many"] spOrd := by
  refine F.ok scOrd (fun vs H Q E h => ?_) (fun cdv A outer s H vs Q E hr h => ?_)
  · obtain ⟨n, rfl, _⟩ := h
    rfl
  · obtain ⟨n, rfl, hn5, q⟩ := h
    refine ⟨_, (pss_cons (ps_set (i := 1) scOrd.nd rfl (.inl rfl) (pe_lst (pa_cons (pe_lst pa_nil) pa_nil)))
 (pss_cons (ps_for PassesOwn.never rfl (pi_range1 (by rfl) B.range (pa_cons (pv 0) pa_nil)) (pg_name (i := 2) scOrd.nd rfl (.inl rfl))
 (pss_cons (ps_set (i := 3) scOrd.nd rfl (.inl rfl) (pe_lst pa_nil))
 (pss_cons (ps_for PassesOwn.never rfl (pi_list (pv 1)) (pg_name (i := 4) scOrd.nd rfl (.inl rfl))
 (pss_one (ps_for PassesOwn.never rfl (pi_range1 (by rfl) B.range (pa_cons (pv 0) pa_nil)) (pg_name (i := 5) scOrd.nd rfl (.inl rfl))
 (pss_one (ps_if (pt_cmpR op_notIn_seq (pv 5) (pv 4) (by rfl))
 (pss_one (ps_expr (pe_bm PySem.F.plainAttrs_list PySem.F.slot_list_append PySem.F.type_list_append mt_append (pv 3) (pa_cons (pe_op op_cat (pv 4) (pe_lst (pa_cons (pv 5) pa_nil))) pa_nil)))) pss_nil)))))
 (pss_one (ps_set (i := 1) scOrd.nd rfl (.inl rfl) (pe_callTy call_list_of (by rfl) B.list (by decide +kernel) (pa_cons (pv 3) pa_nil)))))))
 (pss_one (ps_ret (pv 1))))), ?_⟩
    try simp only [tSeq, tAsg, gName, tOp, rI, rI0, rU, tUn, tVar, tC, tCB, tCons, tNil, tTest, tIfS, tRet, tRetN, tDrop, tNext, tBreak, tCont, rEq, rNe, CDiv, CDivN, CMul, tBM, tBM0, tTup, tLst, tAug, tIf, tAnd, tOr, tNot, tAndV, tOrV, tNotV, tIsN, tNotN, tB, scal, tCall, cxK, cxKn, rIxT, rIxL, rIn, rAppend, rReverse, tVals, tDSetd, tDGet, tDGet1, tDGet2, tDIn, tDNotIn, rSortV, rSortT, rPop, rSortL, rSortT, tSl, tNoPart, tPart, List.append_nil, L2.start, List.map_cons, List.map_nil, List.length_cons, List.length_nil, List.replicate_succ, List.replicate_zero, List.cons_append, List.nil_append, Nat.reduceAdd, Nat.reduceSub, exists_eq, exists_eq', List.getElem?_cons_zero, List.getElem?_cons_succ, List.set_cons_zero, List.set_cons_succ, Option.some.injEq, V.int.injEq, V.bl.injEq, V.str.injEq, V.ref.injEq, List.cons.injEq, and_true, true_and, and_false, false_and, reduceCtorEq, exists_false, or_false, false_or, exists_and_left, exists_and_right, exists_eq_left, exists_eq_left', exists_eq_right, exists_eq_right', exists_const, ite_true, ite_false, Bool.false_eq_true, if_true, if_false, decide_true, decide_false]
    refine ⟨Nat.zero_le _, fun r0 h0 => ⟨by decide, fun o ho => ?_⟩⟩
    have a0 := same_upd (o := .lst []) h0
    have a2 := same_upd (o := .lst [.ref r0]) ho
    have s0 := a0.trans a2
    have rw0 : Irs (upd (upd H r0 (.lst [])) o (.lst [.ref r0])) o [(r0, [])] := ⟨upd_same, fun q hq => by
      rw [List.mem_singleton.mp hq]
      exact a2 _ _ upd_same⟩
    generalize upd (upd H r0 (.lst [])) o (.lst [.ref r0]) = H1 at s0 rw0
    clear a0 a2 h0 ho
    refine ⟨_, rfl, _, rfl, by omega, by omega, ?_⟩
    refine for_range (n := n) (fun t σ H' => ∃ (o : Addr) (R : List (Addr × List Nat)) (y2 y3 y4 y5 : Option V), σ = [some (.int (n : Int)), some (.ref o), y2, y3, y4, y5] ∧ Same H H' ∧ Irs H' o R ∧ R.map (·.2) = rowsT n t)
      ⟨o, _, none, none, none, none, rfl, s0, rw0, rfl⟩ ?_ ?_
    · rintro t σ H2 htn ⟨o, R, y2, y3, y4, y5, rfl, s2, rR, eR⟩
      have lR : R.length ≤ 625 := by
        have h1 := rows_len n t
        rw [← eR, List.length_map] at h1
        have h2 : n ^ t ≤ 5 ^ t := Nat.pow_le_pow_left hn5 t
        have h3 : 5 ^ t ≤ 5 ^ 4 := Nat.pow_le_pow_right (by decide) (by omega)
        omega
      try simp only [tSeq, tAsg, gName, tOp, rI, rI0, rU, tUn, tVar, tC, tCB, tCons, tNil, tTest, tIfS, tRet, tRetN, tDrop, tNext, tBreak, tCont, rEq, rNe, CDiv, CDivN, CMul, tBM, tBM0, tTup, tLst, tAug, tIf, tAnd, tOr, tNot, tAndV, tOrV, tNotV, tIsN, tNotN, tB, scal, tCall, cxK, cxKn, rIxT, rIxL, rIn, rAppend, rReverse, tVals, tDSetd, tDGet, tDGet1, tDGet2, tDIn, tDNotIn, rSortV, rSortT, rPop, rSortL, rSortT, tSl, tNoPart, tPart, List.append_nil, L2.start, List.map_cons, List.map_nil, List.length_cons, List.length_nil, List.replicate_succ, List.replicate_zero, List.cons_append, List.nil_append, Nat.reduceAdd, Nat.reduceSub, exists_eq, exists_eq', List.getElem?_cons_zero, List.getElem?_cons_succ, List.set_cons_zero, List.set_cons_succ, Option.some.injEq, V.int.injEq, V.bl.injEq, V.str.injEq, V.ref.injEq, List.cons.injEq, and_true, true_and, and_false, false_and, reduceCtorEq, exists_false, or_false, false_or, exists_and_left, exists_and_right, exists_eq_left, exists_eq_left', exists_eq_right, exists_eq_right', exists_const, ite_true, ite_false, Bool.false_eq_true, if_true, if_false, decide_true, decide_false]
      refine ⟨Nat.zero_le _, fun D hD => ?_⟩
      have sD := same_upd (o := .lst []) hD
      refine ⟨_, rfl, o, rfl, ⟨_, ll (sD _ _ rR.at_)⟩, for_list (K := K) (xs := R.map fun q => V.ref q.1) (fun i σ H' => ∃ (N : List (Addr × List Nat)) (y2 y4 y5 : Option V), σ = [some (.int (n : Int)), some (.ref o), y2, some (.ref D), y4, y5] ∧ Same H2 H' ∧ Irs H' D N ∧ (∀ q ∈ N, q.1 ≠ D) ∧ N.length ≤ n * i ∧ N.map (·.2) = ((rowsT n t).take i).flatMap fun r => ((List.range n).filter fun k => decide (k ∉ r)).map fun k => r ++ [k])
        ⟨[], _, y4, y5, rfl, sD, ⟨upd_same, fun q hq => (by cases hq)⟩, fun q hq => (by cases hq), Nat.zero_le _, rfl⟩ (fun i σ H' _ ⟨_, _, _, _, _, s, _⟩ => ll (s _ _ rR.at_)) ?_ ?_⟩
      · rintro i x σ H3 hx ⟨N, z2, z4, z5, rfl, s3, rN, nN, lN, eN⟩
        obtain ⟨qi, hqi, rfl⟩ : ∃ q, R[i]? = some q ∧ x = .ref q.1 := by
          rw [List.getElem?_map] at hx
          cases e : R[i]? with
          | none =>
            rw [e] at hx
            cases hx
          | some q =>
            rw [e] at hx
            exact ⟨q, rfl, (Option.some.inj hx).symm⟩
        have mi := List.mem_of_getElem? hqi
        have hil := (List.getElem?_eq_some_iff.mp hqi).1
        have eT : ((rowsT n t).take (i + 1)).flatMap (fun r => ((List.range n).filter fun k => decide (k ∉ r)).map fun k => r ++ [k]) = N.map (·.2) ++ ((List.range n).filter fun k => decide (k ∉ qi.2)).map fun k => qi.2 ++ [k] := by
          rw [eN, List.take_add_one, ← eR, List.getElem?_map, hqi, List.flatMap_append]
          simp
        generalize hX : List.map (fun q : Addr × List Nat => q.2) N = X0 at eT
        have hlq : qi.2.length ≤ 5 := by
          have := (rows_sound n t qi.2 (by rw [← eR]; exact List.mem_map.mpr ⟨_, mi, rfl⟩)).2.1
          omega
        try simp only [tSeq, tAsg, gName, tOp, rI, rI0, rU, tUn, tVar, tC, tCB, tCons, tNil, tTest, tIfS, tRet, tRetN, tDrop, tNext, tBreak, tCont, rEq, rNe, CDiv, CDivN, CMul, tBM, tBM0, tTup, tLst, tAug, tIf, tAnd, tOr, tNot, tAndV, tOrV, tNotV, tIsN, tNotN, tB, scal, tCall, cxK, cxKn, rIxT, rIxL, rIn, rAppend, rReverse, tVals, tDSetd, tDGet, tDGet1, tDGet2, tDIn, tDNotIn, rSortV, rSortT, rPop, rSortL, rSortT, tSl, tNoPart, tPart, List.append_nil, L2.start, List.map_cons, List.map_nil, List.length_cons, List.length_nil, List.replicate_succ, List.replicate_zero, List.cons_append, List.nil_append, Nat.reduceAdd, Nat.reduceSub, exists_eq, exists_eq', List.getElem?_cons_zero, List.getElem?_cons_succ, List.set_cons_zero, List.set_cons_succ, Option.some.injEq, V.int.injEq, V.bl.injEq, V.str.injEq, V.ref.injEq, List.cons.injEq, and_true, true_and, and_false, false_and, reduceCtorEq, exists_false, or_false, false_or, exists_and_left, exists_and_right, exists_eq_left, exists_eq_left', exists_eq_right, exists_eq_right', exists_const, ite_true, ite_false, Bool.false_eq_true, if_true, if_false, decide_true, decide_false]
        refine ⟨_, rfl, _, rfl, by omega, by omega, ?_⟩
        refine for_range (n := n) (fun m σ H' => ∃ (N' : List (Addr × List Nat)) (y5 : Option V), σ = [some (.int (n : Int)), some (.ref o), z2, some (.ref D), some (.ref qi.1), y5] ∧ Same H2 H' ∧ Irs H' D N' ∧ (∀ q ∈ N', q.1 ≠ D) ∧ N'.length ≤ n * i + m ∧ N'.map (·.2) = X0 ++ (((List.range n).take m).filter fun k => decide (k ∉ qi.2)).map fun k => qi.2 ++ [k])
          ⟨N, z5, rfl, s3, rN, nN, by omega, by rw [hX]; simp⟩ ?_ ?_
        · rintro m σ H4 hm ⟨N', y5, rfl, s4, rN4, nN4, lN4, eN4⟩
          have hq4 := s4 _ _ (rR.all qi mi)
          have et : ((List.range n).take (m + 1)) = (List.range n).take m ++ [m] := by
            rw [List.take_add_one, List.getElem?_range hm]
            rfl
          try simp only [tSeq, tAsg, gName, tOp, rI, rI0, rU, tUn, tVar, tC, tCB, tCons, tNil, tTest, tIfS, tRet, tRetN, tDrop, tNext, tBreak, tCont, rEq, rNe, CDiv, CDivN, CMul, tBM, tBM0, tTup, tLst, tAug, tIf, tAnd, tOr, tNot, tAndV, tOrV, tNotV, tIsN, tNotN, tB, scal, tCall, cxK, cxKn, rIxT, rIxL, rIn, rAppend, rReverse, tVals, tDSetd, tDGet, tDGet1, tDGet2, tDIn, tDNotIn, rSortV, rSortT, rPop, rSortL, rSortT, tSl, tNoPart, tPart, List.append_nil, L2.start, List.map_cons, List.map_nil, List.length_cons, List.length_nil, List.replicate_succ, List.replicate_zero, List.cons_append, List.nil_append, Nat.reduceAdd, Nat.reduceSub, exists_eq, exists_eq', List.getElem?_cons_zero, List.getElem?_cons_succ, List.set_cons_zero, List.set_cons_succ, Option.some.injEq, V.int.injEq, V.bl.injEq, V.str.injEq, V.ref.injEq, List.cons.injEq, and_true, true_and, and_false, false_and, reduceCtorEq, exists_false, or_false, false_or, exists_and_left, exists_and_right, exists_eq_left, exists_eq_left', exists_eq_right, exists_eq_right', exists_const, ite_true, ite_false, Bool.false_eq_true, if_true, if_false, decide_true, decide_false]
          simp only [Int.zero_add]
          have hni : n * i ≤ 5 * 624 := Nat.mul_le_mul hn5 (by omega)
          rw [et, List.filter_append]
          refine ⟨_, .inl (ll hq4), rfl, ix_flat _, ?_⟩
          rw [inV_ix]
          refine ite2 (fun e => ?_) (fun e => ?_)
          · have nm : m ∉ qi.2 := by simpa using e
            refine ⟨.inl ⟨rfl, _, SqL.of rN4.at_⟩, by decide, fun o1 h1 => ?_⟩
            have u1 := same_upd (o := .lst [.int (m : Nat)]) h1
            refine ⟨qi.1, o1, _, _, rfl, rfl, u1 _ _ hq4, upd_same, by unfold ixV; rw [List.length_map, List.length_singleton]; exact small1000' (by omega), fun o2 h2 => ?_⟩
            have e2 : ixV qi.2 ++ [.int (m : Nat)] = ixV (qi.2 ++ [m]) := by
              unfold ixV
              rw [List.map_append]
              rfl
            rw [e2]
            have u2 := same_upd (o := .lst (ixV (qi.2 ++ [m]))) h2
            have u12 := u1.trans u2
            have rN5 := rN4.same u12
            have nD : o2 ≠ D := fun z => by
              have := u1 _ _ rN4.at_
              rw [← z, h2] at this
              cases this
            refine ⟨_, rN5.at_, by rw [List.length_map]; exact small4000 (by omega), fun x o hx => ?_, N' ++ [(o2, qi.2 ++ [m])], rN5.snoc nN4 upd_same nD, fun q hq => ?_, by rw [List.length_append, List.length_singleton]; omega, ?_⟩
            · rw [upd_ne (ne_of_none hx hD)]
              exact u12 _ _ (s4 _ _ hx)
            · rcases List.mem_append.mp hq with hq | hq
              · exact nN4 q hq
              · rw [List.mem_singleton.mp hq]
                exact nD
            · rw [List.map_append, eN4, List.map_append, ← List.append_assoc]
              simp [nm]
          · have nm : m ∈ qi.2 := by simpa using e
            refine ⟨s4, N', rN4, nN4, by omega, ?_⟩
            rw [eN4]
            simp [nm]
        · rintro σ H4 ⟨N', y5, rfl, s4, rN4, nN4, lN4, eN4⟩
          try simp only [tSeq, tAsg, gName, tOp, rI, rI0, rU, tUn, tVar, tC, tCB, tCons, tNil, tTest, tIfS, tRet, tRetN, tDrop, tNext, tBreak, tCont, rEq, rNe, CDiv, CDivN, CMul, tBM, tBM0, tTup, tLst, tAug, tIf, tAnd, tOr, tNot, tAndV, tOrV, tNotV, tIsN, tNotN, tB, scal, tCall, cxK, cxKn, rIxT, rIxL, rIn, rAppend, rReverse, tVals, tDSetd, tDGet, tDGet1, tDGet2, tDIn, tDNotIn, rSortV, rSortT, rPop, rSortL, rSortT, tSl, tNoPart, tPart, List.append_nil, L2.start, List.map_cons, List.map_nil, List.length_cons, List.length_nil, List.replicate_succ, List.replicate_zero, List.cons_append, List.nil_append, Nat.reduceAdd, Nat.reduceSub, exists_eq, exists_eq', List.getElem?_cons_zero, List.getElem?_cons_succ, List.set_cons_zero, List.set_cons_succ, Option.some.injEq, V.int.injEq, V.bl.injEq, V.str.injEq, V.ref.injEq, List.cons.injEq, and_true, true_and, and_false, false_and, reduceCtorEq, exists_false, or_false, false_or, exists_and_left, exists_and_right, exists_eq_left, exists_eq_left', exists_eq_right, exists_eq_right', exists_const, ite_true, ite_false, Bool.false_eq_true, if_true, if_false, decide_true, decide_false]
          rw [List.take_of_length_le (by rw [List.length_range]; exact Nat.le_refl _)] at eN4
          exact ⟨s4, N', rN4, nN4, by rw [Nat.mul_succ]; exact lN4, by rw [eT]; exact eN4⟩
      · rintro σ H3 ⟨N, z2, z4, z5, rfl, s3, rN, nN, lN, eN⟩
        rw [List.length_map] at lN eN
        rw [List.take_of_length_le (by rw [← eR, List.length_map]; exact Nat.le_refl _)] at eN
        try simp only [tSeq, tAsg, gName, tOp, rI, rI0, rU, tUn, tVar, tC, tCB, tCons, tNil, tTest, tIfS, tRet, tRetN, tDrop, tNext, tBreak, tCont, rEq, rNe, CDiv, CDivN, CMul, tBM, tBM0, tTup, tLst, tAug, tIf, tAnd, tOr, tNot, tAndV, tOrV, tNotV, tIsN, tNotN, tB, scal, tCall, cxK, cxKn, rIxT, rIxL, rIn, rAppend, rReverse, tVals, tDSetd, tDGet, tDGet1, tDGet2, tDIn, tDNotIn, rSortV, rSortT, rPop, rSortL, rSortT, tSl, tNoPart, tPart, List.append_nil, L2.start, List.map_cons, List.map_nil, List.length_cons, List.length_nil, List.replicate_succ, List.replicate_zero, List.cons_append, List.nil_append, Nat.reduceAdd, Nat.reduceSub, exists_eq, exists_eq', List.getElem?_cons_zero, List.getElem?_cons_succ, List.set_cons_zero, List.set_cons_succ, Option.some.injEq, V.int.injEq, V.bl.injEq, V.str.injEq, V.ref.injEq, List.cons.injEq, and_true, true_and, and_false, false_and, reduceCtorEq, exists_false, or_false, false_or, exists_and_left, exists_and_right, exists_eq_left, exists_eq_left', exists_eq_right, exists_eq_right', exists_const, ite_true, ite_false, Bool.false_eq_true, if_true, if_false, decide_true, decide_false]
        refine ⟨_, .inl (ll rN.at_), fun o5 h5 => ?_⟩
        have u5 := same_upd (o := .lst (N.map fun q => V.ref q.1)) h5
        exact ⟨(s2.trans s3).trans u5, N, ⟨upd_same, (rN.same u5).all⟩, eN⟩
    · rintro σ H2 ⟨o, R, y2, y3, y4, y5, rfl, s2, rR, eR⟩
      try simp only [tSeq, tAsg, gName, tOp, rI, rI0, rU, tUn, tVar, tC, tCB, tCons, tNil, tTest, tIfS, tRet, tRetN, tDrop, tNext, tBreak, tCont, rEq, rNe, CDiv, CDivN, CMul, tBM, tBM0, tTup, tLst, tAug, tIf, tAnd, tOr, tNot, tAndV, tOrV, tNotV, tIsN, tNotN, tB, scal, tCall, cxK, cxKn, rIxT, rIxL, rIn, rAppend, rReverse, tVals, tDSetd, tDGet, tDGet1, tDGet2, tDIn, tDNotIn, rSortV, rSortT, rPop, rSortL, rSortT, tSl, tNoPart, tPart, List.append_nil, L2.start, List.map_cons, List.map_nil, List.length_cons, List.length_nil, List.replicate_succ, List.replicate_zero, List.cons_append, List.nil_append, Nat.reduceAdd, Nat.reduceSub, exists_eq, exists_eq', List.getElem?_cons_zero, List.getElem?_cons_succ, List.set_cons_zero, List.set_cons_succ, Option.some.injEq, V.int.injEq, V.bl.injEq, V.str.injEq, V.ref.injEq, List.cons.injEq, and_true, true_and, and_false, false_and, reduceCtorEq, exists_false, or_false, false_or, exists_and_left, exists_and_right, exists_eq_left, exists_eq_left', exists_eq_right, exists_eq_right', exists_const, ite_true, ite_false, Bool.false_eq_true, if_true, if_false, decide_true, decide_false]
      exact q H2 o R s2 rR eR
abbrev twoN : List Str := ["_law_kind", "_law_one", "_law_other", "_law_ahead", "_law_behind", "_law_front", "_law_end"]
theorem scTwo : FnScope twoN ["_law_kind", "_law_one", "_law_other", "_law_ahead", "_law_behind"] (defScope sTwo) := ⟨rfl, rfl, rfl, by decide +kernel, rfl, by decide +kernel, by decide +kernel⟩
theorem two_rest {f : Addr} {cdv : Value} {A : Around} {outer : List Env} {s : Shared} {H0 : Hp} {E : XK} (B : Bi mg) (hr : Room 2 (A.deeper (envOfC "_law_two" (defScope sTwo) s.heap.objs.size f cdv)))
    (cNew : CalX CX0 P w K mg base 1 "_law_new" spNew) (cRear : CalX CX0 P w K mg base 2 "_law_rear" spRear) (cChained : CalX CX0 P w K mg base 1 "_law_chained" spChained) :
    ∃ t, PSs (cxOf CX0 P w K mg base twoN "_law_two" (defScope sTwo) f cdv A outer s H0 E).nox ((defBody sTwo).drop 2) t ∧
      ∀ (Q : VK) (k : Kd) (b c o1 o2 : Addr) (fr en : Bool) (xs ys As Bs : List Int) (H : Hp), H o1 = some (.tup (xs.map V.int)) → H o2 = some (.tup (ys.map V.int)) → H b = some (.tup (As.map V.int)) → H c = some (.tup (Bs.map V.int)) → xs.length ≤ 100 → ys.length ≤ 100 → As.length ≤ 100 → Bs.length ≤ 100 →
        (As ≠ [] ∨ firstI xs = firstI ys ↔ fr = true) → (Bs ≠ [] ∨ lastI xs = lastI ys ↔ en = true) → (∀ (b' : Bool) (H' : Hp), Same H H' → (swapOk k As Bs xs ys ↔ b' = true) → Q (.bl b') H') →
        t { nx := fun _ H' => Q .non H', rt := Q } [some (.str k.nm), some (.ref o1), some (.ref o2), some (.ref b), some (.ref c), some (.bl fr), some (.bl en)] H := by
  refine ⟨_, (pss_cons (ps_if (pt_cmpR op_eq (pv 0) pe_str (nomark _))
 (pss_one (ps_ret (pe_cmpR (op_eqD hr.units) (pe_op op_catA (pv 1) (pv 2)) (pe_op op_catA (pv 2) (pv 1)) (nomark _)))) pss_nil)
 (pss_cons (ps_if (pt_cmpR op_eq (pv 0) pe_str (nomark _))
 (pss_one (ps_ret (pv 5))) pss_nil)
 (pss_cons (ps_if (pt_cmpR op_eq (pv 0) pe_str (nomark _))
 (pss_one (ps_ret (pv 6))) pss_nil)
 (pss_cons (ps_if (pt_cmpR op_eq (pv 0) pe_str (nomark _))
 (pss_one (ps_ret (pe_and (pv 5) (pe_one (pv 6))))) pss_nil)
 (pss_cons (ps_if (pt_cmpR op_eq (pv 0) pe_str (nomark _))
 (pss_one (ps_ret (pe_cx cChained hr (by decide) pass0 (by rfl) (pa_cons (pv 0) (pa_cons (pe_cx cNew hr (by decide) pass0 (by rfl) (pa_cons (pv 1) (pa_cons (pv 3) pa_nil))) (pa_cons (pe_cx cNew hr (by decide) pass0 (by rfl) (pa_cons (pv 2) (pa_cons (pv 3) pa_nil))) pa_nil)))))) pss_nil)
 (pss_cons (ps_if (pt_cmpR op_eq (pv 0) pe_str (nomark _))
 (pss_one (ps_ret (pe_cx cChained hr (by decide) pass0 (by rfl) (pa_cons (pv 0) (pa_cons (pe_cx cRear hr (by decide) pass0 (by rfl) (pa_cons (pv 1) (pa_cons (pv 4) pa_nil))) (pa_cons (pe_cx cRear hr (by decide) pass0 (by rfl) (pa_cons (pv 2) (pa_cons (pv 4) pa_nil))) pa_nil)))))) pss_nil)
 (pss_one (ps_ret pe_bl)))))))), ?_⟩
  rintro Q k b c o1 o2 fr en xs ys As Bs H h1 h2 hb hc l1 l2 la lb hf he q
  try simp only [tSeq, tAsg, gName, tOp, rI, rI0, rU, tUn, tVar, tC, tCB, tCons, tNil, tTest, tIfS, tRet, tRetN, tDrop, tNext, tBreak, tCont, rEq, rNe, CDiv, CDivN, CMul, tBM, tBM0, tTup, tLst, tAug, tIf, tAnd, tOr, tNot, tAndV, tOrV, tNotV, tIsN, tNotN, tB, scal, tCall, cxK, cxKn, rIxT, rIxL, rIn, rAppend, rReverse, tVals, tDSetd, tDGet, tDGet1, tDGet2, tDIn, tDNotIn, rSortV, rSortT, rPop, rSortL, rSortT, tSl, tNoPart, tPart, List.append_nil, L2.start, List.map_cons, List.map_nil, List.length_cons, List.length_nil, List.replicate_succ, List.replicate_zero, List.cons_append, List.nil_append, Nat.reduceAdd, Nat.reduceSub, exists_eq, exists_eq', List.getElem?_cons_zero, List.getElem?_cons_succ, List.set_cons_zero, List.set_cons_succ, Option.some.injEq, V.int.injEq, V.bl.injEq, V.str.injEq, V.ref.injEq, List.cons.injEq, and_true, true_and, and_false, false_and, reduceCtorEq, exists_false, or_false, false_or, exists_and_left, exists_and_right, exists_eq_left, exists_eq_left', exists_eq_right, exists_eq_right', exists_const, ite_true, ite_false, Bool.false_eq_true, if_true, if_false, decide_true, decide_false]
  cases k
  case' list => refine if_T (by decide +kernel) ?_
  case' first => exact if_F (by decide +kernel) (if_T (by decide +kernel) (q fr H (Same.refl H) hf))
  case' last => exact if_F (by decide +kernel) (if_F (by decide +kernel) (if_T (by decide +kernel) (q en H (Same.refl H) he)))
  case' ends => refine if_F (by decide +kernel) (if_F (by decide +kernel) (if_F (by decide +kernel) (if_T (by decide +kernel) ?_)))
  case' heads => refine if_F (by decide +kernel) (if_F (by decide +kernel) (if_F (by decide +kernel) (if_F (by decide +kernel) (if_T (by decide +kernel) ?_))))
  case' tails => refine if_F (by decide +kernel) (if_F (by decide +kernel) (if_F (by decide +kernel) (if_F (by decide +kernel) (if_F (by decide +kernel) (if_T (by decide +kernel) ?_)))))
  case' bag => exact if_F (by decide +kernel) (if_F (by decide +kernel) (if_F (by decide +kernel) (if_F (by decide +kernel) (if_F (by decide +kernel) (if_F (by decide +kernel) (q true H (Same.refl H) ⟨fun _ => rfl, fun _ => trivial⟩))))))
  case' set => exact if_F (by decide +kernel) (if_F (by decide +kernel) (if_F (by decide +kernel) (if_F (by decide +kernel) (if_F (by decide +kernel) (if_F (by decide +kernel) (q true H (Same.refl H) ⟨fun _ => rfl, fun _ => trivial⟩))))))
  case list =>
    refine cat_tups h1 h2 (by rw [List.length_map, List.length_map]; omega) fun t1 H1 s1 g1 => ?_
    refine cat_tups (s1 _ _ h2) (s1 _ _ h1) (by rw [List.length_map, List.length_map]; omega) fun t2 H2 s2 g2 => ?_
    have g1' := s2 _ _ g1
    rw [← List.map_append] at g1' g2
    refine eq_tups (tt g1') (tt g2) (q _ _ (s1.trans s2) ?_)
    rw [decide_eq_true_eq]
    exact Iff.rfl
  case ends =>
    cases fr with
    | true => exact q en H (Same.refl H) ⟨fun h => he.mp h.2, fun h => ⟨hf.mpr rfl, he.mpr h⟩⟩
    | false => exact q false H (Same.refl H) ⟨fun h => hf.mp h.1, fun h => Bool.noConfusion h⟩
  case heads =>
    refine ⟨o1, b, xs, As, rfl, h1, hb, by omega, by omega, fun H1 r1 s1 _ g1 => ?_⟩
    refine ⟨o2, b, ys, As, rfl, s1 _ _ h2, s1 _ _ hb, by omega, by omega, fun H2 r2 s2 _ g2 => ?_⟩
    have m1 := newI_len xs As
    have m2 := newI_len ys As
    refine ⟨.heads, r1, r2, newI xs As, newI ys As, rfl, s2 _ _ g1, g2, by omega, by omega, fun b' H' s' hb' => q b' H' ((s1.trans s2).trans s') ?_⟩
    rw [if_pos rfl] at hb'
    exact hb'
  case tails =>
    refine ⟨o1, c, xs, Bs, rfl, h1, hc, by omega, by omega, fun H1 r1 s1 g1 => ?_⟩
    refine ⟨o2, c, ys, Bs, rfl, s1 _ _ h2, s1 _ _ hc, by omega, by omega, fun H2 r2 s2 g2 => ?_⟩
    have m1 : (rearI xs Bs).length ≤ xs.length := by
      have := newI_len xs.reverse Bs
      unfold rearI
      rw [List.length_reverse] at this ⊢
      exact this
    have m2 : (rearI ys Bs).length ≤ ys.length := by
      have := newI_len ys.reverse Bs
      unfold rearI
      rw [List.length_reverse] at this ⊢
      exact this
    refine ⟨.tails, r1, r2, rearI xs Bs, rearI ys Bs, rfl, s2 _ _ g1, g2, by omega, by omega, fun b' H' s' hb' => q b' H' ((s1.trans s2).trans s') ?_⟩
    rw [if_neg (by decide)] at hb'
    exact hb'
def spTwo : Sp := fun vs H Q _ => ∃ (k : Kd) (x y b c : Addr) (xs ys As Bs : List Int), vs = [.str k.nm, .ref x, .ref y, .ref b, .ref c] ∧ H x = some (.tup (xs.map V.int)) ∧ H y = some (.tup (ys.map V.int)) ∧ H b = some (.tup (As.map V.int)) ∧ H c = some (.tup (Bs.map V.int)) ∧ xs ≠ [] ∧ ys ≠ [] ∧ xs.length ≤ 100 ∧ ys.length ≤ 100 ∧ As.length ≤ 100 ∧ Bs.length ≤ 100 ∧
  ∀ (b' : Bool) (H' : Hp), Same H H' → (swapOk k As Bs xs ys ↔ b' = true) → Q (.bl b') H'
theorem ok_two {f : Addr} {fd : FuncData} (F : Fun K "_law_two" "_law_two" sTwo f fd) (B : Bi mg) (cNew : CalX CX0 P w K mg base 1 "_law_new" spNew) (cRear : CalX CX0 P w K mg base 2 "_law_rear" spRear) (cChained : CalX CX0 P w K mg base 1 "_law_chained" spChained) : FnOk P w K mg base CX0 3 f fd ["_law_kind", "_law_one", "_law_other", "_law_ahead", "_law_behind"] spTwo := by
  refine F.ok scTwo (fun vs H Q E h => ?_) (fun cdv A outer s H vs Q E hr h => ?_)
  · obtain ⟨k, x, y, b, c, xs, ys, As, Bs, rfl, _⟩ := h
    rfl
  · obtain ⟨k, x, y, b, c, xs, ys, As, Bs, rfl, hx, hy, hb, hc, nu, nv, lx, ly, la, lb, q⟩ := h
    obtain ⟨tr, hrest, hR⟩ := two_rest (s := s) (H0 := H) (E := E) (outer := outer) (cdv := cdv) (f := f) (A := A) (K := K) (P := P) (w := w) (base := base) B hr cNew cRear cChained
    refine ⟨_, (pss_cons (ps_set (i := 5) scTwo.nd rfl (.inl rfl) (pe_or (pe_cmpR op_gt (pe_callB call_len_seq (by rfl) B.len PySem.boot_len (pa_cons (pv 3) pa_nil)) pe_int (nomark _)) (pe_one (pe_cmpR op_eq (pe_ix ix_tup (pv 1) pe_int (fun _ _ => rfl)) (pe_ix ix_tup (pv 2) pe_int (fun _ _ => rfl)) (nomark _)))))
 (pss_cons (ps_set (i := 6) scTwo.nd rfl (.inl rfl) (pe_or (pe_cmpR op_gt (pe_callB call_len_seq (by rfl) B.len PySem.boot_len (pa_cons (pv 4) pa_nil)) pe_int (nomark _)) (pe_one (pe_cmpR op_eq (pe_ix ix_tup (pv 1) (pe_un un_neg pe_int) (fun _ _ => rfl)) (pe_ix ix_tup (pv 2) (pe_un un_neg pe_int) (fun _ _ => rfl)) (nomark _)))))
 hrest)), ?_⟩
    obtain ⟨x1, f1, f2⟩ := atI_firstI nu
    obtain ⟨x2, f3, f4⟩ := atI_firstI nv
    obtain ⟨y1, k1, k2⟩ := atI_lastI nu
    obtain ⟨y2, k3, k4⟩ := atI_lastI nv
    have fin : ∀ fr en : Bool, (As ≠ [] ∨ firstI xs = firstI ys ↔ fr = true) → (Bs ≠ [] ∨ lastI xs = lastI ys ↔ en = true) → tr { nx := fun _ H' => Q .non H', rt := Q } [some (.str k.nm), some (.ref x), some (.ref y), some (.ref b), some (.ref c), some (.bl fr), some (.bl en)] H := fun fr en h1 h2 =>
      hR Q k b c x y fr en xs ys As Bs H hx hy hb hc lx ly la lb h1 h2 q
    have nil_len : ∀ xs : List Int, xs ≠ [] ↔ 0 < xs.length := fun xs => by
      cases xs with
      | nil => simp
      | cons x xs => simp
    try simp only [tSeq, tAsg, gName, tOp, rI, rI0, rU, tUn, tVar, tC, tCB, tCons, tNil, tTest, tIfS, tRet, tRetN, tDrop, tNext, tBreak, tCont, rEq, rNe, CDiv, CDivN, CMul, tBM, tBM0, tTup, tLst, tAug, tIf, tAnd, tOr, tNot, tAndV, tOrV, tNotV, tIsN, tNotN, tB, scal, tCall, cxK, cxKn, rIxT, rIxL, rIn, rAppend, rReverse, tVals, tDSetd, tDGet, tDGet1, tDGet2, tDIn, tDNotIn, rSortV, rSortT, rPop, rSortL, rSortT, tSl, tNoPart, tPart, List.append_nil, L2.start, List.map_cons, List.map_nil, List.length_cons, List.length_nil, List.replicate_succ, List.replicate_zero, List.cons_append, List.nil_append, Nat.reduceAdd, Nat.reduceSub, exists_eq, exists_eq', List.getElem?_cons_zero, List.getElem?_cons_succ, List.set_cons_zero, List.set_cons_succ, Option.some.injEq, V.int.injEq, V.bl.injEq, V.str.injEq, V.ref.injEq, List.cons.injEq, and_true, true_and, and_false, false_and, reduceCtorEq, exists_false, or_false, false_or, exists_and_left, exists_and_right, exists_eq_left, exists_eq_left', exists_eq_right, exists_eq_right', exists_const, ite_true, ite_false, Bool.false_eq_true, if_true, if_false, decide_true, decide_false]
    refine ⟨_, .inr (tt hb), ite2 (fun e => ?A) (fun e => ⟨_, tt hx, _, f2, _, tt hy, _, f4, rfl, ?B⟩)⟩
    case' A =>
      have a0 : As ≠ [] := (nil_len As).mpr (by have := of_decide_eq_true e; rw [List.length_map] at this; omega)
      have hfr : As ≠ [] ∨ firstI xs = firstI ys ↔ true = true := ⟨fun _ => rfl, fun _ => .inl a0⟩
    case' B =>
      have a0 : ¬ As ≠ [] := fun h => e (decide_eq_true (by rw [List.length_map]; have := (nil_len As).mp h; omega))
      have hfr : As ≠ [] ∨ firstI xs = firstI ys ↔ decide (V.int x1 = V.int x2) = true := by
        rw [f1, f3]
        simp only [decide_eq_true_eq, V.int.injEq, List.cons.injEq, and_true]
        exact ⟨fun h => h.elim (fun h => absurd h a0) id, fun h => .inr h⟩
      generalize decide (V.int x1 = V.int x2) = frb at hfr
    all_goals
      refine ⟨_, .inr (tt hc), ite2 (fun e2 => fin _ true hfr ⟨fun _ => rfl, fun _ => .inl ((nil_len Bs).mpr (by have := of_decide_eq_true e2; rw [List.length_map] at this; omega))⟩) (fun e2 => ⟨_, tt hx, _, k2, _, tt hy, _, k4, rfl, fin _ _ hfr ?_⟩)⟩
      have b0 : ¬ Bs ≠ [] := fun h => e2 (decide_eq_true (by rw [List.length_map]; have := (nil_len Bs).mp h; omega))
      rw [k1, k3]
      simp only [decide_eq_true_eq, V.int.injEq, List.cons.injEq, and_true]
      exact ⟨fun h => h.elim (fun h => absurd h b0) id, fun h => .inr h⟩
theorem scFree : FnScope ["_law_kind", "_law_parcels", "_law_ahead", "_law_behind", "_law_i", "_law_j"] ["_law_kind", "_law_parcels", "_law_ahead", "_law_behind"] (defScope sFree) := ⟨rfl, rfl, rfl, by decide +kernel, rfl, by decide +kernel, by decide +kernel⟩
def spFree : Sp := fun vs H Q _ => ∃ (k : Kd) (l b c : Addr) (L : PL) (As Bs : List Int), vs = [.str k.nm, .ref l, .ref b, .ref c] ∧ Pcs H l L ∧ H b = some (.tup (As.map V.int)) ∧ H c = some (.tup (Bs.map V.int)) ∧ L.length ≤ 60 ∧ (∀ q ∈ L, 1 ≤ q.2.length ∧ q.2.length ≤ 4) ∧ As.length ≤ 100 ∧ Bs.length ≤ 100 ∧
  ∀ (b' : Bool) (H' : Hp), Same H H' → (freeO k As Bs L ↔ b' = true) → Q (.bl b') H'
theorem ok_free {f : Addr} {fd : FuncData} (F : Fun K "_law_free" "_law_free" sFree f fd) (B : Bi mg) (cTwo : CalX CX0 P w K mg base 3 "_law_two" spTwo) : FnOk P w K mg base CX0 4 f fd ["_law_kind", "_law_parcels", "_law_ahead", "_law_behind"] spFree := by
  refine F.ok scFree (fun vs H Q E h => ?_) (fun cdv A outer s H vs Q E hr h => ?_)
  · obtain ⟨k, l, b, c, L, As, Bs, rfl, _⟩ := h
    rfl
  · obtain ⟨k, l, b, c, L, As, Bs, rfl, pl, hb, hc, hL, hq, la, lb, q⟩ := h
    refine ⟨_, (pss_cons (ps_for PassesOwn.never rfl (pi_range1 (by rfl) B.range (pa_cons (pe_callB call_len_seq (by rfl) B.len PySem.boot_len (pa_cons (pv 1) pa_nil)) pa_nil)) (pg_name (i := 4) scFree.nd rfl (.inl rfl))
 (pss_one (ps_for PassesOwn.never rfl (pi_range1 (by rfl) B.range (pa_cons (pv 4) pa_nil)) (pg_name (i := 5) scFree.nd rfl (.inl rfl))
 (pss_one (ps_if (pt_not (pt_val (pe_cx cTwo hr (by decide) pass0 (by rfl) (pa_cons (pv 0) (pa_cons (pe_ix ix_list (pv 1) (pv 5) (fun _ _ => rfl)) (pa_cons (pe_ix ix_list (pv 1) (pv 4) (fun _ _ => rfl)) (pa_cons (pv 2) (pa_cons (pv 3) pa_nil))))))))
 (pss_one (ps_ret pe_bl)) pss_nil)))))
 (pss_one (ps_ret pe_bl))), ?_⟩
    try simp only [tSeq, tAsg, gName, tOp, rI, rI0, rU, tUn, tVar, tC, tCB, tCons, tNil, tTest, tIfS, tRet, tRetN, tDrop, tNext, tBreak, tCont, rEq, rNe, CDiv, CDivN, CMul, tBM, tBM0, tTup, tLst, tAug, tIf, tAnd, tOr, tNot, tAndV, tOrV, tNotV, tIsN, tNotN, tB, scal, tCall, cxK, cxKn, rIxT, rIxL, rIn, rAppend, rReverse, tVals, tDSetd, tDGet, tDGet1, tDGet2, tDIn, tDNotIn, rSortV, rSortT, rPop, rSortL, rSortT, tSl, tNoPart, tPart, List.append_nil, L2.start, List.map_cons, List.map_nil, List.length_cons, List.length_nil, List.replicate_succ, List.replicate_zero, List.cons_append, List.nil_append, Nat.reduceAdd, Nat.reduceSub, exists_eq, exists_eq', List.getElem?_cons_zero, List.getElem?_cons_succ, List.set_cons_zero, List.set_cons_succ, Option.some.injEq, V.int.injEq, V.bl.injEq, V.str.injEq, V.ref.injEq, List.cons.injEq, and_true, true_and, and_false, false_and, reduceCtorEq, exists_false, or_false, false_or, exists_and_left, exists_and_right, exists_eq_left, exists_eq_left', exists_eq_right, exists_eq_right', exists_const, ite_true, ite_false, Bool.false_eq_true, if_true, if_false, decide_true, decide_false]
    refine ⟨.ref l, rfl, l, rfl, _, .inl (ll pl.at_), _, rfl, by rw [List.length_map]; omega, by rw [List.length_map]; omega, ?_⟩
    rw [List.length_map]
    refine for_range (n := L.length) (fun i σ H' => ∃ (y4 y5 : Option V), σ = [some (.str k.nm), some (.ref l), some (.ref b), some (.ref c), y4, y5] ∧ Same H H' ∧ ∀ (i' j : Nat) (x y : Addr × List Int), i' < i → j < i' → L[i']? = some x → L[j]? = some y → swapOk k As Bs y.2 x.2)
      ⟨none, none, rfl, Same.refl H, fun i' j x y h => absurd h (by omega)⟩ ?_ ?_
    · rintro i σ H3 hi ⟨y4, y5, rfl, s3, hn⟩
      have hqi : L[i]? = some L[i] := List.getElem?_eq_getElem hi
      generalize L[i] = qi at hqi
      have ati : (L.map fun q => V.ref q.1)[i]? = some (.ref qi.1) := by
        rw [List.getElem?_map, hqi]
        rfl
      try simp only [tSeq, tAsg, gName, tOp, rI, rI0, rU, tUn, tVar, tC, tCB, tCons, tNil, tTest, tIfS, tRet, tRetN, tDrop, tNext, tBreak, tCont, rEq, rNe, CDiv, CDivN, CMul, tBM, tBM0, tTup, tLst, tAug, tIf, tAnd, tOr, tNot, tAndV, tOrV, tNotV, tIsN, tNotN, tB, scal, tCall, cxK, cxKn, rIxT, rIxL, rIn, rAppend, rReverse, tVals, tDSetd, tDGet, tDGet1, tDGet2, tDIn, tDNotIn, rSortV, rSortT, rPop, rSortL, rSortT, tSl, tNoPart, tPart, List.append_nil, L2.start, List.map_cons, List.map_nil, List.length_cons, List.length_nil, List.replicate_succ, List.replicate_zero, List.cons_append, List.nil_append, Nat.reduceAdd, Nat.reduceSub, exists_eq, exists_eq', List.getElem?_cons_zero, List.getElem?_cons_succ, List.set_cons_zero, List.set_cons_succ, Option.some.injEq, V.int.injEq, V.bl.injEq, V.str.injEq, V.ref.injEq, List.cons.injEq, and_true, true_and, and_false, false_and, reduceCtorEq, exists_false, or_false, false_or, exists_and_left, exists_and_right, exists_eq_left, exists_eq_left', exists_eq_right, exists_eq_right', exists_const, ite_true, ite_false, Bool.false_eq_true, if_true, if_false, decide_true, decide_false]
      simp only [Int.zero_add]
      refine ⟨_, rfl, _, rfl, by omega, by omega, ?_⟩
      refine for_range (n := i) (fun j σ H' => ∃ (y5 : Option V), σ = [some (.str k.nm), some (.ref l), some (.ref b), some (.ref c), some (.int (i : Nat)), y5] ∧ Same H H' ∧ ∀ (j' : Nat) (y : Addr × List Int), j' < j → L[j']? = some y → swapOk k As Bs y.2 qi.2)
        ⟨y5, rfl, s3, fun j y h => absurd h (by omega)⟩ ?_ ?_
      · rintro j σ H5 hj ⟨y5, rfl, s5, hnj⟩
        have hjl : j < L.length := by omega
        have hqj : L[j]? = some L[j] := List.getElem?_eq_getElem hjl
        generalize L[j] = qj at hqj
        have atj : (L.map fun q => V.ref q.1)[j]? = some (.ref qj.1) := by
          rw [List.getElem?_map, hqj]
          rfl
        have mi := List.mem_of_getElem? hqi
        have mj := List.mem_of_getElem? hqj
        have zi := hq qi mi
        have zj := hq qj mj
        try simp only [tSeq, tAsg, gName, tOp, rI, rI0, rU, tUn, tVar, tC, tCB, tCons, tNil, tTest, tIfS, tRet, tRetN, tDrop, tNext, tBreak, tCont, rEq, rNe, CDiv, CDivN, CMul, tBM, tBM0, tTup, tLst, tAug, tIf, tAnd, tOr, tNot, tAndV, tOrV, tNotV, tIsN, tNotN, tB, scal, tCall, cxK, cxKn, rIxT, rIxL, rIn, rAppend, rReverse, tVals, tDSetd, tDGet, tDGet1, tDGet2, tDIn, tDNotIn, rSortV, rSortT, rPop, rSortL, rSortT, tSl, tNoPart, tPart, List.append_nil, L2.start, List.map_cons, List.map_nil, List.length_cons, List.length_nil, List.replicate_succ, List.replicate_zero, List.cons_append, List.nil_append, Nat.reduceAdd, Nat.reduceSub, exists_eq, exists_eq', List.getElem?_cons_zero, List.getElem?_cons_succ, List.set_cons_zero, List.set_cons_succ, Option.some.injEq, V.int.injEq, V.bl.injEq, V.str.injEq, V.ref.injEq, List.cons.injEq, and_true, true_and, and_false, false_and, reduceCtorEq, exists_false, or_false, false_or, exists_and_left, exists_and_right, exists_eq_left, exists_eq_left', exists_eq_right, exists_eq_right', exists_const, ite_true, ite_false, Bool.false_eq_true, if_true, if_false, decide_true, decide_false]
        simp only [Int.zero_add]
        refine ⟨_, ll (pl.same s5).at_, _, atI_nat atj, _, ll (pl.same s5).at_, _, atI_nat ati, k, qj.1, qi.1, b, c, qj.2, qi.2, As, Bs, rfl, s5 _ _ (pl.all qj mj), s5 _ _ (pl.all qi mi), s5 _ _ hb, s5 _ _ hc, ne_of_len zj.1, ne_of_len zi.1, by omega, by omega, la, lb, fun b' H6 s6 hb' => ⟨b', rfl, ?_⟩⟩
        cases b' with
        | true =>
          refine if_F rfl ⟨s5.trans s6, fun j' y h1 h2 => ?_⟩
          by_cases ej : j' = j
          · subst ej
            obtain rfl : qj = y := Option.some.inj (hqj.symm.trans h2)
            exact hb'.mpr rfl
          · exact hnj j' y (by omega) h2
        | false => exact if_T rfl (q false H6 (s5.trans s6) ⟨fun hf => hb'.mp (hf i j qi qj hj hqi hqj), fun z => Bool.noConfusion z⟩)
      · rintro σ H5 ⟨y5, rfl, s5, hnj⟩
        try simp only [tSeq, tAsg, gName, tOp, rI, rI0, rU, tUn, tVar, tC, tCB, tCons, tNil, tTest, tIfS, tRet, tRetN, tDrop, tNext, tBreak, tCont, rEq, rNe, CDiv, CDivN, CMul, tBM, tBM0, tTup, tLst, tAug, tIf, tAnd, tOr, tNot, tAndV, tOrV, tNotV, tIsN, tNotN, tB, scal, tCall, cxK, cxKn, rIxT, rIxL, rIn, rAppend, rReverse, tVals, tDSetd, tDGet, tDGet1, tDGet2, tDIn, tDNotIn, rSortV, rSortT, rPop, rSortL, rSortT, tSl, tNoPart, tPart, List.append_nil, L2.start, List.map_cons, List.map_nil, List.length_cons, List.length_nil, List.replicate_succ, List.replicate_zero, List.cons_append, List.nil_append, Nat.reduceAdd, Nat.reduceSub, exists_eq, exists_eq', List.getElem?_cons_zero, List.getElem?_cons_succ, List.set_cons_zero, List.set_cons_succ, Option.some.injEq, V.int.injEq, V.bl.injEq, V.str.injEq, V.ref.injEq, List.cons.injEq, and_true, true_and, and_false, false_and, reduceCtorEq, exists_false, or_false, false_or, exists_and_left, exists_and_right, exists_eq_left, exists_eq_left', exists_eq_right, exists_eq_right', exists_const, ite_true, ite_false, Bool.false_eq_true, if_true, if_false, decide_true, decide_false]
        refine ⟨s5, fun i' j x y h1 h2 h3 h4 => ?_⟩
        by_cases ei : i' = i
        · subst ei
          obtain rfl : qi = x := Option.some.inj (hqi.symm.trans h3)
          exact hnj j y h2 h4
        · exact hn i' j x y (by omega) h2 h3 h4
    · rintro σ H3 ⟨y4, y5, rfl, s3, hn⟩
      try simp only [tSeq, tAsg, gName, tOp, rI, rI0, rU, tUn, tVar, tC, tCB, tCons, tNil, tTest, tIfS, tRet, tRetN, tDrop, tNext, tBreak, tCont, rEq, rNe, CDiv, CDivN, CMul, tBM, tBM0, tTup, tLst, tAug, tIf, tAnd, tOr, tNot, tAndV, tOrV, tNotV, tIsN, tNotN, tB, scal, tCall, cxK, cxKn, rIxT, rIxL, rIn, rAppend, rReverse, tVals, tDSetd, tDGet, tDGet1, tDGet2, tDIn, tDNotIn, rSortV, rSortT, rPop, rSortL, rSortT, tSl, tNoPart, tPart, List.append_nil, L2.start, List.map_cons, List.map_nil, List.length_cons, List.length_nil, List.replicate_succ, List.replicate_zero, List.cons_append, List.nil_append, Nat.reduceAdd, Nat.reduceSub, exists_eq, exists_eq', List.getElem?_cons_zero, List.getElem?_cons_succ, List.set_cons_zero, List.set_cons_succ, Option.some.injEq, V.int.injEq, V.bl.injEq, V.str.injEq, V.ref.injEq, List.cons.injEq, and_true, true_and, and_false, false_and, reduceCtorEq, exists_false, or_false, false_or, exists_and_left, exists_and_right, exists_eq_left, exists_eq_left', exists_eq_right, exists_eq_right', exists_const, ite_true, ite_false, Bool.false_eq_true, if_true, if_false, decide_true, decide_false]
      exact q true H3 s3 ⟨fun _ => rfl, fun _ i j x y h1 h2 h3 => hn i j x y (List.getElem?_eq_some_iff.mp h2).1 h1 h2 h3⟩
end
end Mv

set_option Elab.async false
set_option linter.all false
set_option maxRecDepth 100000
set_option maxHeartbeats 4000000
namespace Mv
open PySem PySem.Spec PyProof.Rows L2
abbrev sPair : Stmt := topS 39
theorem cutV_mid (xs : List V) {a b : Nat} (ha : a ≤ xs.length) (hb : b ≤ xs.length) : cutV xs (some (a : Int)) (some (b : Int)) = (xs.drop a).take (b - a) := by
  unfold cutV
  rw [HT.sIx_nat, HT.sIx_nat]
  show (xs.drop (min a xs.length)).take (min b xs.length - min a xs.length) = _
  rw [Nat.min_eq_left ha, Nat.min_eq_left hb]
theorem sl_mid {K : PySem.W.Frag} {H : Hp} {l : Addr} {L : PL} {a b : Nat} {m n : Int} {Q : VK} (e : m = (a : Int)) (e' : n = (b : Int)) (ha : a ≤ L.length) (hb : b ≤ L.length) (p : Pcs H l L) (q : ∀ (o : Addr) (H' : Hp), Same H H' → Pcs H' o ((L.drop a).take (b - a)) → Q (.ref o) H') : rSlL K (.ref l) (some m) (some n) H Q := by
  subst e e'
  refine ⟨l, _, rfl, ll p.at_, fun o ho => ?_⟩
  rw [cutV_mid _ (by rw [List.length_map]; exact ha) (by rw [List.length_map]; exact hb), ← List.map_drop, ← List.map_take]
  exact q o _ (same_upd ho) (p.part (same_upd ho) upd_same fun q hq => List.mem_of_mem_drop (List.mem_of_mem_take hq))
section
variable {P : Program} {w : World} {K : PySem.W.Frag} {mg : Str → Option Value} {base : Heap} {T : List (Addr × Str)} {CB : Addr}
theorem scPair : FnScope ["_law_kind", "_law_parcels", "_law_ahead", "_law_behind", "_law_last", "_law_i", "_law_j", "_law_rest", "_law_one", "_law_other", "_law_left", "_law_right"] ["_law_kind", "_law_parcels", "_law_ahead", "_law_behind"] (defScope sPair) := ⟨rfl, rfl, rfl, by decide +kernel, rfl, by decide +kernel, by decide +kernel⟩
def spPair : Sp := fun vs H Q _ => ∃ (k : Kd) (l b c : Addr) (L : PL) (As Bs : List Int), vs = [.str k.nm, .ref l, .ref b, .ref c] ∧ Pcs H l L ∧ H b = some (.tup (As.map V.int)) ∧ H c = some (.tup (Bs.map V.int)) ∧ L.length ≤ 60 ∧ As.length + (wds L).flatten.length + Bs.length ≤ 60 ∧
  ∀ H' : Hp, Same H H' → Res Q H' (fo k As Bs L)
theorem ok_pair {f : Addr} {fd : FuncData} (F : Fun K "_law_pair" "_law_pair" sPair f fd) (B : Bi mg) (cJoined : CalX CX0 P w K mg base 1 "_law_joined" spJoined) (cPlain : CalX CX0 P w K mg base 1 "_law_plain" (spPlain K)) : FnOk P w K mg base CX0 2 f fd ["_law_kind", "_law_parcels", "_law_ahead", "_law_behind"] spPair := by
  refine F.ok scPair (fun vs H Q E h => ?_) (fun cdv A outer s H vs Q E hr h => ?_)
  · obtain ⟨k, l, b, c, L, As, Bs, rfl, _⟩ := h
    rfl
  · obtain ⟨k, l, b, c, L, As, Bs, rfl, pl, hb, hc, hL, hz, q⟩ := h
    refine ⟨_, (pss_cons (ps_for PassesOwn.never rfl (pi_tup (pe_tup (pa_cons pe_bl (pa_cons pe_bl pa_nil)))) (pg_name (i := 4) scPair.nd rfl (.inl rfl))
 (pss_one (ps_for PassesOwn.never rfl (pi_range1 (by rfl) B.range (pa_cons (pe_callB call_len_seq (by rfl) B.len PySem.boot_len (pa_cons (pv 1) pa_nil)) pa_nil)) (pg_name (i := 5) scPair.nd rfl (.inl rfl))
 (pss_one (ps_for PassesOwn.never rfl (pi_range2 (by rfl) B.range (pa_cons (pe_op op_add (pv 5) pe_int) (pa_cons (pe_callB call_len_seq (by rfl) B.len PySem.boot_len (pa_cons (pv 1) pa_nil)) pa_nil))) (pg_name (i := 6) scPair.nd rfl (.inl rfl))
 (pss_cons (ps_set (i := 7) scPair.nd rfl (.inl rfl) (pe_op op_cat (pe_op op_cat (pe_slice sl_list (pv 1) po_none (po_some (pv 5))) (pe_slice sl_list (pv 1) (po_some (pe_op op_add (pv 5) pe_int)) (po_some (pv 6)))) (pe_slice sl_list (pv 1) (po_some (pe_op op_add (pv 6) pe_int)) po_none)))
 (pss_cons (ps_set (i := 8) scPair.nd rfl (.inl rfl) (pe_op op_cat (pe_lst (pa_cons (pe_ix ix_list (pv 1) (pv 5) (fun _ _ => rfl)) (pa_cons (pe_ix ix_list (pv 1) (pv 6) (fun _ _ => rfl)) pa_nil))) (pv 7)))
 (pss_cons (ps_set (i := 9) scPair.nd rfl (.inl rfl) (pe_op op_cat (pe_lst (pa_cons (pe_ix ix_list (pv 1) (pv 6) (fun _ _ => rfl)) (pa_cons (pe_ix ix_list (pv 1) (pv 5) (fun _ _ => rfl)) pa_nil))) (pv 7)))
 (pss_cons (ps_if (pt_val (pv 4))
 (pss_cons (ps_set (i := 8) scPair.nd rfl (.inl rfl) (pe_op op_cat (pv 7) (pe_lst (pa_cons (pe_ix ix_list (pv 1) (pv 5) (fun _ _ => rfl)) (pa_cons (pe_ix ix_list (pv 1) (pv 6) (fun _ _ => rfl)) pa_nil)))))
 (pss_one (ps_set (i := 9) scPair.nd rfl (.inl rfl) (pe_op op_cat (pv 7) (pe_lst (pa_cons (pe_ix ix_list (pv 1) (pv 6) (fun _ _ => rfl)) (pa_cons (pe_ix ix_list (pv 1) (pv 5) (fun _ _ => rfl)) pa_nil))))))) pss_nil)
 (pss_cons (ps_set (i := 10) scPair.nd rfl (.inl rfl) (pe_op op_catA (pe_op op_catA (pv 2) (pe_cx cJoined hr (by decide) pass0 (by rfl) (pa_cons (pv 8) pa_nil))) (pv 3)))
 (pss_cons (ps_set (i := 11) scPair.nd rfl (.inl rfl) (pe_op op_catA (pe_op op_catA (pv 2) (pe_cx cJoined hr (by decide) pass0 (by rfl) (pa_cons (pv 9) pa_nil))) (pv 3)))
 (pss_one (ps_if (pt_cmpR (op_neD hr.units) (pe_cx cPlain hr (by decide) pass0 (by rfl) (pa_cons (pv 0) (pa_cons (pv 10) pa_nil))) (pe_cx cPlain hr (by decide) pass0 (by rfl) (pa_cons (pv 0) (pa_cons (pv 11) pa_nil))) (nomark _))
 (pss_one (ps_ret (pe_tup (pa_cons (pv 10) (pa_cons (pv 11) pa_nil))))) pss_nil)))))))))))))
 (pss_one (ps_ret pe_non))), ?_⟩
    have wl : ∀ N : PL, N.Perm L → (wrd As Bs N).length ≤ 60 := fun N hN => by
      have := flat_len_perm hN
      unfold wrd
      simp only [List.length_append]
      omega
    try simp only [tSeq, tAsg, gName, tOp, rI, rI0, rU, tUn, tVar, tC, tCB, tCons, tNil, tTest, tIfS, tRet, tRetN, tDrop, tNext, tBreak, tCont, rEq, rNe, CDiv, CDivN, CMul, tBM, tBM0, tTup, tLst, tAug, tIf, tAnd, tOr, tNot, tAndV, tOrV, tNotV, tIsN, tNotN, tB, scal, tCall, cxK, cxKn, rIxT, rIxL, rIn, rAppend, rReverse, tVals, tDSetd, tDGet, tDGet1, tDGet2, tDIn, tDNotIn, rSortV, rSortT, rPop, rSortL, rSortT, tSl, tNoPart, tPart, List.append_nil, L2.start, List.map_cons, List.map_nil, List.length_cons, List.length_nil, List.replicate_succ, List.replicate_zero, List.cons_append, List.nil_append, Nat.reduceAdd, Nat.reduceSub, exists_eq, exists_eq', List.getElem?_cons_zero, List.getElem?_cons_succ, List.set_cons_zero, List.set_cons_succ, Option.some.injEq, V.int.injEq, V.bl.injEq, V.str.injEq, V.ref.injEq, List.cons.injEq, and_true, true_and, and_false, false_and, reduceCtorEq, exists_false, or_false, false_or, exists_and_left, exists_and_right, exists_eq_left, exists_eq_left', exists_eq_right, exists_eq_right', exists_const, ite_true, ite_false, Bool.false_eq_true, if_true, if_false, decide_true, decide_false]
    refine ⟨by decide, fun tk htk => ?_⟩
    have sk := same_upd (o := .tup [.bl false, .bl true]) htk
    replace pl := pl.same sk
    replace hb := sk _ _ hb
    replace hc := sk _ _ hc
    replace q : ∀ H' : Hp, Same (upd H tk (.tup [.bl false, .bl true])) H' → Res Q H' (fo k As Bs L) := fun H' s => q H' (sk.trans s)
    have hk0 : upd H tk (.tup [.bl false, .bl true]) tk = some (.tup [.bl false, .bl true]) := upd_same
    generalize upd H tk (.tup [.bl false, .bl true]) = HX at pl hb hc q hk0 ⊢
    clear sk htk
    refine ⟨tk, rfl, ⟨_, tt hk0⟩, for_tup (K := K) (xs := [.bl false, .bl true]) (fun n σ H' => ∃ (y4 y5 y6 y7 y8 y9 y10 y11 : Option V), σ = [some (.str k.nm), some (.ref l), some (.ref b), some (.ref c), y4, y5, y6, y7, y8, y9, y10, y11] ∧ Same HX H' ∧ H' tk = some (.tup [.bl false, .bl true]) ∧ ∀ ah ∈ [true, false].take n, fo1 k As Bs L ah = none)
      ⟨none, none, none, none, none, none, none, none, rfl, Same.refl HX, hk0, fun ah h => (by cases h)⟩ (fun n σ H' _ ⟨_, _, _, _, _, _, _, _, _, _, h, _⟩ => tt h) ?_ ?_⟩
    · rintro n x σ H' hx ⟨y4, y5, y6, y7, y8, y9, y10, y11, rfl, s1, hk1, hn1⟩
      obtain ⟨la, ah, hah, eah, rfl⟩ : ∃ la ah : Bool, [true, false][n]? = some ah ∧ ah = !la ∧ x = .bl la := by
        match n, hx with
        | 0, hx => exact ⟨false, true, rfl, rfl, (Option.some.inj hx).symm⟩
        | 1, hx => exact ⟨true, false, rfl, rfl, (Option.some.inj hx).symm⟩
        | n + 2, hx => cases hx
      try simp only [tSeq, tAsg, gName, tOp, rI, rI0, rU, tUn, tVar, tC, tCB, tCons, tNil, tTest, tIfS, tRet, tRetN, tDrop, tNext, tBreak, tCont, rEq, rNe, CDiv, CDivN, CMul, tBM, tBM0, tTup, tLst, tAug, tIf, tAnd, tOr, tNot, tAndV, tOrV, tNotV, tIsN, tNotN, tB, scal, tCall, cxK, cxKn, rIxT, rIxL, rIn, rAppend, rReverse, tVals, tDSetd, tDGet, tDGet1, tDGet2, tDIn, tDNotIn, rSortV, rSortT, rPop, rSortL, rSortT, tSl, tNoPart, tPart, List.append_nil, L2.start, List.map_cons, List.map_nil, List.length_cons, List.length_nil, List.replicate_succ, List.replicate_zero, List.cons_append, List.nil_append, Nat.reduceAdd, Nat.reduceSub, exists_eq, exists_eq', List.getElem?_cons_zero, List.getElem?_cons_succ, List.set_cons_zero, List.set_cons_succ, Option.some.injEq, V.int.injEq, V.bl.injEq, V.str.injEq, V.ref.injEq, List.cons.injEq, and_true, true_and, and_false, false_and, reduceCtorEq, exists_false, or_false, false_or, exists_and_left, exists_and_right, exists_eq_left, exists_eq_left', exists_eq_right, exists_eq_right', exists_const, ite_true, ite_false, Bool.false_eq_true, if_true, if_false, decide_true, decide_false]
      refine ⟨.ref l, rfl, l, rfl, _, .inl (ll (pl.same s1).at_), _, rfl, by rw [List.length_map]; omega, by rw [List.length_map]; omega, ?_⟩
      rw [List.length_map]
      refine for_range (n := L.length) (fun i σ H' => ∃ (y5 y6 y7 y8 y9 y10 y11 : Option V), σ = [some (.str k.nm), some (.ref l), some (.ref b), some (.ref c), some (.bl la), y5, y6, y7, y8, y9, y10, y11] ∧ Same HX H' ∧ H' tk = some (.tup [.bl false, .bl true]) ∧ ∀ i' ∈ (List.range L.length).take i, fo2 k As Bs L ah i' = none)
        ⟨y5, y6, y7, y8, y9, y10, y11, rfl, s1, hk1, fun i h => (by rw [List.take_zero] at h; cases h)⟩ ?_ ?_
      · rintro i σ H2 hi ⟨y5, y6, y7, y8, y9, y10, y11, rfl, s2, hk2, hn2⟩
        try simp only [tSeq, tAsg, gName, tOp, rI, rI0, rU, tUn, tVar, tC, tCB, tCons, tNil, tTest, tIfS, tRet, tRetN, tDrop, tNext, tBreak, tCont, rEq, rNe, CDiv, CDivN, CMul, tBM, tBM0, tTup, tLst, tAug, tIf, tAnd, tOr, tNot, tAndV, tOrV, tNotV, tIsN, tNotN, tB, scal, tCall, cxK, cxKn, rIxT, rIxL, rIn, rAppend, rReverse, tVals, tDSetd, tDGet, tDGet1, tDGet2, tDIn, tDNotIn, rSortV, rSortT, rPop, rSortL, rSortT, tSl, tNoPart, tPart, List.append_nil, L2.start, List.map_cons, List.map_nil, List.length_cons, List.length_nil, List.replicate_succ, List.replicate_zero, List.cons_append, List.nil_append, Nat.reduceAdd, Nat.reduceSub, exists_eq, exists_eq', List.getElem?_cons_zero, List.getElem?_cons_succ, List.set_cons_zero, List.set_cons_succ, Option.some.injEq, V.int.injEq, V.bl.injEq, V.str.injEq, V.ref.injEq, List.cons.injEq, and_true, true_and, and_false, false_and, reduceCtorEq, exists_false, or_false, false_or, exists_and_left, exists_and_right, exists_eq_left, exists_eq_left', exists_eq_right, exists_eq_right', exists_const, ite_true, ite_false, Bool.false_eq_true, if_true, if_false, decide_true, decide_false]
        simp only [Int.zero_add]
        refine ⟨_, rfl, _, _, rfl, rfl, .ref l, rfl, l, rfl, _, .inl (ll (pl.same s2).at_), _, _, rfl, ⟨by omega, by omega, by rw [List.length_map]; omega, by rw [List.length_map]; omega⟩, ?_⟩
        rw [List.length_map, show ((L.length : Int) - ((i : Int) + 1)).toNat = L.length - (i + 1) by omega]
        refine for_range (n := L.length - (i + 1)) (fun m σ H' => ∃ (y6 y7 y8 y9 y10 y11 : Option V), σ = [some (.str k.nm), some (.ref l), some (.ref b), some (.ref c), some (.bl la), some (.int (i : Nat)), y6, y7, y8, y9, y10, y11] ∧ Same HX H' ∧ H' tk = some (.tup [.bl false, .bl true]) ∧ ∀ j, i < j → j < i + 1 + m → dif k As Bs L ah i j = none)
          ⟨y6, y7, y8, y9, y10, y11, rfl, s2, hk2, fun j h1 h2 => absurd h1 (by omega)⟩ ?_ ?_
        · rintro m σ H3 hm ⟨y6, y7, y8, y9, y10, y11, rfl, s3, hk3, hn3⟩
          obtain ⟨j, hj⟩ : ∃ j, j = i + 1 + m := ⟨_, rfl⟩
          have hjl : j < L.length := by omega
          have hij : i < j := by omega
          rw [show ((i : Int) + 1 + (m : Int)) = ((j : Nat) : Int) by omega]
          have pm := mvd_perm hij hjl ah
          have w1 := wl _ pm.1
          have w2 := wl _ pm.2
          have f1 := flat_len_perm pm.1
          have f2 := flat_len_perm pm.2
          have hqi : L[i]? = some L[i] := List.getElem?_eq_getElem hi
          have hqj : L[j]? = some L[j] := List.getElem?_eq_getElem hjl
          generalize L[i] = qi at hqi
          generalize L[j] = qj at hqj
          have ati : (L.map fun q => V.ref q.1)[i]? = some (.ref qi.1) := by
            rw [List.getElem?_map, hqi]
            rfl
          have atj : (L.map fun q => V.ref q.1)[j]? = some (.ref qj.1) := by
            rw [List.getElem?_map, hqj]
            rfl
          have mi := List.mem_of_getElem? hqi
          have mj := List.mem_of_getElem? hqj
          have ee := er2_eq hij hjl
          have z2 := take_len L i
          have z3 : ((L.drop (i + 1)).take (j - (i + 1))).length ≤ L.length := Nat.le_trans (by rw [List.length_take]; exact Nat.min_le_right _ _) (drop_len L (i + 1))
          have z4 := drop_len L (j + 1)
          try simp only [tSeq, tAsg, gName, tOp, rI, rI0, rU, tUn, tVar, tC, tCB, tCons, tNil, tTest, tIfS, tRet, tRetN, tDrop, tNext, tBreak, tCont, rEq, rNe, CDiv, CDivN, CMul, tBM, tBM0, tTup, tLst, tAug, tIf, tAnd, tOr, tNot, tAndV, tOrV, tNotV, tIsN, tNotN, tB, scal, tCall, cxK, cxKn, rIxT, rIxL, rIn, rAppend, rReverse, tVals, tDSetd, tDGet, tDGet1, tDGet2, tDIn, tDNotIn, rSortV, rSortT, rPop, rSortL, rSortT, tSl, tNoPart, tPart, List.append_nil, L2.start, List.map_cons, List.map_nil, List.length_cons, List.length_nil, List.replicate_succ, List.replicate_zero, List.cons_append, List.nil_append, Nat.reduceAdd, Nat.reduceSub, exists_eq, exists_eq', List.getElem?_cons_zero, List.getElem?_cons_succ, List.set_cons_zero, List.set_cons_succ, Option.some.injEq, V.int.injEq, V.bl.injEq, V.str.injEq, V.ref.injEq, List.cons.injEq, and_true, true_and, and_false, false_and, reduceCtorEq, exists_false, or_false, false_or, exists_and_left, exists_and_right, exists_eq_left, exists_eq_left', exists_eq_right, exists_eq_right', exists_const, ite_true, ite_false, Bool.false_eq_true, if_true, if_false, decide_true, decide_false]
          refine sl_take rfl (pl.same s3) fun o1 H4 u1 p1 => ?_
          refine sl_mid (a := i + 1) (b := j) rfl rfl (by omega) (by omega) ((pl.same s3).same u1) fun o2 H5 u2 p2 => ?_
          refine cat_pcs (p1.same u2) p2 (by omega) fun o3 H6 u3 p3 => ?_
          have v6 := s3.trans ((u1.trans u2).trans u3)
          refine sl_drop (k := j + 1) rfl (pl.same v6) fun o4 H7 u4 p4 => ?_
          refine cat_pcs (p3.same u4) p4 (by simp only [List.length_append]; omega) fun rs H8 u5 p5 => ?_
          have x8 := ((u1.trans u2).trans u3).trans (u4.trans u5)
          have v8 := s3.trans x8
          rw [← ee] at p5
          clear u1 u2 u3 u4 u5 p1 p2 p3 p4 v6
          have lr : (er2 L i j).length ≤ 60 := by
            unfold er2
            have := List.length_eraseIdx_le (L.eraseIdx (max i j)) (min i j)
            have := List.length_eraseIdx_le L (max i j)
            omega
          try simp only [tSeq, tAsg, gName, tOp, rI, rI0, rU, tUn, tVar, tC, tCB, tCons, tNil, tTest, tIfS, tRet, tRetN, tDrop, tNext, tBreak, tCont, rEq, rNe, CDiv, CDivN, CMul, tBM, tBM0, tTup, tLst, tAug, tIf, tAnd, tOr, tNot, tAndV, tOrV, tNotV, tIsN, tNotN, tB, scal, tCall, cxK, cxKn, rIxT, rIxL, rIn, rAppend, rReverse, tVals, tDSetd, tDGet, tDGet1, tDGet2, tDIn, tDNotIn, rSortV, rSortT, rPop, rSortL, rSortT, tSl, tNoPart, tPart, List.append_nil, L2.start, List.map_cons, List.map_nil, List.length_cons, List.length_nil, List.replicate_succ, List.replicate_zero, List.cons_append, List.nil_append, Nat.reduceAdd, Nat.reduceSub, exists_eq, exists_eq', List.getElem?_cons_zero, List.getElem?_cons_succ, List.set_cons_zero, List.set_cons_succ, Option.some.injEq, V.int.injEq, V.bl.injEq, V.str.injEq, V.ref.injEq, List.cons.injEq, and_true, true_and, and_false, false_and, reduceCtorEq, exists_false, or_false, false_or, exists_and_left, exists_and_right, exists_eq_left, exists_eq_left', exists_eq_right, exists_eq_right', exists_const, ite_true, ite_false, Bool.false_eq_true, if_true, if_false, decide_true, decide_false]
          refine ⟨_, ll (pl.same v8).at_, _, atI_nat ati, _, ll (pl.same v8).at_, _, atI_nat atj, by decide, fun oa ha => ?_⟩
          have u1 := same_upd (o := .lst [.ref qi.1, .ref qj.1]) ha
          have p1 := Pcs.new2 (q := qi) (r := qj) ha (v8 _ _ (pl.all qi mi)) (v8 _ _ (pl.all qj mj))
          refine cat_pcs p1 (p5.same u1) (by simp only [List.length_cons, List.length_nil]; omega) fun one H9 u2 p2 => ?_
          have x9 := u1.trans u2
          have v9 := v8.trans x9
          try simp only [tSeq, tAsg, gName, tOp, rI, rI0, rU, tUn, tVar, tC, tCB, tCons, tNil, tTest, tIfS, tRet, tRetN, tDrop, tNext, tBreak, tCont, rEq, rNe, CDiv, CDivN, CMul, tBM, tBM0, tTup, tLst, tAug, tIf, tAnd, tOr, tNot, tAndV, tOrV, tNotV, tIsN, tNotN, tB, scal, tCall, cxK, cxKn, rIxT, rIxL, rIn, rAppend, rReverse, tVals, tDSetd, tDGet, tDGet1, tDGet2, tDIn, tDNotIn, rSortV, rSortT, rPop, rSortL, rSortT, tSl, tNoPart, tPart, List.append_nil, L2.start, List.map_cons, List.map_nil, List.length_cons, List.length_nil, List.replicate_succ, List.replicate_zero, List.cons_append, List.nil_append, Nat.reduceAdd, Nat.reduceSub, exists_eq, exists_eq', List.getElem?_cons_zero, List.getElem?_cons_succ, List.set_cons_zero, List.set_cons_succ, Option.some.injEq, V.int.injEq, V.bl.injEq, V.str.injEq, V.ref.injEq, List.cons.injEq, and_true, true_and, and_false, false_and, reduceCtorEq, exists_false, or_false, false_or, exists_and_left, exists_and_right, exists_eq_left, exists_eq_left', exists_eq_right, exists_eq_right', exists_const, ite_true, ite_false, Bool.false_eq_true, if_true, if_false, decide_true, decide_false]
          refine ⟨_, ll (pl.same v9).at_, _, atI_nat atj, _, ll (pl.same v9).at_, _, atI_nat ati, by decide, fun ob hb' => ?_⟩
          have u3 := same_upd (o := .lst [.ref qj.1, .ref qi.1]) hb'
          have p3 := Pcs.new2 (q := qj) (r := qi) hb' (v9 _ _ (pl.all qj mj)) (v9 _ _ (pl.all qi mi))
          refine cat_pcs p3 ((p5.same x9).same u3) (by simp only [List.length_cons, List.length_nil]; omega) fun two Ha u4 p4 => ?_
          have xa := x9.trans (u3.trans u4)
          have va := v8.trans xa
          have pr5 := p5.same xa
          have pone := p2.same (u3.trans u4)
          clear u1 u2 u3 u4 ha hb' p1 p2 p3 x9 v9
          try simp only [tSeq, tAsg, gName, tOp, rI, rI0, rU, tUn, tVar, tC, tCB, tCons, tNil, tTest, tIfS, tRet, tRetN, tDrop, tNext, tBreak, tCont, rEq, rNe, CDiv, CDivN, CMul, tBM, tBM0, tTup, tLst, tAug, tIf, tAnd, tOr, tNot, tAndV, tOrV, tNotV, tIsN, tNotN, tB, scal, tCall, cxK, cxKn, rIxT, rIxL, rIn, rAppend, rReverse, tVals, tDSetd, tDGet, tDGet1, tDGet2, tDIn, tDNotIn, rSortV, rSortT, rPop, rSortL, rSortT, tSl, tNoPart, tPart, List.append_nil, L2.start, List.map_cons, List.map_nil, List.length_cons, List.length_nil, List.replicate_succ, List.replicate_zero, List.cons_append, List.nil_append, Nat.reduceAdd, Nat.reduceSub, exists_eq, exists_eq', List.getElem?_cons_zero, List.getElem?_cons_succ, List.set_cons_zero, List.set_cons_succ, Option.some.injEq, V.int.injEq, V.bl.injEq, V.str.injEq, V.ref.injEq, List.cons.injEq, and_true, true_and, and_false, false_and, reduceCtorEq, exists_false, or_false, false_or, exists_and_left, exists_and_right, exists_eq_left, exists_eq_left', exists_eq_right, exists_eq_right', exists_const, ite_true, ite_false, Bool.false_eq_true, if_true, if_false, decide_true, decide_false]
          have em : mvd L i j ah = if ah = true then [qi, qj] ++ er2 L i j else er2 L i j ++ [qi, qj] := by
            unfold mvd
            rw [hqi, hqj]
            rfl
          have em' : mvd L j i ah = if ah = true then [qj, qi] ++ er2 L i j else er2 L i j ++ [qj, qi] := by
            unfold mvd
            rw [hqi, hqj, er2_comm L j i]
            rfl
          refine ite2 (fun e => ?A) (fun e => ?B)
          case' A =>
            have ea : ah = false := by rw [eah, e]; rfl
            rw [ea, if_neg (by decide)] at em em'
            refine ⟨_, ll (pl.same va).at_, _, atI_nat ati, _, ll (pl.same va).at_, _, atI_nat atj, by decide, fun oc hc' => ?_⟩
            have u1 := same_upd (o := .lst [.ref qi.1, .ref qj.1]) hc'
            have p1 := Pcs.new2 (q := qi) (r := qj) hc' (va _ _ (pl.all qi mi)) (va _ _ (pl.all qj mj))
            refine cat_pcs (pr5.same u1) p1 (by simp only [List.length_cons, List.length_nil]; omega) fun one' Hb u2 p2 => ?_
            have xb := u1.trans u2
            have vb := va.trans xb
            refine ⟨_, ll (pl.same vb).at_, _, atI_nat atj, _, ll (pl.same vb).at_, _, atI_nat ati, by decide, fun od hd' => ?_⟩
            have u3 := same_upd (o := .lst [.ref qj.1, .ref qi.1]) hd'
            have p3 := Pcs.new2 (q := qj) (r := qi) hd' (vb _ _ (pl.all qj mj)) (vb _ _ (pl.all qi mi))
            refine cat_pcs ((pr5.same xb).same u3) p3 (by simp only [List.length_cons, List.length_nil]; omega) fun two' Hc u4 p4' => ?_
            have vc := vb.trans (u3.trans u4)
            have q1 := p2.same (u3.trans u4)
            rw [← em] at q1
            rw [← em'] at p4'
            clear u1 u2 u3 u4 p1 p2 p3 xb vb va xa pr5 pone p4
          case' B =>
            have ea : ah = true := by
              rw [eah]
              cases la with
              | true => exact absurd rfl e
              | false => rfl
            rw [ea, if_pos rfl] at em em'
            have vc := va
            have q1 := pone
            have p4' := p4
            rw [← em] at q1
            rw [← em'] at p4'
            clear pone p4 pr5 xa
          all_goals
            rw [← ea] at q1 p4'
            refine ⟨_, _, rfl, q1, by omega, fun Hd t1 s1' h1 => ?_⟩
            have sd := vc.trans s1'
            refine cat_tups (sd _ _ hb) h1 (by rw [List.length_map, List.length_map]; omega) fun t2 He s2' h2 => ?_
            have se := sd.trans s2'
            refine cat_tups h2 (se _ _ hc) (by simp only [List.length_append, List.length_map]; omega) fun t3 Hf s3' h3 => ?_
            have sf := se.trans s3'
            rw [← List.map_append, ← List.map_append] at h3
            have p5' := p4'.same ((s1'.trans s2').trans s3')
            refine ⟨_, _, rfl, p5', by omega, fun Hg t4 s4' h4 => ?_⟩
            have sg := sf.trans s4'
            refine cat_tups (sg _ _ hb) h4 (by rw [List.length_map, List.length_map]; omega) fun t5 Hh s5' h5 => ?_
            have sh := sg.trans s5'
            refine cat_tups h5 (sh _ _ hc) (by simp only [List.length_append, List.length_map]; omega) fun t6 Hi s6' h6 => ?_
            have si := sh.trans s6'
            rw [← List.map_append, ← List.map_append] at h6
            have h3' : Hi t3 = some (.tup ((wrd As Bs (mvd L i j ah)).map V.int)) := s6' _ _ (s5' _ _ (s4' _ _ h3))
            have h6' : Hi t6 = some (.tup ((wrd As Bs (mvd L j i ah)).map V.int)) := h6
            refine ⟨k, t3, _, rfl, tt h3', by omega, fun Hj t7 s7' h7 => ?_⟩
            have sj := si.trans s7'
            refine ⟨k, t6, _, rfl, tt (s7' _ _ h6'), by omega, fun Hk t8 s8' h8 => ?_⟩
            have sk' := sj.trans s8'
            refine ne_tups (Same.tup s8' h7) h8 ⟨_, rfl, ite2 (fun e => ⟨by decide, fun ta hta => ?_⟩) (fun e => ?_)⟩
            · have ne : ¬ plainI k (wrd As Bs (mvd L i j ah)) = plainI k (wrd As Bs (mvd L j i ah)) := by simpa using e
              have ed : dif k As Bs L ah i j = some (wrd As Bs (mvd L i j ah), wrd As Bs (mvd L j i ah)) := if_neg ne
              have ef2 : fo2 k As Bs L ah i = some (wrd As Bs (mvd L i j ah), wrd As Bs (mvd L j i ah)) := by
                refine find_first (i := j) (x := j) (fun z hz => ?_) (List.getElem?_range hjl) (by rw [if_pos hij]; exact ed)
                split
                · rename_i hiz
                  refine hn3 z hiz ?_
                  obtain ⟨y, hy, rfl⟩ := List.mem_take_iff_getElem.mp hz
                  rw [List.getElem_range]
                  omega
                · rfl
              have ef1 : fo1 k As Bs L ah = some (wrd As Bs (mvd L i j ah), wrd As Bs (mvd L j i ah)) := find_first hn2 (List.getElem?_range hi) ef2
              have ef : fo k As Bs L = some (wrd As Bs (mvd L i j ah), wrd As Bs (mvd L j i ah)) := find_first hn1 hah ef1
              have sa := same_upd (o := .tup [.ref t3, .ref t6]) hta
              have qa := q _ (sk'.trans sa)
              rw [ef] at qa
              exact qa ta t3 t6 upd_same (sa _ _ (s8' _ _ (s7' _ _ h3'))) (sa _ _ (s8' _ _ (s7' _ _ h6')))
            · have eq : plainI k (wrd As Bs (mvd L i j ah)) = plainI k (wrd As Bs (mvd L j i ah)) := by simpa using e
              refine ⟨sk', sk' _ _ hk0, fun j' h1 h2 => ?_⟩
              by_cases ej : j' = j
              · subst ej
                exact if_pos eq
              · exact hn3 j' h1 (by omega)
        · rintro σ H3 ⟨y6, y7, y8, y9, y10, y11, rfl, s3, hk3, hn3⟩
          try simp only [tSeq, tAsg, gName, tOp, rI, rI0, rU, tUn, tVar, tC, tCB, tCons, tNil, tTest, tIfS, tRet, tRetN, tDrop, tNext, tBreak, tCont, rEq, rNe, CDiv, CDivN, CMul, tBM, tBM0, tTup, tLst, tAug, tIf, tAnd, tOr, tNot, tAndV, tOrV, tNotV, tIsN, tNotN, tB, scal, tCall, cxK, cxKn, rIxT, rIxL, rIn, rAppend, rReverse, tVals, tDSetd, tDGet, tDGet1, tDGet2, tDIn, tDNotIn, rSortV, rSortT, rPop, rSortL, rSortT, tSl, tNoPart, tPart, List.append_nil, L2.start, List.map_cons, List.map_nil, List.length_cons, List.length_nil, List.replicate_succ, List.replicate_zero, List.cons_append, List.nil_append, Nat.reduceAdd, Nat.reduceSub, exists_eq, exists_eq', List.getElem?_cons_zero, List.getElem?_cons_succ, List.set_cons_zero, List.set_cons_succ, Option.some.injEq, V.int.injEq, V.bl.injEq, V.str.injEq, V.ref.injEq, List.cons.injEq, and_true, true_and, and_false, false_and, reduceCtorEq, exists_false, or_false, false_or, exists_and_left, exists_and_right, exists_eq_left, exists_eq_left', exists_eq_right, exists_eq_right', exists_const, ite_true, ite_false, Bool.false_eq_true, if_true, if_false, decide_true, decide_false]
          refine ⟨s3, hk3, fun i' hi' => ?_⟩
          rw [List.take_add_one, List.getElem?_range hi] at hi'
          rcases List.mem_append.mp hi' with hi' | hi'
          · exact hn2 i' hi'
          · rw [List.mem_singleton.mp hi']
            refine List.findSome?_eq_none_iff.mpr fun j hj => ?_
            have hjl := List.mem_range.mp hj
            split
            · rename_i hij
              exact hn3 j hij (by omega)
            · rfl
      · rintro σ H2 ⟨y5, y6, y7, y8, y9, y10, y11, rfl, s2, hk2, hn2⟩
        try simp only [tSeq, tAsg, gName, tOp, rI, rI0, rU, tUn, tVar, tC, tCB, tCons, tNil, tTest, tIfS, tRet, tRetN, tDrop, tNext, tBreak, tCont, rEq, rNe, CDiv, CDivN, CMul, tBM, tBM0, tTup, tLst, tAug, tIf, tAnd, tOr, tNot, tAndV, tOrV, tNotV, tIsN, tNotN, tB, scal, tCall, cxK, cxKn, rIxT, rIxL, rIn, rAppend, rReverse, tVals, tDSetd, tDGet, tDGet1, tDGet2, tDIn, tDNotIn, rSortV, rSortT, rPop, rSortL, rSortT, tSl, tNoPart, tPart, List.append_nil, L2.start, List.map_cons, List.map_nil, List.length_cons, List.length_nil, List.replicate_succ, List.replicate_zero, List.cons_append, List.nil_append, Nat.reduceAdd, Nat.reduceSub, exists_eq, exists_eq', List.getElem?_cons_zero, List.getElem?_cons_succ, List.set_cons_zero, List.set_cons_succ, Option.some.injEq, V.int.injEq, V.bl.injEq, V.str.injEq, V.ref.injEq, List.cons.injEq, and_true, true_and, and_false, false_and, reduceCtorEq, exists_false, or_false, false_or, exists_and_left, exists_and_right, exists_eq_left, exists_eq_left', exists_eq_right, exists_eq_right', exists_const, ite_true, ite_false, Bool.false_eq_true, if_true, if_false, decide_true, decide_false]
        rw [List.take_of_length_le (by rw [List.length_range]; exact Nat.le_refl _)] at hn2
        refine ⟨s2, hk2, fun a ha => ?_⟩
        rw [List.take_add_one, hah] at ha
        rcases List.mem_append.mp ha with ha | ha
        · exact hn1 a ha
        · rw [List.mem_singleton.mp ha]
          exact List.findSome?_eq_none_iff.mpr hn2
    · rintro σ H' ⟨y4, y5, y6, y7, y8, y9, y10, y11, rfl, s1, hk1, hn1⟩
      try simp only [tSeq, tAsg, gName, tOp, rI, rI0, rU, tUn, tVar, tC, tCB, tCons, tNil, tTest, tIfS, tRet, tRetN, tDrop, tNext, tBreak, tCont, rEq, rNe, CDiv, CDivN, CMul, tBM, tBM0, tTup, tLst, tAug, tIf, tAnd, tOr, tNot, tAndV, tOrV, tNotV, tIsN, tNotN, tB, scal, tCall, cxK, cxKn, rIxT, rIxL, rIn, rAppend, rReverse, tVals, tDSetd, tDGet, tDGet1, tDGet2, tDIn, tDNotIn, rSortV, rSortT, rPop, rSortL, rSortT, tSl, tNoPart, tPart, List.append_nil, L2.start, List.map_cons, List.map_nil, List.length_cons, List.length_nil, List.replicate_succ, List.replicate_zero, List.cons_append, List.nil_append, Nat.reduceAdd, Nat.reduceSub, exists_eq, exists_eq', List.getElem?_cons_zero, List.getElem?_cons_succ, List.set_cons_zero, List.set_cons_succ, Option.some.injEq, V.int.injEq, V.bl.injEq, V.str.injEq, V.ref.injEq, List.cons.injEq, and_true, true_and, and_false, false_and, reduceCtorEq, exists_false, or_false, false_or, exists_and_left, exists_and_right, exists_eq_left, exists_eq_left', exists_eq_right, exists_eq_right', exists_const, ite_true, ite_false, Bool.false_eq_true, if_true, if_false, decide_true, decide_false]
      have := q H' s1
      rw [show fo k As Bs L = none from List.findSome?_eq_none_iff.mpr hn1] at this
      exact this
end
end Mv

set_option Elab.async false
set_option linter.all false
set_option maxRecDepth 100000
set_option maxHeartbeats 4000000
namespace Mv
open PySem PySem.Spec PyProof.Rows L2
abbrev sTold : Stmt := topS 40
abbrev sAsked : Stmt := topS 41
abbrev sTwos : Stmt := topS 42
abbrev sRef : Stmt := topS 43
/-- what the suite asks of the classes -/
structure RTx (K : PySem.W.Frag) (mg : Str → Option Value) (CB : Addr) : Prop where
  gCB : mg "BadKind" = some (.ref CB)
  xf : XfC K CB
  noN : PySem.W.findIn K (.ref CB) "name" = some none
  te : PySem.W.exmOne K (.ref CB) (.ref CB) = some true
def rLst (K : PySem.W.Frag) : List V → Hp → VK → Prop := fun xs H Q => ∃ p ys, xs = [.ref p] ∧ (SqL K H p ys ∨ SqT K H p ys) ∧ ∀ l, H l = none → Q (.ref l) (upd H l (.lst ys))
/-! ### a def with the keyword-only words before and after, both empty by default -/
structure KwX (P : Program) (w : World) (K : PySem.W.Frag) (mg : Str → Option Value) (base : Heap) (lv : Nat) (x : Str) (sp : Sp) (np : Nat) (e1 e2 : Addr) : Prop where
  m1 : ∀ H : Hp, SqT K H e1 []
  m2 : ∀ H : Hp, SqT K H e2 []
  pos : ∃ (f : Addr) (fd : FuncData) (ps : List Str) (ds : List Value), FnOk P w K mg base (L2.CX P w) lv f fd ps sp ∧ mg x = some (.ref f) ∧ PySem.W.keepIn K (.ref f) = true ∧ Binds K fd ps ds ∧ Vals [.ref e1, .ref e2] ds
  bef : ∃ (f : Addr) (fd : FuncData) (ps : List Str) (g : List Value → List Value → List Value), FnOk P w K mg base (L2.CX P w) lv f fd ps sp ∧ mg x = some (.ref f) ∧ PySem.W.keepIn K (.ref f) = true ∧ KBn K fd ps np ["before"] g (fun vs zs => vs ++ zs ++ [.ref e2])
  aft : ∃ (f : Addr) (fd : FuncData) (ps : List Str) (g : List Value → List Value → List Value), FnOk P w K mg base (L2.CX P w) lv f fd ps sp ∧ mg x = some (.ref f) ∧ PySem.W.keepIn K (.ref f) = true ∧ KBn K fd ps np ["after"] g (fun vs zs => vs ++ [.ref e1] ++ zs)
  both : ∃ (f : Addr) (fd : FuncData) (ps : List Str) (g : List Value → List Value → List Value), FnOk P w K mg base (L2.CX P w) lv f fd ps sp ∧ mg x = some (.ref f) ∧ PySem.W.keepIn K (.ref f) = true ∧ KBn K fd ps np ["before", "after"] g (fun vs zs => vs ++ zs)
section
variable {X : Cx} {k j lv np : Nat} {x : Str} {sp : Sp} {E : XK} {p pos : Pos} {e : Expr} {es : List Expr} {kws : List Keyword} {t tk : TA} {e1 e2 : Addr}
theorem pe_kw {ks : List Str} {gV : List V → List V → List V} (c : ∃ (f : Addr) (fd : FuncData) (ps : List Str) (g : List Value → List Value → List Value), FnOk X.prog X.w X.K X.mg X.base (L2.CX X.prog X.w) lv f fd ps sp ∧ X.mg x = some (.ref f) ∧ PySem.W.keepIn X.K (.ref f) = true ∧ KBn X.K fd ps np ks g gV)
    (hr : Room j X.A) (hk : lv ≤ j) (hx : Passes (L2.CX X.prog X.w) X E) (hg : Gl X x) (ha : PA X (e :: es) t) (hkw : PK X kws tk)
    (hall : (backToKw pos (keywordEach kws X.env)).all (·.1.isSome) = true := by rfl) (hks : (backToKw pos (keywordEach kws X.env)).filterMap (·.1) = ks := by rfl)
    (hdb : (x == ("__debug__" : Str)) = false := by decide) (he : starEach (e :: es) X.env = (false, eval e X.env) :: starEach es X.env := by rfl)
    (hpl : ((backTo pos (starEach (e :: es) X.env)).any (·.1) || (backToKw pos (keywordEach kws X.env)).any (·.1.isNone)) = false := by rfl) :
    PE X (.Call (.Name x p) (e :: es) kws pos) (tCallN np ks.length sp gV E t tk) := by
  obtain ⟨f, fd, ps, g, F, hm, kp, b⟩ := c
  exact pe_callN F (hr.mono hk) hg hm kp b hx ha hkw hall hks hdb he hpl
theorem pe_kp (c : KwX X.prog X.w X.K X.mg X.base lv x sp np e1 e2) (hr : Room j X.A) (hk : lv ≤ j) (hx : Passes (L2.CX X.prog X.w) X E) (hg : Gl X x) (ha : PA X (e :: es) t)
    (hdb : (x == ("__debug__" : Str)) = false := by decide) (he : starEach (e :: es) X.env = (false, eval e X.env) :: starEach es X.env := by rfl) (hpl : (backTo pos (starEach es X.env)).any (·.1) = false := by rfl) :
    PE X (.Call (.Name x p) (e :: es) [] pos) (tCall sp [.ref e1, .ref e2] E t) := by
  obtain ⟨f, fd, ps, ds, F, hm, kp, b, hd⟩ := c.pos
  exact pe_call F (hr.mono hk) hg hm kp b hd hx ha hdb he hpl
theorem pe_kpS {W : WX} (c : KwX X.prog X.w X.K X.mg X.base lv x sp np e1 e2) (hr : Room j X.A) (hk : lv ≤ j) (tk : Takes X W) (hg : Gl X x) (ha : PA X (e :: es) t)
    (hdb : (x == ("__debug__" : Str)) = false := by decide) (he : starEach (e :: es) X.env = (false, eval e X.env) :: starEach es X.env := by rfl) (hpl : (backTo pos (starEach es X.env)).any (·.1) = false := by rfl) :
    PE X (.Call (.Name x p) (e :: es) [] pos) (tCallSD sp [.ref e1, .ref e2] (WE W) t) := by
  obtain ⟨f, fd, ps, ds, F, hm, kp, b, hd⟩ := c.pos
  exact pe_callSD F (hr.mono hk) hg hm kp b hd (fun σ => passAt tk σ) ha hdb he hpl
end
theorem dp_pcs {K : PySem.W.Frag} {H : Hp} : ∀ {L : List (Addr × List Int)}, (∀ q ∈ L, H q.1 = some (.tup (q.2.map V.int))) → DpAll K H (L.map fun q => V.ref q.1) (tupsD (wds L))
  | [], _ => .nil
  | q :: L, h => .cons (.tup (tt (h q List.mem_cons_self)) (dp_ints q.2)) (dp_pcs fun r hr => h r (List.mem_cons_of_mem _ hr))
theorem eq_pcs {K : PySem.W.Frag} {H : Hp} {a b : Addr} {L : List (Addr × List Int)} {Q : VK} (ha : Pcs H a L) (hb : Pcs H b L) (q : Q (.bl true) H) : rEqD K (.ref a) (.ref b) H Q :=
  ⟨_, _, .lst (ll ha.at_) (dp_pcs ha.all), .lst (ll hb.at_) (dp_pcs hb.all), shaped_tups _, shaped_tups _, by rw [show PyData.eqv (.list (tupsD (wds L))) (.list (tupsD (wds L))) = true from PySem.SeqAt.eqvAll_refl _ (lay_tups _)]; exact q⟩
theorem shaped_tt (xss : List (List Int)) : SeqAt.shaped (.tuple (tupsD xss)) = true := by
  have := depth_tups xss
  simp [SeqAt.shaped, PyData.canLay0, PyData.depth, lay_tups]
  omega
theorem eq_pairs {K : PySem.W.Frag} {H : Hp} {a b x y x' y' : Addr} {W1 W2 : List Int} {Q : VK} (ha : H a = some (.tup [.ref x, .ref y])) (hb : H b = some (.tup [.ref x', .ref y'])) (hx : H x = some (.tup (W1.map V.int))) (hy : H y = some (.tup (W2.map V.int))) (hx' : H x' = some (.tup (W1.map V.int))) (hy' : H y' = some (.tup (W2.map V.int))) (q : Q (.bl true) H) : rEqD K (.ref a) (.ref b) H Q :=
  ⟨_, _, .tup (tt ha) (.cons (.tup (tt hx) (dp_ints W1)) (.cons (.tup (tt hy) (dp_ints W2)) .nil)), .tup (tt hb) (.cons (.tup (tt hx') (dp_ints W1)) (.cons (.tup (tt hy') (dp_ints W2)) .nil)), shaped_tt [W1, W2], shaped_tt [W1, W2], by rw [show PyData.eqv (.tuple [.tuple (W1.map PyData.int), .tuple (W2.map PyData.int)]) (.tuple [.tuple (W1.map PyData.int), .tuple (W2.map PyData.int)]) = true from PySem.SeqAt.eqvAll_refl (tupsD [W1, W2]) (lay_tups _)]; exact q⟩
theorem units65 {k : Nat} {A : Around} (r : Room k A) : A.units + 65 < cLine := by have := r.un; omega
theorem ne_pcs {K : PySem.W.Frag} {H : Hp} {a b : Addr} {L : List (Addr × List Int)} {Q : VK} (ha : Pcs H a L) (hb : Pcs H b L) (q : Q (.bl false) H) : rNeD K (.ref a) (.ref b) H Q :=
  ⟨_, _, .lst (ll ha.at_) (dp_pcs ha.all), .lst (ll hb.at_) (dp_pcs hb.all), shaped_tups _, shaped_tups _, by rw [show PyData.eqv (.list (tupsD (wds L))) (.list (tupsD (wds L))) = true from PySem.SeqAt.eqvAll_refl _ (lay_tups _)]; exact q⟩
theorem Pcs.new1 {H : Hp} {o : Addr} {q : Addr × List Int} (ho : H o = none) (hq : H q.1 = some (.tup (q.2.map V.int))) : Pcs (upd H o (.lst [.ref q.1])) o [q] := by
  have s := same_upd (o := .lst [.ref q.1]) ho
  refine ⟨upd_same, fun z hz => ?_⟩
  rw [List.mem_singleton.mp hz]
  exact s _ _ hq
/-! ### what is asked about -/
structure Ask9 (H : Hp) (l b c : Addr) (L : PL) (As Bs : List Int) (form : Int) : Prop where
  pl : Pcs H l L
  hb : H b = some (.tup (As.map V.int))
  hc : H c = some (.tup (Bs.map V.int))
  f1 : 1 < form → As = []
  f2 : form = 1 ∨ form = 3 → Bs = []
  hL : L.length ≤ 12
  hq : ∀ q ∈ L, 1 ≤ q.2.length ∧ q.2.length ≤ 4
  hA : As.length ≤ 2
  hB : Bs.length ≤ 2
theorem Ask9.ext {H H' : Hp} {l b c : Addr} {L : PL} {As Bs : List Int} {form : Int} (a : Ask9 H l b c L As Bs form) (e : LamX.ExtN H H') : Ask9 H' l b c L As Bs form :=
  ⟨a.pl.ext e, e _ _ a.hb (fun ps z => by cases z), e _ _ a.hc (fun ps z => by cases z), a.f1, a.f2, a.hL, a.hq, a.hA, a.hB⟩
theorem len4 : ∀ {M : PL}, (∀ q ∈ M, 1 ≤ q.2.length ∧ q.2.length ≤ 4) → (wds M).flatten.length ≤ 4 * M.length
  | [], _ => Nat.zero_le _
  | q :: M, hM => by
    have h1 := len4 fun r hr => hM r (List.mem_cons_of_mem _ hr)
    have h2 := (hM q List.mem_cons_self).2
    show (q.2 ++ (wds M).flatten).length ≤ _
    rw [List.length_append, List.length_cons]
    omega
theorem Ask9.hz {H : Hp} {l b c : Addr} {L : PL} {As Bs : List Int} {form : Int} (a : Ask9 H l b c L As Bs form) : As.length + (wds L).flatten.length + Bs.length ≤ 60 := by
  have := len4 a.hq
  have := a.hL
  have := a.hA
  have := a.hB
  omega
theorem fs_two (k : Kd) {As Bs : List Int} {x y : Addr × List Int} (hx : x.2 ≠ []) (hy : y.2 ≠ []) : fsR k As Bs [x] [y] = none ↔ swapOk k As Bs x.2 y.2 := by
  unfold fsR
  by_cases hk : k = .list
  · subst hk
    rw [if_pos rfl, Option.map_eq_none_iff, clash_none]
    constructor
    · intro h
      exact h x.2 List.mem_cons_self y.2 List.mem_cons_self
    · intro h a ha b hb
      rw [List.mem_singleton.mp ha, List.mem_singleton.mp hb]
      exact h
  · rw [if_neg hk, ← swap_iff k hx hy]
    have e1 : wrd As Bs ([x] ++ [y]) = As ++ x.2 ++ y.2 ++ Bs := by simp [wrd, wds]
    have e2 : wrd As Bs ([y] ++ [x]) = As ++ y.2 ++ x.2 ++ Bs := by simp [wrd, wds]
    rw [e1, e2]
    split
    · rename_i h
      exact ⟨fun _ => h, fun _ => rfl⟩
    · rename_i h
      exact ⟨fun z => (by cases z), fun z => absurd z h⟩
section
variable {P : Program} {w : World} {K : PySem.W.Frag} {mg : Str → Option Value} {base : Heap} {T : List (Addr × Str)} {CB e1 e2 r1 r2 : Addr}
theorem scTold : FnScope ["_law_form", "_law_kind", "_law_parcels", "_law_ahead", "_law_behind"] ["_law_form", "_law_kind", "_law_parcels", "_law_ahead", "_law_behind"] (defScope sTold) := ⟨rfl, rfl, rfl, by decide +kernel, rfl, by decide +kernel, by decide +kernel⟩
def spTold (T : List (Addr × Str)) : Sp := fun vs H Q _ => ∃ (k : Kd) (l b c : Addr) (L : PL) (As Bs : List Int) (form : Int), vs = [.int form, .str k.nm, .ref l, .ref b, .ref c] ∧ Ask9 H l b c L As Bs form ∧ LamX.Tabs T H ∧ ∀ H' : Hp, Gw T H H' → Res Q H' (fo k As Bs L)
theorem ok_told {f : Addr} {fd : FuncData} (F : Fun K "_law_told" "_law_told" sTold f fd) (B : Bi mg) (cFO : KwX P w K mg base 4 "free_orders" (spFO K T CB) 2 e1 e2) : FnOk P w K mg base CX0 5 f fd ["_law_form", "_law_kind", "_law_parcels", "_law_ahead", "_law_behind"] (spTold T) := by
  refine F.ok scTold (fun vs H Q E h => ?_) (fun cdv A outer s H vs Q E hr h => ?_)
  · obtain ⟨k, l, b, c, L, As, Bs, form, rfl, _⟩ := h
    rfl
  · obtain ⟨k, l, b, c, L, As, Bs, form, rfl, a, hT, q⟩ := h
    have az := a.hz
    have aL := a.hL
    have gen : ∀ (b' c' : Addr) (As' Bs' : List Int), As' = As → Bs' = Bs → SqT K H b' (As'.map V.int) → SqT K H c' (Bs'.map V.int) → spFO K T CB [.str k.nm, .ref l, .ref b', .ref c'] H Q E0 := by
      rintro b' c' As' Bs' rfl rfl h1 h2
      exact ⟨.str k.nm, l, b', c', L, _, _, rfl, a.pl, h1, h2, by omega, fun q hq => (a.hq q hq).1, az, .inl ⟨k, rfl, hT, q⟩⟩
    refine ⟨_, (pss_cons (ps_if (pt_cmpR op_eq (pv 0) pe_int (nomark _))
 (pss_one (ps_ret (pe_kw cFO.bef hr (by decide) passL (by rfl) (pa_cons (pv 1) (pa_cons (pv 2) pa_nil)) (pk_cons (pv 3) pk_nil)))) pss_nil)
 (pss_cons (ps_if (pt_cmpR op_eq (pv 0) pe_int (nomark _))
 (pss_one (ps_ret (pe_kw cFO.aft hr (by decide) passL (by rfl) (pa_cons (pv 1) (pa_cons (pv 2) pa_nil)) (pk_cons (pv 4) pk_nil)))) pss_nil)
 (pss_cons (ps_if (pt_cmpR op_eq (pv 0) pe_int (nomark _))
 (pss_one (ps_ret (pe_kp cFO hr (by decide) passL (by rfl) (pa_cons (pv 1) (pa_cons (pv 2) pa_nil))))) pss_nil)
 (pss_one (ps_ret (pe_kw cFO.both hr (by decide) passL (by rfl) (pa_cons (pv 1) (pa_cons (pv 2) pa_nil)) (pk_cons (pv 3) (pk_cons (pv 4) pk_nil)))))))), ?_⟩
    try simp only [tSeq, tAsg, gName, tOp, rI, rI0, rU, tUn, tVar, tC, tCB, tCons, tNil, tTest, tIfS, tRet, tRetN, tDrop, tNext, tBreak, tCont, rEq, rNe, CDiv, CDivN, CMul, tBM, tBM0, tTup, tLst, tAug, tIf, tAnd, tOr, tNot, tAndV, tOrV, tNotV, tIsN, tNotN, tB, scal, tCall, cxK, cxKn, rIxT, rIxL, rIn, rAppend, rReverse, tVals, tDSetd, tDGet, tDGet1, tDGet2, tDIn, tDNotIn, rSortV, rSortT, rPop, rSortL, rSortT, tSl, tNoPart, tPart, List.append_nil, L2.start, List.map_cons, List.map_nil, List.length_cons, List.length_nil, List.replicate_succ, List.replicate_zero, List.cons_append, List.nil_append, Nat.reduceAdd, Nat.reduceSub, exists_eq, exists_eq', List.getElem?_cons_zero, List.getElem?_cons_succ, List.set_cons_zero, List.set_cons_succ, Option.some.injEq, V.int.injEq, V.bl.injEq, V.str.injEq, V.ref.injEq, List.cons.injEq, and_true, true_and, and_false, false_and, reduceCtorEq, exists_false, or_false, false_or, exists_and_left, exists_and_right, exists_eq_left, exists_eq_left', exists_eq_right, exists_eq_right', exists_const, ite_true, ite_false, Bool.false_eq_true, if_true, if_false, decide_true, decide_false]
    refine ite2 (fun e => ?_) (fun e => ite2 (fun e' => ?_) (fun e' => ite2 (fun e'' => ?_) (fun e'' => ?_)))
    · have e1' : Bs = [] := a.f2 (.inl (of_decide_eq_true e))
      exact ⟨_, rfl, _, rfl, _, rfl, rfl, rfl, gen b e2 As [] rfl e1'.symm (tt a.hb) (cFO.m2 H)⟩
    · have e3 : As = [] := a.f1 (by have := of_decide_eq_true e'; omega)
      exact ⟨_, rfl, _, rfl, _, rfl, rfl, rfl, gen e1 c [] Bs e3.symm rfl (cFO.m1 H) (tt a.hc)⟩
    · have e4 := of_decide_eq_true e''
      exact gen e1 e2 [] [] (a.f1 (by omega)).symm (a.f2 (.inr e4)).symm (cFO.m1 H) (cFO.m2 H)
    · exact ⟨_, rfl, _, rfl, _, rfl, _, rfl, rfl, rfl, gen b c As Bs rfl rfl (tt a.hb) (tt a.hc)⟩
theorem scAsked : FnScope ["_law_form", "_law_kind", "_law_parcels", "_law_ahead", "_law_behind", "_law_row", "_law_told_here"] ["_law_form", "_law_kind", "_law_parcels", "_law_ahead", "_law_behind"] (defScope sAsked) := ⟨rfl, rfl, rfl, by decide +kernel, rfl, by decide +kernel, by decide +kernel⟩
def spAsked (T : List (Addr × Str)) : Sp := fun vs H Q _ => ∃ (k : Kd) (l b c : Addr) (L : PL) (As Bs : List Int) (form : Int), vs = [.int form, .str k.nm, .ref l, .ref b, .ref c] ∧ Ask9 H l b c L As Bs form ∧ LamX.Tabs T H ∧ ∀ H' : Hp, Gw T H H' → Q (.bl true) H'
theorem ok_asked {f : Addr} {fd : FuncData} (F : Fun K "_law_asked" "_law_asked" sAsked f fd) (B : Bi mg) (cTold : CalX CX0 P w K mg base 5 "_law_told" (spTold T)) (cFree : CalX CX0 P w K mg base 4 "_law_free" spFree) (cPair : CalX CX0 P w K mg base 2 "_law_pair" spPair) : FnOk P w K mg base CX0 6 f fd ["_law_form", "_law_kind", "_law_parcels", "_law_ahead", "_law_behind"] (spAsked T) := by
  refine F.ok scAsked (fun vs H Q E h => ?_) (fun cdv A outer s H vs Q E hr h => ?_)
  · obtain ⟨k, l, b, c, L, As, Bs, form, rfl, _⟩ := h
    rfl
  · obtain ⟨k, l, b, c, L, As, Bs, form, rfl, a, hT, q⟩ := h
    have az := a.hz
    have aL := a.hL
    have aA := a.hA
    have aB := a.hB
    refine ⟨_, (pss_cons (ps_set (i := 5) scAsked.nd rfl (.inl rfl) (pe_callTy call_list_of (by rfl) B.list (by decide +kernel) (pa_cons (pv 2) pa_nil)))
 (pss_cons (ps_set (i := 6) scAsked.nd rfl (.inl rfl) (pe_cx cTold hr (by decide) pass0 (by rfl) (pa_cons (pv 0) (pa_cons (pv 1) (pa_cons (pv 5) (pa_cons (pv 3) (pa_cons (pv 4) pa_nil)))))))
 (pss_cons (ps_if (pt_cmpR (op_neD hr.units) (pv 5) (pv 2) (nomark _))
 (pss_one (ps_ret pe_bl)) pss_nil)
 (pss_cons (ps_if (pt_val (pe_cx cFree hr (by decide) pass0 (by rfl) (pa_cons (pv 1) (pa_cons (pv 2) (pa_cons (pv 3) (pa_cons (pv 4) pa_nil))))))
 (pss_one (ps_ret (pe_cmpR op_isN (pv 6) pe_non (nomark _)))) pss_nil)
 (pss_one (ps_ret (pe_and (pe_callB call_isi (by rfl) B.isinstance (by decide +kernel) (pa_cons (pv 6) (pa_cons (pe_bltn (by rfl) B.tuple (by decide +kernel) (v := .ty "tuple") rfl) pa_nil))) (pe_one (pe_cmpR (op_eqD hr.units) (pv 6) (pe_cx cPair hr (by decide) pass0 (by rfl) (pa_cons (pv 1) (pa_cons (pv 2) (pa_cons (pv 3) (pa_cons (pv 4) pa_nil))))) (nomark _)))))))))), ?_⟩
    try simp only [tSeq, tAsg, gName, tOp, rI, rI0, rU, tUn, tVar, tC, tCB, tCons, tNil, tTest, tIfS, tRet, tRetN, tDrop, tNext, tBreak, tCont, rEq, rNe, CDiv, CDivN, CMul, tBM, tBM0, tTup, tLst, tAug, tIf, tAnd, tOr, tNot, tAndV, tOrV, tNotV, tIsN, tNotN, tB, scal, tCall, cxK, cxKn, rIxT, rIxL, rIn, rAppend, rReverse, tVals, tDSetd, tDGet, tDGet1, tDGet2, tDIn, tDNotIn, rSortV, rSortT, rPop, rSortL, rSortT, tSl, tNoPart, tPart, List.append_nil, L2.start, List.map_cons, List.map_nil, List.length_cons, List.length_nil, List.replicate_succ, List.replicate_zero, List.cons_append, List.nil_append, Nat.reduceAdd, Nat.reduceSub, exists_eq, exists_eq', List.getElem?_cons_zero, List.getElem?_cons_succ, List.set_cons_zero, List.set_cons_succ, Option.some.injEq, V.int.injEq, V.bl.injEq, V.str.injEq, V.ref.injEq, List.cons.injEq, and_true, true_and, and_false, false_and, reduceCtorEq, exists_false, or_false, false_or, exists_and_left, exists_and_right, exists_eq_left, exists_eq_left', exists_eq_right, exists_eq_right', exists_const, ite_true, ite_false, Bool.false_eq_true, if_true, if_false, decide_true, decide_false]
    refine ⟨_, .inl (ll a.pl.at_), fun r1 h1 => ?_⟩
    have s1 := same_upd (o := .lst (L.map fun q => V.ref q.1)) h1
    have a1 := a.ext (LamX.ExtN.of s1)
    have ar : Ask9 (upd H r1 (.lst (L.map fun q => V.ref q.1))) r1 b c L As Bs form := ⟨⟨upd_same, a1.pl.all⟩, a1.hb, a1.hc, a1.f1, a1.f2, a1.hL, a1.hq, a1.hA, a1.hB⟩
    generalize upd H r1 (.lst (L.map fun q => V.ref q.1)) = H1 at s1 a1 ar
    refine ⟨k, r1, b, c, L, As, Bs, form, rfl, ar, hT.ext s1, fun H3 g3 => ?_⟩
    have a3 := a1.ext g3.1
    have ar3 := ar.ext g3.1
    have hff := fo_free k (As := As) (Bs := Bs) (L := L) (fun q hq => (a.hq q hq).1)
    have frees : ∀ (Q' : VK) (E' : XK), (∀ (b' : Bool) (H' : Hp), Same H3 H' → (freeO k As Bs L ↔ b' = true) → Q' (.bl b') H') → spFree [.str k.nm, .ref l, .ref b, .ref c] H3 Q' E' := fun Q' E' h =>
      ⟨k, l, b, c, L, As, Bs, rfl, a3.pl, a3.hb, a3.hc, by omega, a3.hq, by omega, by omega, h⟩
    cases ef : fo k As Bs L with
    | none =>
      unfold Res
      refine ne_pcs ar3.pl a3.pl ⟨_, rfl, if_F rfl (frees _ _ fun b' H4 s4 hb' => ?_)⟩
      obtain rfl : b' = true := hb'.mp (hff.mp ef)
      refine ⟨_, rfl, if_T rfl ?_⟩
      exact q H4 (((Gw.of hT s1).trans g3).trans (Gw.of g3.2 s4))
    | some p =>
      intro t x y ht hx hy
      try simp only [tSeq, tAsg, gName, tOp, rI, rI0, rU, tUn, tVar, tC, tCB, tCons, tNil, tTest, tIfS, tRet, tRetN, tDrop, tNext, tBreak, tCont, rEq, rNe, CDiv, CDivN, CMul, tBM, tBM0, tTup, tLst, tAug, tIf, tAnd, tOr, tNot, tAndV, tOrV, tNotV, tIsN, tNotN, tB, scal, tCall, cxK, cxKn, rIxT, rIxL, rIn, rAppend, rReverse, tVals, tDSetd, tDGet, tDGet1, tDGet2, tDIn, tDNotIn, rSortV, rSortT, rPop, rSortL, rSortT, tSl, tNoPart, tPart, List.append_nil, L2.start, List.map_cons, List.map_nil, List.length_cons, List.length_nil, List.replicate_succ, List.replicate_zero, List.cons_append, List.nil_append, Nat.reduceAdd, Nat.reduceSub, exists_eq, exists_eq', List.getElem?_cons_zero, List.getElem?_cons_succ, List.set_cons_zero, List.set_cons_succ, Option.some.injEq, V.int.injEq, V.bl.injEq, V.str.injEq, V.ref.injEq, List.cons.injEq, and_true, true_and, and_false, false_and, reduceCtorEq, exists_false, or_false, false_or, exists_and_left, exists_and_right, exists_eq_left, exists_eq_left', exists_eq_right, exists_eq_right', exists_const, ite_true, ite_false, Bool.false_eq_true, if_true, if_false, decide_true, decide_false]
      refine ne_pcs ar3.pl a3.pl ⟨_, rfl, if_F rfl (frees _ _ fun b' H4 s4 hb' => ?_)⟩
      have b0 : b' = false := by
        cases b' with
        | false => rfl
        | true =>
          have := hff.mpr (hb'.mpr rfl)
          rw [ef] at this
          cases this
      subst b0
      have a4 := a3.ext (LamX.ExtN.of s4)
      have ht4 := s4 _ _ ht
      refine ⟨_, rfl, if_F rfl ⟨.ref t, .ty "tuple", .type "tuple", .type "tuple", true, rfl, .ty _, .base (.tup ht4), kit_ty (by decide +kernel), true, rfl, if_T rfl ?_⟩⟩
      refine ⟨k, l, b, c, L, As, Bs, rfl, a4.pl, a4.hb, a4.hc, by omega, az, fun H5 s5 => ?_⟩
      rw [ef]
      intro t5 x5 y5 h5 hx5 hy5
      exact eq_pairs (s5 _ _ ht4) h5 (s5 _ _ (s4 _ _ hx)) (s5 _ _ (s4 _ _ hy)) hx5 hy5 (q H5 (((Gw.of hT s1).trans g3).trans (Gw.of g3.2 (s4.trans s5))))
theorem scTwos : FnScope ["_law_kind", "_law_parcels", "_law_ahead", "_law_behind", "_law_i", "_law_j", "_law_told_here"] ["_law_kind", "_law_parcels", "_law_ahead", "_law_behind"] (defScope sTwos) := ⟨rfl, rfl, rfl, by decide +kernel, rfl, by decide +kernel, by decide +kernel⟩
def spTwos (T : List (Addr × Str)) : Sp := fun vs H Q _ => ∃ (k : Kd) (l b c : Addr) (L : PL) (As Bs : List Int) (form : Int), vs = [.str k.nm, .ref l, .ref b, .ref c] ∧ Ask9 H l b c L As Bs form ∧ LamX.Tabs T H ∧ ∀ (b' : Bool) (H' : Hp), Gw T H H' → (freeO k As Bs L ↔ b' = true) → Q (.bl b') H'
theorem ok_twos {f : Addr} {fd : FuncData} (F : Fun K "_law_twos" "_law_twos" sTwos f fd) (B : Bi mg) (cFS : KwX P w K mg base 4 "free_shuffles" (spFS K T CB) 3 r1 r2) : FnOk P w K mg base CX0 5 f fd ["_law_kind", "_law_parcels", "_law_ahead", "_law_behind"] (spTwos T) := by
  refine F.ok scTwos (fun vs H Q E h => ?_) (fun cdv A outer s H vs Q E hr h => ?_)
  · obtain ⟨k, l, b, c, L, As, Bs, form, rfl, _⟩ := h
    rfl
  · obtain ⟨k, l, b, c, L, As, Bs, form, rfl, a, hT, q⟩ := h
    have aL := a.hL
    have aA := a.hA
    have aB := a.hB
    refine ⟨_, (pss_cons (ps_for PassesOwn.never rfl (pi_range1 (by rfl) B.range (pa_cons (pe_callB call_len_seq (by rfl) B.len PySem.boot_len (pa_cons (pv 1) pa_nil)) pa_nil)) (pg_name (i := 4) scTwos.nd rfl (.inl rfl))
 (pss_one (ps_for PassesOwn.never rfl (pi_range1 (by rfl) B.range (pa_cons (pv 4) pa_nil)) (pg_name (i := 5) scTwos.nd rfl (.inl rfl))
 (pss_cons (ps_set (i := 6) scTwos.nd rfl (.inl rfl) (pe_kw cFS.both hr (by decide) passL (by rfl) (pa_cons (pv 0) (pa_cons (pe_lst (pa_cons (pe_ix ix_list (pv 1) (pv 5) (fun _ _ => rfl)) pa_nil)) (pa_cons (pe_lst (pa_cons (pe_ix ix_list (pv 1) (pv 4) (fun _ _ => rfl)) pa_nil)) pa_nil))) (pk_cons (pv 2) (pk_cons (pv 3) pk_nil))))
 (pss_one (ps_if (pt_cmpR op_notN (pv 6) pe_non (nomark _))
 (pss_one (ps_ret pe_bl)) pss_nil))))))
 (pss_one (ps_ret pe_bl))), ?_⟩
    try simp only [tSeq, tAsg, gName, tOp, rI, rI0, rU, tUn, tVar, tC, tCB, tCons, tNil, tTest, tIfS, tRet, tRetN, tDrop, tNext, tBreak, tCont, rEq, rNe, CDiv, CDivN, CMul, tBM, tBM0, tTup, tLst, tAug, tIf, tAnd, tOr, tNot, tAndV, tOrV, tNotV, tIsN, tNotN, tB, scal, tCall, cxK, cxKn, rIxT, rIxL, rIn, rAppend, rReverse, tVals, tDSetd, tDGet, tDGet1, tDGet2, tDIn, tDNotIn, rSortV, rSortT, rPop, rSortL, rSortT, tSl, tNoPart, tPart, List.append_nil, L2.start, List.map_cons, List.map_nil, List.length_cons, List.length_nil, List.replicate_succ, List.replicate_zero, List.cons_append, List.nil_append, Nat.reduceAdd, Nat.reduceSub, exists_eq, exists_eq', List.getElem?_cons_zero, List.getElem?_cons_succ, List.set_cons_zero, List.set_cons_succ, Option.some.injEq, V.int.injEq, V.bl.injEq, V.str.injEq, V.ref.injEq, List.cons.injEq, and_true, true_and, and_false, false_and, reduceCtorEq, exists_false, or_false, false_or, exists_and_left, exists_and_right, exists_eq_left, exists_eq_left', exists_eq_right, exists_eq_right', exists_const, ite_true, ite_false, Bool.false_eq_true, if_true, if_false, decide_true, decide_false]
    refine ⟨.ref l, rfl, l, rfl, _, .inl (ll a.pl.at_), _, rfl, by rw [List.length_map]; omega, by rw [List.length_map]; omega, ?_⟩
    rw [List.length_map]
    refine for_range (n := L.length) (fun i σ H' => ∃ (y4 y5 y6 : Option V), σ = [some (.str k.nm), some (.ref l), some (.ref b), some (.ref c), y4, y5, y6] ∧ Gw T H H' ∧ ∀ (i' j : Nat) (x y : Addr × List Int), i' < i → j < i' → L[i']? = some x → L[j]? = some y → swapOk k As Bs y.2 x.2)
      ⟨none, none, none, rfl, Gw.refl hT, fun i' j x y h => absurd h (by omega)⟩ ?_ ?_
    · rintro i σ H3 hi ⟨y4, y5, y6, rfl, g3, hn⟩
      have hqi : L[i]? = some L[i] := List.getElem?_eq_getElem hi
      generalize L[i] = qi at hqi
      have ati : (L.map fun q => V.ref q.1)[i]? = some (.ref qi.1) := by
        rw [List.getElem?_map, hqi]
        rfl
      try simp only [tSeq, tAsg, gName, tOp, rI, rI0, rU, tUn, tVar, tC, tCB, tCons, tNil, tTest, tIfS, tRet, tRetN, tDrop, tNext, tBreak, tCont, rEq, rNe, CDiv, CDivN, CMul, tBM, tBM0, tTup, tLst, tAug, tIf, tAnd, tOr, tNot, tAndV, tOrV, tNotV, tIsN, tNotN, tB, scal, tCall, cxK, cxKn, rIxT, rIxL, rIn, rAppend, rReverse, tVals, tDSetd, tDGet, tDGet1, tDGet2, tDIn, tDNotIn, rSortV, rSortT, rPop, rSortL, rSortT, tSl, tNoPart, tPart, List.append_nil, L2.start, List.map_cons, List.map_nil, List.length_cons, List.length_nil, List.replicate_succ, List.replicate_zero, List.cons_append, List.nil_append, Nat.reduceAdd, Nat.reduceSub, exists_eq, exists_eq', List.getElem?_cons_zero, List.getElem?_cons_succ, List.set_cons_zero, List.set_cons_succ, Option.some.injEq, V.int.injEq, V.bl.injEq, V.str.injEq, V.ref.injEq, List.cons.injEq, and_true, true_and, and_false, false_and, reduceCtorEq, exists_false, or_false, false_or, exists_and_left, exists_and_right, exists_eq_left, exists_eq_left', exists_eq_right, exists_eq_right', exists_const, ite_true, ite_false, Bool.false_eq_true, if_true, if_false, decide_true, decide_false]
      simp only [Int.zero_add]
      refine ⟨_, rfl, _, rfl, by omega, by omega, ?_⟩
      refine for_range (n := i) (fun j σ H' => ∃ (y5 y6 : Option V), σ = [some (.str k.nm), some (.ref l), some (.ref b), some (.ref c), some (.int (i : Nat)), y5, y6] ∧ Gw T H H' ∧ ∀ (j' : Nat) (y : Addr × List Int), j' < j → L[j']? = some y → swapOk k As Bs y.2 qi.2)
        ⟨y5, y6, rfl, g3, fun j y h => absurd h (by omega)⟩ ?_ ?_
      · rintro j σ H5 hj ⟨y5, y6, rfl, g5, hnj⟩
        have hjl : j < L.length := by omega
        have hqj : L[j]? = some L[j] := List.getElem?_eq_getElem hjl
        generalize L[j] = qj at hqj
        have atj : (L.map fun q => V.ref q.1)[j]? = some (.ref qj.1) := by
          rw [List.getElem?_map, hqj]
          rfl
        have mi := List.mem_of_getElem? hqi
        have mj := List.mem_of_getElem? hqj
        have zi := a.hq qi mi
        have zj := a.hq qj mj
        have a5 := a.ext g5.1
        try simp only [tSeq, tAsg, gName, tOp, rI, rI0, rU, tUn, tVar, tC, tCB, tCons, tNil, tTest, tIfS, tRet, tRetN, tDrop, tNext, tBreak, tCont, rEq, rNe, CDiv, CDivN, CMul, tBM, tBM0, tTup, tLst, tAug, tIf, tAnd, tOr, tNot, tAndV, tOrV, tNotV, tIsN, tNotN, tB, scal, tCall, cxK, cxKn, rIxT, rIxL, rIn, rAppend, rReverse, tVals, tDSetd, tDGet, tDGet1, tDGet2, tDIn, tDNotIn, rSortV, rSortT, rPop, rSortL, rSortT, tSl, tNoPart, tPart, List.append_nil, L2.start, List.map_cons, List.map_nil, List.length_cons, List.length_nil, List.replicate_succ, List.replicate_zero, List.cons_append, List.nil_append, Nat.reduceAdd, Nat.reduceSub, exists_eq, exists_eq', List.getElem?_cons_zero, List.getElem?_cons_succ, List.set_cons_zero, List.set_cons_succ, Option.some.injEq, V.int.injEq, V.bl.injEq, V.str.injEq, V.ref.injEq, List.cons.injEq, and_true, true_and, and_false, false_and, reduceCtorEq, exists_false, or_false, false_or, exists_and_left, exists_and_right, exists_eq_left, exists_eq_left', exists_eq_right, exists_eq_right', exists_const, ite_true, ite_false, Bool.false_eq_true, if_true, if_false, decide_true, decide_false]
        simp only [Int.zero_add]
        unfold tCallN
        try simp only [tSeq, tAsg, gName, tOp, rI, rI0, rU, tUn, tVar, tC, tCB, tCons, tNil, tTest, tIfS, tRet, tRetN, tDrop, tNext, tBreak, tCont, rEq, rNe, CDiv, CDivN, CMul, tBM, tBM0, tTup, tLst, tAug, tIf, tAnd, tOr, tNot, tAndV, tOrV, tNotV, tIsN, tNotN, tB, scal, tCall, cxK, cxKn, rIxT, rIxL, rIn, rAppend, rReverse, tVals, tDSetd, tDGet, tDGet1, tDGet2, tDIn, tDNotIn, rSortV, rSortT, rPop, rSortL, rSortT, tSl, tNoPart, tPart, List.append_nil, L2.start, List.map_cons, List.map_nil, List.length_cons, List.length_nil, List.replicate_succ, List.replicate_zero, List.cons_append, List.nil_append, Nat.reduceAdd, Nat.reduceSub, exists_eq, exists_eq', List.getElem?_cons_zero, List.getElem?_cons_succ, List.set_cons_zero, List.set_cons_succ, Option.some.injEq, V.int.injEq, V.bl.injEq, V.str.injEq, V.ref.injEq, List.cons.injEq, and_true, true_and, and_false, false_and, reduceCtorEq, exists_false, or_false, false_or, exists_and_left, exists_and_right, exists_eq_left, exists_eq_left', exists_eq_right, exists_eq_right', exists_const, ite_true, ite_false, Bool.false_eq_true, if_true, if_false, decide_true, decide_false]
        refine ⟨_, ll a5.pl.at_, _, atI_nat atj, by decide, fun o1 h1 => ?_⟩
        have u1 := same_upd (o := .lst [.ref qj.1]) h1
        have p1 := Pcs.new1 (q := qj) h1 (a5.pl.all qj mj)
        refine ⟨_, ll (u1 _ _ a5.pl.at_), _, atI_nat ati, by decide, fun o2 h2 => ?_⟩
        have u2 := same_upd (o := .lst [.ref qi.1]) h2
        have p2 := Pcs.new1 (q := qi) h2 (u1 _ _ (a5.pl.all qi mi))
        have p1' := p1.same u2
        have u12 := u1.trans u2
        have a6 := a5.ext (LamX.ExtN.of u12)
        have g6 := g5.trans (Gw.of g5.2 u12)
        have e2 : (wds ([qj] ++ [qi])).flatten.length = qj.2.length + qi.2.length := by simp [wds]
        refine ⟨.str k.nm, o1, o2, b, c, [qj], [qi], As, Bs, rfl, p1', p2, tt a6.hb, tt a6.hc, by simp, by simp, by omega, .inl ⟨k, rfl, g6.2, fun H7 g7 => ?_⟩⟩
        have g07 := g6.trans g7
        have hft := fs_two k (As := As) (Bs := Bs) (x := qj) (y := qi) (ne_of_len zj.1) (ne_of_len zi.1)
        cases ef : fsR k As Bs [qj] [qi] with
        | none =>
          unfold Res
          refine if_F (by simp) ⟨g07, fun j' y h1 h2 => ?_⟩
          by_cases ej : j' = j
          · subst ej
            obtain rfl : qj = y := Option.some.inj (hqj.symm.trans h2)
            exact hft.mp ef
          · exact hnj j' y (by omega) h2
        | some p =>
          intro t x y ht hx hy
          refine if_T (by simp) (q false H7 g07 ⟨fun hf => ?_, fun z => Bool.noConfusion z⟩)
          have := hft.mpr (hf i j qi qj hj hqi hqj)
          rw [ef] at this
          cases this
      · rintro σ H5 ⟨y5, y6, rfl, g5, hnj⟩
        try simp only [tSeq, tAsg, gName, tOp, rI, rI0, rU, tUn, tVar, tC, tCB, tCons, tNil, tTest, tIfS, tRet, tRetN, tDrop, tNext, tBreak, tCont, rEq, rNe, CDiv, CDivN, CMul, tBM, tBM0, tTup, tLst, tAug, tIf, tAnd, tOr, tNot, tAndV, tOrV, tNotV, tIsN, tNotN, tB, scal, tCall, cxK, cxKn, rIxT, rIxL, rIn, rAppend, rReverse, tVals, tDSetd, tDGet, tDGet1, tDGet2, tDIn, tDNotIn, rSortV, rSortT, rPop, rSortL, rSortT, tSl, tNoPart, tPart, List.append_nil, L2.start, List.map_cons, List.map_nil, List.length_cons, List.length_nil, List.replicate_succ, List.replicate_zero, List.cons_append, List.nil_append, Nat.reduceAdd, Nat.reduceSub, exists_eq, exists_eq', List.getElem?_cons_zero, List.getElem?_cons_succ, List.set_cons_zero, List.set_cons_succ, Option.some.injEq, V.int.injEq, V.bl.injEq, V.str.injEq, V.ref.injEq, List.cons.injEq, and_true, true_and, and_false, false_and, reduceCtorEq, exists_false, or_false, false_or, exists_and_left, exists_and_right, exists_eq_left, exists_eq_left', exists_eq_right, exists_eq_right', exists_const, ite_true, ite_false, Bool.false_eq_true, if_true, if_false, decide_true, decide_false]
        refine ⟨g5, fun i' j x y h1 h2 h3 h4 => ?_⟩
        by_cases ei : i' = i
        · subst ei
          obtain rfl : qi = x := Option.some.inj (hqi.symm.trans h3)
          exact hnj j y h2 h4
        · exact hn i' j x y (by omega) h2 h3 h4
    · rintro σ H3 ⟨y4, y5, y6, rfl, g3, hn⟩
      try simp only [tSeq, tAsg, gName, tOp, rI, rI0, rU, tUn, tVar, tC, tCB, tCons, tNil, tTest, tIfS, tRet, tRetN, tDrop, tNext, tBreak, tCont, rEq, rNe, CDiv, CDivN, CMul, tBM, tBM0, tTup, tLst, tAug, tIf, tAnd, tOr, tNot, tAndV, tOrV, tNotV, tIsN, tNotN, tB, scal, tCall, cxK, cxKn, rIxT, rIxL, rIn, rAppend, rReverse, tVals, tDSetd, tDGet, tDGet1, tDGet2, tDIn, tDNotIn, rSortV, rSortT, rPop, rSortL, rSortT, tSl, tNoPart, tPart, List.append_nil, L2.start, List.map_cons, List.map_nil, List.length_cons, List.length_nil, List.replicate_succ, List.replicate_zero, List.cons_append, List.nil_append, Nat.reduceAdd, Nat.reduceSub, exists_eq, exists_eq', List.getElem?_cons_zero, List.getElem?_cons_succ, List.set_cons_zero, List.set_cons_succ, Option.some.injEq, V.int.injEq, V.bl.injEq, V.str.injEq, V.ref.injEq, List.cons.injEq, and_true, true_and, and_false, false_and, reduceCtorEq, exists_false, or_false, false_or, exists_and_left, exists_and_right, exists_eq_left, exists_eq_left', exists_eq_right, exists_eq_right', exists_const, ite_true, ite_false, Bool.false_eq_true, if_true, if_false, decide_true, decide_false]
      exact q true H3 g3 ⟨fun _ => rfl, fun _ i j x y h1 h2 h3 => hn i j x y (List.getElem?_eq_some_iff.mp h2).1 h1 h2 h3⟩
theorem scRef : FnScope ["_law_name", "_law_parcels", "_law_caught", "_law_told_here", "e"] ["_law_name", "_law_parcels"] (defScope sRef) := ⟨rfl, rfl, rfl, by decide +kernel, rfl, by decide +kernel, by decide +kernel⟩
def spRef : Sp := fun vs H Q _ => ∃ (v : V) (lu : Addr) (L : PL), vs = [v, .ref lu] ∧ Pcs H lu L ∧ L.length ≤ 60 ∧ (∀ q ∈ L, 1 ≤ q.2.length) ∧ (wds L).flatten.length ≤ 60 ∧ BadV H v ∧ ∀ H' : Hp, LamX.ExtN H H' → Q (.bl true) H'
theorem ok_ref {f : Addr} {fd : FuncData} (F : Fun K "_law_refused" "_law_refused" sRef f fd) (B : Bi mg) (R : RTx K mg CB) (cFO : KwX P w K mg base 4 "free_orders" (spFO K T CB) 2 e1 e2) : FnOk P w K mg base CX0 5 f fd ["_law_name", "_law_parcels"] spRef := by
  refine F.ok scRef (fun vs H Q E h => ?_) (fun cdv A outer s H vs Q E hr h => ?_)
  · obtain ⟨v, lu, L, rfl, _⟩ := h
    rfl
  · obtain ⟨v, lu, L, rfl, pu, lL, hq, hz, b, q⟩ := h
    refine ⟨_, pss_cons (ps_set (i := 2) scRef.nd rfl (.inl rfl) pe_bl) (pss_cons (ps_set (i := 3) scRef.nd rfl (.inl rfl) pe_str) (pss_cons (ps_try_as (i := 4)
      (tb := fun W => tDrop (tCallSD (spFO K T CB) [.ref e1, .ref e2] (WE W) (tCons (tVar 0) (tCons (tCB (rLst K) (tCons (tVar 1) tNil)) tNil))))
      (ts := fun a cls d => tSeq (tAsg (tC (V.bl true)) (gName 2)) (tAsg (tXf a cls d CB "name" (tVar 4)) (gName 3))) (Wout := fun _ _ _ _ => False) rfl rfl scRef.nd rfl rfl ⟨rfl, by decide, .inl R.gCB⟩ takes0
        (fun W pn xe tk _ => by exact (pss_one (ps_expr (pe_kpS cFO hr (by decide) tk (by rfl) (pa_cons (pv 0) (pa_cons (pe_callTy call_list_of (by rfl) B.list (by decide +kernel) (pa_cons (pv 1) pa_nil)) pa_nil))))))
        (fun a oe cls d pn hz hf => by exact (pss_cons (ps_set (i := 2) scRef.nd rfl (.inl rfl) pe_bl) (pss_one (ps_set (i := 3) scRef.nd rfl (.inl rfl) (pe_xf R.xf R.noN hz hf (pv 4)))))))
      (pss_one (ps_ret (pe_and (pv 2) (pe_one (pe_cmpR op_eq (pv 3) (pv 0) (nomark _)))))))), ?_⟩
    have hE : ∀ H1 : Hp, LamX.ExtN H H1 → Rs CB H1 v (fun cls d H' => wAs K (.ref CB) 4 (fun (a : Addr) (cls : Value) (d : Option Addr) => tSeq (tAsg (tC (V.bl true)) (gName 2)) (tAsg (tXf a cls d CB "name" (tVar 4)) (gName 3))) (fun _ _ _ _ => False) { nx := fun σ' H' => tRet (tAndV (tVar 2) (tOp rEq (tVar 3) (tVar 0))) { nx := fun _ H' => Q .non H', rt := Q } σ' H', rt := Q } cls d [some v, some (.ref lu), some (.bl false), some (.str ""), none] H') := by
      intro H1 x1 d H2 x2 hd
      refine ⟨true, R.te, fun _ a ha => ?_, fun z => Bool.noConfusion z⟩
      have hl : List.lookup ("name" : Str) [(("name" : Str), v)] = some v := by simp [List.lookup]
      have fin : Q (.bl true) H2 := q _ (x1.trans x2)
      refine ⟨.ref a, rfl, rfl, rfl, d, _, v, rfl, hd, hl, ?_⟩
      cases b <;> exact ⟨_, rfl, _, rfl, if_T rfl ⟨_, rfl, _, rfl, rfl, by rw [decide_eq_true rfl]; exact fin⟩⟩
    clear q
    revert hE
    generalize (fun (a : Addr) (cls : Value) (d : Option Addr) => tSeq (tAsg (tC (V.bl true)) (gName 2)) (tAsg (tXf a cls d CB "name" (tVar 4)) (gName 3))) = ts
    intro hE
    try simp only [tSeq, tAsg, gName, tOp, rI, rI0, rU, tUn, tVar, tC, tCB, tCons, tNil, tTest, tIfS, tRet, tRetN, tDrop, tNext, tBreak, tCont, rEq, rNe, CDiv, CDivN, CMul, tBM, tBM0, tTup, tLst, tAug, tIf, tAnd, tOr, tNot, tAndV, tOrV, tNotV, tIsN, tNotN, tB, scal, tCall, cxK, cxKn, rIxT, rIxL, rIn, rAppend, rReverse, tVals, tDSetd, tDGet, tDGet1, tDGet2, tDIn, tDNotIn, rSortV, rSortT, rPop, rSortL, rSortT, tSl, tNoPart, tPart, List.append_nil, L2.start, List.map_cons, List.map_nil, List.length_cons, List.length_nil, List.replicate_succ, List.replicate_zero, List.cons_append, List.nil_append, Nat.reduceAdd, Nat.reduceSub, exists_eq, exists_eq', List.getElem?_cons_zero, List.getElem?_cons_succ, List.set_cons_zero, List.set_cons_succ, Option.some.injEq, V.int.injEq, V.bl.injEq, V.str.injEq, V.ref.injEq, List.cons.injEq, and_true, true_and, and_false, false_and, reduceCtorEq, exists_false, or_false, false_or, exists_and_left, exists_and_right, exists_eq_left, exists_eq_left', exists_eq_right, exists_eq_right', exists_const, ite_true, ite_false, Bool.false_eq_true, if_true, if_false, decide_true, decide_false]
    refine ⟨v, rfl, .ref lu, rfl, lu, _, rfl, .inl (ll pu.at_), fun o ho => ?_⟩
    have so := same_upd (o := .lst (L.map fun q => V.ref q.1)) ho
    refine ⟨v, o, e1, e2, L, [], [], rfl, ⟨upd_same, (pu.same so).all⟩, cFO.m1 _, cFO.m2 _, lL, hq, by simp only [List.length_nil]; omega, .inr ⟨b.ext (LamX.ExtN.of so), hE _ (LamX.ExtN.of so)⟩⟩
end
end Mv

set_option Elab.async false
set_option linter.all false
set_option maxRecDepth 100000
set_option maxHeartbeats 4000000
namespace Mv
open PySem PySem.Spec PyProof.Rows L2
abbrev sGood : Stmt := topS 44
structure Rls (H : Hp) (o : Addr) (RL : List (Addr × PL)) : Prop where
  at_ : H o = some (.lst (RL.map fun q => V.ref q.1))
  all : ∀ q ∈ RL, Pcs H q.1 q.2
theorem Rls.ext {H H' : Hp} {o : Addr} {RL : List (Addr × PL)} (h : Rls H o RL) (e : LamX.ExtN H H') : Rls H' o RL := ⟨e _ _ h.at_ (fun ps z => by cases z), fun q hq => (h.all q hq).ext e⟩
structure St9 (T : List (Addr × Str)) (H : Hp) (l b c wl ro : Addr) (L WL : PL) (RL : List (Addr × PL)) (As Bs : List Int) (form : Int) : Prop where
  ak : Ask9 H l b c L As Bs form
  hw : Pcs H wl WL
  hr : Rls H ro RL
  tb : LamX.Tabs T H
theorem St9.ext {T : List (Addr × Str)} {H H' : Hp} {l b c wl ro : Addr} {L WL : PL} {RL : List (Addr × PL)} {As Bs : List Int} {form : Int} (a : St9 T H l b c wl ro L WL RL As Bs form) (g : Gw T H H') : St9 T H' l b c wl ro L WL RL As Bs form := ⟨a.ak.ext g.1, a.hw.ext g.1, a.hr.ext g.1, g.2⟩
structure Fc9 (L WL : PL) (RL : List (Addr × PL)) (As Bs : List Int) : Prop where
  ws : WL = [] ∨ (L.length ≤ 5 ∧ wds WL = (rowsT L.length L.length).map fun r => wrd As Bs (ofRow L r))
  rl : ∀ q ∈ RL, q.2.length ≤ 12 ∧ ∀ r ∈ q.2, 1 ≤ r.2.length ∧ r.2.length ≤ 4
  lr : RL.length ≤ 3
/-- all plain values are one exactly if all orders are free -/
theorem orders_free {k : Kd} {L WL : PL} {As Bs : List Int} (hq : ∀ q ∈ L, 1 ≤ q.2.length) (ws : wds WL = (rowsT L.length L.length).map fun r => wrd As Bs (ofRow L r)) {W0 : List Int} (h0 : W0 ∈ wds WL) : freeO k As Bs L ↔ ∀ W ∈ wds WL, plainI k W = plainI k W0 := by
  rw [ws] at h0 ⊢
  constructor
  · intro h W hW
    have t := free_two hq h
    obtain ⟨r, hr, rfl⟩ := List.mem_map.mp hW
    obtain ⟨r0, hr0, rfl⟩ := List.mem_map.mp h0
    have e1 : plainI k (wrd As Bs (ofRow L r)) = plainI k (wrd As Bs L) := perm_same k (row_perm hr) hq t
    have e2 : plainI k (wrd As Bs (ofRow L r0)) = plainI k (wrd As Bs L) := perm_same k (row_perm hr0) hq t
    rw [e1, e2]
  · intro h
    have hf := fo_free k (As := As) (Bs := Bs) hq
    cases e : fo k As Bs L with
    | none => exact hf.mp e
    | some p =>
      obtain ⟨ah, i, j, hij, hj, _, ne⟩ := fo_some e
      have pm := mvd_perm hij hj ah
      obtain ⟨r1, hr1, e1⟩ := row_of pm.1
      obtain ⟨r2, hr2, e2⟩ := row_of pm.2
      have h1 := h _ (List.mem_map.mpr ⟨r1, hr1, rfl⟩)
      have h2 := h _ (List.mem_map.mpr ⟨r2, hr2, rfl⟩)
      rw [e1] at h1
      rw [e2] at h2
      exact absurd (h1.trans h2.symm) ne
theorem Nw.ne {H : Hp} {l b : Addr} {o : HO} (n : Nw H l) (h : H b = some o) (ht : ∀ ps, o ≠ .tbl ps) : b ≠ l := fun z => by
  obtain ⟨ps, e⟩ := n o (z ▸ h)
  exact ht ps e
/-- a list that the call made is written -/
theorem Gw.wr {T : List (Addr × Str)} {H H1 : Hp} {l : Addr} {xs ys : List V} (g : Gw T H H1) (n : Nw H l) (h : H1 l = some (.lst xs)) : Gw T H (L2.upd H1 l (.lst ys)) := by
  refine ⟨fun b o e ht => ?_, fun p hp => ?_⟩
  · rw [upd_ne (n.ne e ht)]
    exact g.1 b o e ht
  · obtain ⟨ps, hP, ok, hc⟩ := g.2 p hp
    refine ⟨ps, ?_, ok, fun pos cv e => ?_⟩
    · rw [upd_ne (fun z => by rw [z, h] at hP; cases hP)]
      exact hP
    · obtain ⟨c, rfl, h'⟩ := hc pos cv e
      refine ⟨c, rfl, ?_⟩
      rw [upd_ne (fun z => by rw [z, h] at h'; cases h')]
      exact h'
theorem rep_snoc {α : Type} (a : α) : ∀ n, List.replicate n a ++ [a] = a :: List.replicate n a
  | 0 => rfl
  | n + 1 => by
    rw [List.replicate_succ, List.cons_append, rep_snoc a n]
theorem sqt_wr {K : PySem.W.Frag} {H H' : Hp} {a p : Addr} {ys xs : List V} (ha : H a = some (.lst ys)) (x : Sx a H H') (h : SqT K H p xs) : SqT K H' p xs := by
  have ne : ∀ {o : HO}, H p = some o → (∀ l, o ≠ .lst l) → p ≠ a := fun {o} e n z => by
    rw [z, ha] at e
    exact n _ (Option.some.inj e).symm
  rcases h with (h | ⟨o, h⟩) | h
  · exact .inl (.inl (x _ _ (ne h fun l z => by cases z) h))
  · exact .inl (.inr ⟨o, x _ _ (ne h fun l z => by cases z) h⟩)
  · exact .inr h
section
variable {P : Program} {w : World} {K : PySem.W.Frag} {mg : Str → Option Value} {base : Heap} {T : List (Addr × Str)} {CB : Addr}
abbrev goodN : List Str := ["_law_form", "_law_kind", "_law_parcels", "_law_ahead", "_law_behind", "_law_words", "_law_rows", "_law_free_here", "_law_plains", "_law_word_here", "_law_plain_here", "_law_row"]
theorem scGood : FnScope goodN ["_law_form", "_law_kind", "_law_parcels", "_law_ahead", "_law_behind", "_law_words", "_law_rows"] (defScope sGood) := ⟨rfl, rfl, rfl, by decide +kernel, rfl, by decide +kernel, by decide +kernel⟩
theorem good_rest {f : Addr} {cdv : Value} {A : Around} {outer : List Env} {s : Shared} {H0 : Hp} {E : XK} (B : Bi mg) (hall : mg "all" = none) (hr : Room 6 (A.deeper (envOfC "_law_good" (defScope sGood) s.heap.objs.size f cdv)))
    (cAsked : CalX CX0 P w K mg base 6 "_law_asked" (spAsked T)) (cTwos : CalX CX0 P w K mg base 5 "_law_twos" (spTwos T)) :
    ∃ t, PSs (cxOf CX0 P w K mg base goodN "_law_good" (defScope sGood) f cdv A outer s H0 E).nox ((defBody sGood).drop 3) t ∧
      ∀ (Q : VK) (k : Kd) (l b c wl ro : Addr) (L WL : PL) (RL : List (Addr × PL)) (As Bs : List Int) (form : Int) (fb : Bool) (y8 : Option V) (H : Hp), St9 T H l b c wl ro L WL RL As Bs form → Fc9 L WL RL As Bs → (freeO k As Bs L ↔ fb = true) → (∀ H' : Hp, Gw T H H' → Q (.bl true) H') →
        t { nx := fun _ H' => Q .non H', rt := Q } [some (.int form), some (.str k.nm), some (.ref l), some (.ref b), some (.ref c), some (.ref wl), some (.ref ro), some (.bl fb), y8, none, none, none] H := by
  refine ⟨_, (pss_cons (ps_if (pt_not (pt_val (pe_callB (cr_all rfl) (by rfl) hall (by decide +kernel) (pa_cons (pe_lc (own := [("_law_row", 11)]) (g := gName 11) (tt := tYes) rfl scGood.nd (pi_list (pv 6)) (blkOk_by (N := ["_law_form", "_law_kind", "_law_parcels", "_law_ahead", "_law_behind", "_law_words", "_law_rows", "_law_free_here", "_law_plains", "_law_word_here", "_law_plain_here", "_law_row"]) (sc := defScope sGood) (by decide +kernel)) (fun _ _ _ _ _ => (pg_name (i := 11) scGood.nd rfl (.inl rfl))) (fun _ _ _ _ _ => pts_nil) (fun _ _ _ _ _ => (pe_cx cAsked hr (by decide) pass0 (by rfl) (pa_cons (pv 0) (pa_cons (pv 1) (pa_cons (pv 11) (pa_cons (pv 3) (pa_cons (pv 4) pa_nil)))))))) pa_nil))))
 (pss_one (ps_ret pe_bl)) pss_nil)
 (pss_one (ps_ret (pe_cmpR op_eq (pe_cx cTwos hr (by decide) pass0 (by rfl) (pa_cons (pv 1) (pa_cons (pv 2) (pa_cons (pv 3) (pa_cons (pv 4) pa_nil))))) (pv 7) (nomark _))))), ?_⟩
  rintro Q k l b c wl ro L WL RL As Bs form fb y8 H st fc hf q
  have lr := fc.lr
  try simp only [tSeq, tAsg, gName, tOp, rI, rI0, rU, tUn, tVar, tC, tCB, tCons, tNil, tTest, tIfS, tRet, tRetN, tDrop, tNext, tBreak, tCont, rEq, rNe, CDiv, CDivN, CMul, tBM, tBM0, tTup, tLst, tAug, tIf, tAnd, tOr, tNot, tAndV, tOrV, tNotV, tIsN, tNotN, tB, scal, tCall, cxK, cxKn, rIxT, rIxL, rIn, rAppend, rReverse, tVals, tDSetd, tDGet, tDGet1, tDGet2, tDIn, tDNotIn, rSortV, rSortT, rPop, rSortL, rSortT, tSl, tNoPart, tPart, List.append_nil, L2.start, List.map_cons, List.map_nil, List.length_cons, List.length_nil, List.replicate_succ, List.replicate_zero, List.cons_append, List.nil_append, Nat.reduceAdd, Nat.reduceSub, exists_eq, exists_eq', List.getElem?_cons_zero, List.getElem?_cons_succ, List.set_cons_zero, List.set_cons_succ, Option.some.injEq, V.int.injEq, V.bl.injEq, V.str.injEq, V.ref.injEq, List.cons.injEq, and_true, true_and, and_false, false_and, reduceCtorEq, exists_false, or_false, false_or, exists_and_left, exists_and_right, exists_eq_left, exists_eq_left', exists_eq_right, exists_eq_right', exists_const, ite_true, ite_false, Bool.false_eq_true, if_true, if_false, decide_true, decide_false]
  refine ⟨_, rfl, ro, rfl, ⟨_, ll st.hr.at_⟩, fun D hD => lc_list (K := K) (xs := RL.map fun q => V.ref q.1) (fun i H' => Gw T H H' ∧ H' D = some (.lst ((List.replicate i true).map V.bl))) ⟨Gw.of st.tb (same_upd hD), upd_same⟩ (fun i H' _ h => ll (st.hr.ext h.1.1).at_) ?_ ?_⟩
  · rintro i x H1 hx ⟨g1, hd⟩
    obtain ⟨qi, hqi, rfl⟩ : ∃ q, RL[i]? = some q ∧ x = .ref q.1 := by
      rw [List.getElem?_map] at hx
      cases e : RL[i]? with
      | none =>
        rw [e] at hx
        cases hx
      | some q =>
        rw [e] at hx
        exact ⟨q, rfl, (Option.some.inj hx).symm⟩
    have mi := List.mem_of_getElem? hqi
    have hil := (List.getElem?_eq_some_iff.mp hqi).1
    have st1 := st.ext g1
    have rl := fc.rl qi mi
    refine ⟨rfl, ?_⟩
    simp only [tSeq, tAsg, gName, tOp, rI, rI0, rU, tUn, tVar, tC, tCB, tCons, tNil, tTest, tIfS, tRet, tRetN, tDrop, tNext, tBreak, tCont, rEq, rNe, CDiv, CDivN, CMul, tBM, tBM0, tTup, tLst, tAug, tIf, tAnd, tOr, tNot, tAndV, tOrV, tNotV, tIsN, tNotN, tB, scal, tCall, cxK, cxKn, rIxT, rIxL, rIn, rAppend, rReverse, tVals, tDSetd, tDGet, tDGet1, tDGet2, tDIn, tDNotIn, rSortV, rSortT, rPop, rSortL, rSortT, tSl, tNoPart, tPart, List.append_nil, L2.start, List.map_cons, List.map_nil, List.length_cons, List.length_nil, List.replicate_succ, List.replicate_zero, List.cons_append, List.nil_append, Nat.reduceAdd, Nat.reduceSub, exists_eq, exists_eq', wipe, tYes, List.getElem?_cons_zero, List.getElem?_cons_succ, List.set_cons_zero, List.set_cons_succ, Option.some.injEq, V.int.injEq, V.bl.injEq, V.str.injEq, V.ref.injEq, List.cons.injEq, and_true, true_and, and_false, false_and, reduceCtorEq, exists_false, or_false, false_or, exists_and_left, exists_and_right, exists_eq_left, exists_eq_left', exists_eq_right, exists_eq_right', exists_const, ite_true, ite_false, Bool.false_eq_true, if_true, if_false, decide_true, decide_false]
    refine ⟨k, qi.1, b, c, qi.2, As, Bs, form, rfl, ⟨st1.hr.all qi mi, st1.ak.hb, st1.ak.hc, st1.ak.f1, st1.ak.f2, rl.1, rl.2, st1.ak.hA, st1.ak.hB⟩, g1.2, fun H2 g2 => ?_⟩
    have hd2 := g2.1 _ _ hd (fun ps z => by cases z)
    refine ⟨_, hd2, by rw [List.length_map, List.length_replicate]; exact small1000 (by omega), Gw.wr (g1.trans g2) (fun o e => by rw [hD] at e; cases e) hd2, ?_⟩
    rw [upd_same, List.map_replicate, rep_snoc]
  · rintro H1 ⟨g1, hd⟩
    rw [List.length_map] at hd
    refine ⟨D, _, rfl, ll hd, ?_⟩
    have eall : (List.replicate RL.length true).all id = true := by
      rw [List.all_eq_true]
      intro x hx
      rw [List.eq_of_mem_replicate hx]
      rfl
    rw [eall]
    refine ⟨_, rfl, if_F rfl ?_⟩
    have st1 := st.ext g1
    refine ⟨k, l, b, c, L, As, Bs, form, rfl, st1.ak, g1.2, fun b' H2 g2 hb' => ?_⟩
    have : b' = fb := by
      rw [Bool.eq_iff_iff, ← hb', ← hf]
    subst this
    exact ⟨rfl, by rw [decide_eq_true rfl]; exact q H2 (g1.trans g2)⟩
def spGood (T : List (Addr × Str)) : Sp := fun vs H Q _ => ∃ (k : Kd) (l b c wl ro : Addr) (L WL : PL) (RL : List (Addr × PL)) (As Bs : List Int) (form : Int), vs = [.int form, .str k.nm, .ref l, .ref b, .ref c, .ref wl, .ref ro] ∧ St9 T H l b c wl ro L WL RL As Bs form ∧ Fc9 L WL RL As Bs ∧ ∀ H' : Hp, Gw T H H' → Q (.bl true) H'
theorem ok_good {f : Addr} {fd : FuncData} (F : Fun K "_law_good" "_law_good" sGood f fd) (B : Bi mg) (hall : mg "all" = none) (cFree : CalX CX0 P w K mg base 4 "_law_free" spFree) (cPlain : CalX CX0 P w K mg base 1 "_law_plain" (spPlain K)) (cAsked : CalX CX0 P w K mg base 6 "_law_asked" (spAsked T)) (cTwos : CalX CX0 P w K mg base 5 "_law_twos" (spTwos T)) : FnOk P w K mg base CX0 7 f fd ["_law_form", "_law_kind", "_law_parcels", "_law_ahead", "_law_behind", "_law_words", "_law_rows"] (spGood T) := by
  refine F.ok scGood (fun vs H Q E h => ?_) (fun cdv A outer s H vs Q E hr h => ?_)
  · obtain ⟨k, l, b, c, wl, ro, L, WL, RL, As, Bs, form, rfl, _⟩ := h
    rfl
  · obtain ⟨k, l, b, c, wl, ro, L, WL, RL, As, Bs, form, rfl, st, fc, q⟩ := h
    obtain ⟨tr, hrest, hR⟩ := good_rest (s := s) (H0 := H) (E := E) (outer := outer) (cdv := cdv) (f := f) (A := A) (K := K) (P := P) (w := w) (base := base) (T := T) B hall hr cAsked cTwos
    have ak := st.ak
    have aL := ak.hL
    have aA := ak.hA
    have aB := ak.hB
    have az := ak.hz
    have w60 : ∀ q ∈ WL, q.2.length ≤ 60 := fun q hq => by
      rcases fc.ws with e | ⟨_, e⟩
      · rw [e] at hq
        cases hq
      · have : q.2 ∈ wds WL := List.mem_map.mpr ⟨q, hq, rfl⟩
        rw [e] at this
        obtain ⟨r, hr, e'⟩ := List.mem_map.mp this
        rw [← e']
        have := flat_len_perm (row_perm hr)
        unfold wrd
        simp only [List.length_append]
        omega
    have lw : WL.length ≤ 3125 := by
      rcases fc.ws with e | ⟨l5, e⟩
      · rw [e]
        exact Nat.zero_le _
      · have h1 := congrArg List.length e
        rw [wds_len, List.length_map] at h1
        rw [h1]
        have h2 := rows_len L.length L.length
        have h3 : L.length ^ L.length ≤ 5 ^ L.length := Nat.pow_le_pow_left l5 _
        have h4 : 5 ^ L.length ≤ 5 ^ 5 := Nat.pow_le_pow_right (by decide) l5
        omega
    refine ⟨_, (pss_cons (ps_set (i := 7) scGood.nd rfl (.inl rfl) (pe_cx cFree hr (by decide) pass0 (by rfl) (pa_cons (pv 1) (pa_cons (pv 2) (pa_cons (pv 3) (pa_cons (pv 4) pa_nil))))))
 (pss_cons (ps_set (i := 8) scGood.nd rfl (.inr rfl) (pe_lc (own := [("_law_word_here", 9)]) (g := gName 9) (tt := tYes) rfl scGood.nd (pi_list (pv 5)) (blkOk_by (N := ["_law_form", "_law_kind", "_law_parcels", "_law_ahead", "_law_behind", "_law_words", "_law_rows", "_law_free_here", "_law_plains", "_law_word_here", "_law_plain_here", "_law_row"]) (sc := defScope sGood) (by decide +kernel)) (fun _ _ _ _ _ => (pg_name (i := 9) scGood.nd rfl (.inl rfl))) (fun _ _ _ _ _ => pts_nil) (fun _ _ _ _ _ => (pe_cx cPlain hr (by decide) pass0 (by rfl) (pa_cons (pv 1) (pa_cons (pv 9) pa_nil))))))
 (pss_cons (ps_if (PW.pt (pw_and (pt_cmpR op_gt (pe_callB call_len_seq (by rfl) B.len PySem.boot_len (pa_cons (pv 8) pa_nil)) pe_int (nomark _)) (pw_and1 (pt_cmpR op_ne (pe_callB (cr_all rfl) (by rfl) hall (by decide +kernel) (pa_cons (pe_lc (own := [("_law_plain_here", 10)]) (g := gName 10) (tt := tYes) (te := (tOp (rEqD K) (tVar 10) (tOp (rIxL K) (tVar 8) (tC (V.int 0))))) rfl scGood.nd (pi_list (pv 8)) (blkOk_by (N := ["_law_form", "_law_kind", "_law_parcels", "_law_ahead", "_law_behind", "_law_words", "_law_rows", "_law_free_here", "_law_plains", "_law_word_here", "_law_plain_here", "_law_row"]) (sc := defScope sGood) (by decide +kernel)) (fun _ _ _ _ _ => (pg_name (i := 10) scGood.nd rfl (.inl rfl))) (fun _ _ _ _ _ => pts_nil) (fun _ _ _ _ _ => (pe_cmpR (op_eqD hr.units) (pv 10) (pe_ix ix_list (pv 8) pe_int (fun _ _ => rfl)) (nomark _)))) pa_nil)) (pv 7) (nomark _)))))
 (pss_one (ps_ret pe_bl)) pss_nil)
 hrest))), ?_⟩
    try simp only [tSeq, tAsg, gName, tOp, rI, rI0, rU, tUn, tVar, tC, tCB, tCons, tNil, tTest, tIfS, tRet, tRetN, tDrop, tNext, tBreak, tCont, rEq, rNe, CDiv, CDivN, CMul, tBM, tBM0, tTup, tLst, tAug, tIf, tAnd, tOr, tNot, tAndV, tOrV, tNotV, tIsN, tNotN, tB, scal, tCall, cxK, cxKn, rIxT, rIxL, rIn, rAppend, rReverse, tVals, tDSetd, tDGet, tDGet1, tDGet2, tDIn, tDNotIn, rSortV, rSortT, rPop, rSortL, rSortT, tSl, tNoPart, tPart, List.append_nil, L2.start, List.map_cons, List.map_nil, List.length_cons, List.length_nil, List.replicate_succ, List.replicate_zero, List.cons_append, List.nil_append, Nat.reduceAdd, Nat.reduceSub, exists_eq, exists_eq', List.getElem?_cons_zero, List.getElem?_cons_succ, List.set_cons_zero, List.set_cons_succ, Option.some.injEq, V.int.injEq, V.bl.injEq, V.str.injEq, V.ref.injEq, List.cons.injEq, and_true, true_and, and_false, false_and, reduceCtorEq, exists_false, or_false, false_or, exists_and_left, exists_and_right, exists_eq_left, exists_eq_left', exists_eq_right, exists_eq_right', exists_const, ite_true, ite_false, Bool.false_eq_true, if_true, if_false, decide_true, decide_false]
    refine ⟨k, l, b, c, L, As, Bs, rfl, ak.pl, ak.hb, ak.hc, by omega, ak.hq, by omega, by omega, fun fb H0' s0 hfb => ?_⟩
    have st0 := st.ext (Gw.of st.tb s0)
    try simp only [tSeq, tAsg, gName, tOp, rI, rI0, rU, tUn, tVar, tC, tCB, tCons, tNil, tTest, tIfS, tRet, tRetN, tDrop, tNext, tBreak, tCont, rEq, rNe, CDiv, CDivN, CMul, tBM, tBM0, tTup, tLst, tAug, tIf, tAnd, tOr, tNot, tAndV, tOrV, tNotV, tIsN, tNotN, tB, scal, tCall, cxK, cxKn, rIxT, rIxL, rIn, rAppend, rReverse, tVals, tDSetd, tDGet, tDGet1, tDGet2, tDIn, tDNotIn, rSortV, rSortT, rPop, rSortL, rSortT, tSl, tNoPart, tPart, List.append_nil, L2.start, List.map_cons, List.map_nil, List.length_cons, List.length_nil, List.replicate_succ, List.replicate_zero, List.cons_append, List.nil_append, Nat.reduceAdd, Nat.reduceSub, exists_eq, exists_eq', List.getElem?_cons_zero, List.getElem?_cons_succ, List.set_cons_zero, List.set_cons_succ, Option.some.injEq, V.int.injEq, V.bl.injEq, V.str.injEq, V.ref.injEq, List.cons.injEq, and_true, true_and, and_false, false_and, reduceCtorEq, exists_false, or_false, false_or, exists_and_left, exists_and_right, exists_eq_left, exists_eq_left', exists_eq_right, exists_eq_right', exists_const, ite_true, ite_false, Bool.false_eq_true, if_true, if_false, decide_true, decide_false]
    refine ⟨_, rfl, wl, rfl, ⟨_, ll st0.hw.at_⟩, fun D hD => lc_list (K := K) (xs := WL.map fun q => V.ref q.1) (fun i H' => Same H0' H' ∧ ∃ N : PL, H' D = some (.lst (N.map fun q => V.ref q.1)) ∧ N.length = i ∧ wds N = ((wds WL).take i).map (plainI k) ∧ ∀ q ∈ N, SqT K H' q.1 (q.2.map V.int))
      ⟨same_upd hD, [], upd_same, rfl, rfl, fun q hq => (by cases hq)⟩ (fun i H' _ h => ll (h.1 _ _ st0.hw.at_)) ?_ ?_⟩
    · rintro i x H1 hx ⟨s1, N, hd, lN, eN, sN⟩
      obtain ⟨qw, hqw, rfl⟩ := wds_at hx
      have hil := (List.getElem?_eq_some_iff.mp hqw).1
      refine ⟨rfl, ?_⟩
      simp only [tSeq, tAsg, gName, tOp, rI, rI0, rU, tUn, tVar, tC, tCB, tCons, tNil, tTest, tIfS, tRet, tRetN, tDrop, tNext, tBreak, tCont, rEq, rNe, CDiv, CDivN, CMul, tBM, tBM0, tTup, tLst, tAug, tIf, tAnd, tOr, tNot, tAndV, tOrV, tNotV, tIsN, tNotN, tB, scal, tCall, cxK, cxKn, rIxT, rIxL, rIn, rAppend, rReverse, tVals, tDSetd, tDGet, tDGet1, tDGet2, tDIn, tDNotIn, rSortV, rSortT, rPop, rSortL, rSortT, tSl, tNoPart, tPart, List.append_nil, L2.start, List.map_cons, List.map_nil, List.length_cons, List.length_nil, List.replicate_succ, List.replicate_zero, List.cons_append, List.nil_append, Nat.reduceAdd, Nat.reduceSub, exists_eq, exists_eq', wipe, tYes, List.getElem?_cons_zero, List.getElem?_cons_succ, List.set_cons_zero, List.set_cons_succ, Option.some.injEq, V.int.injEq, V.bl.injEq, V.str.injEq, V.ref.injEq, List.cons.injEq, and_true, true_and, and_false, false_and, reduceCtorEq, exists_false, or_false, false_or, exists_and_left, exists_and_right, exists_eq_left, exists_eq_left', exists_eq_right, exists_eq_right', exists_const, ite_true, ite_false, Bool.false_eq_true, if_true, if_false, decide_true, decide_false]
      refine ⟨k, qw.1, qw.2, rfl, tt (s1 _ _ (st0.hw.all qw (List.mem_of_getElem? hqw))), by have := w60 qw (List.mem_of_getElem? hqw); omega, fun H2 t s2 h2 => ?_⟩
      have hd2 := s2 _ _ hd
      have xD : Sx D H2 (upd H2 D (.lst (N.map (fun q => V.ref q.1) ++ [.ref t]))) := Sx.upd
      refine ⟨_, hd2, by rw [List.length_map, lN]; exact small4000 (by omega), fun b o e => ?_, N ++ [(t, plainI k qw.2)], ?_, ?_, ?_, fun q hq => ?_⟩
      · rw [upd_ne (ne_of_none e hD)]
        exact s2 _ _ (s1 _ _ e)
      · rw [upd_same, List.map_append]
        rfl
      · rw [List.length_append, lN]
        rfl
      · rw [wds_app, eN, List.take_add_one, wds_get hqw, List.map_append]
        rfl
      · rcases List.mem_append.mp hq with hq | hq
        · exact sqt_wr hd2 xD (Same.tup s2 (sN q hq))
        · rw [List.mem_singleton.mp hq]
          exact sqt_wr hd2 xD h2
    · rintro H1 ⟨s1, N, hd, lN, eN, sN⟩
      rw [List.length_map] at lN eN
      rw [List.take_of_length_le (by rw [wds_len]; exact Nat.le_refl _)] at eN
      have s01 := s0.trans s1
      have fin : ∀ H2 : Hp, Same H1 H2 → tr { nx := fun _ H' => Q .non H', rt := Q } [some (.int form), some (.str k.nm), some (.ref l), some (.ref b), some (.ref c), some (.ref wl), some (.ref ro), some (.bl fb), some (.ref D), none, none, none] H2 := fun H2 s2 =>
        hR Q k l b c wl ro L WL RL As Bs form fb _ H2 (st0.ext (Gw.of st0.tb (s1.trans s2))) fc hfb fun H' g => q H' ((Gw.of st.tb (s01.trans s2)).trans g)
      try simp only [tSeq, tAsg, gName, tOp, rI, rI0, rU, tUn, tVar, tC, tCB, tCons, tNil, tTest, tIfS, tRet, tRetN, tDrop, tNext, tBreak, tCont, rEq, rNe, CDiv, CDivN, CMul, tBM, tBM0, tTup, tLst, tAug, tIf, tAnd, tOr, tNot, tAndV, tOrV, tNotV, tIsN, tNotN, tB, scal, tCall, cxK, cxKn, rIxT, rIxL, rIn, rAppend, rReverse, tVals, tDSetd, tDGet, tDGet1, tDGet2, tDIn, tDNotIn, rSortV, rSortT, rPop, rSortL, rSortT, tSl, tNoPart, tPart, List.append_nil, L2.start, List.map_cons, List.map_nil, List.length_cons, List.length_nil, List.replicate_succ, List.replicate_zero, List.cons_append, List.nil_append, Nat.reduceAdd, Nat.reduceSub, exists_eq, exists_eq', List.getElem?_cons_zero, List.getElem?_cons_succ, List.set_cons_zero, List.set_cons_succ, Option.some.injEq, V.int.injEq, V.bl.injEq, V.str.injEq, V.ref.injEq, List.cons.injEq, and_true, true_and, and_false, false_and, reduceCtorEq, exists_false, or_false, false_or, exists_and_left, exists_and_right, exists_eq_left, exists_eq_left', exists_eq_right, exists_eq_right', exists_const, ite_true, ite_false, Bool.false_eq_true, if_true, if_false, decide_true, decide_false]
      refine ⟨_, .inl (ll hd), ite2 (fun e => ?_) (fun e => fin H1 (Same.refl H1))⟩
      have l0 : 0 < N.length := by
        have := of_decide_eq_true e
        rw [List.length_map] at this
        omega
      obtain ⟨a0, N', rfl⟩ : ∃ a0 N', N = a0 :: N' := by
        cases N with
        | nil => cases l0
        | cons a0 N' => exact ⟨a0, N', rfl⟩
      obtain ⟨w0, WL', rfl⟩ : ∃ w0 WL', WL = w0 :: WL' := by
        cases WL with
        | nil => cases lN
        | cons w0 WL' => exact ⟨w0, WL', rfl⟩
      have ws : wds (w0 :: WL') = (rowsT L.length L.length).map fun r => wrd As Bs (ofRow L r) := by
        rcases fc.ws with e | ⟨_, e⟩
        · cases e
        · exact e
      have ea : a0.2 = plainI k w0.2 := (List.cons.inj eN).1
      have hfree := orders_free (k := k) (fun q hq => (ak.hq q hq).1) ws (W0 := w0.2) List.mem_cons_self
      refine ⟨_, rfl, D, rfl, ⟨_, ll hd⟩, fun D2 hD2 => lc_list (K := K) (xs := (a0 :: N').map fun q => V.ref q.1) (fun i H' => Same H1 H' ∧ H' D2 = some (.lst ((((wds (a0 :: N')).take i).map fun z => decide (z = a0.2)).map V.bl))) ⟨same_upd hD2, upd_same⟩ (fun i H' _ h => ll (h.1 _ _ hd)) ?_ ?_⟩
      · rintro i x H2 hx ⟨s2, hd2⟩
        obtain ⟨qw, hqw, rfl⟩ := wds_at hx
        have hil := (List.getElem?_eq_some_iff.mp hqw).1
        refine ⟨rfl, ?_⟩
        simp only [tSeq, tAsg, gName, tOp, rI, rI0, rU, tUn, tVar, tC, tCB, tCons, tNil, tTest, tIfS, tRet, tRetN, tDrop, tNext, tBreak, tCont, rEq, rNe, CDiv, CDivN, CMul, tBM, tBM0, tTup, tLst, tAug, tIf, tAnd, tOr, tNot, tAndV, tOrV, tNotV, tIsN, tNotN, tB, scal, tCall, cxK, cxKn, rIxT, rIxL, rIn, rAppend, rReverse, tVals, tDSetd, tDGet, tDGet1, tDGet2, tDIn, tDNotIn, rSortV, rSortT, rPop, rSortL, rSortT, tSl, tNoPart, tPart, List.append_nil, L2.start, List.map_cons, List.map_nil, List.length_cons, List.length_nil, List.replicate_succ, List.replicate_zero, List.cons_append, List.nil_append, Nat.reduceAdd, Nat.reduceSub, exists_eq, exists_eq', wipe, tYes, List.getElem?_cons_zero, List.getElem?_cons_succ, List.set_cons_zero, List.set_cons_succ, Option.some.injEq, V.int.injEq, V.bl.injEq, V.str.injEq, V.ref.injEq, List.cons.injEq, and_true, true_and, and_false, false_and, reduceCtorEq, exists_false, or_false, false_or, exists_and_left, exists_and_right, exists_eq_left, exists_eq_left', exists_eq_right, exists_eq_right', exists_const, ite_true, ite_false, Bool.false_eq_true, if_true, if_false, decide_true, decide_false]
        refine ⟨_, ll (s2 _ _ hd), _, atI_nat (j := 0) rfl, eq_tups (Same.tup s2 (sN qw (List.mem_of_getElem? hqw))) (Same.tup s2 (sN a0 List.mem_cons_self)) ⟨_, hd2, ?_, fun b o e => ?_, ?_⟩⟩
        · rw [List.length_map, List.length_map, List.length_take, wds_len]
          exact small4000 (by omega)
        · rw [upd_ne (ne_of_none e hD2)]
          exact s2 _ _ e
        · rw [upd_same, List.take_add_one, wds_get hqw, List.map_append, List.map_append]
          rfl
      · rintro H2 ⟨s2, hd2⟩
        rw [List.take_of_length_le (by rw [List.length_map, wds_len]; exact Nat.le_refl _)] at hd2
        refine ⟨D2, _, rfl, ll hd2, ?_⟩
        have hab : (((wds (a0 :: N')).map fun z => decide (z = a0.2)).all id) = fb := by
          rw [Bool.eq_iff_iff, ← hfb, hfree, List.all_eq_true]
          rw [eN, ea]
          simp only [List.mem_map, id]
          constructor
          · intro h W hW
            have := h (decide (plainI k W = plainI k w0.2)) ⟨_, ⟨W, hW, rfl⟩, rfl⟩
            exact of_decide_eq_true this
          · rintro h x ⟨y, ⟨W, hW, rfl⟩, rfl⟩
            exact decide_eq_true (h W hW)
        rw [hab]
        exact ⟨rfl, if_F (by simp) (fin H2 s2)⟩
end
end Mv

set_option Elab.async false
set_option linter.all false
set_option maxRecDepth 100000
set_option maxHeartbeats 4000000
namespace Mv
open PySem PySem.Spec PyProof.Rows L2
abbrev sLaw : Stmt := topS 45
theorem tabs_wr {T : List (Addr × Str)} {H H' : Hp} {a : Addr} {ys : List V} (t : LamX.Tabs T H) (ha : H a = some (.lst ys)) (x : Sx a H H') : LamX.Tabs T H' := fun p hp => by
  obtain ⟨ps, h1, h2, h3⟩ := t p hp
  have ne : ∀ {b : Addr} {o : HO}, H b = some o → (∀ l, o ≠ .lst l) → b ≠ a := fun {b o} e n z => by
    rw [z, ha] at e
    exact n _ (Option.some.inj e).symm
  refine ⟨ps, x _ _ (ne h1 fun l z => by cases z) h1, h2, fun pos cv hc => ?_⟩
  obtain ⟨c, e1, e2⟩ := h3 pos cv hc
  exact ⟨c, e1, x _ _ (ne e2 fun l z => by unfold LamX.CodeO at z; cases z) e2⟩
theorem tup_wr {H H' : Hp} {a b : Addr} {ys zs : List V} (ha : H a = some (.lst ys)) (x : Sx a H H') (h : H b = some (.tup zs)) : H' b = some (.tup zs) := x _ _ (fun z => by
  rw [z, ha] at h
  cases h) h
theorem Pcs.wr {H H' : Hp} {a m : Addr} {ys : List V} {L : List (Addr × List Int)} (p : Pcs H m L) (ha : H a = some (.lst ys)) (n : m ≠ a) (x : Sx a H H') : Pcs H' m L := ⟨x _ _ n p.at_, fun q hq => tup_wr ha x (p.all q hq)⟩
theorem Strm.wr {H H' : Hp} {a l : Addr} (h : Strm H a) (n : a ≠ l) (x : Sx l H H') : Strm H' a := by
  obtain ⟨ns, h1, h2⟩ := h
  exact ⟨ns, x _ _ n h1, h2⟩
theorem Strm.ext {H H' : Hp} {a : Addr} (h : Strm H a) (e : LamX.ExtN H H') : Strm H' a := by
  obtain ⟨ns, h1, h2⟩ := h
  exact ⟨ns, e _ _ h1 (fun ps z => by cases z), h2⟩
theorem Pcs.ne_strm {H : Hp} {o p : Addr} {N : List (Addr × List Int)} (h : Pcs H o N) (n : N ≠ []) (t : Strm H p) : o ≠ p := fun z => by
  obtain ⟨ns, e, _⟩ := t
  rw [← z, h.at_] at e
  cases N with
  | nil => exact n rfl
  | cons q N =>
    cases ns with
    | nil => cases e
    | cons m ns => cases e
def badTexts : List Str := ["", "Bag", "heads ", "tail", "first last"]
theorem bad_texts : ∀ z ∈ badTexts, (∀ k : Kd, ¬ z = k.nm) ∧ z.length ≤ 100 ∧ ∀ c ∈ z.cps.toList, c < 0x110000 := by
  intro z hz
  have h : badTexts.all (fun z => kds.all (fun k => !decide (z = k.nm)) && decide (z.length ≤ 100) && z.cps.toList.all fun c => decide (c < 0x110000)) = true := by decide +kernel
  have h1 := List.all_eq_true.mp h z hz
  rw [Bool.and_eq_true, Bool.and_eq_true] at h1
  refine ⟨fun k e => ?_, of_decide_eq_true h1.1.2, fun c hc => of_decide_eq_true (List.all_eq_true.mp h1.2 c hc)⟩
  have h2 := List.all_eq_true.mp h1.1.1 k (by cases k <;> decide)
  rw [e] at h2
  simp at h2
theorem bad_pick (H : Hp) {n : Nat} (hn : n < 7) : ∃ v, (badTexts.map V.str ++ [.non, .int 8])[n]? = some v ∧ BadV H v := by
  by_cases h5 : n < 5
  · have hb : n < badTexts.length := h5
    refine ⟨.str badTexts[n], ?_, ?_⟩
    · rw [List.getElem?_append_left (by rw [List.length_map]; exact hb), List.getElem?_map, List.getElem?_eq_getElem hb]
      rfl
    · obtain ⟨k1, k2, k3⟩ := bad_texts _ (List.getElem_mem hb)
      exact .str _ k1 k2 k3
  · rw [List.getElem?_append_right (by rw [List.length_map]; exact Nat.not_lt.mp h5), List.length_map]
    obtain rfl | rfl : n = 5 ∨ n = 6 := by omega
    · exact ⟨.non, rfl, .non⟩
    · exact ⟨.int 8, rfl, .int 8 (by decide)⟩
structure G9 (T : List (Addr × Str)) (H : Hp) (p l b c : Addr) (L : PL) (As Bs : List Int) (form : Int) (n : Nat) : Prop where
  st : Strm H p
  nl : l ≠ p
  ak : Ask9 H l b c L As Bs form
  tb : LamX.Tabs T H
  lL : L.length = n
  n1 : 1 ≤ n
theorem G9.ext {T : List (Addr × Str)} {H H' : Hp} {p l b c : Addr} {L : PL} {As Bs : List Int} {form : Int} {n : Nat} (a : G9 T H p l b c L As Bs form n) (g : Gw T H H') : G9 T H' p l b c L As Bs form n := ⟨a.st.ext g.1, a.nl, a.ak.ext g.1, g.2, a.lL, a.n1⟩
theorem G9.same {T : List (Addr × Str)} {H H' : Hp} {p l b c : Addr} {L : PL} {As Bs : List Int} {form : Int} {n : Nat} (a : G9 T H p l b c L As Bs form n) (s : Same H H') : G9 T H' p l b c L As Bs form n := a.ext (Gw.of a.tb s)
theorem G9.wr {T : List (Addr × Str)} {H H' : Hp} {p l b c o : Addr} {L : PL} {As Bs : List Int} {form : Int} {n : Nat} {ys : List V} (a : G9 T H p l b c L As Bs form n) (ho : H o = some (.lst ys)) (np : p ≠ o) (nl : l ≠ o) (x : Sx o H H') : G9 T H' p l b c L As Bs form n :=
  ⟨a.st.wr np x, a.nl, ⟨a.ak.pl.wr ho nl x, tup_wr ho x a.ak.hb, tup_wr ho x a.ak.hc, a.ak.f1, a.ak.f2, a.ak.hL, a.ak.hq, a.ak.hA, a.ak.hB⟩, tabs_wr a.tb ho x, a.lL, a.n1⟩
theorem G9.sx {T : List (Addr × Str)} {H H' : Hp} {p l b c : Addr} {L : PL} {As Bs : List Int} {form : Int} {n : Nat} (a : G9 T H p l b c L As Bs form n) (x : Sx p H H') (t : Strm H' p) : G9 T H' p l b c L As Bs form n := by
  obtain ⟨ns, ha, _⟩ := a.st
  exact ⟨t, a.nl, ⟨a.ak.pl.wr ha a.nl x, tup_wr ha x a.ak.hb, tup_wr ha x a.ak.hc, a.ak.f1, a.ak.f2, a.ak.hL, a.ak.hq, a.ak.hA, a.ak.hB⟩, tabs_wr a.tb ha x, a.lL, a.n1⟩
theorem Pcs.ne_strm' {H : Hp} {o p : Addr} {N : PL} (h : Pcs H o N) (n : N ≠ []) (t : Strm H p) : o ≠ p := h.ne_strm n t
section
variable {P : Program} {w : World} {K : PySem.W.Frag} {mg : Str → Option Value} {base : Heap} {T : List (Addr × Str)} {CB : Addr}
theorem scLaw : FnScope ["_law_script", "_law_stream_here", "_law_style", "_law_many", "_law_parcels", "_law_ahead", "_law_behind", "_law_form", "_law_kinds", "_law_words", "_law_row", "_law_k", "_law_gone", "_law_rows", "_law_kind"] ["_law_script"] (defScope sLaw) := ⟨rfl, rfl, rfl, by decide +kernel, rfl, by decide +kernel, by decide +kernel⟩
abbrev lawN : List Str := ["_law_script", "_law_stream_here", "_law_style", "_law_many", "_law_parcels", "_law_ahead", "_law_behind", "_law_form", "_law_kinds", "_law_words", "_law_row", "_law_k", "_law_gone", "_law_rows", "_law_kind"]
def KvOk (kv : List V) : Prop := ∀ x ∈ kv, ∃ k : Kd, x = .str k.nm
theorem law_e {f : Addr} {cdv : Value} {A : Around} {outer : List Env} {s : Shared} {H0 : Hp} {E : XK} (B : Bi mg) (hr : Room 7 (A.deeper (envOfC "law" (defScope sLaw) s.heap.objs.size f cdv))) (cDraw : CalX CX0 P w K mg base 1 "_law_draw" spDraw)
    (cGood : CalX CX0 P w K mg base 7 "_law_good" (spGood T)) (cRef : CalX CX0 P w K mg base 5 "_law_refused" spRef) :
    ∃ t, PSs (cxOf CX0 P w K mg base lawN "law" (defScope sLaw) f cdv A outer s H0 E).nox ((defBody sLaw).drop 15) t ∧ ∀ (Q : VK) (y0 y2 y3 y10 y11 y12 : Option V) (p l b c kn wl ro : Addr) (L WL : PL) (RL : List (Addr × PL)) (As Bs : List Int) (form : Int) (n : Nat) (kv : List V) (H : Hp), G9 T H p l b c L As Bs form n → Pcs H wl WL → Rls H ro RL → Fc9 L WL RL As Bs → H kn = some (.tup kv) → KvOk kv → (∀ H' : Hp, Q (.bl true) H') →
      t { nx := fun _ H' => Q .non H', rt := Q } [y0, some (.ref p), y2, y3, some (.ref l), some (.ref b), some (.ref c), some (.int form), some (.ref kn), some (.ref wl), y10, y11, y12, some (.ref ro), none] H := by
  refine ⟨_, (pss_cons (ps_for PassesOwn.never rfl (pi_tup (pv 8)) (pg_name (i := 14) scLaw.nd rfl (.inl rfl))
 (pss_one (ps_if (pt_not (pt_val (pe_cx cGood hr (by decide) pass0 (by rfl) (pa_cons (pv 7) (pa_cons (pv 14) (pa_cons (pv 4) (pa_cons (pv 5) (pa_cons (pv 6) (pa_cons (pv 9) (pa_cons (pv 13) pa_nil))))))))))
 (pss_one (ps_ret pe_bl)) pss_nil)))
 (pss_one (ps_ret (pe_cx cRef hr (by decide) pass0 (by rfl) (pa_cons (pe_ix ix_list (pe_lst (pa_cons pe_str (pa_cons pe_str (pa_cons pe_str (pa_cons pe_str (pa_cons pe_str (pa_cons pe_non (pa_cons pe_int pa_nil)))))))) (pe_cx cDraw hr (by decide) pass0 (by rfl) (pa_cons (pv 1) (pa_cons pe_int pa_nil))) (fun _ _ => rfl)) (pa_cons (pv 4) pa_nil)))))), ?_⟩
  rintro Q y0 y2 y3 y10 y11 y12 p l b c kn wl ro L WL RL As Bs form n kv H gt hw hro fc hk hkv q
  have aL := gt.ak.hL
  have az := gt.ak.hz
  try simp only [tSeq, tAsg, gName, tOp, rI, rI0, rU, tUn, tVar, tC, tCB, tCons, tNil, tTest, tIfS, tRet, tRetN, tDrop, tNext, tBreak, tCont, rEq, rNe, CDiv, CDivN, CMul, tBM, tBM0, tTup, tLst, tAug, tIf, tAnd, tOr, tNot, tAndV, tOrV, tNotV, tIsN, tNotN, tB, scal, tCall, cxK, cxKn, rIxT, rIxL, rIn, rAppend, rReverse, tVals, tDSetd, tDGet, tDGet1, tDGet2, tDIn, tDNotIn, rSortV, rSortT, rPop, rSortL, rSortT, tSl, tNoPart, tPart, List.append_nil, L2.start, List.map_cons, List.map_nil, List.length_cons, List.length_nil, List.replicate_succ, List.replicate_zero, List.cons_append, List.nil_append, Nat.reduceAdd, Nat.reduceSub, exists_eq, exists_eq', List.getElem?_cons_zero, List.getElem?_cons_succ, List.set_cons_zero, List.set_cons_succ, Option.some.injEq, V.int.injEq, V.bl.injEq, V.str.injEq, V.ref.injEq, List.cons.injEq, and_true, true_and, and_false, false_and, reduceCtorEq, exists_false, or_false, false_or, exists_and_left, exists_and_right, exists_eq_left, exists_eq_left', exists_eq_right, exists_eq_right', exists_const, ite_true, ite_false, Bool.false_eq_true, if_true, if_false, decide_true, decide_false]
  refine ⟨_, rfl, kn, rfl, ⟨_, tt hk⟩, for_tup (K := K) (xs := kv) (fun i σ H' => ∃ (y14 : Option V), σ = [y0, some (.ref p), y2, y3, some (.ref l), some (.ref b), some (.ref c), some (.int form), some (.ref kn), some (.ref wl), y10, y11, y12, some (.ref ro), y14] ∧ Gw T H H')
    ⟨none, rfl, Gw.refl gt.tb⟩ (fun i σ H' _ ⟨_, _, g⟩ => tt (g.1 _ _ hk (fun ps z => by cases z))) ?_ ?_⟩
  · rintro i x σ H' hx ⟨y14, rfl, g⟩
    obtain ⟨k, rfl⟩ := hkv x (List.mem_of_getElem? hx)
    try simp only [tSeq, tAsg, gName, tOp, rI, rI0, rU, tUn, tVar, tC, tCB, tCons, tNil, tTest, tIfS, tRet, tRetN, tDrop, tNext, tBreak, tCont, rEq, rNe, CDiv, CDivN, CMul, tBM, tBM0, tTup, tLst, tAug, tIf, tAnd, tOr, tNot, tAndV, tOrV, tNotV, tIsN, tNotN, tB, scal, tCall, cxK, cxKn, rIxT, rIxL, rIn, rAppend, rReverse, tVals, tDSetd, tDGet, tDGet1, tDGet2, tDIn, tDNotIn, rSortV, rSortT, rPop, rSortL, rSortT, tSl, tNoPart, tPart, List.append_nil, L2.start, List.map_cons, List.map_nil, List.length_cons, List.length_nil, List.replicate_succ, List.replicate_zero, List.cons_append, List.nil_append, Nat.reduceAdd, Nat.reduceSub, exists_eq, exists_eq', List.getElem?_cons_zero, List.getElem?_cons_succ, List.set_cons_zero, List.set_cons_succ, Option.some.injEq, V.int.injEq, V.bl.injEq, V.str.injEq, V.ref.injEq, List.cons.injEq, and_true, true_and, and_false, false_and, reduceCtorEq, exists_false, or_false, false_or, exists_and_left, exists_and_right, exists_eq_left, exists_eq_left', exists_eq_right, exists_eq_right', exists_const, ite_true, ite_false, Bool.false_eq_true, if_true, if_false, decide_true, decide_false]
    exact ⟨k, l, b, c, wl, ro, L, WL, RL, As, Bs, form, rfl, ⟨gt.ak.ext g.1, hw.ext g.1, hro.ext g.1, g.2⟩, fc, fun H2 g2 => ⟨true, rfl, if_F rfl (g.trans g2)⟩⟩
  · rintro σ H' ⟨y14, rfl, g⟩
    try simp only [tSeq, tAsg, gName, tOp, rI, rI0, rU, tUn, tVar, tC, tCB, tCons, tNil, tTest, tIfS, tRet, tRetN, tDrop, tNext, tBreak, tCont, rEq, rNe, CDiv, CDivN, CMul, tBM, tBM0, tTup, tLst, tAug, tIf, tAnd, tOr, tNot, tAndV, tOrV, tNotV, tIsN, tNotN, tB, scal, tCall, cxK, cxKn, rIxT, rIxL, rIn, rAppend, rReverse, tVals, tDSetd, tDGet, tDGet1, tDGet2, tDIn, tDNotIn, rSortV, rSortT, rPop, rSortL, rSortT, tSl, tNoPart, tPart, List.append_nil, L2.start, List.map_cons, List.map_nil, List.length_cons, List.length_nil, List.replicate_succ, List.replicate_zero, List.cons_append, List.nil_append, Nat.reduceAdd, Nat.reduceSub, exists_eq, exists_eq', List.getElem?_cons_zero, List.getElem?_cons_succ, List.set_cons_zero, List.set_cons_succ, Option.some.injEq, V.int.injEq, V.bl.injEq, V.str.injEq, V.ref.injEq, List.cons.injEq, and_true, true_and, and_false, false_and, reduceCtorEq, exists_false, or_false, false_or, exists_and_left, exists_and_right, exists_eq_left, exists_eq_left', exists_eq_right, exists_eq_right', exists_const, ite_true, ite_false, Bool.false_eq_true, if_true, if_false, decide_true, decide_false]
    have g3 := gt.ext g
    refine ⟨by decide, fun lo hlo => ?_⟩
    have so := same_upd (o := .lst (badTexts.map V.str ++ [.non, .int 8])) hlo
    have g4 := g3.same so
    refine spDraw_of (by decide) g4.st fun r H5 r0 r7 x5 t5 => ?_
    have hlo5 := x5 _ _ (g3.st.ne hlo).symm upd_same
    have g5 := g4.sx x5 t5
    obtain ⟨m, rfl⟩ := Int.eq_ofNat_of_zero_le r0
    obtain ⟨v, hv, bv⟩ := bad_pick H5 (n := m) (by omega)
    exact ⟨_, _, rfl, ll hlo5, v, atI_nat hv, v, l, L, rfl, g5.ak.pl, by omega, fun q hq => (gt.ak.hq q hq).1, by omega, bv, fun H' _ => q H'⟩
theorem Rls.wr {H H' : Hp} {o a : Addr} {ys : List V} {RL : List (Addr × PL)} (h : Rls H o RL) (ha : H a = some (.lst ys)) (no : o ≠ a) (n : ∀ q ∈ RL, q.1 ≠ a) (x : Sx a H H') : Rls H' o RL := ⟨x _ _ no h.at_, fun q hq => (h.all q hq).wr ha (n q hq) x⟩
theorem Rls.snoc {H : Hp} {o r : Addr} {N : PL} {RL : List (Addr × PL)} (h : Rls H o RL) (hn : ∀ q ∈ RL, q.1 ≠ o) (hr : Pcs H r N) (nr : r ≠ o) : Rls (upd H o (.lst (RL.map (fun q => V.ref q.1) ++ [.ref r]))) o (RL ++ [(r, N)]) := by
  have x : Sx o H (upd H o (.lst (RL.map (fun q => V.ref q.1) ++ [.ref r]))) := Sx.upd
  refine ⟨by rw [upd_same, List.map_append]; rfl, fun q hq => ?_⟩
  rcases List.mem_append.mp hq with hq | hq
  · exact (h.all q hq).wr h.at_ (hn q hq) x
  · rw [List.mem_singleton.mp hq]
    exact hr.wr h.at_ nr x
theorem law_d {f : Addr} {cdv : Value} {A : Around} {outer : List Env} {s : Shared} {H0 : Hp} {E : XK} (B : Bi mg) (hr : Room 7 (A.deeper (envOfC "law" (defScope sLaw) s.heap.objs.size f cdv))) (cDraw : CalX CX0 P w K mg base 1 "_law_draw" spDraw)
    (cGood : CalX CX0 P w K mg base 7 "_law_good" (spGood T)) (cRef : CalX CX0 P w K mg base 5 "_law_refused" spRef) :
    ∃ t, PSs (cxOf CX0 P w K mg base lawN "law" (defScope sLaw) f cdv A outer s H0 E).nox ((defBody sLaw).drop 12) t ∧ ∀ (Q : VK) (y0 y2 y10 y11 : Option V) (p l b c kn wl : Addr) (L WL : PL) (As Bs : List Int) (form : Int) (n : Nat) (kv : List V) (H : Hp), G9 T H p l b c L As Bs form n → Pcs H wl WL → wl ≠ p → (WL = [] ∨ (L.length ≤ 5 ∧ wds WL = (rowsT L.length L.length).map fun r => wrd As Bs (ofRow L r))) → H kn = some (.tup kv) → KvOk kv → (∀ H' : Hp, Q (.bl true) H') →
      t { nx := fun _ H' => Q .non H', rt := Q } [y0, some (.ref p), y2, some (.int (n : Int)), some (.ref l), some (.ref b), some (.ref c), some (.int form), some (.ref kn), some (.ref wl), y10, y11, none, none, none] H := by
  obtain ⟨tr, hrest, hR⟩ := law_e (s := s) (H0 := H0) (E := E) (outer := outer) (cdv := cdv) (f := f) (A := A) (K := K) (P := P) (w := w) (base := base) (T := T) B hr cDraw cGood cRef
  refine ⟨_, (pss_cons (ps_set (i := 12) scLaw.nd rfl (.inl rfl) (pe_cx cDraw hr (by decide) pass0 (by rfl) (pa_cons (pv 1) (pa_cons (pv 3) pa_nil))))
 (pss_cons (ps_set (i := 13) scLaw.nd rfl (.inl rfl) (pe_lst (pa_cons (pv 4) (pa_cons (pe_op op_cat (pe_slice sl_list (pv 4) (po_some pe_int) po_none) (pe_slice sl_list (pv 4) po_none (po_some pe_int))) pa_nil))))
 (pss_cons (ps_if (pt_cmpR op_gt (pv 3) pe_int (nomark _))
 (pss_one (ps_expr (pe_bm PySem.F.plainAttrs_list PySem.F.slot_list_append PySem.F.type_list_append mt_append (pv 13) (pa_cons (pe_op op_cat (pe_slice sl_list (pv 4) po_none (po_some (pv 12))) (pe_slice sl_list (pv 4) (po_some (pe_op op_add (pv 12) pe_int)) po_none)) pa_nil)))) pss_nil)
 hrest))), ?_⟩
  rintro Q y0 y2 y10 y11 p l b c kn wl L WL As Bs form n kv H gt hw nw ws hk hkv q
  have aL := gt.ak.hL
  have lL := gt.lL
  have n1 := gt.n1
  try simp only [tSeq, tAsg, gName, tOp, rI, rI0, rU, tUn, tVar, tC, tCB, tCons, tNil, tTest, tIfS, tRet, tRetN, tDrop, tNext, tBreak, tCont, rEq, rNe, CDiv, CDivN, CMul, tBM, tBM0, tTup, tLst, tAug, tIf, tAnd, tOr, tNot, tAndV, tOrV, tNotV, tIsN, tNotN, tB, scal, tCall, cxK, cxKn, rIxT, rIxL, rIn, rAppend, rReverse, tVals, tDSetd, tDGet, tDGet1, tDGet2, tDIn, tDNotIn, rSortV, rSortT, rPop, rSortL, rSortT, tSl, tNoPart, tPart, List.append_nil, L2.start, List.map_cons, List.map_nil, List.length_cons, List.length_nil, List.replicate_succ, List.replicate_zero, List.cons_append, List.nil_append, Nat.reduceAdd, Nat.reduceSub, exists_eq, exists_eq', List.getElem?_cons_zero, List.getElem?_cons_succ, List.set_cons_zero, List.set_cons_succ, Option.some.injEq, V.int.injEq, V.bl.injEq, V.str.injEq, V.ref.injEq, List.cons.injEq, and_true, true_and, and_false, false_and, reduceCtorEq, exists_false, or_false, false_or, exists_and_left, exists_and_right, exists_eq_left, exists_eq_left', exists_eq_right, exists_eq_right', exists_const, ite_true, ite_false, Bool.false_eq_true, if_true, if_false, decide_true, decide_false]
  refine spDraw_of (by omega) gt.st fun g H1 g0 gn x1 t1 => ?_
  obtain ⟨ns, hp, _⟩ := id gt.st
  have g1 := gt.sx x1 t1
  have hw1 := hw.wr hp nw x1
  have hk1 := tup_wr hp x1 hk
  obtain ⟨gi, rfl⟩ := Int.eq_ofNat_of_zero_le g0
  try simp only [tSeq, tAsg, gName, tOp, rI, rI0, rU, tUn, tVar, tC, tCB, tCons, tNil, tTest, tIfS, tRet, tRetN, tDrop, tNext, tBreak, tCont, rEq, rNe, CDiv, CDivN, CMul, tBM, tBM0, tTup, tLst, tAug, tIf, tAnd, tOr, tNot, tAndV, tOrV, tNotV, tIsN, tNotN, tB, scal, tCall, cxK, cxKn, rIxT, rIxL, rIn, rAppend, rReverse, tVals, tDSetd, tDGet, tDGet1, tDGet2, tDIn, tDNotIn, rSortV, rSortT, rPop, rSortL, rSortT, tSl, tNoPart, tPart, List.append_nil, L2.start, List.map_cons, List.map_nil, List.length_cons, List.length_nil, List.replicate_succ, List.replicate_zero, List.cons_append, List.nil_append, Nat.reduceAdd, Nat.reduceSub, exists_eq, exists_eq', List.getElem?_cons_zero, List.getElem?_cons_succ, List.set_cons_zero, List.set_cons_succ, Option.some.injEq, V.int.injEq, V.bl.injEq, V.str.injEq, V.ref.injEq, List.cons.injEq, and_true, true_and, and_false, false_and, reduceCtorEq, exists_false, or_false, false_or, exists_and_left, exists_and_right, exists_eq_left, exists_eq_left', exists_eq_right, exists_eq_right', exists_const, ite_true, ite_false, Bool.false_eq_true, if_true, if_false, decide_true, decide_false]
  refine sl_drop (k := 1) rfl g1.ak.pl fun o1 H2 u1 p1 => ?_
  refine sl_take (k := 1) rfl (g1.ak.pl.same u1) fun o2 H3 u2 p2 => ?_
  have z1 := drop_len L 1
  have z2 := take_len L 1
  refine cat_new (p1.same u2) p2 (by omega) fun o3 H4 _ u3 p3 => ⟨by decide, fun ro hro => ?_⟩
  have u13 := (u1.trans u2).trans u3
  have g4 := g1.same u13
  have u4 := same_upd (o := .lst [.ref l, .ref o3]) hro
  have nl : l ≠ ro := ne_of_none g4.ak.pl.at_ hro
  have n3 : o3 ≠ ro := ne_of_none p3.at_ hro
  have np : p ≠ ro := fun z => by
    obtain ⟨ns, e, _⟩ := g4.st
    rw [z, hro] at e
    cases e
  have hw4 := hw1.same u13
  have nwl : wl ≠ ro := ne_of_none hw4.at_ hro
  have rl : Rls (upd H4 ro (.lst [.ref l, .ref o3])) ro [(l, L), (o3, L.drop 1 ++ L.take 1)] := ⟨upd_same, fun q hq => by
    rcases List.mem_cons.mp hq with rfl | hq
    · exact g4.ak.pl.same u4
    · rw [List.mem_singleton.mp hq]
      exact p3.same u4⟩
  have g5 := g4.same u4
  have hw5 := hw4.same u4
  have hk5 := u4 _ _ (u13 _ _ hk1)
  generalize upd H4 ro (.lst [.ref l, .ref o3]) = H5 at rl g5 hw5 hk5
  have fl0 : ∀ q ∈ ([(l, L), (o3, L.drop 1 ++ L.take 1)] : List (Addr × PL)), q.2.length ≤ 12 ∧ ∀ r ∈ q.2, 1 ≤ r.2.length ∧ r.2.length ≤ 4 := fun q hq => by
    rcases List.mem_cons.mp hq with rfl | hq
    · exact ⟨aL, gt.ak.hq⟩
    · rw [List.mem_singleton.mp hq]
      refine ⟨?_, fun r hr => ?_⟩
      · show (L.drop 1 ++ L.take 1).length ≤ 12
        rw [List.length_append, List.length_drop, List.length_take]
        omega
      · rcases List.mem_append.mp hr with hr | hr
        · exact gt.ak.hq r (List.mem_of_mem_drop hr)
        · exact gt.ak.hq r (List.mem_of_mem_take hr)
  have nro : ∀ q ∈ ([(l, L), (o3, L.drop 1 ++ L.take 1)] : List (Addr × PL)), q.1 ≠ ro := fun q hq => by
    rcases List.mem_cons.mp hq with rfl | hq
    · exact nl
    · rw [List.mem_singleton.mp hq]
      exact n3
  clear u1 u2 u3 u13 u4 p1 p2 p3 g4 hw4 g1 hw1 hk1 hro hp
  try simp only [tSeq, tAsg, gName, tOp, rI, rI0, rU, tUn, tVar, tC, tCB, tCons, tNil, tTest, tIfS, tRet, tRetN, tDrop, tNext, tBreak, tCont, rEq, rNe, CDiv, CDivN, CMul, tBM, tBM0, tTup, tLst, tAug, tIf, tAnd, tOr, tNot, tAndV, tOrV, tNotV, tIsN, tNotN, tB, scal, tCall, cxK, cxKn, rIxT, rIxL, rIn, rAppend, rReverse, tVals, tDSetd, tDGet, tDGet1, tDGet2, tDIn, tDNotIn, rSortV, rSortT, rPop, rSortL, rSortT, tSl, tNoPart, tPart, List.append_nil, L2.start, List.map_cons, List.map_nil, List.length_cons, List.length_nil, List.replicate_succ, List.replicate_zero, List.cons_append, List.nil_append, Nat.reduceAdd, Nat.reduceSub, exists_eq, exists_eq', List.getElem?_cons_zero, List.getElem?_cons_succ, List.set_cons_zero, List.set_cons_succ, Option.some.injEq, V.int.injEq, V.bl.injEq, V.str.injEq, V.ref.injEq, List.cons.injEq, and_true, true_and, and_false, false_and, reduceCtorEq, exists_false, or_false, false_or, exists_and_left, exists_and_right, exists_eq_left, exists_eq_left', exists_eq_right, exists_eq_right', exists_const, ite_true, ite_false, Bool.false_eq_true, if_true, if_false, decide_true, decide_false]
  refine ite2 (fun e => ?_) (fun e => hR Q _ _ _ _ _ _ p l b c kn wl ro L WL _ As Bs form n kv H5 g5 hw5 rl ⟨ws, fl0, by simp⟩ hk5 hkv q)
  refine ⟨.inl ⟨rfl, _, SqL.of rl.at_⟩, ?_⟩
  refine sl_take (k := gi) rfl g5.ak.pl fun o4 H6 u1 p1 => ?_
  refine sl_drop (k := gi + 1) rfl (g5.ak.pl.same u1) fun o5 H7 u2 p2 => ?_
  have z3 := take_len L gi
  have z4 := drop_len L (gi + 1)
  refine cat_new (p1.same u2) p2 (by omega) fun o6 H8 f6 u3 p3 => ?_
  have u13 := (u1.trans u2).trans u3
  have rl8 := (⟨u13 _ _ rl.at_, fun q hq => (rl.all q hq).same u13⟩ : Rls H8 ro _)
  have n6 : o6 ≠ ro := fun z => by
    have := (u1.trans u2) _ _ rl.at_
    rw [← z, f6] at this
    cases this
  refine ⟨_, rl8.at_, by rw [List.length_map]; exact small1000 (by simp), ?_⟩
  have rl9 := rl8.snoc nro p3 n6
  have xx : Sx ro H8 (upd H8 ro (.lst (([(l, L), (o3, L.drop 1 ++ L.take 1)] : List (Addr × PL)).map (fun q => V.ref q.1) ++ [.ref o6]))) := Sx.upd
  have g9 := (g5.same u13).wr rl8.at_ np nl xx
  have hw9 := (hw5.same u13).wr rl8.at_ nwl xx
  have hk9 := tup_wr rl8.at_ xx (u13 _ _ hk5)
  refine hR Q _ _ _ _ _ _ p l b c kn wl ro L WL _ As Bs form n kv _ g9 hw9 rl9 ⟨ws, fun q hq => ?_, by simp⟩ hk9 hkv q
  rcases List.mem_append.mp hq with hq | hq
  · exact fl0 q hq
  · rw [List.mem_singleton.mp hq]
    refine ⟨?_, fun r hr => ?_⟩
    · show (L.take gi ++ L.drop (gi + 1)).length ≤ 12
      rw [List.length_append, List.length_drop, List.length_take]
      omega
    · rcases List.mem_append.mp hr with hr | hr
      · exact gt.ak.hq r (List.mem_of_mem_take hr)
      · exact gt.ak.hq r (List.mem_of_mem_drop hr)
theorem law_c {f : Addr} {cdv : Value} {A : Around} {outer : List Env} {s : Shared} {H0 : Hp} {E : XK} (B : Bi mg) (hr : Room 7 (A.deeper (envOfC "law" (defScope sLaw) s.heap.objs.size f cdv))) (cDraw : CalX CX0 P w K mg base 1 "_law_draw" spDraw) (cJoined : CalX CX0 P w K mg base 1 "_law_joined" spJoined) (cOrd : CalX CX0 P w K mg base 1 "_law_orders" spOrd)
    (cGood : CalX CX0 P w K mg base 7 "_law_good" (spGood T)) (cRef : CalX CX0 P w K mg base 5 "_law_refused" spRef) :
    ∃ t, PSs (cxOf CX0 P w K mg base lawN "law" (defScope sLaw) f cdv A outer s H0 E).nox ((defBody sLaw).drop 9) t ∧ ∀ (Q : VK) (y0 y2 : Option V) (p l b c : Addr) (L : PL) (As Bs : List Int) (form : Int) (n : Nat) (H : Hp), G9 T H p l b c L As Bs form n → (∀ H' : Hp, Q (.bl true) H') →
      t { nx := fun _ H' => Q .non H', rt := Q } [y0, some (.ref p), y2, some (.int (n : Int)), some (.ref l), some (.ref b), some (.ref c), some (.int form), none, none, none, none, none, none, none] H := by
  obtain ⟨tr, hrest, hR⟩ := law_d (s := s) (H0 := H0) (E := E) (outer := outer) (cdv := cdv) (f := f) (A := A) (K := K) (P := P) (w := w) (base := base) (T := T) B hr cDraw cGood cRef
  refine ⟨_, (pss_cons (ps_set (i := 8) scLaw.nd rfl (.inl rfl) (pe_tup (pa_cons pe_str (pa_cons pe_str (pa_cons pe_str (pa_cons pe_str (pa_cons pe_str (pa_cons pe_str (pa_cons pe_str (pa_cons pe_str pa_nil))))))))))
 (pss_cons (ps_set (i := 9) scLaw.nd rfl (.inl rfl) (pe_lst pa_nil))
 (pss_cons (ps_if (pt_cmpR op_gt (pv 3) pe_int (nomark _))
 (pss_one (ps_set (i := 8) scLaw.nd rfl (.inl rfl) (pe_tup (pa_cons (pe_ix ix_tup (pv 8) (pe_cx cDraw hr (by decide) pass0 (by rfl) (pa_cons (pv 1) (pa_cons pe_int pa_nil))) (fun _ _ => rfl)) pa_nil)))) (pss_one (ps_setLc (i := 9) (own := [("_law_row", 10)]) (g := gName 10) (tt := tYes) (te := (tOp (rCatA K) (tOp (rCatA K) (tVar 5) (tCall spJoined [] E0 (tCons (tLc (iList K (tVar 10)) (gName 11) tYes (tOp (rIxL K) (tVar 4) (tVar 11)) [11]) tNil))) (tVar 6))) rfl scLaw.nd rfl rfl (sw_true rfl rfl rfl (by decide +kernel)) (pi_list (pe_cx cOrd hr (by decide) pass0 (by rfl) (pa_cons (pv 3) pa_nil))) (blkOk_by (N := ["_law_script", "_law_stream_here", "_law_style", "_law_many", "_law_parcels", "_law_ahead", "_law_behind", "_law_form", "_law_kinds", "_law_words", "_law_row", "_law_k", "_law_gone", "_law_rows", "_law_kind"]) (sc := defScope sLaw) (by decide +kernel)) (fun _ _ _ _ _ => (pg_name (i := 10) scLaw.nd rfl (.inl rfl))) (fun _ _ _ _ _ => pts_nil) (fun _ _ _ _ _ => (pe_op op_catA (pe_op op_catA (pv 5) (pe_cx cJoined hr (by decide) pass0 (by rfl) (pa_cons (pe_lc (own := [("_law_k", 11)]) (g := gName 11) (tt := tYes) (te := (tOp (rIxL K) (tVar 4) (tVar 11))) rfl scLaw.nd (pi_list (pv 10)) (blkOk_by (N := ["_law_script", "_law_stream_here", "_law_style", "_law_many", "_law_parcels", "_law_ahead", "_law_behind", "_law_form", "_law_kinds", "_law_words", "_law_row", "_law_k", "_law_gone", "_law_rows", "_law_kind"]) (sc := { kind := .function, names := [(".0", .local), ("_law_row", .local), ("_law_joined", .globalImplicit), ("_law_ahead", .cell), ("_law_behind", .cell), ("_law_parcels", .cell)], isGenerator := false, isCoroutine := false }) (by decide +kernel)) (fun _ _ _ _ _ => (pg_name (i := 11) scLaw.nd rfl (.inl rfl))) (fun _ _ _ _ _ => pts_nil) (fun _ _ _ _ _ => (pe_ix ix_list (pv 4) (pv 11) (fun _ _ => rfl)))) pa_nil))) (pv 6))))))
 hrest))), ?_⟩
  rintro Q y0 y2 p l b c L As Bs form n H gt q
  have aL := gt.ak.hL
  have lL := gt.lL
  try simp only [tSeq, tAsg, gName, tOp, rI, rI0, rU, tUn, tVar, tC, tCB, tCons, tNil, tTest, tIfS, tRet, tRetN, tDrop, tNext, tBreak, tCont, rEq, rNe, CDiv, CDivN, CMul, tBM, tBM0, tTup, tLst, tAug, tIf, tAnd, tOr, tNot, tAndV, tOrV, tNotV, tIsN, tNotN, tB, scal, tCall, cxK, cxKn, rIxT, rIxL, rIn, rAppend, rReverse, tVals, tDSetd, tDGet, tDGet1, tDGet2, tDIn, tDNotIn, rSortV, rSortT, rPop, rSortL, rSortT, tSl, tNoPart, tPart, List.append_nil, L2.start, List.map_cons, List.map_nil, List.length_cons, List.length_nil, List.replicate_succ, List.replicate_zero, List.cons_append, List.nil_append, Nat.reduceAdd, Nat.reduceSub, exists_eq, exists_eq', List.getElem?_cons_zero, List.getElem?_cons_succ, List.set_cons_zero, List.set_cons_succ, Option.some.injEq, V.int.injEq, V.bl.injEq, V.str.injEq, V.ref.injEq, List.cons.injEq, and_true, true_and, and_false, false_and, reduceCtorEq, exists_false, or_false, false_or, exists_and_left, exists_and_right, exists_eq_left, exists_eq_left', exists_eq_right, exists_eq_right', exists_const, ite_true, ite_false, Bool.false_eq_true, if_true, if_false, decide_true, decide_false]
  refine ⟨by decide, fun kn hkn => ⟨Nat.zero_le _, fun wl hwl => ?_⟩⟩
  replace hwl : upd H kn (.tup (kds.map kdV)) wl = none := hwl
  have u1 := same_upd (o := .tup (kds.map kdV)) hkn
  have u2 := same_upd (o := .lst []) hwl
  have u12 := u1.trans u2
  have g2 := gt.same u12
  have hk2 : upd (upd H kn (.tup (kds.map kdV))) wl (.lst []) kn = some (.tup (kds.map kdV)) := u2 _ _ upd_same
  have hw2 : Pcs (upd (upd H kn (.tup (kds.map kdV))) wl (.lst [])) wl [] := ⟨upd_same, fun q hq => (by cases hq)⟩
  have nwl : wl ≠ p := fun z => by
    obtain ⟨ns, e, _⟩ := (gt.same u1).st
    rw [← z, hwl] at e
    cases e
  have kvk : KvOk (kds.map kdV) := fun x hx => by
    obtain ⟨k, _, rfl⟩ := List.mem_map.mp hx
    exact ⟨k, rfl⟩
  refine ite2 (fun e => ?_) (fun e => ?_)
  · refine spDraw_of (by decide) g2.st fun r H3 r0 r8 x3 t3 => ?_
    obtain ⟨ns, hp, _⟩ := id g2.st
    have g3 := g2.sx x3 t3
    have hk3 := tup_wr hp x3 hk2
    have hw3 := hw2.wr hp nwl x3
    obtain ⟨m, rfl⟩ := Int.eq_ofNat_of_zero_le r0
    have hm : m < kds.length := by
      show m < 8
      omega
    have hkm : (kds.map kdV)[m]? = some (.str (kds[m]).nm) := by
      rw [List.getElem?_map, List.getElem?_eq_getElem hm]
      rfl
    refine ⟨_, _, rfl, tt hk3, _, atI_nat hkm, by decide, fun k2 hk2' => ?_⟩
    have s4 := same_upd (o := .tup [.str (kds[m]).nm]) hk2'
    exact hR Q _ _ _ _ p l b c k2 wl L [] As Bs form n [.str (kds[m]).nm] _ (g3.same s4) (hw3.same s4) nwl (.inl rfl) upd_same (fun x hx => ⟨_, List.mem_singleton.mp hx⟩) q
  · have n5 : n ≤ 5 := by
      have : ¬ ((5 : Int) < (n : Int)) := fun h => e (decide_eq_true h)
      omega
    refine ⟨_, rfl, n, rfl, n5, fun H3 o R s3 iR eR => ?_⟩
    have g3 := g2.same s3
    have hk3 := s3 _ _ hk2
    have lR : R.length ≤ 3125 := by
      have h1 := rows_len n n
      rw [← eR, List.length_map] at h1
      have h2 : n ^ n ≤ 5 ^ n := Nat.pow_le_pow_left n5 n
      have h3 : 5 ^ n ≤ 5 ^ 5 := Nat.pow_le_pow_right (by decide) n5
      omega
    have az := g3.ak.hz
    refine ⟨o, rfl, ⟨_, ll iR.at_⟩, fun D hD => lc_list (K := K) (xs := R.map fun q => V.ref q.1) (fun i H' => Same H3 H' ∧ ∃ N : PL, Pcs H' D N ∧ N.length = i ∧ wds N = ((rowsT n n).take i).map fun r => wrd As Bs (ofRow L r))
      ⟨same_upd hD, [], ⟨upd_same, fun q hq => (by cases hq)⟩, rfl, rfl⟩ (fun i H' _ h => ll (h.1 _ _ iR.at_)) ?_ ?_⟩
    · rintro i x H4 hx ⟨s4, N, pN, lN, eN⟩
      obtain ⟨qi, hqi, rfl⟩ : ∃ q, R[i]? = some q ∧ x = .ref q.1 := by
        rw [List.getElem?_map] at hx
        cases e : R[i]? with
        | none =>
          rw [e] at hx
          cases hx
        | some q =>
          rw [e] at hx
          exact ⟨q, rfl, (Option.some.inj hx).symm⟩
      have mi := List.mem_of_getElem? hqi
      have hil := (List.getElem?_eq_some_iff.mp hqi).1
      have ei : (rowsT n n)[i]? = some qi.2 := by
        rw [← eR, List.getElem?_map, hqi]
        rfl
      have hrow : qi.2 ∈ rowsT n n := List.mem_of_getElem? ei
      have hrow' : qi.2 ∈ rowsT L.length L.length := by rw [lL]; exact hrow
      obtain ⟨_, hrl, hrn⟩ := rows_sound n n qi.2 hrow
      have hfl := flat_len_perm (row_perm hrow')
      have g4 := g3.same s4
      have hr4 := s4 _ _ (iR.all qi mi)
      refine ⟨rfl, ?_⟩
      simp only [tSeq, tAsg, gName, tOp, rI, rI0, rU, tUn, tVar, tC, tCB, tCons, tNil, tTest, tIfS, tRet, tRetN, tDrop, tNext, tBreak, tCont, rEq, rNe, CDiv, CDivN, CMul, tBM, tBM0, tTup, tLst, tAug, tIf, tAnd, tOr, tNot, tAndV, tOrV, tNotV, tIsN, tNotN, tB, scal, tCall, cxK, cxKn, rIxT, rIxL, rIn, rAppend, rReverse, tVals, tDSetd, tDGet, tDGet1, tDGet2, tDIn, tDNotIn, rSortV, rSortT, rPop, rSortL, rSortT, tSl, tNoPart, tPart, List.append_nil, L2.start, List.map_cons, List.map_nil, List.length_cons, List.length_nil, List.replicate_succ, List.replicate_zero, List.cons_append, List.nil_append, Nat.reduceAdd, Nat.reduceSub, exists_eq, exists_eq', wipe, tYes, List.getElem?_cons_zero, List.getElem?_cons_succ, List.set_cons_zero, List.set_cons_succ, Option.some.injEq, V.int.injEq, V.bl.injEq, V.str.injEq, V.ref.injEq, List.cons.injEq, and_true, true_and, and_false, false_and, reduceCtorEq, exists_false, or_false, false_or, exists_and_left, exists_and_right, exists_eq_left, exists_eq_left', exists_eq_right, exists_eq_right', exists_const, ite_true, ite_false, Bool.false_eq_true, if_true, if_false, decide_true, decide_false]
      refine ⟨_, rfl, qi.1, rfl, ⟨_, ll hr4⟩, fun D2 hD2 => lc_list (K := K) (xs := ixV qi.2) (fun m H' => Same H4 H' ∧ Pcs H' D2 (ofRow L (qi.2.take m)))
        ⟨same_upd hD2, ⟨upd_same, fun q hq => (by cases hq)⟩⟩ (fun m H' _ h => ll (h.1 _ _ hr4)) ?_ ?_⟩
      · rintro m x H5 hx ⟨s5, pD⟩
        obtain ⟨k, hk, rfl⟩ : ∃ k, qi.2[m]? = some k ∧ x = .int (k : Nat) := by
          unfold ixV at hx
          rw [List.getElem?_map] at hx
          cases e : qi.2[m]? with
          | none =>
            rw [e] at hx
            cases hx
          | some q =>
            rw [e] at hx
            exact ⟨q, rfl, (Option.some.inj hx).symm⟩
        have hkn := hrn k (List.mem_of_getElem? hk)
        have hml := (List.getElem?_eq_some_iff.mp hk).1
        have hkl : L[k]? = some (L[k]'(by omega)) := List.getElem?_eq_getElem _
        generalize L[k]'(by omega) = qk at hkl
        have atk : (L.map fun q => V.ref q.1)[k]? = some (.ref qk.1) := by
          rw [List.getElem?_map, hkl]
          rfl
        have g5 := g4.same s5
        have es : ofRow L (qi.2.take (m + 1)) = ofRow L (qi.2.take m) ++ [qk] := by
          unfold ofRow
          rw [List.take_add_one, hk, List.filterMap_append]
          simp [hkl]
        have lo : (ofRow L (qi.2.take m)).length ≤ 5 := by
          unfold ofRow
          have := List.length_filterMap_le (fun k => L[k]?) (qi.2.take m)
          rw [List.length_take] at this
          omega
        refine ⟨rfl, ?_⟩
        simp only [tSeq, tAsg, gName, tOp, rI, rI0, rU, tUn, tVar, tC, tCB, tCons, tNil, tTest, tIfS, tRet, tRetN, tDrop, tNext, tBreak, tCont, rEq, rNe, CDiv, CDivN, CMul, tBM, tBM0, tTup, tLst, tAug, tIf, tAnd, tOr, tNot, tAndV, tOrV, tNotV, tIsN, tNotN, tB, scal, tCall, cxK, cxKn, rIxT, rIxL, rIn, rAppend, rReverse, tVals, tDSetd, tDGet, tDGet1, tDGet2, tDIn, tDNotIn, rSortV, rSortT, rPop, rSortL, rSortT, tSl, tNoPart, tPart, List.append_nil, L2.start, List.map_cons, List.map_nil, List.length_cons, List.length_nil, List.replicate_succ, List.replicate_zero, List.cons_append, List.nil_append, Nat.reduceAdd, Nat.reduceSub, exists_eq, exists_eq', wipe, tYes, List.getElem?_cons_zero, List.getElem?_cons_succ, List.set_cons_zero, List.set_cons_succ, Option.some.injEq, V.int.injEq, V.bl.injEq, V.str.injEq, V.ref.injEq, List.cons.injEq, and_true, true_and, and_false, false_and, reduceCtorEq, exists_false, or_false, false_or, exists_and_left, exists_and_right, exists_eq_left, exists_eq_left', exists_eq_right, exists_eq_right', exists_const, ite_true, ite_false, Bool.false_eq_true, if_true, if_false, decide_true, decide_false]
        refine ⟨_, ll g5.ak.pl.at_, _, atI_nat atk, _, pD.at_, by rw [List.length_map]; exact small1000 (by omega), fun b o e => ?_, ?_⟩
        · rw [upd_ne (ne_of_none e hD2)]
          exact s5 _ _ e
        · rw [es]
          exact pD.snoc (g5.ak.pl.all qk (List.mem_of_getElem? hkl))
      · rintro H5 ⟨s5, pD⟩
        rw [List.take_of_length_le (by unfold ixV; rw [List.length_map]; exact Nat.le_refl _)] at pD
        have g5 := g4.same s5
        try simp only [tSeq, tAsg, gName, tOp, rI, rI0, rU, tUn, tVar, tC, tCB, tCons, tNil, tTest, tIfS, tRet, tRetN, tDrop, tNext, tBreak, tCont, rEq, rNe, CDiv, CDivN, CMul, tBM, tBM0, tTup, tLst, tAug, tIf, tAnd, tOr, tNot, tAndV, tOrV, tNotV, tIsN, tNotN, tB, scal, tCall, cxK, cxKn, rIxT, rIxL, rIn, rAppend, rReverse, tVals, tDSetd, tDGet, tDGet1, tDGet2, tDIn, tDNotIn, rSortV, rSortT, rPop, rSortL, rSortT, tSl, tNoPart, tPart, List.append_nil, L2.start, List.map_cons, List.map_nil, List.length_cons, List.length_nil, List.replicate_succ, List.replicate_zero, List.cons_append, List.nil_append, Nat.reduceAdd, Nat.reduceSub, exists_eq, exists_eq', List.getElem?_cons_zero, List.getElem?_cons_succ, List.set_cons_zero, List.set_cons_succ, Option.some.injEq, V.int.injEq, V.bl.injEq, V.str.injEq, V.ref.injEq, List.cons.injEq, and_true, true_and, and_false, false_and, reduceCtorEq, exists_false, or_false, false_or, exists_and_left, exists_and_right, exists_eq_left, exists_eq_left', exists_eq_right, exists_eq_right', exists_const, ite_true, ite_false, Bool.false_eq_true, if_true, if_false, decide_true, decide_false]
        refine ⟨D2, _, rfl, pD, by omega, fun H6 t6 s6 h6 => ?_⟩
        refine cat_tups (s6 _ _ g5.ak.hb) h6 (by rw [List.length_map, List.length_map]; omega) fun t7 H7 s7 h7 => ?_
        have s67 := s6.trans s7
        refine cat_tups h7 (s67 _ _ g5.ak.hc) (by simp only [List.length_append, List.length_map]; omega) fun t8 H8 s8 h8 => ?_
        rw [← List.map_append, ← List.map_append] at h8
        have s58 := s5.trans (s67.trans s8)
        have pN8 := pN.same s58
        refine ⟨_, pN8.at_, by rw [List.length_map, lN]; exact small4000 (by omega), fun b o e => ?_, N ++ [(t8, _)], pN8.snoc h8, by rw [List.length_append, lN]; rfl, ?_⟩
        · rw [upd_ne (ne_of_none e hD)]
          exact s58 _ _ (s4 _ _ e)
        · rw [wds_app, eN, List.take_add_one, ei, List.map_append]
          rfl
    · rintro H4 ⟨s4, N, pN, lN, eN⟩
      rw [List.length_map] at lN eN
      rw [List.take_of_length_le (by rw [← eR, List.length_map]; exact Nat.le_refl _)] at eN
      have g4 := g3.same s4
      have nD : D ≠ p := fun z => by
        obtain ⟨ns, e, _⟩ := g3.st
        rw [← z, hD] at e
        cases e
      exact hR Q _ _ _ _ p l b c kn D L N As Bs form n _ H4 g4 pN nD (.inr ⟨by omega, by rw [lL]; exact eN⟩) (s4 _ _ hk3) kvk q
end
end Mv

set_option Elab.async false
set_option linter.all false
set_option maxRecDepth 100000
set_option maxHeartbeats 4000000
namespace Mv
open PySem PySem.Spec PyProof.Rows L2
section
variable {P : Program} {w : World} {K : PySem.W.Frag} {mg : Str → Option Value} {base : Heap} {T : List (Addr × Str)} {CB : Addr}
theorem pickN {xs : List Nat} {r : Int} {z : Int} (hl : z = xs.length) (h : ∀ x ∈ xs, 1 ≤ x ∧ x ≤ 12) (h0 : 0 ≤ r) (h8 : r < z) : ∃ n m : Nat, r = (m : Int) ∧ 1 ≤ n ∧ n ≤ 12 ∧ (xs.map fun n : Nat => V.int (n : Int))[m]? = some (.int (n : Int)) := by
  obtain ⟨m, rfl⟩ := Int.eq_ofNat_of_zero_le h0
  have hm : m < xs.length := by omega
  have := h _ (List.getElem_mem hm)
  refine ⟨xs[m], m, rfl, this.1, this.2, ?_⟩
  rw [List.getElem?_map, List.getElem?_eq_getElem hm]
  rfl
def spLaw (K : PySem.W.Frag) (T : List (Addr × Str)) : Sp := fun vs H Q _ => ∃ (a : Addr) (ns : List Int), vs = [.ref a] ∧ SqL K H a (ns.map V.int) ∧ ns.length ≤ 63 ∧ LamX.Tabs T H ∧ ∀ H' : Hp, Q (.bl true) H'
theorem ok_law {f : Addr} {fd : FuncData} (F : Fun K "law" "law" sLaw f fd) (B : Bi mg) (cStream : CalX CX0 P w K mg base 1 "_law_stream" (spStream K)) (cDraw : CalX CX0 P w K mg base 1 "_law_draw" spDraw) (cDrawn : CalX CX0 P w K mg base 6 "_law_drawn" spDrawn) (cAround : CalX CX0 P w K mg base 5 "_law_around" spAround) (cJoined : CalX CX0 P w K mg base 1 "_law_joined" spJoined) (cOrd : CalX CX0 P w K mg base 1 "_law_orders" spOrd)
    (cGood : CalX CX0 P w K mg base 7 "_law_good" (spGood T)) (cRef : CalX CX0 P w K mg base 5 "_law_refused" spRef) :
    FnOk P w K mg base CX0 8 f fd ["_law_script"] (spLaw K T) := by
  refine F.ok scLaw (fun vs H Q E h => ?_) (fun cdv A outer s H vs Q E hr h => ?_)
  · obtain ⟨a, ns, rfl, _⟩ := h
    rfl
  · obtain ⟨a, ns, rfl, hS, hlen, hT, q⟩ := h
    obtain ⟨tr, hrest, hq⟩ := law_c (s := s) (H0 := H) (E := E) (outer := outer) (cdv := cdv) (f := f) (A := A) (T := T) B hr cDraw cJoined cOrd cGood cRef
    refine ⟨_, (pss_cons (ps_set (i := 1) scLaw.nd rfl (.inl rfl) (pe_cx cStream hr (by decide) pass0 (by rfl) (pa_cons (pv 0) pa_nil)))
 (pss_cons (ps_set (i := 2) scLaw.nd rfl (.inl rfl) (pe_cx cDraw hr (by decide) pass0 (by rfl) (pa_cons (pv 1) (pa_cons pe_int pa_nil))))
 (pss_cons (ps_set (i := 3) scLaw.nd rfl (.inl rfl) (pe_ix ix_list (pe_lst (pa_cons pe_int (pa_cons pe_int (pa_cons pe_int (pa_cons pe_int (pa_cons pe_int (pa_cons pe_int (pa_cons pe_int (pa_cons pe_int (pa_cons pe_int (pa_cons pe_int pa_nil))))))))))) (pe_cx cDraw hr (by decide) pass0 (by rfl) (pa_cons (pv 1) (pa_cons pe_int pa_nil))) (fun _ _ => rfl)))
 (pss_cons (ps_set (i := 4) scLaw.nd rfl (.inr rfl) (pe_cx cDrawn hr (by decide) pass0 (by rfl) (pa_cons (pv 1) (pa_cons (pv 3) (pa_cons (pv 2) pa_nil)))))
 (pss_cons (ps_set (i := 5) scLaw.nd rfl (.inr rfl) (pe_cx cAround hr (by decide) pass0 (by rfl) (pa_cons (pv 1) (pa_cons (pv 2) pa_nil))))
 (pss_cons (ps_set (i := 6) scLaw.nd rfl (.inr rfl) (pe_cx cAround hr (by decide) pass0 (by rfl) (pa_cons (pv 1) (pa_cons (pv 2) pa_nil))))
 (pss_cons (ps_set (i := 7) scLaw.nd rfl (.inl rfl) (pe_cx cDraw hr (by decide) pass0 (by rfl) (pa_cons (pv 1) (pa_cons pe_int pa_nil))))
 (pss_cons (ps_if (pt_cmpR op_gt (pv 7) pe_int (nomark _))
 (pss_one (ps_set (i := 5) scLaw.nd rfl (.inr rfl) (pe_tup pa_nil))) pss_nil)
 (pss_cons (ps_if (PW.pt (pw_or (pt_cmpR op_eq (pv 7) pe_int (nomark _)) (pw_or1 (pt_cmpR op_eq (pv 7) pe_int (nomark _)))))
 (pss_one (ps_set (i := 6) scLaw.nd rfl (.inr rfl) (pe_tup pa_nil))) pss_nil)
 hrest))))))))), ?_⟩
    try simp only [tSeq, tAsg, gName, tOp, rI, rI0, rU, tUn, tVar, tC, tCB, tCons, tNil, tTest, tIfS, tRet, tRetN, tDrop, tNext, tBreak, tCont, rEq, rNe, CDiv, CDivN, CMul, tBM, tBM0, tTup, tLst, tAug, tIf, tAnd, tOr, tNot, tAndV, tOrV, tNotV, tIsN, tNotN, tB, scal, tCall, cxK, cxKn, rIxT, rIxL, rIn, rAppend, rReverse, tVals, tDSetd, tDGet, tDGet1, tDGet2, tDIn, tDNotIn, rSortV, rSortT, rPop, rSortL, rSortT, tSl, tNoPart, tPart, List.append_nil, L2.start, List.map_cons, List.map_nil, List.length_cons, List.length_nil, List.replicate_succ, List.replicate_zero, List.cons_append, List.nil_append, Nat.reduceAdd, Nat.reduceSub, exists_eq, exists_eq', List.getElem?_cons_zero, List.getElem?_cons_succ, List.set_cons_zero, List.set_cons_succ, Option.some.injEq, V.int.injEq, V.bl.injEq, V.str.injEq, V.ref.injEq, List.cons.injEq, and_true, true_and, and_false, false_and, reduceCtorEq, exists_false, or_false, false_or, exists_and_left, exists_and_right, exists_eq_left, exists_eq_left', exists_eq_right, exists_eq_right', exists_const, ite_true, ite_false, Bool.false_eq_true, if_true, if_false, decide_true, decide_false]
    refine ⟨a, ns, rfl, hS, hlen, fun H1 p s1 np t1 => ?_⟩
    have T1 := hT.ext s1
    try simp only [tSeq, tAsg, gName, tOp, rI, rI0, rU, tUn, tVar, tC, tCB, tCons, tNil, tTest, tIfS, tRet, tRetN, tDrop, tNext, tBreak, tCont, rEq, rNe, CDiv, CDivN, CMul, tBM, tBM0, tTup, tLst, tAug, tIf, tAnd, tOr, tNot, tAndV, tOrV, tNotV, tIsN, tNotN, tB, scal, tCall, cxK, cxKn, rIxT, rIxL, rIn, rAppend, rReverse, tVals, tDSetd, tDGet, tDGet1, tDGet2, tDIn, tDNotIn, rSortV, rSortT, rPop, rSortL, rSortT, tSl, tNoPart, tPart, List.append_nil, L2.start, List.map_cons, List.map_nil, List.length_cons, List.length_nil, List.replicate_succ, List.replicate_zero, List.cons_append, List.nil_append, Nat.reduceAdd, Nat.reduceSub, exists_eq, exists_eq', List.getElem?_cons_zero, List.getElem?_cons_succ, List.set_cons_zero, List.set_cons_succ, Option.some.injEq, V.int.injEq, V.bl.injEq, V.str.injEq, V.ref.injEq, List.cons.injEq, and_true, true_and, and_false, false_and, reduceCtorEq, exists_false, or_false, false_or, exists_and_left, exists_and_right, exists_eq_left, exists_eq_left', exists_eq_right, exists_eq_right', exists_const, ite_true, ite_false, Bool.false_eq_true, if_true, if_false, decide_true, decide_false]
    refine spDraw_of (by decide) t1 fun st H2 _ _ x2 t2 => ?_
    obtain ⟨ns1, hp1, _⟩ := id t1
    have T2 := tabs_wr T1 hp1 x2
    try simp only [tSeq, tAsg, gName, tOp, rI, rI0, rU, tUn, tVar, tC, tCB, tCons, tNil, tTest, tIfS, tRet, tRetN, tDrop, tNext, tBreak, tCont, rEq, rNe, CDiv, CDivN, CMul, tBM, tBM0, tTup, tLst, tAug, tIf, tAnd, tOr, tNot, tAndV, tOrV, tNotV, tIsN, tNotN, tB, scal, tCall, cxK, cxKn, rIxT, rIxL, rIn, rAppend, rReverse, tVals, tDSetd, tDGet, tDGet1, tDGet2, tDIn, tDNotIn, rSortV, rSortT, rPop, rSortL, rSortT, tSl, tNoPart, tPart, List.append_nil, L2.start, List.map_cons, List.map_nil, List.length_cons, List.length_nil, List.replicate_succ, List.replicate_zero, List.cons_append, List.nil_append, Nat.reduceAdd, Nat.reduceSub, exists_eq, exists_eq', List.getElem?_cons_zero, List.getElem?_cons_succ, List.set_cons_zero, List.set_cons_succ, Option.some.injEq, V.int.injEq, V.bl.injEq, V.str.injEq, V.ref.injEq, List.cons.injEq, and_true, true_and, and_false, false_and, reduceCtorEq, exists_false, or_false, false_or, exists_and_left, exists_and_right, exists_eq_left, exists_eq_left', exists_eq_right, exists_eq_right', exists_const, ite_true, ite_false, Bool.false_eq_true, if_true, if_false, decide_true, decide_false]
    refine ⟨by decide, fun la hla => ?_⟩
    have sa := same_upd (o := .lst ([1, 2, 2, 3, 3, 3, 4, 4, 5, 12].map fun n : Nat => V.int (n : Int))) hla
    refine spDraw_of (by decide) (t2.same sa) fun r1 H3 a0 a8 x3 t3 => ?_
    have hla3 := x3 _ _ (t2.ne hla).symm upd_same
    obtain ⟨ns2, hp2, _⟩ := id (t2.same sa)
    have T3 := tabs_wr (T2.ext sa) hp2 x3
    obtain ⟨n, m1, rfl, n1, n12, e1⟩ := pickN (xs := [1, 2, 2, 3, 3, 3, 4, 4, 5, 12]) rfl (by decide) a0 a8
    try simp only [tSeq, tAsg, gName, tOp, rI, rI0, rU, tUn, tVar, tC, tCB, tCons, tNil, tTest, tIfS, tRet, tRetN, tDrop, tNext, tBreak, tCont, rEq, rNe, CDiv, CDivN, CMul, tBM, tBM0, tTup, tLst, tAug, tIf, tAnd, tOr, tNot, tAndV, tOrV, tNotV, tIsN, tNotN, tB, scal, tCall, cxK, cxKn, rIxT, rIxL, rIn, rAppend, rReverse, tVals, tDSetd, tDGet, tDGet1, tDGet2, tDIn, tDNotIn, rSortV, rSortT, rPop, rSortL, rSortT, tSl, tNoPart, tPart, List.append_nil, L2.start, List.map_cons, List.map_nil, List.length_cons, List.length_nil, List.replicate_succ, List.replicate_zero, List.cons_append, List.nil_append, Nat.reduceAdd, Nat.reduceSub, exists_eq, exists_eq', List.getElem?_cons_zero, List.getElem?_cons_succ, List.set_cons_zero, List.set_cons_succ, Option.some.injEq, V.int.injEq, V.bl.injEq, V.str.injEq, V.ref.injEq, List.cons.injEq, and_true, true_and, and_false, false_and, reduceCtorEq, exists_false, or_false, false_or, exists_and_left, exists_and_right, exists_eq_left, exists_eq_left', exists_eq_right, exists_eq_right', exists_const, ite_true, ite_false, Bool.false_eq_true, if_true, if_false, decide_true, decide_false]
    refine ⟨_, ll hla3, _, atI_nat e1, ?_⟩
    try simp only [tSeq, tAsg, gName, tOp, rI, rI0, rU, tUn, tVar, tC, tCB, tCons, tNil, tTest, tIfS, tRet, tRetN, tDrop, tNext, tBreak, tCont, rEq, rNe, CDiv, CDivN, CMul, tBM, tBM0, tTup, tLst, tAug, tIf, tAnd, tOr, tNot, tAndV, tOrV, tNotV, tIsN, tNotN, tB, scal, tCall, cxK, cxKn, rIxT, rIxL, rIn, rAppend, rReverse, tVals, tDSetd, tDGet, tDGet1, tDGet2, tDIn, tDNotIn, rSortV, rSortT, rPop, rSortL, rSortT, tSl, tNoPart, tPart, List.append_nil, L2.start, List.map_cons, List.map_nil, List.length_cons, List.length_nil, List.replicate_succ, List.replicate_zero, List.cons_append, List.nil_append, Nat.reduceAdd, Nat.reduceSub, exists_eq, exists_eq', List.getElem?_cons_zero, List.getElem?_cons_succ, List.set_cons_zero, List.set_cons_succ, Option.some.injEq, V.int.injEq, V.bl.injEq, V.str.injEq, V.ref.injEq, List.cons.injEq, and_true, true_and, and_false, false_and, reduceCtorEq, exists_false, or_false, false_or, exists_and_left, exists_and_right, exists_eq_left, exists_eq_left', exists_eq_right, exists_eq_right', exists_const, ite_true, ite_false, Bool.false_eq_true, if_true, if_false, decide_true, decide_false]
    refine ⟨p, n, st, rfl, by omega, t3, fun L H5 l lL qL x5 t5 nl hp => ?_⟩
    obtain ⟨ns4, hp4, _⟩ := id t3
    have T5 := tabs_wr T3 hp4 x5
    try simp only [tSeq, tAsg, gName, tOp, rI, rI0, rU, tUn, tVar, tC, tCB, tCons, tNil, tTest, tIfS, tRet, tRetN, tDrop, tNext, tBreak, tCont, rEq, rNe, CDiv, CDivN, CMul, tBM, tBM0, tTup, tLst, tAug, tIf, tAnd, tOr, tNot, tAndV, tOrV, tNotV, tIsN, tNotN, tB, scal, tCall, cxK, cxKn, rIxT, rIxL, rIn, rAppend, rReverse, tVals, tDSetd, tDGet, tDGet1, tDGet2, tDIn, tDNotIn, rSortV, rSortT, rPop, rSortL, rSortT, tSl, tNoPart, tPart, List.append_nil, L2.start, List.map_cons, List.map_nil, List.length_cons, List.length_nil, List.replicate_succ, List.replicate_zero, List.cons_append, List.nil_append, Nat.reduceAdd, Nat.reduceSub, exists_eq, exists_eq', List.getElem?_cons_zero, List.getElem?_cons_succ, List.set_cons_zero, List.set_cons_succ, Option.some.injEq, V.int.injEq, V.bl.injEq, V.str.injEq, V.ref.injEq, List.cons.injEq, and_true, true_and, and_false, false_and, reduceCtorEq, exists_false, or_false, false_or, exists_and_left, exists_and_right, exists_eq_left, exists_eq_left', exists_eq_right, exists_eq_right', exists_const, ite_true, ite_false, Bool.false_eq_true, if_true, if_false, decide_true, decide_false]
    refine ⟨p, st, rfl, t5, fun As H9 b lA x9 t9 hb => ?_⟩
    obtain ⟨ns8, hp8, _⟩ := id t5
    have T9 := tabs_wr T5 hp8 x9
    have pl9 := hp.wr hp8 nl x9
    try simp only [tSeq, tAsg, gName, tOp, rI, rI0, rU, tUn, tVar, tC, tCB, tCons, tNil, tTest, tIfS, tRet, tRetN, tDrop, tNext, tBreak, tCont, rEq, rNe, CDiv, CDivN, CMul, tBM, tBM0, tTup, tLst, tAug, tIf, tAnd, tOr, tNot, tAndV, tOrV, tNotV, tIsN, tNotN, tB, scal, tCall, cxK, cxKn, rIxT, rIxL, rIn, rAppend, rReverse, tVals, tDSetd, tDGet, tDGet1, tDGet2, tDIn, tDNotIn, rSortV, rSortT, rPop, rSortL, rSortT, tSl, tNoPart, tPart, List.append_nil, L2.start, List.map_cons, List.map_nil, List.length_cons, List.length_nil, List.replicate_succ, List.replicate_zero, List.cons_append, List.nil_append, Nat.reduceAdd, Nat.reduceSub, exists_eq, exists_eq', List.getElem?_cons_zero, List.getElem?_cons_succ, List.set_cons_zero, List.set_cons_succ, Option.some.injEq, V.int.injEq, V.bl.injEq, V.str.injEq, V.ref.injEq, List.cons.injEq, and_true, true_and, and_false, false_and, reduceCtorEq, exists_false, or_false, false_or, exists_and_left, exists_and_right, exists_eq_left, exists_eq_left', exists_eq_right, exists_eq_right', exists_const, ite_true, ite_false, Bool.false_eq_true, if_true, if_false, decide_true, decide_false]
    refine ⟨p, st, rfl, t9, fun Bs Ha c lB xa ta hc => ?_⟩
    obtain ⟨ns9, hp9, _⟩ := id t9
    have Ta := tabs_wr T9 hp9 xa
    have pla := pl9.wr hp9 nl xa
    have hba := tup_wr hp9 xa hb
    try simp only [tSeq, tAsg, gName, tOp, rI, rI0, rU, tUn, tVar, tC, tCB, tCons, tNil, tTest, tIfS, tRet, tRetN, tDrop, tNext, tBreak, tCont, rEq, rNe, CDiv, CDivN, CMul, tBM, tBM0, tTup, tLst, tAug, tIf, tAnd, tOr, tNot, tAndV, tOrV, tNotV, tIsN, tNotN, tB, scal, tCall, cxK, cxKn, rIxT, rIxL, rIn, rAppend, rReverse, tVals, tDSetd, tDGet, tDGet1, tDGet2, tDIn, tDNotIn, rSortV, rSortT, rPop, rSortL, rSortT, tSl, tNoPart, tPart, List.append_nil, L2.start, List.map_cons, List.map_nil, List.length_cons, List.length_nil, List.replicate_succ, List.replicate_zero, List.cons_append, List.nil_append, Nat.reduceAdd, Nat.reduceSub, exists_eq, exists_eq', List.getElem?_cons_zero, List.getElem?_cons_succ, List.set_cons_zero, List.set_cons_succ, Option.some.injEq, V.int.injEq, V.bl.injEq, V.str.injEq, V.ref.injEq, List.cons.injEq, and_true, true_and, and_false, false_and, reduceCtorEq, exists_false, or_false, false_or, exists_and_left, exists_and_right, exists_eq_left, exists_eq_left', exists_eq_right, exists_eq_right', exists_const, ite_true, ite_false, Bool.false_eq_true, if_true, if_false, decide_true, decide_false]
    refine spDraw_of (by decide) ta fun form Hb _ _ xb tb => ?_
    obtain ⟨nsa, hpa, _⟩ := id ta
    have Tb := tabs_wr Ta hpa xb
    have plb := pla.wr hpa nl xb
    have hbb := tup_wr hpa xb hba
    have hcb := tup_wr hpa xb hc
    clear hp pl9 pla hba hc hb hp1 hp2 hp4 hp8 hp9 hpa x2 x3 x5 x9 xa xb t1 t2 t3 t5 t9 ta T1 T2 T3 T5 T9 Ta hT s1 np hS sa hla hla3
    have fin : ∀ (b' c' : Addr) (As' Bs' : List Int) (H8 : Hp), Same Hb H8 → H8 b' = some (.tup (As'.map V.int)) → H8 c' = some (.tup (Bs'.map V.int)) → As'.length ≤ 2 → Bs'.length ≤ 2 → (1 < form → As' = []) → (form = 1 ∨ form = 3 → Bs' = []) →
        tr { nx := fun _ H' => Q .non H', rt := Q } [some (.ref a), some (.ref p), some (.int st), some (.int (n : Int)), some (.ref l), some (.ref b'), some (.ref c'), some (.int form), none, none, none, none, none, none, none] H8 := fun b' c' As' Bs' H8 s8 h1 h2 l1 l2 k1 k2 =>
      hq Q _ _ p l b' c' L As' Bs' form n H8 ⟨tb.same s8, nl, ⟨plb.same s8, h1, h2, k1, k2, by omega, qL, l1, l2⟩, Tb.ext s8, lL, n1⟩ q
    try simp only [tSeq, tAsg, gName, tOp, rI, rI0, rU, tUn, tVar, tC, tCB, tCons, tNil, tTest, tIfS, tRet, tRetN, tDrop, tNext, tBreak, tCont, rEq, rNe, CDiv, CDivN, CMul, tBM, tBM0, tTup, tLst, tAug, tIf, tAnd, tOr, tNot, tAndV, tOrV, tNotV, tIsN, tNotN, tB, scal, tCall, cxK, cxKn, rIxT, rIxL, rIn, rAppend, rReverse, tVals, tDSetd, tDGet, tDGet1, tDGet2, tDIn, tDNotIn, rSortV, rSortT, rPop, rSortL, rSortT, tSl, tNoPart, tPart, List.append_nil, L2.start, List.map_cons, List.map_nil, List.length_cons, List.length_nil, List.replicate_succ, List.replicate_zero, List.cons_append, List.nil_append, Nat.reduceAdd, Nat.reduceSub, exists_eq, exists_eq', List.getElem?_cons_zero, List.getElem?_cons_succ, List.set_cons_zero, List.set_cons_succ, Option.some.injEq, V.int.injEq, V.bl.injEq, V.str.injEq, V.ref.injEq, List.cons.injEq, and_true, true_and, and_false, false_and, reduceCtorEq, exists_false, or_false, false_or, exists_and_left, exists_and_right, exists_eq_left, exists_eq_left', exists_eq_right, exists_eq_right', exists_const, ite_true, ite_false, Bool.false_eq_true, if_true, if_false, decide_true, decide_false]
    refine ite2 (fun e => ⟨Nat.zero_le _, fun b2 hb2 => ?_⟩) (fun e => ?_)
    · have e1 := of_decide_eq_true e
      have sb := same_upd (o := .tup []) hb2
      refine ite2 (fun e2 => absurd (of_decide_eq_true e2) (by omega)) (fun e2 => ite2 (fun e3 => ⟨Nat.zero_le _, fun c2 hc2 => ?_⟩) (fun e3 => ?_))
      · have sc := same_upd (o := .tup []) hc2
        exact fin b2 c2 [] [] _ (sb.trans sc) (sc _ _ upd_same) upd_same (Nat.zero_le _) (Nat.zero_le _) (fun _ => rfl) (fun _ => rfl)
      · exact fin b2 c [] Bs _ sb upd_same (sb _ _ hcb) (Nat.zero_le _) lB (fun _ => rfl) (fun z => by
          have n1 : ¬ form = 1 := fun z => e2 (decide_eq_true z)
          have n3 : ¬ form = 3 := fun z => e3 (decide_eq_true z)
          exact z.elim (fun z => absurd z n1) (fun z => absurd z n3))
    · have e1 : ¬ 1 < form := fun z => e (decide_eq_true z)
      refine ite2 (fun e2 => ⟨Nat.zero_le _, fun c2 hc2 => ?_⟩) (fun e2 => ite2 (fun e3 => absurd (of_decide_eq_true e3) (by omega)) (fun e3 => ?_))
      · have sc := same_upd (o := .tup []) hc2
        exact fin b c2 As [] _ sc (sc _ _ hbb) upd_same lA (Nat.zero_le _) (fun z => absurd z e1) (fun _ => rfl)
      · exact fin b c As Bs _ (Same.refl _) hbb hcb lA lB (fun z => absurd z e1) (fun z => by
          have n1 : ¬ form = 1 := fun z => e2 (decide_eq_true z)
          have n3 : ¬ form = 3 := fun z => e3 (decide_eq_true z)
          exact z.elim (fun z => absurd z n1) (fun z => absurd z n3))
end
end Mv

set_option Elab.async false
set_option linter.all false
set_option maxRecDepth 100000
set_option maxHeartbeats 4000000
namespace Mv
open PySem PySem.Spec PyProof.Rows L2
theorem kws_mk {P : Program} {w : World} {K : PySem.W.Frag} {mg : Str → Option Value} {base : Heap} {lv : Nat} {sp : Sp} {f e1 e2 : Addr} {fd : FuncData} (F : FunD K "free_shuffles" "free_shuffles" (defArgs sFS) (defBody sFS) (defScope sFS) [] [("before", .ref e1), ("after", .ref e2)] f fd)
    (ok : FnOk P w K mg base (L2.CX P w) lv f fd ["kind", "u", "v", "before", "after"] sp) (hm : mg "free_shuffles" = some (.ref f)) (h1 : ∀ H : Hp, SqT K H e1 []) (h2 : ∀ H : Hp, SqT K H e2 []) : KwX P w K mg base lv "free_shuffles" sp 3 e1 e2 := by
  refine ⟨h1, h2, ?_, ?_, ?_, ?_⟩
  · obtain ⟨ds, hv, hb⟩ := F.binds0 (ps := ["kind", "u", "v", "before", "after"]) 3 (by simp) rfl fun D doc pm an cdv ct us ks h4 hk => by
      match us, ks, h4, hk with
      | [_, _, _], [_, _], _, _ => exact ⟨_, _, _, _, _, _, rfl, rfl, _, _, _, _, _, _, rfl, rfl, rfl⟩
    exact ⟨f, fd, _, ds, ok, hm, F.kp, hb, hv⟩
  · obtain ⟨mv, hb⟩ := kbinds0 (ps := ["kind", "u", "v", "before", "after"]) F 3 ["before"] [("after", .ref e2)] (fun us mv ws => us ++ ws ++ mv) (by simp) (by simp) (fun r1 r2 r3 => (r1.append r3).append r2) fun D doc pm an cdv ct us mv ws h4 hk hw => by
      match us, mv, ws, h4, hk, hw with
      | [_, _, _], [_], [_], _, _, _ => exact ⟨_, _, _, _, _, _, rfl, rfl, rfl⟩
    exact ⟨f, fd, _, _, ok, hm, F.kp, hb⟩
  · obtain ⟨mv, hb⟩ := kbinds0 (ps := ["kind", "u", "v", "before", "after"]) F 3 ["after"] [("before", .ref e1)] (fun us mv ws => us ++ mv ++ ws) (by simp) (by simp) (fun r1 r2 r3 => (r1.append r2).append r3) fun D doc pm an cdv ct us mv ws h4 hk hw => by
      match us, mv, ws, h4, hk, hw with
      | [_, _, _], [_], [_], _, _, _ => exact ⟨_, _, _, _, _, _, rfl, rfl, rfl⟩
    exact ⟨f, fd, _, _, ok, hm, F.kp, hb⟩
  · obtain ⟨mv, hb⟩ := kbinds0 (ps := ["kind", "u", "v", "before", "after"]) F 3 ["before", "after"] [] (fun us mv ws => us ++ (ws ++ mv)) (by simp) (by simp) (fun r1 r2 r3 => r1.append (r3.append r2)) fun D doc pm an cdv ct us mv ws h4 hk hw => by
      match us, mv, ws, h4, hk, hw with
      | [_, _, _], [], [_, _], _, _, _ => exact rfl
    have e : (fun (vs zs : List V) => vs ++ (zs ++ ([] : List (Str × V)).map (·.2))) = fun vs zs => vs ++ zs := by
      funext vs zs
      rw [List.map_nil, List.append_nil]
    rw [e] at hb
    exact ⟨f, fd, _, _, ok, hm, F.kp, hb⟩
theorem kwo_mk {P : Program} {w : World} {K : PySem.W.Frag} {mg : Str → Option Value} {base : Heap} {lv : Nat} {sp : Sp} {f e1 e2 : Addr} {fd : FuncData} (F : FunD K "free_orders" "free_orders" (defArgs sFO) (defBody sFO) (defScope sFO) [] [("before", .ref e1), ("after", .ref e2)] f fd)
    (ok : FnOk P w K mg base (L2.CX P w) lv f fd ["kind", "parcels", "before", "after"] sp) (hm : mg "free_orders" = some (.ref f)) (h1 : ∀ H : Hp, SqT K H e1 []) (h2 : ∀ H : Hp, SqT K H e2 []) : KwX P w K mg base lv "free_orders" sp 2 e1 e2 := by
  refine ⟨h1, h2, ?_, ?_, ?_, ?_⟩
  · obtain ⟨ds, hv, hb⟩ := F.binds0 (ps := ["kind", "parcels", "before", "after"]) 2 (by simp) rfl fun D doc pm an cdv ct us ks h4 hk => by
      match us, ks, h4, hk with
      | [_, _], [_, _], _, _ => exact ⟨_, _, _, _, _, _, rfl, rfl, _, _, _, _, _, _, rfl, rfl, rfl⟩
    exact ⟨f, fd, _, ds, ok, hm, F.kp, hb, hv⟩
  · obtain ⟨mv, hb⟩ := kbinds0 (ps := ["kind", "parcels", "before", "after"]) F 2 ["before"] [("after", .ref e2)] (fun us mv ws => us ++ ws ++ mv) (by simp) (by simp) (fun r1 r2 r3 => (r1.append r3).append r2) fun D doc pm an cdv ct us mv ws h4 hk hw => by
      match us, mv, ws, h4, hk, hw with
      | [_, _], [_], [_], _, _, _ => exact ⟨_, _, _, _, _, _, rfl, rfl, rfl⟩
    exact ⟨f, fd, _, _, ok, hm, F.kp, hb⟩
  · obtain ⟨mv, hb⟩ := kbinds0 (ps := ["kind", "parcels", "before", "after"]) F 2 ["after"] [("before", .ref e1)] (fun us mv ws => us ++ mv ++ ws) (by simp) (by simp) (fun r1 r2 r3 => (r1.append r2).append r3) fun D doc pm an cdv ct us mv ws h4 hk hw => by
      match us, mv, ws, h4, hk, hw with
      | [_, _], [_], [_], _, _, _ => exact ⟨_, _, _, _, _, _, rfl, rfl, rfl⟩
    exact ⟨f, fd, _, _, ok, hm, F.kp, hb⟩
  · obtain ⟨mv, hb⟩ := kbinds0 (ps := ["kind", "parcels", "before", "after"]) F 2 ["before", "after"] [] (fun us mv ws => us ++ (ws ++ mv)) (by simp) (by simp) (fun r1 r2 r3 => r1.append (r3.append r2)) fun D doc pm an cdv ct us mv ws h4 hk hw => by
      match us, mv, ws, h4, hk, hw with
      | [_, _], [], [_, _], _, _, _ => exact rfl
    have e : (fun (vs zs : List V) => vs ++ (zs ++ ([] : List (Str × V)).map (·.2))) = fun vs zs => vs ++ zs := by
      funext vs zs
      rw [List.map_nil, List.append_nil]
    rw [e] at hb
    exact ⟨f, fd, _, _, ok, hm, F.kp, hb⟩
end Mv

set_option Elab.async false
set_option linter.all false
set_option maxRecDepth 100000
set_option maxHeartbeats 8000000
namespace Mv
open PySem PySem.Spec PyProof.Rows L2
abbrev sIni : Stmt := inClass (topS 2) 0
theorem cal_of {CX : CXT} {P : Program} {w : World} {K : PySem.W.Frag} {mg : Str → Option Value} {base : Heap} {k : Nat} {x : Str} {st : Stmt} {f : Addr} {fd : FuncData} {ps : List Str} {sp : Sp} (F : Fun K x x st f fd) (hm : mg x = some (.ref f)) (b : Binds K fd ps []) (h : FnOk P w K mg base CX k f fd ps sp) : CalX CX P w K mg base k x sp := ⟨f, fd, ps, h, hm, F.kp, b⟩
theorem scIni : ScI (defScope sIni) "self" "name" := ⟨rfl, rfl, rfl, rfl, rfl, by decide +kernel, by decide +kernel, by decide +kernel, rfl, rfl⟩
theorem ok_bini {P : Program} {w : World} {K : PySem.W.Frag} {mg : Str → Option Value} {base : Heap} {f c cc C : Addr} {kV doc pm ct oc : Value} {an od : Option Addr} {osl : Array (Option Value)}
    (lk : K.lookup f = some ⟨oc, od, .func (PySem.W.ksFn "__init__" "BadKind.__init__" (defArgs sIni) (defBody sIni) (defScope sIni) .none kV doc pm an (.ref c) ct cc), osl⟩) (hcd : PySem.W.codeIn K (.ref c) "BadKind.__init__" = true) (U : SupK P K f c cc C) (hsup : mg "super" = none) (hno : PySem.W.findIn K (.ref C) "name" = some none) :
    FnOk P w K mg base CX0 1 f (PySem.W.ksFn "__init__" "BadKind.__init__" (defArgs sIni) (defBody sIni) (defScope sIni) .none kV doc pm an (.ref c) ct cc) ["self", "name"] (spIniB K C "name") :=
  ok_iniB (kn := 0) (head := "not the name of a kind: ") (fun _ => rfl) (fun _ => rfl) lk hcd scIni U hsup hno (by decide) rfl rfl (by decide) (by decide)
theorem bind_bini {K : PySem.W.Frag} {c cc : Addr} {kV doc pm ct : Value} {an : Option Addr} : Binds K (PySem.W.ksFn "__init__" "BadKind.__init__" (defArgs sIni) (defBody sIni) (defScope sIni) .none kV doc pm an (.ref c) ct cc) ["self", "name"] [] := .all fun us hl => match us, hl with | [_, _], _ => rfl
def clsOf (a b c d e f g h : Addr) : Kd → Addr
  | .list => a | .bag => b | .set => c | .first => d | .last => e | .ends => f | .heads => g | .tails => h
abbrev rwK : PySem.W.OpenLaw := PySem.Challenge.rw_movedstates_k39_free_orders_exactly
theorem all_mk {w : World} {K : PySem.W.Frag} {h : Heap} {mg : Str → Option Value} {fa : Addr}
    {f_w_stream : Addr} {od_w_stream an_w_stream : Option Addr} {sl_w_stream : Array (Option Value)} {oc_w_stream kV_w_stream dc_w_stream pm_w_stream cd_w_stream ct_w_stream : Value}
    {f_w_draw : Addr} {od_w_draw an_w_draw : Option Addr} {sl_w_draw : Array (Option Value)} {oc_w_draw kV_w_draw dc_w_draw pm_w_draw cd_w_draw ct_w_draw : Value}
    {f_w_wide : Addr} {od_w_wide an_w_wide : Option Addr} {sl_w_wide : Array (Option Value)} {oc_w_wide kV_w_wide dc_w_wide pm_w_wide cd_w_wide ct_w_wide : Value}
    {f_w_value : Addr} {od_w_value an_w_value : Option Addr} {sl_w_value : Array (Option Value)} {oc_w_value kV_w_value dc_w_value pm_w_value cd_w_value ct_w_value : Value}
    {f_w_word : Addr} {od_w_word an_w_word : Option Addr} {sl_w_word : Array (Option Value)} {oc_w_word kV_w_word dc_w_word pm_w_word cd_w_word ct_w_word : Value}
    {f_w_parcel : Addr} {od_w_parcel an_w_parcel : Option Addr} {sl_w_parcel : Array (Option Value)} {oc_w_parcel kV_w_parcel dc_w_parcel pm_w_parcel cd_w_parcel ct_w_parcel : Value}
    {f_w_drawn : Addr} {od_w_drawn an_w_drawn : Option Addr} {sl_w_drawn : Array (Option Value)} {oc_w_drawn kV_w_drawn dc_w_drawn pm_w_drawn cd_w_drawn ct_w_drawn : Value}
    {f_w_around : Addr} {od_w_around an_w_around : Option Addr} {sl_w_around : Array (Option Value)} {oc_w_around kV_w_around dc_w_around pm_w_around cd_w_around ct_w_around : Value}
    {f_w_joined : Addr} {od_w_joined an_w_joined : Option Addr} {sl_w_joined : Array (Option Value)} {oc_w_joined kV_w_joined dc_w_joined pm_w_joined cd_w_joined ct_w_joined : Value}
    {f_w_plain : Addr} {od_w_plain an_w_plain : Option Addr} {sl_w_plain : Array (Option Value)} {oc_w_plain kV_w_plain dc_w_plain pm_w_plain cd_w_plain ct_w_plain : Value}
    {f_w_new : Addr} {od_w_new an_w_new : Option Addr} {sl_w_new : Array (Option Value)} {oc_w_new kV_w_new dc_w_new pm_w_new cd_w_new ct_w_new : Value}
    {f_w_rear : Addr} {od_w_rear an_w_rear : Option Addr} {sl_w_rear : Array (Option Value)} {oc_w_rear kV_w_rear dc_w_rear pm_w_rear cd_w_rear ct_w_rear : Value}
    {f_w_chained : Addr} {od_w_chained an_w_chained : Option Addr} {sl_w_chained : Array (Option Value)} {oc_w_chained kV_w_chained dc_w_chained pm_w_chained cd_w_chained ct_w_chained : Value}
    {f_w_orders : Addr} {od_w_orders an_w_orders : Option Addr} {sl_w_orders : Array (Option Value)} {oc_w_orders kV_w_orders dc_w_orders pm_w_orders cd_w_orders ct_w_orders : Value}
    {f_w_two : Addr} {od_w_two an_w_two : Option Addr} {sl_w_two : Array (Option Value)} {oc_w_two kV_w_two dc_w_two pm_w_two cd_w_two ct_w_two : Value}
    {f_w_free : Addr} {od_w_free an_w_free : Option Addr} {sl_w_free : Array (Option Value)} {oc_w_free kV_w_free dc_w_free pm_w_free cd_w_free ct_w_free : Value}
    {f_w_pair : Addr} {od_w_pair an_w_pair : Option Addr} {sl_w_pair : Array (Option Value)} {oc_w_pair kV_w_pair dc_w_pair pm_w_pair cd_w_pair ct_w_pair : Value}
    {f_w_told : Addr} {od_w_told an_w_told : Option Addr} {sl_w_told : Array (Option Value)} {oc_w_told kV_w_told dc_w_told pm_w_told cd_w_told ct_w_told : Value}
    {f_w_asked : Addr} {od_w_asked an_w_asked : Option Addr} {sl_w_asked : Array (Option Value)} {oc_w_asked kV_w_asked dc_w_asked pm_w_asked cd_w_asked ct_w_asked : Value}
    {f_w_twos : Addr} {od_w_twos an_w_twos : Option Addr} {sl_w_twos : Array (Option Value)} {oc_w_twos kV_w_twos dc_w_twos pm_w_twos cd_w_twos ct_w_twos : Value}
    {f_w_refused : Addr} {od_w_refused an_w_refused : Option Addr} {sl_w_refused : Array (Option Value)} {oc_w_refused kV_w_refused dc_w_refused pm_w_refused cd_w_refused ct_w_refused : Value}
    {f_w_good : Addr} {od_w_good an_w_good : Option Addr} {sl_w_good : Array (Option Value)} {oc_w_good kV_w_good dc_w_good pm_w_good cd_w_good ct_w_good : Value}
    {f_law : Addr} {od_law an_law : Option Addr} {sl_law : Array (Option Value)} {oc_law kV_law dc_law pm_law cd_law ct_law : Value}
    {f_least_places : Addr} {od_least_places an_least_places : Option Addr} {sl_least_places : Array (Option Value)} {oc_least_places kV_least_places dc_least_places pm_least_places cd_least_places ct_least_places : Value}
    {f_greatest_places : Addr} {od_greatest_places an_greatest_places : Option Addr} {sl_greatest_places : Array (Option Value)} {oc_greatest_places kV_greatest_places dc_greatest_places pm_greatest_places cd_greatest_places ct_greatest_places : Value}
    {f_kind_named : Addr} {od_kind_named an_kind_named : Option Addr} {sl_kind_named : Array (Option Value)} {oc_kind_named kV_kind_named dc_kind_named pm_kind_named cd_kind_named ct_kind_named : Value}
    {f_word_of : Addr} {od_word_of an_word_of : Option Addr} {sl_word_of : Array (Option Value)} {oc_word_of kV_word_of dc_word_of pm_word_of cd_word_of ct_word_of : Value}
    {f_parted_parcels : Addr} {od_parted_parcels an_parted_parcels : Option Addr} {sl_parted_parcels : Array (Option Value)} {oc_parted_parcels kV_parted_parcels dc_parted_parcels pm_parted_parcels cd_parted_parcels ct_parted_parcels : Value}
    {f_moved_pair : Addr} {od_moved_pair an_moved_pair : Option Addr} {sl_moved_pair : Array (Option Value)} {oc_moved_pair kV_moved_pair dc_moved_pair pm_moved_pair cd_moved_pair ct_moved_pair : Value}
    {f_free_shuffles : Addr} {od_free_shuffles an_free_shuffles : Option Addr} {sl_free_shuffles : Array (Option Value)} {oc_free_shuffles dc_free_shuffles pm_free_shuffles cd_free_shuffles ct_free_shuffles : Value}
    {D_free_shuffles e1_free_shuffles e2_free_shuffles : Addr} {oe1_free_shuffles oe2_free_shuffles : Option Addr} {n1_free_shuffles n2_free_shuffles : Nat} {se1_free_shuffles se2_free_shuffles : Array (Option Value)}
    {f_free_orders : Addr} {od_free_orders an_free_orders : Option Addr} {sl_free_orders : Array (Option Value)} {oc_free_orders dc_free_orders pm_free_orders cd_free_orders ct_free_orders : Value}
    {D_free_orders e1_free_orders e2_free_orders : Addr} {oe1_free_orders oe2_free_orders : Option Addr} {n1_free_orders n2_free_orders : Nat} {se1_free_orders se2_free_orders : Array (Option Value)}
    {C_Kind : Addr}
    {nt_Kind : Tok}
    {f_kO : Addr} {od_kO an_kO : Option Addr} {sl_kO : Array (Option Value)} {oc_kO kV_kO dc_kO pm_kO cd_kO ct_kO : Value}
    {C_BagKind : Addr}
    {nt_BagKind : Tok}
    {f_kB : Addr} {od_kB an_kB : Option Addr} {sl_kB : Array (Option Value)} {oc_kB kV_kB dc_kB pm_kB ct_kB : Value}
    {C_SetKind : Addr}
    {nt_SetKind : Tok}
    {f_kS : Addr} {od_kS an_kS : Option Addr} {sl_kS : Array (Option Value)} {oc_kS kV_kS dc_kS pm_kS cd_kS ct_kS : Value}
    {C_FirstKind : Addr}
    {nt_FirstKind : Tok}
    {f_kF : Addr} {od_kF an_kF : Option Addr} {sl_kF : Array (Option Value)} {oc_kF kV_kF dc_kF pm_kF cd_kF ct_kF : Value}
    {C_LastKind : Addr}
    {nt_LastKind : Tok}
    {f_kL : Addr} {od_kL an_kL : Option Addr} {sl_kL : Array (Option Value)} {oc_kL kV_kL dc_kL pm_kL cd_kL ct_kL : Value}
    {C_EndsKind : Addr}
    {nt_EndsKind : Tok}
    {f_kE : Addr} {od_kE an_kE : Option Addr} {sl_kE : Array (Option Value)} {oc_kE kV_kE dc_kE pm_kE cd_kE ct_kE : Value}
    {C_HeadsKind : Addr}
    {nt_HeadsKind : Tok}
    {f_kH : Addr} {od_kH an_kH : Option Addr} {sl_kH : Array (Option Value)} {oc_kH kV_kH dc_kH pm_kH cd_kH ct_kH : Value}
    {C_TailsKind : Addr}
    {nt_TailsKind : Tok}
    {f_kT : Addr} {od_kT an_kT : Option Addr} {sl_kT : Array (Option Value)} {oc_kT kV_kT dc_kT pm_kT cd_kT ct_kT : Value}
    {cB Pt : Addr}
    {f_pl : Addr} {od_pl an_pl : Option Addr} {sl_pl : Array (Option Value)} {oc_pl kV_pl dc_pl pm_pl cd_pl ct_pl : Value}
    {kn : Addr} {odN : Option Addr} {slN : Array (Option Value)} {nN : Nat} {t0 t1 t2 t3 t4 t5 t6 t7 : Tok}
    {CB : Addr} {nm q : Str} {NB : Addr} {bs : List Value} {bm : List Value} {sn : List Str} {sub : List Value} {ab : Bool} {col : Option Bool} {dd : Option Addr} {m0 m1 m2 m3 m5 : Option Value}
    {f_i c_i cc : Addr} {od_i an_i : Option Addr} {sl_i : Array (Option Value)} {oc_i kV_i dc_i pm_i ct_i : Value} {ccl : Value} {cdd : Option Addr} {vsC : Array Value} {ccs : Array (Option Value)} {file : Str} {tf : Tok} {cl : Value} {cld : Option Addr} {csl : Array (Option Value)} {cdB : ClassData}
    (X : K.In h) (G : h.Ns mainGlobals mg) (hfa : mg "law" = some (.ref fa)) (hPt : h.get? Pt = some { cls := .none, data := .fields #[] })
    (z_len : PySem.W.nsIn K mainGlobals "len" = some none)
    (z_range : PySem.W.nsIn K mainGlobals "range" = some none)
    (z_enumerate : PySem.W.nsIn K mainGlobals "enumerate" = some none)
    (z_abs : PySem.W.nsIn K mainGlobals "abs" = some none)
    (z_int : PySem.W.nsIn K mainGlobals "int" = some none)
    (z_list : PySem.W.nsIn K mainGlobals "list" = some none)
    (z_tuple : PySem.W.nsIn K mainGlobals "tuple" = some none)
    (z_sorted : PySem.W.nsIn K mainGlobals "sorted" = some none)
    (z_isinstance : PySem.W.nsIn K mainGlobals "isinstance" = some none)
    (z_str : PySem.W.nsIn K mainGlobals "str" = some none)
    (z_bool : PySem.W.nsIn K mainGlobals "bool" = some none)
    (z_super : PySem.W.nsIn K mainGlobals "super" = some none)
    (z_ValueError : PySem.W.nsIn K mainGlobals "ValueError" = some none)
    (z_min : PySem.W.nsIn K mainGlobals "min" = some none)
    (z_all : PySem.W.nsIn K mainGlobals "all" = some none)
    (a_w_stream : PySem.W.nsIn K mainGlobals "_law_stream" = some (some (.ref f_w_stream)))
    (l_w_stream : K.lookup f_w_stream = some ⟨oc_w_stream, od_w_stream, .func (PySem.W.fnOf "_law_stream" "_law_stream" (defArgs sStream) (defBody sStream) (defScope sStream) .none kV_w_stream dc_w_stream pm_w_stream an_w_stream cd_w_stream ct_w_stream), sl_w_stream⟩)
    (c_w_stream : PySem.W.codeIn K cd_w_stream "_law_stream" = true)
    (k_w_stream : PySem.W.keepIn K (.ref f_w_stream) = true)
    (a_w_draw : PySem.W.nsIn K mainGlobals "_law_draw" = some (some (.ref f_w_draw)))
    (l_w_draw : K.lookup f_w_draw = some ⟨oc_w_draw, od_w_draw, .func (PySem.W.fnOf "_law_draw" "_law_draw" (defArgs sDraw) (defBody sDraw) (defScope sDraw) .none kV_w_draw dc_w_draw pm_w_draw an_w_draw cd_w_draw ct_w_draw), sl_w_draw⟩)
    (c_w_draw : PySem.W.codeIn K cd_w_draw "_law_draw" = true)
    (k_w_draw : PySem.W.keepIn K (.ref f_w_draw) = true)
    (a_w_wide : PySem.W.nsIn K mainGlobals "_law_wide" = some (some (.ref f_w_wide)))
    (l_w_wide : K.lookup f_w_wide = some ⟨oc_w_wide, od_w_wide, .func (PySem.W.fnOf "_law_wide" "_law_wide" (defArgs sWide) (defBody sWide) (defScope sWide) .none kV_w_wide dc_w_wide pm_w_wide an_w_wide cd_w_wide ct_w_wide), sl_w_wide⟩)
    (c_w_wide : PySem.W.codeIn K cd_w_wide "_law_wide" = true)
    (k_w_wide : PySem.W.keepIn K (.ref f_w_wide) = true)
    (a_w_value : PySem.W.nsIn K mainGlobals "_law_value" = some (some (.ref f_w_value)))
    (l_w_value : K.lookup f_w_value = some ⟨oc_w_value, od_w_value, .func (PySem.W.fnOf "_law_value" "_law_value" (defArgs sValue) (defBody sValue) (defScope sValue) .none kV_w_value dc_w_value pm_w_value an_w_value cd_w_value ct_w_value), sl_w_value⟩)
    (c_w_value : PySem.W.codeIn K cd_w_value "_law_value" = true)
    (k_w_value : PySem.W.keepIn K (.ref f_w_value) = true)
    (a_w_word : PySem.W.nsIn K mainGlobals "_law_word" = some (some (.ref f_w_word)))
    (l_w_word : K.lookup f_w_word = some ⟨oc_w_word, od_w_word, .func (PySem.W.fnOf "_law_word" "_law_word" (defArgs sWord) (defBody sWord) (defScope sWord) .none kV_w_word dc_w_word pm_w_word an_w_word cd_w_word ct_w_word), sl_w_word⟩)
    (c_w_word : PySem.W.codeIn K cd_w_word "_law_word" = true)
    (k_w_word : PySem.W.keepIn K (.ref f_w_word) = true)
    (a_w_parcel : PySem.W.nsIn K mainGlobals "_law_parcel" = some (some (.ref f_w_parcel)))
    (l_w_parcel : K.lookup f_w_parcel = some ⟨oc_w_parcel, od_w_parcel, .func (PySem.W.fnOf "_law_parcel" "_law_parcel" (defArgs sParcel) (defBody sParcel) (defScope sParcel) .none kV_w_parcel dc_w_parcel pm_w_parcel an_w_parcel cd_w_parcel ct_w_parcel), sl_w_parcel⟩)
    (c_w_parcel : PySem.W.codeIn K cd_w_parcel "_law_parcel" = true)
    (k_w_parcel : PySem.W.keepIn K (.ref f_w_parcel) = true)
    (a_w_drawn : PySem.W.nsIn K mainGlobals "_law_drawn" = some (some (.ref f_w_drawn)))
    (l_w_drawn : K.lookup f_w_drawn = some ⟨oc_w_drawn, od_w_drawn, .func (PySem.W.fnOf "_law_drawn" "_law_drawn" (defArgs sDrawn) (defBody sDrawn) (defScope sDrawn) .none kV_w_drawn dc_w_drawn pm_w_drawn an_w_drawn cd_w_drawn ct_w_drawn), sl_w_drawn⟩)
    (c_w_drawn : PySem.W.codeIn K cd_w_drawn "_law_drawn" = true)
    (k_w_drawn : PySem.W.keepIn K (.ref f_w_drawn) = true)
    (a_w_around : PySem.W.nsIn K mainGlobals "_law_around" = some (some (.ref f_w_around)))
    (l_w_around : K.lookup f_w_around = some ⟨oc_w_around, od_w_around, .func (PySem.W.fnOf "_law_around" "_law_around" (defArgs sAround) (defBody sAround) (defScope sAround) .none kV_w_around dc_w_around pm_w_around an_w_around cd_w_around ct_w_around), sl_w_around⟩)
    (c_w_around : PySem.W.codeIn K cd_w_around "_law_around" = true)
    (k_w_around : PySem.W.keepIn K (.ref f_w_around) = true)
    (a_w_joined : PySem.W.nsIn K mainGlobals "_law_joined" = some (some (.ref f_w_joined)))
    (l_w_joined : K.lookup f_w_joined = some ⟨oc_w_joined, od_w_joined, .func (PySem.W.fnOf "_law_joined" "_law_joined" (defArgs sJoined) (defBody sJoined) (defScope sJoined) .none kV_w_joined dc_w_joined pm_w_joined an_w_joined cd_w_joined ct_w_joined), sl_w_joined⟩)
    (c_w_joined : PySem.W.codeIn K cd_w_joined "_law_joined" = true)
    (k_w_joined : PySem.W.keepIn K (.ref f_w_joined) = true)
    (a_w_plain : PySem.W.nsIn K mainGlobals "_law_plain" = some (some (.ref f_w_plain)))
    (l_w_plain : K.lookup f_w_plain = some ⟨oc_w_plain, od_w_plain, .func (PySem.W.fnOf "_law_plain" "_law_plain" (defArgs sPlain) (defBody sPlain) (defScope sPlain) .none kV_w_plain dc_w_plain pm_w_plain an_w_plain cd_w_plain ct_w_plain), sl_w_plain⟩)
    (c_w_plain : PySem.W.codeIn K cd_w_plain "_law_plain" = true)
    (k_w_plain : PySem.W.keepIn K (.ref f_w_plain) = true)
    (a_w_new : PySem.W.nsIn K mainGlobals "_law_new" = some (some (.ref f_w_new)))
    (l_w_new : K.lookup f_w_new = some ⟨oc_w_new, od_w_new, .func (PySem.W.fnOf "_law_new" "_law_new" (defArgs sNew) (defBody sNew) (defScope sNew) .none kV_w_new dc_w_new pm_w_new an_w_new cd_w_new ct_w_new), sl_w_new⟩)
    (c_w_new : PySem.W.codeIn K cd_w_new "_law_new" = true)
    (k_w_new : PySem.W.keepIn K (.ref f_w_new) = true)
    (a_w_rear : PySem.W.nsIn K mainGlobals "_law_rear" = some (some (.ref f_w_rear)))
    (l_w_rear : K.lookup f_w_rear = some ⟨oc_w_rear, od_w_rear, .func (PySem.W.fnOf "_law_rear" "_law_rear" (defArgs sRear) (defBody sRear) (defScope sRear) .none kV_w_rear dc_w_rear pm_w_rear an_w_rear cd_w_rear ct_w_rear), sl_w_rear⟩)
    (c_w_rear : PySem.W.codeIn K cd_w_rear "_law_rear" = true)
    (k_w_rear : PySem.W.keepIn K (.ref f_w_rear) = true)
    (a_w_chained : PySem.W.nsIn K mainGlobals "_law_chained" = some (some (.ref f_w_chained)))
    (l_w_chained : K.lookup f_w_chained = some ⟨oc_w_chained, od_w_chained, .func (PySem.W.fnOf "_law_chained" "_law_chained" (defArgs sChained) (defBody sChained) (defScope sChained) .none kV_w_chained dc_w_chained pm_w_chained an_w_chained cd_w_chained ct_w_chained), sl_w_chained⟩)
    (c_w_chained : PySem.W.codeIn K cd_w_chained "_law_chained" = true)
    (k_w_chained : PySem.W.keepIn K (.ref f_w_chained) = true)
    (a_w_orders : PySem.W.nsIn K mainGlobals "_law_orders" = some (some (.ref f_w_orders)))
    (l_w_orders : K.lookup f_w_orders = some ⟨oc_w_orders, od_w_orders, .func (PySem.W.fnOf "_law_orders" "_law_orders" (defArgs sOrd) (defBody sOrd) (defScope sOrd) .none kV_w_orders dc_w_orders pm_w_orders an_w_orders cd_w_orders ct_w_orders), sl_w_orders⟩)
    (c_w_orders : PySem.W.codeIn K cd_w_orders "_law_orders" = true)
    (k_w_orders : PySem.W.keepIn K (.ref f_w_orders) = true)
    (a_w_two : PySem.W.nsIn K mainGlobals "_law_two" = some (some (.ref f_w_two)))
    (l_w_two : K.lookup f_w_two = some ⟨oc_w_two, od_w_two, .func (PySem.W.fnOf "_law_two" "_law_two" (defArgs sTwo) (defBody sTwo) (defScope sTwo) .none kV_w_two dc_w_two pm_w_two an_w_two cd_w_two ct_w_two), sl_w_two⟩)
    (c_w_two : PySem.W.codeIn K cd_w_two "_law_two" = true)
    (k_w_two : PySem.W.keepIn K (.ref f_w_two) = true)
    (a_w_free : PySem.W.nsIn K mainGlobals "_law_free" = some (some (.ref f_w_free)))
    (l_w_free : K.lookup f_w_free = some ⟨oc_w_free, od_w_free, .func (PySem.W.fnOf "_law_free" "_law_free" (defArgs sFree) (defBody sFree) (defScope sFree) .none kV_w_free dc_w_free pm_w_free an_w_free cd_w_free ct_w_free), sl_w_free⟩)
    (c_w_free : PySem.W.codeIn K cd_w_free "_law_free" = true)
    (k_w_free : PySem.W.keepIn K (.ref f_w_free) = true)
    (a_w_pair : PySem.W.nsIn K mainGlobals "_law_pair" = some (some (.ref f_w_pair)))
    (l_w_pair : K.lookup f_w_pair = some ⟨oc_w_pair, od_w_pair, .func (PySem.W.fnOf "_law_pair" "_law_pair" (defArgs sPair) (defBody sPair) (defScope sPair) .none kV_w_pair dc_w_pair pm_w_pair an_w_pair cd_w_pair ct_w_pair), sl_w_pair⟩)
    (c_w_pair : PySem.W.codeIn K cd_w_pair "_law_pair" = true)
    (k_w_pair : PySem.W.keepIn K (.ref f_w_pair) = true)
    (a_w_told : PySem.W.nsIn K mainGlobals "_law_told" = some (some (.ref f_w_told)))
    (l_w_told : K.lookup f_w_told = some ⟨oc_w_told, od_w_told, .func (PySem.W.fnOf "_law_told" "_law_told" (defArgs sTold) (defBody sTold) (defScope sTold) .none kV_w_told dc_w_told pm_w_told an_w_told cd_w_told ct_w_told), sl_w_told⟩)
    (c_w_told : PySem.W.codeIn K cd_w_told "_law_told" = true)
    (k_w_told : PySem.W.keepIn K (.ref f_w_told) = true)
    (a_w_asked : PySem.W.nsIn K mainGlobals "_law_asked" = some (some (.ref f_w_asked)))
    (l_w_asked : K.lookup f_w_asked = some ⟨oc_w_asked, od_w_asked, .func (PySem.W.fnOf "_law_asked" "_law_asked" (defArgs sAsked) (defBody sAsked) (defScope sAsked) .none kV_w_asked dc_w_asked pm_w_asked an_w_asked cd_w_asked ct_w_asked), sl_w_asked⟩)
    (c_w_asked : PySem.W.codeIn K cd_w_asked "_law_asked" = true)
    (k_w_asked : PySem.W.keepIn K (.ref f_w_asked) = true)
    (a_w_twos : PySem.W.nsIn K mainGlobals "_law_twos" = some (some (.ref f_w_twos)))
    (l_w_twos : K.lookup f_w_twos = some ⟨oc_w_twos, od_w_twos, .func (PySem.W.fnOf "_law_twos" "_law_twos" (defArgs sTwos) (defBody sTwos) (defScope sTwos) .none kV_w_twos dc_w_twos pm_w_twos an_w_twos cd_w_twos ct_w_twos), sl_w_twos⟩)
    (c_w_twos : PySem.W.codeIn K cd_w_twos "_law_twos" = true)
    (k_w_twos : PySem.W.keepIn K (.ref f_w_twos) = true)
    (a_w_refused : PySem.W.nsIn K mainGlobals "_law_refused" = some (some (.ref f_w_refused)))
    (l_w_refused : K.lookup f_w_refused = some ⟨oc_w_refused, od_w_refused, .func (PySem.W.fnOf "_law_refused" "_law_refused" (defArgs sRef) (defBody sRef) (defScope sRef) .none kV_w_refused dc_w_refused pm_w_refused an_w_refused cd_w_refused ct_w_refused), sl_w_refused⟩)
    (c_w_refused : PySem.W.codeIn K cd_w_refused "_law_refused" = true)
    (k_w_refused : PySem.W.keepIn K (.ref f_w_refused) = true)
    (a_w_good : PySem.W.nsIn K mainGlobals "_law_good" = some (some (.ref f_w_good)))
    (l_w_good : K.lookup f_w_good = some ⟨oc_w_good, od_w_good, .func (PySem.W.fnOf "_law_good" "_law_good" (defArgs sGood) (defBody sGood) (defScope sGood) .none kV_w_good dc_w_good pm_w_good an_w_good cd_w_good ct_w_good), sl_w_good⟩)
    (c_w_good : PySem.W.codeIn K cd_w_good "_law_good" = true)
    (k_w_good : PySem.W.keepIn K (.ref f_w_good) = true)
    (a_law : PySem.W.nsIn K mainGlobals "law" = some (some (.ref f_law)))
    (l_law : K.lookup f_law = some ⟨oc_law, od_law, .func (PySem.W.fnOf "law" "law" (defArgs sLaw) (defBody sLaw) (defScope sLaw) .none kV_law dc_law pm_law an_law cd_law ct_law), sl_law⟩)
    (c_law : PySem.W.codeIn K cd_law "law" = true)
    (k_law : PySem.W.keepIn K (.ref f_law) = true)
    (a_least_places : PySem.W.nsIn K mainGlobals "least_places" = some (some (.ref f_least_places)))
    (l_least_places : K.lookup f_least_places = some ⟨oc_least_places, od_least_places, .func (PySem.W.fnOf "least_places" "least_places" (defArgs sLeast) (defBody sLeast) (defScope sLeast) .none kV_least_places dc_least_places pm_least_places an_least_places cd_least_places ct_least_places), sl_least_places⟩)
    (c_least_places : PySem.W.codeIn K cd_least_places "least_places" = true)
    (k_least_places : PySem.W.keepIn K (.ref f_least_places) = true)
    (a_greatest_places : PySem.W.nsIn K mainGlobals "greatest_places" = some (some (.ref f_greatest_places)))
    (l_greatest_places : K.lookup f_greatest_places = some ⟨oc_greatest_places, od_greatest_places, .func (PySem.W.fnOf "greatest_places" "greatest_places" (defArgs sGreat) (defBody sGreat) (defScope sGreat) .none kV_greatest_places dc_greatest_places pm_greatest_places an_greatest_places cd_greatest_places ct_greatest_places), sl_greatest_places⟩)
    (c_greatest_places : PySem.W.codeIn K cd_greatest_places "greatest_places" = true)
    (k_greatest_places : PySem.W.keepIn K (.ref f_greatest_places) = true)
    (a_kind_named : PySem.W.nsIn K mainGlobals "kind_named" = some (some (.ref f_kind_named)))
    (l_kind_named : K.lookup f_kind_named = some ⟨oc_kind_named, od_kind_named, .func (PySem.W.fnOf "kind_named" "kind_named" (defArgs sKN) (defBody sKN) (defScope sKN) .none kV_kind_named dc_kind_named pm_kind_named an_kind_named cd_kind_named ct_kind_named), sl_kind_named⟩)
    (c_kind_named : PySem.W.codeIn K cd_kind_named "kind_named" = true)
    (k_kind_named : PySem.W.keepIn K (.ref f_kind_named) = true)
    (a_word_of : PySem.W.nsIn K mainGlobals "word_of" = some (some (.ref f_word_of)))
    (l_word_of : K.lookup f_word_of = some ⟨oc_word_of, od_word_of, .func (PySem.W.fnOf "word_of" "word_of" (defArgs sWO) (defBody sWO) (defScope sWO) .none kV_word_of dc_word_of pm_word_of an_word_of cd_word_of ct_word_of), sl_word_of⟩)
    (c_word_of : PySem.W.codeIn K cd_word_of "word_of" = true)
    (k_word_of : PySem.W.keepIn K (.ref f_word_of) = true)
    (a_parted_parcels : PySem.W.nsIn K mainGlobals "parted_parcels" = some (some (.ref f_parted_parcels)))
    (l_parted_parcels : K.lookup f_parted_parcels = some ⟨oc_parted_parcels, od_parted_parcels, .func (PySem.W.fnOf "parted_parcels" "parted_parcels" (defArgs sPP) (defBody sPP) (defScope sPP) .none kV_parted_parcels dc_parted_parcels pm_parted_parcels an_parted_parcels cd_parted_parcels ct_parted_parcels), sl_parted_parcels⟩)
    (c_parted_parcels : PySem.W.codeIn K cd_parted_parcels "parted_parcels" = true)
    (k_parted_parcels : PySem.W.keepIn K (.ref f_parted_parcels) = true)
    (a_moved_pair : PySem.W.nsIn K mainGlobals "moved_pair" = some (some (.ref f_moved_pair)))
    (l_moved_pair : K.lookup f_moved_pair = some ⟨oc_moved_pair, od_moved_pair, .func (PySem.W.fnOf "moved_pair" "moved_pair" (defArgs sMP) (defBody sMP) (defScope sMP) .none kV_moved_pair dc_moved_pair pm_moved_pair an_moved_pair cd_moved_pair ct_moved_pair), sl_moved_pair⟩)
    (c_moved_pair : PySem.W.codeIn K cd_moved_pair "moved_pair" = true)
    (k_moved_pair : PySem.W.keepIn K (.ref f_moved_pair) = true)
    (a_free_shuffles : PySem.W.nsIn K mainGlobals "free_shuffles" = some (some (.ref f_free_shuffles)))
    (l_free_shuffles : K.lookup f_free_shuffles = some ⟨oc_free_shuffles, od_free_shuffles, .func (PySem.W.fnOf "free_shuffles" "free_shuffles" (defArgs sFS) (defBody sFS) (defScope sFS) .none (.ref D_free_shuffles) dc_free_shuffles pm_free_shuffles an_free_shuffles cd_free_shuffles ct_free_shuffles), sl_free_shuffles⟩)
    (c_free_shuffles : PySem.W.codeIn K cd_free_shuffles "free_shuffles" = true)
    (k_free_shuffles : PySem.W.keepIn K (.ref f_free_shuffles) = true)
    (d1_free_shuffles : PySem.W.nsIn K D_free_shuffles "before" = some (some (.ref e1_free_shuffles)))
    (d2_free_shuffles : PySem.W.nsIn K D_free_shuffles "after" = some (some (.ref e2_free_shuffles)))
    (x1_free_shuffles : K.lookup e1_free_shuffles = some ⟨.type "tuple", oe1_free_shuffles, .seq #[] n1_free_shuffles, se1_free_shuffles⟩)
    (x2_free_shuffles : K.lookup e2_free_shuffles = some ⟨.type "tuple", oe2_free_shuffles, .seq #[] n2_free_shuffles, se2_free_shuffles⟩)
    (a_free_orders : PySem.W.nsIn K mainGlobals "free_orders" = some (some (.ref f_free_orders)))
    (l_free_orders : K.lookup f_free_orders = some ⟨oc_free_orders, od_free_orders, .func (PySem.W.fnOf "free_orders" "free_orders" (defArgs sFO) (defBody sFO) (defScope sFO) .none (.ref D_free_orders) dc_free_orders pm_free_orders an_free_orders cd_free_orders ct_free_orders), sl_free_orders⟩)
    (c_free_orders : PySem.W.codeIn K cd_free_orders "free_orders" = true)
    (k_free_orders : PySem.W.keepIn K (.ref f_free_orders) = true)
    (d1_free_orders : PySem.W.nsIn K D_free_orders "before" = some (some (.ref e1_free_orders)))
    (d2_free_orders : PySem.W.nsIn K D_free_orders "after" = some (some (.ref e2_free_orders)))
    (x1_free_orders : K.lookup e1_free_orders = some ⟨.type "tuple", oe1_free_orders, .seq #[] n1_free_orders, se1_free_orders⟩)
    (x2_free_orders : K.lookup e2_free_orders = some ⟨.type "tuple", oe2_free_orders, .seq #[] n2_free_orders, se2_free_orders⟩)
    (q_bt : PySem.W.specialIn K (.bool true) "__get__" = some none)
    (q_bf : PySem.W.specialIn K (.bool false) "__get__" = some none)
    (a_Kind : PySem.W.nsIn K mainGlobals "Kind" = some (some (.ref C_Kind)))
    (mk_Kind : PySem.W.makesIn K C_Kind = true)
    (in_Kind : PySem.W.findIn K (.ref C_Kind) "__init__" = some (some (.builtin "object.__init__")))
    (tp_Kind : PySem.W.mroIn K C_Kind (.type "object") = some true)
    (kc_Kind : PySem.W.keepIn K (.ref C_Kind) = true)
    (pg_Kind : PySem.W.plainGet K C_Kind Str.empty = true)
    (hd_Kind : PySem.W.hasDictIn K C_Kind = true)
    (po_Kind : PySem.W.plainOver K C_Kind = true)
    (sa_Kind : PySem.W.findIn K (.ref C_Kind) "__setattr__" = some (some (.builtin "object.__setattr__")))
    (qn_Kind : PySem.W.findIn K (.ref C_Kind) "NAME" = some (some (.str "list" nt_Kind)))
    (qng_Kind : PySem.W.specialIn K (.str "list" nt_Kind) "__get__" = some none)
    (qo_Kind : PySem.W.findIn K (.ref C_Kind) "ORDERLESS" = some (some (.bool false)))
    (a_kO : PySem.W.findIn K (.ref C_Kind) "keep" = some (some (.ref f_kO)))
    (i_kO : PySem.W.isFn K (.ref f_kO) = true)
    (l_kO : K.lookup f_kO = some ⟨oc_kO, od_kO, .func (PySem.W.fnOf "keep" "Kind.keep" (defArgs sKeepO) (defBody sKeepO) (defScope sKeepO) .none kV_kO dc_kO pm_kO an_kO cd_kO ct_kO), sl_kO⟩)
    (c_kO : PySem.W.codeIn K cd_kO "Kind.keep" = true)
    (k_kO : PySem.W.keepIn K (.ref f_kO) = true)
    (a_BagKind : PySem.W.nsIn K mainGlobals "BagKind" = some (some (.ref C_BagKind)))
    (mk_BagKind : PySem.W.makesIn K C_BagKind = true)
    (in_BagKind : PySem.W.findIn K (.ref C_BagKind) "__init__" = some (some (.builtin "object.__init__")))
    (tp_BagKind : PySem.W.mroIn K C_BagKind (.type "object") = some true)
    (kc_BagKind : PySem.W.keepIn K (.ref C_BagKind) = true)
    (pg_BagKind : PySem.W.plainGet K C_BagKind Str.empty = true)
    (hd_BagKind : PySem.W.hasDictIn K C_BagKind = true)
    (po_BagKind : PySem.W.plainOver K C_BagKind = true)
    (sa_BagKind : PySem.W.findIn K (.ref C_BagKind) "__setattr__" = some (some (.builtin "object.__setattr__")))
    (qn_BagKind : PySem.W.findIn K (.ref C_BagKind) "NAME" = some (some (.str "bag" nt_BagKind)))
    (qng_BagKind : PySem.W.specialIn K (.str "bag" nt_BagKind) "__get__" = some none)
    (qo_BagKind : PySem.W.findIn K (.ref C_BagKind) "ORDERLESS" = some (some (.bool true)))
    (a_kB : PySem.W.findIn K (.ref C_BagKind) "keep" = some (some (.ref f_kB)))
    (i_kB : PySem.W.isFn K (.ref f_kB) = true)
    (l_kB : K.lookup f_kB = some ⟨oc_kB, od_kB, .func (PySem.W.fnOf "keep" "BagKind.keep" (defArgs sKeepB) (defBody sKeepB) (defScope sKeepB) .none kV_kB dc_kB pm_kB an_kB (.ref cB) ct_kB), sl_kB⟩)
    (c_kB : PySem.W.codeIn K (.ref cB) "BagKind.keep" = true)
    (k_kB : PySem.W.keepIn K (.ref f_kB) = true)
    (a_SetKind : PySem.W.nsIn K mainGlobals "SetKind" = some (some (.ref C_SetKind)))
    (mk_SetKind : PySem.W.makesIn K C_SetKind = true)
    (in_SetKind : PySem.W.findIn K (.ref C_SetKind) "__init__" = some (some (.builtin "object.__init__")))
    (tp_SetKind : PySem.W.mroIn K C_SetKind (.type "object") = some true)
    (kc_SetKind : PySem.W.keepIn K (.ref C_SetKind) = true)
    (pg_SetKind : PySem.W.plainGet K C_SetKind Str.empty = true)
    (hd_SetKind : PySem.W.hasDictIn K C_SetKind = true)
    (po_SetKind : PySem.W.plainOver K C_SetKind = true)
    (sa_SetKind : PySem.W.findIn K (.ref C_SetKind) "__setattr__" = some (some (.builtin "object.__setattr__")))
    (qn_SetKind : PySem.W.findIn K (.ref C_SetKind) "NAME" = some (some (.str "set" nt_SetKind)))
    (qng_SetKind : PySem.W.specialIn K (.str "set" nt_SetKind) "__get__" = some none)
    (qo_SetKind : PySem.W.findIn K (.ref C_SetKind) "ORDERLESS" = some (some (.bool true)))
    (a_kS : PySem.W.findIn K (.ref C_SetKind) "keep" = some (some (.ref f_kS)))
    (i_kS : PySem.W.isFn K (.ref f_kS) = true)
    (l_kS : K.lookup f_kS = some ⟨oc_kS, od_kS, .func (PySem.W.fnOf "keep" "SetKind.keep" (defArgs sKeepS) (defBody sKeepS) (defScope sKeepS) .none kV_kS dc_kS pm_kS an_kS cd_kS ct_kS), sl_kS⟩)
    (c_kS : PySem.W.codeIn K cd_kS "SetKind.keep" = true)
    (k_kS : PySem.W.keepIn K (.ref f_kS) = true)
    (a_FirstKind : PySem.W.nsIn K mainGlobals "FirstKind" = some (some (.ref C_FirstKind)))
    (mk_FirstKind : PySem.W.makesIn K C_FirstKind = true)
    (in_FirstKind : PySem.W.findIn K (.ref C_FirstKind) "__init__" = some (some (.builtin "object.__init__")))
    (tp_FirstKind : PySem.W.mroIn K C_FirstKind (.type "object") = some true)
    (kc_FirstKind : PySem.W.keepIn K (.ref C_FirstKind) = true)
    (pg_FirstKind : PySem.W.plainGet K C_FirstKind Str.empty = true)
    (hd_FirstKind : PySem.W.hasDictIn K C_FirstKind = true)
    (po_FirstKind : PySem.W.plainOver K C_FirstKind = true)
    (sa_FirstKind : PySem.W.findIn K (.ref C_FirstKind) "__setattr__" = some (some (.builtin "object.__setattr__")))
    (qn_FirstKind : PySem.W.findIn K (.ref C_FirstKind) "NAME" = some (some (.str "first" nt_FirstKind)))
    (qng_FirstKind : PySem.W.specialIn K (.str "first" nt_FirstKind) "__get__" = some none)
    (qo_FirstKind : PySem.W.findIn K (.ref C_FirstKind) "ORDERLESS" = some (some (.bool false)))
    (a_kF : PySem.W.findIn K (.ref C_FirstKind) "keep" = some (some (.ref f_kF)))
    (i_kF : PySem.W.isFn K (.ref f_kF) = true)
    (l_kF : K.lookup f_kF = some ⟨oc_kF, od_kF, .func (PySem.W.fnOf "keep" "FirstKind.keep" (defArgs sKeepF) (defBody sKeepF) (defScope sKeepF) .none kV_kF dc_kF pm_kF an_kF cd_kF ct_kF), sl_kF⟩)
    (c_kF : PySem.W.codeIn K cd_kF "FirstKind.keep" = true)
    (k_kF : PySem.W.keepIn K (.ref f_kF) = true)
    (a_LastKind : PySem.W.nsIn K mainGlobals "LastKind" = some (some (.ref C_LastKind)))
    (mk_LastKind : PySem.W.makesIn K C_LastKind = true)
    (in_LastKind : PySem.W.findIn K (.ref C_LastKind) "__init__" = some (some (.builtin "object.__init__")))
    (tp_LastKind : PySem.W.mroIn K C_LastKind (.type "object") = some true)
    (kc_LastKind : PySem.W.keepIn K (.ref C_LastKind) = true)
    (pg_LastKind : PySem.W.plainGet K C_LastKind Str.empty = true)
    (hd_LastKind : PySem.W.hasDictIn K C_LastKind = true)
    (po_LastKind : PySem.W.plainOver K C_LastKind = true)
    (sa_LastKind : PySem.W.findIn K (.ref C_LastKind) "__setattr__" = some (some (.builtin "object.__setattr__")))
    (qn_LastKind : PySem.W.findIn K (.ref C_LastKind) "NAME" = some (some (.str "last" nt_LastKind)))
    (qng_LastKind : PySem.W.specialIn K (.str "last" nt_LastKind) "__get__" = some none)
    (qo_LastKind : PySem.W.findIn K (.ref C_LastKind) "ORDERLESS" = some (some (.bool false)))
    (a_kL : PySem.W.findIn K (.ref C_LastKind) "keep" = some (some (.ref f_kL)))
    (i_kL : PySem.W.isFn K (.ref f_kL) = true)
    (l_kL : K.lookup f_kL = some ⟨oc_kL, od_kL, .func (PySem.W.fnOf "keep" "LastKind.keep" (defArgs sKeepL) (defBody sKeepL) (defScope sKeepL) .none kV_kL dc_kL pm_kL an_kL cd_kL ct_kL), sl_kL⟩)
    (c_kL : PySem.W.codeIn K cd_kL "LastKind.keep" = true)
    (k_kL : PySem.W.keepIn K (.ref f_kL) = true)
    (a_EndsKind : PySem.W.nsIn K mainGlobals "EndsKind" = some (some (.ref C_EndsKind)))
    (mk_EndsKind : PySem.W.makesIn K C_EndsKind = true)
    (in_EndsKind : PySem.W.findIn K (.ref C_EndsKind) "__init__" = some (some (.builtin "object.__init__")))
    (tp_EndsKind : PySem.W.mroIn K C_EndsKind (.type "object") = some true)
    (kc_EndsKind : PySem.W.keepIn K (.ref C_EndsKind) = true)
    (pg_EndsKind : PySem.W.plainGet K C_EndsKind Str.empty = true)
    (hd_EndsKind : PySem.W.hasDictIn K C_EndsKind = true)
    (po_EndsKind : PySem.W.plainOver K C_EndsKind = true)
    (sa_EndsKind : PySem.W.findIn K (.ref C_EndsKind) "__setattr__" = some (some (.builtin "object.__setattr__")))
    (qn_EndsKind : PySem.W.findIn K (.ref C_EndsKind) "NAME" = some (some (.str "ends" nt_EndsKind)))
    (qng_EndsKind : PySem.W.specialIn K (.str "ends" nt_EndsKind) "__get__" = some none)
    (qo_EndsKind : PySem.W.findIn K (.ref C_EndsKind) "ORDERLESS" = some (some (.bool false)))
    (a_kE : PySem.W.findIn K (.ref C_EndsKind) "keep" = some (some (.ref f_kE)))
    (i_kE : PySem.W.isFn K (.ref f_kE) = true)
    (l_kE : K.lookup f_kE = some ⟨oc_kE, od_kE, .func (PySem.W.fnOf "keep" "EndsKind.keep" (defArgs sKeepE) (defBody sKeepE) (defScope sKeepE) .none kV_kE dc_kE pm_kE an_kE cd_kE ct_kE), sl_kE⟩)
    (c_kE : PySem.W.codeIn K cd_kE "EndsKind.keep" = true)
    (k_kE : PySem.W.keepIn K (.ref f_kE) = true)
    (a_HeadsKind : PySem.W.nsIn K mainGlobals "HeadsKind" = some (some (.ref C_HeadsKind)))
    (mk_HeadsKind : PySem.W.makesIn K C_HeadsKind = true)
    (in_HeadsKind : PySem.W.findIn K (.ref C_HeadsKind) "__init__" = some (some (.builtin "object.__init__")))
    (tp_HeadsKind : PySem.W.mroIn K C_HeadsKind (.type "object") = some true)
    (kc_HeadsKind : PySem.W.keepIn K (.ref C_HeadsKind) = true)
    (pg_HeadsKind : PySem.W.plainGet K C_HeadsKind Str.empty = true)
    (hd_HeadsKind : PySem.W.hasDictIn K C_HeadsKind = true)
    (po_HeadsKind : PySem.W.plainOver K C_HeadsKind = true)
    (sa_HeadsKind : PySem.W.findIn K (.ref C_HeadsKind) "__setattr__" = some (some (.builtin "object.__setattr__")))
    (qn_HeadsKind : PySem.W.findIn K (.ref C_HeadsKind) "NAME" = some (some (.str "heads" nt_HeadsKind)))
    (qng_HeadsKind : PySem.W.specialIn K (.str "heads" nt_HeadsKind) "__get__" = some none)
    (qo_HeadsKind : PySem.W.findIn K (.ref C_HeadsKind) "ORDERLESS" = some (some (.bool false)))
    (a_kH : PySem.W.findIn K (.ref C_HeadsKind) "keep" = some (some (.ref f_kH)))
    (i_kH : PySem.W.isFn K (.ref f_kH) = true)
    (l_kH : K.lookup f_kH = some ⟨oc_kH, od_kH, .func (PySem.W.fnOf "keep" "HeadsKind.keep" (defArgs sKeepH) (defBody sKeepH) (defScope sKeepH) .none kV_kH dc_kH pm_kH an_kH cd_kH ct_kH), sl_kH⟩)
    (c_kH : PySem.W.codeIn K cd_kH "HeadsKind.keep" = true)
    (k_kH : PySem.W.keepIn K (.ref f_kH) = true)
    (a_TailsKind : PySem.W.nsIn K mainGlobals "TailsKind" = some (some (.ref C_TailsKind)))
    (mk_TailsKind : PySem.W.makesIn K C_TailsKind = true)
    (in_TailsKind : PySem.W.findIn K (.ref C_TailsKind) "__init__" = some (some (.builtin "object.__init__")))
    (tp_TailsKind : PySem.W.mroIn K C_TailsKind (.type "object") = some true)
    (kc_TailsKind : PySem.W.keepIn K (.ref C_TailsKind) = true)
    (pg_TailsKind : PySem.W.plainGet K C_TailsKind Str.empty = true)
    (hd_TailsKind : PySem.W.hasDictIn K C_TailsKind = true)
    (po_TailsKind : PySem.W.plainOver K C_TailsKind = true)
    (sa_TailsKind : PySem.W.findIn K (.ref C_TailsKind) "__setattr__" = some (some (.builtin "object.__setattr__")))
    (qn_TailsKind : PySem.W.findIn K (.ref C_TailsKind) "NAME" = some (some (.str "tails" nt_TailsKind)))
    (qng_TailsKind : PySem.W.specialIn K (.str "tails" nt_TailsKind) "__get__" = some none)
    (qo_TailsKind : PySem.W.findIn K (.ref C_TailsKind) "ORDERLESS" = some (some (.bool false)))
    (a_kT : PySem.W.findIn K (.ref C_TailsKind) "keep" = some (some (.ref f_kT)))
    (i_kT : PySem.W.isFn K (.ref f_kT) = true)
    (l_kT : K.lookup f_kT = some ⟨oc_kT, od_kT, .func (PySem.W.fnOf "keep" "TailsKind.keep" (defArgs sKeepT) (defBody sKeepT) (defScope sKeepT) .none kV_kT dc_kT pm_kT an_kT cd_kT ct_kT), sl_kT⟩)
    (c_kT : PySem.W.codeIn K cd_kT "TailsKind.keep" = true)
    (k_kT : PySem.W.keepIn K (.ref f_kT) = true)
    (p_Kind : PySem.W.findIn K (.ref C_Kind) "plain" = some (some (.ref f_pl)))
    (p_BagKind : PySem.W.findIn K (.ref C_BagKind) "plain" = some (some (.ref f_pl)))
    (p_SetKind : PySem.W.findIn K (.ref C_SetKind) "plain" = some (some (.ref f_pl)))
    (p_FirstKind : PySem.W.findIn K (.ref C_FirstKind) "plain" = some (some (.ref f_pl)))
    (p_LastKind : PySem.W.findIn K (.ref C_LastKind) "plain" = some (some (.ref f_pl)))
    (p_EndsKind : PySem.W.findIn K (.ref C_EndsKind) "plain" = some (some (.ref f_pl)))
    (p_HeadsKind : PySem.W.findIn K (.ref C_HeadsKind) "plain" = some (some (.ref f_pl)))
    (p_TailsKind : PySem.W.findIn K (.ref C_TailsKind) "plain" = some (some (.ref f_pl)))
    (i_pl : PySem.W.isFn K (.ref f_pl) = true)
    (l_pl : K.lookup f_pl = some ⟨oc_pl, od_pl, .func (PySem.W.fnOf "plain" "Kind.plain" (defArgs sPlainM) (defBody sPlainM) (defScope sPlainM) .none kV_pl dc_pl pm_pl an_pl cd_pl ct_pl), sl_pl⟩)
    (c_pl : PySem.W.codeIn K cd_pl "Kind.plain" = true)
    (k_pl : PySem.W.keepIn K (.ref f_pl) = true)
    (t_nK : K.lookup Pt = none)
    (t_cd : PySem.W.codeHdIn K cB Pt = true)
    (n_a : PySem.W.nsIn K mainGlobals "KIND_NAMES" = some (some (.ref kn)))
    (n_l : K.lookup kn = some ⟨.type "tuple", odN, .seq #[.str "list" t0, .str "bag" t1, .str "set" t2, .str "first" t3, .str "last" t4, .str "ends" t5, .str "heads" t6, .str "tails" t7] nN, slN⟩)
    (b_a : PySem.W.nsIn K mainGlobals "BadKind" = some (some (.ref CB)))
    (b_l : K.lookup CB = some (excClassObj nm q CB NB bs bm true sn sub ab col dd m0 m1 m2 m3 m5 "ValueError.__new__"))
    (b_v : PySem.HandSPX.refsVE bm = true)
    (b_sa : PySem.W.findIn K (.ref CB) "__setattr__" = some (some (.builtin "object.__setattr__")))
    (b_ex : PySem.W.subIn K (.ref CB) (.type "BaseException") = some true)
    (b_ty : PySem.W.typeIn K (.ref CB) = some (.type "type"))
    (b_k : PySem.W.keepIn K (.ref CB) = true)
    (b_i : PySem.W.findIn K (.ref CB) "__init__" = some (some (.ref f_i)))
    (b_it : PySem.W.typeIn K (.ref f_i) = some (.type "function"))
    (b_il : K.lookup f_i = some ⟨oc_i, od_i, .func (PySem.W.ksFn "__init__" "BadKind.__init__" (defArgs sIni) (defBody sIni) (defScope sIni) .none kV_i dc_i pm_i an_i (.ref c_i) ct_i cc), sl_i⟩)
    (b_ic : PySem.W.codeIn K (.ref c_i) "BadKind.__init__" = true)
    (b_cl : K.lookup c_i = some ⟨ccl, cdd, .fields vsC, ccs⟩)
    (b_cf : vsC[2]? = some (.str file tf))
    (b_fi : ((PySem.Challenge.rw_movedstates_k39_free_orders_exactly.prog.main.file : Str) == file) = true)
    (b_cc : K.lookup cc = some ⟨cl, cld, .cell (some (.ref CB)), csl⟩)
    (b_se : PySem.W.mroIn K CB (.ref CB) = some true)
    (b_ve : PySem.W.mroIn K CB (.type "ValueError") = some true)
    (b_op : PySem.W.nsIn K cStatics "thirdparty.any" = some none)
    (b_su : PySem.W.ks_superIn K CB CB "__init__" = some (some (.builtin "ValueError.__init__")))
    (b_cd : PySem.W.clsIn K CB = some cdB)
    (b_ga : PySem.W.findIn K (.ref CB) "__getattribute__" = some (some (.builtin "BaseException.__getattribute__")))
    (b_gt : PySem.W.findIn K (.ref CB) "__getattr__" = some none)
    (b_hd : PySem.W.hasDictIn K CB = true)
    (b_no : PySem.W.findIn K (.ref CB) "name" = some none)
    (b_ss : PySem.W.subIn K (.ref CB) (.ref CB) = some true) :
    LamX.LawAtS rwK w K CX0 8 63 "_law_script" mg fa h := by
  cases hfa.symm.trans (PySem.W.mg_of X G a_law)
  have B : Bi mg := ⟨PySem.W.mg_none_of X G z_len, PySem.W.mg_none_of X G z_range, PySem.W.mg_none_of X G z_enumerate, PySem.W.mg_none_of X G z_abs, PySem.W.mg_none_of X G z_int, PySem.W.mg_none_of X G z_list, PySem.W.mg_none_of X G z_tuple, PySem.W.mg_none_of X G z_sorted, PySem.W.mg_none_of X G z_isinstance, PySem.W.mg_none_of X G z_str, PySem.W.mg_none_of X G z_bool, PySem.W.mg_none_of X G z_super, PySem.W.mg_none_of X G z_ValueError⟩
  have F_w_stream := fun_mk (st := sStream) l_w_stream c_w_stream k_w_stream
  have b_w_stream := F_w_stream.binds (ps := ["_law_script"]) fun _ _ _ _ _ _ us hl => match us, hl with | [_], _ => rfl
  have F_w_draw := fun_mk (st := sDraw) l_w_draw c_w_draw k_w_draw
  have b_w_draw := F_w_draw.binds (ps := ["_law_stream_here", "_law_many"]) fun _ _ _ _ _ _ us hl => match us, hl with | [_, _], _ => rfl
  have F_w_wide := fun_mk (st := sWide) l_w_wide c_w_wide k_w_wide
  have b_w_wide := F_w_wide.binds (ps := ["_law_stream_here"]) fun _ _ _ _ _ _ us hl => match us, hl with | [_], _ => rfl
  have F_w_value := fun_mk (st := sValue) l_w_value c_w_value k_w_value
  have b_w_value := F_w_value.binds (ps := ["_law_stream_here", "_law_style"]) fun _ _ _ _ _ _ us hl => match us, hl with | [_, _], _ => rfl
  have F_w_word := fun_mk (st := sWord) l_w_word c_w_word k_w_word
  have b_w_word := F_w_word.binds (ps := ["_law_stream_here", "_law_size", "_law_style"]) fun _ _ _ _ _ _ us hl => match us, hl with | [_, _, _], _ => rfl
  have F_w_parcel := fun_mk (st := sParcel) l_w_parcel c_w_parcel k_w_parcel
  have b_w_parcel := F_w_parcel.binds (ps := ["_law_stream_here", "_law_style", "_law_shape", "_law_stem"]) fun _ _ _ _ _ _ us hl => match us, hl with | [_, _, _, _], _ => rfl
  have F_w_drawn := fun_mk (st := sDrawn) l_w_drawn c_w_drawn k_w_drawn
  have b_w_drawn := F_w_drawn.binds (ps := ["_law_stream_here", "_law_many", "_law_style"]) fun _ _ _ _ _ _ us hl => match us, hl with | [_, _, _], _ => rfl
  have F_w_around := fun_mk (st := sAround) l_w_around c_w_around k_w_around
  have b_w_around := F_w_around.binds (ps := ["_law_stream_here", "_law_style"]) fun _ _ _ _ _ _ us hl => match us, hl with | [_, _], _ => rfl
  have F_w_joined := fun_mk (st := sJoined) l_w_joined c_w_joined k_w_joined
  have b_w_joined := F_w_joined.binds (ps := ["_law_parcels"]) fun _ _ _ _ _ _ us hl => match us, hl with | [_], _ => rfl
  have F_w_plain := fun_mk (st := sPlain) l_w_plain c_w_plain k_w_plain
  have b_w_plain := F_w_plain.binds (ps := ["_law_kind", "_law_word_here"]) fun _ _ _ _ _ _ us hl => match us, hl with | [_, _], _ => rfl
  have F_w_new := fun_mk (st := sNew) l_w_new c_w_new k_w_new
  have b_w_new := F_w_new.binds (ps := ["_law_word_here", "_law_known"]) fun _ _ _ _ _ _ us hl => match us, hl with | [_, _], _ => rfl
  have F_w_rear := fun_mk (st := sRear) l_w_rear c_w_rear k_w_rear
  have b_w_rear := F_w_rear.binds (ps := ["_law_word_here", "_law_known"]) fun _ _ _ _ _ _ us hl => match us, hl with | [_, _], _ => rfl
  have F_w_chained := fun_mk (st := sChained) l_w_chained c_w_chained k_w_chained
  have b_w_chained := F_w_chained.binds (ps := ["_law_kind", "_law_one", "_law_other"]) fun _ _ _ _ _ _ us hl => match us, hl with | [_, _, _], _ => rfl
  have F_w_orders := fun_mk (st := sOrd) l_w_orders c_w_orders k_w_orders
  have b_w_orders := F_w_orders.binds (ps := ["_law_many"]) fun _ _ _ _ _ _ us hl => match us, hl with | [_], _ => rfl
  have F_w_two := fun_mk (st := sTwo) l_w_two c_w_two k_w_two
  have b_w_two := F_w_two.binds (ps := ["_law_kind", "_law_one", "_law_other", "_law_ahead", "_law_behind"]) fun _ _ _ _ _ _ us hl => match us, hl with | [_, _, _, _, _], _ => rfl
  have F_w_free := fun_mk (st := sFree) l_w_free c_w_free k_w_free
  have b_w_free := F_w_free.binds (ps := ["_law_kind", "_law_parcels", "_law_ahead", "_law_behind"]) fun _ _ _ _ _ _ us hl => match us, hl with | [_, _, _, _], _ => rfl
  have F_w_pair := fun_mk (st := sPair) l_w_pair c_w_pair k_w_pair
  have b_w_pair := F_w_pair.binds (ps := ["_law_kind", "_law_parcels", "_law_ahead", "_law_behind"]) fun _ _ _ _ _ _ us hl => match us, hl with | [_, _, _, _], _ => rfl
  have F_w_told := fun_mk (st := sTold) l_w_told c_w_told k_w_told
  have b_w_told := F_w_told.binds (ps := ["_law_form", "_law_kind", "_law_parcels", "_law_ahead", "_law_behind"]) fun _ _ _ _ _ _ us hl => match us, hl with | [_, _, _, _, _], _ => rfl
  have F_w_asked := fun_mk (st := sAsked) l_w_asked c_w_asked k_w_asked
  have b_w_asked := F_w_asked.binds (ps := ["_law_form", "_law_kind", "_law_parcels", "_law_ahead", "_law_behind"]) fun _ _ _ _ _ _ us hl => match us, hl with | [_, _, _, _, _], _ => rfl
  have F_w_twos := fun_mk (st := sTwos) l_w_twos c_w_twos k_w_twos
  have b_w_twos := F_w_twos.binds (ps := ["_law_kind", "_law_parcels", "_law_ahead", "_law_behind"]) fun _ _ _ _ _ _ us hl => match us, hl with | [_, _, _, _], _ => rfl
  have F_w_refused := fun_mk (st := sRef) l_w_refused c_w_refused k_w_refused
  have b_w_refused := F_w_refused.binds (ps := ["_law_name", "_law_parcels"]) fun _ _ _ _ _ _ us hl => match us, hl with | [_, _], _ => rfl
  have F_w_good := fun_mk (st := sGood) l_w_good c_w_good k_w_good
  have b_w_good := F_w_good.binds (ps := ["_law_form", "_law_kind", "_law_parcels", "_law_ahead", "_law_behind", "_law_words", "_law_rows"]) fun _ _ _ _ _ _ us hl => match us, hl with | [_, _, _, _, _, _, _], _ => rfl
  have F_law := fun_mk (st := sLaw) l_law c_law k_law
  have b_law := F_law.binds (ps := ["_law_script"]) fun _ _ _ _ _ _ us hl => match us, hl with | [_], _ => rfl
  have F_least_places := fun_mk (st := sLeast) l_least_places c_least_places k_least_places
  have b_least_places := F_least_places.binds (ps := ["word"]) fun _ _ _ _ _ _ us hl => match us, hl with | [_], _ => rfl
  have F_greatest_places := fun_mk (st := sGreat) l_greatest_places c_greatest_places k_greatest_places
  have b_greatest_places := F_greatest_places.binds (ps := ["word"]) fun _ _ _ _ _ _ us hl => match us, hl with | [_], _ => rfl
  have F_kind_named := fun_mk (st := sKN) l_kind_named c_kind_named k_kind_named
  have b_kind_named := F_kind_named.binds (ps := ["name"]) fun _ _ _ _ _ _ us hl => match us, hl with | [_], _ => rfl
  have F_word_of := fun_mk (st := sWO) l_word_of c_word_of k_word_of
  have b_word_of := F_word_of.binds (ps := ["before", "parcels", "after"]) fun _ _ _ _ _ _ us hl => match us, hl with | [_, _, _], _ => rfl
  have F_parted_parcels := fun_mk (st := sPP) l_parted_parcels c_parted_parcels k_parted_parcels
  have b_parted_parcels := F_parted_parcels.binds (ps := ["u", "v", "before", "after"]) fun _ _ _ _ _ _ us hl => match us, hl with | [_, _, _, _], _ => rfl
  have F_moved_pair := fun_mk (st := sMP) l_moved_pair c_moved_pair k_moved_pair
  have b_moved_pair := F_moved_pair.binds (ps := ["parcels", "i", "j", "ahead"]) fun _ _ _ _ _ _ us hl => match us, hl with | [_, _, _, _], _ => rfl
  have F_kO := fun_mk (st := sKeepO) l_kO c_kO k_kO
  have b_kO := F_kO.binds (ps := ["self", "word"]) fun _ _ _ _ _ _ us hl => match us, hl with | [_, _], _ => rfl
  have cl_Kind : Cls K C_Kind := ⟨pg_Kind, hd_Kind, po_Kind, sa_Kind⟩
  have F_kB : FunC K "keep" "BagKind.keep" sKeepB f_kB _ cB := ⟨_, _, _, _, _, _, _, _, rfl, l_kB, c_kB⟩
  have F_kB2 := fun_mk (st := sKeepB) l_kB c_kB k_kB
  have b_kB := F_kB2.binds (ps := ["self", "word"]) fun _ _ _ _ _ _ us hl => match us, hl with | [_, _], _ => rfl
  have cl_BagKind : Cls K C_BagKind := ⟨pg_BagKind, hd_BagKind, po_BagKind, sa_BagKind⟩
  have F_kS := fun_mk (st := sKeepS) l_kS c_kS k_kS
  have b_kS := F_kS.binds (ps := ["self", "word"]) fun _ _ _ _ _ _ us hl => match us, hl with | [_, _], _ => rfl
  have cl_SetKind : Cls K C_SetKind := ⟨pg_SetKind, hd_SetKind, po_SetKind, sa_SetKind⟩
  have F_kF := fun_mk (st := sKeepF) l_kF c_kF k_kF
  have b_kF := F_kF.binds (ps := ["self", "word"]) fun _ _ _ _ _ _ us hl => match us, hl with | [_, _], _ => rfl
  have cl_FirstKind : Cls K C_FirstKind := ⟨pg_FirstKind, hd_FirstKind, po_FirstKind, sa_FirstKind⟩
  have F_kL := fun_mk (st := sKeepL) l_kL c_kL k_kL
  have b_kL := F_kL.binds (ps := ["self", "word"]) fun _ _ _ _ _ _ us hl => match us, hl with | [_, _], _ => rfl
  have cl_LastKind : Cls K C_LastKind := ⟨pg_LastKind, hd_LastKind, po_LastKind, sa_LastKind⟩
  have F_kE := fun_mk (st := sKeepE) l_kE c_kE k_kE
  have b_kE := F_kE.binds (ps := ["self", "word"]) fun _ _ _ _ _ _ us hl => match us, hl with | [_, _], _ => rfl
  have cl_EndsKind : Cls K C_EndsKind := ⟨pg_EndsKind, hd_EndsKind, po_EndsKind, sa_EndsKind⟩
  have F_kH := fun_mk (st := sKeepH) l_kH c_kH k_kH
  have b_kH := F_kH.binds (ps := ["self", "word"]) fun _ _ _ _ _ _ us hl => match us, hl with | [_, _], _ => rfl
  have cl_HeadsKind : Cls K C_HeadsKind := ⟨pg_HeadsKind, hd_HeadsKind, po_HeadsKind, sa_HeadsKind⟩
  have F_kT := fun_mk (st := sKeepT) l_kT c_kT k_kT
  have b_kT := F_kT.binds (ps := ["self", "word"]) fun _ _ _ _ _ _ us hl => match us, hl with | [_, _], _ => rfl
  have cl_TailsKind : Cls K C_TailsKind := ⟨pg_TailsKind, hd_TailsKind, po_TailsKind, sa_TailsKind⟩
  have F_pl := fun_mk (st := sPlainM) l_pl c_pl k_pl
  have b_pl := F_pl.binds (ps := ["self", "word"]) fun _ _ _ _ _ _ us hl => match us, hl with | [_, _], _ => rfl
  have tN : ∀ H : Hp, SqT K H kn kindNames := fun H => .inr ⟨_, _, _, n_l, rfl, rfl, by show 8 ≤ sizeLine; decide, .cons ⟨_, rfl⟩ (.cons ⟨_, rfl⟩ (.cons ⟨_, rfl⟩ (.cons ⟨_, rfl⟩ (.cons ⟨_, rfl⟩ (.cons ⟨_, rfl⟩ (.cons ⟨_, rfl⟩ (.cons ⟨_, rfl⟩ .nil)))))))⟩
  have OE : OexC K CB := ⟨⟨_, _, _, _, _, _, _, _, _, _, _, _, _, _, _, b_l, b_v⟩, b_sa, b_ex, b_ty, b_k⟩
  have U : SupK rwK.prog K f_i c_i cc CB := ⟨OE, ⟨_, _, _, _, _, _, b_cl, b_cf, b_fi⟩, ⟨_, _, _, b_cc⟩, by decide +kernel, b_se, b_ve, b_op, b_su, ⟨_, b_cd⟩⟩
  have RT : RTx K mg CB := ⟨PySem.W.mg_of X G b_a, ⟨b_ga, b_gt, b_ex, b_hd⟩, b_no, PySem.W.exm_ref b_ex b_hd b_ty b_ss⟩
  have m0 : ∀ k : Kd, Mk0 K (clsOf C_Kind C_BagKind C_SetKind C_FirstKind C_LastKind C_EndsKind C_HeadsKind C_TailsKind k) := fun k => by
    cases k
    · exact ⟨mk_Kind, in_Kind, tp_Kind, kc_Kind⟩
    · exact ⟨mk_BagKind, in_BagKind, tp_BagKind, kc_BagKind⟩
    · exact ⟨mk_SetKind, in_SetKind, tp_SetKind, kc_SetKind⟩
    · exact ⟨mk_FirstKind, in_FirstKind, tp_FirstKind, kc_FirstKind⟩
    · exact ⟨mk_LastKind, in_LastKind, tp_LastKind, kc_LastKind⟩
    · exact ⟨mk_EndsKind, in_EndsKind, tp_EndsKind, kc_EndsKind⟩
    · exact ⟨mk_HeadsKind, in_HeadsKind, tp_HeadsKind, kc_HeadsKind⟩
    · exact ⟨mk_TailsKind, in_TailsKind, tp_TailsKind, kc_TailsKind⟩
  have gC : ∀ k : Kd, mg k.cn = some (.ref (clsOf C_Kind C_BagKind C_SetKind C_FirstKind C_LastKind C_EndsKind C_HeadsKind C_TailsKind k)) := fun k => by
    cases k
    · exact PySem.W.mg_of X G a_Kind
    · exact PySem.W.mg_of X G a_BagKind
    · exact PySem.W.mg_of X G a_SetKind
    · exact PySem.W.mg_of X G a_FirstKind
    · exact PySem.W.mg_of X G a_LastKind
    · exact PySem.W.mg_of X G a_EndsKind
    · exact PySem.W.mg_of X G a_HeadsKind
    · exact PySem.W.mg_of X G a_TailsKind
  have CO : ClsO K (clsOf C_Kind C_BagKind C_SetKind C_FirstKind C_LastKind C_EndsKind C_HeadsKind C_TailsKind) := ⟨fun k => by
    cases k
    · exact cl_Kind
    · exact cl_BagKind
    · exact cl_SetKind
    · exact cl_FirstKind
    · exact cl_LastKind
    · exact cl_EndsKind
    · exact cl_HeadsKind
    · exact cl_TailsKind, fun k => by
    cases k
    · exact ⟨_, ⟨qo_Kind, rfl, q_bf, by decide +kernel⟩⟩
    · exact ⟨_, ⟨qo_BagKind, rfl, q_bt, by decide +kernel⟩⟩
    · exact ⟨_, ⟨qo_SetKind, rfl, q_bt, by decide +kernel⟩⟩
    · exact ⟨_, ⟨qo_FirstKind, rfl, q_bf, by decide +kernel⟩⟩
    · exact ⟨_, ⟨qo_LastKind, rfl, q_bf, by decide +kernel⟩⟩
    · exact ⟨_, ⟨qo_EndsKind, rfl, q_bf, by decide +kernel⟩⟩
    · exact ⟨_, ⟨qo_HeadsKind, rfl, q_bf, by decide +kernel⟩⟩
    · exact ⟨_, ⟨qo_TailsKind, rfl, q_bf, by decide +kernel⟩⟩⟩
  have CN : ClsN K (clsOf C_Kind C_BagKind C_SetKind C_FirstKind C_LastKind C_EndsKind C_HeadsKind C_TailsKind) := ⟨fun k => by
    cases k
    · exact cl_Kind
    · exact cl_BagKind
    · exact cl_SetKind
    · exact cl_FirstKind
    · exact cl_LastKind
    · exact cl_EndsKind
    · exact cl_HeadsKind
    · exact cl_TailsKind, fun k => by
    cases k
    · exact ⟨_, ⟨qn_Kind, ⟨_, rfl⟩, qng_Kind, by decide +kernel⟩⟩
    · exact ⟨_, ⟨qn_BagKind, ⟨_, rfl⟩, qng_BagKind, by decide +kernel⟩⟩
    · exact ⟨_, ⟨qn_SetKind, ⟨_, rfl⟩, qng_SetKind, by decide +kernel⟩⟩
    · exact ⟨_, ⟨qn_FirstKind, ⟨_, rfl⟩, qng_FirstKind, by decide +kernel⟩⟩
    · exact ⟨_, ⟨qn_LastKind, ⟨_, rfl⟩, qng_LastKind, by decide +kernel⟩⟩
    · exact ⟨_, ⟨qn_EndsKind, ⟨_, rfl⟩, qng_EndsKind, by decide +kernel⟩⟩
    · exact ⟨_, ⟨qn_HeadsKind, ⟨_, rfl⟩, qng_HeadsKind, by decide +kernel⟩⟩
    · exact ⟨_, ⟨qn_TailsKind, ⟨_, rfl⟩, qng_TailsKind, by decide +kernel⟩⟩⟩
  have FD_free_shuffles : FunD K "free_shuffles" "free_shuffles" (defArgs sFS) (defBody sFS) (defScope sFS) [] [("before", .ref e1_free_shuffles), ("after", .ref e2_free_shuffles)] f_free_shuffles _ := ⟨⟨_, _, _, _, _, _, _, _, _, _, rfl, l_free_shuffles, c_free_shuffles, .inl ⟨rfl, rfl⟩, .inr ⟨_, rfl, fun q hq => by
    rcases List.mem_cons.mp hq with rfl | hq
    · exact ⟨_, d1_free_shuffles, rfl⟩
    · rw [List.mem_singleton.mp hq]
      exact ⟨_, d2_free_shuffles, rfl⟩⟩⟩, k_free_shuffles⟩
  have FF_free_shuffles := fun_mk (st := sFS) l_free_shuffles c_free_shuffles k_free_shuffles
  have t1_free_shuffles : ∀ H : Hp, SqT K H e1_free_shuffles [] := fun H => .inr ⟨_, _, _, x1_free_shuffles, rfl, rfl, Nat.zero_le _, .nil⟩
  have t2_free_shuffles : ∀ H : Hp, SqT K H e2_free_shuffles [] := fun H => .inr ⟨_, _, _, x2_free_shuffles, rfl, rfl, Nat.zero_le _, .nil⟩
  have FD_free_orders : FunD K "free_orders" "free_orders" (defArgs sFO) (defBody sFO) (defScope sFO) [] [("before", .ref e1_free_orders), ("after", .ref e2_free_orders)] f_free_orders _ := ⟨⟨_, _, _, _, _, _, _, _, _, _, rfl, l_free_orders, c_free_orders, .inl ⟨rfl, rfl⟩, .inr ⟨_, rfl, fun q hq => by
    rcases List.mem_cons.mp hq with rfl | hq
    · exact ⟨_, d1_free_orders, rfl⟩
    · rw [List.mem_singleton.mp hq]
      exact ⟨_, d2_free_orders, rfl⟩⟩⟩, k_free_orders⟩
  have FF_free_orders := fun_mk (st := sFO) l_free_orders c_free_orders k_free_orders
  have t1_free_orders : ∀ H : Hp, SqT K H e1_free_orders [] := fun H => .inr ⟨_, _, _, x1_free_orders, rfl, rfl, Nat.zero_le _, .nil⟩
  have t2_free_orders : ∀ H : Hp, SqT K H e2_free_orders [] := fun H => .inr ⟨_, _, _, x2_free_orders, rfl, rfl, Nat.zero_le _, .nil⟩
  refine ⟨PySem.W.fnOf "law" "law" (defArgs sLaw) (defBody sLaw) (defScope sLaw) .none kV_law dc_law pm_law an_law cd_law ct_law, [(cB, Pt)], spLaw K [(Pt, lamQ)], fun p hp => by rw [List.mem_singleton.mp hp]; exact hPt, fun p hp => by rw [List.mem_singleton.mp hp]; exact t_nK, fun p hp => by rw [List.mem_singleton.mp hp]; exact PySem.W.codeHd_of_K X t_cd, fun s u => .of_eq rfl, fun H a ns hl _ hH hS => ⟨a, ns, rfl, hS, hl, fun p hp => by rw [List.mem_singleton.mp hp]; exact LamX.TabS.nil (hH (cB, Pt) (List.mem_singleton.mpr rfl)), fun _ => rfl⟩, fun base KB GB TB => ?_⟩
  have TBb := TB (cB, Pt) (List.mem_singleton.mpr rfl)
  have c_least_placesx : CalX CX0 rwK.prog w K mg base 1 "least_places" (spLeast K) := cal_of F_least_places (PySem.W.mg_of X G a_least_places) b_least_places (ok_least F_least_places B)
  have c_greatest_placesx : CalX CX0 rwK.prog w K mg base 1 "greatest_places" (spGreat K) := cal_of F_greatest_places (PySem.W.mg_of X G a_greatest_places) b_greatest_places (ok_great F_greatest_places B)
  have mKeep : ∀ k : Kd, MetX CX0 rwK.prog w K mg base 2 (clsOf C_Kind C_BagKind C_SetKind C_FirstKind C_LastKind C_EndsKind C_HeadsKind C_TailsKind k) "keep" (spKeep K [(Pt, lamQ)] k) := fun k => by
    cases k
    · exact ⟨_, _, _, cl_Kind, ⟨a_kO, i_kO, k_kO⟩, ok_keepO F_kO B, b_kO⟩
    · exact ⟨_, _, _, cl_BagKind, ⟨a_kB, i_kB, k_kB⟩, ok_keepB F_kB B TBb, b_kB⟩
    · exact ⟨_, _, _, cl_SetKind, ⟨a_kS, i_kS, k_kS⟩, ok_keepS F_kS B c_least_placesx, b_kS⟩
    · exact ⟨_, _, _, cl_FirstKind, ⟨a_kF, i_kF, k_kF⟩, ok_keepF F_kF B, b_kF⟩
    · exact ⟨_, _, _, cl_LastKind, ⟨a_kL, i_kL, k_kL⟩, ok_keepL F_kL B, b_kL⟩
    · exact ⟨_, _, _, cl_EndsKind, ⟨a_kE, i_kE, k_kE⟩, ok_keepE F_kE B, b_kE⟩
    · exact ⟨_, _, _, cl_HeadsKind, ⟨a_kH, i_kH, k_kH⟩, ok_keepH F_kH B c_least_placesx, b_kH⟩
    · exact ⟨_, _, _, cl_TailsKind, ⟨a_kT, i_kT, k_kT⟩, ok_keepT F_kT B c_greatest_placesx, b_kT⟩
  have mPlain : ∀ k : Kd, MetX CX0 rwK.prog w K mg base 3 (clsOf C_Kind C_BagKind C_SetKind C_FirstKind C_LastKind C_EndsKind C_HeadsKind C_TailsKind k) "plain" (spPlainM K (clsOf C_Kind C_BagKind C_SetKind C_FirstKind C_LastKind C_EndsKind C_HeadsKind C_TailsKind) [(Pt, lamQ)] k) := fun k => by
    have kk := ok_plainM (cls := clsOf C_Kind C_BagKind C_SetKind C_FirstKind C_LastKind C_EndsKind C_HeadsKind C_TailsKind) F_pl B k (mKeep k)
    cases k
    · exact ⟨_, _, _, cl_Kind, ⟨p_Kind, i_pl, k_pl⟩, kk, b_pl⟩
    · exact ⟨_, _, _, cl_BagKind, ⟨p_BagKind, i_pl, k_pl⟩, kk, b_pl⟩
    · exact ⟨_, _, _, cl_SetKind, ⟨p_SetKind, i_pl, k_pl⟩, kk, b_pl⟩
    · exact ⟨_, _, _, cl_FirstKind, ⟨p_FirstKind, i_pl, k_pl⟩, kk, b_pl⟩
    · exact ⟨_, _, _, cl_LastKind, ⟨p_LastKind, i_pl, k_pl⟩, kk, b_pl⟩
    · exact ⟨_, _, _, cl_EndsKind, ⟨p_EndsKind, i_pl, k_pl⟩, kk, b_pl⟩
    · exact ⟨_, _, _, cl_HeadsKind, ⟨p_HeadsKind, i_pl, k_pl⟩, kk, b_pl⟩
    · exact ⟨_, _, _, cl_TailsKind, ⟨p_TailsKind, i_pl, k_pl⟩, kk, b_pl⟩
  have KT : KTx rwK.prog w K mg base (clsOf C_Kind C_BagKind C_SetKind C_FirstKind C_LastKind C_EndsKind C_HeadsKind C_TailsKind) CB := ⟨m0, gC, ⟨kn, PySem.W.mg_of X G n_a, tN⟩, OE, PySem.W.mg_of X G b_a, ⟨f_i, _, b_i, b_it, ok_bini b_il b_ic U B.super b_no, bind_bini⟩⟩
  have c_kind_namedx : CalX (L2.CX rwK.prog w) rwK.prog w K mg base 3 "kind_named" (spKN (clsOf C_Kind C_BagKind C_SetKind C_FirstKind C_LastKind C_EndsKind C_HeadsKind C_TailsKind) CB) := cal_of F_kind_named (PySem.W.mg_of X G a_kind_named) b_kind_named (ok_kn F_kind_named B KT)
  have c_w_streamx : CalX CX0 rwK.prog w K mg base 1 "_law_stream" (spStream K) := cal_of F_w_stream (PySem.W.mg_of X G a_w_stream) b_w_stream (ok_stream F_w_stream B)
  have c_w_drawx : CalX CX0 rwK.prog w K mg base 1 "_law_draw" spDraw := cal_of F_w_draw (PySem.W.mg_of X G a_w_draw) b_w_draw (ok_draw F_w_draw B)
  have c_w_widex : CalX CX0 rwK.prog w K mg base 2 "_law_wide" spWide := cal_of F_w_wide (PySem.W.mg_of X G a_w_wide) b_w_wide (ok_wide F_w_wide B c_w_drawx)
  have c_w_valuex : CalX CX0 rwK.prog w K mg base 3 "_law_value" spValue := cal_of F_w_value (PySem.W.mg_of X G a_w_value) b_w_value (ok_value F_w_value B c_w_drawx c_w_widex)
  have c_w_wordx : CalX CX0 rwK.prog w K mg base 4 "_law_word" spWord := cal_of F_w_word (PySem.W.mg_of X G a_w_word) b_w_word (ok_word F_w_word B c_w_valuex)
  have c_w_plainx : CalX CX0 rwK.prog w K mg base 1 "_law_plain" (spPlain K) := cal_of F_w_plain (PySem.W.mg_of X G a_w_plain) b_w_plain (ok_plain F_w_plain B)
  have c_w_parcelx : CalX CX0 rwK.prog w K mg base 5 "_law_parcel" spParcel := cal_of F_w_parcel (PySem.W.mg_of X G a_w_parcel) b_w_parcel (ok_parcel F_w_parcel B (PySem.W.mg_none_of X G z_min) c_w_drawx c_w_wordx)
  have c_w_drawnx : CalX CX0 rwK.prog w K mg base 6 "_law_drawn" spDrawn := cal_of F_w_drawn (PySem.W.mg_of X G a_w_drawn) b_w_drawn (ok_drawn F_w_drawn B c_w_drawx c_w_wordx c_w_parcelx)
  have c_w_aroundx : CalX CX0 rwK.prog w K mg base 5 "_law_around" spAround := cal_of F_w_around (PySem.W.mg_of X G a_w_around) b_w_around (ok_around F_w_around B c_w_drawx c_w_wordx)
  have c_w_joinedx : CalX CX0 rwK.prog w K mg base 1 "_law_joined" spJoined := cal_of F_w_joined (PySem.W.mg_of X G a_w_joined) b_w_joined (ok_joined F_w_joined B)
  have c_w_newx : CalX CX0 rwK.prog w K mg base 1 "_law_new" spNew := cal_of F_w_new (PySem.W.mg_of X G a_w_new) b_w_new (ok_new F_w_new B)
  have c_w_rearx : CalX CX0 rwK.prog w K mg base 2 "_law_rear" spRear := cal_of F_w_rear (PySem.W.mg_of X G a_w_rear) b_w_rear (ok_rear F_w_rear B c_w_newx)
  have c_w_chainedx : CalX CX0 rwK.prog w K mg base 1 "_law_chained" spChained := cal_of F_w_chained (PySem.W.mg_of X G a_w_chained) b_w_chained (ok_chained F_w_chained B (PySem.W.mg_none_of X G z_min))
  have c_w_ordersx : CalX CX0 rwK.prog w K mg base 1 "_law_orders" spOrd := cal_of F_w_orders (PySem.W.mg_of X G a_w_orders) b_w_orders (ok_ord F_w_orders B)
  have c_w_twox : CalX CX0 rwK.prog w K mg base 3 "_law_two" spTwo := cal_of F_w_two (PySem.W.mg_of X G a_w_two) b_w_two (ok_two F_w_two B c_w_newx c_w_rearx c_w_chainedx)
  have c_w_freex : CalX CX0 rwK.prog w K mg base 4 "_law_free" spFree := cal_of F_w_free (PySem.W.mg_of X G a_w_free) b_w_free (ok_free F_w_free B c_w_twox)
  have c_w_pairx : CalX CX0 rwK.prog w K mg base 2 "_law_pair" spPair := cal_of F_w_pair (PySem.W.mg_of X G a_w_pair) b_w_pair (ok_pair F_w_pair B c_w_joinedx c_w_plainx)
  have c_word_ofx : CalX CX0 rwK.prog w K mg base 1 "word_of" (spWO K) := cal_of F_word_of (PySem.W.mg_of X G a_word_of) b_word_of (ok_wo F_word_of B)
  have c_parted_parcelsx : CalX CX0 rwK.prog w K mg base 2 "parted_parcels" (spPP K) := cal_of F_parted_parcels (PySem.W.mg_of X G a_parted_parcels) b_parted_parcels (ok_pp F_parted_parcels B c_word_ofx)
  have c_moved_pairx : CalX CX0 rwK.prog w K mg base 1 "moved_pair" spMP := cal_of F_moved_pair (PySem.W.mg_of X G a_moved_pair) b_moved_pair (ok_mp F_moved_pair B)
  have kFS : KwX rwK.prog w K mg base 4 "free_shuffles" (spFS K [(Pt, lamQ)] CB) 3 e1_free_shuffles e2_free_shuffles := kws_mk FD_free_shuffles (ok_fs FF_free_shuffles B CN c_kind_namedx mPlain c_word_ofx c_parted_parcelsx) (PySem.W.mg_of X G a_free_shuffles) t1_free_shuffles t2_free_shuffles
  have kFO : KwX rwK.prog w K mg base 4 "free_orders" (spFO K [(Pt, lamQ)] CB) 2 e1_free_orders e2_free_orders := kwo_mk FD_free_orders (ok_fo FF_free_orders B CO c_kind_namedx mPlain c_word_ofx c_moved_pairx) (PySem.W.mg_of X G a_free_orders) t1_free_orders t2_free_orders
  have c_w_toldx : CalX CX0 rwK.prog w K mg base 5 "_law_told" (spTold [(Pt, lamQ)]) := cal_of F_w_told (PySem.W.mg_of X G a_w_told) b_w_told (ok_told F_w_told B kFO)
  have c_w_askedx : CalX CX0 rwK.prog w K mg base 6 "_law_asked" (spAsked [(Pt, lamQ)]) := cal_of F_w_asked (PySem.W.mg_of X G a_w_asked) b_w_asked (ok_asked F_w_asked B c_w_toldx c_w_freex c_w_pairx)
  have c_w_twosx : CalX CX0 rwK.prog w K mg base 5 "_law_twos" (spTwos [(Pt, lamQ)]) := cal_of F_w_twos (PySem.W.mg_of X G a_w_twos) b_w_twos (ok_twos F_w_twos B kFS)
  have c_w_refusedx : CalX CX0 rwK.prog w K mg base 5 "_law_refused" spRef := cal_of F_w_refused (PySem.W.mg_of X G a_w_refused) b_w_refused (ok_ref F_w_refused B RT kFO)
  have c_w_goodx : CalX CX0 rwK.prog w K mg base 7 "_law_good" (spGood [(Pt, lamQ)]) := cal_of F_w_good (PySem.W.mg_of X G a_w_good) b_w_good (ok_good F_w_good B (PySem.W.mg_none_of X G z_all) c_w_freex c_w_plainx c_w_askedx c_w_twosx)
  exact ok_law F_law B c_w_streamx c_w_drawx c_w_drawnx c_w_aroundx c_w_joinedx c_w_ordersx c_w_goodx c_w_refusedx
end Mv

set_option Elab.async false
open PySem PySem.W PyProof.Rows
set_option maxRecDepth 100000 in
set_option maxHeartbeats 0 in
theorem PySem.Challenge.cw_movedstates_k39_free_orders_exactly_holds : PySem.Challenge.rw_movedstates_k39_free_orders_exactly.Holds := by
  w_on; o_law; k_head; (case hw => w_witness2)
  k_fill
  refine LamX.walk_ofTs (l := PySem.Challenge.rw_movedstates_k39_free_orders_exactly) (n := 63) (k := 8) (x := "_law_script") (CX := fun _ => L2.CX0) rfl (by decide) rfl ⟨rfl, by decide, by decide⟩ (fun w h Y => km_in_of Y) ?F (fun _ _ _ _ _ z => z)
  case F =>
    intro w mg fa h Y KX G hmg
    have TP := km_tabs_of Y
    refine' Mv.all_mk KX G hmg ?hPt ?z_len ?z_range ?z_enumerate ?z_abs ?z_int ?z_list ?z_tuple ?z_sorted ?z_isinstance ?z_str ?z_bool ?z_super ?z_ValueError ?z_min ?z_all ?a_w_stream ?l_w_stream ?c_w_stream ?k_w_stream ?a_w_draw ?l_w_draw ?c_w_draw ?k_w_draw ?a_w_wide ?l_w_wide ?c_w_wide ?k_w_wide ?a_w_value ?l_w_value ?c_w_value ?k_w_value ?a_w_word ?l_w_word ?c_w_word ?k_w_word ?a_w_parcel ?l_w_parcel ?c_w_parcel ?k_w_parcel ?a_w_drawn ?l_w_drawn ?c_w_drawn ?k_w_drawn ?a_w_around ?l_w_around ?c_w_around ?k_w_around ?a_w_joined ?l_w_joined ?c_w_joined ?k_w_joined ?a_w_plain ?l_w_plain ?c_w_plain ?k_w_plain ?a_w_new ?l_w_new ?c_w_new ?k_w_new ?a_w_rear ?l_w_rear ?c_w_rear ?k_w_rear ?a_w_chained ?l_w_chained ?c_w_chained ?k_w_chained ?a_w_orders ?l_w_orders ?c_w_orders ?k_w_orders ?a_w_two ?l_w_two ?c_w_two ?k_w_two ?a_w_free ?l_w_free ?c_w_free ?k_w_free ?a_w_pair ?l_w_pair ?c_w_pair ?k_w_pair ?a_w_told ?l_w_told ?c_w_told ?k_w_told ?a_w_asked ?l_w_asked ?c_w_asked ?k_w_asked ?a_w_twos ?l_w_twos ?c_w_twos ?k_w_twos ?a_w_refused ?l_w_refused ?c_w_refused ?k_w_refused ?a_w_good ?l_w_good ?c_w_good ?k_w_good ?a_law ?l_law ?c_law ?k_law ?a_least_places ?l_least_places ?c_least_places ?k_least_places ?a_greatest_places ?l_greatest_places ?c_greatest_places ?k_greatest_places ?a_kind_named ?l_kind_named ?c_kind_named ?k_kind_named ?a_word_of ?l_word_of ?c_word_of ?k_word_of ?a_parted_parcels ?l_parted_parcels ?c_parted_parcels ?k_parted_parcels ?a_moved_pair ?l_moved_pair ?c_moved_pair ?k_moved_pair ?a_free_shuffles ?l_free_shuffles ?c_free_shuffles ?k_free_shuffles ?d1_free_shuffles ?d2_free_shuffles ?x1_free_shuffles ?x2_free_shuffles ?a_free_orders ?l_free_orders ?c_free_orders ?k_free_orders ?d1_free_orders ?d2_free_orders ?x1_free_orders ?x2_free_orders ?q_bt ?q_bf ?a_Kind ?mk_Kind ?in_Kind ?tp_Kind ?kc_Kind ?pg_Kind ?hd_Kind ?po_Kind ?sa_Kind ?qn_Kind ?qng_Kind ?qo_Kind ?a_kO ?i_kO ?l_kO ?c_kO ?k_kO ?a_BagKind ?mk_BagKind ?in_BagKind ?tp_BagKind ?kc_BagKind ?pg_BagKind ?hd_BagKind ?po_BagKind ?sa_BagKind ?qn_BagKind ?qng_BagKind ?qo_BagKind ?a_kB ?i_kB ?l_kB ?c_kB ?k_kB ?a_SetKind ?mk_SetKind ?in_SetKind ?tp_SetKind ?kc_SetKind ?pg_SetKind ?hd_SetKind ?po_SetKind ?sa_SetKind ?qn_SetKind ?qng_SetKind ?qo_SetKind ?a_kS ?i_kS ?l_kS ?c_kS ?k_kS ?a_FirstKind ?mk_FirstKind ?in_FirstKind ?tp_FirstKind ?kc_FirstKind ?pg_FirstKind ?hd_FirstKind ?po_FirstKind ?sa_FirstKind ?qn_FirstKind ?qng_FirstKind ?qo_FirstKind ?a_kF ?i_kF ?l_kF ?c_kF ?k_kF ?a_LastKind ?mk_LastKind ?in_LastKind ?tp_LastKind ?kc_LastKind ?pg_LastKind ?hd_LastKind ?po_LastKind ?sa_LastKind ?qn_LastKind ?qng_LastKind ?qo_LastKind ?a_kL ?i_kL ?l_kL ?c_kL ?k_kL ?a_EndsKind ?mk_EndsKind ?in_EndsKind ?tp_EndsKind ?kc_EndsKind ?pg_EndsKind ?hd_EndsKind ?po_EndsKind ?sa_EndsKind ?qn_EndsKind ?qng_EndsKind ?qo_EndsKind ?a_kE ?i_kE ?l_kE ?c_kE ?k_kE ?a_HeadsKind ?mk_HeadsKind ?in_HeadsKind ?tp_HeadsKind ?kc_HeadsKind ?pg_HeadsKind ?hd_HeadsKind ?po_HeadsKind ?sa_HeadsKind ?qn_HeadsKind ?qng_HeadsKind ?qo_HeadsKind ?a_kH ?i_kH ?l_kH ?c_kH ?k_kH ?a_TailsKind ?mk_TailsKind ?in_TailsKind ?tp_TailsKind ?kc_TailsKind ?pg_TailsKind ?hd_TailsKind ?po_TailsKind ?sa_TailsKind ?qn_TailsKind ?qng_TailsKind ?qo_TailsKind ?a_kT ?i_kT ?l_kT ?c_kT ?k_kT ?p_Kind ?p_BagKind ?p_SetKind ?p_FirstKind ?p_LastKind ?p_EndsKind ?p_HeadsKind ?p_TailsKind ?i_pl ?l_pl ?c_pl ?k_pl ?t_nK ?t_cd ?n_a ?n_l ?b_a ?b_l ?b_v ?b_sa ?b_ex ?b_ty ?b_k ?b_i ?b_it ?b_il ?b_ic ?b_cl ?b_cf ?b_fi ?b_cc ?b_se ?b_ve ?b_op ?b_su ?b_cd ?b_ga ?b_gt ?b_hd ?b_no ?b_ss
    (case hPt => exact TP _ (List.mem_singleton.mpr rfl))
    (case z_len => k_is)
    (case z_range => k_is)
    (case z_enumerate => k_is)
    (case z_abs => k_is)
    (case z_int => k_is)
    (case z_list => k_is)
    (case z_tuple => k_is)
    (case z_sorted => k_is)
    (case z_isinstance => k_is)
    (case z_str => k_is)
    (case z_bool => k_is)
    (case z_super => k_is)
    (case z_ValueError => k_is)
    (case z_min => k_is)
    (case z_all => k_is)
    (case a_w_stream => k_is)
    (case l_w_stream => k_is)
    (case c_w_stream => k_is)
    (case k_w_stream => k_is)
    (case a_w_draw => k_is)
    (case l_w_draw => k_is)
    (case c_w_draw => k_is)
    (case k_w_draw => k_is)
    (case a_w_wide => k_is)
    (case l_w_wide => k_is)
    (case c_w_wide => k_is)
    (case k_w_wide => k_is)
    (case a_w_value => k_is)
    (case l_w_value => k_is)
    (case c_w_value => k_is)
    (case k_w_value => k_is)
    (case a_w_word => k_is)
    (case l_w_word => k_is)
    (case c_w_word => k_is)
    (case k_w_word => k_is)
    (case a_w_parcel => k_is)
    (case l_w_parcel => k_is)
    (case c_w_parcel => k_is)
    (case k_w_parcel => k_is)
    (case a_w_drawn => k_is)
    (case l_w_drawn => k_is)
    (case c_w_drawn => k_is)
    (case k_w_drawn => k_is)
    (case a_w_around => k_is)
    (case l_w_around => k_is)
    (case c_w_around => k_is)
    (case k_w_around => k_is)
    (case a_w_joined => k_is)
    (case l_w_joined => k_is)
    (case c_w_joined => k_is)
    (case k_w_joined => k_is)
    (case a_w_plain => k_is)
    (case l_w_plain => k_is)
    (case c_w_plain => k_is)
    (case k_w_plain => k_is)
    (case a_w_new => k_is)
    (case l_w_new => k_is)
    (case c_w_new => k_is)
    (case k_w_new => k_is)
    (case a_w_rear => k_is)
    (case l_w_rear => k_is)
    (case c_w_rear => k_is)
    (case k_w_rear => k_is)
    (case a_w_chained => k_is)
    (case l_w_chained => k_is)
    (case c_w_chained => k_is)
    (case k_w_chained => k_is)
    (case a_w_orders => k_is)
    (case l_w_orders => k_is)
    (case c_w_orders => k_is)
    (case k_w_orders => k_is)
    (case a_w_two => k_is)
    (case l_w_two => k_is)
    (case c_w_two => k_is)
    (case k_w_two => k_is)
    (case a_w_free => k_is)
    (case l_w_free => k_is)
    (case c_w_free => k_is)
    (case k_w_free => k_is)
    (case a_w_pair => k_is)
    (case l_w_pair => k_is)
    (case c_w_pair => k_is)
    (case k_w_pair => k_is)
    (case a_w_told => k_is)
    (case l_w_told => k_is)
    (case c_w_told => k_is)
    (case k_w_told => k_is)
    (case a_w_asked => k_is)
    (case l_w_asked => k_is)
    (case c_w_asked => k_is)
    (case k_w_asked => k_is)
    (case a_w_twos => k_is)
    (case l_w_twos => k_is)
    (case c_w_twos => k_is)
    (case k_w_twos => k_is)
    (case a_w_refused => k_is)
    (case l_w_refused => k_is)
    (case c_w_refused => k_is)
    (case k_w_refused => k_is)
    (case a_w_good => k_is)
    (case l_w_good => k_is)
    (case c_w_good => k_is)
    (case k_w_good => k_is)
    (case a_law => k_is)
    (case l_law => k_is)
    (case c_law => k_is)
    (case k_law => k_is)
    (case a_least_places => k_is)
    (case l_least_places => k_is)
    (case c_least_places => k_is)
    (case k_least_places => k_is)
    (case a_greatest_places => k_is)
    (case l_greatest_places => k_is)
    (case c_greatest_places => k_is)
    (case k_greatest_places => k_is)
    (case a_kind_named => k_is)
    (case l_kind_named => k_is)
    (case c_kind_named => k_is)
    (case k_kind_named => k_is)
    (case a_word_of => k_is)
    (case l_word_of => k_is)
    (case c_word_of => k_is)
    (case k_word_of => k_is)
    (case a_parted_parcels => k_is)
    (case l_parted_parcels => k_is)
    (case c_parted_parcels => k_is)
    (case k_parted_parcels => k_is)
    (case a_moved_pair => k_is)
    (case l_moved_pair => k_is)
    (case c_moved_pair => k_is)
    (case k_moved_pair => k_is)
    (case a_free_shuffles => k_is)
    (case l_free_shuffles => k_is)
    (case c_free_shuffles => k_is)
    (case k_free_shuffles => k_is)
    (case d1_free_shuffles => k_is)
    (case d2_free_shuffles => k_is)
    (case x1_free_shuffles => k_is)
    (case x2_free_shuffles => k_is)
    (case a_free_orders => k_is)
    (case l_free_orders => k_is)
    (case c_free_orders => k_is)
    (case k_free_orders => k_is)
    (case d1_free_orders => k_is)
    (case d2_free_orders => k_is)
    (case x1_free_orders => k_is)
    (case x2_free_orders => k_is)
    (case q_bt => k_is)
    (case q_bf => k_is)
    (case a_Kind => k_is)
    (case mk_Kind => k_is)
    (case in_Kind => k_is)
    (case tp_Kind => k_is)
    (case kc_Kind => k_is)
    (case pg_Kind => k_is)
    (case hd_Kind => k_is)
    (case po_Kind => k_is)
    (case sa_Kind => k_is)
    (case qn_Kind => k_is)
    (case qng_Kind => k_is)
    (case qo_Kind => k_is)
    (case a_kO => k_is)
    (case i_kO => k_is)
    (case l_kO => k_is)
    (case c_kO => k_is)
    (case k_kO => k_is)
    (case a_BagKind => k_is)
    (case mk_BagKind => k_is)
    (case in_BagKind => k_is)
    (case tp_BagKind => k_is)
    (case kc_BagKind => k_is)
    (case pg_BagKind => k_is)
    (case hd_BagKind => k_is)
    (case po_BagKind => k_is)
    (case sa_BagKind => k_is)
    (case qn_BagKind => k_is)
    (case qng_BagKind => k_is)
    (case qo_BagKind => k_is)
    (case a_kB => k_is)
    (case i_kB => k_is)
    (case l_kB => k_is)
    (case c_kB => k_is)
    (case k_kB => k_is)
    (case a_SetKind => k_is)
    (case mk_SetKind => k_is)
    (case in_SetKind => k_is)
    (case tp_SetKind => k_is)
    (case kc_SetKind => k_is)
    (case pg_SetKind => k_is)
    (case hd_SetKind => k_is)
    (case po_SetKind => k_is)
    (case sa_SetKind => k_is)
    (case qn_SetKind => k_is)
    (case qng_SetKind => k_is)
    (case qo_SetKind => k_is)
    (case a_kS => k_is)
    (case i_kS => k_is)
    (case l_kS => k_is)
    (case c_kS => k_is)
    (case k_kS => k_is)
    (case a_FirstKind => k_is)
    (case mk_FirstKind => k_is)
    (case in_FirstKind => k_is)
    (case tp_FirstKind => k_is)
    (case kc_FirstKind => k_is)
    (case pg_FirstKind => k_is)
    (case hd_FirstKind => k_is)
    (case po_FirstKind => k_is)
    (case sa_FirstKind => k_is)
    (case qn_FirstKind => k_is)
    (case qng_FirstKind => k_is)
    (case qo_FirstKind => k_is)
    (case a_kF => k_is)
    (case i_kF => k_is)
    (case l_kF => k_is)
    (case c_kF => k_is)
    (case k_kF => k_is)
    (case a_LastKind => k_is)
    (case mk_LastKind => k_is)
    (case in_LastKind => k_is)
    (case tp_LastKind => k_is)
    (case kc_LastKind => k_is)
    (case pg_LastKind => k_is)
    (case hd_LastKind => k_is)
    (case po_LastKind => k_is)
    (case sa_LastKind => k_is)
    (case qn_LastKind => k_is)
    (case qng_LastKind => k_is)
    (case qo_LastKind => k_is)
    (case a_kL => k_is)
    (case i_kL => k_is)
    (case l_kL => k_is)
    (case c_kL => k_is)
    (case k_kL => k_is)
    (case a_EndsKind => k_is)
    (case mk_EndsKind => k_is)
    (case in_EndsKind => k_is)
    (case tp_EndsKind => k_is)
    (case kc_EndsKind => k_is)
    (case pg_EndsKind => k_is)
    (case hd_EndsKind => k_is)
    (case po_EndsKind => k_is)
    (case sa_EndsKind => k_is)
    (case qn_EndsKind => k_is)
    (case qng_EndsKind => k_is)
    (case qo_EndsKind => k_is)
    (case a_kE => k_is)
    (case i_kE => k_is)
    (case l_kE => k_is)
    (case c_kE => k_is)
    (case k_kE => k_is)
    (case a_HeadsKind => k_is)
    (case mk_HeadsKind => k_is)
    (case in_HeadsKind => k_is)
    (case tp_HeadsKind => k_is)
    (case kc_HeadsKind => k_is)
    (case pg_HeadsKind => k_is)
    (case hd_HeadsKind => k_is)
    (case po_HeadsKind => k_is)
    (case sa_HeadsKind => k_is)
    (case qn_HeadsKind => k_is)
    (case qng_HeadsKind => k_is)
    (case qo_HeadsKind => k_is)
    (case a_kH => k_is)
    (case i_kH => k_is)
    (case l_kH => k_is)
    (case c_kH => k_is)
    (case k_kH => k_is)
    (case a_TailsKind => k_is)
    (case mk_TailsKind => k_is)
    (case in_TailsKind => k_is)
    (case tp_TailsKind => k_is)
    (case kc_TailsKind => k_is)
    (case pg_TailsKind => k_is)
    (case hd_TailsKind => k_is)
    (case po_TailsKind => k_is)
    (case sa_TailsKind => k_is)
    (case qn_TailsKind => k_is)
    (case qng_TailsKind => k_is)
    (case qo_TailsKind => k_is)
    (case a_kT => k_is)
    (case i_kT => k_is)
    (case l_kT => k_is)
    (case c_kT => k_is)
    (case k_kT => k_is)
    (case p_Kind => k_is)
    (case p_BagKind => k_is)
    (case p_SetKind => k_is)
    (case p_FirstKind => k_is)
    (case p_LastKind => k_is)
    (case p_EndsKind => k_is)
    (case p_HeadsKind => k_is)
    (case p_TailsKind => k_is)
    (case i_pl => k_is)
    (case l_pl => k_is)
    (case c_pl => k_is)
    (case k_pl => k_is)
    (case t_nK => first | exact rfl | kernel_rfl | decide +kernel)
    (case t_cd => first | exact rfl | kernel_rfl | decide +kernel)
    (case n_a => k_is)
    (case n_l => k_is)
    (case b_a => k_is)
    (case b_l => k_is)
    (case b_v => decide +kernel)
    (case b_sa => k_is)
    (case b_ex => k_is)
    (case b_ty => k_is)
    (case b_k => k_is)
    (case b_i => k_is)
    (case b_it => k_is)
    (case b_il => k_is)
    (case b_ic => k_is)
    (case b_cl => k_is)
    (case b_cf => rfl)
    (case b_fi => first | rfl | decide +kernel)
    (case b_cc => k_is)
    (case b_se => k_is)
    (case b_ve => k_is)
    (case b_op => k_is)
    (case b_su => first | k_is | rfl | decide +kernel)
    (case b_cd => k_is)
    (case b_ga => k_is)
    (case b_gt => k_is)
    (case b_hd => k_is)
    (case b_no => k_is)
    (case b_ss => k_is)

