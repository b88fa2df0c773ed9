import PyProof.Rows.All
import Wide.All
import OpenK.AllK
import Wide.FinOn
import PySem.Challenge.RW_movedstates_k07_sessions_cut_and_joined
import HandS.Base
import HandS.Call
import HandS.List
import HandS.Comp
import HandS.Ends
import HandS.Dict
import HandS.Iter
import HandS.Text
import HandS.More
import HandS.Words
import HandS.WordsList
import HandS.Wide
import HandS.SortInts
import HandS.DictComp
import HandS.Walk
import HandS.Exc
import HandS.ExcOwn
import HandS.TryOnly
import HandS.WordsExc
import HandS.IsInst
import HandS.ExcIs
import HandS.ExcInit
import HandS.SetKeys
import HandS.Style
import HandS.Conv
import HandS.FStr
import KE.KDictSum
import KE.KDictList
import PyProof.TupleOfSeq
import PyProof.DictValues
import KE.GoesEnum
import KE.GoesMore
import KE.SortKeyHeap
import HandS.Lambda
import HandS.SortKw
import HandS.TupAny
import PyProof.ListMulRoad
import PyProof.FactsAll.tuple_2
import HandS.TupMul
import HandS.Defaults
import HandS.CallSlots
import HandS.TryMany
import KE.KExcIs
import KE.KExcSuper
import KE.KSuper
import HandS.FStrTup
import HandS.ExcSuper
import HandS.ExcField
import KE.KEqSeq
import KE.LtData
import HandS.EndTab
import KE.KNestM
set_option Elab.async false
set_option linter.all false
set_option maxRecDepth 100000
set_option maxHeartbeats 4000000
namespace Mv
open PySem PySem.Spec PyProof.Rows L2
/-! ### calls by their promises -/
/-- a def that may be called by its name -/
structure CalX (CX : CXT) (P : Program) (w : World) (K : PySem.W.Frag) (mg : Str → Option Value) (base : Heap) (k : Nat) (x : Str) (sp : Sp) : Prop where
  ex : ∃ (f : Addr) (fd : FuncData) (ps : List Str), FnOk P w K mg base CX k f fd ps sp ∧ mg x = some (.ref f) ∧ PySem.W.keepIn K (.ref f) = true ∧ Binds K fd ps []
/-- a method of the class at C -/
structure MetX (CX : CXT) (P : Program) (w : World) (K : PySem.W.Frag) (mg : Str → Option Value) (base : Heap) (k : Nat) (C : Addr) (m : Str) (sp : Sp) : Prop where
  ex : ∃ (f : Addr) (fd : FuncData) (ps : List Str), Cls K C ∧ Meth K C m f ∧ FnOk P w K mg base CX k f fd ps sp ∧ Binds K fd ps []
section
variable {X : Cx} {CX : CXT} {k j : Nat} {C : Addr} {x m : Str} {sp : Sp} {E : XK} {p pos apos : Pos} {e o : Expr} {es : List Expr} {ta : TE} {t : TA}
theorem pe_cx (c : CalX CX X.prog X.w X.K X.mg X.base k x sp) (hr : Room j X.A) (hk : k ≤ j) (hx : Passes CX X E) (hg : Gl X x) (ha : PA X (e :: es) t)
    (hdb : (x == ("__debug__" : Str)) = false := by decide) (he : starEach (e :: es) X.env = (false, eval e X.env) :: starEach es X.env := by rfl) (hpl : (backTo pos (starEach es X.env)).any (·.1) = false := by rfl) :
    PE X (.Call (.Name x p) (e :: es) [] pos) (tCall sp [] E t) := by
  obtain ⟨f, fd, ps, F, hm, kp, b⟩ := c.ex
  exact pe_call F (hr.mono hk) hg hm kp b .nil hx ha hdb he hpl
theorem pe_mx {pl : Sem Bool} (c : MetX CX X.prog X.w X.K X.mg X.base k C m sp) (hr : Room j X.A) (hk : k ≤ j) (hx : Passes CX X E) (he : PE X o ta) (ha : PA X (e :: es) t)
    (hst : starEach (e :: es) X.env = (false, eval e X.env) :: starEach es X.env := by rfl) (hpl : (backTo pos (starEach es X.env)).any (·.1) = false := by rfl)
    (ht : eval (.Call (.Attribute o m apos) (e :: es) [] pos) X.env = (do
      let ov ← eval o X.env
      standAt apos.atName
      let (f, first) ← holding [ov] (getMethod ov m pl)
      callWith pos f first (backTo pos (starEach (e :: es) X.env)) (backToKw pos (keywordEach [] X.env))) := by rfl) :
    PE X (.Call (.Attribute o m apos) (e :: es) [] pos) (tMeth C m sp [] E ta t) := by
  obtain ⟨f, fd, ps, hc, hm, F, b⟩ := c.ex
  exact pe_meth (pl := pl) he hc hm F (hr.mono hk) b .nil hx ha hst hpl ht
theorem pe_mx0 {pl : Sem Bool} (c : MetX CX X.prog X.w X.K X.mg X.base k C m sp) (hr : Room j X.A) (hk : k ≤ j) (hx : Passes CX X E) (he : PE X o ta)
    (ht : eval (.Call (.Attribute o m apos) [] [] pos) X.env = (do
      let ov ← eval o X.env
      standAt apos.atName
      let (f, first) ← holding [ov] (getMethod ov m pl)
      callWith pos f first (backTo pos (starEach [] X.env)) (backToKw pos (keywordEach [] X.env))) := by rfl) :
    PE X (.Call (.Attribute o m apos) [] [] pos) (tMeth C m sp [] E ta tNil) := by
  obtain ⟨f, fd, ps, hc, hm, F, b⟩ := c.ex
  exact pe_meth0 (pl := pl) he hc hm F (hr.mono hk) b .nil hx ht
end
/-- a def of the module, as the top leaves it -/
structure DefX (K : PySem.W.Frag) (mg : Str → Option Value) (x : Str) (st : Stmt) (ps : List Str) : Prop where
  ex : ∃ (f : Addr) (fd : FuncData), Fun K x x st f fd ∧ mg x = some (.ref f) ∧ Binds K fd ps []
theorem DefX.cal {P : Program} {w : World} {K : PySem.W.Frag} {mg : Str → Option Value} {base : Heap} {CX : CXT} {k : Nat} {x : Str} {st : Stmt} {ps : List Str} {sp : Sp} (D : DefX K mg x st ps)
    (h : ∀ f fd, Fun K x x st f fd → FnOk P w K mg base CX k f fd ps sp) : CalX CX P w K mg base k x sp := by
  obtain ⟨f, fd, F, hm, b⟩ := D.ex
  exact ⟨f, fd, ps, h f fd F, hm, F.kp, b⟩
/-! ### the built-in names that stay -/
structure Bi (mg : Str → Option Value) : Prop where
  len : mg "len" = none
  range : mg "range" = none
  enumerate : mg "enumerate" = none
  abs : mg "abs" = none
  int : mg "int" = none
  list : mg "list" = none
  tuple : mg "tuple" = none
  sorted : mg "sorted" = none
  isinstance : mg "isinstance" = none
  str : mg "str" = none
  bool : mg "bool" = none
  super : mg "super" = none
  ValueError : mg "ValueError" = none
theorem cxK {CX : CXT} {P : Program} {w : World} {K : PySem.W.Frag} {mg : Str → Option Value} {base : Heap} {N : List Str} {q : Str} {sc : Scope} {f : Addr} {cdv : Value} {A : Around} {outer : List Env} {s : Shared} {H : Hp} {E : XK} : (cxOf CX P w K mg base N q sc f cdv A outer s H E).K = K := rfl
theorem cxKn {CX : CXT} {P : Program} {w : World} {K : PySem.W.Frag} {mg : Str → Option Value} {base : Heap} {N : List Str} {q : Str} {sc : Scope} {f : Addr} {cdv : Value} {A : Around} {outer : List Env} {s : Shared} {H : Hp} {E : XK} : (cxOf CX P w K mg base N q sc f cdv A outer s H E).nox.K = K := rfl
/-! ### heaps -/
/-- all but what stands at a is as it was -/
def Sx (a : Addr) (H H' : Hp) : Prop := ∀ b o, b ≠ a → H b = some o → H' b = some o
theorem Sx.refl (a : Addr) (H : Hp) : Sx a H H := fun _ _ _ h => h
theorem Sx.trans {a : Addr} {H H1 H2 : Hp} (h : Sx a H H1) (k : Sx a H1 H2) : Sx a H H2 := fun b o n e => k b o n (h b o n e)
theorem Sx.of {a : Addr} {H H' : Hp} (h : Same H H') : Sx a H H' := fun b o _ e => h b o e
theorem Sx.upd {a : Addr} {H : Hp} {o : HO} : Sx a H (upd H a o) := fun b u n e => by rw [upd_ne n]; exact e
theorem same_upd {H : Hp} {p : Addr} {o : HO} (h : H p = none) : Same H (upd H p o) := fun b x e => by
  rw [upd_ne (ne_of_none e h)]
  exact e
theorem Same.tup {K : PySem.W.Frag} {H H' : Hp} {a : Addr} {xs : List V} (e : Same H H') (h : SqT K H a xs) : SqT K H' a xs := by
  rcases h with (h | ⟨o, h⟩) | h
  · exact .inl (.inl (e _ _ h))
  · exact .inl (.inr ⟨o, e _ _ h⟩)
  · exact .inr h
/-- the stream at a -/
def Strm (H : Hp) (a : Addr) : Prop := ∃ ns : List Int, H a = some (.lst (ns.map V.int)) ∧ ns.length ≤ 4000
theorem Strm.same {H H' : Hp} {a : Addr} (h : Strm H a) (s : Same H H') : Strm H' a := by
  obtain ⟨ns, e, l⟩ := h
  exact ⟨ns, s _ _ e, l⟩
theorem Strm.some {H : Hp} {a : Addr} (h : Strm H a) : ∃ xs, H a = some (.lst xs) := by
  obtain ⟨ns, e, l⟩ := h
  exact ⟨_, e⟩
theorem Strm.ne {H : Hp} {a p : Addr} (h : Strm H a) (n : H p = none) : a ≠ p := by
  obtain ⟨ns, e, l⟩ := h
  exact ne_of_none e n
/-! ### small facts -/
def cutI (ns : List Int) (lo hi : Option Int) : List Int := (ns.drop (HT.sIx ns.length 0 lo)).take (HT.sIx ns.length ns.length hi - HT.sIx ns.length 0 lo)
theorem cutV_int (ns : List Int) (lo hi : Option Int) : cutV (ns.map V.int) lo hi = (cutI ns lo hi).map V.int := by
  unfold cutV cutI
  rw [List.length_map, List.map_take, List.map_drop]
theorem cutI_length (ns : List Int) (lo hi : Option Int) : (cutI ns lo hi).length ≤ ns.length := by
  have h := cutV_length (ns.map V.int) lo hi
  rw [cutV_int, List.length_map, List.length_map] at h
  exact h
theorem int_at {ns : List Int} {i : Nat} {y : V} (h : (ns.map V.int)[i]? = some y) : ∃ u, y = .int u ∧ ns[i]? = some u := by
  rw [List.getElem?_map] at h
  cases e : ns[i]? with
  | none =>
    rw [e] at h
    cases h
  | some u =>
    rw [e] at h
    exact ⟨u, (Option.some.inj h).symm, rfl⟩
theorem abs_nn (i : Int) : 0 ≤ (if i < 0 then -i else i) := by
  by_cases h : i < 0
  · rw [if_pos h]
    omega
  · rw [if_neg h]
    omega
theorem small4000 {n : Nat} (h : n ≤ 4000) : n < sizeLine := Nat.lt_of_le_of_lt h (by decide)
theorem small4000' {n : Nat} (h : n ≤ 4000) : n ≤ sizeLine := Nat.le_of_lt (small4000 h)
theorem ints_flat : ∀ ns : List Int, (ns.map V.int).all flatV = true
  | [] => rfl
  | n :: ns => ints_flat ns
end Mv

set_option Elab.async false
set_option linter.all false
set_option maxRecDepth 100000
set_option maxHeartbeats 1000000
namespace Mv
open PySem
/-! ### sorted lists -/
def sortI (xs : List Int) : List Int := xs.mergeSort fun a b => decide (a ≤ b)
theorem sort_perm (xs : List Int) : (sortI xs).Perm xs := List.mergeSort_perm xs _
theorem sort_le (xs : List Int) : (sortI xs).Pairwise (· ≤ ·) := by
  have h := List.pairwise_mergeSort (le := fun a b : Int => decide (a ≤ b)) (fun a b c h1 h2 => by
    have h1 := of_decide_eq_true h1
    have h2 := of_decide_eq_true h2
    exact decide_eq_true (Int.le_trans h1 h2)) (fun a b => by
    by_cases h : a ≤ b
    · simp [h]
    · have : b ≤ a := by omega
      simp [this]) xs
  exact h.imp fun h => of_decide_eq_true h
theorem sorted_one : ∀ {xs ys : List Int}, xs.Perm ys → xs.Pairwise (· ≤ ·) → ys.Pairwise (· ≤ ·) → xs = ys
  | [], ys, h, _, _ => (List.Perm.nil_eq h)
  | x :: xs, [], h, _, _ => absurd h.length_eq (by simp)
  | x :: xs, y :: ys, h, h1, h2 => by
    have a := List.pairwise_cons.mp h1
    have b := List.pairwise_cons.mp h2
    have e : x = y := by
      have m1 : x ∈ y :: ys := h.mem_iff.mp List.mem_cons_self
      have m2 : y ∈ x :: xs := h.mem_iff.mpr List.mem_cons_self
      rcases List.mem_cons.mp m1 with e | m1
      · exact e
      · rcases List.mem_cons.mp m2 with e | m2
        · exact e.symm
        · exact Int.le_antisymm (a.1 _ m2) (b.1 _ m1)
    subst e
    rw [sorted_one (List.Perm.cons_inv h) a.2 b.2]
theorem sort_is {xs ys : List Int} (h : xs.Perm ys) (s : xs.Pairwise (· ≤ ·)) : xs = sortI ys := sorted_one (h.trans (sort_perm ys).symm) s (sort_le ys)
theorem sort_congr {xs ys : List Int} (h : xs.Perm ys) : sortI xs = sortI ys := sort_is ((sort_perm xs).trans h) (sort_le xs)
theorem sort_nodup {xs : List Int} (h : xs.Nodup) : (sortI xs).Nodup := (sort_perm xs).nodup_iff.mpr h
theorem mem_sort {x : Int} {xs : List Int} : x ∈ sortI xs ↔ x ∈ xs := (sort_perm xs).mem_iff
theorem perm_of_mem {xs ys : List Int} (h1 : xs.Nodup) (h2 : ys.Nodup) (h : ∀ x, x ∈ xs ↔ x ∈ ys) : xs.Perm ys := (List.perm_ext_iff_of_nodup h1 h2).mpr h
theorem sort_mem {xs ys : List Int} (h1 : xs.Nodup) (h2 : ys.Nodup) (h : ∀ x, x ∈ xs ↔ x ∈ ys) : sortI xs = sortI ys := sort_congr (perm_of_mem h1 h2 h)
/-! ### each value once, where it comes first -/
def addI (acc : List Int) (x : Int) : List Int := if x ∈ acc then acc else acc ++ [x]
def headsA (acc xs : List Int) : List Int := xs.foldl addI acc
def headsI (xs : List Int) : List Int := headsA [] xs
def tailsI (xs : List Int) : List Int := (headsI xs.reverse).reverse
theorem headsA_snoc (acc xs : List Int) (x : Int) : headsA acc (xs ++ [x]) = addI (headsA acc xs) x := by
  unfold headsA
  rw [List.foldl_append]
  rfl
theorem headsA_app (acc xs ys : List Int) : headsA acc (xs ++ ys) = headsA (headsA acc xs) ys := by
  unfold headsA
  rw [List.foldl_append]
theorem headsI_snoc (xs : List Int) (x : Int) : headsI (xs ++ [x]) = addI (headsI xs) x := headsA_snoc [] xs x
theorem mem_addI {acc : List Int} {x y : Int} : y ∈ addI acc x ↔ y ∈ acc ∨ y = x := by
  unfold addI
  split
  · rename_i h
    exact ⟨.inl, fun z => z.elim id fun e => e ▸ h⟩
  · simp
theorem snoc_ind {P : List Int → Prop} (h0 : P []) (hs : ∀ xs x, P xs → P (xs ++ [x])) (xs : List Int) : P xs := by
  have h : ∀ ys : List Int, P ys.reverse := fun ys => by
    induction ys with
    | nil => exact h0
    | cons y ys ih =>
      rw [List.reverse_cons]
      exact hs _ _ ih
  have e := h xs.reverse
  rw [List.reverse_reverse] at e
  exact e
theorem mem_headsI {y : Int} (xs : List Int) : y ∈ headsI xs ↔ y ∈ xs := by
  induction xs using snoc_ind with
  | h0 => exact Iff.rfl
  | hs xs x ih =>
    rw [headsI_snoc, mem_addI, ih]
    simp
theorem nodup_addI {acc : List Int} {x : Int} (h : acc.Nodup) : (addI acc x).Nodup := by
  unfold addI
  split
  · exact h
  · rename_i hx
    refine List.nodup_append.mpr ⟨h, by simp, fun a ha b hb => ?_⟩
    rw [List.mem_singleton] at hb
    rw [hb]
    exact fun e => hx (e ▸ ha)
theorem nodup_headsI (xs : List Int) : (headsI xs).Nodup := by
  induction xs using snoc_ind with
  | h0 => exact List.nodup_nil
  | hs xs x ih =>
    rw [headsI_snoc]
    exact nodup_addI ih
theorem headsI_nodup (xs : List Int) : xs.Nodup → headsI xs = xs := by
  induction xs using snoc_ind with
  | h0 => exact fun _ => rfl
  | hs xs x ih =>
    intro h
    obtain ⟨h1, _, h3⟩ := List.nodup_append.mp h
    rw [headsI_snoc, ih h1]
    unfold addI
    rw [if_neg fun hx => h3 x hx x (by simp) rfl]
theorem headsA_eq (acc xs : List Int) : headsA acc xs = acc ++ (headsI xs).filter fun x => decide (x ∉ acc) := by
  induction xs using snoc_ind with
  | h0 => simp [headsA, headsI]
  | hs xs x ih =>
    rw [headsA_snoc, headsI_snoc, ih]
    have hm := mem_headsI (y := x) xs
    unfold addI
    by_cases ha : x ∈ acc
    · rw [if_pos (List.mem_append_left _ ha)]
      split
      · rfl
      · rw [List.filter_append]
        simp [ha]
    · by_cases hx : x ∈ headsI xs
      · rw [if_pos hx, if_pos (List.mem_append_right _ (List.mem_filter.mpr ⟨hx, by simp [ha]⟩))]
      · rw [if_neg hx, if_neg, List.filter_append]
        · simp [ha]
        · intro z
          rcases List.mem_append.mp z with z | z
          · exact ha z
          · exact hx (List.mem_filter.mp z).1
theorem headsI_idem (xs : List Int) : headsI (headsI xs) = headsI xs := headsI_nodup _ (nodup_headsI xs)
theorem headsI_join (u v : List Int) : headsI (headsI u ++ headsI v) = headsI (u ++ v) := by
  show headsA [] _ = headsA [] _
  rw [headsA_app, headsA_app]
  show headsA (headsI (headsI u)) (headsI v) = headsA (headsI u) v
  rw [headsI_idem, headsA_eq, headsI_idem, ← headsA_eq]
theorem tailsI_idem (xs : List Int) : tailsI (tailsI xs) = tailsI xs := by
  unfold tailsI
  rw [List.reverse_reverse, headsI_idem]
theorem tailsI_join (u v : List Int) : tailsI (tailsI u ++ tailsI v) = tailsI (u ++ v) := by
  unfold tailsI
  rw [List.reverse_append, List.reverse_reverse, List.reverse_reverse, headsI_join, List.reverse_append]
/-! ### plain values -/
def firstI (xs : List Int) : List Int := xs.take 1
def lastI (xs : List Int) : List Int := xs.drop (xs.length - 1)
def endsI (xs : List Int) : List Int := xs.take 1 ++ xs.drop (xs.length - 1)
/-- the eight kinds -/
inductive Kd where
  | list | bag | set | first | last | ends | heads | tails
  deriving DecidableEq
def Kd.nm : Kd → Str
  | .list => "list" | .bag => "bag" | .set => "set" | .first => "first" | .last => "last" | .ends => "ends" | .heads => "heads" | .tails => "tails"
def kds : List Kd := [.list, .bag, .set, .first, .last, .ends, .heads, .tails]
def plainI (k : Kd) (xs : List Int) : List Int :=
  match k with
  | .list => xs
  | .bag => sortI xs
  | .set => sortI (headsI xs)
  | .first => firstI xs
  | .last => lastI xs
  | .ends => endsI xs
  | .heads => headsI xs
  | .tails => tailsI xs
theorem lastI_snoc (xs : List Int) (x : Int) : lastI (xs ++ [x]) = [x] := by
  unfold lastI
  rw [List.length_append]
  simp
theorem first_join (u v : List Int) : firstI (firstI u ++ firstI v) = firstI (u ++ v) := by
  cases u with
  | nil => cases v <;> rfl
  | cons x u => rfl
theorem last_join (u v : List Int) : lastI (lastI u ++ lastI v) = lastI (u ++ v) := by
  induction v using snoc_ind with
  | h0 =>
    induction u using snoc_ind with
    | h0 => rfl
    | hs u x _ => simp [lastI_snoc, lastI]
  | hs v y _ => rw [lastI_snoc, lastI_snoc, ← List.append_assoc, lastI_snoc]
theorem endsI_eq (xs : List Int) : endsI xs = firstI xs ++ lastI xs := rfl
theorem last_ends (xs : List Int) : lastI (endsI xs) = lastI xs := by
  induction xs using snoc_ind with
  | h0 => rfl
  | hs xs x _ => rw [endsI_eq, lastI_snoc, lastI_snoc]
theorem first_ends (xs : List Int) : firstI (endsI xs) = firstI xs := by
  cases xs with
  | nil => rfl
  | cons x xs => rfl
theorem first_app (u v : List Int) : firstI (u ++ v) = firstI (firstI u ++ firstI v) := (first_join u v).symm
theorem last_app (u v : List Int) : lastI (u ++ v) = lastI (lastI u ++ lastI v) := (last_join u v).symm
theorem ends_join (u v : List Int) : endsI (endsI u ++ endsI v) = endsI (u ++ v) := by
  rw [endsI_eq (_ ++ _), endsI_eq (u ++ v), first_app (endsI u), last_app (endsI u), first_ends, first_ends, last_ends, last_ends, first_join, last_join]
theorem plain_join (k : Kd) (u v : List Int) : plainI k (plainI k u ++ plainI k v) = plainI k (u ++ v) := by
  cases k with
  | list => rfl
  | bag => exact sort_congr ((sort_perm u).append (sort_perm v))
  | set =>
    refine sort_mem (nodup_headsI _) (nodup_headsI _) fun x => ?_
    show x ∈ headsI (sortI (headsI u) ++ sortI (headsI v)) ↔ _
    rw [mem_headsI, mem_headsI, List.mem_append, List.mem_append, mem_sort, mem_sort, mem_headsI, mem_headsI]
  | first => exact first_join u v
  | last => exact last_join u v
  | ends => exact ends_join u v
  | heads => exact headsI_join u v
  | tails => exact tailsI_join u v
theorem sort_nil : sortI [] = [] := List.Perm.eq_nil (sort_perm [])
theorem plain_nil (k : Kd) : plainI k [] = [] := by
  cases k with
  | bag => exact sort_nil
  | set => exact sort_nil
  | _ => rfl
theorem plain_idem (k : Kd) (u : List Int) : plainI k (plainI k u) = plainI k u := by
  have h := plain_join k u []
  rw [plain_nil, List.append_nil, List.append_nil] at h
  exact h
theorem headsI_len (xs : List Int) : (headsI xs).length ≤ xs.length := by
  induction xs using snoc_ind with
  | h0 => exact Nat.le_refl _
  | hs xs x ih =>
    rw [headsI_snoc, List.length_append]
    unfold addI
    split
    · omega
    · rw [List.length_append]
      simp only [List.length_singleton]
      omega
theorem plain_len (k : Kd) (xs : List Int) : (plainI k xs).length ≤ 2 * xs.length := by
  have h := headsI_len xs
  have h2 := headsI_len xs.reverse
  rw [List.length_reverse] at h2
  cases k with
  | list => show xs.length ≤ _; omega
  | bag => show (sortI xs).length ≤ _; rw [(sort_perm xs).length_eq]; omega
  | set => show (sortI (headsI xs)).length ≤ _; rw [(sort_perm (headsI xs)).length_eq]; omega
  | first => show (xs.take 1).length ≤ _; rw [List.length_take]; omega
  | last => show (xs.drop (xs.length - 1)).length ≤ _; rw [List.length_drop]; omega
  | ends => show (xs.take 1 ++ xs.drop (xs.length - 1)).length ≤ _; rw [List.length_append, List.length_take, List.length_drop]; omega
  | heads => show (headsI xs).length ≤ _; omega
  | tails => show ((headsI xs.reverse).reverse).length ≤ _; rw [List.length_reverse]; omega
end Mv

set_option Elab.async false
set_option linter.all false
set_option maxRecDepth 100000
set_option maxHeartbeats 4000000
namespace Mv
open PySem PySem.Spec PyProof.Rows L2
/-! ### C() where no class on the way has an __init__ -/
structure Mk0 (K : PySem.W.Frag) (C : Addr) : Prop where
  makes : PySem.W.makesIn K C = true
  init : PySem.W.findIn K (.ref C) "__init__" = some (some (.builtin "object.__init__"))
  top : PySem.W.mroIn K C (.type "object") = some true
  kp : PySem.W.keepIn K (.ref C) = true
def tMake0 (C : Addr) : TE := fun _ H Q => ∀ x dx, H x = none → H dx = none → dx ≠ x → Q (.ref x) (upd (upd H dx (.own x)) x (.ins C dx []))
section
variable {X : Cx} {pins : List (Addr × Obj)} {σ : L2.St} {H : Hp} {s : Shared} {Q : VK} {C : Addr}
theorem run_makeB (M : Mk0 X.K C) (I : Inv X pins σ H s) (h : ∀ x dx, H x = none → H dx = none → dx ≠ x → Q (.ref x) (upd (upd H dx (.own x)) x (.ins C dx []))) :
    wpAny (model X.prog X.w) X.A (call (.ref C) []) (EP X pins σ Q) X.xe s := by
  have hq := h (s.heap.objs.size + 1) s.heap.objs.size (I.hok.fresh (Nat.le_succ _)) (I.hok.fresh (Nat.le_refl _)) (Nat.ne_of_lt (Nat.lt_succ_self _))
  have J := Inv.made (C := C) I
  refine wpAny_call (make_map0 I.kIn M.makes M.init (fun self => PySem.W.Looks.of_pure (PySem.W.oi_bind _)) ?_)
  obtain ⟨o, ho, hc⟩ : ∃ o : Obj, ((s.heap.push PySem.W.emptyDict).push (PySem.W.instObj C s.heap.objs.size)).get? (s.heap.objs.size + 1) = some o ∧ o.cls = .ref C := by
    obtain ⟨_, _, _, e, _⟩ := J.hok _ _ upd_same
    exact ⟨_, e, rfl⟩
  have ty : PySem.W.Looks (model X.prog X.w) ((s.heap.push PySem.W.emptyDict).push (PySem.W.instObj C s.heap.objs.size)) (typeOf (.ref (s.heap.objs.size + 1))) (.ref C) := (PySem.W.Looks.ld ho).andThen (by rw [hc]; exact .now)
  have top : PySem.W.Looks (model X.prog X.w) ((s.heap.push PySem.W.emptyDict).push (PySem.W.instObj C s.heap.objs.size)) (isInstance (.ref (s.heap.objs.size + 1)) (.type "object")) true := ty.andThen (PySem.W.looks_mroIn J.kIn M.top)
  refine codeAny_call_builtin PySem.W.oi_plain PySem.W.entry_oi (@PySem.W.check_slot (model X.prog X.w) _ _ _ "object.__init__" "object" "__init__" (.ref (s.heap.objs.size + 1)) [] [] _ PySem.W.oi_kind PySem.W.oi_split top (PySem.W.oi_args _) ?_)
  rw [PySem.W.oi_run]
  exact wpAny_pure ⟨rfl, .ref (s.heap.objs.size + 1), _, J, rfl, hq⟩
theorem pe_makeB {x : Str} {p pos : Pos} (M : Mk0 X.K C) (hg : Gl X x) (hm : X.mg x = some (.ref C)) (hdb : (x == ("__debug__" : Str)) = false := by decide) : PE X (.Call (.Name x p) [] [] pos) (tMake0 C) := by
  refine ⟨fun pins s σ H Q I h => ?_⟩
  refine wpAny_Call_Name_kw (ld_glob I hg hm ?_ hdb)
  exact PySem.W.callWith_K0 I.kIn M.kp (run_makeB M I h)
end
theorem paired_at {α β : Type} {F : α → β → Prop} : ∀ {xs : List α} {ys : List β} {i : Nat} {y : β}, Paired F xs ys → ys[i]? = some y → ∃ x, xs[i]? = some x ∧ F x y
  | _, _, i, y, .nil, h => by cases h
  | _, _, 0, y, .cons r t, h => ⟨_, rfl, by cases h; exact r⟩
  | _, _, i + 1, y, .cons r t, h => paired_at (i := i) t h
/-! ### sorted of ints, whatever they are collected from -/
section
variable {X : Cx} {pins : List (Addr × Obj)} {σ : L2.St} {H : Hp} {s : Shared} {Q : VK}
theorem sorted_from (I : Inv X pins σ H s) {v : Value} {ns : List Int} (hz : ns.length ≤ sizeLine)
    (hc : ∀ R : List Value → Shared → Prop, (∀ (h' : Heap) (tk : Nat) (acc : List Value), (∀ b o, s.heap.get? b = some o → h'.get? b = some o) → IntsAre acc ns → R acc { s with heap := h', toks := tk }) → wpAny (model X.prog X.w) X.A.in1 (collect v) R X.xe s)
    (q : ∀ p : Addr, H p = none → Q (.ref p) (upd H p (.lst ((sortI ns).map V.int)))) :
    wpAny (model X.prog X.w) X.A (call (.builtin "sorted") [v]) (EP X pins σ Q) X.xe s := by
  refine Calls.call_function_entry PyProof.Rows.kind_sorted PyProof.Rows.plain_sorted PyProof.Rows.entry_sorted (PyProof.Rows.args_sorted1 _) ?_
  unfold Builtin.«sorted»
  refine wpAny_bind (m := checkCount "sorted" 1 1 _) (wpAny_pure (wpAny_bind (hc _ fun h' tk acc hk hi => ?_)))
  have I1 : Inv X pins σ H { s with heap := h', toks := tk } := I.kept hk
  have hl : acc.length = ns.length := hi.length
  refine wpAny_bind (wpAny_newList ?_ (by rw [hl]; exact hz))
  have ho : (h'.push (seqObj "list" acc.toArray 0)).get? h'.objs.size = some (seqObj "list" acc.toArray 0) := Heap.get?_push_size _ rfl
  show wpAny _ _ _ _ _ { s with heap := h'.push (seqObj "list" acc.toArray 0), toks := tk }
  refine wpAny_bind (wpAny_holding (wpAny_call_entry PyProof.Rows.slot_list_sort ⟨_, ho, rfl⟩ PyProof.Rows.entry_list_sort
    (SrtO.list_sort_ord (s := { s with heap := h'.push (seqObj "list" acc.toArray 0), toks := tk }) SrtO.swo_int ho (by rw [hl]; exact hz) (fun h2 => SrtO.ints_sortable hi h2) fun out k1 k2 => ⟨_, rfl, ?_⟩) (PyProof.Rows.args_list_sort _)))
  obtain ⟨g1, g2, g3⟩ := SrtO.ints_out hi k1 k2
  rw [sort_is g2 g3] at g1
  obtain ⟨e', he'⟩ := PyProof.Rows.sortedHeap_at (vs := acc) (out := out.toArray) ho
  refine wpAny_pure ⟨_, rfl, .ref h'.objs.size, upd H h'.objs.size (.lst ((sortI ns).map V.int)), I1.laid (t' := tk) (fun b u e => ?_) (Nat.le_refl _)
    (show ObjOk X.prog X.w _ _ _ (.lst ((sortI ns).map V.int)) from ⟨by rw [List.length_map, (sort_perm ns).length_eq]; exact hz, out, e', vals_of_ints g1, he'⟩), rfl, q _ (I1.hok.fresh (Nat.le_refl _))⟩
  have hb : b < h'.objs.size := Heap.lt_size e
  rw [PyProof.Rows.sortedHeap_old (Nat.ne_of_lt hb) (by rw [size_push']; exact Nat.lt_succ_of_lt hb)]
  exact Heap.get?_push_of_some _ e
/-- sorted(t), t a tuple of ints -/
def rSortT (K : PySem.W.Frag) : List V → Hp → VK → Prop := fun vs H Q => ∃ (a : Addr) (ns : List Int), vs = [V.ref a] ∧ SqT K H a (ns.map V.int) ∧ ∀ p : Addr, H p = none → Q (.ref p) (upd H p (.lst ((sortI ns).map V.int)))
theorem cr_sortT' : CallR X (.builtin "sorted") (rSortT X.K) := by
  intro pins s σ H vs us Q I r h
  obtain ⟨a, ns, rfl, hs, q⟩ := h
  rw [Vals.ref1 r]
  obtain ⟨its, rv, ⟨o, h1, h2, n, h3⟩, hz⟩ := I.tuple hs
  have hi := rv.ints
  have hl := hi.length
  rw [List.length_map] at hz
  refine sorted_from I hz (fun R k => wpAny_collect_seq a (.inr rfl) h1 h2 h3 (fun h' hk => ?_) (by rw [List.size_toArray, hl]; exact hz)) q
  have := k h' s.toks its hk hi
  simpa using this
/-- sorted(l), l a list of ints -/
def rSortL (K : PySem.W.Frag) : List V → Hp → VK → Prop := fun vs H Q => ∃ (a : Addr) (ns : List Int), vs = [V.ref a] ∧ SqL K H a (ns.map V.int) ∧ ∀ p : Addr, H p = none → Q (.ref p) (upd H p (.lst ((sortI ns).map V.int)))
theorem cr_sortL : CallR X (.builtin "sorted") (rSortL X.K) := by
  intro pins s σ H vs us Q I r h
  obtain ⟨a, ns, rfl, hs, q⟩ := h
  refine cr_sortedI pins s σ H _ us Q I r ⟨a, ns, rfl, hs, fun ns' p k1 k2 hp => ?_⟩
  rw [sort_is k1 k2]
  exact q p hp
/-! ### d.values() as a thing of its own -/
def valuesO (p d : Addr) : HO := .ext fun h => h.IsValuesView p d
def tVals (td : TE) : TE := fun σ H Q => td σ H fun x H1 => ∃ d kvs, x = .ref d ∧ H1 d = some (.dK kvs) ∧ ∀ p, H1 p = none → Q (.ref p) (upd H1 p (valuesO p d))
theorem pe_vals {e : Expr} {td : TE} {apos cpos : Pos} (he : PE X e td) (hbase : attributeBase e "values" X.env (eval e X.env) = eval e X.env := by rfl) (hline : (apos.endLine == cpos.line) = true := by rfl) : PE X (.Call (.Attribute e "values" apos) [] [] cpos) (tVals td) := by
  refine ⟨fun pins s σ H Q I h => ?_⟩
  refine wpAny_Call_method (T := "dict") (id := "dict.values") hbase rfl hline F.plainAttrs_dict F.slot_dict_values F.type_dict_values (thn (he.run pins s σ H _ I h) fun u s1 ⟨x, H1, I1, rx, d, kvs, ex, hd, q⟩ => ?_)
  subst ex
  obtain rfl : u = Value.ref d := rx
  obtain ⟨z, hgd, vs, kv, dd⟩ := dk_of I1.hok hd
  refine ⟨dd.typeIs, dd.mapOf.noDict, ?_⟩
  have hf : H1 s1.heap.objs.size = none := I1.hok.fresh (Nat.le_refl _)
  have e0 : (s1.heap.push { cls := .type "dict_values", data := .fields #[.ref d] }).get? s1.heap.objs.size = some { cls := .type "dict_values", data := .fields #[.ref d] } := Heap.get?_push_size _ rfl
  have J := I1.laid (a := s1.heap.objs.size) (o := valuesO s1.heap.objs.size d) (h' := s1.heap.push { cls := .type "dict_values", data := .fields #[.ref d] }) (t' := s1.toks) (fun b u e => Heap.get?_push_of_some _ e) (Nat.le_refl _) ⟨⟨_, e0, rfl, rfl⟩, ⟨_, e0⟩, fun h1 h2 ⟨o, ho, r⟩ k => ⟨o, k o ho, r⟩⟩
  show wpAny _ _ (callWith cpos (.builtin "dict.values") [.ref d] [] []) _ X.xe s1
  exact method_meetsIn F.slot_dict_values F.entry_dict_values rfl (PySem.evalArgs_none ⟨rfl, dd.typeIs, F.args_dict_values_1 _, _, meets_dict_values (mixKind X.prog X.w) d hgd, ⟨vs, dd⟩, ⟨.ref s1.heap.objs.size, _, J, rfl, q _ hf⟩⟩)
/-- sorted(v), v the values of a dict, all ints -/
def rSortV : List V → Hp → VK → Prop := fun vs H Q => ∃ (p d : Addr) (kvs : List (Key × V)) (ns : List Int), vs = [V.ref p] ∧ H p = some (valuesO p d) ∧ H d = some (.dK kvs) ∧ kvs.map (·.2) = ns.map V.int ∧ ∀ l : Addr, H l = none → Q (.ref l) (upd H l (.lst ((sortI ns).map V.int)))
theorem cr_sortV (hcalm : X.calm = true) : CallR X (.builtin "sorted") rSortV := by
  intro pins s σ H vs us Q I r h
  obtain ⟨p, d, kvs, ns, rfl, hp, hd, hv, q⟩ := h
  rw [Vals.ref1 r]
  have view : s.heap.IsValuesView p d := (show ObjOk X.prog X.w H s.heap p (valuesO p d) from I.hok p _ hp).1
  obtain ⟨z, lo, ws, rel, dd⟩ := dk_of I.hok hd
  obtain ⟨ep, hat⟩ := dd.dictAt
  have hlv : kvs.length = ws.length := rel.length
  have hln : kvs.length = ns.length := by
    have e := congrArg List.length hv
    rw [List.length_map, List.length_map] at e
    exact e
  refine sorted_from I (by rw [← hln]; exact z) (fun R k => PySem.W.kdu_collect (A := X.A.in1) (PySem.W.kdl_values (knd := mixKind X.prog X.w) (kvs := ws) (ep := ep)) (I.ok.hd hcalm) ⟨view, hat⟩ (by rw [← hlv]; exact z) fun h' tk acc hk hacc => k h' tk acc.toList hk ?_) q
  refine ints_each (by rw [Array.length_toList, hacc.1, ← hlv, hln]) fun j v e => ?_
  rw [Array.getElem?_toList] at e
  obtain ⟨key, e1⟩ := hacc.2 j v e
  obtain ⟨kv, e2, e3, e4⟩ := paired_at rel e1
  have e5 : (kvs.map (·.2))[j]? = some kv.2 := by rw [List.getElem?_map, e2]; rfl
  rw [hv] at e5
  obtain ⟨u, eu, e6⟩ := int_at e5
  rw [eu] at e4
  obtain ⟨t, e4⟩ := e4
  exact ⟨u, t, e6, e4⟩
end
end Mv

set_option Elab.async false
set_option linter.all false
set_option maxRecDepth 100000
set_option maxHeartbeats 4000000
namespace Mv
open PySem PySem.Spec PyProof.Rows L2
/-! ### enumerate(t), t a tuple -/
set_option maxHeartbeats 8000000 in
theorem enum_new1 {v : Value} {o : Obj} {Hh : Heap → Prop} (B : Begins v o Hh) :
    Meets (Builtin.«enumerate.__new__» ⟨[.type "enumerate", v], []⟩) (fun _ R s => Hh s.heap ∧
      R (.ok (.ret (.ref (s.heap.push o).objs.size))) { s with heap := (s.heap.push o).push { cls := .type "enumerate", data := .fields #[.none, .bool false, .ref s.heap.objs.size, rawInt 0, .none, .none] } }) :=
  .of_wp fun prog w A R s h => by
    obtain ⟨hp, g, d, tk, os⟩ := s
    obtain ⟨h1, h⟩ := h
    have hsub := sub_enumerate
    have q1 : ∀ {A' : Around} {E : Value → Shared → Prop} {Q : Value → Shared → Prop}, Q (.ref hp.objs.size) ⟨hp.push o, g, d, tk, os⟩ → wpAny (model prog w) A' (pyIter v) Q E ⟨hp, g, d, tk, os⟩ :=
      fun q => B.iter prog w _ _ ⟨hp, g, d, tk, os⟩ _ h1 q
    wp_walk using q1
    refine wpAny_stack_any fun st => wpAny_pure ?_
    split
    · rename_i c _ _ _ _ _
      cases (c == Value.type "enumerate") <;> (wp_walk using q1) <;> exact ⟨_, rfl, h⟩
    · wp_walk using q1
      exact ⟨_, rfl, h⟩
theorem enum_one {prog : Program} {w : World} {A : Around} {E : Value → Shared → Prop} {s : Shared} {v : Value} {o : Obj} {Hh : Heap → Prop} {Q : Value → Shared → Prop} (B : Begins v o Hh) (h1 : Hh s.heap)
    (h : ∀ h', IsEnum h' (s.heap.objs.size + 1) s.heap.objs.size 0 .none → h'.get? s.heap.objs.size = some o → h'.objs.size = s.heap.objs.size + 2 →
      (∀ b o, s.heap.get? b = some o → h'.get? b = some o) → Q (.ref (s.heap.objs.size + 1)) { s with heap := h' }) :
    wpAny (model prog w) A (call (.type "enumerate") [v]) Q E s := by
  refine callType_new F.called_enumerate (by decide) (F.typeCall_enumerate_1 _) (F.newCall_enumerate_1 _) (fun obj => F.args_object_init_2 obj _) F.entry_enumerate_new (enum_new1 B) ⟨h1, ?_⟩
  have hz : (s.heap.push o).objs.size = s.heap.objs.size + 1 := Heap.size_push ..
  show _ ∧ _
  rw [hz]
  have he := Heap.get?_push_size (s.heap.push o) (o := { cls := .type "enumerate", data := .fields #[.none, .bool false, .ref s.heap.objs.size, rawInt 0, .none, .none] }) rfl
  rw [hz] at he
  exact ⟨⟨_, he, rfl⟩, h _ he (Heap.get?_push_of_some _ (Heap.get?_push_size _ B.free)) (by rw [Heap.size_push, hz]) fun b u x => Heap.get?_push_of_some _ (Heap.get?_push_of_some _ x)⟩
/-- the tuple at a, each item in a new pair -/
def IteT (K : PySem.W.Frag) (a : Addr) : It where
  go := fun i H => ∃ (xs : List V) (x : V), SqT K H a xs ∧ xs[i]? = some x
  yld := fun i H v H' => ∃ T x, v = .ref T ∧ H T = none ∧ H' = upd H T (.tup [.int (i : Nat), x]) ∧ ∀ xs, SqT K H a xs → xs[i]? = some x
  stop := fun i H => ∃ xs : List V, SqT K H a xs ∧ xs.length = i
theorem turn_enumT {P : Program} {w : World} {K : PySem.W.Frag} {elts : List Expr} {kk : Nat} {tpos : Pos} {a e it : Addr} (hae : a ≠ e) (hai : a ≠ it) :
    Turn P w K (.Tuple elts kk tpos) (IteT K a) [e, it] e (fun i h => (∃ old, IsEnum h e it ((i : Nat) : Int) old) ∧ h.IsTupleIter it a i ∧ e ≠ it) where
  mem := List.mem_cons_self ..
  obj := fun i h st b hb => by
    obtain ⟨⟨old, he⟩, ⟨o, ho, hc, hd⟩, _⟩ := st
    rcases List.mem_cons.mp hb with z | z
    · rw [z]
      exact ⟨_, he, fun v q => nomatch q⟩
    · rw [List.mem_singleton.mp z]
      exact ⟨o, ho, fun v q => by rw [hd] at q; cases q⟩
  keep := fun i h h' st k => by
    obtain ⟨⟨old, he⟩, ⟨o, ho, hc, hd⟩, hne⟩ := st
    exact ⟨⟨old, k e (by simp) _ he⟩, ⟨o, k it (by simp) o ho, hc, hd⟩, hne⟩
  item := by
    intro X hP hw hK hc i pins s σ H E I hf st hg
    subst hP hw hK
    obtain ⟨⟨old, he⟩, hit, hne⟩ := st
    obtain ⟨xs, x, hq, hx⟩ := hg
    obtain ⟨its, rv, ⟨o, h1, h2, n, h3⟩, hz⟩ := I.tuple hq
    have p : s.heap.IsTuple a its.toArray := ⟨o, h1, h2, n, h3⟩
    obtain ⟨u, hu, ru⟩ := rv.get hx
    have hi : i < its.toArray.size := by
      rw [List.size_toArray]
      exact (List.getElem?_eq_some_iff.mp hu).1
    have hel : e < s.heap.objs.size := Heap.lt_size he
    have hil : it < s.heap.objs.size := by
      obtain ⟨_, q, _⟩ := hit
      exact Heap.lt_size q
    refine wpAny_pyNext_enum_itemD (Draws.tuple (by exact I.ok.hd hc) it a hai its.toArray) he ⟨hit, p⟩ hi hne (by simp [hne, Ne.symm hae]) fun x' h' tk px ho hs' hT hsz hk => ?_
    obtain rfl : u = x' := by
      rw [List.getElem?_toArray, hu] at px
      exact Option.some.inj px
    refine ⟨_, rfl, wpAny_letOwnedTupleGo_enum (s := { s with heap := h', toks := tk + 1 }) ho fun h'' he' sb => ?_⟩
    have hT2 : h''.get? s.heap.objs.size = some { cls := .type "tuple", data := .seq #[.int i tk, u] } := (sb.2 _ (Nat.ne_of_gt hel)).trans hT
    have new : ObjOk X.prog X.w (upd H s.heap.objs.size (.tup [.int (i : Nat), x])) h'' s.heap.objs.size (.tup [.int (i : Nat), x]) :=
      ⟨by show 2 ≤ sizeLine; decide, [.int i tk, u], .cons ⟨_, rfl⟩ (.cons ru .nil), ⟨_, hT2, rfl, _, rfl⟩⟩
    have I1 : Inv X pins σ (upd H s.heap.objs.size (.tup [.int (i : Nat), x])) { s with heap := h'', toks := tk + 1 } :=
      I.turnedNew (ch := [e, it]) (fun b ob hb q => (sb.2 b (fun z => hb (by simp [z]))).trans (hk b ob (fun z => hb (by simp [z])) (fun z => hb (by simp [z])) q)) hf (Nat.le_refl _) new
    refine ⟨.ref s.heap.objs.size, _, I1, rfl, ⟨_, x, rfl, I.hok.fresh (Nat.le_refl _), rfl, fun ys hy => by rw [I.tuple_inj hy hq]; exact hx⟩, ⟨⟨u, ?_⟩, hs'.1.at fun o q => (sb.2 it (Ne.symm hne)).trans q, hne⟩, fun b hb => ?_⟩
    · rw [show ((i + 1 : Nat) : Int) = (i : Int) + 1 from by omega]
      exact he'
    · have hb' : b < s.heap.objs.size := by
        rcases List.mem_cons.mp hb with z | z
        · rw [z]
          exact hel
        · rw [List.mem_singleton.mp z]
          exact hil
      rw [upd_ne (Nat.ne_of_lt hb')]
      exact (hf b hb).1
  done := by
    intro X hP hw hK hc i pins s σ H E I hf st hg
    subst hP hw hK
    obtain ⟨⟨old, he⟩, hit, hne⟩ := st
    obtain ⟨xs, hq, hx⟩ := hg
    obtain ⟨its, rv, ⟨o, h1, h2, n, h3⟩, hz⟩ := I.tuple hq
    have p : s.heap.IsTuple a its.toArray := ⟨o, h1, h2, n, h3⟩
    obtain ⟨f0, f1, f2, f3, f4, f5⟩ := hf it (by simp)
    have hl := rv.length
    have hz' : its.toArray.size = i := by
      rw [List.size_toArray, ← hl, hx]
    refine wpAny_pyNext_enum_endD (Draws.tuple (by exact I.ok.hd hc) it a hai its.toArray) he ⟨by rw [hz']; exact hit, p⟩ fun h' eb => ⟨rfl, I.turned (t' := s.toks) (fun b o hb q => eb b o hb q) f0 f1 f3 f4 f5⟩
  self := fun A i s Q E st h => let ⟨⟨_, he⟩, _⟩ := st; wpAny_pyIter_enum he h
def iEnumT (K : PySem.W.Frag) (ta : TA) : TI := fun σ H R => ta σ H fun vs H1 => ∃ a xs, vs = [.ref a] ∧ SqT K H1 a xs ∧ R (IteT K a) H1
theorem pi_enumT {X : Cx} {e : Expr} {ta : TA} {p pos tpos : Pos} {elts : List Expr} {kk : Nat} (hg : Gl X "enumerate") (hm : X.mg "enumerate" = none) (ha : PA X [e] ta) (hs : starEach [e] X.env = [(false, eval e X.env)] := by rfl) :
    PI X (.Tuple elts kk tpos) (.Call (.Name "enumerate" p) [e] [] pos) (iEnumT X.K ta) := by
  refine ⟨fun pins s σ H R I h => ?_⟩
  refine Call_ (ld_blt I hg hm boot_enumerate (PyProof.Rows.callWith_type1 (thn (ha.run pos pins s σ H _ I h) fun us s1 ⟨vs, H1, I1, r1, q1⟩ => ?_) hs rfl))
  obtain ⟨a, xs, rfl, hq, q⟩ := q1
  rw [Vals.ref1 r1]
  obtain ⟨its, rv, ⟨o, h1, h2, n, h3⟩, hz⟩ := I1.tuple hq
  have p' : s1.heap.IsTuple a its.toArray := ⟨o, h1, h2, n, h3⟩
  have hal : a < s1.heap.objs.size := Heap.lt_size h1
  refine enum_one (begins_tuple a its.toArray) p' fun h' he hit hsz hk => wpAny_pyIter_enum he ?_
  have I2 : Inv X pins σ H1 { s1 with heap := h' } := I1.kept (t' := s1.toks) hk
  refine ⟨s1.heap.objs.size + 1, [s1.heap.objs.size + 1, s1.heap.objs.size], _, _, H1, rfl, I2, turn_enumT (a := a) (e := s1.heap.objs.size + 1) (it := s1.heap.objs.size) (Nat.ne_of_lt (Nat.lt_succ_of_lt hal)) (Nat.ne_of_lt hal), ⟨⟨.none, he⟩, ⟨_, hit, rfl, rfl⟩, Nat.succ_ne_self _⟩, fun b hb => ?_, q⟩
  have hle : s1.heap.objs.size ≤ b := by
    rcases List.mem_cons.mp hb with z | z
    · rw [z]
      exact Nat.le_add_right _ _
    · rw [List.mem_singleton.mp z]
      exact Nat.le_refl _
  exact I1.fpOk hle (I1.hok.fresh hle)
theorem walk_enumT {K : PySem.W.Frag} {a : Addr} {xs : List V} : Walk (IteT K a) xs.length (fun H => SqT K H a xs) (YPair (fun i => some (.int (i : Nat))) (fun i => xs[i]?)) := by
  refine ⟨fun i _ hi q => ⟨xs, xs[i], q, List.getElem?_eq_getElem hi⟩, fun _ q => ⟨xs, q, rfl⟩, fun i H v H' _ q y => ?_⟩
  obtain ⟨T, x, h1, h2, h3, h4⟩ := y
  exact ⟨T, .int (i : Nat), x, h1, h2, h3, rfl, h4 xs q⟩
/-- a dict comprehension over it -/
theorem dc_it {J : It} {n : Nat} {G : Hp → Prop} {Y : Nat → Hp → V → Hp → Prop} (w : Walk J n G Y) {g : TG} {tt : TT} {tk tv : TE} {vs : List Nat} {σ : L2.St} {H1 : Hp} {D : Addr} {Q : VK} (Pv : Nat → Hp → Prop) (h0 : Pv 0 (upd H1 D (.dK []))) (hG : ∀ i H, i ≤ n → Pv i H → G H)
    (hs : ∀ i x H H', i < n → Pv i H → Y i H x H' → g x (wipe σ vs) H' fun σ2 H2 => wipe σ2 vs = wipe σ vs ∧ tt σ2 H2 fun b H3 =>
      if b = true then tk σ2 H3 fun y H4 => tv σ2 H4 fun z H5 => ∃ kvs k, y = kV k ∧ H5 D = some (.dK kvs) ∧ kvs.length < sizeLine ∧ Pv (i + 1) (upd H5 D (.dK (putK kvs k z))) else Pv (i + 1) H3) (hd : ∀ H, Pv n H → Q (.ref D) H) :
    ∃ W : Nat → Nat → Hp → Prop, (∃ m, W 0 m (upd H1 D (.dK []))) ∧ ∀ i m H, W i m H →
      (J.stop i H ∧ Q (.ref D) H) ∨ (J.go i H ∧ ∃ Nx : Hp → Prop, (∀ H', Nx H' → ∃ m', m' < m ∧ W (i + 1) m' H') ∧ ∀ x H', J.yld i H x H' → g x (wipe σ vs) H' fun σ2 H2 => wipe σ2 vs = wipe σ vs ∧ tt σ2 H2 fun b H3 =>
        if b = true then tk σ2 H3 fun y H4 => tv σ2 H4 fun z H5 => ∃ kvs k, y = kV k ∧ H5 D = some (.dK kvs) ∧ kvs.length < sizeLine ∧ Nx (upd H5 D (.dK (putK kvs k z))) else Nx H3) := by
  refine ⟨fun i m H => m = n - i ∧ i ≤ n ∧ Pv i H, ⟨n, by simp, Nat.zero_le _, h0⟩, ?_⟩
  rintro i m H ⟨rfl, hi, p⟩
  have q := hG i H hi p
  by_cases hlt : i < n
  · exact .inr ⟨w.goes i H hlt q, Pv (i + 1), fun H' p' => ⟨n - (i + 1), by omega, rfl, hlt, p'⟩, fun x H' y => hs i x H H' hlt p (w.yields i H x H' hlt q y)⟩
  · have e : i = n := by omega
    subst e
    exact .inl ⟨w.stops H q, hd H p⟩
end Mv

set_option Elab.async false
set_option linter.all false
set_option maxRecDepth 100000
set_option maxHeartbeats 4000000
namespace Mv
open PySem PySem.Spec PyProof.Rows L2
/-! ### sorted(range(n), key=lambda at: word[at]) -/
/-- the indexes of a word, by their values, equal ones ascending -/
def bagIx (xs : List Int) : List Nat := (List.range xs.length).mergeSort fun i j => decide (xs.getD i 0 ≤ xs.getD j 0)
theorem bagIx_perm (xs : List Int) : (bagIx xs).Perm (List.range xs.length) := List.mergeSort_perm _ _
theorem bagIx_len (xs : List Int) : (bagIx xs).length = xs.length := by rw [(bagIx_perm xs).length_eq, List.length_range]
theorem bagIx_lt {xs : List Int} {i : Nat} (h : i ∈ bagIx xs) : i < xs.length := List.mem_range.mp ((bagIx_perm xs).mem_iff.mp h)
theorem range_get (xs : List Int) : (List.range xs.length).map (fun i => xs.getD i 0) = xs := by
  apply List.ext_getElem?
  intro i
  rw [List.getElem?_map]
  by_cases h : i < xs.length
  · rw [List.getElem?_range h, List.getElem?_eq_getElem h]
    simp [List.getD_eq_getElem?_getD, List.getElem?_eq_getElem h]
  · rw [List.getElem?_eq_none (by rw [List.length_range]; omega), List.getElem?_eq_none (by omega)]
    rfl
theorem bagIx_vals (xs : List Int) : (bagIx xs).map (fun i => xs.getD i 0) = sortI xs := by
  refine sort_is ?_ ?_
  · have h := (bagIx_perm xs).map (fun i => xs.getD i 0)
    rw [range_get] at h
    exact h
  · rw [List.pairwise_map]
    have h := List.pairwise_mergeSort (le := fun i j => decide (xs.getD i 0 ≤ xs.getD j 0)) (by
      intro a b c h1 h2
      have h1 := of_decide_eq_true h1
      have h2 := of_decide_eq_true h2
      exact decide_eq_true (Int.le_trans h1 h2)) (by
      intro a b
      rcases Int.le_total (xs.getD a 0) (xs.getD b 0) with q | q
      · rw [decide_eq_true q]; rfl
      · rw [decide_eq_true q, Bool.or_true]) (List.range xs.length)
    exact h.imp fun {a b} q => of_decide_eq_true q
section
variable {prog : Program} {w : World} {A : Around} {s : Shared}
/-- lambda at: word[at], called -/
theorem lam_key {f c' c p : Addr} {q : Str} {params : Arguments} {scope : Scope} {cl : List (Str × Addr)} {pm ctv : Value} {p1 p2 p3 : Pos} {its : List Value} {i : Nat} {t u : Tok} {n : Int}
    (hroom : A.depth < recursionLimit) (nl : s.heap.NoLimit) (ho : s.heap.get? f = some (PySem.W.kla_obj "<lambda>" q params (.Subscript (.Name "word" p1) (.Name "at" p2) p3) scope cl pm c' ctv))
    (hcd : s.heap.CodeRec (.ref c') q) (hsc : scope.names = [(("at" : Str), NameKind.local), (("word" : Str), NameKind.free)]) (hk : scope.kind = .function) (hco : scope.isCoroutine = false) (hgen : scope.isGenerator = false)
    (hbind : ∀ v : Value, bindArgs (PySem.W.kla_fn "<lambda>" q params (.Subscript (.Name "word" p1) (.Name "at" p2) p3) scope cl pm (.ref c') ctv) ⟨[v], []⟩ = pure [(("at" : Str), v)])
    (hcl : cl.lookup ("word" : Str) = some c) (hcell : s.heap.IsCell c (some (.ref p))) (hseq : s.heap.IsTuple p its.toArray ∨ s.heap.IsList p its.toArray) (hz : its.length ≤ sizeLine) (hat : its[i]? = some (.int n u)) :
    wpAny (model prog w) A (call (.ref f) [.int (i : Nat) t]) (PySem.W.KeyPure (.int n) s) (fun _ _ => False) s := by
  have hi : i < its.length := (List.getElem?_eq_some_iff.mp hat).1
  have hz63 : its.length < 2 ^ 63 := by
    rw [sizeLine_eq] at hz
    omega
  refine wpAny_call (PySem.W.kla_callFunE hroom ho rfl hco hgen rfl hcd ?_)
  rw [hbind]
  refine wpAny_pure (wpAny_newFunctionEnv (by rw [hsc]; decide) (by rw [hsc]; intro y hy; rw [List.mem_singleton.mp hy]; rfl) (fun h₁ hns hsb => ⟨nl.fresh _ hsb, ?_⟩) hk)
  have kp : ∀ b o, s.heap.get? b = some o → h₁.get? b = some o := fun b o e => hsb.extBut b o (Nat.ne_of_lt (Heap.lt_size e)) (Heap.get?_push_of_some _ e)
  show codeAny _ _ (.expr _ (PySem.W.envX q scope s.heap.objs.size f (.ref c') cl)) _ _
  refine PySem.W.kla_codeExpr ?_
  obtain ⟨oc, hoc, hdc⟩ := hcell
  have kn1 : (PySem.W.envX q scope s.heap.objs.size f (.ref c') cl).kindOf "word" = some .free := by
    show scope.names.lookup _ = _
    rw [hsc]
    rfl
  have kn2 : (PySem.W.envX q scope s.heap.objs.size f (.ref c') cl).kindOf "at" = some .local := by
    show scope.names.lookup _ = _
    rw [hsc]
    rfl
  refine Subscript_ (wpAny_Name (wpAny_loadName_free hk kn1 hcl ⟨oc, kp _ _ hoc, hdc⟩ ?_) (by decide))
  refine wpAny_Name (wpAny_loadName_local (v := .int (i : Nat) t) hk kn2 hns rfl ?_) (by decide)
  have fin : PySem.W.KeyPure (.int n) s (.int n u) { s with heap := h₁, toks := s.toks + [(("at" : Str), Value.int (i : Nat) t)].length } := ⟨h₁, _, rfl, kp, .int n u⟩
  rcases hseq with ⟨o, h1, h2, m, h3⟩ | hl
  · refine subscriptTail_builtinR (x := .int n u) ⟨o, kp _ _ h1, h2⟩ slot_tuple_getitem.lookup (getItem_tuple (j := i) ⟨o, kp _ _ h1, h2, m, h3⟩ (by omega) (by omega) ?_ ?_ ⟨rfl, fin⟩)
    · rw [List.size_toArray]
      exact seqIndex_of (Int.natCast_nonneg _) (by omega)
    · rw [List.getElem?_toArray]
      exact hat
  · exact item_listR (x := .int n u) (hl.at fun o e => kp _ _ e) (Int.natCast_nonneg _) (by omega) (by rw [Int.toNat_natCast, List.getElem?_toArray]; exact hat) fin
end
theorem each_vals {out : List Value} {is : List Nat} (e : PySem.W.EachIs (fun v (i : Nat) => ∃ t, v = .int (i : Nat) t) out is) : Vals (is.map fun i => V.int (i : Nat)) out := by
  induction e with
  | nil => exact .nil
  | cons h _ ih =>
    obtain ⟨t, rfl⟩ := h
    exact .cons ⟨t, rfl⟩ ih
section
variable {X : Cx} {pins : List (Addr × Obj)} {σ : L2.St} {H : Hp} {s : Shared} {Q : VK}
/-- sorted(v, key=f), v collected as the ints vs, f a pure key -/
theorem sorted_key_from (I : Inv X pins σ H s) {v : Value} {f : Addr} {n : Nat} {key : Nat → Int} (hz : n ≤ sizeLine) (hu : X.A.units + 2 < cLine)
    (hc : ∀ R : List Value → Shared → Prop, (∀ (h' : Heap) (tk : Nat) (acc : List Value), (∀ b o, s.heap.get? b = some o → h'.get? b = some o) → PySem.W.EachIs (fun v (i : Nat) => ∃ t, v = .int (i : Nat) t) acc (List.range n) → R acc { s with heap := h', toks := tk }) → wpAny (model X.prog X.w) X.A.in1 (collect v) R X.xe s)
    (turn : ∀ (i : Nat) (t : Tok) (h : Heap) (tk : Nat), i < n → (∀ b o, s.heap.get? b = some o → h.get? b = some o) → wpAny (model X.prog X.w) X.A.in1.in1 (call (.ref f) [.int (i : Nat) t]) (PySem.W.KeyPure (.int (key i)) { s with heap := h, toks := tk }) (fun _ _ => False) { s with heap := h, toks := tk })
    (q : ∀ p : Addr, H p = none → Q (.ref p) (upd H p (.lst (((List.range n).mergeSort fun i j => decide (key i ≤ key j)).map fun i => V.int (i : Nat))))) :
    wpAny (model X.prog X.w) X.A (call (.builtin "sorted") [v] [(Str.ofString "key", .ref f)]) (EP X pins σ Q) X.xe s := by
  refine call_function_entry_kw kind_sorted plain_sorted entry_sorted (ksk_s1 _ _) ?_
  unfold Builtin.«sorted»
  refine wpAny_bind (m := checkCount "sorted" 1 1 _) (wpAny_pure (wpAny_bind (hc _ fun h' tk acc hk hi => ?_)))
  have I1 : Inv X pins σ H { s with heap := h', toks := tk } := I.kept hk
  have hl : acc.length = n := by rw [hi.length, List.length_range]
  refine wpAny_bind (wpAny_newList ?_ (by rw [hl]; exact hz))
  have hoL : (h'.push (seqObj "list" acc.toArray 0)).get? h'.objs.size = some (seqObj "list" acc.toArray 0) := Heap.get?_push_size _ rfl
  show wpAny _ _ _ _ _ { s with heap := h'.push (seqObj "list" acc.toArray 0), toks := tk }
  refine wpAny_bind (wpAny_holding (wpAny_call_entry_kw slot_list_sort ⟨_, hoL, rfl⟩ entry_list_sort ?_ (ksk_l1 _ _)))
  rw [ksk_t1]
  have up : ∀ {g : Heap}, PySem.W.KeepsBut h'.objs.size (h'.push (seqObj "list" acc.toArray 0)) g → ∀ b o, h'.get? b = some o → g.get? b = some o := fun {g} kp b o e =>
    kp b o (Nat.ne_of_lt (Heap.lt_size e)) (Heap.get?_push_of_some _ e)
  refine PySem.W.keyH_tree (b := false) (kz := (List.range n).map fun i => PyData.int (key i)) (s := { s with heap := h'.push (seqObj "list" acc.toArray 0), toks := tk }) hoL
    (by rw [List.length_map, List.length_range, hl]) (by rw [hl]; exact hz) (PySem.W.AllAlike.of fun _ _ => by simp [PySem.W.alike]) ?_ (PySem.W.bound_map (A := X.A.in1.in1) (bs := List.range n) (enc := fun i => PyData.int (key i)) fun _ _ => ?_)
    (PySem.W.keyH_turns (s := { s with heap := h'.push (seqObj "list" acc.toArray 0), toks := tk }) hi fun v i hv hin h tk2 kp => ?_) fun h3 tk3 out c kp hD ko => ?_
  · exact PySem.W.Sortable.others fun i => ⟨by simp, by simp⟩
  · show X.A.units + 2 + 0 < _
    omega
  · obtain ⟨t, rfl⟩ := hv
    exact turn i t h tk2 (List.mem_range.mp hin) fun b o e => up kp b o (hk b o e)
  · have eo := PySem.W.keyedOut_each (fun i : Nat => PyData.int (key i)) ko hi
    rw [PySem.W.dataLe_int] at eo
    refine ⟨_, rfl, wpAny_pure ⟨_, rfl, .ref h'.objs.size, upd H h'.objs.size (.lst (((List.range n).mergeSort fun i j => decide (key i ≤ key j)).map fun i => V.int (i : Nat))), I1.laid (t' := tk3) (h' := h3) (up kp) (Nat.le_refl _)
      (show ObjOk X.prog X.w _ _ _ (.lst _) from ⟨?_, out, c, ?_, hD⟩), rfl, q _ (I1.hok.fresh (Nat.le_refl _))⟩⟩
    · rw [List.length_map, List.length_mergeSort, List.length_range]
      exact hz
    · exact each_vals eo
end
end Mv

set_option Elab.async false
set_option linter.all false
set_option maxRecDepth 100000
set_option maxHeartbeats 4000000
namespace Mv
open PySem PySem.Spec PyProof.Rows L2
def tSortAt (K : PySem.W.Frag) (T : List (Addr × Str)) (i : Nat) (ta : TE) : TE := fun σ H Q => ta σ H fun x H1 => ∃ (p : Addr) (xs : List Int), σ[i]? = some (some (.ref p)) ∧ x = .int (xs.length : Int) ∧ (SqT K H1 p (xs.map V.int) ∨ SqL K H1 p (xs.map V.int)) ∧ xs.length ≤ 4000 ∧ LamX.Tabs T H1 ∧
  ∀ H2 l, LamX.ExtN H1 H2 → LamX.Tabs T H2 → H2 l = none → Q (.ref l) (upd H2 l (.lst ((bagIx xs).map fun i => V.int (i : Nat))))
theorem sq_extN {K : PySem.W.Frag} {H H1 : Hp} {p : Addr} {xs : List V} (e : LamX.ExtN H H1) (h : SqT K H p xs ∨ SqL K H p xs) : SqT K H1 p xs ∨ SqL K H1 p xs := by
  rcases h with ((h | ⟨o, h⟩) | h) | ((h | ⟨o, h⟩) | h)
  · exact .inl (.inl (.inl (e _ _ h (fun ps z => by cases z))))
  · exact .inl (.inl (.inr ⟨o, e _ _ h (fun ps z => by cases z)⟩))
  · exact .inl (.inr h)
  · exact .inr (.inl (.inl (e _ _ h (fun ps z => by cases z))))
  · exact .inr (.inl (.inr ⟨o, e _ _ h (fun ps z => by cases z)⟩))
  · exact .inr (.inr h)
/-- sorted(range(a), key=lambda at: word[at]) -/
theorem pe_sortAt {X : Cx} {k : Nat} {T : List (Addr × Str)} {c P : Addr} {params : Arguments} {scope : Scope} {i : Nat} {a : Expr} {ta : TE} {p p2 pos pos2 p3 p4 p5 lpos kpos : Pos}
    (hc : X.calm = true) (hr : Room k X.A) (hg : Gl X "sorted") (hm : X.mg "sorted" = none) (hg2 : Gl X "range") (hm2 : X.mg "range" = none) (ha : PE X a ta)
    (TB : LamX.TabB X.base X.mg c P) (hcode : X.env.code = .ref c) (hmT : (P, X.env.qual ++ "<lambda>") ∈ T) (hu : ∀ p ∈ T, p.1 = P → p.2 = X.env.qual ++ "<lambda>") (hN : X.N[i]? = some "word") (hv : X.env.kindOf "word" = some .cell)
    (hdef : defaultsOf params X.env = ([], [])) (hsc : scope.names = [(("at" : Str), NameKind.local), (("word" : Str), NameKind.free)]) (hk : scope.kind = .function) (hco : scope.isCoroutine = false) (hgen : scope.isGenerator = false)
    (hbind : ∀ (q : Str) (cl : List (Str × Addr)) (pm cv ctv v : Value), bindArgs (PySem.W.kla_fn "<lambda>" q params (.Subscript (.Name "word" p3) (.Name "at" p4) p5) scope cl pm cv ctv) ⟨[v], []⟩ = pure [(("at" : Str), v)])
    (na : starEach [a] X.env = (false, eval a X.env) :: starEach [] X.env := by rfl)
    (ne : starEach [.Call (.Name "range" p2) [a] [] pos2] X.env = (false, eval (.Call (.Name "range" p2) [a] [] pos2) X.env) :: starEach [] X.env := by rfl) :
    PE X (.Call (.Name "sorted" p) [.Call (.Name "range" p2) [a] [] pos2] [⟨some "key", .Lambda params (.Subscript (.Name "word" p3) (.Name "at" p4) p5) scope lpos, kpos⟩] pos) (tSortAt X.K T i ta) := by
  refine ⟨fun pins s σ H Q I h => ?_⟩
  refine wpAny_Call_Name_kw (ld_blt I hg hm boot_sorted ?_)
  refine PyProof.Rows.callWith_kw (args_cons (Call_ (ld_blt I hg2 hm2 boot_range (PyProof.Rows.callWith_type1 (one_arg ha I h (fun v s2 x H2 I2 rx q => ?_) na) na))) ne) (by rw [ne]; rfl) (by rw [ne]; rfl) (by rfl) (by rfl)
  obtain ⟨w1, xs, hσ, rfl, hsq, hlen, hT, q⟩ := q
  obtain ⟨t, rfl⟩ := rx
  refine call_range_1 (args_nil ?_)
  generalize ht0 : s2.toks = t0
  generalize hro : ({ cls := .type "range", data := .fields #[.int 0 t0, .int (xs.length : Int) t, .int 1 (t0 + 1)] } : Obj) = ro
  generalize hs3 : ({ s2 with heap := s2.heap.push ro, toks := t0 + 1 + 1 } : Shared) = s3
  have I3 : Inv X pins σ H2 s3 := by
    rw [← hs3]
    exact I2.kept fun b u e => Heap.get?_push_of_some _ e
  have h3r : s3.heap.get? s2.heap.objs.size = some ro := by
    rw [← hs3]
    exact Heap.get?_push_size _ (by rw [← hro]; rfl)
  have hro' : IsRange s3.heap s2.heap.objs.size 0 (xs.length : Int) 1 t0 t (t0 + 1) := by
    rw [← hro] at h3r
    exact h3r
  have I4 : Inv X ((s2.heap.objs.size, ro) :: pins) σ H2 s3 := I3.pins_of fun p hp => by
    rcases List.mem_cons.mp hp with rfl | hp
    · exact ⟨h3r, I2.hok.fresh (Nat.le_refl _), Nat.ne_of_gt I2.lt, I2.nofs (Nat.le_refl _), fun v z => by rw [← hro] at z; cases z⟩
    · exact I3.pin p (List.mem_append_right _ hp)
  clear hs3
  generalize s2.heap.objs.size = r at *
  obtain ⟨c0, hc0⟩ := I.ok.has _ (.inl hv)
  have hfree : ∀ y ∈ scope.names, y.2 = .free → ∃ c, X.env.cells.lookup y.1 = some c := fun y hy e => by
    rw [hsc] at hy
    rcases List.mem_cons.mp hy with rfl | hy
    · cases e
    · rw [List.mem_singleton.mp hy]
      exact ⟨c0, hc0⟩
  show wpAny _ _ (evalAll ((do let v ← eval (.Lambda params (.Subscript (.Name "word" p3) (.Name "at" p4) p5) scope lpos) X.env; standAt pos; pure v) :: [])) _ _ _
  refine wpAny_evalAll_cons (wpAny_bind (LamX.lam_make2 I4 TB hcode hmT hu hT hdef hfree fun f c' pm ctv H3 s4 I5 eN T1 hf hfn hfr hcd => wpAny_bind (wpAny_standAt (wpAny_pure (wpAny_evalAll_nil ?_)))))
  show wpAny _ _ (call (.builtin "sorted") [.ref r] [(Str.ofString "key", .ref f)]) _ _ _
  have hr4 : IsRange s4.heap r 0 (xs.length : Int) 1 t0 t (t0 + 1) := by
    have h4 := (I5.pin (r, ro) (List.mem_append_right _ (List.mem_cons_self ..))).1
    rw [← hro] at h4
    exact h4
  have hsq3 := sq_extN eN hsq
  have hun := hr.units0
  have hzl : xs.length ≤ sizeLine := small4000' hlen
  have eRs : Builtin.Range.rangeSize 0 (xs.length : Int) 1 = ((xs.length : Nat) : Int).toNat := by
    have := rangeSize_nat 0 (xs.length : Int)
    rw [Int.sub_zero] at this
    exact this
  obtain ⟨oc, vs, tq, hoc, hdc, hvc⟩ := (I5.hok c' _ hcd).1
  -- the word as the machine has it
  obtain ⟨its, rv, hseq⟩ : ∃ its : List Value, Vals (xs.map V.int) its ∧ (s4.heap.IsTuple w1 its.toArray ∨ s4.heap.IsList w1 its.toArray) := by
    rcases hsq3 with z | z
    · obtain ⟨its, rv, ⟨o, h1, h2, n, h3⟩, _⟩ := I5.tuple z
      exact ⟨its, rv, .inl ⟨o, h1, h2, n, h3⟩⟩
    · obtain ⟨its, rv, pl, _⟩ := I5.list z
      exact ⟨its, rv, .inr pl.isList⟩
  have hil : its.length = xs.length := by
    rw [← rv.length, List.length_map]
  obtain ⟨m, hns, hl⟩ := I5.loc
  have hcell : s4.heap.IsCell c0 (some (.ref w1)) := by
    obtain ⟨u, ru, lk⟩ := hl i "word" (.ref w1) hN hσ (.inr (.inl hv))
    obtain rfl : u = Value.ref w1 := ru
    rcases lk with ⟨z, _⟩ | ⟨_, c2, e2, hc2⟩
    · rw [hv] at z
      cases z
    · rw [hc0] at e2
      cases e2
      exact hc2
  refine wpAny_mono (sorted_key_from (n := xs.length) (key := fun i => xs.getD i 0) (Q := Q) I5 hzl (by have := hr.units; omega) (fun R kR => ?_) (fun j tj hp tk hj kp => ?_) (fun l hl2 => q H3 l eN T1 hl2)) (fun v s5 hv5 => ?_) fun _ _ z => z
  · refine collect_range (n := xs.length) (by exact I5.ok.hd hc) hr4 (small_one (by omega) (by omega) (by omega) (by omega)) (by rw [eRs, Int.toNat_natCast]) (by omega) fun h' tk acc k1 k2 => kR h' tk acc.toList k1 ?_
    refine PySem.W.EachIs.of_zip (by rw [Array.length_toList, k2.1, List.length_range]) fun pr hpr => ?_
    obtain ⟨j, hj⟩ := List.getElem?_of_mem hpr
    obtain ⟨e1, e2⟩ := List.getElem?_zip_eq_some.mp hj
    rw [Array.getElem?_toList] at e1
    obtain ⟨tt, e3⟩ := k2.2 j _ e1
    have hj2 : j < xs.length := by
      have := (List.getElem?_eq_some_iff.mp e2).1
      rw [List.length_range] at this
      exact this
    rw [List.getElem?_range hj2] at e2
    refine ⟨tt, ?_⟩
    rw [e3, ← Option.some.inj e2, Int.zero_add, Int.mul_one]
  · have e1 : (xs.map V.int)[j]? = some (.int (xs.getD j 0)) := by
      rw [List.getElem?_map, List.getElem?_eq_getElem hj, List.getD_eq_getElem?_getD, List.getElem?_eq_getElem hj]
      rfl
    obtain ⟨u, hu1, ⟨tu, rfl⟩⟩ := rv.get e1
    refine lam_key (s := { s4 with heap := hp, toks := tk }) (A := X.A.in1.in1) hr.depth (I5.nolimit.keeps kp) (kp _ _ hf) ⟨c', oc, vs, tq, rfl, kp _ _ hoc, hdc, hvc⟩ hsc hk hco hgen (hbind _ _ _ _ _) (c := c0) ?_ ?_ (p := w1) (its := its) ?_ (by rw [hil]; exact hzl) hu1
    · rw [hsc]
      show (cloFrom X.env.cells [(("word" : Str), NameKind.free)] []).lookup _ = _
      show List.lookup _ [(("word" : Str), (X.env.cells.lookup ("word" : Str)).getD 0)] = _
      rw [hc0]
      rfl
    · obtain ⟨o1, h1, h2⟩ := hcell
      exact ⟨o1, kp _ _ h1, h2⟩
    · rcases hseq with ⟨o, h1, h2, n, h3⟩ | z
      · exact .inl ⟨o, kp _ _ h1, h2, n, h3⟩
      · exact .inr (z.at fun o e => kp _ _ e)
  · obtain ⟨v2, H5, J, rv5, q5⟩ := hv5
    exact ⟨v2, H5, J.pins_of fun p hp => J.pin p (List.mem_append_right _ (List.mem_cons_of_mem _ hp)), rv5, q5⟩
end Mv

set_option Elab.async false
set_option linter.all false
set_option maxRecDepth 100000
set_option maxHeartbeats 1000000
namespace Mv
open PySem PySem.Spec PyProof.Rows L2
/-! ### the kept indexes -/
theorem getD_at {xs : List Int} {i : Nat} (h : i < xs.length) : xs.getD i 0 = xs[i] := by
  rw [List.getD_eq_getElem?_getD, List.getElem?_eq_getElem h]
  rfl
theorem idx_get {xs : List Int} {x : Int} (h : x ∈ xs) : xs.getD (xs.idxOf x) 0 = x := by
  rw [getD_at (List.idxOf_lt_length_iff.mpr h)]
  exact List.getElem_idxOf _
theorem get_ixs {xs ys : List Int} (h : ∀ y ∈ ys, y ∈ xs) : (ys.map xs.idxOf).map (fun i => xs.getD i 0) = ys := by
  rw [List.map_map]
  conv => rhs; rw [← List.map_id ys]
  exact List.map_congr_left fun y hy => idx_get (h y hy)
theorem idx_app {xs : List Int} {x y : Int} (h : y ∈ xs) : (xs ++ [x]).idxOf y = xs.idxOf y := by
  rw [List.idxOf_append, if_pos h]
theorem idx_new {xs : List Int} {x : Int} (h : x ∉ xs) : (xs ++ [x]).idxOf x = xs.length := by
  rw [List.idxOf_append, if_neg h]
  simp
theorem ixs_asc (xs : List Int) : ((headsI xs).map xs.idxOf).Pairwise (· < ·) := by
  induction xs using snoc_ind with
  | h0 => exact .nil
  | hs xs x ih =>
    have e : (headsI xs).map (xs ++ [x]).idxOf = (headsI xs).map xs.idxOf := List.map_congr_left fun y hy => idx_app ((mem_headsI xs).mp hy)
    rw [headsI_snoc]
    unfold addI
    split
    · rw [e]
      exact ih
    · rename_i hx
      rw [List.map_append, e, List.map_singleton, idx_new (fun z => hx ((mem_headsI xs).mpr z))]
      refine List.pairwise_append.mpr ⟨ih, List.pairwise_singleton _ _, fun a ha b hb => ?_⟩
      rw [List.mem_singleton.mp hb]
      obtain ⟨y, hy, rfl⟩ := List.mem_map.mp ha
      exact List.idxOf_lt_length_iff.mpr ((mem_headsI xs).mp hy)
/-- where x stands last -/
def lastIx (xs : List Int) (x : Int) : Nat := xs.length - 1 - xs.reverse.idxOf x
theorem lastIx_snoc (xs : List Int) (x y : Int) (h : y = x ∨ y ∈ xs) : lastIx (xs ++ [x]) y = if y = x then xs.length else lastIx xs y := by
  unfold lastIx
  rw [List.reverse_append, List.length_append, List.length_singleton]
  show xs.length + 1 - 1 - List.idxOf y (x :: xs.reverse) = _
  rw [List.idxOf_cons]
  by_cases e : y = x
  · subst e
    simp
  · rw [if_neg e]
    have hb : (x == y) = false := beq_eq_false_iff_ne.mpr (Ne.symm e)
    rw [hb]
    show xs.length + 1 - 1 - (List.idxOf y xs.reverse + 1) = _
    omega
theorem lastIx_lt {xs : List Int} {x : Int} (h : x ∈ xs) : lastIx xs x < xs.length := by
  have := List.length_pos_of_mem h
  unfold lastIx
  omega
theorem lastIx_get {xs : List Int} {x : Int} (h : x ∈ xs) : xs.getD (lastIx xs x) 0 = x := by
  have h1 : xs.reverse.idxOf x < xs.reverse.length := List.idxOf_lt_length_iff.mpr (List.mem_reverse.mpr h)
  have h2 := lastIx_lt h
  rw [getD_at h2]
  have e := List.getElem_idxOf h1
  rw [List.getElem_reverse] at e
  exact e
/-- the tails' indexes -/
def tailIx (xs : List Int) : List Nat := ((headsI xs.reverse).map (lastIx xs)).reverse
theorem tailIx_asc (xs : List Int) : (tailIx xs).Pairwise (· < ·) := by
  unfold tailIx
  rw [List.pairwise_reverse, List.pairwise_map]
  have h := ixs_asc xs.reverse
  rw [List.pairwise_map] at h
  refine List.Pairwise.imp_of_mem (fun {a b} ha hb hab => ?_) h
  have h1 : xs.reverse.idxOf b < xs.length := by
    have := List.idxOf_lt_length_iff.mpr ((mem_headsI xs.reverse).mp hb)
    rw [List.length_reverse] at this
    exact this
  unfold lastIx
  omega
theorem tailIx_vals (xs : List Int) : (tailIx xs).map (fun i => xs.getD i 0) = tailsI xs := by
  unfold tailIx tailsI
  rw [List.map_reverse, List.map_map]
  congr 1
  conv => rhs; rw [← List.map_id (headsI xs.reverse)]
  exact List.map_congr_left fun y hy => lastIx_get (List.mem_reverse.mp ((mem_headsI _).mp hy))
theorem intsOf_asc {is : List Nat} (h : is.Pairwise (· < ·)) : (is.map fun i : Nat => (i : Int)).Pairwise (· ≤ ·) := by
  rw [List.pairwise_map]
  exact h.imp fun {a b} q => by omega
theorem sort_ixs (xs : List Int) : sortI ((headsI xs).map fun x => ((xs.idxOf x : Nat) : Int)) = ((headsI xs).map xs.idxOf).map fun i : Nat => (i : Int) := by
  refine (sort_is ?_ (intsOf_asc (ixs_asc xs))).symm
  rw [List.map_map]
  exact List.Perm.refl _
theorem sort_last (xs : List Int) : sortI ((headsI xs).map fun x => ((lastIx xs x : Nat) : Int)) = (tailIx xs).map fun i : Nat => (i : Int) := by
  refine (sort_is ?_ (intsOf_asc (tailIx_asc xs))).symm
  unfold tailIx
  rw [List.map_reverse, List.map_map]
  refine (List.reverse_perm _).trans ?_
  refine List.Perm.map _ (perm_of_mem (nodup_headsI _) (nodup_headsI _) fun x => ?_)
  rw [mem_headsI, mem_headsI, List.mem_reverse]
/-- what keep gives -/
def keepIx (k : Kd) (xs : List Int) : List Nat :=
  match k with
  | .list => List.range xs.length
  | .bag => bagIx xs
  | .set => (sortI (headsI xs)).map xs.idxOf
  | .first => if xs.length = 0 then [] else [0]
  | .last => if xs.length = 0 then [] else [xs.length - 1]
  | .ends => if xs.length = 0 then [] else [0, xs.length - 1]
  | .heads => (headsI xs).map xs.idxOf
  | .tails => tailIx xs
theorem keep_vals (k : Kd) (xs : List Int) : (keepIx k xs).map (fun i => xs.getD i 0) = plainI k xs := by
  have hlast : xs.length ≠ 0 → xs.drop (xs.length - 1) = [xs.getD (xs.length - 1) 0] := fun h => by
    rw [getD_at (by omega), List.drop_eq_getElem_cons (by omega), show xs.length - 1 + 1 = xs.length from by omega, List.drop_length]
  have hfst : xs.length ≠ 0 → xs.take 1 = [xs.getD 0 0] := fun h => by
    cases xs with
    | nil => exact absurd rfl h
    | cons x r => rfl
  have hnil : xs.length = 0 → xs = [] := List.length_eq_zero_iff.mp
  cases k with
  | list => exact range_get xs
  | bag => exact bagIx_vals xs
  | set => exact get_ixs fun y hy => (mem_headsI xs).mp (mem_sort.mp hy)
  | heads => exact get_ixs fun y hy => (mem_headsI xs).mp hy
  | tails => exact tailIx_vals xs
  | first =>
    show (if xs.length = 0 then [] else [0]).map _ = firstI xs
    split
    · rename_i h
      rw [hnil h]
      rfl
    · rename_i h
      exact (hfst h).symm
  | last =>
    show (if xs.length = 0 then [] else [xs.length - 1]).map _ = lastI xs
    split
    · rename_i h
      rw [hnil h]
      rfl
    · rename_i h
      exact (hlast h).symm
  | ends =>
    show (if xs.length = 0 then [] else [0, xs.length - 1]).map _ = endsI xs
    split
    · rename_i h
      rw [hnil h]
      rfl
    · rename_i h
      unfold endsI
      rw [hfst h, hlast h]
      rfl
theorem keep_lt {k : Kd} {xs : List Int} {i : Nat} (h : i ∈ keepIx k xs) : i < xs.length := by
  cases k with
  | list => exact List.mem_range.mp h
  | bag => exact bagIx_lt h
  | set =>
    obtain ⟨y, hy, rfl⟩ := List.mem_map.mp h
    exact List.idxOf_lt_length_iff.mpr ((mem_headsI xs).mp (mem_sort.mp hy))
  | heads =>
    obtain ⟨y, hy, rfl⟩ := List.mem_map.mp h
    exact List.idxOf_lt_length_iff.mpr ((mem_headsI xs).mp hy)
  | tails =>
    obtain ⟨y, hy, rfl⟩ := List.mem_map.mp (List.mem_reverse.mp h)
    exact lastIx_lt (List.mem_reverse.mp ((mem_headsI _).mp hy))
  | first =>
    revert h
    show i ∈ (if xs.length = 0 then [] else [0]) → _
    split
    · exact fun h => by cases h
    · intro h
      rw [List.mem_singleton.mp h]
      omega
  | last =>
    revert h
    show i ∈ (if xs.length = 0 then [] else [xs.length - 1]) → _
    split
    · exact fun h => by cases h
    · intro h
      rw [List.mem_singleton.mp h]
      omega
  | ends =>
    revert h
    show i ∈ (if xs.length = 0 then [] else [0, xs.length - 1]) → _
    split
    · exact fun h => by cases h
    · intro h
      rcases List.mem_cons.mp h with h | h
      · omega
      · rw [List.mem_singleton.mp h]
        omega
theorem keep_len {k : Kd} {xs : List Int} : (keepIx k xs).length = (plainI k xs).length := by rw [← keep_vals, List.length_map]
/-! ### the dicts by the values -/
def leastD (xs : List Int) (i : Nat) : List (Key × V) := (headsI (xs.take i)).map fun x => (Sum.inl x, V.int ((xs.idxOf x : Nat) : Int))
def greatD (xs : List Int) (i : Nat) : List (Key × V) := (headsI (xs.take i)).map fun x => (Sum.inl x, V.int ((lastIx (xs.take i) x : Nat) : Int))
theorem val_map (g : Int → V) (y : Int) : ∀ ys : List Int, valV (ys.map fun x => ((Sum.inl x : Key), g x)) (.inl y) = if y ∈ ys then some (g y) else none
  | [] => rfl
  | x :: ys => by
    rw [List.map_cons]
    by_cases e : x = y
    · subst e
      rw [valV_pos rfl, if_pos (List.mem_cons_self ..)]
    · rw [valV_neg (fun z => e (Sum.inl.inj z)), val_map g y ys]
      by_cases h : y ∈ ys
      · rw [if_pos h, if_pos (List.mem_cons_of_mem _ h)]
      · rw [if_neg h, if_neg]
        intro z
        rcases List.mem_cons.mp z with z | z
        · exact e z.symm
        · exact h z
theorem take_succ_at {xs : List Int} {i : Nat} {x : Int} (h : xs[i]? = some x) : xs.take (i + 1) = xs.take i ++ [x] := by
  rw [List.take_add_one, h]
  rfl
theorem least_hit {xs : List Int} {i : Nat} {x : Int} (h : xs[i]? = some x) (hx : x ∈ xs.take i) : leastD xs (i + 1) = leastD xs i := by
  unfold leastD
  rw [take_succ_at h, headsI_snoc]
  unfold addI
  rw [if_pos ((mem_headsI _).mpr hx)]
theorem least_new {xs : List Int} {i : Nat} {x : Int} (h : xs[i]? = some x) (hx : x ∉ xs.take i) : leastD xs (i + 1) = putK (leastD xs i) (.inl x) (.int (i : Nat)) := by
  have hv : valV (leastD xs i) (.inl x) = none := by
    unfold leastD
    rw [val_map, if_neg fun z => hx ((mem_headsI _).mp z)]
  rw [putK_new _ hv]
  unfold leastD
  rw [take_succ_at h, headsI_snoc]
  unfold addI
  rw [if_neg fun z => hx ((mem_headsI _).mp z), List.map_append, List.map_singleton]
  have hi : i < xs.length := (List.getElem?_eq_some_iff.mp h).1
  have e : xs.idxOf x = i := by
    have e1 : xs = xs.take i ++ xs.drop i := (List.take_append_drop i xs).symm
    have e2 : xs.drop i = x :: xs.drop (i + 1) := by
      rw [List.drop_eq_getElem_cons hi, (List.getElem?_eq_some_iff.mp h).2]
    rw [e1, List.idxOf_append, if_neg hx, e2, List.idxOf_cons_self, List.length_take, Nat.zero_add]
    omega
  rw [e]
theorem great_put {xs : List Int} {i : Nat} {x : Int} (h : xs[i]? = some x) : greatD xs (i + 1) = putK (greatD xs i) (.inl x) (.int (i : Nat)) := by
  have hi : i < xs.length := (List.getElem?_eq_some_iff.mp h).1
  have hl : (xs.take i).length = i := by
    rw [List.length_take]
    omega
  have hL : ∀ y, y = x ∨ y ∈ xs.take i → lastIx (xs.take (i + 1)) y = if y = x then i else lastIx (xs.take i) y := fun y hy => by
    rw [take_succ_at h, lastIx_snoc _ _ _ hy, hl]
  have hm := fun y => mem_headsI (y := y) (xs.take i)
  by_cases hx : x ∈ xs.take i
  · unfold greatD
    rw [show headsI (xs.take (i + 1)) = headsI (xs.take i) from by
      rw [take_succ_at h, headsI_snoc]
      unfold addI
      rw [if_pos ((hm x).mpr hx)]]
    unfold putK
    rw [if_pos, List.map_map]
    · refine List.map_congr_left fun y hy => ?_
      rw [hL y (.inr ((hm y).mp hy))]
      show _ = if (Sum.inl y : Key) = Sum.inl x then _ else _
      by_cases e : y = x
      · subst e
        rw [if_pos rfl, if_pos rfl]
      · rw [if_neg e, if_neg fun z => e (Sum.inl.inj z)]
    · rw [valV_any, val_map, if_pos ((hm x).mpr hx)]
      rfl
  · have hv : valV (greatD xs i) (.inl x) = none := by
      unfold greatD
      rw [val_map, if_neg fun z => hx ((hm x).mp z)]
    rw [putK_new _ hv]
    unfold greatD
    rw [show headsI (xs.take (i + 1)) = headsI (xs.take i) ++ [x] from by
      rw [take_succ_at h, headsI_snoc]
      unfold addI
      rw [if_neg fun z => hx ((hm x).mp z)], List.map_append, List.map_singleton, hL x (.inl rfl), if_pos rfl]
    congr 1
    refine List.map_congr_left fun y hy => ?_
    have hy := (hm y).mp hy
    rw [hL y (.inr hy), if_neg fun z : y = x => hx (z ▸ hy)]
theorem leastD_len (xs : List Int) (i : Nat) : (leastD xs i).length ≤ i := by
  unfold leastD
  rw [List.length_map]
  refine Nat.le_trans (headsI_len _) ?_
  rw [List.length_take]
  omega
theorem greatD_len (xs : List Int) (i : Nat) : (greatD xs i).length ≤ i := by
  unfold greatD
  rw [List.length_map]
  refine Nat.le_trans (headsI_len _) ?_
  rw [List.length_take]
  omega
end Mv

set_option Elab.async false
set_option linter.all false
set_option maxRecDepth 100000
set_option maxHeartbeats 4000000
namespace Mv
open PySem PySem.Spec PyProof.Rows L2
/-! ### t[::-1], t a tuple: a new tuple -/
section
variable {prog : Program} {w : World} {A : Around} {E : Value → Shared → Prop} {s : Shared}
theorem sliceApplied_back {sl : Addr} {vl vu vs : Value} {n : Nat} {Q : Int × Int × Nat → Shared → Prop} (hs : s.heap.IsSliceOf sl vl vu vs) (pl : IsPart vl none) (pu : IsPart vu none) (ps : IsPart vs (some (-1)))
    (h : Q ((n : Int) - 1, -1, n) s) : wpAny (model prog w) A (Builtin.Slice.sliceApplied (.ref sl) (pure (n : Int))) Q E s := by
  obtain ⟨os, hos, hcs, hds⟩ := id hs
  unfold Builtin.Slice.sliceApplied Builtin.Slice.sliceFields
  refine wpAny_bind (wpAny_bind (wpAny_field hos hds (x := vl) rfl (wpAny_bind (wpAny_field hos hds (x := vu) rfl (wpAny_bind (wpAny_field hos hds (x := vs) rfl (wpAny_pure ?_)))))))
  refine wpAny_bind (HT.slicePart_ ps ?_)
  show wpAny _ _ (if ((-1 : Int) == 0) = true then _ else _) _ _ s
  rw [if_neg (by decide)]
  refine wpAny_bind (HT.slicePart_ pl (wpAny_bind (HT.slicePart_ pu (wpAny_bind (wpAny_pure ?_)))))
  show wpAny _ _ (match Builtin.Slice.sliceAdjust none none (-1) (n : Int) with | (lo, hi) => pure (lo, (-1 : Int), Builtin.Slice.slicePlaces lo hi (-1))) _ _ s
  have e1 : Builtin.Slice.sliceAdjust none none (-1) (n : Int) = ((n : Int) - 1, -1) := rfl
  have e2 : Builtin.Slice.slicePlaces ((n : Int) - 1) (-1) (-1) = n := by
    unfold Builtin.Slice.slicePlaces
    rw [if_neg (by decide), show (- -1 : Int) = 1 by decide, Int.ediv_one]
    split <;> omega
  rw [e1]
  show wpAny _ _ (pure ((n : Int) - 1, (-1 : Int), Builtin.Slice.slicePlaces ((n : Int) - 1) (-1) (-1))) _ _ s
  rw [e2]
  exact wpAny_pure h
theorem fm_congr {α β : Type} {f g : α → Option β} : ∀ {l : List α}, (∀ k ∈ l, f k = g k) → l.filterMap f = l.filterMap g
  | [], _ => rfl
  | x :: l, h => by rw [List.filterMap_cons, List.filterMap_cons, h x List.mem_cons_self, fm_congr fun k hk => h k (List.mem_cons_of_mem _ hk)]
theorem pick_back (xs : Array Value) : ((List.range xs.size).filterMap fun (k : Nat) => xs[((xs.size : Int) - 1 + (k : Int) * (-1)).toNat]?).toArray = xs.toList.reverse.toArray := by
  have h := PySem.W.krv_pick xs
  have e : (List.range xs.size).filterMap (fun (k : Nat) => xs[((xs.size : Int) - 1 + (k : Int) * (-1)).toNat]?) = ((List.range xs.size).map fun k => xs.size - 1 - k).filterMap (xs[·]?) := by
    rw [List.filterMap_map]
    refine fm_congr fun k hk => ?_
    have := List.mem_range.mp hk
    show xs[_]? = xs[xs.size - 1 - k]?
    congr 1
    omega
  rw [e, PySem.W.krv_range, List.filterMap_reverse, PySem.W.krv_all]
theorem getItem_tuple_back {t sl : Addr} {items : Array Value} {vl vu vs : Value} {Q : Value → Shared → Prop} (ht : IsTup s.heap t items) (hs : s.heap.IsSliceOf sl vl vu vs) (pl : IsPart vl none) (pu : IsPart vu none) (ps : IsPart vs (some (-1)))
    (h : Q (.ref s.heap.objs.size) { s with heap := s.heap.push { cls := .type "tuple", data := .seq items.toList.reverse.toArray } }) (hsz : items.size ≤ sizeLine) : wpAny (model prog w) A (getItem (.ref t) (.ref sl)) Q E s := by
  have htake : sizeOk (.seq items.toList.reverse.toArray) := by
    show items.toList.reverse.toArray.size ≤ sizeLine
    rw [List.size_toArray, List.length_reverse, Array.length_toList]
    exact hsz
  obtain ⟨os, hos, hcs, hds⟩ := id hs
  have hTs : s.TypeIs (.ref sl) "slice" := ⟨os, hos, hcs⟩
  unfold getItem
  try with_reducible refine wpAny_holding ?_
  first | refine wpAny_bind (wpAny_pure ?_) | skip
  refine wpAny_bind (wpAny_sequenceKey ht.typeIs (by decide) ?_)
  refine wpAny_bind (wpAny_callSpecial?_slot (name := Str.ofString "__getitem__") ht.typeIs PyProof.Rows.slot_tuple_getitem
    (wpAny_call_entry PyProof.Rows.slot_tuple_getitem ht.typeIs entry_tuple_getitem ?_ (args_tuple_getitem _ _)))
  show wpAny _ _ (Builtin.Tuple.tupleItemsOf (.ref t) >>= _) _ _ s
  refine wpAny_bind (tupleItemsOf_ ht ?_)
  refine wpAny_bind (wpAny_typeOf hTs ?_)
  rw [if_pos (by decide)]
  refine wpAny_bind (sliceApplied_back hs pl pu ps ?_)
  show wpAny _ _ (if (((items.size : Int) - 1) == 0 && (-1 : Int) == 1 && items.size == items.size) = true then _ else _) _ _ s
  rw [if_neg (by rw [show ((-1 : Int) == 1) = false from rfl, Bool.and_false, Bool.false_and]; exact Bool.false_ne_true), pick_back]
  first
    | exact wpAny_bind (m := Builtin.Tuple.tupleExact _) (wpAny_newObj_type (wpAny_pure ⟨_, rfl, wpAny_pure h⟩) htake)
    | exact wpAny_bind (m := Builtin.Tuple.tupleExact _) (wpAny_newObj_type (wpAny_bind (wpAny_pure (wpAny_pure ⟨_, rfl, wpAny_pure h⟩))) htake)
    | exact wpAny_bind (wpAny_bind (m := Builtin.Tuple.tupleExact _) (wpAny_newObj_type (wpAny_pure (wpAny_pure ⟨_, rfl, wpAny_pure h⟩)) htake))
    | exact wpAny_bind (wpAny_bind (m := Builtin.Tuple.tupleExact _) (wpAny_newObj_type (wpAny_pure ⟨_, rfl, wpAny_pure h⟩) htake))
end
section
variable {X : Cx}
def tRevT (K : PySem.W.Frag) (te : TE) : TE := fun σ H Q => te σ H fun x H1 => ∃ a xs, x = .ref a ∧ SqT K H1 a xs ∧ ∀ p, H1 p = none → Q (.ref p) (upd H1 p (.tup xs.reverse))
theorem pe_revT {e : Expr} {te : TE} {k : Nat} {p1 p2 p3 pos : Pos} (he : PE X e te) : PE X (.Subscript e (.Slice none none (some (.UnaryOp .USub (.Constant (.int 1) k p1) p2)) p3) pos) (tRevT X.K te) := by
  refine ⟨fun pins s σ H Q I h => ?_⟩
  refine Subscript_ (thn (he.run pins s σ H _ I h) fun v s1 ⟨x, H1, I1, r1, q1⟩ => ?_)
  obtain ⟨a, xs, ex, hx, q⟩ := q1
  subst ex
  cases r1
  have hst : PO X (some (.UnaryOp .USub (.Constant (.int 1) k p1) p2)) (tPart (tUn (rU fun i => .int (-i)) (tC (.int 1)))) := po_some (pe_un un_neg pe_int)
  refine wpAny_Slice (thn (po_none.run pins s1 σ H1 (fun o H2 => o = none ∧ H2 = H1) I1 ⟨rfl, rfl⟩) fun vl s2 ⟨l, H2, I2, pl, el, e2⟩ => ?_)
  subst el e2
  refine thn (po_none.run pins s2 σ H2 (fun o H3 => o = none ∧ H3 = H2) I2 ⟨rfl, rfl⟩) fun vu s3 ⟨u, H3, I3, pu, eu, e3⟩ => ?_
  subst eu e3
  refine thn (hst.run pins s3 σ H3 (fun o H4 => o = some (-1) ∧ H4 = H3) I3 ⟨1, rfl, -1, rfl, rfl, rfl⟩) fun vs s4 ⟨o, H4, I4, ps, eo, e4⟩ => ?_
  subst eo e4
  have I5 : Inv X pins σ H4 { s4 with heap := s4.heap.push { cls := .type "slice", data := .fields #[vl, vu, vs] } } := I4.kept (t' := s4.toks) fun b ob q => Heap.get?_push_of_some _ q
  obtain ⟨its, r, ht, hz⟩ := I5.tuple hx
  have hlen := r.length
  show wpAny (model X.prog X.w) X.A (subscriptTail e (.Slice none none (some (.UnaryOp .USub (.Constant (.int 1) k p1) p2)) p3) (.ref a) (.ref s4.heap.objs.size)) (EP X pins σ Q) X.xe { s4 with heap := s4.heap.push { cls := .type "slice", data := .fields #[vl, vu, vs] } }
  refine tail_any (ops := [.ref a, .ref s4.heap.objs.size]) ht.typeIs (PyProof.Rows.slot_tuple_getitem.lookup) ?_ (by with_unfolding_all rfl)
  refine getItem_tuple_back ht (Heap.IsSliceOf.new _ vl vu vs) pl pu ps ?_ (by rw [List.size_toArray]; omega)
  refine ⟨.ref _, _, I5.laid (t' := s4.toks) (o := .tup xs.reverse) (fun b ob q => Heap.get?_push_of_some _ q) (Nat.le_refl _) ?_, rfl, q _ (I5.hok.fresh (Nat.le_refl _))⟩
  exact ⟨by rw [List.length_reverse]; exact hz, _, r.reverse, IsTup.new _ _⟩
end
end Mv

set_option Elab.async false
set_option linter.all false
set_option maxRecDepth 100000
set_option maxHeartbeats 4000000
namespace Mv
open PySem PySem.Spec PyProof.Rows L2
/-! ### l.extend(t), t a tuple -/
theorem list_extend_tup (l : Addr) (items : Array Value) (n : Nat) (b : Addr) (items2 : Array Value) (n2 : Nat) (dd : Option Addr) (sl : Array (Option Value)) (hs0 : ¬(!items.isEmpty && Builtin.List.listTooLong (items.size + items2.size)) = true) (hs1 : items.size ≤ sizeLine) (hs2 : items.size + items2.size ≤ sizeLine + 1) :
    Meets (Builtin.«list.extend» ⟨[.ref l, .ref b], []⟩) (fun _ R s => s.heap.get? l = some { cls := .type "list", dict := none, data := .seq items n, slots := #[] } ∧ s.heap.get? b = some { cls := .type "tuple", dict := dd, data := .seq items2 n2, slots := sl } ∧ R (.ok (.ret Value.none)) { s with heap := s.heap.update l (Obj.mapSeq fun x => x ++ items2), toks := s.toks }) :=
  .of_wp fun prog w A R s h => by
    obtain ⟨hp, g, d, tk, os⟩ := s
    obtain ⟨hl, hb, h⟩ := h
    have f1 := AutoSeq1.idx_int
    have f2 := AutoSeq1.sub_tuple_tuple
    have f3 := AutoSeq1.sub_list_list
    have f4 := AutoSeq1.sub_tuple_list
    have f5 := AutoSeq1.sub_list_tuple
    have hz' : (items ++ items2).size ≤ sizeLine + 1 := by rw [Array.size_append]; exact hs2
    wp_walk using (wpAny_updateSeq hl rfl (hz := hs1) (_hz' := hz')), wpAny_loadPart' hl, wpAny_loadPart' hb
    exact ⟨_, rfl, h⟩
section
variable {X : Cx}
def rExtendT (K : PySem.W.Frag) : V → List V → Hp → VK → Prop := fun x vs H Q => ∃ l b xs zs, x = .ref l ∧ vs = [.ref b] ∧ H l = some (.lst xs) ∧ SqT K H b zs ∧ xs.length + zs.length ≤ sizeLine ∧ Q .non (upd H l (.lst (xs ++ zs)))
theorem mt_extendT : MtR X "list.extend" (rExtendT X.K) := by
  intro pins s σ H x vs v us Q I rx rv h
  obtain ⟨l, b, xs, zs, rfl, rfl, hH, hB, hz, q⟩ := h
  cases rx
  obtain ⟨u, rfl, ru⟩ := rv.one
  cases ru
  obtain ⟨z, its, n, r, hl, e⟩ := I.lstM hH
  obtain ⟨its2, r2, ⟨⟨cls, dd, data, sl⟩, ho, hc, n2, hd⟩, hl2⟩ := I.tuple hB
  simp only at hc hd
  subst hc hd
  have hle2 : its2.length = zs.length := r2.length.symm
  have hsz : its.toArray.size + its2.toArray.size ≤ sizeLine := by rw [List.size_toArray, List.size_toArray]; omega
  have hlong : ¬ (!its.toArray.isEmpty && Builtin.List.listTooLong (its.toArray.size + its2.toArray.size)) = true := by
    rw [notLongL hsz, Bool.and_false]
    exact Bool.false_ne_true
  refine call_meets F.slot_list_extend ⟨_, e, rfl⟩ F.entry_list_extend (F.args_list_extend_2 _ _)
    (list_extend_tup l its.toArray n b its2.toArray n2 dd sl hlong (by rw [List.size_toArray]; omega) (by omega)) ⟨e, ho, ?_⟩
  refine ⟨.non, _, I.lset (its' := its ++ its2) hH e (by simp) (r.append r2) ?_, rfl, q⟩
  rw [List.length_append]
  omega
end
/-! ### t * 1 is t -/
theorem tuple_mulOne (l : Addr) (items : Array Value) (n : Nat) (dd : Option Addr) (sl : Array (Option Value)) (u : Tok) :
    Meets (Builtin.«tuple.__mul__» ⟨[.ref l, .int 1 u], []⟩) (fun _ R s => s.heap.get? l = some { cls := .type "tuple", dict := dd, data := .seq items n, slots := sl } ∧ R (.ok (.ret (Value.ref l))) s) :=
  .of_wp fun prog w A R s h => by
    obtain ⟨hp, g, d, tk, os⟩ := s
    obtain ⟨hl, h⟩ := h
    have f1 := AutoSeq1.idx_int
    have c0 : (decide ((1 : Int) < -(2 ^ 63)) || decide ((1 : Int) ≥ 2 ^ 63)) = false := by decide
    have c1 : (items.isEmpty || (1 : Int) == 1) = true := by simp
    wp_walk using wpAny_loadPart' hl
    repeat (first
      | (refine wpAny_ite_false (decide_eq_false (by rw [c0]; exact Bool.false_ne_true)) ?_; wp_walk using wpAny_loadPart' hl)
      | (refine wpAny_ite_true (decide_eq_true c1) ?_; wp_walk using wpAny_loadPart' hl))
    exact ⟨_, rfl, h⟩
section
variable {X : Cx}
/-- t * k, k at least 1 -/
def rRepT1 (K : PySem.W.Frag) : R2 := fun x y H Q => ∃ l k xs, x = .ref l ∧ y = .int k ∧ SqT K H l xs ∧ xs ≠ [] ∧ 1 ≤ k ∧ k ≤ 1000 ∧ xs.length ≤ 1000 ∧ (k = 1 → Q (.ref l) H) ∧ (2 ≤ k → ∀ p, H p = none → Q (.ref p) (upd H p (.tup (List.replicate k.toNat xs).flatten)))
theorem op_repT1 : OpR X (binaryOp .Mult) (rRepT1 X.K) := by
  intro pins s σ H x y v u Q I rx ry h
  obtain ⟨l, k, xs, rfl, rfl, hT, hne, h1, h2, hz, q1, q2⟩ := h
  by_cases hk : k = 1
  · subst hk
    cases rx
    obtain ⟨t, rfl⟩ := ry
    obtain ⟨its, r, ⟨⟨cls, dd, data, sl⟩, ho, hc, n, hd⟩, hs⟩ := I.tuple hT
    simp only at hc hd
    subst hc hd
    exact wpAny_binaryOp_repeat_ref (T := "tuple") (U := "int") (by decide) ⟨_, ho, rfl⟩ (fun s' => typeIs_int s' 1 t) noFill_tuple_mul F.fills_int_mul F.slot_int_rmul repeat_tuple F.slot_int_index.lookup
      (call_meets F.slot_int_rmul (typeIs_int s 1 t) F.entry_int_rmul (F.args_int_rmul_2 _ _) (int_rmul_tuple 1 t l its.toArray n dd sl)
        ⟨ho, rfl, ⟨_, ho, rfl⟩, call_meets F.slot_tuple_mul ⟨_, ho, rfl⟩ F.entry_tuple_mul (F.args_tuple_mul_2 _ _) (tuple_mulOne l its.toArray n dd sl t) ⟨ho, .ref l, H, I, rfl, q1 rfl⟩⟩)
  · exact op_repT pins s σ H _ _ v u Q I rx ry ⟨l, k, xs, rfl, rfl, hT, hne, by omega, h2, hz, q2 (by omega)⟩
end
/-! ### a def with keyword-only parameters alone -/
theorem kbinds0 {K : PySem.W.Frag} {x qual : Str} {params : Arguments} {body : List Stmt} {scope : Scope} {kws : List (Str × V)} {f : Addr} {fd : FuncData} {ps : List Str}
    (F : FunD K x qual params body scope [] kws f fd) (n : Nat) (ks : List Str) (ms : List (Str × V)) (g : {α : Type} → List α → List α → List α → List α) (hk : kws ≠ []) (hms : ∀ q ∈ ms, q ∈ kws)
    (hrel : ∀ {vs mz zs : List V} {us mv ws : List Value}, Vals vs us → Vals mz mv → Vals zs ws → Vals (g vs mz zs) (g us mv ws))
    (h : ∀ (D : Addr) (doc pm : Value) (an : Option Addr) (cdv ct : Value) (us mv ws : List Value), us.length = n → mv.length = ms.length → ws.length = ks.length →
      KwChain D ((ms.map (·.1)).zip mv) (bindArgs (PySem.W.fnOf x qual params body scope .none (.ref D) doc pm an cdv ct) ⟨us, ks.zip ws⟩) (ps.zip (g us mv ws))) :
    ∃ mv : List Value, KBn K fd ps n ks (fun us ws => g us mv ws) (fun vs zs => g vs (ms.map (·.2)) zs) := by
  obtain ⟨oc, od, dV, kV, doc, pm, an, cdv, ct, osl, rfl, lk, hcd, hD, hK⟩ := F.ex
  rcases hD with ⟨_, rfl⟩ | ⟨e, _⟩
  · rcases hK with e | ⟨D, rfl, hq⟩
    · exact absurd e hk
    · obtain ⟨mv, hl, rk, hks⟩ := kwd_vals (ms := ms) fun q hm => hq q (hms q hm)
      refine ⟨mv, ⟨fun s us ws X l1 l2 => ?_, fun r1 r2 => hrel r1 rk r2⟩⟩
      exact BindsTo.of_looks fun M => KwChain.looks X hks (h D doc pm an cdv ct us mv ws l1 hl l2)
  · exact absurd rfl e
/-! ### lists of tuples of ints, compared -/
def tupsD (xss : List (List Int)) : List PyData := xss.map fun xs => .tuple (xs.map .int)
theorem lay_tups : ∀ xss : List (List Int), PyData.canLayAll0 (tupsD xss) = true
  | [] => rfl
  | xs :: r => by
    have := lay_tups r
    unfold tupsD at this ⊢
    simp [PyData.canLayAll0, PyData.canLay0, PySem.W.ke_canLayAll0, this]
theorem depth_tups : ∀ xss : List (List Int), PyData.depthAll (tupsD xss) ≤ 1
  | [] => Nat.zero_le _
  | xs :: r => by
    have := depth_tups r
    unfold tupsD at this ⊢
    simp [PyData.depthAll, PyData.depth, PySem.W.ke_depthAll, this]
theorem shaped_tups (xss : List (List Int)) : SeqAt.shaped (.list (tupsD xss)) = true := by
  have := depth_tups xss
  simp [SeqAt.shaped, PyData.canLay0, PyData.depth, lay_tups]
  omega
end Mv

set_option Elab.async false
set_option linter.all false
set_option maxRecDepth 100000
set_option maxHeartbeats 4000000
namespace Mv
open PySem PySem.Spec PyProof.Rows L2
/-! ### lists of things that are read as data -/
section
variable {α : Type} {d : α → PyData} {n : Nat}
theorem lay_map (h : ∀ x, (d x).canLay0 = true) : ∀ L : List α, PyData.canLayAll0 (L.map d) = true
  | [] => rfl
  | x :: r => by
    have := lay_map h r
    simp [PyData.canLayAll0, h x, this]
theorem depth_map (h : ∀ x, (d x).depth ≤ n) : ∀ L : List α, PyData.depthAll (L.map d) ≤ n
  | [] => Nat.zero_le _
  | x :: r => by
    have h1 := depth_map h r
    have h2 := h x
    simp only [List.map_cons, PyData.depthAll]
    omega
theorem shaped_listD {xs : List PyData} (h1 : PyData.canLayAll0 xs = true) (h2 : PyData.depthAll xs ≤ 60) : SeqAt.shaped (.list xs) = true := by
  show (PyData.canLay0 (.list xs) && decide (PyData.depth (.list xs) ≤ 64)) = true
  rw [Bool.and_eq_true]
  exact ⟨by simp only [PyData.canLay0]; exact h1, decide_eq_true (by simp only [PyData.depth]; omega)⟩
theorem shaped_tupD {xs : List PyData} (h1 : PyData.canLayAll0 xs = true) (h2 : PyData.depthAll xs ≤ 60) : SeqAt.shaped (.tuple xs) = true := by
  show (PyData.canLay0 (.tuple xs) && decide (PyData.depth (.tuple xs) ≤ 64)) = true
  rw [Bool.and_eq_true]
  exact ⟨by simp only [PyData.canLay0]; exact h1, decide_eq_true (by simp only [PyData.depth]; omega)⟩
theorem shaped_map (h1 : ∀ x, (d x).canLay0 = true) (h2 : ∀ x, (d x).depth ≤ n) (hn : n ≤ 60) (L : List α) : SeqAt.shaped (.list (L.map d)) = true :=
  shaped_listD (lay_map h1 L) (Nat.le_trans (depth_map h2 L) hn)
end
theorem lay_ints (xs : List Int) : PyData.canLayAll0 (xs.map PyData.int) = true := lay_map (d := PyData.int) (fun x => by simp [PyData.canLay0]) xs
theorem depth_ints (xs : List Int) : PyData.depthAll (xs.map PyData.int) ≤ 0 := depth_map (d := PyData.int) (fun x => by simp [PyData.depth]) xs
section
variable {K : PySem.W.Frag} {H : Hp} {a b : Addr} {va vb : List V} {xs ys : List PyData} {Q : VK}
/-- two lists of the same data -/
theorem eq_listD (ha : SqL K H a va) (da : DpAll K H va xs) (hb : SqL K H b vb) (db : DpAll K H vb ys) (e : xs = ys) (l : PyData.canLayAll0 xs = true) (dd : PyData.depthAll xs ≤ 60) (q : Q (.bl true) H) : rEqD K (.ref a) (.ref b) H Q := by
  subst e
  exact ⟨_, _, .lst ha da, .lst hb db, shaped_listD l dd, shaped_listD l dd, by rw [show PyData.eqv (.list xs) (.list xs) = true from PySem.SeqAt.eqvAll_refl _ l]; exact q⟩
theorem ne_listD (ha : SqL K H a va) (da : DpAll K H va xs) (hb : SqL K H b vb) (db : DpAll K H vb ys) (e : xs = ys) (l : PyData.canLayAll0 xs = true) (dd : PyData.depthAll xs ≤ 60) (q : Q (.bl false) H) : rNeD K (.ref a) (.ref b) H Q := by
  subst e
  exact ⟨_, _, .lst ha da, .lst hb db, shaped_listD l dd, shaped_listD l dd, by rw [show PyData.eqv (.list xs) (.list xs) = true from PySem.SeqAt.eqvAll_refl _ l]; exact q⟩
theorem eq_tupD (ha : SqT K H a va) (da : DpAll K H va xs) (hb : SqT K H b vb) (db : DpAll K H vb ys) (e : xs = ys) (l : PyData.canLayAll0 xs = true) (dd : PyData.depthAll xs ≤ 60) (q : Q (.bl true) H) : rEqD K (.ref a) (.ref b) H Q := by
  subst e
  exact ⟨_, _, .tup ha da, .tup hb db, shaped_tupD l dd, shaped_tupD l dd, by rw [show PyData.eqv (.tuple xs) (.tuple xs) = true from PySem.SeqAt.eqvAll_refl _ l]; exact q⟩
theorem ne_tupD (ha : SqT K H a va) (da : DpAll K H va xs) (hb : SqT K H b vb) (db : DpAll K H vb ys) (e : xs = ys) (l : PyData.canLayAll0 xs = true) (dd : PyData.depthAll xs ≤ 60) (q : Q (.bl false) H) : rNeD K (.ref a) (.ref b) H Q := by
  subst e
  exact ⟨_, _, .tup ha da, .tup hb db, shaped_tupD l dd, shaped_tupD l dd, by rw [show PyData.eqv (.tuple xs) (.tuple xs) = true from PySem.SeqAt.eqvAll_refl _ l]; exact q⟩
/-- a list, compared with the empty one -/
theorem eq_nilD (ha : SqL K H a va) (da : DpAll K H va xs) (hb : SqL K H b []) (l : PyData.canLayAll0 xs = true) (dd : PyData.depthAll xs ≤ 60) (q : Q (.bl xs.isEmpty) H) : rEqD K (.ref a) (.ref b) H Q := by
  refine ⟨_, _, .lst ha da, .lst hb .nil, shaped_listD l dd, shaped_listD rfl (by simp [PyData.depthAll]), ?_⟩
  rw [show PyData.eqv (.list xs) (.list []) = xs.isEmpty by cases xs <;> rfl]
  exact q
end
end Mv

set_option Elab.async false
set_option linter.all false
set_option maxRecDepth 100000
set_option maxHeartbeats 4000000
namespace Mv
open PySem PySem.Spec PyProof.Rows L2
/-! ### several except clauses, each with its own name -/
structure Cl where
  c : Value
  i : Nat
  ts : Addr → Value → Option Addr → TS
def endsAs (D : Ends) (i : Nat) : Ends := { nx := fun z h => D.nx (z.set i none) h, rt := D.rt, bk := fun z h => D.bk (z.set i none) h, ct := fun z h => D.ct (z.set i none) h }
def wMore (K : PySem.W.Frag) (Wo : WX) (D : Ends) : List Cl → WX
  | [] => Wo
  | q :: r => fun cls d z h => ∃ b, PySem.W.exmOne K cls q.c = some b ∧ (b = true → ∀ a, h a = none → q.ts a cls d (endsAs D q.i) (z.set q.i (some (.ref a))) h) ∧ (b = false → wMore K Wo D r cls d z h)
inductive ClOk (X : Cx) : List ExceptHandler → List Cl → Prop
  | nil : ClOk X [] []
  | cons {x n : Str} {q : Cl} {b0 : Stmt} {su : List Stmt} {np p : Pos} {hds : List ExceptHandler} {l : List Cl} (hi : X.N[q.i]? = some n) (hl : X.env.kindOf n = some .local) (hc : Names X x q.c)
      (hsu : ∀ (a : Addr) (oe : Obj) (cls : Value) (d : Option Addr) (pn : List (Addr × Obj)), Zc cls d oe → (∃ vs, oe.data = .fields vs) → PSs (X.suite a ((a, oe) :: pn)) (b0 :: su) (q.ts a cls d)) (r : ClOk X hds l) :
      ClOk X (.ExceptHandler (some (.Name x np)) (some n) (b0 :: su) p :: hds) (q :: l)
theorem ps_tryM {X : Cx} {body : List Stmt} {c0 : ExceptHandler} {cr : List ExceptHandler} {l : List Cl} {pos : Pos} {tb : WX → TS} {Wo : WX} (st : X.stack = X.env :: X.outer) (fr : X.env.frame = some X.env.locals) (nd : X.N.Nodup) (tk : Takes X Wo)
    (bd : ∀ (W : WX) (pn : List (Addr × Obj)) (xe : Value → Shared → Prop), Takes (X.tr pn xe) W → PassesOwn (model X.prog X.w) X.A X.env xe → PSs (X.tr pn xe) body (tb W))
    (cs : ClOk X (c0 :: cr) l) : PS X (.Try body (c0 :: cr) [] [] pos) (fun D z h => tb (wMore X.K Wo D l) D z h) := by
  refine ⟨fun pins s0 z0 h0 D I0 w0 => ?_⟩
  have okX := I0.ok
  have frX : X.A.frames = some (X.env :: X.outer) := by rw [okX.frames, st]
  refine wpAny_Try_except (wpAny_mono ((bd (wMore X.K Wo D l) (X.pn ++ pins) (fun e u1 => wpAny (model X.prog X.w) X.A (noteFrame e X.env) (fun _ u2 => wpAny (model X.prog X.w) X.A (setFlight e none) (fun _ u3 =>
    wpAny (model X.prog X.w) X.A (handleBy e X.env (c0 :: cr)) (SP X pins D) X.xe u3) X.xe u2) X.xe u1) (fun v t1 ex => ?_) PassesOwn.looking).run [] s0 z0 h0 D (I0.toTry _) w0) (fun g t1 nice => ?_) (fun e t1 he => he))
  · obtain ⟨a, B, t0, pins1, z1, h1, cls, d, rfl, J0, nb, ups, sky0, fresh, os, ag, w1⟩ := ex
    have J1 : Inv X pins z1 h1 t0 := J0.ofTry okX
    show wpAny (model X.prog X.w) X.A (noteFrame (.ref a) X.env) _ _ _
    refine Sky.land Zc.steady frX fr (show Sky B (X.env :: X.outer) a (Zc cls d) X.env.locals t1.heap by rw [← st]; exact sky0) fun g3 fly3 ups3 => ?_
    have J3 : Inv X pins z1 h1 { t1 with heap := g3 } := J1.landed nb fly3.1 (ups.trans ups3) os ag
    obtain ⟨oa, va, ha, za, da⟩ := fly3.there
    have outF : a ∉ frs (X.env :: X.outer) := fun inF => by
      obtain ⟨_, ob, eb, noF⟩ := fly3.2.2.1.mem inF
      rw [ha] at eb
      cases eb
      exact noF _ da
    have neLoc : a ≠ X.env.locals := fun y => outF (List.mem_filterMap.mpr ⟨X.env, List.mem_cons_self, by rw [fr, y]⟩)
    have neF : a ∉ X.fs := fun inF => by
      obtain ⟨ev, me, fe⟩ := List.mem_filterMap.mp inF
      exact outF (List.mem_filterMap.mpr ⟨ev, List.mem_cons_of_mem _ me, fe⟩)
    have S3 := J3.suite ha da fresh neLoc neF
    have each : ∀ {cr' : List ExceptHandler} {l' : List Cl}, ClOk X cr' l' → wMore X.K Wo D l' cls d z1 h1 → wpAny (model X.prog X.w) X.A (handleBy (.ref a) X.env cr') (SP X pins D) X.xe { t1 with heap := g3 } := by
      intro cr' l' ok'
      induction ok' with
      | nil =>
        intro wn
        obtain ⟨_, _, _, oe, vs, Tb, oT, tsT, he, _, hd, at1, _⟩ := id fly3
        refine wpAny_handleBy_nil ?_
        unfold PySem.passOn
        refine wpAny_bind (wpAny_field he hd at1 ?_)
        rw [if_neg (show ¬ ((Value.ref Tb == Value.none) = true) by simp)]
        have out : wpAny (model X.prog X.w) X.A (setFlight (.ref a) X.env.frame) (fun _ t4 => wpAny (model X.prog X.w) X.A (throw (.ref a) : Sem Flow) (SP X pins D) X.xe t4) X.xe { t1 with heap := g3 } := by
          rw [fr]
          exact HandSPX.setFlight_upZ fly3 fun g4 sk4 ups4 => wpAny_throw (tk _ _ ⟨a, B, t0, pins, z1, h1, cls, d, rfl, J1, nb, (ups.trans ups3).trans ups4, .inr (.inr (by rw [st]; exact sk4)), fresh, os, ag, wn⟩)
        first
          | exact wpAny_bind (wpAny_pure (wpAny_bind out))
          | exact wpAny_bind out
      | @cons x n q b0 su np p hds l2 hi hl hc hsu r ih =>
        rintro ⟨b, em, yes, no⟩
        refine wpAny_handleBy_cons (codeAny_handlers_test ?_) (fun y => by cases y)
        have lookT : PySem.W.Looks (model X.prog X.w) g3 (typeOf (.ref a)) cls := fun A Q E s kp y => wpAny_typeOf_ref (kp _ _ ha) (by rw [za.1]; exact y)
        have lookM := PySem.W.exm_one (M := model X.prog X.w) (J3.kIn) lookT em
        have nameOk : ∀ {Q E : Value → Shared → Prop}, Q q.c { t1 with heap := g3 } → wpAny (model X.prog X.w) (X.A.mark (some (.ref a))) (eval (.Name x np) X.env) Q E { t1 with heap := g3 } := fun {Q E} y => by
          obtain ⟨gx, dx, m1 | ⟨m1, m2, m3⟩⟩ := hc
          · exact ld_glob (X := X.suite a ((a, oa) :: (X.pn ++ pins))) S3 gx m1 y dx
          · exact ld_blt (X := X.suite a ((a, oa) :: (X.pn ++ pins))) S3 gx m1 m2 y m3 dx
        refine nameOk (lookM.here ?_)
        cases b with
        | false =>
          show wpAny _ X.A (handleBy (.ref a) X.env hds) _ _ _
          exact ih (no rfl)
        | true =>
          refine codeAny_handlers_suite_as (HandSPX.lands_againZ fly3 fun g4 fly4 ups4 => ?_)
          have J4 : Inv X pins z1 h1 { t1 with heap := g4 } := J1.landed nb fly4.1 ((ups.trans ups3).trans ups4) os ag
          obtain ⟨ob, vb, hb, zb, db⟩ := fly4.there
          refine store_ok (X := X.suite a ((a, ob) :: (X.pn ++ pins))) (v := .ref a) (J4.suite hb db fresh neLoc neF) nd hi (.inl hl) rfl (fun t5 S5 => ?_) (.inr hl)
          have gone : ∀ {z6 : L2.St} {h6 : Hp} {t6 : Shared} {Q : Shared → Prop}, Inv (X.suite a ((a, ob) :: (X.pn ++ pins))) [] z6 h6 t6 → (∀ t7, Inv X pins (z6.set q.i none) h6 t7 → Q t7) →
              wpAny (model X.prog X.w) X.A (do bindName X.env n .none; unbindBehindTheSuite X.env n p) (fun _ t7 => Q t7) X.xe t6 := fun {z6 h6 t6 Q} S6 y => gone_ok (S6.unsuite okX) nd hi hl y
          refine wpAny_mono ((hsu a ob cls d (X.pn ++ pins) zb ⟨_, db⟩).run [] t5 _ h1 _ S5 (yes rfl a fresh)) (fun g t6 nice => ?_) (fun _ _ y => y.elim)
          cases g with
          | ret u =>
            obtain ⟨v6, z6, h6, S6, rel6, w6⟩ := nice
            exact gone S6 fun t7 J7 => ⟨_, _, _, J7, rel6, w6⟩
          | next =>
            obtain ⟨z6, h6, S6, w6⟩ := nice
            exact gone S6 fun t7 J7 => ⟨_, _, J7, w6⟩
          | brk =>
            obtain ⟨z6, h6, S6, w6⟩ := nice
            exact gone S6 fun t7 J7 => ⟨_, _, J7, w6⟩
          | cont =>
            obtain ⟨z6, h6, S6, w6⟩ := nice
            exact gone S6 fun t7 J7 => ⟨_, _, J7, w6⟩
    exact each cs w1
  · cases g with
    | ret u =>
      obtain ⟨v2, z2, h2, J2, rel2, w2⟩ := nice
      exact ⟨v2, z2, h2, J2.ofTry okX, rel2, w2⟩
    | next =>
      obtain ⟨z2, h2, J2, w2⟩ := nice
      exact wpAny_execs_nil ⟨z2, h2, J2.ofTry okX, w2⟩
    | brk =>
      obtain ⟨z2, h2, J2, w2⟩ := nice
      exact ⟨z2, h2, J2.ofTry okX, w2⟩
    | cont =>
      obtain ⟨z2, h2, J2, w2⟩ := nice
      exact ⟨z2, h2, J2.ofTry okX, w2⟩
/-! ### a call with keywords, of a def that may raise -/
def tCallNS (n m : Nat) (sp : Sp) (gV : List V → List V → List V) (E : L2.St → XK) (t tk : TA) : TE := fun z h Q => t z h fun vs h1 => tk z h1 fun zs h2 => vs.length = n ∧ zs.length = m ∧ sp (gV vs zs) h2 Q (E z)
theorem pe_callNS {X : Cx} {CX : CXT} {k n : Nat} {f : Addr} {fd : FuncData} {ps ks : List Str} {sp : Sp} {E : L2.St → XK} {x : Str} {p pos : Pos} {e : Expr} {es : List Expr} {kws : List Keyword} {t tk : TA} {g : List Value → List Value → List Value} {gV : List V → List V → List V}
    (F : FnOk X.prog X.w X.K X.mg X.base CX k f fd ps sp) (hr : Room k X.A) (hg : Gl X x) (hm : X.mg x = some (.ref f)) (kp : PySem.W.keepIn X.K (.ref f) = true) (hb : KBn X.K fd ps n ks g gV) (hx : ∀ z, PassesAt CX X z (E z))
    (ha : PA X (e :: es) t) (hkw : PK X kws tk) (all : (backToKw pos (keywordEach kws X.env)).all (·.1.isSome) = true := by rfl) (hks : (backToKw pos (keywordEach kws X.env)).filterMap (·.1) = ks := by rfl)
    (db : (x == ("__debug__" : Str)) = false := by decide) (hst : starEach (e :: es) X.env = (false, eval e X.env) :: starEach es X.env := by rfl)
    (pl : ((backTo pos (starEach (e :: es) X.env)).any (·.1) || (backToKw pos (keywordEach kws X.env)).any (·.1.isNone)) = false := by rfl) :
    PE X (.Call (.Name x p) (e :: es) kws pos) (tCallNS n ks.length sp gV E t tk) := by
  refine ⟨fun pins s z h Q I w0 => wpAny_Call_Name_kw (ld_glob I hg hm ?_ db)⟩
  refine PySem.W.callWith_KW (h₀ := X.base) I.ok.mod.kin kp all (thn (ha.run pos pins s z h _ I w0) fun us s1 ⟨vs, h1, I1, r1, w1⟩ => thn (hkw.run pos pins s1 z h1 _ I1 w1) fun ws s2 ⟨zs, h2, I2, r2, l1, l2, w2⟩ => ⟨I2.kIn, ?_⟩) pl hst
  rw [hks]
  have rr := hb.rel r1 r2
  refine wpAny_call (codeAny_mono (F.run X.A X.stack s2 h2 ⟨us, ks.zip ws⟩ (g us ws) (gV vs zs) Q (E z) hr I2.env0 (hb.to s2 us ws I2.kIn (r1.length.symm.trans l1) (r2.length.symm.trans l2)) rr w2) fun res s' got => ?_)
  cases res with
  | error e => exact hx z pins h2 s2 e s' I2 got
  | ok fl =>
    cases fl with
    | ret u => exact I2.after got
    | next => exact got.elim
    | brk => exact got.elim
    | cont => exact got.elim
/-! ### X(), X an own exception class without own __init__ -/
theorem pmk_own0 {X : Cx} {C : Addr} {bmB : List Value} {B newId initId : String} {x : Str} {p pos : Pos} (F : ExcBaseFacts B newId initId bmB) (q : PySem.W.excIn X.K C bmB newId = true) (gC : X.mg x = some (.ref C)) (kC : PySem.W.keepIn X.K (.ref C) = true) (r : Raises X (.ref C)) (hg : Gl X x)
    (db : (x == ("__debug__" : Str)) = false := by decide) : PMk X (.Call (.Name x p) [] [] pos) (fun _ h Q => Q (.ref C) none h) := by
  intro pins s z h Q I w0
  refine wpAny_Call_Name_kw (ld_glob I hg gC (PySem.W.callWith_K0 I.kIn kC ?_) db)
  show wpAny _ _ (call (.ref C) []) _ _ _
  obtain ⟨bm, N, nm, qn, bs, hdct, sn, sub, ab, col, dd, k0, k1, k2, k3, k5, mN, hC, hN, hni, T⟩ := exc_obj I.kIn q
  refine wpAny_call_exc_subT F T hC hN hni (fun g e made => ?_) (by rw [sizeLine_eq]; decide)
  exact mk_of I made r w0 (I.hok.gone made.new)
end Mv

set_option Elab.async false
set_option linter.all false
set_option maxRecDepth 100000
set_option maxHeartbeats 4000000
namespace Mv
open PySem PySem.Spec PyProof.Rows L2
/-! ### isinstance(e, c), e the caught error, with fields or without -/
structure ExcG (K : PySem.W.Frag) (D : Addr) : Prop where
  cc : ExcC K D
  cl : (PySem.W.clsIn K D).isSome = true
def rIsG (K : PySem.W.Frag) (a : Addr) (cls : Value) (d : Option Addr) : List V → Hp → VK → Prop := fun xs h Q => ∃ (c : V) (cv : Value) (b : Bool) (D : Addr), xs = [.ref a, c] ∧ cls = .ref D ∧ ExcG K D ∧ (d = none ∨ ∃ dd fs, d = some dd ∧ h dd = some (.xd fs)) ∧ (∀ u, RelV c u → u = cv) ∧ PySem.W.kitOne K (.ref D) cv = some b ∧ Q (.bl b) h
theorem call_isG {X : Cx} {a : Addr} {oe : Obj} {cls : Value} {d : Option Addr} {pn : List (Addr × Obj)} (hz : Zc cls d oe) (hf : ∃ vs, oe.data = .fields vs) : CallR (X.suite a ((a, oe) :: pn)) (.builtin "isinstance") (rIsG X.K a cls d) := by
  intro pins s z h xs us Q I r w0
  obtain ⟨c, cv, b, D, rfl, rfl, G, hd, hcv, e, q⟩ := w0
  rcases hd with rfl | ⟨dd, fs, rfl, hdd⟩
  · exact call_isE G.cc hz hf pins s z h _ us Q I r ⟨c, cv, b, rfl, hcv, e, q⟩
  · obtain ⟨u1, u2, rfl, r1, r2⟩ := vals2 r
    obtain rfl : u1 = Value.ref a := r1
    obtain rfl := hcv _ r2
    obtain ⟨at1, _⟩ := I.pin (a, oe) (List.mem_append_left _ List.mem_cons_self)
    obtain ⟨vs, hv⟩ := hf
    have ok : ObjOk X.prog X.w h s.heap dd (.xd fs) := I.hok dd _ hdd
    obtain ⟨mA, hns, _⟩ := ok
    obtain ⟨od, es, ep, ho, _⟩ := hns
    have J : PySem.W.InstAt s.heap a oe D (some od) := ⟨at1, hz.1, by unfold PySem.W.notCls; rw [hv] <;> rfl, by rw [hz.2]; exact ho⟩
    exact PySem.W.kia_one (PySem.W.kitx_exc G.cl G.cc.hg G.cc.hk G.cc.hs G.cc.ha G.cc.hn G.cc.ht G.cc.hm) I.kIn J e (fun z => nomatch z) fun tk => ⟨.bl b, h, I.kept (t' := tk) fun _ _ y => y, rfl, q⟩
end Mv

set_option Elab.async false
set_option linter.all false
set_option maxRecDepth 100000
set_option maxHeartbeats 4000000
namespace Mv
open PySem PySem.Spec PyProof.Rows L2
def topS (i : Nat) : Stmt := PySem.Challenge.pw_movedstates_k07_sessions_cut_and_joined.main.body.getD i (.Pass ⟨0, 0, 0, 0⟩)
abbrev sStream : Stmt := topS 32
abbrev sDraw : Stmt := topS 33
abbrev sWide : Stmt := topS 34
abbrev sValue : Stmt := topS 36

section
variable {P : Program} {w : World} {K : PySem.W.Frag} {mg : Str → Option Value} {base : Heap}
/-! ### the script's stream -/
theorem scStream : FnScope ["_law_script", "_law_pairs", "_law_at", "_law_cell", "_law_rest", "_law_k"] ["_law_script"] (defScope sStream) := ⟨rfl, rfl, rfl, by decide +kernel, rfl, by decide +kernel, by decide +kernel⟩
def spStream (K : PySem.W.Frag) : Sp := fun vs H Q _ => ∃ (a : Addr) (ns : List Int), vs = [.ref a] ∧ SqL K H a (ns.map V.int) ∧ ns.length ≤ 63 ∧ ∀ (H' : Hp) (p : Addr), Same H H' → H p = none → Strm H' p → Q (.ref p) H'
/-- between two pairs -/
def StmI (H : Hp) (a o c : Addr) (ys : List Int) (n : Nat) (σ : L2.St) (H3 : Hp) : Prop := ∃ (y2 y3 y4 y5 : Option V) (ps : List Int), σ = [some (.ref a), some (.ref o), y2, y3, y4, y5] ∧ Same H H3 ∧ H3 c = some (.lst (ys.map V.int)) ∧ H3 o = some (.lst (ps.map V.int)) ∧ ps.length ≤ n
def StmJ (H : Hp) (a o c : Addr) (ys : List Int) (n : Nat) (x2 x3 : V) (σ : L2.St) (H3 : Hp) : Prop := ∃ (r : Int) (y5 : Option V) (ps : List Int), σ = [some (.ref a), some (.ref o), some x2, some x3, some (.int r), y5] ∧ Same H H3 ∧ H3 c = some (.lst (ys.map V.int)) ∧ H3 o = some (.lst (ps.map V.int)) ∧ ps.length ≤ n
theorem StmJ.i {H : Hp} {a o c : Addr} {ys : List Int} {n m : Nat} {x2 x3 : V} {σ : L2.St} {H3 : Hp} (h : StmJ H a o c ys n x2 x3 σ H3) (hm : n ≤ m) : StmI H a o c ys m σ H3 := by
  obtain ⟨r, y5, ps, e, s, h1, h2, h3⟩ := h
  exact ⟨_, _, _, _, ps, e, s, h1, h2, Nat.le_trans h3 hm⟩
theorem ok_stream {f : Addr} {fd : FuncData} (F : Fun K "_law_stream" "_law_stream" sStream f fd) (B : Bi mg) : FnOk P w K mg base CX0 1 f fd ["_law_script"] (spStream K) := by
  refine F.ok scStream (fun vs H Q E h => ?_) (fun cdv A outer s H vs Q E hr h => ?_)
  · obtain ⟨a, ns, rfl, _⟩ := h
    rfl
  · obtain ⟨a, ns, rfl, hS, hlen, q⟩ := h
    refine ⟨_, (pss_cons (ps_set (i := 1) scStream.nd rfl (.inl rfl) (pe_lst pa_nil))
 (pss_cons (ps_for PassesOwn.never rfl (pi_enum (by rfl) B.enumerate (pa_cons (pe_slice sl_list (pv 0) po_none (po_some pe_int)) pa_nil)) (pg_tup rfl (pgs_cons (pg_name (i := 2) scStream.nd rfl (.inl rfl)) (pgs_cons (pg_name (i := 3) scStream.nd rfl (.inl rfl)) pgs_nil)))
 (pss_cons (ps_set (i := 4) scStream.nd rfl (.inl rfl) (pe_callB call_abs (by rfl) B.abs (by decide +kernel) (pa_cons (pv 3) pa_nil)))
 (pss_cons (ps_if (pt_cmpR op_lt (pv 4) pe_int (nomark _))
 (pss_cons (ps_set (i := 4) scStream.nd rfl (.inl rfl) (pe_op op_mod (pe_callTy call_int1 (by rfl) B.int (by decide +kernel) (pa_cons (pe_op op_mul (pv 4) (pe_op op_add (pe_op op_add pe_int (pe_op op_mul pe_int (pv 2))) (pe_callTy call_int1 (by rfl) B.int (by decide +kernel) (pa_cons (pe_cmpR op_lt (pv 3) pe_int (nomark _)) pa_nil)))) pa_nil)) pe_int))
 (pss_one (ps_set (i := 4) scStream.nd rfl (.inl rfl) (pe_op op_mod (pe_callTy call_int1 (by rfl) B.int (by decide +kernel) (pa_cons (pe_op op_mul (pv 4) (pe_op op_add (pv 4) pe_int)) pa_nil)) pe_int)))) pss_nil)
 (pss_one (ps_for PassesOwn.never rfl (pi_range1 (by rfl) B.range (pa_cons pe_int pa_nil)) (pg_name (i := 5) scStream.nd rfl (.inl rfl))
 (pss_cons (ps_expr (pe_bm PySem.F.plainAttrs_list PySem.F.slot_list_append PySem.F.type_list_append mt_append (pv 1) (pa_cons (pe_op op_mod (pe_callTy call_int1 (by rfl) B.int (by decide +kernel) (pa_cons (pv 4) pa_nil)) pe_int) pa_nil)))
 (pss_cons (ps_set (i := 4) scStream.nd rfl (.inl rfl) (pe_op op_fdiv (pv 4) pe_int))
 (pss_one (ps_if (pt_cmpR op_eq (pv 4) pe_int (nomark _))
 (pss_one ps_break) pss_nil)))))))))
 (pss_cons (ps_expr (pe_bm0 PySem.F.plainAttrs_list PySem.F.slot_list_reverse PySem.F.type_list_reverse mt_reverse (pv 1)))
 (pss_one (ps_ret (pv 1)))))), ?_⟩
    refine ⟨Nat.zero_le _, fun o no => ?_⟩
    have s1 : Same H (upd H o (.lst [])) := same_upd no
    refine ⟨.ref a, rfl, 63, rfl, a, ns.map V.int, rfl, s1.seq hS, fun c nc => ?_⟩
    have s2 : Same (upd H o (.lst [])) (upd (upd H o (.lst [])) c (.lst (cutV (ns.map V.int) none (some 63)))) := same_upd nc
    have nco : c ≠ o := fun e => by
      rw [e, upd_same] at nc
      cases nc
    refine ⟨c, _, rfl, .inl (.inl upd_same), ?_⟩
    rw [cutV_int] at s2 ⊢
    have hcl : (cutI ns none (some 63)).length ≤ 63 := Nat.le_trans (cutI_length _ _ _) hlen
    generalize cutI ns none (some 63) = ys at *
    refine for_it walk_enum (fun i σ H3 => StmI H a o c ys (60 * i) σ H3)
      ⟨none, none, none, none, [], rfl, s1.trans s2, upd_same, by rw [upd_ne nco.symm, upd_same]; rfl, Nat.le_refl _⟩ (fun i σ H3 _ ⟨_, _, _, _, _, _, _, hc3, _⟩ => .inl (.inl hc3)) ?_ ?_
    · rintro i x σ H3 H4 hi ⟨y2, y3, y4, y5, ps, rfl, sm, hc3, ho3, hps⟩ ⟨T, x1, x2, rfl, nT, rfl, e1, e2⟩
      obtain rfl : V.int (i : Nat) = x1 := Option.some.inj e1
      obtain ⟨u, rfl, hu⟩ := int_at e2
      rw [List.length_map] at hi
      have smT : Same H3 (upd H3 T (.tup [.int (i : Nat), .int u])) := same_upd nT
      refine ⟨T, [.int (i : Nat), .int u], rfl, .inl (.inl upd_same), rfl, .int (i : Nat), [.int (i : Nat), .int u].tail, rfl, .int u, [], rfl, rfl, ?_⟩
      have hj : StmJ H a o c ys (60 * i + 0) (.int (i : Nat)) (.int u) [some (.ref a), some (.ref o), some (.int (i : Nat)), some (.int u), some (.int 0), y5] (upd H3 T (.tup [.int (i : Nat), .int u])) :=
        ⟨0, y5, ps, rfl, sm.trans smT, smT _ _ hc3, smT _ _ ho3, hps⟩
      generalize upd H3 T (.tup [.int (i : Nat), .int u]) = H4 at hj ⊢
      -- the inner loop, whatever is left
      have inner : ∀ r : Int, StmJ H a o c ys (60 * i + 0) (.int (i : Nat)) (.int u) [some (.ref a), some (.ref o), some (.int (i : Nat)), some (.int u), some (.int r), y5] H4 := fun r => by
        obtain ⟨r', y5', ps', e, k⟩ := hj
        cases e
        exact ⟨r, _, ps', rfl, k⟩
      clear hj
      refine ⟨.int u, rfl, u, rfl, ?_⟩
      refine ⟨_, rfl, _, _, rfl, rfl, _, rfl, ?_⟩
      refine ite2 ?A ?B
      case' A =>
        intro e
        have e' := of_decide_eq_true e
        have e0 := abs_nn u
        simp only [tSeq, tAsg, gName, tOp, rI, rI0, rU, tUn, tVar, tC, tCB, tCons, tNil, tTest, tIfS, tRet, tRetN, tDrop, tNext, tBreak, tCont, rEq, rNe, CDiv, CDivN, CMul, tBM, tBM0, tTup, tLst, tAug, tIf, tAnd, tOr, tNot, tAndV, tOrV, tNotV, tIsN, tNotN, tB, scal, tCall, cxK, cxKn, rIxT, rIxL, rIn, rAppend, rReverse, tVals, tDSetd, tDGet, tDGet1, tDGet2, tDIn, tDNotIn, rSortV, rSortT, rPop, rSortL, rSortT, tSl, tNoPart, tPart, List.append_nil, L2.start, List.map_cons, List.map_nil, List.length_cons, List.length_nil, List.replicate_succ, List.replicate_zero, List.cons_append, List.nil_append, Nat.reduceAdd, Nat.reduceSub, exists_eq, exists_eq', List.getElem?_cons_zero, List.getElem?_cons_succ, List.set_cons_zero, List.set_cons_succ, Option.some.injEq, V.int.injEq, V.bl.injEq, V.str.injEq, V.ref.injEq, List.cons.injEq, and_true, true_and, and_false, false_and, reduceCtorEq, exists_false, or_false, false_or, exists_and_left, exists_and_right, exists_eq_left, exists_eq_left', exists_eq_right, exists_eq_right', exists_const, ite_true, ite_false, Bool.false_eq_true, if_true, if_false, decide_true, decide_false]
        refine ⟨.inl (by omega), .inl (by omega), by decide, .inl ?_, by decide, ?C⟩
        · have h1 := Int.emod_nonneg ((if u < 0 then -u else u) * (6364136223846793005 + 2 * (i : Int) + if decide (u < 0) = true then 1 else 0)) (show (1000000000000000003 : Int) ≠ 0 by decide)
          have h2 := Int.emod_lt_of_pos ((if u < 0 then -u else u) * (6364136223846793005 + 2 * (i : Int) + if decide (u < 0) = true then 1 else 0)) (show (0 : Int) < 1000000000000000003 by decide)
          omega
        generalize (if u < 0 then -u else u) * (6364136223846793005 + 2 * (i : Int) + if decide (u < 0) = true then 1 else 0) % 1000000000000000003 * ((if u < 0 then -u else u) * (6364136223846793005 + 2 * (i : Int) + if decide (u < 0) = true then 1 else 0) % 1000000000000000003 + 1442695040888963407) % 1000000000000000009 = r
      case' B =>
        intro e
        generalize (if u < 0 then -u else u) = r
      all_goals
        refine ⟨60, rfl, by decide, by decide, for_range (n := 60) (fun j σ H' => StmJ H a o c ys (60 * i + j) (.int (i : Nat)) (.int u) σ H') (inner r) ?_ (fun σ H' h => h.i (by omega))⟩
        rintro j σ H' hj ⟨r', y5', ps', rfl, sm', hc', ho', hps'⟩
        refine ⟨.ref o, rfl, .inl ⟨rfl, _, SqL.of ho'⟩, _, rfl, .inl ⟨_, rfl, ?_⟩⟩
        refine ⟨_, _, rfl, rfl, by show (0 : Int) < 100; decide, o, _, _, rfl, rfl, ho', by rw [List.length_map]; exact small4000 (by omega), ?_⟩
        have hj' : StmJ H a o c ys (60 * i + (j + 1)) (.int (i : Nat)) (.int u) [some (.ref a), some (.ref o), some (.int (i : Nat)), some (.int u), some (.int (r' / 100)), some (.int (0 + (j : Nat)))] (upd H' o (.lst (ps'.map V.int ++ [.int (r' % 100)]))) :=
          ⟨_, _, ps' ++ [r' % 100], rfl, fun b z e => by rw [upd_ne (ne_of_none e no)]; exact sm' _ _ e, by rw [upd_ne nco]; exact hc', by rw [upd_same, List.map_append]; rfl, by rw [List.length_append, List.length_singleton]; omega⟩
        simp only [tSeq, tAsg, gName, tOp, rI, rI0, rU, tUn, tVar, tC, tCB, tCons, tNil, tTest, tIfS, tRet, tRetN, tDrop, tNext, tBreak, tCont, rEq, rNe, CDiv, CDivN, CMul, tBM, tBM0, tTup, tLst, tAug, tIf, tAnd, tOr, tNot, tAndV, tOrV, tNotV, tIsN, tNotN, tB, scal, tCall, cxK, cxKn, rIxT, rIxL, rIn, rAppend, rReverse, tVals, tDSetd, tDGet, tDGet1, tDGet2, tDIn, tDNotIn, rSortV, rSortT, rPop, rSortL, rSortT, tSl, tNoPart, tPart, List.append_nil, L2.start, List.map_cons, List.map_nil, List.length_cons, List.length_nil, List.replicate_succ, List.replicate_zero, List.cons_append, List.nil_append, Nat.reduceAdd, Nat.reduceSub, exists_eq, exists_eq', List.getElem?_cons_zero, List.getElem?_cons_succ, List.set_cons_zero, List.set_cons_succ, Option.some.injEq, V.int.injEq, V.bl.injEq, V.str.injEq, V.ref.injEq, List.cons.injEq, and_true, true_and, and_false, false_and, reduceCtorEq, exists_false, or_false, false_or, exists_and_left, exists_and_right, exists_eq_left, exists_eq_left', exists_eq_right, exists_eq_right', exists_const, ite_true, ite_false, Bool.false_eq_true, if_true, if_false, decide_true, decide_false]
        refine ⟨by decide, ite2 (fun _ => hj'.i (by omega)) (fun _ => hj')⟩
    · rintro σ H3 ⟨y2, y3, y4, y5, ps, rfl, sm, hc3, ho3, hps⟩
      rw [List.length_map] at hps
      refine ⟨.ref o, rfl, .inl ⟨rfl, _, SqL.of ho3⟩, o, ps.map V.int, rfl, rfl, ho3, .ref o, rfl, ?_⟩
      refine q _ o (fun b z e => ?_) no ⟨ps.reverse, ?_, ?_⟩
      · rw [upd_ne (ne_of_none e no)]
        exact sm _ _ e
      · rw [upd_same, List.map_reverse]
      · rw [List.length_reverse]
        omega
end
end Mv

set_option Elab.async false
set_option linter.all false
set_option maxRecDepth 100000
set_option maxHeartbeats 4000000
namespace Mv
open PySem PySem.Spec PyProof.Rows L2
section
variable {P : Program} {w : World} {K : PySem.W.Frag} {mg : Str → Option Value} {base : Heap}
theorem scDraw : FnScope ["_law_stream_here", "_law_many"] ["_law_stream_here", "_law_many"] (defScope sDraw) := ⟨rfl, rfl, rfl, by decide +kernel, rfl, by decide +kernel, by decide +kernel⟩
def spDraw : Sp := fun vs H Q _ => ∃ (a : Addr) (m : Int), vs = [.ref a, .int m] ∧ 0 < m ∧ Strm H a ∧ ∀ (r : Int) (H' : Hp), 0 ≤ r → r < m → Sx a H H' → Strm H' a → Q (.int r) H'
theorem ok_draw {f : Addr} {fd : FuncData} (F : Fun K "_law_draw" "_law_draw" sDraw f fd) (B : Bi mg) : FnOk P w K mg base CX0 1 f fd ["_law_stream_here", "_law_many"] spDraw := by
  refine F.ok scDraw (fun vs H Q E h => ?_) (fun cdv A outer s H vs Q E hr h => ?_)
  · obtain ⟨a, m, rfl, _⟩ := h
    rfl
  · obtain ⟨a, m, rfl, hm, ⟨ns, ha, hl⟩, q⟩ := h
    refine ⟨_, (pss_cons (ps_if (pt_cmpR op_eq (pe_callB call_len_seq (by rfl) B.len PySem.boot_len (pa_cons (pv 0) pa_nil)) pe_int (nomark _))
 (pss_one (ps_ret pe_int)) pss_nil)
 (pss_one (ps_ret (pe_op op_modN (pe_callTy call_int1 (by rfl) B.int (by decide +kernel) (pa_cons (pe_bm0 PySem.F.plainAttrs_list PySem.F.slot_list_pop PySem.F.type_list_pop mt_pop (pv 0)) pa_nil)) (pv 1))))), ?_⟩
    refine ⟨.ref a, rfl, a, ns.map V.int, rfl, .inl (SqL.of ha), rfl, _, rfl, ite2 (fun e => ?_) (fun e => ?_)⟩
    · exact q 0 H (Int.le_refl 0) hm (Sx.refl a H) ⟨ns, ha, hl⟩
    · have hne : ns ≠ [] := fun z => by
        subst z
        exact e (decide_eq_true rfl)
      have hlast : (ns.map V.int)[(ns.map V.int).length - 1]? = some (.int (ns.getLast hne)) := by
        rw [List.length_map, List.getElem?_map]
        rw [← List.getLast?_eq_getElem?, List.getLast?_eq_getLast hne]
        rfl
      refine ⟨.ref a, rfl, .inl ⟨rfl, _, SqL.of ha⟩, a, ns.map V.int, _, rfl, rfl, ha, hlast, .inl ⟨_, rfl, ?_⟩⟩
      refine ⟨.int m, rfl, _, m, rfl, rfl, by omega, ?_⟩
      refine q _ _ (Int.fmod_nonneg_of_pos _ hm) (Int.fmod_lt_of_pos _ hm) Sx.upd ⟨ns.dropLast, ?_, ?_⟩
      · rw [upd_same, List.map_dropLast]
      · rw [List.length_dropLast]
        omega
/-- a draw from the stream: any number of the range may come -/
theorem spDraw_of {a : Addr} {m : Int} {H : Hp} {Q : VK} {E : XK} (hm : 0 < m) (hs : Strm H a) (q : ∀ (r : Int) (H' : Hp), 0 ≤ r → r < m → Sx a H H' → Strm H' a → Q (.int r) H') : spDraw [.ref a, .int m] H Q E := ⟨a, m, rfl, hm, hs, q⟩
theorem scWide : FnScope ["_law_stream_here", "_law_size", "_law_k"] ["_law_stream_here"] (defScope sWide) := ⟨rfl, rfl, rfl, by decide +kernel, rfl, by decide +kernel, by decide +kernel⟩
def spWide : Sp := fun vs H Q _ => ∃ (a : Addr), vs = [.ref a] ∧ Strm H a ∧ ∀ (r : Int) (H' : Hp), Sx a H H' → Strm H' a → Q (.int r) H'
theorem ok_wide {f : Addr} {fd : FuncData} (F : Fun K "_law_wide" "_law_wide" sWide f fd) (B : Bi mg) (cDraw : CalX CX0 P w K mg base 1 "_law_draw" spDraw) : FnOk P w K mg base CX0 2 f fd ["_law_stream_here"] spWide := by
  refine F.ok scWide (fun vs H Q E h => ?_) (fun cdv A outer s H vs Q E hr h => ?_)
  · obtain ⟨a, rfl, _⟩ := h
    rfl
  · obtain ⟨a, rfl, hs, q⟩ := h
    refine ⟨_, (pss_cons (ps_set (i := 1) scWide.nd rfl (.inl rfl) pe_int)
 (pss_cons (ps_for PassesOwn.never rfl (pi_range1 (by rfl) B.range (pa_cons pe_int pa_nil)) (pg_name (i := 2) scWide.nd rfl (.inl rfl))
 (pss_one (ps_set (i := 1) scWide.nd rfl (.inl rfl) (pe_op op_add (pe_op op_mul (pv 1) pe_int) (pe_cx cDraw hr (by decide) pass0 (by rfl) (pa_cons (pv 0) (pa_cons pe_int pa_nil)))))))
 (pss_cons (ps_if (pt_cmpR op_eq (pe_cx cDraw hr (by decide) pass0 (by rfl) (pa_cons (pv 0) (pa_cons pe_int pa_nil))) pe_int (nomark _))
 (pss_one (ps_ret (pe_un un_neg (pv 1)))) pss_nil)
 (pss_one (ps_ret (pv 1)))))), ?_⟩
    refine ⟨11, rfl, by decide, by decide, for_range (n := 11) (fun i σ H' => ∃ (z : Int) (y : Option V), σ = [some (.ref a), some (.int z), y] ∧ Sx a H H' ∧ Strm H' a) ⟨0, none, rfl, Sx.refl a H, hs⟩ ?_ ?_⟩
    · rintro i σ H1 hi ⟨z, y, rfl, x1, t1⟩
      simp only [tSeq, tAsg, gName, tOp, rI, rI0, rU, tUn, tVar, tC, tCB, tCons, tNil, tTest, tIfS, tRet, tRetN, tDrop, tNext, tBreak, tCont, rEq, rNe, CDiv, CDivN, CMul, tBM, tBM0, tTup, tLst, tAug, tIf, tAnd, tOr, tNot, tAndV, tOrV, tNotV, tIsN, tNotN, tB, scal, tCall, cxK, cxKn, rIxT, rIxL, rIn, rAppend, rReverse, tVals, tDSetd, tDGet, tDGet1, tDGet2, tDIn, tDNotIn, rSortV, rSortT, rPop, rSortL, rSortT, tSl, tNoPart, tPart, List.append_nil, L2.start, List.map_cons, List.map_nil, List.length_cons, List.length_nil, List.replicate_succ, List.replicate_zero, List.cons_append, List.nil_append, Nat.reduceAdd, Nat.reduceSub, exists_eq, exists_eq', List.getElem?_cons_zero, List.getElem?_cons_succ, List.set_cons_zero, List.set_cons_succ, Option.some.injEq, V.int.injEq, V.bl.injEq, V.str.injEq, V.ref.injEq, List.cons.injEq, and_true, true_and, and_false, false_and, reduceCtorEq, exists_false, or_false, false_or, exists_and_left, exists_and_right, exists_eq_left, exists_eq_left', exists_eq_right, exists_eq_right', exists_const, ite_true, ite_false, Bool.false_eq_true, if_true, if_false, decide_true, decide_false]
      refine ⟨.inr (by decide), spDraw_of (by decide) t1 fun r H2 _ _ x2 t2 => ?_⟩
      simp only [tSeq, tAsg, gName, tOp, rI, rI0, rU, tUn, tVar, tC, tCB, tCons, tNil, tTest, tIfS, tRet, tRetN, tDrop, tNext, tBreak, tCont, rEq, rNe, CDiv, CDivN, CMul, tBM, tBM0, tTup, tLst, tAug, tIf, tAnd, tOr, tNot, tAndV, tOrV, tNotV, tIsN, tNotN, tB, scal, tCall, cxK, cxKn, rIxT, rIxL, rIn, rAppend, rReverse, tVals, tDSetd, tDGet, tDGet1, tDGet2, tDIn, tDNotIn, rSortV, rSortT, rPop, rSortL, rSortT, tSl, tNoPart, tPart, List.append_nil, L2.start, List.map_cons, List.map_nil, List.length_cons, List.length_nil, List.replicate_succ, List.replicate_zero, List.cons_append, List.nil_append, Nat.reduceAdd, Nat.reduceSub, exists_eq, exists_eq', List.getElem?_cons_zero, List.getElem?_cons_succ, List.set_cons_zero, List.set_cons_succ, Option.some.injEq, V.int.injEq, V.bl.injEq, V.str.injEq, V.ref.injEq, List.cons.injEq, and_true, true_and, and_false, false_and, reduceCtorEq, exists_false, or_false, false_or, exists_and_left, exists_and_right, exists_eq_left, exists_eq_left', exists_eq_right, exists_eq_right', exists_const, ite_true, ite_false, Bool.false_eq_true, if_true, if_false, decide_true, decide_false]
      exact ⟨x1.trans x2, t2⟩
    · rintro σ H1 ⟨z, y, rfl, x1, t1⟩
      simp only [tSeq, tAsg, gName, tOp, rI, rI0, rU, tUn, tVar, tC, tCB, tCons, tNil, tTest, tIfS, tRet, tRetN, tDrop, tNext, tBreak, tCont, rEq, rNe, CDiv, CDivN, CMul, tBM, tBM0, tTup, tLst, tAug, tIf, tAnd, tOr, tNot, tAndV, tOrV, tNotV, tIsN, tNotN, tB, scal, tCall, cxK, cxKn, rIxT, rIxL, rIn, rAppend, rReverse, tVals, tDSetd, tDGet, tDGet1, tDGet2, tDIn, tDNotIn, rSortV, rSortT, rPop, rSortL, rSortT, tSl, tNoPart, tPart, List.append_nil, L2.start, List.map_cons, List.map_nil, List.length_cons, List.length_nil, List.replicate_succ, List.replicate_zero, List.cons_append, List.nil_append, Nat.reduceAdd, Nat.reduceSub, exists_eq, exists_eq', List.getElem?_cons_zero, List.getElem?_cons_succ, List.set_cons_zero, List.set_cons_succ, Option.some.injEq, V.int.injEq, V.bl.injEq, V.str.injEq, V.ref.injEq, List.cons.injEq, and_true, true_and, and_false, false_and, reduceCtorEq, exists_false, or_false, false_or, exists_and_left, exists_and_right, exists_eq_left, exists_eq_left', exists_eq_right, exists_eq_right', exists_const, ite_true, ite_false, Bool.false_eq_true, if_true, if_false, decide_true, decide_false]
      refine spDraw_of (by decide) t1 fun r H2 _ _ x2 t2 => ?_
      simp only [tSeq, tAsg, gName, tOp, rI, rI0, rU, tUn, tVar, tC, tCB, tCons, tNil, tTest, tIfS, tRet, tRetN, tDrop, tNext, tBreak, tCont, rEq, rNe, CDiv, CDivN, CMul, tBM, tBM0, tTup, tLst, tAug, tIf, tAnd, tOr, tNot, tAndV, tOrV, tNotV, tIsN, tNotN, tB, scal, tCall, cxK, cxKn, rIxT, rIxL, rIn, rAppend, rReverse, tVals, tDSetd, tDGet, tDGet1, tDGet2, tDIn, tDNotIn, rSortV, rSortT, rPop, rSortL, rSortT, tSl, tNoPart, tPart, List.append_nil, L2.start, List.map_cons, List.map_nil, List.length_cons, List.length_nil, List.replicate_succ, List.replicate_zero, List.cons_append, List.nil_append, Nat.reduceAdd, Nat.reduceSub, exists_eq, exists_eq', List.getElem?_cons_zero, List.getElem?_cons_succ, List.set_cons_zero, List.set_cons_succ, Option.some.injEq, V.int.injEq, V.bl.injEq, V.str.injEq, V.ref.injEq, List.cons.injEq, and_true, true_and, and_false, false_and, reduceCtorEq, exists_false, or_false, false_or, exists_and_left, exists_and_right, exists_eq_left, exists_eq_left', exists_eq_right, exists_eq_right', exists_const, ite_true, ite_false, Bool.false_eq_true, if_true, if_false, decide_true, decide_false]
      exact ite2 (fun _ => q _ _ (x1.trans x2) t2) (fun _ => q _ _ (x1.trans x2) t2)
theorem scValue : FnScope ["_law_stream_here", "_law_style"] ["_law_stream_here", "_law_style"] (defScope sValue) := ⟨rfl, rfl, rfl, by decide +kernel, rfl, by decide +kernel, by decide +kernel⟩
def spValue : Sp := fun vs H Q _ => ∃ (a : Addr) (z : Int), vs = [.ref a, .int z] ∧ Strm H a ∧ ∀ (r : Int) (H' : Hp), Sx a H H' → Strm H' a → Q (.int r) H'
theorem ok_value {f : Addr} {fd : FuncData} (F : Fun K "_law_value" "_law_value" sValue f fd) (B : Bi mg) (cDraw : CalX CX0 P w K mg base 1 "_law_draw" spDraw) (cWide : CalX CX0 P w K mg base 2 "_law_wide" spWide) : FnOk P w K mg base CX0 3 f fd ["_law_stream_here", "_law_style"] spValue := by
  refine F.ok scValue (fun vs H Q E h => ?_) (fun cdv A outer s H vs Q E hr h => ?_)
  · obtain ⟨a, z, rfl, _⟩ := h
    rfl
  · obtain ⟨a, z, rfl, hs, q⟩ := h
    refine ⟨_, (pss_cons (ps_if (pt_cmpR op_lt (pv 1) pe_int (nomark _))
 (pss_one (ps_ret (pe_cx cDraw hr (by decide) pass0 (by rfl) (pa_cons (pv 0) (pa_cons pe_int pa_nil))))) pss_nil)
 (pss_cons (ps_if (pt_cmpR op_eq (pv 1) pe_int (nomark _))
 (pss_one (ps_ret (pe_cx cDraw hr (by decide) pass0 (by rfl) (pa_cons (pv 0) (pa_cons pe_int pa_nil))))) pss_nil)
 (pss_cons (ps_if (pt_cmpR op_eq (pv 1) pe_int (nomark _))
 (pss_one (ps_ret (pe_op op_sub (pe_cx cDraw hr (by decide) pass0 (by rfl) (pa_cons (pv 0) (pa_cons pe_int pa_nil))) (pe_cx cDraw hr (by decide) pass0 (by rfl) (pa_cons (pv 0) (pa_cons pe_int pa_nil)))))) pss_nil)
 (pss_cons (ps_if (pt_cmpR op_eq (pv 1) pe_int (nomark _))
 (pss_one (ps_ret (pe_op op_mul (pe_op op_sub (pe_cx cDraw hr (by decide) pass0 (by rfl) (pa_cons (pv 0) (pa_cons pe_int pa_nil))) (pe_cx cDraw hr (by decide) pass0 (by rfl) (pa_cons (pv 0) (pa_cons pe_int pa_nil)))) pe_int))) pss_nil)
 (pss_one (ps_ret (pe_cx cWide hr (by decide) pass0 (by rfl) (pa_cons (pv 0) pa_nil)))))))), ?_⟩
    simp only [tSeq, tAsg, gName, tOp, rI, rI0, rU, tUn, tVar, tC, tCB, tCons, tNil, tTest, tIfS, tRet, tRetN, tDrop, tNext, tBreak, tCont, rEq, rNe, CDiv, CDivN, CMul, tBM, tBM0, tTup, tLst, tAug, tIf, tAnd, tOr, tNot, tAndV, tOrV, tNotV, tIsN, tNotN, tB, scal, tCall, cxK, cxKn, rIxT, rIxL, rIn, rAppend, rReverse, tVals, tDSetd, tDGet, tDGet1, tDGet2, tDIn, tDNotIn, rSortV, rSortT, rPop, rSortL, rSortT, tSl, tNoPart, tPart, List.append_nil, L2.start, List.map_cons, List.map_nil, List.length_cons, List.length_nil, List.replicate_succ, List.replicate_zero, List.cons_append, List.nil_append, Nat.reduceAdd, Nat.reduceSub, exists_eq, exists_eq', List.getElem?_cons_zero, List.getElem?_cons_succ, List.set_cons_zero, List.set_cons_succ, Option.some.injEq, V.int.injEq, V.bl.injEq, V.str.injEq, V.ref.injEq, List.cons.injEq, and_true, true_and, and_false, false_and, reduceCtorEq, exists_false, or_false, false_or, exists_and_left, exists_and_right, exists_eq_left, exists_eq_left', exists_eq_right, exists_eq_right', exists_const, ite_true, ite_false, Bool.false_eq_true, if_true, if_false, decide_true, decide_false]
    refine ite2 (fun _ => spDraw_of (by decide) hs fun r H1 _ _ x1 t1 => q _ _ x1 t1) fun _ => ?_
    refine ite2 (fun _ => spDraw_of (by decide) hs fun r H1 _ _ x1 t1 => q _ _ x1 t1) fun _ => ?_
    refine ite2 (fun _ => spDraw_of (by decide) hs fun r H1 _ _ x1 t1 => spDraw_of (by decide) t1 fun r2 H2 _ _ x2 t2 => ?_) fun _ => ?_
    · simp only [tSeq, tAsg, gName, tOp, rI, rI0, rU, tUn, tVar, tC, tCB, tCons, tNil, tTest, tIfS, tRet, tRetN, tDrop, tNext, tBreak, tCont, rEq, rNe, CDiv, CDivN, CMul, tBM, tBM0, tTup, tLst, tAug, tIf, tAnd, tOr, tNot, tAndV, tOrV, tNotV, tIsN, tNotN, tB, scal, tCall, cxK, cxKn, rIxT, rIxL, rIn, rAppend, rReverse, tVals, tDSetd, tDGet, tDGet1, tDGet2, tDIn, tDNotIn, rSortV, rSortT, rPop, rSortL, rSortT, tSl, tNoPart, tPart, List.append_nil, L2.start, List.map_cons, List.map_nil, List.length_cons, List.length_nil, List.replicate_succ, List.replicate_zero, List.cons_append, List.nil_append, Nat.reduceAdd, Nat.reduceSub, exists_eq, exists_eq', List.getElem?_cons_zero, List.getElem?_cons_succ, List.set_cons_zero, List.set_cons_succ, Option.some.injEq, V.int.injEq, V.bl.injEq, V.str.injEq, V.ref.injEq, List.cons.injEq, and_true, true_and, and_false, false_and, reduceCtorEq, exists_false, or_false, false_or, exists_and_left, exists_and_right, exists_eq_left, exists_eq_left', exists_eq_right, exists_eq_right', exists_const, ite_true, ite_false, Bool.false_eq_true, if_true, if_false, decide_true, decide_false]
      exact q _ _ (x1.trans x2) t2
    refine ite2 (fun _ => spDraw_of (by decide) hs fun r H1 h1 h2 x1 t1 => spDraw_of (by decide) t1 fun r2 H2 h3 h4 x2 t2 => ?_) fun _ => ?_
    · simp only [tSeq, tAsg, gName, tOp, rI, rI0, rU, tUn, tVar, tC, tCB, tCons, tNil, tTest, tIfS, tRet, tRetN, tDrop, tNext, tBreak, tCont, rEq, rNe, CDiv, CDivN, CMul, tBM, tBM0, tTup, tLst, tAug, tIf, tAnd, tOr, tNot, tAndV, tOrV, tNotV, tIsN, tNotN, tB, scal, tCall, cxK, cxKn, rIxT, rIxL, rIn, rAppend, rReverse, tVals, tDSetd, tDGet, tDGet1, tDGet2, tDIn, tDNotIn, rSortV, rSortT, rPop, rSortL, rSortT, tSl, tNoPart, tPart, List.append_nil, L2.start, List.map_cons, List.map_nil, List.length_cons, List.length_nil, List.replicate_succ, List.replicate_zero, List.cons_append, List.nil_append, Nat.reduceAdd, Nat.reduceSub, exists_eq, exists_eq', List.getElem?_cons_zero, List.getElem?_cons_succ, List.set_cons_zero, List.set_cons_succ, Option.some.injEq, V.int.injEq, V.bl.injEq, V.str.injEq, V.ref.injEq, List.cons.injEq, and_true, true_and, and_false, false_and, reduceCtorEq, exists_false, or_false, false_or, exists_and_left, exists_and_right, exists_eq_left, exists_eq_left', exists_eq_right, exists_eq_right', exists_const, ite_true, ite_false, Bool.false_eq_true, if_true, if_false, decide_true, decide_false]
      exact ⟨.inl (by omega), q _ _ (x1.trans x2) t2⟩
    · exact ⟨a, rfl, hs, q⟩
end
end Mv

set_option Elab.async false
set_option linter.all false
set_option maxRecDepth 100000
set_option maxHeartbeats 4000000
namespace Mv
open PySem PySem.Spec PyProof.Rows L2
section
variable {P : Program} {w : World} {K : PySem.W.Frag} {mg : Str → Option Value} {base : Heap}
def kdV (k : Kd) : V := .str k.nm
end
end Mv

set_option Elab.async false
set_option linter.all false
set_option maxRecDepth 100000
set_option maxHeartbeats 4000000
namespace Mv
open PySem PySem.Spec PyProof.Rows L2
theorem small1000' {n : Nat} (h : n ≤ 1000) : n ≤ sizeLine := Nat.le_of_lt (small1000 h)
theorem eqV_int (a b : Int) : eqV (.int a) (.int b) = decide (a = b) := by first | rfl | simp [eqV]
theorem inV_int (x : Int) (ns : List Int) : inV (.int x) (ns.map V.int) = decide (x ∈ ns) := by
  induction ns with
  | nil => rfl
  | cons n ns ih =>
    show (eqV (.int n) (.int x) || inV (.int x) (ns.map V.int)) = _
    rw [ih, eqV_int]
    by_cases h : n = x
    · subst h
      simp
    · simp [h, Ne.symm h]
/-- a thing that is no kind's name, as the law draws them -/
inductive BadV (H : Hp) : V → Prop where
  | str (z : Str) (h : ∀ k : Kd, ¬ z = k.nm) (hl : z.length ≤ 100) (hc : ∀ c ∈ z.cps.toList, c < 0x110000) : BadV H (.str z)
  | non : BadV H .non
  | int (i : Int) (h : i = 0 ∨ i = -1 ∨ i = -2 ∨ i = -3) : BadV H (.int i)
  | tup (T : Addr) (h : H T = some (.tup [.str "list"])) : BadV H (.ref T)
/-- a def whose code object is known -/
structure FunC (K : PySem.W.Frag) (x qual : Str) (st : Stmt) (f : Addr) (fd : FuncData) (c : Addr) : Prop where
  ex : ∃ (oc : Value) (od : Option Addr) (kV doc pm : Value) (an : Option Addr) (ct : Value) (osl : Array (Option Value)),
    fd = PySem.W.fnOf x qual (defArgs st) (defBody st) (defScope st) .none kV doc pm an (.ref c) ct ∧ K.lookup f = some ⟨oc, od, .func fd, osl⟩ ∧ PySem.W.codeIn K (.ref c) qual = true
theorem FunC.ok {P : Program} {w : World} {K : PySem.W.Frag} {mg : Str → Option Value} {base : Heap} {x qual : Str} {st : Stmt} {f c : Addr} {fd : FuncData} {N ps : List Str} {k : Nat} {sp : Sp} (F : FunC K x qual st f fd c) (S : FnScope N ps (defScope st)) (len : ∀ vs H Q E, sp vs H Q E → vs.length = ps.length)
    (hbody : ∀ (A : Around) (outer : List Env) (s : Shared) (H : Hp) (vs : List V) (Q : VK) (E : XK), Room k (A.deeper (envOfC qual (defScope st) s.heap.objs.size f (.ref c))) → sp vs H Q E →
      ∃ t, PSs (cxOf CX0 P w K mg base N qual (defScope st) f (.ref c) A outer s H E).nox (defBody st) t ∧ t { nx := fun _ H' => Q .non H', rt := Q } (L2.start N vs) H) : FnOk P w K mg base CX0 (k + 1) f fd ps sp := by
  obtain ⟨oc, od, kV, doc, pm, an, ct, osl, rfl, lk, hcd⟩ := F.ex
  refine fn_of lk hcd S len fun A outer s H vs Q E hr hsp => ?_
  obtain ⟨t, h, q⟩ := hbody A outer s H vs Q E hr hsp
  exact ⟨t, h.nox, q⟩
/-- a word: a tuple or a list of ints -/
def WordS (K : PySem.W.Frag) (H : Hp) (p : Addr) (xs : List Int) : Prop := SqT K H p (xs.map V.int) ∨ SqL K H p (xs.map V.int)
theorem WordS.ext {K : PySem.W.Frag} {H H1 : Hp} {p : Addr} {xs : List Int} (h : WordS K H p xs) (e : LamX.ExtN H H1) : WordS K H1 p xs := sq_extN e h
theorem WordS.same {K : PySem.W.Frag} {H H1 : Hp} {p : Addr} {xs : List Int} (h : WordS K H p xs) (e : Same H H1) : WordS K H1 p xs := h.ext (LamX.ExtN.of e)
theorem ext_upd {H : Hp} {p : Addr} {o : HO} (h : H p = none) : LamX.ExtN H (upd H p o) := LamX.ExtN.of (same_upd h)
theorem tabs_upd {T : List (Addr × Str)} {H : Hp} {p : Addr} {o : HO} (t : LamX.Tabs T H) (h : H p = none) : LamX.Tabs T (upd H p o) := t.ext (same_upd h)
/-- what may make the lambda: all is kept but the tables, which stay tables -/
def Gw (T : List (Addr × Str)) (H H' : Hp) : Prop := LamX.ExtN H H' ∧ LamX.Tabs T H'
theorem Gw.refl {T : List (Addr × Str)} {H : Hp} (t : LamX.Tabs T H) : Gw T H H := ⟨LamX.ExtN.refl H, t⟩
theorem Gw.trans {T : List (Addr × Str)} {H H1 H2 : Hp} (a : Gw T H H1) (b : Gw T H1 H2) : Gw T H H2 := ⟨a.1.trans b.1, b.2⟩
theorem Gw.of {T : List (Addr × Str)} {H H1 : Hp} (t : LamX.Tabs T H) (s : Same H H1) : Gw T H H1 := ⟨LamX.ExtN.of s, t.ext s⟩
theorem Gw.upd {T : List (Addr × Str)} {H H1 : Hp} {p : Addr} {o : HO} (a : Gw T H H1) (h : H1 p = none) : Gw T H (L2.upd H1 p o) := ⟨a.1.trans (ext_upd h), tabs_upd a.2 h⟩
/-- a place that was free, or a table's -/
def Nw (H : Hp) (l : Addr) : Prop := ∀ o, H l = some o → ∃ ps, o = .tbl ps
theorem Gw.nw {T : List (Addr × Str)} {H H1 : Hp} {p : Addr} (a : Gw T H H1) (h : H1 p = none) : Nw H p := fun o e => by
  by_cases hn : ∃ ps, o = HO.tbl ps
  · exact hn
  · have := a.1 _ _ e fun ps z => hn ⟨ps, z⟩
    rw [h] at this
    cases this
abbrev sKeepO : Stmt := inClass (topS 7) 6
abbrev sPlainM : Stmt := inClass (topS 7) 7
abbrev sKeepB : Stmt := inClass (topS 8) 6
abbrev sKeepS : Stmt := inClass (topS 9) 6
abbrev sKeepH : Stmt := inClass (topS 10) 6
abbrev sKeepF : Stmt := inClass (topS 11) 6
abbrev sKeepT : Stmt := inClass (topS 12) 6
abbrev sKeepL : Stmt := inClass (topS 13) 6
abbrev sKeepE : Stmt := inClass (topS 14) 6
abbrev sLeast : Stmt := topS 15
abbrev sGreat : Stmt := topS 16
def ixV (is : List Nat) : List V := is.map fun i : Nat => V.int (i : Int)
theorem ixV_int (is : List Nat) : ixV is = (is.map fun i : Nat => (i : Int)).map V.int := by
  unfold ixV
  rw [List.map_map]
  rfl
def spKeep (K : PySem.W.Frag) (T : List (Addr × Str)) (k : Kd) : Sp := fun vs H Q _ => ∃ (x : V) (p : Addr) (xs : List Int), vs = [x, .ref p] ∧ WordS K H p xs ∧ xs.length ≤ 60 ∧ LamX.Tabs T H ∧ ∀ (H' : Hp) (l : Addr), Gw T H H' → Nw H l → H' l = some (.lst (ixV (keepIx k xs))) → Q (.ref l) H'
def spLeast (K : PySem.W.Frag) : Sp := fun vs H Q _ => ∃ (p : Addr) (xs : List Int), vs = [.ref p] ∧ WordS K H p xs ∧ xs.length ≤ 60 ∧ ∀ (H' : Hp) (d : Addr), Same H H' → H' d = some (.dK (leastD xs xs.length)) → Q (.ref d) H'
def spGreat (K : PySem.W.Frag) : Sp := fun vs H Q _ => ∃ (p : Addr) (xs : List Int), vs = [.ref p] ∧ WordS K H p xs ∧ xs.length ≤ 60 ∧ ∀ (H' : Hp) (d : Addr), Same H H' → H' d = some (.dK (greatD xs xs.length)) → Q (.ref d) H'
theorem rg_ix (n : Nat) : rgV 0 (n : Int) = ixV (List.range n) := by
  unfold rgV ixV
  rw [Int.sub_zero, Int.toNat_natCast]
  exact List.map_congr_left fun i _ => by rw [Int.zero_add]
/-- the two walks of a word -/
def YWord (xs : List Int) : Nat → Hp → V → Hp → Prop := YPair (fun i => some (.int (i : Nat))) (fun i => (xs.map V.int)[i]?)
section
variable {P : Program} {w : World} {K : PySem.W.Frag} {mg : Str → Option Value} {base : Heap} {T : List (Addr × Str)}
theorem scKO : FnScope ["self", "word"] ["self", "word"] (defScope sKeepO) := ⟨rfl, rfl, rfl, by decide +kernel, rfl, by decide +kernel, by decide +kernel⟩
theorem ok_keepO {f : Addr} {fd : FuncData} (F : Fun K "keep" "Kind.keep" sKeepO f fd) (B : Bi mg) : FnOk P w K mg base CX0 2 f fd ["self", "word"] (spKeep K T .list) := by
  refine F.ok scKO (fun vs H Q E h => ?_) (fun cdv A outer s H vs Q E hr h => ?_)
  · obtain ⟨x, p, xs, rfl, _⟩ := h
    rfl
  · obtain ⟨x, p, xs, rfl, hw, hl, ht, q⟩ := h
    refine ⟨_, pss_one (ps_ret (pe_listRg rfl (by rfl) B.list (prg_1 (by rfl) B.range (pe_callB call_len_seq (by rfl) B.len PySem.boot_len (pa_cons (pv 1) pa_nil))))), ?_⟩
    refine ⟨_, rfl, p, xs.map V.int, rfl, hw.symm, (xs.length : Int), by rw [List.length_map], .of_le (by omega) (by omega) (by omega) (by omega), fun l hl => ?_⟩
    rw [rg_ix]
    exact q _ l (Gw.upd (.refl ht) hl) (Gw.nw (.refl ht) hl) upd_same
theorem scKF : FnScope ["self", "word"] ["self", "word"] (defScope sKeepF) := ⟨rfl, rfl, rfl, by decide +kernel, rfl, by decide +kernel, by decide +kernel⟩
theorem ok_keepF {f : Addr} {fd : FuncData} (F : Fun K "keep" "FirstKind.keep" sKeepF f fd) (B : Bi mg) : FnOk P w K mg base CX0 2 f fd ["self", "word"] (spKeep K T .first) := by
  refine F.ok scKF (fun vs H Q E h => ?_) (fun cdv A outer s H vs Q E hr h => ?_)
  · obtain ⟨x, p, xs, rfl, _⟩ := h
    rfl
  · obtain ⟨x, p, xs, rfl, hw, hl, ht, q⟩ := h
    refine ⟨_, (pss_one (ps_ret (pe_ifExp (pt_cmpR op_gt (pe_callB call_len_seq (by rfl) B.len PySem.boot_len (pa_cons (pv 1) pa_nil)) pe_int (nomark _)) (pe_lst (pa_cons pe_int pa_nil)) (pe_lst pa_nil)))), ?_⟩
    simp only [tSeq, tAsg, gName, tOp, rI, rI0, rU, tUn, tVar, tC, tCB, tCons, tNil, tTest, tIfS, tRet, tRetN, tDrop, tNext, tBreak, tCont, rEq, rNe, CDiv, CDivN, CMul, tBM, tBM0, tTup, tLst, tAug, tIf, tAnd, tOr, tNot, tAndV, tOrV, tNotV, tIsN, tNotN, tB, scal, tCall, cxK, cxKn, rIxT, rIxL, rIn, rAppend, rReverse, tVals, tDSetd, tDGet, tDGet1, tDGet2, tDIn, tDNotIn, rSortV, rSortT, rPop, rSortL, rSortT, tSl, tNoPart, tPart, List.append_nil, L2.start, List.map_cons, List.map_nil, List.length_cons, List.length_nil, List.replicate_succ, List.replicate_zero, List.cons_append, List.nil_append, Nat.reduceAdd, Nat.reduceSub, exists_eq, exists_eq', List.getElem?_cons_zero, List.getElem?_cons_succ, List.set_cons_zero, List.set_cons_succ, Option.some.injEq, V.int.injEq, V.bl.injEq, V.str.injEq, V.ref.injEq, List.cons.injEq, and_true, true_and, and_false, false_and, reduceCtorEq, exists_false, or_false, false_or, exists_and_left, exists_and_right, exists_eq_left, exists_eq_left', exists_eq_right, exists_eq_right', exists_const, ite_true, ite_false, Bool.false_eq_true, if_true, if_false, decide_true, decide_false]
    refine ⟨xs.map V.int, hw.symm, ite2 (fun e => ?_) (fun e => ?_)⟩
    · have e1 := of_decide_eq_true e
      rw [List.length_map] at e1
      have e2 : ¬ xs.length = 0 := by omega
      refine ⟨by decide, fun l hl => q _ l (Gw.upd (.refl ht) hl) (Gw.nw (.refl ht) hl) ?_⟩
      rw [show keepIx .first xs = [0] from if_neg e2]
      exact upd_same
    · have e2 : xs.length = 0 := by
        refine Decidable.byContradiction fun z => e (decide_eq_true ?_)
        rw [List.length_map]
        omega
      refine ⟨Nat.zero_le _, fun l hl => q _ l (Gw.upd (.refl ht) hl) (Gw.nw (.refl ht) hl) ?_⟩
      rw [show keepIx .first xs = [] from if_pos e2]
      exact upd_same
theorem scKL : FnScope ["self", "word"] ["self", "word"] (defScope sKeepL) := ⟨rfl, rfl, rfl, by decide +kernel, rfl, by decide +kernel, by decide +kernel⟩
theorem ok_keepL {f : Addr} {fd : FuncData} (F : Fun K "keep" "LastKind.keep" sKeepL f fd) (B : Bi mg) : FnOk P w K mg base CX0 2 f fd ["self", "word"] (spKeep K T .last) := by
  refine F.ok scKL (fun vs H Q E h => ?_) (fun cdv A outer s H vs Q E hr h => ?_)
  · obtain ⟨x, p, xs, rfl, _⟩ := h
    rfl
  · obtain ⟨x, p, xs, rfl, hw, hl, ht, q⟩ := h
    refine ⟨_, (pss_one (ps_ret (pe_ifExp (pt_cmpR op_gt (pe_callB call_len_seq (by rfl) B.len PySem.boot_len (pa_cons (pv 1) pa_nil)) pe_int (nomark _)) (pe_lst (pa_cons (pe_op op_sub (pe_callB call_len_seq (by rfl) B.len PySem.boot_len (pa_cons (pv 1) pa_nil)) pe_int) pa_nil)) (pe_lst pa_nil)))), ?_⟩
    simp only [tSeq, tAsg, gName, tOp, rI, rI0, rU, tUn, tVar, tC, tCB, tCons, tNil, tTest, tIfS, tRet, tRetN, tDrop, tNext, tBreak, tCont, rEq, rNe, CDiv, CDivN, CMul, tBM, tBM0, tTup, tLst, tAug, tIf, tAnd, tOr, tNot, tAndV, tOrV, tNotV, tIsN, tNotN, tB, scal, tCall, cxK, cxKn, rIxT, rIxL, rIn, rAppend, rReverse, tVals, tDSetd, tDGet, tDGet1, tDGet2, tDIn, tDNotIn, rSortV, rSortT, rPop, rSortL, rSortT, tSl, tNoPart, tPart, List.append_nil, L2.start, List.map_cons, List.map_nil, List.length_cons, List.length_nil, List.replicate_succ, List.replicate_zero, List.cons_append, List.nil_append, Nat.reduceAdd, Nat.reduceSub, exists_eq, exists_eq', List.getElem?_cons_zero, List.getElem?_cons_succ, List.set_cons_zero, List.set_cons_succ, Option.some.injEq, V.int.injEq, V.bl.injEq, V.str.injEq, V.ref.injEq, List.cons.injEq, and_true, true_and, and_false, false_and, reduceCtorEq, exists_false, or_false, false_or, exists_and_left, exists_and_right, exists_eq_left, exists_eq_left', exists_eq_right, exists_eq_right', exists_const, ite_true, ite_false, Bool.false_eq_true, if_true, if_false, decide_true, decide_false]
    refine ⟨xs.map V.int, hw.symm, ite2 (fun e => ?_) (fun e => ?_)⟩
    · have e1 := of_decide_eq_true e
      rw [List.length_map] at e1
      have e2 : ¬ xs.length = 0 := by omega
      refine ⟨xs.map V.int, hw.symm, by decide, fun l hl => q _ l (Gw.upd (.refl ht) hl) (Gw.nw (.refl ht) hl) ?_⟩
      rw [show keepIx .last xs = [xs.length - 1] from if_neg e2, upd_same]
      show _ = some (HO.lst [V.int ((xs.length - 1 : Nat) : Int)])
      rw [List.length_map, show ((xs.length - 1 : Nat) : Int) = (xs.length : Int) - 1 from by omega]
    · have e2 : xs.length = 0 := by
        refine Decidable.byContradiction fun z => e (decide_eq_true ?_)
        rw [List.length_map]
        omega
      refine ⟨Nat.zero_le _, fun l hl => q _ l (Gw.upd (.refl ht) hl) (Gw.nw (.refl ht) hl) ?_⟩
      rw [show keepIx .last xs = [] from if_pos e2]
      exact upd_same
theorem scKE : FnScope ["self", "word"] ["self", "word"] (defScope sKeepE) := ⟨rfl, rfl, rfl, by decide +kernel, rfl, by decide +kernel, by decide +kernel⟩
theorem ok_keepE {f : Addr} {fd : FuncData} (F : Fun K "keep" "EndsKind.keep" sKeepE f fd) (B : Bi mg) : FnOk P w K mg base CX0 2 f fd ["self", "word"] (spKeep K T .ends) := by
  refine F.ok scKE (fun vs H Q E h => ?_) (fun cdv A outer s H vs Q E hr h => ?_)
  · obtain ⟨x, p, xs, rfl, _⟩ := h
    rfl
  · obtain ⟨x, p, xs, rfl, hw, hl, ht, q⟩ := h
    refine ⟨_, (pss_one (ps_ret (pe_ifExp (pt_cmpR op_gt (pe_callB call_len_seq (by rfl) B.len PySem.boot_len (pa_cons (pv 1) pa_nil)) pe_int (nomark _)) (pe_lst (pa_cons pe_int (pa_cons (pe_op op_sub (pe_callB call_len_seq (by rfl) B.len PySem.boot_len (pa_cons (pv 1) pa_nil)) pe_int) pa_nil))) (pe_lst pa_nil)))), ?_⟩
    simp only [tSeq, tAsg, gName, tOp, rI, rI0, rU, tUn, tVar, tC, tCB, tCons, tNil, tTest, tIfS, tRet, tRetN, tDrop, tNext, tBreak, tCont, rEq, rNe, CDiv, CDivN, CMul, tBM, tBM0, tTup, tLst, tAug, tIf, tAnd, tOr, tNot, tAndV, tOrV, tNotV, tIsN, tNotN, tB, scal, tCall, cxK, cxKn, rIxT, rIxL, rIn, rAppend, rReverse, tVals, tDSetd, tDGet, tDGet1, tDGet2, tDIn, tDNotIn, rSortV, rSortT, rPop, rSortL, rSortT, tSl, tNoPart, tPart, List.append_nil, L2.start, List.map_cons, List.map_nil, List.length_cons, List.length_nil, List.replicate_succ, List.replicate_zero, List.cons_append, List.nil_append, Nat.reduceAdd, Nat.reduceSub, exists_eq, exists_eq', List.getElem?_cons_zero, List.getElem?_cons_succ, List.set_cons_zero, List.set_cons_succ, Option.some.injEq, V.int.injEq, V.bl.injEq, V.str.injEq, V.ref.injEq, List.cons.injEq, and_true, true_and, and_false, false_and, reduceCtorEq, exists_false, or_false, false_or, exists_and_left, exists_and_right, exists_eq_left, exists_eq_left', exists_eq_right, exists_eq_right', exists_const, ite_true, ite_false, Bool.false_eq_true, if_true, if_false, decide_true, decide_false]
    refine ⟨xs.map V.int, hw.symm, ite2 (fun e => ?_) (fun e => ?_)⟩
    · have e1 := of_decide_eq_true e
      rw [List.length_map] at e1
      have e2 : ¬ xs.length = 0 := by omega
      refine ⟨xs.map V.int, hw.symm, by decide, fun l hl => q _ l (Gw.upd (.refl ht) hl) (Gw.nw (.refl ht) hl) ?_⟩
      rw [show keepIx .ends xs = [0, xs.length - 1] from if_neg e2, upd_same]
      show _ = some (HO.lst [V.int 0, V.int ((xs.length - 1 : Nat) : Int)])
      rw [List.length_map, show ((xs.length - 1 : Nat) : Int) = (xs.length : Int) - 1 from by omega]
    · have e2 : xs.length = 0 := by
        refine Decidable.byContradiction fun z => e (decide_eq_true ?_)
        rw [List.length_map]
        omega
      refine ⟨Nat.zero_le _, fun l hl => q _ l (Gw.upd (.refl ht) hl) (Gw.nw (.refl ht) hl) ?_⟩
      rw [show keepIx .ends xs = [] from if_pos e2]
      exact upd_same
theorem scKB : FnScope ["self", "word"] ["self", "word"] (defScope sKeepB) := ⟨rfl, rfl, rfl, by decide +kernel, rfl, by decide +kernel, by decide +kernel⟩
def lamQ : Str := ("BagKind.keep" : Str) ++ ".<locals>." ++ "<lambda>"
theorem ok_keepB {f c Pt : Addr} {fd : FuncData} (F : FunC K "keep" "BagKind.keep" sKeepB f fd c) (B : Bi mg) (TB : LamX.TabB base mg c Pt) : FnOk P w K mg base CX0 2 f fd ["self", "word"] (spKeep K [(Pt, lamQ)] .bag) := by
  refine F.ok scKB (fun vs H Q E h => ?_) (fun A outer s H vs Q E hr h => ?_)
  · obtain ⟨x, p, xs, rfl, _⟩ := h
    rfl
  · obtain ⟨x, p, xs, rfl, hw, hl, ht, q⟩ := h
    refine ⟨_, pss_one (ps_ret (pe_sortAt (T := [(Pt, lamQ)]) (i := 1) rfl hr (by rfl) B.sorted (by rfl) B.range (pe_callB call_len_seq (by rfl) B.len PySem.boot_len (pa_cons (pv 1) pa_nil)) TB rfl (List.mem_singleton.mpr rfl) (fun p hp _ => by rw [List.mem_singleton.mp hp]; rfl) rfl (by rfl) rfl (by rfl) rfl rfl rfl (fun _ _ _ _ _ _ => rfl))), ?_⟩
    refine ⟨_, rfl, p, xs.map V.int, rfl, hw.symm, p, xs, rfl, by rw [List.length_map], hw, by omega, ht, fun H2 l e2 t2 hl2 => ?_⟩
    exact q _ l (Gw.upd ⟨e2, t2⟩ hl2) (Gw.nw ⟨e2, t2⟩ hl2) upd_same
end
end Mv

set_option Elab.async false
set_option linter.all false
set_option maxRecDepth 100000
set_option maxHeartbeats 4000000
namespace Mv
open PySem PySem.Spec PyProof.Rows L2
section
variable {P : Program} {w : World} {K : PySem.W.Frag} {mg : Str → Option Value} {base : Heap} {T : List (Addr × Str)}
/-- what least_places does between two turns -/
def LpI (H : Hp) (p o : Addr) (xs : List Int) (i : Nat) (σ : L2.St) (H' : Hp) : Prop := ∃ y2 y3, σ = [some (.ref p), some (.ref o), y2, y3] ∧ Same H H' ∧ H' o = some (.dK (leastD xs i))
theorem scLe : FnScope ["word", "places", "at", "value"] ["word"] (defScope sLeast) := ⟨rfl, rfl, rfl, by decide +kernel, rfl, by decide +kernel, by decide +kernel⟩
theorem ok_least {f : Addr} {fd : FuncData} (F : Fun K "least_places" "least_places" sLeast f fd) (B : Bi mg) : FnOk P w K mg base CX0 1 f fd ["word"] (spLeast K) := by
  refine F.ok scLe (fun vs H Q E h => ?_) (fun cdv A outer s H vs Q E hr h => ?_)
  · obtain ⟨p, xs, rfl, _⟩ := h
    rfl
  · obtain ⟨p, xs, rfl, hw, hl, q⟩ := h
    rcases hw with hw | hw
    case' inl => refine ⟨_, (pss_cons (ps_set (i := 1) scLe.nd rfl (.inl rfl) pe_dnewK)
 (pss_cons (ps_for PassesOwn.never rfl (pi_enumT (by rfl) B.enumerate (pa_cons (pv 0) pa_nil)) (pg_tup rfl (pgs_cons (pg_name (i := 2) scLe.nd rfl (.inl rfl)) (pgs_cons (pg_name (i := 3) scLe.nd rfl (.inl rfl)) pgs_nil)))
 (pss_one (ps_expr (pe_dsetd (pv 1) (pv 3) (pv 2) ⟨by rfl, by rfl, by rfl, by rfl⟩))))
 (pss_one (ps_ret (pv 1))))), ?_⟩
    case' inr => refine ⟨_, (pss_cons (ps_set (i := 1) scLe.nd rfl (.inl rfl) pe_dnewK)
 (pss_cons (ps_for PassesOwn.never rfl (pi_enum (by rfl) B.enumerate (pa_cons (pv 0) pa_nil)) (pg_tup rfl (pgs_cons (pg_name (i := 2) scLe.nd rfl (.inl rfl)) (pgs_cons (pg_name (i := 3) scLe.nd rfl (.inl rfl)) pgs_nil)))
 (pss_one (ps_expr (pe_dsetd (pv 1) (pv 3) (pv 2) ⟨by rfl, by rfl, by rfl, by rfl⟩))))
 (pss_one (ps_ret (pv 1))))), ?_⟩
    all_goals
      refine fun o no => ?_
      have so := same_upd (o := .dK []) no
    case' inl =>
      have hw1 := Same.tup so hw
      refine ⟨.ref p, rfl, p, _, rfl, hw1, ?_⟩
      refine for_it walk_enumT (fun i σ H' => LpI H p o xs i σ H') ⟨none, none, rfl, so, upd_same⟩ (fun i σ H' _ ⟨_, _, _, s3, _⟩ => Same.tup s3 hw) ?_ ?_
    case' inr =>
      have hw1 := so.seq hw
      refine ⟨.ref p, rfl, p, _, rfl, hw1, ?_⟩
      refine for_it walk_enum (fun i σ H' => LpI H p o xs i σ H') ⟨none, none, rfl, so, upd_same⟩ (fun i σ H' _ ⟨_, _, _, s3, _⟩ => s3.seq hw) ?_ ?_
    all_goals
      first
      | rintro i x σ H3 H4 hi ⟨y2, y3, rfl, sm, hd⟩ ⟨t, x1, x2, rfl, nT, rfl, e1, e2⟩
        obtain rfl : V.int (i : Nat) = x1 := Option.some.inj e1
        obtain ⟨u, rfl, hu⟩ := int_at e2
        rw [List.length_map] at hi
        have smT : Same H3 (upd H3 t (.tup [.int (i : Nat), .int u])) := same_upd nT
        refine ⟨t, [.int (i : Nat), .int u], rfl, .inl (.inl upd_same), rfl, .int (i : Nat), [.int (i : Nat), .int u].tail, rfl, .int u, [], rfl, rfl, ?_⟩
        have hd4 := smT _ _ hd
        have sm4 := sm.trans smT
        generalize upd H3 t (.tup [.int (i : Nat), .int u]) = H4 at hd4 sm4 ⊢
        simp only [tSeq, tAsg, gName, tOp, rI, rI0, rU, tUn, tVar, tC, tCB, tCons, tNil, tTest, tIfS, tRet, tRetN, tDrop, tNext, tBreak, tCont, rEq, rNe, CDiv, CDivN, CMul, tBM, tBM0, tTup, tLst, tAug, tIf, tAnd, tOr, tNot, tAndV, tOrV, tNotV, tIsN, tNotN, tB, scal, tCall, cxK, cxKn, rIxT, rIxL, rIn, rAppend, rReverse, tVals, tDSetd, tDGet, tDGet1, tDGet2, tDIn, tDNotIn, rSortV, rSortT, rPop, rSortL, rSortT, tSl, tNoPart, tPart, List.append_nil, L2.start, List.map_cons, List.map_nil, List.length_cons, List.length_nil, List.replicate_succ, List.replicate_zero, List.cons_append, List.nil_append, Nat.reduceAdd, Nat.reduceSub, exists_eq, exists_eq', List.getElem?_cons_zero, List.getElem?_cons_succ, List.set_cons_zero, List.set_cons_succ, Option.some.injEq, V.int.injEq, V.bl.injEq, V.str.injEq, V.ref.injEq, List.cons.injEq, and_true, true_and, and_false, false_and, reduceCtorEq, exists_false, or_false, false_or, exists_and_left, exists_and_right, exists_eq_left, exists_eq_left', exists_eq_right, exists_eq_right', exists_const, ite_true, ite_false, Bool.false_eq_true, if_true, if_false, decide_true, decide_false]
        refine ⟨.inl ⟨_, .inl hd4⟩, _, hd4, .inl u, rfl, Nat.lt_of_le_of_lt (leastD_len xs i) (by rw [sizeLine_eq]; omega), fun v hv => ?_, fun hv => ?_⟩
        · have hx : u ∈ xs.take i := by
            refine Decidable.byContradiction fun z => ?_
            unfold leastD at hv
            rw [val_map, if_neg fun y => z ((mem_headsI _).mp y)] at hv
            cases hv
          exact ⟨_, _, rfl, sm4, by rw [least_hit hu hx]; exact hd4⟩
        · have hx : u ∉ xs.take i := fun z => by
            unfold leastD at hv
            rw [val_map, if_pos ((mem_headsI _).mpr z)] at hv
            cases hv
          exact ⟨_, _, rfl, fun b z e => by rw [upd_ne (ne_of_none e no)]; exact sm4 _ _ e, by rw [least_new hu hx]; exact upd_same⟩
      | rintro σ H3 ⟨y2, y3, rfl, sm, hd⟩
        rw [List.length_map] at hd
        simp only [tSeq, tAsg, gName, tOp, rI, rI0, rU, tUn, tVar, tC, tCB, tCons, tNil, tTest, tIfS, tRet, tRetN, tDrop, tNext, tBreak, tCont, rEq, rNe, CDiv, CDivN, CMul, tBM, tBM0, tTup, tLst, tAug, tIf, tAnd, tOr, tNot, tAndV, tOrV, tNotV, tIsN, tNotN, tB, scal, tCall, cxK, cxKn, rIxT, rIxL, rIn, rAppend, rReverse, tVals, tDSetd, tDGet, tDGet1, tDGet2, tDIn, tDNotIn, rSortV, rSortT, rPop, rSortL, rSortT, tSl, tNoPart, tPart, List.append_nil, L2.start, List.map_cons, List.map_nil, List.length_cons, List.length_nil, List.replicate_succ, List.replicate_zero, List.cons_append, List.nil_append, Nat.reduceAdd, Nat.reduceSub, exists_eq, exists_eq', List.getElem?_cons_zero, List.getElem?_cons_succ, List.set_cons_zero, List.set_cons_succ, Option.some.injEq, V.int.injEq, V.bl.injEq, V.str.injEq, V.ref.injEq, List.cons.injEq, and_true, true_and, and_false, false_and, reduceCtorEq, exists_false, or_false, false_or, exists_and_left, exists_and_right, exists_eq_left, exists_eq_left', exists_eq_right, exists_eq_right', exists_const, ite_true, ite_false, Bool.false_eq_true, if_true, if_false, decide_true, decide_false]
        exact q _ o sm hd
theorem scGr : FnScope ["word", "at", "value"] ["word"] (defScope sGreat) := ⟨rfl, rfl, rfl, by decide +kernel, rfl, by decide +kernel, by decide +kernel⟩
theorem ok_great {f : Addr} {fd : FuncData} (F : Fun K "greatest_places" "greatest_places" sGreat f fd) (B : Bi mg) : FnOk P w K mg base CX0 1 f fd ["word"] (spGreat K) := by
  refine F.ok scGr (fun vs H Q E h => ?_) (fun cdv A outer s H vs Q E hr h => ?_)
  · obtain ⟨p, xs, rfl, _⟩ := h
    rfl
  · obtain ⟨p, xs, rfl, hw, hl, q⟩ := h
    rcases hw with hw | hw
    case' inl => refine ⟨_, (pss_one (ps_ret (pe_dc (own := [("at", 1), ("value", 2)]) (g := gTup K 2 (gCons (gName 1) (gCons (gName 2) gNil))) (tt := tYes) (tk := (tVar 2)) (tv := (tVar 1)) rfl scGr.nd (pi_enumT (by rfl) B.enumerate (pa_cons (pv 0) pa_nil)) (blkOk_by (N := ["word", "at", "value"]) (sc := defScope sGreat) (by decide +kernel)) (fun _ _ _ _ _ => (pg_tup rfl (pgs_cons (pg_name (i := 1) scGr.nd rfl (.inl rfl)) (pgs_cons (pg_name (i := 2) scGr.nd rfl (.inl rfl)) pgs_nil)))) (fun _ _ _ _ _ => pts_nil) (fun _ _ _ _ _ => (pv 2)) (fun _ _ _ _ _ => (pv 1))))), ?_⟩
    case' inr => refine ⟨_, (pss_one (ps_ret (pe_dc (own := [("at", 1), ("value", 2)]) (g := gTup K 2 (gCons (gName 1) (gCons (gName 2) gNil))) (tt := tYes) (tk := (tVar 2)) (tv := (tVar 1)) rfl scGr.nd (pi_enum (by rfl) B.enumerate (pa_cons (pv 0) pa_nil)) (blkOk_by (N := ["word", "at", "value"]) (sc := defScope sGreat) (by decide +kernel)) (fun _ _ _ _ _ => (pg_tup rfl (pgs_cons (pg_name (i := 1) scGr.nd rfl (.inl rfl)) (pgs_cons (pg_name (i := 2) scGr.nd rfl (.inl rfl)) pgs_nil)))) (fun _ _ _ _ _ => pts_nil) (fun _ _ _ _ _ => (pv 2)) (fun _ _ _ _ _ => (pv 1))))), ?_⟩
    case' inl =>
      refine ⟨.ref p, rfl, p, _, rfl, hw, fun o no => ?_⟩
      have so := same_upd (o := .dK []) no
      refine dc_it walk_enumT (fun i H' => Same H H' ∧ H' o = some (.dK (greatD xs i))) ⟨so, upd_same⟩ (fun i H' _ h => Same.tup h.1 hw) ?_ ?_
    case' inr =>
      refine ⟨.ref p, rfl, p, _, rfl, hw, fun o no => ?_⟩
      have so := same_upd (o := .dK []) no
      refine dc_it walk_enum (fun i H' => Same H H' ∧ H' o = some (.dK (greatD xs i))) ⟨so, upd_same⟩ (fun i H' _ h => h.1.seq hw) ?_ ?_
    all_goals
      first
      | rintro i x H3 H4 hi ⟨sm, hd⟩ ⟨t, x1, x2, rfl, nT, rfl, e1, e2⟩
        obtain rfl : V.int (i : Nat) = x1 := Option.some.inj e1
        obtain ⟨u, rfl, hu⟩ := int_at e2
        rw [List.length_map] at hi
        have smT : Same H3 (upd H3 t (.tup [.int (i : Nat), .int u])) := same_upd nT
        refine ⟨t, [.int (i : Nat), .int u], rfl, .inl (.inl upd_same), rfl, .int (i : Nat), [.int (i : Nat), .int u].tail, rfl, .int u, [], rfl, rfl, ?_⟩
        have hd4 := smT _ _ hd
        have sm4 := sm.trans smT
        generalize upd H3 t (.tup [.int (i : Nat), .int u]) = H4 at hd4 sm4 ⊢
        refine ⟨rfl, .int u, rfl, .int (i : Nat), rfl, _, .inl u, rfl, hd4, Nat.lt_of_le_of_lt (greatD_len xs i) (by rw [sizeLine_eq]; omega), fun b z e => ?_, ?_⟩
        · rw [upd_ne (ne_of_none e no)]
          exact sm4 _ _ e
        · rw [great_put hu]
          exact upd_same
      | rintro H3 ⟨sm, hd⟩
        rw [List.length_map] at hd
        exact q _ o sm hd
/-! ### keep, by the dicts -/
abbrev N3 : List Str := ["self", "word", "places"]
theorem scKH : FnScope ["self", "word", "places"] ["self", "word"] (defScope sKeepH) := ⟨rfl, rfl, rfl, by decide +kernel, rfl, by decide +kernel, by decide +kernel⟩
theorem ok_keepH {f : Addr} {fd : FuncData} (F : Fun K "keep" "HeadsKind.keep" sKeepH f fd) (B : Bi mg) (cLeast : CalX CX0 P w K mg base 1 "least_places" (spLeast K)) : FnOk P w K mg base CX0 2 f fd ["self", "word"] (spKeep K T .heads) := by
  refine F.ok scKH (fun vs H Q E h => ?_) (fun cdv A outer s H vs Q E hr h => ?_)
  · obtain ⟨x, p, xs, rfl, _⟩ := h
    rfl
  · obtain ⟨x, p, xs, rfl, hw, hl, ht, q⟩ := h
    refine ⟨_, (pss_cons (ps_set (i := 2) scKH.nd rfl (.inl rfl) (pe_cx cLeast hr (by decide) pass0 (by rfl) (pa_cons (pv 1) pa_nil)))
 (pss_one (ps_ret (pe_callB (cr_sortV rfl) (by rfl) B.sorted (by decide +kernel) (pa_cons (pe_vals (pv 2)) pa_nil))))), ?_⟩
    simp only [tSeq, tAsg, gName, tOp, rI, rI0, rU, tUn, tVar, tC, tCB, tCons, tNil, tTest, tIfS, tRet, tRetN, tDrop, tNext, tBreak, tCont, rEq, rNe, CDiv, CDivN, CMul, tBM, tBM0, tTup, tLst, tAug, tIf, tAnd, tOr, tNot, tAndV, tOrV, tNotV, tIsN, tNotN, tB, scal, tCall, cxK, cxKn, rIxT, rIxL, rIn, rAppend, rReverse, tVals, tDSetd, tDGet, tDGet1, tDGet2, tDIn, tDNotIn, rSortV, rSortT, rPop, rSortL, rSortT, tSl, tNoPart, tPart, List.append_nil, L2.start, List.map_cons, List.map_nil, List.length_cons, List.length_nil, List.replicate_succ, List.replicate_zero, List.cons_append, List.nil_append, Nat.reduceAdd, Nat.reduceSub, exists_eq, exists_eq', List.getElem?_cons_zero, List.getElem?_cons_succ, List.set_cons_zero, List.set_cons_succ, Option.some.injEq, V.int.injEq, V.bl.injEq, V.str.injEq, V.ref.injEq, List.cons.injEq, and_true, true_and, and_false, false_and, reduceCtorEq, exists_false, or_false, false_or, exists_and_left, exists_and_right, exists_eq_left, exists_eq_left', exists_eq_right, exists_eq_right', exists_const, ite_true, ite_false, Bool.false_eq_true, if_true, if_false, decide_true, decide_false]
    refine ⟨p, xs, rfl, hw, hl, fun H1 d s1 hd => ?_⟩
    simp only [tSeq, tAsg, gName, tOp, rI, rI0, rU, tUn, tVar, tC, tCB, tCons, tNil, tTest, tIfS, tRet, tRetN, tDrop, tNext, tBreak, tCont, rEq, rNe, CDiv, CDivN, CMul, tBM, tBM0, tTup, tLst, tAug, tIf, tAnd, tOr, tNot, tAndV, tOrV, tNotV, tIsN, tNotN, tB, scal, tCall, cxK, cxKn, rIxT, rIxL, rIn, rAppend, rReverse, tVals, tDSetd, tDGet, tDGet1, tDGet2, tDIn, tDNotIn, rSortV, rSortT, rPop, rSortL, rSortT, tSl, tNoPart, tPart, List.append_nil, L2.start, List.map_cons, List.map_nil, List.length_cons, List.length_nil, List.replicate_succ, List.replicate_zero, List.cons_append, List.nil_append, Nat.reduceAdd, Nat.reduceSub, exists_eq, exists_eq', List.getElem?_cons_zero, List.getElem?_cons_succ, List.set_cons_zero, List.set_cons_succ, Option.some.injEq, V.int.injEq, V.bl.injEq, V.str.injEq, V.ref.injEq, List.cons.injEq, and_true, true_and, and_false, false_and, reduceCtorEq, exists_false, or_false, false_or, exists_and_left, exists_and_right, exists_eq_left, exists_eq_left', exists_eq_right, exists_eq_right', exists_const, ite_true, ite_false, Bool.false_eq_true, if_true, if_false, decide_true, decide_false]
    refine ⟨⟨_, hd⟩, fun v hv => ⟨d, upd_same, leastD xs xs.length, by rw [upd_ne (ne_of_none hd hv)]; exact hd, (headsI xs).map fun x => ((xs.idxOf x : Nat) : Int), ?_, fun l hl' => ?_⟩⟩
    · unfold leastD
      rw [List.take_length, List.map_map, List.map_map]
      rfl
    · rw [sort_ixs, ← ixV_int]
      exact q _ l (Gw.upd (Gw.upd (.of ht s1) hv) hl') (Gw.nw (Gw.upd (.of ht s1) hv) hl') upd_same
theorem scKT : FnScope ["self", "word", "places"] ["self", "word"] (defScope sKeepT) := ⟨rfl, rfl, rfl, by decide +kernel, rfl, by decide +kernel, by decide +kernel⟩
theorem ok_keepT {f : Addr} {fd : FuncData} (F : Fun K "keep" "TailsKind.keep" sKeepT f fd) (B : Bi mg) (cGreat : CalX CX0 P w K mg base 1 "greatest_places" (spGreat K)) : FnOk P w K mg base CX0 2 f fd ["self", "word"] (spKeep K T .tails) := by
  refine F.ok scKT (fun vs H Q E h => ?_) (fun cdv A outer s H vs Q E hr h => ?_)
  · obtain ⟨x, p, xs, rfl, _⟩ := h
    rfl
  · obtain ⟨x, p, xs, rfl, hw, hl, ht, q⟩ := h
    refine ⟨_, (pss_cons (ps_set (i := 2) scKT.nd rfl (.inl rfl) (pe_cx cGreat hr (by decide) pass0 (by rfl) (pa_cons (pv 1) pa_nil)))
 (pss_one (ps_ret (pe_callB (cr_sortV rfl) (by rfl) B.sorted (by decide +kernel) (pa_cons (pe_vals (pv 2)) pa_nil))))), ?_⟩
    simp only [tSeq, tAsg, gName, tOp, rI, rI0, rU, tUn, tVar, tC, tCB, tCons, tNil, tTest, tIfS, tRet, tRetN, tDrop, tNext, tBreak, tCont, rEq, rNe, CDiv, CDivN, CMul, tBM, tBM0, tTup, tLst, tAug, tIf, tAnd, tOr, tNot, tAndV, tOrV, tNotV, tIsN, tNotN, tB, scal, tCall, cxK, cxKn, rIxT, rIxL, rIn, rAppend, rReverse, tVals, tDSetd, tDGet, tDGet1, tDGet2, tDIn, tDNotIn, rSortV, rSortT, rPop, rSortL, rSortT, tSl, tNoPart, tPart, List.append_nil, L2.start, List.map_cons, List.map_nil, List.length_cons, List.length_nil, List.replicate_succ, List.replicate_zero, List.cons_append, List.nil_append, Nat.reduceAdd, Nat.reduceSub, exists_eq, exists_eq', List.getElem?_cons_zero, List.getElem?_cons_succ, List.set_cons_zero, List.set_cons_succ, Option.some.injEq, V.int.injEq, V.bl.injEq, V.str.injEq, V.ref.injEq, List.cons.injEq, and_true, true_and, and_false, false_and, reduceCtorEq, exists_false, or_false, false_or, exists_and_left, exists_and_right, exists_eq_left, exists_eq_left', exists_eq_right, exists_eq_right', exists_const, ite_true, ite_false, Bool.false_eq_true, if_true, if_false, decide_true, decide_false]
    refine ⟨p, xs, rfl, hw, hl, fun H1 d s1 hd => ?_⟩
    simp only [tSeq, tAsg, gName, tOp, rI, rI0, rU, tUn, tVar, tC, tCB, tCons, tNil, tTest, tIfS, tRet, tRetN, tDrop, tNext, tBreak, tCont, rEq, rNe, CDiv, CDivN, CMul, tBM, tBM0, tTup, tLst, tAug, tIf, tAnd, tOr, tNot, tAndV, tOrV, tNotV, tIsN, tNotN, tB, scal, tCall, cxK, cxKn, rIxT, rIxL, rIn, rAppend, rReverse, tVals, tDSetd, tDGet, tDGet1, tDGet2, tDIn, tDNotIn, rSortV, rSortT, rPop, rSortL, rSortT, tSl, tNoPart, tPart, List.append_nil, L2.start, List.map_cons, List.map_nil, List.length_cons, List.length_nil, List.replicate_succ, List.replicate_zero, List.cons_append, List.nil_append, Nat.reduceAdd, Nat.reduceSub, exists_eq, exists_eq', List.getElem?_cons_zero, List.getElem?_cons_succ, List.set_cons_zero, List.set_cons_succ, Option.some.injEq, V.int.injEq, V.bl.injEq, V.str.injEq, V.ref.injEq, List.cons.injEq, and_true, true_and, and_false, false_and, reduceCtorEq, exists_false, or_false, false_or, exists_and_left, exists_and_right, exists_eq_left, exists_eq_left', exists_eq_right, exists_eq_right', exists_const, ite_true, ite_false, Bool.false_eq_true, if_true, if_false, decide_true, decide_false]
    refine ⟨⟨_, hd⟩, fun v hv => ⟨d, upd_same, greatD xs xs.length, by rw [upd_ne (ne_of_none hd hv)]; exact hd, (headsI xs).map fun x => ((lastIx xs x : Nat) : Int), ?_, fun l hl' => ?_⟩⟩
    · unfold greatD
      rw [List.take_length, List.map_map, List.map_map]
      rfl
    · rw [sort_last, ← ixV_int]
      exact q _ l (Gw.upd (Gw.upd (.of ht s1) hv) hl') (Gw.nw (Gw.upd (.of ht s1) hv) hl') upd_same
theorem scKS : FnScope ["self", "word", "places", "value"] ["self", "word"] (defScope sKeepS) := ⟨rfl, rfl, rfl, by decide +kernel, rfl, by decide +kernel, by decide +kernel⟩
theorem ok_keepS {f : Addr} {fd : FuncData} (F : Fun K "keep" "SetKind.keep" sKeepS f fd) (B : Bi mg) (cLeast : CalX CX0 P w K mg base 1 "least_places" (spLeast K)) : FnOk P w K mg base CX0 2 f fd ["self", "word"] (spKeep K T .set) := by
  refine F.ok scKS (fun vs H Q E h => ?_) (fun cdv A outer s H vs Q E hr h => ?_)
  · obtain ⟨x, p, xs, rfl, _⟩ := h
    rfl
  · obtain ⟨x, p, xs, rfl, hw, hl, ht, q⟩ := h
    refine ⟨_, (pss_cons (ps_set (i := 2) scKS.nd rfl (.inr rfl) (pe_cx cLeast hr (by decide) pass0 (by rfl) (pa_cons (pv 1) pa_nil)))
 (pss_one (ps_ret (pe_lc (own := [("value", 3)]) (g := gName 3) (tt := tYes) rfl scKS.nd (pi_list (pe_callB (call_sortedDI rfl) (by rfl) B.sorted (by decide +kernel) (pa_cons (pv 2) pa_nil))) (blkOk_by (N := ["self", "word", "places", "value"]) (sc := defScope sKeepS) (by decide +kernel)) (fun _ _ _ _ _ => (pg_name (i := 3) scKS.nd rfl (.inl rfl))) (fun _ _ _ _ _ => pts_nil) (fun _ _ _ _ _ => (pe_dget (hu_of hr) (pv 2) (pv 3) (fun _ _ => rfl))))))), ?_⟩
    simp only [tSeq, tAsg, gName, tOp, rI, rI0, rU, tUn, tVar, tC, tCB, tCons, tNil, tTest, tIfS, tRet, tRetN, tDrop, tNext, tBreak, tCont, rEq, rNe, CDiv, CDivN, CMul, tBM, tBM0, tTup, tLst, tAug, tIf, tAnd, tOr, tNot, tAndV, tOrV, tNotV, tIsN, tNotN, tB, scal, tCall, cxK, cxKn, rIxT, rIxL, rIn, rAppend, rReverse, tVals, tDSetd, tDGet, tDGet1, tDGet2, tDIn, tDNotIn, rSortV, rSortT, rPop, rSortL, rSortT, tSl, tNoPart, tPart, List.append_nil, L2.start, List.map_cons, List.map_nil, List.length_cons, List.length_nil, List.replicate_succ, List.replicate_zero, List.cons_append, List.nil_append, Nat.reduceAdd, Nat.reduceSub, exists_eq, exists_eq', List.getElem?_cons_zero, List.getElem?_cons_succ, List.set_cons_zero, List.set_cons_succ, Option.some.injEq, V.int.injEq, V.bl.injEq, V.str.injEq, V.ref.injEq, List.cons.injEq, and_true, true_and, and_false, false_and, reduceCtorEq, exists_false, or_false, false_or, exists_and_left, exists_and_right, exists_eq_left, exists_eq_left', exists_eq_right, exists_eq_right', exists_const, ite_true, ite_false, Bool.false_eq_true, if_true, if_false, decide_true, decide_false]
    refine ⟨p, xs, rfl, hw, hl, fun H1 d s1 hd => ?_⟩
    simp only [tSeq, tAsg, gName, tOp, rI, rI0, rU, tUn, tVar, tC, tCB, tCons, tNil, tTest, tIfS, tRet, tRetN, tDrop, tNext, tBreak, tCont, rEq, rNe, CDiv, CDivN, CMul, tBM, tBM0, tTup, tLst, tAug, tIf, tAnd, tOr, tNot, tAndV, tOrV, tNotV, tIsN, tNotN, tB, scal, tCall, cxK, cxKn, rIxT, rIxL, rIn, rAppend, rReverse, tVals, tDSetd, tDGet, tDGet1, tDGet2, tDIn, tDNotIn, rSortV, rSortT, rPop, rSortL, rSortT, tSl, tNoPart, tPart, List.append_nil, L2.start, List.map_cons, List.map_nil, List.length_cons, List.length_nil, List.replicate_succ, List.replicate_zero, List.cons_append, List.nil_append, Nat.reduceAdd, Nat.reduceSub, exists_eq, exists_eq', List.getElem?_cons_zero, List.getElem?_cons_succ, List.set_cons_zero, List.set_cons_succ, Option.some.injEq, V.int.injEq, V.bl.injEq, V.str.injEq, V.ref.injEq, List.cons.injEq, and_true, true_and, and_false, false_and, reduceCtorEq, exists_false, or_false, false_or, exists_and_left, exists_and_right, exists_eq_left, exists_eq_left', exists_eq_right, exists_eq_right', exists_const, ite_true, ite_false, Bool.false_eq_true, if_true, if_false, decide_true, decide_false]
    have hks : (leastD xs xs.length).map (fun x => x.fst) = (headsI xs).map Sum.inl := by
      unfold leastD
      rw [List.take_length, List.map_map]
      rfl
    have hz : (headsI xs).length < 64 := Nat.lt_of_le_of_lt (headsI_len _) (by omega)
    refine ⟨.ref d, rfl, d, rfl, _, .inl hd, headsI xs, hks, hz, fun ys r hp hs hr' => ⟨r, rfl, ⟨_, SqL.of upd_same⟩, fun D hD => ?_⟩⟩
    rw [sort_is hp hs] at hD ⊢
    have nrD : r ≠ D := ne_of_none upd_same hD
    have hd2 : upd H1 r (.lst ((sortI (headsI xs)).map V.int)) d = some (.dK (leastD xs xs.length)) := by
      rw [upd_ne (ne_of_none hd hr')]
      exact hd
    have hg2 : Gw T H (upd H1 r (.lst ((sortI (headsI xs)).map V.int))) := Gw.upd (.of ht s1) hr'
    have hr2 : upd H1 r (.lst ((sortI (headsI xs)).map V.int)) r = some (.lst ((sortI (headsI xs)).map V.int)) := upd_same
    generalize upd H1 r (.lst ((sortI (headsI xs)).map V.int)) = H2 at hD hd2 hg2 hr2 ⊢
    refine lc_list (xs := (sortI (headsI xs)).map V.int) (fun i H' => ∃ acc, H' = upd H2 D (.lst acc) ∧ acc = ixV ((keepIx .set xs).take i)) ⟨_, rfl, rfl⟩ (fun i H' _ ⟨acc, e, _⟩ => by rw [e]; exact SqL.of (by rw [upd_ne nrD]; exact hr2)) ?_ ?_
    · rintro i y H' hy ⟨acc, rfl, rfl⟩
      obtain ⟨u, rfl, hu⟩ := int_at hy
      have hux : u ∈ xs := (mem_headsI xs).mp (mem_sort.mp (List.mem_of_getElem? hu))
      have hik : (keepIx .set xs)[i]? = some (xs.idxOf u) := by
        show ((sortI (headsI xs)).map xs.idxOf)[i]? = _
        rw [List.getElem?_map, hu]
        rfl
      refine ⟨rfl, .ref d, rfl, .int u, rfl, d, .int ((xs.idxOf u : Nat) : Int), rfl, ?_, ixV ((keepIx .set xs).take i), upd_same, ?_, ?_⟩
      · have := DGet.k (H := upd H2 D (.lst (ixV ((keepIx .set xs).take i)))) (k := .inl u) (by rw [upd_ne (ne_of_none hd2 hD)]; exact hd2)
        unfold leastD at this
        rw [List.take_length, val_map, if_pos ((mem_headsI xs).mpr hux)] at this
        exact this
      · unfold ixV
        rw [List.length_map, List.length_take, sizeLine_eq]
        have h1 : (keepIx .set xs).length ≤ 60 := by
          show ((sortI (headsI xs)).map xs.idxOf).length ≤ 60
          rw [List.length_map, (sort_perm _).length_eq]
          exact Nat.le_trans (headsI_len _) hl
        omega
      · refine ⟨_, upd_upd, ?_⟩
        rw [List.take_add_one, hik]
        unfold ixV
        rw [List.map_append]
        rfl
    · rintro H' ⟨acc, rfl, rfl⟩
      refine q _ D (Gw.upd hg2 hD) (Gw.nw hg2 hD) ?_
      rw [upd_same, List.take_of_length_le]
      rw [List.length_map]
      show ((sortI (headsI xs)).map xs.idxOf).length ≤ _
      rw [List.length_map]
      exact Nat.le_refl _
end
end Mv

set_option Elab.async false
set_option linter.all false
set_option maxRecDepth 100000
set_option maxHeartbeats 4000000
namespace Mv
open PySem PySem.Spec PyProof.Rows L2
/-- an object of the kind's class -/
def KObj (cls : Kd → Addr) (H : Hp) (o : Addr) (k : Kd) : Prop := ∃ dx, H o = some (.ins (cls k) dx [])
theorem KObj.ext {cls : Kd → Addr} {H H1 : Hp} {o : Addr} {k : Kd} (h : KObj cls H o k) (e : LamX.ExtN H H1) : KObj cls H1 o k := by
  obtain ⟨dx, h⟩ := h
  exact ⟨dx, e _ _ h fun ps z => by cases z⟩
def spPlainM (K : PySem.W.Frag) (cls : Kd → Addr) (T : List (Addr × Str)) (k : Kd) : Sp := fun vs H Q _ => ∃ (o p : Addr) (xs : List Int), vs = [.ref o, .ref p] ∧ KObj cls H o k ∧ WordS K H p xs ∧ xs.length ≤ 60 ∧ LamX.Tabs T H ∧ ∀ (H' : Hp) (t : Addr), Gw T H H' → H' t = some (.tup ((plainI k xs).map V.int)) → Q (.ref t) H'
theorem ext_tup {K : PySem.W.Frag} {H H1 : Hp} {p : Addr} {xs : List V} (h : SqT K H p xs) (e : LamX.ExtN H H1) : SqT K H1 p xs := by
  rcases h with (h | ⟨o, h⟩) | h
  · exact .inl (.inl (e _ _ h (fun ps z => by cases z)))
  · exact .inl (.inr ⟨o, e _ _ h (fun ps z => by cases z)⟩)
  · exact .inr h
theorem ext_lst {K : PySem.W.Frag} {H H1 : Hp} {p : Addr} {xs : List V} (h : SqL K H p xs) (e : LamX.ExtN H H1) : SqL K H1 p xs := by
  rcases h with (h | ⟨o, h⟩) | h
  · exact .inl (.inl (e _ _ h (fun ps z => by cases z)))
  · exact .inl (.inr ⟨o, e _ _ h (fun ps z => by cases z)⟩)
  · exact .inr h
/-- what the comprehension of plain has behind i turns -/
def PmI (H1 : Hp) (D : Addr) (k : Kd) (xs : List Int) (i : Nat) (H' : Hp) : Prop := H' = upd H1 D (.lst (((keepIx k xs).take i).map fun i => V.int (xs.getD i 0)))
section
variable {P : Program} {w : World} {K : PySem.W.Frag} {mg : Str → Option Value} {base : Heap} {T : List (Addr × Str)} {cls : Kd → Addr}
theorem scPM : FnScope ["self", "word", "at"] ["self", "word"] (defScope sPlainM) := ⟨rfl, rfl, rfl, by decide +kernel, rfl, by decide +kernel, by decide +kernel⟩
theorem ok_plainM {f : Addr} {fd : FuncData} (F : Fun K "plain" "Kind.plain" sPlainM f fd) (B : Bi mg) (k : Kd) (cKeep : MetX CX0 P w K mg base 2 (cls k) "keep" (spKeep K T k)) : FnOk P w K mg base CX0 3 f fd ["self", "word"] (spPlainM K cls T k) := by
  refine F.ok scPM (fun vs H Q E h => ?_) (fun cdv A outer s H vs Q E hr h => ?_)
  · obtain ⟨o, p, xs, rfl, _⟩ := h
    rfl
  · obtain ⟨o, p, xs, rfl, ⟨dx, ho⟩, hw, hl, ht, q⟩ := h
    have hkl : (keepIx k xs).length ≤ 120 := by
      have := plain_len k xs
      rw [keep_len]
      omega
    rcases hw with hw | hw
    case' inl => refine ⟨_, (pss_one (ps_ret (pe_callTy call_tuple_of (by rfl) B.tuple (by decide +kernel) (pa_cons (pe_lc (own := [("at", 2)]) (g := gName 2) (tt := tYes) (te := (tOp (rIxT K) (tVar 1) (tVar 2))) rfl scPM.nd (pi_list (pe_mx cKeep hr (by decide) pass0 (pv 0) (pa_cons (pv 1) pa_nil))) (blkOk_by (N := ["self", "word", "at"]) (sc := defScope sPlainM) (by decide +kernel)) (fun _ _ _ _ _ => (pg_name (i := 2) scPM.nd rfl (.inl rfl))) (fun _ _ _ _ _ => pts_nil) (fun _ _ _ _ _ => (pe_ix ix_tup (pv 1) (pv 2) (fun _ _ => rfl)))) pa_nil)))), ?_⟩
    case' inr => refine ⟨_, (pss_one (ps_ret (pe_callTy call_tuple_of (by rfl) B.tuple (by decide +kernel) (pa_cons (pe_lc (own := [("at", 2)]) (g := gName 2) (tt := tYes) (te := (tOp (rIxL K) (tVar 1) (tVar 2))) rfl scPM.nd (pi_list (pe_mx cKeep hr (by decide) pass0 (pv 0) (pa_cons (pv 1) pa_nil))) (blkOk_by (N := ["self", "word", "at"]) (sc := defScope sPlainM) (by decide +kernel)) (fun _ _ _ _ _ => (pg_name (i := 2) scPM.nd rfl (.inl rfl))) (fun _ _ _ _ _ => pts_nil) (fun _ _ _ _ _ => (pe_ix ix_list (pv 1) (pv 2) (fun _ _ => rfl)))) pa_nil)))), ?_⟩
    case' inl => have hwE := fun (H2 : Hp) (e : LamX.ExtN H H2) => ext_tup hw e
    case' inr => have hwE := fun (H2 : Hp) (e : LamX.ExtN H H2) => ext_lst hw e
    case' inl => refine ⟨.ref o, rfl, o, dx, [], rfl, ho, rfl, .ref p, rfl, .ref o, p, xs, rfl, .inl hw, hl, ht, fun H1 l g1 _ h1 => ⟨l, rfl, ⟨_, SqL.of h1⟩, fun D hD => ?_⟩⟩
    case' inr => refine ⟨.ref o, rfl, o, dx, [], rfl, ho, rfl, .ref p, rfl, .ref o, p, xs, rfl, .inr hw, hl, ht, fun H1 l g1 _ h1 => ⟨l, rfl, ⟨_, SqL.of h1⟩, fun D hD => ?_⟩⟩
    all_goals
      have nlD : l ≠ D := ne_of_none h1 hD
      refine lc_list (xs := ixV (keepIx k xs)) (PmI H1 D k xs) rfl (fun i H' _ e => by rw [show H' = _ from e]; exact SqL.of (by rw [upd_ne nlD]; exact h1)) ?_ ?_
    all_goals
      first
      | rintro i y H' hy rfl
        obtain ⟨n, hn, rfl⟩ : ∃ n : Nat, (keepIx k xs)[i]? = some n ∧ y = .int (n : Int) := by
          unfold ixV at hy
          rw [List.getElem?_map] at hy
          cases e : (keepIx k xs)[i]? with
          | none =>
            rw [e] at hy
            cases hy
          | some n =>
            rw [e] at hy
            exact ⟨n, rfl, (Option.some.inj hy).symm⟩
        have hnl := keep_lt (List.mem_of_getElem? hn)
        refine ⟨rfl, .ref p, rfl, .int (n : Int), rfl, p, xs.map V.int, (n : Int), .int (xs.getD n 0), rfl, rfl, hwE _ (g1.1.trans (ext_upd hD)), atI_nat (by rw [List.getElem?_map, List.getElem?_eq_getElem hnl, getD_at hnl]; rfl), _, upd_same, ?_, ?_⟩
        · rw [List.length_map, List.length_take, sizeLine_eq]
          omega
        · show upd (upd H1 D _) D _ = _
          rw [upd_upd, List.take_add_one, hn, List.map_append]
          rfl
      | rintro H' rfl
        refine ⟨D, _, rfl, .inl ⟨SqL.of upd_same, fun t ht' => ?_⟩⟩
        refine q _ t (Gw.upd (Gw.upd g1 hD) ht') ?_
        rw [upd_same, List.take_of_length_le (by unfold ixV; rw [List.length_map]; exact Nat.le_refl _), ← keep_vals, List.map_map]
        rfl
end
end Mv

set_option Elab.async false
set_option linter.all false
set_option maxRecDepth 100000
set_option maxHeartbeats 4000000
namespace Mv
open PySem PySem.Spec PyProof.Rows L2
/-! ### {name!r} -/
theorem fmt_cost1 : fmtCost [("list" : Str)] + 7 ≤ 100 := by decide +kernel
def tFmtB (K : PySem.W.Frag) (te : TE) : TE := fun σ H Q => te σ H fun x H1 => BadV H1 x ∧ ∀ m : Str, m.length ≤ 2000 → Q (.str m) H1
theorem pe_fmtB {X : Cx} {k : Nat} {e : Expr} {te : TE} {pos : Pos} (hr : Room k X.A) (he : PE X e te) : PE X (.FormattedValue e 114 none pos) (tFmtB X.K te) := by
  refine ⟨fun pins s σ H Q I h => ?_⟩
  refine wpAny_FormattedValue_repr (thn (he.run pins s σ H _ I h) fun v s1 hv => ?_)
  obtain ⟨x, H1, I1, r1, b, q⟩ := hv
  have fin : ∀ (m : Str) (u : Tok) (s2 : Shared), m.length ≤ 2000 → Inv X pins σ H1 s2 → wpAny (model X.prog X.w) X.A (formatField (.str m u) Str.empty) (EP X pins σ Q) X.xe s2 := fun m u s2 hm I2 =>
    wpAny_formatField_str ⟨.str m, H1, I2, ⟨_, rfl⟩, q m hm⟩ ⟨.str m, H1, I2.tok _, ⟨_, rfl⟩, q m hm⟩ (by rw [sizeLine_eq]; omega)
  cases b with
  | str z h hl hc =>
    obtain ⟨t, rfl⟩ := r1
    have h1 := StrLaws.reprText_len z fun c h => Nat.lt_trans (hc c h) (by decide)
    exact pyReprObj_str (fin _ _ _ (by omega) (I1.tok _)) (by rw [sizeLine_eq]; omega)
  | non =>
    obtain rfl : v = Value.none := r1
    exact pyReprObj_none (fin _ _ _ (by decide +kernel) (I1.tok _))
  | int i h =>
    obtain ⟨t, rfl⟩ := r1
    rcases h with rfl | rfl | rfl | rfl <;> exact pyReprObj_int (by decide +kernel) (fin _ _ _ (by decide +kernel) (I1.tok _))
  | tup T hT =>
    cases r1
    obtain ⟨its, rv, ⟨o, ho, hcl, n, hd⟩, _⟩ := I1.tuple (X := X) (.inl (.inl hT))
    have hp := fmt_piled [("list" : Str)] (by decide +kernel)
    have htx := fmt_text ([("list" : Str)].map reprText)
    have hu := hr.units
    have hc1 := fmt_cost1
    refine wpAny_pyReprObj_slot (by omega) ⟨o, ho, hcl⟩ F.slot_tuple_repr (fmt_tuple_repr (ts := [("list" : Str)].map reprText) ho hcl hd (repr_all rv (by decide +kernel)) (by rw [sizeLine_eq]; omega) fun m u tk hm => ⟨m, u, rfl, fin m u _ (by omega) (I1.tok _)⟩)
end Mv

set_option Elab.async false
set_option linter.all false
set_option maxRecDepth 100000
set_option maxHeartbeats 4000000
namespace Mv
open PySem PySem.Spec PyProof.Rows L2
abbrev iEnv (q : Str) (sc : Scope) (L f c cc : Addr) : Env := PySem.W.ksEnv q sc L f (.ref c) cc
/-- the context of an __init__ that says super(): one cell, of the class -/
def cxF (CX : CXT) (P : Program) (w : World) (K : PySem.W.Frag) (mg : Str → Option Value) (base : Heap) (N : List Str) (q : Str) (sc : Scope) (f c cc : Addr) (A : Around) (outer : List Env) (s : Shared) (H : Hp) (E : XK) : Cx where
  prog := P
  w := w
  K := K
  mg := mg
  base := base
  A := A.deeper (iEnv q sc s.heap.objs.size f c cc)
  N := N
  s_0 := s
  H_0 := H
  env := iEnv q sc s.heap.objs.size f c cc
  outer := outer
  stack := iEnv q sc s.heap.objs.size f c cc :: outer
  ex := []
  fn := fun _ => false
  calm := true
  pn := []
  xe := fun e s' => wpAny (model P w) (A.deeper (iEnv q sc s.heap.objs.size f c cc)) (leaving (iEnv q sc s.heap.objs.size f c cc) e) (fun _ s'' => CX outer H s E e s'') (fun e' s'' => CX outer H s E e' s'') s'
/-- what the scope of such an __init__ says -/
structure ScI (sc : Scope) (n1 n2 : Str) : Prop where
  kind : sc.kind = .function
  co : sc.isCoroutine = false
  gen : sc.isGenerator = false
  l1 : sc.names.lookup n1 = some .local
  l2 : sc.names.lookup n2 = some .local
  ne : ¬ n1 = n2
  cell : ∀ y ∈ sc.names, y.2 ≠ .cell
  free : ∀ y ∈ sc.names, y.2 = .free → y.1 = "__class__"
  cls : sc.names.lookup ("__class__" : Str) = some .free
  sup : sc.names.lookup ("super" : Str) = some .globalImplicit
section
variable {CX : CXT} {P : Program} {w : World} {K : PySem.W.Frag} {mg : Str → Option Value} {base : Heap} {q : Str} {sc : Scope} {f c cc : Addr} {A : Around} {outer : List Env} {s : Shared} {H : Hp} {E : XK} {n1 n2 : Str} {h₁ : Heap} {tk : Nat}
theorem inv_startF {v1 v2 : V} {u1 u2 : Value} (S : ScI sc n1 n2) (hd : A.handled = none) (e0 : Env0 P w K mg base A outer s H) (r1 : RelV v1 u1) (r2 : RelV v2 u2) {oc : Obj} {D : Value} (hcc : base.get? cc = some oc) (hoc : oc.data = .cell (some D))
    (hns : h₁.Ns s.heap.objs.size fun y => [(n1, u1), (n2, u2)].reverse.lookup y) (kp : ∀ b o, s.heap.get? b = some o → h₁.get? b = some o) :
    Inv (cxF CX P w K mg base [n1, n2] q sc f c cc A outer s H E) [] [some v1, some v2] H { s with heap := h₁, toks := tk } := by
  have noA : ∀ b : Addr, b ∉ (cxF CX P w K mg base [n1, n2] q sc f c cc A outer s H E).ex := fun b z => absurd (show b ∈ ([] : List Addr) from z) (by simp)
  have onecell : ∀ {y b}, (cxF CX P w K mg base [n1, n2] q sc f c cc A outer s H E).env.cells.lookup y = some b → y = "__class__" ∧ b = cc := fun {y b} z => by
    have z : List.lookup y [(("__class__" : Str), cc)] = some b := z
    unfold List.lookup at z
    split at z
    · rename_i h
      exact ⟨eq_of_beq h, (Option.some.inj z).symm⟩
    · cases z
  have ccS := e0.bs cc oc hcc
  refine ⟨⟨e0.mod, S.kind, rfl, rfl, Nat.le_refl _, fun y z b h1 h2 => (onecell h1).1.trans (onecell h2).1.symm, fun y hy => ?_, fun y b h => absurd (show false = true from h) Bool.false_ne_true, fun _ => hd, Around.frames_deeper e0.frames, .inr ⟨rfl, rfl⟩, fun b z => absurd z (noA b), e0.bs, e0.bsz, fun b _ _ => noA b, fun b z => absurd z (noA b), e0.funs, e0.frf⟩,
    rfl, e0.bare, Un.kept kp, ⟨_, hns, fun i y v h1 h2 h3 => ?_⟩, fun y b h => ?_, e0.hok.fresh (Nat.le_refl _), fun y b h => ?_, fun p hp => absurd (show p ∈ ([] : List (Addr × Obj)) from hp) (by simp), e0.hok.kept kp, rfl⟩
  · have hy : sc.names.lookup y = some .cell ∨ sc.names.lookup y = some .free := hy
    rcases hy with hy | hy
    · exact absurd rfl (S.cell _ (PySem.mem_of_lookup hy))
    · have e := S.free _ (PySem.mem_of_lookup hy) rfl
      have e : y = "__class__" := e
      subst e
      exact ⟨cc, rfl⟩
  · have hm1 : List.lookup n1 [(n1, u1), (n2, u2)].reverse = some u1 := by
      show List.lookup n1 [(n2, u2), (n1, u1)] = some u1
      simp [List.lookup, beq_eq_false_iff_ne.mpr S.ne]
    have hm2 : List.lookup n2 [(n1, u1), (n2, u2)].reverse = some u2 := by
      show List.lookup n2 [(n2, u2), (n1, u1)] = some u2
      simp [List.lookup]
    match i, h1, h2 with
    | 0, h1, h2 =>
      cases h1
      cases h2
      exact ⟨u1, r1, .inl ⟨S.l1, hm1⟩⟩
    | 1, h1, h2 =>
      cases h1
      cases h2
      exact ⟨u2, r2, .inl ⟨S.l2, hm2⟩⟩
    | i + 2, h1, h2 => cases h1
  · rw [(onecell h).2]
    exact ⟨_, oc, kp _ _ ccS.1, hoc⟩
  · rw [(onecell h).2]
    exact ccS.2
end
/-! ### ValueError.__init__, bound to an exception that is being made -/
section
variable {X : Cx} {pins : List (Addr × Obj)} {σ : L2.St} {H : Hp} {s : Shared} {A : Around} {E : Value → Shared → Prop}
theorem bound_init {a C u : Addr} {us : List Value} {Q : Value → Shared → Prop} (T : OexC X.K C) (I : Inv X pins σ H s) (e : H a = some (exo a C none)) (hu : s.heap.get? u = some (PySem.W.kxs_mw "ValueError.__init__" a)) (hl : us.length ≤ sizeLine) (h : ∀ s', Inv X pins σ H s' → Q .none s') :
    wpAny (model X.prog X.w) A (call (.ref u) us) Q E s := by
  obtain ⟨nm, q, N, bs, bm, sn, sub, ab, col, dd, k0, k1, k2, k3, k5, hC, hbm⟩ := T.cls
  obtain ⟨t1, ho⟩ := exo_at I.hok e
  have hC' := I.kIn _ _ hC
  have fin : ∀ h' t2, (∀ b o, b ≠ a → s.heap.get? b = some o → h'.get? b = some o) → h'.get? a = some (HandSPX.excO C t2) → Q .none { s with heap := h' } := fun h' t2 k hx => by
    have J := I.write (t' := s.toks) (x := a) (e := a) (o := exo a C none) (by rw [e]; exact True.intro) (.inl rfl) k ⟨_, hx⟩ (exo_ok hx)
    have eu : upd H a (exo a C none) = H := by
      funext b
      by_cases hb : b = a
      · rw [hb, upd_same, e]
      · rw [upd_ne hb]
    rw [eu] at J
    exact h _ J
  clear h I
  obtain ⟨hp, g, d, t, os⟩ := s
  refine wpAny_call (codeAny_of_tree ?_)
  show wpAny _ A.in1 (callAny (.ref u) ⟨us, []⟩) _ _ _
  simp only [callAny]
  refine wpAny_bind (wpAny_load hu ?_)
  simp only [PySem.W.kxs_mw, show (Value.type "method-wrapper" == Value.type "method" || Value.type "method-wrapper" == Value.type "builtin_function_or_method" || Value.type "method-wrapper" == Value.type "method-wrapper") = true by decide, if_true]
  refine W.KFB.if_so (by decide) ?_
  refine wpAny_bind (ESX.check_bound F.excBase_ValueError hC' ho rfl ?_)
  refine wpAny_bind (wpAny_pure (wpAny_pure ?_))
  refine ⟨Code.quiet_builtin _ (by decide +kernel), codeAny_builtin F.excBase_ValueError.initEntry ?_⟩
  rw [Around.under_plainId F.excBase_ValueError.init.plain _]
  wp_walk
  refine fin _ hp.objs.size (fun b o hb hbo => ?_) ?_
  · rw [Heap.get?_update_other _ _ (Ne.symm hb)]
    exact Heap.get?_push_of_some _ hbo
  · rw [Heap.get?_update_self _ (Heap.get?_push_of_some _ ho) rfl]
    rfl
theorem callWith_mw {M : Model} {A : Around} {E : Value → Shared → Prop} {s : Shared} {i : String} {u x : Addr} {pos : Pos} {env : Env} {e : Expr} {Q : Value → Shared → Prop}
    (h : wpAny M A (spliced (backTo pos (starEach (e :: []) env))) (fun vs s₁ => PySem.W.KxsAt i u x s₁.heap ∧ wpAny M A (call (.ref u) vs) Q E s₁) E s)
    (he : starEach (e :: []) env = (false, eval e env) :: starEach [] env := by rfl) :
    wpAny M A (callWith pos (.ref u) [] (backTo pos (starEach (e :: []) env)) []) Q E s := by
  rw [he] at h ⊢
  refine PySem.W.kxs_callWith (i := i) (x := x) rfl ?_
  exact Calls.evalArgs_plain h
/-- what the written part says of an own exception class whose __init__ says super(), and of that __init__ -/
structure SupK (P : Program) (K : PySem.W.Frag) (f c cc C : Addr) : Prop where
  oex : OexC K C
  code : ∃ (ccl : Value) (cdd : Option Addr) (vs : Array Value) (ccs : Array (Option Value)) (file : Str) (tf : Tok), K.lookup c = some ⟨ccl, cdd, .fields vs, ccs⟩ ∧ vs[2]? = some (.str file tf) ∧ ((P.main.file : Str) == file) = true
  cell : ∃ (cl : Value) (cld : Option Addr) (csl : Array (Option Value)), K.lookup cc = some ⟨cl, cld, .cell (some (.ref C)), csl⟩
  top : (P.main.scope.names.lookup ("super" : Str)).isSome = false
  self : PySem.W.mroIn K C (.ref C) = some true
  ve : PySem.W.mroIn K C (.type "ValueError") = some true
  opq : PySem.W.nsIn K cStatics "thirdparty.any" = some none
  sup : PySem.W.ks_superIn K C C "__init__" = some (some (.builtin "ValueError.__init__"))
  cls : ∃ cd, PySem.W.clsIn K C = some cd
def spIniB (K : PySem.W.Frag) (C : Addr) (n2 : Str) : Sp := fun vs H Q _ => ∃ (a : Addr) (v : V), vs = [.ref a, v] ∧ H a = some (exo a C none) ∧ BadV H v ∧ ∀ dx, H dx = none → dx ≠ a → Q .non (upd (upd H dx (exd dx [(n2, v)])) a (exo a C (some dx)))
/-- def __init__(self, n2): super().__init__(f'..{n2!r}'); self.n2 = n2 -/
theorem ok_iniB {P : Program} {w : World} {K : PySem.W.Frag} {mg : Str → Option Value} {base : Heap} {f c cc C : Addr} {qual n2 : Str} {params : Arguments} {sc : Scope} {kV doc pm ct oc : Value} {an od : Option Addr} {osl : Array (Option Value)} {head : Str}
    {p0 p1 p2 p3 p4 p5 p6 p7 p8 p9 p10 p11 p12 : Pos} {k4 : Nat} {ar : Arg} {kn : Nat} {pl : Env → Sem Bool}
    (hcall : ∀ env : Env, eval (.Call (.Attribute (.Call (.Name "super" p0) [] [] p1) "__init__" p2) [.JoinedStr [.Constant (.str head) k4 p3, .FormattedValue (.Name n2 p4) 114 none p5] p6] [] p7) env = (do
      let ov ← attributeBase (.Call (.Name "super" p0) [] [] p1) "__init__" env (eval (.Call (.Name "super" p0) [] [] p1) env)
      standAt p2.atName
      let (f, first) ← holding [ov] (getMethod ov "__init__" (pl env))
      callWith p7 f first (backTo p7 (starEach [.JoinedStr [.Constant (.str head) k4 p3, .FormattedValue (.Name n2 p4) 114 none p5] p6] env)) []))
    (hswap : ∀ env : Env, swapsWith (.Name n2 p11) (some (.Attribute (.Name "self" p9) n2 p10)) p12.line env = pure false)
    (lk : K.lookup f = some ⟨oc, od, .func (PySem.W.ksFn "__init__" qual params [.Expr (.Call (.Attribute (.Call (.Name "super" p0) [] [] p1) "__init__" p2) [.JoinedStr [.Constant (.str head) k4 p3, .FormattedValue (.Name n2 p4) 114 none p5] p6] [] p7) p8, .Assign [.Attribute (.Name "self" p9) n2 p10] (.Name n2 p11) p12] sc .none kV doc pm an (.ref c) ct cc), osl⟩)
    (hcd : PySem.W.codeIn K (.ref c) qual = true) (S : ScI sc "self" n2) (U : SupK P K f c cc C) (hsup : mg "super" = none) (hno : PySem.W.findIn K (.ref C) n2 = some none) (hh : head.length ≤ 1000)
    (hp : (params.posonlyargs ++ params.args).head? = some ar) (har : ar.arg = "self") (d2 : (n2 == ("__debug__" : Str)) = false) (c2 : (n2 == ("__classdict__" : Str)) = false) :
    FnOk P w K mg base CX0 (kn + 1) f (PySem.W.ksFn "__init__" qual params [.Expr (.Call (.Attribute (.Call (.Name "super" p0) [] [] p1) "__init__" p2) [.JoinedStr [.Constant (.str head) k4 p3, .FormattedValue (.Name n2 p4) 114 none p5] p6] [] p7) p8, .Assign [.Attribute (.Name "self" p9) n2 p10] (.Name n2 p11) p12] sc .none kV doc pm an (.ref c) ct cc) ["self", n2] (spIniB K C n2) := by
  refine ⟨fun vs H Q E h => ?_, fun A outer s H args us vs Q E hr e0 hb r hsp => ?_⟩
  · obtain ⟨a, v, rfl, _⟩ := h
    rfl
  obtain ⟨a, v, rfl, ha, hv, q⟩ := hsp
  obtain ⟨u1, u2, rfl, r1, r2⟩ := vals2 r
  obtain rfl : u1 = Value.ref a := r1
  have KX : K.In s.heap := e0.mod.kin.keeps fun b o e => (e0.bs b o e).1
  have lim : s.heap.NoLimit := e0.mod.nolimit.keeps fun b o e => (e0.bs b o e).1
  obtain ⟨ccl, cdd, vsC, ccs, file, tf, kc, hvs, hfile⟩ := U.code
  obtain ⟨cl0, cld, csl, kcc⟩ := U.cell
  obtain ⟨cdD, hcdD⟩ := U.cls
  refine ks_codeAny_call_defAt hr.depth (KX _ _ lk) rfl lim (PySem.W.codeRec_of KX hcd) rfl (binds := [("self", .ref a), (n2, u2)]) hb S.cell (fun x hx => ?_) (fun h₀ hns kp => ?_) S.co S.gen S.kind
  · rcases List.mem_cons.mp hx with rfl | hx
    · exact S.l1
    · rw [List.mem_singleton.mp hx]
      exact S.l2
  have I : Inv (cxF CX0 P w K mg base ["self", n2] qual sc f c cc A outer s H E) [] [some (.ref a), some v] H { s with heap := h₀, toks := s.toks + 2 } := inv_startF S hr.hd e0 rfl r2 (e0.mod.kin _ _ kcc) rfl hns kp
  generalize hs0 : ({ s with heap := h₀, toks := s.toks + 2 } : Shared) = s0 at I
  have hns0 : s0.heap.Ns s.heap.objs.size fun y => [(("self" : Str), Value.ref a), (n2, u2)].reverse.lookup y := by
    rw [← hs0]
    exact hns
  show _root_.PySem.wpAt _ (A.deeper (iEnv qual sc s.heap.objs.size f c cc)) (.func _ (iEnv qual sc s.heap.objs.size f c cc)) (execs _ (iEnv qual sc s.heap.objs.size f c cc)) _ _ s0
  have K0 : K.In s0.heap := I.kIn
  obtain ⟨t1, hoa⟩ := exo_at I.hok ha
  obtain ⟨oD, hD1, hD2⟩ : ∃ oD, s0.heap.get? C = some oD ∧ oD.data = .cls cdD := by
    unfold PySem.W.clsIn at hcdD
    split at hcdD
    · rename_i c0 d0 cd' sl0 ho0
      cases hcdD
      exact ⟨_, K0 _ _ ho0, rfl⟩
    · cases hcdD
  have hxC : a ≠ C := fun z => by
    rw [z, hD1] at hoa
    have z2 := Option.some.inj hoa
    rw [z2] at hD2
    cases hD2
  have hmself : List.lookup ("self" : Str) [(("self" : Str), Value.ref a), (n2, u2)].reverse = some (.ref a) := by
    show List.lookup ("self" : Str) [(n2, u2), (("self" : Str), Value.ref a)] = some (.ref a)
    have : (("self" : Str) == n2) = false := beq_eq_false_iff_ne.mpr S.ne
    simp [List.lookup, this]
  obtain ⟨hp0, g0, d0, tk0, os0⟩ := s0
  refine ks_wpAt_execs_cons (ks_wpAt_Expr_any (ks_wpAt_MethodCall (ks_wpAt_super_base S.sup S.cls (by decide) rfl (K0 _ _ lk) rfl hp rfl (K0 _ _ kc) rfl hvs hfile U.top ?_) (hcall _)) (by show (sc.kind == .module && _) = false; rw [S.kind]; rfl))
  refine PySem.W.ks_loadName_global S.kind S.sup (Calls.loadGlobal_builtin (env := iEnv qual sc s.heap.objs.size f c cc) (I.mod.glob.keeps I.bk) hsup (I.mod.blt.choose_spec.1.keeps I.bk) ((I.mod.blt.choose_spec.2 _ (by decide +kernel)).trans (by decide +kernel)) ⟨rfl, ?_⟩)
  refine wpAny_loadName_free S.kind S.cls rfl ⟨_, K0 _ _ kcc, rfl⟩ ?_
  rw [har]
  refine wpAny_loadName_local S.kind S.l1 hns0 hmself ?_
  refine ks_wpAny_isType_cls hD1 hD2 ⟨rfl, ?_⟩
  refine ks_wpAny_call_super hD1 hD2 hoa rfl (fun c e => by cases e) (PySem.W.looks_mroIn K0 U.self) (fun h1 e1 k1 => ?_)
  have I1 : Inv (cxF CX0 P w K mg base ["self", n2] qual sc f c cc A outer s H E) [] [some (.ref a), some v] H ⟨h1, g0, d0, tk0, os0⟩ := I.kept (t' := tk0) k1
  have K1 : K.In h1 := I1.kIn
  have hoa1 := k1 _ _ hoa
  have hks := U.sup
  unfold PySem.W.ks_superIn at hks
  rw [hcdD] at hks
  have hin : PySem.W.Looks (model P w) h1 (isInstance (.ref a) (.type "ValueError")) true := by
    have I2 : PySem.W.InstAt h1 a { cls := .ref C, dict := none, data := .fields #[.ref t1, .none, .none, .none, .bool false, .none] } C none := ⟨hoa1, rfl, rfl, trivial⟩
    exact I2.type.andThen (PySem.W.looks_mroIn K1 U.ve)
  refine PySem.W.kxs_getMethod PySem.W.kxs_ValueError e1 (PySem.W.looks_opaque K1 U.opq) (l₀ := cdD.mro) (fun A Q E s k q => wpAny_bind ((PySem.W.looks_clsIn K1 hcdD) A _ E s k (wpAny_pure q))) rfl K1 hks hin hxC (by decide) ?_
  have hu1 : (h1.push (PySem.W.kxs_mw "ValueError.__init__" a)).get? h1.objs.size = some (PySem.W.kxs_mw "ValueError.__init__" a) := Heap.get?_push_size _ rfl
  have I2 : Inv (cxF CX0 P w K mg base ["self", n2] qual sc f c cc A outer s H E) [] [some (.ref a), some v] H ⟨h1.push (PySem.W.kxs_mw "ValueError.__init__" a), g0, d0, tk0 + 1, os0⟩ := I1.kept (t' := tk0 + 1) fun b u e => Heap.get?_push_of_some _ e
  have I3 : Inv (cxF CX0 P w K mg base ["self", n2] qual sc f c cc A outer s H E) [(h1.objs.size, PySem.W.kxs_mw "ValueError.__init__" a)] [some (.ref a), some v] H ⟨h1.push (PySem.W.kxs_mw "ValueError.__init__" a), g0, d0, tk0 + 1, os0⟩ := I2.pins_of fun p hp => by
    rw [List.mem_singleton.mp hp]
    exact ⟨hu1, I1.hok.fresh (Nat.le_refl _), Nat.ne_of_gt I1.lt, I1.nofs (Nat.le_refl _), fun v z => by cases z⟩
  have hrZ : Room kn (cxF CX0 P w K mg base ["self", n2] qual sc f c cc A outer s H E).A := hr.deeper _
  have pv1 : ∀ pos, PE (cxF CX0 P w K mg base ["self", n2] qual sc f c cc A outer s H E) (.Name n2 pos) (tVar 1) := fun pos => pe_var (i := 1) rfl (.inl S.l2) d2 c2
  have pv0 : ∀ pos, PE (cxF CX0 P w K mg base ["self", n2] qual sc f c cc A outer s H E) (.Name "self" pos) (tVar 0) := fun pos => pe_var (i := 0) rfl (.inl S.l1)
  have pj : PE (cxF CX0 P w K mg base ["self", n2] qual sc f c cc A outer s H E) (.JoinedStr [.Constant (.str head) k4 p3, .FormattedValue (.Name n2 p4) 114 none p5] p6) _ := pe_joined (.cons pe_str (.cons (pe_fmtB hrZ (pv1 p4)) .nil))
  refine callWith_mw (i := "ValueError.__init__") (x := a) (args_cons (thn (pj.run _ _ _ H (fun x H1 => (∃ y, x = .str y) ∧ H1 = H) I3 ?_) fun v2 s2 ⟨x2, H2, J2, rx2, ⟨y2, ex2⟩, eH⟩ => args_nil ⟨(J2.pin (h1.objs.size, PySem.W.kxs_mw "ValueError.__init__" a) (List.mem_append_right _ (List.mem_singleton.mpr rfl))).1, ?_⟩))
  · refine ⟨head, rfl, ?_, v, rfl, hv, fun m hm => ⟨m, rfl, ?_, ⟨_, rfl⟩, rfl⟩⟩
    · rw [sizeLine_eq, strLen_append]
      have : (Str.empty).length = 0 := rfl
      omega
    · rw [sizeLine_eq, strLen_append, strLen_append]
      have : (Str.empty).length = 0 := rfl
      omega
  rw [eH] at J2
  refine bound_init U.oex J2 ha ?_ ?_ fun s3 J3 => ?_
  · exact (J2.pin (h1.objs.size, PySem.W.kxs_mw "ValueError.__init__" a) (List.mem_append_right _ (List.mem_singleton.mpr rfl))).1
  · rw [sizeLine_eq]
    show 1 ≤ 16777216
    decide
  refine wpAt_of_wpAny ?_
  have ps := pss_one (ps_ost (pv0 p9) (pv1 p11) (hswap _) (X := cxF CX0 P w K mg base ["self", n2] qual sc f c cc A outer s H E) (f := n2) (p' := p10) (pos := p12))
  refine wpAny_mono (ps.run _ s3 _ H { nx := fun _ H' => Q .non H', rt := Q } J3 ?_) (fun fl s' hs => ?_) fun e s' hs => hs
  · refine ⟨v, rfl, .ref a, rfl, a, C, rfl, U.oex, hno, .inl ⟨ha, fun dx h2 h3 => q dx h2 h3⟩⟩
  · cases fl with
    | ret u =>
      obtain ⟨v', σ', H', J, rv, q'⟩ := hs
      exact ⟨v', H', J.os, J.bare, J.base, J.hok, rv, q'⟩
    | next =>
      obtain ⟨σ', H', J, q'⟩ := hs
      exact ⟨.non, H', J.os, J.bare, J.base, J.hok, rfl, q'⟩
    | brk =>
      obtain ⟨_, _, _, q'⟩ := hs
      exact False.elim q'
    | cont =>
      obtain ⟨_, _, _, q'⟩ := hs
      exact False.elim q'
end
end Mv

set_option Elab.async false
set_option linter.all false
set_option maxRecDepth 100000
set_option maxHeartbeats 4000000
namespace Mv
open PySem PySem.Spec PyProof.Rows L2
abbrev sKN : Stmt := topS 17
def Kd.cn : Kd → Str
  | .list => "Kind" | .bag => "BagKind" | .set => "SetKind" | .first => "FirstKind" | .last => "LastKind" | .ends => "EndsKind" | .heads => "HeadsKind" | .tails => "TailsKind"
/-- the constant KIND_NAMES -/
def kindNames : List V := kds.map kdV
/-- what the module's top has written, as kind_named asks it -/
structure KTx (P : Program) (w : World) (K : PySem.W.Frag) (mg : Str → Option Value) (base : Heap) (cls : Kd → Addr) (CB : Addr) : Prop where
  mk0 : ∀ k, Mk0 K (cls k)
  g : ∀ k : Kd, mg k.cn = some (.ref (cls k))
  names : ∃ kn : Addr, mg "KIND_NAMES" = some (.ref kn) ∧ ∀ H : Hp, SqT K H kn kindNames
  oex : OexC K CB
  gCB : mg "BadKind" = some (.ref CB)
  ini : ∃ (fI : Addr) (fdI : FuncData), PySem.W.findIn K (.ref CB) "__init__" = some (some (.ref fI)) ∧ PySem.W.typeIn K (.ref fI) = some (.type "function") ∧ FnOk P w K mg base CX0 1 fI fdI ["self", "name"] (spIniB K CB "name") ∧ Binds K fdI ["self", "name"] []
/-- the thing is raised -/
def Rs (CB : Addr) (H : Hp) (v : V) (E : XK) : Prop := ∀ (d : Addr) (H' : Hp), Same H H' → H' d = some (.xd [("name", v)]) → E (.ref CB) (some d) H'
def spKN (cls : Kd → Addr) (CB : Addr) : Sp := fun vs H Q E => ∃ v : V, vs = [v] ∧ ((∃ k : Kd, v = .str k.nm ∧ ∀ (H' : Hp) (o : Addr), Same H H' → KObj cls H' o k → Q (.ref o) H') ∨ (BadV H v ∧ Rs CB H v E))
section
variable {P : Program} {w : World} {K : PySem.W.Frag} {mg : Str → Option Value} {base : Heap} {T : List (Addr × Str)} {cls : Kd → Addr} {CB : Addr}
theorem kind_new {H : Hp} {x dx : Addr} {k : Kd} (hx : H x = none) (hd : H dx = none) (ne : dx ≠ x) : Same H (upd (upd H dx (.own x)) x (.ins (cls k) dx [])) ∧ KObj cls (upd (upd H dx (.own x)) x (.ins (cls k) dx [])) x k := by
  refine ⟨fun b o e => ?_, dx, upd_same⟩
  rw [upd_ne (ne_of_none e hx), upd_ne (ne_of_none e hd)]
  exact e
theorem if_T {c : Bool} {A B : Prop} (hc : c = true) (h : A) : if c = true then A else B := by
  rw [if_pos hc]
  exact h
theorem if_F {c : Bool} {A B : Prop} (hc : c = false) (h : B) : if c = true then A else B := by
  rw [if_neg (by rw [hc]; exact Bool.false_ne_true)]
  exact h
theorem BadV.ext {H H' : Hp} {v : V} (b : BadV H v) (e : LamX.ExtN H H') : BadV H' v := by
  cases b with
  | str z h hl hc => exact .str z h hl hc
  | non => exact .non
  | int i h => exact .int i h
  | tup T h => exact .tup T (e _ _ h fun ps z => by cases z)
theorem eqV_str (a b : Str) : eqV (.str a) (.str b) = decide (a = b) := by first | rfl | simp [eqV]
theorem inV_strs (z : Str) : ∀ ks : List Kd, (∀ k : Kd, ¬ z = k.nm) → inV (.str z) (ks.map kdV) = false
  | [], _ => rfl
  | k :: ks, h => by
    show (eqV (.str k.nm) (.str z) || inV (.str z) (ks.map kdV)) = false
    rw [inV_strs z ks h, eqV_str, decide_eq_false fun e => h k e.symm]
    rfl
theorem raise_bad {H : Hp} {v : V} {E : XK} (b : BadV H v) (r : Rs CB H v E) : tMkO CB (spIniB K CB "name") [] (tCons (tVar 0) tNil) [some v] H fun cls d H' => E cls d H' := by
  refine ⟨v, rfl, by show 1 ≤ 1000; decide, fun a ha => ⟨a, v, rfl, upd_same, b.ext (ext_upd ha), fun dx hdx nda => ⟨rfl, dx, [(("name" : Str), v)], upd_same, by rw [upd_ne nda]; exact upd_same, ?_, r dx _ (fun c o e => ?_) upd_same⟩⟩⟩
  · rw [upd_ne nda] at hdx
    exact hdx
  · have ca : c ≠ a := ne_of_none e ha
    rw [upd_ne nda] at hdx
    have cd : c ≠ dx := ne_of_none e hdx
    rw [upd_ne cd, del_ne ca, upd_ne ca, upd_ne cd, upd_ne ca]
    exact e
theorem scKN : FnScope ["name"] ["name"] (defScope sKN) := ⟨rfl, rfl, rfl, by decide +kernel, rfl, by decide +kernel, by decide +kernel⟩
theorem ok_kn {f : Addr} {fd : FuncData} (F : Fun K "kind_named" "kind_named" sKN f fd) (B : Bi mg) (X : KTx P w K mg base cls CB) : FnOk P w K mg base (L2.CX P w) 3 f fd ["name"] (spKN cls CB) := by
  obtain ⟨fI, fdI, iC, tI, FI, bI⟩ := X.ini
  obtain ⟨kn, gN, tN⟩ := X.names
  refine F.okX scKN (fun vs H Q E h => ?_) (fun cdv A outer s H vs Q E hr h => ?_)
  · obtain ⟨v, rfl, _⟩ := h
    rfl
  · obtain ⟨v, rfl, h⟩ := h
    refine ⟨_, (pss_cons (ps_if (PW.pt (pw_or (pt_not (pt_val (pe_callB (id := "isinstance") call_isi (by rfl) B.isinstance (by decide +kernel) (pa_cons (pv 0) (pa_cons (pe_bltn (by rfl) B.str (by decide +kernel) (v := .ty "str") rfl) pa_nil))))) (pw_or1 (pt_cmpR op_notIn_seq (pv 0) (pe_glob (v := V.ref kn) (by rfl) gN rfl) (by rfl)))))
 (pss_one (ps_raise rfl (takes_of rfl rfl rfl rfl) (pmk_oex X.oex iC tI FI hr bI .nil pass0 (by rfl) X.gCB (pa_cons (pv 0) pa_nil)))) pss_nil)
 (pss_cons (ps_if (pt_cmpR op_eq (pv 0) pe_str (nomark _))
 (pss_one (ps_ret (pe_makeB (X.mk0 .list) (by rfl) (X.g .list)))) pss_nil)
 (pss_cons (ps_if (pt_cmpR op_eq (pv 0) pe_str (nomark _))
 (pss_one (ps_ret (pe_makeB (X.mk0 .bag) (by rfl) (X.g .bag)))) pss_nil)
 (pss_cons (ps_if (pt_cmpR op_eq (pv 0) pe_str (nomark _))
 (pss_one (ps_ret (pe_makeB (X.mk0 .set) (by rfl) (X.g .set)))) pss_nil)
 (pss_cons (ps_if (pt_cmpR op_eq (pv 0) pe_str (nomark _))
 (pss_one (ps_ret (pe_makeB (X.mk0 .first) (by rfl) (X.g .first)))) pss_nil)
 (pss_cons (ps_if (pt_cmpR op_eq (pv 0) pe_str (nomark _))
 (pss_one (ps_ret (pe_makeB (X.mk0 .last) (by rfl) (X.g .last)))) pss_nil)
 (pss_cons (ps_if (pt_cmpR op_eq (pv 0) pe_str (nomark _))
 (pss_one (ps_ret (pe_makeB (X.mk0 .ends) (by rfl) (X.g .ends)))) pss_nil)
 (pss_cons (ps_if (pt_cmpR op_eq (pv 0) pe_str (nomark _))
 (pss_one (ps_ret (pe_makeB (X.mk0 .heads) (by rfl) (X.g .heads)))) pss_nil)
 (pss_one (ps_ret (pe_makeB (X.mk0 .tails) (by rfl) (X.g .tails)))))))))))), ?_⟩
    rcases h with ⟨k, rfl, q⟩ | ⟨b, r⟩
    · simp only [tSeq, tAsg, gName, tOp, rI, rI0, rU, tUn, tVar, tC, tCB, tCons, tNil, tTest, tIfS, tRet, tRetN, tDrop, tNext, tBreak, tCont, rEq, rNe, CDiv, CDivN, CMul, tBM, tBM0, tTup, tLst, tAug, tIf, tAnd, tOr, tNot, tAndV, tOrV, tNotV, tIsN, tNotN, tB, scal, tCall, cxK, cxKn, rIxT, rIxL, rIn, rAppend, rReverse, tVals, tDSetd, tDGet, tDGet1, tDGet2, tDIn, tDNotIn, rSortV, rSortT, rPop, rSortL, rSortT, tSl, tNoPart, tPart, List.append_nil, L2.start, List.map_cons, List.map_nil, List.length_cons, List.length_nil, List.replicate_succ, List.replicate_zero, List.cons_append, List.nil_append, Nat.reduceAdd, Nat.reduceSub, exists_eq, exists_eq', List.getElem?_cons_zero, List.getElem?_cons_succ, List.set_cons_zero, List.set_cons_succ, Option.some.injEq, V.int.injEq, V.bl.injEq, V.str.injEq, V.ref.injEq, List.cons.injEq, and_true, true_and, and_false, false_and, reduceCtorEq, exists_false, or_false, false_or, exists_and_left, exists_and_right, exists_eq_left, exists_eq_left', exists_eq_right, exists_eq_right', exists_const, ite_true, ite_false, Bool.false_eq_true, if_true, if_false, decide_true, decide_false]
      refine ⟨.str k.nm, .ty "str", .type "str", .type "str", true, rfl, .ty _, .base (.str _), kit_ty (by decide +kernel), true, rfl, iteF ?_⟩
      have new : tMake0 (cls k) [some (.str k.nm)] H Q := fun x dx hx hd ne => by
        obtain ⟨s1, o1⟩ := kind_new (cls := cls) (k := k) hx hd ne
        exact q _ x s1 o1
      clear q
      refine ⟨kindNames, .inr (tN _), rfl, rfl, if_F (by cases k <;> decide +kernel) ?_⟩
      cases k <;> (repeat (first | exact ⟨rfl, if_T (by decide +kernel) new⟩ | refine ⟨rfl, if_F (by decide +kernel) ?_⟩)) <;> exact new
    · have rb := raise_bad (K := K) b r
      cases b with
      | str z h hl hc =>
        simp only [tSeq, tAsg, gName, tOp, rI, rI0, rU, tUn, tVar, tC, tCB, tCons, tNil, tTest, tIfS, tRet, tRetN, tDrop, tNext, tBreak, tCont, rEq, rNe, CDiv, CDivN, CMul, tBM, tBM0, tTup, tLst, tAug, tIf, tAnd, tOr, tNot, tAndV, tOrV, tNotV, tIsN, tNotN, tB, scal, tCall, cxK, cxKn, rIxT, rIxL, rIn, rAppend, rReverse, tVals, tDSetd, tDGet, tDGet1, tDGet2, tDIn, tDNotIn, rSortV, rSortT, rPop, rSortL, rSortT, tSl, tNoPart, tPart, List.append_nil, L2.start, List.map_cons, List.map_nil, List.length_cons, List.length_nil, List.replicate_succ, List.replicate_zero, List.cons_append, List.nil_append, Nat.reduceAdd, Nat.reduceSub, exists_eq, exists_eq', List.getElem?_cons_zero, List.getElem?_cons_succ, List.set_cons_zero, List.set_cons_succ, Option.some.injEq, V.int.injEq, V.bl.injEq, V.str.injEq, V.ref.injEq, List.cons.injEq, and_true, true_and, and_false, false_and, reduceCtorEq, exists_false, or_false, false_or, exists_and_left, exists_and_right, exists_eq_left, exists_eq_left', exists_eq_right, exists_eq_right', exists_const, ite_true, ite_false, Bool.false_eq_true, if_true, if_false, decide_true, decide_false]
        refine ⟨.str z, .ty "str", .type "str", .type "str", true, rfl, .ty _, .base (.str _), kit_ty (by decide +kernel), true, rfl, iteF ?_⟩
        exact ⟨kindNames, .inr (tN _), rfl, rfl, if_T (by unfold kindNames; rw [inV_strs z kds h]; rfl) rb⟩
      | non =>
        simp only [tSeq, tAsg, gName, tOp, rI, rI0, rU, tUn, tVar, tC, tCB, tCons, tNil, tTest, tIfS, tRet, tRetN, tDrop, tNext, tBreak, tCont, rEq, rNe, CDiv, CDivN, CMul, tBM, tBM0, tTup, tLst, tAug, tIf, tAnd, tOr, tNot, tAndV, tOrV, tNotV, tIsN, tNotN, tB, scal, tCall, cxK, cxKn, rIxT, rIxL, rIn, rAppend, rReverse, tVals, tDSetd, tDGet, tDGet1, tDGet2, tDIn, tDNotIn, rSortV, rSortT, rPop, rSortL, rSortT, tSl, tNoPart, tPart, List.append_nil, L2.start, List.map_cons, List.map_nil, List.length_cons, List.length_nil, List.replicate_succ, List.replicate_zero, List.cons_append, List.nil_append, Nat.reduceAdd, Nat.reduceSub, exists_eq, exists_eq', List.getElem?_cons_zero, List.getElem?_cons_succ, List.set_cons_zero, List.set_cons_succ, Option.some.injEq, V.int.injEq, V.bl.injEq, V.str.injEq, V.ref.injEq, List.cons.injEq, and_true, true_and, and_false, false_and, reduceCtorEq, exists_false, or_false, false_or, exists_and_left, exists_and_right, exists_eq_left, exists_eq_left', exists_eq_right, exists_eq_right', exists_const, ite_true, ite_false, Bool.false_eq_true, if_true, if_false, decide_true, decide_false]
        exact ⟨.non, .ty "str", .type "NoneType", .type "str", false, rfl, .ty _, .base .non, kit_ty (by decide +kernel), false, rfl, iteT rb⟩
      | int i hi =>
        simp only [tSeq, tAsg, gName, tOp, rI, rI0, rU, tUn, tVar, tC, tCB, tCons, tNil, tTest, tIfS, tRet, tRetN, tDrop, tNext, tBreak, tCont, rEq, rNe, CDiv, CDivN, CMul, tBM, tBM0, tTup, tLst, tAug, tIf, tAnd, tOr, tNot, tAndV, tOrV, tNotV, tIsN, tNotN, tB, scal, tCall, cxK, cxKn, rIxT, rIxL, rIn, rAppend, rReverse, tVals, tDSetd, tDGet, tDGet1, tDGet2, tDIn, tDNotIn, rSortV, rSortT, rPop, rSortL, rSortT, tSl, tNoPart, tPart, List.append_nil, L2.start, List.map_cons, List.map_nil, List.length_cons, List.length_nil, List.replicate_succ, List.replicate_zero, List.cons_append, List.nil_append, Nat.reduceAdd, Nat.reduceSub, exists_eq, exists_eq', List.getElem?_cons_zero, List.getElem?_cons_succ, List.set_cons_zero, List.set_cons_succ, Option.some.injEq, V.int.injEq, V.bl.injEq, V.str.injEq, V.ref.injEq, List.cons.injEq, and_true, true_and, and_false, false_and, reduceCtorEq, exists_false, or_false, false_or, exists_and_left, exists_and_right, exists_eq_left, exists_eq_left', exists_eq_right, exists_eq_right', exists_const, ite_true, ite_false, Bool.false_eq_true, if_true, if_false, decide_true, decide_false]
        exact ⟨.int i, .ty "str", .type "int", .type "str", false, rfl, .ty _, .base (.int i), kit_ty (by decide +kernel), false, rfl, iteT rb⟩
      | tup T hT =>
        simp only [tSeq, tAsg, gName, tOp, rI, rI0, rU, tUn, tVar, tC, tCB, tCons, tNil, tTest, tIfS, tRet, tRetN, tDrop, tNext, tBreak, tCont, rEq, rNe, CDiv, CDivN, CMul, tBM, tBM0, tTup, tLst, tAug, tIf, tAnd, tOr, tNot, tAndV, tOrV, tNotV, tIsN, tNotN, tB, scal, tCall, cxK, cxKn, rIxT, rIxL, rIn, rAppend, rReverse, tVals, tDSetd, tDGet, tDGet1, tDGet2, tDIn, tDNotIn, rSortV, rSortT, rPop, rSortL, rSortT, tSl, tNoPart, tPart, List.append_nil, L2.start, List.map_cons, List.map_nil, List.length_cons, List.length_nil, List.replicate_succ, List.replicate_zero, List.cons_append, List.nil_append, Nat.reduceAdd, Nat.reduceSub, exists_eq, exists_eq', List.getElem?_cons_zero, List.getElem?_cons_succ, List.set_cons_zero, List.set_cons_succ, Option.some.injEq, V.int.injEq, V.bl.injEq, V.str.injEq, V.ref.injEq, List.cons.injEq, and_true, true_and, and_false, false_and, reduceCtorEq, exists_false, or_false, false_or, exists_and_left, exists_and_right, exists_eq_left, exists_eq_left', exists_eq_right, exists_eq_right', exists_const, ite_true, ite_false, Bool.false_eq_true, if_true, if_false, decide_true, decide_false]
        exact ⟨.ref T, .ty "str", .type "tuple", .type "str", false, rfl, .ty _, .base (.tup hT), kit_ty (by decide +kernel), false, rfl, iteT rb⟩
end
end Mv

set_option Elab.async false
set_option linter.all false
set_option maxRecDepth 100000
set_option maxHeartbeats 4000000
namespace Mv
open PySem PySem.Spec PyProof.Rows L2
theorem dp_ints {K : PySem.W.Frag} {H : Hp} : ∀ xs : List Int, DpAll K H (xs.map V.int) (xs.map PyData.int)
  | [] => .nil
  | x :: xs => .cons (.int x) (dp_ints xs)
theorem eqvAll_ints : ∀ xs ys : List Int, PyData.eqvAll (xs.map PyData.int) (ys.map PyData.int) = decide (xs = ys)
  | [], [] => rfl
  | [], y :: ys => by simp [PyData.eqvAll]
  | x :: xs, [] => by simp [PyData.eqvAll]
  | x :: xs, y :: ys => by
    rw [List.map_cons, List.map_cons, PySem.W.eqv_all_cons, eqvAll_ints xs ys]
    by_cases h : x = y
    · subst h
      simp [PyData.eqv]
    · simp [PyData.eqv, h]
theorem shaped_ints (xs : List Int) : SeqAt.shaped (.tuple (xs.map PyData.int)) = true := by simp [SeqAt.shaped, PyData.canLay0, PyData.depth, PySem.W.ke_canLayAll0, PySem.W.ke_depthAll]
/-- tuples of ints, compared -/
theorem eq_tups {K : PySem.W.Frag} {H : Hp} {a b : Addr} {xs ys : List Int} {Q : VK} (ha : SqT K H a (xs.map V.int)) (hb : SqT K H b (ys.map V.int)) (q : Q (.bl (decide (xs = ys))) H) : rEqD K (.ref a) (.ref b) H Q :=
  ⟨_, _, .tup ha (dp_ints xs), .tup hb (dp_ints ys), shaped_ints xs, shaped_ints ys, by rw [show PyData.eqv (.tuple (xs.map PyData.int)) (.tuple (ys.map PyData.int)) = decide (xs = ys) from eqvAll_ints xs ys]; exact q⟩
theorem ne_tups {K : PySem.W.Frag} {H : Hp} {a b : Addr} {xs ys : List Int} {Q : VK} (ha : SqT K H a (xs.map V.int)) (hb : SqT K H b (ys.map V.int)) (q : Q (.bl (!decide (xs = ys))) H) : rNeD K (.ref a) (.ref b) H Q :=
  ⟨_, _, .tup ha (dp_ints xs), .tup hb (dp_ints ys), shaped_ints xs, shaped_ints ys, by rw [show PyData.eqv (.tuple (xs.map PyData.int)) (.tuple (ys.map PyData.int)) = decide (xs = ys) from eqvAll_ints xs ys]; exact q⟩
theorem Rs.ext {CB : Addr} {H H' : Hp} {v : V} {E : XK} (r : Rs CB H v E) (e : Same H H') : Rs CB H' v E := fun d H2 e2 h => r d H2 (e.trans e2) h
def spAl (K : PySem.W.Frag) (T : List (Addr × Str)) (CB : Addr) : Sp := fun vs H Q E => ∃ (v : V) (p r : Addr), vs = [v, .ref p, .ref r] ∧ ((∃ (k : Kd) (xs ys : List Int), v = .str k.nm ∧ WordS K H p xs ∧ WordS K H r ys ∧ xs.length ≤ 60 ∧ ys.length ≤ 60 ∧ LamX.Tabs T H ∧ ∀ H' : Hp, Gw T H H' → Q (.bl (decide (plainI k xs = plainI k ys))) H') ∨ (BadV H v ∧ Rs CB H v E))
end Mv

set_option Elab.async false
set_option linter.all false
set_option maxRecDepth 100000
set_option maxHeartbeats 4000000
namespace Mv
open PySem PySem.Spec PyProof.Rows L2
abbrev sKind : Stmt := topS 35
abbrev sSpan : Stmt := topS 37
abbrev sStep : Stmt := topS 38
abbrev sLet : Stmt := topS 39
/-! ### letters -/
structure Ltr where
  n : Int
  t : Int
  v : Int
def Ltr.o (e : Ltr) : HO := .tup [.int e.n, .int e.t, .int e.v]
abbrev LtL := List (Addr × Ltr)
def lts (L : LtL) : List Ltr := L.map (·.2)
structure Lts (H : Hp) (l : Addr) (L : LtL) : Prop where
  at_ : H l = some (.lst (L.map fun q => V.ref q.1))
  all : ∀ q ∈ L, H q.1 = some q.2.o
theorem Lts.same {H H' : Hp} {l : Addr} {L : LtL} (h : Lts H l L) (s : Same H H') : Lts H' l L := ⟨s _ _ h.at_, fun q hq => s _ _ (h.all q hq)⟩
theorem tup_wr {H H' : Hp} {a b : Addr} {ys zs : List V} (ha : H a = some (.lst ys)) (x : Sx a H H') (h : H b = some (.tup zs)) : H' b = some (.tup zs) := x _ _ (fun z => by
  rw [z, ha] at h
  cases h) h
theorem Lts.wr {H H' : Hp} {a l : Addr} {ys : List V} {L : LtL} (h : Lts H l L) (ha : H a = some (.lst ys)) (n : l ≠ a) (x : Sx a H H') : Lts H' l L := ⟨x _ _ n h.at_, fun q hq => tup_wr ha x (h.all q hq)⟩
theorem none_of {a b : Addr} {H H1 : Hp} (hs : Strm H1 a) (x : Sx a H H1) (h : H1 b = none) : H b = none ∧ b ≠ a := by
  have ne : b ≠ a := fun z => by
    subst z
    obtain ⟨zs, e, _⟩ := hs
    rw [e] at h
    cases h
  refine ⟨?_, ne⟩
  cases e : H b with
  | none => rfl
  | some o =>
    rw [x _ _ ne e] at h
    cases h
/-- letters in order: numbered from 0 on, no time before the one ahead -/
def Inord (L : List Ltr) : Prop := ∀ (i : Nat) (e : Ltr), L[i]? = some e → e.n = (i : Int) ∧ ∀ e' : Ltr, L[i + 1]? = some e' → e.t ≤ e'.t
theorem Inord.snoc {L : List Ltr} {e : Ltr} (h : Inord L) (hn : e.n = (L.length : Int)) (ht : ∀ e', L[L.length - 1]? = some e' → e'.t ≤ e.t) : Inord (L ++ [e]) := by
  intro i x hx
  by_cases c : i < L.length
  · rw [List.getElem?_append_left c] at hx
    obtain ⟨h1, h2⟩ := h i x hx
    refine ⟨h1, fun y hy => ?_⟩
    by_cases d : i + 1 < L.length
    · rw [List.getElem?_append_left d] at hy
      exact h2 y hy
    · have ei : i = L.length - 1 := by omega
      rw [List.getElem?_append_right (by omega), show i + 1 - L.length = 0 by omega] at hy
      obtain rfl : e = y := Option.some.inj hy
      exact ht x (by rw [← ei]; exact hx)
  · have hi : i < (L ++ [e]).length := (List.getElem?_eq_some_iff.mp hx).1
    rw [List.length_append, List.length_singleton] at hi
    obtain rfl : i = L.length := by omega
    rw [List.getElem?_append_right (Nat.le_refl _), Nat.sub_self] at hx
    obtain rfl : e = x := Option.some.inj hx
    refine ⟨hn, fun y hy => ?_⟩
    have := (List.getElem?_eq_some_iff.mp hy).1
    rw [List.length_append, List.length_singleton] at this
    omega
theorem Lts.snoc {H : Hp} {D p : Addr} {L : LtL} {e : Ltr} (h : Lts H D L) (hp : H p = some e.o) : Lts (upd H D (.lst (L.map (fun q => V.ref q.1) ++ [.ref p]))) D (L ++ [(p, e)]) := by
  refine ⟨by rw [upd_same, List.map_append]; rfl, fun q hq => ?_⟩
  rcases List.mem_append.mp hq with hq | hq
  · exact tup_wr h.at_ Sx.upd (h.all q hq)
  · rw [List.mem_singleton.mp hq]
    exact tup_wr h.at_ Sx.upd hp
section
variable {P : Program} {w : World} {K : PySem.W.Frag} {mg : Str → Option Value} {base : Heap} {T : List (Addr × Str)} {cls : Kd → Addr} {CB : Addr}
theorem scSpan : FnScope ["_law_stream_here", "_law_pick"] ["_law_stream_here"] (defScope sSpan) := ⟨rfl, rfl, rfl, by decide +kernel, rfl, by decide +kernel, by decide +kernel⟩
def spSpan : Sp := fun vs H Q _ => ∃ (a : Addr), vs = [.ref a] ∧ Strm H a ∧ ∀ (r : Int) (H' : Hp), 0 ≤ r → Sx a H H' → Strm H' a → Q (.int r) H'
theorem ok_span {f : Addr} {fd : FuncData} (F : Fun K "_law_span" "_law_span" sSpan f fd) (B : Bi mg) (cDraw : CalX CX0 P w K mg base 1 "_law_draw" spDraw) : FnOk P w K mg base CX0 2 f fd ["_law_stream_here"] spSpan := by
  refine F.ok scSpan (fun vs H Q E h => ?_) (fun cdv A outer s H vs Q E hr h => ?_)
  · obtain ⟨a, rfl, _⟩ := h
    rfl
  · obtain ⟨a, rfl, hs, q⟩ := h
    refine ⟨_, (pss_cons (ps_set (i := 1) scSpan.nd rfl (.inl rfl) (pe_cx cDraw hr (by decide) pass0 (by rfl) (pa_cons (pv 0) (pa_cons pe_int pa_nil))))
 (pss_cons (ps_if (pt_cmpR op_lt (pv 1) pe_int (nomark _))
 (pss_one (ps_ret (pe_op op_mod (pe_callTy call_int1 (by rfl) B.int (by decide +kernel) (pa_cons (pv 1) pa_nil)) pe_int))) pss_nil)
 (pss_cons (ps_if (pt_cmpR op_eq (pv 1) pe_int (nomark _))
 (pss_one (ps_ret (pe_cx cDraw hr (by decide) pass0 (by rfl) (pa_cons (pv 0) (pa_cons pe_int pa_nil))))) pss_nil)
 (pss_one (ps_ret (pe_op op_add pe_int (pe_cx cDraw hr (by decide) pass0 (by rfl) (pa_cons (pv 0) (pa_cons pe_int pa_nil))))))))), ?_⟩
    simp only [tSeq, tAsg, gName, tOp, rI, rI0, rU, tUn, tVar, tC, tCB, tCons, tNil, tTest, tIfS, tRet, tRetN, tDrop, tNext, tBreak, tCont, rEq, rNe, CDiv, CDivN, CMul, tBM, tBM0, tTup, tLst, tAug, tIf, tAnd, tOr, tNot, tAndV, tOrV, tNotV, tIsN, tNotN, tB, scal, tCall, cxK, cxKn, rIxT, rIxL, rIn, rAppend, rReverse, tVals, tDSetd, tDGet, tDGet1, tDGet2, tDIn, tDNotIn, rSortV, rSortT, rPop, rSortL, rSortT, tSl, tNoPart, tPart, List.append_nil, L2.start, List.map_cons, List.map_nil, List.length_cons, List.length_nil, List.replicate_succ, List.replicate_zero, List.cons_append, List.nil_append, Nat.reduceAdd, Nat.reduceSub, exists_eq, exists_eq', List.getElem?_cons_zero, List.getElem?_cons_succ, List.set_cons_zero, List.set_cons_succ, Option.some.injEq, V.int.injEq, V.bl.injEq, V.str.injEq, V.ref.injEq, List.cons.injEq, and_true, true_and, and_false, false_and, reduceCtorEq, exists_false, or_false, false_or, exists_and_left, exists_and_right, exists_eq_left, exists_eq_left', exists_eq_right, exists_eq_right', exists_const, ite_true, ite_false, Bool.false_eq_true, if_true, if_false, decide_true, decide_false]
    refine spDraw_of (by decide) hs fun r H1 h0 h1 x1 t1 => ⟨r, rfl, ite2 (fun c => .inl ⟨r, rfl, by decide, q _ H1 (Int.emod_nonneg _ (by decide)) x1 t1⟩) (fun c => ⟨rfl, ite2 (fun c2 => ?_) (fun c2 => ?_)⟩)⟩
    · exact spDraw_of (by decide) t1 fun r2 H2 g0 g1 x2 t2 => q r2 H2 g0 (x1.trans x2) t2
    · exact spDraw_of (by decide) t1 fun r2 H2 g0 g1 x2 t2 => ⟨r2, rfl, q _ H2 (by omega) (x1.trans x2) t2⟩
theorem scStep : FnScope ["_law_stream_here", "_law_span_here", "_law_pick"] ["_law_stream_here", "_law_span_here"] (defScope sStep) := ⟨rfl, rfl, rfl, by decide +kernel, rfl, by decide +kernel, by decide +kernel⟩
def spStep : Sp := fun vs H Q _ => ∃ (a : Addr) (g : Int), vs = [.ref a, .int g] ∧ 0 ≤ g ∧ Strm H a ∧ ∀ (r : Int) (H' : Hp), 0 ≤ r → Sx a H H' → Strm H' a → Q (.int r) H'
theorem ok_step {f : Addr} {fd : FuncData} (F : Fun K "_law_step" "_law_step" sStep f fd) (B : Bi mg) (cDraw : CalX CX0 P w K mg base 1 "_law_draw" spDraw) : FnOk P w K mg base CX0 2 f fd ["_law_stream_here", "_law_span_here"] spStep := by
  refine F.ok scStep (fun vs H Q E h => ?_) (fun cdv A outer s H vs Q E hr h => ?_)
  · obtain ⟨a, g, rfl, _⟩ := h
    rfl
  · obtain ⟨a, g, rfl, hg, hs, q⟩ := h
    refine ⟨_, (pss_cons (ps_set (i := 2) scStep.nd rfl (.inl rfl) (pe_cx cDraw hr (by decide) pass0 (by rfl) (pa_cons (pv 0) (pa_cons pe_int pa_nil))))
 (pss_cons (ps_if (pt_cmpR op_lt (pv 2) pe_int (nomark _))
 (pss_one (ps_ret pe_int)) pss_nil)
 (pss_cons (ps_if (pt_cmpR op_eq (pv 2) pe_int (nomark _))
 (pss_one (ps_ret (pv 1))) pss_nil)
 (pss_cons (ps_if (pt_cmpR op_eq (pv 2) pe_int (nomark _))
 (pss_one (ps_ret (pe_op op_add (pv 1) pe_int))) pss_nil)
 (pss_cons (ps_if (pt_cmpR op_eq (pv 2) pe_int (nomark _))
 (pss_one (ps_ret (pe_op op_add (pe_op op_add (pv 1) pe_int) (pe_cx cDraw hr (by decide) pass0 (by rfl) (pa_cons (pv 0) (pa_cons pe_int pa_nil)))))) pss_nil)
 (pss_cons (ps_if (pt_cmpR op_eq (pv 2) pe_int (nomark _))
 (pss_one (ps_ret (pe_op op_fdiv (pv 1) pe_int))) pss_nil)
 (pss_one (ps_ret (pe_cx cDraw hr (by decide) pass0 (by rfl) (pa_cons (pv 0) (pa_cons pe_int pa_nil))))))))))), ?_⟩
    simp only [tSeq, tAsg, gName, tOp, rI, rI0, rU, tUn, tVar, tC, tCB, tCons, tNil, tTest, tIfS, tRet, tRetN, tDrop, tNext, tBreak, tCont, rEq, rNe, CDiv, CDivN, CMul, tBM, tBM0, tTup, tLst, tAug, tIf, tAnd, tOr, tNot, tAndV, tOrV, tNotV, tIsN, tNotN, tB, scal, tCall, cxK, cxKn, rIxT, rIxL, rIn, rAppend, rReverse, tVals, tDSetd, tDGet, tDGet1, tDGet2, tDIn, tDNotIn, rSortV, rSortT, rPop, rSortL, rSortT, tSl, tNoPart, tPart, List.append_nil, L2.start, List.map_cons, List.map_nil, List.length_cons, List.length_nil, List.replicate_succ, List.replicate_zero, List.cons_append, List.nil_append, Nat.reduceAdd, Nat.reduceSub, exists_eq, exists_eq', List.getElem?_cons_zero, List.getElem?_cons_succ, List.set_cons_zero, List.set_cons_succ, Option.some.injEq, V.int.injEq, V.bl.injEq, V.str.injEq, V.ref.injEq, List.cons.injEq, and_true, true_and, and_false, false_and, reduceCtorEq, exists_false, or_false, false_or, exists_and_left, exists_and_right, exists_eq_left, exists_eq_left', exists_eq_right, exists_eq_right', exists_const, ite_true, ite_false, Bool.false_eq_true, if_true, if_false, decide_true, decide_false]
    refine spDraw_of (by decide) hs fun r H1 h0 h1 x1 t1 => ⟨r, rfl, ite2 (fun c => q 0 H1 (by decide) x1 t1) (fun c => ⟨rfl, ite2 (fun c2 => q g H1 hg x1 t1) (fun c2 => ⟨rfl, ite2 (fun c3 => ?_) (fun c3 => ⟨rfl, ite2 (fun c4 => ?_) (fun c4 => ⟨rfl, ite2 (fun c5 => ?_) (fun c5 => ?_)⟩)⟩)⟩)⟩)⟩
    · exact q _ H1 (by omega) x1 t1
    · exact spDraw_of (by decide) t1 fun r2 H2 g0 g1 x2 t2 => ⟨r2, rfl, q _ H2 (by omega) (x1.trans x2) t2⟩
    · exact ⟨⟨by decide, by decide⟩, q _ H1 (Int.ediv_nonneg hg (by decide)) x1 t1⟩
    · exact spDraw_of (by decide) t1 fun r2 H2 g0 g1 x2 t2 => q _ H2 g0 (x1.trans x2) t2
theorem scLet : FnScope ["_law_stream_here", "_law_count", "_law_span_here", "_law_style", "_law_letters_here", "_law_time", "_law_number"] ["_law_stream_here", "_law_count", "_law_span_here", "_law_style"] (defScope sLet) := ⟨rfl, rfl, rfl, by decide +kernel, rfl, by decide +kernel, by decide +kernel⟩
def spLet : Sp := fun vs H Q _ => ∃ (a : Addr) (n : Nat) (g z : Int), vs = [.ref a, .int (n : Int), .int g, .int z] ∧ n ≤ 900 ∧ 0 ≤ g ∧ Strm H a ∧ ∀ (H' : Hp) (l : Addr) (L : LtL), Sx a H H' → Strm H' a → l ≠ a → H l = none → Lts H' l L → L.length = n → Inord (lts L) → Q (.ref l) H'
theorem ok_let {f : Addr} {fd : FuncData} (F : Fun K "_law_letters" "_law_letters" sLet f fd) (B : Bi mg) (cValue : CalX CX0 P w K mg base 3 "_law_value" spValue) (cStep : CalX CX0 P w K mg base 2 "_law_step" spStep) : FnOk P w K mg base CX0 4 f fd ["_law_stream_here", "_law_count", "_law_span_here", "_law_style"] spLet := by
  refine F.ok scLet (fun vs H Q E h => ?_) (fun cdv A outer s H vs Q E hr h => ?_)
  · obtain ⟨a, n, g, z, rfl, _⟩ := h
    rfl
  · obtain ⟨a, n, g, z, rfl, hn, hg, hs, q⟩ := h
    refine ⟨_, (pss_cons (ps_set (i := 4) scLet.nd rfl (.inl rfl) (pe_lst pa_nil))
 (pss_cons (ps_set (i := 5) scLet.nd rfl (.inl rfl) (pe_cx cValue hr (by decide) pass0 (by rfl) (pa_cons (pv 0) (pa_cons (pv 3) pa_nil))))
 (pss_cons (ps_for PassesOwn.never rfl (pi_range1 (by rfl) B.range (pa_cons (pv 1) pa_nil)) (pg_name (i := 6) scLet.nd rfl (.inl rfl))
 (pss_cons (ps_if (pt_cmpR op_gt (pv 6) pe_int (nomark _))
 (pss_one (ps_set (i := 5) scLet.nd rfl (.inl rfl) (pe_op op_add (pv 5) (pe_cx cStep hr (by decide) pass0 (by rfl) (pa_cons (pv 0) (pa_cons (pv 2) pa_nil)))))) pss_nil)
 (pss_one (ps_expr (pe_bm PySem.F.plainAttrs_list PySem.F.slot_list_append PySem.F.type_list_append mt_append (pv 4) (pa_cons (pe_tup (pa_cons (pv 6) (pa_cons (pv 5) (pa_cons (pe_cx cValue hr (by decide) pass0 (by rfl) (pa_cons (pv 0) (pa_cons (pv 3) pa_nil))) pa_nil)))) pa_nil))))))
 (pss_one (ps_ret (pv 4)))))), ?_⟩
    simp only [tSeq, tAsg, gName, tOp, rI, rI0, rU, tUn, tVar, tC, tCB, tCons, tNil, tTest, tIfS, tRet, tRetN, tDrop, tNext, tBreak, tCont, rEq, rNe, CDiv, CDivN, CMul, tBM, tBM0, tTup, tLst, tAug, tIf, tAnd, tOr, tNot, tAndV, tOrV, tNotV, tIsN, tNotN, tB, scal, tCall, cxK, cxKn, rIxT, rIxL, rIn, rAppend, rReverse, tVals, tDSetd, tDGet, tDGet1, tDGet2, tDIn, tDNotIn, rSortV, rSortT, rPop, rSortL, rSortT, tSl, tNoPart, tPart, List.append_nil, L2.start, List.map_cons, List.map_nil, List.length_cons, List.length_nil, List.replicate_succ, List.replicate_zero, List.cons_append, List.nil_append, Nat.reduceAdd, Nat.reduceSub, exists_eq, exists_eq', List.getElem?_cons_zero, List.getElem?_cons_succ, List.set_cons_zero, List.set_cons_succ, Option.some.injEq, V.int.injEq, V.bl.injEq, V.str.injEq, V.ref.injEq, List.cons.injEq, and_true, true_and, and_false, false_and, reduceCtorEq, exists_false, or_false, false_or, exists_and_left, exists_and_right, exists_eq_left, exists_eq_left', exists_eq_right, exists_eq_right', exists_const, ite_true, ite_false, Bool.false_eq_true, if_true, if_false, decide_true, decide_false]
    refine ⟨Nat.zero_le _, fun D hD => ⟨a, z, rfl, hs.same (same_upd hD), fun tm0 H1 x1 t1 => ?_⟩⟩
    have neD : D ≠ a := (hs.ne hD).symm
    have hD1 := x1 _ _ neD (upd_same (H := H) (a := D) (o := .lst []))
    refine ⟨.int (n : Int), rfl, n, rfl, by omega, by omega, ?_⟩
    rw [Int.toNat_natCast]
    refine for_range (n := n) (fun i σ H' => ∃ (tm : Int) (y6 : Option V) (L : LtL), σ = [some (.ref a), some (.int (n : Int)), some (.int g), some (.int z), some (.ref D), some (.int tm), y6] ∧ Sx a H H' ∧ Strm H' a ∧ Lts H' D L ∧ L.length = i ∧ Inord (lts L) ∧ ∀ e, (lts L)[i - 1]? = some e → e.t = tm)
      ⟨tm0, none, [], rfl, (Sx.of (same_upd hD)).trans x1, t1, ⟨hD1, fun q hq => by cases hq⟩, rfl, fun i e h => (by cases h), fun e h => (by cases h)⟩ ?_ ?_
    · rintro i σ H2 hi ⟨tm, y6, L, rfl, x2, t2, lt, rfl, io, lst⟩
      simp only [tSeq, tAsg, gName, tOp, rI, rI0, rU, tUn, tVar, tC, tCB, tCons, tNil, tTest, tIfS, tRet, tRetN, tDrop, tNext, tBreak, tCont, rEq, rNe, CDiv, CDivN, CMul, tBM, tBM0, tTup, tLst, tAug, tIf, tAnd, tOr, tNot, tAndV, tOrV, tNotV, tIsN, tNotN, tB, scal, tCall, cxK, cxKn, rIxT, rIxL, rIn, rAppend, rReverse, tVals, tDSetd, tDGet, tDGet1, tDGet2, tDIn, tDNotIn, rSortV, rSortT, rPop, rSortL, rSortT, tSl, tNoPart, tPart, List.append_nil, L2.start, List.map_cons, List.map_nil, List.length_cons, List.length_nil, List.replicate_succ, List.replicate_zero, List.cons_append, List.nil_append, Nat.reduceAdd, Nat.reduceSub, exists_eq, exists_eq', List.getElem?_cons_zero, List.getElem?_cons_succ, List.set_cons_zero, List.set_cons_succ, Option.some.injEq, V.int.injEq, V.bl.injEq, V.str.injEq, V.ref.injEq, List.cons.injEq, and_true, true_and, and_false, false_and, reduceCtorEq, exists_false, or_false, false_or, exists_and_left, exists_and_right, exists_eq_left, exists_eq_left', exists_eq_right, exists_eq_right', exists_const, ite_true, ite_false, Bool.false_eq_true, if_true, if_false, decide_true, decide_false]
      have fin : ∀ (tm' : Int) (H3 : Hp), Sx a H H3 → Strm H3 a → Lts H3 D L → tm ≤ tm' → tyV K "list" (V.ref D) H3 ∧ spValue [V.ref a, V.int z] H3 (fun x_1 H1 => 3 ≤ sizeLine ∧ ∀ (p : Addr), H1 p = none → ∃ x_2, upd H1 p (HO.tup [V.int (0 + ↑(List.length L)), V.int tm', x_1]) D = some (HO.lst x_2) ∧ x_2.length < sizeLine ∧ Sx a H (upd (upd H1 p (HO.tup [V.int (0 + ↑(List.length L)), V.int tm', x_1])) D (HO.lst (x_2 ++ [V.ref p]))) ∧ Strm (upd (upd H1 p (HO.tup [V.int (0 + ↑(List.length L)), V.int tm', x_1])) D (HO.lst (x_2 ++ [V.ref p]))) a ∧ ∃ x_3 : LtL, Lts (upd (upd H1 p (HO.tup [V.int (0 + ↑(List.length L)), V.int tm', x_1])) D (HO.lst (x_2 ++ [V.ref p]))) D x_3 ∧ List.length x_3 = List.length L + 1 ∧ Inord (lts x_3) ∧ ∀ (e : Ltr), (lts x_3)[List.length L + 1 - 1]? = some e → e.t = tm') E0 := by
        intro tm' H3 x3 t3 l3 hle
        refine ⟨.inl ⟨rfl, _, .inl (.inl l3.at_)⟩, a, z, rfl, t3, fun v H4 x4 t4 => ⟨by decide, fun p hp => ?_⟩⟩
        obtain ⟨ns, ea, _⟩ := id t3
        have l4 := l3.wr ea neD x4
        have sp := same_upd (o := .tup [.int (0 + ↑(List.length L)), .int tm', .int v]) hp
        have l5 := l4.same sp
        have t5 := t4.same sp
        have ho : upd H4 p (.tup [.int (0 + ↑(List.length L)), .int tm', .int v]) p = some (Ltr.o ⟨0 + ↑(List.length L), tm', v⟩) := upd_same
        have x5 := (x3.trans x4).trans (Sx.of sp)
        generalize upd H4 p _ = H5 at l5 t5 ho x5 ⊢
        refine ⟨_, l5.at_, by rw [List.length_map]; exact small1000 (by omega), fun b o nb e => ?_, ?_, L ++ [(p, ⟨0 + ↑(List.length L), tm', v⟩)], l5.snoc ho, by rw [List.length_append]; rfl, ?_, ?_⟩
        · rw [upd_ne (ne_of_none e hD)]
          exact x5 _ _ nb e
        · obtain ⟨ms, e, l⟩ := t5
          exact ⟨ms, by rw [upd_ne neD.symm]; exact e, l⟩
        · unfold lts at io lst ⊢
          rw [List.map_append]
          refine io.snoc ?_ ?_
          · show (0 : Int) + _ = _
            rw [List.length_map, Int.zero_add]
          · intro e' h'
            rw [List.length_map] at h'
            rw [lst e' h']
            exact hle
        · intro e he
          unfold lts at he
          rw [List.map_append, Nat.add_sub_cancel, List.getElem?_append_right (by rw [List.length_map]; exact Nat.le_refl _), List.length_map, Nat.sub_self] at he
          rw [← Option.some.inj he]
      refine ite2 (fun c => ?_) (fun c => fin tm H2 x2 t2 lt (Int.le_refl _))
      refine ⟨a, g, rfl, hg, t2, fun r H3 r0 x3 t3 => ⟨r, rfl, ?_⟩⟩
      obtain ⟨ns, ea, _⟩ := id t2
      exact fin (tm + r) H3 (x2.trans x3) t3 (lt.wr ea neD x3) (by omega)
    · rintro σ H2 ⟨tm, y6, L, rfl, x2, t2, lt, lL, io, lst⟩
      exact ⟨.ref D, rfl, q H2 D L x2 t2 neD hD lt lL io⟩
end
end Mv

set_option Elab.async false
set_option linter.all false
set_option maxRecDepth 100000
set_option maxHeartbeats 4000000
namespace Mv
open PySem PySem.Spec PyProof.Rows L2
abbrev sCO : Stmt := topS 25
abbrev sSO : Stmt := topS 27
/-! ### chains -/
def near (g : Int) (ch : List Ltr) (e : Ltr) : Bool := match ch.getLast? with
  | some x => decide (e.t ≤ x.t + g)
  | none => false
def cstep (g : Int) (CC : List (List Ltr)) (e : Ltr) : List (List Ltr) := match CC.getLast? with
  | some ch => if near g ch e = true then CC.dropLast ++ [ch ++ [e]] else CC ++ [[e]]
  | none => [[e]]
def chn (g : Int) (L : List Ltr) : List (List Ltr) := L.foldl (cstep g) []
theorem chn_snoc (g : Int) (L : List Ltr) (e : Ltr) : chn g (L ++ [e]) = cstep g (chn g L) e := by
  unfold chn
  rw [List.foldl_append]
  rfl
theorem Lts.ext {H H' : Hp} {l : Addr} {L : LtL} (h : Lts H l L) (e : LamX.ExtN H H') : Lts H' l L := ⟨e _ _ h.at_ (fun ps z => by cases z), fun q hq => e _ _ (h.all q hq) (fun ps z => by cases z)⟩
abbrev ChL := List (Addr × LtL)
def chs (C : ChL) : List (List Ltr) := C.map fun c => lts c.2
structure Chs (H : Hp) (c : Addr) (C : ChL) : Prop where
  at_ : H c = some (.lst (C.map fun q => V.ref q.1))
  all : ∀ q ∈ C, Lts H q.1 q.2
  ne : ∀ q ∈ C, q.2 ≠ []
theorem Chs.same {H H' : Hp} {c : Addr} {C : ChL} (h : Chs H c C) (s : Same H H') : Chs H' c C := ⟨s _ _ h.at_, fun q hq => (h.all q hq).same s, h.ne⟩
theorem cstep_last {g : Int} {CC : List (List Ltr)} {ch : List Ltr} {x e : Ltr} : cstep g (CC ++ [ch ++ [x]]) e = if e.t ≤ x.t + g then CC ++ [(ch ++ [x]) ++ [e]] else CC ++ [ch ++ [x]] ++ [[e]] := by
  have n : near g (ch ++ [x]) e = decide (e.t ≤ x.t + g) := by
    unfold near
    rw [List.getLast?_concat]
  unfold cstep
  rw [List.getLast?_concat]
  simp only [n, List.dropLast_concat, decide_eq_true_eq]
/-- the chains as the loop has them -/
structure ChI (H H' : Hp) (D : Addr) (C : ChL) (i : Nat) : Prop where
  sm : Same H H'
  ch : Chs H' D C
  nd : (C.map (·.1)).Nodup
  nw : ∀ q ∈ C, H q.1 = none ∧ q.1 ≠ D
  ln : C.length ≤ i ∧ ∀ q ∈ C, q.2.length ≤ i
theorem ChI.fresh {H H' : Hp} {D p ep : Addr} {C : ChL} {i : Nat} {e : Ltr} (h : ChI H H' D C i) (hD : H D = none) (hp : H' p = none) (he : H' ep = some e.o) :
    ChI H (upd (upd H' p (.lst [.ref ep])) D (.lst (C.map (fun q => V.ref q.1) ++ [.ref p]))) D (C ++ [(p, [(ep, e)])]) (i + 1) := by
  have sp := same_upd (o := .lst [.ref ep]) hp
  have npD : p ≠ D := fun z => by
    rw [z, h.ch.at_] at hp
    cases hp
  have hpH : H p = none := by
    cases x : H p with
    | none => rfl
    | some o =>
      rw [h.sm _ _ x] at hp
      cases hp
  have tups : ∀ {t : Addr} {zs : List V}, H' t = some (.tup zs) → upd (upd H' p (.lst [.ref ep])) D (.lst (C.map (fun q => V.ref q.1) ++ [.ref p])) t = some (.tup zs) := fun {t zs} ht => tup_wr (sp _ _ h.ch.at_) Sx.upd (sp _ _ ht)
  refine ⟨fun b o x => ?_, ⟨by rw [upd_same, List.map_append]; rfl, fun q hq => ?_, fun q hq => ?_⟩, ?_, fun q hq => ?_, ?_, fun q hq => ?_⟩
  · rw [upd_ne (ne_of_none x hD)]
    exact sp _ _ (h.sm _ _ x)
  · rcases List.mem_append.mp hq with hq | hq
    · have l := h.ch.all q hq
      exact ⟨by rw [upd_ne (h.nw q hq).2]; exact sp _ _ l.at_, fun r hr => tups (l.all r hr)⟩
    · rw [List.mem_singleton.mp hq]
      exact ⟨by rw [upd_ne npD]; exact upd_same, fun r hr => by rw [List.mem_singleton.mp hr]; exact tups he⟩
  · rcases List.mem_append.mp hq with hq | hq
    · exact h.ch.ne q hq
    · rw [List.mem_singleton.mp hq]
      exact fun z => by cases z
  · rw [List.map_append]
    refine List.nodup_append.mpr ⟨h.nd, List.pairwise_singleton _ _, fun a ha b hb => ?_⟩
    obtain ⟨q, hq, rfl⟩ := List.mem_map.mp ha
    have : b = p := List.mem_singleton.mp hb
    rw [this]
    intro z
    rw [← z, (h.ch.all q hq).at_] at hp
    cases hp
  · rcases List.mem_append.mp hq with hq | hq
    · exact h.nw q hq
    · rw [List.mem_singleton.mp hq]
      exact ⟨hpH, npD⟩
  · rw [List.length_append, List.length_singleton]
    have := h.ln.1
    omega
  · rcases List.mem_append.mp hq with hq | hq
    · have := h.ln.2 q hq
      omega
    · rw [List.mem_singleton.mp hq]
      exact Nat.succ_le_succ (Nat.zero_le _)
theorem ChI.grow {H H' : Hp} {D c ep : Addr} {C : ChL} {M : LtL} {i : Nat} {e : Ltr} (h : ChI H H' D (C ++ [(c, M)]) i) (he : H' ep = some e.o) :
    ChI H (upd H' c (.lst (M.map (fun q => V.ref q.1) ++ [.ref ep]))) D (C ++ [(c, M ++ [(ep, e)])]) (i + 1) := by
  have hc : (c, M) ∈ C ++ [(c, M)] := List.mem_append_right _ (List.mem_singleton.mpr rfl)
  have lc := h.ch.all _ hc
  obtain ⟨n1, n2⟩ := h.nw _ hc
  have nd := h.nd
  rw [List.map_append] at nd
  obtain ⟨nd1, _, nd3⟩ := List.nodup_append.mp nd
  have tups : ∀ {t : Addr} {zs : List V}, H' t = some (.tup zs) → upd H' c (.lst (M.map (fun q => V.ref q.1) ++ [.ref ep])) t = some (.tup zs) := fun {t zs} ht => tup_wr lc.at_ Sx.upd ht
  have mp : (C ++ [(c, M ++ [(ep, e)])]).map (fun q => V.ref q.1) = (C ++ [(c, M)]).map (fun q => V.ref q.1) := by
    rw [List.map_append, List.map_append]
    rfl
  refine ⟨fun b o x => ?_, ⟨by rw [mp, upd_ne n2.symm]; exact h.ch.at_, fun q hq => ?_, fun q hq => ?_⟩, ?_, fun q hq => ?_, ?_, fun q hq => ?_⟩
  · rw [upd_ne (ne_of_none x n1)]
    exact h.sm _ _ x
  · rcases List.mem_append.mp hq with hq | hq
    · have l := h.ch.all q (List.mem_append_left _ hq)
      have : q.1 ≠ c := nd3 q.1 (List.mem_map.mpr ⟨q, hq, rfl⟩) c (List.mem_singleton.mpr rfl)
      exact ⟨by rw [upd_ne this]; exact l.at_, fun r hr => tups (l.all r hr)⟩
    · rw [List.mem_singleton.mp hq]
      exact lc.snoc he
  · rcases List.mem_append.mp hq with hq | hq
    · exact h.ch.ne q (List.mem_append_left _ hq)
    · rw [List.mem_singleton.mp hq]
      exact List.append_ne_nil_of_right_ne_nil _ (fun z => by cases z)
  · rw [List.map_append]
    exact nd
  · rcases List.mem_append.mp hq with hq | hq
    · exact h.nw q (List.mem_append_left _ hq)
    · rw [List.mem_singleton.mp hq]
      exact ⟨n1, n2⟩
  · have := h.ln.1
    rw [List.length_append] at this ⊢
    exact Nat.le_succ_of_le this
  · rcases List.mem_append.mp hq with hq | hq
    · have := h.ln.2 q (List.mem_append_left _ hq)
      omega
    · rw [List.mem_singleton.mp hq]
      have := h.ln.2 _ hc
      rw [List.length_append]
      exact Nat.succ_le_succ this
section
variable {P : Program} {w : World} {K : PySem.W.Frag} {mg : Str → Option Value} {base : Heap} {T : List (Addr × Str)} {cls : Kd → Addr} {CB : Addr}
theorem scSO : FnScope ["named", "chain", "value", "letter"] ["named", "chain"] (defScope sSO) := ⟨rfl, rfl, rfl, by decide +kernel, rfl, by decide +kernel, by decide +kernel⟩
/-- a session as a tuple -/
structure Ses where
  lo : Int
  hi : Int
  fi : Int
  la : Int
  vs : List Int
def SesAt (H : Hp) (p : Addr) (s : Ses) : Prop := ∃ w : Addr, H p = some (.tup [.int s.lo, .int s.hi, .int s.fi, .int s.la, .ref w]) ∧ H w = some (.tup (s.vs.map V.int))
def sesOf (k : Kd) (ch : List Ltr) : Ses := ⟨(ch.head?.map Ltr.n).getD 0, (ch.getLast?.map Ltr.n).getD 0 + 1, (ch.head?.map Ltr.t).getD 0, (ch.getLast?.map Ltr.t).getD 0, plainI k (ch.map Ltr.v)⟩
def spSO (K : PySem.W.Frag) (T : List (Addr × Str)) (cls : Kd → Addr) : Sp := fun vs H Q _ => ∃ (o c : Addr) (k : Kd) (M : LtL), vs = [.ref o, .ref c] ∧ KObj cls H o k ∧ Lts H c M ∧ M ≠ [] ∧ M.length ≤ 60 ∧ LamX.Tabs T H ∧ ∀ (H' : Hp) (p : Addr), Gw T H H' → SesAt H' p (sesOf k (lts M)) → Q (.ref p) H'
theorem ok_so {f : Addr} {fd : FuncData} (F : Fun K "session_of" "session_of" sSO f fd) (B : Bi mg) (cPlain : ∀ k, MetX CX0 P w K mg base 3 (cls k) "plain" (spPlainM K cls T k)) : FnOk P w K mg base CX0 4 f fd ["named", "chain"] (spSO K T cls) := by
  refine F.ok scSO (fun vs H Q E h => ?_) (fun cdv A outer s H vs Q E hr h => ?_)
  · obtain ⟨o, c, k, M, rfl, _⟩ := h
    rfl
  · obtain ⟨o, c, k, M, rfl, ho, hl, hM, lM, tb, q⟩ := h
    refine ⟨_, (pss_cons (ps_set (i := 2) scSO.nd rfl (.inl rfl) (pe_mx (cPlain k) hr (by decide) pass0 (pv 0) (pa_cons (pe_lc (own := [("letter", 3)]) (g := gName 3) (tt := tYes) (te := (tOp (rIxT K) (tVar 3) (tC (V.int 2)))) rfl scSO.nd (pi_list (pv 1)) (blkOk_by (N := ["named", "chain", "value", "letter"]) (sc := defScope sSO) (by decide +kernel)) (fun _ _ _ _ _ => (pg_name (i := 3) scSO.nd rfl (.inl rfl))) (fun _ _ _ _ _ => pts_nil) (fun _ _ _ _ _ => (pe_ix ix_tup (pv 3) pe_int (fun _ _ => rfl)))) pa_nil)))
 (pss_one (ps_ret (pe_tup (pa_cons (pe_ix ix_tup (pe_ix ix_list (pv 1) pe_int (fun _ _ => rfl)) pe_int (fun _ _ => rfl)) (pa_cons (pe_op op_add (pe_ix ix_tup (pe_ix ix_list (pv 1) (pe_un un_neg pe_int) (fun _ _ => rfl)) pe_int (fun _ _ => rfl)) pe_int) (pa_cons (pe_ix ix_tup (pe_ix ix_list (pv 1) pe_int (fun _ _ => rfl)) pe_int (fun _ _ => rfl)) (pa_cons (pe_ix ix_tup (pe_ix ix_list (pv 1) (pe_un un_neg pe_int) (fun _ _ => rfl)) pe_int (fun _ _ => rfl)) (pa_cons (pv 2) pa_nil))))))))), ?_⟩
    try simp only [tSeq, tAsg, gName, tOp, rI, rI0, rU, tUn, tVar, tC, tCB, tCons, tNil, tTest, tIfS, tRet, tRetN, tDrop, tNext, tBreak, tCont, rEq, rNe, CDiv, CDivN, CMul, tBM, tBM0, tTup, tLst, tAug, tIf, tAnd, tOr, tNot, tAndV, tOrV, tNotV, tIsN, tNotN, tB, scal, tCall, cxK, cxKn, rIxT, rIxL, rIn, rAppend, rReverse, tVals, tDSetd, tDGet, tDGet1, tDGet2, tDIn, tDNotIn, rSortV, rSortT, rPop, rSortL, rSortT, tSl, tNoPart, tPart, List.append_nil, L2.start, List.map_cons, List.map_nil, List.length_cons, List.length_nil, List.replicate_succ, List.replicate_zero, List.cons_append, List.nil_append, Nat.reduceAdd, Nat.reduceSub, exists_eq, exists_eq', List.getElem?_cons_zero, List.getElem?_cons_succ, List.set_cons_zero, List.set_cons_succ, Option.some.injEq, V.int.injEq, V.bl.injEq, V.str.injEq, V.ref.injEq, List.cons.injEq, and_true, true_and, and_false, false_and, reduceCtorEq, exists_false, or_false, false_or, exists_and_left, exists_and_right, exists_eq_left, exists_eq_left', exists_eq_right, exists_eq_right', exists_const, ite_true, ite_false, Bool.false_eq_true, if_true, if_false, decide_true, decide_false]
    obtain ⟨dx, hd⟩ := id ho
    refine ⟨.ref o, rfl, o, dx, [], rfl, hd, rfl, .ref c, rfl, c, rfl, ⟨_, .inl (.inl hl.at_)⟩, fun D hD => lc_list (K := K) (xs := M.map fun q => V.ref q.1) (fun i H' => Same H H' ∧ H' D = some (.lst (((lts (M.take i)).map Ltr.v).map V.int))) ⟨same_upd hD, upd_same⟩ (fun i H' _ h => .inl (.inl (h.1 _ _ hl.at_))) ?_ ?_⟩
    · rintro i x H1 hx ⟨s1, h1⟩
      rw [List.getElem?_map] at hx
      obtain ⟨⟨ep, e⟩, he, rfl⟩ : ∃ q : Addr × Ltr, M[i]? = some q ∧ x = .ref q.1 := by
        cases z : M[i]? with
        | none =>
          rw [z] at hx
          cases hx
        | some q =>
          rw [z] at hx
          exact ⟨q, rfl, (Option.some.inj hx).symm⟩
      have hil := (List.getElem?_eq_some_iff.mp he).1
      have hep := s1 _ _ (hl.all _ (List.mem_of_getElem? he))
      refine ⟨rfl, ?_⟩
      simp only [tSeq, tAsg, gName, tOp, rI, rI0, rU, tUn, tVar, tC, tCB, tCons, tNil, tTest, tIfS, tRet, tRetN, tDrop, tNext, tBreak, tCont, rEq, rNe, CDiv, CDivN, CMul, tBM, tBM0, tTup, tLst, tAug, tIf, tAnd, tOr, tNot, tAndV, tOrV, tNotV, tIsN, tNotN, tB, scal, tCall, cxK, cxKn, rIxT, rIxL, rIn, rAppend, rReverse, tVals, tDSetd, tDGet, tDGet1, tDGet2, tDIn, tDNotIn, rSortV, rSortT, rPop, rSortL, rSortT, tSl, tNoPart, tPart, List.append_nil, L2.start, List.map_cons, List.map_nil, List.length_cons, List.length_nil, List.replicate_succ, List.replicate_zero, List.cons_append, List.nil_append, Nat.reduceAdd, Nat.reduceSub, exists_eq, exists_eq', wipe, tYes, List.getElem?_cons_zero, List.getElem?_cons_succ, List.set_cons_zero, List.set_cons_succ, Option.some.injEq, V.int.injEq, V.bl.injEq, V.str.injEq, V.ref.injEq, List.cons.injEq, and_true, true_and, and_false, false_and, reduceCtorEq, exists_false, or_false, false_or, exists_and_left, exists_and_right, exists_eq_left, exists_eq_left', exists_eq_right, exists_eq_right', exists_const, ite_true, ite_false, Bool.false_eq_true, if_true, if_false, decide_true, decide_false]
      refine ⟨_, .inl (.inl hep), _, rfl, _, h1, ?_, fun b o z => ?_, ?_⟩
      · rw [List.length_map, List.length_map]
        unfold lts
        rw [List.length_map, List.length_take]
        exact small1000 (by omega)
      · rw [upd_ne (ne_of_none z hD)]
        exact s1 _ _ z
      · rw [upd_same, List.take_add_one, he]
        unfold lts
        rw [List.map_append, List.map_append, List.map_append]
        rfl
    · rintro H1 ⟨s1, h1⟩
      rw [List.length_map, List.take_length] at h1
      have lM2 : ((lts M).map Ltr.v).length = M.length := by
        unfold lts
        rw [List.length_map, List.length_map]
      refine ⟨o, D, (lts M).map Ltr.v, rfl, ho.ext (LamX.ExtN.of s1), .inr (.inl (.inl h1)), by omega, tb.ext s1, fun H2 t g2 h2 => ?_⟩
      have g02 := (Gw.of tb s1).trans g2
      have l2 := hl.ext g02.1
      obtain ⟨⟨fp, fe⟩, M1, hM1⟩ : ∃ q M1, M = q :: M1 := by
        cases M with
        | nil => exact absurd rfl hM
        | cons u M1 => exact ⟨u, M1, rfl⟩
      obtain ⟨M2, ⟨lp, le⟩, hM2⟩ : ∃ M' q, M = M' ++ [q] := by
        rcases List.eq_nil_or_concat M with h | ⟨a, b, h⟩
        · exact absurd h hM
        · exact ⟨a, b, by rw [h, List.concat_eq_append]⟩
      have hfp : H2 fp = some fe.o := l2.all (fp, fe) (by rw [hM1]; exact List.mem_cons_self)
      have hlp : H2 lp = some le.o := l2.all (lp, le) (by rw [hM2]; exact List.mem_append_right _ (List.mem_singleton.mpr rfl))
      have e1 : atI (M.map fun q => V.ref q.1) 0 = some (.ref fp) := by
        rw [hM1]
        exact atI_nat (j := 0) rfl
      have e2 : atI (M.map fun q => V.ref q.1) (-1) = some (.ref lp) := by
        rw [hM2, List.map_append]
        exact atI_last _ _
      have hs : sesOf k (lts M) = ⟨fe.n, le.n + 1, fe.t, le.t, plainI k ((lts M).map Ltr.v)⟩ := by
        have a1 : (lts M).head? = some fe := by rw [hM1]; rfl
        have a2 : (lts M).getLast? = some le := by
          rw [hM2]
          unfold lts
          rw [List.map_append]
          exact List.getLast?_concat
        unfold sesOf
        rw [a1, a2]
        rfl
      refine ⟨_, .inl (.inl l2.at_), _, e1, fp, rfl, _, .inl (.inl hfp), _, rfl, _, .inl (.inl l2.at_), _, e2, lp, rfl, _, .inl (.inl hlp), _, rfl, le.n, rfl, _, .inl (.inl l2.at_), _, e1, fp, rfl, _, .inl (.inl hfp), _, rfl, _, .inl (.inl l2.at_), _, e2, lp, rfl, _, .inl (.inl hlp), _, rfl, by decide, fun p hp => q _ p (g02.trans (Gw.of g02.2 (same_upd hp))) ⟨t, by rw [hs, upd_same], by rw [hs]; exact same_upd hp _ _ h2⟩⟩
theorem scCO : FnScope ["letters", "gap", "chains", "letter"] ["letters", "gap"] (defScope sCO) := ⟨rfl, rfl, rfl, by decide +kernel, rfl, by decide +kernel, by decide +kernel⟩
def spCO : Sp := fun vs H Q _ => ∃ (l : Addr) (L : LtL) (g : Int), vs = [.ref l, .int g] ∧ Lts H l L ∧ L.length ≤ 900 ∧ ∀ (H' : Hp) (c : Addr) (C : ChL), Same H H' → Chs H' c C → chs C = chn g (lts L) → (C.length ≤ L.length ∧ ∀ q ∈ C, q.2.length ≤ L.length) → Q (.ref c) H'
theorem ok_co {f : Addr} {fd : FuncData} (F : Fun K "chains_of" "chains_of" sCO f fd) (B : Bi mg) : FnOk P w K mg base CX0 1 f fd ["letters", "gap"] spCO := by
  refine F.ok scCO (fun vs H Q E h => ?_) (fun cdv A outer s H vs Q E hr h => ?_)
  · obtain ⟨l, L, g, rfl, _⟩ := h
    rfl
  · obtain ⟨l, L, g, rfl, hl, lL, q⟩ := h
    refine ⟨_, (pss_cons (ps_set (i := 2) scCO.nd rfl (.inl rfl) (pe_lst pa_nil))
 (pss_cons (ps_for PassesOwn.never rfl (pi_list (pv 0)) (pg_name (i := 3) scCO.nd rfl (.inl rfl))
 (pss_one (ps_if (PW.pt (pw_and (pt_cmpR op_gt (pe_callB call_len_seq (by rfl) B.len PySem.boot_len (pa_cons (pv 2) pa_nil)) pe_int (nomark _)) (pw_and1 (pt_cmpR op_le (pe_ix ix_tup (pv 3) pe_int (fun _ _ => rfl)) (pe_op op_add (pe_ix ix_tup (pe_ix ix_list (pe_ix ix_list (pv 2) (pe_un un_neg pe_int) (fun _ _ => rfl)) (pe_un un_neg pe_int) (fun _ _ => rfl)) pe_int (fun _ _ => rfl)) (pv 1)) (nomark _)))))
 (pss_one (ps_expr (pe_bm PySem.F.plainAttrs_list PySem.F.slot_list_append PySem.F.type_list_append mt_append (pe_ix ix_list (pv 2) (pe_un un_neg pe_int) (fun _ _ => rfl)) (pa_cons (pv 3) pa_nil)))) (pss_one (ps_expr (pe_bm PySem.F.plainAttrs_list PySem.F.slot_list_append PySem.F.type_list_append mt_append (pv 2) (pa_cons (pe_lst (pa_cons (pv 3) pa_nil)) pa_nil)))))))
 (pss_one (ps_ret (pv 2))))), ?_⟩
    simp only [tSeq, tAsg, gName, tOp, rI, rI0, rU, tUn, tVar, tC, tCB, tCons, tNil, tTest, tIfS, tRet, tRetN, tDrop, tNext, tBreak, tCont, rEq, rNe, CDiv, CDivN, CMul, tBM, tBM0, tTup, tLst, tAug, tIf, tAnd, tOr, tNot, tAndV, tOrV, tNotV, tIsN, tNotN, tB, scal, tCall, cxK, cxKn, rIxT, rIxL, rIn, rAppend, rReverse, tVals, tDSetd, tDGet, tDGet1, tDGet2, tDIn, tDNotIn, rSortV, rSortT, rPop, rSortL, rSortT, tSl, tNoPart, tPart, List.append_nil, L2.start, List.map_cons, List.map_nil, List.length_cons, List.length_nil, List.replicate_succ, List.replicate_zero, List.cons_append, List.nil_append, Nat.reduceAdd, Nat.reduceSub, exists_eq, exists_eq', List.getElem?_cons_zero, List.getElem?_cons_succ, List.set_cons_zero, List.set_cons_succ, Option.some.injEq, V.int.injEq, V.bl.injEq, V.str.injEq, V.ref.injEq, List.cons.injEq, and_true, true_and, and_false, false_and, reduceCtorEq, exists_false, or_false, false_or, exists_and_left, exists_and_right, exists_eq_left, exists_eq_left', exists_eq_right, exists_eq_right', exists_const, ite_true, ite_false, Bool.false_eq_true, if_true, if_false, decide_true, decide_false]
    refine ⟨Nat.zero_le _, fun D hD => ?_⟩
    have sD := same_upd (o := .lst []) hD
    refine ⟨.ref l, rfl, l, rfl, ⟨_, .inl (.inl (sD _ _ hl.at_))⟩, for_list (K := K) (xs := L.map fun q => V.ref q.1) (fun i σ H' => ∃ (C : ChL) (y3 : Option V), σ = [some (.ref l), some (.int g), some (.ref D), y3] ∧ ChI H H' D C i ∧ chs C = chn g (lts (L.take i)))
      ⟨[], none, rfl, ⟨sD, ⟨upd_same, fun q hq => (by cases hq), fun q hq => (by cases hq)⟩, List.nodup_nil, fun q hq => (by cases hq), Nat.le_refl _, fun q hq => (by cases hq)⟩, rfl⟩ (fun i σ H' _ ⟨_, _, _, ci, _⟩ => .inl (.inl (ci.sm _ _ hl.at_))) ?_ ?_⟩
    · rintro i x σ H1 hx ⟨C, y3, rfl, ci, eC⟩
      rw [List.getElem?_map] at hx
      obtain ⟨⟨ep, e⟩, he, rfl⟩ : ∃ q : Addr × Ltr, L[i]? = some q ∧ x = .ref q.1 := by
        cases z : L[i]? with
        | none =>
          rw [z] at hx
          cases hx
        | some q =>
          rw [z] at hx
          exact ⟨q, rfl, (Option.some.inj hx).symm⟩
      have hil := (List.getElem?_eq_some_iff.mp he).1
      have hep := ci.sm _ _ (hl.all _ (List.mem_of_getElem? he))
      have hnx : chn g (lts (L.take (i + 1))) = cstep g (chs C) e := by
        rw [eC, ← chn_snoc]
        unfold lts
        rw [List.take_add_one, he, List.map_append]
        rfl
      simp only [tSeq, tAsg, gName, tOp, rI, rI0, rU, tUn, tVar, tC, tCB, tCons, tNil, tTest, tIfS, tRet, tRetN, tDrop, tNext, tBreak, tCont, rEq, rNe, CDiv, CDivN, CMul, tBM, tBM0, tTup, tLst, tAug, tIf, tAnd, tOr, tNot, tAndV, tOrV, tNotV, tIsN, tNotN, tB, scal, tCall, cxK, cxKn, rIxT, rIxL, rIn, rAppend, rReverse, tVals, tDSetd, tDGet, tDGet1, tDGet2, tDIn, tDNotIn, rSortV, rSortT, rPop, rSortL, rSortT, tSl, tNoPart, tPart, List.append_nil, L2.start, List.map_cons, List.map_nil, List.length_cons, List.length_nil, List.replicate_succ, List.replicate_zero, List.cons_append, List.nil_append, Nat.reduceAdd, Nat.reduceSub, exists_eq, exists_eq', List.getElem?_cons_zero, List.getElem?_cons_succ, List.set_cons_zero, List.set_cons_succ, Option.some.injEq, V.int.injEq, V.bl.injEq, V.str.injEq, V.ref.injEq, List.cons.injEq, and_true, true_and, and_false, false_and, reduceCtorEq, exists_false, or_false, false_or, exists_and_left, exists_and_right, exists_eq_left, exists_eq_left', exists_eq_right, exists_eq_right', exists_const, ite_true, ite_false, Bool.false_eq_true, if_true, if_false, decide_true, decide_false]
      rw [hnx]
      have new : chs C ++ [[e]] = cstep g (chs C) e → tyV K "list" (V.ref D) H1 ∧ 1 ≤ sizeLine ∧ ∀ (p : Addr), H1 p = none → ∃ x, upd H1 p (HO.lst [V.ref ep]) D = some (HO.lst x) ∧ x.length < sizeLine ∧ ∃ C' : ChL, ChI H (upd (upd H1 p (HO.lst [V.ref ep])) D (HO.lst (x ++ [V.ref p]))) D C' (i + 1) ∧ chs C' = cstep g (chs C) e := fun hc =>
        ⟨.inl ⟨rfl, _, .inl (.inl ci.ch.at_)⟩, by decide, fun p hp => ⟨_, (same_upd hp) _ _ ci.ch.at_, by rw [List.length_map]; exact small1000 (by have := ci.ln.1; omega), _, ci.fresh hD hp hep, by rw [← hc]; unfold chs; rw [List.map_append]; rfl⟩⟩
      refine ⟨_, .inl (.inl (.inl ci.ch.at_)), ?_⟩
      rw [List.length_map]
      rcases List.eq_nil_or_concat C with rfl | ⟨C', ⟨c, M⟩, rfl⟩
      · exact if_F (by decide) (new rfl)
      · have hcm : (c, M) ∈ C' ++ [(c, M)] := List.mem_append_right _ (List.mem_singleton.mpr rfl)
        rw [List.concat_eq_append] at ci eC new ⊢
        have lc := ci.ch.all _ hcm
        obtain ⟨M', ⟨lp, le⟩, hM⟩ : ∃ M' q, M = M' ++ [q] := by
          rcases List.eq_nil_or_concat M with h | ⟨a, b, h⟩
          · exact absurd h (ci.ch.ne _ hcm)
          · exact ⟨a, b, by rw [h, List.concat_eq_append]⟩
        have hlp : H1 lp = some le.o := lc.all (lp, le) (by rw [hM]; exact List.mem_append_right _ (List.mem_singleton.mpr rfl))
        have e1 : atI ((C' ++ [(c, M)]).map fun q => V.ref q.1) (-1) = some (.ref c) := by
          rw [List.map_append]
          exact atI_last _ _
        have e2 : atI (M.map fun q => V.ref q.1) (-1) = some (.ref lp) := by
          rw [hM, List.map_append]
          exact atI_last _ _
        have eCs : chs (C' ++ [(c, M)]) = chs C' ++ [lts M' ++ [le]] := by
          unfold chs lts
          rw [List.map_append, hM]
          show _ ++ [(M' ++ [(lp, le)]).map _] = _
          rw [List.map_append]
          rfl
        refine if_T (by rw [List.length_append, List.length_singleton]; exact decide_eq_true (by omega)) ⟨_, .inl (.inl hep), _, rfl, _, .inl (.inl ci.ch.at_), _, e1, c, rfl, _, .inl (.inl lc.at_), _, e2, lp, rfl, _, .inl (.inl hlp), _, rfl, le.t, rfl, e.t, rfl, ite2 (fun z => ?_) (fun z => new ?_)⟩
        · refine ⟨_, .inl (.inl ci.ch.at_), _, e1, .inl ⟨rfl, _, .inl (.inl lc.at_)⟩, ?_⟩
          refine ⟨c, rfl, _, lc.at_, by rw [List.length_map]; exact small1000 (by have := ci.ln.2 _ hcm; omega), _, ci.grow hep, ?_⟩
          rw [eCs, cstep_last, if_pos (of_decide_eq_true z)]
          unfold chs lts
          rw [List.map_append, hM]
          show _ ++ [(M' ++ [(lp, le)] ++ [(ep, e)]).map _] = _
          rw [List.map_append, List.map_append]
          rfl
        · rw [eCs, cstep_last, if_neg fun y => z (decide_eq_true y)]
    · rintro σ H1 ⟨C, y3, rfl, ci, eC⟩
      rw [List.length_map, List.take_length] at eC
      exact ⟨_, rfl, q H1 D C ci.sm ci.ch eC (by have := ci.ln; rwa [List.length_map] at this)⟩
end
end Mv

set_option Elab.async false
set_option linter.all false
set_option maxRecDepth 100000
set_option maxHeartbeats 4000000
namespace Mv
open PySem PySem.Spec PyProof.Rows L2
abbrev sSW : Stmt := topS 26
abbrev sCp : Stmt := topS 24
/-! ### lists of sessions -/
abbrev SsL := List (Addr × Ses)
structure Sss (H : Hp) (l : Addr) (L : SsL) : Prop where
  at_ : H l = some (.lst (L.map fun q => V.ref q.1))
  all : ∀ q ∈ L, SesAt H q.1 q.2
theorem SesAt.ext {H H' : Hp} {p : Addr} {s : Ses} (h : SesAt H p s) (e : LamX.ExtN H H') : SesAt H' p s := by
  obtain ⟨w, h1, h2⟩ := h
  exact ⟨w, e _ _ h1 (fun ps z => by cases z), e _ _ h2 (fun ps z => by cases z)⟩
theorem Sss.ext {H H' : Hp} {l : Addr} {L : SsL} (h : Sss H l L) (e : LamX.ExtN H H') : Sss H' l L := ⟨e _ _ h.at_ (fun ps z => by cases z), fun q hq => (h.all q hq).ext e⟩
def sss (L : SsL) : List Ses := L.map (·.2)
theorem Chs.ext {H H' : Hp} {c : Addr} {C : ChL} (h : Chs H c C) (e : LamX.ExtN H H') : Chs H' c C := ⟨e _ _ h.at_ (fun ps z => by cases z), fun q hq => (h.all q hq).ext e, h.ne⟩
theorem tabs_wr {T : List (Addr × Str)} {H H' : Hp} {a : Addr} {ys : List V} (t : LamX.Tabs T H) (ha : H a = some (.lst ys)) (x : Sx a H H') : LamX.Tabs T H' := fun p hp => by
  obtain ⟨ps, h1, h2, h3⟩ := t p hp
  have ne : ∀ {b : Addr} {o : HO}, H b = some o → (∀ l, o ≠ .lst l) → b ≠ a := fun {b o} e n z => by
    rw [z, ha] at e
    exact n _ (Option.some.inj e).symm
  refine ⟨ps, x _ _ (ne h1 fun l z => by cases z) h1, h2, fun pos cv hc => ?_⟩
  obtain ⟨c, e1, e2⟩ := h3 pos cv hc
  exact ⟨c, e1, x _ _ (ne e2 fun l z => by unfold LamX.CodeO at z; cases z) e2⟩
theorem gw_put {T : List (Addr × Str)} {H H' : Hp} {D : Addr} {ys zs : List V} (g : Gw T H H') (hD : H D = none) (h : H' D = some (.lst ys)) : Gw T H (upd H' D (.lst zs)) :=
  ⟨fun b o e hp => by rw [upd_ne (ne_of_none e hD)]; exact g.1 _ _ e hp, tabs_wr g.2 h Sx.upd⟩
theorem SesAt.wr {H H' : Hp} {a p : Addr} {ys : List V} {s : Ses} (h : SesAt H p s) (ha : H a = some (.lst ys)) (x : Sx a H H') : SesAt H' p s := by
  obtain ⟨w, h1, h2⟩ := h
  exact ⟨w, tup_wr ha x h1, tup_wr ha x h2⟩
theorem Sss.snoc {H : Hp} {D p : Addr} {S : SsL} {e : Ses} (h : Sss H D S) (hp : SesAt H p e) : Sss (upd H D (.lst (S.map (fun q => V.ref q.1) ++ [.ref p]))) D (S ++ [(p, e)]) := by
  refine ⟨by rw [upd_same, List.map_append]; rfl, fun q hq => ?_⟩
  rcases List.mem_append.mp hq with hq | hq
  · exact (h.all q hq).wr h.at_ Sx.upd
  · rw [List.mem_singleton.mp hq]
    exact hp.wr h.at_ Sx.upd
theorem cutV_drop (xs : List V) (k : Nat) : cutV xs (some (k : Int)) none = xs.drop k := by
  unfold cutV
  rw [HT.sIx_nat]
  show (xs.drop (min k xs.length)).take (xs.length - min k xs.length) = _
  rcases Nat.le_total k xs.length with h | h
  · rw [Nat.min_eq_left h, List.take_of_length_le (by rw [List.length_drop]; exact Nat.le_refl _)]
  · rw [Nat.min_eq_right h, List.drop_length, List.take_nil, List.drop_of_length_le h]
theorem ref_at {L : LtL} {i : Nat} {x : V} (h : (L.map fun q => V.ref q.1)[i]? = some x) : ∃ q : Addr × Ltr, L[i]? = some q ∧ x = .ref q.1 := by
  rw [List.getElem?_map] at h
  cases z : L[i]? with
  | none =>
    rw [z] at h
    cases h
  | some q =>
    rw [z] at h
    exact ⟨q, rfl, (Option.some.inj h).symm⟩
def fN (L : List Ltr) (j : Nat) : Bool := match L[j]? with
  | some e => decide (e.n = (j : Int))
  | none => true
def fT (L : List Ltr) (j : Nat) : Bool := match L[j]?, L[j + 1]? with
  | some a, some b => decide (a.t ≤ b.t)
  | _, _ => true
theorem inord_iff (L : List Ltr) : (((List.range L.length).map (fN L)).all id = true ∧ ((List.range (L.length - 1)).map (fT L)).all id = true) ↔ Inord L := by
  simp only [List.all_map, List.all_eq_true, List.mem_range, Function.comp, id]
  constructor
  · rintro ⟨h1, h2⟩ i e he
    have hi := (List.getElem?_eq_some_iff.mp he).1
    have a := h1 i hi
    unfold fN at a
    rw [he] at a
    refine ⟨of_decide_eq_true a, fun e' he' => ?_⟩
    have hi' := (List.getElem?_eq_some_iff.mp he').1
    have b := h2 i (by omega)
    unfold fT at b
    rw [he, he'] at b
    exact of_decide_eq_true b
  · intro h
    constructor
    · intro i hi
      have he : L[i]? = some L[i] := List.getElem?_eq_getElem hi
      unfold fN
      rw [he]
      exact decide_eq_true (h i _ he).1
    · intro i hi
      have he : L[i]? = some L[i] := List.getElem?_eq_getElem (by omega)
      have he' : L[i + 1]? = some L[i + 1] := List.getElem?_eq_getElem (by omega)
      unfold fT
      rw [he, he']
      exact decide_eq_true ((h i _ he).2 _ he')
section
variable {P : Program} {w : World} {K : PySem.W.Frag} {mg : Str → Option Value} {base : Heap} {T : List (Addr × Str)} {cls : Kd → Addr} {CB : Addr}
theorem scSW : FnScope ["named", "letters", "gap", "chain"] ["named", "letters", "gap"] (defScope sSW) := ⟨rfl, rfl, rfl, by decide +kernel, rfl, by decide +kernel, by decide +kernel⟩
def spSW (T : List (Addr × Str)) (cls : Kd → Addr) : Sp := fun vs H Q _ => ∃ (o l : Addr) (k : Kd) (L : LtL) (g : Int), vs = [.ref o, .ref l, .int g] ∧ KObj cls H o k ∧ Lts H l L ∧ L.length ≤ 60 ∧ LamX.Tabs T H ∧ ∀ (H' : Hp) (p : Addr) (S : SsL), Gw T H H' → H p = none → Sss H' p S → sss S = (chn g (lts L)).map (sesOf k) → Q (.ref p) H'
theorem ok_sw {f : Addr} {fd : FuncData} (F : Fun K "sessions_within" "sessions_within" sSW f fd) (B : Bi mg) (cCO : CalX CX0 P w K mg base 1 "chains_of" spCO) (cSO : CalX CX0 P w K mg base 4 "session_of" (spSO K T cls)) : FnOk P w K mg base CX0 5 f fd ["named", "letters", "gap"] (spSW T cls) := by
  refine F.ok scSW (fun vs H Q E h => ?_) (fun cdv A outer s H vs Q E hr h => ?_)
  · obtain ⟨o, l, k, L, g, rfl, _⟩ := h
    rfl
  · obtain ⟨o, l, k, L, g, rfl, ho, hl, lL, tb, q⟩ := h
    refine ⟨_, (pss_one (ps_ret (pe_lc (own := [("chain", 3)]) (g := gName 3) (tt := tYes) rfl scSW.nd (pi_list (pe_cx cCO hr (by decide) pass0 (by rfl) (pa_cons (pv 1) (pa_cons (pv 2) pa_nil)))) (blkOk_by (N := ["named", "letters", "gap", "chain"]) (sc := defScope sSW) (by decide +kernel)) (fun _ _ _ _ _ => (pg_name (i := 3) scSW.nd rfl (.inl rfl))) (fun _ _ _ _ _ => pts_nil) (fun _ _ _ _ _ => (pe_cx cSO hr (by decide) pass0 (by rfl) (pa_cons (pv 0) (pa_cons (pv 3) pa_nil))))))), ?_⟩
    try simp only [tSeq, tAsg, gName, tOp, rI, rI0, rU, tUn, tVar, tC, tCB, tCons, tNil, tTest, tIfS, tRet, tRetN, tDrop, tNext, tBreak, tCont, rEq, rNe, CDiv, CDivN, CMul, tBM, tBM0, tTup, tLst, tAug, tIf, tAnd, tOr, tNot, tAndV, tOrV, tNotV, tIsN, tNotN, tB, scal, tCall, cxK, cxKn, rIxT, rIxL, rIn, rAppend, rReverse, tVals, tDSetd, tDGet, tDGet1, tDGet2, tDIn, tDNotIn, rSortV, rSortT, rPop, rSortL, rSortT, tSl, tNoPart, tPart, List.append_nil, L2.start, List.map_cons, List.map_nil, List.length_cons, List.length_nil, List.replicate_succ, List.replicate_zero, List.cons_append, List.nil_append, Nat.reduceAdd, Nat.reduceSub, exists_eq, exists_eq', List.getElem?_cons_zero, List.getElem?_cons_succ, List.set_cons_zero, List.set_cons_succ, Option.some.injEq, V.int.injEq, V.bl.injEq, V.str.injEq, V.ref.injEq, List.cons.injEq, and_true, true_and, and_false, false_and, reduceCtorEq, exists_false, or_false, false_or, exists_and_left, exists_and_right, exists_eq_left, exists_eq_left', exists_eq_right, exists_eq_right', exists_const, ite_true, ite_false, Bool.false_eq_true, if_true, if_false, decide_true, decide_false]
    refine ⟨.ref l, rfl, .int g, rfl, l, L, g, rfl, hl, by omega, fun H1 c C s1 hc eC ln => ?_⟩
    have tb1 := tb.ext s1
    refine ⟨c, rfl, ⟨_, .inl (.inl hc.at_)⟩, fun D hD => lc_list (K := K) (xs := C.map fun q => V.ref q.1) (fun i H' => Gw T H1 H' ∧ ∃ S : SsL, Sss H' D S ∧ S.length = i ∧ sss S = (chs (C.take i)).map (sesOf k)) ⟨Gw.of tb1 (same_upd hD), [], ⟨upd_same, fun q hq => by cases hq⟩, rfl, rfl⟩ (fun i H' _ h => .inl (.inl (hc.ext h.1.1).at_)) ?_ ?_⟩
    · rintro i x H2 hx ⟨g2, S, hS, lS, eS⟩
      rw [List.getElem?_map] at hx
      obtain ⟨⟨cp, M⟩, he, rfl⟩ : ∃ q : Addr × LtL, C[i]? = some q ∧ x = .ref q.1 := by
        cases z : C[i]? with
        | none =>
          rw [z] at hx
          cases hx
        | some q =>
          rw [z] at hx
          exact ⟨q, rfl, (Option.some.inj hx).symm⟩
      have hcm := List.mem_of_getElem? he
      have hil := (List.getElem?_eq_some_iff.mp he).1
      have lm := ln.2 _ hcm
      simp only at lm
      refine ⟨rfl, ?_⟩
      simp only [tSeq, tAsg, gName, tOp, rI, rI0, rU, tUn, tVar, tC, tCB, tCons, tNil, tTest, tIfS, tRet, tRetN, tDrop, tNext, tBreak, tCont, rEq, rNe, CDiv, CDivN, CMul, tBM, tBM0, tTup, tLst, tAug, tIf, tAnd, tOr, tNot, tAndV, tOrV, tNotV, tIsN, tNotN, tB, scal, tCall, cxK, cxKn, rIxT, rIxL, rIn, rAppend, rReverse, tVals, tDSetd, tDGet, tDGet1, tDGet2, tDIn, tDNotIn, rSortV, rSortT, rPop, rSortL, rSortT, tSl, tNoPart, tPart, List.append_nil, L2.start, List.map_cons, List.map_nil, List.length_cons, List.length_nil, List.replicate_succ, List.replicate_zero, List.cons_append, List.nil_append, Nat.reduceAdd, Nat.reduceSub, exists_eq, exists_eq', wipe, tYes, List.getElem?_cons_zero, List.getElem?_cons_succ, List.set_cons_zero, List.set_cons_succ, Option.some.injEq, V.int.injEq, V.bl.injEq, V.str.injEq, V.ref.injEq, List.cons.injEq, and_true, true_and, and_false, false_and, reduceCtorEq, exists_false, or_false, false_or, exists_and_left, exists_and_right, exists_eq_left, exists_eq_left', exists_eq_right, exists_eq_right', exists_const, ite_true, ite_false, Bool.false_eq_true, if_true, if_false, decide_true, decide_false]
      refine ⟨o, cp, k, M, rfl, (ho.ext (LamX.ExtN.of s1)).ext g2.1, (hc.all _ hcm).ext g2.1, hc.ne _ hcm, by omega, g2.2, fun H3 p g3 hp => ?_⟩
      have g13 := g2.trans g3
      have hS3 := hS.ext g3.1
      refine ⟨_, hS3.at_, by rw [List.length_map]; exact small1000 (by omega), gw_put g13 hD hS3.at_, _, hS3.snoc hp, by rw [List.length_append, lS]; rfl, ?_⟩
      rw [List.take_add_one, he]
      unfold sss chs at eS ⊢
      rw [List.map_append, List.map_append, List.map_append, eS]
      rfl
    · rintro H2 ⟨g2, S, hS, lS, eS⟩
      rw [List.length_map, List.take_length, eC] at eS
      exact q H2 D S ((Gw.of tb s1).trans g2) (by
        cases x : H D with
        | none => rfl
        | some o =>
          rw [s1 _ _ x] at hD
          cases hD) hS eS
theorem scCp : FnScope ["letters", "numbered", "letter", "at", "one", "other"] ["letters"] (defScope sCp) := ⟨rfl, rfl, rfl, by decide +kernel, rfl, by decide +kernel, by decide +kernel⟩
def spCp : Sp := fun vs H Q _ => ∃ (l : Addr) (L : LtL), vs = [.ref l] ∧ Lts H l L ∧ L.length ≤ 60 ∧ ∀ (b : Bool) (H' : Hp), Same H H' → (b = true ↔ Inord (lts L)) → Q (.bl b) H'
theorem ok_cp {f : Addr} {fd : FuncData} (F : Fun K "complete" "complete" sCp f fd) (B : Bi mg) (hall : mg "all" = none) (hzip : mg "zip" = none) : FnOk P w K mg base CX0 1 f fd ["letters"] spCp := by
  refine F.ok scCp (fun vs H Q E h => ?_) (fun cdv A outer s H vs Q E hr h => ?_)
  · obtain ⟨l, L, rfl, _⟩ := h
    rfl
  · obtain ⟨l, L, rfl, hl, lL, q⟩ := h
    refine ⟨_, (pss_cons (ps_set (i := 1) scCp.nd rfl (.inl rfl) (pe_callB (cr_all rfl) (by rfl) hall (by decide +kernel) (pa_cons (pe_lc (own := [("at", 3), ("letter", 2)]) (g := gTup K 2 (gCons (gName 3) (gCons (gName 2) gNil))) (tt := tYes) (te := (tOp rEq (tOp (rIxT K) (tVar 2) (tC (V.int 0))) (tVar 3))) rfl scCp.nd (pi_enum (by rfl) B.enumerate (pa_cons (pv 0) pa_nil)) (blkOk_by (N := ["letters", "numbered", "letter", "at", "one", "other"]) (sc := defScope sCp) (by decide +kernel)) (fun _ _ _ _ _ => (pg_tup rfl (pgs_cons (pg_name (i := 3) scCp.nd rfl (.inl rfl)) (pgs_cons (pg_name (i := 2) scCp.nd rfl (.inl rfl)) pgs_nil)))) (fun _ _ _ _ _ => pts_nil) (fun _ _ _ _ _ => (pe_cmpR op_eq (pe_ix ix_tup (pv 2) pe_int (fun _ _ => rfl)) (pv 3) (nomark _)))) pa_nil)))
 (pss_one (ps_ret (pe_and (pv 1) (pe_one (pe_callB (cr_all rfl) (by rfl) hall (by decide +kernel) (pa_cons (pe_lc (own := [("one", 4), ("other", 5)]) (g := gTup K 2 (gCons (gName 4) (gCons (gName 5) gNil))) (tt := tYes) (te := (tOp (rI0 fun i j => .bl (decide (i ≤ j))) (tOp (rIxT K) (tVar 4) (tC (V.int 1))) (tOp (rIxT K) (tVar 5) (tC (V.int 1))))) rfl scCp.nd (pi_zip (by rfl) hzip (pa_cons (pv 0) (pa_cons (pe_slice sl_list (pv 0) (po_some pe_int) po_none) pa_nil))) (blkOk_by (N := ["letters", "numbered", "letter", "at", "one", "other"]) (sc := defScope sCp) (by decide +kernel)) (fun _ _ _ _ _ => (pg_tup rfl (pgs_cons (pg_name (i := 4) scCp.nd rfl (.inl rfl)) (pgs_cons (pg_name (i := 5) scCp.nd rfl (.inl rfl)) pgs_nil)))) (fun _ _ _ _ _ => pts_nil) (fun _ _ _ _ _ => (pe_cmpR op_le (pe_ix ix_tup (pv 4) pe_int (fun _ _ => rfl)) (pe_ix ix_tup (pv 5) pe_int (fun _ _ => rfl)) (nomark _)))) pa_nil))))))), ?_⟩
    try simp only [tSeq, tAsg, gName, tOp, rI, rI0, rU, tUn, tVar, tC, tCB, tCons, tNil, tTest, tIfS, tRet, tRetN, tDrop, tNext, tBreak, tCont, rEq, rNe, CDiv, CDivN, CMul, tBM, tBM0, tTup, tLst, tAug, tIf, tAnd, tOr, tNot, tAndV, tOrV, tNotV, tIsN, tNotN, tB, scal, tCall, cxK, cxKn, rIxT, rIxL, rIn, rAppend, rReverse, tVals, tDSetd, tDGet, tDGet1, tDGet2, tDIn, tDNotIn, rSortV, rSortT, rPop, rSortL, rSortT, tSl, tNoPart, tPart, List.append_nil, L2.start, List.map_cons, List.map_nil, List.length_cons, List.length_nil, List.replicate_succ, List.replicate_zero, List.cons_append, List.nil_append, Nat.reduceAdd, Nat.reduceSub, exists_eq, exists_eq', List.getElem?_cons_zero, List.getElem?_cons_succ, List.set_cons_zero, List.set_cons_succ, Option.some.injEq, V.int.injEq, V.bl.injEq, V.str.injEq, V.ref.injEq, List.cons.injEq, and_true, true_and, and_false, false_and, reduceCtorEq, exists_false, or_false, false_or, exists_and_left, exists_and_right, exists_eq_left, exists_eq_left', exists_eq_right, exists_eq_right', exists_const, ite_true, ite_false, Bool.false_eq_true, if_true, if_false, decide_true, decide_false]
    have lt : (lts L).length = L.length := List.length_map _
    refine ⟨.ref l, rfl, l, _, rfl, .inl (.inl hl.at_), fun D hD => lc_it walk_enum (fun i H' => Same H H' ∧ H' D = some (.lst (((List.range i).map (fN (lts L))).map V.bl))) ⟨same_upd hD, upd_same⟩ (fun i H' _ h => .inl (.inl (h.1 _ _ hl.at_))) ?_ ?_⟩
    · rintro i x H1 H2 hi ⟨s1, h1⟩ ⟨t, x1, x2, rfl, nT, rfl, e1', e2'⟩
      obtain rfl : V.int (i : Nat) = x1 := Option.some.inj e1'
      rw [List.length_map] at hi
      obtain ⟨⟨ep, e⟩, he, rfl⟩ := ref_at (L := L) e2'
      have ee : (lts L)[i]? = some e := by
        unfold lts
        rw [List.getElem?_map, he]
        rfl
      have smT : Same H1 (upd H1 t (.tup [.int (i : Nat), .ref ep])) := same_upd nT
      refine ⟨t, [.int (i : Nat), .ref ep], rfl, .inl (.inl upd_same), rfl, .int (i : Nat), [.ref ep], rfl, .ref ep, [], rfl, rfl, ?_⟩
      have s2 := s1.trans smT
      have h2 := smT _ _ h1
      have hep := s2 _ _ (hl.all _ (List.mem_of_getElem? he))
      generalize upd H1 t (.tup [.int (i : Nat), .ref ep]) = H2 at s2 h2 hep ⊢
      refine ⟨rfl, ?_⟩
      simp only [tSeq, tAsg, gName, tOp, rI, rI0, rU, tUn, tVar, tC, tCB, tCons, tNil, tTest, tIfS, tRet, tRetN, tDrop, tNext, tBreak, tCont, rEq, rNe, CDiv, CDivN, CMul, tBM, tBM0, tTup, tLst, tAug, tIf, tAnd, tOr, tNot, tAndV, tOrV, tNotV, tIsN, tNotN, tB, scal, tCall, cxK, cxKn, rIxT, rIxL, rIn, rAppend, rReverse, tVals, tDSetd, tDGet, tDGet1, tDGet2, tDIn, tDNotIn, rSortV, rSortT, rPop, rSortL, rSortT, tSl, tNoPart, tPart, List.append_nil, L2.start, List.map_cons, List.map_nil, List.length_cons, List.length_nil, List.replicate_succ, List.replicate_zero, List.cons_append, List.nil_append, Nat.reduceAdd, Nat.reduceSub, exists_eq, exists_eq', wipe, tYes, List.getElem?_cons_zero, List.getElem?_cons_succ, List.set_cons_zero, List.set_cons_succ, Option.some.injEq, V.int.injEq, V.bl.injEq, V.str.injEq, V.ref.injEq, List.cons.injEq, and_true, true_and, and_false, false_and, reduceCtorEq, exists_false, or_false, false_or, exists_and_left, exists_and_right, exists_eq_left, exists_eq_left', exists_eq_right, exists_eq_right', exists_const, ite_true, ite_false, Bool.false_eq_true, if_true, if_false, decide_true, decide_false]
      refine ⟨_, .inl (.inl hep), _, rfl, rfl, _, h2, by rw [List.length_map, List.length_map, List.length_range]; exact small1000 (by omega), fun b o z => ?_, ?_⟩
      · rw [upd_ne (ne_of_none z hD)]
        exact s2 _ _ z
      · rw [upd_same, List.range_succ, List.map_append, List.map_append]
        have : fN (lts L) i = decide (V.int e.n = V.int (i : Int)) := by
          unfold fN
          rw [ee]
          show decide _ = _
          simp
        show _ = some (HO.lst (_ ++ [V.bl (fN (lts L) i)]))
        rw [this]
    · rintro H1 ⟨s1, h1⟩
      rw [List.length_map] at h1
      refine ⟨D, _, rfl, .inl (.inl h1), _, rfl, ite2 (fun c => ?_) (fun c => ?_)⟩
      · have hl1 := hl.same s1
        refine ⟨.ref l, rfl, .ref l, rfl, 1, rfl, l, _, rfl, .inl (.inl hl1.at_), fun l2 hl2 => ?_⟩
        have s2 := same_upd (o := .lst (cutV (L.map fun q => V.ref q.1) (some 1) none)) hl2
        have ecut : cutV (L.map fun q => V.ref q.1) (some 1) none = (L.drop 1).map fun q => V.ref q.1 := by
          rw [show (1 : Int) = ((1 : Nat) : Int) from rfl, cutV_drop, List.map_drop]
        have hl22 := hl1.same s2
        have h22 : upd H1 l2 (.lst (cutV (L.map fun q => V.ref q.1) (some 1) none)) l2 = some (.lst ((L.drop 1).map fun q => V.ref q.1)) := by rw [upd_same, ecut]
        have s02 := s1.trans s2
        generalize upd H1 l2 _ = H2 at hl22 h22 s02 ⊢
        have hm : min (L.map fun q => V.ref q.1).length ((L.drop 1).map fun q => V.ref q.1).length = L.length - 1 := by
          rw [List.length_map, List.length_map, List.length_drop]
          omega
        refine ⟨l, l2, _, _, rfl, .inl (.inl hl22.at_), .inl (.inl h22), fun D2 hD2 => lc_it (walk_zip (n := L.length - 1) hm.symm) (fun i H' => Same H2 H' ∧ H' D2 = some (.lst (((List.range i).map (fT (lts L))).map V.bl))) ⟨same_upd hD2, upd_same⟩ (fun i H' _ h => ⟨.inl (.inl (h.1 _ _ hl22.at_)), .inl (.inl (h.1 _ _ h22))⟩) ?_ ?_⟩
        · rintro i x H3 H4 hi ⟨s3, h3⟩ ⟨t, x1, x2, rfl, nT, rfl, e1', e2'⟩
          obtain ⟨⟨ap, a⟩, ha, rfl⟩ := ref_at (L := L) e1'
          obtain ⟨⟨bp, b⟩, hb, rfl⟩ := ref_at (L := L.drop 1) e2'
          rw [List.getElem?_drop, Nat.add_comm] at hb
          have ea : (lts L)[i]? = some a := by
            unfold lts
            rw [List.getElem?_map, ha]
            rfl
          have eb : (lts L)[i + 1]? = some b := by
            unfold lts
            rw [List.getElem?_map, hb]
            rfl
          have smT : Same H3 (upd H3 t (.tup [.ref ap, .ref bp])) := same_upd nT
          refine ⟨t, [.ref ap, .ref bp], rfl, .inl (.inl upd_same), rfl, .ref ap, [.ref bp], rfl, .ref bp, [], rfl, rfl, ?_⟩
          have s4 := s3.trans smT
          have h4 := smT _ _ h3
          have hap := (s02.trans s4) _ _ (hl.all _ (List.mem_of_getElem? ha))
          have hbp := (s02.trans s4) _ _ (hl.all _ (List.mem_of_getElem? hb))
          generalize upd H3 t (.tup [.ref ap, .ref bp]) = H4 at s4 h4 hap hbp ⊢
          refine ⟨rfl, ?_⟩
          simp only [tSeq, tAsg, gName, tOp, rI, rI0, rU, tUn, tVar, tC, tCB, tCons, tNil, tTest, tIfS, tRet, tRetN, tDrop, tNext, tBreak, tCont, rEq, rNe, CDiv, CDivN, CMul, tBM, tBM0, tTup, tLst, tAug, tIf, tAnd, tOr, tNot, tAndV, tOrV, tNotV, tIsN, tNotN, tB, scal, tCall, cxK, cxKn, rIxT, rIxL, rIn, rAppend, rReverse, tVals, tDSetd, tDGet, tDGet1, tDGet2, tDIn, tDNotIn, rSortV, rSortT, rPop, rSortL, rSortT, tSl, tNoPart, tPart, List.append_nil, L2.start, List.map_cons, List.map_nil, List.length_cons, List.length_nil, List.replicate_succ, List.replicate_zero, List.cons_append, List.nil_append, Nat.reduceAdd, Nat.reduceSub, exists_eq, exists_eq', wipe, tYes, List.getElem?_cons_zero, List.getElem?_cons_succ, List.set_cons_zero, List.set_cons_succ, Option.some.injEq, V.int.injEq, V.bl.injEq, V.str.injEq, V.ref.injEq, List.cons.injEq, and_true, true_and, and_false, false_and, reduceCtorEq, exists_false, or_false, false_or, exists_and_left, exists_and_right, exists_eq_left, exists_eq_left', exists_eq_right, exists_eq_right', exists_const, ite_true, ite_false, Bool.false_eq_true, if_true, if_false, decide_true, decide_false]
          refine ⟨_, .inl (.inl hap), _, rfl, _, .inl (.inl hbp), _, rfl, a.t, rfl, b.t, rfl, _, h4, by rw [List.length_map, List.length_map, List.length_range]; exact small1000 (by omega), fun b o z => ?_, ?_⟩
          · rw [upd_ne (ne_of_none z hD2)]
            exact s4 _ _ z
          · rw [upd_same, List.range_succ, List.map_append, List.map_append]
            have : fT (lts L) i = decide (a.t ≤ b.t) := by
              unfold fT
              rw [ea, eb]
            show _ = some (HO.lst (_ ++ [V.bl (fT (lts L) i)]))
            rw [this]
        · rintro H3 ⟨s3, h3⟩
          refine ⟨D2, _, rfl, .inl (.inl h3), q _ H3 (s02.trans s3) ?_⟩
          rw [← inord_iff, lt]
          exact ⟨fun z => ⟨c, z⟩, fun z => z.2⟩
      · refine q false H1 s1 ⟨fun z => (by cases z), fun z => absurd ((inord_iff _).mpr z).1 (by rw [lt]; exact c)⟩
end
end Mv

set_option Elab.async false
set_option linter.all false
set_option maxRecDepth 100000
set_option maxHeartbeats 4000000
namespace Mv
open PySem PySem.Spec PyProof.Rows L2
/-! ### the law's own cutting: where the open chain begins -/
theorem chn_last (g : Int) (M : List Ltr) (x : Ltr) : ∃ CC ch, chn g (M ++ [x]) = CC ++ [ch ++ [x]] := by
  rw [chn_snoc]
  unfold cstep
  rcases List.eq_nil_or_concat (chn g M) with h | ⟨a, b, h⟩
  · rw [h]
    exact ⟨[], [], rfl⟩
  · rw [h, List.concat_eq_append, List.getLast?_concat]
    simp only
    split
    · exact ⟨a, b, by rw [List.dropLast_concat]⟩
    · exact ⟨a ++ [b], [], rfl⟩
/-- the state of the cutting behind j letters: s where the open chain begins, CC what is closed -/
structure Cut (g : Int) (L : List Ltr) (j s : Nat) (CC : List (List Ltr)) : Prop where
  le : s ≤ j
  eq : chn g (L.take j) = if s = j then CC else CC ++ [(L.take j).drop s]
  far : s = j → ∀ a b, L[j - 1]? = some a → L[j]? = some b → 0 < j → a.t + g < b.t
  nr : s < j → ∀ a b, L[j - 1]? = some a → L[j]? = some b → b.t ≤ a.t + g
theorem Cut.start (g : Int) (L : List Ltr) : Cut g L 0 0 [] := ⟨Nat.le_refl _, rfl, fun _ _ _ _ _ h => absurd h (Nat.lt_irrefl _), fun h => absurd h (Nat.lt_irrefl _)⟩
theorem Cut.next {g : Int} {L : List Ltr} {j s : Nat} {CC : List (List Ltr)} (c : Cut g L j s CC) (hj : j < L.length) : chn g (L.take (j + 1)) = CC ++ [(L.take (j + 1)).drop s] := by
  have hb : L[j]? = some L[j] := List.getElem?_eq_getElem hj
  have et : L.take (j + 1) = L.take j ++ [L[j]] := by
    rw [List.take_add_one, hb]
    rfl
  have lt : (L.take j).length = j := by
    rw [List.length_take]
    omega
  have le := c.le
  rw [et, chn_snoc]
  by_cases e : s = j
  · have ed : (L.take j ++ [L[j]]).drop s = [L[j]] := by
      rw [e, List.drop_append_of_le_length (by omega), List.drop_of_length_le (by omega)]
      rfl
    rw [ed]
    have eq := c.eq
    rw [if_pos e] at eq
    by_cases j0 : j = 0
    · subst j0
      have : CC = [] := by rw [← eq]; rfl
      rw [eq, this]
      rfl
    · have ha : L[j - 1]? = some (L[j - 1]'(by omega)) := List.getElem?_eq_getElem _
      obtain ⟨C1, ch, h1⟩ := chn_last g (L.take (j - 1)) (L[j - 1]'(by omega))
      have et1 : L.take j = L.take (j - 1) ++ [L[j - 1]'(by omega)] := by
        conv => lhs; rw [show j = j - 1 + 1 by omega]
        rw [List.take_add_one, ha]
        rfl
      rw [et1] at eq ⊢
      rw [← eq, h1, cstep_last, if_neg]
      have := c.far e _ _ ha hb (by omega)
      omega
  · have hs : s < j := by omega
    have eq := c.eq
    rw [if_neg e] at eq
    have ha : L[j - 1]? = some (L[j - 1]'(by omega)) := List.getElem?_eq_getElem _
    have et1 : L.take j = L.take (j - 1) ++ [L[j - 1]'(by omega)] := by
      conv => lhs; rw [show j = j - 1 + 1 by omega]
      rw [List.take_add_one, ha]
      rfl
    have ed : (L.take j).drop s = (L.take (j - 1)).drop s ++ [L[j - 1]'(by omega)] := by
      rw [et1, List.drop_append_of_le_length (by rw [List.length_take]; omega)]
    rw [eq, ed, cstep_last, if_pos (c.nr hs _ _ ha hb), ← ed, List.drop_append_of_le_length (by omega)]
theorem Cut.cut {g : Int} {L : List Ltr} {j s : Nat} {CC : List (List Ltr)} (c : Cut g L j s CC) (hj : j < L.length) (h : ∀ a b, L[j]? = some a → L[j + 1]? = some b → a.t + g < b.t) : Cut g L (j + 1) (j + 1) (CC ++ [(L.take (j + 1)).drop s]) :=
  ⟨Nat.le_refl _, by rw [if_pos rfl]; exact c.next hj, fun _ a b ha hb _ => h a b (by rw [Nat.add_sub_cancel] at ha; exact ha) hb, fun h => absurd h (Nat.lt_irrefl _)⟩
theorem Cut.go {g : Int} {L : List Ltr} {j s : Nat} {CC : List (List Ltr)} (c : Cut g L j s CC) (hj : j < L.length) (h : ∀ a b, L[j]? = some a → L[j + 1]? = some b → b.t ≤ a.t + g) : Cut g L (j + 1) s CC := by
  have le := c.le
  exact ⟨by omega, by rw [if_neg (by omega)]; exact c.next hj, fun z => by omega, fun _ a b ha hb => h a b (by rw [Nat.add_sub_cancel] at ha; exact ha) hb⟩
end Mv

set_option Elab.async false
set_option linter.all false
set_option maxRecDepth 100000
set_option maxHeartbeats 4000000
namespace Mv
open PySem PySem.Spec PyProof.Rows L2
abbrev sPlain : Stmt := topS 40
theorem tt {K : PySem.W.Frag} {H : Hp} {p : Addr} {xs : List V} (h : H p = some (.tup xs)) : SqT K H p xs := .inl (.inl h)
theorem ll {K : PySem.W.Frag} {H : Hp} {p : Addr} {xs : List V} (h : H p = some (.lst xs)) : SqL K H p xs := .inl (.inl h)
/-- the words as the loop reads them -/
def turnI (b : Bool) (xs : List Int) : List Int := if b = true then xs.reverse else xs
theorem turnI_len (b : Bool) (xs : List Int) : (turnI b xs).length = xs.length := by
  cases b
  · rfl
  · exact List.length_reverse
theorem heads_take {xs : List Int} {i : Nat} {x : Int} (h : xs[i]? = some x) : headsI (xs.take (i + 1)) = addI (headsI (xs.take i)) x := by
  rw [List.take_add_one, h]
  exact headsI_snoc _ _
section
variable {P : Program} {w : World} {K : PySem.W.Frag} {mg : Str → Option Value} {base : Heap}
theorem scPlain : FnScope ["_law_kind_here", "_law_word", "_law_kept", "_law_turned", "_law_k", "_law_value_here"] ["_law_kind_here", "_law_word"] (defScope sPlain) := ⟨rfl, rfl, rfl, by decide +kernel, rfl, by decide +kernel, by decide +kernel⟩
def spPlain (K : PySem.W.Frag) : Sp := fun vs H Q _ => ∃ (k : Kd) (p : Addr) (xs : List Int), vs = [.str k.nm, .ref p] ∧ (H p = some (.lst (xs.map V.int)) ∨ H p = some (.tup (xs.map V.int))) ∧ xs.length ≤ 1000 ∧ ∀ (H' : Hp) (t : Addr), Same H H' → H' t = some (.tup ((plainI k xs).map V.int)) → Q (.ref t) H'
theorem ok_plain {f : Addr} {fd : FuncData} (F : Fun K "_law_plain" "_law_plain" sPlain f fd) (B : Bi mg) : FnOk P w K mg base CX0 1 f fd ["_law_kind_here", "_law_word"] (spPlain K) := by
  refine F.ok scPlain (fun vs H Q E h => ?_) (fun cdv A outer s H vs Q E hr h => ?_)
  · obtain ⟨k, p, xs, rfl, _⟩ := h
    rfl
  · obtain ⟨k, p, xs, rfl, hp, hl, q⟩ := h
    rcases hp with hp | hp
    · refine ⟨_, (pss_cons (ps_if (pt_cmpR op_eq (pv 0) pe_str (nomark _))
 (pss_one (ps_ret (pe_callTy call_tuple_of (by rfl) B.tuple (by decide +kernel) (pa_cons (pv 1) pa_nil)))) pss_nil)
 (pss_cons (ps_if (pt_cmpR op_eq (pv 0) pe_str (nomark _))
 (pss_one (ps_ret (pe_callTy call_tuple_of (by rfl) B.tuple (by decide +kernel) (pa_cons (pe_callB cr_sortL (by rfl) B.sorted (by decide +kernel) (pa_cons (pv 1) pa_nil)) pa_nil)))) pss_nil)
 (pss_cons (ps_if (pt_cmpR op_eq (pe_callB call_len_seq (by rfl) B.len PySem.boot_len (pa_cons (pv 1) pa_nil)) pe_int (nomark _))
 (pss_one (ps_ret (pe_tup pa_nil))) pss_nil)
 (pss_cons (ps_if (pt_cmpR op_eq (pv 0) pe_str (nomark _))
 (pss_one (ps_ret (pe_tup (pa_cons (pe_ix ix_list (pv 1) pe_int (fun _ _ => rfl)) pa_nil)))) pss_nil)
 (pss_cons (ps_if (pt_cmpR op_eq (pv 0) pe_str (nomark _))
 (pss_one (ps_ret (pe_tup (pa_cons (pe_ix ix_list (pv 1) (pe_un un_neg pe_int) (fun _ _ => rfl)) pa_nil)))) pss_nil)
 (pss_cons (ps_if (pt_cmpR op_eq (pv 0) pe_str (nomark _))
 (pss_one (ps_ret (pe_tup (pa_cons (pe_ix ix_list (pv 1) pe_int (fun _ _ => rfl)) (pa_cons (pe_ix ix_list (pv 1) (pe_un un_neg pe_int) (fun _ _ => rfl)) pa_nil))))) pss_nil)
 (pss_cons (ps_set (i := 2) scPlain.nd rfl (.inl rfl) (pe_lst pa_nil))
 (pss_cons (ps_set (i := 3) scPlain.nd rfl (.inl rfl) (pe_cmpR op_eq (pv 0) pe_str (nomark _)))
 (pss_cons (ps_for PassesOwn.never rfl (pi_range1 (by rfl) B.range (pa_cons (pe_callB call_len_seq (by rfl) B.len PySem.boot_len (pa_cons (pv 1) pa_nil)) pa_nil)) (pg_name (i := 4) scPlain.nd rfl (.inl rfl))
 (pss_cons (ps_set (i := 5) scPlain.nd rfl (.inl rfl) (pe_ix ix_list (pv 1) (pv 4) (fun _ _ => rfl)))
 (pss_cons (ps_if (pt_val (pv 3))
 (pss_one (ps_set (i := 5) scPlain.nd rfl (.inl rfl) (pe_ix ix_list (pv 1) (pe_op op_sub (pe_op op_sub (pe_callB call_len_seq (by rfl) B.len PySem.boot_len (pa_cons (pv 1) pa_nil)) pe_int) (pv 4)) (fun _ _ => rfl)))) pss_nil)
 (pss_one (ps_if (pt_cmpR op_notIn_seq (pv 5) (pv 2) (by rfl))
 (pss_one (ps_expr (pe_bm PySem.F.plainAttrs_list PySem.F.slot_list_append PySem.F.type_list_append mt_append (pv 2) (pa_cons (pv 5) pa_nil)))) pss_nil)))))
 (pss_cons (ps_if (pt_val (pv 3))
 (pss_one (ps_expr (pe_bm0 PySem.F.plainAttrs_list PySem.F.slot_list_reverse PySem.F.type_list_reverse mt_reverse (pv 2)))) pss_nil)
 (pss_cons (ps_if (pt_cmpR op_eq (pv 0) pe_str (nomark _))
 (pss_one (ps_ret (pe_callTy call_tuple_of (by rfl) B.tuple (by decide +kernel) (pa_cons (pe_callB cr_sortL (by rfl) B.sorted (by decide +kernel) (pa_cons (pv 2) pa_nil)) pa_nil)))) pss_nil)
 (pss_one (ps_ret (pe_callTy call_tuple_of (by rfl) B.tuple (by decide +kernel) (pa_cons (pv 2) pa_nil))))))))))))))), ?_⟩
      simp only [tSeq, tAsg, gName, tOp, rI, rI0, rU, tUn, tVar, tC, tCB, tCons, tNil, tTest, tIfS, tRet, tRetN, tDrop, tNext, tBreak, tCont, rEq, rNe, CDiv, CDivN, CMul, tBM, tBM0, tTup, tLst, tAug, tIf, tAnd, tOr, tNot, tAndV, tOrV, tNotV, tIsN, tNotN, tB, scal, tCall, cxK, cxKn, rIxT, rIxL, rIn, rAppend, rReverse, tVals, tDSetd, tDGet, tDGet1, tDGet2, tDIn, tDNotIn, rSortV, rSortT, rPop, rSortL, rSortT, tSl, tNoPart, tPart, List.append_nil, L2.start, List.map_cons, List.map_nil, List.length_cons, List.length_nil, List.replicate_succ, List.replicate_zero, List.cons_append, List.nil_append, Nat.reduceAdd, Nat.reduceSub, exists_eq, exists_eq', List.getElem?_cons_zero, List.getElem?_cons_succ, List.set_cons_zero, List.set_cons_succ, Option.some.injEq, V.int.injEq, V.bl.injEq, V.str.injEq, V.ref.injEq, List.cons.injEq, and_true, true_and, and_false, false_and, reduceCtorEq, exists_false, or_false, false_or, exists_and_left, exists_and_right, exists_eq_left, exists_eq_left', exists_eq_right, exists_eq_right', exists_const, ite_true, ite_false, Bool.false_eq_true, if_true, if_false, decide_true, decide_false]
      refine ite2 (fun e => ?_) (fun e1 => ?_)
      · obtain rfl : k = .list := by revert e; cases k <;> decide +kernel
        exact ⟨_, .inl ⟨ll hp, fun t ht => q _ t (same_upd ht) upd_same⟩⟩
      refine ite2 (fun e => ?_) (fun e2 => ?_)
      · obtain rfl : k = .bag := by revert e; cases k <;> decide +kernel
        refine ⟨xs, ll hp, fun l hl' => ⟨_, .inl ⟨SqL.of upd_same, fun t ht => ?_⟩⟩⟩
        exact q _ t ((same_upd hl').trans (same_upd ht)) upd_same
      refine ⟨xs.map V.int, .inl (ll hp), ite2 (fun e => ⟨Nat.zero_le _, fun t ht => ?_⟩) (fun e0 => ?_)⟩
      · have e0 : xs = [] := by
          have h0 := of_decide_eq_true e
          rw [List.length_map] at h0
          exact List.length_eq_zero_iff.mp (by omega)
        subst e0
        rw [plain_nil] at q
        exact q _ t (same_upd ht) upd_same
      have hx0 : xs ≠ [] := fun z => by
        subst z
        exact e0 (decide_eq_true rfl)
      obtain ⟨x, r, rfl⟩ : ∃ x r, xs = x :: r := by
        cases xs with
        | nil => exact absurd rfl hx0
        | cons x r => exact ⟨x, r, rfl⟩
      have hat0 : atI ((x :: r).map V.int) 0 = some (.int x) := atI_nat (j := 0) rfl
      have hz : (x :: r).map V.int = ((x :: r).dropLast.map V.int) ++ [.int ((x :: r).getLast hx0)] := by
        rw [← List.map_singleton, ← List.map_append, List.dropLast_concat_getLast]
      have hatL : atI ((x :: r).map V.int) (-1) = some (.int ((x :: r).getLast hx0)) := by
        rw [hz]
        exact atI_last _ _
      have hlast : lastI (x :: r) = [(x :: r).getLast hx0] := by
        conv => lhs; rw [← List.dropLast_concat_getLast hx0]
        exact lastI_snoc _ _
      refine ite2 (fun e => ⟨_, ll hp, _, hat0, by decide, fun t ht => ?_⟩) (fun e3 => ?_)
      · obtain rfl : k = .first := by revert e; cases k <;> decide +kernel
        exact q _ t (same_upd ht) upd_same
      refine ite2 (fun e => ⟨_, ll hp, _, hatL, by decide, fun t ht => ?_⟩) (fun e4 => ?_)
      · obtain rfl : k = .last := by revert e; cases k <;> decide +kernel
        refine q _ t (same_upd ht) ?_
        show _ = some (HO.tup ((lastI (x :: r)).map V.int))
        rw [hlast]
        exact upd_same
      refine ite2 (fun e => ⟨_, ll hp, _, hat0, _, ll hp, _, hatL, by decide, fun t ht => ?_⟩) (fun e5 => ⟨Nat.zero_le _, fun o no => ?_⟩)
      · obtain rfl : k = .ends := by revert e; cases k <;> decide +kernel
        refine q _ t (same_upd ht) ?_
        show _ = some (HO.tup ((firstI (x :: r) ++ lastI (x :: r)).map V.int))
        rw [hlast]
        exact upd_same
      -- the loop
      have so := same_upd (o := .lst []) no
      have hp1 : upd H o (.lst []) p = some (.lst ((x :: r).map V.int)) := so _ _ hp
      generalize x :: r = xs at *
      have hlen : (turnI (decide (k.nm = "tails")) xs).length = xs.length := turnI_len _ xs
      have hget : ∀ j, j < xs.length → ∃ u, (turnI (decide (k.nm = "tails")) xs)[j]? = some u ∧ ((decide (k.nm = "tails")) = false → xs[j]? = some u) ∧ (decide (k.nm = "tails") = true → xs[xs.length - 1 - j]? = some u) := fun j hj => by
        generalize decide (k.nm = "tails") = b
        cases b with
        | false => exact ⟨xs[j], List.getElem?_eq_getElem hj, fun _ => List.getElem?_eq_getElem hj, fun z => Bool.noConfusion z⟩
        | true =>
          refine ⟨xs[xs.length - 1 - j]'(by omega), ?_, fun z => Bool.noConfusion z, fun _ => List.getElem?_eq_getElem _⟩
          show xs.reverse[j]? = _
          rw [List.getElem?_reverse hj, List.getElem?_eq_getElem]
      refine ⟨.ref p, rfl, p, rfl, xs.map V.int, .inl (ll hp1), ((xs.map V.int).length : Nat), rfl, by rw [List.length_map]; omega, by rw [List.length_map]; omega, ?_⟩
      rw [List.length_map]
      refine for_range (n := xs.length) (fun j σ H3 => ∃ y4 y5, σ = [some (.str k.nm), some (.ref p), some (.ref o), some (.bl (decide (k.nm = "tails"))), y4, y5] ∧ Same H H3 ∧ H3 o = some (.lst ((headsI ((turnI (decide (k.nm = "tails")) xs).take j)).map V.int))) ⟨none, none, rfl, so, upd_same⟩ ?_ ?_
      · rintro j σ H3 hj ⟨y4, y5, rfl, s3, ho⟩
        obtain ⟨u, h1, h2, h3⟩ := hget j hj
        have hj1 : xs[j]? = some xs[j] := List.getElem?_eq_getElem hj
        have hp3 := s3 _ _ hp
        have e6 := heads_take h1
        simp only [tSeq, tAsg, gName, tOp, rI, rI0, rU, tUn, tVar, tC, tCB, tCons, tNil, tTest, tIfS, tRet, tRetN, tDrop, tNext, tBreak, tCont, rEq, rNe, CDiv, CDivN, CMul, tBM, tBM0, tTup, tLst, tAug, tIf, tAnd, tOr, tNot, tAndV, tOrV, tNotV, tIsN, tNotN, tB, scal, tCall, cxK, cxKn, rIxT, rIxL, rIn, rAppend, rReverse, tVals, tDSetd, tDGet, tDGet1, tDGet2, tDIn, tDNotIn, rSortV, rSortT, rPop, rSortL, rSortT, tSl, tNoPart, tPart, List.append_nil, L2.start, List.map_cons, List.map_nil, List.length_cons, List.length_nil, List.replicate_succ, List.replicate_zero, List.cons_append, List.nil_append, Nat.reduceAdd, Nat.reduceSub, exists_eq, exists_eq', List.getElem?_cons_zero, List.getElem?_cons_succ, List.set_cons_zero, List.set_cons_succ, Option.some.injEq, V.int.injEq, V.bl.injEq, V.str.injEq, V.ref.injEq, List.cons.injEq, and_true, true_and, and_false, false_and, reduceCtorEq, exists_false, or_false, false_or, exists_and_left, exists_and_right, exists_eq_left, exists_eq_left', exists_eq_right, exists_eq_right', exists_const, ite_true, ite_false, Bool.false_eq_true, if_true, if_false, decide_true, decide_false]
        refine ⟨xs.map V.int, ll hp3, .int xs[j], at_of (j := j) (by omega) (by rw [List.getElem?_map, hj1]; rfl), ite2 ?A ?B⟩
        case' A =>
          intro e
          refine ⟨_, .inl (ll hp3), xs.map V.int, ll hp3, .int u, at_of (j := xs.length - 1 - j) (by rw [List.length_map]; omega) (by rw [List.getElem?_map, h3 e]; rfl), ?_⟩
        case' B =>
          intro e
          obtain rfl : xs[j] = u := Option.some.inj (hj1.symm.trans (h2 (Bool.eq_false_iff.mpr e)))
          generalize xs[j] = u at *
        all_goals
          refine ⟨_, .inl (SqL.of ho), rfl, ints_flat _, ?_⟩
          rw [inV_int, e6]
          unfold addI
          by_cases hm : u ∈ headsI ((turnI (decide (k.nm = "tails")) xs).take j)
          · rw [if_pos hm, if_neg (by simp [hm])]
            exact ⟨s3, ho⟩
          · rw [if_neg hm, if_pos (by simp [hm])]
            refine ⟨.inl ⟨rfl, _, SqL.of ho⟩, _, ho, ?_, fun b z e => ?_, ?_⟩
            · rw [List.length_map]
              refine small1000 (Nat.le_trans (headsI_len _) ?_)
              rw [List.length_take]
              omega
            · rw [upd_ne (ne_of_none e no)]
              exact s3 _ _ e
            · rw [upd_same, List.map_append]
              rfl
      · rintro σ H3 ⟨y4, y5, rfl, s3, ho⟩
        rw [List.take_of_length_le (by rw [hlen]; exact Nat.le_refl _)] at ho
        have s4 : ∀ z, Same H (upd H3 o z) := fun z b y e => by
          rw [upd_ne (ne_of_none e no)]
          exact s3 _ _ e
        simp only [tSeq, tAsg, gName, tOp, rI, rI0, rU, tUn, tVar, tC, tCB, tCons, tNil, tTest, tIfS, tRet, tRetN, tDrop, tNext, tBreak, tCont, rEq, rNe, CDiv, CDivN, CMul, tBM, tBM0, tTup, tLst, tAug, tIf, tAnd, tOr, tNot, tAndV, tOrV, tNotV, tIsN, tNotN, tB, scal, tCall, cxK, cxKn, rIxT, rIxL, rIn, rAppend, rReverse, tVals, tDSetd, tDGet, tDGet1, tDGet2, tDIn, tDNotIn, rSortV, rSortT, rPop, rSortL, rSortT, tSl, tNoPart, tPart, List.append_nil, L2.start, List.map_cons, List.map_nil, List.length_cons, List.length_nil, List.replicate_succ, List.replicate_zero, List.cons_append, List.nil_append, Nat.reduceAdd, Nat.reduceSub, exists_eq, exists_eq', List.getElem?_cons_zero, List.getElem?_cons_succ, List.set_cons_zero, List.set_cons_succ, Option.some.injEq, V.int.injEq, V.bl.injEq, V.str.injEq, V.ref.injEq, List.cons.injEq, and_true, true_and, and_false, false_and, reduceCtorEq, exists_false, or_false, false_or, exists_and_left, exists_and_right, exists_eq_left, exists_eq_left', exists_eq_right, exists_eq_right', exists_const, ite_true, ite_false, Bool.false_eq_true, if_true, if_false, decide_true, decide_false]
        refine ite2 (fun e => ?_) (fun e => ?_)
        · obtain rfl : k = .tails := by revert e; cases k <;> decide +kernel
          refine ⟨.inl ⟨rfl, _, SqL.of ho⟩, _, ho, ite2 (fun z => absurd z (by decide +kernel)) (fun _ => ⟨_, .inl ⟨SqL.of upd_same, fun t ht => ?_⟩⟩)⟩
          refine q _ t ((s4 _).trans (same_upd ht)) ?_
          rw [upd_same, ← List.map_reverse]
          rfl
        · refine ite2 (fun e7 => ⟨_, SqL.of ho, fun l hl' => ⟨_, .inl ⟨SqL.of upd_same, fun t ht => ?_⟩⟩⟩) (fun e7 => ⟨_, .inl ⟨SqL.of ho, fun t ht => ?_⟩⟩)
          · obtain rfl : k = .set := by revert e7; cases k <;> decide +kernel
            exact q _ t ((s3.trans (same_upd hl')).trans (same_upd ht)) upd_same
          · obtain rfl : k = .heads := by cases k <;> first | rfl | exact absurd (by decide +kernel) e1 | exact absurd (by decide +kernel) e2 | exact absurd (by decide +kernel) e3 | exact absurd (by decide +kernel) e4 | exact absurd (by decide +kernel) e5 | exact absurd (by decide +kernel) e | exact absurd (by decide +kernel) e7
            exact q _ t (s3.trans (same_upd ht)) upd_same
    · refine ⟨_, (pss_cons (ps_if (pt_cmpR op_eq (pv 0) pe_str (nomark _))
 (pss_one (ps_ret (pe_callTy call_tuple_of (by rfl) B.tuple (by decide +kernel) (pa_cons (pv 1) pa_nil)))) pss_nil)
 (pss_cons (ps_if (pt_cmpR op_eq (pv 0) pe_str (nomark _))
 (pss_one (ps_ret (pe_callTy call_tuple_of (by rfl) B.tuple (by decide +kernel) (pa_cons (pe_callB cr_sortT' (by rfl) B.sorted (by decide +kernel) (pa_cons (pv 1) pa_nil)) pa_nil)))) pss_nil)
 (pss_cons (ps_if (pt_cmpR op_eq (pe_callB call_len_seq (by rfl) B.len PySem.boot_len (pa_cons (pv 1) pa_nil)) pe_int (nomark _))
 (pss_one (ps_ret (pe_tup pa_nil))) pss_nil)
 (pss_cons (ps_if (pt_cmpR op_eq (pv 0) pe_str (nomark _))
 (pss_one (ps_ret (pe_tup (pa_cons (pe_ix ix_tup (pv 1) pe_int (fun _ _ => rfl)) pa_nil)))) pss_nil)
 (pss_cons (ps_if (pt_cmpR op_eq (pv 0) pe_str (nomark _))
 (pss_one (ps_ret (pe_tup (pa_cons (pe_ix ix_tup (pv 1) (pe_un un_neg pe_int) (fun _ _ => rfl)) pa_nil)))) pss_nil)
 (pss_cons (ps_if (pt_cmpR op_eq (pv 0) pe_str (nomark _))
 (pss_one (ps_ret (pe_tup (pa_cons (pe_ix ix_tup (pv 1) pe_int (fun _ _ => rfl)) (pa_cons (pe_ix ix_tup (pv 1) (pe_un un_neg pe_int) (fun _ _ => rfl)) pa_nil))))) pss_nil)
 (pss_cons (ps_set (i := 2) scPlain.nd rfl (.inl rfl) (pe_lst pa_nil))
 (pss_cons (ps_set (i := 3) scPlain.nd rfl (.inl rfl) (pe_cmpR op_eq (pv 0) pe_str (nomark _)))
 (pss_cons (ps_for PassesOwn.never rfl (pi_range1 (by rfl) B.range (pa_cons (pe_callB call_len_seq (by rfl) B.len PySem.boot_len (pa_cons (pv 1) pa_nil)) pa_nil)) (pg_name (i := 4) scPlain.nd rfl (.inl rfl))
 (pss_cons (ps_set (i := 5) scPlain.nd rfl (.inl rfl) (pe_ix ix_tup (pv 1) (pv 4) (fun _ _ => rfl)))
 (pss_cons (ps_if (pt_val (pv 3))
 (pss_one (ps_set (i := 5) scPlain.nd rfl (.inl rfl) (pe_ix ix_tup (pv 1) (pe_op op_sub (pe_op op_sub (pe_callB call_len_seq (by rfl) B.len PySem.boot_len (pa_cons (pv 1) pa_nil)) pe_int) (pv 4)) (fun _ _ => rfl)))) pss_nil)
 (pss_one (ps_if (pt_cmpR op_notIn_seq (pv 5) (pv 2) (by rfl))
 (pss_one (ps_expr (pe_bm PySem.F.plainAttrs_list PySem.F.slot_list_append PySem.F.type_list_append mt_append (pv 2) (pa_cons (pv 5) pa_nil)))) pss_nil)))))
 (pss_cons (ps_if (pt_val (pv 3))
 (pss_one (ps_expr (pe_bm0 PySem.F.plainAttrs_list PySem.F.slot_list_reverse PySem.F.type_list_reverse mt_reverse (pv 2)))) pss_nil)
 (pss_cons (ps_if (pt_cmpR op_eq (pv 0) pe_str (nomark _))
 (pss_one (ps_ret (pe_callTy call_tuple_of (by rfl) B.tuple (by decide +kernel) (pa_cons (pe_callB cr_sortL (by rfl) B.sorted (by decide +kernel) (pa_cons (pv 2) pa_nil)) pa_nil)))) pss_nil)
 (pss_one (ps_ret (pe_callTy call_tuple_of (by rfl) B.tuple (by decide +kernel) (pa_cons (pv 2) pa_nil))))))))))))))), ?_⟩
      simp only [tSeq, tAsg, gName, tOp, rI, rI0, rU, tUn, tVar, tC, tCB, tCons, tNil, tTest, tIfS, tRet, tRetN, tDrop, tNext, tBreak, tCont, rEq, rNe, CDiv, CDivN, CMul, tBM, tBM0, tTup, tLst, tAug, tIf, tAnd, tOr, tNot, tAndV, tOrV, tNotV, tIsN, tNotN, tB, scal, tCall, cxK, cxKn, rIxT, rIxL, rIn, rAppend, rReverse, tVals, tDSetd, tDGet, tDGet1, tDGet2, tDIn, tDNotIn, rSortV, rSortT, rPop, rSortL, rSortT, tSl, tNoPart, tPart, List.append_nil, L2.start, List.map_cons, List.map_nil, List.length_cons, List.length_nil, List.replicate_succ, List.replicate_zero, List.cons_append, List.nil_append, Nat.reduceAdd, Nat.reduceSub, exists_eq, exists_eq', List.getElem?_cons_zero, List.getElem?_cons_succ, List.set_cons_zero, List.set_cons_succ, Option.some.injEq, V.int.injEq, V.bl.injEq, V.str.injEq, V.ref.injEq, List.cons.injEq, and_true, true_and, and_false, false_and, reduceCtorEq, exists_false, or_false, false_or, exists_and_left, exists_and_right, exists_eq_left, exists_eq_left', exists_eq_right, exists_eq_right', exists_const, ite_true, ite_false, Bool.false_eq_true, if_true, if_false, decide_true, decide_false]
      refine ite2 (fun e => ?_) (fun e1 => ?_)
      · obtain rfl : k = .list := by revert e; cases k <;> decide +kernel
        exact ⟨_, .inr ⟨tt hp, q H p (Same.refl H) hp⟩⟩
      refine ite2 (fun e => ?_) (fun e2 => ?_)
      · obtain rfl : k = .bag := by revert e; cases k <;> decide +kernel
        refine ⟨xs, tt hp, fun l hl' => ⟨_, .inl ⟨SqL.of upd_same, fun t ht => ?_⟩⟩⟩
        exact q _ t ((same_upd hl').trans (same_upd ht)) upd_same
      refine ⟨xs.map V.int, .inr (tt hp), ite2 (fun e => ⟨Nat.zero_le _, fun t ht => ?_⟩) (fun e0 => ?_)⟩
      · have e0 : xs = [] := by
          have h0 := of_decide_eq_true e
          rw [List.length_map] at h0
          exact List.length_eq_zero_iff.mp (by omega)
        subst e0
        rw [plain_nil] at q
        exact q _ t (same_upd ht) upd_same
      have hx0 : xs ≠ [] := fun z => by
        subst z
        exact e0 (decide_eq_true rfl)
      obtain ⟨x, r, rfl⟩ : ∃ x r, xs = x :: r := by
        cases xs with
        | nil => exact absurd rfl hx0
        | cons x r => exact ⟨x, r, rfl⟩
      have hat0 : atI ((x :: r).map V.int) 0 = some (.int x) := atI_nat (j := 0) rfl
      have hz : (x :: r).map V.int = ((x :: r).dropLast.map V.int) ++ [.int ((x :: r).getLast hx0)] := by
        rw [← List.map_singleton, ← List.map_append, List.dropLast_concat_getLast]
      have hatL : atI ((x :: r).map V.int) (-1) = some (.int ((x :: r).getLast hx0)) := by
        rw [hz]
        exact atI_last _ _
      have hlast : lastI (x :: r) = [(x :: r).getLast hx0] := by
        conv => lhs; rw [← List.dropLast_concat_getLast hx0]
        exact lastI_snoc _ _
      refine ite2 (fun e => ⟨_, tt hp, _, hat0, by decide, fun t ht => ?_⟩) (fun e3 => ?_)
      · obtain rfl : k = .first := by revert e; cases k <;> decide +kernel
        exact q _ t (same_upd ht) upd_same
      refine ite2 (fun e => ⟨_, tt hp, _, hatL, by decide, fun t ht => ?_⟩) (fun e4 => ?_)
      · obtain rfl : k = .last := by revert e; cases k <;> decide +kernel
        refine q _ t (same_upd ht) ?_
        show _ = some (HO.tup ((lastI (x :: r)).map V.int))
        rw [hlast]
        exact upd_same
      refine ite2 (fun e => ⟨_, tt hp, _, hat0, _, tt hp, _, hatL, by decide, fun t ht => ?_⟩) (fun e5 => ⟨Nat.zero_le _, fun o no => ?_⟩)
      · obtain rfl : k = .ends := by revert e; cases k <;> decide +kernel
        refine q _ t (same_upd ht) ?_
        show _ = some (HO.tup ((firstI (x :: r) ++ lastI (x :: r)).map V.int))
        rw [hlast]
        exact upd_same
      -- the loop
      have so := same_upd (o := .lst []) no
      have hp1 : upd H o (.lst []) p = some (.tup ((x :: r).map V.int)) := so _ _ hp
      generalize x :: r = xs at *
      have hlen : (turnI (decide (k.nm = "tails")) xs).length = xs.length := turnI_len _ xs
      have hget : ∀ j, j < xs.length → ∃ u, (turnI (decide (k.nm = "tails")) xs)[j]? = some u ∧ ((decide (k.nm = "tails")) = false → xs[j]? = some u) ∧ (decide (k.nm = "tails") = true → xs[xs.length - 1 - j]? = some u) := fun j hj => by
        generalize decide (k.nm = "tails") = b
        cases b with
        | false => exact ⟨xs[j], List.getElem?_eq_getElem hj, fun _ => List.getElem?_eq_getElem hj, fun z => Bool.noConfusion z⟩
        | true =>
          refine ⟨xs[xs.length - 1 - j]'(by omega), ?_, fun z => Bool.noConfusion z, fun _ => List.getElem?_eq_getElem _⟩
          show xs.reverse[j]? = _
          rw [List.getElem?_reverse hj, List.getElem?_eq_getElem]
      refine ⟨.ref p, rfl, p, rfl, xs.map V.int, .inr (tt hp1), ((xs.map V.int).length : Nat), rfl, by rw [List.length_map]; omega, by rw [List.length_map]; omega, ?_⟩
      rw [List.length_map]
      refine for_range (n := xs.length) (fun j σ H3 => ∃ y4 y5, σ = [some (.str k.nm), some (.ref p), some (.ref o), some (.bl (decide (k.nm = "tails"))), y4, y5] ∧ Same H H3 ∧ H3 o = some (.lst ((headsI ((turnI (decide (k.nm = "tails")) xs).take j)).map V.int))) ⟨none, none, rfl, so, upd_same⟩ ?_ ?_
      · rintro j σ H3 hj ⟨y4, y5, rfl, s3, ho⟩
        obtain ⟨u, h1, h2, h3⟩ := hget j hj
        have hj1 : xs[j]? = some xs[j] := List.getElem?_eq_getElem hj
        have hp3 := s3 _ _ hp
        have e6 := heads_take h1
        simp only [tSeq, tAsg, gName, tOp, rI, rI0, rU, tUn, tVar, tC, tCB, tCons, tNil, tTest, tIfS, tRet, tRetN, tDrop, tNext, tBreak, tCont, rEq, rNe, CDiv, CDivN, CMul, tBM, tBM0, tTup, tLst, tAug, tIf, tAnd, tOr, tNot, tAndV, tOrV, tNotV, tIsN, tNotN, tB, scal, tCall, cxK, cxKn, rIxT, rIxL, rIn, rAppend, rReverse, tVals, tDSetd, tDGet, tDGet1, tDGet2, tDIn, tDNotIn, rSortV, rSortT, rPop, rSortL, rSortT, tSl, tNoPart, tPart, List.append_nil, L2.start, List.map_cons, List.map_nil, List.length_cons, List.length_nil, List.replicate_succ, List.replicate_zero, List.cons_append, List.nil_append, Nat.reduceAdd, Nat.reduceSub, exists_eq, exists_eq', List.getElem?_cons_zero, List.getElem?_cons_succ, List.set_cons_zero, List.set_cons_succ, Option.some.injEq, V.int.injEq, V.bl.injEq, V.str.injEq, V.ref.injEq, List.cons.injEq, and_true, true_and, and_false, false_and, reduceCtorEq, exists_false, or_false, false_or, exists_and_left, exists_and_right, exists_eq_left, exists_eq_left', exists_eq_right, exists_eq_right', exists_const, ite_true, ite_false, Bool.false_eq_true, if_true, if_false, decide_true, decide_false]
        refine ⟨xs.map V.int, tt hp3, .int xs[j], at_of (j := j) (by omega) (by rw [List.getElem?_map, hj1]; rfl), ite2 ?A2 ?B2⟩
        case' A2 =>
          intro e
          refine ⟨_, .inr (tt hp3), xs.map V.int, tt hp3, .int u, at_of (j := xs.length - 1 - j) (by rw [List.length_map]; omega) (by rw [List.getElem?_map, h3 e]; rfl), ?_⟩
        case' B2 =>
          intro e
          obtain rfl : xs[j] = u := Option.some.inj (hj1.symm.trans (h2 (Bool.eq_false_iff.mpr e)))
          generalize xs[j] = u at *
        all_goals
          refine ⟨_, .inl (SqL.of ho), rfl, ints_flat _, ?_⟩
          rw [inV_int, e6]
          unfold addI
          by_cases hm : u ∈ headsI ((turnI (decide (k.nm = "tails")) xs).take j)
          · rw [if_pos hm, if_neg (by simp [hm])]
            exact ⟨s3, ho⟩
          · rw [if_neg hm, if_pos (by simp [hm])]
            refine ⟨.inl ⟨rfl, _, SqL.of ho⟩, _, ho, ?_, fun b z e => ?_, ?_⟩
            · rw [List.length_map]
              refine small1000 (Nat.le_trans (headsI_len _) ?_)
              rw [List.length_take]
              omega
            · rw [upd_ne (ne_of_none e no)]
              exact s3 _ _ e
            · rw [upd_same, List.map_append]
              rfl
      · rintro σ H3 ⟨y4, y5, rfl, s3, ho⟩
        rw [List.take_of_length_le (by rw [hlen]; exact Nat.le_refl _)] at ho
        have s4 : ∀ z, Same H (upd H3 o z) := fun z b y e => by
          rw [upd_ne (ne_of_none e no)]
          exact s3 _ _ e
        simp only [tSeq, tAsg, gName, tOp, rI, rI0, rU, tUn, tVar, tC, tCB, tCons, tNil, tTest, tIfS, tRet, tRetN, tDrop, tNext, tBreak, tCont, rEq, rNe, CDiv, CDivN, CMul, tBM, tBM0, tTup, tLst, tAug, tIf, tAnd, tOr, tNot, tAndV, tOrV, tNotV, tIsN, tNotN, tB, scal, tCall, cxK, cxKn, rIxT, rIxL, rIn, rAppend, rReverse, tVals, tDSetd, tDGet, tDGet1, tDGet2, tDIn, tDNotIn, rSortV, rSortT, rPop, rSortL, rSortT, tSl, tNoPart, tPart, List.append_nil, L2.start, List.map_cons, List.map_nil, List.length_cons, List.length_nil, List.replicate_succ, List.replicate_zero, List.cons_append, List.nil_append, Nat.reduceAdd, Nat.reduceSub, exists_eq, exists_eq', List.getElem?_cons_zero, List.getElem?_cons_succ, List.set_cons_zero, List.set_cons_succ, Option.some.injEq, V.int.injEq, V.bl.injEq, V.str.injEq, V.ref.injEq, List.cons.injEq, and_true, true_and, and_false, false_and, reduceCtorEq, exists_false, or_false, false_or, exists_and_left, exists_and_right, exists_eq_left, exists_eq_left', exists_eq_right, exists_eq_right', exists_const, ite_true, ite_false, Bool.false_eq_true, if_true, if_false, decide_true, decide_false]
        refine ite2 (fun e => ?_) (fun e => ?_)
        · obtain rfl : k = .tails := by revert e; cases k <;> decide +kernel
          refine ⟨.inl ⟨rfl, _, SqL.of ho⟩, _, ho, ite2 (fun z => absurd z (by decide +kernel)) (fun _ => ⟨_, .inl ⟨SqL.of upd_same, fun t ht => ?_⟩⟩)⟩
          refine q _ t ((s4 _).trans (same_upd ht)) ?_
          rw [upd_same, ← List.map_reverse]
          rfl
        · refine ite2 (fun e7 => ⟨_, SqL.of ho, fun l hl' => ⟨_, .inl ⟨SqL.of upd_same, fun t ht => ?_⟩⟩⟩) (fun e7 => ⟨_, .inl ⟨SqL.of ho, fun t ht => ?_⟩⟩)
          · obtain rfl : k = .set := by revert e7; cases k <;> decide +kernel
            exact q _ t ((s3.trans (same_upd hl')).trans (same_upd ht)) upd_same
          · obtain rfl : k = .heads := by cases k <;> first | rfl | exact absurd (by decide +kernel) e1 | exact absurd (by decide +kernel) e2 | exact absurd (by decide +kernel) e3 | exact absurd (by decide +kernel) e4 | exact absurd (by decide +kernel) e5 | exact absurd (by decide +kernel) e | exact absurd (by decide +kernel) e7
            exact q _ t (s3.trans (same_upd ht)) upd_same
end
end Mv

set_option Elab.async false
set_option linter.all false
set_option maxRecDepth 100000
set_option maxHeartbeats 4000000
namespace Mv
open PySem PySem.Spec PyProof.Rows L2
abbrev sCuts : Stmt := topS 41
theorem cutV_mid (xs : List V) {a b : Nat} (ha : a ≤ xs.length) (hb : b ≤ xs.length) : cutV xs (some (a : Int)) (some (b : Int)) = (xs.drop a).take (b - a) := by
  unfold cutV
  rw [HT.sIx_nat, HT.sIx_nat]
  show (xs.drop (min a xs.length)).take (min b xs.length - min a xs.length) = _
  rw [Nat.min_eq_left ha, Nat.min_eq_left hb]
section
variable {P : Program} {w : World} {K : PySem.W.Frag} {mg : Str → Option Value} {base : Heap} {T : List (Addr × Str)} {cls : Kd → Addr} {CB : Addr}
theorem scCuts : FnScope ["_law_kind_here", "_law_letters_here", "_law_span_here", "_law_rows", "_law_start", "_law_end", "_law_row", "_law_value_here", "_law_letter"] ["_law_kind_here", "_law_letters_here", "_law_span_here"] (defScope sCuts) := ⟨rfl, rfl, rfl, by decide +kernel, rfl, by decide +kernel, by decide +kernel⟩
def spCuts : Sp := fun vs H Q _ => ∃ (k : Kd) (l : Addr) (L : LtL) (g : Int), vs = [.str k.nm, .ref l, .int g] ∧ Lts H l L ∧ L.length ≤ 60 ∧ ∀ (H' : Hp) (p : Addr) (S : SsL), Same H H' → Sss H' p S → sss S = (chn g (lts L)).map (sesOf k) → Q (.ref p) H'
theorem ok_cuts {f : Addr} {fd : FuncData} (F : Fun K "_law_cuts" "_law_cuts" sCuts f fd) (B : Bi mg) (cPlain : CalX CX0 P w K mg base 1 "_law_plain" (spPlain K)) : FnOk P w K mg base CX0 2 f fd ["_law_kind_here", "_law_letters_here", "_law_span_here"] spCuts := by
  refine F.ok scCuts (fun vs H Q E h => ?_) (fun cdv A outer s H vs Q E hr h => ?_)
  · obtain ⟨k, l, L, g, rfl, _⟩ := h
    rfl
  · obtain ⟨k, l, L, g, rfl, hl, lL, q⟩ := h
    refine ⟨_, (pss_cons (ps_set (i := 3) scCuts.nd rfl (.inl rfl) (pe_lst pa_nil))
 (pss_cons (ps_set (i := 4) scCuts.nd rfl (.inl rfl) pe_int)
 (pss_cons (ps_for PassesOwn.never rfl (pi_range2 (by rfl) B.range (pa_cons pe_int (pa_cons (pe_op op_add (pe_callB call_len_seq (by rfl) B.len PySem.boot_len (pa_cons (pv 1) pa_nil)) pe_int) pa_nil))) (pg_name (i := 5) scCuts.nd rfl (.inl rfl))
 (pss_one (ps_if (PW.pt (pw_or (pt_cmpR op_eq (pv 5) (pe_callB call_len_seq (by rfl) B.len PySem.boot_len (pa_cons (pv 1) pa_nil)) (nomark _)) (pw_or1 (pt_cmpR op_gt (pe_op op_sub (pe_ix ix_tup (pe_ix ix_list (pv 1) (pv 5) (fun _ _ => rfl)) pe_int (fun _ _ => rfl)) (pe_ix ix_tup (pe_ix ix_list (pv 1) (pe_op op_sub (pv 5) pe_int) (fun _ _ => rfl)) pe_int (fun _ _ => rfl))) (pv 2) (nomark _)))))
 (pss_cons (ps_set (i := 6) scCuts.nd rfl (.inl rfl) (pe_slice sl_list (pv 1) (po_some (pv 4)) (po_some (pv 5))))
 (pss_cons (ps_set (i := 7) scCuts.nd rfl (.inl rfl) (pe_cx cPlain hr (by decide) pass0 (by rfl) (pa_cons (pv 0) (pa_cons (pe_lc (own := [("_law_letter", 8)]) (g := gName 8) (tt := tYes) (te := (tOp (rIxT K) (tVar 8) (tC (V.int 2)))) rfl scCuts.nd (pi_list (pv 6)) (blkOk_by (N := ["_law_kind_here", "_law_letters_here", "_law_span_here", "_law_rows", "_law_start", "_law_end", "_law_row", "_law_value_here", "_law_letter"]) (sc := defScope sCuts) (by decide +kernel)) (fun _ _ _ _ _ => (pg_name (i := 8) scCuts.nd rfl (.inl rfl))) (fun _ _ _ _ _ => pts_nil) (fun _ _ _ _ _ => (pe_ix ix_tup (pv 8) pe_int (fun _ _ => rfl)))) pa_nil))))
 (pss_cons (ps_expr (pe_bm PySem.F.plainAttrs_list PySem.F.slot_list_append PySem.F.type_list_append mt_append (pv 3) (pa_cons (pe_tup (pa_cons (pe_ix ix_tup (pe_ix ix_list (pv 6) pe_int (fun _ _ => rfl)) pe_int (fun _ _ => rfl)) (pa_cons (pe_op op_add (pe_ix ix_tup (pe_ix ix_list (pv 6) (pe_un un_neg pe_int) (fun _ _ => rfl)) pe_int (fun _ _ => rfl)) pe_int) (pa_cons (pe_ix ix_tup (pe_ix ix_list (pv 6) pe_int (fun _ _ => rfl)) pe_int (fun _ _ => rfl)) (pa_cons (pe_ix ix_tup (pe_ix ix_list (pv 6) (pe_un un_neg pe_int) (fun _ _ => rfl)) pe_int (fun _ _ => rfl)) (pa_cons (pv 7) pa_nil)))))) pa_nil)))
 (pss_one (ps_set (i := 4) scCuts.nd rfl (.inl rfl) (pv 5)))))) pss_nil)))
 (pss_one (ps_ret (pv 3)))))), ?_⟩
    try simp only [tSeq, tAsg, gName, tOp, rI, rI0, rU, tUn, tVar, tC, tCB, tCons, tNil, tTest, tIfS, tRet, tRetN, tDrop, tNext, tBreak, tCont, rEq, rNe, CDiv, CDivN, CMul, tBM, tBM0, tTup, tLst, tAug, tIf, tAnd, tOr, tNot, tAndV, tOrV, tNotV, tIsN, tNotN, tB, scal, tCall, cxK, cxKn, rIxT, rIxL, rIn, rAppend, rReverse, tVals, tDSetd, tDGet, tDGet1, tDGet2, tDIn, tDNotIn, rSortV, rSortT, rPop, rSortL, rSortT, tSl, tNoPart, tPart, List.append_nil, L2.start, List.map_cons, List.map_nil, List.length_cons, List.length_nil, List.replicate_succ, List.replicate_zero, List.cons_append, List.nil_append, Nat.reduceAdd, Nat.reduceSub, exists_eq, exists_eq', List.getElem?_cons_zero, List.getElem?_cons_succ, List.set_cons_zero, List.set_cons_succ, Option.some.injEq, V.int.injEq, V.bl.injEq, V.str.injEq, V.ref.injEq, List.cons.injEq, and_true, true_and, and_false, false_and, reduceCtorEq, exists_false, or_false, false_or, exists_and_left, exists_and_right, exists_eq_left, exists_eq_left', exists_eq_right, exists_eq_right', exists_const, ite_true, ite_false, Bool.false_eq_true, if_true, if_false, decide_true, decide_false]
    refine ⟨Nat.zero_le _, fun D hD => ?_⟩
    have sD := same_upd (o := .lst []) hD
    have lt : (lts L).length = L.length := List.length_map _
    refine ⟨.ref l, rfl, l, rfl, _, .inl (ll (sD _ _ hl.at_)), _, _, rfl, rfl, _, _, rfl, ⟨by decide, by decide, by rw [List.length_map]; omega, by rw [List.length_map]; omega⟩, ?_⟩
    rw [List.length_map, show ((L.length : Int) + 1 - 1).toNat = L.length by omega]
    refine for_range (lo := 1) (n := L.length) (fun i σ H' => ∃ (s : Nat) (CC : List (List Ltr)) (S : SsL) (y5 y6 y7 y8 : Option V), σ = [some (.str k.nm), some (.ref l), some (.int g), some (.ref D), some (.int (s : Int)), y5, y6, y7, y8] ∧ Same H H' ∧ Sss H' D S ∧ S.length ≤ i ∧ sss S = CC.map (sesOf k) ∧ Cut g (lts L) i s CC ∧ (i = L.length → s = i))
      ⟨0, [], [], none, none, none, none, rfl, sD, ⟨upd_same, fun q hq => by cases hq⟩, Nat.le_refl _, rfl, Cut.start _ _, fun h => rfl⟩ ?_ ?_
    · rintro i σ H1 hi ⟨s, CC, S, y5, y6, y7, y8, rfl, s1, hS, lS, eS, ct, _⟩
      have hl1 := hl.same s1
      simp only [tSeq, tAsg, gName, tOp, rI, rI0, rU, tUn, tVar, tC, tCB, tCons, tNil, tTest, tIfS, tRet, tRetN, tDrop, tNext, tBreak, tCont, rEq, rNe, CDiv, CDivN, CMul, tBM, tBM0, tTup, tLst, tAug, tIf, tAnd, tOr, tNot, tAndV, tOrV, tNotV, tIsN, tNotN, tB, scal, tCall, cxK, cxKn, rIxT, rIxL, rIn, rAppend, rReverse, tVals, tDSetd, tDGet, tDGet1, tDGet2, tDIn, tDNotIn, rSortV, rSortT, rPop, rSortL, rSortT, tSl, tNoPart, tPart, List.append_nil, L2.start, List.map_cons, List.map_nil, List.length_cons, List.length_nil, List.replicate_succ, List.replicate_zero, List.cons_append, List.nil_append, Nat.reduceAdd, Nat.reduceSub, exists_eq, exists_eq', List.getElem?_cons_zero, List.getElem?_cons_succ, List.set_cons_zero, List.set_cons_succ, Option.some.injEq, V.int.injEq, V.bl.injEq, V.str.injEq, V.ref.injEq, List.cons.injEq, and_true, true_and, and_false, false_and, reduceCtorEq, exists_false, or_false, false_or, exists_and_left, exists_and_right, exists_eq_left, exists_eq_left', exists_eq_right, exists_eq_right', exists_const, ite_true, ite_false, Bool.false_eq_true, if_true, if_false, decide_true, decide_false]
      have hb : L[i]? = some L[i] := List.getElem?_eq_getElem hi
      generalize L[i] = ea at hb
      obtain ⟨ap, a⟩ := ea
      have hap := hl1.all _ (List.mem_of_getElem? hb)
      have ela : (lts L)[i]? = some a := by
        unfold lts
        rw [List.getElem?_map, hb]
        rfl
      have key : ∃ x_len : List V, (SqL K H1 l x_len ∨ SqT K H1 l x_len) ∧ x_len.length = L.length := ⟨_, .inl (ll hl1.at_), List.length_map _⟩
      refine ⟨_, .inl (ll hl1.at_), ite2 (fun c => ?_) (fun c => ?_)⟩
      case' refine_1 =>
        have far : ∀ x y, (lts L)[i]? = some x → (lts L)[i + 1]? = some y → x.t + g < y.t := by
          intro x y _ hy
          have h1 := (List.getElem?_eq_some_iff.mp hy).1
          rw [List.length_map] at c
          have h3 := of_decide_eq_true c
          omega
      case' refine_2 =>
        rw [List.length_map] at c
        have hil : i + 1 < L.length := by
          rcases Nat.lt_or_ge (i + 1) L.length with h | h
          · exact h
          · have : i + 1 = L.length := by omega
            exact absurd (decide_eq_true (by omega : (1 : Int) + (i : Int) = (L.length : Int))) c
        have hb2 : L[i + 1]? = some L[i + 1] := List.getElem?_eq_getElem hil
        generalize L[i + 1] = eb at hb2
        obtain ⟨bp, b⟩ := eb
        have hbp := hl1.all _ (List.mem_of_getElem? hb2)
        have elb : (lts L)[i + 1]? = some b := by
          unfold lts
          rw [List.getElem?_map, hb2]
          rfl
        refine ⟨_, ll hl1.at_, .ref bp, by rw [show (1 : Int) + (i : Int) = ((i + 1 : Nat) : Int) by omega]; exact atI_nat (by rw [List.getElem?_map, hb2]; rfl), bp, rfl, _, tt hbp, _, rfl, _, ll hl1.at_, .ref ap, by rw [show (1 : Int) + (i : Int) - 1 = (i : Int) by omega]; exact atI_nat (by rw [List.getElem?_map, hb]; rfl), ap, rfl, _, tt hap, _, rfl, b.t, rfl, a.t, rfl, ite2 (fun c2 => ?_) (fun c2 => ?_)⟩
        case' refine_2 =>
          refine ⟨s, rfl, s1, CC, S, hS, by omega, eS, ct.go (by rw [lt]; exact hi) ?_, fun h => by omega⟩
          intro x y hx hy
          obtain rfl : a = x := Option.some.inj (ela.symm.trans hx)
          obtain rfl : b = y := Option.some.inj (elb.symm.trans hy)
          have : ¬ g < b.t - a.t := fun z => c2 (decide_eq_true z)
          omega
        have far : ∀ x y, (lts L)[i]? = some x → (lts L)[i + 1]? = some y → x.t + g < y.t := by
          intro x y hx hy
          have := of_decide_eq_true c2
          obtain rfl : a = x := Option.some.inj (ela.symm.trans hx)
          obtain rfl : b = y := Option.some.inj (elb.symm.trans hy)
          omega
      all_goals
        have hs := ct.le
        refine ⟨l, _, rfl, ll hl1.at_, fun r hr => ?_⟩
        have sr := same_upd (o := .lst (cutV (L.map fun q => V.ref q.1) (some (s : Int)) (some (1 + (i : Int))))) hr
        have hM : upd H1 r (.lst (cutV (L.map fun q => V.ref q.1) (some (s : Int)) (some (1 + (i : Int))))) r = some (.lst (((L.drop s).take (i + 1 - s)).map fun q => V.ref q.1)) := by
          rw [upd_same, show (1 : Int) + (i : Int) = ((i + 1 : Nat) : Int) by omega, cutV_mid _ (by rw [List.length_map]; omega) (by rw [List.length_map]; omega), ← List.map_drop, ← List.map_take]
        have lM : Lts (upd H1 r (.lst (cutV (L.map fun q => V.ref q.1) (some (s : Int)) (some (1 + (i : Int)))))) r ((L.drop s).take (i + 1 - s)) := ⟨hM, fun q hq => (hl1.same sr).all q (List.mem_of_mem_drop (List.mem_of_mem_take hq))⟩
        have eM : lts ((L.drop s).take (i + 1 - s)) = ((lts L).take (i + 1)).drop s := by
          unfold lts
          rw [List.drop_take, ← List.map_drop, ← List.map_take]
        have nM : ((L.drop s).take (i + 1 - s)).length = i + 1 - s := by
          rw [List.length_take, List.length_drop]
          omega
        generalize (L.drop s).take (i + 1 - s) = M at hM lM eM nM
        generalize upd H1 r _ = H2 at sr lM ⊢
        have neM : M ≠ [] := fun z => by
          rw [z] at nM
          simp at nM
          omega
        have lM2 : ((lts M).map Ltr.v).length = M.length := by
          unfold lts
          rw [List.length_map, List.length_map]
        refine ⟨.ref r, rfl, r, rfl, ⟨_, ll lM.at_⟩, fun D2 hD2 => lc_list (K := K) (xs := M.map fun q => V.ref q.1) (fun i H' => Same H2 H' ∧ H' D2 = some (.lst (((lts (M.take i)).map Ltr.v).map V.int))) ⟨same_upd hD2, upd_same⟩ (fun i H' _ h => ll (h.1 _ _ lM.at_)) ?_ ?_⟩
        · rintro j x H3 hx ⟨s3, h3⟩
          obtain ⟨⟨ep, e⟩, he, rfl⟩ := ref_at (L := M) hx
          have hil := (List.getElem?_eq_some_iff.mp he).1
          have hep := s3 _ _ (lM.all _ (List.mem_of_getElem? he))
          refine ⟨rfl, ?_⟩
          simp only [tSeq, tAsg, gName, tOp, rI, rI0, rU, tUn, tVar, tC, tCB, tCons, tNil, tTest, tIfS, tRet, tRetN, tDrop, tNext, tBreak, tCont, rEq, rNe, CDiv, CDivN, CMul, tBM, tBM0, tTup, tLst, tAug, tIf, tAnd, tOr, tNot, tAndV, tOrV, tNotV, tIsN, tNotN, tB, scal, tCall, cxK, cxKn, rIxT, rIxL, rIn, rAppend, rReverse, tVals, tDSetd, tDGet, tDGet1, tDGet2, tDIn, tDNotIn, rSortV, rSortT, rPop, rSortL, rSortT, tSl, tNoPart, tPart, List.append_nil, L2.start, List.map_cons, List.map_nil, List.length_cons, List.length_nil, List.replicate_succ, List.replicate_zero, List.cons_append, List.nil_append, Nat.reduceAdd, Nat.reduceSub, exists_eq, exists_eq', wipe, tYes, List.getElem?_cons_zero, List.getElem?_cons_succ, List.set_cons_zero, List.set_cons_succ, Option.some.injEq, V.int.injEq, V.bl.injEq, V.str.injEq, V.ref.injEq, List.cons.injEq, and_true, true_and, and_false, false_and, reduceCtorEq, exists_false, or_false, false_or, exists_and_left, exists_and_right, exists_eq_left, exists_eq_left', exists_eq_right, exists_eq_right', exists_const, ite_true, ite_false, Bool.false_eq_true, if_true, if_false, decide_true, decide_false]
          refine ⟨_, tt hep, _, rfl, _, h3, ?_, fun b o z => ?_, ?_⟩
          · rw [List.length_map, List.length_map]
            unfold lts
            rw [List.length_map, List.length_take]
            exact small1000 (by omega)
          · rw [upd_ne (ne_of_none z hD2)]
            exact s3 _ _ z
          · rw [upd_same, List.take_add_one, he]
            unfold lts
            rw [List.map_append, List.map_append, List.map_append]
            rfl
        · rintro H3 ⟨s3, h3⟩
          rw [List.length_map, List.take_length] at h3
          refine ⟨k, D2, (lts M).map Ltr.v, rfl, .inl h3, by omega, fun H4 t s4 h4 => ?_⟩
          have s14 := (sr.trans s3).trans s4
          have l2 := lM.same (s3.trans s4)
          have hS4 := hS.ext (LamX.ExtN.of s14)
          obtain ⟨⟨fp, fe⟩, M1, hM1⟩ : ∃ q M1, M = q :: M1 := by
            cases M with
            | nil => exact absurd rfl neM
            | cons u M1 => exact ⟨u, M1, rfl⟩
          obtain ⟨M2, ⟨lp, le⟩, hM2⟩ : ∃ M' q, M = M' ++ [q] := by
            rcases List.eq_nil_or_concat M with h | ⟨a, b, h⟩
            · exact absurd h neM
            · exact ⟨a, b, by rw [h, List.concat_eq_append]⟩
          have hfp : H4 fp = some fe.o := l2.all (fp, fe) (by rw [hM1]; exact List.mem_cons_self)
          have hlp : H4 lp = some le.o := l2.all (lp, le) (by rw [hM2]; exact List.mem_append_right _ (List.mem_singleton.mpr rfl))
          have e1 : atI (M.map fun q => V.ref q.1) 0 = some (.ref fp) := by
            rw [hM1]
            exact atI_nat (j := 0) rfl
          have e2 : atI (M.map fun q => V.ref q.1) (-1) = some (.ref lp) := by
            rw [hM2, List.map_append]
            exact atI_last _ _
          have hsess : sesOf k (lts M) = ⟨fe.n, le.n + 1, fe.t, le.t, plainI k ((lts M).map Ltr.v)⟩ := by
            have a1 : (lts M).head? = some fe := by rw [hM1]; rfl
            have a2 : (lts M).getLast? = some le := by
              rw [hM2]
              unfold lts
              rw [List.map_append]
              exact List.getLast?_concat
            unfold sesOf
            rw [a1, a2]
            rfl
          refine ⟨.inl ⟨rfl, _, ll hS4.at_⟩, r, rfl, _, ll l2.at_, _, e1, fp, rfl, _, tt hfp, _, rfl, r, rfl, _, ll l2.at_, _, e2, lp, rfl, _, tt hlp, _, rfl, le.n, rfl, r, rfl, _, ll l2.at_, _, e1, fp, rfl, _, tt hfp, _, rfl, r, rfl, _, ll l2.at_, _, e2, lp, rfl, _, tt hlp, _, rfl, by decide, fun p hp => ?_⟩
          have sp := same_upd (o := .tup [.int fe.n, .int (le.n + 1), .int fe.t, .int le.t, .ref t]) hp
          have hS5 := hS4.ext (LamX.ExtN.of sp)
          have hse : SesAt (upd H4 p (.tup [.int fe.n, .int (le.n + 1), .int fe.t, .int le.t, .ref t])) p (sesOf k (lts M)) := ⟨t, by rw [hsess, upd_same], by rw [hsess]; exact sp _ _ h4⟩
          have s15 := (s1.trans s14).trans sp
          refine ⟨_, hS5.at_, by rw [List.length_map]; exact small1000 (by omega), i + 1, by omega, fun b o z => ?_, CC ++ [lts M], S ++ [(p, sesOf k (lts M))], hS5.snoc hse, by rw [List.length_append]; exact Nat.succ_le_succ lS, ?_, ?_, fun _ => rfl⟩
          · rw [upd_ne (ne_of_none z hD)]
            exact s15 _ _ z
          · unfold sss at eS ⊢
            rw [List.map_append, eS, List.map_append]
            rfl
          · rw [eM]
            exact ct.cut (by rw [lt]; exact hi) far
    · rintro σ H1 ⟨s, CC, S, y5, y6, y7, y8, rfl, s1, hS, lS, eS, ct, he⟩
      have eq := ct.eq
      rw [if_pos (he rfl), ← lt, List.take_length] at eq
      exact ⟨_, rfl, q H1 D S s1 hS (by rw [eS, eq])⟩
end
end Mv

set_option Elab.async false
set_option linter.all false
set_option maxRecDepth 100000
set_option maxHeartbeats 4000000
namespace Mv
open PySem PySem.Spec PyProof.Rows L2
abbrev sCB : Stmt := topS 30
abbrev sRS : Stmt := topS 28
section
variable {P : Program} {w : World} {K : PySem.W.Frag} {mg : Str → Option Value} {base : Heap} {T : List (Addr × Str)} {cls : Kd → Addr} {CB : Addr}
theorem scRS : FnScope ["session", "count", "low", "high", "first", "last", "value"] ["session", "count"] (defScope sRS) := ⟨rfl, rfl, rfl, by decide +kernel, rfl, by decide +kernel, by decide +kernel⟩
def Ses.up (s : Ses) (n : Int) : Ses := ⟨s.lo + n, s.hi + n, s.fi, s.la, s.vs⟩
def spRS : Sp := fun vs H Q _ => ∃ (p : Addr) (s : Ses) (n : Int), vs = [.ref p, .int n] ∧ SesAt H p s ∧ ∀ (H' : Hp) (t : Addr), Same H H' → SesAt H' t (s.up n) → Q (.ref t) H'
theorem ok_rs {f : Addr} {fd : FuncData} (F : Fun K "raised_session" "raised_session" sRS f fd) (B : Bi mg) : FnOk P w K mg base CX0 1 f fd ["session", "count"] spRS := by
  refine F.ok scRS (fun vs H Q E h => ?_) (fun cdv A outer s H vs Q E hr h => ?_)
  · obtain ⟨p, s, n, rfl, _⟩ := h
    rfl
  · obtain ⟨p, s, n, rfl, ⟨ww, hp, hw⟩, q⟩ := h
    refine ⟨_, (pss_cons (ps_asg (pv 0) (pg_tup rfl (pgs_cons (pg_name (i := 2) scRS.nd rfl (.inl rfl)) (pgs_cons (pg_name (i := 3) scRS.nd rfl (.inl rfl)) (pgs_cons (pg_name (i := 4) scRS.nd rfl (.inl rfl)) (pgs_cons (pg_name (i := 5) scRS.nd rfl (.inl rfl)) (pgs_cons (pg_name (i := 6) scRS.nd rfl (.inl rfl)) pgs_nil)))))))
 (pss_one (ps_ret (pe_tup (pa_cons (pe_op op_add (pv 2) (pv 1)) (pa_cons (pe_op op_add (pv 3) (pv 1)) (pa_cons (pv 4) (pa_cons (pv 5) (pa_cons (pv 6) pa_nil))))))))), ?_⟩
    try simp only [tSeq, tAsg, gName, tOp, rI, rI0, rU, tUn, tVar, tC, tCB, tCons, tNil, tTest, tIfS, tRet, tRetN, tDrop, tNext, tBreak, tCont, rEq, rNe, CDiv, CDivN, CMul, tBM, tBM0, tTup, tLst, tAug, tIf, tAnd, tOr, tNot, tAndV, tOrV, tNotV, tIsN, tNotN, tB, scal, tCall, cxK, cxKn, rIxT, rIxL, rIn, rAppend, rReverse, tVals, tDSetd, tDGet, tDGet1, tDGet2, tDIn, tDNotIn, rSortV, rSortT, rPop, rSortL, rSortT, tSl, tNoPart, tPart, List.append_nil, L2.start, List.map_cons, List.map_nil, List.length_cons, List.length_nil, List.replicate_succ, List.replicate_zero, List.cons_append, List.nil_append, Nat.reduceAdd, Nat.reduceSub, exists_eq, exists_eq', List.getElem?_cons_zero, List.getElem?_cons_succ, List.set_cons_zero, List.set_cons_succ, Option.some.injEq, V.int.injEq, V.bl.injEq, V.str.injEq, V.ref.injEq, List.cons.injEq, and_true, true_and, and_false, false_and, reduceCtorEq, exists_false, or_false, false_or, exists_and_left, exists_and_right, exists_eq_left, exists_eq_left', exists_eq_right, exists_eq_right', exists_const, ite_true, ite_false, Bool.false_eq_true, if_true, if_false, decide_true, decide_false]
    refine ⟨p, _, rfl, .inl (.inl hp), rfl, .int s.lo, _, rfl, .int s.hi, _, rfl, .int s.fi, _, rfl, .int s.la, _, rfl, .ref ww, [], rfl, rfl, ?_⟩
    try simp only [tSeq, tAsg, gName, tOp, rI, rI0, rU, tUn, tVar, tC, tCB, tCons, tNil, tTest, tIfS, tRet, tRetN, tDrop, tNext, tBreak, tCont, rEq, rNe, CDiv, CDivN, CMul, tBM, tBM0, tTup, tLst, tAug, tIf, tAnd, tOr, tNot, tAndV, tOrV, tNotV, tIsN, tNotN, tB, scal, tCall, cxK, cxKn, rIxT, rIxL, rIn, rAppend, rReverse, tVals, tDSetd, tDGet, tDGet1, tDGet2, tDIn, tDNotIn, rSortV, rSortT, rPop, rSortL, rSortT, tSl, tNoPart, tPart, List.append_nil, L2.start, List.map_cons, List.map_nil, List.length_cons, List.length_nil, List.replicate_succ, List.replicate_zero, List.cons_append, List.nil_append, Nat.reduceAdd, Nat.reduceSub, exists_eq, exists_eq', List.getElem?_cons_zero, List.getElem?_cons_succ, List.set_cons_zero, List.set_cons_succ, Option.some.injEq, V.int.injEq, V.bl.injEq, V.str.injEq, V.ref.injEq, List.cons.injEq, and_true, true_and, and_false, false_and, reduceCtorEq, exists_false, or_false, false_or, exists_and_left, exists_and_right, exists_eq_left, exists_eq_left', exists_eq_right, exists_eq_right', exists_const, ite_true, ite_false, Bool.false_eq_true, if_true, if_false, decide_true, decide_false]
    refine ⟨by decide, fun t ht => q _ t (same_upd ht) ⟨ww, upd_same, same_upd ht _ _ hw⟩⟩
/-- a mark: none, or a count and a floor -/
abbrev Mk := Option (Int × Option Int)
def fV : Option Int → V
  | none => .non
  | some x => .int x
def MkAt (H : Hp) : V → Mk → Prop := fun v m => match m with
  | none => v = .non
  | some (c, f) => ∃ p, v = .ref p ∧ H p = some (.tup [.int c, fV f])
def clos (m : Mk) (s : Ses) (g : Int) : Bool := match m with
  | none => false
  | some (c, none) => decide (c ≤ s.hi)
  | some (c, some x) => decide (c ≤ s.hi) && decide (s.la + g < x)
theorem scCB : FnScope ["mark", "session", "gap", "count", "floor"] ["mark", "session", "gap"] (defScope sCB) := ⟨rfl, rfl, rfl, by decide +kernel, rfl, by decide +kernel, by decide +kernel⟩
def spCB : Sp := fun vs H Q _ => ∃ (v : V) (m : Mk) (p : Addr) (s : Ses) (g : Int), vs = [v, .ref p, .int g] ∧ MkAt H v m ∧ SesAt H p s ∧ Q (.bl (clos m s g)) H
theorem ok_cb {f : Addr} {fd : FuncData} (F : Fun K "closed_by" "closed_by" sCB f fd) (B : Bi mg) : FnOk P w K mg base CX0 1 f fd ["mark", "session", "gap"] spCB := by
  refine F.ok scCB (fun vs H Q E h => ?_) (fun cdv A outer s H vs Q E hr h => ?_)
  · obtain ⟨v, m, p, s, g, rfl, _⟩ := h
    rfl
  · obtain ⟨v, m, p, s, g, rfl, hm, ⟨ww, hp, hw⟩, q⟩ := h
    refine ⟨_, (pss_cons (ps_if (pt_cmpR op_isN (pv 0) pe_non (nomark _))
 (pss_one (ps_ret pe_bl)) pss_nil)
 (pss_cons (ps_asg (pv 0) (pg_tup rfl (pgs_cons (pg_name (i := 3) scCB.nd rfl (.inl rfl)) (pgs_cons (pg_name (i := 4) scCB.nd rfl (.inl rfl)) pgs_nil))))
 (pss_one (ps_ret (pe_and (pe_cmpR op_le (pv 3) (pe_ix ix_tup (pv 1) pe_int (fun _ _ => rfl)) (nomark _)) (pe_one (pe_or (pe_cmpR op_isN (pv 4) pe_non (nomark _)) (pe_one (pe_cmpR op_gt (pv 4) (pe_op op_add (pe_ix ix_tup (pv 1) pe_int (fun _ _ => rfl)) (pv 2)) (nomark _)))))))))), ?_⟩
    simp only [tSeq, tAsg, gName, tOp, rI, rI0, rU, tUn, tVar, tC, tCB, tCons, tNil, tTest, tIfS, tRet, tRetN, tDrop, tNext, tBreak, tCont, rEq, rNe, CDiv, CDivN, CMul, tBM, tBM0, tTup, tLst, tAug, tIf, tAnd, tOr, tNot, tAndV, tOrV, tNotV, tIsN, tNotN, tB, scal, tCall, cxK, cxKn, rIxT, rIxL, rIn, rAppend, rReverse, tVals, tDSetd, tDGet, tDGet1, tDGet2, tDIn, tDNotIn, rSortV, rSortT, rPop, rSortL, rSortT, tSl, tNoPart, tPart, List.append_nil, L2.start, List.map_cons, List.map_nil, List.length_cons, List.length_nil, List.replicate_succ, List.replicate_zero, List.cons_append, List.nil_append, Nat.reduceAdd, Nat.reduceSub, exists_eq, exists_eq', List.getElem?_cons_zero, List.getElem?_cons_succ, List.set_cons_zero, List.set_cons_succ, Option.some.injEq, V.int.injEq, V.bl.injEq, V.str.injEq, V.ref.injEq, List.cons.injEq, and_true, true_and, and_false, false_and, reduceCtorEq, exists_false, or_false, false_or, exists_and_left, exists_and_right, exists_eq_left, exists_eq_left', exists_eq_right, exists_eq_right', exists_const, ite_true, ite_false, Bool.false_eq_true, if_true, if_false, decide_true, decide_false]
    rcases m with _ | ⟨c, f⟩
    · exact if_T (decide_eq_true hm) q
    · obtain ⟨mp, rfl, hmp⟩ := hm
      refine if_F rfl ⟨mp, _, rfl, .inl (.inl hmp), rfl, .int c, _, rfl, fV f, [], rfl, rfl, ?_⟩
      simp only [tSeq, tAsg, gName, tOp, rI, rI0, rU, tUn, tVar, tC, tCB, tCons, tNil, tTest, tIfS, tRet, tRetN, tDrop, tNext, tBreak, tCont, rEq, rNe, CDiv, CDivN, CMul, tBM, tBM0, tTup, tLst, tAug, tIf, tAnd, tOr, tNot, tAndV, tOrV, tNotV, tIsN, tNotN, tB, scal, tCall, cxK, cxKn, rIxT, rIxL, rIn, rAppend, rReverse, tVals, tDSetd, tDGet, tDGet1, tDGet2, tDIn, tDNotIn, rSortV, rSortT, rPop, rSortL, rSortT, tSl, tNoPart, tPart, List.append_nil, L2.start, List.map_cons, List.map_nil, List.length_cons, List.length_nil, List.replicate_succ, List.replicate_zero, List.cons_append, List.nil_append, Nat.reduceAdd, Nat.reduceSub, exists_eq, exists_eq', List.getElem?_cons_zero, List.getElem?_cons_succ, List.set_cons_zero, List.set_cons_succ, Option.some.injEq, V.int.injEq, V.bl.injEq, V.str.injEq, V.ref.injEq, List.cons.injEq, and_true, true_and, and_false, false_and, reduceCtorEq, exists_false, or_false, false_or, exists_and_left, exists_and_right, exists_eq_left, exists_eq_left', exists_eq_right, exists_eq_right', exists_const, ite_true, ite_false, Bool.false_eq_true, if_true, if_false, decide_true, decide_false]
      refine ⟨_, .inl (.inl hp), _, rfl, s.hi, rfl, ite2 (fun e1 => ?_) (fun e1 => ?_)⟩
      · cases f with
        | none =>
          refine if_T rfl ?_
          have : clos (some (c, none)) s g = true := e1
          rw [this] at q
          exact q
        | some x =>
          refine if_F rfl ⟨_, .inl (.inl hp), _, rfl, s.la, rfl, x, rfl, ?_⟩
          have : clos (some (c, some x)) s g = decide (s.la + g < x) := by
            show (decide (c ≤ s.hi) && _) = _
            rw [e1]
            rfl
          rw [this] at q
          exact q
      · have : clos (some (c, f)) s g = false := by
          have e2 := Bool.eq_false_iff.mpr e1
          cases f with
          | none => exact e2
          | some x =>
            show (decide (c ≤ s.hi) && _) = _
            rw [e2]
            rfl
        rw [this] at q
        exact q
end
end Mv

set_option Elab.async false
set_option linter.all false
set_option maxRecDepth 100000
set_option maxHeartbeats 4000000
namespace Mv
open PySem PySem.Spec PyProof.Rows L2
abbrev sCK : Stmt := topS 19
abbrev sTP : Stmt := topS 29
/-- an own exception with one field is raised -/
def RsF (C : Addr) (n : Str) (H : Hp) (v : V) (E : XK) : Prop := ∀ (d : Addr) (H' : Hp), Same H H' → H' d = some (.xd [(n, v)]) → E (.ref C) (some d) H'
/-- an own exception without a field is raised -/
def RsN (C : Addr) (H : Hp) (E : XK) : Prop := ∀ H' : Hp, Same H H' → E (.ref C) none H'
theorem RsF.ext {C : Addr} {n : Str} {H H' : Hp} {v : V} {E : XK} (r : RsF C n H v E) (e : Same H H') : RsF C n H' v E := fun d H2 e2 hd => r d H2 (e.trans e2) hd
theorem RsN.ext {C : Addr} {H H' : Hp} {E : XK} (r : RsN C H E) (e : Same H H') : RsN C H' E := fun H2 e2 => r H2 (e.trans e2)
def BadG (g : Int) : Prop := g = -1 ∨ g = -2 ∨ g = -3
theorem BadG.v {H : Hp} {g : Int} (b : BadG g) : BadV H (.int g) := .int g (.inr b)
theorem BadG.lt {g : Int} (b : BadG g) : g < 0 := by
  unfold BadG at b
  omega
/-- what the module's top has written, as a gap is checked -/
structure GTx (P : Program) (w : World) (K : PySem.W.Frag) (mg : Str → Option Value) (base : Heap) (CG : Addr) : Prop where
  oex : OexC K CG
  gCG : mg "BadGap" = some (.ref CG)
  ini : ∃ (fI : Addr) (fdI : FuncData), PySem.W.findIn K (.ref CG) "__init__" = some (some (.ref fI)) ∧ PySem.W.typeIn K (.ref fI) = some (.type "function") ∧ FnOk P w K mg base CX0 1 fI fdI ["self", "gap"] (spIniB K CG "gap") ∧ Binds K fdI ["self", "gap"] []
/-- the same, of an exception class without an own start -/
structure NTx (K : PySem.W.Frag) (mg : Str → Option Value) (x : Str) (CN : Addr) : Prop where
  ex : PySem.W.excIn K CN [.type "ValueError", .type "Exception", .type "BaseException", .type "object"] "ValueError.__new__" = true
  g : mg x = some (.ref CN)
  kp : PySem.W.keepIn K (.ref CN) = true
  sub : PySem.W.subIn K (.ref CN) (.type "BaseException") = some true
  ty : PySem.W.typeIn K (.ref CN) = some (.type "type")
theorem raise_own {K : PySem.W.Frag} {C : Addr} {n : Str} {i : Nat} {z : L2.St} {H : Hp} {v : V} {E : XK} (hi : z[i]? = some (some v)) (b : BadV H v) (r : RsF C n H v E) : tMkO C (spIniB K C n) [] (tCons (tVar i) tNil) z H fun cls d H' => E cls d H' := by
  refine ⟨v, hi, by show 1 ≤ 1000; decide, fun a ha => ⟨a, v, rfl, upd_same, b.ext (ext_upd ha), fun dx hdx nda => ⟨rfl, dx, [(n, v)], upd_same, by rw [upd_ne nda]; exact upd_same, ?_, r dx _ (fun c o e => ?_) upd_same⟩⟩⟩
  · rw [upd_ne nda] at hdx
    exact hdx
  · have ca : c ≠ a := ne_of_none e ha
    rw [upd_ne nda] at hdx
    have cd : c ≠ dx := ne_of_none e hdx
    rw [upd_ne cd, del_ne ca, upd_ne ca, upd_ne cd, upd_ne ca]
    exact e
/-- the three ways through the check of a kind and a gap -/
def CkP (cls : Kd → Addr) (CB CG : Addr) (H : Hp) (v : V) (g : Int) (E : XK) (R : Kd → Prop) : Prop := (∃ k : Kd, v = .str k.nm ∧ 0 ≤ g ∧ R k) ∨ (∃ k : Kd, v = .str k.nm ∧ BadG g ∧ RsF CG "gap" H (.int g) E) ∨ (BadV H v ∧ Rs CB H v E)
def spCK (cls : Kd → Addr) (CB CG : Addr) : Sp := fun vs H Q E => ∃ (v : V) (g : Int), vs = [v, .int g] ∧ CkP cls CB CG H v g E fun k => ∀ (H' : Hp) (o : Addr), Same H H' → KObj cls H' o k → Q (.ref o) H'
section
variable {P : Program} {w : World} {K : PySem.W.Frag} {mg : Str → Option Value} {base : Heap} {T : List (Addr × Str)} {cls : Kd → Addr} {CB CG CN : Addr}
theorem scCK : FnScope ["kind", "gap", "named"] ["kind", "gap"] (defScope sCK) := ⟨rfl, rfl, rfl, by decide +kernel, rfl, by decide +kernel, by decide +kernel⟩
theorem ok_ck {f : Addr} {fd : FuncData} (F : Fun K "checked_kind" "checked_kind" sCK f fd) (B : Bi mg) (G : GTx P w K mg base CG) (cKN : CalX (L2.CX P w) P w K mg base 3 "kind_named" (spKN cls CB)) : FnOk P w K mg base (L2.CX P w) 4 f fd ["kind", "gap"] (spCK cls CB CG) := by
  obtain ⟨gI, gdI, jC, uI, GI, cI⟩ := G.ini
  refine F.okX scCK (fun vs H Q E h => ?_) (fun cdv A outer s H vs Q E hr h => ?_)
  · obtain ⟨v, g, rfl, _⟩ := h
    rfl
  · obtain ⟨v, g, rfl, h⟩ := h
    refine ⟨_, (pss_cons (ps_set (i := 2) scCK.nd rfl (.inl rfl) (pe_cx cKN hr (by decide) (passes_call (takes_of rfl rfl rfl rfl) (fun _ _ _ _ h => h)) (by rfl) (pa_cons (pv 0) pa_nil)))
 (pss_cons (ps_if (pt_cmpR op_lt (pv 1) pe_int (nomark _))
 (pss_one (ps_raise rfl (takes_of rfl rfl rfl rfl) (pmk_oex G.oex jC uI GI (hr.mono (by decide)) cI .nil pass0 (by rfl) G.gCG (pa_cons (pv 1) pa_nil)))) pss_nil)
 (pss_one (ps_ret (pv 2))))), ?_⟩
    simp only [tSeq, tAsg, gName, tOp, rI, rI0, rU, tUn, tVar, tC, tCB, tCons, tNil, tTest, tIfS, tRet, tRetN, tDrop, tNext, tBreak, tCont, rEq, rNe, CDiv, CDivN, CMul, tBM, tBM0, tTup, tLst, tAug, tIf, tAnd, tOr, tNot, tAndV, tOrV, tNotV, tIsN, tNotN, tB, scal, tCall, cxK, cxKn, rIxT, rIxL, rIn, rAppend, rReverse, tVals, tDSetd, tDGet, tDGet1, tDGet2, tDIn, tDNotIn, rSortV, rSortT, rPop, rSortL, rSortT, tSl, tNoPart, tPart, List.append_nil, L2.start, List.map_cons, List.map_nil, List.length_cons, List.length_nil, List.replicate_succ, List.replicate_zero, List.cons_append, List.nil_append, Nat.reduceAdd, Nat.reduceSub, exists_eq, exists_eq', List.getElem?_cons_zero, List.getElem?_cons_succ, List.set_cons_zero, List.set_cons_succ, Option.some.injEq, V.int.injEq, V.bl.injEq, V.str.injEq, V.ref.injEq, List.cons.injEq, and_true, true_and, and_false, false_and, reduceCtorEq, exists_false, or_false, false_or, exists_and_left, exists_and_right, exists_eq_left, exists_eq_left', exists_eq_right, exists_eq_right', exists_const, ite_true, ite_false, Bool.false_eq_true, if_true, if_false, decide_true, decide_false]
    rcases h with ⟨k, rfl, h0, q⟩ | ⟨k, rfl, b, r⟩ | ⟨b, r⟩
    · exact ⟨_, rfl, .inl ⟨k, rfl, fun H1 o s1 ho => if_F (decide_eq_false (by omega)) (q H1 o s1 ho)⟩⟩
    · exact ⟨_, rfl, .inl ⟨k, rfl, fun H1 o s1 ho => if_T (decide_eq_true b.lt) (raise_own rfl b.v (r.ext s1))⟩⟩
    · exact ⟨_, rfl, .inr ⟨b, r⟩⟩
theorem cutV_last (xs : List V) (x : V) : cutV (xs ++ [x]) none (some (-1)) = xs := by
  unfold cutV
  have e1 : HT.sIx (xs ++ [x]).length 0 none = 0 := rfl
  have e2 : HT.sIx (xs ++ [x]).length (xs ++ [x]).length (some (-1)) = xs.length := by
    unfold HT.sIx
    rw [List.length_append]
    simp
    omega
  rw [e1, e2]
  simp
theorem Sss.upd {H : Hp} {l p : Addr} {S S' : SsL} (h : Sss H l S) (hp : H p = none) (hs : ∀ q ∈ S', q ∈ S) : Sss (upd H p (.lst (S'.map fun q => V.ref q.1))) p S' :=
  ⟨upd_same, fun q hq => (h.all q (hs q hq)).ext (LamX.ExtN.of (same_upd hp))⟩
theorem scTP : FnScope ["sessions", "mark", "gap"] ["sessions", "mark", "gap"] (defScope sTP) := ⟨rfl, rfl, rfl, by decide +kernel, rfl, by decide +kernel, by decide +kernel⟩
/-- the sessions that are told at a mark -/
def toldS (m : Mk) (g : Int) (S : List Ses) : List Ses := match S.getLast? with
  | none => []
  | some s => if clos m s g = true then S else S.dropLast
def spTP : Sp := fun vs H Q _ => ∃ (l : Addr) (S : SsL) (v : V) (m : Mk) (g : Int), vs = [.ref l, v, .int g] ∧ Sss H l S ∧ S.length ≤ 60 ∧ MkAt H v m ∧ ∀ (H' : Hp) (p : Addr) (S' : SsL), Same H H' → H p = none → Sss H' p S' → sss S' = toldS m g (sss S) → Q (.ref p) H'
theorem ok_tp {f : Addr} {fd : FuncData} (F : Fun K "told_part" "told_part" sTP f fd) (B : Bi mg) (cCB : CalX CX0 P w K mg base 1 "closed_by" spCB) : FnOk P w K mg base CX0 2 f fd ["sessions", "mark", "gap"] spTP := by
  refine F.ok scTP (fun vs H Q E h => ?_) (fun cdv A outer s H vs Q E hr h => ?_)
  · obtain ⟨l, S, v, m, g, rfl, _⟩ := h
    rfl
  · obtain ⟨l, S, v, m, g, rfl, hl, lS, hm, q⟩ := h
    refine ⟨_, (pss_cons (ps_if (PW.pt (pw_and (pt_cmpR op_gt (pe_callB call_len_seq (by rfl) B.len PySem.boot_len (pa_cons (pv 0) pa_nil)) pe_int (nomark _)) (pw_and1 (pt_not (pt_val (pe_cx cCB hr (by decide) pass0 (by rfl) (pa_cons (pv 1) (pa_cons (pe_ix ix_list (pv 0) (pe_un un_neg pe_int) (fun _ _ => rfl)) (pa_cons (pv 2) pa_nil)))))))))
 (pss_one (ps_ret (pe_slice sl_list (pv 0) po_none (po_some (pe_un un_neg pe_int))))) pss_nil)
 (pss_one (ps_ret (pe_callTy call_list_of (by rfl) B.list (by decide +kernel) (pa_cons (pv 0) pa_nil))))), ?_⟩
    simp only [tSeq, tAsg, gName, tOp, rI, rI0, rU, tUn, tVar, tC, tCB, tCons, tNil, tTest, tIfS, tRet, tRetN, tDrop, tNext, tBreak, tCont, rEq, rNe, CDiv, CDivN, CMul, tBM, tBM0, tTup, tLst, tAug, tIf, tAnd, tOr, tNot, tAndV, tOrV, tNotV, tIsN, tNotN, tB, scal, tCall, cxK, cxKn, rIxT, rIxL, rIn, rAppend, rReverse, tVals, tDSetd, tDGet, tDGet1, tDGet2, tDIn, tDNotIn, rSortV, rSortT, rPop, rSortL, rSortT, tSl, tNoPart, tPart, List.append_nil, L2.start, List.map_cons, List.map_nil, List.length_cons, List.length_nil, List.replicate_succ, List.replicate_zero, List.cons_append, List.nil_append, Nat.reduceAdd, Nat.reduceSub, exists_eq, exists_eq', List.getElem?_cons_zero, List.getElem?_cons_succ, List.set_cons_zero, List.set_cons_succ, Option.some.injEq, V.int.injEq, V.bl.injEq, V.str.injEq, V.ref.injEq, List.cons.injEq, and_true, true_and, and_false, false_and, reduceCtorEq, exists_false, or_false, false_or, exists_and_left, exists_and_right, exists_eq_left, exists_eq_left', exists_eq_right, exists_eq_right', exists_const, ite_true, ite_false, Bool.false_eq_true, if_true, if_false, decide_true, decide_false]
    have fresh : sss S = toldS m g (sss S) → ∃ x, (SqL K H l x ∨ SqT K H l x) ∧ ∀ (l : Addr), H l = none → Q (V.ref l) (upd H l (HO.lst x)) := fun e =>
      ⟨_, .inl (ll hl.at_), fun p hp => q _ p S (same_upd hp) hp (hl.upd hp fun _ h => h) e⟩
    refine ⟨_, .inl (ll hl.at_), ?_⟩
    rw [List.length_map]
    rcases List.eq_nil_or_concat S with rfl | ⟨S0, ⟨ap, a⟩, rfl⟩
    · exact if_F (decide_eq_false (by simp)) (fresh rfl)
    · rw [List.concat_eq_append] at *
      have hap : SesAt H ap a := hl.all (ap, a) (List.mem_append_right _ (List.mem_singleton.mpr rfl))
      have eS : sss (S0 ++ [(ap, a)]) = sss S0 ++ [a] := by
        unfold sss
        rw [List.map_append]
        rfl
      have et : toldS m g (sss (S0 ++ [(ap, a)])) = if clos m a g = true then sss (S0 ++ [(ap, a)]) else sss S0 := by
        unfold toldS
        rw [eS, List.getLast?_concat, List.dropLast_concat]
      refine if_T (decide_eq_true (by rw [List.length_append, List.length_singleton]; omega)) ⟨_, ll hl.at_, .ref ap, by rw [List.map_append]; exact atI_last _ _, v, m, ap, a, g, rfl, hm, hap, _, rfl, ?_⟩
      cases ec : clos m a g with
      | true =>
        refine if_F rfl (fresh ?_)
        rw [et, if_pos ec]
      | false =>
        refine if_T rfl ⟨l, _, rfl, ll hl.at_, fun p hp => ?_⟩
        have e1 : cutV ((S0 ++ [(ap, a)]).map fun q => V.ref q.1) none (some (-1)) = S0.map fun q => V.ref q.1 := by
          rw [List.map_append]
          exact cutV_last _ _
        have h1 := hl.upd (S' := S0) hp fun q hq => List.mem_append_left _ hq
        rw [← e1] at h1
        refine q _ p S0 (same_upd hp) hp h1 ?_
        rw [et, if_neg (by rw [ec]; exact Bool.false_ne_true)]
end
end Mv

set_option Elab.async false
set_option linter.all false
set_option maxRecDepth 100000
set_option maxHeartbeats 4000000
namespace Mv
open PySem PySem.Spec PyProof.Rows L2
abbrev sCS : Stmt := topS 21
abbrev sTS : Stmt := topS 22
theorem chn_len (g : Int) (L : List Ltr) : (chn g L).length ≤ L.length := by
  suffices h : ∀ (L : List Ltr) (CC : List (List Ltr)), (L.foldl (cstep g) CC).length ≤ CC.length + L.length by
    have := h L []
    rw [List.length_nil, Nat.zero_add] at this
    exact this
  intro L
  induction L with
  | nil => intro CC; exact Nat.le_refl _
  | cons e L ih =>
    intro CC
    have h1 := ih (cstep g CC e)
    have h2 : (cstep g CC e).length ≤ CC.length + 1 := by
      unfold cstep
      cases ho : CC.getLast? with
      | none => exact Nat.succ_le_succ (Nat.zero_le _)
      | some ch =>
        show (if near g ch e = true then CC.dropLast ++ [ch ++ [e]] else CC ++ [[e]]).length ≤ _
        split
        · rw [List.length_append, List.length_singleton, List.length_dropLast]
          omega
        · rw [List.length_append, List.length_singleton]
          exact Nat.le_refl _
    rw [List.foldl_cons, List.length_cons]
    omega
/-! ### a def with one keyword-only parameter, the gap -/
structure KgX (P : Program) (w : World) (K : PySem.W.Frag) (mg : Str → Option Value) (base : Heap) (lv : Nat) (x : Str) (sp : Sp) (np : Nat) : Prop where
  ex : ∃ (f : Addr) (fd : FuncData) (ps : List Str) (g : List Value → List Value → List Value), FnOk P w K mg base (L2.CX P w) lv f fd ps sp ∧ mg x = some (.ref f) ∧ PySem.W.keepIn K (.ref f) = true ∧ KBn K fd ps np ["gap"] g (fun vs zs => vs ++ zs)
section
variable {X : Cx} {j lv np : Nat} {x : Str} {sp : Sp} {E : XK} {p pos : Pos} {e : Expr} {es : List Expr} {kws : List Keyword} {t tk : TA}
theorem pe_kg (c : KgX X.prog X.w X.K X.mg X.base lv x sp np) (hr : Room j X.A) (hk : lv ≤ j) (hx : Passes (L2.CX X.prog X.w) X E) (hg : Gl X x) (ha : PA X (e :: es) t) (hkw : PK X kws tk)
    (hall : (backToKw pos (keywordEach kws X.env)).all (·.1.isSome) = true := by rfl) (hks : (backToKw pos (keywordEach kws X.env)).filterMap (·.1) = [("gap" : Str)] := by rfl)
    (hdb : (x == ("__debug__" : Str)) = false := by decide) (he : starEach (e :: es) X.env = (false, eval e X.env) :: starEach es X.env := by rfl)
    (hpl : ((backTo pos (starEach (e :: es) X.env)).any (·.1) || (backToKw pos (keywordEach kws X.env)).any (·.1.isNone)) = false := by rfl) :
    PE X (.Call (.Name x p) (e :: es) kws pos) (tCallN np 1 sp (fun vs zs => vs ++ zs) E t tk) := by
  obtain ⟨f, fd, ps, g, F, hm, kp, b⟩ := c.ex
  exact pe_callN F (hr.mono hk) hg hm kp b hx ha hkw hall hks hdb he hpl
theorem pe_kgS {W : WX} (c : KgX X.prog X.w X.K X.mg X.base lv x sp np) (hr : Room j X.A) (hk : lv ≤ j) (tw : Takes X W) (hg : Gl X x) (ha : PA X (e :: es) t) (hkw : PK X kws tk)
    (hall : (backToKw pos (keywordEach kws X.env)).all (·.1.isSome) = true := by rfl) (hks : (backToKw pos (keywordEach kws X.env)).filterMap (·.1) = [("gap" : Str)] := by rfl)
    (hdb : (x == ("__debug__" : Str)) = false := by decide) (he : starEach (e :: es) X.env = (false, eval e X.env) :: starEach es X.env := by rfl)
    (hpl : ((backTo pos (starEach (e :: es) X.env)).any (·.1) || (backToKw pos (keywordEach kws X.env)).any (·.1.isNone)) = false := by rfl) :
    PE X (.Call (.Name x p) (e :: es) kws pos) (tCallNS np 1 sp (fun vs zs => vs ++ zs) (WE W) t tk) := by
  obtain ⟨f, fd, ps, g, F, hm, kp, b⟩ := c.ex
  exact pe_callNS F (hr.mono hk) hg hm kp b (fun σ => passAt tw σ) ha hkw hall hks hdb he hpl
end
theorem MkAt.ext {H H' : Hp} {v : V} {m : Mk} (h : MkAt H v m) (e : LamX.ExtN H H') : MkAt H' v m := by
  match m, h with
  | none, h => exact h
  | some (c, f), ⟨p, hv, hp⟩ => exact ⟨p, hv, e _ _ hp fun ps z => by cases z⟩
theorem none_back {H H' : Hp} {p : Addr} (s : Same H H') (h : H' p = none) : H p = none := by
  cases e : H p with
  | none => rfl
  | some o =>
    rw [s p o e] at h
    cases h
theorem ck_of {cls : Kd → Addr} {CB CG : Addr} {H : Hp} {v : V} {g : Int} {E : XK} {R : Kd → Prop} {Q : VK} (h : CkP cls CB CG H v g E R) (go : ∀ (k : Kd) (H' : Hp) (o : Addr), R k → Same H H' → KObj cls H' o k → Q (.ref o) H') : spCK cls CB CG [v, .int g] H Q E := by
  refine ⟨v, g, rfl, ?_⟩
  rcases h with ⟨k, hv, h0, r⟩ | h | h
  · exact .inl ⟨k, hv, h0, fun H' o s ho => go k H' o r s ho⟩
  · exact .inr (.inl h)
  · exact .inr (.inr h)
def spCS (T : List (Addr × Str)) (cls : Kd → Addr) (CB CG CN : Addr) : Sp := fun vs H Q E => ∃ (v : V) (l : Addr) (L : LtL) (g : Int), vs = [v, .ref l, .int g] ∧ Lts H l L ∧ L.length ≤ 60 ∧ LamX.Tabs T H ∧ CkP cls CB CG H v g E fun k =>
  (Inord (lts L) → ∀ (H' : Hp) (p : Addr) (S : SsL), Gw T H H' → H p = none → Sss H' p S → sss S = (chn g (lts L)).map (sesOf k) → Q (.ref p) H') ∧ (¬ Inord (lts L) → RsN CN H E)
def spTS (T : List (Addr × Str)) (cls : Kd → Addr) (CB CG CN : Addr) : Sp := fun vs H Q E => ∃ (v : V) (l : Addr) (L : LtL) (mv : V) (m : Mk) (g : Int), vs = [v, .ref l, mv, .int g] ∧ Lts H l L ∧ L.length ≤ 60 ∧ LamX.Tabs T H ∧ MkAt H mv m ∧ CkP cls CB CG H v g E fun k =>
  (Inord (lts L) → ∀ (H' : Hp) (p : Addr) (S : SsL), Gw T H H' → Sss H' p S → sss S = toldS m g ((chn g (lts L)).map (sesOf k)) → Q (.ref p) H') ∧ (¬ Inord (lts L) → RsN CN H E)
section
variable {P : Program} {w : World} {K : PySem.W.Frag} {mg : Str → Option Value} {base : Heap} {T : List (Addr × Str)} {cls : Kd → Addr} {CB CG CN : Addr}
theorem scCS : FnScope ["kind", "letters", "gap", "named"] ["kind", "letters", "gap"] (defScope sCS) := ⟨rfl, rfl, rfl, by decide +kernel, rfl, by decide +kernel, by decide +kernel⟩
theorem ok_cs {f : Addr} {fd : FuncData} (F : Fun K "cut_sessions" "cut_sessions" sCS f fd) (B : Bi mg) (N : NTx K mg "NotFitting" CN) (cCK : CalX (L2.CX P w) P w K mg base 4 "checked_kind" (spCK cls CB CG)) (cCp : CalX CX0 P w K mg base 1 "complete" spCp) (cSW : CalX CX0 P w K mg base 5 "sessions_within" (spSW T cls)) : FnOk P w K mg base (L2.CX P w) 6 f fd ["kind", "letters", "gap"] (spCS T cls CB CG CN) := by
  refine F.okX scCS (fun vs H Q E h => ?_) (fun cdv A outer s H vs Q E hr h => ?_)
  · obtain ⟨v, l, L, g, rfl, _⟩ := h
    rfl
  · obtain ⟨v, l, L, g, rfl, hl, lL, hT, h⟩ := h
    refine ⟨_, (pss_cons (ps_set (i := 3) scCS.nd rfl (.inl rfl) (pe_cx cCK hr (by decide) (passes_call (takes_of rfl rfl rfl rfl) (fun _ _ _ _ h => h)) (by rfl) (pa_cons (pv 0) (pa_cons (pv 2) pa_nil))))
 (pss_cons (ps_if (pt_not (pt_val (pe_cx cCp hr (by decide) pass0 (by rfl) (pa_cons (pv 1) pa_nil))))
 (pss_one (ps_raise rfl (takes_of rfl rfl rfl rfl) (pmk_own0 _root_.PySem.F.excBase_ValueError N.ex N.g N.kp (raises_own N.sub N.ty) (by rfl)))) pss_nil)
 (pss_one (ps_ret (pe_cx cSW hr (by decide) pass0 (by rfl) (pa_cons (pv 3) (pa_cons (pv 1) (pa_cons (pv 2) pa_nil)))))))), ?_⟩
    simp only [tSeq, tAsg, gName, tOp, rI, rI0, rU, tUn, tVar, tC, tCB, tCons, tNil, tTest, tIfS, tRet, tRetN, tDrop, tNext, tBreak, tCont, rEq, rNe, CDiv, CDivN, CMul, tBM, tBM0, tTup, tLst, tAug, tIf, tAnd, tOr, tNot, tAndV, tOrV, tNotV, tIsN, tNotN, tB, scal, tCall, cxK, cxKn, rIxT, rIxL, rIn, rAppend, rReverse, tVals, tDSetd, tDGet, tDGet1, tDGet2, tDIn, tDNotIn, rSortV, rSortT, rPop, rSortL, rSortT, tSl, tNoPart, tPart, List.append_nil, L2.start, List.map_cons, List.map_nil, List.length_cons, List.length_nil, List.replicate_succ, List.replicate_zero, List.cons_append, List.nil_append, Nat.reduceAdd, Nat.reduceSub, exists_eq, exists_eq', List.getElem?_cons_zero, List.getElem?_cons_succ, List.set_cons_zero, List.set_cons_succ, Option.some.injEq, V.int.injEq, V.bl.injEq, V.str.injEq, V.ref.injEq, List.cons.injEq, and_true, true_and, and_false, false_and, reduceCtorEq, exists_false, or_false, false_or, exists_and_left, exists_and_right, exists_eq_left, exists_eq_left', exists_eq_right, exists_eq_right', exists_const, ite_true, ite_false, Bool.false_eq_true, if_true, if_false, decide_true, decide_false]
    refine ck_of h fun k H1 o r s1 ho => ?_
    have hl1 := hl.same s1
    refine ⟨l, L, rfl, hl1, lL, fun b H2 s2 hb => ⟨b, rfl, ?_⟩⟩
    have s12 := s1.trans s2
    cases b with
    | true =>
      refine if_F rfl ⟨o, l, k, L, g, rfl, ho.ext (LamX.ExtN.of s2), hl1.same s2, lL, hT.ext s12, fun H3 p S g3 hp hS eS => ?_⟩
      exact r.1 (hb.mp rfl) H3 p S ((Gw.of hT s12).trans g3) (none_back s12 hp) hS eS
    | false =>
      exact if_T rfl (r.2 (fun z => by have := hb.mpr z; cases this) H2 s12)
theorem scTS : FnScope ["kind", "letters", "mark", "gap"] ["kind", "letters", "mark", "gap"] (defScope sTS) := ⟨rfl, rfl, rfl, by decide +kernel, rfl, by decide +kernel, by decide +kernel⟩
theorem ok_ts {f : Addr} {fd : FuncData} (F : Fun K "told_sessions" "told_sessions" sTS f fd) (B : Bi mg) (cCS : KgX P w K mg base 6 "cut_sessions" (spCS T cls CB CG CN) 2) (cTP : CalX CX0 P w K mg base 2 "told_part" spTP) : FnOk P w K mg base (L2.CX P w) 7 f fd ["kind", "letters", "mark", "gap"] (spTS T cls CB CG CN) := by
  refine F.okX scTS (fun vs H Q E h => ?_) (fun cdv A outer s H vs Q E hr h => ?_)
  · obtain ⟨v, l, L, mv, m, g, rfl, _⟩ := h
    rfl
  · obtain ⟨v, l, L, mv, m, g, rfl, hl, lL, hT, hm, h⟩ := h
    refine ⟨_, (pss_one (ps_ret (pe_cx cTP hr (by decide) pass0 (by rfl) (pa_cons (pe_kg cCS hr (by decide) (passes_call (takes_of rfl rfl rfl rfl) (fun _ _ _ _ h => h)) (by rfl) (pa_cons (pv 0) (pa_cons (pv 1) pa_nil)) (pk_cons (pv 3) pk_nil)) (pa_cons (pv 2) (pa_cons (pv 3) pa_nil)))))), ?_⟩
    simp only [tSeq, tAsg, gName, tOp, rI, rI0, rU, tUn, tVar, tC, tCB, tCons, tNil, tTest, tIfS, tRet, tRetN, tDrop, tNext, tBreak, tCont, rEq, rNe, CDiv, CDivN, CMul, tBM, tBM0, tTup, tLst, tAug, tIf, tAnd, tOr, tNot, tAndV, tOrV, tNotV, tIsN, tNotN, tB, scal, tCall, cxK, cxKn, rIxT, rIxL, rIn, rAppend, rReverse, tVals, tDSetd, tDGet, tDGet1, tDGet2, tDIn, tDNotIn, rSortV, rSortT, rPop, rSortL, rSortT, tSl, tNoPart, tPart, List.append_nil, L2.start, List.map_cons, List.map_nil, List.length_cons, List.length_nil, List.replicate_succ, List.replicate_zero, List.cons_append, List.nil_append, Nat.reduceAdd, Nat.reduceSub, exists_eq, exists_eq', List.getElem?_cons_zero, List.getElem?_cons_succ, List.set_cons_zero, List.set_cons_succ, Option.some.injEq, V.int.injEq, V.bl.injEq, V.str.injEq, V.ref.injEq, List.cons.injEq, and_true, true_and, and_false, false_and, reduceCtorEq, exists_false, or_false, false_or, exists_and_left, exists_and_right, exists_eq_left, exists_eq_left', exists_eq_right, exists_eq_right', exists_const, ite_true, ite_false, Bool.false_eq_true, if_true, if_false, decide_true, decide_false]
    unfold tCallN
    simp only [tSeq, tAsg, gName, tOp, rI, rI0, rU, tUn, tVar, tC, tCB, tCons, tNil, tTest, tIfS, tRet, tRetN, tDrop, tNext, tBreak, tCont, rEq, rNe, CDiv, CDivN, CMul, tBM, tBM0, tTup, tLst, tAug, tIf, tAnd, tOr, tNot, tAndV, tOrV, tNotV, tIsN, tNotN, tB, scal, tCall, cxK, cxKn, rIxT, rIxL, rIn, rAppend, rReverse, tVals, tDSetd, tDGet, tDGet1, tDGet2, tDIn, tDNotIn, rSortV, rSortT, rPop, rSortL, rSortT, tSl, tNoPart, tPart, List.append_nil, L2.start, List.map_cons, List.map_nil, List.length_cons, List.length_nil, List.replicate_succ, List.replicate_zero, List.cons_append, List.nil_append, Nat.reduceAdd, Nat.reduceSub, exists_eq, exists_eq', List.getElem?_cons_zero, List.getElem?_cons_succ, List.set_cons_zero, List.set_cons_succ, Option.some.injEq, V.int.injEq, V.bl.injEq, V.str.injEq, V.ref.injEq, List.cons.injEq, and_true, true_and, and_false, false_and, reduceCtorEq, exists_false, or_false, false_or, exists_and_left, exists_and_right, exists_eq_left, exists_eq_left', exists_eq_right, exists_eq_right', exists_const, ite_true, ite_false, Bool.false_eq_true, if_true, if_false, decide_true, decide_false]
    have fin : ∀ (k : Kd), (∀ (H' : Hp) (p : Addr) (S : SsL), Gw T H H' → Sss H' p S → sss S = toldS m g ((chn g (lts L)).map (sesOf k)) → Q (.ref p) H') → ∀ (H' : Hp) (p : Addr) (S : SsL), Gw T H H' → H p = none → Sss H' p S → sss S = (chn g (lts L)).map (sesOf k) → spTP [.ref p, mv, .int g] H' Q E0 := fun k r H1 p S g1 _ hS eS => by
      have lS : S.length ≤ 60 := by
        have e := congrArg List.length eS
        unfold sss at e
        rw [List.length_map, List.length_map] at e
        have := chn_len g (lts L)
        unfold lts at this e
        rw [List.length_map] at this
        omega
      exact ⟨p, S, mv, m, g, rfl, hS, lS, hm.ext g1.1, fun H2 p2 S2 s2 _ h2 e2 => r H2 p2 S2 (g1.trans (Gw.of g1.2 s2)) h2 (by rw [e2, eS])⟩
    refine ⟨v, l, L, g, rfl, hl, lL, hT, ?_⟩
    rcases h with ⟨k, hv, h0, r⟩ | h | h
    · exact .inl ⟨k, hv, h0, fun hi => fin k (r.1 hi), r.2⟩
    · exact .inr (.inl h)
    · exact .inr (.inr h)
end
end Mv

set_option Elab.async false
set_option linter.all false
set_option maxRecDepth 100000
set_option maxHeartbeats 4000000
namespace Mv
open PySem PySem.Spec PyProof.Rows L2
abbrev sJS : Stmt := topS 23
def Ses.both (k : Kd) (b h : Ses) : Ses := ⟨b.lo, h.hi, b.fi, h.la, plainI k (b.vs ++ h.vs)⟩
/-- the kind that the check is for, if there is one -/
theorem ck_k {cls : Kd → Addr} {CB CG : Addr} {H : Hp} {v : V} {g : Int} {E : XK} {R : Kd → Prop} (h : CkP cls CB CG H v g E R) : ∃ k : Kd, CkP cls CB CG H v g E fun k' => k' = k ∧ R k := by
  rcases h with ⟨k, hv, h0, r⟩ | h | h
  · exact ⟨k, .inl ⟨k, hv, h0, rfl, r⟩⟩
  · exact ⟨.list, .inr (.inl h)⟩
  · exact ⟨.list, .inr (.inr h)⟩
/-- the sessions of the first letters and those of the rest, joined; none: they do not fit -/
def joinS (k : Kd) (g : Int) (A B : List Ses) : Option (List Ses) := match A.getLast?, B with
  | some b, h :: r => if h.fi < b.la then none else if b.la + g < h.fi then some (A ++ (h :: r).map (·.up b.hi)) else some (A.dropLast ++ [Ses.both k b (h.up b.hi)] ++ r.map (·.up b.hi))
  | _, _ => some (A ++ B)
def spJS (T : List (Addr × Str)) (cls : Kd → Addr) (CB CG CN : Addr) : Sp := fun vs H Q E => ∃ (v : V) (a b : Addr) (A B : SsL) (g : Int), vs = [v, .ref a, .ref b, .int g] ∧ Sss H a A ∧ Sss H b B ∧ A.length ≤ 60 ∧ B.length ≤ 60 ∧ (∀ p ∈ A, ∀ q ∈ B, p.2.vs.length + q.2.vs.length ≤ 60) ∧ LamX.Tabs T H ∧ CkP cls CB CG H v g E fun k =>
  (∀ R, joinS k g (sss A) (sss B) = some R → ∀ (H' : Hp) (p : Addr) (S : SsL), Gw T H H' → Nw H p → Sss H' p S → sss S = R → Q (.ref p) H') ∧ (joinS k g (sss A) (sss B) = none → RsN CN H E)
theorem cat_ss {H : Hp} {a b : Addr} {S1 S2 : SsL} {Q : VK} (ha : Sss H a S1) (hb : Sss H b S2) (l1 : S1.length ≤ 200) (l2 : S2.length ≤ 200) (q : ∀ (H' : Hp) (p : Addr), Same H H' → H p = none → Sss H' p (S1 ++ S2) → Q (.ref p) H') : rCat (.ref a) (.ref b) H Q := by
  refine ⟨a, b, _, _, rfl, rfl, ha.at_, hb.at_, ?_, fun p hp => ?_⟩
  · rw [List.length_map, List.length_map]
    exact Nat.le_of_lt (small1000 (n := S1.length + S2.length) (by omega))
  · have s := same_upd (o := .lst ((S1.map fun q => V.ref q.1) ++ S2.map fun q => V.ref q.1)) hp
    refine q _ p s hp ⟨by rw [upd_same, List.map_append], fun q hq => ?_⟩
    rcases List.mem_append.mp hq with h | h
    · exact (ha.all q h).ext (LamX.ExtN.of s)
    · exact (hb.all q h).ext (LamX.ExtN.of s)
theorem catA_ints {K : PySem.W.Frag} {H : Hp} {a b : Addr} {xs ys : List Int} {Q : VK} (ha : SqT K H a (xs.map V.int)) (hb : SqT K H b (ys.map V.int)) (hl : xs.length + ys.length ≤ 900) (q : ∀ (H' : Hp) (t : Addr), Same H H' → SqT K H' t ((xs ++ ys).map V.int) → Q (.ref t) H') : rCatA K (.ref a) (.ref b) H Q := by
  refine ⟨a, b, _, _, rfl, rfl, ha, hb, ?_, fun e => ?_, fun _ e => ?_, fun _ _ p hp => ?_⟩
  · rw [List.length_map, List.length_map]
    exact Nat.le_of_lt (small1000 (n := xs.length + ys.length) (by omega))
  · obtain rfl := List.map_eq_nil_iff.mp e
    exact q H b (fun _ _ h => h) hb
  · obtain rfl := List.map_eq_nil_iff.mp e
    exact q H a (fun _ _ h => h) (by rw [List.append_nil]; exact ha)
  · exact q _ p (same_upd hp) (.inl (.inl (by rw [upd_same, List.map_append])))
theorem joinS_nl (k : Kd) (g : Int) (B : List Ses) : joinS k g [] B = some B := rfl
theorem joinS_nr (k : Kd) (g : Int) (A : List Ses) : joinS k g A [] = some A := by
  unfold joinS
  split
  · rename_i h
    cases h
  · rw [List.append_nil]
theorem joinS_cons (k : Kd) (g : Int) (A : List Ses) (b h : Ses) (r : List Ses) : joinS k g (A ++ [b]) (h :: r) = if h.fi < b.la then none else if b.la + g < h.fi then some (A ++ [b] ++ (h :: r).map (·.up b.hi)) else some (A ++ [Ses.both k b (h.up b.hi)] ++ r.map (·.up b.hi)) := by
  unfold joinS
  rw [List.getLast?_concat, List.dropLast_concat]
section
variable {P : Program} {w : World} {K : PySem.W.Frag} {mg : Str → Option Value} {base : Heap} {T : List (Addr × Str)} {cls : Kd → Addr} {CB CG CN : Addr}
theorem scJS : FnScope ["kind", "left", "right", "gap", "named", "before", "raised", "behind", "both", "session"] ["kind", "left", "right", "gap"] (defScope sJS) := ⟨rfl, rfl, rfl, by decide +kernel, rfl, by decide +kernel, by decide +kernel⟩
theorem ok_js {f : Addr} {fd : FuncData} (F : Fun K "joined_sessions" "joined_sessions" sJS f fd) (B : Bi mg) (N : NTx K mg "NotFitting" CN) (cCK : CalX (L2.CX P w) P w K mg base 4 "checked_kind" (spCK cls CB CG)) (cRS : CalX CX0 P w K mg base 1 "raised_session" spRS) (cPlain : ∀ k, MetX CX0 P w K mg base 3 (cls k) "plain" (spPlainM K cls T k)) : FnOk P w K mg base (L2.CX P w) 6 f fd ["kind", "left", "right", "gap"] (spJS T cls CB CG CN) := by
  refine F.okX scJS (fun vs H Q E h => ?_) (fun cdv A outer s H vs Q E hr h => ?_)
  · obtain ⟨v, a, b, A1, B1, g, rfl, _⟩ := h
    rfl
  · obtain ⟨v, a, b, A1, B1, g, rfl, ha, hb, lA, lB, lv, hT, h⟩ := h
    obtain ⟨k, h⟩ := ck_k h
    refine ⟨_, (pss_cons (ps_set (i := 4) scJS.nd rfl (.inl rfl) (pe_cx cCK hr (by decide) (passes_call (takes_of rfl rfl rfl rfl) (fun _ _ _ _ h => h)) (by rfl) (pa_cons (pv 0) (pa_cons (pv 3) pa_nil))))
 (pss_cons (ps_if (PW.pt (pw_or (pt_cmpR op_eq (pe_callB call_len_seq (by rfl) B.len PySem.boot_len (pa_cons (pv 1) pa_nil)) pe_int (nomark _)) (pw_or1 (pt_cmpR op_eq (pe_callB call_len_seq (by rfl) B.len PySem.boot_len (pa_cons (pv 2) pa_nil)) pe_int (nomark _)))))
 (pss_one (ps_ret (pe_op op_cat (pe_callTy call_list_of (by rfl) B.list (by decide +kernel) (pa_cons (pv 1) pa_nil)) (pe_callTy call_list_of (by rfl) B.list (by decide +kernel) (pa_cons (pv 2) pa_nil))))) pss_nil)
 (pss_cons (ps_set (i := 5) scJS.nd rfl (.inr rfl) (pe_ix ix_list (pv 1) (pe_un un_neg pe_int) (fun _ _ => rfl)))
 (pss_cons (ps_if (pt_cmpR op_lt (pe_ix ix_tup (pe_ix ix_list (pv 2) pe_int (fun _ _ => rfl)) pe_int (fun _ _ => rfl)) (pe_ix ix_tup (pv 5) pe_int (fun _ _ => rfl)) (nomark _))
 (pss_one (ps_raise rfl (takes_of rfl rfl rfl rfl) (pmk_own0 _root_.PySem.F.excBase_ValueError N.ex N.g N.kp (raises_own N.sub N.ty) (by rfl)))) pss_nil)
 (pss_cons (ps_setLc (i := 6) (own := [("session", 9)]) (g := gName 9) (tt := tYes) (te := (tCall spRS [] E0 (tCons (tVar 9) (tCons (tOp (rIxT K) (tVar 5) (tC (V.int 1))) tNil)))) rfl scJS.nd rfl rfl (sw_true rfl rfl rfl (by decide +kernel)) (pi_list (pv 2)) (blkOk_by (N := ["kind", "left", "right", "gap", "named", "before", "raised", "behind", "both", "session"]) (sc := defScope sJS) (by decide +kernel)) (fun _ _ _ _ _ => (pg_name (i := 9) scJS.nd rfl (.inl rfl))) (fun _ _ _ _ _ => pts_nil) (fun _ _ _ _ _ => (pe_cx cRS hr (by decide) pass0 (by rfl) (pa_cons (pv 9) (pa_cons (pe_ix ix_tup (pv 5) pe_int (fun _ _ => rfl)) pa_nil)))))
 (pss_cons (ps_set (i := 7) scJS.nd rfl (.inl rfl) (pe_ix ix_list (pv 6) pe_int (fun _ _ => rfl)))
 (pss_cons (ps_if (pt_cmpR op_gt (pe_ix ix_tup (pv 7) pe_int (fun _ _ => rfl)) (pe_op op_add (pe_ix ix_tup (pv 5) pe_int (fun _ _ => rfl)) (pv 3)) (nomark _))
 (pss_one (ps_ret (pe_op op_cat (pe_callTy call_list_of (by rfl) B.list (by decide +kernel) (pa_cons (pv 1) pa_nil)) (pv 6)))) pss_nil)
 (pss_cons (ps_set (i := 8) scJS.nd rfl (.inl rfl) (pe_tup (pa_cons (pe_ix ix_tup (pv 5) pe_int (fun _ _ => rfl)) (pa_cons (pe_ix ix_tup (pv 7) pe_int (fun _ _ => rfl)) (pa_cons (pe_ix ix_tup (pv 5) pe_int (fun _ _ => rfl)) (pa_cons (pe_ix ix_tup (pv 7) pe_int (fun _ _ => rfl)) (pa_cons (pe_mx (cPlain k) hr (by decide) pass0 (pv 4) (pa_cons (pe_op op_catA (pe_ix ix_tup (pv 5) pe_int (fun _ _ => rfl)) (pe_ix ix_tup (pv 7) pe_int (fun _ _ => rfl))) pa_nil)) pa_nil)))))))
 (pss_one (ps_ret (pe_op op_cat (pe_op op_cat (pe_callTy call_list_of (by rfl) B.list (by decide +kernel) (pa_cons (pe_slice sl_list (pv 1) po_none (po_some (pe_un un_neg pe_int))) pa_nil)) (pe_lst (pa_cons (pv 8) pa_nil))) (pe_slice sl_list (pv 6) (po_some pe_int) po_none)))))))))))), ?_⟩
    simp only [tSeq, tAsg, gName, tOp, rI, rI0, rU, tUn, tVar, tC, tCB, tCons, tNil, tTest, tIfS, tRet, tRetN, tDrop, tNext, tBreak, tCont, rEq, rNe, CDiv, CDivN, CMul, tBM, tBM0, tTup, tLst, tAug, tIf, tAnd, tOr, tNot, tAndV, tOrV, tNotV, tIsN, tNotN, tB, scal, tCall, cxK, cxKn, rIxT, rIxL, rIn, rAppend, rReverse, tVals, tDSetd, tDGet, tDGet1, tDGet2, tDIn, tDNotIn, rSortV, rSortT, rPop, rSortL, rSortT, tSl, tNoPart, tPart, List.append_nil, L2.start, List.map_cons, List.map_nil, List.length_cons, List.length_nil, List.replicate_succ, List.replicate_zero, List.cons_append, List.nil_append, Nat.reduceAdd, Nat.reduceSub, exists_eq, exists_eq', List.getElem?_cons_zero, List.getElem?_cons_succ, List.set_cons_zero, List.set_cons_succ, Option.some.injEq, V.int.injEq, V.bl.injEq, V.str.injEq, V.ref.injEq, List.cons.injEq, and_true, true_and, and_false, false_and, reduceCtorEq, exists_false, or_false, false_or, exists_and_left, exists_and_right, exists_eq_left, exists_eq_left', exists_eq_right, exists_eq_right', exists_const, ite_true, ite_false, Bool.false_eq_true, if_true, if_false, decide_true, decide_false]
    refine ck_of h fun k' H1 o r s1 ho => ?_
    obtain ⟨rfl, r⟩ := r
    have gw1 := Gw.of hT s1
    have a1 := ha.ext gw1.1
    have b1 := hb.ext gw1.1
    have plain : ∀ R, joinS k' g (sss A1) (sss B1) = some R → R = sss (A1 ++ B1) → ∃ x,
        (SqL K H1 a x ∨ SqT K H1 a x) ∧ ∀ (l : Addr), H1 l = none → ∃ x_1, (SqL K (upd H1 l (HO.lst x)) b x_1 ∨ SqT K (upd H1 l (HO.lst x)) b x_1) ∧
          ∀ (l_1 : Addr), upd H1 l (HO.lst x) l_1 = none → rCat (V.ref l) (V.ref l_1) (upd (upd H1 l (HO.lst x)) l_1 (HO.lst x_1)) Q := fun R e1 e2 => by
      refine ⟨_, .inl (ll a1.at_), fun l hl => ?_⟩
      have s2 := same_upd (o := .lst (A1.map fun q => V.ref q.1)) hl
      have a2 := a1.upd hl fun _ h => h
      have b2 := b1.ext (LamX.ExtN.of s2)
      refine ⟨_, .inl (ll b2.at_), fun l2 hl2 => ?_⟩
      have s3 := same_upd (o := .lst (B1.map fun q => V.ref q.1)) hl2
      have b3 := b2.upd hl2 fun _ h => h
      refine cat_ss (a2.ext (LamX.ExtN.of s3)) b3 (by omega) (by omega) fun H' p s4 hp hS => ?_
      have s14 := (s2.trans s3).trans s4
      exact r.1 R e1 H' p _ (gw1.trans (Gw.of gw1.2 s14)) (Gw.nw (gw1.trans (Gw.of gw1.2 (s2.trans s3))) hp) hS e2.symm
    refine ⟨_, .inl (ll a1.at_), ?_⟩
    rw [List.length_map]
    rcases List.eq_nil_or_concat A1 with rfl | ⟨A0, ⟨ap, x⟩, rfl⟩
    · exact if_T (decide_eq_true rfl) (plain _ (joinS_nl _ _ _) rfl)
    rw [List.concat_eq_append] at *
    refine if_F (decide_eq_false (by rw [List.length_append, List.length_singleton]; omega)) ⟨_, .inl (ll b1.at_), ?_⟩
    rw [List.length_map]
    cases B1 with
    | nil => exact if_T (decide_eq_true rfl) (plain _ (joinS_nr _ _ _) (by rw [List.append_nil]))
    | cons y B0 =>
    obtain ⟨yp, y⟩ := y
    refine if_F (decide_eq_false (by rw [List.length_cons]; omega)) ?_
    obtain ⟨xw, hx, hxw⟩ := a1.all (ap, x) (List.mem_append_right _ (List.mem_singleton.mpr rfl))
    obtain ⟨yw, hy, hyw⟩ := b1.all (yp, y) List.mem_cons_self
    have ej : joinS k' g (sss (A0 ++ [(ap, x)])) (sss ((yp, y) :: B0)) = if y.fi < x.la then none else if x.la + g < y.fi then some (sss A0 ++ [x] ++ (y :: sss B0).map (·.up x.hi)) else some (sss A0 ++ [Ses.both k' x (y.up x.hi)] ++ (sss B0).map (·.up x.hi)) := by
      rw [show sss (A0 ++ [(ap, x)]) = sss A0 ++ [x] by unfold sss; rw [List.map_append]; rfl]
      exact joinS_cons _ _ _ _ _ _
    rw [ej] at r
    have lB0 : B0.length ≤ 60 := by
      rw [List.length_cons] at lB
      omega
    clear plain ej
    refine ⟨_, ll a1.at_, .ref ap, by rw [List.map_append]; exact atI_last _ _, _, ll b1.at_, .ref yp, atI_nat (j := 0) rfl, yp, rfl, _, tt hy, .int y.fi, rfl, ap, rfl, _, tt hx, .int x.la, rfl, _, rfl, _, rfl, ite2 (fun c => ?_) (fun c => ?_)⟩
    · exact r.2 (if_pos (of_decide_eq_true c)) H1 s1
    · rw [if_neg (fun z => c (decide_eq_true z))] at r
      refine ⟨.ref b, rfl, b, rfl, ⟨_, ll b1.at_⟩, fun D hD => lc_list (K := K) (xs := ((yp, y) :: B0).map fun q => V.ref q.1) (fun i H' => Gw T H1 H' ∧ ∃ S : SsL, Sss H' D S ∧ S.length = i ∧ sss S = (sss (((yp, y) :: B0).take i)).map (·.up x.hi)) ⟨Gw.of gw1.2 (same_upd hD), [], ⟨upd_same, fun q hq => by cases hq⟩, rfl, rfl⟩ (fun i H' _ h => ll (b1.ext h.1.1).at_) ?_ ?_⟩
      · rintro i e H2 he ⟨g2, S, hS, lS, eS⟩
        rw [List.getElem?_map] at he
        obtain ⟨⟨zp, z⟩, hz, rfl⟩ : ∃ q : Addr × Ses, ((yp, y) :: B0)[i]? = some q ∧ e = .ref q.1 := by
          cases zz : ((yp, y) :: B0)[i]? with
          | none =>
            rw [zz] at he
            cases he
          | some q =>
            rw [zz] at he
            exact ⟨q, rfl, (Option.some.inj he).symm⟩
        have hil := (List.getElem?_eq_some_iff.mp hz).1
        refine ⟨rfl, ?_⟩
        simp only [tSeq, tAsg, gName, tOp, rI, rI0, rU, tUn, tVar, tC, tCB, tCons, tNil, tTest, tIfS, tRet, tRetN, tDrop, tNext, tBreak, tCont, rEq, rNe, CDiv, CDivN, CMul, tBM, tBM0, tTup, tLst, tAug, tIf, tAnd, tOr, tNot, tAndV, tOrV, tNotV, tIsN, tNotN, tB, scal, tCall, cxK, cxKn, rIxT, rIxL, rIn, rAppend, rReverse, tVals, tDSetd, tDGet, tDGet1, tDGet2, tDIn, tDNotIn, rSortV, rSortT, rPop, rSortL, rSortT, tSl, tNoPart, tPart, List.append_nil, L2.start, List.map_cons, List.map_nil, List.length_cons, List.length_nil, List.replicate_succ, List.replicate_zero, List.cons_append, List.nil_append, Nat.reduceAdd, Nat.reduceSub, exists_eq, exists_eq', wipe, tYes, List.getElem?_cons_zero, List.getElem?_cons_succ, List.set_cons_zero, List.set_cons_succ, Option.some.injEq, V.int.injEq, V.bl.injEq, V.str.injEq, V.ref.injEq, List.cons.injEq, and_true, true_and, and_false, false_and, reduceCtorEq, exists_false, or_false, false_or, exists_and_left, exists_and_right, exists_eq_left, exists_eq_left', exists_eq_right, exists_eq_right', exists_const, ite_true, ite_false, Bool.false_eq_true, if_true, if_false, decide_true, decide_false]
        refine ⟨_, tt (g2.1 _ _ hx fun ps z => by cases z), _, rfl, zp, z, x.hi, rfl, (b1.all _ (List.mem_of_getElem? hz)).ext g2.1, fun H3 t s3 ht => ?_⟩
        have hS3 := hS.ext (LamX.ExtN.of s3)
        have g3 := g2.trans (Gw.of g2.2 s3)
        refine ⟨_, hS3.at_, by rw [List.length_map]; exact small1000 (by omega), gw_put g3 hD hS3.at_, _, hS3.snoc ht, by rw [List.length_append, lS]; rfl, ?_⟩
        rw [List.take_add_one, hz]
        unfold sss at eS ⊢
        rw [List.map_append, List.map_append, List.map_append, eS]
        rfl
      · rintro H2 ⟨g2, S, hS, lS, eS⟩
        rw [List.length_map, List.take_length] at eS
        rw [List.length_map] at lS
        cases S with
        | nil => simp at lS
        | cons u R0 =>
        obtain ⟨up, u⟩ := u
        have eu : u = y.up x.hi := (List.cons.inj eS).1
        have eR : sss R0 = (sss B0).map (·.up x.hi) := (List.cons.inj eS).2
        subst eu
        have hx2 := g2.1 _ _ hx fun ps z => by cases z
        obtain ⟨uw, hu, huw⟩ := hS.all (up, y.up x.hi) List.mem_cons_self
        have lR : R0.length ≤ 60 := by
          rw [List.length_cons, List.length_cons] at lS
          omega
        have a2 := a1.ext g2.1
        refine ⟨D, rfl, _, ll hS.at_, .ref up, atI_nat (j := 0) rfl, up, rfl, _, tt hu, .int y.fi, rfl, ap, rfl, _, tt hx2, .int x.la, rfl, _, rfl, _, rfl, ite2 (fun c2 => ?_) (fun c2 => ?_)⟩
        · rw [if_pos (of_decide_eq_true c2)] at r
          refine ⟨_, .inl (ll a2.at_), fun l hl => ?_⟩
          have s3 := same_upd (o := .lst ((A0 ++ [(ap, x)]).map fun q => V.ref q.1)) hl
          have a3 := a2.upd hl fun _ h => h
          refine cat_ss a3 (hS.ext (LamX.ExtN.of s3)) (by omega) (by rw [List.length_cons]; omega) fun H' p s4 hp hS4 => ?_
          refine r.1 _ rfl H' p _ (gw1.trans (g2.trans (Gw.of g2.2 (s3.trans s4)))) (Gw.nw (gw1.trans (g2.trans (Gw.of g2.2 s3))) hp) hS4 ?_
          · show sss (A0 ++ [(ap, x)] ++ (up, y.up x.hi) :: R0) = _
            unfold sss at eR ⊢
            rw [List.map_append, List.map_append, List.map_cons, List.map_cons, eR]
            rfl
        · rw [if_neg (fun z => c2 (decide_eq_true z))] at r
          obtain ⟨dxo, hdo⟩ := (ho.ext g2.1)
          refine ⟨ap, rfl, _, tt hx2, _, rfl, up, rfl, _, tt hu, _, rfl, ap, rfl, _, tt hx2, _, rfl, up, rfl, _, tt hu, _, rfl, .ref o, rfl, o, dxo, [], rfl, hdo, rfl, ?_⟩
          simp only [tSeq, tAsg, gName, tOp, rI, rI0, rU, tUn, tVar, tC, tCB, tCons, tNil, tTest, tIfS, tRet, tRetN, tDrop, tNext, tBreak, tCont, rEq, rNe, CDiv, CDivN, CMul, tBM, tBM0, tTup, tLst, tAug, tIf, tAnd, tOr, tNot, tAndV, tOrV, tNotV, tIsN, tNotN, tB, scal, tCall, cxK, cxKn, rIxT, rIxL, rIn, rAppend, rReverse, tVals, tDSetd, tDGet, tDGet1, tDGet2, tDIn, tDNotIn, rSortV, rSortT, rPop, rSortL, rSortT, tSl, tNoPart, tPart, List.append_nil, L2.start, List.map_cons, List.map_nil, List.length_cons, List.length_nil, List.replicate_succ, List.replicate_zero, List.cons_append, List.nil_append, Nat.reduceAdd, Nat.reduceSub, exists_eq, exists_eq', List.getElem?_cons_zero, List.getElem?_cons_succ, List.set_cons_zero, List.set_cons_succ, Option.some.injEq, V.int.injEq, V.bl.injEq, V.str.injEq, V.ref.injEq, List.cons.injEq, and_true, true_and, and_false, false_and, reduceCtorEq, exists_false, or_false, false_or, exists_and_left, exists_and_right, exists_eq_left, exists_eq_left', exists_eq_right, exists_eq_right', exists_const, ite_true, ite_false, Bool.false_eq_true, if_true, if_false, decide_true, decide_false]
          have lxy : x.vs.length + y.vs.length ≤ 60 := lv (ap, x) (List.mem_append_right _ (List.mem_singleton.mpr rfl)) (yp, y) List.mem_cons_self
          have hxw2 := g2.1 _ _ hxw fun ps z => by cases z
          refine ⟨_, tt hx2, .ref xw, rfl, _, tt hu, .ref uw, rfl, catA_ints (xs := x.vs) (ys := y.vs) (tt hxw2) (tt huw) (by omega) fun H3 t s3 ht => ?_⟩
          have g3 := Gw.of g2.2 s3
          refine ⟨o, t, _, rfl, ho.ext (g2.trans g3).1, .inl ht, by rw [List.length_append]; exact lxy, g3.2, fun H4 w g4 hw => ⟨by decide, fun p hp => ?_⟩⟩
          have g14 := g3.trans g4
          have sp := same_upd (o := .tup [.int x.lo, .int (y.up x.hi).hi, .int x.fi, .int (y.up x.hi).la, .ref w]) hp
          have hboth : SesAt (upd H4 p (.tup [.int x.lo, .int (y.up x.hi).hi, .int x.fi, .int (y.up x.hi).la, .ref w])) p (Ses.both k' x (y.up x.hi)) := ⟨w, upd_same, sp _ _ hw⟩
          have g15 := g14.trans (Gw.of g14.2 sp)
          generalize upd H4 p (.tup [.int x.lo, .int (y.up x.hi).hi, .int x.fi, .int (y.up x.hi).la, .ref w]) = H5 at hboth g15
          have a5 := a1.ext (g2.trans g15).1
          refine ⟨a, _, rfl, ll a5.at_, fun l hl => ⟨l, rfl, ?_⟩⟩
          have e1 : cutV ((A0 ++ [(ap, x)]).map fun q => V.ref q.1) none (some (-1)) = A0.map fun q => V.ref q.1 := by
            rw [List.map_append]
            exact cutV_last _ _
          rw [e1]
          have u1 := same_upd (o := .lst (A0.map fun q => V.ref q.1)) hl
          have t1 := a5.upd (S' := A0) hl fun q hq => List.mem_append_left _ hq
          have g16 := g15.trans (Gw.of g15.2 u1)
          have hb6 := hboth.ext (LamX.ExtN.of u1)
          clear u1
          generalize upd H5 l (.lst (A0.map fun q => V.ref q.1)) = H6 at t1 g16 hb6
          refine ⟨_, .inl (ll t1.at_), fun l2 hl2 => ⟨by decide, fun l3 hl3 => ?_⟩⟩
          have u2 := same_upd (o := .lst (A0.map fun q => V.ref q.1)) hl2
          have t2 := t1.upd (S' := A0) hl2 fun q hq => hq
          have g17 := g16.trans (Gw.of g16.2 u2)
          have hb7 := hb6.ext (LamX.ExtN.of u2)
          clear u2
          generalize upd H6 l2 (.lst (A0.map fun q => V.ref q.1)) = H7 at t2 g17 hb7 hl3
          have u3 := same_upd (o := .lst [V.ref p]) hl3
          have t3 : Sss (upd H7 l3 (.lst [V.ref p])) l3 [(p, Ses.both k' x (y.up x.hi))] := ⟨upd_same, fun q hq => by
            rw [List.mem_singleton.mp hq]
            exact hb7.ext (LamX.ExtN.of u3)⟩
          have g18 := g17.trans (Gw.of g17.2 u3)
          refine cat_ss (t2.ext (LamX.ExtN.of u3)) t3 (by rw [List.length_append] at lA; omega) (by show 1 ≤ 200; decide) fun H8 l4 s8 hl4 t4 => ?_
          have g19 := g18.trans (Gw.of g18.2 s8)
          have hS8 := hS.ext g19.1
          refine ⟨D, _, rfl, ll hS8.at_, fun l5 hl5 => ?_⟩
          have e2 : cutV (((up, y.up x.hi) :: R0).map fun q => V.ref q.1) (some 1) none = R0.map fun q => V.ref q.1 := by
            rw [show (1 : Int) = ((1 : Nat) : Int) from rfl, cutV_drop]
            rfl
          rw [e2]
          have u5 := same_upd (o := .lst (R0.map fun q => V.ref q.1)) hl5
          have t5 := hS8.upd (S' := R0) hl5 fun q hq => List.mem_cons_of_mem _ hq
          have g20 := g19.trans (Gw.of g19.2 u5)
          refine cat_ss (t4.ext (LamX.ExtN.of u5)) t5 (by rw [List.length_append, List.length_singleton]; rw [List.length_append] at lA; omega) (by omega) fun H9 l6 s9 hl6 t6 => ?_
          refine r.1 _ rfl H9 l6 _ (gw1.trans (g2.trans (g20.trans (Gw.of g20.2 s9)))) (Gw.nw (gw1.trans (g2.trans g20)) hl6) t6 ?_
          unfold sss at eR ⊢
          rw [List.map_append, List.map_append, eR]
          rfl
end
end Mv

set_option Elab.async false
set_option linter.all false
set_option maxRecDepth 100000
set_option maxHeartbeats 4000000
namespace Mv
open PySem PySem.Spec PyProof.Rows L2
abbrev sBad : Stmt := topS 42
abbrev sMk : Stmt := topS 43
abbrev sLT : Stmt := topS 45
abbrev sBe : Stmt := topS 46
abbrev sWo : Stmt := topS 47
def badTexts : List Str := ["lists", "List", "", "bags", "se", "head", " set", "first ", "none", "tail", "ends="]
theorem bad_texts : ∀ z ∈ badTexts, (∀ k : Kd, ¬ z = k.nm) ∧ z.length ≤ 100 ∧ ∀ c ∈ z.cps.toList, c < 0x110000 := by
  intro z hz
  have h : badTexts.all (fun z => kds.all (fun k => !decide (z = k.nm)) && decide (z.length ≤ 100) && z.cps.toList.all fun c => decide (c < 0x110000)) = true := by decide +kernel
  have h1 := List.all_eq_true.mp h z hz
  rw [Bool.and_eq_true, Bool.and_eq_true] at h1
  refine ⟨fun k e => ?_, of_decide_eq_true h1.1.2, fun c hc => of_decide_eq_true (List.all_eq_true.mp h1.2 c hc)⟩
  have h2 := List.all_eq_true.mp h1.1.1 k (by cases k <;> decide)
  rw [e] at h2
  simp at h2
theorem Lts.upd {H : Hp} {l p : Addr} {L L' : LtL} (h : Lts H l L) (hp : H p = none) (hs : ∀ q ∈ L', q ∈ L) : Lts (upd H p (.lst (L'.map fun q => V.ref q.1))) p L' :=
  ⟨upd_same, fun q hq => (h.same (same_upd hp)).all q (hs q hq)⟩
/-! ### letters and sessions as data -/
def lD (e : Ltr) : PyData := .tuple [.int e.n, .int e.t, .int e.v]
def sesD (s : Ses) : PyData := .tuple [.int s.lo, .int s.hi, .int s.fi, .int s.la, .tuple (s.vs.map PyData.int)]
theorem lD_lay (e : Ltr) : (lD e).canLay0 = true := by simp [lD, PyData.canLay0, PyData.canLayAll0]
theorem lD_depth (e : Ltr) : (lD e).depth ≤ 1 := by simp [lD, PyData.depth, PyData.depthAll]
theorem sesD_lay (s : Ses) : (sesD s).canLay0 = true := by simp [sesD, PyData.canLay0, PyData.canLayAll0, lay_ints]
theorem sesD_depth (s : Ses) : (sesD s).depth ≤ 2 := by
  have := depth_ints s.vs
  simp only [sesD, PyData.depth, PyData.depthAll]
  omega
theorem dp_l {K : PySem.W.Frag} {H : Hp} {p : Addr} {e : Ltr} (h : H p = some e.o) : L2.Dp K H (.ref p) (lD e) := .tup (.inl (.inl h)) (.cons (.int _) (.cons (.int _) (.cons (.int _) .nil)))
theorem dp_lts {K : PySem.W.Frag} {H : Hp} : ∀ {L : LtL}, (∀ q ∈ L, H q.1 = some q.2.o) → DpAll K H (L.map fun q => V.ref q.1) ((lts L).map lD)
  | [], _ => .nil
  | q :: L, h => .cons (dp_l (h q List.mem_cons_self)) (dp_lts fun r hr => h r (List.mem_cons_of_mem _ hr))
theorem dp_ses {K : PySem.W.Frag} {H : Hp} {p : Addr} {s : Ses} (h : SesAt H p s) : L2.Dp K H (.ref p) (sesD s) := by
  obtain ⟨ww, h1, h2⟩ := h
  exact .tup (.inl (.inl h1)) (.cons (.int _) (.cons (.int _) (.cons (.int _) (.cons (.int _) (.cons (.tup (.inl (.inl h2)) (dp_ints s.vs)) .nil)))))
theorem dp_sss {K : PySem.W.Frag} {H : Hp} : ∀ {S : SsL}, (∀ q ∈ S, SesAt H q.1 q.2) → DpAll K H (S.map fun q => V.ref q.1) ((sss S).map sesD)
  | [], _ => .nil
  | q :: S, h => .cons (dp_ses (h q List.mem_cons_self)) (dp_sss fun r hr => h r (List.mem_cons_of_mem _ hr))
theorem ne_sss {K : PySem.W.Frag} {H : Hp} {a b : Addr} {S1 S2 : SsL} {Q : VK} (h1 : Sss H a S1) (h2 : Sss H b S2) (e : sss S1 = sss S2) (q : Q (.bl false) H) : rNeD K (.ref a) (.ref b) H Q :=
  ne_listD (ll h1.at_) (dp_sss h1.all) (ll h2.at_) (dp_sss h2.all) (by rw [e]) (lay_map sesD_lay _) (Nat.le_trans (depth_map sesD_depth _) (by decide)) q
theorem ne_lts {K : PySem.W.Frag} {H : Hp} {a b : Addr} {L1 L2 : LtL} {Q : VK} (h1 : Lts H a L1) (h2 : Lts H b L2) (e : lts L1 = lts L2) (q : Q (.bl false) H) : rNeD K (.ref a) (.ref b) H Q :=
  ne_listD (ll h1.at_) (dp_lts h1.all) (ll h2.at_) (dp_lts h2.all) (by rw [e]) (lay_map lD_lay _) (Nat.le_trans (depth_map lD_depth _) (by decide)) q
theorem cat_lt {H : Hp} {a b : Addr} {S1 S2 : LtL} {Q : VK} (ha : Lts H a S1) (hb : Lts H b S2) (l1 : S1.length ≤ 200) (l2 : S2.length ≤ 200) (q : ∀ (H' : Hp) (p : Addr), Same H H' → H p = none → Lts H' p (S1 ++ S2) → Q (.ref p) H') : rCat (.ref a) (.ref b) H Q := by
  refine ⟨a, b, _, _, rfl, rfl, ha.at_, hb.at_, ?_, fun p hp => ?_⟩
  · rw [List.length_map, List.length_map]
    exact Nat.le_of_lt (small1000 (n := S1.length + S2.length) (by omega))
  · have s := same_upd (o := .lst ((S1.map fun q => V.ref q.1) ++ S2.map fun q => V.ref q.1)) hp
    refine q _ p s hp ⟨by rw [upd_same, List.map_append], fun q hq => ?_⟩
    rcases List.mem_append.mp hq with h | h
    · exact s _ _ (ha.all q h)
    · exact s _ _ (hb.all q h)
section
variable {P : Program} {w : World} {K : PySem.W.Frag} {mg : Str → Option Value} {base : Heap}
theorem scKind : FnScope ["_law_stream_here"] ["_law_stream_here"] (defScope sKind) := ⟨rfl, rfl, rfl, by decide +kernel, rfl, by decide +kernel, by decide +kernel⟩
def spKind : Sp := fun vs H Q _ => ∃ (a : Addr), vs = [.ref a] ∧ Strm H a ∧ ∀ (k : Kd) (H' : Hp), Sx a H H' → Strm H' a → Q (.str k.nm) H'
theorem ok_kind {f : Addr} {fd : FuncData} (F : Fun K "_law_kind" "_law_kind" sKind f fd) (B : Bi mg) (cDraw : CalX CX0 P w K mg base 1 "_law_draw" spDraw) : FnOk P w K mg base CX0 2 f fd ["_law_stream_here"] spKind := by
  refine F.ok scKind (fun vs H Q E h => ?_) (fun cdv A outer s H vs Q E hr h => ?_)
  · obtain ⟨a, rfl, _⟩ := h
    rfl
  · obtain ⟨a, rfl, hs, q⟩ := h
    refine ⟨_, (pss_one (ps_ret (pe_ix ix_tup (pe_tup (pa_cons pe_str (pa_cons pe_str (pa_cons pe_str (pa_cons pe_str (pa_cons pe_str (pa_cons pe_str (pa_cons pe_str (pa_cons pe_str pa_nil))))))))) (pe_cx cDraw hr (by decide) pass0 (by rfl) (pa_cons (pv 0) (pa_cons pe_int pa_nil))) (fun _ _ => rfl)))), ?_⟩
    simp only [tSeq, tAsg, gName, tOp, rI, rI0, rU, tUn, tVar, tC, tCB, tCons, tNil, tTest, tIfS, tRet, tRetN, tDrop, tNext, tBreak, tCont, rEq, rNe, CDiv, CDivN, CMul, tBM, tBM0, tTup, tLst, tAug, tIf, tAnd, tOr, tNot, tAndV, tOrV, tNotV, tIsN, tNotN, tB, scal, tCall, cxK, cxKn, rIxT, rIxL, rIn, rAppend, rReverse, tVals, tDSetd, tDGet, tDGet1, tDGet2, tDIn, tDNotIn, rSortV, rSortT, rPop, rSortL, rSortT, tSl, tNoPart, tPart, List.append_nil, L2.start, List.map_cons, List.map_nil, List.length_cons, List.length_nil, List.replicate_succ, List.replicate_zero, List.cons_append, List.nil_append, Nat.reduceAdd, Nat.reduceSub, exists_eq, exists_eq', List.getElem?_cons_zero, List.getElem?_cons_succ, List.set_cons_zero, List.set_cons_succ, Option.some.injEq, V.int.injEq, V.bl.injEq, V.str.injEq, V.ref.injEq, List.cons.injEq, and_true, true_and, and_false, false_and, reduceCtorEq, exists_false, or_false, false_or, exists_and_left, exists_and_right, exists_eq_left, exists_eq_left', exists_eq_right, exists_eq_right', exists_const, ite_true, ite_false, Bool.false_eq_true, if_true, if_false, decide_true, decide_false]
    refine ⟨by decide, fun p hp => ?_⟩
    have s1 := same_upd (o := .tup [.str "list", .str "bag", .str "set", .str "first", .str "last", .str "ends", .str "heads", .str "tails"]) hp
    refine spDraw_of (by decide) (hs.same s1) fun r H2 h0 h8 x2 t2 => ?_
    obtain ⟨n, rfl⟩ := Int.eq_ofNat_of_zero_le h0
    have hn : n < kds.length := by
      have : (n : Int) < 8 := h8
      show n < 8
      omega
    have hT : SqT K H2 p (kds.map kdV) := .inl (.inl (x2 _ _ (hs.ne hp).symm upd_same))
    simp only [tSeq, tAsg, gName, tOp, rI, rI0, rU, tUn, tVar, tC, tCB, tCons, tNil, tTest, tIfS, tRet, tRetN, tDrop, tNext, tBreak, tCont, rEq, rNe, CDiv, CDivN, CMul, tBM, tBM0, tTup, tLst, tAug, tIf, tAnd, tOr, tNot, tAndV, tOrV, tNotV, tIsN, tNotN, tB, scal, tCall, cxK, cxKn, rIxT, rIxL, rIn, rAppend, rReverse, tVals, tDSetd, tDGet, tDGet1, tDGet2, tDIn, tDNotIn, rSortV, rSortT, rPop, rSortL, rSortT, tSl, tNoPart, tPart, List.append_nil, L2.start, List.map_cons, List.map_nil, List.length_cons, List.length_nil, List.replicate_succ, List.replicate_zero, List.cons_append, List.nil_append, Nat.reduceAdd, Nat.reduceSub, exists_eq, exists_eq', List.getElem?_cons_zero, List.getElem?_cons_succ, List.set_cons_zero, List.set_cons_succ, Option.some.injEq, V.int.injEq, V.bl.injEq, V.str.injEq, V.ref.injEq, List.cons.injEq, and_true, true_and, and_false, false_and, reduceCtorEq, exists_false, or_false, false_or, exists_and_left, exists_and_right, exists_eq_left, exists_eq_left', exists_eq_right, exists_eq_right', exists_const, ite_true, ite_false, Bool.false_eq_true, if_true, if_false, decide_true, decide_false]
    refine ⟨kds.map kdV, hT, .str kds[n].nm, atI_nat ?_, q _ _ (Sx.trans (Sx.of s1) x2) t2⟩
    rw [List.getElem?_map, List.getElem?_eq_getElem hn]
    rfl
theorem scBad : FnScope ["_law_stream_here", "_law_pick", "_law_names"] ["_law_stream_here"] (defScope sBad) := ⟨rfl, rfl, rfl, by decide +kernel, rfl, by decide +kernel, by decide +kernel⟩
def spBad : Sp := fun vs H Q _ => ∃ (a : Addr), vs = [.ref a] ∧ Strm H a ∧ ∀ (v : V) (H' : Hp), BadV H' v → Sx a H H' → Strm H' a → Q v H'
theorem ok_bad {f : Addr} {fd : FuncData} (F : Fun K "_law_bad_name" "_law_bad_name" sBad f fd) (B : Bi mg) (cDraw : CalX CX0 P w K mg base 1 "_law_draw" spDraw) : FnOk P w K mg base CX0 2 f fd ["_law_stream_here"] spBad := by
  refine F.ok scBad (fun vs H Q E h => ?_) (fun cdv A outer s H vs Q E hr h => ?_)
  · obtain ⟨a, rfl, _⟩ := h
    rfl
  · obtain ⟨a, rfl, hs, q⟩ := h
    refine ⟨_, (pss_cons (ps_set (i := 1) scBad.nd rfl (.inl rfl) (pe_cx cDraw hr (by decide) pass0 (by rfl) (pa_cons (pv 0) (pa_cons pe_int pa_nil))))
 (pss_cons (ps_set (i := 2) scBad.nd rfl (.inl rfl) (pe_tup (pa_cons pe_str (pa_cons pe_str (pa_cons pe_str (pa_cons pe_str (pa_cons pe_str (pa_cons pe_str (pa_cons pe_str (pa_cons pe_str (pa_cons pe_str (pa_cons pe_str (pa_cons pe_str (pa_cons pe_non (pa_cons pe_int (pa_cons (pe_tup (pa_cons pe_str pa_nil)) pa_nil))))))))))))))))
 (pss_one (ps_ret (pe_ix ix_tup (pv 2) (pv 1) (fun _ _ => rfl)))))), ?_⟩
    simp only [tSeq, tAsg, gName, tOp, rI, rI0, rU, tUn, tVar, tC, tCB, tCons, tNil, tTest, tIfS, tRet, tRetN, tDrop, tNext, tBreak, tCont, rEq, rNe, CDiv, CDivN, CMul, tBM, tBM0, tTup, tLst, tAug, tIf, tAnd, tOr, tNot, tAndV, tOrV, tNotV, tIsN, tNotN, tB, scal, tCall, cxK, cxKn, rIxT, rIxL, rIn, rAppend, rReverse, tVals, tDSetd, tDGet, tDGet1, tDGet2, tDIn, tDNotIn, rSortV, rSortT, rPop, rSortL, rSortT, tSl, tNoPart, tPart, List.append_nil, L2.start, List.map_cons, List.map_nil, List.length_cons, List.length_nil, List.replicate_succ, List.replicate_zero, List.cons_append, List.nil_append, Nat.reduceAdd, Nat.reduceSub, exists_eq, exists_eq', List.getElem?_cons_zero, List.getElem?_cons_succ, List.set_cons_zero, List.set_cons_succ, Option.some.injEq, V.int.injEq, V.bl.injEq, V.str.injEq, V.ref.injEq, List.cons.injEq, and_true, true_and, and_false, false_and, reduceCtorEq, exists_false, or_false, false_or, exists_and_left, exists_and_right, exists_eq_left, exists_eq_left', exists_eq_right, exists_eq_right', exists_const, ite_true, ite_false, Bool.false_eq_true, if_true, if_false, decide_true, decide_false]
    refine spDraw_of (by decide) hs fun r H1 h0 h14 x1 t1 => ?_
    simp only [tSeq, tAsg, gName, tOp, rI, rI0, rU, tUn, tVar, tC, tCB, tCons, tNil, tTest, tIfS, tRet, tRetN, tDrop, tNext, tBreak, tCont, rEq, rNe, CDiv, CDivN, CMul, tBM, tBM0, tTup, tLst, tAug, tIf, tAnd, tOr, tNot, tAndV, tOrV, tNotV, tIsN, tNotN, tB, scal, tCall, cxK, cxKn, rIxT, rIxL, rIn, rAppend, rReverse, tVals, tDSetd, tDGet, tDGet1, tDGet2, tDIn, tDNotIn, rSortV, rSortT, rPop, rSortL, rSortT, tSl, tNoPart, tPart, List.append_nil, L2.start, List.map_cons, List.map_nil, List.length_cons, List.length_nil, List.replicate_succ, List.replicate_zero, List.cons_append, List.nil_append, Nat.reduceAdd, Nat.reduceSub, exists_eq, exists_eq', List.getElem?_cons_zero, List.getElem?_cons_succ, List.set_cons_zero, List.set_cons_succ, Option.some.injEq, V.int.injEq, V.bl.injEq, V.str.injEq, V.ref.injEq, List.cons.injEq, and_true, true_and, and_false, false_and, reduceCtorEq, exists_false, or_false, false_or, exists_and_left, exists_and_right, exists_eq_left, exists_eq_left', exists_eq_right, exists_eq_right', exists_const, ite_true, ite_false, Bool.false_eq_true, if_true, if_false, decide_true, decide_false]
    refine ⟨by decide, fun T hT => ⟨by decide, fun p hp => ?_⟩⟩
    have s1 := same_upd (o := .tup [.str "list"]) hT
    have s2 := same_upd (o := .tup ((badTexts.map V.str) ++ [.non, .int 0, .ref T])) hp
    have e2 : (upd (upd H1 T (.tup [.str "list"])) p (.tup ((badTexts.map V.str) ++ [.non, .int 0, .ref T]))) T = some (.tup [.str "list"]) := s2 _ _ upd_same
    have x2 : Sx a H (upd (upd H1 T (.tup [.str "list"])) p (.tup ((badTexts.map V.str) ++ [.non, .int 0, .ref T]))) := Sx.trans x1 (Sx.of (s1.trans s2))
    have t2 := (t1.same s1).same s2
    obtain ⟨n, rfl⟩ := Int.eq_ofNat_of_zero_le h0
    have hn : n < 14 := by omega
    have hT2 : SqT K (upd (upd H1 T (.tup [.str "list"])) p (.tup ((badTexts.map V.str) ++ [.non, .int 0, .ref T]))) p ((badTexts.map V.str) ++ [.non, .int 0, .ref T]) := .inl (.inl upd_same)
    have pick : ∃ v, ((badTexts.map V.str) ++ [V.non, .int 0, .ref T])[n]? = some v ∧ BadV (upd (upd H1 T (.tup [.str "list"])) p (.tup ((badTexts.map V.str) ++ [.non, .int 0, .ref T]))) v := by
      by_cases h11 : n < 11
      · have hb : n < badTexts.length := h11
        refine ⟨.str badTexts[n], ?_, ?_⟩
        · rw [List.getElem?_append_left (by rw [List.length_map]; exact hb), List.getElem?_map, List.getElem?_eq_getElem hb]
          rfl
        · obtain ⟨k1, k2, k3⟩ := bad_texts _ (List.getElem_mem hb)
          exact .str _ k1 k2 k3
      · rw [List.getElem?_append_right (by rw [List.length_map]; exact Nat.not_lt.mp h11), List.length_map]
        obtain rfl | rfl | rfl : n = 11 ∨ n = 12 ∨ n = 13 := by omega
        · exact ⟨.non, rfl, .non⟩
        · exact ⟨.int 0, rfl, .int 0 (.inl rfl)⟩
        · exact ⟨.ref T, rfl, .tup T e2⟩
    obtain ⟨v, k1, k2⟩ := pick
    exact ⟨_, hT2, v, atI_nat k1, q _ _ k2 x2 t2⟩
theorem scMk : FnScope ["_law_stream_here", "_law_letters_here", "_law_span_here", "_law_pick", "_law_count", "_law_time"] ["_law_stream_here", "_law_letters_here", "_law_span_here"] (defScope sMk) := ⟨rfl, rfl, rfl, by decide +kernel, rfl, by decide +kernel, by decide +kernel⟩
def spMk : Sp := fun vs H Q _ => ∃ (a l : Addr) (L : LtL) (g : Int), vs = [.ref a, .ref l, .int g] ∧ Strm H a ∧ Lts H l L ∧ l ≠ a ∧ L.length ≤ 60 ∧ ∀ (v : V) (m : Mk) (H' : Hp), MkAt H' v m → Sx a H H' → Strm H' a → Q v H'
theorem ok_mk {f : Addr} {fd : FuncData} (F : Fun K "_law_drawn_mark" "_law_drawn_mark" sMk f fd) (B : Bi mg) (cDraw : CalX CX0 P w K mg base 1 "_law_draw" spDraw) : FnOk P w K mg base CX0 2 f fd ["_law_stream_here", "_law_letters_here", "_law_span_here"] spMk := by
  refine F.ok scMk (fun vs H Q E h => ?_) (fun cdv A outer s H vs Q E hr h => ?_)
  · obtain ⟨a, l, L, g, rfl, _⟩ := h
    rfl
  · obtain ⟨a, l, L, g, rfl, hs, hl, nla, lL, q⟩ := h
    refine ⟨_, (pss_cons (ps_set (i := 3) scMk.nd rfl (.inl rfl) (pe_cx cDraw hr (by decide) pass0 (by rfl) (pa_cons (pv 0) (pa_cons pe_int pa_nil))))
 (pss_cons (ps_if (pt_cmpR op_eq (pv 3) pe_int (nomark _))
 (pss_one (ps_ret pe_non)) pss_nil)
 (pss_cons (ps_set (i := 4) scMk.nd rfl (.inl rfl) (pe_cx cDraw hr (by decide) pass0 (by rfl) (pa_cons (pv 0) (pa_cons pe_int pa_nil))))
 (pss_cons (ps_if (pt_cmpR op_eq (pv 3) pe_int (nomark _))
 (pss_one (ps_ret (pe_tup (pa_cons (pv 4) (pa_cons pe_non pa_nil))))) pss_nil)
 (pss_cons (ps_set (i := 5) scMk.nd rfl (.inl rfl) pe_int)
 (pss_cons (ps_if (pt_truth (pv 1) (by intro _; rfl))
 (pss_one (ps_set (i := 5) scMk.nd rfl (.inl rfl) (pe_ix ix_tup (pe_ix ix_list (pv 1) (pe_un un_neg pe_int) (fun _ _ => rfl)) pe_int (fun _ _ => rfl)))) pss_nil)
 (pss_one (ps_ret (pe_tup (pa_cons (pv 4) (pa_cons (pe_op op_add (pe_op op_sub (pe_op op_add (pv 5) (pv 2)) pe_int) (pe_cx cDraw hr (by decide) pass0 (by rfl) (pa_cons (pv 0) (pa_cons pe_int pa_nil)))) pa_nil))))))))))), ?_⟩
    simp only [tSeq, tAsg, gName, tOp, rI, rI0, rU, tUn, tVar, tC, tCB, tCons, tNil, tTest, tIfS, tRet, tRetN, tDrop, tNext, tBreak, tCont, rEq, rNe, CDiv, CDivN, CMul, tBM, tBM0, tTup, tLst, tAug, tIf, tAnd, tOr, tNot, tAndV, tOrV, tNotV, tIsN, tNotN, tB, scal, tCall, cxK, cxKn, rIxT, rIxL, rIn, rAppend, rReverse, tVals, tDSetd, tDGet, tDGet1, tDGet2, tDIn, tDNotIn, rSortV, rSortT, rPop, rSortL, rSortT, tSl, tNoPart, tPart, List.append_nil, L2.start, List.map_cons, List.map_nil, List.length_cons, List.length_nil, List.replicate_succ, List.replicate_zero, List.cons_append, List.nil_append, Nat.reduceAdd, Nat.reduceSub, exists_eq, exists_eq', List.getElem?_cons_zero, List.getElem?_cons_succ, List.set_cons_zero, List.set_cons_succ, Option.some.injEq, V.int.injEq, V.bl.injEq, V.str.injEq, V.ref.injEq, List.cons.injEq, and_true, true_and, and_false, false_and, reduceCtorEq, exists_false, or_false, false_or, exists_and_left, exists_and_right, exists_eq_left, exists_eq_left', exists_eq_right, exists_eq_right', exists_const, ite_true, ite_false, Bool.false_eq_true, if_true, if_false, decide_true, decide_false]
    refine spDraw_of (by decide) hs fun r H1 h0 h4 x1 t1 => ?_
    simp only [tSeq, tAsg, gName, tOp, rI, rI0, rU, tUn, tVar, tC, tCB, tCons, tNil, tTest, tIfS, tRet, tRetN, tDrop, tNext, tBreak, tCont, rEq, rNe, CDiv, CDivN, CMul, tBM, tBM0, tTup, tLst, tAug, tIf, tAnd, tOr, tNot, tAndV, tOrV, tNotV, tIsN, tNotN, tB, scal, tCall, cxK, cxKn, rIxT, rIxL, rIn, rAppend, rReverse, tVals, tDSetd, tDGet, tDGet1, tDGet2, tDIn, tDNotIn, rSortV, rSortT, rPop, rSortL, rSortT, tSl, tNoPart, tPart, List.append_nil, L2.start, List.map_cons, List.map_nil, List.length_cons, List.length_nil, List.replicate_succ, List.replicate_zero, List.cons_append, List.nil_append, Nat.reduceAdd, Nat.reduceSub, exists_eq, exists_eq', List.getElem?_cons_zero, List.getElem?_cons_succ, List.set_cons_zero, List.set_cons_succ, Option.some.injEq, V.int.injEq, V.bl.injEq, V.str.injEq, V.ref.injEq, List.cons.injEq, and_true, true_and, and_false, false_and, reduceCtorEq, exists_false, or_false, false_or, exists_and_left, exists_and_right, exists_eq_left, exists_eq_left', exists_eq_right, exists_eq_right', exists_const, ite_true, ite_false, Bool.false_eq_true, if_true, if_false, decide_true, decide_false]
    have hl1 : Lts H1 l L := hl.wr hs.choose_spec.1 nla x1
    refine ite2 (fun _ => q _ none _ rfl x1 t1) (fun _ => ?_)
    refine spDraw_of (by decide) t1 fun c H2 _ _ x2 t2 => ?_
    have hl2 : Lts H2 l L := hl1.wr t1.choose_spec.1 nla x2
    have x12 := x1.trans x2
    refine ite2 (fun _ => ⟨by decide, fun p hp => ?_⟩) (fun _ => ?_)
    · have sp := same_upd (o := .tup [.int c, .non]) hp
      exact q _ (some (c, none)) _ ⟨p, rfl, upd_same⟩ (x12.trans (Sx.of sp)) (t2.same sp)
    · have fin : ∀ (t : Int), spDraw [V.ref a, V.int 4] H2 (fun y H2 => ∃ x_1, y = V.int x_1 ∧ 2 ≤ sizeLine ∧ ∀ (p : Addr), H2 p = none → Q (V.ref p) (upd H2 p (HO.tup [.int c, V.int (t + g - 1 + x_1)]))) E0 := fun t => by
        refine spDraw_of (by decide) t2 fun d H3 _ _ x3 t3 => ⟨d, rfl, by decide, fun p hp => ?_⟩
        have sp := same_upd (o := .tup [.int c, V.int (t + g - 1 + d)]) hp
        exact q _ (some (c, some (t + g - 1 + d))) _ ⟨p, rfl, upd_same⟩ ((x12.trans x3).trans (Sx.of sp)) (t3.same sp)
      refine ⟨_, .inl ⟨_, ll hl2.at_, rfl⟩, ite2 (fun e => ?_) (fun _ => fin 0)⟩
      rcases List.eq_nil_or_concat L with rfl | ⟨L0, ⟨ep, e1⟩, rfl⟩
      · exact absurd e (by decide)
      · rw [List.concat_eq_append] at *
        exact ⟨_, ll hl2.at_, .ref ep, by rw [List.map_append]; exact atI_last _ _, ep, rfl, _, tt (hl2.all (ep, e1) (List.mem_append_right _ (List.mem_singleton.mpr rfl))), .int e1.t, rfl, e1.t, rfl, fin e1.t⟩
theorem scLT : FnScope ["_law_due", "_law_mark", "_law_span_here"] ["_law_due", "_law_mark", "_law_span_here"] (defScope sLT) := ⟨rfl, rfl, rfl, by decide +kernel, rfl, by decide +kernel, by decide +kernel⟩
def lastT (m : Mk) (g : Int) (S : List Ses) : Bool := match S.getLast? with
  | none => false
  | some s => clos m s g
def spLT : Sp := fun vs H Q _ => ∃ (d : Addr) (S : SsL) (v : V) (m : Mk) (g : Int), vs = [.ref d, v, .int g] ∧ Sss H d S ∧ S.length ≤ 60 ∧ MkAt H v m ∧ ∀ H' : Hp, Same H H' → Q (.bl (lastT m g (sss S))) H'
theorem ok_lt {f : Addr} {fd : FuncData} (F : Fun K "_law_last_told" "_law_last_told" sLT f fd) (B : Bi mg) : FnOk P w K mg base CX0 1 f fd ["_law_due", "_law_mark", "_law_span_here"] spLT := by
  refine F.ok scLT (fun vs H Q E h => ?_) (fun cdv A outer s H vs Q E hr h => ?_)
  · obtain ⟨d, S, v, m, g, rfl, _⟩ := h
    rfl
  · obtain ⟨d, S, v, m, g, rfl, hd, lS, hm, q⟩ := h
    refine ⟨_, (pss_cons (ps_if (PW.pt (pw_or (pt_cmpR (op_eqD hr.units) (pv 0) (pe_lst pa_nil) (nomark _)) (pw_or (pt_cmpR op_isN (pv 1) pe_non (nomark _)) (pw_or1 (pt_cmpR op_gt (pe_ix ix_tup (pv 1) pe_int (fun _ _ => rfl)) (pe_ix ix_tup (pe_ix ix_list (pv 0) (pe_un un_neg pe_int) (fun _ _ => rfl)) pe_int (fun _ _ => rfl)) (nomark _))))))
 (pss_one (ps_ret pe_bl)) pss_nil)
 (pss_one (ps_ret (pe_or (pe_cmpR op_isN (pe_ix ix_tup (pv 1) pe_int (fun _ _ => rfl)) pe_non (nomark _)) (pe_one (pe_cmpR op_gt (pe_ix ix_tup (pv 1) pe_int (fun _ _ => rfl)) (pe_op op_add (pe_ix ix_tup (pe_ix ix_list (pv 0) (pe_un un_neg pe_int) (fun _ _ => rfl)) pe_int (fun _ _ => rfl)) (pv 2)) (nomark _))))))), ?_⟩
    simp only [tSeq, tAsg, gName, tOp, rI, rI0, rU, tUn, tVar, tC, tCB, tCons, tNil, tTest, tIfS, tRet, tRetN, tDrop, tNext, tBreak, tCont, rEq, rNe, CDiv, CDivN, CMul, tBM, tBM0, tTup, tLst, tAug, tIf, tAnd, tOr, tNot, tAndV, tOrV, tNotV, tIsN, tNotN, tB, scal, tCall, cxK, cxKn, rIxT, rIxL, rIn, rAppend, rReverse, tVals, tDSetd, tDGet, tDGet1, tDGet2, tDIn, tDNotIn, rSortV, rSortT, rPop, rSortL, rSortT, tSl, tNoPart, tPart, List.append_nil, L2.start, List.map_cons, List.map_nil, List.length_cons, List.length_nil, List.replicate_succ, List.replicate_zero, List.cons_append, List.nil_append, Nat.reduceAdd, Nat.reduceSub, exists_eq, exists_eq', List.getElem?_cons_zero, List.getElem?_cons_succ, List.set_cons_zero, List.set_cons_succ, Option.some.injEq, V.int.injEq, V.bl.injEq, V.str.injEq, V.ref.injEq, List.cons.injEq, and_true, true_and, and_false, false_and, reduceCtorEq, exists_false, or_false, false_or, exists_and_left, exists_and_right, exists_eq_left, exists_eq_left', exists_eq_right, exists_eq_right', exists_const, ite_true, ite_false, Bool.false_eq_true, if_true, if_false, decide_true, decide_false]
    refine ⟨Nat.zero_le _, fun n hn => ?_⟩
    have sn := same_upd (o := .lst []) hn
    have hd1 := hd.ext (LamX.ExtN.of sn)
    have hm1 := hm.ext (LamX.ExtN.of sn)
    refine eq_nilD (ll hd1.at_) (dp_sss hd1.all) (ll upd_same) (lay_map sesD_lay _) (Nat.le_trans (depth_map sesD_depth _) (by decide)) ⟨_, rfl, ?_⟩
    have q := q _ sn
    generalize upd H n (.lst []) = H1 at hd1 hm1 q
    rcases List.eq_nil_or_concat S with rfl | ⟨S0, ⟨ap, x⟩, rfl⟩
    · exact if_T rfl q
    rw [List.concat_eq_append] at *
    have eS : sss (S0 ++ [(ap, x)]) = sss S0 ++ [x] := by
      unfold sss
      rw [List.map_append]
      rfl
    have el : lastT m g (sss (S0 ++ [(ap, x)])) = clos m x g := by
      unfold lastT
      rw [eS, List.getLast?_concat]
    rw [el] at q
    refine if_F (by rw [eS, List.map_append]; cases (sss S0) <;> rfl) ?_
    obtain ⟨xw, hx, hxw⟩ := hd1.all (ap, x) (List.mem_append_right _ (List.mem_singleton.mpr rfl))
    have last : atI ((S0 ++ [(ap, x)]).map fun q => V.ref q.1) (-1) = some (.ref ap) := by
      rw [List.map_append]
      exact atI_last _ _
    match m, hm1, q with
    | none, hm1, q => exact if_T (decide_eq_true hm1) q
    | some (c, f), ⟨p, hv, hp⟩, q =>
      subst hv
      refine if_F rfl ⟨p, rfl, _, tt hp, _, rfl, _, ll hd1.at_, _, last, ap, rfl, _, tt hx, _, rfl, c, rfl, x.hi, rfl, ite2 (fun e1 => ?_) (fun e1 => ⟨p, rfl, _, tt hp, _, rfl, ?_⟩)⟩
      · have : clos (some (c, f)) x g = false := by
          have e2 : decide (c ≤ x.hi) = false := decide_eq_false (by have := of_decide_eq_true e1; omega)
          cases f with
          | none => exact e2
          | some y =>
            show (decide (c ≤ x.hi) && _) = _
            rw [e2]
            rfl
        rw [this] at q
        exact q
      · have e2 : decide (c ≤ x.hi) = true := decide_eq_true (by have : ¬ x.hi < c := fun z => e1 (decide_eq_true z); omega)
        cases f with
        | none =>
          have : clos (some (c, none)) x g = true := e2
          rw [this] at q
          exact if_T rfl q
        | some y =>
          have : clos (some (c, some y)) x g = decide (x.la + g < y) := by
            show (decide (c ≤ x.hi) && _) = _
            rw [e2]
            rfl
          rw [this] at q
          exact if_F rfl ⟨p, rfl, _, tt hp, _, rfl, _, ll hd1.at_, _, last, ap, rfl, _, tt hx, _, rfl, x.la, rfl, y, rfl, q⟩
end
end Mv

set_option Elab.async false
set_option linter.all false
set_option maxRecDepth 100000
set_option maxHeartbeats 4000000
namespace Mv
open PySem PySem.Spec PyProof.Rows L2
abbrev sWr : Stmt := topS 44
theorem cutV_take (xs : List V) (k : Nat) : cutV xs none (some (k : Int)) = xs.take k := by
  unfold cutV
  rw [HT.sIx_nat]
  show (xs.drop 0).take (min k xs.length - 0) = _
  rw [List.drop_zero, Nat.sub_zero, ← List.take_eq_take_min]
theorem sl_take {K : PySem.W.Frag} {H : Hp} {l : Addr} {L : LtL} {Q : VK} (k : Nat) (hl : Lts H l L) (q : ∀ (H' : Hp) (r : Addr), Same H H' → H r = none → Lts H' r (L.take k) → Q (.ref r) H') : rSlL K (.ref l) none (some (k : Int)) H Q := by
  refine ⟨l, _, rfl, ll hl.at_, fun r hr => ?_⟩
  rw [cutV_take, ← List.map_take]
  exact q _ r (same_upd hr) hr (hl.upd (L' := L.take k) hr fun q hq => List.mem_of_mem_take hq)
theorem sl_drop {K : PySem.W.Frag} {H : Hp} {l : Addr} {L : LtL} {Q : VK} (k : Nat) (hl : Lts H l L) (q : ∀ (H' : Hp) (r : Addr), Same H H' → H r = none → Lts H' r (L.drop k) → Q (.ref r) H') : rSlL K (.ref l) (some (k : Int)) none H Q := by
  refine ⟨l, _, rfl, ll hl.at_, fun r hr => ?_⟩
  rw [cutV_drop, ← List.map_drop]
  exact q _ r (same_upd hr) hr (hl.upd (L' := L.drop k) hr fun q hq => List.mem_of_mem_drop hq)
theorem lts_app (A B : LtL) : lts (A ++ B) = lts A ++ lts B := by
  unfold lts
  rw [List.map_append]
theorem lts_take (L : LtL) (k : Nat) : lts (L.take k) = (lts L).take k := by
  unfold lts
  rw [List.map_take]
theorem lts_drop (L : LtL) (k : Nat) : lts (L.drop k) = (lts L).drop k := by
  unfold lts
  rw [List.map_drop]
theorem not_num {L N : List Ltr} {p : Nat} {e : Ltr} (hp : p ≤ L.length) (hn : N[0]? = some e) (en : e.n ≠ (p : Int)) : ¬ Inord (L.take p ++ N) := fun h => by
  refine en (h p e ?_).1
  rw [List.getElem?_append_right (by rw [List.length_take]; omega), List.length_take, Nat.min_eq_left hp, Nat.sub_self]
  exact hn
theorem not_time {L N : List Ltr} {p : Nat} {e x : Ltr} (hp : p < L.length) (hx : L[p]? = some x) (hn : N[0]? = some e) (en : e.t < x.t) : ¬ Inord (L.take (p + 1) ++ N) := fun h => by
  have h1 := (h p x (by rw [List.getElem?_append_left (by rw [List.length_take]; omega), List.getElem?_take]; rw [if_pos (by omega)]; exact hx)).2 e (by
    rw [List.getElem?_append_right (by rw [List.length_take]; omega), List.length_take, Nat.min_eq_left (by omega), Nat.sub_self]
    exact hn)
  omega
section
variable {P : Program} {w : World} {K : PySem.W.Frag} {mg : Str → Option Value} {base : Heap}
def Ltr.sh (e : Ltr) (p s : Int) : Ltr := ⟨e.n - p, e.t + s, e.v⟩
theorem scBe : FnScope ["_law_letters_here", "_law_place", "_law_shift", "_law_letter"] ["_law_letters_here", "_law_place", "_law_shift"] (defScope sBe) := ⟨rfl, rfl, rfl, by decide +kernel, rfl, by decide +kernel, by decide +kernel⟩
def spBe : Sp := fun vs H Q _ => ∃ (l : Addr) (L : LtL) (p : Nat) (s : Int), vs = [.ref l, .int (p : Int), .int s] ∧ Lts H l L ∧ L.length ≤ 60 ∧ ∀ (H' : Hp) (r : Addr) (R : LtL), Same H H' → Lts H' r R → lts R = ((lts L).drop p).map (fun e => e.sh p s) → Q (.ref r) H'
theorem ok_be {f : Addr} {fd : FuncData} (F : Fun K "_law_behind" "_law_behind" sBe f fd) (B : Bi mg) : FnOk P w K mg base CX0 1 f fd ["_law_letters_here", "_law_place", "_law_shift"] spBe := by
  refine F.ok scBe (fun vs H Q E h => ?_) (fun cdv A outer s H vs Q E hr h => ?_)
  · obtain ⟨l, L, p, s, rfl, _⟩ := h
    rfl
  · obtain ⟨l, L, p, sh, rfl, hl, lL, q⟩ := h
    refine ⟨_, (pss_one (ps_ret (pe_lc (own := [("_law_letter", 3)]) (g := gName 3) (tt := tYes) (te := (tTup (tCons (tOp (rI0 fun i j => .int (i - j)) (tOp (rIxT K) (tVar 3) (tC (V.int 0))) (tVar 1)) (tCons (tOp (rI0 fun i j => .int (i + j)) (tOp (rIxT K) (tVar 3) (tC (V.int 1))) (tVar 2)) (tCons (tOp (rIxT K) (tVar 3) (tC (V.int 2))) tNil))))) rfl scBe.nd (pi_list (pe_slice sl_list (pv 0) (po_some (pv 1)) po_none)) (blkOk_by (N := ["_law_letters_here", "_law_place", "_law_shift", "_law_letter"]) (sc := defScope sBe) (by decide +kernel)) (fun _ _ _ _ _ => (pg_name (i := 3) scBe.nd rfl (.inl rfl))) (fun _ _ _ _ _ => pts_nil) (fun _ _ _ _ _ => (pe_tup (pa_cons (pe_op op_sub (pe_ix ix_tup (pv 3) pe_int (fun _ _ => rfl)) (pv 1)) (pa_cons (pe_op op_add (pe_ix ix_tup (pv 3) pe_int (fun _ _ => rfl)) (pv 2)) (pa_cons (pe_ix ix_tup (pv 3) pe_int (fun _ _ => rfl)) pa_nil)))))))), ?_⟩
    simp only [tSeq, tAsg, gName, tOp, rI, rI0, rU, tUn, tVar, tC, tCB, tCons, tNil, tTest, tIfS, tRet, tRetN, tDrop, tNext, tBreak, tCont, rEq, rNe, CDiv, CDivN, CMul, tBM, tBM0, tTup, tLst, tAug, tIf, tAnd, tOr, tNot, tAndV, tOrV, tNotV, tIsN, tNotN, tB, scal, tCall, cxK, cxKn, rIxT, rIxL, rIn, rAppend, rReverse, tVals, tDSetd, tDGet, tDGet1, tDGet2, tDIn, tDNotIn, rSortV, rSortT, rPop, rSortL, rSortT, tSl, tNoPart, tPart, List.append_nil, L2.start, List.map_cons, List.map_nil, List.length_cons, List.length_nil, List.replicate_succ, List.replicate_zero, List.cons_append, List.nil_append, Nat.reduceAdd, Nat.reduceSub, exists_eq, exists_eq', List.getElem?_cons_zero, List.getElem?_cons_succ, List.set_cons_zero, List.set_cons_succ, Option.some.injEq, V.int.injEq, V.bl.injEq, V.str.injEq, V.ref.injEq, List.cons.injEq, and_true, true_and, and_false, false_and, reduceCtorEq, exists_false, or_false, false_or, exists_and_left, exists_and_right, exists_eq_left, exists_eq_left', exists_eq_right, exists_eq_right', exists_const, ite_true, ite_false, Bool.false_eq_true, if_true, if_false, decide_true, decide_false]
    refine ⟨.ref l, rfl, .int (p : Int), rfl, (p : Int), rfl, l, _, rfl, ll hl.at_, fun r hr => ?_⟩
    rw [cutV_drop, ← List.map_drop]
    have sr := same_upd (o := .lst ((L.drop p).map fun q => V.ref q.1)) hr
    have lM := hl.upd (L' := L.drop p) hr fun q hq => List.mem_of_mem_drop hq
    have eM : lts (L.drop p) = (lts L).drop p := by
      unfold lts
      rw [List.map_drop]
    have nM : (L.drop p).length ≤ 60 := by
      rw [List.length_drop]
      omega
    generalize L.drop p = M at sr lM eM nM
    generalize upd H r _ = H1 at sr lM
    refine ⟨r, rfl, ⟨_, ll lM.at_⟩, fun D hD => lc_list (K := K) (xs := M.map fun q => V.ref q.1) (fun i H' => Same H1 H' ∧ ∃ R : LtL, Lts H' D R ∧ R.length = i ∧ lts R = (lts (M.take i)).map (fun e => e.sh p sh)) ⟨same_upd hD, [], ⟨upd_same, fun q hq => by cases hq⟩, rfl, rfl⟩ (fun i H' _ h => ll (h.1 _ _ lM.at_)) ?_ ?_⟩
    · rintro i x H2 hx ⟨s2, R, hR, lR, eR⟩
      obtain ⟨⟨ep, e⟩, he, rfl⟩ := ref_at (L := M) hx
      have hil := (List.getElem?_eq_some_iff.mp he).1
      have hep := s2 _ _ (lM.all _ (List.mem_of_getElem? he))
      refine ⟨rfl, ?_⟩
      simp only [tSeq, tAsg, gName, tOp, rI, rI0, rU, tUn, tVar, tC, tCB, tCons, tNil, tTest, tIfS, tRet, tRetN, tDrop, tNext, tBreak, tCont, rEq, rNe, CDiv, CDivN, CMul, tBM, tBM0, tTup, tLst, tAug, tIf, tAnd, tOr, tNot, tAndV, tOrV, tNotV, tIsN, tNotN, tB, scal, tCall, cxK, cxKn, rIxT, rIxL, rIn, rAppend, rReverse, tVals, tDSetd, tDGet, tDGet1, tDGet2, tDIn, tDNotIn, rSortV, rSortT, rPop, rSortL, rSortT, tSl, tNoPart, tPart, List.append_nil, L2.start, List.map_cons, List.map_nil, List.length_cons, List.length_nil, List.replicate_succ, List.replicate_zero, List.cons_append, List.nil_append, Nat.reduceAdd, Nat.reduceSub, exists_eq, exists_eq', wipe, tYes, List.getElem?_cons_zero, List.getElem?_cons_succ, List.set_cons_zero, List.set_cons_succ, Option.some.injEq, V.int.injEq, V.bl.injEq, V.str.injEq, V.ref.injEq, List.cons.injEq, and_true, true_and, and_false, false_and, reduceCtorEq, exists_false, or_false, false_or, exists_and_left, exists_and_right, exists_eq_left, exists_eq_left', exists_eq_right, exists_eq_right', exists_const, ite_true, ite_false, Bool.false_eq_true, if_true, if_false, decide_true, decide_false]
      refine ⟨_, tt hep, _, rfl, e.n, rfl, _, tt hep, _, rfl, e.t, rfl, _, tt hep, _, rfl, by decide, fun t ht => ?_⟩
      have s3 := same_upd (o := .tup [.int (e.n - p), .int (e.t + sh), .int e.v]) ht
      have hR3 := hR.same s3
      refine ⟨_, hR3.at_, by rw [List.length_map]; exact small1000 (by omega), fun b o z => ?_, R ++ [(t, e.sh p sh)], hR3.snoc upd_same, by rw [List.length_append, lR]; rfl, ?_⟩
      · rw [upd_ne (ne_of_none z hD)]
        exact s3 _ _ (s2 _ _ z)
      · rw [List.take_add_one, he]
        unfold lts at eR ⊢
        rw [List.map_append, List.map_append, List.map_append, eR]
        rfl
    · rintro H2 ⟨s2, R, hR, lR, eR⟩
      rw [List.length_map, List.take_length, eM] at eR
      exact q H2 D R (sr.trans s2) hR eR
theorem scWo : FnScope ["_law_letters_here", "_law_place", "_law_shift", "_law_letter"] ["_law_letters_here", "_law_place", "_law_shift"] (defScope sWo) := ⟨rfl, rfl, rfl, by decide +kernel, rfl, by decide +kernel, by decide +kernel⟩
def spWo : Sp := fun vs H Q _ => ∃ (l : Addr) (L : LtL) (p : Nat) (s : Int), vs = [.ref l, .int (p : Int), .int s] ∧ Lts H l L ∧ L.length ≤ 60 ∧ ∀ (H' : Hp) (r : Addr) (R : LtL), Same H H' → Lts H' r R → lts R = (lts L).take p ++ ((lts L).drop p).map (fun e => e.sh 0 s) → Q (.ref r) H'
theorem ok_wo {f : Addr} {fd : FuncData} (F : Fun K "_law_whole" "_law_whole" sWo f fd) (B : Bi mg) : FnOk P w K mg base CX0 1 f fd ["_law_letters_here", "_law_place", "_law_shift"] spWo := by
  refine F.ok scWo (fun vs H Q E h => ?_) (fun cdv A outer s H vs Q E hr h => ?_)
  · obtain ⟨l, L, p, s, rfl, _⟩ := h
    rfl
  · obtain ⟨l, L, p, sh, rfl, hl, lL, q⟩ := h
    refine ⟨_, (pss_one (ps_ret (pe_op op_cat (pe_slice sl_list (pv 0) po_none (po_some (pv 1))) (pe_lc (own := [("_law_letter", 3)]) (g := gName 3) (tt := tYes) (te := (tTup (tCons (tOp (rIxT K) (tVar 3) (tC (V.int 0))) (tCons (tOp (rI0 fun i j => .int (i + j)) (tOp (rIxT K) (tVar 3) (tC (V.int 1))) (tVar 2)) (tCons (tOp (rIxT K) (tVar 3) (tC (V.int 2))) tNil))))) rfl scWo.nd (pi_list (pe_slice sl_list (pv 0) (po_some (pv 1)) po_none)) (blkOk_by (N := ["_law_letters_here", "_law_place", "_law_shift", "_law_letter"]) (sc := defScope sWo) (by decide +kernel)) (fun _ _ _ _ _ => (pg_name (i := 3) scWo.nd rfl (.inl rfl))) (fun _ _ _ _ _ => pts_nil) (fun _ _ _ _ _ => (pe_tup (pa_cons (pe_ix ix_tup (pv 3) pe_int (fun _ _ => rfl)) (pa_cons (pe_op op_add (pe_ix ix_tup (pv 3) pe_int (fun _ _ => rfl)) (pv 2)) (pa_cons (pe_ix ix_tup (pv 3) pe_int (fun _ _ => rfl)) pa_nil))))))))), ?_⟩
    simp only [tSeq, tAsg, gName, tOp, rI, rI0, rU, tUn, tVar, tC, tCB, tCons, tNil, tTest, tIfS, tRet, tRetN, tDrop, tNext, tBreak, tCont, rEq, rNe, CDiv, CDivN, CMul, tBM, tBM0, tTup, tLst, tAug, tIf, tAnd, tOr, tNot, tAndV, tOrV, tNotV, tIsN, tNotN, tB, scal, tCall, cxK, cxKn, rIxT, rIxL, rIn, rAppend, rReverse, tVals, tDSetd, tDGet, tDGet1, tDGet2, tDIn, tDNotIn, rSortV, rSortT, rPop, rSortL, rSortT, tSl, tNoPart, tPart, List.append_nil, L2.start, List.map_cons, List.map_nil, List.length_cons, List.length_nil, List.replicate_succ, List.replicate_zero, List.cons_append, List.nil_append, Nat.reduceAdd, Nat.reduceSub, exists_eq, exists_eq', List.getElem?_cons_zero, List.getElem?_cons_succ, List.set_cons_zero, List.set_cons_succ, Option.some.injEq, V.int.injEq, V.bl.injEq, V.str.injEq, V.ref.injEq, List.cons.injEq, and_true, true_and, and_false, false_and, reduceCtorEq, exists_false, or_false, false_or, exists_and_left, exists_and_right, exists_eq_left, exists_eq_left', exists_eq_right, exists_eq_right', exists_const, ite_true, ite_false, Bool.false_eq_true, if_true, if_false, decide_true, decide_false]
    refine ⟨l, _, rfl, ll hl.at_, fun r0 hr0 => ?_⟩
    rw [cutV_take, ← List.map_take]
    have s0 := same_upd (o := .lst ((L.take p).map fun q => V.ref q.1)) hr0
    have l0 := hl.upd (L' := L.take p) hr0 fun q hq => List.mem_of_mem_take hq
    have hl0 := hl.same s0
    generalize upd H r0 _ = H0 at s0 l0 hl0
    refine ⟨.ref l, rfl, .int (p : Int), rfl, (p : Int), rfl, l, _, rfl, ll hl0.at_, fun r hr => ?_⟩
    rw [cutV_drop, ← List.map_drop]
    have sr := same_upd (o := .lst ((L.drop p).map fun q => V.ref q.1)) hr
    have lM := hl0.upd (L' := L.drop p) hr fun q hq => List.mem_of_mem_drop hq
    have eM : lts (L.drop p) = (lts L).drop p := by
      unfold lts
      rw [List.map_drop]
    have nM : (L.drop p).length ≤ 60 := by
      rw [List.length_drop]
      omega
    generalize L.drop p = M at sr lM eM nM
    generalize upd H0 r _ = H1 at sr lM
    refine ⟨r, rfl, ⟨_, ll lM.at_⟩, fun D hD => lc_list (K := K) (xs := M.map fun q => V.ref q.1) (fun i H' => Same H1 H' ∧ ∃ R : LtL, Lts H' D R ∧ R.length = i ∧ lts R = (lts (M.take i)).map (fun e => e.sh 0 sh)) ⟨same_upd hD, [], ⟨upd_same, fun q hq => by cases hq⟩, rfl, rfl⟩ (fun i H' _ h => ll (h.1 _ _ lM.at_)) ?_ ?_⟩
    · rintro i x H2 hx ⟨s2, R, hR, lR, eR⟩
      obtain ⟨⟨ep, e⟩, he, rfl⟩ := ref_at (L := M) hx
      have hil := (List.getElem?_eq_some_iff.mp he).1
      have hep := s2 _ _ (lM.all _ (List.mem_of_getElem? he))
      refine ⟨rfl, ?_⟩
      simp only [tSeq, tAsg, gName, tOp, rI, rI0, rU, tUn, tVar, tC, tCB, tCons, tNil, tTest, tIfS, tRet, tRetN, tDrop, tNext, tBreak, tCont, rEq, rNe, CDiv, CDivN, CMul, tBM, tBM0, tTup, tLst, tAug, tIf, tAnd, tOr, tNot, tAndV, tOrV, tNotV, tIsN, tNotN, tB, scal, tCall, cxK, cxKn, rIxT, rIxL, rIn, rAppend, rReverse, tVals, tDSetd, tDGet, tDGet1, tDGet2, tDIn, tDNotIn, rSortV, rSortT, rPop, rSortL, rSortT, tSl, tNoPart, tPart, List.append_nil, L2.start, List.map_cons, List.map_nil, List.length_cons, List.length_nil, List.replicate_succ, List.replicate_zero, List.cons_append, List.nil_append, Nat.reduceAdd, Nat.reduceSub, exists_eq, exists_eq', wipe, tYes, List.getElem?_cons_zero, List.getElem?_cons_succ, List.set_cons_zero, List.set_cons_succ, Option.some.injEq, V.int.injEq, V.bl.injEq, V.str.injEq, V.ref.injEq, List.cons.injEq, and_true, true_and, and_false, false_and, reduceCtorEq, exists_false, or_false, false_or, exists_and_left, exists_and_right, exists_eq_left, exists_eq_left', exists_eq_right, exists_eq_right', exists_const, ite_true, ite_false, Bool.false_eq_true, if_true, if_false, decide_true, decide_false]
      refine ⟨_, tt hep, _, rfl, _, tt hep, _, rfl, e.t, rfl, _, tt hep, _, rfl, by decide, fun t ht => ?_⟩
      have s3 := same_upd (o := .tup [.int e.n, .int (e.t + sh), .int e.v]) ht
      have hR3 := hR.same s3
      refine ⟨_, hR3.at_, by rw [List.length_map]; exact small1000 (by omega), fun b o z => ?_, R ++ [(t, e.sh 0 sh)], hR3.snoc (by rw [upd_same]; show _ = some (HO.tup [.int (e.n - 0), .int (e.t + sh), .int e.v]); rw [Int.sub_zero]), by rw [List.length_append, lR]; rfl, ?_⟩
      · rw [upd_ne (ne_of_none z hD)]
        exact s3 _ _ (s2 _ _ z)
      · rw [List.take_add_one, he]
        unfold lts at eR ⊢
        rw [List.map_append, List.map_append, List.map_append, eR]
        rfl
    · rintro H2 ⟨s2, R, hR, lR, eR⟩
      rw [List.length_map, List.take_length, eM] at eR
      rw [List.length_map] at lR
      refine cat_lt (l0.same (sr.trans s2)) hR (by rw [List.length_take]; omega) (by omega) fun H3 p3 s3 hp3 l3 => q H3 p3 _ (((s0.trans sr).trans s2).trans s3) l3 ?_
      unfold lts at eR ⊢
      rw [List.map_append, List.map_take, eR]
theorem scWr : FnScope ["_law_stream_here", "_law_letters_here", "_law_shape", "_law_place", "_law_number", "_law_time", "_law_value_here", "_law_letter"] ["_law_stream_here", "_law_letters_here"] (defScope sWr) := ⟨rfl, rfl, rfl, by decide +kernel, rfl, by decide +kernel, by decide +kernel⟩
def spWr : Sp := fun vs H Q _ => ∃ (a l : Addr) (L : LtL), vs = [.ref a, .ref l] ∧ Strm H a ∧ Lts H l L ∧ l ≠ a ∧ L.length ≤ 20 ∧ Inord (lts L) ∧ ∀ (r : Addr) (R : LtL) (H' : Hp), Sx a H H' → Strm H' a → Lts H' r R → R.length ≤ 60 → ¬ Inord (lts R) → Q (.ref r) H'
theorem ok_wr {f : Addr} {fd : FuncData} (F : Fun K "_law_wrong" "_law_wrong" sWr f fd) (B : Bi mg) (cDraw : CalX CX0 P w K mg base 1 "_law_draw" spDraw) : FnOk P w K mg base CX0 2 f fd ["_law_stream_here", "_law_letters_here"] spWr := by
  refine F.ok scWr (fun vs H Q E h => ?_) (fun cdv A outer s H vs Q E hr h => ?_)
  · obtain ⟨a, l, L, rfl, _⟩ := h
    rfl
  · obtain ⟨a, l, L, rfl, hs, hl, nla, lL, hi, q⟩ := h
    refine ⟨_, (pss_cons (ps_set (i := 2) scWr.nd rfl (.inl rfl) (pe_cx cDraw hr (by decide) pass0 (by rfl) (pa_cons (pv 0) (pa_cons pe_int pa_nil))))
 (pss_cons (ps_if (pt_cmpR op_lt (pe_callB call_len_seq (by rfl) B.len PySem.boot_len (pa_cons (pv 1) pa_nil)) pe_int (nomark _))
 (pss_one (ps_ret (pe_lst (pa_cons (pe_tup (pa_cons pe_int (pa_cons pe_int (pa_cons pe_int pa_nil)))) pa_nil)))) pss_nil)
 (pss_cons (ps_set (i := 3) scWr.nd rfl (.inl rfl) (pe_op op_add pe_int (pe_cx cDraw hr (by decide) pass0 (by rfl) (pa_cons (pv 0) (pa_cons (pe_op op_sub (pe_callB call_len_seq (by rfl) B.len PySem.boot_len (pa_cons (pv 1) pa_nil)) pe_int) pa_nil)))))
 (pss_cons (ps_asg (pe_ix ix_list (pv 1) (pv 3) (fun _ _ => rfl)) (pg_tup rfl (pgs_cons (pg_name (i := 4) scWr.nd rfl (.inl rfl)) (pgs_cons (pg_name (i := 5) scWr.nd rfl (.inl rfl)) (pgs_cons (pg_name (i := 6) scWr.nd rfl (.inl rfl)) pgs_nil)))))
 (pss_cons (ps_if (pt_cmpR op_eq (pv 2) pe_int (nomark _))
 (pss_one (ps_ret (pe_op op_cat (pe_slice sl_list (pv 1) po_none (po_some (pv 3))) (pe_lc (own := [("_law_letter", 7)]) (g := gName 7) (tt := tYes) (te := (tTup (tCons (tOp (rI0 fun i j => .int (i + j)) (tOp (rIxT K) (tVar 7) (tC (V.int 0))) (tC (V.int 1))) (tCons (tOp (rIxT K) (tVar 7) (tC (V.int 1))) (tCons (tOp (rIxT K) (tVar 7) (tC (V.int 2))) tNil))))) rfl scWr.nd (pi_list (pe_slice sl_list (pv 1) (po_some (pv 3)) po_none)) (blkOk_by (N := ["_law_stream_here", "_law_letters_here", "_law_shape", "_law_place", "_law_number", "_law_time", "_law_value_here", "_law_letter"]) (sc := defScope sWr) (by decide +kernel)) (fun _ _ _ _ _ => (pg_name (i := 7) scWr.nd rfl (.inl rfl))) (fun _ _ _ _ _ => pts_nil) (fun _ _ _ _ _ => (pe_tup (pa_cons (pe_op op_add (pe_ix ix_tup (pv 7) pe_int (fun _ _ => rfl)) pe_int) (pa_cons (pe_ix ix_tup (pv 7) pe_int (fun _ _ => rfl)) (pa_cons (pe_ix ix_tup (pv 7) pe_int (fun _ _ => rfl)) pa_nil))))))))) pss_nil)
 (pss_cons (ps_if (pt_cmpR op_eq (pv 2) pe_int (nomark _))
 (pss_one (ps_ret (pe_op op_cat (pe_slice sl_list (pv 1) po_none (po_some (pv 3))) (pe_slice sl_list (pv 1) (po_some (pe_op op_sub (pv 3) pe_int)) po_none)))) pss_nil)
 (pss_cons (ps_if (pt_cmpR op_eq (pv 2) pe_int (nomark _))
 (pss_one (ps_ret (pe_op op_cat (pe_op op_cat (pe_slice sl_list (pv 1) po_none (po_some (pv 3))) (pe_lst (pa_cons (pe_tup (pa_cons (pv 4) (pa_cons (pe_op op_sub (pe_ix ix_tup (pe_ix ix_list (pv 1) (pe_op op_sub (pv 3) pe_int) (fun _ _ => rfl)) pe_int (fun _ _ => rfl)) pe_int) (pa_cons (pv 6) pa_nil)))) pa_nil))) (pe_slice sl_list (pv 1) (po_some (pe_op op_add (pv 3) pe_int)) po_none)))) pss_nil)
 (pss_one (ps_ret (pe_op op_cat (pe_op op_cat (pe_slice sl_list (pv 1) po_none (po_some (pe_op op_sub (pv 3) pe_int))) (pe_lst (pa_cons (pe_ix ix_list (pv 1) (pv 3) (fun _ _ => rfl)) (pa_cons (pe_ix ix_list (pv 1) (pe_op op_sub (pv 3) pe_int) (fun _ _ => rfl)) pa_nil)))) (pe_slice sl_list (pv 1) (po_some (pe_op op_add (pv 3) pe_int)) po_none))))))))))), ?_⟩
    simp only [tSeq, tAsg, gName, tOp, rI, rI0, rU, tUn, tVar, tC, tCB, tCons, tNil, tTest, tIfS, tRet, tRetN, tDrop, tNext, tBreak, tCont, rEq, rNe, CDiv, CDivN, CMul, tBM, tBM0, tTup, tLst, tAug, tIf, tAnd, tOr, tNot, tAndV, tOrV, tNotV, tIsN, tNotN, tB, scal, tCall, cxK, cxKn, rIxT, rIxL, rIn, rAppend, rReverse, tVals, tDSetd, tDGet, tDGet1, tDGet2, tDIn, tDNotIn, rSortV, rSortT, rPop, rSortL, rSortT, tSl, tNoPart, tPart, List.append_nil, L2.start, List.map_cons, List.map_nil, List.length_cons, List.length_nil, List.replicate_succ, List.replicate_zero, List.cons_append, List.nil_append, Nat.reduceAdd, Nat.reduceSub, exists_eq, exists_eq', List.getElem?_cons_zero, List.getElem?_cons_succ, List.set_cons_zero, List.set_cons_succ, Option.some.injEq, V.int.injEq, V.bl.injEq, V.str.injEq, V.ref.injEq, List.cons.injEq, and_true, true_and, and_false, false_and, reduceCtorEq, exists_false, or_false, false_or, exists_and_left, exists_and_right, exists_eq_left, exists_eq_left', exists_eq_right, exists_eq_right', exists_const, ite_true, ite_false, Bool.false_eq_true, if_true, if_false, decide_true, decide_false]
    refine spDraw_of (by decide) hs fun r H1 h0 h4 x1 t1 => ?_
    have hl1 : Lts H1 l L := hl.wr hs.choose_spec.1 nla x1
    refine ⟨_, .inl (ll hl1.at_), ite2 (fun _ => ⟨by decide, fun p hp => ⟨by decide, fun r0 hr0 => ?_⟩⟩) (fun c => ⟨_, .inl (ll hl1.at_), ?_⟩)⟩
    · have s1 := same_upd (o := .tup [.int 1, .int 0, .int 0]) hp
      have s2 := same_upd (o := .lst [.ref p]) hr0
      have s12 := s1.trans s2
      refine q r0 [(p, ⟨1, 0, 0⟩)] _ (x1.trans (Sx.of s12)) (t1.same s12) ⟨upd_same, fun z hz => ?_⟩ (by show 1 ≤ 60; decide) fun h => absurd (h 0 ⟨1, 0, 0⟩ rfl).1 (by decide)
      rw [List.mem_singleton.mp hz]
      exact s2 _ _ upd_same
    rw [List.length_map] at c ⊢
    have hlen : 2 ≤ L.length := by
      have : ¬ (L.length : Int) < 2 := fun z => c (decide_eq_true z)
      omega
    refine spDraw_of (by omega) t1 fun d H2 d0 d1 x2 t2 => ?_
    have hl2 : Lts H2 l L := hl1.wr t1.choose_spec.1 nla x2
    have x12 := x1.trans x2
    obtain ⟨dn, rfl⟩ := Int.eq_ofNat_of_zero_le d0
    have hdl : dn + 1 < L.length := by omega
    have hb : L[dn + 1]? = some L[dn + 1] := List.getElem?_eq_getElem hdl
    generalize L[dn + 1] = eb at hb
    obtain ⟨bp, b⟩ := eb
    have hbp := hl2.all _ (List.mem_of_getElem? hb)
    have ha : L[dn]? = some L[dn] := List.getElem?_eq_getElem (by omega)
    generalize L[dn] = ea at ha
    obtain ⟨ap, e0⟩ := ea
    have hap := hl2.all _ (List.mem_of_getElem? ha)
    have lb : (lts L)[dn + 1]? = some b := by
      unfold lts
      rw [List.getElem?_map, hb]
      rfl
    have la : (lts L)[dn]? = some e0 := by
      unfold lts
      rw [List.getElem?_map, ha]
      rfl
    have llen : (lts L).length = L.length := List.length_map _
    have nb : b.n = ((dn + 1 : Nat) : Int) := (hi _ _ lb).1
    have na : e0.n = (dn : Int) := (hi _ _ la).1
    have e1 : (1 : Int) + (dn : Int) = ((dn + 1 : Nat) : Int) := by omega
    refine ⟨_, rfl, _, ll hl2.at_, .ref bp, by rw [e1]; exact atI_nat (by rw [List.getElem?_map, hb]; rfl), ?_⟩
    refine ⟨bp, _, rfl, .inl (.inl hbp), rfl, .int b.n, _, rfl, .int b.t, _, rfl, .int b.v, [], rfl, rfl, ?_⟩
    rw [e1]
    have fin : ∀ (H3 : Hp) (r3 : Addr) (R : LtL), Same H2 H3 → Lts H3 r3 R → R.length ≤ 60 → ¬ Inord (lts R) → Q (.ref r3) H3 := fun H3 r3 R s3 h3 l3 n3 => q r3 R H3 (x12.trans (Sx.of s3)) (t2.same s3) h3 l3 n3
    clear q
    simp only [tSeq, tAsg, gName, tOp, rI, rI0, rU, tUn, tVar, tC, tCB, tCons, tNil, tTest, tIfS, tRet, tRetN, tDrop, tNext, tBreak, tCont, rEq, rNe, CDiv, CDivN, CMul, tBM, tBM0, tTup, tLst, tAug, tIf, tAnd, tOr, tNot, tAndV, tOrV, tNotV, tIsN, tNotN, tB, scal, tCall, cxK, cxKn, rIxT, rIxL, rIn, rAppend, rReverse, tVals, tDSetd, tDGet, tDGet1, tDGet2, tDIn, tDNotIn, rSortV, rSortT, rPop, rSortL, rSortT, tSl, tNoPart, tPart, List.append_nil, L2.start, List.map_cons, List.map_nil, List.length_cons, List.length_nil, List.replicate_succ, List.replicate_zero, List.cons_append, List.nil_append, Nat.reduceAdd, Nat.reduceSub, exists_eq, exists_eq', List.getElem?_cons_zero, List.getElem?_cons_succ, List.set_cons_zero, List.set_cons_succ, Option.some.injEq, V.int.injEq, V.bl.injEq, V.str.injEq, V.ref.injEq, List.cons.injEq, and_true, true_and, and_false, false_and, reduceCtorEq, exists_false, or_false, false_or, exists_and_left, exists_and_right, exists_eq_left, exists_eq_left', exists_eq_right, exists_eq_right', exists_const, ite_true, ite_false, Bool.false_eq_true, if_true, if_false, decide_true, decide_false]
    have em : ((dn + 1 : Nat) : Int) - 1 = (dn : Int) := by omega
    have ep : ((dn + 1 : Nat) : Int) + 1 = ((dn + 2 : Nat) : Int) := by omega
    rw [em, ep]
    have hL60 : L.length ≤ 60 := by omega
    refine ite2 (fun _ => ?_) (fun _ => ite2 (fun _ => ?_) (fun _ => ite2 (fun _ => ?_) (fun _ => ?_)))
    · refine sl_take (dn + 1) hl2 fun H3 r3 s3 _ l3 => ?_
      have hl3 := hl2.same s3
      refine ⟨.ref l, rfl, .int ((dn + 1 : Nat) : Int), rfl, ((dn + 1 : Nat) : Int), rfl, l, _, rfl, ll hl3.at_, fun r4 hr4 => ?_⟩
      rw [cutV_drop, ← List.map_drop]
      have s4 := same_upd (o := .lst ((L.drop (dn + 1)).map fun q => V.ref q.1)) hr4
      have lM := hl3.upd (L' := L.drop (dn + 1)) hr4 fun q hq => List.mem_of_mem_drop hq
      have nM : (L.drop (dn + 1)).length ≤ 60 := by
        rw [List.length_drop]
        omega
      have eM := lts_drop L (dn + 1)
      generalize L.drop (dn + 1) = M at s4 lM eM nM
      generalize upd H3 r4 _ = H4 at s4 lM
      refine ⟨r4, rfl, ⟨_, ll lM.at_⟩, fun D hD => lc_list (K := K) (xs := M.map fun q => V.ref q.1) (fun i H' => Same H4 H' ∧ ∃ R : LtL, Lts H' D R ∧ R.length = i ∧ lts R = (lts (M.take i)).map (fun e => ⟨e.n + 1, e.t, e.v⟩)) ⟨same_upd hD, [], ⟨upd_same, fun q hq => by cases hq⟩, rfl, rfl⟩ (fun i H' _ h => ll (h.1 _ _ lM.at_)) ?_ ?_⟩
      · rintro i x H5 hx ⟨s5, R, hR, lR, eR⟩
        obtain ⟨⟨ep, e⟩, he, rfl⟩ := ref_at (L := M) hx
        have hil := (List.getElem?_eq_some_iff.mp he).1
        have hep := s5 _ _ (lM.all _ (List.mem_of_getElem? he))
        refine ⟨rfl, ?_⟩
        simp only [tSeq, tAsg, gName, tOp, rI, rI0, rU, tUn, tVar, tC, tCB, tCons, tNil, tTest, tIfS, tRet, tRetN, tDrop, tNext, tBreak, tCont, rEq, rNe, CDiv, CDivN, CMul, tBM, tBM0, tTup, tLst, tAug, tIf, tAnd, tOr, tNot, tAndV, tOrV, tNotV, tIsN, tNotN, tB, scal, tCall, cxK, cxKn, rIxT, rIxL, rIn, rAppend, rReverse, tVals, tDSetd, tDGet, tDGet1, tDGet2, tDIn, tDNotIn, rSortV, rSortT, rPop, rSortL, rSortT, tSl, tNoPart, tPart, List.append_nil, L2.start, List.map_cons, List.map_nil, List.length_cons, List.length_nil, List.replicate_succ, List.replicate_zero, List.cons_append, List.nil_append, Nat.reduceAdd, Nat.reduceSub, exists_eq, exists_eq', wipe, tYes, List.getElem?_cons_zero, List.getElem?_cons_succ, List.set_cons_zero, List.set_cons_succ, Option.some.injEq, V.int.injEq, V.bl.injEq, V.str.injEq, V.ref.injEq, List.cons.injEq, and_true, true_and, and_false, false_and, reduceCtorEq, exists_false, or_false, false_or, exists_and_left, exists_and_right, exists_eq_left, exists_eq_left', exists_eq_right, exists_eq_right', exists_const, ite_true, ite_false, Bool.false_eq_true, if_true, if_false, decide_true, decide_false]
        refine ⟨_, tt hep, _, rfl, e.n, rfl, _, tt hep, _, rfl, _, tt hep, _, rfl, by decide, fun t ht => ?_⟩
        have s6 := same_upd (o := .tup [.int (e.n + 1), .int e.t, .int e.v]) ht
        have hR3 := hR.same s6
        refine ⟨_, hR3.at_, by rw [List.length_map]; exact small1000 (by omega), fun b o z => ?_, R ++ [(t, ⟨e.n + 1, e.t, e.v⟩)], hR3.snoc upd_same, by rw [List.length_append, lR]; rfl, ?_⟩
        · rw [upd_ne (ne_of_none z hD)]
          exact s6 _ _ (s5 _ _ z)
        · rw [List.take_add_one, he]
          unfold lts at eR ⊢
          rw [List.map_append, List.map_append, List.map_append, eR]
          rfl
      · rintro H5 ⟨s5, R, hR, lR, eR⟩
        rw [List.length_map, List.take_length, eM] at eR
        rw [List.length_map] at lR
        refine cat_lt (l3.same (s4.trans s5)) hR (by rw [List.length_take]; omega) (by omega) fun H6 r6 s6 _ l6 => fin H6 r6 _ (((s3.trans s4).trans s5).trans s6) l6 (by rw [List.length_append, List.length_take]; have := congrArg List.length eR; rw [List.length_map, List.length_drop, llen] at this; unfold lts at this; rw [List.length_map] at this; omega) ?_
        rw [lts_app, lts_take, eR]
        refine not_num (e := ⟨b.n + 1, b.t, b.v⟩) (by omega) ?_ (by show b.n + 1 ≠ _; omega)
        rw [List.getElem?_map, List.getElem?_drop, show dn + 1 + 0 = dn + 1 from rfl, lb]
        rfl
    · refine sl_take (dn + 1) hl2 fun H3 r3 s3 _ l3 => sl_drop dn (hl2.same s3) fun H4 r4 s4 _ l4 => ?_
      refine cat_lt (l3.same s4) l4 (by rw [List.length_take]; omega) (by rw [List.length_drop]; omega) fun H6 r6 s6 _ l6 => fin H6 r6 _ ((s3.trans s4).trans s6) l6 (by rw [List.length_append, List.length_take, List.length_drop]; omega) ?_
      rw [lts_app, lts_take, lts_drop]
      exact not_num (e := e0) (by omega) (by rw [List.getElem?_drop]; exact la) (by rw [na]; omega)
    · refine sl_take (dn + 1) hl2 fun H3 r3 s3 _ l3 => ?_
      have hl3 := hl2.same s3
      refine ⟨_, ll hl3.at_, .ref ap, atI_nat (by rw [List.getElem?_map, ha]; rfl), ap, rfl, _, tt (s3 _ _ hap), _, rfl, e0.t, rfl, by decide, fun p hp => ⟨by decide, fun r4 hr4 => ?_⟩⟩
      have s4 := same_upd (o := .tup [.int b.n, .int (e0.t - 1), .int b.v]) hp
      have s5 := same_upd (o := .lst [.ref p]) hr4
      have s45 := s4.trans s5
      have l5 : Lts (upd (upd H3 p (.tup [.int b.n, .int (e0.t - 1), .int b.v])) r4 (.lst [.ref p])) r4 [(p, ⟨b.n, e0.t - 1, b.v⟩)] := ⟨upd_same, fun z hz => by
        rw [List.mem_singleton.mp hz]
        exact s5 _ _ upd_same⟩
      refine cat_lt (l3.same s45) l5 (by rw [List.length_take]; omega) (by show 1 ≤ 200; decide) fun H6 r6 s6 _ l6 => sl_drop (dn + 2) ((hl3.same s45).same s6) fun H7 r7 s7 _ l7 => ?_
      refine cat_lt (l6.same s7) l7 (by rw [List.length_append, List.length_take, List.length_singleton]; omega) (by rw [List.length_drop]; omega) fun H8 r8 s8 _ l8 => fin H8 r8 _ ((((s3.trans s45).trans s6).trans s7).trans s8) l8 (by rw [List.length_append, List.length_append, List.length_take, List.length_drop, List.length_singleton]; omega) ?_
      rw [lts_app, lts_app, lts_take, List.append_assoc]
      exact not_time (x := e0) (e := ⟨b.n, e0.t - 1, b.v⟩) (by omega) la rfl (by show e0.t - 1 < e0.t; omega)
    · refine sl_take dn hl2 fun H3 r3 s3 _ l3 => ?_
      have hl3 := hl2.same s3
      refine ⟨_, ll hl3.at_, .ref bp, atI_nat (by rw [List.getElem?_map, hb]; rfl), _, ll hl3.at_, .ref ap, atI_nat (by rw [List.getElem?_map, ha]; rfl), by decide, fun r4 hr4 => ?_⟩
      have s4 := same_upd (o := .lst [.ref bp, .ref ap]) hr4
      have l4 : Lts (upd H3 r4 (.lst [.ref bp, .ref ap])) r4 [(bp, b), (ap, e0)] := ⟨upd_same, fun z hz => by
        rcases List.mem_cons.mp hz with rfl | hz
        · exact s4 _ _ (s3 _ _ hbp)
        · rw [List.mem_singleton.mp hz]
          exact s4 _ _ (s3 _ _ hap)⟩
      refine cat_lt (l3.same s4) l4 (by rw [List.length_take]; omega) (by show 2 ≤ 200; decide) fun H6 r6 s6 _ l6 => sl_drop (dn + 2) ((hl3.same s4).same s6) fun H7 r7 s7 _ l7 => ?_
      refine cat_lt (l6.same s7) l7 (by rw [List.length_append, List.length_take]; show _ + 2 ≤ 200; omega) (by rw [List.length_drop]; omega) fun H8 r8 s8 _ l8 => fin H8 r8 _ ((((s3.trans s4).trans s6).trans s7).trans s8) l8 (by rw [List.length_append, List.length_append, List.length_take, List.length_drop]; show min _ _ + 2 + _ ≤ 60; omega) ?_
      rw [lts_app, lts_app, lts_take, List.append_assoc]
      exact not_num (e := b) (by omega) rfl (by rw [nb]; omega)
end
end Mv

set_option Elab.async false
set_option linter.all false
set_option maxRecDepth 100000
set_option maxHeartbeats 4000000
namespace Mv
open PySem PySem.Spec PyProof.Rows L2
/-! ### chains of letters behind letters -/
/-- the chains CC put behind the chains C0 and w: with b the first of CC goes on with w -/
def glue (b : Bool) (C0 : List (List Ltr)) (w : List Ltr) : List (List Ltr) → List (List Ltr)
  | [] => C0 ++ [w]
  | h :: r => if b = true then C0 ++ (w ++ h) :: r else C0 ++ w :: h :: r
theorem cstep_glue (g : Int) (b : Bool) (C0 : List (List Ltr)) (w : List Ltr) (D0 : List (List Ltr)) (d : List Ltr) (y e : Ltr) : cstep g (glue b C0 w (D0 ++ [d ++ [y]])) e = glue b C0 w (cstep g (D0 ++ [d ++ [y]]) e) := by
  have mv : ∀ (A B : List (List Ltr)) (u : List Ltr), A ++ u :: (B ++ [d ++ [y]]) = (A ++ u :: B) ++ [d ++ [y]] := fun A B u => by simp
  cases D0 with
  | nil =>
    rw [List.nil_append, show ([d ++ [y]] : List (List Ltr)) = [] ++ [d ++ [y]] from rfl, cstep_last]
    cases b with
    | true =>
      rw [show glue true C0 w ([] ++ [d ++ [y]]) = C0 ++ [(w ++ d) ++ [y]] by simp [glue], cstep_last]
      split <;> simp [glue]
    | false =>
      rw [show glue false C0 w ([] ++ [d ++ [y]]) = (C0 ++ [w]) ++ [d ++ [y]] by simp [glue], cstep_last]
      split <;> simp [glue]
  | cons h r =>
    rw [cstep_last]
    cases b with
    | true =>
      rw [show glue true C0 w (h :: r ++ [d ++ [y]]) = (C0 ++ (w ++ h) :: r) ++ [d ++ [y]] by simp [glue], cstep_last]
      split <;> simp [glue]
    | false =>
      rw [show glue false C0 w (h :: r ++ [d ++ [y]]) = (C0 ++ w :: h :: r) ++ [d ++ [y]] by simp [glue], cstep_last]
      split <;> simp [glue]
theorem chn_app (g : Int) {M : List Ltr} {C0 : List (List Ltr)} {c : List Ltr} {x : Ltr} (hM : chn g M = C0 ++ [c ++ [x]]) (e : Ltr) (N : List Ltr) : chn g (M ++ e :: N) = glue (decide (e.t ≤ x.t + g)) C0 (c ++ [x]) (chn g (e :: N)) := by
  suffices h : ∀ n (N : List Ltr), N.length = n → chn g (M ++ e :: N) = glue (decide (e.t ≤ x.t + g)) C0 (c ++ [x]) (chn g (e :: N)) from h _ N rfl
  intro n
  induction n with
  | zero =>
    intro N hN
    obtain rfl := List.length_eq_zero_iff.mp hN
    rw [chn_snoc, hM, cstep_last]
    show _ = glue _ _ _ [[e]]
    by_cases h : e.t ≤ x.t + g
    · rw [if_pos h, decide_eq_true h]
      simp [glue]
    · rw [if_neg h, decide_eq_false h]
      simp [glue]
  | succ n ih =>
    intro N hN
    rcases List.eq_nil_or_concat N with rfl | ⟨N0, z, rfl⟩
    · simp at hN
    · rw [List.concat_eq_append] at *
      have h1 := ih N0 (by rw [List.length_append, List.length_singleton] at hN; omega)
      rw [show M ++ e :: (N0 ++ [z]) = (M ++ e :: N0) ++ [z] by simp, chn_snoc, h1, show e :: (N0 ++ [z]) = (e :: N0) ++ [z] from rfl, chn_snoc]
      rcases List.eq_nil_or_concat (e :: N0) with h | ⟨N1, y, h⟩
      · cases h
      · rw [h, List.concat_eq_append]
        obtain ⟨D0, d, hd⟩ := chn_last g N1 y
        rw [hd]
        exact cstep_glue _ _ _ _ _ _ _ _
theorem cstep_map {f : Ltr → Ltr} (hf : ∀ e, (f e).t = e.t) (g : Int) (CC : List (List Ltr)) (e : Ltr) : cstep g (CC.map (·.map f)) (f e) = (cstep g CC e).map (·.map f) := by
  unfold cstep
  rw [List.getLast?_map]
  cases h : CC.getLast? with
  | none => rfl
  | some ch =>
    have n : near g (ch.map f) (f e) = near g ch e := by
      unfold near
      rw [List.getLast?_map]
      cases ch.getLast? with
      | none => rfl
      | some y =>
        show decide ((f e).t ≤ (f y).t + g) = _
        rw [hf, hf]
    show (if near g (ch.map f) (f e) = true then _ else _) = List.map _ (if near g ch e = true then _ else _)
    rw [n]
    split
    · rw [List.map_append, List.map_dropLast, List.map_singleton, List.map_append]
      rfl
    · rw [List.map_append]
      rfl
theorem chn_map {f : Ltr → Ltr} (hf : ∀ e, (f e).t = e.t) (g : Int) (L : List Ltr) : chn g (L.map f) = (chn g L).map (·.map f) := by
  suffices h : ∀ (L : List Ltr) (CC : List (List Ltr)), (L.map f).foldl (cstep g) (CC.map (·.map f)) = (L.foldl (cstep g) CC).map (·.map f) from h L []
  intro L
  induction L with
  | nil => intro CC; rfl
  | cons e L ih =>
    intro CC
    rw [List.map_cons, List.foldl_cons, List.foldl_cons, cstep_map hf, ih]
theorem chn_all (g : Int) (L : List Ltr) : ∀ ch ∈ chn g L, ch ≠ [] ∧ ch.length ≤ L.length := by
  suffices h : ∀ n (L : List Ltr), L.length = n → ∀ ch ∈ chn g L, ch ≠ [] ∧ ch.length ≤ L.length from h _ L rfl
  intro n
  induction n with
  | zero =>
    intro L hL ch hc
    obtain rfl := List.length_eq_zero_iff.mp hL
    cases hc
  | succ n ih =>
    intro L hL ch hc
    rcases List.eq_nil_or_concat L with rfl | ⟨M, e, rfl⟩
    · cases hc
    · rw [List.concat_eq_append] at *
      rw [List.length_append, List.length_singleton] at *
      have h1 := ih M (by omega)
      rw [chn_snoc] at hc
      rcases List.eq_nil_or_concat M with rfl | ⟨M1, y, rfl⟩
      · obtain rfl := List.mem_singleton.mp hc
        exact ⟨by simp, by simp⟩
      · rw [List.concat_eq_append] at *
        obtain ⟨D0, d, hd⟩ := chn_last g M1 y
        rw [hd] at hc h1
        rw [cstep_last] at hc
        have hl := h1 (d ++ [y]) (List.mem_append_right _ (List.mem_singleton.mpr rfl))
        split at hc
        · rcases List.mem_append.mp hc with h | h
          · have := h1 ch (List.mem_append_left _ h)
            exact ⟨this.1, by omega⟩
          · rw [List.mem_singleton.mp h]
            refine ⟨by simp, ?_⟩
            rw [List.length_append, List.length_singleton]
            omega
        · rcases List.mem_append.mp hc with h | h
          · have := h1 ch h
            exact ⟨this.1, by omega⟩
          · rw [List.mem_singleton.mp h]
            exact ⟨by simp, by simp⟩
/-- the first chain begins with the first letter -/
theorem chn_head (g : Int) (e : Ltr) (N : List Ltr) : ∃ h r, chn g (e :: N) = (e :: h) :: r := by
  suffices h : ∀ n (N : List Ltr), N.length = n → ∃ h r, chn g (e :: N) = (e :: h) :: r from h _ N rfl
  intro n
  induction n with
  | zero =>
    intro N hN
    obtain rfl := List.length_eq_zero_iff.mp hN
    exact ⟨[], [], rfl⟩
  | succ n ih =>
    intro N hN
    rcases List.eq_nil_or_concat N with rfl | ⟨N0, z, rfl⟩
    · simp at hN
    · rw [List.concat_eq_append] at *
      obtain ⟨h, r, h1⟩ := ih N0 (by rw [List.length_append, List.length_singleton] at hN; omega)
      rw [show e :: (N0 ++ [z]) = (e :: N0) ++ [z] from rfl, chn_snoc, h1]
      unfold cstep
      cases hl : ((e :: h) :: r).getLast? with
      | none => simp at hl
      | some ch =>
        show ∃ h' r', (if near g ch z = true then _ else _) = _
        split
        · cases r with
          | nil =>
            rw [List.getLast?_singleton] at hl
            obtain rfl := Option.some.inj hl
            exact ⟨h ++ [z], [], rfl⟩
          | cons u r => exact ⟨h, _, rfl⟩
        · exact ⟨h, _, rfl⟩
end Mv

set_option Elab.async false
set_option linter.all false
set_option maxRecDepth 100000
set_option maxHeartbeats 4000000
namespace Mv
open PySem PySem.Spec PyProof.Rows L2
theorem sesOf_up (k : Kd) (p : Int) {ch : List Ltr} (h : ch ≠ []) : (sesOf k (ch.map fun e => e.sh p 0)).up p = sesOf k ch := by
  obtain ⟨a, u, rfl⟩ : ∃ a u, ch = a :: u := by
    cases ch with
    | nil => exact absurd rfl h
    | cons a u => exact ⟨a, u, rfl⟩
  have hv : ((a :: u).map fun e => e.sh p 0).map Ltr.v = (a :: u).map Ltr.v := by
    rw [List.map_map]
    rfl
  unfold sesOf Ses.up
  rw [hv, List.getLast?_map]
  cases hl : (a :: u).getLast? with
  | none => simp at hl
  | some z =>
    show (⟨a.n - p + p, z.n - p + 1 + p, a.t + 0, z.t + 0, _⟩ : Ses) = ⟨a.n, z.n + 1, a.t, z.t, _⟩
    rw [show a.n - p + p = a.n by omega, show z.n - p + 1 + p = z.n + 1 by omega, Int.add_zero, Int.add_zero]
theorem ses_both (k : Kd) {u v : List Ltr} (hu : u ≠ []) (hv : v ≠ []) : Ses.both k (sesOf k u) (sesOf k v) = sesOf k (u ++ v) := by
  obtain ⟨a, u, rfl⟩ : ∃ a u', u = a :: u' := by
    cases u with
    | nil => exact absurd rfl hu
    | cons a u => exact ⟨a, u, rfl⟩
  have hl : (a :: u ++ v).getLast? = v.getLast? := by
    rw [List.getLast?_append]
    cases h : v.getLast? with
    | none => exact absurd (List.getLast?_eq_none_iff.mp h) hv
    | some z => rfl
  unfold Ses.both sesOf
  rw [hl, List.map_append, ← plain_join k ((a :: u).map Ltr.v) (v.map Ltr.v)]
  rfl
theorem ses_fi (k : Kd) (a : Ltr) (u : List Ltr) : (sesOf k (a :: u)).fi = a.t := rfl
theorem ses_last (k : Kd) (c : List Ltr) (x : Ltr) : (sesOf k (c ++ [x])).la = x.t ∧ (sesOf k (c ++ [x])).hi = x.n + 1 := by
  unfold sesOf
  rw [List.getLast?_concat]
  exact ⟨rfl, rfl⟩
theorem join_eq (k : Kd) (g : Int) (M N : List Ltr) (p : Int) (h0 : M = [] → p = 0) (h1 : ∀ x, M.getLast? = some x → x.n + 1 = p) :
    joinS k g ((chn g M).map (sesOf k)) ((chn g (N.map fun e => e.sh p 0)).map (sesOf k)) = (match M.getLast?, N.head? with
      | some x, some e => if e.t < x.t then none else some ((chn g (M ++ N)).map (sesOf k))
      | _, _ => some ((chn g (M ++ N)).map (sesOf k))) := by
  rcases List.eq_nil_or_concat M with rfl | ⟨M0, x, rfl⟩
  · obtain rfl := h0 rfl
    have : (N.map fun e => e.sh 0 0) = N := by
      rw [show (fun e : Ltr => e.sh 0 0) = id by funext e; unfold Ltr.sh; rw [Int.sub_zero, Int.add_zero]; rfl, List.map_id]
    rw [this]
    exact joinS_nl _ _ _
  · rw [List.concat_eq_append] at *
    have hp := h1 x (List.getLast?_concat)
    rw [List.getLast?_concat]
    cases N with
    | nil =>
      rw [List.append_nil]
      exact joinS_nr _ _ _
    | cons e N =>
      obtain ⟨C0, c, hM⟩ := chn_last g M0 x
      obtain ⟨h, r, hN⟩ := chn_head g e N
      have hall := chn_all g (e :: N)
      rw [chn_app g hM e N, chn_map (fun e => by show e.t + 0 = e.t; omega), hM, hN]
      rw [hN] at hall
      obtain ⟨l1, l2⟩ := ses_last k c x
      have er : ((r.map fun ch => ch.map fun e => e.sh p 0).map (sesOf k)).map (·.up p) = r.map (sesOf k) := by
        rw [List.map_map, List.map_map]
        refine List.map_congr_left fun ch hc => ?_
        exact sesOf_up k p (hall ch (List.mem_cons_of_mem _ hc)).1
      have eh : (sesOf k ((e :: h).map fun e => e.sh p 0)).up p = sesOf k (e :: h) := sesOf_up k p (by simp)
      have ef : (sesOf k ((e :: h).map fun e => e.sh p 0)).fi = e.t := by
        show e.t + 0 = e.t
        omega
      rw [List.map_append, List.map_singleton, List.map_cons, List.map_cons, joinS_cons, l1, l2, hp, ef]
      show _ = if e.t < x.t then none else _
      by_cases c1 : e.t < x.t
      · rw [if_pos c1, if_pos c1]
      · rw [if_neg c1, if_neg c1]
        by_cases c2 : x.t + g < e.t
        · rw [if_pos c2, decide_eq_false (by omega), List.map_cons, eh, er]
          simp [glue]
        · rw [if_neg c2, decide_eq_true (by omega), eh, er, ses_both k (by simp) (by simp)]
          simp [glue]
end Mv

set_option Elab.async false
set_option linter.all false
set_option maxRecDepth 100000
set_option maxHeartbeats 4000000
namespace Mv
open PySem PySem.Spec PyProof.Rows L2
theorem bad_data {K : PySem.W.Frag} {H : Hp} {v : V} (b : BadV H v) : ∃ d : PyData, L2.Dp K H v d ∧ SeqAt.shaped d = true ∧ ∀ k : Kd, PyData.eqv d (.str k.nm) = false := by
  cases b with
  | str z h hl hc => exact ⟨.str z, .str z, by
    have e : PyData.strOk z = true := by
      unfold PyData.strOk
      rw [Array.all_eq_true']
      intro c h
      exact decide_eq_true (hc c (Array.mem_toList_iff.mpr h))
    simp [SeqAt.shaped, PyData.canLay0, PyData.depth, e], fun k => by simp [PyData.eqv, h k]⟩
  | non => exact ⟨.none, .non, rfl, fun k => rfl⟩
  | int i h => exact ⟨.int i, .int i, rfl, fun k => rfl⟩
  | tup T h => exact ⟨.tuple [.str "list"], .tup (.inl (.inl h)) (.cons (.str _) .nil), by decide +kernel, fun k => rfl⟩
theorem eq_bad {K : PySem.W.Frag} {H : Hp} {v : V} (b : BadV H v) (k : Kd) {x : Str} (hx : x = k.nm) {Q : VK} (q : Q (.bl false) H) : rEqD K v (.str x) H Q := by
  subst hx
  obtain ⟨d, h1, h2, h3⟩ := bad_data (K := K) b
  exact ⟨d, .str k.nm, h1, .str _, h2, by cases k <;> decide +kernel, by rw [h3 k]; exact q⟩
section
variable {P : Program} {w : World} {K : PySem.W.Frag} {mg : Str → Option Value} {base : Heap} {T : List (Addr × Str)} {cls : Kd → Addr} {CB CG CN : Addr}
def spPlainB : Sp := fun vs H Q _ => ∃ (v : V) (p : Addr), vs = [v, .ref p] ∧ BadV H v ∧ H p = some (.tup [.int 1]) ∧ ∀ (H' : Hp) (t : Addr), Same H H' → H' t = some (.tup [.int 1]) → Q (.ref t) H'
theorem ok_plainB {f : Addr} {fd : FuncData} (F : Fun K "_law_plain" "_law_plain" sPlain f fd) (B : Bi mg) : FnOk P w K mg base CX0 1 f fd ["_law_kind_here", "_law_word"] spPlainB := by
  refine F.ok scPlain (fun vs H Q E h => ?_) (fun cdv A outer s H vs Q E hr h => ?_)
  · obtain ⟨v, p, rfl, _⟩ := h
    rfl
  · obtain ⟨v, p, rfl, b, hp, q⟩ := h
    refine ⟨_, (pss_cons (ps_if (pt_cmpR (op_eqD hr.units) (pv 0) pe_str (nomark _))
 (pss_one (ps_ret (pe_callTy call_tuple_of (by rfl) B.tuple (by decide +kernel) (pa_cons (pv 1) pa_nil)))) pss_nil)
 (pss_cons (ps_if (pt_cmpR (op_eqD hr.units) (pv 0) pe_str (nomark _))
 (pss_one (ps_ret (pe_callTy call_tuple_of (by rfl) B.tuple (by decide +kernel) (pa_cons (pe_callB cr_sortT' (by rfl) B.sorted (by decide +kernel) (pa_cons (pv 1) pa_nil)) pa_nil)))) pss_nil)
 (pss_cons (ps_if (pt_cmpR op_eq (pe_callB call_len_seq (by rfl) B.len PySem.boot_len (pa_cons (pv 1) pa_nil)) pe_int (nomark _))
 (pss_one (ps_ret (pe_tup pa_nil))) pss_nil)
 (pss_cons (ps_if (pt_cmpR (op_eqD hr.units) (pv 0) pe_str (nomark _))
 (pss_one (ps_ret (pe_tup (pa_cons (pe_ix ix_tup (pv 1) pe_int (fun _ _ => rfl)) pa_nil)))) pss_nil)
 (pss_cons (ps_if (pt_cmpR (op_eqD hr.units) (pv 0) pe_str (nomark _))
 (pss_one (ps_ret (pe_tup (pa_cons (pe_ix ix_tup (pv 1) (pe_un un_neg pe_int) (fun _ _ => rfl)) pa_nil)))) pss_nil)
 (pss_cons (ps_if (pt_cmpR (op_eqD hr.units) (pv 0) pe_str (nomark _))
 (pss_one (ps_ret (pe_tup (pa_cons (pe_ix ix_tup (pv 1) pe_int (fun _ _ => rfl)) (pa_cons (pe_ix ix_tup (pv 1) (pe_un un_neg pe_int) (fun _ _ => rfl)) pa_nil))))) pss_nil)
 (pss_cons (ps_set (i := 2) scPlain.nd rfl (.inl rfl) (pe_lst pa_nil))
 (pss_cons (ps_set (i := 3) scPlain.nd rfl (.inl rfl) (pe_cmpR (op_eqD hr.units) (pv 0) pe_str (nomark _)))
 (pss_cons (ps_for PassesOwn.never rfl (pi_range1 (by rfl) B.range (pa_cons (pe_callB call_len_seq (by rfl) B.len PySem.boot_len (pa_cons (pv 1) pa_nil)) pa_nil)) (pg_name (i := 4) scPlain.nd rfl (.inl rfl))
 (pss_cons (ps_set (i := 5) scPlain.nd rfl (.inl rfl) (pe_ix ix_tup (pv 1) (pv 4) (fun _ _ => rfl)))
 (pss_cons (ps_if (pt_val (pv 3))
 (pss_one (ps_set (i := 5) scPlain.nd rfl (.inl rfl) (pe_ix ix_tup (pv 1) (pe_op op_sub (pe_op op_sub (pe_callB call_len_seq (by rfl) B.len PySem.boot_len (pa_cons (pv 1) pa_nil)) pe_int) (pv 4)) (fun _ _ => rfl)))) pss_nil)
 (pss_one (ps_if (pt_cmpR op_notIn_seq (pv 5) (pv 2) (by rfl))
 (pss_one (ps_expr (pe_bm PySem.F.plainAttrs_list PySem.F.slot_list_append PySem.F.type_list_append mt_append (pv 2) (pa_cons (pv 5) pa_nil)))) pss_nil)))))
 (pss_cons (ps_if (pt_val (pv 3))
 (pss_one (ps_expr (pe_bm0 PySem.F.plainAttrs_list PySem.F.slot_list_reverse PySem.F.type_list_reverse mt_reverse (pv 2)))) pss_nil)
 (pss_cons (ps_if (pt_cmpR (op_eqD hr.units) (pv 0) pe_str (nomark _))
 (pss_one (ps_ret (pe_callTy call_tuple_of (by rfl) B.tuple (by decide +kernel) (pa_cons (pe_callB cr_sortL (by rfl) B.sorted (by decide +kernel) (pa_cons (pv 2) pa_nil)) pa_nil)))) pss_nil)
 (pss_one (ps_ret (pe_callTy call_tuple_of (by rfl) B.tuple (by decide +kernel) (pa_cons (pv 2) pa_nil))))))))))))))), ?_⟩
    simp only [tSeq, tAsg, gName, tOp, rI, rI0, rU, tUn, tVar, tC, tCB, tCons, tNil, tTest, tIfS, tRet, tRetN, tDrop, tNext, tBreak, tCont, rEq, rNe, CDiv, CDivN, CMul, tBM, tBM0, tTup, tLst, tAug, tIf, tAnd, tOr, tNot, tAndV, tOrV, tNotV, tIsN, tNotN, tB, scal, tCall, cxK, cxKn, rIxT, rIxL, rIn, rAppend, rReverse, tVals, tDSetd, tDGet, tDGet1, tDGet2, tDIn, tDNotIn, rSortV, rSortT, rPop, rSortL, rSortT, tSl, tNoPart, tPart, List.append_nil, L2.start, List.map_cons, List.map_nil, List.length_cons, List.length_nil, List.replicate_succ, List.replicate_zero, List.cons_append, List.nil_append, Nat.reduceAdd, Nat.reduceSub, exists_eq, exists_eq', List.getElem?_cons_zero, List.getElem?_cons_succ, List.set_cons_zero, List.set_cons_succ, Option.some.injEq, V.int.injEq, V.bl.injEq, V.str.injEq, V.ref.injEq, List.cons.injEq, and_true, true_and, and_false, false_and, reduceCtorEq, exists_false, or_false, false_or, exists_and_left, exists_and_right, exists_eq_left, exists_eq_left', exists_eq_right, exists_eq_right', exists_const, ite_true, ite_false, Bool.false_eq_true, if_true, if_false, decide_true, decide_false]
    refine eq_bad b .list rfl ⟨_, rfl, if_F rfl ?_⟩
    refine eq_bad b .bag rfl ⟨_, rfl, if_F rfl ?_⟩
    refine ⟨_, .inr (tt hp), if_F rfl ?_⟩
    refine eq_bad b .first rfl ⟨_, rfl, if_F rfl ?_⟩
    refine eq_bad b .last rfl ⟨_, rfl, if_F rfl ?_⟩
    refine eq_bad b .ends rfl ⟨_, rfl, if_F rfl ⟨Nat.zero_le _, fun o no => ?_⟩⟩
    have so := same_upd (o := .lst []) no
    have hp1 := so _ _ hp
    have b1 := b.ext (LamX.ExtN.of so)
    refine eq_bad b1 .tails rfl ?_
    refine ⟨.ref p, rfl, p, rfl, _, .inr (tt hp1), _, rfl, by decide, by decide, ?_⟩
    refine for_range (n := 1) (fun j σ H3 => ∃ y4 y5, σ = [some v, some (.ref p), some (.ref o), some (.bl false), y4, y5] ∧ Same H H3 ∧ H3 o = some (.lst (if j = 0 then [] else [.int 1]))) ⟨none, none, rfl, so, upd_same⟩ ?_ ?_
    · rintro j σ H3 hj ⟨y4, y5, rfl, s3, ho⟩
      obtain rfl : j = 0 := by omega
      have hp3 := s3 _ _ hp
      simp only [tSeq, tAsg, gName, tOp, rI, rI0, rU, tUn, tVar, tC, tCB, tCons, tNil, tTest, tIfS, tRet, tRetN, tDrop, tNext, tBreak, tCont, rEq, rNe, CDiv, CDivN, CMul, tBM, tBM0, tTup, tLst, tAug, tIf, tAnd, tOr, tNot, tAndV, tOrV, tNotV, tIsN, tNotN, tB, scal, tCall, cxK, cxKn, rIxT, rIxL, rIn, rAppend, rReverse, tVals, tDSetd, tDGet, tDGet1, tDGet2, tDIn, tDNotIn, rSortV, rSortT, rPop, rSortL, rSortT, tSl, tNoPart, tPart, List.append_nil, L2.start, List.map_cons, List.map_nil, List.length_cons, List.length_nil, List.replicate_succ, List.replicate_zero, List.cons_append, List.nil_append, Nat.reduceAdd, Nat.reduceSub, exists_eq, exists_eq', List.getElem?_cons_zero, List.getElem?_cons_succ, List.set_cons_zero, List.set_cons_succ, Option.some.injEq, V.int.injEq, V.bl.injEq, V.str.injEq, V.ref.injEq, List.cons.injEq, and_true, true_and, and_false, false_and, reduceCtorEq, exists_false, or_false, false_or, exists_and_left, exists_and_right, exists_eq_left, exists_eq_left', exists_eq_right, exists_eq_right', exists_const, ite_true, ite_false, Bool.false_eq_true, if_true, if_false, decide_true, decide_false]
      refine ⟨_, tt hp3, .int 1, rfl, _, .inl (ll ho), rfl, rfl, if_T rfl ⟨.inl ⟨rfl, _, ll ho⟩, _, ho, by decide, fun b y e => ?_, ?_⟩⟩
      · rw [upd_ne (ne_of_none e no)]
        exact s3 _ _ e
      · rw [upd_same]
        rfl
    · rintro σ H3 ⟨y4, y5, rfl, s3, ho⟩
      simp only [tSeq, tAsg, gName, tOp, rI, rI0, rU, tUn, tVar, tC, tCB, tCons, tNil, tTest, tIfS, tRet, tRetN, tDrop, tNext, tBreak, tCont, rEq, rNe, CDiv, CDivN, CMul, tBM, tBM0, tTup, tLst, tAug, tIf, tAnd, tOr, tNot, tAndV, tOrV, tNotV, tIsN, tNotN, tB, scal, tCall, cxK, cxKn, rIxT, rIxL, rIn, rAppend, rReverse, tVals, tDSetd, tDGet, tDGet1, tDGet2, tDIn, tDNotIn, rSortV, rSortT, rPop, rSortL, rSortT, tSl, tNoPart, tPart, List.append_nil, L2.start, List.map_cons, List.map_nil, List.length_cons, List.length_nil, List.replicate_succ, List.replicate_zero, List.cons_append, List.nil_append, Nat.reduceAdd, Nat.reduceSub, exists_eq, exists_eq', List.getElem?_cons_zero, List.getElem?_cons_succ, List.set_cons_zero, List.set_cons_succ, Option.some.injEq, V.int.injEq, V.bl.injEq, V.str.injEq, V.ref.injEq, List.cons.injEq, and_true, true_and, and_false, false_and, reduceCtorEq, exists_false, or_false, false_or, exists_and_left, exists_and_right, exists_eq_left, exists_eq_left', exists_eq_right, exists_eq_right', exists_const, ite_true, ite_false, Bool.false_eq_true, if_true, if_false, decide_true, decide_false]
      refine eq_bad (b.ext (LamX.ExtN.of s3)) .set rfl ⟨_, rfl, if_F rfl ⟨_, .inl ⟨ll ho, fun t ht => q _ t (s3.trans (same_upd ht)) upd_same⟩⟩⟩
end
end Mv

set_option Elab.async false
set_option linter.all false
set_option maxRecDepth 100000
set_option maxHeartbeats 4000000
namespace Mv
open PySem PySem.Spec PyProof.Rows L2
abbrev sUn : Stmt := topS 49
abbrev sRef : Stmt := topS 48
/-- what the suites ask of the classes -/
structure RTx (K : PySem.W.Frag) (mg : Str → Option Value) (CB CG CN M : Addr) : Prop where
  gCB : mg "BadKind" = some (.ref CB)
  gCG : mg "BadGap" = some (.ref CG)
  gCN : mg "NotFitting" = some (.ref CN)
  gM : mg "MovedError" = some (.ref M)
  xfB : XfC K CB
  noN : PySem.W.findIn K (.ref CB) "name" = some none
  xfG : XfC K CG
  noG : PySem.W.findIn K (.ref CG) "gap" = some none
  bb : PySem.W.exmOne K (.ref CB) (.ref CB) = some true
  gb : PySem.W.exmOne K (.ref CG) (.ref CB) = some false
  gg : PySem.W.exmOne K (.ref CG) (.ref CG) = some true
  nb : PySem.W.exmOne K (.ref CN) (.ref CB) = some false
  ng : PySem.W.exmOne K (.ref CN) (.ref CG) = some false
  nn : PySem.W.exmOne K (.ref CN) (.ref CN) = some true
  eG : ExcG K CG
  eN : ExcG K CN
  iG : PySem.W.kitOne K (.ref CG) (.ref M) = some true
  iN : PySem.W.kitOne K (.ref CN) (.ref M) = some true
/-- how a door refuses -/
def RefP (H : Hp) (v : V) (g : Int) (R : List V → Prop) : Prop := (∃ k : Kd, v = .str k.nm ∧ 0 ≤ g ∧ R [.str "fit", .bl true]) ∨ (∃ k : Kd, v = .str k.nm ∧ BadG g ∧ R [.str "gap", .int g, .bl true]) ∨ (BadV H v ∧ R [.str "kind", v])
def spRef (T : List (Addr × Str)) : Sp := fun vs H Q _ => ∃ (door : Int) (v : V) (l : Addr) (L : LtL) (g : Int), vs = [.int door, v, .ref l, .int g] ∧ Lts H l L ∧ L.length ≤ 60 ∧ ¬ Inord (lts L) ∧ LamX.Tabs T H ∧ RefP H v g fun r => ∀ (H' : Hp) (t : Addr), Same H H' → H' t = some (.tup r) → Q (.ref t) H'
def hT1 (CB : Addr) : Addr → Value → Option Addr → TS := fun (a : Addr) (cls : Value) (d : Option Addr) => tAsg (tTup (tCons (tC (V.str "kind")) (tCons (tXf a cls d CB "name" (tVar 6)) tNil))) (gName 4)
def hT2 (K : PySem.W.Frag) (CG M : Addr) : Addr → Value → Option Addr → TS := fun (a : Addr) (cls : Value) (d : Option Addr) => tAsg (tTup (tCons (tC (V.str "gap")) (tCons (tXf a cls d CG "gap" (tVar 7)) (tCons (tCB (rIsG K a cls d) (tCons (tVar 7) (tCons (tC (V.ref M)) tNil))) tNil)))) (gName 4)
def hT3 (K : PySem.W.Frag) (M : Addr) : Addr → Value → Option Addr → TS := fun (a : Addr) (cls : Value) (d : Option Addr) => tAsg (tTup (tCons (tC (V.str "fit")) (tCons (tCB (rIsG K a cls d) (tCons (tVar 8) (tCons (tC (V.ref M)) tNil))) tNil))) (gName 4)
def hCl (K : PySem.W.Frag) (CB CG CN M : Addr) : List Cl := [⟨.ref CB, 6, hT1 CB⟩, ⟨.ref CG, 7, hT2 K CG M⟩, ⟨.ref CN, 8, hT3 K M⟩]
def hD (Q : VK) : Ends := { nx := fun z h => tRet (tVar 4) { nx := fun _ h' => Q .non h', rt := Q } z h, rt := Q }
def hE (K : PySem.W.Frag) (CB CG CN M : Addr) (Q : VK) (z : L2.St) : XK := WE (wMore K (fun _ _ _ _ => False) (hD Q) (hCl K CB CG CN M)) z
section
variable {K : PySem.W.Frag} {mg : Str → Option Value} {CB CG CN M : Addr} {H : Hp} {Q : VK} {a0 a1 a2 a3 a4 a5 : Option V} {v : V} {g : Int}
theorem ref_kind (R : RTx K mg CB CG CN M) (q : ∀ (H' : Hp) (t : Addr), Same H H' → H' t = some (.tup [.str "kind", v]) → Q (.ref t) H') : Rs CB H v (hE K CB CG CN M Q [a0, a1, a2, a3, a4, a5, none, none, none]) := by
  intro d H2 s2 hd
  refine ⟨true, R.bb, fun _ a ha => ?_, fun z => Bool.noConfusion z⟩
  have hl : List.lookup ("name" : Str) [(("name" : Str), v)] = some v := by simp [List.lookup]
  refine ⟨.ref a, rfl, rfl, rfl, d, _, v, rfl, hd, hl, by show 2 ≤ sizeLine; decide, fun t ht => ?_⟩
  exact ⟨.ref t, rfl, q _ t (s2.trans (same_upd ht)) upd_same⟩
theorem ref_gap (R : RTx K mg CB CG CN M) (q : ∀ (H' : Hp) (t : Addr), Same H H' → H' t = some (.tup [.str "gap", .int g, .bl true]) → Q (.ref t) H') : RsF CG "gap" H (.int g) (hE K CB CG CN M Q [a0, a1, a2, a3, a4, a5, none, none, none]) := by
  intro d H2 s2 hd
  refine ⟨false, R.gb, fun z => Bool.noConfusion z, fun _ => ⟨true, R.gg, fun _ a ha => ?_, fun z => Bool.noConfusion z⟩⟩
  have hl : List.lookup ("gap" : Str) [(("gap" : Str), V.int g)] = some (.int g) := by simp [List.lookup]
  refine ⟨.ref a, rfl, rfl, rfl, d, _, .int g, rfl, hd, hl, .ref a, rfl, .ref M, .ref M, true, CG, rfl, rfl, R.eG, .inr ⟨d, _, rfl, hd⟩, fun u h => h, R.iG, by show 3 ≤ sizeLine; decide, fun t ht => ?_⟩
  exact ⟨.ref t, rfl, q _ t (s2.trans (same_upd ht)) upd_same⟩
theorem ref_fit (R : RTx K mg CB CG CN M) (q : ∀ (H' : Hp) (t : Addr), Same H H' → H' t = some (.tup [.str "fit", .bl true]) → Q (.ref t) H') : RsN CN H (hE K CB CG CN M Q [a0, a1, a2, a3, a4, a5, none, none, none]) := by
  intro H2 s2
  refine ⟨false, R.nb, fun z => Bool.noConfusion z, fun _ => ⟨false, R.ng, fun z => Bool.noConfusion z, fun _ => ⟨true, R.nn, fun _ a ha => ?_, fun z => Bool.noConfusion z⟩⟩⟩
  refine ⟨.ref a, rfl, .ref M, .ref M, true, CN, rfl, rfl, R.eN, .inl rfl, fun u h => h, R.iN, by show 2 ≤ sizeLine; decide, fun t ht => ?_⟩
  exact ⟨.ref t, rfl, q _ t (s2.trans (same_upd ht)) upd_same⟩
end
section
variable {P : Program} {w : World} {K : PySem.W.Frag} {mg : Str → Option Value} {base : Heap} {T : List (Addr × Str)} {cls : Kd → Addr} {CB CG CN M : Addr}
theorem scRef : FnScope ["_law_door", "_law_kind_here", "_law_letters_here", "_law_span_here", "_law_caught", "_law_value_here", "strange", "low", "_law_wrong_here"] ["_law_door", "_law_kind_here", "_law_letters_here", "_law_span_here"] (defScope sRef) := ⟨rfl, rfl, rfl, by decide +kernel, rfl, by decide +kernel, by decide +kernel⟩
theorem ok_ref {f : Addr} {fd : FuncData} (F : Fun K "_law_refused" "_law_refused" sRef f fd) (B : Bi mg) (R : RTx K mg CB CG CN M) (cPlain : CalX CX0 P w K mg base 1 "_law_plain" (spPlain K)) (cPlainB : CalX CX0 P w K mg base 1 "_law_plain" spPlainB)
    (cCS : KgX P w K mg base 6 "cut_sessions" (spCS T cls CB CG CN) 2) (cTS : KgX P w K mg base 7 "told_sessions" (spTS T cls CB CG CN) 3) (cJS : KgX P w K mg base 6 "joined_sessions" (spJS T cls CB CG CN) 3) : FnOk P w K mg base CX0 8 f fd ["_law_door", "_law_kind_here", "_law_letters_here", "_law_span_here"] (spRef T) := by
  refine F.ok scRef (fun vs H Q E h => ?_) (fun cdv A outer s H vs Q E hr h => ?_)
  · obtain ⟨door, v, l, L, g, rfl, _⟩ := h
    rfl
  · obtain ⟨door, v, l, L, g, rfl, hl, lL, hn, hT, h⟩ := h
    have hr' : Room 7 _ := hr
    have go : ∀ (H1 : Hp) (t : Addr) (W : List Int), Same H H1 → H1 t = some (.tup (W.map V.int)) → W.length ≤ 30 → (∀ (H2 : Hp) (R : Kd → Prop), Same H1 H2 → (RsN CN H2 (hE K CB CG CN M Q [some (.int door), some v, some (.ref l), some (.int g), some .non, some (.ref t), none, none, none]) → ∀ k, R k) → CkP cls CB CG H2 v g (hE K CB CG CN M Q [some (.int door), some v, some (.ref l), some (.int g), some .non, some (.ref t), none, none, none]) R) →
        tIfS (tTest (tOp rEq (tVar 0) (tC (V.int 0)))) (tDrop (tCallNS 2 1 (spCS T cls CB CG CN) (fun vs zs => vs ++ zs) (WE (wMore K (fun _ _ _ _ => False) (hD Q) (hCl K CB CG CN M))) (tCons (tVar 1) (tCons (tVar 2) tNil)) (tCons (tVar 3) tNil))) (tIfS (tTest (tOp rEq (tVar 0) (tC (V.int 1)))) (tDrop (tCallNS 3 1 (spTS T cls CB CG CN) (fun vs zs => vs ++ zs) (WE (wMore K (fun _ _ _ _ => False) (hD Q) (hCl K CB CG CN M))) (tCons (tVar 1) (tCons (tVar 2) (tCons (tTup (tCons (tC (V.int 0)) (tCons (tC V.non) tNil))) tNil))) (tCons (tVar 3) tNil))) (tDrop (tCallNS 3 1 (spJS T cls CB CG CN) (fun vs zs => vs ++ zs) (WE (wMore K (fun _ _ _ _ => False) (hD Q) (hCl K CB CG CN M))) (tCons (tVar 1) (tCons (tLst (tCons (tTup (tCons (tC (V.int 0)) (tCons (tC (V.int 1)) (tCons (tC (V.int 5)) (tCons (tC (V.int 5)) (tCons (tVar 5) tNil)))))) tNil)) (tCons (tLst (tCons (tTup (tCons (tC (V.int 0)) (tCons (tC (V.int 1)) (tCons (tC (V.int 4)) (tCons (tC (V.int 4)) (tCons (tVar 5) tNil)))))) tNil)) tNil))) (tCons (tVar 3) tNil)))) (hD Q) [some (.int door), some v, some (.ref l), some (.int g), some .non, some (.ref t), none, none, none] H1 := by
      intro H1 t W s1 ht lW ck
      unfold hE at ck
      generalize WE (wMore K (fun _ _ _ _ => False) (hD Q) (hCl K CB CG CN M)) = EE at ck ⊢
      have hl1 := hl.same s1
      have hT1 := hT.ext s1
      simp only [tSeq, tAsg, gName, tOp, rI, rI0, rU, tUn, tVar, tC, tCB, tCons, tNil, tTest, tIfS, tRet, tRetN, tDrop, tNext, tBreak, tCont, rEq, rNe, CDiv, CDivN, CMul, tBM, tBM0, tTup, tLst, tAug, tIf, tAnd, tOr, tNot, tAndV, tOrV, tNotV, tIsN, tNotN, tB, scal, tCall, cxK, cxKn, rIxT, rIxL, rIn, rAppend, rReverse, tVals, tDSetd, tDGet, tDGet1, tDGet2, tDIn, tDNotIn, rSortV, rSortT, rPop, rSortL, rSortT, tSl, tNoPart, tPart, List.append_nil, L2.start, List.map_cons, List.map_nil, List.length_cons, List.length_nil, List.replicate_succ, List.replicate_zero, List.cons_append, List.nil_append, Nat.reduceAdd, Nat.reduceSub, exists_eq, exists_eq', List.getElem?_cons_zero, List.getElem?_cons_succ, List.set_cons_zero, List.set_cons_succ, Option.some.injEq, V.int.injEq, V.bl.injEq, V.str.injEq, V.ref.injEq, List.cons.injEq, and_true, true_and, and_false, false_and, reduceCtorEq, exists_false, or_false, false_or, exists_and_left, exists_and_right, exists_eq_left, exists_eq_left', exists_eq_right, exists_eq_right', exists_const, ite_true, ite_false, Bool.false_eq_true, if_true, if_false, decide_true, decide_false]
      refine ite2 (fun _ => ?_) (fun _ => ite2 (fun _ => ?_) (fun _ => ?_))
      · unfold tCallNS
        simp only [tSeq, tAsg, gName, tOp, rI, rI0, rU, tUn, tVar, tC, tCB, tCons, tNil, tTest, tIfS, tRet, tRetN, tDrop, tNext, tBreak, tCont, rEq, rNe, CDiv, CDivN, CMul, tBM, tBM0, tTup, tLst, tAug, tIf, tAnd, tOr, tNot, tAndV, tOrV, tNotV, tIsN, tNotN, tB, scal, tCall, cxK, cxKn, rIxT, rIxL, rIn, rAppend, rReverse, tVals, tDSetd, tDGet, tDGet1, tDGet2, tDIn, tDNotIn, rSortV, rSortT, rPop, rSortL, rSortT, tSl, tNoPart, tPart, List.append_nil, L2.start, List.map_cons, List.map_nil, List.length_cons, List.length_nil, List.replicate_succ, List.replicate_zero, List.cons_append, List.nil_append, Nat.reduceAdd, Nat.reduceSub, exists_eq, exists_eq', List.getElem?_cons_zero, List.getElem?_cons_succ, List.set_cons_zero, List.set_cons_succ, Option.some.injEq, V.int.injEq, V.bl.injEq, V.str.injEq, V.ref.injEq, List.cons.injEq, and_true, true_and, and_false, false_and, reduceCtorEq, exists_false, or_false, false_or, exists_and_left, exists_and_right, exists_eq_left, exists_eq_left', exists_eq_right, exists_eq_right', exists_const, ite_true, ite_false, Bool.false_eq_true, if_true, if_false, decide_true, decide_false]
        exact ⟨v, l, L, g, rfl, hl1, lL, hT1, ck H1 _ (fun _ _ h => h) fun r k => ⟨fun hi => absurd hi hn, fun _ => r⟩⟩
      · unfold tCallNS
        simp only [tSeq, tAsg, gName, tOp, rI, rI0, rU, tUn, tVar, tC, tCB, tCons, tNil, tTest, tIfS, tRet, tRetN, tDrop, tNext, tBreak, tCont, rEq, rNe, CDiv, CDivN, CMul, tBM, tBM0, tTup, tLst, tAug, tIf, tAnd, tOr, tNot, tAndV, tOrV, tNotV, tIsN, tNotN, tB, scal, tCall, cxK, cxKn, rIxT, rIxL, rIn, rAppend, rReverse, tVals, tDSetd, tDGet, tDGet1, tDGet2, tDIn, tDNotIn, rSortV, rSortT, rPop, rSortL, rSortT, tSl, tNoPart, tPart, List.append_nil, L2.start, List.map_cons, List.map_nil, List.length_cons, List.length_nil, List.replicate_succ, List.replicate_zero, List.cons_append, List.nil_append, Nat.reduceAdd, Nat.reduceSub, exists_eq, exists_eq', List.getElem?_cons_zero, List.getElem?_cons_succ, List.set_cons_zero, List.set_cons_succ, Option.some.injEq, V.int.injEq, V.bl.injEq, V.str.injEq, V.ref.injEq, List.cons.injEq, and_true, true_and, and_false, false_and, reduceCtorEq, exists_false, or_false, false_or, exists_and_left, exists_and_right, exists_eq_left, exists_eq_left', exists_eq_right, exists_eq_right', exists_const, ite_true, ite_false, Bool.false_eq_true, if_true, if_false, decide_true, decide_false]
        refine ⟨by decide, fun p hp => ?_⟩
        have s2 := same_upd (o := .tup [.int 0, .non]) hp
        exact ⟨v, l, L, .ref p, some (0, none), g, rfl, hl1.same s2, lL, hT1.ext s2, ⟨p, rfl, upd_same⟩, ck _ _ s2 fun r k => ⟨fun hi => absurd hi hn, fun _ => r⟩⟩
      · unfold tCallNS
        simp only [tSeq, tAsg, gName, tOp, rI, rI0, rU, tUn, tVar, tC, tCB, tCons, tNil, tTest, tIfS, tRet, tRetN, tDrop, tNext, tBreak, tCont, rEq, rNe, CDiv, CDivN, CMul, tBM, tBM0, tTup, tLst, tAug, tIf, tAnd, tOr, tNot, tAndV, tOrV, tNotV, tIsN, tNotN, tB, scal, tCall, cxK, cxKn, rIxT, rIxL, rIn, rAppend, rReverse, tVals, tDSetd, tDGet, tDGet1, tDGet2, tDIn, tDNotIn, rSortV, rSortT, rPop, rSortL, rSortT, tSl, tNoPart, tPart, List.append_nil, L2.start, List.map_cons, List.map_nil, List.length_cons, List.length_nil, List.replicate_succ, List.replicate_zero, List.cons_append, List.nil_append, Nat.reduceAdd, Nat.reduceSub, exists_eq, exists_eq', List.getElem?_cons_zero, List.getElem?_cons_succ, List.set_cons_zero, List.set_cons_succ, Option.some.injEq, V.int.injEq, V.bl.injEq, V.str.injEq, V.ref.injEq, List.cons.injEq, and_true, true_and, and_false, false_and, reduceCtorEq, exists_false, or_false, false_or, exists_and_left, exists_and_right, exists_eq_left, exists_eq_left', exists_eq_right, exists_eq_right', exists_const, ite_true, ite_false, Bool.false_eq_true, if_true, if_false, decide_true, decide_false]
        refine ⟨by decide, fun p1 h1 => ⟨by decide, fun p2 h2 => ⟨by decide, fun p3 h3 => ⟨by decide, fun p4 h4 => ?_⟩⟩⟩⟩
        have u1 := same_upd (o := .tup [.int 0, .int 1, .int 5, .int 5, .ref t]) h1
        have u2 := same_upd (o := .lst [.ref p1]) h2
        have u3 := same_upd (o := .tup [.int 0, .int 1, .int 4, .int 4, .ref t]) h3
        have u4 := same_upd (o := .lst [.ref p3]) h4
        have u34 := u3.trans u4
        have u24 := u2.trans u34
        have u14 := u1.trans u24
        refine ⟨v, p2, p4, [(p1, ⟨0, 1, 5, 5, W⟩)], [(p3, ⟨0, 1, 4, 4, W⟩)], g, rfl, ⟨u34 _ _ upd_same, fun z hz => ?_⟩, ⟨upd_same, fun z hz => ?_⟩, by show 1 ≤ 60; decide, by show 1 ≤ 60; decide, fun z hz y hy => ?_, hT1.ext u14, ck _ _ u14 fun r k => ⟨fun R' e => ?_, fun _ => r⟩⟩
        · rw [List.mem_singleton.mp hz]
          exact ⟨t, u24 _ _ upd_same, u14 _ _ ht⟩
        · rw [List.mem_singleton.mp hz]
          exact ⟨t, u4 _ _ upd_same, u14 _ _ ht⟩
        · rw [List.mem_singleton.mp hz, List.mem_singleton.mp hy]
          show W.length + W.length ≤ 60
          omega
        · cases e
    rcases h with ⟨k, rfl, h0, q⟩ | ⟨k, rfl, bg, q⟩ | ⟨b, q⟩
    · refine ⟨_, pss_cons (ps_set (i := 4) scRef.nd rfl (.inl rfl) pe_non) (pss_cons (ps_set (i := 5) scRef.nd rfl (.inl rfl) (pe_cx cPlain hr (by decide) pass0 (by rfl) (pa_cons (pv 1) (pa_cons (pe_tup (pa_cons pe_int pa_nil)) pa_nil)))) (pss_cons (ps_tryM (l := hCl K CB CG CN M) (tb := fun W => tIfS (tTest (tOp rEq (tVar 0) (tC (V.int 0)))) (tDrop (tCallNS 2 1 (spCS T cls CB CG CN) (fun vs zs => vs ++ zs) (WE W) (tCons (tVar 1) (tCons (tVar 2) tNil)) (tCons (tVar 3) tNil))) (tIfS (tTest (tOp rEq (tVar 0) (tC (V.int 1)))) (tDrop (tCallNS 3 1 (spTS T cls CB CG CN) (fun vs zs => vs ++ zs) (WE W) (tCons (tVar 1) (tCons (tVar 2) (tCons (tTup (tCons (tC (V.int 0)) (tCons (tC V.non) tNil))) tNil))) (tCons (tVar 3) tNil))) (tDrop (tCallNS 3 1 (spJS T cls CB CG CN) (fun vs zs => vs ++ zs) (WE W) (tCons (tVar 1) (tCons (tLst (tCons (tTup (tCons (tC (V.int 0)) (tCons (tC (V.int 1)) (tCons (tC (V.int 5)) (tCons (tC (V.int 5)) (tCons (tVar 5) tNil)))))) tNil)) (tCons (tLst (tCons (tTup (tCons (tC (V.int 0)) (tCons (tC (V.int 1)) (tCons (tC (V.int 4)) (tCons (tC (V.int 4)) (tCons (tVar 5) tNil)))))) tNil)) tNil))) (tCons (tVar 3) tNil))))) (Wo := fun _ _ _ _ => False) rfl rfl scRef.nd takes0
        (fun W pn xe tk _ => by exact (pss_one (ps_if (pt_cmpR op_eq (pv 0) pe_int (nomark _)) (pss_one (ps_expr (pe_kgS cCS hr (by decide) tk (by rfl) (pa_cons (pv 1) (pa_cons (pv 2) pa_nil)) (pk_cons (pv 3) pk_nil)))) (pss_one (ps_if (pt_cmpR op_eq (pv 0) pe_int (nomark _)) (pss_one (ps_expr (pe_kgS cTS hr (by decide) tk (by rfl) (pa_cons (pv 1) (pa_cons (pv 2) (pa_cons (pe_tup (pa_cons pe_int (pa_cons pe_non pa_nil))) pa_nil))) (pk_cons (pv 3) pk_nil)))) (pss_one (ps_expr (pe_kgS cJS hr (by decide) tk (by rfl) (pa_cons (pv 1) (pa_cons (pe_lst (pa_cons (pe_tup (pa_cons pe_int (pa_cons pe_int (pa_cons pe_int (pa_cons pe_int (pa_cons (pv 5) pa_nil)))))) pa_nil)) (pa_cons (pe_lst (pa_cons (pe_tup (pa_cons pe_int (pa_cons pe_int (pa_cons pe_int (pa_cons pe_int (pa_cons (pv 5) pa_nil)))))) pa_nil)) pa_nil))) (pk_cons (pv 3) pk_nil)))))))))
        (.cons (q := ⟨.ref CB, 6, hT1 CB⟩) rfl rfl ⟨rfl, by decide, .inl R.gCB⟩ (fun a oe cls d pn hz hf => by exact (pss_one (ps_set (i := 4) scRef.nd rfl (.inl rfl) (pe_tup (pa_cons pe_str (pa_cons (pe_xf R.xfB R.noN hz hf (pv 6)) pa_nil)))))) (.cons (q := ⟨.ref CG, 7, hT2 K CG M⟩) rfl rfl ⟨rfl, by decide, .inl R.gCG⟩ (fun a oe cls d pn hz hf => by exact (pss_one (ps_set (i := 4) scRef.nd rfl (.inl rfl) (pe_tup (pa_cons pe_str (pa_cons (pe_xf R.xfG R.noG hz hf (pv 7)) (pa_cons (pe_callB (call_isG hz hf) (by rfl) B.isinstance (by decide +kernel) (pa_cons (pv 7) (pa_cons (pe_glob (v := V.ref M) (by rfl) R.gM rfl) pa_nil))) pa_nil))))))) (.cons (q := ⟨.ref CN, 8, hT3 K M⟩) rfl rfl ⟨rfl, by decide, .inl R.gCN⟩ (fun a oe cls d pn hz hf => by exact (pss_one (ps_set (i := 4) scRef.nd rfl (.inl rfl) (pe_tup (pa_cons pe_str (pa_cons (pe_callB (call_isG hz hf) (by rfl) B.isinstance (by decide +kernel) (pa_cons (pv 8) (pa_cons (pe_glob (v := V.ref M) (by rfl) R.gM rfl) pa_nil))) pa_nil)))))) .nil)))) (pss_one (ps_ret (pv 4))))), ?_⟩
      refine ⟨.str k.nm, rfl, by decide, fun p hp => ⟨k, p, [1], rfl, .inr upd_same, by decide, fun H1 t s1 ht => go H1 t _ ((same_upd hp).trans s1) ht ?_ ?_⟩⟩
      · exact Nat.le_trans (plain_len k [1]) (by decide)
      · exact fun H2 R' s2 hR => .inl ⟨k, rfl, h0, hR (ref_fit R fun H' t' s3 h3 => q H' t' ((((same_upd hp).trans s1).trans s2).trans s3) h3) k⟩
    · refine ⟨_, pss_cons (ps_set (i := 4) scRef.nd rfl (.inl rfl) pe_non) (pss_cons (ps_set (i := 5) scRef.nd rfl (.inl rfl) (pe_cx cPlain hr (by decide) pass0 (by rfl) (pa_cons (pv 1) (pa_cons (pe_tup (pa_cons pe_int pa_nil)) pa_nil)))) (pss_cons (ps_tryM (l := hCl K CB CG CN M) (tb := fun W => tIfS (tTest (tOp rEq (tVar 0) (tC (V.int 0)))) (tDrop (tCallNS 2 1 (spCS T cls CB CG CN) (fun vs zs => vs ++ zs) (WE W) (tCons (tVar 1) (tCons (tVar 2) tNil)) (tCons (tVar 3) tNil))) (tIfS (tTest (tOp rEq (tVar 0) (tC (V.int 1)))) (tDrop (tCallNS 3 1 (spTS T cls CB CG CN) (fun vs zs => vs ++ zs) (WE W) (tCons (tVar 1) (tCons (tVar 2) (tCons (tTup (tCons (tC (V.int 0)) (tCons (tC V.non) tNil))) tNil))) (tCons (tVar 3) tNil))) (tDrop (tCallNS 3 1 (spJS T cls CB CG CN) (fun vs zs => vs ++ zs) (WE W) (tCons (tVar 1) (tCons (tLst (tCons (tTup (tCons (tC (V.int 0)) (tCons (tC (V.int 1)) (tCons (tC (V.int 5)) (tCons (tC (V.int 5)) (tCons (tVar 5) tNil)))))) tNil)) (tCons (tLst (tCons (tTup (tCons (tC (V.int 0)) (tCons (tC (V.int 1)) (tCons (tC (V.int 4)) (tCons (tC (V.int 4)) (tCons (tVar 5) tNil)))))) tNil)) tNil))) (tCons (tVar 3) tNil))))) (Wo := fun _ _ _ _ => False) rfl rfl scRef.nd takes0
        (fun W pn xe tk _ => by exact (pss_one (ps_if (pt_cmpR op_eq (pv 0) pe_int (nomark _)) (pss_one (ps_expr (pe_kgS cCS hr (by decide) tk (by rfl) (pa_cons (pv 1) (pa_cons (pv 2) pa_nil)) (pk_cons (pv 3) pk_nil)))) (pss_one (ps_if (pt_cmpR op_eq (pv 0) pe_int (nomark _)) (pss_one (ps_expr (pe_kgS cTS hr (by decide) tk (by rfl) (pa_cons (pv 1) (pa_cons (pv 2) (pa_cons (pe_tup (pa_cons pe_int (pa_cons pe_non pa_nil))) pa_nil))) (pk_cons (pv 3) pk_nil)))) (pss_one (ps_expr (pe_kgS cJS hr (by decide) tk (by rfl) (pa_cons (pv 1) (pa_cons (pe_lst (pa_cons (pe_tup (pa_cons pe_int (pa_cons pe_int (pa_cons pe_int (pa_cons pe_int (pa_cons (pv 5) pa_nil)))))) pa_nil)) (pa_cons (pe_lst (pa_cons (pe_tup (pa_cons pe_int (pa_cons pe_int (pa_cons pe_int (pa_cons pe_int (pa_cons (pv 5) pa_nil)))))) pa_nil)) pa_nil))) (pk_cons (pv 3) pk_nil)))))))))
        (.cons (q := ⟨.ref CB, 6, hT1 CB⟩) rfl rfl ⟨rfl, by decide, .inl R.gCB⟩ (fun a oe cls d pn hz hf => by exact (pss_one (ps_set (i := 4) scRef.nd rfl (.inl rfl) (pe_tup (pa_cons pe_str (pa_cons (pe_xf R.xfB R.noN hz hf (pv 6)) pa_nil)))))) (.cons (q := ⟨.ref CG, 7, hT2 K CG M⟩) rfl rfl ⟨rfl, by decide, .inl R.gCG⟩ (fun a oe cls d pn hz hf => by exact (pss_one (ps_set (i := 4) scRef.nd rfl (.inl rfl) (pe_tup (pa_cons pe_str (pa_cons (pe_xf R.xfG R.noG hz hf (pv 7)) (pa_cons (pe_callB (call_isG hz hf) (by rfl) B.isinstance (by decide +kernel) (pa_cons (pv 7) (pa_cons (pe_glob (v := V.ref M) (by rfl) R.gM rfl) pa_nil))) pa_nil))))))) (.cons (q := ⟨.ref CN, 8, hT3 K M⟩) rfl rfl ⟨rfl, by decide, .inl R.gCN⟩ (fun a oe cls d pn hz hf => by exact (pss_one (ps_set (i := 4) scRef.nd rfl (.inl rfl) (pe_tup (pa_cons pe_str (pa_cons (pe_callB (call_isG hz hf) (by rfl) B.isinstance (by decide +kernel) (pa_cons (pv 8) (pa_cons (pe_glob (v := V.ref M) (by rfl) R.gM rfl) pa_nil))) pa_nil)))))) .nil)))) (pss_one (ps_ret (pv 4))))), ?_⟩
      refine ⟨.str k.nm, rfl, by decide, fun p hp => ⟨k, p, [1], rfl, .inr upd_same, by decide, fun H1 t s1 ht => go H1 t _ ((same_upd hp).trans s1) ht ?_ ?_⟩⟩
      · exact Nat.le_trans (plain_len k [1]) (by decide)
      · exact fun H2 R' s2 hR => .inr (.inl ⟨k, rfl, bg, ref_gap R fun H' t' s3 h3 => q H' t' ((((same_upd hp).trans s1).trans s2).trans s3) h3⟩)
    · refine ⟨_, pss_cons (ps_set (i := 4) scRef.nd rfl (.inl rfl) pe_non) (pss_cons (ps_set (i := 5) scRef.nd rfl (.inl rfl) (pe_cx cPlainB hr (by decide) pass0 (by rfl) (pa_cons (pv 1) (pa_cons (pe_tup (pa_cons pe_int pa_nil)) pa_nil)))) (pss_cons (ps_tryM (l := hCl K CB CG CN M) (tb := fun W => tIfS (tTest (tOp rEq (tVar 0) (tC (V.int 0)))) (tDrop (tCallNS 2 1 (spCS T cls CB CG CN) (fun vs zs => vs ++ zs) (WE W) (tCons (tVar 1) (tCons (tVar 2) tNil)) (tCons (tVar 3) tNil))) (tIfS (tTest (tOp rEq (tVar 0) (tC (V.int 1)))) (tDrop (tCallNS 3 1 (spTS T cls CB CG CN) (fun vs zs => vs ++ zs) (WE W) (tCons (tVar 1) (tCons (tVar 2) (tCons (tTup (tCons (tC (V.int 0)) (tCons (tC V.non) tNil))) tNil))) (tCons (tVar 3) tNil))) (tDrop (tCallNS 3 1 (spJS T cls CB CG CN) (fun vs zs => vs ++ zs) (WE W) (tCons (tVar 1) (tCons (tLst (tCons (tTup (tCons (tC (V.int 0)) (tCons (tC (V.int 1)) (tCons (tC (V.int 5)) (tCons (tC (V.int 5)) (tCons (tVar 5) tNil)))))) tNil)) (tCons (tLst (tCons (tTup (tCons (tC (V.int 0)) (tCons (tC (V.int 1)) (tCons (tC (V.int 4)) (tCons (tC (V.int 4)) (tCons (tVar 5) tNil)))))) tNil)) tNil))) (tCons (tVar 3) tNil))))) (Wo := fun _ _ _ _ => False) rfl rfl scRef.nd takes0
        (fun W pn xe tk _ => by exact (pss_one (ps_if (pt_cmpR op_eq (pv 0) pe_int (nomark _)) (pss_one (ps_expr (pe_kgS cCS hr (by decide) tk (by rfl) (pa_cons (pv 1) (pa_cons (pv 2) pa_nil)) (pk_cons (pv 3) pk_nil)))) (pss_one (ps_if (pt_cmpR op_eq (pv 0) pe_int (nomark _)) (pss_one (ps_expr (pe_kgS cTS hr (by decide) tk (by rfl) (pa_cons (pv 1) (pa_cons (pv 2) (pa_cons (pe_tup (pa_cons pe_int (pa_cons pe_non pa_nil))) pa_nil))) (pk_cons (pv 3) pk_nil)))) (pss_one (ps_expr (pe_kgS cJS hr (by decide) tk (by rfl) (pa_cons (pv 1) (pa_cons (pe_lst (pa_cons (pe_tup (pa_cons pe_int (pa_cons pe_int (pa_cons pe_int (pa_cons pe_int (pa_cons (pv 5) pa_nil)))))) pa_nil)) (pa_cons (pe_lst (pa_cons (pe_tup (pa_cons pe_int (pa_cons pe_int (pa_cons pe_int (pa_cons pe_int (pa_cons (pv 5) pa_nil)))))) pa_nil)) pa_nil))) (pk_cons (pv 3) pk_nil)))))))))
        (.cons (q := ⟨.ref CB, 6, hT1 CB⟩) rfl rfl ⟨rfl, by decide, .inl R.gCB⟩ (fun a oe cls d pn hz hf => by exact (pss_one (ps_set (i := 4) scRef.nd rfl (.inl rfl) (pe_tup (pa_cons pe_str (pa_cons (pe_xf R.xfB R.noN hz hf (pv 6)) pa_nil)))))) (.cons (q := ⟨.ref CG, 7, hT2 K CG M⟩) rfl rfl ⟨rfl, by decide, .inl R.gCG⟩ (fun a oe cls d pn hz hf => by exact (pss_one (ps_set (i := 4) scRef.nd rfl (.inl rfl) (pe_tup (pa_cons pe_str (pa_cons (pe_xf R.xfG R.noG hz hf (pv 7)) (pa_cons (pe_callB (call_isG hz hf) (by rfl) B.isinstance (by decide +kernel) (pa_cons (pv 7) (pa_cons (pe_glob (v := V.ref M) (by rfl) R.gM rfl) pa_nil))) pa_nil))))))) (.cons (q := ⟨.ref CN, 8, hT3 K M⟩) rfl rfl ⟨rfl, by decide, .inl R.gCN⟩ (fun a oe cls d pn hz hf => by exact (pss_one (ps_set (i := 4) scRef.nd rfl (.inl rfl) (pe_tup (pa_cons pe_str (pa_cons (pe_callB (call_isG hz hf) (by rfl) B.isinstance (by decide +kernel) (pa_cons (pv 8) (pa_cons (pe_glob (v := V.ref M) (by rfl) R.gM rfl) pa_nil))) pa_nil)))))) .nil)))) (pss_one (ps_ret (pv 4))))), ?_⟩
      refine ⟨v, rfl, by decide, fun p hp => ⟨v, p, rfl, b.ext (ext_upd hp), upd_same, fun H1 t s1 ht => go H1 t [1] ((same_upd hp).trans s1) ht (by decide) ?_⟩⟩
      exact fun H2 R' s2 hR => .inr (.inr ⟨b.ext (LamX.ExtN.of (((same_upd hp).trans s1).trans s2)), ref_kind R fun H' t' s3 h3 => q H' t' ((((same_upd hp).trans s1).trans s2).trans s3) h3⟩)
theorem scUn : FnScope ["_law_kind_here", "_law_left", "_law_right", "_law_span_here", "_law_caught"] ["_law_kind_here", "_law_left", "_law_right", "_law_span_here"] (defScope sUn) := ⟨rfl, rfl, rfl, by decide +kernel, rfl, by decide +kernel, by decide +kernel⟩
def spUn (T : List (Addr × Str)) : Sp := fun vs H Q _ => ∃ (k : Kd) (a b : Addr) (A B : SsL) (g : Int), vs = [.str k.nm, .ref a, .ref b, .int g] ∧ 0 ≤ g ∧ Sss H a A ∧ Sss H b B ∧ A.length ≤ 60 ∧ B.length ≤ 60 ∧ (∀ p ∈ A, ∀ q ∈ B, p.2.vs.length + q.2.vs.length ≤ 60) ∧ LamX.Tabs T H ∧ joinS k g (sss A) (sss B) = none ∧ ∀ H' : Hp, Same H H' → Q (.bl true) H'
theorem ok_un {f : Addr} {fd : FuncData} (F : Fun K "_law_unjoined" "_law_unjoined" sUn f fd) (B : Bi mg) (R : RTx K mg CB CG CN M) (cJS : KgX P w K mg base 6 "joined_sessions" (spJS T cls CB CG CN) 3) : FnOk P w K mg base CX0 7 f fd ["_law_kind_here", "_law_left", "_law_right", "_law_span_here"] (spUn T) := by
  refine F.ok scUn (fun vs H Q E h => ?_) (fun cdv A outer s H vs Q E hr h => ?_)
  · obtain ⟨k, a, b, A1, B1, g, rfl, _⟩ := h
    rfl
  · obtain ⟨k, a, b, A1, B1, g, rfl, h0, ha, hb, lA, lB, lv, hT, hn, q⟩ := h
    refine ⟨_, pss_cons (ps_set (i := 4) scUn.nd rfl (.inl rfl) pe_bl) (pss_cons (ps_try_only (c := .ref CN) (tb := fun W => tDrop (tCallNS 3 1 (spJS T cls CB CG CN) (fun vs zs => vs ++ zs) (WE W) (tCons (tVar 0) (tCons (tVar 1) (tCons (tVar 2) tNil))) (tCons (tVar 3) tNil))) (ts := fun _ _ _ => tAsg (tC (V.bl true)) (gName 4)) (Wout := fun _ _ _ _ => False) rfl rfl ⟨rfl, by decide, .inl R.gCN⟩ takes0
        (fun W pn xe tk _ => by exact (pss_one (ps_expr (pe_kgS cJS hr (by decide) tk (by rfl) (pa_cons (pv 0) (pa_cons (pv 1) (pa_cons (pv 2) pa_nil))) (pk_cons (pv 3) pk_nil)))))
        (fun a oe cls d pn hz hf => by exact (pss_one (ps_set (i := 4) scUn.nd rfl (.inl rfl) pe_bl)))) (pss_one (ps_ret (pv 4)))), ?_⟩
    refine ⟨.str k.nm, rfl, .ref a, rfl, .ref b, rfl, .int g, rfl, rfl, rfl, .str k.nm, a, b, A1, B1, g, rfl, ha, hb, lA, lB, lv, hT, .inl ⟨k, rfl, h0, fun R' e => ?_, fun _ H' s' => ?_⟩⟩
    · rw [hn] at e
      cases e
    · exact ⟨true, R.nn, fun _ a _ => ⟨.bl true, rfl, q H' s'⟩, fun z => Bool.noConfusion z⟩
end
end Mv

set_option Elab.async false
set_option linter.all false
set_option maxRecDepth 100000
set_option maxHeartbeats 4000000
namespace Mv
open PySem PySem.Spec PyProof.Rows L2
abbrev sJo : Stmt := topS 50
theorem Inord.take {L : List Ltr} (h : Inord L) (p : Nat) : Inord (L.take p) := fun i e he => by
  have he' : L[i]? = some e := by
    rw [List.getElem?_take] at he
    split at he
    · exact he
    · cases he
  refine ⟨(h i e he').1, fun e' h' => (h i e he').2 e' ?_⟩
  rw [List.getElem?_take] at h'
  split at h'
  · exact h'
  · cases h'
theorem Inord.behind {L : List Ltr} (h : Inord L) (p : Nat) (s : Int) : Inord ((L.drop p).map fun e => e.sh p s) := fun i e he => by
  rw [List.getElem?_map, List.getElem?_drop] at he
  cases hx : L[p + i]? with
  | none =>
    rw [hx] at he
    cases he
  | some x =>
    rw [hx] at he
    obtain rfl : x.sh p s = e := Option.some.inj he
    have hn := (h _ _ hx).1
    refine ⟨by show x.n - p = i; omega, fun e' h' => ?_⟩
    rw [List.getElem?_map, List.getElem?_drop] at h'
    cases hy : L[p + (i + 1)]? with
    | none =>
      rw [hy] at h'
      cases h'
    | some y =>
      rw [hy] at h'
      obtain rfl : y.sh p s = e' := Option.some.inj h'
      have := (h _ _ hx).2 y hy
      show x.t + s ≤ y.t + s
      omega
theorem sh_sh (p s : Int) (N : List Ltr) : (N.map fun e => e.sh 0 s).map (fun e => e.sh p 0) = N.map fun e => e.sh p s := by
  rw [List.map_map]
  refine List.map_congr_left fun e _ => ?_
  show (⟨e.n - 0 - p, e.t + s + 0, e.v⟩ : Ltr) = ⟨e.n - p, e.t + s, e.v⟩
  rw [Int.sub_zero, Int.add_zero]
theorem jo_all (k : Kd) (g : Int) {L : List Ltr} (hi : Inord L) {p : Nat} (hp : p ≤ L.length) (s : Int) :
    ((∀ x e, 0 < p → L[p - 1]? = some x → L[p]? = some e → x.t ≤ e.t + s) → joinS k g ((chn g (L.take p)).map (sesOf k)) ((chn g ((L.drop p).map fun e => e.sh p s)).map (sesOf k)) = some ((chn g (L.take p ++ (L.drop p).map fun e => e.sh 0 s)).map (sesOf k))) ∧
    (∀ x e, 0 < p → L[p - 1]? = some x → L[p]? = some e → e.t + s < x.t → joinS k g ((chn g (L.take p)).map (sesOf k)) ((chn g ((L.drop p).map fun e => e.sh p s)).map (sesOf k)) = none) := by
  have lt : (L.take p).length = p := by
    rw [List.length_take]
    omega
  have hlast : 0 < p → (L.take p).getLast? = L[p - 1]? := fun h => by
    rw [List.getLast?_eq_getElem?, lt, List.getElem?_take, if_pos (by omega)]
  have hhead : ((L.drop p).map fun e => e.sh 0 s).head? = (L[p]?).map fun e => e.sh 0 s := by
    rw [List.head?_map, List.head?_drop]
  have j := join_eq k g (L.take p) ((L.drop p).map fun e => e.sh 0 s) p (fun h => by
    rw [h] at lt
    simp at lt
    omega) (fun x hx => by
    by_cases h0 : 0 < p
    · rw [hlast h0] at hx
      have := (hi _ _ hx).1
      omega
    · have : p = 0 := by omega
      subst this
      simp at hx)
  rw [sh_sh] at j
  rw [j]
  refine ⟨fun hle => ?_, fun x e h0 hx he hlt => ?_⟩
  · by_cases h0 : 0 < p
    · rw [hlast h0, hhead]
      cases hx : L[p - 1]? with
      | none => rfl
      | some x =>
        cases he : L[p]? with
        | none => rfl
        | some e =>
          show (if e.t + s < x.t then none else _) = _
          rw [if_neg (by have := hle x e h0 hx he; omega)]
    · have : p = 0 := by omega
      subst this
      rfl
  · rw [hlast h0, hhead, hx, he]
    show (if e.t + s < x.t then none else _) = _
    rw [if_pos hlt]
theorem whole0 (L : List Ltr) (p : Nat) : (L.take p ++ (L.drop p).map fun e => e.sh 0 0) = L := by
  rw [show (fun e : Ltr => e.sh 0 0) = id by funext e; unfold Ltr.sh; rw [Int.sub_zero, Int.add_zero]; rfl, List.map_id, List.take_append_drop]
theorem ses_small (k : Kd) (g : Int) (L : List Ltr) {S : SsL} (h : sss S = (chn g L).map (sesOf k)) : S.length ≤ L.length ∧ ∀ q ∈ S, q.2.vs.length ≤ 2 * L.length := by
  have e := congrArg List.length h
  unfold sss at e h
  rw [List.length_map, List.length_map] at e
  refine ⟨by rw [e]; exact chn_len g L, fun q hq => ?_⟩
  have hm : q.2 ∈ (chn g L).map (sesOf k) := by
    rw [← h]
    exact List.mem_map_of_mem hq
  obtain ⟨ch, hc, e2⟩ := List.mem_map.mp hm
  rw [← e2]
  have h1 := plain_len k (ch.map Ltr.v)
  have h2 := (chn_all g L ch hc).2
  rw [List.length_map] at h1
  show (plainI k (ch.map Ltr.v)).length ≤ _
  omega
theorem Sss.wr {H H' : Hp} {a l : Addr} {ys : List V} {S : SsL} (h : Sss H l S) (ha : H a = some (.lst ys)) (n : l ≠ a) (x : Sx a H H') : Sss H' l S := ⟨x _ _ n h.at_, fun q hq => (h.all q hq).wr ha x⟩
theorem ne_nw {H : Hp} {f b : Addr} {xs : List V} (n : Nw H f) (h : H b = some (.lst xs)) : b ≠ f := fun e => by
  subst e
  obtain ⟨ps, e⟩ := n _ h
  cases e
theorem Nw.back {T : List (Addr × Str)} {H H' : Hp} {f : Addr} (g : Gw T H H') (n : Nw H' f) : Nw H f := fun o e => by
  by_cases ho : ∃ ps, o = HO.tbl ps
  · exact ho
  · exact absurd (n _ (g.1 _ _ e fun ps z => ho ⟨ps, z⟩)) ho
theorem gw_putN {T : List (Addr × Str)} {H H' : Hp} {D : Addr} {ys zs : List V} (g : Gw T H H') (n : Nw H D) (h : H' D = some (.lst ys)) : Gw T H (upd H' D (.lst zs)) :=
  ⟨fun b o e ho => by
    have nb : b ≠ D := fun z => by
      subst z
      obtain ⟨ps, z⟩ := n _ e
      exact ho ps z
    rw [upd_ne nb]
    exact g.1 _ _ e ho, tabs_wr g.2 h fun b o nb e => by
      rw [upd_ne nb]
      exact e⟩
section
variable {P : Program} {w : World} {K : PySem.W.Frag} {mg : Str → Option Value} {base : Heap} {T : List (Addr × Str)} {cls : Kd → Addr} {CB CG CN M : Addr}
theorem cs_go {k : Kd} {l : Addr} {L : LtL} {g : Int} {H : Hp} {Q : VK} {E : XK} (h0 : 0 ≤ g) (hl : Lts H l L) (lL : L.length ≤ 60) (hT : LamX.Tabs T H) (hi : Inord (lts L)) (q : ∀ (H' : Hp) (p : Addr) (S : SsL), Gw T H H' → Sss H' p S → sss S = (chn g (lts L)).map (sesOf k) → Q (.ref p) H') : spCS T cls CB CG CN [.str k.nm, .ref l, .int g] H Q E :=
  ⟨.str k.nm, l, L, g, rfl, hl, lL, hT, .inl ⟨k, rfl, h0, fun _ H' p S g1 _ h e => q H' p S g1 h e, fun hn => absurd hi hn⟩⟩
theorem js_go {k : Kd} {a b : Addr} {A B : SsL} {g : Int} {H : Hp} {Q : VK} {E : XK} {R : List Ses} (h0 : 0 ≤ g) (ha : Sss H a A) (hb : Sss H b B) (lA : A.length ≤ 13 ∧ ∀ q ∈ A, q.2.vs.length ≤ 26) (lB : B.length ≤ 13 ∧ ∀ q ∈ B, q.2.vs.length ≤ 26) (hT : LamX.Tabs T H) (e : joinS k g (sss A) (sss B) = some R) (q : ∀ (H' : Hp) (p : Addr) (S : SsL), Gw T H H' → Nw H p → Sss H' p S → sss S = R → Q (.ref p) H') : spJS T cls CB CG CN [.str k.nm, .ref a, .ref b, .int g] H Q E :=
  ⟨.str k.nm, a, b, A, B, g, rfl, ha, hb, by omega, by omega, fun p hp q hq => by have := lA.2 p hp; have := lB.2 q hq; omega, hT, .inl ⟨k, rfl, h0, fun R' e' => by
    rw [e] at e'
    cases e'
    exact q, fun e' => by
    rw [e] at e'
    cases e'⟩⟩
theorem scJo : FnScope ["_law_kind_here", "_law_letters_here", "_law_place", "_law_span_here", "_law_left", "_law_right", "_law_one", "_law_other", "_law_found", "_law_shift"] ["_law_kind_here", "_law_letters_here", "_law_place", "_law_span_here"] (defScope sJo) := ⟨rfl, rfl, rfl, by decide +kernel, rfl, by decide +kernel, by decide +kernel⟩
def spJo (T : List (Addr × Str)) : Sp := fun vs H Q _ => ∃ (k : Kd) (l : Addr) (L : LtL) (p : Nat) (g : Int), vs = [.str k.nm, .ref l, .int (p : Int), .int g] ∧ 0 ≤ g ∧ Lts H l L ∧ L.length ≤ 13 ∧ Inord (lts L) ∧ p ≤ L.length ∧ LamX.Tabs T H ∧ ∀ H' : Hp, Gw T H H' → Q (.bl true) H'
theorem ok_jo {f : Addr} {fd : FuncData} (F : Fun K "_law_joins" "_law_joins" sJo f fd) (B : Bi mg) (cCS : KgX P w K mg base 6 "cut_sessions" (spCS T cls CB CG CN) 2) (cJS : KgX P w K mg base 6 "joined_sessions" (spJS T cls CB CG CN) 3) (cUn : CalX CX0 P w K mg base 7 "_law_unjoined" (spUn T)) (cBe : CalX CX0 P w K mg base 1 "_law_behind" spBe) (cWo : CalX CX0 P w K mg base 1 "_law_whole" spWo) (cCuts : CalX CX0 P w K mg base 2 "_law_cuts" spCuts) : FnOk P w K mg base CX0 8 f fd ["_law_kind_here", "_law_letters_here", "_law_place", "_law_span_here"] (spJo T) := by
  refine F.ok scJo (fun vs H Q E h => ?_) (fun cdv A outer s H vs Q E hr h => ?_)
  · obtain ⟨k, l, L, p, g, rfl, _⟩ := h
    rfl
  · obtain ⟨k, l, L, p, g, rfl, h0, hl, lL, hi, hp, hT, q⟩ := h
    refine ⟨_, (pss_cons (ps_set (i := 4) scJo.nd rfl (.inl rfl) (pe_kg cCS hr (by decide) passL (by rfl) (pa_cons (pv 0) (pa_cons (pe_slice sl_list (pv 1) po_none (po_some (pv 2))) pa_nil)) (pk_cons (pv 3) pk_nil)))
 (pss_cons (ps_set (i := 5) scJo.nd rfl (.inl rfl) (pe_kg cCS hr (by decide) passL (by rfl) (pa_cons (pv 0) (pa_cons (pe_cx cBe hr (by decide) pass0 (by rfl) (pa_cons (pv 1) (pa_cons (pv 2) (pa_cons pe_int pa_nil)))) pa_nil)) (pk_cons (pv 3) pk_nil)))
 (pss_cons (ps_set (i := 6) scJo.nd rfl (.inl rfl) (pe_callTy call_list_of (by rfl) B.list (by decide +kernel) (pa_cons (pv 4) pa_nil)))
 (pss_cons (ps_set (i := 7) scJo.nd rfl (.inl rfl) (pe_callTy call_list_of (by rfl) B.list (by decide +kernel) (pa_cons (pv 5) pa_nil)))
 (pss_cons (ps_set (i := 8) scJo.nd rfl (.inl rfl) (pe_kg cJS hr (by decide) passL (by rfl) (pa_cons (pv 0) (pa_cons (pv 6) (pa_cons (pv 7) pa_nil))) (pk_cons (pv 3) pk_nil)))
 (pss_cons (ps_if (PW.pt (pw_or (pt_cmpR (op_neD hr.units) (pv 8) (pe_cx cCuts hr (by decide) pass0 (by rfl) (pa_cons (pv 0) (pa_cons (pv 1) (pa_cons (pv 3) pa_nil)))) (nomark _)) (pw_or (pt_cmpR (op_neD hr.units) (pv 6) (pv 4) (nomark _)) (pw_or1 (pt_cmpR (op_neD hr.units) (pv 7) (pv 5) (nomark _))))))
 (pss_one (ps_ret pe_bl)) pss_nil)
 (pss_cons (ps_expr (pe_bm PySem.F.plainAttrs_list PySem.F.slot_list_append PySem.F.type_list_append mt_append (pv 8) (pa_cons pe_int pa_nil)))
 (pss_cons (ps_if (PW.pt (pw_or (pt_cmpR (op_neD hr.units) (pv 6) (pv 4) (nomark _)) (pw_or (pt_cmpR (op_neD hr.units) (pv 7) (pv 5) (nomark _)) (pw_or1 (pt_cmpR (op_neD hr.units) (pe_kg cJS hr (by decide) passL (by rfl) (pa_cons (pv 0) (pa_cons (pv 6) (pa_cons (pv 7) pa_nil))) (pk_cons (pv 3) pk_nil)) (pe_slice sl_list (pv 8) po_none (po_some (pe_un un_neg pe_int))) (nomark _))))))
 (pss_one (ps_ret pe_bl)) pss_nil)
 (pss_cons (ps_if (PW.pt (pw_or (pt_cmpR op_eq (pv 2) pe_int (nomark _)) (pw_or1 (pt_cmpR op_eq (pv 2) (pe_callB call_len_seq (by rfl) B.len PySem.boot_len (pa_cons (pv 1) pa_nil)) (nomark _)))))
 (pss_one (ps_ret pe_bl)) pss_nil)
 (pss_cons (ps_set (i := 9) scJo.nd rfl (.inl rfl) (pe_op op_sub (pe_ix ix_tup (pe_ix ix_list (pv 1) (pe_op op_sub (pv 2) pe_int) (fun _ _ => rfl)) pe_int (fun _ _ => rfl)) (pe_ix ix_tup (pe_ix ix_list (pv 1) (pv 2) (fun _ _ => rfl)) pe_int (fun _ _ => rfl))))
 (pss_cons (ps_set (i := 5) scJo.nd rfl (.inl rfl) (pe_kg cCS hr (by decide) passL (by rfl) (pa_cons (pv 0) (pa_cons (pe_cx cBe hr (by decide) pass0 (by rfl) (pa_cons (pv 1) (pa_cons (pv 2) (pa_cons (pv 9) pa_nil)))) pa_nil)) (pk_cons (pv 3) pk_nil)))
 (pss_cons (ps_if (pt_cmpR (op_neD hr.units) (pe_kg cJS hr (by decide) passL (by rfl) (pa_cons (pv 0) (pa_cons (pv 4) (pa_cons (pv 5) pa_nil))) (pk_cons (pv 3) pk_nil)) (pe_cx cCuts hr (by decide) pass0 (by rfl) (pa_cons (pv 0) (pa_cons (pe_cx cWo hr (by decide) pass0 (by rfl) (pa_cons (pv 1) (pa_cons (pv 2) (pa_cons (pv 9) pa_nil)))) (pa_cons (pv 3) pa_nil)))) (nomark _))
 (pss_one (ps_ret pe_bl)) pss_nil)
 (pss_cons (ps_set (i := 5) scJo.nd rfl (.inl rfl) (pe_kg cCS hr (by decide) passL (by rfl) (pa_cons (pv 0) (pa_cons (pe_cx cBe hr (by decide) pass0 (by rfl) (pa_cons (pv 1) (pa_cons (pv 2) (pa_cons (pe_op op_sub (pv 9) pe_int) pa_nil)))) pa_nil)) (pk_cons (pv 3) pk_nil)))
 (pss_one (ps_ret (pe_cx cUn hr (by decide) pass0 (by rfl) (pa_cons (pv 0) (pa_cons (pv 4) (pa_cons (pv 5) (pa_cons (pv 3) pa_nil)))))))))))))))))))), ?_⟩
    have tk : ∀ {S : SsL} {M : List Ltr}, M.length ≤ 13 → sss S = (chn g M).map (sesOf k) → S.length ≤ 13 ∧ ∀ q ∈ S, q.2.vs.length ≤ 26 := fun {S M} h e => by
      obtain ⟨h1, h2⟩ := ses_small k g M e
      exact ⟨by omega, fun q hq => by have := h2 q hq; omega⟩
    have llen : (lts L).length = L.length := List.length_map _
    have lt13 : ((lts L).take p).length ≤ 13 := by
      rw [List.length_take]
      omega
    have ld13 : ∀ s, (((lts L).drop p).map fun e => e.sh p s).length ≤ 13 := fun s => by
      rw [List.length_map, List.length_drop]
      omega
    have lb60 : ∀ (R : LtL) (s : Int), lts R = ((lts L).drop p).map (fun e => e.sh p s) → R.length ≤ 60 := fun R s e => by
      have := ld13 s
      rw [← e] at this
      unfold lts at this
      rw [List.length_map] at this
      omega
    have hp' : p ≤ (lts L).length := by omega
    refine ⟨.str k.nm, rfl, .ref l, rfl, .int (p : Int), rfl, (p : Int), rfl, l, _, rfl, ll hl.at_, fun r0 hr0 => ?_⟩
    rw [cutV_take, ← List.map_take]
    have s0 := same_upd (o := .lst ((L.take p).map fun q => V.ref q.1)) hr0
    have hr0 := hl.upd (L' := L.take p) hr0 fun q hq => List.mem_of_mem_take hq
    have g0 := Gw.of hT s0
    generalize upd H r0 _ = H0 at s0 hr0 g0
    refine ⟨.int g, rfl, rfl, rfl, cs_go h0 hr0 (by rw [List.length_take]; omega) g0.2 (by rw [lts_take]; exact hi.take p) fun H1 a A g1 ha eA => ?_⟩
    rw [lts_take] at eA
    have g01 := g0.trans g1
    refine ⟨.str k.nm, rfl, .ref l, rfl, .int (p : Int), rfl, l, L, p, 0, rfl, hl.ext g01.1, by omega, fun H2 r2 R2 s2 hr2 eR2 => ⟨.int g, rfl, rfl, rfl, cs_go h0 hr2 (lb60 R2 0 eR2) (g01.2.ext s2) (by rw [eR2]; exact hi.behind p 0) fun H3 b BB g3 hb eB => ?_⟩⟩
    rw [eR2] at eB
    have g13 := (Gw.of g01.2 s2).trans g3
    have g03 := g01.trans g13
    have ha3 := ha.ext g13.1
    clear hr2 eR2 s2
    simp only [tSeq, tAsg, gName, tOp, rI, rI0, rU, tUn, tVar, tC, tCB, tCons, tNil, tTest, tIfS, tRet, tRetN, tDrop, tNext, tBreak, tCont, rEq, rNe, CDiv, CDivN, CMul, tBM, tBM0, tTup, tLst, tAug, tIf, tAnd, tOr, tNot, tAndV, tOrV, tNotV, tIsN, tNotN, tB, scal, tCall, cxK, cxKn, rIxT, rIxL, rIn, rAppend, rReverse, tVals, tDSetd, tDGet, tDGet1, tDGet2, tDIn, tDNotIn, rSortV, rSortT, rPop, rSortL, rSortT, tSl, tNoPart, tPart, List.append_nil, L2.start, List.map_cons, List.map_nil, List.length_cons, List.length_nil, List.replicate_succ, List.replicate_zero, List.cons_append, List.nil_append, Nat.reduceAdd, Nat.reduceSub, exists_eq, exists_eq', List.getElem?_cons_zero, List.getElem?_cons_succ, List.set_cons_zero, List.set_cons_succ, Option.some.injEq, V.int.injEq, V.bl.injEq, V.str.injEq, V.ref.injEq, List.cons.injEq, and_true, true_and, and_false, false_and, reduceCtorEq, exists_false, or_false, false_or, exists_and_left, exists_and_right, exists_eq_left, exists_eq_left', exists_eq_right, exists_eq_right', exists_const, ite_true, ite_false, Bool.false_eq_true, if_true, if_false, decide_true, decide_false]
    refine ⟨_, .inl (ll ha3.at_), fun c hc => ?_⟩
    have u4 := same_upd (o := .lst (A.map fun q => V.ref q.1)) hc
    have g4 := Gw.of g03.2 u4
    have hc4 := ha3.upd hc fun _ h => h
    have ha4 := ha3.ext g4.1
    have hb4 := hb.ext g4.1
    generalize upd H3 c _ = H4 at u4 g4 hc4 ha4 hb4
    refine ⟨_, .inl (ll hb4.at_), fun d hd => ?_⟩
    have u5 := same_upd (o := .lst (BB.map fun q => V.ref q.1)) hd
    have g5 := Gw.of g4.2 u5
    have hd5 := hb4.upd hd fun _ h => h
    have hc5 := hc4.ext g5.1
    have ha5 := ha4.ext g5.1
    have hb5 := hb4.ext g5.1
    generalize upd H4 d _ = H5 at u5 g5 hd5 hc5 ha5 hb5
    have g05 := (g03.trans g4).trans g5
    have tA := tk lt13 eA
    have tB := tk (ld13 0) eB
    have jn := (jo_all k g hi hp' 0).1 fun x e h0 hx he => by
      have := (hi _ _ hx).2 e (by rw [show p - 1 + 1 = p by omega]; exact he)
      omega
    rw [whole0, ← eA, ← eB] at jn
    unfold tCallN
    simp only [tSeq, tAsg, gName, tOp, rI, rI0, rU, tUn, tVar, tC, tCB, tCons, tNil, tTest, tIfS, tRet, tRetN, tDrop, tNext, tBreak, tCont, rEq, rNe, CDiv, CDivN, CMul, tBM, tBM0, tTup, tLst, tAug, tIf, tAnd, tOr, tNot, tAndV, tOrV, tNotV, tIsN, tNotN, tB, scal, tCall, cxK, cxKn, rIxT, rIxL, rIn, rAppend, rReverse, tVals, tDSetd, tDGet, tDGet1, tDGet2, tDIn, tDNotIn, rSortV, rSortT, rPop, rSortL, rSortT, tSl, tNoPart, tPart, List.append_nil, L2.start, List.map_cons, List.map_nil, List.length_cons, List.length_nil, List.replicate_succ, List.replicate_zero, List.cons_append, List.nil_append, Nat.reduceAdd, Nat.reduceSub, exists_eq, exists_eq', List.getElem?_cons_zero, List.getElem?_cons_succ, List.set_cons_zero, List.set_cons_succ, Option.some.injEq, V.int.injEq, V.bl.injEq, V.str.injEq, V.ref.injEq, List.cons.injEq, and_true, true_and, and_false, false_and, reduceCtorEq, exists_false, or_false, false_or, exists_and_left, exists_and_right, exists_eq_left, exists_eq_left', exists_eq_right, exists_eq_right', exists_const, ite_true, ite_false, Bool.false_eq_true, if_true, if_false, decide_true, decide_false]
    refine js_go h0 hc5 hd5 tA tB g05.2 jn fun H6 f6 F6 g6 nf hf eF => ?_
    have g06 := g05.trans g6
    have ha6 := ha5.ext g6.1
    have hb6 := hb5.ext g6.1
    have hc6 := hc5.ext g6.1
    have hd6 := hd5.ext g6.1
    refine ⟨k, l, L, g, rfl, hl.ext g06.1, by omega, fun H7 y7 S7 s7 hS7 eS7 => ?_⟩
    have g7 := Gw.of g06.2 s7
    have g07 := g06.trans g7
    have hf7 := hf.ext g7.1
    have ha7 := ha6.ext g7.1
    have hb7 := hb6.ext g7.1
    have hc7 := hc6.ext g7.1
    have hd7 := hd6.ext g7.1
    refine ne_sss hf7 hS7 (by rw [eF, eS7]) ⟨_, rfl, if_F rfl (ne_sss hc7 ha7 rfl ⟨_, rfl, if_F rfl (ne_sss hd7 hb7 rfl ⟨_, rfl, if_F rfl ⟨.inl ⟨rfl, _, ll hf7.at_⟩, f6, rfl, _, hf7.at_, ?_, ?_⟩⟩)⟩)⟩
    · rw [List.length_map]
      have e := congrArg List.length eF
      unfold sss at e
      rw [List.length_map, List.length_map] at e
      have := chn_len g (lts L)
      exact small1000 (by omega)
    have xG : Sx f6 H7 (upd H7 f6 (.lst ((F6.map fun q => V.ref q.1) ++ [.int 0]))) := fun b o nb e => by
      rw [upd_ne nb]
      exact e
    have nf5 : Nw H5 f6 := nf
    have nfa := ne_nw nf5 ha5.at_
    have nfb := ne_nw nf5 hb5.at_
    have nfc := ne_nw nf5 hc5.at_
    have nfd := ne_nw nf5 hd5.at_
    have gG := gw_putN (zs := (F6.map fun q => V.ref q.1) ++ [.int 0]) g07 (nf5.back g05) hf7.at_
    have haG := ha7.wr hf7.at_ nfa xG
    have hbG := hb7.wr hf7.at_ nfb xG
    have hcG := hc7.wr hf7.at_ nfc xG
    have hdG := hd7.wr hf7.at_ nfd xG
    have hfG : ∀ q ∈ F6, SesAt (upd H7 f6 (.lst ((F6.map fun q => V.ref q.1) ++ [.int 0]))) q.1 q.2 := fun q hq => (hf7.all q hq).wr hf7.at_ xG
    have atG : upd H7 f6 (.lst ((F6.map fun q => V.ref q.1) ++ [.int 0])) f6 = some (.lst ((F6.map fun q => V.ref q.1) ++ [.int 0])) := upd_same
    clear xG
    generalize upd H7 f6 (.lst ((F6.map fun q => V.ref q.1) ++ [.int 0])) = G at gG haG hbG hcG hdG hfG atG
    refine ne_sss hcG haG rfl ⟨_, rfl, if_F rfl (ne_sss hdG hbG rfl ⟨_, rfl, if_F rfl (js_go h0 hcG hdG tA tB gG.2 jn fun H8 f8 F8 g8 _ hf8 eF8 => ?_)⟩)⟩
    refine ⟨f6, _, rfl, ll (g8.1 _ _ atG fun ps z => by cases z), fun r9 h9 => ?_⟩
    rw [cutV_last]
    have s9 := same_upd (o := .lst (F6.map fun q => V.ref q.1)) h9
    have g9 := Gw.of g8.2 s9
    have hr9 : Sss (upd H8 r9 (.lst (F6.map fun q => V.ref q.1))) r9 F6 := ⟨upd_same, fun q hq => ((hfG q hq).ext g8.1).ext g9.1⟩
    have g09 := (gG.trans g8).trans g9
    have ha9 := (haG.ext g8.1).ext g9.1
    refine ne_sss (hf8.ext g9.1) hr9 (by rw [eF8, eF]) ⟨_, rfl, if_F rfl ?_⟩
    generalize upd H8 r9 (.lst (F6.map fun q => V.ref q.1)) = H9 at g09 ha9
    clear hfG haG hbG hcG hdG atG hf8 hr9 g8 g9 s9 gG ha7 hb7 hc7 hd7 hf7
    have hl9 := hl.ext g09.1
    refine ite2 (fun _ => q _ g09) (fun hp0 => ⟨_, .inl (ll hl9.at_), ite2 (fun _ => q _ g09) (fun hpn => ?_)⟩)
    rw [List.length_map] at hpn
    have p0 : 0 < p := by
      rcases Nat.eq_zero_or_pos p with h | h
      · subst h
        exact absurd (decide_eq_true rfl) hp0
      · exact h
    have pn : p < L.length := by
      rcases Nat.lt_or_ge p L.length with h | h
      · exact h
      · have : p = L.length := by omega
        subst this
        exact absurd (decide_eq_true rfl) hpn
    have hx : L[p - 1]? = some (L[p - 1]'(by omega)) := List.getElem?_eq_getElem _
    generalize L[p - 1]'(by omega) = ex at hx
    obtain ⟨xp, x⟩ := ex
    have he : L[p]? = some L[p] := List.getElem?_eq_getElem pn
    generalize L[p] = ee at he
    obtain ⟨ep, e⟩ := ee
    have hxp := hl9.all _ (List.mem_of_getElem? hx)
    have hep := hl9.all _ (List.mem_of_getElem? he)
    have lx : (lts L)[p - 1]? = some x := by
      unfold lts
      rw [List.getElem?_map, hx]
      rfl
    have le : (lts L)[p]? = some e := by
      unfold lts
      rw [List.getElem?_map, he]
      rfl
    refine ⟨_, ll hl9.at_, .ref xp, by rw [show (p : Int) - 1 = ((p - 1 : Nat) : Int) by omega]; exact atI_nat (by rw [List.getElem?_map, hx]; rfl), xp, rfl, _, tt hxp, _, rfl, _, ll hl9.at_, .ref ep, atI_nat (by rw [List.getElem?_map, he]; rfl), ep, rfl, _, tt hep, _, rfl, x.t, rfl, e.t, rfl, ?_⟩
    have jn1 := (jo_all k g hi hp' (x.t - e.t)).1 fun x' e' _ hx' he' => by
      obtain rfl : x = x' := Option.some.inj (lx.symm.trans hx')
      obtain rfl : e = e' := Option.some.inj (le.symm.trans he')
      omega
    have jn2 := (jo_all k g hi hp' (x.t - e.t - 1)).2 x e p0 lx le (by omega)
    refine ⟨l, L, p, x.t - e.t, rfl, hl9, by omega, fun H10 r10 R10 s10 hr10 eR10 => cs_go h0 hr10 (lb60 _ _ eR10) (g09.2.ext s10) (by rw [eR10]; exact hi.behind p _) fun H11 b11 B11 g11 hb11 eB11 => ?_⟩
    rw [eR10] at eB11
    have g911 := (Gw.of g09.2 s10).trans g11
    have ha11 := ha9.ext g911.1
    refine js_go h0 ha11 hb11 tA (tk (ld13 _) eB11) g11.2 (by rw [eA, eB11]; exact jn1) fun H12 f12 F12 g12 _ hf12 eF12 => ?_
    have g912 := g911.trans g12
    refine ⟨l, L, p, x.t - e.t, rfl, hl9.ext g912.1, by omega, fun H13 r13 R13 s13 hr13 eR13 => ?_⟩
    refine ⟨k, r13, R13, g, rfl, hr13, ?_, fun H14 y14 S14 s14 hS14 eS14 => ?_⟩
    · have := congrArg List.length eR13
      rw [List.length_append, List.length_map, List.length_take, List.length_drop] at this
      unfold lts at this
      rw [List.length_map, List.length_map] at this
      omega
    have g1214 := Gw.of g12.2 (s13.trans s14)
    have g914 := g912.trans g1214
    refine ne_sss (hf12.ext g1214.1) hS14 (by rw [eF12, eS14, eR13]) ⟨_, rfl, if_F rfl ?_⟩
    have g014 := g09.trans g914
    refine ⟨l, L, p, x.t - e.t - 1, rfl, hl.ext g014.1, by omega, fun H15 r15 R15 s15 hr15 eR15 => cs_go h0 hr15 (lb60 _ _ eR15) (g014.2.ext s15) (by rw [eR15]; exact hi.behind p _) fun H16 b16 B16 g16 hb16 eB16 => ?_⟩
    rw [eR15] at eB16
    have g1416 := (Gw.of g014.2 s15).trans g16
    have tB16 := tk (ld13 _) eB16
    refine ⟨k, a, b16, A, B16, g, rfl, h0, (ha9.ext g914.1).ext g1416.1, hb16, by omega, by omega, fun u hu v hv => by have := tA.2 u hu; have := tB16.2 v hv; omega, g16.2, by rw [eA, eB16]; exact jn2, fun H17 s17 => q H17 ((g014.trans g1416).trans (Gw.of g16.2 s17))⟩
end
end Mv

set_option Elab.async false
set_option linter.all false
set_option maxRecDepth 100000
set_option maxHeartbeats 4000000
namespace Mv
open PySem PySem.Spec PyProof.Rows L2
abbrev sDo : Stmt := topS 51
abbrev sLaw : Stmt := topS 52
theorem bad_lay {K : PySem.W.Frag} {H : Hp} {v : V} (b : BadV H v) : ∃ d : PyData, L2.Dp K H v d ∧ d.canLay0 = true ∧ d.depth ≤ 1 := by
  cases b with
  | str z h hl hc =>
    refine ⟨.str z, .str z, ?_, by simp [PyData.depth]⟩
    have e : PyData.strOk z = true := by
      unfold PyData.strOk
      rw [Array.all_eq_true']
      intro c h
      exact decide_eq_true (hc c (Array.mem_toList_iff.mpr h))
    simp [PyData.canLay0, e]
  | non => exact ⟨.none, .non, rfl, by simp [PyData.depth]⟩
  | int i h => exact ⟨.int i, .int i, rfl, by simp [PyData.depth]⟩
  | tup T h => exact ⟨.tuple [.str "list"], .tup (.inl (.inl h)) (.cons (.str _) .nil), by decide +kernel, by decide +kernel⟩
theorem BadV.wr {H H' : Hp} {a : Addr} {ys : List V} {v : V} (b : BadV H v) (ha : H a = some (.lst ys)) (x : Sx a H H') : BadV H' v := by
  cases b with
  | str z h hl hc => exact .str z h hl hc
  | non => exact .non
  | int i h => exact .int i h
  | tup T h => exact .tup T (tup_wr ha x h)
theorem MkAt.wr {H H' : Hp} {a : Addr} {ys : List V} {v : V} {m : Mk} (h : MkAt H v m) (ha : H a = some (.lst ys)) (x : Sx a H H') : MkAt H' v m := by
  match m, h with
  | none, h => exact h
  | some (c, f), ⟨p, hv, hp⟩ => exact ⟨p, hv, tup_wr ha x hp⟩
theorem toldS_eq (m : Mk) (g : Int) (S : List Ses) : toldS m g S = if lastT m g S = true then S else S.dropLast := by
  unfold toldS lastT
  cases h : S.getLast? with
  | none =>
    rw [List.getLast?_eq_none_iff.mp h]
    rfl
  | some s => rfl
section
variable {P : Program} {w : World} {K : PySem.W.Frag} {mg : Str → Option Value} {base : Heap} {T : List (Addr × Str)} {cls : Kd → Addr} {CB CG CN M : Addr}
theorem scDo : FnScope ["_law_kind_here", "_law_wrong_here", "_law_span_here", "_law_below", "_law_name", "_law_door"] ["_law_kind_here", "_law_wrong_here", "_law_span_here", "_law_below", "_law_name"] (defScope sDo) := ⟨rfl, rfl, rfl, by decide +kernel, rfl, by decide +kernel, by decide +kernel⟩
def spDo (T : List (Addr × Str)) : Sp := fun vs H Q _ => ∃ (k : Kd) (r : Addr) (W : LtL) (g b : Int) (v : V), vs = [.str k.nm, .ref r, .int g, .int b, v] ∧ 0 ≤ g ∧ BadG b ∧ BadV H v ∧ Lts H r W ∧ W.length ≤ 60 ∧ ¬ Inord (lts W) ∧ LamX.Tabs T H ∧ ∀ H' : Hp, Same H H' → Q (.bl true) H'
theorem ok_do {f : Addr} {fd : FuncData} (F : Fun K "_law_doors" "_law_doors" sDo f fd) (B : Bi mg) (cRef : CalX CX0 P w K mg base 8 "_law_refused" (spRef T)) : FnOk P w K mg base CX0 9 f fd ["_law_kind_here", "_law_wrong_here", "_law_span_here", "_law_below", "_law_name"] (spDo T) := by
  refine F.ok scDo (fun vs H Q E h => ?_) (fun cdv A outer s H vs Q E hr h => ?_)
  · obtain ⟨k, r, W, g, b, v, rfl, _⟩ := h
    rfl
  · obtain ⟨k, r, W, g, b, v, rfl, h0, hb, hv, hl, lW, hn, hT, q⟩ := h
    refine ⟨_, (pss_cons (ps_for PassesOwn.never rfl (pi_range1 (by rfl) B.range (pa_cons pe_int pa_nil)) (pg_name (i := 5) scDo.nd rfl (.inl rfl))
 (pss_cons (ps_if (pt_cmpR (op_neD hr.units) (pe_cx cRef hr (by decide) pass0 (by rfl) (pa_cons (pv 5) (pa_cons (pv 0) (pa_cons (pv 1) (pa_cons (pv 2) pa_nil))))) (pe_tup (pa_cons pe_str (pa_cons pe_bl pa_nil))) (nomark _))
 (pss_one (ps_ret pe_bl)) pss_nil)
 (pss_cons (ps_if (pt_cmpR (op_neD hr.units) (pe_cx cRef hr (by decide) pass0 (by rfl) (pa_cons (pv 5) (pa_cons (pv 0) (pa_cons (pv 1) (pa_cons (pv 3) pa_nil))))) (pe_tup (pa_cons pe_str (pa_cons (pv 3) (pa_cons pe_bl pa_nil)))) (nomark _))
 (pss_one (ps_ret pe_bl)) pss_nil)
 (pss_one (ps_if (pt_cmpR (op_neD hr.units) (pe_cx cRef hr (by decide) pass0 (by rfl) (pa_cons (pv 5) (pa_cons (pv 4) (pa_cons (pv 1) (pa_cons (pv 3) pa_nil))))) (pe_tup (pa_cons pe_str (pa_cons (pv 4) pa_nil))) (nomark _))
 (pss_one (ps_ret pe_bl)) pss_nil)))))
 (pss_one (ps_ret pe_bl))), ?_⟩
    simp only [tSeq, tAsg, gName, tOp, rI, rI0, rU, tUn, tVar, tC, tCB, tCons, tNil, tTest, tIfS, tRet, tRetN, tDrop, tNext, tBreak, tCont, rEq, rNe, CDiv, CDivN, CMul, tBM, tBM0, tTup, tLst, tAug, tIf, tAnd, tOr, tNot, tAndV, tOrV, tNotV, tIsN, tNotN, tB, scal, tCall, cxK, cxKn, rIxT, rIxL, rIn, rAppend, rReverse, tVals, tDSetd, tDGet, tDGet1, tDGet2, tDIn, tDNotIn, rSortV, rSortT, rPop, rSortL, rSortT, tSl, tNoPart, tPart, List.append_nil, L2.start, List.map_cons, List.map_nil, List.length_cons, List.length_nil, List.replicate_succ, List.replicate_zero, List.cons_append, List.nil_append, Nat.reduceAdd, Nat.reduceSub, exists_eq, exists_eq', List.getElem?_cons_zero, List.getElem?_cons_succ, List.set_cons_zero, List.set_cons_succ, Option.some.injEq, V.int.injEq, V.bl.injEq, V.str.injEq, V.ref.injEq, List.cons.injEq, and_true, true_and, and_false, false_and, reduceCtorEq, exists_false, or_false, false_or, exists_and_left, exists_and_right, exists_eq_left, exists_eq_left', exists_eq_right, exists_eq_right', exists_const, ite_true, ite_false, Bool.false_eq_true, if_true, if_false, decide_true, decide_false]
    refine ⟨3, rfl, by decide, by decide, ?_⟩
    refine for_range (n := 3) (fun j σ H1 => ∃ y, σ = [some (.str k.nm), some (.ref r), some (.int g), some (.int b), some v, y] ∧ Same H H1) ⟨none, rfl, fun _ _ h => h⟩ ?_ ?_
    · rintro j σ H1 hj ⟨y, rfl, s1⟩
      simp only [tSeq, tAsg, gName, tOp, rI, rI0, rU, tUn, tVar, tC, tCB, tCons, tNil, tTest, tIfS, tRet, tRetN, tDrop, tNext, tBreak, tCont, rEq, rNe, CDiv, CDivN, CMul, tBM, tBM0, tTup, tLst, tAug, tIf, tAnd, tOr, tNot, tAndV, tOrV, tNotV, tIsN, tNotN, tB, scal, tCall, cxK, cxKn, rIxT, rIxL, rIn, rAppend, rReverse, tVals, tDSetd, tDGet, tDGet1, tDGet2, tDIn, tDNotIn, rSortV, rSortT, rPop, rSortL, rSortT, tSl, tNoPart, tPart, List.append_nil, L2.start, List.map_cons, List.map_nil, List.length_cons, List.length_nil, List.replicate_succ, List.replicate_zero, List.cons_append, List.nil_append, Nat.reduceAdd, Nat.reduceSub, exists_eq, exists_eq', List.getElem?_cons_zero, List.getElem?_cons_succ, List.set_cons_zero, List.set_cons_succ, Option.some.injEq, V.int.injEq, V.bl.injEq, V.str.injEq, V.ref.injEq, List.cons.injEq, and_true, true_and, and_false, false_and, reduceCtorEq, exists_false, or_false, false_or, exists_and_left, exists_and_right, exists_eq_left, exists_eq_left', exists_eq_right, exists_eq_right', exists_const, ite_true, ite_false, Bool.false_eq_true, if_true, if_false, decide_true, decide_false]
      refine ⟨_, .str k.nm, r, W, g, rfl, hl.same s1, lW, hn, hT.ext s1, .inl ⟨k, rfl, h0, fun H2 t s2 ht => ⟨by decide, fun p hp => ?_⟩⟩⟩
      have s3 := same_upd (o := .tup [.str "fit", .bl true]) hp
      refine ne_tupD (tt (s3 _ _ ht)) (.cons (.str _) (.cons (.bl _) .nil)) (tt upd_same) (.cons (.str _) (.cons (.bl _) .nil)) rfl (by decide +kernel) (by decide +kernel) ⟨_, rfl, if_F rfl ?_⟩
      have s13 := (s1.trans s2).trans s3
      refine ⟨_, .str k.nm, r, W, b, rfl, hl.same s13, lW, hn, hT.ext s13, .inr (.inl ⟨k, rfl, hb, fun H4 t4 s4 ht4 => ⟨by decide, fun p5 hp5 => ?_⟩⟩)⟩
      have s5 := same_upd (o := .tup [.str "gap", .int b, .bl true]) hp5
      refine ne_tupD (tt (s5 _ _ ht4)) (.cons (.str _) (.cons (.int _) (.cons (.bl _) .nil))) (tt upd_same) (.cons (.str _) (.cons (.int _) (.cons (.bl _) .nil))) rfl (by simp [PyData.canLayAll0, PyData.canLay0]; decide +kernel) (by simp [PyData.depthAll, PyData.depth]) ⟨_, rfl, if_F rfl ?_⟩
      have s15 := (s13.trans s4).trans s5
      have hv5 := hv.ext (LamX.ExtN.of s15)
      refine ⟨_, v, r, W, b, rfl, hl.same s15, lW, hn, hT.ext s15, .inr (.inr ⟨hv5, fun H6 t6 s6 ht6 => ⟨by decide, fun p7 hp7 => ?_⟩⟩)⟩
      have s7 := same_upd (o := .tup [.str "kind", v]) hp7
      have s17 := (s15.trans s6).trans s7
      obtain ⟨d, d1, d2, d3⟩ := bad_lay (K := K) (hv.ext (LamX.ExtN.of s17))
      exact ne_tupD (tt (s7 _ _ ht6)) (.cons (.str _) (.cons d1 .nil)) (tt upd_same) (.cons (.str _) (.cons d1 .nil)) rfl (by simp [PyData.canLayAll0, d2, PyData.canLay0]; decide +kernel) (by simp only [PyData.depthAll, PyData.depth]; omega) ⟨_, rfl, if_F rfl s17⟩
    · rintro σ H1 ⟨y, rfl, s1⟩
      simp only [tSeq, tAsg, gName, tOp, rI, rI0, rU, tUn, tVar, tC, tCB, tCons, tNil, tTest, tIfS, tRet, tRetN, tDrop, tNext, tBreak, tCont, rEq, rNe, CDiv, CDivN, CMul, tBM, tBM0, tTup, tLst, tAug, tIf, tAnd, tOr, tNot, tAndV, tOrV, tNotV, tIsN, tNotN, tB, scal, tCall, cxK, cxKn, rIxT, rIxL, rIn, rAppend, rReverse, tVals, tDSetd, tDGet, tDGet1, tDGet2, tDIn, tDNotIn, rSortV, rSortT, rPop, rSortL, rSortT, tSl, tNoPart, tPart, List.append_nil, L2.start, List.map_cons, List.map_nil, List.length_cons, List.length_nil, List.replicate_succ, List.replicate_zero, List.cons_append, List.nil_append, Nat.reduceAdd, Nat.reduceSub, exists_eq, exists_eq', List.getElem?_cons_zero, List.getElem?_cons_succ, List.set_cons_zero, List.set_cons_succ, Option.some.injEq, V.int.injEq, V.bl.injEq, V.str.injEq, V.ref.injEq, List.cons.injEq, and_true, true_and, and_false, false_and, reduceCtorEq, exists_false, or_false, false_or, exists_and_left, exists_and_right, exists_eq_left, exists_eq_left', exists_eq_right, exists_eq_right', exists_const, ite_true, ite_false, Bool.false_eq_true, if_true, if_false, decide_true, decide_false]
      exact q H1 s1
theorem scLaw : FnScope ["_law_script", "_law_stream_here", "_law_kind_here", "_law_span_here", "_law_style", "_law_letters_here", "_law_mark", "_law_below", "_law_name", "_law_wrong_here", "_law_due", "_law_handed", "_law_told", "_law_place"] ["_law_script"] (defScope sLaw) := ⟨rfl, rfl, rfl, by decide +kernel, rfl, by decide +kernel, by decide +kernel⟩
def spLaw (K : PySem.W.Frag) (T : List (Addr × Str)) : Sp := fun vs H Q _ => ∃ (a : Addr) (ns : List Int), vs = [.ref a] ∧ SqL K H a (ns.map V.int) ∧ ns.length ≤ 63 ∧ LamX.Tabs T H ∧ ∀ H' : Hp, Q (.bl true) H'
theorem ok_law {f : Addr} {fd : FuncData} (F : Fun K "law" "law" sLaw f fd) (B : Bi mg) (cStream : CalX CX0 P w K mg base 1 "_law_stream" (spStream K)) (cDraw : CalX CX0 P w K mg base 1 "_law_draw" spDraw) (cKind : CalX CX0 P w K mg base 2 "_law_kind" spKind) (cSpan : CalX CX0 P w K mg base 2 "_law_span" spSpan) (cLet : CalX CX0 P w K mg base 4 "_law_letters" spLet)
    (cMk : CalX CX0 P w K mg base 2 "_law_drawn_mark" spMk) (cBad : CalX CX0 P w K mg base 2 "_law_bad_name" spBad) (cWr : CalX CX0 P w K mg base 2 "_law_wrong" spWr) (cCuts : CalX CX0 P w K mg base 2 "_law_cuts" spCuts) (cLT : CalX CX0 P w K mg base 1 "_law_last_told" spLT)
    (cCS : KgX P w K mg base 6 "cut_sessions" (spCS T cls CB CG CN) 2) (cTS : KgX P w K mg base 7 "told_sessions" (spTS T cls CB CG CN) 3) (cJo : CalX CX0 P w K mg base 8 "_law_joins" (spJo T)) (cDo : CalX CX0 P w K mg base 9 "_law_doors" (spDo T)) :
    FnOk P w K mg base CX0 10 f fd ["_law_script"] (spLaw K T) := by
  refine F.ok scLaw (fun vs H Q E h => ?_) (fun cdv A outer s H vs Q E hr h => ?_)
  · obtain ⟨a, ns, rfl, _⟩ := h
    rfl
  · obtain ⟨b, ns, rfl, hS, hlen, hT, q⟩ := h
    refine ⟨_, (pss_cons (ps_set (i := 1) scLaw.nd rfl (.inl rfl) (pe_cx cStream hr (by decide) pass0 (by rfl) (pa_cons (pv 0) pa_nil)))
 (pss_cons (ps_set (i := 2) scLaw.nd rfl (.inl rfl) (pe_cx cKind hr (by decide) pass0 (by rfl) (pa_cons (pv 1) pa_nil)))
 (pss_cons (ps_set (i := 3) scLaw.nd rfl (.inl rfl) (pe_cx cSpan hr (by decide) pass0 (by rfl) (pa_cons (pv 1) pa_nil)))
 (pss_cons (ps_set (i := 4) scLaw.nd rfl (.inl rfl) (pe_cx cDraw hr (by decide) pass0 (by rfl) (pa_cons (pv 1) (pa_cons pe_int pa_nil))))
 (pss_cons (ps_set (i := 5) scLaw.nd rfl (.inl rfl) (pe_cx cLet hr (by decide) pass0 (by rfl) (pa_cons (pv 1) (pa_cons (pe_cx cDraw hr (by decide) pass0 (by rfl) (pa_cons (pv 1) (pa_cons pe_int pa_nil))) (pa_cons (pv 3) (pa_cons (pv 4) pa_nil))))))
 (pss_cons (ps_set (i := 6) scLaw.nd rfl (.inl rfl) (pe_cx cMk hr (by decide) pass0 (by rfl) (pa_cons (pv 1) (pa_cons (pv 5) (pa_cons (pv 3) pa_nil)))))
 (pss_cons (ps_set (i := 7) scLaw.nd rfl (.inl rfl) (pe_op op_sub (pe_un un_neg pe_int) (pe_cx cDraw hr (by decide) pass0 (by rfl) (pa_cons (pv 1) (pa_cons pe_int pa_nil)))))
 (pss_cons (ps_set (i := 8) scLaw.nd rfl (.inl rfl) (pe_cx cBad hr (by decide) pass0 (by rfl) (pa_cons (pv 1) pa_nil)))
 (pss_cons (ps_set (i := 9) scLaw.nd rfl (.inl rfl) (pe_cx cWr hr (by decide) pass0 (by rfl) (pa_cons (pv 1) (pa_cons (pv 5) pa_nil))))
 (pss_cons (ps_set (i := 10) scLaw.nd rfl (.inl rfl) (pe_cx cCuts hr (by decide) pass0 (by rfl) (pa_cons (pv 2) (pa_cons (pv 5) (pa_cons (pv 3) pa_nil)))))
 (pss_cons (ps_set (i := 11) scLaw.nd rfl (.inl rfl) (pe_callTy call_list_of (by rfl) B.list (by decide +kernel) (pa_cons (pv 5) pa_nil)))
 (pss_cons (ps_if (PW.pt (pw_or (pt_cmpR (op_neD hr.units) (pe_kg cCS hr (by decide) passL (by rfl) (pa_cons (pv 2) (pa_cons (pv 11) pa_nil)) (pk_cons (pv 3) pk_nil)) (pv 10) (nomark _)) (pw_or1 (pt_cmpR (op_neD hr.units) (pv 11) (pv 5) (nomark _)))))
 (pss_one (ps_ret pe_bl)) pss_nil)
 (pss_cons (ps_set (i := 12) scLaw.nd rfl (.inl rfl) (pv 10))
 (pss_cons (ps_if (pt_not (pt_val (pe_cx cLT hr (by decide) pass0 (by rfl) (pa_cons (pv 10) (pa_cons (pv 6) (pa_cons (pv 3) pa_nil))))))
 (pss_one (ps_set (i := 12) scLaw.nd rfl (.inl rfl) (pe_slice sl_list (pv 10) po_none (po_some (pe_un un_neg pe_int))))) pss_nil)
 (pss_cons (ps_if (PW.pt (pw_or (pt_cmpR (op_neD hr.units) (pe_kg cTS hr (by decide) passL (by rfl) (pa_cons (pv 2) (pa_cons (pv 11) (pa_cons (pv 6) pa_nil))) (pk_cons (pv 3) pk_nil)) (pv 12) (nomark _)) (pw_or1 (pt_cmpR (op_neD hr.units) (pv 11) (pv 5) (nomark _)))))
 (pss_one (ps_ret pe_bl)) pss_nil)
 (pss_cons (ps_for PassesOwn.never rfl (pi_range1 (by rfl) B.range (pa_cons (pe_op op_add (pe_callB call_len_seq (by rfl) B.len PySem.boot_len (pa_cons (pv 5) pa_nil)) pe_int) pa_nil)) (pg_name (i := 13) scLaw.nd rfl (.inl rfl))
 (pss_one (ps_if (pt_not (pt_val (pe_cx cJo hr (by decide) pass0 (by rfl) (pa_cons (pv 2) (pa_cons (pv 5) (pa_cons (pv 13) (pa_cons (pv 3) pa_nil)))))))
 (pss_one (ps_ret pe_bl)) pss_nil)))
 (pss_one (ps_ret (pe_cx cDo hr (by decide) pass0 (by rfl) (pa_cons (pv 2) (pa_cons (pv 9) (pa_cons (pv 3) (pa_cons (pv 7) (pa_cons (pv 8) pa_nil)))))))))))))))))))))))), ?_⟩
    simp only [tSeq, tAsg, gName, tOp, rI, rI0, rU, tUn, tVar, tC, tCB, tCons, tNil, tTest, tIfS, tRet, tRetN, tDrop, tNext, tBreak, tCont, rEq, rNe, CDiv, CDivN, CMul, tBM, tBM0, tTup, tLst, tAug, tIf, tAnd, tOr, tNot, tAndV, tOrV, tNotV, tIsN, tNotN, tB, scal, tCall, cxK, cxKn, rIxT, rIxL, rIn, rAppend, rReverse, tVals, tDSetd, tDGet, tDGet1, tDGet2, tDIn, tDNotIn, rSortV, rSortT, rPop, rSortL, rSortT, tSl, tNoPart, tPart, List.append_nil, L2.start, List.map_cons, List.map_nil, List.length_cons, List.length_nil, List.replicate_succ, List.replicate_zero, List.cons_append, List.nil_append, Nat.reduceAdd, Nat.reduceSub, exists_eq, exists_eq', List.getElem?_cons_zero, List.getElem?_cons_succ, List.set_cons_zero, List.set_cons_succ, Option.some.injEq, V.int.injEq, V.bl.injEq, V.str.injEq, V.ref.injEq, List.cons.injEq, and_true, true_and, and_false, false_and, reduceCtorEq, exists_false, or_false, false_or, exists_and_left, exists_and_right, exists_eq_left, exists_eq_left', exists_eq_right, exists_eq_right', exists_const, ite_true, ite_false, Bool.false_eq_true, if_true, if_false, decide_true, decide_false]
    refine ⟨b, ns, rfl, hS, hlen, fun H1 a s1 np t1 => ?_⟩
    have T1 := hT.ext s1
    refine ⟨a, rfl, t1, fun k H2 x2 t2 => ⟨a, rfl, t2, fun g H3 h0 x3 t3 => ?_⟩⟩
    have T2 := tabs_wr T1 t1.choose_spec.1 x2
    have T3 := tabs_wr T2 t2.choose_spec.1 x3
    refine spDraw_of (by decide) t3 fun st H4 _ _ x4 t4 => spDraw_of (by decide) t4 fun n H5 n0 n13 x5 t5 => ?_
    have T4 := tabs_wr T3 t3.choose_spec.1 x4
    have T5 := tabs_wr T4 t4.choose_spec.1 x5
    obtain ⟨n, rfl⟩ := Int.eq_ofNat_of_zero_le n0
    refine ⟨a, n, g, st, rfl, by omega, h0, t5, fun H6 l L x6 t6 nla _ hl lL hi => ?_⟩
    have T6 := tabs_wr T5 t5.choose_spec.1 x6
    have lL13 : L.length ≤ 12 := by omega
    refine ⟨a, l, L, g, rfl, t6, hl, nla, by omega, fun mv m H7 hm x7 t7 => ?_⟩
    have T7 := tabs_wr T6 t6.choose_spec.1 x7
    have hl7 := hl.wr t6.choose_spec.1 nla x7
    refine spDraw_of (by decide) t7 fun d H8 d0 d3 x8 t8 => ⟨d, rfl, ?_⟩
    have T8 := tabs_wr T7 t7.choose_spec.1 x8
    have hl8 := hl7.wr t7.choose_spec.1 nla x8
    have hm8 := hm.wr t7.choose_spec.1 x8
    refine ⟨a, rfl, t8, fun nv H9 hb x9 t9 => ?_⟩
    have T9 := tabs_wr T8 t8.choose_spec.1 x9
    have hl9 := hl8.wr t8.choose_spec.1 nla x9
    have hm9 := hm8.wr t8.choose_spec.1 x9
    refine ⟨a, l, L, rfl, t9, hl9, nla, by omega, hi, fun r W HA xA tA hr lW hn => ?_⟩
    have TA := tabs_wr T9 t9.choose_spec.1 xA
    have hlA := hl9.wr t9.choose_spec.1 nla xA
    have hmA := hm9.wr t9.choose_spec.1 xA
    have hbA := hb.wr t9.choose_spec.1 xA
    have hbg : BadG (-1 - d) := by
      unfold BadG
      omega
    clear x2 x3 x4 x5 x6 x7 x8 x9 t1 t2 t3 t4 t5 t6 t7 t8 t9 T1 T2 T3 T4 T5 T6 T7 T8 T9 hl hl7 hl8 hl9 hm hm8 hm9 hb tA xA
    refine ⟨k, l, L, g, rfl, hlA, by omega, fun HB e D sB hD eD => ?_⟩
    have hlB := hlA.same sB
    refine ⟨l, rfl, _, .inl (ll hlB.at_), fun c hc => ?_⟩
    have sC := same_upd (o := .lst (L.map fun q => V.ref q.1)) hc
    have hcC := hlB.upd hc fun _ h => h
    have sAC := sB.trans sC
    have gC := Gw.of TA sAC
    have hDC := hD.ext (LamX.ExtN.of sC)
    generalize upd HB c (.lst (L.map fun q => V.ref q.1)) = HC at sC hcC sAC gC hDC
    unfold tCallN
    simp only [tSeq, tAsg, gName, tOp, rI, rI0, rU, tUn, tVar, tC, tCB, tCons, tNil, tTest, tIfS, tRet, tRetN, tDrop, tNext, tBreak, tCont, rEq, rNe, CDiv, CDivN, CMul, tBM, tBM0, tTup, tLst, tAug, tIf, tAnd, tOr, tNot, tAndV, tOrV, tNotV, tIsN, tNotN, tB, scal, tCall, cxK, cxKn, rIxT, rIxL, rIn, rAppend, rReverse, tVals, tDSetd, tDGet, tDGet1, tDGet2, tDIn, tDNotIn, rSortV, rSortT, rPop, rSortL, rSortT, tSl, tNoPart, tPart, List.append_nil, L2.start, List.map_cons, List.map_nil, List.length_cons, List.length_nil, List.replicate_succ, List.replicate_zero, List.cons_append, List.nil_append, Nat.reduceAdd, Nat.reduceSub, exists_eq, exists_eq', List.getElem?_cons_zero, List.getElem?_cons_succ, List.set_cons_zero, List.set_cons_succ, Option.some.injEq, V.int.injEq, V.bl.injEq, V.str.injEq, V.ref.injEq, List.cons.injEq, and_true, true_and, and_false, false_and, reduceCtorEq, exists_false, or_false, false_or, exists_and_left, exists_and_right, exists_eq_left, exists_eq_left', exists_eq_right, exists_eq_right', exists_const, ite_true, ite_false, Bool.false_eq_true, if_true, if_false, decide_true, decide_false]
    refine cs_go h0 hcC (by omega) gC.2 hi fun HD f S gD hS eS => ?_
    have hDD := hDC.ext gD.1
    have hcD := hcC.ext gD.1
    have gAD := gC.trans gD
    have hlD := hlA.ext gAD.1
    refine ne_sss hS hDD (by rw [eS, eD]) ⟨_, rfl, if_F rfl (ne_lts hcD hlD rfl ⟨_, rfl, if_F rfl ?_⟩)⟩
    have lD : D.length ≤ 12 := by
      have := (ses_small k g (lts L) eD).1
      unfold lts at this
      rw [List.length_map] at this
      omega
    refine ⟨e, D, mv, m, g, rfl, hDD, by omega, hmA.ext gAD.1, fun HE sE => ⟨_, rfl, ?_⟩⟩
    have gE := gAD.trans (Gw.of gAD.2 sE)
    have hDE := hDD.ext (LamX.ExtN.of sE)
    have hcE := hcD.same sE
    have tail : ∀ (x : Option V) (HF : Hp), Gw T HA HF → tFor (iRng1 (tCons (tOp (rI0 fun i j => V.int (i + j)) (tCB (fun xs H Q => ∃ p, xs = [V.ref p] ∧ ∃ x, (SqL K H p x ∨ SqT K H p x) ∧ Q (V.int ↑x.length) H) (tCons (tVar 5) tNil)) (tC (V.int 1))) tNil)) (gName 13)
        (tIfS (tNot (tB (tCall (spJo T) [] E0 (tCons (tVar 2) (tCons (tVar 5) (tCons (tVar 13) (tCons (tVar 3) tNil))))))) (tRet (tC (V.bl false))) tNext)
        { nx := tRet (tCall (spDo T) [] E0 (tCons (tVar 2) (tCons (tVar 9) (tCons (tVar 3) (tCons (tVar 7) (tCons (tVar 8) tNil)))))) { nx := fun x H' => Q V.non H', rt := Q }, rt := Q }
        [some (V.ref b), some (V.ref a), some (V.str k.nm), some (V.int g), some (V.int st), some (V.ref l), some mv, some (V.int (-1 - d)), some nv, some (V.ref r), some (V.ref e), some (V.ref c), x, none] HF := by
      intro x HF gF
      refine ⟨.ref l, rfl, l, rfl, _, .inl (ll (hlA.ext gF.1).at_), _, 1, rfl, rfl, _, rfl, by rw [List.length_map]; show -2 ^ 62 ≤ (L.length : Int) + 1; omega, by rw [List.length_map]; show (L.length : Int) + 1 < 2 ^ 62; omega, ?_⟩
      rw [List.length_map]
      show ∃ W, _
      rw [show ((L.length : Int) + 1).toNat = L.length + 1 by omega]
      refine for_range (n := L.length + 1) (fun i σ H1 => ∃ y, σ = [some (V.ref b), some (V.ref a), some (V.str k.nm), some (V.int g), some (V.int st), some (V.ref l), some mv, some (V.int (-1 - d)), some nv, some (V.ref r), some (V.ref e), some (V.ref c), x, y] ∧ Gw T HA H1) ⟨none, rfl, gF⟩ ?_ ?_
      · rintro i σ H1 hi' ⟨y, rfl, g1⟩
        simp only [tSeq, tAsg, gName, tOp, rI, rI0, rU, tUn, tVar, tC, tCB, tCons, tNil, tTest, tIfS, tRet, tRetN, tDrop, tNext, tBreak, tCont, rEq, rNe, CDiv, CDivN, CMul, tBM, tBM0, tTup, tLst, tAug, tIf, tAnd, tOr, tNot, tAndV, tOrV, tNotV, tIsN, tNotN, tB, scal, tCall, cxK, cxKn, rIxT, rIxL, rIn, rAppend, rReverse, tVals, tDSetd, tDGet, tDGet1, tDGet2, tDIn, tDNotIn, rSortV, rSortT, rPop, rSortL, rSortT, tSl, tNoPart, tPart, List.append_nil, L2.start, List.map_cons, List.map_nil, List.length_cons, List.length_nil, List.replicate_succ, List.replicate_zero, List.cons_append, List.nil_append, Nat.reduceAdd, Nat.reduceSub, exists_eq, exists_eq', List.getElem?_cons_zero, List.getElem?_cons_succ, List.set_cons_zero, List.set_cons_succ, Option.some.injEq, V.int.injEq, V.bl.injEq, V.str.injEq, V.ref.injEq, List.cons.injEq, and_true, true_and, and_false, false_and, reduceCtorEq, exists_false, or_false, false_or, exists_and_left, exists_and_right, exists_eq_left, exists_eq_left', exists_eq_right, exists_eq_right', exists_const, ite_true, ite_false, Bool.false_eq_true, if_true, if_false, decide_true, decide_false]
        refine ⟨k, l, L, i, g, by rw [Int.zero_add], h0, hlA.ext g1.1, by omega, hi, by omega, g1.2, fun H2 g2 => ⟨_, rfl, if_F rfl (g1.trans g2)⟩⟩
      · rintro σ H1 ⟨y, rfl, g1⟩
        simp only [tSeq, tAsg, gName, tOp, rI, rI0, rU, tUn, tVar, tC, tCB, tCons, tNil, tTest, tIfS, tRet, tRetN, tDrop, tNext, tBreak, tCont, rEq, rNe, CDiv, CDivN, CMul, tBM, tBM0, tTup, tLst, tAug, tIf, tAnd, tOr, tNot, tAndV, tOrV, tNotV, tIsN, tNotN, tB, scal, tCall, cxK, cxKn, rIxT, rIxL, rIn, rAppend, rReverse, tVals, tDSetd, tDGet, tDGet1, tDGet2, tDIn, tDNotIn, rSortV, rSortT, rPop, rSortL, rSortT, tSl, tNoPart, tPart, List.append_nil, L2.start, List.map_cons, List.map_nil, List.length_cons, List.length_nil, List.replicate_succ, List.replicate_zero, List.cons_append, List.nil_append, Nat.reduceAdd, Nat.reduceSub, exists_eq, exists_eq', List.getElem?_cons_zero, List.getElem?_cons_succ, List.set_cons_zero, List.set_cons_succ, Option.some.injEq, V.int.injEq, V.bl.injEq, V.str.injEq, V.ref.injEq, List.cons.injEq, and_true, true_and, and_false, false_and, reduceCtorEq, exists_false, or_false, false_or, exists_and_left, exists_and_right, exists_eq_left, exists_eq_left', exists_eq_right, exists_eq_right', exists_const, ite_true, ite_false, Bool.false_eq_true, if_true, if_false, decide_true, decide_false]
        exact ⟨k, r, W, g, -1 - d, nv, rfl, h0, hbg, hbA.ext g1.1, hr.ext g1.1, lW, hn, g1.2, fun H' _ => q H'⟩
    have told : ∀ (t : Addr) (HF : Hp) (D' : SsL), Gw T HA HF → Lts HF c L → Sss HF t D' → sss D' = toldS m g (sss D) → spTS T cls CB CG CN [V.str k.nm, V.ref c, mv, V.int g] HF (fun x H1 => rNeD K x (V.ref t) H1 fun x H' => ∃ k_1, x = V.bl k_1 ∧ if k_1 = true then Q (V.bl false) H' else rNeD K (V.ref c) (V.ref l) H' fun x H' => ∃ k_2, x = V.bl k_2 ∧ if k_2 = true then Q (V.bl false) H' else
        tFor (iRng1 (tCons (tOp (rI0 fun i j => V.int (i + j)) (tCB (fun xs H Q => ∃ p, xs = [V.ref p] ∧ ∃ x, (SqL K H p x ∨ SqT K H p x) ∧ Q (V.int ↑x.length) H) (tCons (tVar 5) tNil)) (tC (V.int 1))) tNil)) (gName 13)
        (tIfS (tNot (tB (tCall (spJo T) [] E0 (tCons (tVar 2) (tCons (tVar 5) (tCons (tVar 13) (tCons (tVar 3) tNil))))))) (tRet (tC (V.bl false))) tNext)
        { nx := tRet (tCall (spDo T) [] E0 (tCons (tVar 2) (tCons (tVar 9) (tCons (tVar 3) (tCons (tVar 7) (tCons (tVar 8) tNil)))))) { nx := fun x H' => Q V.non H', rt := Q }, rt := Q }
        [some (V.ref b), some (V.ref a), some (V.str k.nm), some (V.int g), some (V.int st), some (V.ref l), some mv, some (V.int (-1 - d)), some nv, some (V.ref r), some (V.ref e), some (V.ref c), some (V.ref t), none] H') E0 := by
      intro t HF D' gF hc ht eD'
      refine ⟨.str k.nm, c, L, mv, m, g, rfl, hc, by omega, gF.2, hmA.ext gF.1, .inl ⟨k, rfl, h0, fun _ HG p S' gG hS' eS' => ?_, fun z => absurd hi z⟩⟩
      have gAG := gF.trans gG
      exact ne_sss hS' (ht.ext gG.1) (by rw [eS', eD', eD]) ⟨_, rfl, if_F rfl (ne_lts (hc.ext gG.1) (hlA.ext gAG.1) rfl ⟨_, rfl, if_F rfl (tail _ _ gAG)⟩)⟩
    have et := toldS_eq m g (sss D)
    cases el : lastT m g (sss D) with
    | true =>
      rw [el, if_pos rfl] at et
      exact if_F rfl (told e HE D gE hcE hDE et.symm)
    | false =>
      rw [el, if_neg Bool.false_ne_true] at et
      refine if_T rfl ⟨e, _, rfl, ll hDE.at_, fun t9 h9 => ?_⟩
      have s9 := same_upd (o := .lst (cutV (D.map fun q => V.ref q.1) none (some (-1)))) h9
      have ec : cutV (D.map fun q => V.ref q.1) none (some (-1)) = D.dropLast.map fun q => V.ref q.1 := by
        rcases List.eq_nil_or_concat D with rfl | ⟨D0, z, rfl⟩
        · rfl
        · rw [List.concat_eq_append, List.map_append, List.dropLast_concat]
          exact cutV_last _ _
      refine told t9 _ D.dropLast (gE.trans (Gw.of gE.2 s9)) (hcE.same s9) ?_ ?_
      · rw [ec]
        exact hDE.upd h9 fun q hq => (List.dropLast_sublist D).subset hq
      · rw [et]
        unfold sss
        rw [List.map_dropLast]
end
end Mv

set_option Elab.async false
set_option linter.all false
set_option maxRecDepth 100000
set_option maxHeartbeats 8000000
namespace Mv
open PySem PySem.Spec PyProof.Rows L2
abbrev sIni : Stmt := inClass (topS 2) 0
abbrev sInig : Stmt := inClass (topS 3) 0
theorem scInig : ScI (defScope sInig) "self" "gap" := ⟨rfl, rfl, rfl, rfl, rfl, by decide +kernel, by decide +kernel, by decide +kernel, rfl, rfl⟩
theorem ok_inig {P : Program} {w : World} {K : PySem.W.Frag} {mg : Str → Option Value} {base : Heap} {f c cc C : Addr} {kV doc pm ct oc : Value} {an od : Option Addr} {osl : Array (Option Value)}
    (lk : K.lookup f = some ⟨oc, od, .func (PySem.W.ksFn "__init__" "BadGap.__init__" (defArgs sInig) (defBody sInig) (defScope sInig) .none kV doc pm an (.ref c) ct cc), osl⟩) (hcd : PySem.W.codeIn K (.ref c) "BadGap.__init__" = true) (U : SupK P K f c cc C) (hsup : mg "super" = none) (hno : PySem.W.findIn K (.ref C) "gap" = some none) :
    FnOk P w K mg base CX0 1 f (PySem.W.ksFn "__init__" "BadGap.__init__" (defArgs sInig) (defBody sInig) (defScope sInig) .none kV doc pm an (.ref c) ct cc) ["self", "gap"] (spIniB K C "gap") :=
  ok_iniB (kn := 0) (head := "a gap below 0: ") (fun _ => rfl) (fun _ => rfl) lk hcd scInig U hsup hno (by decide) rfl rfl (by decide) (by decide)
theorem bind_inig {K : PySem.W.Frag} {c cc : Addr} {kV doc pm ct : Value} {an : Option Addr} : Binds K (PySem.W.ksFn "__init__" "BadGap.__init__" (defArgs sInig) (defBody sInig) (defScope sInig) .none kV doc pm an (.ref c) ct cc) ["self", "gap"] [] := .all fun us hl => match us, hl with | [_, _], _ => rfl
theorem kg_cut_sessions {K : PySem.W.Frag} {kV doc pm cdv ct : Value} {an : Option Addr} : KBn K (PySem.W.fnOf "cut_sessions" "cut_sessions" (defArgs sCS) (defBody sCS) (defScope sCS) .none kV doc pm an cdv ct) ["kind", "letters", "gap"] 2 ["gap"] (fun us ws => us ++ ws) (fun vs zs => vs ++ zs) :=
  ⟨fun s us ws X l1 l2 => .of_eq (match us, ws, l1, l2 with | [_, _], [_], _, _ => rfl), fun r1 r2 => r1.append r2⟩
theorem kg_told_sessions {K : PySem.W.Frag} {kV doc pm cdv ct : Value} {an : Option Addr} : KBn K (PySem.W.fnOf "told_sessions" "told_sessions" (defArgs sTS) (defBody sTS) (defScope sTS) .none kV doc pm an cdv ct) ["kind", "letters", "mark", "gap"] 3 ["gap"] (fun us ws => us ++ ws) (fun vs zs => vs ++ zs) :=
  ⟨fun s us ws X l1 l2 => .of_eq (match us, ws, l1, l2 with | [_, _, _], [_], _, _ => rfl), fun r1 r2 => r1.append r2⟩
theorem kg_joined_sessions {K : PySem.W.Frag} {kV doc pm cdv ct : Value} {an : Option Addr} : KBn K (PySem.W.fnOf "joined_sessions" "joined_sessions" (defArgs sJS) (defBody sJS) (defScope sJS) .none kV doc pm an cdv ct) ["kind", "left", "right", "gap"] 3 ["gap"] (fun us ws => us ++ ws) (fun vs zs => vs ++ zs) :=
  ⟨fun s us ws X l1 l2 => .of_eq (match us, ws, l1, l2 with | [_, _, _], [_], _, _ => rfl), fun r1 r2 => r1.append r2⟩
theorem cal_of {CX : CXT} {P : Program} {w : World} {K : PySem.W.Frag} {mg : Str → Option Value} {base : Heap} {k : Nat} {x : Str} {st : Stmt} {f : Addr} {fd : FuncData} {ps : List Str} {sp : Sp} (F : Fun K x x st f fd) (hm : mg x = some (.ref f)) (b : Binds K fd ps []) (h : FnOk P w K mg base CX k f fd ps sp) : CalX CX P w K mg base k x sp := ⟨f, fd, ps, h, hm, F.kp, b⟩
theorem scIni : ScI (defScope sIni) "self" "name" := ⟨rfl, rfl, rfl, rfl, rfl, by decide +kernel, by decide +kernel, by decide +kernel, rfl, rfl⟩
theorem ok_bini {P : Program} {w : World} {K : PySem.W.Frag} {mg : Str → Option Value} {base : Heap} {f c cc C : Addr} {kV doc pm ct oc : Value} {an od : Option Addr} {osl : Array (Option Value)}
    (lk : K.lookup f = some ⟨oc, od, .func (PySem.W.ksFn "__init__" "BadKind.__init__" (defArgs sIni) (defBody sIni) (defScope sIni) .none kV doc pm an (.ref c) ct cc), osl⟩) (hcd : PySem.W.codeIn K (.ref c) "BadKind.__init__" = true) (U : SupK P K f c cc C) (hsup : mg "super" = none) (hno : PySem.W.findIn K (.ref C) "name" = some none) :
    FnOk P w K mg base CX0 1 f (PySem.W.ksFn "__init__" "BadKind.__init__" (defArgs sIni) (defBody sIni) (defScope sIni) .none kV doc pm an (.ref c) ct cc) ["self", "name"] (spIniB K C "name") :=
  ok_iniB (kn := 0) (head := "not the name of a kind: ") (fun _ => rfl) (fun _ => rfl) lk hcd scIni U hsup hno (by decide) rfl rfl (by decide) (by decide)
theorem bind_bini {K : PySem.W.Frag} {c cc : Addr} {kV doc pm ct : Value} {an : Option Addr} : Binds K (PySem.W.ksFn "__init__" "BadKind.__init__" (defArgs sIni) (defBody sIni) (defScope sIni) .none kV doc pm an (.ref c) ct cc) ["self", "name"] [] := .all fun us hl => match us, hl with | [_, _], _ => rfl
def clsOf (a b c d e f g h : Addr) : Kd → Addr
  | .list => a | .bag => b | .set => c | .first => d | .last => e | .ends => f | .heads => g | .tails => h
abbrev rwK : PySem.W.OpenLaw := PySem.Challenge.rw_movedstates_k07_sessions_cut_and_joined
theorem all_mk {w : World} {K : PySem.W.Frag} {h : Heap} {mg : Str → Option Value} {fa : Addr}
    {f_w_stream : Addr} {od_w_stream an_w_stream : Option Addr} {sl_w_stream : Array (Option Value)} {oc_w_stream kV_w_stream dc_w_stream pm_w_stream cd_w_stream ct_w_stream : Value}
    {f_w_draw : Addr} {od_w_draw an_w_draw : Option Addr} {sl_w_draw : Array (Option Value)} {oc_w_draw kV_w_draw dc_w_draw pm_w_draw cd_w_draw ct_w_draw : Value}
    {f_w_wide : Addr} {od_w_wide an_w_wide : Option Addr} {sl_w_wide : Array (Option Value)} {oc_w_wide kV_w_wide dc_w_wide pm_w_wide cd_w_wide ct_w_wide : Value}
    {f_w_kind : Addr} {od_w_kind an_w_kind : Option Addr} {sl_w_kind : Array (Option Value)} {oc_w_kind kV_w_kind dc_w_kind pm_w_kind cd_w_kind ct_w_kind : Value}
    {f_w_value : Addr} {od_w_value an_w_value : Option Addr} {sl_w_value : Array (Option Value)} {oc_w_value kV_w_value dc_w_value pm_w_value cd_w_value ct_w_value : Value}
    {f_w_span : Addr} {od_w_span an_w_span : Option Addr} {sl_w_span : Array (Option Value)} {oc_w_span kV_w_span dc_w_span pm_w_span cd_w_span ct_w_span : Value}
    {f_w_step : Addr} {od_w_step an_w_step : Option Addr} {sl_w_step : Array (Option Value)} {oc_w_step kV_w_step dc_w_step pm_w_step cd_w_step ct_w_step : Value}
    {f_w_letters : Addr} {od_w_letters an_w_letters : Option Addr} {sl_w_letters : Array (Option Value)} {oc_w_letters kV_w_letters dc_w_letters pm_w_letters cd_w_letters ct_w_letters : Value}
    {f_w_plain : Addr} {od_w_plain an_w_plain : Option Addr} {sl_w_plain : Array (Option Value)} {oc_w_plain kV_w_plain dc_w_plain pm_w_plain cd_w_plain ct_w_plain : Value}
    {f_w_cuts : Addr} {od_w_cuts an_w_cuts : Option Addr} {sl_w_cuts : Array (Option Value)} {oc_w_cuts kV_w_cuts dc_w_cuts pm_w_cuts cd_w_cuts ct_w_cuts : Value}
    {f_w_bad_name : Addr} {od_w_bad_name an_w_bad_name : Option Addr} {sl_w_bad_name : Array (Option Value)} {oc_w_bad_name kV_w_bad_name dc_w_bad_name pm_w_bad_name cd_w_bad_name ct_w_bad_name : Value}
    {f_w_drawn_mark : Addr} {od_w_drawn_mark an_w_drawn_mark : Option Addr} {sl_w_drawn_mark : Array (Option Value)} {oc_w_drawn_mark kV_w_drawn_mark dc_w_drawn_mark pm_w_drawn_mark cd_w_drawn_mark ct_w_drawn_mark : Value}
    {f_w_wrong : Addr} {od_w_wrong an_w_wrong : Option Addr} {sl_w_wrong : Array (Option Value)} {oc_w_wrong kV_w_wrong dc_w_wrong pm_w_wrong cd_w_wrong ct_w_wrong : Value}
    {f_w_last_told : Addr} {od_w_last_told an_w_last_told : Option Addr} {sl_w_last_told : Array (Option Value)} {oc_w_last_told kV_w_last_told dc_w_last_told pm_w_last_told cd_w_last_told ct_w_last_told : Value}
    {f_w_behind : Addr} {od_w_behind an_w_behind : Option Addr} {sl_w_behind : Array (Option Value)} {oc_w_behind kV_w_behind dc_w_behind pm_w_behind cd_w_behind ct_w_behind : Value}
    {f_w_whole : Addr} {od_w_whole an_w_whole : Option Addr} {sl_w_whole : Array (Option Value)} {oc_w_whole kV_w_whole dc_w_whole pm_w_whole cd_w_whole ct_w_whole : Value}
    {f_w_refused : Addr} {od_w_refused an_w_refused : Option Addr} {sl_w_refused : Array (Option Value)} {oc_w_refused kV_w_refused dc_w_refused pm_w_refused cd_w_refused ct_w_refused : Value}
    {f_w_unjoined : Addr} {od_w_unjoined an_w_unjoined : Option Addr} {sl_w_unjoined : Array (Option Value)} {oc_w_unjoined kV_w_unjoined dc_w_unjoined pm_w_unjoined cd_w_unjoined ct_w_unjoined : Value}
    {f_w_joins : Addr} {od_w_joins an_w_joins : Option Addr} {sl_w_joins : Array (Option Value)} {oc_w_joins kV_w_joins dc_w_joins pm_w_joins cd_w_joins ct_w_joins : Value}
    {f_w_doors : Addr} {od_w_doors an_w_doors : Option Addr} {sl_w_doors : Array (Option Value)} {oc_w_doors kV_w_doors dc_w_doors pm_w_doors cd_w_doors ct_w_doors : Value}
    {f_law : Addr} {od_law an_law : Option Addr} {sl_law : Array (Option Value)} {oc_law kV_law dc_law pm_law cd_law ct_law : Value}
    {f_least_places : Addr} {od_least_places an_least_places : Option Addr} {sl_least_places : Array (Option Value)} {oc_least_places kV_least_places dc_least_places pm_least_places cd_least_places ct_least_places : Value}
    {f_greatest_places : Addr} {od_greatest_places an_greatest_places : Option Addr} {sl_greatest_places : Array (Option Value)} {oc_greatest_places kV_greatest_places dc_greatest_places pm_greatest_places cd_greatest_places ct_greatest_places : Value}
    {f_kind_named : Addr} {od_kind_named an_kind_named : Option Addr} {sl_kind_named : Array (Option Value)} {oc_kind_named kV_kind_named dc_kind_named pm_kind_named cd_kind_named ct_kind_named : Value}
    {f_checked_kind : Addr} {od_checked_kind an_checked_kind : Option Addr} {sl_checked_kind : Array (Option Value)} {oc_checked_kind kV_checked_kind dc_checked_kind pm_checked_kind cd_checked_kind ct_checked_kind : Value}
    {f_complete : Addr} {od_complete an_complete : Option Addr} {sl_complete : Array (Option Value)} {oc_complete kV_complete dc_complete pm_complete cd_complete ct_complete : Value}
    {f_chains_of : Addr} {od_chains_of an_chains_of : Option Addr} {sl_chains_of : Array (Option Value)} {oc_chains_of kV_chains_of dc_chains_of pm_chains_of cd_chains_of ct_chains_of : Value}
    {f_sessions_within : Addr} {od_sessions_within an_sessions_within : Option Addr} {sl_sessions_within : Array (Option Value)} {oc_sessions_within kV_sessions_within dc_sessions_within pm_sessions_within cd_sessions_within ct_sessions_within : Value}
    {f_session_of : Addr} {od_session_of an_session_of : Option Addr} {sl_session_of : Array (Option Value)} {oc_session_of kV_session_of dc_session_of pm_session_of cd_session_of ct_session_of : Value}
    {f_raised_session : Addr} {od_raised_session an_raised_session : Option Addr} {sl_raised_session : Array (Option Value)} {oc_raised_session kV_raised_session dc_raised_session pm_raised_session cd_raised_session ct_raised_session : Value}
    {f_told_part : Addr} {od_told_part an_told_part : Option Addr} {sl_told_part : Array (Option Value)} {oc_told_part kV_told_part dc_told_part pm_told_part cd_told_part ct_told_part : Value}
    {f_closed_by : Addr} {od_closed_by an_closed_by : Option Addr} {sl_closed_by : Array (Option Value)} {oc_closed_by kV_closed_by dc_closed_by pm_closed_by cd_closed_by ct_closed_by : Value}
    {C_Kind : Addr}
    {f_kO : Addr} {od_kO an_kO : Option Addr} {sl_kO : Array (Option Value)} {oc_kO kV_kO dc_kO pm_kO cd_kO ct_kO : Value}
    {C_BagKind : Addr}
    {f_kB : Addr} {od_kB an_kB : Option Addr} {sl_kB : Array (Option Value)} {oc_kB kV_kB dc_kB pm_kB ct_kB : Value}
    {C_SetKind : Addr}
    {f_kS : Addr} {od_kS an_kS : Option Addr} {sl_kS : Array (Option Value)} {oc_kS kV_kS dc_kS pm_kS cd_kS ct_kS : Value}
    {C_FirstKind : Addr}
    {f_kF : Addr} {od_kF an_kF : Option Addr} {sl_kF : Array (Option Value)} {oc_kF kV_kF dc_kF pm_kF cd_kF ct_kF : Value}
    {C_LastKind : Addr}
    {f_kL : Addr} {od_kL an_kL : Option Addr} {sl_kL : Array (Option Value)} {oc_kL kV_kL dc_kL pm_kL cd_kL ct_kL : Value}
    {C_EndsKind : Addr}
    {f_kE : Addr} {od_kE an_kE : Option Addr} {sl_kE : Array (Option Value)} {oc_kE kV_kE dc_kE pm_kE cd_kE ct_kE : Value}
    {C_HeadsKind : Addr}
    {f_kH : Addr} {od_kH an_kH : Option Addr} {sl_kH : Array (Option Value)} {oc_kH kV_kH dc_kH pm_kH cd_kH ct_kH : Value}
    {C_TailsKind : Addr}
    {f_kT : Addr} {od_kT an_kT : Option Addr} {sl_kT : Array (Option Value)} {oc_kT kV_kT dc_kT pm_kT cd_kT ct_kT : Value}
    {cB Pt : Addr}
    {f_pl : Addr} {od_pl an_pl : Option Addr} {sl_pl : Array (Option Value)} {oc_pl kV_pl dc_pl pm_pl cd_pl ct_pl : Value}
    {kn : Addr} {odN : Option Addr} {slN : Array (Option Value)} {nN : Nat} {t0 t1 t2 t3 t4 t5 t6 t7 : Tok}
    {CB : Addr} {nm q : Str} {NB : Addr} {bs : List Value} {bm : List Value} {sn : List Str} {sub : List Value} {ab : Bool} {col : Option Bool} {dd : Option Addr} {m0 m1 m2 m3 m5 : Option Value}
    {f_i c_i cc : Addr} {od_i an_i : Option Addr} {sl_i : Array (Option Value)} {oc_i kV_i dc_i pm_i ct_i : Value} {ccl : Value} {cdd : Option Addr} {vsC : Array Value} {ccs : Array (Option Value)} {file : Str} {tf : Tok} {cl : Value} {cld : Option Addr} {csl : Array (Option Value)} {cdB : ClassData}
    {CM : Addr}
    {CG : Addr} {nmg qg : Str} {NBg : Addr} {bsg : List Value} {bmg : List Value} {sng : List Str} {subg : List Value} {abg : Bool} {colg : Option Bool} {ddg : Option Addr} {m0g m1g m2g m3g m5g : Option Value}
    {f_g c_g ccg : Addr} {od_g an_g : Option Addr} {sl_g : Array (Option Value)} {oc_g kV_g dc_g pm_g ct_g : Value} {cclg : Value} {cddg : Option Addr} {vsCg : Array Value} {ccsg : Array (Option Value)} {fileg : Str} {tfg : Tok} {clg : Value} {cldg : Option Addr} {cslg : Array (Option Value)} {cdBg : ClassData}
    {CN : Addr}
    {f_cut_sessions : Addr} {od_cut_sessions an_cut_sessions : Option Addr} {sl_cut_sessions : Array (Option Value)} {oc_cut_sessions kV_cut_sessions dc_cut_sessions pm_cut_sessions cd_cut_sessions ct_cut_sessions : Value}
    {f_told_sessions : Addr} {od_told_sessions an_told_sessions : Option Addr} {sl_told_sessions : Array (Option Value)} {oc_told_sessions kV_told_sessions dc_told_sessions pm_told_sessions cd_told_sessions ct_told_sessions : Value}
    {f_joined_sessions : Addr} {od_joined_sessions an_joined_sessions : Option Addr} {sl_joined_sessions : Array (Option Value)} {oc_joined_sessions kV_joined_sessions dc_joined_sessions pm_joined_sessions cd_joined_sessions ct_joined_sessions : Value}
    (X : K.In h) (G : h.Ns mainGlobals mg) (hfa : mg "law" = some (.ref fa)) (hPt : h.get? Pt = some { cls := .none, data := .fields #[] })
    (z_len : PySem.W.nsIn K mainGlobals "len" = some none)
    (z_range : PySem.W.nsIn K mainGlobals "range" = some none)
    (z_enumerate : PySem.W.nsIn K mainGlobals "enumerate" = some none)
    (z_abs : PySem.W.nsIn K mainGlobals "abs" = some none)
    (z_int : PySem.W.nsIn K mainGlobals "int" = some none)
    (z_list : PySem.W.nsIn K mainGlobals "list" = some none)
    (z_tuple : PySem.W.nsIn K mainGlobals "tuple" = some none)
    (z_sorted : PySem.W.nsIn K mainGlobals "sorted" = some none)
    (z_isinstance : PySem.W.nsIn K mainGlobals "isinstance" = some none)
    (z_str : PySem.W.nsIn K mainGlobals "str" = some none)
    (z_bool : PySem.W.nsIn K mainGlobals "bool" = some none)
    (z_super : PySem.W.nsIn K mainGlobals "super" = some none)
    (z_ValueError : PySem.W.nsIn K mainGlobals "ValueError" = some none)
    (z_all : PySem.W.nsIn K mainGlobals "all" = some none)
    (z_zip : PySem.W.nsIn K mainGlobals "zip" = some none)
    (a_w_stream : PySem.W.nsIn K mainGlobals "_law_stream" = some (some (.ref f_w_stream)))
    (l_w_stream : K.lookup f_w_stream = some ⟨oc_w_stream, od_w_stream, .func (PySem.W.fnOf "_law_stream" "_law_stream" (defArgs sStream) (defBody sStream) (defScope sStream) .none kV_w_stream dc_w_stream pm_w_stream an_w_stream cd_w_stream ct_w_stream), sl_w_stream⟩)
    (c_w_stream : PySem.W.codeIn K cd_w_stream "_law_stream" = true)
    (k_w_stream : PySem.W.keepIn K (.ref f_w_stream) = true)
    (a_w_draw : PySem.W.nsIn K mainGlobals "_law_draw" = some (some (.ref f_w_draw)))
    (l_w_draw : K.lookup f_w_draw = some ⟨oc_w_draw, od_w_draw, .func (PySem.W.fnOf "_law_draw" "_law_draw" (defArgs sDraw) (defBody sDraw) (defScope sDraw) .none kV_w_draw dc_w_draw pm_w_draw an_w_draw cd_w_draw ct_w_draw), sl_w_draw⟩)
    (c_w_draw : PySem.W.codeIn K cd_w_draw "_law_draw" = true)
    (k_w_draw : PySem.W.keepIn K (.ref f_w_draw) = true)
    (a_w_wide : PySem.W.nsIn K mainGlobals "_law_wide" = some (some (.ref f_w_wide)))
    (l_w_wide : K.lookup f_w_wide = some ⟨oc_w_wide, od_w_wide, .func (PySem.W.fnOf "_law_wide" "_law_wide" (defArgs sWide) (defBody sWide) (defScope sWide) .none kV_w_wide dc_w_wide pm_w_wide an_w_wide cd_w_wide ct_w_wide), sl_w_wide⟩)
    (c_w_wide : PySem.W.codeIn K cd_w_wide "_law_wide" = true)
    (k_w_wide : PySem.W.keepIn K (.ref f_w_wide) = true)
    (a_w_kind : PySem.W.nsIn K mainGlobals "_law_kind" = some (some (.ref f_w_kind)))
    (l_w_kind : K.lookup f_w_kind = some ⟨oc_w_kind, od_w_kind, .func (PySem.W.fnOf "_law_kind" "_law_kind" (defArgs sKind) (defBody sKind) (defScope sKind) .none kV_w_kind dc_w_kind pm_w_kind an_w_kind cd_w_kind ct_w_kind), sl_w_kind⟩)
    (c_w_kind : PySem.W.codeIn K cd_w_kind "_law_kind" = true)
    (k_w_kind : PySem.W.keepIn K (.ref f_w_kind) = true)
    (a_w_value : PySem.W.nsIn K mainGlobals "_law_value" = some (some (.ref f_w_value)))
    (l_w_value : K.lookup f_w_value = some ⟨oc_w_value, od_w_value, .func (PySem.W.fnOf "_law_value" "_law_value" (defArgs sValue) (defBody sValue) (defScope sValue) .none kV_w_value dc_w_value pm_w_value an_w_value cd_w_value ct_w_value), sl_w_value⟩)
    (c_w_value : PySem.W.codeIn K cd_w_value "_law_value" = true)
    (k_w_value : PySem.W.keepIn K (.ref f_w_value) = true)
    (a_w_span : PySem.W.nsIn K mainGlobals "_law_span" = some (some (.ref f_w_span)))
    (l_w_span : K.lookup f_w_span = some ⟨oc_w_span, od_w_span, .func (PySem.W.fnOf "_law_span" "_law_span" (defArgs sSpan) (defBody sSpan) (defScope sSpan) .none kV_w_span dc_w_span pm_w_span an_w_span cd_w_span ct_w_span), sl_w_span⟩)
    (c_w_span : PySem.W.codeIn K cd_w_span "_law_span" = true)
    (k_w_span : PySem.W.keepIn K (.ref f_w_span) = true)
    (a_w_step : PySem.W.nsIn K mainGlobals "_law_step" = some (some (.ref f_w_step)))
    (l_w_step : K.lookup f_w_step = some ⟨oc_w_step, od_w_step, .func (PySem.W.fnOf "_law_step" "_law_step" (defArgs sStep) (defBody sStep) (defScope sStep) .none kV_w_step dc_w_step pm_w_step an_w_step cd_w_step ct_w_step), sl_w_step⟩)
    (c_w_step : PySem.W.codeIn K cd_w_step "_law_step" = true)
    (k_w_step : PySem.W.keepIn K (.ref f_w_step) = true)
    (a_w_letters : PySem.W.nsIn K mainGlobals "_law_letters" = some (some (.ref f_w_letters)))
    (l_w_letters : K.lookup f_w_letters = some ⟨oc_w_letters, od_w_letters, .func (PySem.W.fnOf "_law_letters" "_law_letters" (defArgs sLet) (defBody sLet) (defScope sLet) .none kV_w_letters dc_w_letters pm_w_letters an_w_letters cd_w_letters ct_w_letters), sl_w_letters⟩)
    (c_w_letters : PySem.W.codeIn K cd_w_letters "_law_letters" = true)
    (k_w_letters : PySem.W.keepIn K (.ref f_w_letters) = true)
    (a_w_plain : PySem.W.nsIn K mainGlobals "_law_plain" = some (some (.ref f_w_plain)))
    (l_w_plain : K.lookup f_w_plain = some ⟨oc_w_plain, od_w_plain, .func (PySem.W.fnOf "_law_plain" "_law_plain" (defArgs sPlain) (defBody sPlain) (defScope sPlain) .none kV_w_plain dc_w_plain pm_w_plain an_w_plain cd_w_plain ct_w_plain), sl_w_plain⟩)
    (c_w_plain : PySem.W.codeIn K cd_w_plain "_law_plain" = true)
    (k_w_plain : PySem.W.keepIn K (.ref f_w_plain) = true)
    (a_w_cuts : PySem.W.nsIn K mainGlobals "_law_cuts" = some (some (.ref f_w_cuts)))
    (l_w_cuts : K.lookup f_w_cuts = some ⟨oc_w_cuts, od_w_cuts, .func (PySem.W.fnOf "_law_cuts" "_law_cuts" (defArgs sCuts) (defBody sCuts) (defScope sCuts) .none kV_w_cuts dc_w_cuts pm_w_cuts an_w_cuts cd_w_cuts ct_w_cuts), sl_w_cuts⟩)
    (c_w_cuts : PySem.W.codeIn K cd_w_cuts "_law_cuts" = true)
    (k_w_cuts : PySem.W.keepIn K (.ref f_w_cuts) = true)
    (a_w_bad_name : PySem.W.nsIn K mainGlobals "_law_bad_name" = some (some (.ref f_w_bad_name)))
    (l_w_bad_name : K.lookup f_w_bad_name = some ⟨oc_w_bad_name, od_w_bad_name, .func (PySem.W.fnOf "_law_bad_name" "_law_bad_name" (defArgs sBad) (defBody sBad) (defScope sBad) .none kV_w_bad_name dc_w_bad_name pm_w_bad_name an_w_bad_name cd_w_bad_name ct_w_bad_name), sl_w_bad_name⟩)
    (c_w_bad_name : PySem.W.codeIn K cd_w_bad_name "_law_bad_name" = true)
    (k_w_bad_name : PySem.W.keepIn K (.ref f_w_bad_name) = true)
    (a_w_drawn_mark : PySem.W.nsIn K mainGlobals "_law_drawn_mark" = some (some (.ref f_w_drawn_mark)))
    (l_w_drawn_mark : K.lookup f_w_drawn_mark = some ⟨oc_w_drawn_mark, od_w_drawn_mark, .func (PySem.W.fnOf "_law_drawn_mark" "_law_drawn_mark" (defArgs sMk) (defBody sMk) (defScope sMk) .none kV_w_drawn_mark dc_w_drawn_mark pm_w_drawn_mark an_w_drawn_mark cd_w_drawn_mark ct_w_drawn_mark), sl_w_drawn_mark⟩)
    (c_w_drawn_mark : PySem.W.codeIn K cd_w_drawn_mark "_law_drawn_mark" = true)
    (k_w_drawn_mark : PySem.W.keepIn K (.ref f_w_drawn_mark) = true)
    (a_w_wrong : PySem.W.nsIn K mainGlobals "_law_wrong" = some (some (.ref f_w_wrong)))
    (l_w_wrong : K.lookup f_w_wrong = some ⟨oc_w_wrong, od_w_wrong, .func (PySem.W.fnOf "_law_wrong" "_law_wrong" (defArgs sWr) (defBody sWr) (defScope sWr) .none kV_w_wrong dc_w_wrong pm_w_wrong an_w_wrong cd_w_wrong ct_w_wrong), sl_w_wrong⟩)
    (c_w_wrong : PySem.W.codeIn K cd_w_wrong "_law_wrong" = true)
    (k_w_wrong : PySem.W.keepIn K (.ref f_w_wrong) = true)
    (a_w_last_told : PySem.W.nsIn K mainGlobals "_law_last_told" = some (some (.ref f_w_last_told)))
    (l_w_last_told : K.lookup f_w_last_told = some ⟨oc_w_last_told, od_w_last_told, .func (PySem.W.fnOf "_law_last_told" "_law_last_told" (defArgs sLT) (defBody sLT) (defScope sLT) .none kV_w_last_told dc_w_last_told pm_w_last_told an_w_last_told cd_w_last_told ct_w_last_told), sl_w_last_told⟩)
    (c_w_last_told : PySem.W.codeIn K cd_w_last_told "_law_last_told" = true)
    (k_w_last_told : PySem.W.keepIn K (.ref f_w_last_told) = true)
    (a_w_behind : PySem.W.nsIn K mainGlobals "_law_behind" = some (some (.ref f_w_behind)))
    (l_w_behind : K.lookup f_w_behind = some ⟨oc_w_behind, od_w_behind, .func (PySem.W.fnOf "_law_behind" "_law_behind" (defArgs sBe) (defBody sBe) (defScope sBe) .none kV_w_behind dc_w_behind pm_w_behind an_w_behind cd_w_behind ct_w_behind), sl_w_behind⟩)
    (c_w_behind : PySem.W.codeIn K cd_w_behind "_law_behind" = true)
    (k_w_behind : PySem.W.keepIn K (.ref f_w_behind) = true)
    (a_w_whole : PySem.W.nsIn K mainGlobals "_law_whole" = some (some (.ref f_w_whole)))
    (l_w_whole : K.lookup f_w_whole = some ⟨oc_w_whole, od_w_whole, .func (PySem.W.fnOf "_law_whole" "_law_whole" (defArgs sWo) (defBody sWo) (defScope sWo) .none kV_w_whole dc_w_whole pm_w_whole an_w_whole cd_w_whole ct_w_whole), sl_w_whole⟩)
    (c_w_whole : PySem.W.codeIn K cd_w_whole "_law_whole" = true)
    (k_w_whole : PySem.W.keepIn K (.ref f_w_whole) = true)
    (a_w_refused : PySem.W.nsIn K mainGlobals "_law_refused" = some (some (.ref f_w_refused)))
    (l_w_refused : K.lookup f_w_refused = some ⟨oc_w_refused, od_w_refused, .func (PySem.W.fnOf "_law_refused" "_law_refused" (defArgs sRef) (defBody sRef) (defScope sRef) .none kV_w_refused dc_w_refused pm_w_refused an_w_refused cd_w_refused ct_w_refused), sl_w_refused⟩)
    (c_w_refused : PySem.W.codeIn K cd_w_refused "_law_refused" = true)
    (k_w_refused : PySem.W.keepIn K (.ref f_w_refused) = true)
    (a_w_unjoined : PySem.W.nsIn K mainGlobals "_law_unjoined" = some (some (.ref f_w_unjoined)))
    (l_w_unjoined : K.lookup f_w_unjoined = some ⟨oc_w_unjoined, od_w_unjoined, .func (PySem.W.fnOf "_law_unjoined" "_law_unjoined" (defArgs sUn) (defBody sUn) (defScope sUn) .none kV_w_unjoined dc_w_unjoined pm_w_unjoined an_w_unjoined cd_w_unjoined ct_w_unjoined), sl_w_unjoined⟩)
    (c_w_unjoined : PySem.W.codeIn K cd_w_unjoined "_law_unjoined" = true)
    (k_w_unjoined : PySem.W.keepIn K (.ref f_w_unjoined) = true)
    (a_w_joins : PySem.W.nsIn K mainGlobals "_law_joins" = some (some (.ref f_w_joins)))
    (l_w_joins : K.lookup f_w_joins = some ⟨oc_w_joins, od_w_joins, .func (PySem.W.fnOf "_law_joins" "_law_joins" (defArgs sJo) (defBody sJo) (defScope sJo) .none kV_w_joins dc_w_joins pm_w_joins an_w_joins cd_w_joins ct_w_joins), sl_w_joins⟩)
    (c_w_joins : PySem.W.codeIn K cd_w_joins "_law_joins" = true)
    (k_w_joins : PySem.W.keepIn K (.ref f_w_joins) = true)
    (a_w_doors : PySem.W.nsIn K mainGlobals "_law_doors" = some (some (.ref f_w_doors)))
    (l_w_doors : K.lookup f_w_doors = some ⟨oc_w_doors, od_w_doors, .func (PySem.W.fnOf "_law_doors" "_law_doors" (defArgs sDo) (defBody sDo) (defScope sDo) .none kV_w_doors dc_w_doors pm_w_doors an_w_doors cd_w_doors ct_w_doors), sl_w_doors⟩)
    (c_w_doors : PySem.W.codeIn K cd_w_doors "_law_doors" = true)
    (k_w_doors : PySem.W.keepIn K (.ref f_w_doors) = true)
    (a_law : PySem.W.nsIn K mainGlobals "law" = some (some (.ref f_law)))
    (l_law : K.lookup f_law = some ⟨oc_law, od_law, .func (PySem.W.fnOf "law" "law" (defArgs sLaw) (defBody sLaw) (defScope sLaw) .none kV_law dc_law pm_law an_law cd_law ct_law), sl_law⟩)
    (c_law : PySem.W.codeIn K cd_law "law" = true)
    (k_law : PySem.W.keepIn K (.ref f_law) = true)
    (a_least_places : PySem.W.nsIn K mainGlobals "least_places" = some (some (.ref f_least_places)))
    (l_least_places : K.lookup f_least_places = some ⟨oc_least_places, od_least_places, .func (PySem.W.fnOf "least_places" "least_places" (defArgs sLeast) (defBody sLeast) (defScope sLeast) .none kV_least_places dc_least_places pm_least_places an_least_places cd_least_places ct_least_places), sl_least_places⟩)
    (c_least_places : PySem.W.codeIn K cd_least_places "least_places" = true)
    (k_least_places : PySem.W.keepIn K (.ref f_least_places) = true)
    (a_greatest_places : PySem.W.nsIn K mainGlobals "greatest_places" = some (some (.ref f_greatest_places)))
    (l_greatest_places : K.lookup f_greatest_places = some ⟨oc_greatest_places, od_greatest_places, .func (PySem.W.fnOf "greatest_places" "greatest_places" (defArgs sGreat) (defBody sGreat) (defScope sGreat) .none kV_greatest_places dc_greatest_places pm_greatest_places an_greatest_places cd_greatest_places ct_greatest_places), sl_greatest_places⟩)
    (c_greatest_places : PySem.W.codeIn K cd_greatest_places "greatest_places" = true)
    (k_greatest_places : PySem.W.keepIn K (.ref f_greatest_places) = true)
    (a_kind_named : PySem.W.nsIn K mainGlobals "kind_named" = some (some (.ref f_kind_named)))
    (l_kind_named : K.lookup f_kind_named = some ⟨oc_kind_named, od_kind_named, .func (PySem.W.fnOf "kind_named" "kind_named" (defArgs sKN) (defBody sKN) (defScope sKN) .none kV_kind_named dc_kind_named pm_kind_named an_kind_named cd_kind_named ct_kind_named), sl_kind_named⟩)
    (c_kind_named : PySem.W.codeIn K cd_kind_named "kind_named" = true)
    (k_kind_named : PySem.W.keepIn K (.ref f_kind_named) = true)
    (a_checked_kind : PySem.W.nsIn K mainGlobals "checked_kind" = some (some (.ref f_checked_kind)))
    (l_checked_kind : K.lookup f_checked_kind = some ⟨oc_checked_kind, od_checked_kind, .func (PySem.W.fnOf "checked_kind" "checked_kind" (defArgs sCK) (defBody sCK) (defScope sCK) .none kV_checked_kind dc_checked_kind pm_checked_kind an_checked_kind cd_checked_kind ct_checked_kind), sl_checked_kind⟩)
    (c_checked_kind : PySem.W.codeIn K cd_checked_kind "checked_kind" = true)
    (k_checked_kind : PySem.W.keepIn K (.ref f_checked_kind) = true)
    (a_complete : PySem.W.nsIn K mainGlobals "complete" = some (some (.ref f_complete)))
    (l_complete : K.lookup f_complete = some ⟨oc_complete, od_complete, .func (PySem.W.fnOf "complete" "complete" (defArgs sCp) (defBody sCp) (defScope sCp) .none kV_complete dc_complete pm_complete an_complete cd_complete ct_complete), sl_complete⟩)
    (c_complete : PySem.W.codeIn K cd_complete "complete" = true)
    (k_complete : PySem.W.keepIn K (.ref f_complete) = true)
    (a_chains_of : PySem.W.nsIn K mainGlobals "chains_of" = some (some (.ref f_chains_of)))
    (l_chains_of : K.lookup f_chains_of = some ⟨oc_chains_of, od_chains_of, .func (PySem.W.fnOf "chains_of" "chains_of" (defArgs sCO) (defBody sCO) (defScope sCO) .none kV_chains_of dc_chains_of pm_chains_of an_chains_of cd_chains_of ct_chains_of), sl_chains_of⟩)
    (c_chains_of : PySem.W.codeIn K cd_chains_of "chains_of" = true)
    (k_chains_of : PySem.W.keepIn K (.ref f_chains_of) = true)
    (a_sessions_within : PySem.W.nsIn K mainGlobals "sessions_within" = some (some (.ref f_sessions_within)))
    (l_sessions_within : K.lookup f_sessions_within = some ⟨oc_sessions_within, od_sessions_within, .func (PySem.W.fnOf "sessions_within" "sessions_within" (defArgs sSW) (defBody sSW) (defScope sSW) .none kV_sessions_within dc_sessions_within pm_sessions_within an_sessions_within cd_sessions_within ct_sessions_within), sl_sessions_within⟩)
    (c_sessions_within : PySem.W.codeIn K cd_sessions_within "sessions_within" = true)
    (k_sessions_within : PySem.W.keepIn K (.ref f_sessions_within) = true)
    (a_session_of : PySem.W.nsIn K mainGlobals "session_of" = some (some (.ref f_session_of)))
    (l_session_of : K.lookup f_session_of = some ⟨oc_session_of, od_session_of, .func (PySem.W.fnOf "session_of" "session_of" (defArgs sSO) (defBody sSO) (defScope sSO) .none kV_session_of dc_session_of pm_session_of an_session_of cd_session_of ct_session_of), sl_session_of⟩)
    (c_session_of : PySem.W.codeIn K cd_session_of "session_of" = true)
    (k_session_of : PySem.W.keepIn K (.ref f_session_of) = true)
    (a_raised_session : PySem.W.nsIn K mainGlobals "raised_session" = some (some (.ref f_raised_session)))
    (l_raised_session : K.lookup f_raised_session = some ⟨oc_raised_session, od_raised_session, .func (PySem.W.fnOf "raised_session" "raised_session" (defArgs sRS) (defBody sRS) (defScope sRS) .none kV_raised_session dc_raised_session pm_raised_session an_raised_session cd_raised_session ct_raised_session), sl_raised_session⟩)
    (c_raised_session : PySem.W.codeIn K cd_raised_session "raised_session" = true)
    (k_raised_session : PySem.W.keepIn K (.ref f_raised_session) = true)
    (a_told_part : PySem.W.nsIn K mainGlobals "told_part" = some (some (.ref f_told_part)))
    (l_told_part : K.lookup f_told_part = some ⟨oc_told_part, od_told_part, .func (PySem.W.fnOf "told_part" "told_part" (defArgs sTP) (defBody sTP) (defScope sTP) .none kV_told_part dc_told_part pm_told_part an_told_part cd_told_part ct_told_part), sl_told_part⟩)
    (c_told_part : PySem.W.codeIn K cd_told_part "told_part" = true)
    (k_told_part : PySem.W.keepIn K (.ref f_told_part) = true)
    (a_closed_by : PySem.W.nsIn K mainGlobals "closed_by" = some (some (.ref f_closed_by)))
    (l_closed_by : K.lookup f_closed_by = some ⟨oc_closed_by, od_closed_by, .func (PySem.W.fnOf "closed_by" "closed_by" (defArgs sCB) (defBody sCB) (defScope sCB) .none kV_closed_by dc_closed_by pm_closed_by an_closed_by cd_closed_by ct_closed_by), sl_closed_by⟩)
    (c_closed_by : PySem.W.codeIn K cd_closed_by "closed_by" = true)
    (k_closed_by : PySem.W.keepIn K (.ref f_closed_by) = true)
    (a_Kind : PySem.W.nsIn K mainGlobals "Kind" = some (some (.ref C_Kind)))
    (mk_Kind : PySem.W.makesIn K C_Kind = true)
    (in_Kind : PySem.W.findIn K (.ref C_Kind) "__init__" = some (some (.builtin "object.__init__")))
    (tp_Kind : PySem.W.mroIn K C_Kind (.type "object") = some true)
    (kc_Kind : PySem.W.keepIn K (.ref C_Kind) = true)
    (pg_Kind : PySem.W.plainGet K C_Kind Str.empty = true)
    (hd_Kind : PySem.W.hasDictIn K C_Kind = true)
    (po_Kind : PySem.W.plainOver K C_Kind = true)
    (sa_Kind : PySem.W.findIn K (.ref C_Kind) "__setattr__" = some (some (.builtin "object.__setattr__")))
    (a_kO : PySem.W.findIn K (.ref C_Kind) "keep" = some (some (.ref f_kO)))
    (i_kO : PySem.W.isFn K (.ref f_kO) = true)
    (l_kO : K.lookup f_kO = some ⟨oc_kO, od_kO, .func (PySem.W.fnOf "keep" "Kind.keep" (defArgs sKeepO) (defBody sKeepO) (defScope sKeepO) .none kV_kO dc_kO pm_kO an_kO cd_kO ct_kO), sl_kO⟩)
    (c_kO : PySem.W.codeIn K cd_kO "Kind.keep" = true)
    (k_kO : PySem.W.keepIn K (.ref f_kO) = true)
    (a_BagKind : PySem.W.nsIn K mainGlobals "BagKind" = some (some (.ref C_BagKind)))
    (mk_BagKind : PySem.W.makesIn K C_BagKind = true)
    (in_BagKind : PySem.W.findIn K (.ref C_BagKind) "__init__" = some (some (.builtin "object.__init__")))
    (tp_BagKind : PySem.W.mroIn K C_BagKind (.type "object") = some true)
    (kc_BagKind : PySem.W.keepIn K (.ref C_BagKind) = true)
    (pg_BagKind : PySem.W.plainGet K C_BagKind Str.empty = true)
    (hd_BagKind : PySem.W.hasDictIn K C_BagKind = true)
    (po_BagKind : PySem.W.plainOver K C_BagKind = true)
    (sa_BagKind : PySem.W.findIn K (.ref C_BagKind) "__setattr__" = some (some (.builtin "object.__setattr__")))
    (a_kB : PySem.W.findIn K (.ref C_BagKind) "keep" = some (some (.ref f_kB)))
    (i_kB : PySem.W.isFn K (.ref f_kB) = true)
    (l_kB : K.lookup f_kB = some ⟨oc_kB, od_kB, .func (PySem.W.fnOf "keep" "BagKind.keep" (defArgs sKeepB) (defBody sKeepB) (defScope sKeepB) .none kV_kB dc_kB pm_kB an_kB (.ref cB) ct_kB), sl_kB⟩)
    (c_kB : PySem.W.codeIn K (.ref cB) "BagKind.keep" = true)
    (k_kB : PySem.W.keepIn K (.ref f_kB) = true)
    (a_SetKind : PySem.W.nsIn K mainGlobals "SetKind" = some (some (.ref C_SetKind)))
    (mk_SetKind : PySem.W.makesIn K C_SetKind = true)
    (in_SetKind : PySem.W.findIn K (.ref C_SetKind) "__init__" = some (some (.builtin "object.__init__")))
    (tp_SetKind : PySem.W.mroIn K C_SetKind (.type "object") = some true)
    (kc_SetKind : PySem.W.keepIn K (.ref C_SetKind) = true)
    (pg_SetKind : PySem.W.plainGet K C_SetKind Str.empty = true)
    (hd_SetKind : PySem.W.hasDictIn K C_SetKind = true)
    (po_SetKind : PySem.W.plainOver K C_SetKind = true)
    (sa_SetKind : PySem.W.findIn K (.ref C_SetKind) "__setattr__" = some (some (.builtin "object.__setattr__")))
    (a_kS : PySem.W.findIn K (.ref C_SetKind) "keep" = some (some (.ref f_kS)))
    (i_kS : PySem.W.isFn K (.ref f_kS) = true)
    (l_kS : K.lookup f_kS = some ⟨oc_kS, od_kS, .func (PySem.W.fnOf "keep" "SetKind.keep" (defArgs sKeepS) (defBody sKeepS) (defScope sKeepS) .none kV_kS dc_kS pm_kS an_kS cd_kS ct_kS), sl_kS⟩)
    (c_kS : PySem.W.codeIn K cd_kS "SetKind.keep" = true)
    (k_kS : PySem.W.keepIn K (.ref f_kS) = true)
    (a_FirstKind : PySem.W.nsIn K mainGlobals "FirstKind" = some (some (.ref C_FirstKind)))
    (mk_FirstKind : PySem.W.makesIn K C_FirstKind = true)
    (in_FirstKind : PySem.W.findIn K (.ref C_FirstKind) "__init__" = some (some (.builtin "object.__init__")))
    (tp_FirstKind : PySem.W.mroIn K C_FirstKind (.type "object") = some true)
    (kc_FirstKind : PySem.W.keepIn K (.ref C_FirstKind) = true)
    (pg_FirstKind : PySem.W.plainGet K C_FirstKind Str.empty = true)
    (hd_FirstKind : PySem.W.hasDictIn K C_FirstKind = true)
    (po_FirstKind : PySem.W.plainOver K C_FirstKind = true)
    (sa_FirstKind : PySem.W.findIn K (.ref C_FirstKind) "__setattr__" = some (some (.builtin "object.__setattr__")))
    (a_kF : PySem.W.findIn K (.ref C_FirstKind) "keep" = some (some (.ref f_kF)))
    (i_kF : PySem.W.isFn K (.ref f_kF) = true)
    (l_kF : K.lookup f_kF = some ⟨oc_kF, od_kF, .func (PySem.W.fnOf "keep" "FirstKind.keep" (defArgs sKeepF) (defBody sKeepF) (defScope sKeepF) .none kV_kF dc_kF pm_kF an_kF cd_kF ct_kF), sl_kF⟩)
    (c_kF : PySem.W.codeIn K cd_kF "FirstKind.keep" = true)
    (k_kF : PySem.W.keepIn K (.ref f_kF) = true)
    (a_LastKind : PySem.W.nsIn K mainGlobals "LastKind" = some (some (.ref C_LastKind)))
    (mk_LastKind : PySem.W.makesIn K C_LastKind = true)
    (in_LastKind : PySem.W.findIn K (.ref C_LastKind) "__init__" = some (some (.builtin "object.__init__")))
    (tp_LastKind : PySem.W.mroIn K C_LastKind (.type "object") = some true)
    (kc_LastKind : PySem.W.keepIn K (.ref C_LastKind) = true)
    (pg_LastKind : PySem.W.plainGet K C_LastKind Str.empty = true)
    (hd_LastKind : PySem.W.hasDictIn K C_LastKind = true)
    (po_LastKind : PySem.W.plainOver K C_LastKind = true)
    (sa_LastKind : PySem.W.findIn K (.ref C_LastKind) "__setattr__" = some (some (.builtin "object.__setattr__")))
    (a_kL : PySem.W.findIn K (.ref C_LastKind) "keep" = some (some (.ref f_kL)))
    (i_kL : PySem.W.isFn K (.ref f_kL) = true)
    (l_kL : K.lookup f_kL = some ⟨oc_kL, od_kL, .func (PySem.W.fnOf "keep" "LastKind.keep" (defArgs sKeepL) (defBody sKeepL) (defScope sKeepL) .none kV_kL dc_kL pm_kL an_kL cd_kL ct_kL), sl_kL⟩)
    (c_kL : PySem.W.codeIn K cd_kL "LastKind.keep" = true)
    (k_kL : PySem.W.keepIn K (.ref f_kL) = true)
    (a_EndsKind : PySem.W.nsIn K mainGlobals "EndsKind" = some (some (.ref C_EndsKind)))
    (mk_EndsKind : PySem.W.makesIn K C_EndsKind = true)
    (in_EndsKind : PySem.W.findIn K (.ref C_EndsKind) "__init__" = some (some (.builtin "object.__init__")))
    (tp_EndsKind : PySem.W.mroIn K C_EndsKind (.type "object") = some true)
    (kc_EndsKind : PySem.W.keepIn K (.ref C_EndsKind) = true)
    (pg_EndsKind : PySem.W.plainGet K C_EndsKind Str.empty = true)
    (hd_EndsKind : PySem.W.hasDictIn K C_EndsKind = true)
    (po_EndsKind : PySem.W.plainOver K C_EndsKind = true)
    (sa_EndsKind : PySem.W.findIn K (.ref C_EndsKind) "__setattr__" = some (some (.builtin "object.__setattr__")))
    (a_kE : PySem.W.findIn K (.ref C_EndsKind) "keep" = some (some (.ref f_kE)))
    (i_kE : PySem.W.isFn K (.ref f_kE) = true)
    (l_kE : K.lookup f_kE = some ⟨oc_kE, od_kE, .func (PySem.W.fnOf "keep" "EndsKind.keep" (defArgs sKeepE) (defBody sKeepE) (defScope sKeepE) .none kV_kE dc_kE pm_kE an_kE cd_kE ct_kE), sl_kE⟩)
    (c_kE : PySem.W.codeIn K cd_kE "EndsKind.keep" = true)
    (k_kE : PySem.W.keepIn K (.ref f_kE) = true)
    (a_HeadsKind : PySem.W.nsIn K mainGlobals "HeadsKind" = some (some (.ref C_HeadsKind)))
    (mk_HeadsKind : PySem.W.makesIn K C_HeadsKind = true)
    (in_HeadsKind : PySem.W.findIn K (.ref C_HeadsKind) "__init__" = some (some (.builtin "object.__init__")))
    (tp_HeadsKind : PySem.W.mroIn K C_HeadsKind (.type "object") = some true)
    (kc_HeadsKind : PySem.W.keepIn K (.ref C_HeadsKind) = true)
    (pg_HeadsKind : PySem.W.plainGet K C_HeadsKind Str.empty = true)
    (hd_HeadsKind : PySem.W.hasDictIn K C_HeadsKind = true)
    (po_HeadsKind : PySem.W.plainOver K C_HeadsKind = true)
    (sa_HeadsKind : PySem.W.findIn K (.ref C_HeadsKind) "__setattr__" = some (some (.builtin "object.__setattr__")))
    (a_kH : PySem.W.findIn K (.ref C_HeadsKind) "keep" = some (some (.ref f_kH)))
    (i_kH : PySem.W.isFn K (.ref f_kH) = true)
    (l_kH : K.lookup f_kH = some ⟨oc_kH, od_kH, .func (PySem.W.fnOf "keep" "HeadsKind.keep" (defArgs sKeepH) (defBody sKeepH) (defScope sKeepH) .none kV_kH dc_kH pm_kH an_kH cd_kH ct_kH), sl_kH⟩)
    (c_kH : PySem.W.codeIn K cd_kH "HeadsKind.keep" = true)
    (k_kH : PySem.W.keepIn K (.ref f_kH) = true)
    (a_TailsKind : PySem.W.nsIn K mainGlobals "TailsKind" = some (some (.ref C_TailsKind)))
    (mk_TailsKind : PySem.W.makesIn K C_TailsKind = true)
    (in_TailsKind : PySem.W.findIn K (.ref C_TailsKind) "__init__" = some (some (.builtin "object.__init__")))
    (tp_TailsKind : PySem.W.mroIn K C_TailsKind (.type "object") = some true)
    (kc_TailsKind : PySem.W.keepIn K (.ref C_TailsKind) = true)
    (pg_TailsKind : PySem.W.plainGet K C_TailsKind Str.empty = true)
    (hd_TailsKind : PySem.W.hasDictIn K C_TailsKind = true)
    (po_TailsKind : PySem.W.plainOver K C_TailsKind = true)
    (sa_TailsKind : PySem.W.findIn K (.ref C_TailsKind) "__setattr__" = some (some (.builtin "object.__setattr__")))
    (a_kT : PySem.W.findIn K (.ref C_TailsKind) "keep" = some (some (.ref f_kT)))
    (i_kT : PySem.W.isFn K (.ref f_kT) = true)
    (l_kT : K.lookup f_kT = some ⟨oc_kT, od_kT, .func (PySem.W.fnOf "keep" "TailsKind.keep" (defArgs sKeepT) (defBody sKeepT) (defScope sKeepT) .none kV_kT dc_kT pm_kT an_kT cd_kT ct_kT), sl_kT⟩)
    (c_kT : PySem.W.codeIn K cd_kT "TailsKind.keep" = true)
    (k_kT : PySem.W.keepIn K (.ref f_kT) = true)
    (p_Kind : PySem.W.findIn K (.ref C_Kind) "plain" = some (some (.ref f_pl)))
    (p_BagKind : PySem.W.findIn K (.ref C_BagKind) "plain" = some (some (.ref f_pl)))
    (p_SetKind : PySem.W.findIn K (.ref C_SetKind) "plain" = some (some (.ref f_pl)))
    (p_FirstKind : PySem.W.findIn K (.ref C_FirstKind) "plain" = some (some (.ref f_pl)))
    (p_LastKind : PySem.W.findIn K (.ref C_LastKind) "plain" = some (some (.ref f_pl)))
    (p_EndsKind : PySem.W.findIn K (.ref C_EndsKind) "plain" = some (some (.ref f_pl)))
    (p_HeadsKind : PySem.W.findIn K (.ref C_HeadsKind) "plain" = some (some (.ref f_pl)))
    (p_TailsKind : PySem.W.findIn K (.ref C_TailsKind) "plain" = some (some (.ref f_pl)))
    (i_pl : PySem.W.isFn K (.ref f_pl) = true)
    (l_pl : K.lookup f_pl = some ⟨oc_pl, od_pl, .func (PySem.W.fnOf "plain" "Kind.plain" (defArgs sPlainM) (defBody sPlainM) (defScope sPlainM) .none kV_pl dc_pl pm_pl an_pl cd_pl ct_pl), sl_pl⟩)
    (c_pl : PySem.W.codeIn K cd_pl "Kind.plain" = true)
    (k_pl : PySem.W.keepIn K (.ref f_pl) = true)
    (t_nK : K.lookup Pt = none)
    (t_cd : PySem.W.codeHdIn K cB Pt = true)
    (n_a : PySem.W.nsIn K mainGlobals "KIND_NAMES" = some (some (.ref kn)))
    (n_l : K.lookup kn = some ⟨.type "tuple", odN, .seq #[.str "list" t0, .str "bag" t1, .str "set" t2, .str "first" t3, .str "last" t4, .str "ends" t5, .str "heads" t6, .str "tails" t7] nN, slN⟩)
    (b_a : PySem.W.nsIn K mainGlobals "BadKind" = some (some (.ref CB)))
    (b_l : K.lookup CB = some (excClassObj nm q CB NB bs bm true sn sub ab col dd m0 m1 m2 m3 m5 "ValueError.__new__"))
    (b_v : PySem.HandSPX.refsVE bm = true)
    (b_sa : PySem.W.findIn K (.ref CB) "__setattr__" = some (some (.builtin "object.__setattr__")))
    (b_ex : PySem.W.subIn K (.ref CB) (.type "BaseException") = some true)
    (b_ty : PySem.W.typeIn K (.ref CB) = some (.type "type"))
    (b_k : PySem.W.keepIn K (.ref CB) = true)
    (b_i : PySem.W.findIn K (.ref CB) "__init__" = some (some (.ref f_i)))
    (b_it : PySem.W.typeIn K (.ref f_i) = some (.type "function"))
    (b_il : K.lookup f_i = some ⟨oc_i, od_i, .func (PySem.W.ksFn "__init__" "BadKind.__init__" (defArgs sIni) (defBody sIni) (defScope sIni) .none kV_i dc_i pm_i an_i (.ref c_i) ct_i cc), sl_i⟩)
    (b_ic : PySem.W.codeIn K (.ref c_i) "BadKind.__init__" = true)
    (b_cl : K.lookup c_i = some ⟨ccl, cdd, .fields vsC, ccs⟩)
    (b_cf : vsC[2]? = some (.str file tf))
    (b_fi : ((PySem.Challenge.rw_movedstates_k07_sessions_cut_and_joined.prog.main.file : Str) == file) = true)
    (b_cc : K.lookup cc = some ⟨cl, cld, .cell (some (.ref CB)), csl⟩)
    (b_se : PySem.W.mroIn K CB (.ref CB) = some true)
    (b_ve : PySem.W.mroIn K CB (.type "ValueError") = some true)
    (b_op : PySem.W.nsIn K cStatics "thirdparty.any" = some none)
    (b_su : PySem.W.ks_superIn K CB CB "__init__" = some (some (.builtin "ValueError.__init__")))
    (b_cd : PySem.W.clsIn K CB = some cdB)
    (b_ga : PySem.W.findIn K (.ref CB) "__getattribute__" = some (some (.builtin "BaseException.__getattribute__")))
    (b_gt : PySem.W.findIn K (.ref CB) "__getattr__" = some none)
    (b_hd : PySem.W.hasDictIn K CB = true)
    (b_no : PySem.W.findIn K (.ref CB) "name" = some none)
    (b_ss : PySem.W.subIn K (.ref CB) (.ref CB) = some true)
    (w_hn : PySem.W.specialIn K (.builtin "object.__class__") "__get__" = some (some (.builtin "getset_descriptor.__get__")))
    (w_ht : PySem.W.takesIn K (.builtin "object.__class__") = some true)
    (w_M : PySem.W.nsIn K mainGlobals "MovedError" = some (some (.ref CM)))
    (g_a : PySem.W.nsIn K mainGlobals "BadGap" = some (some (.ref CG)))
    (g_ex : PySem.W.subIn K (.ref CG) (.type "BaseException") = some true)
    (g_ty : PySem.W.typeIn K (.ref CG) = some (.type "type"))
    (g_k : PySem.W.keepIn K (.ref CG) = true)
    (g_ga : PySem.W.findIn K (.ref CG) "__getattribute__" = some (some (.builtin "BaseException.__getattribute__")))
    (g_gt : PySem.W.findIn K (.ref CG) "__getattr__" = some none)
    (g_hd : PySem.W.hasDictIn K CG = true)
    (g_ss : PySem.W.subIn K (.ref CG) (.ref CG) = some true)
    (g_hc : PySem.W.findIn K (.ref CG) "__class__" = some (some (.builtin "object.__class__")))
    (g_ho : PySem.W.mroIn K CG (.type "object") = some true)
    (g_ce : (PySem.W.clsIn K CG).isSome = true)
    (g_l : K.lookup CG = some (excClassObj nmg qg CG NBg bsg bmg true sng subg abg colg ddg m0g m1g m2g m3g m5g "ValueError.__new__"))
    (g_v : PySem.HandSPX.refsVE bmg = true)
    (g_sa : PySem.W.findIn K (.ref CG) "__setattr__" = some (some (.builtin "object.__setattr__")))
    (g_i : PySem.W.findIn K (.ref CG) "__init__" = some (some (.ref f_g)))
    (g_it : PySem.W.typeIn K (.ref f_g) = some (.type "function"))
    (g_il : K.lookup f_g = some ⟨oc_g, od_g, .func (PySem.W.ksFn "__init__" "BadGap.__init__" (defArgs sInig) (defBody sInig) (defScope sInig) .none kV_g dc_g pm_g an_g (.ref c_g) ct_g ccg), sl_g⟩)
    (g_ic : PySem.W.codeIn K (.ref c_g) "BadGap.__init__" = true)
    (g_cl : K.lookup c_g = some ⟨cclg, cddg, .fields vsCg, ccsg⟩)
    (g_cf : vsCg[2]? = some (.str fileg tfg))
    (g_fi : ((PySem.Challenge.rw_movedstates_k07_sessions_cut_and_joined.prog.main.file : Str) == fileg) = true)
    (g_cc : K.lookup ccg = some ⟨clg, cldg, .cell (some (.ref CG)), cslg⟩)
    (g_se : PySem.W.mroIn K CG (.ref CG) = some true)
    (g_ve : PySem.W.mroIn K CG (.type "ValueError") = some true)
    (g_su : PySem.W.ks_superIn K CG CG "__init__" = some (some (.builtin "ValueError.__init__")))
    (g_cd : PySem.W.clsIn K CG = some cdBg)
    (g_no : PySem.W.findIn K (.ref CG) "gap" = some none)
    (y_a : PySem.W.nsIn K mainGlobals "NotFitting" = some (some (.ref CN)))
    (y_ex : PySem.W.subIn K (.ref CN) (.type "BaseException") = some true)
    (y_ty : PySem.W.typeIn K (.ref CN) = some (.type "type"))
    (y_k : PySem.W.keepIn K (.ref CN) = true)
    (y_ga : PySem.W.findIn K (.ref CN) "__getattribute__" = some (some (.builtin "BaseException.__getattribute__")))
    (y_gt : PySem.W.findIn K (.ref CN) "__getattr__" = some none)
    (y_hd : PySem.W.hasDictIn K CN = true)
    (y_ss : PySem.W.subIn K (.ref CN) (.ref CN) = some true)
    (y_hc : PySem.W.findIn K (.ref CN) "__class__" = some (some (.builtin "object.__class__")))
    (y_ho : PySem.W.mroIn K CN (.type "object") = some true)
    (y_ce : (PySem.W.clsIn K CN).isSome = true)
    (y_xi : PySem.W.excIn K CN [.type "ValueError", .type "Exception", .type "BaseException", .type "object"] "ValueError.__new__" = true)
    (s_gb : PySem.W.subIn K (.ref CG) (.ref CB) = some false)
    (s_nb : PySem.W.subIn K (.ref CN) (.ref CB) = some false)
    (s_ng : PySem.W.subIn K (.ref CN) (.ref CG) = some false)
    (i_g : PySem.W.kitOne K (.ref CG) (.ref CM) = some true)
    (i_n : PySem.W.kitOne K (.ref CN) (.ref CM) = some true)
    (a_cut_sessions : PySem.W.nsIn K mainGlobals "cut_sessions" = some (some (.ref f_cut_sessions)))
    (l_cut_sessions : K.lookup f_cut_sessions = some ⟨oc_cut_sessions, od_cut_sessions, .func (PySem.W.fnOf "cut_sessions" "cut_sessions" (defArgs sCS) (defBody sCS) (defScope sCS) .none kV_cut_sessions dc_cut_sessions pm_cut_sessions an_cut_sessions cd_cut_sessions ct_cut_sessions), sl_cut_sessions⟩)
    (c_cut_sessions : PySem.W.codeIn K cd_cut_sessions "cut_sessions" = true)
    (k_cut_sessions : PySem.W.keepIn K (.ref f_cut_sessions) = true)
    (a_told_sessions : PySem.W.nsIn K mainGlobals "told_sessions" = some (some (.ref f_told_sessions)))
    (l_told_sessions : K.lookup f_told_sessions = some ⟨oc_told_sessions, od_told_sessions, .func (PySem.W.fnOf "told_sessions" "told_sessions" (defArgs sTS) (defBody sTS) (defScope sTS) .none kV_told_sessions dc_told_sessions pm_told_sessions an_told_sessions cd_told_sessions ct_told_sessions), sl_told_sessions⟩)
    (c_told_sessions : PySem.W.codeIn K cd_told_sessions "told_sessions" = true)
    (k_told_sessions : PySem.W.keepIn K (.ref f_told_sessions) = true)
    (a_joined_sessions : PySem.W.nsIn K mainGlobals "joined_sessions" = some (some (.ref f_joined_sessions)))
    (l_joined_sessions : K.lookup f_joined_sessions = some ⟨oc_joined_sessions, od_joined_sessions, .func (PySem.W.fnOf "joined_sessions" "joined_sessions" (defArgs sJS) (defBody sJS) (defScope sJS) .none kV_joined_sessions dc_joined_sessions pm_joined_sessions an_joined_sessions cd_joined_sessions ct_joined_sessions), sl_joined_sessions⟩)
    (c_joined_sessions : PySem.W.codeIn K cd_joined_sessions "joined_sessions" = true)
    (k_joined_sessions : PySem.W.keepIn K (.ref f_joined_sessions) = true) :
    LamX.LawAtS rwK w K CX0 10 63 "_law_script" mg fa h := by
  cases hfa.symm.trans (PySem.W.mg_of X G a_law)
  have B : Bi mg := ⟨PySem.W.mg_none_of X G z_len, PySem.W.mg_none_of X G z_range, PySem.W.mg_none_of X G z_enumerate, PySem.W.mg_none_of X G z_abs, PySem.W.mg_none_of X G z_int, PySem.W.mg_none_of X G z_list, PySem.W.mg_none_of X G z_tuple, PySem.W.mg_none_of X G z_sorted, PySem.W.mg_none_of X G z_isinstance, PySem.W.mg_none_of X G z_str, PySem.W.mg_none_of X G z_bool, PySem.W.mg_none_of X G z_super, PySem.W.mg_none_of X G z_ValueError⟩
  have F_w_stream := fun_mk (st := sStream) l_w_stream c_w_stream k_w_stream
  have b_w_stream := F_w_stream.binds (ps := ["_law_script"]) fun _ _ _ _ _ _ us hl => match us, hl with | [_], _ => rfl
  have F_w_draw := fun_mk (st := sDraw) l_w_draw c_w_draw k_w_draw
  have b_w_draw := F_w_draw.binds (ps := ["_law_stream_here", "_law_many"]) fun _ _ _ _ _ _ us hl => match us, hl with | [_, _], _ => rfl
  have F_w_wide := fun_mk (st := sWide) l_w_wide c_w_wide k_w_wide
  have b_w_wide := F_w_wide.binds (ps := ["_law_stream_here"]) fun _ _ _ _ _ _ us hl => match us, hl with | [_], _ => rfl
  have F_w_kind := fun_mk (st := sKind) l_w_kind c_w_kind k_w_kind
  have b_w_kind := F_w_kind.binds (ps := ["_law_stream_here"]) fun _ _ _ _ _ _ us hl => match us, hl with | [_], _ => rfl
  have F_w_value := fun_mk (st := sValue) l_w_value c_w_value k_w_value
  have b_w_value := F_w_value.binds (ps := ["_law_stream_here", "_law_style"]) fun _ _ _ _ _ _ us hl => match us, hl with | [_, _], _ => rfl
  have F_w_span := fun_mk (st := sSpan) l_w_span c_w_span k_w_span
  have b_w_span := F_w_span.binds (ps := ["_law_stream_here"]) fun _ _ _ _ _ _ us hl => match us, hl with | [_], _ => rfl
  have F_w_step := fun_mk (st := sStep) l_w_step c_w_step k_w_step
  have b_w_step := F_w_step.binds (ps := ["_law_stream_here", "_law_span_here"]) fun _ _ _ _ _ _ us hl => match us, hl with | [_, _], _ => rfl
  have F_w_letters := fun_mk (st := sLet) l_w_letters c_w_letters k_w_letters
  have b_w_letters := F_w_letters.binds (ps := ["_law_stream_here", "_law_count", "_law_span_here", "_law_style"]) fun _ _ _ _ _ _ us hl => match us, hl with | [_, _, _, _], _ => rfl
  have F_w_plain := fun_mk (st := sPlain) l_w_plain c_w_plain k_w_plain
  have b_w_plain := F_w_plain.binds (ps := ["_law_kind_here", "_law_word"]) fun _ _ _ _ _ _ us hl => match us, hl with | [_, _], _ => rfl
  have F_w_cuts := fun_mk (st := sCuts) l_w_cuts c_w_cuts k_w_cuts
  have b_w_cuts := F_w_cuts.binds (ps := ["_law_kind_here", "_law_letters_here", "_law_span_here"]) fun _ _ _ _ _ _ us hl => match us, hl with | [_, _, _], _ => rfl
  have F_w_bad_name := fun_mk (st := sBad) l_w_bad_name c_w_bad_name k_w_bad_name
  have b_w_bad_name := F_w_bad_name.binds (ps := ["_law_stream_here"]) fun _ _ _ _ _ _ us hl => match us, hl with | [_], _ => rfl
  have F_w_drawn_mark := fun_mk (st := sMk) l_w_drawn_mark c_w_drawn_mark k_w_drawn_mark
  have b_w_drawn_mark := F_w_drawn_mark.binds (ps := ["_law_stream_here", "_law_letters_here", "_law_span_here"]) fun _ _ _ _ _ _ us hl => match us, hl with | [_, _, _], _ => rfl
  have F_w_wrong := fun_mk (st := sWr) l_w_wrong c_w_wrong k_w_wrong
  have b_w_wrong := F_w_wrong.binds (ps := ["_law_stream_here", "_law_letters_here"]) fun _ _ _ _ _ _ us hl => match us, hl with | [_, _], _ => rfl
  have F_w_last_told := fun_mk (st := sLT) l_w_last_told c_w_last_told k_w_last_told
  have b_w_last_told := F_w_last_told.binds (ps := ["_law_due", "_law_mark", "_law_span_here"]) fun _ _ _ _ _ _ us hl => match us, hl with | [_, _, _], _ => rfl
  have F_w_behind := fun_mk (st := sBe) l_w_behind c_w_behind k_w_behind
  have b_w_behind := F_w_behind.binds (ps := ["_law_letters_here", "_law_place", "_law_shift"]) fun _ _ _ _ _ _ us hl => match us, hl with | [_, _, _], _ => rfl
  have F_w_whole := fun_mk (st := sWo) l_w_whole c_w_whole k_w_whole
  have b_w_whole := F_w_whole.binds (ps := ["_law_letters_here", "_law_place", "_law_shift"]) fun _ _ _ _ _ _ us hl => match us, hl with | [_, _, _], _ => rfl
  have F_w_refused := fun_mk (st := sRef) l_w_refused c_w_refused k_w_refused
  have b_w_refused := F_w_refused.binds (ps := ["_law_door", "_law_kind_here", "_law_letters_here", "_law_span_here"]) fun _ _ _ _ _ _ us hl => match us, hl with | [_, _, _, _], _ => rfl
  have F_w_unjoined := fun_mk (st := sUn) l_w_unjoined c_w_unjoined k_w_unjoined
  have b_w_unjoined := F_w_unjoined.binds (ps := ["_law_kind_here", "_law_left", "_law_right", "_law_span_here"]) fun _ _ _ _ _ _ us hl => match us, hl with | [_, _, _, _], _ => rfl
  have F_w_joins := fun_mk (st := sJo) l_w_joins c_w_joins k_w_joins
  have b_w_joins := F_w_joins.binds (ps := ["_law_kind_here", "_law_letters_here", "_law_place", "_law_span_here"]) fun _ _ _ _ _ _ us hl => match us, hl with | [_, _, _, _], _ => rfl
  have F_w_doors := fun_mk (st := sDo) l_w_doors c_w_doors k_w_doors
  have b_w_doors := F_w_doors.binds (ps := ["_law_kind_here", "_law_wrong_here", "_law_span_here", "_law_below", "_law_name"]) fun _ _ _ _ _ _ us hl => match us, hl with | [_, _, _, _, _], _ => rfl
  have F_law := fun_mk (st := sLaw) l_law c_law k_law
  have b_law := F_law.binds (ps := ["_law_script"]) fun _ _ _ _ _ _ us hl => match us, hl with | [_], _ => rfl
  have F_least_places := fun_mk (st := sLeast) l_least_places c_least_places k_least_places
  have b_least_places := F_least_places.binds (ps := ["word"]) fun _ _ _ _ _ _ us hl => match us, hl with | [_], _ => rfl
  have F_greatest_places := fun_mk (st := sGreat) l_greatest_places c_greatest_places k_greatest_places
  have b_greatest_places := F_greatest_places.binds (ps := ["word"]) fun _ _ _ _ _ _ us hl => match us, hl with | [_], _ => rfl
  have F_kind_named := fun_mk (st := sKN) l_kind_named c_kind_named k_kind_named
  have b_kind_named := F_kind_named.binds (ps := ["name"]) fun _ _ _ _ _ _ us hl => match us, hl with | [_], _ => rfl
  have F_checked_kind := fun_mk (st := sCK) l_checked_kind c_checked_kind k_checked_kind
  have b_checked_kind := F_checked_kind.binds (ps := ["kind", "gap"]) fun _ _ _ _ _ _ us hl => match us, hl with | [_, _], _ => rfl
  have F_complete := fun_mk (st := sCp) l_complete c_complete k_complete
  have b_complete := F_complete.binds (ps := ["letters"]) fun _ _ _ _ _ _ us hl => match us, hl with | [_], _ => rfl
  have F_chains_of := fun_mk (st := sCO) l_chains_of c_chains_of k_chains_of
  have b_chains_of := F_chains_of.binds (ps := ["letters", "gap"]) fun _ _ _ _ _ _ us hl => match us, hl with | [_, _], _ => rfl
  have F_sessions_within := fun_mk (st := sSW) l_sessions_within c_sessions_within k_sessions_within
  have b_sessions_within := F_sessions_within.binds (ps := ["named", "letters", "gap"]) fun _ _ _ _ _ _ us hl => match us, hl with | [_, _, _], _ => rfl
  have F_session_of := fun_mk (st := sSO) l_session_of c_session_of k_session_of
  have b_session_of := F_session_of.binds (ps := ["named", "chain"]) fun _ _ _ _ _ _ us hl => match us, hl with | [_, _], _ => rfl
  have F_raised_session := fun_mk (st := sRS) l_raised_session c_raised_session k_raised_session
  have b_raised_session := F_raised_session.binds (ps := ["session", "count"]) fun _ _ _ _ _ _ us hl => match us, hl with | [_, _], _ => rfl
  have F_told_part := fun_mk (st := sTP) l_told_part c_told_part k_told_part
  have b_told_part := F_told_part.binds (ps := ["sessions", "mark", "gap"]) fun _ _ _ _ _ _ us hl => match us, hl with | [_, _, _], _ => rfl
  have F_closed_by := fun_mk (st := sCB) l_closed_by c_closed_by k_closed_by
  have b_closed_by := F_closed_by.binds (ps := ["mark", "session", "gap"]) fun _ _ _ _ _ _ us hl => match us, hl with | [_, _, _], _ => rfl
  have F_kO := fun_mk (st := sKeepO) l_kO c_kO k_kO
  have b_kO := F_kO.binds (ps := ["self", "word"]) fun _ _ _ _ _ _ us hl => match us, hl with | [_, _], _ => rfl
  have cl_Kind : Cls K C_Kind := ⟨pg_Kind, hd_Kind, po_Kind, sa_Kind⟩
  have F_kB : FunC K "keep" "BagKind.keep" sKeepB f_kB _ cB := ⟨_, _, _, _, _, _, _, _, rfl, l_kB, c_kB⟩
  have F_kB2 := fun_mk (st := sKeepB) l_kB c_kB k_kB
  have b_kB := F_kB2.binds (ps := ["self", "word"]) fun _ _ _ _ _ _ us hl => match us, hl with | [_, _], _ => rfl
  have cl_BagKind : Cls K C_BagKind := ⟨pg_BagKind, hd_BagKind, po_BagKind, sa_BagKind⟩
  have F_kS := fun_mk (st := sKeepS) l_kS c_kS k_kS
  have b_kS := F_kS.binds (ps := ["self", "word"]) fun _ _ _ _ _ _ us hl => match us, hl with | [_, _], _ => rfl
  have cl_SetKind : Cls K C_SetKind := ⟨pg_SetKind, hd_SetKind, po_SetKind, sa_SetKind⟩
  have F_kF := fun_mk (st := sKeepF) l_kF c_kF k_kF
  have b_kF := F_kF.binds (ps := ["self", "word"]) fun _ _ _ _ _ _ us hl => match us, hl with | [_, _], _ => rfl
  have cl_FirstKind : Cls K C_FirstKind := ⟨pg_FirstKind, hd_FirstKind, po_FirstKind, sa_FirstKind⟩
  have F_kL := fun_mk (st := sKeepL) l_kL c_kL k_kL
  have b_kL := F_kL.binds (ps := ["self", "word"]) fun _ _ _ _ _ _ us hl => match us, hl with | [_, _], _ => rfl
  have cl_LastKind : Cls K C_LastKind := ⟨pg_LastKind, hd_LastKind, po_LastKind, sa_LastKind⟩
  have F_kE := fun_mk (st := sKeepE) l_kE c_kE k_kE
  have b_kE := F_kE.binds (ps := ["self", "word"]) fun _ _ _ _ _ _ us hl => match us, hl with | [_, _], _ => rfl
  have cl_EndsKind : Cls K C_EndsKind := ⟨pg_EndsKind, hd_EndsKind, po_EndsKind, sa_EndsKind⟩
  have F_kH := fun_mk (st := sKeepH) l_kH c_kH k_kH
  have b_kH := F_kH.binds (ps := ["self", "word"]) fun _ _ _ _ _ _ us hl => match us, hl with | [_, _], _ => rfl
  have cl_HeadsKind : Cls K C_HeadsKind := ⟨pg_HeadsKind, hd_HeadsKind, po_HeadsKind, sa_HeadsKind⟩
  have F_kT := fun_mk (st := sKeepT) l_kT c_kT k_kT
  have b_kT := F_kT.binds (ps := ["self", "word"]) fun _ _ _ _ _ _ us hl => match us, hl with | [_, _], _ => rfl
  have cl_TailsKind : Cls K C_TailsKind := ⟨pg_TailsKind, hd_TailsKind, po_TailsKind, sa_TailsKind⟩
  have F_pl := fun_mk (st := sPlainM) l_pl c_pl k_pl
  have b_pl := F_pl.binds (ps := ["self", "word"]) fun _ _ _ _ _ _ us hl => match us, hl with | [_, _], _ => rfl
  have tN : ∀ H : Hp, SqT K H kn kindNames := fun H => .inr ⟨_, _, _, n_l, rfl, rfl, by show 8 ≤ sizeLine; decide, .cons ⟨_, rfl⟩ (.cons ⟨_, rfl⟩ (.cons ⟨_, rfl⟩ (.cons ⟨_, rfl⟩ (.cons ⟨_, rfl⟩ (.cons ⟨_, rfl⟩ (.cons ⟨_, rfl⟩ (.cons ⟨_, rfl⟩ .nil)))))))⟩
  have OE : OexC K CB := ⟨⟨_, _, _, _, _, _, _, _, _, _, _, _, _, _, _, b_l, b_v⟩, b_sa, b_ex, b_ty, b_k⟩
  have U : SupK rwK.prog K f_i c_i cc CB := ⟨OE, ⟨_, _, _, _, _, _, b_cl, b_cf, b_fi⟩, ⟨_, _, _, b_cc⟩, by decide +kernel, b_se, b_ve, b_op, b_su, ⟨_, b_cd⟩⟩
  have OEg : OexC K CG := ⟨⟨_, _, _, _, _, _, _, _, _, _, _, _, _, _, _, g_l, g_v⟩, g_sa, g_ex, g_ty, g_k⟩
  have Ug : SupK rwK.prog K f_g c_g ccg CG := ⟨OEg, ⟨_, _, _, _, _, _, g_cl, g_cf, g_fi⟩, ⟨_, _, _, g_cc⟩, by decide +kernel, g_se, g_ve, b_op, g_su, ⟨_, g_cd⟩⟩
  have EXg : ExcG K CG := ⟨⟨g_ga, g_gt, g_ex, g_hd, g_hc, w_hn, w_ht, g_ho⟩, g_ce⟩
  have EXy : ExcG K CN := ⟨⟨y_ga, y_gt, y_ex, y_hd, y_hc, w_hn, w_ht, y_ho⟩, y_ce⟩
  have NTy : NTx K mg "NotFitting" CN := ⟨y_xi, PySem.W.mg_of X G y_a, y_k, y_ex, y_ty⟩
  have F_cut_sessions := fun_mk (st := sCS) l_cut_sessions c_cut_sessions k_cut_sessions
  have F_told_sessions := fun_mk (st := sTS) l_told_sessions c_told_sessions k_told_sessions
  have F_joined_sessions := fun_mk (st := sJS) l_joined_sessions c_joined_sessions k_joined_sessions
  have RT : RTx K mg CB CG CN CM := ⟨PySem.W.mg_of X G b_a, PySem.W.mg_of X G g_a, PySem.W.mg_of X G y_a, PySem.W.mg_of X G w_M, ⟨b_ga, b_gt, b_ex, b_hd⟩, b_no, ⟨g_ga, g_gt, g_ex, g_hd⟩, g_no, PySem.W.exm_ref b_ex b_hd b_ty b_ss, PySem.W.exm_ref b_ex b_hd b_ty s_gb, PySem.W.exm_ref g_ex g_hd g_ty g_ss, PySem.W.exm_ref b_ex b_hd b_ty s_nb, PySem.W.exm_ref g_ex g_hd g_ty s_ng, PySem.W.exm_ref y_ex y_hd y_ty y_ss, EXg, EXy, i_g, i_n⟩
  have m0 : ∀ k : Kd, Mk0 K (clsOf C_Kind C_BagKind C_SetKind C_FirstKind C_LastKind C_EndsKind C_HeadsKind C_TailsKind k) := fun k => by
    cases k
    · exact ⟨mk_Kind, in_Kind, tp_Kind, kc_Kind⟩
    · exact ⟨mk_BagKind, in_BagKind, tp_BagKind, kc_BagKind⟩
    · exact ⟨mk_SetKind, in_SetKind, tp_SetKind, kc_SetKind⟩
    · exact ⟨mk_FirstKind, in_FirstKind, tp_FirstKind, kc_FirstKind⟩
    · exact ⟨mk_LastKind, in_LastKind, tp_LastKind, kc_LastKind⟩
    · exact ⟨mk_EndsKind, in_EndsKind, tp_EndsKind, kc_EndsKind⟩
    · exact ⟨mk_HeadsKind, in_HeadsKind, tp_HeadsKind, kc_HeadsKind⟩
    · exact ⟨mk_TailsKind, in_TailsKind, tp_TailsKind, kc_TailsKind⟩
  have gC : ∀ k : Kd, mg k.cn = some (.ref (clsOf C_Kind C_BagKind C_SetKind C_FirstKind C_LastKind C_EndsKind C_HeadsKind C_TailsKind k)) := fun k => by
    cases k
    · exact PySem.W.mg_of X G a_Kind
    · exact PySem.W.mg_of X G a_BagKind
    · exact PySem.W.mg_of X G a_SetKind
    · exact PySem.W.mg_of X G a_FirstKind
    · exact PySem.W.mg_of X G a_LastKind
    · exact PySem.W.mg_of X G a_EndsKind
    · exact PySem.W.mg_of X G a_HeadsKind
    · exact PySem.W.mg_of X G a_TailsKind
  refine ⟨PySem.W.fnOf "law" "law" (defArgs sLaw) (defBody sLaw) (defScope sLaw) .none kV_law dc_law pm_law an_law cd_law ct_law, [(cB, Pt)], spLaw K [(Pt, lamQ)], fun p hp => by rw [List.mem_singleton.mp hp]; exact hPt, fun p hp => by rw [List.mem_singleton.mp hp]; exact t_nK, fun p hp => by rw [List.mem_singleton.mp hp]; exact PySem.W.codeHd_of_K X t_cd, fun s u => .of_eq rfl, fun H a ns hl _ hH hS => ⟨a, ns, rfl, hS, hl, fun p hp => by rw [List.mem_singleton.mp hp]; exact LamX.TabS.nil (hH (cB, Pt) (List.mem_singleton.mpr rfl)), fun _ => rfl⟩, fun base KB GB TB => ?_⟩
  have TBb := TB (cB, Pt) (List.mem_singleton.mpr rfl)
  have c_least_placesx : CalX CX0 rwK.prog w K mg base 1 "least_places" (spLeast K) := cal_of F_least_places (PySem.W.mg_of X G a_least_places) b_least_places (ok_least F_least_places B)
  have c_greatest_placesx : CalX CX0 rwK.prog w K mg base 1 "greatest_places" (spGreat K) := cal_of F_greatest_places (PySem.W.mg_of X G a_greatest_places) b_greatest_places (ok_great F_greatest_places B)
  have mKeep : ∀ k : Kd, MetX CX0 rwK.prog w K mg base 2 (clsOf C_Kind C_BagKind C_SetKind C_FirstKind C_LastKind C_EndsKind C_HeadsKind C_TailsKind k) "keep" (spKeep K [(Pt, lamQ)] k) := fun k => by
    cases k
    · exact ⟨_, _, _, cl_Kind, ⟨a_kO, i_kO, k_kO⟩, ok_keepO F_kO B, b_kO⟩
    · exact ⟨_, _, _, cl_BagKind, ⟨a_kB, i_kB, k_kB⟩, ok_keepB F_kB B TBb, b_kB⟩
    · exact ⟨_, _, _, cl_SetKind, ⟨a_kS, i_kS, k_kS⟩, ok_keepS F_kS B c_least_placesx, b_kS⟩
    · exact ⟨_, _, _, cl_FirstKind, ⟨a_kF, i_kF, k_kF⟩, ok_keepF F_kF B, b_kF⟩
    · exact ⟨_, _, _, cl_LastKind, ⟨a_kL, i_kL, k_kL⟩, ok_keepL F_kL B, b_kL⟩
    · exact ⟨_, _, _, cl_EndsKind, ⟨a_kE, i_kE, k_kE⟩, ok_keepE F_kE B, b_kE⟩
    · exact ⟨_, _, _, cl_HeadsKind, ⟨a_kH, i_kH, k_kH⟩, ok_keepH F_kH B c_least_placesx, b_kH⟩
    · exact ⟨_, _, _, cl_TailsKind, ⟨a_kT, i_kT, k_kT⟩, ok_keepT F_kT B c_greatest_placesx, b_kT⟩
  have mPlain : ∀ k : Kd, MetX CX0 rwK.prog w K mg base 3 (clsOf C_Kind C_BagKind C_SetKind C_FirstKind C_LastKind C_EndsKind C_HeadsKind C_TailsKind k) "plain" (spPlainM K (clsOf C_Kind C_BagKind C_SetKind C_FirstKind C_LastKind C_EndsKind C_HeadsKind C_TailsKind) [(Pt, lamQ)] k) := fun k => by
    have kk := ok_plainM (cls := clsOf C_Kind C_BagKind C_SetKind C_FirstKind C_LastKind C_EndsKind C_HeadsKind C_TailsKind) F_pl B k (mKeep k)
    cases k
    · exact ⟨_, _, _, cl_Kind, ⟨p_Kind, i_pl, k_pl⟩, kk, b_pl⟩
    · exact ⟨_, _, _, cl_BagKind, ⟨p_BagKind, i_pl, k_pl⟩, kk, b_pl⟩
    · exact ⟨_, _, _, cl_SetKind, ⟨p_SetKind, i_pl, k_pl⟩, kk, b_pl⟩
    · exact ⟨_, _, _, cl_FirstKind, ⟨p_FirstKind, i_pl, k_pl⟩, kk, b_pl⟩
    · exact ⟨_, _, _, cl_LastKind, ⟨p_LastKind, i_pl, k_pl⟩, kk, b_pl⟩
    · exact ⟨_, _, _, cl_EndsKind, ⟨p_EndsKind, i_pl, k_pl⟩, kk, b_pl⟩
    · exact ⟨_, _, _, cl_HeadsKind, ⟨p_HeadsKind, i_pl, k_pl⟩, kk, b_pl⟩
    · exact ⟨_, _, _, cl_TailsKind, ⟨p_TailsKind, i_pl, k_pl⟩, kk, b_pl⟩
  have KT : KTx rwK.prog w K mg base (clsOf C_Kind C_BagKind C_SetKind C_FirstKind C_LastKind C_EndsKind C_HeadsKind C_TailsKind) CB := ⟨m0, gC, ⟨kn, PySem.W.mg_of X G n_a, tN⟩, OE, PySem.W.mg_of X G b_a, ⟨f_i, _, b_i, b_it, ok_bini b_il b_ic U B.super b_no, bind_bini⟩⟩
  have GTg : GTx rwK.prog w K mg base CG := ⟨OEg, PySem.W.mg_of X G g_a, ⟨f_g, _, g_i, g_it, ok_inig g_il g_ic Ug B.super g_no, bind_inig⟩⟩
  have c_kind_namedx : CalX (L2.CX rwK.prog w) rwK.prog w K mg base 3 "kind_named" (spKN (clsOf C_Kind C_BagKind C_SetKind C_FirstKind C_LastKind C_EndsKind C_HeadsKind C_TailsKind) CB) := cal_of F_kind_named (PySem.W.mg_of X G a_kind_named) b_kind_named (ok_kn F_kind_named B KT)
  have c_w_streamx : CalX CX0 rwK.prog w K mg base 1 "_law_stream" (spStream K) := cal_of F_w_stream (PySem.W.mg_of X G a_w_stream) b_w_stream (ok_stream F_w_stream B)
  have c_w_drawx : CalX CX0 rwK.prog w K mg base 1 "_law_draw" spDraw := cal_of F_w_draw (PySem.W.mg_of X G a_w_draw) b_w_draw (ok_draw F_w_draw B)
  have c_w_widex : CalX CX0 rwK.prog w K mg base 2 "_law_wide" spWide := cal_of F_w_wide (PySem.W.mg_of X G a_w_wide) b_w_wide (ok_wide F_w_wide B c_w_drawx)
  have c_w_valuex : CalX CX0 rwK.prog w K mg base 3 "_law_value" spValue := cal_of F_w_value (PySem.W.mg_of X G a_w_value) b_w_value (ok_value F_w_value B c_w_drawx c_w_widex)
  have c_w_kindx : CalX CX0 rwK.prog w K mg base 2 "_law_kind" spKind := cal_of F_w_kind (PySem.W.mg_of X G a_w_kind) b_w_kind (ok_kind F_w_kind B c_w_drawx)
  have c_w_spanx : CalX CX0 rwK.prog w K mg base 2 "_law_span" spSpan := cal_of F_w_span (PySem.W.mg_of X G a_w_span) b_w_span (ok_span F_w_span B c_w_drawx)
  have c_w_stepx : CalX CX0 rwK.prog w K mg base 2 "_law_step" spStep := cal_of F_w_step (PySem.W.mg_of X G a_w_step) b_w_step (ok_step F_w_step B c_w_drawx)
  have c_w_lettersx : CalX CX0 rwK.prog w K mg base 4 "_law_letters" spLet := cal_of F_w_letters (PySem.W.mg_of X G a_w_letters) b_w_letters (ok_let F_w_letters B c_w_valuex c_w_stepx)
  have c_chains_ofx : CalX CX0 rwK.prog w K mg base 1 "chains_of" spCO := cal_of F_chains_of (PySem.W.mg_of X G a_chains_of) b_chains_of (ok_co F_chains_of B)
  have c_session_ofx : CalX CX0 rwK.prog w K mg base 4 "session_of" (spSO K [(Pt, lamQ)] (clsOf C_Kind C_BagKind C_SetKind C_FirstKind C_LastKind C_EndsKind C_HeadsKind C_TailsKind)) := cal_of F_session_of (PySem.W.mg_of X G a_session_of) b_session_of (ok_so F_session_of B mPlain)
  have c_sessions_withinx : CalX CX0 rwK.prog w K mg base 5 "sessions_within" (spSW [(Pt, lamQ)] (clsOf C_Kind C_BagKind C_SetKind C_FirstKind C_LastKind C_EndsKind C_HeadsKind C_TailsKind)) := cal_of F_sessions_within (PySem.W.mg_of X G a_sessions_within) b_sessions_within (ok_sw F_sessions_within B c_chains_ofx c_session_ofx)
  have c_completex : CalX CX0 rwK.prog w K mg base 1 "complete" spCp := cal_of F_complete (PySem.W.mg_of X G a_complete) b_complete (ok_cp F_complete B (PySem.W.mg_none_of X G z_all) (PySem.W.mg_none_of X G z_zip))
  have c_closed_byx : CalX CX0 rwK.prog w K mg base 1 "closed_by" spCB := cal_of F_closed_by (PySem.W.mg_of X G a_closed_by) b_closed_by (ok_cb F_closed_by B)
  have c_raised_sessionx : CalX CX0 rwK.prog w K mg base 1 "raised_session" spRS := cal_of F_raised_session (PySem.W.mg_of X G a_raised_session) b_raised_session (ok_rs F_raised_session B)
  have c_told_partx : CalX CX0 rwK.prog w K mg base 2 "told_part" spTP := cal_of F_told_part (PySem.W.mg_of X G a_told_part) b_told_part (ok_tp F_told_part B c_closed_byx)
  have c_checked_kindx : CalX (L2.CX rwK.prog w) rwK.prog w K mg base 4 "checked_kind" (spCK (clsOf C_Kind C_BagKind C_SetKind C_FirstKind C_LastKind C_EndsKind C_HeadsKind C_TailsKind) CB CG) := cal_of F_checked_kind (PySem.W.mg_of X G a_checked_kind) b_checked_kind (ok_ck F_checked_kind B GTg c_kind_namedx)
  have c_cut_sessionsx : KgX rwK.prog w K mg base 6 "cut_sessions" (spCS [(Pt, lamQ)] (clsOf C_Kind C_BagKind C_SetKind C_FirstKind C_LastKind C_EndsKind C_HeadsKind C_TailsKind) CB CG CN) 2 := ⟨_, _, _, _, ok_cs F_cut_sessions B NTy c_checked_kindx c_completex c_sessions_withinx, PySem.W.mg_of X G a_cut_sessions, k_cut_sessions, kg_cut_sessions⟩
  have c_told_sessionsx : KgX rwK.prog w K mg base 7 "told_sessions" (spTS [(Pt, lamQ)] (clsOf C_Kind C_BagKind C_SetKind C_FirstKind C_LastKind C_EndsKind C_HeadsKind C_TailsKind) CB CG CN) 3 := ⟨_, _, _, _, ok_ts F_told_sessions B c_cut_sessionsx c_told_partx, PySem.W.mg_of X G a_told_sessions, k_told_sessions, kg_told_sessions⟩
  have c_joined_sessionsx : KgX rwK.prog w K mg base 6 "joined_sessions" (spJS [(Pt, lamQ)] (clsOf C_Kind C_BagKind C_SetKind C_FirstKind C_LastKind C_EndsKind C_HeadsKind C_TailsKind) CB CG CN) 3 := ⟨_, _, _, _, ok_js F_joined_sessions B NTy c_checked_kindx c_raised_sessionx mPlain, PySem.W.mg_of X G a_joined_sessions, k_joined_sessions, kg_joined_sessions⟩
  have c_w_plainx : CalX CX0 rwK.prog w K mg base 1 "_law_plain" (spPlain K) := cal_of F_w_plain (PySem.W.mg_of X G a_w_plain) b_w_plain (ok_plain F_w_plain B)
  have c_w_plainBx : CalX CX0 rwK.prog w K mg base 1 "_law_plain" spPlainB := cal_of F_w_plain (PySem.W.mg_of X G a_w_plain) b_w_plain (ok_plainB F_w_plain B)
  have c_w_cutsx : CalX CX0 rwK.prog w K mg base 2 "_law_cuts" spCuts := cal_of F_w_cuts (PySem.W.mg_of X G a_w_cuts) b_w_cuts (ok_cuts F_w_cuts B c_w_plainx)
  have c_w_bad_namex : CalX CX0 rwK.prog w K mg base 2 "_law_bad_name" spBad := cal_of F_w_bad_name (PySem.W.mg_of X G a_w_bad_name) b_w_bad_name (ok_bad F_w_bad_name B c_w_drawx)
  have c_w_drawn_markx : CalX CX0 rwK.prog w K mg base 2 "_law_drawn_mark" spMk := cal_of F_w_drawn_mark (PySem.W.mg_of X G a_w_drawn_mark) b_w_drawn_mark (ok_mk F_w_drawn_mark B c_w_drawx)
  have c_w_wrongx : CalX CX0 rwK.prog w K mg base 2 "_law_wrong" spWr := cal_of F_w_wrong (PySem.W.mg_of X G a_w_wrong) b_w_wrong (ok_wr F_w_wrong B c_w_drawx)
  have c_w_last_toldx : CalX CX0 rwK.prog w K mg base 1 "_law_last_told" spLT := cal_of F_w_last_told (PySem.W.mg_of X G a_w_last_told) b_w_last_told (ok_lt F_w_last_told B)
  have c_w_behindx : CalX CX0 rwK.prog w K mg base 1 "_law_behind" spBe := cal_of F_w_behind (PySem.W.mg_of X G a_w_behind) b_w_behind (ok_be F_w_behind B)
  have c_w_wholex : CalX CX0 rwK.prog w K mg base 1 "_law_whole" spWo := cal_of F_w_whole (PySem.W.mg_of X G a_w_whole) b_w_whole (ok_wo F_w_whole B)
  have c_w_refusedx : CalX CX0 rwK.prog w K mg base 8 "_law_refused" (spRef [(Pt, lamQ)]) := cal_of F_w_refused (PySem.W.mg_of X G a_w_refused) b_w_refused (ok_ref F_w_refused B RT c_w_plainx c_w_plainBx c_cut_sessionsx c_told_sessionsx c_joined_sessionsx)
  have c_w_unjoinedx : CalX CX0 rwK.prog w K mg base 7 "_law_unjoined" (spUn [(Pt, lamQ)]) := cal_of F_w_unjoined (PySem.W.mg_of X G a_w_unjoined) b_w_unjoined (ok_un F_w_unjoined B RT c_joined_sessionsx)
  have c_w_joinsx : CalX CX0 rwK.prog w K mg base 8 "_law_joins" (spJo [(Pt, lamQ)]) := cal_of F_w_joins (PySem.W.mg_of X G a_w_joins) b_w_joins (ok_jo F_w_joins B c_cut_sessionsx c_joined_sessionsx c_w_unjoinedx c_w_behindx c_w_wholex c_w_cutsx)
  have c_w_doorsx : CalX CX0 rwK.prog w K mg base 9 "_law_doors" (spDo [(Pt, lamQ)]) := cal_of F_w_doors (PySem.W.mg_of X G a_w_doors) b_w_doors (ok_do F_w_doors B c_w_refusedx)
  exact ok_law F_law B c_w_streamx c_w_drawx c_w_kindx c_w_spanx c_w_lettersx c_w_drawn_markx c_w_bad_namex c_w_wrongx c_w_cutsx c_w_last_toldx c_cut_sessionsx c_told_sessionsx c_w_joinsx c_w_doorsx
end Mv

set_option Elab.async false
open PySem PySem.W PyProof.Rows
set_option maxRecDepth 100000 in
set_option maxHeartbeats 0 in
theorem PySem.Challenge.cw_movedstates_k07_sessions_cut_and_joined_holds : PySem.Challenge.rw_movedstates_k07_sessions_cut_and_joined.Holds := by
  w_on; o_law; k_head; (case hw => w_witness2)
  k_fill
  refine LamX.walk_ofTs (l := PySem.Challenge.rw_movedstates_k07_sessions_cut_and_joined) (n := 63) (k := 10) (x := "_law_script") (CX := fun _ => L2.CX0) rfl (by decide) rfl ⟨rfl, by decide, by decide⟩ (fun w h Y => km_in_of Y) ?F (fun _ _ _ _ _ z => z)
  case F =>
    intro w mg fa h Y KX G hmg
    have TP := km_tabs_of Y
    refine' Mv.all_mk KX G hmg ?hPt ?z_len ?z_range ?z_enumerate ?z_abs ?z_int ?z_list ?z_tuple ?z_sorted ?z_isinstance ?z_str ?z_bool ?z_super ?z_ValueError ?z_all ?z_zip ?a_w_stream ?l_w_stream ?c_w_stream ?k_w_stream ?a_w_draw ?l_w_draw ?c_w_draw ?k_w_draw ?a_w_wide ?l_w_wide ?c_w_wide ?k_w_wide ?a_w_kind ?l_w_kind ?c_w_kind ?k_w_kind ?a_w_value ?l_w_value ?c_w_value ?k_w_value ?a_w_span ?l_w_span ?c_w_span ?k_w_span ?a_w_step ?l_w_step ?c_w_step ?k_w_step ?a_w_letters ?l_w_letters ?c_w_letters ?k_w_letters ?a_w_plain ?l_w_plain ?c_w_plain ?k_w_plain ?a_w_cuts ?l_w_cuts ?c_w_cuts ?k_w_cuts ?a_w_bad_name ?l_w_bad_name ?c_w_bad_name ?k_w_bad_name ?a_w_drawn_mark ?l_w_drawn_mark ?c_w_drawn_mark ?k_w_drawn_mark ?a_w_wrong ?l_w_wrong ?c_w_wrong ?k_w_wrong ?a_w_last_told ?l_w_last_told ?c_w_last_told ?k_w_last_told ?a_w_behind ?l_w_behind ?c_w_behind ?k_w_behind ?a_w_whole ?l_w_whole ?c_w_whole ?k_w_whole ?a_w_refused ?l_w_refused ?c_w_refused ?k_w_refused ?a_w_unjoined ?l_w_unjoined ?c_w_unjoined ?k_w_unjoined ?a_w_joins ?l_w_joins ?c_w_joins ?k_w_joins ?a_w_doors ?l_w_doors ?c_w_doors ?k_w_doors ?a_law ?l_law ?c_law ?k_law ?a_least_places ?l_least_places ?c_least_places ?k_least_places ?a_greatest_places ?l_greatest_places ?c_greatest_places ?k_greatest_places ?a_kind_named ?l_kind_named ?c_kind_named ?k_kind_named ?a_checked_kind ?l_checked_kind ?c_checked_kind ?k_checked_kind ?a_complete ?l_complete ?c_complete ?k_complete ?a_chains_of ?l_chains_of ?c_chains_of ?k_chains_of ?a_sessions_within ?l_sessions_within ?c_sessions_within ?k_sessions_within ?a_session_of ?l_session_of ?c_session_of ?k_session_of ?a_raised_session ?l_raised_session ?c_raised_session ?k_raised_session ?a_told_part ?l_told_part ?c_told_part ?k_told_part ?a_closed_by ?l_closed_by ?c_closed_by ?k_closed_by ?a_Kind ?mk_Kind ?in_Kind ?tp_Kind ?kc_Kind ?pg_Kind ?hd_Kind ?po_Kind ?sa_Kind ?a_kO ?i_kO ?l_kO ?c_kO ?k_kO ?a_BagKind ?mk_BagKind ?in_BagKind ?tp_BagKind ?kc_BagKind ?pg_BagKind ?hd_BagKind ?po_BagKind ?sa_BagKind ?a_kB ?i_kB ?l_kB ?c_kB ?k_kB ?a_SetKind ?mk_SetKind ?in_SetKind ?tp_SetKind ?kc_SetKind ?pg_SetKind ?hd_SetKind ?po_SetKind ?sa_SetKind ?a_kS ?i_kS ?l_kS ?c_kS ?k_kS ?a_FirstKind ?mk_FirstKind ?in_FirstKind ?tp_FirstKind ?kc_FirstKind ?pg_FirstKind ?hd_FirstKind ?po_FirstKind ?sa_FirstKind ?a_kF ?i_kF ?l_kF ?c_kF ?k_kF ?a_LastKind ?mk_LastKind ?in_LastKind ?tp_LastKind ?kc_LastKind ?pg_LastKind ?hd_LastKind ?po_LastKind ?sa_LastKind ?a_kL ?i_kL ?l_kL ?c_kL ?k_kL ?a_EndsKind ?mk_EndsKind ?in_EndsKind ?tp_EndsKind ?kc_EndsKind ?pg_EndsKind ?hd_EndsKind ?po_EndsKind ?sa_EndsKind ?a_kE ?i_kE ?l_kE ?c_kE ?k_kE ?a_HeadsKind ?mk_HeadsKind ?in_HeadsKind ?tp_HeadsKind ?kc_HeadsKind ?pg_HeadsKind ?hd_HeadsKind ?po_HeadsKind ?sa_HeadsKind ?a_kH ?i_kH ?l_kH ?c_kH ?k_kH ?a_TailsKind ?mk_TailsKind ?in_TailsKind ?tp_TailsKind ?kc_TailsKind ?pg_TailsKind ?hd_TailsKind ?po_TailsKind ?sa_TailsKind ?a_kT ?i_kT ?l_kT ?c_kT ?k_kT ?p_Kind ?p_BagKind ?p_SetKind ?p_FirstKind ?p_LastKind ?p_EndsKind ?p_HeadsKind ?p_TailsKind ?i_pl ?l_pl ?c_pl ?k_pl ?t_nK ?t_cd ?n_a ?n_l ?b_a ?b_l ?b_v ?b_sa ?b_ex ?b_ty ?b_k ?b_i ?b_it ?b_il ?b_ic ?b_cl ?b_cf ?b_fi ?b_cc ?b_se ?b_ve ?b_op ?b_su ?b_cd ?b_ga ?b_gt ?b_hd ?b_no ?b_ss ?w_hn ?w_ht ?w_M ?g_a ?g_ex ?g_ty ?g_k ?g_ga ?g_gt ?g_hd ?g_ss ?g_hc ?g_ho ?g_ce ?g_l ?g_v ?g_sa ?g_i ?g_it ?g_il ?g_ic ?g_cl ?g_cf ?g_fi ?g_cc ?g_se ?g_ve ?g_su ?g_cd ?g_no ?y_a ?y_ex ?y_ty ?y_k ?y_ga ?y_gt ?y_hd ?y_ss ?y_hc ?y_ho ?y_ce ?y_xi ?s_gb ?s_nb ?s_ng ?i_g ?i_n ?a_cut_sessions ?l_cut_sessions ?c_cut_sessions ?k_cut_sessions ?a_told_sessions ?l_told_sessions ?c_told_sessions ?k_told_sessions ?a_joined_sessions ?l_joined_sessions ?c_joined_sessions ?k_joined_sessions
    (case hPt => exact TP _ (List.mem_singleton.mpr rfl))
    (case z_len => k_is)
    (case z_range => k_is)
    (case z_enumerate => k_is)
    (case z_abs => k_is)
    (case z_int => k_is)
    (case z_list => k_is)
    (case z_tuple => k_is)
    (case z_sorted => k_is)
    (case z_isinstance => k_is)
    (case z_str => k_is)
    (case z_bool => k_is)
    (case z_super => k_is)
    (case z_ValueError => k_is)
    (case z_all => k_is)
    (case z_zip => k_is)
    (case a_w_stream => k_is)
    (case l_w_stream => k_is)
    (case c_w_stream => k_is)
    (case k_w_stream => k_is)
    (case a_w_draw => k_is)
    (case l_w_draw => k_is)
    (case c_w_draw => k_is)
    (case k_w_draw => k_is)
    (case a_w_wide => k_is)
    (case l_w_wide => k_is)
    (case c_w_wide => k_is)
    (case k_w_wide => k_is)
    (case a_w_kind => k_is)
    (case l_w_kind => k_is)
    (case c_w_kind => k_is)
    (case k_w_kind => k_is)
    (case a_w_value => k_is)
    (case l_w_value => k_is)
    (case c_w_value => k_is)
    (case k_w_value => k_is)
    (case a_w_span => k_is)
    (case l_w_span => k_is)
    (case c_w_span => k_is)
    (case k_w_span => k_is)
    (case a_w_step => k_is)
    (case l_w_step => k_is)
    (case c_w_step => k_is)
    (case k_w_step => k_is)
    (case a_w_letters => k_is)
    (case l_w_letters => k_is)
    (case c_w_letters => k_is)
    (case k_w_letters => k_is)
    (case a_w_plain => k_is)
    (case l_w_plain => k_is)
    (case c_w_plain => k_is)
    (case k_w_plain => k_is)
    (case a_w_cuts => k_is)
    (case l_w_cuts => k_is)
    (case c_w_cuts => k_is)
    (case k_w_cuts => k_is)
    (case a_w_bad_name => k_is)
    (case l_w_bad_name => k_is)
    (case c_w_bad_name => k_is)
    (case k_w_bad_name => k_is)
    (case a_w_drawn_mark => k_is)
    (case l_w_drawn_mark => k_is)
    (case c_w_drawn_mark => k_is)
    (case k_w_drawn_mark => k_is)
    (case a_w_wrong => k_is)
    (case l_w_wrong => k_is)
    (case c_w_wrong => k_is)
    (case k_w_wrong => k_is)
    (case a_w_last_told => k_is)
    (case l_w_last_told => k_is)
    (case c_w_last_told => k_is)
    (case k_w_last_told => k_is)
    (case a_w_behind => k_is)
    (case l_w_behind => k_is)
    (case c_w_behind => k_is)
    (case k_w_behind => k_is)
    (case a_w_whole => k_is)
    (case l_w_whole => k_is)
    (case c_w_whole => k_is)
    (case k_w_whole => k_is)
    (case a_w_refused => k_is)
    (case l_w_refused => k_is)
    (case c_w_refused => k_is)
    (case k_w_refused => k_is)
    (case a_w_unjoined => k_is)
    (case l_w_unjoined => k_is)
    (case c_w_unjoined => k_is)
    (case k_w_unjoined => k_is)
    (case a_w_joins => k_is)
    (case l_w_joins => k_is)
    (case c_w_joins => k_is)
    (case k_w_joins => k_is)
    (case a_w_doors => k_is)
    (case l_w_doors => k_is)
    (case c_w_doors => k_is)
    (case k_w_doors => k_is)
    (case a_law => k_is)
    (case l_law => k_is)
    (case c_law => k_is)
    (case k_law => k_is)
    (case a_least_places => k_is)
    (case l_least_places => k_is)
    (case c_least_places => k_is)
    (case k_least_places => k_is)
    (case a_greatest_places => k_is)
    (case l_greatest_places => k_is)
    (case c_greatest_places => k_is)
    (case k_greatest_places => k_is)
    (case a_kind_named => k_is)
    (case l_kind_named => k_is)
    (case c_kind_named => k_is)
    (case k_kind_named => k_is)
    (case a_checked_kind => k_is)
    (case l_checked_kind => k_is)
    (case c_checked_kind => k_is)
    (case k_checked_kind => k_is)
    (case a_complete => k_is)
    (case l_complete => k_is)
    (case c_complete => k_is)
    (case k_complete => k_is)
    (case a_chains_of => k_is)
    (case l_chains_of => k_is)
    (case c_chains_of => k_is)
    (case k_chains_of => k_is)
    (case a_sessions_within => k_is)
    (case l_sessions_within => k_is)
    (case c_sessions_within => k_is)
    (case k_sessions_within => k_is)
    (case a_session_of => k_is)
    (case l_session_of => k_is)
    (case c_session_of => k_is)
    (case k_session_of => k_is)
    (case a_raised_session => k_is)
    (case l_raised_session => k_is)
    (case c_raised_session => k_is)
    (case k_raised_session => k_is)
    (case a_told_part => k_is)
    (case l_told_part => k_is)
    (case c_told_part => k_is)
    (case k_told_part => k_is)
    (case a_closed_by => k_is)
    (case l_closed_by => k_is)
    (case c_closed_by => k_is)
    (case k_closed_by => k_is)
    (case a_Kind => k_is)
    (case mk_Kind => k_is)
    (case in_Kind => k_is)
    (case tp_Kind => k_is)
    (case kc_Kind => k_is)
    (case pg_Kind => k_is)
    (case hd_Kind => k_is)
    (case po_Kind => k_is)
    (case sa_Kind => k_is)
    (case a_kO => k_is)
    (case i_kO => k_is)
    (case l_kO => k_is)
    (case c_kO => k_is)
    (case k_kO => k_is)
    (case a_BagKind => k_is)
    (case mk_BagKind => k_is)
    (case in_BagKind => k_is)
    (case tp_BagKind => k_is)
    (case kc_BagKind => k_is)
    (case pg_BagKind => k_is)
    (case hd_BagKind => k_is)
    (case po_BagKind => k_is)
    (case sa_BagKind => k_is)
    (case a_kB => k_is)
    (case i_kB => k_is)
    (case l_kB => k_is)
    (case c_kB => k_is)
    (case k_kB => k_is)
    (case a_SetKind => k_is)
    (case mk_SetKind => k_is)
    (case in_SetKind => k_is)
    (case tp_SetKind => k_is)
    (case kc_SetKind => k_is)
    (case pg_SetKind => k_is)
    (case hd_SetKind => k_is)
    (case po_SetKind => k_is)
    (case sa_SetKind => k_is)
    (case a_kS => k_is)
    (case i_kS => k_is)
    (case l_kS => k_is)
    (case c_kS => k_is)
    (case k_kS => k_is)
    (case a_FirstKind => k_is)
    (case mk_FirstKind => k_is)
    (case in_FirstKind => k_is)
    (case tp_FirstKind => k_is)
    (case kc_FirstKind => k_is)
    (case pg_FirstKind => k_is)
    (case hd_FirstKind => k_is)
    (case po_FirstKind => k_is)
    (case sa_FirstKind => k_is)
    (case a_kF => k_is)
    (case i_kF => k_is)
    (case l_kF => k_is)
    (case c_kF => k_is)
    (case k_kF => k_is)
    (case a_LastKind => k_is)
    (case mk_LastKind => k_is)
    (case in_LastKind => k_is)
    (case tp_LastKind => k_is)
    (case kc_LastKind => k_is)
    (case pg_LastKind => k_is)
    (case hd_LastKind => k_is)
    (case po_LastKind => k_is)
    (case sa_LastKind => k_is)
    (case a_kL => k_is)
    (case i_kL => k_is)
    (case l_kL => k_is)
    (case c_kL => k_is)
    (case k_kL => k_is)
    (case a_EndsKind => k_is)
    (case mk_EndsKind => k_is)
    (case in_EndsKind => k_is)
    (case tp_EndsKind => k_is)
    (case kc_EndsKind => k_is)
    (case pg_EndsKind => k_is)
    (case hd_EndsKind => k_is)
    (case po_EndsKind => k_is)
    (case sa_EndsKind => k_is)
    (case a_kE => k_is)
    (case i_kE => k_is)
    (case l_kE => k_is)
    (case c_kE => k_is)
    (case k_kE => k_is)
    (case a_HeadsKind => k_is)
    (case mk_HeadsKind => k_is)
    (case in_HeadsKind => k_is)
    (case tp_HeadsKind => k_is)
    (case kc_HeadsKind => k_is)
    (case pg_HeadsKind => k_is)
    (case hd_HeadsKind => k_is)
    (case po_HeadsKind => k_is)
    (case sa_HeadsKind => k_is)
    (case a_kH => k_is)
    (case i_kH => k_is)
    (case l_kH => k_is)
    (case c_kH => k_is)
    (case k_kH => k_is)
    (case a_TailsKind => k_is)
    (case mk_TailsKind => k_is)
    (case in_TailsKind => k_is)
    (case tp_TailsKind => k_is)
    (case kc_TailsKind => k_is)
    (case pg_TailsKind => k_is)
    (case hd_TailsKind => k_is)
    (case po_TailsKind => k_is)
    (case sa_TailsKind => k_is)
    (case a_kT => k_is)
    (case i_kT => k_is)
    (case l_kT => k_is)
    (case c_kT => k_is)
    (case k_kT => k_is)
    (case p_Kind => k_is)
    (case p_BagKind => k_is)
    (case p_SetKind => k_is)
    (case p_FirstKind => k_is)
    (case p_LastKind => k_is)
    (case p_EndsKind => k_is)
    (case p_HeadsKind => k_is)
    (case p_TailsKind => k_is)
    (case i_pl => k_is)
    (case l_pl => k_is)
    (case c_pl => k_is)
    (case k_pl => k_is)
    (case t_nK => first | exact rfl | kernel_rfl | decide +kernel)
    (case t_cd => first | exact rfl | kernel_rfl | decide +kernel)
    (case n_a => k_is)
    (case n_l => k_is)
    (case b_a => k_is)
    (case b_l => k_is)
    (case b_v => decide +kernel)
    (case b_sa => k_is)
    (case b_ex => k_is)
    (case b_ty => k_is)
    (case b_k => k_is)
    (case b_i => k_is)
    (case b_it => k_is)
    (case b_il => k_is)
    (case b_ic => k_is)
    (case b_cl => k_is)
    (case b_cf => rfl)
    (case b_fi => first | rfl | decide +kernel)
    (case b_cc => k_is)
    (case b_se => k_is)
    (case b_ve => k_is)
    (case b_op => k_is)
    (case b_su => first | k_is | rfl | decide +kernel)
    (case b_cd => k_is)
    (case b_ga => k_is)
    (case b_gt => k_is)
    (case b_hd => k_is)
    (case b_no => k_is)
    (case b_ss => k_is)
    (case w_hn => k_is)
    (case w_ht => k_is)
    (case w_M => k_is)
    (case g_a => k_is)
    (case g_ex => k_is)
    (case g_ty => k_is)
    (case g_k => k_is)
    (case g_ga => k_is)
    (case g_gt => k_is)
    (case g_hd => k_is)
    (case g_ss => k_is)
    (case g_hc => k_is)
    (case g_ho => k_is)
    (case g_ce => first | k_is | rfl | decide +kernel)
    (case g_l => k_is)
    (case g_v => decide +kernel)
    (case g_sa => k_is)
    (case g_i => k_is)
    (case g_it => k_is)
    (case g_il => k_is)
    (case g_ic => k_is)
    (case g_cl => k_is)
    (case g_cf => rfl)
    (case g_fi => first | rfl | decide +kernel)
    (case g_cc => k_is)
    (case g_se => k_is)
    (case g_ve => k_is)
    (case g_su => first | k_is | rfl | decide +kernel)
    (case g_cd => k_is)
    (case g_no => k_is)
    (case y_a => k_is)
    (case y_ex => k_is)
    (case y_ty => k_is)
    (case y_k => k_is)
    (case y_ga => k_is)
    (case y_gt => k_is)
    (case y_hd => k_is)
    (case y_ss => k_is)
    (case y_hc => k_is)
    (case y_ho => k_is)
    (case y_ce => first | k_is | rfl | decide +kernel)
    (case y_xi => first | k_exc | kx_is)
    (case s_gb => k_is)
    (case s_nb => k_is)
    (case s_ng => k_is)
    (case i_g => kit_is)
    (case i_n => kit_is)
    (case a_cut_sessions => k_is)
    (case l_cut_sessions => k_is)
    (case c_cut_sessions => k_is)
    (case k_cut_sessions => k_is)
    (case a_told_sessions => k_is)
    (case l_told_sessions => k_is)
    (case c_told_sessions => k_is)
    (case k_told_sessions => k_is)
    (case a_joined_sessions => k_is)
    (case l_joined_sessions => k_is)
    (case c_joined_sessions => k_is)
    (case k_joined_sessions => k_is)

