import PyProof.Rows.All
import Wide.All
import OpenK.AllK
import Wide.FinOn
import PySem.Challenge.RW_movedstates_k53_without_bounds_nothing_i
import HandS.Base
import HandS.Call
import HandS.List
import HandS.Comp
import HandS.Ends
import HandS.Dict
import HandS.Iter
import HandS.Text
import HandS.More
import HandS.Words
import HandS.WordsList
import HandS.Wide
import HandS.SortInts
import HandS.DictComp
import HandS.Walk
import HandS.Exc
import HandS.ExcOwn
import HandS.TryOnly
import HandS.WordsExc
import HandS.IsInst
import HandS.ExcIs
import HandS.ExcInit
import HandS.SetKeys
import HandS.Style
import HandS.Conv
import HandS.FStr
import PyProof.ListMulRoad
import PyProof.FactsAll.tuple_2
import HandS.TupMul
import HandS.Defaults
import HandS.CallSlots
import KE.KDictKeyed
import KE.KDictWalk
import KE.KDictList
import KE.KDictDisplayH
import HandS.Lambda
import KE.KDictSum
import PyProof.TupleOfSeq
import PyProof.DictValues
import KE.GoesEnum
import KE.GoesMore
import HandS.TupAny
import HandS.Flow
import KE.SortKeyHeap
import HandS.SortKw
import HandS.Zip
import HandS.TryMany
import HandS.DictSub
import HandS.Deep
import HandS.SetFor
import HandS.TupSets
import HandS.CallLocal
import KE.SortData
import PyProof.Rows.Range3
import HandS.Property
import KE.KItemsList
import HandS.ListItems
import KE.KDictItemsList
import HandS.EndTab
import KE.KNestM
import KE.KExcLine
set_option Elab.async false
set_option linter.all false
set_option maxRecDepth 100000
set_option maxHeartbeats 4000000
namespace Mv
open PySem PySem.Spec PyProof.Rows L2
/-! ### calls by their promises -/
/-- a def that may be called by its name -/
structure CalX (CX : CXT) (P : Program) (w : World) (K : PySem.W.Frag) (mg : Str → Option Value) (base : Heap) (k : Nat) (x : Str) (sp : Sp) : Prop where
  ex : ∃ (f : Addr) (fd : FuncData) (ps : List Str), FnOk P w K mg base CX k f fd ps sp ∧ mg x = some (.ref f) ∧ PySem.W.keepIn K (.ref f) = true ∧ Binds K fd ps []
/-- a method of the class at C -/
structure MetX (CX : CXT) (P : Program) (w : World) (K : PySem.W.Frag) (mg : Str → Option Value) (base : Heap) (k : Nat) (C : Addr) (m : Str) (sp : Sp) : Prop where
  ex : ∃ (f : Addr) (fd : FuncData) (ps : List Str), Cls K C ∧ Meth K C m f ∧ FnOk P w K mg base CX k f fd ps sp ∧ Binds K fd ps []
section
variable {X : Cx} {CX : CXT} {k j : Nat} {C : Addr} {x m : Str} {sp : Sp} {E : XK} {p pos apos : Pos} {e o : Expr} {es : List Expr} {ta : TE} {t : TA}
theorem pe_cx (c : CalX CX X.prog X.w X.K X.mg X.base k x sp) (hr : Room j X.A) (hk : k ≤ j) (hx : Passes CX X E) (hg : Gl X x) (ha : PA X (e :: es) t)
    (hdb : (x == ("__debug__" : Str)) = false := by decide) (he : starEach (e :: es) X.env = (false, eval e X.env) :: starEach es X.env := by rfl) (hpl : (backTo pos (starEach es X.env)).any (·.1) = false := by rfl) :
    PE X (.Call (.Name x p) (e :: es) [] pos) (tCall sp [] E t) := by
  obtain ⟨f, fd, ps, F, hm, kp, b⟩ := c.ex
  exact pe_call F (hr.mono hk) hg hm kp b .nil hx ha hdb he hpl
theorem pe_mx {pl : Sem Bool} (c : MetX CX X.prog X.w X.K X.mg X.base k C m sp) (hr : Room j X.A) (hk : k ≤ j) (hx : Passes CX X E) (he : PE X o ta) (ha : PA X (e :: es) t)
    (hst : starEach (e :: es) X.env = (false, eval e X.env) :: starEach es X.env := by rfl) (hpl : (backTo pos (starEach es X.env)).any (·.1) = false := by rfl)
    (ht : eval (.Call (.Attribute o m apos) (e :: es) [] pos) X.env = (do
      let ov ← eval o X.env
      standAt apos.atName
      let (f, first) ← holding [ov] (getMethod ov m pl)
      callWith pos f first (backTo pos (starEach (e :: es) X.env)) (backToKw pos (keywordEach [] X.env))) := by rfl) :
    PE X (.Call (.Attribute o m apos) (e :: es) [] pos) (tMeth C m sp [] E ta t) := by
  obtain ⟨f, fd, ps, hc, hm, F, b⟩ := c.ex
  exact pe_meth (pl := pl) he hc hm F (hr.mono hk) b .nil hx ha hst hpl ht
theorem pe_mx0 {pl : Sem Bool} (c : MetX CX X.prog X.w X.K X.mg X.base k C m sp) (hr : Room j X.A) (hk : k ≤ j) (hx : Passes CX X E) (he : PE X o ta)
    (ht : eval (.Call (.Attribute o m apos) [] [] pos) X.env = (do
      let ov ← eval o X.env
      standAt apos.atName
      let (f, first) ← holding [ov] (getMethod ov m pl)
      callWith pos f first (backTo pos (starEach [] X.env)) (backToKw pos (keywordEach [] X.env))) := by rfl) :
    PE X (.Call (.Attribute o m apos) [] [] pos) (tMeth C m sp [] E ta tNil) := by
  obtain ⟨f, fd, ps, hc, hm, F, b⟩ := c.ex
  exact pe_meth0 (pl := pl) he hc hm F (hr.mono hk) b .nil hx ht
end
/-- a def of the module, as the top leaves it -/
structure DefX (K : PySem.W.Frag) (mg : Str → Option Value) (x : Str) (st : Stmt) (ps : List Str) : Prop where
  ex : ∃ (f : Addr) (fd : FuncData), Fun K x x st f fd ∧ mg x = some (.ref f) ∧ Binds K fd ps []
theorem DefX.cal {P : Program} {w : World} {K : PySem.W.Frag} {mg : Str → Option Value} {base : Heap} {CX : CXT} {k : Nat} {x : Str} {st : Stmt} {ps : List Str} {sp : Sp} (D : DefX K mg x st ps)
    (h : ∀ f fd, Fun K x x st f fd → FnOk P w K mg base CX k f fd ps sp) : CalX CX P w K mg base k x sp := by
  obtain ⟨f, fd, F, hm, b⟩ := D.ex
  exact ⟨f, fd, ps, h f fd F, hm, F.kp, b⟩
/-! ### the built-in names that stay -/
structure Bi (mg : Str → Option Value) : Prop where
  len : mg "len" = none
  range : mg "range" = none
  enumerate : mg "enumerate" = none
  abs : mg "abs" = none
  int : mg "int" = none
  list : mg "list" = none
  tuple : mg "tuple" = none
  sorted : mg "sorted" = none
  isinstance : mg "isinstance" = none
  str : mg "str" = none
  bool : mg "bool" = none
  super : mg "super" = none
  ValueError : mg "ValueError" = none
theorem cxK {CX : CXT} {P : Program} {w : World} {K : PySem.W.Frag} {mg : Str → Option Value} {base : Heap} {N : List Str} {q : Str} {sc : Scope} {f : Addr} {cdv : Value} {A : Around} {outer : List Env} {s : Shared} {H : Hp} {E : XK} : (cxOf CX P w K mg base N q sc f cdv A outer s H E).K = K := rfl
theorem cxKn {CX : CXT} {P : Program} {w : World} {K : PySem.W.Frag} {mg : Str → Option Value} {base : Heap} {N : List Str} {q : Str} {sc : Scope} {f : Addr} {cdv : Value} {A : Around} {outer : List Env} {s : Shared} {H : Hp} {E : XK} : (cxOf CX P w K mg base N q sc f cdv A outer s H E).nox.K = K := rfl
/-! ### heaps -/
/-- all but what stands at a is as it was -/
def Sx (a : Addr) (H H' : Hp) : Prop := ∀ b o, b ≠ a → H b = some o → H' b = some o
theorem Sx.refl (a : Addr) (H : Hp) : Sx a H H := fun _ _ _ h => h
theorem Sx.trans {a : Addr} {H H1 H2 : Hp} (h : Sx a H H1) (k : Sx a H1 H2) : Sx a H H2 := fun b o n e => k b o n (h b o n e)
theorem Sx.of {a : Addr} {H H' : Hp} (h : Same H H') : Sx a H H' := fun b o _ e => h b o e
theorem Sx.upd {a : Addr} {H : Hp} {o : HO} : Sx a H (upd H a o) := fun b u n e => by rw [upd_ne n]; exact e
theorem same_upd {H : Hp} {p : Addr} {o : HO} (h : H p = none) : Same H (upd H p o) := fun b x e => by
  rw [upd_ne (ne_of_none e h)]
  exact e
theorem Same.tup {K : PySem.W.Frag} {H H' : Hp} {a : Addr} {xs : List V} (e : Same H H') (h : SqT K H a xs) : SqT K H' a xs := by
  rcases h with (h | ⟨o, h⟩) | h
  · exact .inl (.inl (e _ _ h))
  · exact .inl (.inr ⟨o, e _ _ h⟩)
  · exact .inr h
/-- the stream at a -/
def Strm (H : Hp) (a : Addr) : Prop := ∃ ns : List Int, H a = some (.lst (ns.map V.int)) ∧ ns.length ≤ 4000
theorem Strm.same {H H' : Hp} {a : Addr} (h : Strm H a) (s : Same H H') : Strm H' a := by
  obtain ⟨ns, e, l⟩ := h
  exact ⟨ns, s _ _ e, l⟩
theorem Strm.some {H : Hp} {a : Addr} (h : Strm H a) : ∃ xs, H a = some (.lst xs) := by
  obtain ⟨ns, e, l⟩ := h
  exact ⟨_, e⟩
theorem Strm.ne {H : Hp} {a p : Addr} (h : Strm H a) (n : H p = none) : a ≠ p := by
  obtain ⟨ns, e, l⟩ := h
  exact ne_of_none e n
/-! ### small facts -/
def cutI (ns : List Int) (lo hi : Option Int) : List Int := (ns.drop (HT.sIx ns.length 0 lo)).take (HT.sIx ns.length ns.length hi - HT.sIx ns.length 0 lo)
theorem cutV_int (ns : List Int) (lo hi : Option Int) : cutV (ns.map V.int) lo hi = (cutI ns lo hi).map V.int := by
  unfold cutV cutI
  rw [List.length_map, List.map_take, List.map_drop]
theorem cutI_length (ns : List Int) (lo hi : Option Int) : (cutI ns lo hi).length ≤ ns.length := by
  have h := cutV_length (ns.map V.int) lo hi
  rw [cutV_int, List.length_map, List.length_map] at h
  exact h
theorem int_at {ns : List Int} {i : Nat} {y : V} (h : (ns.map V.int)[i]? = some y) : ∃ u, y = .int u ∧ ns[i]? = some u := by
  rw [List.getElem?_map] at h
  cases e : ns[i]? with
  | none =>
    rw [e] at h
    cases h
  | some u =>
    rw [e] at h
    exact ⟨u, (Option.some.inj h).symm, rfl⟩
theorem abs_nn (i : Int) : 0 ≤ (if i < 0 then -i else i) := by
  by_cases h : i < 0
  · rw [if_pos h]
    omega
  · rw [if_neg h]
    omega
theorem small4000 {n : Nat} (h : n ≤ 4000) : n < sizeLine := Nat.lt_of_le_of_lt h (by decide)
theorem small4000' {n : Nat} (h : n ≤ 4000) : n ≤ sizeLine := Nat.le_of_lt (small4000 h)
theorem ints_flat : ∀ ns : List Int, (ns.map V.int).all flatV = true
  | [] => rfl
  | n :: ns => ints_flat ns
end Mv
set_option Elab.async false
set_option linter.all false
set_option maxRecDepth 100000
set_option maxHeartbeats 4000000
namespace Mv
open PySem PySem.Spec PyProof.Rows L2
/-! ### l.extend(t), t a tuple -/
theorem list_extend_tup (l : Addr) (items : Array Value) (n : Nat) (b : Addr) (items2 : Array Value) (n2 : Nat) (dd : Option Addr) (sl : Array (Option Value)) (hs0 : ¬(!items.isEmpty && Builtin.List.listTooLong (items.size + items2.size)) = true) (hs1 : items.size ≤ sizeLine) (hs2 : items.size + items2.size ≤ sizeLine + 1) :
    Meets (Builtin.«list.extend» ⟨[.ref l, .ref b], []⟩) (fun _ R s => s.heap.get? l = some { cls := .type "list", dict := none, data := .seq items n, slots := #[] } ∧ s.heap.get? b = some { cls := .type "tuple", dict := dd, data := .seq items2 n2, slots := sl } ∧ R (.ok (.ret Value.none)) { s with heap := s.heap.update l (Obj.mapSeq fun x => x ++ items2), toks := s.toks }) :=
  .of_wp fun prog w A R s h => by
    obtain ⟨hp, g, d, tk, os⟩ := s
    obtain ⟨hl, hb, h⟩ := h
    have f1 := AutoSeq1.idx_int
    have f2 := AutoSeq1.sub_tuple_tuple
    have f3 := AutoSeq1.sub_list_list
    have f4 := AutoSeq1.sub_tuple_list
    have f5 := AutoSeq1.sub_list_tuple
    have hz' : (items ++ items2).size ≤ sizeLine + 1 := by rw [Array.size_append]; exact hs2
    wp_walk using (wpAny_updateSeq hl rfl (hz := hs1) (_hz' := hz')), wpAny_loadPart' hl, wpAny_loadPart' hb
    exact ⟨_, rfl, h⟩
section
variable {X : Cx}
def rExtendT (K : PySem.W.Frag) : V → List V → Hp → VK → Prop := fun x vs H Q => ∃ l b xs zs, x = .ref l ∧ vs = [.ref b] ∧ H l = some (.lst xs) ∧ SqT K H b zs ∧ xs.length + zs.length ≤ sizeLine ∧ Q .non (upd H l (.lst (xs ++ zs)))
theorem mt_extendT : MtR X "list.extend" (rExtendT X.K) := by
  intro pins s σ H x vs v us Q I rx rv h
  obtain ⟨l, b, xs, zs, rfl, rfl, hH, hB, hz, q⟩ := h
  cases rx
  obtain ⟨u, rfl, ru⟩ := rv.one
  cases ru
  obtain ⟨z, its, n, r, hl, e⟩ := I.lstM hH
  obtain ⟨its2, r2, ⟨⟨cls, dd, data, sl⟩, ho, hc, n2, hd⟩, hl2⟩ := I.tuple hB
  simp only at hc hd
  subst hc hd
  have hle2 : its2.length = zs.length := r2.length.symm
  have hsz : its.toArray.size + its2.toArray.size ≤ sizeLine := by rw [List.size_toArray, List.size_toArray]; omega
  have hlong : ¬ (!its.toArray.isEmpty && Builtin.List.listTooLong (its.toArray.size + its2.toArray.size)) = true := by
    rw [notLongL hsz, Bool.and_false]
    exact Bool.false_ne_true
  refine call_meets F.slot_list_extend ⟨_, e, rfl⟩ F.entry_list_extend (F.args_list_extend_2 _ _)
    (list_extend_tup l its.toArray n b its2.toArray n2 dd sl hlong (by rw [List.size_toArray]; omega) (by omega)) ⟨e, ho, ?_⟩
  refine ⟨.non, _, I.lset (its' := its ++ its2) hH e (by simp) (r.append r2) ?_, rfl, q⟩
  rw [List.length_append]
  omega
end
/-! ### t * 1 is t -/
theorem tuple_mulOne (l : Addr) (items : Array Value) (n : Nat) (dd : Option Addr) (sl : Array (Option Value)) (u : Tok) :
    Meets (Builtin.«tuple.__mul__» ⟨[.ref l, .int 1 u], []⟩) (fun _ R s => s.heap.get? l = some { cls := .type "tuple", dict := dd, data := .seq items n, slots := sl } ∧ R (.ok (.ret (Value.ref l))) s) :=
  .of_wp fun prog w A R s h => by
    obtain ⟨hp, g, d, tk, os⟩ := s
    obtain ⟨hl, h⟩ := h
    have f1 := AutoSeq1.idx_int
    have c0 : (decide ((1 : Int) < -(2 ^ 63)) || decide ((1 : Int) ≥ 2 ^ 63)) = false := by decide
    have c1 : (items.isEmpty || (1 : Int) == 1) = true := by simp
    wp_walk using wpAny_loadPart' hl
    repeat (first
      | (refine wpAny_ite_false (decide_eq_false (by rw [c0]; exact Bool.false_ne_true)) ?_; wp_walk using wpAny_loadPart' hl)
      | (refine wpAny_ite_true (decide_eq_true c1) ?_; wp_walk using wpAny_loadPart' hl))
    exact ⟨_, rfl, h⟩
section
variable {X : Cx}
/-- t * k, k at least 1 -/
def rRepT1 (K : PySem.W.Frag) : R2 := fun x y H Q => ∃ l k xs, x = .ref l ∧ y = .int k ∧ SqT K H l xs ∧ xs ≠ [] ∧ 1 ≤ k ∧ k ≤ 1000 ∧ xs.length ≤ 1000 ∧ (k = 1 → Q (.ref l) H) ∧ (2 ≤ k → ∀ p, H p = none → Q (.ref p) (upd H p (.tup (List.replicate k.toNat xs).flatten)))
theorem op_repT1 : OpR X (binaryOp .Mult) (rRepT1 X.K) := by
  intro pins s σ H x y v u Q I rx ry h
  obtain ⟨l, k, xs, rfl, rfl, hT, hne, h1, h2, hz, q1, q2⟩ := h
  by_cases hk : k = 1
  · subst hk
    cases rx
    obtain ⟨t, rfl⟩ := ry
    obtain ⟨its, r, ⟨⟨cls, dd, data, sl⟩, ho, hc, n, hd⟩, hs⟩ := I.tuple hT
    simp only at hc hd
    subst hc hd
    exact wpAny_binaryOp_repeat_ref (T := "tuple") (U := "int") (by decide) ⟨_, ho, rfl⟩ (fun s' => typeIs_int s' 1 t) noFill_tuple_mul F.fills_int_mul F.slot_int_rmul repeat_tuple F.slot_int_index.lookup
      (call_meets F.slot_int_rmul (typeIs_int s 1 t) F.entry_int_rmul (F.args_int_rmul_2 _ _) (int_rmul_tuple 1 t l its.toArray n dd sl)
        ⟨ho, rfl, ⟨_, ho, rfl⟩, call_meets F.slot_tuple_mul ⟨_, ho, rfl⟩ F.entry_tuple_mul (F.args_tuple_mul_2 _ _) (tuple_mulOne l its.toArray n dd sl t) ⟨ho, .ref l, H, I, rfl, q1 rfl⟩⟩)
  · exact op_repT pins s σ H _ _ v u Q I rx ry ⟨l, k, xs, rfl, rfl, hT, hne, by omega, h2, hz, q2 (by omega)⟩
end
/-! ### a def with keyword-only parameters alone -/
theorem kbinds0 {K : PySem.W.Frag} {x qual : Str} {params : Arguments} {body : List Stmt} {scope : Scope} {kws : List (Str × V)} {f : Addr} {fd : FuncData} {ps : List Str}
    (F : FunD K x qual params body scope [] kws f fd) (n : Nat) (ks : List Str) (ms : List (Str × V)) (g : {α : Type} → List α → List α → List α → List α) (hk : kws ≠ []) (hms : ∀ q ∈ ms, q ∈ kws)
    (hrel : ∀ {vs mz zs : List V} {us mv ws : List Value}, Vals vs us → Vals mz mv → Vals zs ws → Vals (g vs mz zs) (g us mv ws))
    (h : ∀ (D : Addr) (doc pm : Value) (an : Option Addr) (cdv ct : Value) (us mv ws : List Value), us.length = n → mv.length = ms.length → ws.length = ks.length →
      KwChain D ((ms.map (·.1)).zip mv) (bindArgs (PySem.W.fnOf x qual params body scope .none (.ref D) doc pm an cdv ct) ⟨us, ks.zip ws⟩) (ps.zip (g us mv ws))) :
    ∃ mv : List Value, KBn K fd ps n ks (fun us ws => g us mv ws) (fun vs zs => g vs (ms.map (·.2)) zs) := by
  obtain ⟨oc, od, dV, kV, doc, pm, an, cdv, ct, osl, rfl, lk, hcd, hD, hK⟩ := F.ex
  rcases hD with ⟨_, rfl⟩ | ⟨e, _⟩
  · rcases hK with e | ⟨D, rfl, hq⟩
    · exact absurd e hk
    · obtain ⟨mv, hl, rk, hks⟩ := kwd_vals (ms := ms) fun q hm => hq q (hms q hm)
      refine ⟨mv, ⟨fun s us ws X l1 l2 => ?_, fun r1 r2 => hrel r1 rk r2⟩⟩
      exact BindsTo.of_looks fun M => KwChain.looks X hks (h D doc pm an cdv ct us mv ws l1 hl l2)
  · exact absurd rfl e
/-! ### lists of tuples of ints, compared -/
def tupsD (xss : List (List Int)) : List PyData := xss.map fun xs => .tuple (xs.map .int)
theorem lay_tups : ∀ xss : List (List Int), PyData.canLayAll0 (tupsD xss) = true
  | [] => rfl
  | xs :: r => by
    have := lay_tups r
    unfold tupsD at this ⊢
    simp [PyData.canLayAll0, PyData.canLay0, PySem.W.ke_canLayAll0, this]
theorem depth_tups : ∀ xss : List (List Int), PyData.depthAll (tupsD xss) ≤ 1
  | [] => Nat.zero_le _
  | xs :: r => by
    have := depth_tups r
    unfold tupsD at this ⊢
    simp [PyData.depthAll, PyData.depth, PySem.W.ke_depthAll, this]
theorem shaped_tups (xss : List (List Int)) : SeqAt.shaped (.list (tupsD xss)) = true := by
  have := depth_tups xss
  simp [SeqAt.shaped, PyData.canLay0, PyData.depth, lay_tups]
  omega
end Mv
set_option Elab.async false
set_option linter.all false
set_option maxRecDepth 100000
set_option maxHeartbeats 1000000
/-! dicts whose keys are nested tuples of ints -/
namespace Mv
open PySem PySem.Spec PyProof.Rows L2
abbrev NE := NestedKey × Addr × V
def nPair (p : NE) (q : NestedKey × Addr × Value) : Prop := p.1 = q.1 ∧ p.2.1 = q.2.1 ∧ RelV p.2.2 q.2.2
mutual
def plainK : NestedKey → Bool
  | .none => true
  | .num _ => true
  | .text _ => false
  | .tup ks => plainKs ks
def plainKs : List NestedKey → Bool
  | [] => true
  | k :: ks => plainK k && plainKs ks
end
mutual
theorem hash_plain (w w' : World) : ∀ k : NestedKey, plainK k = true → k.hash w = k.hash w'
  | .none, _ => rfl
  | .num _, _ => rfl
  | .tup ks, h => by
    unfold NestedKey.hash
    rw [hashes_plain w w' ks (by unfold plainK at h; exact h)]
theorem hashes_plain (w w' : World) : ∀ ks : List NestedKey, plainKs ks = true → NestedKey.hashes w ks = NestedKey.hashes w' ks
  | [], _ => rfl
  | k :: ks, h => by
    unfold plainKs at h
    rw [Bool.and_eq_true] at h
    unfold NestedKey.hashes
    rw [hash_plain w w' k h.1, hashes_plain w w' ks h.2]
end
def keyFit (k : NestedKey) : Prop := plainK k = true ∧ k.depth ≤ 8
/-- the dict object at d -/
def OdOk (d : Addr) (od : Obj) (kvs : List NE) : Prop := kvs.length ≤ sizeLine ∧ (d == sysModules) = false ∧ od.ExactDict ∧ (∀ p ∈ kvs, keyFit p.1) ∧
  ∃ (xs : List (NestedKey × Addr × Value)) (es : Array DictEntry) (ep : Nat), Paired nPair kvs xs ∧ od.data = .dict es ep ∧ (∀ (P : Program) (w : World), es.toList = xs.map (entryOfKey (nestedKind P w))) ∧ (xs.map (·.1)).Nodup
def NDO (d : Addr) (od : Obj) (kvs : List NE) : HO := .ext fun h => h.get? d = some od ∧ OdOk d od kvs
theorem ndo_ok {P : Program} {w : World} {H : Hp} {h : Heap} {d : Addr} {od : Obj} {kvs : List NE} (e : h.get? d = some od) (k : OdOk d od kvs) : ObjOk P w H h d (NDO d od kvs) :=
  ⟨⟨e, k⟩, ⟨od, e⟩, fun h1 h2 p q => ⟨q _ p.1, p.2⟩⟩
/-- the value v is the key k -/
inductive KeyN (K : PySem.W.Frag) (H : Hp) : NestedKey → V → Prop
  | num (i : Int) : KeyN K H (.num i) (.int i)
  | tup {a : Addr} {vs : List V} {ks : List NestedKey} : SqT K H a vs → Paired (KeyN K H) ks vs → KeyN K H (.tup ks) (.ref a)
section
variable {X : Cx} {pins : List (Addr × Obj)} {σ : L2.St} {H : Hp} {s : Shared} {d : Addr} {od : Obj} {kvs : List NE} {k : NestedKey} {b : Addr} {y z : V} {u r : Value} {A : Around} {E : Value → Shared → Prop}
mutual
theorem keyN_is (I : Inv X pins σ H s) : ∀ {k : NestedKey} {v : V} {u : Value}, KeyN X.K H k v → RelV v u → NestedIs s.heap k u
  | _, _, _, .num i, r => by
    obtain ⟨t, rfl⟩ := r
    exact .int i t
  | _, _, u, .tup h p, r => by
    obtain rfl : u = Value.ref _ := r
    obtain ⟨its, rv, ⟨o, e, hc, n, hd⟩, _⟩ := I.tuple h
    exact .tup e hc hd (by simpa using keysN_is I p rv)
theorem keysN_is (I : Inv X pins σ H s) : ∀ {ks : List NestedKey} {vs : List V} {us : List Value}, Paired (KeyN X.K H) ks vs → Vals vs us → NestedAll s.heap ks us
  | _, _, _, .nil, .nil => .nil
  | _, _, _, .cons h p, .cons r rs => .cons (keyN_is I h r) (keysN_is I p rs)
end
theorem ndo_at (I : Inv X pins σ H s) (h : H d = some (NDO d od kvs)) : s.heap.get? d = some od ∧ OdOk d od kvs := (I.hok d _ h).1
/-- the keys, as they stand -/
def KeysAt (K : PySem.W.Frag) (H : Hp) (kvs : List NE) : Prop := ∀ p ∈ kvs, KeyN K H p.1 (.ref p.2.1)
theorem ndPaired_mem {α β : Type} {F : α → β → Prop} : ∀ {l : List α} {m : List β}, Paired F l m → ∀ y ∈ m, ∃ x ∈ l, F x y
  | _, _, .nil, y, h => by cases h
  | _, _, .cons r t, y, h => by
    rcases List.mem_cons.mp h with rfl | h
    · exact ⟨_, List.mem_cons_self, r⟩
    · obtain ⟨x, hx, f⟩ := ndPaired_mem t y h
      exact ⟨x, List.mem_cons_of_mem _ hx, f⟩
theorem ndo_of (I : Inv X pins σ H s) (h : H d = some (NDO d od kvs)) (hk : KeysAt X.K H kvs) : ∃ xs, Paired nPair kvs xs ∧ s.heap.DictOfH (nestedKind X.prog X.w) d xs := by
  obtain ⟨e, _, _, hx, hf, xs, es, ep, hp, hd, he, hn⟩ := ndo_at I h
  refine ⟨xs, hp, od, es, ep, e, hx, hd, he _ _, fun x hx => ?_, hn⟩
  obtain ⟨p, hpm, e1, e2, _⟩ := ndPaired_mem hp x hx
  rw [← e1, ← e2]
  exact ⟨keyN_is I (hk p hpm) rfl, (hf p hpm).2⟩
theorem ndo_dict (I : Inv X pins σ H s) (h : H d = some (NDO d od kvs)) : s.TypeIs (.ref d) "dict" ∧ (∀ b, Value.ref d = .ref b → ∃ ob, s.heap.get? b = some ob ∧ ob.dict = none) ∧ (d == sysModules) = false := by
  obtain ⟨e, _, hm, hx, _⟩ := ndo_at I h
  refine ⟨⟨od, e, hx.1⟩, fun b q => ?_, hm⟩
  cases q
  exact ⟨od, e, hx.2.1⟩
def valN (kvs : List NE) (k : NestedKey) : Option V := (kvs.find? fun p => decide (p.1 = k)).map (·.2.2)
theorem valN_rel : ∀ {kvs : List NE} {xs : List (NestedKey × Addr × Value)}, Paired nPair kvs xs → ∀ k, RelO (valN kvs k) ((atKey xs k).map (·.2))
  | _, _, .nil, k => trivial
  | p :: kvs, q :: xs, .cons r t, k => by
    by_cases e : p.1 = k
    · have e' : q.1 = k := r.1.symm.trans e
      show RelO (valN (p :: kvs) k) ((atKey (q :: xs) k).map (·.2))
      simp only [valN, atKey, List.find?_cons, e, e', decide_true, Option.map_some]
      exact r.2.2
    · have e' : ¬ q.1 = k := fun z => e (r.1.trans z)
      have := valN_rel t k
      simp only [valN, atKey, List.find?_cons, e, e', decide_false] at this ⊢
      exact this
/-- d[k] = v -/
def putN (kvs : List NE) (k : NestedKey) (b : Addr) (v : V) : List NE := if (valN kvs k).isSome then kvs.map fun p => if p.1 = k then (p.1, p.2.1, v) else p else kvs ++ [(k, b, v)]
theorem ndRelO_some {o : Option V} {p : Option Value} (h : RelO o p) : o.isSome = p.isSome := h.isSome_eq
theorem putN_rel {xs : List (NestedKey × Addr × Value)} (r : Paired nPair kvs xs) {v : V} {u : Value} (rv : RelV v u) : Paired nPair (putN kvs k b v) (storedH xs k b u) := by
  have h := ndRelO_some (valN_rel r k)
  rw [Option.isSome_map] at h
  unfold putN storedH
  rw [h]
  split
  · have : ∀ {l : List NE} {m : List (NestedKey × Addr × Value)}, Paired nPair l m → Paired nPair (l.map fun p => if p.1 = k then (p.1, p.2.1, v) else p) (m.map (putAt k u)) := by
      intro l m p
      induction p with
      | nil => exact .nil
      | @cons p q _ _ r _ ih =>
        refine .cons ?_ ih
        unfold putAt
        show nPair (if p.1 = k then (p.1, p.2.1, v) else p) _
        by_cases e : p.1 = k
        · rw [if_pos e, if_pos (r.1.symm.trans e)]
          exact ⟨r.1, r.2.1, rv⟩
        · rw [if_neg e, if_neg fun z => e (r.1.trans z)]
          exact r
    exact this r
  · have : ∀ {l l2 : List NE} {m m2 : List (NestedKey × Addr × Value)}, Paired nPair l m → Paired nPair l2 m2 → Paired nPair (l ++ l2) (m ++ m2) := by
      intro l l2 m m2 p q
      induction p with
      | nil => exact q
      | cons r _ ih => exact .cons r ih
    exact this r (.cons ⟨rfl, rfl, rv⟩ .nil)
theorem putN_len : (putN kvs k b y).length ≤ kvs.length + 1 := by
  unfold putN
  split <;> simp
theorem putN_fit (hf : ∀ p ∈ kvs, keyFit p.1) (hk : keyFit k) : ∀ p ∈ putN kvs k b y, keyFit p.1 := by
  intro p hp
  unfold putN at hp
  split at hp
  · obtain ⟨q, hq, rfl⟩ := List.mem_map.mp hp
    split <;> exact hf q hq
  · rcases List.mem_append.mp hp with z | z
    · exact hf p z
    · rw [List.mem_singleton.mp z]
      exact hk
/-- d.get(k, z) -/
theorem nd_get2 {Q : Value → Shared → Prop} (hu : A.units + 65 < cLine) (I : Inv X pins σ H s) (h : H d = some (NDO d od kvs)) (hk : KeysAt X.K H kvs) (ky : KeyN X.K H k y) (hf : keyFit k) (hy : ∃ b, y = .ref b) (ry : RelV y u) (rz : RelV z r)
    (q : ∀ w' s', Inv X pins σ H s' → RelV ((valN kvs k).getD z) w' → Q w' s') : wpAny (model X.prog X.w) A (call (.builtin "dict.get") [.ref d, u, r]) Q E s := by
  obtain ⟨b, rfl⟩ := hy
  obtain rfl : u = Value.ref b := ry
  obtain ⟨xs, hp, dd⟩ := ndo_of I h hk
  refine call_meetsIn PySem.F.slot_dict_get dd.typeIs PySem.F.entry_dict_get (PySem.F.args_dict_get_3 _ _ _) (meetsH_dict_get_default (nestedKind X.prog X.w) d b (ndo_dict I h).2.2 r) ⟨?_, k, xs, ⟨keyN_is I ky rfl, hf.2⟩, dd, q _ _ (I.tok _) ?_⟩
  · show A.in1.units + 8 < cLine
    show A.units + 1 + 8 < cLine
    omega
  · exact (valN_rel hp k).getD rz
/-- d[k] = v -/
theorem nd_setItem {Q : Unit → Shared → Prop} {v : V} (hu : A.units + 65 < cLine) (I : Inv X pins σ H s) (h : H d = some (NDO d od kvs)) (hk : KeysAt X.K H kvs) (ky : KeyN X.K H k (.ref b)) (hf : keyFit k) (rv : RelV v r) (hl : kvs.length < sizeLine)
    (q : ∀ s' od', Inv X pins σ (upd H d (NDO d od' (putN kvs k b v))) s' → Q () s') : wpAny (model X.prog X.w) A (setItem (.ref d) (.ref b) r) Q E s := by
  obtain ⟨e0, l0, m0, x0, f0, xs, es, ep, hp, hd, he, hn⟩ := ndo_at I h
  have dd : s.heap.DictOfH (nestedKind X.prog X.w) d xs := ⟨od, es, ep, e0, x0, hd, he _ _, fun x hx => by
    obtain ⟨p, hpm, e1, e2, _⟩ := ndPaired_mem hp x hx
    rw [← e1, ← e2]
    exact ⟨keyN_is I (hk p hpm) rfl, (f0 p hpm).2⟩, hn⟩
  have hz : xs.length ≤ sizeLine := by rw [← Paired.length hp]; exact l0
  have hroom : (nestedKind X.prog X.w).room A.in1 := by
    show A.units + 1 + 8 < cLine
    omega
  have hkey : (nestedKind X.prog X.w).is s.heap k b := ⟨keyN_is I ky rfl, hf.2⟩
  refine wpAny_setItem_heap (hsz := hz) hroom hkey dd fun h' dd' hs => ?_
  obtain ⟨od', es', ep', hq, h2, h3, h4, _, h5⟩ := dd'
  refine q _ od' (d_write I (by rw [h]; exact True.intro) hs ⟨od', hq⟩ (ndo_ok hq ⟨by have := putN_len (kvs := kvs) (k := k) (b := b) (y := v); omega, m0, h2, putN_fit f0 hf, _, es', ep', putN_rel hp rv, h3, fun P w => ?_, h5⟩))
  rw [h4]
  refine List.map_congr_left fun x hx => ?_
  obtain ⟨p, hpm, e1, _, _⟩ := ndPaired_mem (putN_rel (k := k) (b := b) hp rv) x hx
  have hfit := putN_fit f0 hf p hpm
  unfold entryOfKey
  rw [← e1]
  show DictEntry.mk (p.1.hash X.w) _ _ = DictEntry.mk (p.1.hash w) _ _
  rw [hash_plain X.w w p.1 hfit.1]
end
def tDNewN : TE := fun _ H Q => ∀ p od, H p = none → Q (.ref p) (upd H p (NDO p od []))
theorem pe_dnewN {X : Cx} {pos : Pos} : PE X (.Dict [] [] pos) tDNewN := ⟨fun pins s σ H Q I h =>
  wpAny_Dict_empty ⟨.ref s.heap.objs.size, _, I.laid (a := s.heap.objs.size) (o := NDO s.heap.objs.size { cls := .type "dict", data := .dict #[] } []) (t' := s.toks) (fun _ _ q => Heap.get?_push_of_some _ q) (Nat.le_refl _)
    (ndo_ok (Heap.get?_push_size _ rfl) ⟨Nat.zero_le _, beq_eq_false_iff_ne.mpr (Ne.symm (Nat.ne_of_lt I.big)), ⟨rfl, rfl, rfl⟩, fun p hp => (by cases hp), [], #[], 0, .nil, rfl, fun _ _ => rfl, List.nodup_nil⟩), rfl, h _ _ (I.hok.fresh (Nat.le_refl _))⟩⟩
def tDGetN (K : PySem.W.Frag) (td ty tx : TE) : TE := fun σ H Q => td σ H fun x H1 => (∃ d od kvs, x = .ref d ∧ H1 d = some (NDO d od kvs)) ∧ ty σ H1 fun y H2 => tx σ H2 fun z H3 => ∃ d od kvs k b, x = .ref d ∧ H3 d = some (NDO d od kvs) ∧ KeysAt K H3 kvs ∧ y = .ref b ∧ KeyN K H3 k (.ref b) ∧ keyFit k ∧ Q ((valN kvs k).getD z) H3
def sDPutN (K : PySem.W.Frag) (td ty tv : TE) : TS := fun D σ H => tv σ H fun v H1 => td σ H1 fun x H2 => ty σ H2 fun y H3 => ∃ d od kvs k b, x = .ref d ∧ H3 d = some (NDO d od kvs) ∧ KeysAt K H3 kvs ∧ y = .ref b ∧ KeyN K H3 k (.ref b) ∧ keyFit k ∧ kvs.length < sizeLine ∧ ∀ od', D.nx σ (upd H3 d (NDO d od' (putN kvs k b v)))
section
variable {X : Cx} {o e f i value : Expr} {apos cpos pos pos' : Pos} {td ty tx tv : TE}
theorem pe_dgetN (hu : X.A.units + 65 < cLine) (ho : PE X o td) (he : PE X e ty) (hf : PE X f tx) (m : M2 X o "get" apos e f cpos) : PE X (.Call (.Attribute o "get" apos) [e, f] [] cpos) (tDGetN X.K td ty tx) := by
  refine ⟨fun pins s σ H Q I h => ?_⟩
  refine wpAny_Call_method m.base m.few m.line PySem.F.plainAttrs_dict PySem.F.slot_dict_get PySem.F.type_dict_get (thn (ho.run pins s σ H _ I h) fun u s1 ⟨x, H1, I1, rx, ⟨d, od, kvs, ex, hd⟩, q1⟩ => ?_)
  subst ex
  obtain rfl : u = Value.ref d := rx
  obtain ⟨t1, t2, _⟩ := ndo_dict I1 hd
  refine ⟨t1, t2, ?_⟩
  rw [m.trees]
  refine Calls.callWith_builtin rfl (Calls.evalArgs_plain (Calls.spliced_cons (thn (he.run pins s1 σ H1 _ I1 q1) fun iv s2 ⟨y, H2, I2, ry, q2⟩ =>
    Calls.spliced_cons (thn (hf.run pins s2 σ H2 _ I2 q2) fun fv s3 ⟨z, H3, I3, rz, d', od', kvs', k, b, ed, hd', hks, eb, hk, hfit, q3⟩ => Calls.spliced_nil ?_))))
  cases ed
  subst eb
  exact nd_get2 hu I3 hd' hks hk hfit ⟨b, rfl⟩ ry rz fun w' s4 I4 rw' => ⟨_, H3, I4, rw', q3⟩
theorem ps_dputN (hu : X.A.units + 65 < cLine) (ho : PE X o td) (hi : PE X i ty) (hv : PE X value tv) (hs : swapsWith value (some (.Subscript o i pos')) pos.line X.env = pure false) :
    PS X (.Assign [.Subscript o i pos'] value pos) (sDPutN X.K td ty tv) := by
  refine ⟨fun pins s σ H D I h => ?_⟩
  refine wpAny_Assign_Subscript (thn (hv.run pins s σ H _ I h) fun r s1 ⟨v, H1, I1, rv, q1⟩ => thn (ho.run pins s1 σ H1 _ I1 q1) fun u s2 ⟨x, H2, I2, rx, q2⟩ => thn (hi.run pins s2 σ H2 _ I2 q2) fun iv s3 ⟨y, H3, I3, ry, d, od, kvs, k, b, ed, hd, hks, eb, hk, hfit, hl, q3⟩ => ?_) hs
  subst ed eb
  obtain rfl : u = Value.ref d := rx
  obtain rfl : iv = Value.ref b := ry
  exact nd_setItem hu I3 hd hks hk hfit rv hl fun s4 od' I4 => ⟨σ, _, I4, q3 od'⟩
end
/-! ### walks -/
theorem ndPaired_at {α β : Type} {F : α → β → Prop} : ∀ {l : List α} {m : List β}, Paired F l m → ∀ {i : Nat} {x : α}, l[i]? = some x → ∃ y, m[i]? = some y ∧ F x y
  | _, _, .nil, i, x, h => by simp at h
  | _, _, .cons r t, 0, x, h => by
    cases h
    exact ⟨_, rfl, r⟩
  | _, _, .cons r t, i + 1, x, h => ndPaired_at t (i := i) h
def Itnk (d : Addr) (od : Obj) (kvs : List NE) : It :=
  ⟨fun i H => H d = some (NDO d od kvs) ∧ i < kvs.length, fun i H x H' => H' = H ∧ ∃ p, kvs[i]? = some p ∧ x = .ref p.2.1, fun i H => H d = some (NDO d od kvs) ∧ kvs.length ≤ i⟩
def Itni (d : Addr) (od : Obj) (kvs : List NE) : It :=
  ⟨fun i H => H d = some (NDO d od kvs) ∧ i < kvs.length, fun i H x H' => ∃ T p, kvs[i]? = some p ∧ x = .ref T ∧ H T = none ∧ H' = upd H T (.tup [.ref p.2.1, p.2.2]), fun i H => H d = some (NDO d od kvs) ∧ kvs.length ≤ i⟩
section
variable {X : Cx} {pins : List (Addr × Obj)} {σ : L2.St} {H : Hp} {s : Shared} {d : Addr} {od : Obj} {kvs : List NE}
theorem ndo_raw (I : Inv X pins σ H s) (h : H d = some (NDO d od kvs)) : ∃ es ep, od.data = .dict es ep ∧ s.heap.get? d = some od ∧ od.ExactDict ∧ s.heap.DictRaw d es ep ∧ (d == sysModules) = false ∧ es.size = kvs.length ∧ kvs.length ≤ sizeLine ∧
    ∀ i p, kvs[i]? = some p → ∃ hi : i < es.size, es[i].key = .ref p.2.1 ∧ RelV p.2.2 es[i].val := by
  obtain ⟨e, hl, hm, hx, hf, xs, es, ep, hp, hd, he, hn⟩ := ndo_at I h
  have hs : es.size = kvs.length := by rw [size_of_entries (he X.prog X.w), ← Paired.length hp]
  refine ⟨es, ep, hd, e, hx, ⟨od, e, hx, hd⟩, hm, hs, hl, fun i p hi => ?_⟩
  have hlt : i < es.size := by rw [hs]; exact (List.getElem?_eq_some_iff.mp hi).1
  obtain ⟨q, hq, _, e2, r⟩ := ndPaired_at hp hi
  have e1 := entry_at (he X.prog X.w) i
  rw [hq, Array.getElem?_eq_getElem hlt, Option.map_some] at e1
  have e3 := Option.some.inj e1
  refine ⟨hlt, ?_, ?_⟩
  · rw [e3, e2]
    rfl
  · rw [e3]
    exact r
end
section
variable {P : Program} {w : World} {K : PySem.W.Frag} {tg : Expr} {d : Addr} {od : Obj} {es : Array DictEntry} {ep : Nat} {kvs : List NE}
theorem turn_nk (it : Addr) (hod : od.data = .dict es ep) : Turn P w K tg (Itnk d od kvs) [it] it (fun i h => h.IsKeyIter it d i kvs.length ep) where
  mem := by simp
  obj := fun i h st b hb => by
    have e : b = it := by simpa using hb
    subst e
    obtain ⟨oi, e, c, dd⟩ := st
    exact ⟨oi, e, fun v z => by rw [dd] at z; cases z⟩
  keep := fun i h h' st k => st.at fun oi e => k it (by simp) oi e
  item := by
    intro X hP hw hK hc i pins s σ H E I hf st hg
    subst hP hw hK
    obtain ⟨hd, hi⟩ := hg
    obtain ⟨f0, f1, f2, f3, f4, f5⟩ := hf it (by simp)
    obtain ⟨es', ep', hdt, hgd, hx, raw, hs, hsz, _, ent⟩ := ndo_raw I hd
    obtain ⟨rfl, rfl⟩ := dict_ep hod hdt
    obtain ⟨p, hp⟩ : ∃ p, kvs[i]? = some p := ⟨kvs[i], List.getElem?_eq_getElem hi⟩
    obtain ⟨hlt, hk, _⟩ := ent i p hp
    have st0 := st
    rw [← hsz] at st
    refine wpAny_pyNext_keys_item_raw st raw hlt fun h' st' sb => ?_
    rw [hsz] at st'
    have I1 : Inv X pins σ H { s with heap := h' } := I.turned (t' := s.toks) (fun b ob hb e => (sb.2 b hb).trans e) f0 f1 f3 f4 f5
    obtain ⟨oi, e, c, dd⟩ := id st'
    exact ⟨_, rfl, go_of (s := { s with heap := h' }) e c dd (by decide) ⟨.ref p.2.1, H, I1, hk, ⟨rfl, p, hp, rfl⟩, st', fun b hb => (hf b hb).1⟩⟩
  done := by
    intro X hP hw hK hc i pins s σ H E I hf st hg
    subst hP hw hK
    obtain ⟨hd, hi⟩ := hg
    obtain ⟨f0, f1, f2, f3, f4, f5⟩ := hf it (by simp)
    obtain ⟨es', ep', hdt, hgd, hx, raw, hs, hsz, _, ent⟩ := ndo_raw I hd
    obtain ⟨rfl, rfl⟩ := dict_ep hod hdt
    rw [← hsz] at st
    exact wpAny_pyNext_keys_end_raw (I.ok.hd hc) st raw (by omega) fun h' eb => ⟨rfl, I.turned (t' := s.toks) (fun b ob hb e => eb b ob hb e) f0 f1 f3 f4 f5⟩
  self := fun A i s Q E st h => by
    refine wpAny_pyIter_slot st.typeIs F.slot_dict_keyiterator_iter (wpAny_call_entry F.slot_dict_keyiterator_iter st.typeIs F.entry_dict_keyiterator_iter ?_ (F.args_dict_keyiterator_iter_1 _))
    show wpAny _ _ (ret (.ref it)) _ _ s
    exact wpAny_pure ⟨_, rfl, "dict_keyiterator", _, st.typeIs, F.slot_dict_keyiterator_next.lookup, h⟩
theorem turn_ni {elts : List Expr} {kk : Nat} {tpos : Pos} (it : Addr) (hod : od.data = .dict es ep) :
    Turn P w K (.Tuple elts kk tpos) (Itni d od kvs) [it] it (fun i h => ∃ ok ov, IsItemIter h it d i kvs.length ep ok ov) where
  mem := by simp
  obj := fun i h st b hb => by
    have e : b = it := by simpa using hb
    subst e
    obtain ⟨ok, ov, e⟩ := st
    exact ⟨_, e, fun v z => nomatch z⟩
  keep := fun i h h' st k => let ⟨ok, ov, e⟩ := st; ⟨ok, ov, k it (by simp) _ e⟩
  item := by
    intro X hP hw hK hc i pins s σ H E I hf st hg
    subst hP hw hK
    obtain ⟨hd, hi⟩ := hg
    obtain ⟨es', ep', hdt, hgd, hx, raw, hs, hsz, _, ent⟩ := ndo_raw I hd
    obtain ⟨rfl, rfl⟩ := dict_ep hod hdt
    obtain ⟨p, hp⟩ : ∃ p, kvs[i]? = some p := ⟨kvs[i], List.getElem?_eq_getElem hi⟩
    obtain ⟨hlt, hk, hv⟩ := ent i p hp
    obtain ⟨ok, ov, he⟩ := st
    rw [← hsz] at he
    have hlt2 : it < s.heap.objs.size := Heap.lt_size he
    refine wpAny_pyNext_items_item_raw he raw hlt fun h' ho hT hz hk2 => ?_
    refine ⟨_, rfl, wpAny_letOwnedTupleGo_items (s := { s with heap := h' }) ho fun h'' he' sb => ?_⟩
    have hT2 : h''.get? s.heap.objs.size = some { cls := .type "tuple", data := .seq #[es'[i].key, es'[i].val] } := (sb.2 _ (Nat.ne_of_gt hlt2)).trans hT
    have new : ObjOk X.prog X.w (upd H s.heap.objs.size (.tup [.ref p.2.1, p.2.2])) h'' s.heap.objs.size (.tup [.ref p.2.1, p.2.2]) :=
      ⟨by show 2 ≤ sizeLine; decide, [es'[i].key, es'[i].val], .cons (show RelV (.ref p.2.1) es'[i].key from hk) (.cons hv .nil), ⟨_, hT2, rfl, _, rfl⟩⟩
    have I1 : Inv X pins σ (upd H s.heap.objs.size (.tup [.ref p.2.1, p.2.2])) { s with heap := h'' } :=
      I.turnedNew (t' := s.toks) (ch := [it]) (fun b ob hb e => (sb.2 b (by simpa using hb)).trans (hk2 b ob (by simpa using hb) e)) hf (Nat.le_refl _) new
    refine ⟨.ref s.heap.objs.size, _, I1, rfl, ⟨_, p, hp, rfl, I.hok.fresh (Nat.le_refl _), rfl⟩, ⟨es'[i].key, es'[i].val, ?_⟩, fun b hb => ?_⟩
    · rw [← hsz]; exact he'
    · have e : b = it := by simpa using hb
      rw [e, upd_ne (Nat.ne_of_lt hlt2)]
      exact (hf it (by simp)).1
  done := by
    intro X hP hw hK hc i pins s σ H E I hf st hg
    subst hP hw hK
    obtain ⟨hd, hi⟩ := hg
    obtain ⟨f0, f1, f2, f3, f4, f5⟩ := hf it (by simp)
    obtain ⟨es', ep', hdt, hgd, hx, raw, hs, hsz, _, ent⟩ := ndo_raw I hd
    obtain ⟨rfl, rfl⟩ := dict_ep hod hdt
    obtain ⟨ok, ov, he⟩ := st
    rw [← hsz] at he
    exact wpAny_pyNext_items_end_raw (I.ok.hd hc) he raw (by omega) fun h' eb => ⟨rfl, I.turned (t' := s.toks) (fun b ob hb e => eb b ob hb e) f0 f1 f3 f4 f5⟩
  self := fun A i s Q E st h => let ⟨_, _, e⟩ := st; PySem.W.kcp_self e h
end
def iKeysN (td : TE) : TI := fun σ H R => td σ H fun x H1 => ∃ d od kvs, x = .ref d ∧ H1 d = some (NDO d od kvs) ∧ R (Itnk d od kvs) H1
def iItemsN (td : TE) : TI := fun σ H R => td σ H fun x H1 => ∃ d od kvs, x = .ref d ∧ H1 d = some (NDO d od kvs) ∧ R (Itni d od kvs) H1
section
variable {X : Cx} {tg e : Expr} {td : TE} {apos cpos : Pos}
theorem pi_keysN (he : PE X e td) : PI X tg e (iKeysN td) := by
  refine ⟨fun pins s σ H R I h => ?_⟩
  refine thn (he.run pins s σ H _ I h) fun u s1 ⟨x, H1, I1, rx, d, od, kvs, ex, hd, q⟩ => ?_
  subst ex
  obtain rfl : u = Value.ref d := rx
  obtain ⟨es, ep, hdt, hgd, hx, raw, hs, hsz, _, _⟩ := ndo_raw I1 hd
  refine wpAny_pyIter_dict_raw hs raw (pi_one (tk := s1.toks) I1 _ (turn_nk _ hdt) ⟨_, Heap.get?_push_size _ rfl, rfl, ?_⟩ q)
  rw [hsz] <;> rfl
theorem pi_itemsN {elts : List Expr} {kk : Nat} {tpos : Pos} (he : PE X e td) (hbase : attributeBase e "items" X.env (eval e X.env) = eval e X.env := by rfl) (hline : (apos.endLine == cpos.line) = true := by rfl) :
    PI X (.Tuple elts kk tpos) (.Call (.Attribute e "items" apos) [] [] cpos) (iItemsN td) := by
  refine ⟨fun pins s σ H R I h => ?_⟩
  refine wpAny_Call_method (T := "dict") (id := "dict.items") hbase rfl hline F.plainAttrs_dict F.slot_dict_items F.type_dict_items (thn (he.run pins s σ H _ I h) fun u s1 ⟨x, H1, I1, rx, d, od, kvs, ex, hd, q⟩ => ?_)
  subst ex
  obtain rfl : u = Value.ref d := rx
  obtain ⟨es, ep, hdt, hgd, hx, raw, hs, hsz, _, _⟩ := ndo_raw I1 hd
  obtain ⟨t1, t2, _⟩ := ndo_dict I1 hd
  refine ⟨t1, t2, ?_⟩
  have I2 : Inv X pins σ H1 { s1 with heap := s1.heap.push { cls := .type "dict_items", data := .fields #[.ref d] } } := I1.kept (t' := s1.toks) fun b ob q => Heap.get?_push_of_some _ q
  have fin : wpAny (model X.prog X.w) X.A (pyIter (.ref s1.heap.objs.size)) (PIE X pins σ (.Tuple elts kk tpos) R) X.xe { s1 with heap := s1.heap.push { cls := .type "dict_items", data := .fields #[.ref d] } } := by
    refine wpAny_pyIter_items_raw (d := d) ⟨_, Heap.get?_push_size _ rfl, rfl, rfl⟩ (raw.at fun o e => Heap.get?_push_of_some _ e) (pi_one (tk := s1.toks) I2 _ (turn_ni _ hdt) ⟨.none, .none, ?_⟩ q)
    rw [← hsz]
    exact Heap.get?_push_size _ rfl
  show wpAny _ _ (callWith cpos (.builtin "dict.items") [.ref d] [] []) _ X.xe s1
  exact method_meetsIn F.slot_dict_items F.entry_dict_items rfl (PySem.evalArgs_none ⟨rfl, t1, F.args_dict_items_1 _, _, meets_dict_items_raw d hs, ⟨es, ep, raw⟩, fin⟩)
theorem kdl_raw {prog : Program} {w : World} {d : Addr} {es : Array DictEntry} {ep : Nat} (lo : (d == sysModules) = false) : PySem.W.KdlSrc prog w "dict" d d es.size (fun i v => ∃ hi : i < es.size, v = es[i].key) (fun h => h.DictRaw d es ep) where
  type := fun _ hm => hm.typeIs
  there := fun _ hm => let ⟨_, e, _⟩ := hm; ⟨Heap.lt_size e, Heap.lt_size e⟩
  keep := fun _ _ hm hk => hm.at fun o e => hk d (.inl rfl) o e
  notList := by decide
  notTuple := by decide
  hint := fun _ _ _ _ hm hq => PySem.W.kdl_hint_dict hm.typeIs hq
  iter := fun _ _ hh hm => ⟨_, _, (fun _ _ hq => wpAny_pyIter_dict_raw lo hm hq), Walks.rawKeys hh _ d (let ⟨_, e, _⟩ := hm; Nat.ne_of_lt (Heap.lt_size e)) es ep, ⟨⟨_, Heap.get?_push_size _ rfl, rfl, rfl⟩, hm.at fun o e => Heap.get?_push_of_some _ e⟩⟩
/-- list(d) -/
def rListN : List V → Hp → VK → Prop := fun xs H Q => ∃ (d : Addr) (od : Obj) (kvs : List NE), xs = [.ref d] ∧ H d = some (NDO d od kvs) ∧ ∀ p, H p = none → Q (.ref p) (upd H p (.lst (kvs.map fun p => V.ref p.2.1)))
theorem call_listN (hcalm : X.calm = true) : CallR X (.type "list") rListN := by
  intro pins s σ H xs us Q I r q
  obtain ⟨d, od, kvs, ex, hd, q⟩ := q
  subst ex
  obtain ⟨u, eu, rx⟩ := vals1 r
  subst eu
  cases rx
  obtain ⟨es, ep, hdt, hgd, hx, raw, hs, hsz, hl, ent⟩ := ndo_raw I hd
  refine PySem.W.kdl_call (kdl_raw hs) (I.ok.hd hcalm) raw (by rw [hsz]; exact hl) fun h' tk acc c' hk hD hacc => ?_
  have hlen : acc.toList.length = kvs.length := by rw [Array.length_toList, hacc.1, hsz]
  have hv : Vals (kvs.map fun p => V.ref p.2.1) acc.toList := by
    have : ∀ {l : List NE} {us : List Value}, us.length = l.length → (∀ (i : Nat) (p : NE) (u : Value), l[i]? = some p → us[i]? = some u → u = Value.ref p.2.1) → Vals (l.map fun p : NE => V.ref p.2.1) us := by
      intro l
      induction l with
      | nil => intro us h _; cases us with | nil => exact .nil | cons _ _ => cases h
      | cons p l ih =>
        intro us h f
        cases us with
        | nil => cases h
        | cons u us => exact .cons (f 0 p u rfl rfl) (ih (Nat.succ.inj h) fun i p u h1 h2 => f (i + 1) p u h1 h2)
    refine this hlen fun i p u hp hu => ?_
    obtain ⟨hlt, hk2, _⟩ := ent i p hp
    obtain ⟨hi, e⟩ := hacc.2 i u (by rw [← Array.getElem?_toList]; exact hu)
    rw [e, hk2]
  refine ⟨.ref s.heap.objs.size, upd H s.heap.objs.size (.lst (kvs.map fun p => V.ref p.2.1)), I.laid (t' := tk) hk (Nat.le_refl _)
    (show ObjOk X.prog X.w _ _ _ (.lst (kvs.map fun p => V.ref p.2.1)) from ⟨by rw [List.length_map]; exact hl, acc.toList, c', hv, by rw [Array.toArray_toList]; exact hD⟩), rfl, q _ (I.hok.fresh (Nat.le_refl _))⟩
/-- {k: v} -/
def tDisp1N (K : PySem.W.Frag) (tk tv : TE) : TE := fun σ H Q => ∀ p od0, H p = none → tk σ (upd H p (NDO p od0 [])) fun y H1 => tv σ H1 fun z H2 => H2 p = some (NDO p od0 []) ∧ ∃ k b, y = .ref b ∧ KeyN K H2 k (.ref b) ∧ keyFit k ∧ ∀ od, Q (.ref p) (upd H2 p (NDO p od [(k, b, z)]))
theorem pe_disp1N {k v : Expr} {pos : Pos} {tk tv : TE} (hu : X.A.units + 65 < cLine) (hk : PE X k tk) (hv : PE X v tv) : PE X (.Dict [some k] [v] pos) (tDisp1N X.K tk tv) := by
  refine ⟨fun pins s σ H Q I q => ?_⟩
  have hn := I.hok.fresh (Nat.le_refl s.heap.objs.size)
  have I1 : Inv X pins σ (upd H s.heap.objs.size (NDO s.heap.objs.size { cls := .type "dict", data := .dict #[] } [])) { s with heap := s.heap.push { cls := .type "dict", data := .dict #[] } } :=
    I.laid (a := s.heap.objs.size) (t' := s.toks) (fun _ _ q => Heap.get?_push_of_some _ q) (Nat.le_refl _)
      (ndo_ok (Heap.get?_push_size _ rfl) ⟨Nat.zero_le _, beq_eq_false_iff_ne.mpr (Ne.symm (Nat.ne_of_lt I.big)), ⟨rfl, rfl, rfl⟩, fun p hp => (by cases hp), [], #[], 0, .nil, rfl, fun _ _ => rfl, List.nodup_nil⟩)
  have run := q s.heap.objs.size { cls := .type "dict", data := .dict #[] } hn
  rw [arm_eval_Dict, zip_pairTrees [some k] [v] X.env pos rfl rfl, dictDisplay_pairs _ (by simp [pairTrees]) (by simp [pairTrees])]
  refine wpAny_bind (wpAny_standAt (wpAny_bind (wpAny_subDictH (knd := nestedKind X.prog X.w) (Q := fun d s' => wpAny (model X.prog X.w) X.A (pure (Value.ref d)) _ X.xe s') (show X.A.units + 8 < cLine by omega) (by simp [pairTrees]) ?_)))
  refine pairTrees_cons_walk (thn (hk.run pins _ σ _ _ I1 run) fun u s1 ⟨y, H1, I2, ry, q1⟩ => thn (hv.run pins s1 σ H1 _ I2 q1) fun r s2 ⟨z, H2, I3, rz, e2, kk, b, ey, ky, hf, q2⟩ => pairTrees_nil_walk ?_)
  subst ey
  obtain rfl : u = Value.ref b := ry
  obtain ⟨xs, hp, dd⟩ := ndo_of I3 e2 fun p hp => (by cases hp)
  cases hp
  refine ⟨[(kk, b, r)], ⟨rfl, rfl, ⟨keyN_is I3 ky rfl, hf.2⟩, trivial⟩, dd, fun h' tk dd' hs => wpAny_pure ?_⟩
  obtain ⟨od', es', ep', hq, h2, h3, h4, _, h5⟩ := dd'
  have hst : storedAllH ([] : List (NestedKey × Addr × Value)) [(kk, b, r)] = [(kk, b, r)] := rfl
  rw [hst] at h4 h5
  obtain ⟨_, _, m0, _⟩ := ndo_at I3 e2
  refine ⟨.ref s.heap.objs.size, _, d_write I3 (t' := tk) (by rw [e2]; exact True.intro) hs ⟨od', hq⟩ (ndo_ok hq ⟨?_, m0, h2, fun p hp => ?_, [(kk, b, r)], es', ep', .cons ⟨rfl, rfl, rz⟩ .nil, h3, fun P w => ?_, h5⟩), rfl, q2 od'⟩
  · rw [sizeLine_eq]; simp
  · rw [List.mem_singleton.mp hp]
    exact hf
  · rw [h4]
    show [DictEntry.mk (kk.hash X.w) _ _] = [DictEntry.mk (kk.hash w) _ _]
    rw [hash_plain X.w w kk hf.1]
end
end Mv
set_option Elab.async false
set_option linter.all false
set_option maxRecDepth 100000
set_option maxHeartbeats 1000000
/-! data: what a value stands for, whatever its place -/
namespace DL
open PySem PySem.Spec PyProof.Rows L2 Mv
inductive D where
  | sc (v : V)
  | tup (xs : List D)
  | lst (xs : List D)
  | ins (C : Addr) (fs : List (Str × D))
  | dK (kvs : List (Key × D))
  | dN (kvs : List (D × D))
  /-- a list that is only read -/
  | fl (xs : List D)
abbrev D.int (i : Int) : D := .sc (.int i)
abbrev D.bl (b : Bool) : D := .sc (.bl b)
abbrev D.str (z : Str) : D := .sc (.str z)
abbrev D.non : D := .sc .non
def isTbl : HO → Prop
  | .tbl _ => True
  | _ => False
/-- what an object holds -/
inductive CO where
  | lst (xs : List D)
  | ins (C : Addr) (fs : List (Str × D))
  | dK (kvs : List (Key × D))
  | dN (kvs : List (D × D))
def CO.frz : CO → D
  | .lst xs => .lst xs
  | .ins C fs => .ins C fs
  | .dK k => .dK k
  | .dN k => .dN k
/-- a slot's content: anything, data, an object of one's own (l: made here) -/
inductive SV where
  | no
  | d (x : D)
  | o (l : Bool) (c : CO)
abbrev SS := List SV
/-- an expression's outcome: data, a new object, the object of a slot -/
inductive R where
  | d (x : D)
  | o (c : CO)
  | bw (i : Nat)
mutual
def nk : D → Option NestedKey
  | .sc (.int i) => some (.num i)
  | .tup xs => (nks xs).map .tup
  | _ => none
def nks : List D → Option (List NestedKey)
  | [] => some []
  | x :: xs => match nk x with
    | some k => (nks xs).map (k :: ·)
    | none => none
end
mutual
inductive Rp (K : PySem.W.Frag) (G : Hp) : V → D → Prop
  | sc (v : V) : Rp K G v (.sc v)
  | tup {a : Addr} {vs : List V} {ds : List D} : SqT K G a vs → Rps K G vs ds → Rp K G (.ref a) (.tup ds)
  | lst {a : Addr} {vs : List V} {ds : List D} : G a = some (.lst vs) → Rps K G vs ds → Rp K G (.ref a) (.lst ds)
  | fl {a : Addr} {vs : List V} {ds : List D} : SqL K G a vs → Rps K G vs ds → Rp K G (.ref a) (.fl ds)
  | ins {a C dx : Addr} {fs : List (Str × V)} {gs : List (Str × D)} : G a = some (.ins C dx fs) → fs.map (·.1) = gs.map (·.1) → Rps K G (fs.map (·.2)) (gs.map (·.2)) → Rp K G (.ref a) (.ins C gs)
  | dK {a : Addr} {ks : List (Key × V)} {ds : List (Key × D)} : G a = some (.dK ks) → ks.map (·.1) = ds.map (·.1) → Rps K G (ks.map (·.2)) (ds.map (·.2)) → Rp K G (.ref a) (.dK ds)
  | dN {a : Addr} {od : Obj} {ks : List NE} {ds : List (D × D)} : G a = some (NDO a od ks) → (ks.map fun p => some p.1) = ds.map (fun d => nk d.1) → Rps K G (ks.map fun p => V.ref p.2.1) (ds.map (·.1)) → Rps K G (ks.map (·.2.2)) (ds.map (·.2)) → Rp K G (.ref a) (.dN ds)
inductive Rps (K : PySem.W.Frag) (G : Hp) : List V → List D → Prop
  | nil : Rps K G [] []
  | cons {v : V} {vs : List V} {d : D} {ds : List D} : Rp K G v d → Rps K G vs ds → Rps K G (v :: vs) (d :: ds)
end
section
variable {K : PySem.W.Frag} {G G' : Hp}
theorem ExtN.rd {a : Addr} {o : HO} (e : LamX.ExtN G G') (h : Rd G a o) (n : ∀ ps, o ≠ .tbl ps) : Rd G' a o := by
  rcases h with h | ⟨u, h⟩
  · exact .inl (e _ _ h n)
  · exact .inr ⟨u, e _ _ h (fun ps z => by cases z)⟩
theorem ExtN.sqT {a : Addr} {xs : List V} (e : LamX.ExtN G G') (h : SqT K G a xs) : SqT K G' a xs := by
  rcases h with h | h
  · exact .inl (ExtN.rd e h fun ps z => by cases z)
  · exact .inr h
theorem ExtN.sqL {a : Addr} {xs : List V} (e : LamX.ExtN G G') (h : SqL K G a xs) : SqL K G' a xs := by
  rcases h with h | h
  · exact .inl (ExtN.rd e h fun ps z => by cases z)
  · exact .inr h
mutual
theorem Rp.ext (e : LamX.ExtN G G') : ∀ {v : V} {d : D}, Rp K G v d → Rp K G' v d
  | _, _, .sc v => .sc v
  | _, _, .tup h r => .tup (ExtN.sqT e h) (Rps.ext e r)
  | _, _, .lst h r => .lst (e _ _ h fun ps z => by cases z) (Rps.ext e r)
  | _, _, .fl h r => .fl (ExtN.sqL e h) (Rps.ext e r)
  | _, _, .ins h n r => .ins (e _ _ h fun ps z => by cases z) n (Rps.ext e r)
  | _, _, .dK h n r => .dK (e _ _ h fun ps z => by cases z) n (Rps.ext e r)
  | _, _, .dN h n r1 r => .dN (e _ _ h fun ps z => by cases z) n (Rps.ext e r1) (Rps.ext e r)
theorem Rps.ext (e : LamX.ExtN G G') : ∀ {vs : List V} {ds : List D}, Rps K G vs ds → Rps K G' vs ds
  | _, _, .nil => .nil
  | _, _, .cons h r => .cons (Rp.ext e h) (Rps.ext e r)
end
theorem Rps.length : ∀ {vs : List V} {ds : List D}, Rps K G vs ds → vs.length = ds.length
  | _, _, .nil => rfl
  | _, _, .cons h r => congrArg (· + 1) r.length
theorem Rps.app : ∀ {vs us : List V} {ds es : List D}, Rps K G vs ds → Rps K G us es → Rps K G (vs ++ us) (ds ++ es)
  | _, _, _, _, .nil, s => s
  | _, _, _, _, .cons h r, s => .cons h (r.app s)
theorem Rps.at : ∀ {vs : List V} {ds : List D} {i : Nat} {d : D}, Rps K G vs ds → ds[i]? = some d → ∃ v, vs[i]? = some v ∧ Rp K G v d
  | _, _, i, _, .nil, h => by simp at h
  | _, _, 0, _, .cons h r, e => ⟨_, rfl, by cases e; exact h⟩
  | _, _, i + 1, _, .cons h r, e => Rps.at (i := i) r e
theorem Rps.at' : ∀ {vs : List V} {ds : List D} {i : Nat} {v : V}, Rps K G vs ds → vs[i]? = some v → ∃ d, ds[i]? = some d ∧ Rp K G v d
  | _, _, i, _, .nil, h => by simp at h
  | _, _, 0, _, .cons h r, e => ⟨_, rfl, by cases e; exact h⟩
  | _, _, i + 1, _, .cons h r, e => Rps.at' (i := i) r e
theorem Rps.take : ∀ {vs : List V} {ds : List D} (n : Nat), Rps K G vs ds → Rps K G (vs.take n) (ds.take n)
  | _, _, 0, _ => .nil
  | _, _, n + 1, .nil => .nil
  | _, _, n + 1, .cons h r => .cons h (r.take n)
theorem Rps.drop : ∀ {vs : List V} {ds : List D} (n : Nat), Rps K G vs ds → Rps K G (vs.drop n) (ds.drop n)
  | _, _, 0, r => r
  | _, _, n + 1, .nil => .nil
  | _, _, n + 1, .cons h r => r.drop n
theorem Rps.rev : ∀ {vs : List V} {ds : List D}, Rps K G vs ds → Rps K G vs.reverse ds.reverse
  | _, _, .nil => .nil
  | _, _, .cons h r => by
    rw [List.reverse_cons, List.reverse_cons]
    exact r.rev.app (.cons h .nil)
theorem Rps.set : ∀ {vs : List V} {ds : List D} (i : Nat) {v : V} {d : D}, Rps K G vs ds → Rp K G v d → Rps K G (vs.set i v) (ds.set i d)
  | _, _, _, _, _, .nil, _ => .nil
  | _, _, 0, _, _, .cons _ r, h => .cons h r
  | _, _, i + 1, _, _, .cons k r, h => .cons k (r.set i h)
theorem Rps.erase : ∀ {vs : List V} {ds : List D} (i : Nat), Rps K G vs ds → Rps K G (vs.eraseIdx i) (ds.eraseIdx i)
  | _, _, _, .nil => .nil
  | _, _, 0, .cons _ r => r
  | _, _, i + 1, .cons k r => .cons k (r.erase i)
theorem Rps.dropLast : ∀ {vs : List V} {ds : List D}, Rps K G vs ds → Rps K G vs.dropLast ds.dropLast
  | _, _, .nil => .nil
  | _, _, .cons h .nil => .nil
  | _, _, .cons h (.cons k r) => .cons h (Rps.dropLast (.cons k r))
theorem Rps.of_all : ∀ {vs : List V} {ds : List D}, vs.length = ds.length → (∀ (i : Nat) v d, vs[i]? = some v → ds[i]? = some d → Rp K G v d) → Rps K G vs ds
  | [], [], _, _ => .nil
  | [], _ :: _, h, _ => by cases h
  | _ :: _, [], h, _ => by cases h
  | v :: vs, d :: ds, h, f => .cons (f 0 v d rfl rfl) (Rps.of_all (Nat.succ.inj h) fun i v d h1 h2 => f (i + 1) v d h1 h2)
theorem Rps.scs : ∀ {vs ws : List V}, Rps K G vs (ws.map D.sc) → vs = ws
  | _, [], h => by cases h; rfl
  | _, w :: ws, h => by
    cases h with
    | cons h r => cases h; rw [r.scs]
theorem Rps.of_scs : ∀ (ws : List V), Rps K G ws (ws.map D.sc)
  | [] => .nil
  | w :: ws => .cons (.sc w) (Rps.of_scs ws)
end
/-! ### the heap but for some places -/
open Classical in
noncomputable def res (A : Addr → Prop) (H : Hp) : Hp := fun b => if A b then none else H b
theorem res_eq {A : Addr → Prop} {H : Hp} {b : Addr} (h : ¬ A b) : res A H b = H b := by unfold res; rw [if_neg h]
theorem res_some {A : Addr → Prop} {H : Hp} {b : Addr} {o : HO} (h : res A H b = some o) : ¬ A b ∧ H b = some o := by
  unfold res at h
  split at h
  · cases h
  · exact ⟨by assumption, h⟩
/-- all but M and the tables stay -/
def Kp (M : Addr → Prop) (H H' : Hp) : Prop := ∀ b o, ¬ M b → H b = some o → (∀ ps, o ≠ .tbl ps) → H' b = some o
theorem Kp.refl (M : Addr → Prop) (H : Hp) : Kp M H H := fun _ _ _ h _ => h
theorem Kp.trans {M M' : Addr → Prop} {H H1 H2 : Hp} (a : Kp M H H1) (b : Kp M' H1 H2) (s : ∀ x, M' x → M x) : Kp M H H2 := fun c o n h t => b c o (fun z => n (s c z)) (a c o n h t) t
theorem Kp.of {M : Addr → Prop} {H H' : Hp} (s : Same H H') : Kp M H H' := fun b o _ h _ => s b o h
theorem Kp.mono {M M' : Addr → Prop} {H H1 : Hp} (a : Kp M H H1) (s : ∀ x, M x → M' x) : Kp M' H H1 := fun c o n h t => a c o (fun z => n (s c z)) h t
/-- a place that was free, or a table's -/
def NwD (H : Hp) (l : Addr) : Prop := ∀ o, H l = some o → ∃ ps, o = .tbl ps
theorem NwD.of {H : Hp} {l : Addr} (h : H l = none) : NwD H l := fun o e => by rw [h] at e; cases e
theorem NwD.ne {H : Hp} {l b : Addr} {o : HO} (n : NwD H l) (h : H b = some o) (t : ∀ ps, o ≠ .tbl ps) : b ≠ l := fun e => by
  subst e
  obtain ⟨ps, z⟩ := n o h
  exact t ps z
theorem res_ext {M A A' : Addr → Prop} {H H' : Hp} (k : Kp M H H') (hm : ∀ x, M x → A x) (ha : ∀ x, A' x → A x ∨ NwD H x) : LamX.ExtN (res A H) (res A' H') := fun b o h t => by
  obtain ⟨n, e⟩ := res_some h
  have n' : ¬ A' b := fun z => by
    rcases ha b z with z | z
    · exact n z
    · exact z.ne e t rfl
  rw [res_eq n']
  exact k b o (fun z => n (hm b z)) e t
theorem res_less {A A' : Addr → Prop} {H : Hp} (ha : ∀ x, A' x → A x) : LamX.ExtN (res A H) (res A' H) := res_ext (M := fun _ => False) (Kp.refl _ _) (fun _ z => z.elim) fun x z => .inl (ha x z)
theorem res_all {A : Addr → Prop} {H : Hp} : LamX.ExtN (res A H) H := fun b o h _ => (res_some h).2
/-! ### objects by what they hold -/
def CoR (K : PySem.W.Frag) (G H : Hp) (a : Addr) : CO → Prop
  | .lst xs => ∃ vs, H a = some (.lst vs) ∧ Rps K G vs xs
  | .ins C gs => ∃ dx fs, H a = some (.ins C dx fs) ∧ fs.map (·.1) = gs.map (·.1) ∧ Rps K G (fs.map (·.2)) (gs.map (·.2))
  | .dK ds => ∃ ks, H a = some (.dK ks) ∧ ks.map (·.1) = ds.map (·.1) ∧ Rps K G (ks.map (·.2)) (ds.map (·.2))
  | .dN ds => ∃ od ks, H a = some (NDO a od ks) ∧ (ks.map fun p : NE => some p.1) = ds.map (fun d => nk d.1) ∧ Rps K G (ks.map fun p : NE => V.ref p.2.1) (ds.map (·.1)) ∧ Rps K G (ks.map (·.2.2)) (ds.map (·.2))
section
variable {K : PySem.W.Frag} {G G' H H' : Hp} {a : Addr} {c : CO}
theorem CoR.there (h : CoR K G H a c) : ∃ o, H a = some o ∧ ∀ ps, o ≠ .tbl ps := by
  cases c with
  | lst => obtain ⟨_, e, _⟩ := h; exact ⟨_, e, fun ps z => by cases z⟩
  | ins => obtain ⟨_, _, e, _⟩ := h; exact ⟨_, e, fun ps z => by cases z⟩
  | dK => obtain ⟨_, e, _⟩ := h; exact ⟨_, e, fun ps z => by cases z⟩
  | dN => obtain ⟨_, _, e, _⟩ := h; exact ⟨_, e, fun ps z => by cases z⟩
theorem CoR.ext (h : CoR K G H a c) (e : LamX.ExtN G G') (he : ∀ o, H a = some o → (∀ ps, o ≠ .tbl ps) → H' a = some o) : CoR K G' H' a c := by
  cases c with
  | lst => obtain ⟨_, e1, r⟩ := h; exact ⟨_, he _ e1 (fun ps z => by cases z), r.ext e⟩
  | ins => obtain ⟨_, _, e1, n, r⟩ := h; exact ⟨_, _, he _ e1 (fun ps z => by cases z), n, r.ext e⟩
  | dK => obtain ⟨_, e1, n, r⟩ := h; exact ⟨_, he _ e1 (fun ps z => by cases z), n, r.ext e⟩
  | dN => obtain ⟨_, _, e1, n, r1, r⟩ := h; exact ⟨_, _, he _ e1 (fun ps z => by cases z), n, r1.ext e, r.ext e⟩
/-- left as it is: from now on it is data -/
theorem CoR.frz (h : CoR K G H a c) (e : LamX.ExtN G G') (he : ∀ o, H a = some o → G' a = some o) : Rp K G' (.ref a) c.frz := by
  cases c with
  | lst => obtain ⟨_, e1, r⟩ := h; exact .lst (he _ e1) (r.ext e)
  | ins => obtain ⟨_, _, e1, n, r⟩ := h; exact .ins (he _ e1) n (r.ext e)
  | dK => obtain ⟨_, e1, n, r⟩ := h; exact .dK (he _ e1) n (r.ext e)
  | dN => obtain ⟨_, _, e1, n, r1, r⟩ := h; exact .dN (he _ e1) n (r1.ext e) (r.ext e)
end
/-- v reads as x: as data, or as what an object holds -/
def RB (K : PySem.W.Frag) (G H : Hp) (v : V) (x : D) : Prop := Rp K G v x ∨ ∃ a c, v = .ref a ∧ CoR K G H a c ∧ x = CO.frz c
section
variable {K : PySem.W.Frag} {A : Addr → Prop} {H : Hp} {v : V}
theorem RB.sc {z : V} (h : RB K (res A H) H v (.sc z)) : v = z := by
  rcases h with h | ⟨a, c, _, _, e⟩
  · cases h; rfl
  · cases c <;> cases e
theorem RB.tup {ds : List D} (h : RB K (res A H) H v (.tup ds)) : ∃ a vs, v = .ref a ∧ SqT K H a vs ∧ SqT K (res A H) a vs ∧ Rps K (res A H) vs ds := by
  rcases h with h | ⟨a, c, _, _, e⟩
  · cases h with
    | tup h r => exact ⟨_, _, rfl, ExtN.sqT res_all h, h, r⟩
  · cases c <;> cases e
theorem RB.lst {ds : List D} (h : RB K (res A H) H v (.lst ds)) : ∃ a vs, v = .ref a ∧ H a = some (.lst vs) ∧ Rps K (res A H) vs ds := by
  rcases h with h | ⟨a, c, rfl, h, e⟩
  · cases h with
    | lst h r => exact ⟨_, _, rfl, (res_some h).2, r⟩
  · cases c with
    | lst xs =>
      cases e
      obtain ⟨vs, h, r⟩ := h
      exact ⟨_, _, rfl, h, r⟩
    | _ => cases e
theorem RB.fl {ds : List D} (h : RB K (res A H) H v (.fl ds)) : ∃ a vs, v = .ref a ∧ SqL K H a vs ∧ Rps K (res A H) vs ds := by
  rcases h with h | ⟨a, c, rfl, h, e⟩
  · cases h with
    | fl h r => exact ⟨_, _, rfl, ExtN.sqL res_all h, r⟩
  · cases c <;> cases e
theorem RB.ins {C : Addr} {gs : List (Str × D)} (h : RB K (res A H) H v (.ins C gs)) : ∃ a dx fs, v = .ref a ∧ H a = some (.ins C dx fs) ∧ fs.map (·.1) = gs.map (·.1) ∧ Rps K (res A H) (fs.map (·.2)) (gs.map (·.2)) := by
  rcases h with h | ⟨a, c, rfl, h, e⟩
  · cases h with
    | ins h n r => exact ⟨_, _, _, rfl, (res_some h).2, n, r⟩
  · cases c with
    | ins C xs =>
      cases e
      obtain ⟨dx, fs, h, n, r⟩ := h
      exact ⟨_, _, _, rfl, h, n, r⟩
    | _ => cases e
theorem RB.dK {ds : List (Key × D)} (h : RB K (res A H) H v (.dK ds)) : ∃ a ks, v = .ref a ∧ H a = some (.dK ks) ∧ ks.map (·.1) = ds.map (·.1) ∧ Rps K (res A H) (ks.map (·.2)) (ds.map (·.2)) := by
  rcases h with h | ⟨a, c, rfl, h, e⟩
  · cases h with
    | dK h n r => exact ⟨_, _, rfl, (res_some h).2, n, r⟩
  · cases c with
    | dK xs =>
      cases e
      obtain ⟨fs, h, n, r⟩ := h
      exact ⟨_, _, rfl, h, n, r⟩
    | _ => cases e
theorem RB.dN {ds : List (D × D)} (h : RB K (res A H) H v (.dN ds)) : ∃ a od ks, v = .ref a ∧ H a = some (NDO a od ks) ∧ (ks.map fun p : NE => some p.1) = ds.map (fun d => nk d.1) ∧ Rps K (res A H) (ks.map fun p : NE => V.ref p.2.1) (ds.map (·.1)) ∧ Rps K (res A H) (ks.map (·.2.2)) (ds.map (·.2)) := by
  rcases h with h | ⟨a, c, rfl, h, e⟩
  · cases h with
    | dN h n r1 r => exact ⟨_, _, _, rfl, (res_some h).2, n, r1, r⟩
  · cases c with
    | dN xs =>
      cases e
      obtain ⟨od, fs, h, n, r1, r⟩ := h
      exact ⟨_, _, _, rfl, h, n, r1, r⟩
    | _ => cases e
end
end DL
set_option Elab.async false
set_option linter.all false
set_option maxRecDepth 100000
set_option maxHeartbeats 1000000
/-! the state, and readings carried over to data -/
namespace DL
open PySem PySem.Spec PyProof.Rows L2 Mv
/-- the objects of one's own -/
def Own (σ : L2.St) (s : SS) (a : Addr) : Prop := ∃ (i : Nat) (l : Bool) (c : CO), σ[i]? = some (some (.ref a)) ∧ s[i]? = some (.o l c)
def Hid (A : Addr → Prop) (σ : L2.St) (s : SS) (a : Addr) : Prop := A a ∨ Own σ s a
def SlotR (K : PySem.W.Frag) (G H : Hp) (v : Option V) : SV → Prop
  | .no => True
  | .d x => ∃ u, v = some u ∧ Rp K G u x
  | .o _ c => ∃ a, v = some (.ref a) ∧ CoR K G H a c
/-- which slots hold objects of the caller's -/
abbrev Par := Nat → Option Addr
structure StR (T : List (Addr × Str)) (K : PySem.W.Frag) (A : Addr → Prop) (P : Par) (Z : Hp) (σ : L2.St) (s : SS) (H : Hp) : Prop where
  len : σ.length = s.length
  sl : ∀ (i : Nat) sv, s[i]? = some sv → ∃ ov, σ[i]? = some ov ∧ SlotR K (res (Hid A σ s) H) H ov sv
  inj : ∀ (i j : Nat) a l c l' c', σ[i]? = some (some (.ref a)) → s[i]? = some (.o l c) → σ[j]? = some (some (.ref a)) → s[j]? = some (.o l' c') → i = j
  loc : ∀ (i : Nat) a c, σ[i]? = some (some (.ref a)) → s[i]? = some (.o true c) → ¬ A a
  zo : ∀ a, Own σ s a → NwD Z a
  par : ∀ (i : Nat) a c, σ[i]? = some (some (.ref a)) → s[i]? = some (.o false c) → P i = some a
  pin : ∀ (i : Nat) a, P i = some a → A a ∧ σ[i]? = some (some (.ref a)) ∧ ∃ c, s[i]? = some (.o false c)
  aol : ∀ a, A a → ∃ o, H a = some o ∧ ∀ ps, o ≠ .tbl ps
  fr : LamX.ExtN Z H
  tb : LamX.Tabs T H
section
variable {T : List (Addr × Str)} {K : PySem.W.Frag} {A A' : Addr → Prop} {P : Par} {Z H H' : Hp} {σ σ' : L2.St} {s s' : SS}
theorem StR.hid (S : StR T K A P Z σ s H) {a : Addr} (h : Hid A σ s a) : ∃ o, H a = some o ∧ ∀ ps, o ≠ .tbl ps := by
  rcases h with h | ⟨i, l, c, h1, h2⟩
  · exact S.aol a h
  · obtain ⟨ov, e, r⟩ := S.sl i _ h2
    rw [h1] at e
    obtain rfl := Option.some.inj e
    obtain ⟨b, e, r⟩ := r
    cases e
    exact r.there
/-- fewer places are kept hidden -/
theorem StR.less (S : StR T K A' P Z σ s H) (h : ∀ a, A a → A' a) (hp : ∀ i a, P i = some a → A a) : StR T K A P Z σ s H where
  len := S.len
  sl := fun i sv e => by
    obtain ⟨ov, e1, r⟩ := S.sl i sv e
    have x : LamX.ExtN (res (Hid A' σ s) H) (res (Hid A σ s) H) := res_less fun b z => z.elim (fun z => .inl (h b z)) .inr
    refine ⟨ov, e1, ?_⟩
    cases sv with
    | no => trivial
    | d y => obtain ⟨u, e, r⟩ := r; exact ⟨u, e, r.ext x⟩
    | o l c => obtain ⟨a, e, r⟩ := r; exact ⟨a, e, r.ext x fun o h _ => h⟩
  inj := S.inj
  loc := fun i a c h1 h2 => fun z => S.loc i a c h1 h2 (h a z)
  zo := S.zo
  par := S.par
  pin := fun i a e => ⟨hp i a e, (S.pin i a e).2⟩
  aol := fun a z => S.aol a (h a z)
  fr := S.fr
  tb := S.tb
/-- a place is new at the entry too -/
theorem StR.new0 (S : StR T K A P Z σ s H) {a : Addr} (n : NwD H a) : NwD Z a := fun o e => by
  refine Classical.byContradiction fun hn => ?_
  have hn' : ∀ ps, o ≠ .tbl ps := fun ps z => hn ⟨ps, z⟩
  exact n.ne (S.fr a o e hn') hn' rfl
theorem StR.newH (S : StR T K A P Z σ s H) {a : Addr} (n : NwD H a) : ¬ Hid A σ s a := fun h => by
  obtain ⟨o, e, t⟩ := S.hid h
  exact n.ne e t rfl
/-- the heap grows -/
theorem StR.grow (S : StR T K A P Z σ s H) (k : Kp (fun _ => False) H H') (tb : LamX.Tabs T H') (ha : ∀ a, A' a → A a ∨ (NwD H a ∧ ∃ o, H' a = some o ∧ ∀ ps, o ≠ .tbl ps)) (hA : ∀ a, A a → A' a) : StR T K A' P Z σ s H' where
  len := S.len
  sl := fun i sv e => by
    obtain ⟨ov, e1, r⟩ := S.sl i sv e
    have x : LamX.ExtN (res (Hid A σ s) H) (res (Hid A' σ s) H') := res_ext k (fun _ z => z.elim) fun b z => z.elim (fun z => (ha b z).elim (fun z => .inl (.inl z)) fun z => .inr z.1) fun z => .inl (.inr z)
    refine ⟨ov, e1, ?_⟩
    cases sv with
    | no => trivial
    | d y => obtain ⟨u, e, r⟩ := r; exact ⟨u, e, r.ext x⟩
    | o l c => obtain ⟨a, e, r⟩ := r; exact ⟨a, e, r.ext x fun o h t => k a o id h t⟩
  inj := S.inj
  loc := fun i a c h1 h2 => fun z => (ha a z).elim (S.loc i a c h1 h2) fun q => by
    obtain ⟨o, e, t⟩ := S.hid (.inr ⟨i, true, c, h1, h2⟩)
    exact q.1.ne e t rfl
  zo := S.zo
  par := S.par
  pin := fun i a e => ⟨hA a (S.pin i a e).1, (S.pin i a e).2⟩
  aol := fun a z => (ha a z).elim (fun z => by
    obtain ⟨o, e, t⟩ := S.aol a z
    exact ⟨o, k a o id e t, t⟩) fun z => z.2
  fr := fun b o e t => k b o id (S.fr b o e t) t
  tb := tb
end
/-- values as outcomes: ts the places of the new objects -/
inductive TR (K : PySem.W.Frag) (G H : Hp) (σ : L2.St) : List V → List R → List Addr → Prop
  | nil : TR K G H σ [] [] []
  | d {v : V} {x : D} {vs : List V} {rs : List R} {ts : List Addr} : Rp K G v x → TR K G H σ vs rs ts → TR K G H σ (v :: vs) (.d x :: rs) ts
  | o {a : Addr} {c : CO} {vs : List V} {rs : List R} {ts : List Addr} : CoR K G H a c → TR K G H σ vs rs ts → TR K G H σ (.ref a :: vs) (.o c :: rs) (a :: ts)
  | bw {v : V} {i : Nat} {vs : List V} {rs : List R} {ts : List Addr} : σ[i]? = some (some v) → TR K G H σ vs rs ts → TR K G H σ (v :: vs) (.bw i :: rs) ts
def Pls (A : Addr → Prop) (ts : List Addr) (a : Addr) : Prop := A a ∨ a ∈ ts
structure Post (T : List (Addr × Str)) (K : PySem.W.Frag) (A : Addr → Prop) (P : Par) (Z : Hp) (σ : L2.St) (s s' : SS) (H H' : Hp) (vs : List V) (rs : List R) (ts : List Addr) : Prop where
  nd : ts.Nodup
  nw : ∀ a ∈ ts, NwD H a
  fre : ∀ a ∈ ts, ¬ Own σ s' a
  st : StR T K (Pls A ts) P Z σ s' H'
  tr : TR K (res (Hid (Pls A ts) σ s') H') H' σ vs rs ts
  kp : Kp (Own σ s) H H'
  shr : ∀ a, Own σ s' a → Own σ s a
  ot : ∀ a, Own σ s a → ∃ o, H' a = some o ∧ ∀ ps, o ≠ .tbl ps
/-- an exception: its class, its fields -/
structure EX where
  c : Value
  fs : List (Str × D)
def ExR (K : PySem.W.Frag) (G H : Hp) (cls : Value) (d : Option Addr) (e : EX) : Prop :=
  cls = e.c ∧ ((d = none ∧ e.fs = []) ∨ ∃ a fs, d = some a ∧ H a = some (.xd fs) ∧ fs.map (·.1) = e.fs.map (·.1) ∧ Rps K G (fs.map (·.2)) (e.fs.map (·.2)))
theorem ExR.ext {K : PySem.W.Frag} {G G' H : Hp} {cls : Value} {d : Option Addr} {e : EX} (h : ExR K G H cls d e) (x : LamX.ExtN G G') : ExR K G' H cls d e := by
  obtain ⟨h1, h⟩ := h
  rcases h with h | ⟨a, fs, h2, h3, h4, h5⟩
  · exact ⟨h1, .inl h⟩
  · exact ⟨h1, .inr ⟨a, fs, h2, h3, h4, h5.ext x⟩⟩
abbrev EC := EX → SS → Prop
abbrev DE := SS → (R → SS → Prop) → EC → Prop
abbrev DA := SS → (List R → SS → Prop) → EC → Prop
abbrev DT := SS → (Bool → SS → Prop) → EC → Prop
/-- what is asked of an exception that leaves -/
def XOk (T : List (Addr × Str)) (K : PySem.W.Frag) (A : Addr → Prop) (P : Par) (Z : Hp) (σ : L2.St) (Ed : EC) (E : XK) : Prop :=
  ∀ cls d H' ex s', StR T K A P Z σ s' H' → ExR K (res (Hid A σ s') H') H' cls d ex → Ed ex s' → E cls d H'
def LiftA (T : List (Addr × Str)) (K : PySem.W.Frag) (E : L2.St → XK) (t : TA) (td : DA) : Prop :=
  ∀ (A : Addr → Prop) (P : Par) (Z : Hp) (σ : L2.St) (s : SS) (H : Hp) (Qd : List R → SS → Prop) (Ed : EC) (Q : List V → Hp → Prop), StR T K A P Z σ s H → td s Qd Ed →
    (∀ vs H' rs ts s', Post T K A P Z σ s s' H H' vs rs ts → Qd rs s' → Q vs H') → XOk T K A P Z σ Ed (E σ) → t σ H Q
def LiftE (T : List (Addr × Str)) (K : PySem.W.Frag) (E : L2.St → XK) (t : TE) (td : DE) : Prop :=
  ∀ (A : Addr → Prop) (P : Par) (Z : Hp) (σ : L2.St) (s : SS) (H : Hp) (Qd : R → SS → Prop) (Ed : EC) (Q : VK), StR T K A P Z σ s H → td s Qd Ed →
    (∀ v H' r ts s', Post T K A P Z σ s s' H H' [v] [r] ts → Qd r s' → Q v H') → XOk T K A P Z σ Ed (E σ) → t σ H Q
def LiftT (T : List (Addr × Str)) (K : PySem.W.Frag) (E : L2.St → XK) (t : TT) (td : DT) : Prop :=
  ∀ (A : Addr → Prop) (P : Par) (Z : Hp) (σ : L2.St) (s : SS) (H : Hp) (Qd : Bool → SS → Prop) (Ed : EC) (Q : Bool → Hp → Prop), StR T K A P Z σ s H → td s Qd Ed →
    (∀ b H' s', Post T K A P Z σ s s' H H' [] [] [] → Qd b s' → Q b H') → XOk T K A P Z σ Ed (E σ) → t σ H Q
section
variable {T : List (Addr × Str)} {K : PySem.W.Frag} {E : L2.St → XK} {A A' : Addr → Prop} {P : Par} {Z H H1 H2 H' : Hp} {σ σ' : L2.St} {s s1 s2 s' : SS} {vs us : List V} {rs qs : List R} {ts us' : List Addr} {Ed : EC}
theorem Pls.nil (a : Addr) : Pls A [] a ↔ A a := ⟨fun h => h.elim id (fun z => by cases z), fun h => .inl h⟩
theorem XOk.less {E : XK} (x : XOk T K A P Z σ Ed E) (h : ∀ a, A a → A' a) (hp : ∀ i a, P i = some a → A a) : XOk T K A' P Z σ Ed E := fun cls d H' ex s' S r q =>
  x cls d H' ex s' (S.less h hp) (r.ext (res_less fun b z => z.elim (fun z => .inl (h b z)) .inr)) q
/-- values carried over what comes behind them -/
theorem TR.ext {G G' : Hp} (h : TR K G H σ vs rs ts) (e : LamX.ExtN G G') (he : ∀ a ∈ ts, ∀ o, H a = some o → (∀ ps, o ≠ .tbl ps) → H' a = some o) : TR K G' H' σ vs rs ts := by
  induction h with
  | nil => exact .nil
  | d r _ ih => exact .d (r.ext e) (ih he)
  | o r _ ih => exact .o (r.ext e (he _ List.mem_cons_self)) (ih fun a h => he a (List.mem_cons_of_mem _ h))
  | bw r _ ih => exact .bw r (ih he)
theorem TR.app {G : Hp} (h : TR K G H σ vs rs ts) (k : TR K G H σ us qs us') : TR K G H σ (vs ++ us) (rs ++ qs) (ts ++ us') := by
  induction h with
  | nil => exact k
  | d r _ ih => exact .d r ih
  | o r _ ih => exact .o r ih
  | bw r _ ih => exact .bw r ih
theorem TR.there {G : Hp} (h : TR K G H σ vs rs ts) : ∀ a ∈ ts, ∃ o, H a = some o ∧ ∀ ps, o ≠ .tbl ps := by
  induction h with
  | nil => intro a h; cases h
  | d r _ ih => exact ih
  | o r _ ih =>
    intro a h
    rcases List.mem_cons.mp h with rfl | h
    · exact r.there
    · exact ih a h
  | bw r _ ih => exact ih
/-- one behind the other -/
theorem Post.seq (p : Post T K A P Z σ s s1 H H1 vs rs ts) (q : Post T K (Pls A ts) P Z σ s1 s2 H1 H2 us qs us') : Post T K A P Z σ s s2 H H2 (vs ++ us) (rs ++ qs) (ts ++ us') := by
  have nt : ∀ a ∈ ts, ∃ o, H1 a = some o ∧ ∀ ps, o ≠ .tbl ps := p.tr.there
  have hp : ∀ a, Pls A (ts ++ us') a ↔ Pls (Pls A ts) us' a := fun a => by
    unfold Pls
    rw [List.mem_append, or_assoc]
  have hps : Pls A (ts ++ us') = Pls (Pls A ts) us' := funext fun a => propext (hp a)
  refine ⟨?_, fun a h => ?_, fun a h => ?_, ?_, ?_, p.kp.trans q.kp p.shr, fun a h => p.shr a (q.shr a h), fun a h => ?_⟩
  · refine List.nodup_append.mpr ⟨p.nd, q.nd, fun a h b h' e => ?_⟩
    subst e
    obtain ⟨o, e, t⟩ := nt a h
    exact (q.nw a h').ne e t rfl
  · rcases List.mem_append.mp h with h | h
    · exact p.nw a h
    · intro o e
      refine Classical.byContradiction fun hn => ?_
      have hn' : ∀ ps, o ≠ .tbl ps := fun ps z => hn ⟨ps, z⟩
      by_cases ho2 : Own σ s a
      · obtain ⟨o', e', t'⟩ := p.ot a ho2
        exact (q.nw a h).ne e' t' rfl
      · exact (q.nw a h).ne (p.kp a o ho2 e hn') hn' rfl
  · rcases List.mem_append.mp h with h | h
    · exact fun z => p.fre a h (q.shr a z)
    · exact q.fre a h
  · rw [hps]
    exact q.st
  · rw [hps]
    refine (p.tr.ext (res_ext q.kp (fun _ z => .inr z) fun b z => ?_) fun a h o e t => q.kp a o (p.fre a h) e t).app q.tr
    rcases z with (z | z) | z
    · exact .inl (.inl z)
    · exact .inr (q.nw b z)
    · exact .inl (.inr (q.shr b z))
  · by_cases h1 : Own σ s1 a
    · exact q.ot a h1
    · obtain ⟨o, e, t⟩ := p.ot a h
      exact ⟨o, q.kp a o h1 e t, t⟩
end
end DL
set_option Elab.async false
set_option linter.all false
set_option maxRecDepth 100000
set_option maxHeartbeats 1000000
/-! expressions -/
namespace DL
open PySem PySem.Spec PyProof.Rows L2 Mv
inductive RBs (K : PySem.W.Frag) (G H : Hp) : List V → List D → Prop
  | nil : RBs K G H [] []
  | cons {v : V} {vs : List V} {d : D} {ds : List D} : RB K G H v d → RBs K G H vs ds → RBs K G H (v :: vs) (d :: ds)
/-- an outcome as data, as it stands now -/
def vw (s : SS) : R → Option D
  | .d x => some x
  | .o c => some c.frz
  | .bw i => match s[i]? with
    | some (.o _ c) => some c.frz
    | some (.d x) => some x
    | _ => none
def vws (s : SS) : List R → Option (List D)
  | [] => some []
  | r :: rs => match vw s r, vws s rs with
    | some x, some xs => some (x :: xs)
    | _, _ => none
def ROk (hid : Addr → Prop) (H : Hp) : Prop := ∀ a, hid a → ∃ o, H a = some o ∧ ∀ ps, o ≠ .tbl ps
/-- a value that an operation hands out: data, or a new object -/
def NewR (K : PySem.W.Frag) (hid : Addr → Prop) (H : Hp) (v : V) (H' : Hp) : R → Prop
  | .d x => Same H H' ∧ Rp K (res hid H') v x
  | .o c => ∃ a, v = .ref a ∧ H a = none ∧ Same H H' ∧ CoR K (res (fun b => hid b ∨ b = a) H') H' a c
  | .bw _ => False
section
variable {T : List (Addr × Str)} {K : PySem.W.Frag} {E : L2.St → XK} {A A' : Addr → Prop} {P : Par} {Z H H1 H2 H' : Hp} {σ σ' : L2.St} {s s1 s2 s' : SS} {vs us : List V} {rs qs : List R} {ts us' : List Addr} {Ed : EC} {v : V} {r : R}
theorem TR.rb (S : StR T K A P Z σ s H) (h : TR K (res (Hid A σ s) H) H σ [v] [r] ts) {x : D} (e : vw s r = some x) : RB K (res (Hid A σ s) H) H v x := by
  cases h with
  | d r _ => cases e; exact .inl r
  | o r _ => cases e; exact .inr ⟨_, _, rfl, r, rfl⟩
  | @bw _ i _ _ _ r _ =>
    have e' : (match s[i]? with | some (.o _ c) => some c.frz | some (.d x) => some x | _ => none) = some x := e
    cases hs : s[i]? with
    | none => rw [hs] at e'; cases e'
    | some sv =>
      rw [hs] at e'
      obtain ⟨ov, e1, q⟩ := S.sl i sv hs
      rw [r] at e1
      obtain rfl := Option.some.inj e1
      cases sv with
      | no => cases e'
      | d y =>
        cases e'
        obtain ⟨u, e2, q⟩ := q
        cases e2
        exact .inl q
      | o l c =>
        cases e'
        obtain ⟨a, e2, q⟩ := q
        cases e2
        exact .inr ⟨a, c, rfl, q, rfl⟩
theorem TR.split {G : Hp} (h : TR K G H σ (v :: vs) (r :: rs) ts) : ∃ t1 t2, ts = t1 ++ t2 ∧ TR K G H σ [v] [r] t1 ∧ TR K G H σ vs rs t2 := by
  cases h with
  | d r k => exact ⟨[], _, rfl, .d r .nil, k⟩
  | o r k => exact ⟨[_], _, rfl, .o r .nil, k⟩
  | bw r k => exact ⟨[], _, rfl, .bw r .nil, k⟩
theorem TR.rbs (S : StR T K A P Z σ s H) : ∀ {rs : List R} {vs : List V} {ts : List Addr} {ds : List D}, TR K (res (Hid A σ s) H) H σ vs rs ts → vws s rs = some ds → RBs K (res (Hid A σ s) H) H vs ds
  | [], _, _, _, h, e => by
    cases h
    cases e
    exact .nil
  | r :: rs, vs, ts, ds, h, e => by
    cases vs with
    | nil => cases h
    | cons v vs =>
      obtain ⟨t1, t2, _, h1, h2⟩ := h.split
      have e' : (match vw s r, vws s rs with | some x, some xs => some (x :: xs) | _, _ => none) = some ds := e
      cases e1 : vw s r with
      | none => rw [e1] at e'; cases e'
      | some x =>
        cases e2 : vws s rs with
        | none => rw [e1, e2] at e'; cases e'
        | some xs =>
          rw [e1, e2] at e'
          cases e'
          exact .cons (h1.rb S e1) (TR.rbs S h2 e2)
theorem StR.rok (S : StR T K A P Z σ s H) : ROk (Hid A σ s) H := fun a h => S.hid h
theorem Post.refl (S : StR T K A P Z σ s H) : Post T K A P Z σ s s H H [] [] [] :=
  ⟨.nil, fun _ z => (by cases z), fun _ z => (by cases z), by rw [show Pls A [] = A from funext fun a => propext (Pls.nil a)]; exact S, .nil, Kp.refl _ _, fun _ z => z, fun a z => S.hid (.inr z)⟩
theorem pls_nil : Pls A [] = A := funext fun a => propext (Pls.nil a)
theorem Post.data (S : StR T K A P Z σ s H) {x : D} (h : Rp K (res (Hid A σ s) H) v x) : Post T K A P Z σ s s H H [v] [.d x] [] := by
  have p := Post.refl S
  exact ⟨.nil, p.nw, p.fre, p.st, .d (by rw [pls_nil]; exact h) .nil, p.kp, p.shr, p.ot⟩
theorem Post.slot (S : StR T K A P Z σ s H) {i : Nat} (h : σ[i]? = some (some v)) : Post T K A P Z σ s s H H [v] [.bw i] [] := by
  have p := Post.refl S
  exact ⟨.nil, p.nw, p.fre, p.st, .bw h .nil, p.kp, p.shr, p.ot⟩
theorem pls_less (ts : List Addr) : ∀ a, A a → Pls A ts a := fun a h => .inl h
/-- the values are let go -/
theorem Post.drop (p : Post T K A P Z σ s s1 H H1 vs rs ts) (hp : ∀ i a, P i = some a → A a) : Post T K A P Z σ s s1 H H1 [] [] [] :=
  ⟨.nil, fun _ z => (by cases z), fun _ z => (by cases z), by rw [pls_nil]; exact p.st.less (pls_less ts) hp, .nil, p.kp, p.shr, p.ot⟩
theorem Same.tabs (tb : LamX.Tabs T H) (e : Same H H') : LamX.Tabs T H' := tb.ext e
/-- an operation behind what was reckoned -/
theorem Post.new (p : Post T K A P Z σ s s1 H H1 vs rs ts) (hp : ∀ i a, P i = some a → A a) (n : NewR K (Hid (Pls A ts) σ s1) H1 v H2 r) : ∃ ts', Post T K A P Z σ s s1 H H2 [v] [r] ts' := by
  have key : ∀ (e : Same H1 H2), Kp (Own σ s) H H2 ∧ (∀ a, Own σ s a → ∃ o, H2 a = some o ∧ ∀ ps, o ≠ .tbl ps) := fun e => by
    refine ⟨fun b o n h t => e _ _ (p.kp b o n h t), fun a h => ?_⟩
    obtain ⟨o, h1, h2⟩ := p.ot a h
    exact ⟨o, e _ _ h1, h2⟩
  cases r with
  | bw i => exact n.elim
  | d x =>
    obtain ⟨e, h⟩ := n
    obtain ⟨k1, k2⟩ := key e
    refine ⟨[], .nil, fun _ z => (by cases z), fun _ z => (by cases z), ?_, .d (h.ext (res_less fun b z => ?_)) .nil, k1, p.shr, k2⟩
    · rw [pls_nil]
      exact (p.st.less (pls_less ts) hp).grow (Kp.of e) (Same.tabs p.st.tb e) (fun a h => .inl h) fun a h => h
    · rw [pls_nil] at z
      exact z.elim (fun z => .inl (.inl z)) .inr
  | o c =>
    obtain ⟨a, rfl, hn, e, h⟩ := n
    obtain ⟨k1, k2⟩ := key e
    obtain ⟨o, ho, ht⟩ := h.there
    have hid : ¬ Hid (Pls A ts) σ s1 a := p.st.newH (NwD.of hn)
    refine ⟨[a], by simp, fun b hb => ?_, fun b hb => ?_, ?_, .o (h.ext (res_less fun b z => ?_) fun o h _ => h) .nil, k1, p.shr, k2⟩
    · rw [List.mem_singleton.mp hb]
      intro o' e'
      refine Classical.byContradiction fun q => ?_
      have q' : ∀ ps, o' ≠ .tbl ps := fun ps z => q ⟨ps, z⟩
      by_cases w : Own σ s a
      · obtain ⟨o2, e2, t2⟩ := p.ot a w
        rw [hn] at e2
        cases e2
      · have := p.kp a o' w e' q'
        rw [hn] at this
        cases this
    · rw [List.mem_singleton.mp hb]
      exact fun z => hid (.inr z)
    · refine (p.st.less (pls_less ts) hp).grow (Kp.of e) (Same.tabs p.st.tb e) (fun b hb => ?_) fun b hb => .inl hb
      rcases hb with hb | hb
      · exact .inl hb
      · rw [List.mem_singleton.mp hb]
        exact .inr ⟨NwD.of hn, o, ho, ht⟩
    · rcases z with (z | z) | z
      · exact .inl (.inl (.inl z))
      · exact .inr (List.mem_singleton.mp z)
      · exact .inl (.inr z)
theorem StR.pa (S : StR T K A P Z σ s H) : ∀ i a, P i = some a → A a := fun i a h => (S.pin i a h).1
/-! ### names, constants, lists of arguments -/
def dVar (i : Nat) : DE := fun s Q _ => match s[i]? with
  | some (.d x) => Q (.d x) s
  | some (.o _ _) => Q (.bw i) s
  | _ => False
theorem lift_var (i : Nat) : LiftE T K E (tVar i) (dVar i) := fun A P Z σ s H Qd Ed Q S h k _ => by
  unfold dVar at h
  cases hs : s[i]? with
  | none => rw [hs] at h; exact h.elim
  | some sv =>
    rw [hs] at h
    obtain ⟨ov, e1, q⟩ := S.sl i sv hs
    cases sv with
    | no => exact h.elim
    | d x =>
      obtain ⟨u, rfl, q⟩ := q
      exact ⟨u, e1, k _ _ _ _ _ (Post.data S q) h⟩
    | o l c =>
      obtain ⟨a, rfl, q⟩ := q
      exact ⟨_, e1, k _ _ _ _ _ (Post.slot S e1) h⟩
def dC (v : V) : DE := fun s Q _ => Q (.d (.sc v)) s
theorem lift_C (v : V) : LiftE T K E (tC v) (dC v) := fun A P Z σ s H Qd Ed Q S h k _ => k _ _ _ _ _ (Post.data S (.sc v)) h
def dNil : DA := fun s Q _ => Q [] s
def dCons (td : DE) (tr : DA) : DA := fun s Q E => td s (fun r s1 => tr s1 (fun rs s2 => Q (r :: rs) s2) E) E
theorem lift_nil : LiftA T K E tNil dNil := fun A P Z σ s H Qd Ed Q S h k _ => k _ _ _ _ _ (Post.refl S) h
theorem lift_cons {ta : TE} {tr : TA} {da : DE} {dr : DA} (ha : LiftE T K E ta da) (hr : LiftA T K E tr dr) : LiftA T K E (tCons ta tr) (dCons da dr) := fun A P Z σ s H Qd Ed Q S h k x =>
  ha A P Z σ s H _ Ed _ S h (fun v H1 r ts s1 p q => hr _ P Z σ s1 H1 _ Ed _ p.st q (fun vs H2 rs ts' s2 p2 q2 => k _ _ _ _ _ (p.seq p2) q2) (x.less (pls_less ts) S.pa)) x
/-! ### operations -/
def LR2 (K : PySem.W.Frag) (r : R2) (rd : D → D → (R → Prop) → Prop) : Prop :=
  ∀ (hid : Addr → Prop) (H : Hp) (x y : V) (dx dy : D) (Qd : R → Prop) (Q : VK), ROk hid H → RB K (res hid H) H x dx → RB K (res hid H) H y dy → rd dx dy Qd → (∀ v H' ro, NewR K hid H v H' ro → Qd ro → Q v H') → r x y H Q
def LR1 (K : PySem.W.Frag) (r : V → Hp → VK → Prop) (rd : D → (R → Prop) → Prop) : Prop :=
  ∀ (hid : Addr → Prop) (H : Hp) (x : V) (dx : D) (Qd : R → Prop) (Q : VK), ROk hid H → RB K (res hid H) H x dx → rd dx Qd → (∀ v H' ro, NewR K hid H v H' ro → Qd ro → Q v H') → r x H Q
def LRC (K : PySem.W.Frag) (r : List V → Hp → VK → Prop) (rd : List D → (R → Prop) → Prop) : Prop :=
  ∀ (hid : Addr → Prop) (H : Hp) (vs : List V) (ds : List D) (Qd : R → Prop) (Q : VK), ROk hid H → RBs K (res hid H) H vs ds → rd ds Qd → (∀ v H' ro, NewR K hid H v H' ro → Qd ro → Q v H') → r vs H Q
def dOp (rd : D → D → (R → Prop) → Prop) (da db : DE) : DE := fun s Q E => da s (fun r1 s1 => db s1 (fun r2 s2 => ∃ x y, vw s2 r1 = some x ∧ vw s2 r2 = some y ∧ rd x y (fun ro => Q ro s2)) E) E
theorem lift_op {r : R2} {rd : D → D → (R → Prop) → Prop} {ta tb : TE} {da db : DE} (hr : LR2 K r rd) (ha : LiftE T K E ta da) (hb : LiftE T K E tb db) : LiftE T K E (tOp r ta tb) (dOp rd da db) := fun A P Z σ s H Qd Ed Q S h k x =>
  ha A P Z σ s H _ Ed _ S h (fun v H1 r1 ts s1 p q => hb _ P Z σ s1 H1 _ Ed _ p.st q (fun u H2 r2 ts' s2 p2 ⟨dx, dy, e1, e2, q2⟩ => by
    have p3 := p.seq p2
    obtain ⟨t1, t2, _, h1, h2⟩ := p3.tr.split
    refine hr _ _ _ _ _ _ _ _ p3.st.rok (h1.rb p3.st e1) (h2.rb p3.st e2) q2 fun w H3 ro n q3 => ?_
    obtain ⟨ts3, p4⟩ := p3.new S.pa n
    exact k _ _ _ _ _ p4 q3) (x.less (pls_less ts) S.pa)) x
def dUn (rd : D → (R → Prop) → Prop) (da : DE) : DE := fun s Q E => da s (fun r1 s1 => ∃ x, vw s1 r1 = some x ∧ rd x (fun ro => Q ro s1)) E
theorem lift_un {r : V → Hp → VK → Prop} {rd : D → (R → Prop) → Prop} {ta : TE} {da : DE} (hr : LR1 K r rd) (ha : LiftE T K E ta da) : LiftE T K E (tUn r ta) (dUn rd da) := fun A P Z σ s H Qd Ed Q S h k x =>
  ha A P Z σ s H _ Ed _ S h (fun v H1 r1 ts s1 p ⟨dx, e1, q2⟩ => by
    refine hr _ _ _ _ _ _ p.st.rok (p.tr.rb p.st e1) q2 fun w H3 ro n q3 => ?_
    obtain ⟨ts3, p4⟩ := p.new S.pa n
    exact k _ _ _ _ _ p4 q3) x
def dCB (rd : List D → (R → Prop) → Prop) (da : DA) : DE := fun s Q E => da s (fun rs s1 => ∃ ds, vws s1 rs = some ds ∧ rd ds (fun ro => Q ro s1)) E
theorem lift_cb {r : List V → Hp → VK → Prop} {rd : List D → (R → Prop) → Prop} {ta : TA} {da : DA} (hr : LRC K r rd) (ha : LiftA T K E ta da) : LiftE T K E (tCB r ta) (dCB rd da) := fun A P Z σ s H Qd Ed Q S h k x =>
  ha A P Z σ s H _ Ed _ S h (fun v H1 r1 ts s1 p ⟨dx, e1, q2⟩ => by
    refine hr _ _ _ _ _ _ p.st.rok (p.tr.rbs p.st e1) q2 fun w H3 ro n q3 => ?_
    obtain ⟨ts3, p4⟩ := p.new S.pa n
    exact k _ _ _ _ _ p4 q3) x
/-! ### tests -/
theorem TR.bl {G : Hp} {k : Bool} (h : TR K G H σ [v] [.d (.bl k)] ts) : v = .bl k := by
  cases h with
  | d r _ => cases r; rfl
def dTest (da : DE) : DT := fun s Q E => da s (fun r s1 => ∃ k, r = .d (.bl k) ∧ Q k s1) E
theorem lift_test {ta : TE} {da : DE} (ha : LiftE T K E ta da) : LiftT T K E (tTest ta) (dTest da) := fun A P Z σ s H Qd Ed Q S h k x =>
  ha A P Z σ s H _ Ed _ S h (fun v H1 r1 ts s1 p ⟨b, e, q⟩ => ⟨b, by subst e; exact p.tr.bl, k _ _ _ (p.drop S.pa) q⟩) x
theorem lift_tB {ta : TE} {da : DE} (ha : LiftE T K E ta da) : LiftT T K E (tB ta) (dTest da) := lift_test ha
theorem post_test (p : Post T K A P Z σ s s1 H H1 [] [] []) (S : StR T K A P Z σ s H) : StR T K A P Z σ s1 H1 := by
  have := p.st
  rwa [pls_nil] at this
theorem Post.then (p : Post T K A P Z σ s s1 H H1 [] [] []) (q : Post T K A P Z σ s1 s2 H1 H2 us qs us') : Post T K A P Z σ s s2 H H2 us qs us' := by
  have e := pls_nil (A := A)
  have := p.seq (q := by rw [e]; exact q)
  exact this
def dAnd (t u : DT) : DT := fun s Q E => t s (fun c s1 => if c = true then u s1 Q E else Q false s1) E
def dOr (t u : DT) : DT := fun s Q E => t s (fun c s1 => if c = true then Q true s1 else u s1 Q E) E
def dNot (t : DT) : DT := fun s Q E => t s (fun c s1 => Q (!c) s1) E
theorem lift_and {t u : TT} {dt du : DT} (ht : LiftT T K E t dt) (hu : LiftT T K E u du) : LiftT T K E (tAnd t u) (dAnd dt du) := fun A P Z σ s H Qd Ed Q S h k x =>
  ht A P Z σ s H _ Ed _ S h (fun b H1 s1 p q => by
    cases b with
    | false => exact k _ _ _ p q
    | true => exact hu A P Z σ s1 H1 _ Ed _ (post_test p S) q (fun b H2 s2 p2 q2 => k _ _ _ (p.then p2) q2) x) x
theorem lift_or {t u : TT} {dt du : DT} (ht : LiftT T K E t dt) (hu : LiftT T K E u du) : LiftT T K E (tOr t u) (dOr dt du) := fun A P Z σ s H Qd Ed Q S h k x =>
  ht A P Z σ s H _ Ed _ S h (fun b H1 s1 p q => by
    cases b with
    | true => exact k _ _ _ p q
    | false => exact hu A P Z σ s1 H1 _ Ed _ (post_test p S) q (fun b H2 s2 p2 q2 => k _ _ _ (p.then p2) q2) x) x
theorem lift_not {t : TT} {dt : DT} (ht : LiftT T K E t dt) : LiftT T K E (tNot t) (dNot dt) := fun A P Z σ s H Qd Ed Q S h k x =>
  ht A P Z σ s H _ Ed _ S h (fun b H1 s1 p q => k _ _ _ p q) x
def dIf (t : DT) (da db : DE) : DE := fun s Q E => t s (fun c s1 => if c = true then da s1 Q E else db s1 Q E) E
theorem lift_if {t : TT} {ta tb : TE} {dt : DT} {da db : DE} (ht : LiftT T K E t dt) (ha : LiftE T K E ta da) (hb : LiftE T K E tb db) : LiftE T K E (tIf t ta tb) (dIf dt da db) := fun A P Z σ s H Qd Ed Q S h k x =>
  ht A P Z σ s H _ Ed _ S h (fun b H1 s1 p q => by
    cases b with
    | true => exact ha A P Z σ s1 H1 _ Ed _ (post_test p S) q (fun v H2 r ts s2 p2 q2 => k _ _ _ _ _ (p.then p2) q2) x
    | false => exact hb A P Z σ s1 H1 _ Ed _ (post_test p S) q (fun v H2 r ts s2 p2 q2 => k _ _ _ _ _ (p.then p2) q2) x) x
def dAndV (da db : DE) : DE := fun s Q E => da s (fun r s1 => ∃ c, r = .d (.bl c) ∧ if c = true then db s1 Q E else Q (.d (.bl false)) s1) E
def dOrV (da db : DE) : DE := fun s Q E => da s (fun r s1 => ∃ c, r = .d (.bl c) ∧ if c = true then Q (.d (.bl true)) s1 else db s1 Q E) E
def dNotV (da : DE) : DE := fun s Q E => da s (fun r s1 => ∃ c, r = .d (.bl c) ∧ Q (.d (.bl (!c))) s1) E
theorem Post.sc (p : Post T K A P Z σ s s1 H H1 vs rs ts) (hp : ∀ i a, P i = some a → A a) (v : V) : Post T K A P Z σ s s1 H H1 [v] [.d (.sc v)] [] := by
  have q := p.drop hp
  exact ⟨.nil, q.nw, q.fre, q.st, .d (.sc v) .nil, q.kp, q.shr, q.ot⟩
theorem lift_andV {ta tb : TE} {da db : DE} (ha : LiftE T K E ta da) (hb : LiftE T K E tb db) : LiftE T K E (tAndV ta tb) (dAndV da db) := fun A P Z σ s H Qd Ed Q S h k x =>
  ha A P Z σ s H _ Ed _ S h (fun v H1 r1 ts s1 p ⟨b, e, q⟩ => ⟨b, by subst e; exact p.tr.bl, by
    cases b with
    | false => exact k _ _ _ _ _ (p.sc S.pa _) q
    | true => exact hb A P Z σ s1 H1 _ Ed _ (post_test (p.drop S.pa) S) q (fun v H2 r ts s2 p2 q2 => k _ _ _ _ _ ((p.drop S.pa).then p2) q2) x⟩) x
theorem lift_orV {ta tb : TE} {da db : DE} (ha : LiftE T K E ta da) (hb : LiftE T K E tb db) : LiftE T K E (tOrV ta tb) (dOrV da db) := fun A P Z σ s H Qd Ed Q S h k x =>
  ha A P Z σ s H _ Ed _ S h (fun v H1 r1 ts s1 p ⟨b, e, q⟩ => ⟨b, by subst e; exact p.tr.bl, by
    cases b with
    | true => exact k _ _ _ _ _ (p.sc S.pa _) q
    | false => exact hb A P Z σ s1 H1 _ Ed _ (post_test (p.drop S.pa) S) q (fun v H2 r ts s2 p2 q2 => k _ _ _ _ _ ((p.drop S.pa).then p2) q2) x⟩) x
theorem lift_notV {ta : TE} {da : DE} (ha : LiftE T K E ta da) : LiftE T K E (tNotV ta) (dNotV da) := fun A P Z σ s H Qd Ed Q S h k x =>
  ha A P Z σ s H _ Ed _ S h (fun v H1 r1 ts s1 p ⟨b, e, q⟩ => ⟨b, by subst e; exact p.tr.bl, k _ _ _ _ _ (p.sc S.pa _) q⟩) x
def dChain (rd rd' : D → D → (R → Prop) → Prop) (da db dc : DE) : DE := fun s Q E => da s (fun r1 s1 => db s1 (fun r2 s2 => ∃ x y, vw s2 r1 = some x ∧ vw s2 r2 = some y ∧ rd x y (fun ro => ∃ k, ro = .d (.bl k) ∧
  if k = true then dc s2 (fun r3 s3 => ∃ y z, vw s3 r2 = some y ∧ vw s3 r3 = some z ∧ rd' y z (fun ro => Q ro s3)) E else Q (.d (.bl false)) s2)) E) E
theorem lift_chain {r r' : R2} {rd rd' : D → D → (R → Prop) → Prop} {ta tb tc : TE} {da db dc : DE} (hr : LR2 K r rd) (hr' : LR2 K r' rd') (ha : LiftE T K E ta da) (hb : LiftE T K E tb db) (hc : LiftE T K E tc dc) : LiftE T K E (tChain r r' ta tb tc) (dChain rd rd' da db dc) := fun A P Z σ s H Qd Ed Q S h k x =>
  ha A P Z σ s H _ Ed _ S h (fun v H1 r1 ts s1 p q => hb _ P Z σ s1 H1 _ Ed _ p.st q (fun u H2 r2 ts' s2 p2 ⟨dx, dy, e1, e2, q2⟩ => by
    have p3 := p.seq p2
    obtain ⟨t1, t2, _, h1, h2⟩ := p3.tr.split
    refine hr _ _ _ _ _ _ _ _ p3.st.rok (h1.rb p3.st e1) (h2.rb p3.st e2) q2 fun w H3 ro n ⟨b, e, q3⟩ => ?_
    subst e
    obtain ⟨es, nr⟩ := n
    refine ⟨b, by cases nr; rfl, ?_⟩
    cases b with
    | false =>
      obtain ⟨ts3, p4⟩ := p3.new S.pa (v := .bl false) (r := .d (.bl false)) (H2 := H3) ⟨es, .sc _⟩
      exact k _ _ _ _ _ p4 q3
    | true =>
      have S3 : StR T K (Pls A (ts ++ ts')) P Z σ s2 H3 := p3.st.grow (Kp.of es) (Same.tabs p3.st.tb es) (fun a h => .inl h) fun a h => h
      have p3' : Post T K A P Z σ s s2 H H3 [v, u] [r1, r2] (ts ++ ts') :=
        ⟨p3.nd, p3.nw, p3.fre, S3, p3.tr.ext (res_ext (M := fun _ => False) (Kp.of es) (fun _ z => z.elim) fun b z => .inl z) fun a ha o e _ => es _ _ e, fun b o n h t => es _ _ (p3.kp b o n h t), p3.shr, fun a h => by
          obtain ⟨o, e, t⟩ := p3.ot a h
          exact ⟨o, es _ _ e, t⟩⟩
      refine hc _ P Z σ s2 H3 _ Ed _ S3 q3 (fun w H4 r3 ts3 s3 p4 ⟨dy', dz, e4, e5, q5⟩ => ?_) (x.less (pls_less _) S.pa)
      have p5 := p3'.seq p4
      obtain ⟨_, _, _, _, h4⟩ := p5.tr.split
      obtain ⟨_, _, _, h5, h6⟩ := h4.split
      refine hr' _ _ _ _ _ _ _ _ p5.st.rok (h5.rb p5.st e4) (h6.rb p5.st e5) q5 fun w H3 ro n q3 => ?_
      obtain ⟨ts3, p6⟩ := p5.new S.pa n
      exact k _ _ _ _ _ p6 q3) (x.less (pls_less ts) S.pa)) x
end
end DL
set_option Elab.async false
set_option linter.all false
set_option maxRecDepth 100000
set_option maxHeartbeats 1000000
/-! what is put into slots; statements -/
namespace DL
open PySem PySem.Spec PyProof.Rows L2 Mv
def okSet (s : SS) (i : Nat) : Prop := match s[i]? with
  | some (.o false _) => False
  | some _ => True
  | none => False
section
variable {T : List (Addr × Str)} {K : PySem.W.Frag} {E : L2.St → XK} {A A' B : Addr → Prop} {P : Par} {Z H H1 H2 H' : Hp} {σ σ' : L2.St} {s s1 s2 s' : SS} {vs us : List V} {rs qs : List R} {ts us' : List Addr} {Ed : EC} {v : V} {r : R}
theorem okSet.lt {i : Nat} (h : okSet s i) : i < s.length := by
  unfold okSet at h
  cases e : s[i]? with
  | none => rw [e] at h; exact h.elim
  | some sv => exact (List.getElem?_eq_some_iff.mp e).1
theorem okSet.np {i : Nat} (h : okSet s i) (c : CO) : s[i]? ≠ some (.o false c) := fun e => by
  unfold okSet at h
  rw [e] at h
  exact h
theorem StR.put (S : StR T K B P Z σ s H) {i : Nat} {ov : Option V} {sv : SV} (hk : okSet s i) (hA : ∀ a, A a → B a) (hp : ∀ i a, P i = some a → A a)
    (hsub : ∀ a, Own (σ.set i ov) (s.set i sv) a → Own σ s a ∨ (B a ∧ NwD Z a)) (hs : SlotR K (res (Hid A (σ.set i ov) (s.set i sv)) H) H ov sv)
    (hn : ∀ l c, sv = .o l c → l = true ∧ ∀ a, ov = some (.ref a) → ¬ A a ∧ ∀ (j : Nat) l' c', j ≠ i → s[j]? = some (.o l' c') → σ[j]? ≠ some (some (.ref a))) : StR T K A P Z (σ.set i ov) (s.set i sv) H := by
  have li : i < s.length := hk.lt
  have li' : i < σ.length := by rw [S.len]; exact li
  have x : LamX.ExtN (res (Hid B σ s) H) (res (Hid A (σ.set i ov) (s.set i sv)) H) := res_less fun b z => z.elim (fun z => .inl (hA b z)) fun z => (hsub b z).elim .inr fun z => .inl z.1
  have gs : ∀ (j : Nat), j ≠ i → (s.set i sv)[j]? = s[j]? := fun j n => List.getElem?_set_ne (Ne.symm n)
  have gσ : ∀ (j : Nat), j ≠ i → (σ.set i ov)[j]? = σ[j]? := fun j n => List.getElem?_set_ne (Ne.symm n)
  have gsi : (s.set i sv)[i]? = some sv := List.getElem?_set_self li
  have gσi : (σ.set i ov)[i]? = some ov := List.getElem?_set_self li'
  refine ⟨by rw [List.length_set, List.length_set]; exact S.len, fun j w e => ?_, fun j k a l c l' c' h1 h2 h3 h4 => ?_, fun j a c h1 h2 => ?_, fun a h => ?_, fun j a c h1 h2 => ?_, fun j a e => ?_, fun a h => S.aol a (hA a h), S.fr, S.tb⟩
  · by_cases n : j = i
    · subst n
      rw [gsi] at e
      cases e
      exact ⟨_, gσi, hs⟩
    · rw [gs j n] at e
      obtain ⟨u, e1, q⟩ := S.sl j w e
      refine ⟨u, by rw [gσ j n]; exact e1, ?_⟩
      cases w with
      | no => trivial
      | d y => obtain ⟨u, e, r⟩ := q; exact ⟨u, e, r.ext x⟩
      | o l c => obtain ⟨a, e, r⟩ := q; exact ⟨a, e, r.ext x fun o h _ => h⟩
  · by_cases n : j = i
    · subst n
      rw [gsi] at h2
      rw [gσi] at h1
      by_cases m : k = j
      · exact m.symm
      · rw [gs k m] at h4
        rw [gσ k m] at h3
        exact absurd h3 (((hn _ _ (Option.some.inj h2)).2 a (Option.some.inj h1)).2 k l' c' m h4)
    · rw [gs j n] at h2
      rw [gσ j n] at h1
      by_cases m : k = i
      · subst m
        rw [gsi] at h4
        rw [gσi] at h3
        exact absurd h1 (((hn _ _ (Option.some.inj h4)).2 a (Option.some.inj h3)).2 j l c n h2)
      · rw [gs k m] at h4
        rw [gσ k m] at h3
        exact S.inj j k a l c l' c' h1 h2 h3 h4
  · by_cases n : j = i
    · subst n
      rw [gsi] at h2
      rw [gσi] at h1
      exact ((hn _ _ (Option.some.inj h2)).2 a (Option.some.inj h1)).1
    · rw [gs j n] at h2
      rw [gσ j n] at h1
      exact fun z => S.loc j a c h1 h2 (hA a z)
  · exact (hsub a h).elim (S.zo a) fun z => z.2
  · by_cases n : j = i
    · subst n
      rw [gsi] at h2
      have := (hn _ _ (Option.some.inj h2)).1
      cases this
    · rw [gs j n] at h2
      rw [gσ j n] at h1
      exact S.par j a c h1 h2
  · obtain ⟨h1, h2, c, h3⟩ := S.pin j a e
    have n : j ≠ i := fun z => hk.np c (z ▸ h3)
    exact ⟨hp j a e, by rw [gσ j n]; exact h2, c, by rw [gs j n]; exact h3⟩
/-- the places of one's own, behind a store of what is none's own -/
theorem own_set {i : Nat} {ov : Option V} {sv : SV} (hv : ∀ l c, sv ≠ .o l c) {a : Addr} (h : Own (σ.set i ov) (s.set i sv) a) : Own σ s a := by
  obtain ⟨j, l, c, h1, h2⟩ := h
  by_cases n : j = i
  · subst n
    by_cases m : j < s.length
    · rw [List.getElem?_set_self m] at h2
      exact absurd (Option.some.inj h2) (hv l c)
    · rw [List.getElem?_eq_none (by rw [List.length_set]; omega)] at h2
      cases h2
  · rw [List.getElem?_set_ne (Ne.symm n)] at h1 h2
    exact ⟨j, l, c, h1, h2⟩
theorem StR.setd (S : StR T K B P Z σ s H) {i : Nat} {x : D} (hk : okSet s i) (hA : ∀ a, A a → B a) (hp : ∀ i a, P i = some a → A a) (h : Rp K (res (Hid B σ s) H) v x) : StR T K A P Z (σ.set i (some v)) (s.set i (.d x)) H :=
  S.put hk hA hp (fun a h => .inl (own_set (fun _ _ z => by cases z) h)) ⟨v, rfl, h.ext (res_less fun b z => z.elim (fun z => .inl (hA b z)) fun z => .inr (own_set (fun _ _ z => by cases z) z))⟩ fun l c z => by cases z
theorem StR.setn (S : StR T K B P Z σ s H) {i : Nat} {ov : Option V} (hk : okSet s i) (hA : ∀ a, A a → B a) (hp : ∀ i a, P i = some a → A a) : StR T K A P Z (σ.set i ov) (s.set i .no) H :=
  S.put hk hA hp (fun a h => .inl (own_set (fun _ _ z => by cases z) h)) trivial fun l c z => by cases z
theorem StR.seto (S : StR T K B P Z σ s H) {i : Nat} {a : Addr} {c : CO} (hk : okSet s i) (hA : ∀ a, A a → B a) (hp : ∀ i a, P i = some a → A a) (hB : B a) (nA : ¬ A a) (nO : ¬ Own σ s a) (nZ : NwD Z a) (h : CoR K (res (Hid B σ s) H) H a c) : StR T K A P Z (σ.set i (some (.ref a))) (s.set i (.o true c)) H := by
  have hs : ∀ b, Own (σ.set i (some (.ref a))) (s.set i (.o true c)) b → Own σ s b ∨ (B b ∧ NwD Z b) := fun b h => by
    obtain ⟨j, l, c', h1, h2⟩ := h
    by_cases n : j = i
    · subst n
      rw [List.getElem?_set_self (by rw [S.len]; exact hk.lt)] at h1
      cases h1
      exact .inr ⟨hB, nZ⟩
    · rw [List.getElem?_set_ne (Ne.symm n)] at h1 h2
      exact .inl ⟨j, l, c', h1, h2⟩
  refine S.put hk hA hp hs ⟨a, rfl, h.ext (res_less fun b z => z.elim (fun z => .inl (hA b z)) fun z => (hs b z).elim .inr fun z => .inl z.1) fun o h _ => h⟩ fun l c' z => ?_
  cases z
  refine ⟨rfl, fun b e => ?_⟩
  cases e
  exact ⟨nA, fun j l' c' _ h1 h2 => nO ⟨j, l', c', h2, h1⟩⟩
theorem set_self_opt {α : Type} {l : List α} {i : Nat} {x : α} (h : l[i]? = some x) : l.set i x = l := by
  refine List.ext_getElem? fun j => ?_
  by_cases n : i = j
  · subst n
    rw [List.getElem?_set_self (List.getElem?_eq_some_iff.mp h).1, h]
  · rw [List.getElem?_set_ne n]
/-- an object of one's own is left as it is: from now on it is data -/
theorem StR.freeze (S : StR T K A P Z σ s H) {i : Nat} {c : CO} (hs : s[i]? = some (.o true c)) : StR T K A P Z σ (s.set i (.d c.frz)) H ∧ (∀ a, Own σ (s.set i (.d c.frz)) a → Own σ s a) ∧ ∀ v, σ[i]? = some (some v) → Rp K (res (Hid A σ (s.set i (.d c.frz))) H) v c.frz := by
  obtain ⟨ov, e1, a, rfl, q⟩ := S.sl i _ hs
  have eσ : σ.set i (some (.ref a)) = σ := set_self_opt e1
  have hk : okSet s i := by
    unfold okSet
    rw [hs]
    trivial
  have li := hk.lt
  have sub : ∀ b, Own σ (s.set i (.d c.frz)) b → Own σ s b := fun b h => by
    rw [← eσ] at h
    have := own_set (fun _ _ z => by cases z) h
    exact this
  have nown : ¬ Own σ (s.set i (.d c.frz)) a := by
    rintro ⟨j, l, c', h1, h2⟩
    by_cases n : j = i
    · subst n
      rw [List.getElem?_set_self li] at h2
      cases h2
    · rw [List.getElem?_set_ne (Ne.symm n)] at h2
      exact n (S.inj j i a l c' true c h1 h2 e1 hs)
  have nA : ¬ A a := S.loc i a c e1 hs
  have hr : Rp K (res (Hid A σ (s.set i (.d c.frz))) H) (.ref a) c.frz := q.frz (res_less fun b z => z.elim .inl fun z => .inr (sub b z)) fun o h => by
    rw [res_eq fun z => z.elim nA nown]
    exact h
  refine ⟨?_, sub, fun v e => ?_⟩
  · have := S.put (A := A) (ov := some (.ref a)) (sv := .d c.frz) hk (fun _ z => z) S.pa (fun b h => .inl (own_set (fun _ _ z => by cases z) h)) ⟨_, rfl, by rw [eσ]; exact hr⟩ fun l c z => by cases z
    rwa [eσ] at this
  · rw [e1] at e
    cases e
    exact hr
/-! ### outcomes that are kept: as data -/
def frz1 (s : SS) : R → Option (D × SS)
  | .d x => some (x, s)
  | .o c => some (c.frz, s)
  | .bw i => match s[i]? with
    | some (.o true c) => some (c.frz, s.set i (.d c.frz))
    | some (.d x) => some (x, s)
    | _ => none
def frzs : List R → SS → Option (List D × SS)
  | [], s => some ([], s)
  | r :: rs, s => match frz1 s r with
    | some (x, s1) => match frzs rs s1 with
      | some (xs, s2) => some (x :: xs, s2)
      | none => none
    | none => none
inductive FR (K : PySem.W.Frag) (G : Hp) (σ : L2.St) : List V → List R → Prop
  | nil : FR K G σ [] []
  | d {v : V} {x : D} {vs : List V} {rs : List R} : Rp K G v x → FR K G σ vs rs → FR K G σ (v :: vs) (.d x :: rs)
  | o {v : V} {c : CO} {vs : List V} {rs : List R} : Rp K G v c.frz → FR K G σ vs rs → FR K G σ (v :: vs) (.o c :: rs)
  | bw {v : V} {i : Nat} {vs : List V} {rs : List R} : σ[i]? = some (some v) → FR K G σ vs rs → FR K G σ (v :: vs) (.bw i :: rs)
theorem FR.ext {G G' : Hp} (h : FR K G σ vs rs) (e : LamX.ExtN G G') : FR K G' σ vs rs := by
  induction h with
  | nil => exact .nil
  | d r _ ih => exact .d (r.ext e) ih
  | o r _ ih => exact .o (r.ext e) ih
  | bw r _ ih => exact .bw r ih
theorem TR.fr {G G' : Hp} (h : TR K G H σ vs rs ts) (e : LamX.ExtN G G') (ht : ∀ a ∈ ts, ∀ o, H a = some o → G' a = some o) : FR K G' σ vs rs := by
  induction h with
  | nil => exact .nil
  | d r _ ih => exact .d (r.ext e) (ih ht)
  | o r _ ih => exact .o (r.frz e (ht _ List.mem_cons_self)) (ih fun a h => ht a (List.mem_cons_of_mem _ h))
  | bw r _ ih => exact .bw r (ih ht)
/-- nothing of what was reckoned is hidden any more -/
theorem Post.fr (p : Post T K A P Z σ s s1 H H1 vs rs ts) (nA : ∀ a ∈ ts, ¬ A a) : FR K (res (Hid A σ s1) H1) σ vs rs :=
  p.tr.fr (res_less fun b z => z.elim (fun z => .inl (.inl z)) .inr) fun a ha o e => by
    rw [res_eq fun z => z.elim (nA a ha) (p.fre a ha)]
    exact e
theorem Post.nA (p : Post T K A P Z σ s s1 H H1 vs rs ts) (S : StR T K A P Z σ s H) : ∀ a ∈ ts, ¬ A a := fun a ha hA => by
  obtain ⟨o, e, t⟩ := S.aol a hA
  exact (p.nw a ha).ne e t rfl
theorem frz1_ok (S : StR T K A P Z σ s H) {x : D} (h : FR K (res (Hid A σ s) H) σ [v] [r]) (e : frz1 s r = some (x, s')) : StR T K A P Z σ s' H ∧ (∀ a, Own σ s' a → Own σ s a) ∧ Rp K (res (Hid A σ s') H) v x := by
  cases h with
  | d h _ => cases e; exact ⟨S, fun _ z => z, h⟩
  | o h _ => cases e; exact ⟨S, fun _ z => z, h⟩
  | @bw _ i _ _ h _ =>
    have e' : (match s[i]? with | some (.o true c) => some (c.frz, s.set i (.d c.frz)) | some (.d x) => some (x, s) | _ => none) = some (x, s') := e
    cases hs : s[i]? with
    | none => rw [hs] at e'; cases e'
    | some sv =>
      rw [hs] at e'
      cases sv with
      | no => cases e'
      | d y =>
        cases e'
        obtain ⟨ov, e1, u, rfl, q⟩ := S.sl i _ hs
        rw [h] at e1
        cases e1
        exact ⟨S, fun _ z => z, q⟩
      | o l c =>
        cases l with
        | false => cases e'
        | true =>
          cases e'
          obtain ⟨S1, sub, q⟩ := S.freeze hs
          exact ⟨S1, sub, q v h⟩
theorem FR.split {G : Hp} (h : FR K G σ (v :: vs) (r :: rs)) : FR K G σ [v] [r] ∧ FR K G σ vs rs := by
  cases h with
  | d h k => exact ⟨.d h .nil, k⟩
  | o h k => exact ⟨.o h .nil, k⟩
  | bw h k => exact ⟨.bw h .nil, k⟩
theorem frzs_ok : ∀ {rs : List R} {vs : List V} {s s' : SS} {xs : List D}, StR T K A P Z σ s H → FR K (res (Hid A σ s) H) σ vs rs → frzs rs s = some (xs, s') → StR T K A P Z σ s' H ∧ (∀ a, Own σ s' a → Own σ s a) ∧ Rps K (res (Hid A σ s') H) vs xs
  | [], _, s, s', xs, S, h, e => by
    cases h
    cases e
    exact ⟨S, fun _ z => z, .nil⟩
  | r :: rs, vs, s, s', xs, S, h, e => by
    cases vs with
    | nil => cases h
    | cons v vs =>
      have e' : (match frz1 s r with | some (x, s1) => (match frzs rs s1 with | some (xs, s2) => some (x :: xs, s2) | none => none) | none => none) = some (xs, s') := e
      obtain ⟨h1, h2⟩ := h.split
      cases e1 : frz1 s r with
      | none => rw [e1] at e'; cases e'
      | some q =>
        obtain ⟨x, s1⟩ := q
        rw [e1] at e'
        obtain ⟨S1, sub1, r1⟩ := frz1_ok S h1 e1
        cases e2 : frzs rs s1 with
        | none =>
          have e'' : (match frzs rs s1 with | some (xs, s2) => some (x :: xs, s2) | none => none) = some (xs, s') := e'
          rw [e2] at e''
          cases e''
        | some q =>
          obtain ⟨ys, s2⟩ := q
          have e'' : (match frzs rs s1 with | some (xs, s2) => some (x :: xs, s2) | none => none) = some (xs, s') := e'
          rw [e2] at e''
          cases e''
          obtain ⟨S2, sub2, r2⟩ := frzs_ok S1 (h2.ext (res_less fun b z => z.elim .inl fun z => .inr (sub1 b z))) e2
          exact ⟨S2, fun a z => sub1 a (sub2 a z), .cons (r1.ext (res_less fun b z => z.elim .inl fun z => .inr (sub2 b z))) r2⟩
/-- what was reckoned, kept -/
theorem Post.frz (p : Post T K A P Z σ s s1 H H1 vs rs ts) (S : StR T K A P Z σ s H) {xs : List D} (e : frzs rs s1 = some (xs, s2)) : Post T K A P Z σ s s2 H H1 [] [] [] ∧ StR T K A P Z σ s2 H1 ∧ Rps K (res (Hid A σ s2) H1) vs xs := by
  obtain ⟨S2, sub, r⟩ := frzs_ok (p.st.less (pls_less ts) S.pa) (p.fr (p.nA S)) e
  exact ⟨⟨.nil, fun _ z => (by cases z), fun _ z => (by cases z), by rw [pls_nil]; exact S2, .nil, p.kp, fun a z => p.shr a (sub a z), p.ot⟩, S2, r⟩
/-! ### tuples and lists written out -/
def dTup (da : DA) : DE := fun s Q E => da s (fun rs s1 => ∃ xs s2, frzs rs s1 = some (xs, s2) ∧ xs.length ≤ sizeLine ∧ Q (.d (.tup xs)) s2) E
def dLst (da : DA) : DE := fun s Q E => da s (fun rs s1 => ∃ xs s2, frzs rs s1 = some (xs, s2) ∧ xs.length ≤ sizeLine ∧ Q (.o (.lst xs)) s2) E
theorem ext_new {hid : Addr → Prop} {p : Addr} {o : HO} (h : H p = none) : LamX.ExtN (res hid H) (res (fun b => hid b ∨ b = p) (upd H p o)) := by
  refine res_ext (M := fun _ => False) (Kp.of (same_upd h)) (fun _ z => z.elim) fun b z => ?_
  rcases z with z | z
  · exact .inl z
  · rw [z]
    exact .inr (NwD.of h)
theorem ext_new' {hid : Addr → Prop} {p : Addr} {o : HO} (h : H p = none) : LamX.ExtN (res hid H) (res hid (upd H p o)) := res_ext (M := fun _ => False) (Kp.of (same_upd h)) (fun _ z => z.elim) fun b z => .inl z
theorem rok_new {hid : Addr → Prop} (k : ROk hid H) {p : Addr} (h : H p = none) : ¬ hid p := fun z => by
  obtain ⟨o, e, _⟩ := k p z
  rw [h] at e
  cases e
theorem newR_tup {hid : Addr → Prop} (k : ROk hid H) {p : Addr} (h : H p = none) {xs : List D} (r : Rps K (res hid H) vs xs) : NewR K hid H (.ref p) (upd H p (.tup vs)) (.d (.tup xs)) :=
  ⟨same_upd h, .tup (.inl (.inl (by rw [res_eq (rok_new k h)]; exact upd_same))) (r.ext (ext_new' h))⟩
theorem newR_lst {hid : Addr → Prop} (k : ROk hid H) {p : Addr} (h : H p = none) {xs : List D} (r : Rps K (res hid H) vs xs) : NewR K hid H (.ref p) (upd H p (.lst vs)) (.o (.lst xs)) :=
  ⟨p, rfl, h, same_upd h, _, upd_same, r.ext (ext_new h)⟩
theorem lift_tup {ta : TA} {da : DA} (ha : LiftA T K E ta da) : LiftE T K E (tTup ta) (dTup da) := fun A P Z σ s H Qd Ed Q S h k x =>
  ha A P Z σ s H _ Ed _ S h (fun vs H1 rs ts s1 p ⟨xs, s2, e, hl, q⟩ => by
    obtain ⟨p2, S2, r2⟩ := p.frz S e
    refine ⟨by rw [r2.length]; exact hl, fun a ha => ?_⟩
    obtain ⟨ts3, p4⟩ := p2.new S.pa (by rw [pls_nil]; exact newR_tup S2.rok ha r2)
    exact k _ _ _ _ _ p4 q) x
theorem lift_lst {ta : TA} {da : DA} (ha : LiftA T K E ta da) : LiftE T K E (tLst ta) (dLst da) := fun A P Z σ s H Qd Ed Q S h k x =>
  ha A P Z σ s H _ Ed _ S h (fun vs H1 rs ts s1 p ⟨xs, s2, e, hl, q⟩ => by
    obtain ⟨p2, S2, r2⟩ := p.frz S e
    refine ⟨by rw [r2.length]; exact hl, fun a ha => ?_⟩
    obtain ⟨ts3, p4⟩ := p2.new S.pa (by rw [pls_nil]; exact newR_lst S2.rok ha r2)
    exact k _ _ _ _ _ p4 q) x
end
end DL
set_option Elab.async false
set_option linter.all false
set_option maxRecDepth 100000
set_option maxHeartbeats 1000000
/-! statements -/
namespace DL
open PySem PySem.Spec PyProof.Rows L2 Mv
structure DEnds where
  nx : SS → Prop
  rt : R → SS → Prop
  bk : SS → Prop := fun _ => False
  ct : SS → Prop := fun _ => False
abbrev DS := DEnds → EC → SS → Prop
/-- what is handed back, and the state behind it -/
def RtR (T : List (Addr × Str)) (K : PySem.W.Frag) (A : Addr → Prop) (P : Par) (Z : Hp) (v : V) (H' : Hp) (σ' : L2.St) (s' : SS) : R → Prop
  | .d x => StR T K A P Z σ' s' H' ∧ Rp K (res A H') v x
  | .o c => ∃ a, v = .ref a ∧ NwD Z a ∧ ¬ A a ∧ StR T K (Pls A [a]) P Z σ' s' H' ∧ CoR K (res (Pls A [a]) H') H' a c
  | .bw _ => False
structure EndsR (T : List (Addr × Str)) (K : PySem.W.Frag) (A : Addr → Prop) (P : Par) (Z : Hp) (Dd : DEnds) (D : Ends) : Prop where
  nx : ∀ σ' s' H', StR T K A P Z σ' s' H' → Dd.nx s' → D.nx σ' H'
  rt : ∀ v r σ' s' H', RtR T K A P Z v H' σ' s' r → Dd.rt r s' → D.rt v H'
  bk : ∀ σ' s' H', StR T K A P Z σ' s' H' → Dd.bk s' → D.bk σ' H'
  ct : ∀ σ' s' H', StR T K A P Z σ' s' H' → Dd.ct s' → D.ct σ' H'
def XOkS (T : List (Addr × Str)) (K : PySem.W.Frag) (A : Addr → Prop) (P : Par) (Z : Hp) (Ed : EC) (E : L2.St → XK) : Prop :=
  ∀ cls d H' ex σ' s', StR T K A P Z σ' s' H' → ExR K (res (Hid A σ' s') H') H' cls d ex → Ed ex s' → E σ' cls d H'
def LiftS (T : List (Addr × Str)) (K : PySem.W.Frag) (E : L2.St → XK) (t : TS) (td : DS) : Prop :=
  ∀ (A : Addr → Prop) (P : Par) (Z : Hp) (σ : L2.St) (s : SS) (H : Hp) (Dd : DEnds) (Ed : EC) (D : Ends), StR T K A P Z σ s H → td Dd Ed s → EndsR T K A P Z Dd D → XOkS T K A P Z Ed E → t D σ H
/-- a target of a store -/
abbrev DG := R → SS → (SS → Prop) → Prop
def LiftG (T : List (Addr × Str)) (K : PySem.W.Frag) (g : TG) (gd : DG) : Prop :=
  ∀ (A B : Addr → Prop) (P : Par) (Z : Hp) (σ : L2.St) (s : SS) (H : Hp) (v : V) (r : R) (ts : List Addr) (Qd : SS → Prop) (Q : L2.St → Hp → Prop), StR T K B P Z σ s H → (∀ a, A a → B a) → (∀ i a, P i = some a → A a) →
    TR K (res (Hid B σ s) H) H σ [v] [r] ts → (∀ a ∈ ts, B a ∧ ¬ A a ∧ ¬ Own σ s a ∧ NwD Z a) → gd r s Qd → (∀ σ' s' H', StR T K A P Z σ' s' H' → Qd s' → Q σ' H') → g v σ H Q
section
variable {T : List (Addr × Str)} {K : PySem.W.Frag} {E : L2.St → XK} {A A' B : Addr → Prop} {P : Par} {Z H H1 H2 H' : Hp} {σ σ' : L2.St} {s s1 s2 s' : SS} {vs us : List V} {rs qs : List R} {ts us' : List Addr} {Ed : EC} {v : V} {r : R}
theorem XOkS.x (x : XOkS T K A P Z Ed E) : XOk T K A P Z σ Ed (E σ) := fun cls d H' ex s' S r q => x cls d H' ex σ s' S r q
theorem XOkS.less (x : XOkS T K A P Z Ed E) (h : ∀ a, A a → A' a) (hp : ∀ i a, P i = some a → A a) : XOkS T K A' P Z Ed E := fun cls d H' ex σ s' S r q =>
  x cls d H' ex σ s' (S.less h hp) (r.ext (res_less fun b z => z.elim (fun z => .inl (h b z)) .inr)) q
theorem Post.newZ (p : Post T K A P Z σ s s1 H H1 vs rs ts) (S : StR T K A P Z σ s H) : ∀ a ∈ ts, NwD Z a := fun a h => S.new0 (p.nw a h)
theorem Post.tsx (p : Post T K A P Z σ s s1 H H1 vs rs ts) (S : StR T K A P Z σ s H) : ∀ a ∈ ts, Pls A ts a ∧ ¬ A a ∧ ¬ Own σ s1 a ∧ NwD Z a := fun a h => ⟨.inr h, p.nA S a h, p.fre a h, p.newZ S a h⟩
/-! ### targets -/
def dgName (i : Nat) : DG := fun r s Q => match r with
  | .d x => okSet s i ∧ Q (s.set i (.d x))
  | .o c => okSet s i ∧ Q (s.set i (.o true c))
  | .bw j => ∃ x s', frz1 s (.bw j) = some (x, s') ∧ okSet s' i ∧ Q (s'.set i (.d x))
theorem lift_gName (i : Nat) : LiftG T K (gName i) (dgName i) := fun A B P Z σ s H v r ts Qd Q S hA hp tr ht h k => by
  cases tr with
  | d q _ =>
    obtain ⟨h1, h2⟩ := h
    exact k _ _ _ (S.setd h1 hA hp q) h2
  | o q _ =>
    obtain ⟨h1, h2⟩ := h
    obtain ⟨b1, b2, b3, b4⟩ := ht _ List.mem_cons_self
    exact k _ _ _ (S.seto h1 hA hp b1 b2 b3 b4 q) h2
  | bw q _ =>
    obtain ⟨x, s', e, h1, h2⟩ := h
    obtain ⟨S1, sub, r1⟩ := frz1_ok S (.bw q .nil) e
    exact k _ _ _ (S1.setd h1 hA hp r1) h2
/-- targets of plain data -/
abbrev DGd := D → SS → (SS → Prop) → Prop
abbrev DGs := List D → SS → (SS → Prop) → Prop
def LiftGd (T : List (Addr × Str)) (K : PySem.W.Frag) (g : TG) (gd : DGd) : Prop :=
  ∀ (A : Addr → Prop) (P : Par) (Z : Hp) (σ : L2.St) (s : SS) (H : Hp) (v : V) (x : D) (Qd : SS → Prop) (Q : L2.St → Hp → Prop), StR T K A P Z σ s H →
    Rp K (res (Hid A σ s) H) v x → gd x s Qd → (∀ σ' s', StR T K A P Z σ' s' H → (∀ a, Own σ' s' a → Own σ s a) → Qd s' → Q σ' H) → g v σ H Q
def LiftGs (T : List (Addr × Str)) (K : PySem.W.Frag) (g : TGs) (gd : DGs) : Prop :=
  ∀ (A : Addr → Prop) (P : Par) (Z : Hp) (σ : L2.St) (s : SS) (H : Hp) (vs : List V) (xs : List D) (Qd : SS → Prop) (Q : L2.St → Hp → Prop), StR T K A P Z σ s H →
    Rps K (res (Hid A σ s) H) vs xs → gd xs s Qd → (∀ σ' s', StR T K A P Z σ' s' H → (∀ a, Own σ' s' a → Own σ s a) → Qd s' → Q σ' H) → g vs σ H Q
def ddName (i : Nat) : DGd := fun x s Q => okSet s i ∧ Q (s.set i (.d x))
def dgNil : DGs := fun xs s Q => xs = [] ∧ Q s
def dgCons (g : DGd) (u : DGs) : DGs := fun xs s Q => ∃ x ys, xs = x :: ys ∧ g x s (fun s1 => u ys s1 Q)
def ddTup (n : Nat) (u : DGs) : DGd := fun x s Q => ∃ xs, x = .tup xs ∧ xs.length = n ∧ u xs s Q
def dgTup (n : Nat) (u : DGs) : DG := fun r s Q => ∃ xs, vw s r = some (.tup xs) ∧ xs.length = n ∧ u xs s Q
theorem lift_dName (i : Nat) : LiftGd T K (gName i) (ddName i) := fun A P Z σ s H v x Qd Q S hr h k =>
  k _ _ (S.setd h.1 (fun _ z => z) S.pa hr) (fun a z => own_set (fun _ _ z => by cases z) z) h.2
theorem lift_gNil : LiftGs T K gNil dgNil := fun A P Z σ s H vs xs Qd Q S hr h k => by
  obtain ⟨rfl, h⟩ := h
  cases hr
  exact ⟨rfl, k _ _ S (fun _ z => z) h⟩
theorem lift_gCons {g : TG} {u : TGs} {gd : DGd} {ud : DGs} (hg : LiftGd T K g gd) (hu : LiftGs T K u ud) : LiftGs T K (gCons g u) (dgCons gd ud) := fun A P Z σ s H vs xs Qd Q S hr h k => by
  obtain ⟨x, ys, rfl, h⟩ := h
  cases hr with
  | @cons v vs _ _ h1 h2 =>
    exact ⟨v, vs, rfl, hg A P Z σ s H v x _ _ S h1 h fun σ1 s1 S1 sub q => hu A P Z σ1 s1 H vs ys _ _ S1 (h2.ext (res_less fun b z => z.elim .inl fun z => .inr (sub b z))) q fun σ2 s2 S2 sub2 q2 => k _ _ S2 (fun a z => sub a (sub2 a z)) q2⟩
theorem lift_dTup {n : Nat} {u : TGs} {ud : DGs} (hu : LiftGs T K u ud) : LiftGd T K (gTup K n u) (ddTup n ud) := fun A P Z σ s H v x Qd Q S hr h k => by
  obtain ⟨xs, rfl, hl, h⟩ := h
  cases hr with
  | @tup a vs _ hq hr => exact ⟨a, vs, rfl, ExtN.sqT res_all hq, by rw [hr.length]; exact hl, hu A P Z σ s H vs xs Qd Q S hr h k⟩
theorem lift_gTup {n : Nat} {u : TGs} {ud : DGs} (hu : LiftGs T K u ud) : LiftG T K (gTup K n u) (dgTup n ud) := fun A B P Z σ s H v r ts Qd Q S hA hp tr ht h k => by
  obtain ⟨xs, e, hl, h⟩ := h
  obtain ⟨a, vs, rfl, hq, _, hr⟩ := (tr.rb S e).tup
  exact ⟨a, vs, rfl, hq, by rw [hr.length]; exact hl, hu A P Z σ s H vs xs Qd Q (S.less hA hp) (hr.ext (res_less fun b z => z.elim (fun z => .inl (hA b z)) .inr)) h fun σ' s' S' _ q => k _ _ _ S' q⟩
/-! ### blocks -/
def dNext : DS := fun D _ s => D.nx s
def dSeq (t u : DS) : DS := fun D E s => t { D with nx := u D E } E s
def dBreak : DS := fun D _ s => D.bk s
def dCont : DS := fun D _ s => D.ct s
def dDrop (da : DE) : DS := fun D E s => da s (fun _ s1 => D.nx s1) E
def dRetN : DS := fun D _ s => D.rt (.d .non) s
def rtn (s : SS) : R → Option (R × SS)
  | .d x => some (.d x, s)
  | .o c => some (.o c, s)
  | .bw i => match s[i]? with
    | some (.o true c) => some (.o c, s.set i .no)
    | some (.d x) => some (.d x, s)
    | _ => none
def dRet (da : DE) : DS := fun D E s => da s (fun r s1 => ∃ r' s2, rtn s1 r = some (r', s2) ∧ D.rt r' s2) E
def dIfS (t : DT) (a b : DS) : DS := fun D E s => t s (fun c s1 => if c = true then a D E s1 else b D E s1) E
def dAsg (da : DE) (g : DG) : DS := fun D E s => da s (fun r s1 => g r s1 D.nx) E
def dNever : DS := fun _ _ _ => False
theorem lift_never : LiftS T K E tNever dNever := fun A P Z σ s H Dd Ed D S h k x => h.elim
theorem lift_next : LiftS T K E tNext dNext := fun A P Z σ s H Dd Ed D S h k x => k.nx _ _ _ S h
theorem lift_break : LiftS T K E tBreak dBreak := fun A P Z σ s H Dd Ed D S h k x => k.bk _ _ _ S h
theorem lift_cont : LiftS T K E tCont dCont := fun A P Z σ s H Dd Ed D S h k x => k.ct _ _ _ S h
theorem lift_seq {t u : TS} {dt du : DS} (ht : LiftS T K E t dt) (hu : LiftS T K E u du) : LiftS T K E (tSeq t u) (dSeq dt du) := fun A P Z σ s H Dd Ed D S h k x =>
  ht A P Z σ s H _ Ed _ S h ⟨fun σ' s' H' S' q => hu A P Z σ' s' H' Dd Ed D S' q k x, k.rt, k.bk, k.ct⟩ x
theorem lift_drop {te : TE} {de : DE} (he : LiftE T K E te de) : LiftS T K E (tDrop te) (dDrop de) := fun A P Z σ s H Dd Ed D S h k x =>
  he A P Z σ s H _ Ed _ S h (fun v H' r ts s' p q => k.nx _ _ _ (post_test (p.drop S.pa) S) q) x.x
theorem lift_retN : LiftS T K E tRetN dRetN := fun A P Z σ s H Dd Ed D S h k x => k.rt .non (.d .non) _ _ _ ⟨S, Rp.sc V.non⟩ h
theorem rtn_ok (p : Post T K A P Z σ s s1 H H1 [v] [r] ts) (S : StR T K A P Z σ s H) {r' : R} (e : rtn s1 r = some (r', s2)) : RtR T K A P Z v H1 σ s2 r' := by
  have S1 := post_test (p.drop S.pa) S
  have tr := p.tr
  cases tr with
  | d h _ =>
    cases e
    exact ⟨S1, h.ext (res_less fun b z => .inl (.inl z))⟩
  | @o a c _ _ us h k =>
    cases e
    cases k
    exact ⟨a, rfl, p.newZ S a List.mem_cons_self, p.nA S a List.mem_cons_self, p.st, h.ext (res_less fun b z => .inl z) fun o h _ => h⟩
  | @bw _ i _ _ _ h _ =>
    have e' : (match s1[i]? with | some (.o true c) => some (R.o c, s1.set i SV.no) | some (.d x) => some (R.d x, s1) | _ => none) = some (r', s2) := e
    cases hs : s1[i]? with
    | none => rw [hs] at e'; cases e'
    | some sv =>
      rw [hs] at e'
      obtain ⟨ov, e1, q⟩ := S1.sl i sv hs
      rw [h] at e1
      obtain rfl := Option.some.inj e1
      cases sv with
      | no => cases e'
      | d y =>
        cases e'
        obtain ⟨u, e2, q⟩ := q
        cases e2
        exact ⟨S1, q.ext (res_less fun b z => .inl z)⟩
      | o l c =>
        cases l with
        | false => cases e'
        | true =>
          cases e'
          obtain ⟨a, e2, q⟩ := q
          cases e2
          have ho : Own σ s1 a := ⟨i, true, c, h, hs⟩
          have nA : ¬ A a := S1.loc i a c h hs
          have li := (List.getElem?_eq_some_iff.mp hs).1
          have ok : okSet s1 i := by
            unfold okSet
            rw [hs]
            trivial
          have eσ : σ.set i (some (.ref a)) = σ := set_self_opt h
          have sub : ∀ b, Own σ (s1.set i .no) b → Own σ s1 b := fun b h => by
            rw [← eσ] at h
            exact own_set (fun _ _ z => by cases z) h
          have nown : ¬ Own σ (s1.set i .no) a := by
            rintro ⟨j, l, c', h1, h2⟩
            by_cases n : j = i
            · subst n
              rw [List.getElem?_set_self li] at h2
              cases h2
            · rw [List.getElem?_set_ne (Ne.symm n)] at h2
              exact n (S1.inj j i a l c' true c h1 h2 h hs)
          have S2 := S1.setn (i := i) (ov := some (.ref a)) ok (fun _ z => z) S1.pa
          rw [eσ] at S2
          obtain ⟨o, e3, t3⟩ := q.there
          -- the state with the object hidden
          have x : ∀ b, Hid (Pls A [a]) σ (s1.set i .no) b → Hid A σ s1 b := fun b z => by
            rcases z with (z | z) | z
            · exact .inl z
            · rw [List.mem_singleton.mp z]
              exact .inr ho
            · exact .inr (sub b z)
          have S3 : StR T K (Pls A [a]) P Z σ (s1.set i .no) H1 := by
            refine ⟨S2.len, fun j sv e => ?_, S2.inj, fun j b c h1 h2 z => ?_, S2.zo, S2.par, fun j b e => ⟨.inl (S2.pin j b e).1, (S2.pin j b e).2⟩, fun b z => ?_, S2.fr, S2.tb⟩
            · by_cases n : j = i
              · subst n
                rw [List.getElem?_set_self li] at e
                cases e
                exact ⟨_, h, trivial⟩
              · rw [List.getElem?_set_ne (Ne.symm n)] at e
                obtain ⟨ov, e1, q⟩ := S1.sl j sv e
                refine ⟨ov, e1, ?_⟩
                cases sv with
                | no => trivial
                | d y => obtain ⟨u, e, r⟩ := q; exact ⟨u, e, r.ext (res_less x)⟩
                | o l c => obtain ⟨b, e, r⟩ := q; exact ⟨b, e, r.ext (res_less x) fun o h _ => h⟩
            · rcases z with z | z
              · exact S2.loc j b c h1 h2 z
              · rw [List.mem_singleton.mp z] at h1
                exact nown ⟨j, _, _, h1, h2⟩
            · rcases z with z | z
              · exact S2.aol b z
              · rw [List.mem_singleton.mp z]
                exact ⟨o, e3, t3⟩
          refine ⟨a, rfl, S1.zo a ho, nA, S3, q.ext (res_less fun b z => ?_) fun o h _ => h⟩
          rcases z with z | z
          · exact .inl z
          · rw [List.mem_singleton.mp z]
            exact .inr ho
theorem lift_ret {te : TE} {de : DE} (he : LiftE T K E te de) : LiftS T K E (tRet te) (dRet de) := fun A P Z σ s H Dd Ed D S h k x =>
  he A P Z σ s H _ Ed _ S h (fun v H' r ts s' p ⟨r', s2, e, q⟩ => k.rt _ _ _ _ _ (rtn_ok p S e) q) x.x
theorem lift_ifS {t : TT} {a b : TS} {dt : DT} {da db : DS} (ht : LiftT T K E t dt) (ha : LiftS T K E a da) (hb : LiftS T K E b db) : LiftS T K E (tIfS t a b) (dIfS dt da db) := fun A P Z σ s H Dd Ed D S h k x =>
  ht A P Z σ s H _ Ed _ S h (fun c H1 s1 p q => by
    cases c with
    | true => exact ha A P Z σ s1 H1 Dd Ed D (post_test p S) q k x
    | false => exact hb A P Z σ s1 H1 Dd Ed D (post_test p S) q k x) x.x
theorem lift_asg {te : TE} {g : TG} {de : DE} {gd : DG} (he : LiftE T K E te de) (hg : LiftG T K g gd) : LiftS T K E (tAsg te g) (dAsg de gd) := fun A P Z σ s H Dd Ed D S h k x =>
  he A P Z σ s H _ Ed _ S h (fun v H' r ts s' p q => hg A _ P Z σ s' H' v r ts _ _ p.st (pls_less ts) S.pa p.tr (p.tsx S) q fun σ2 s2 H2 S2 q2 => k.nx _ _ _ S2 q2) x.x
/-- a, b = x, y -/
def dPar (i j : Nat) (da : DA) : DS := fun D E s => da s (fun rs s1 => ∃ x y s2, frzs rs s1 = some ([x, y], s2) ∧ okSet s2 i ∧ okSet (s2.set i (.d x)) j ∧ D.nx ((s2.set i (.d x)).set j (.d y))) E
theorem lift_par {i j : Nat} {ta : TA} {da : DA} (ha : LiftA T K E ta da) : LiftS T K E (tPar i j ta) (dPar i j da) := fun A P Z σ s H Dd Ed D S h k x =>
  ha A P Z σ s H _ Ed _ S h (fun vs H1 rs ts s1 p ⟨y, z, s2, e, h1, h2, q⟩ => by
    obtain ⟨p2, S2, r2⟩ := p.frz S e
    cases r2 with
    | @cons v vs _ _ r1 r2 =>
      cases r2 with
      | @cons u us _ _ r2 r3 =>
        cases r3
        have S3 := S2.setd h1 (fun _ z => z) S2.pa r1
        exact ⟨v, u, rfl, k.nx _ _ _ (S3.setd h2 (fun _ z => z) S3.pa (r2.ext (res_less fun b z => z.elim .inl fun z => .inr (own_set (fun _ _ z => by cases z) z)))) q⟩) x.x
/-- x op= e, of plain data -/
def LIp (K : PySem.W.Frag) (r : TIp) (rd : D → D → (R → Prop) → Prop) : Prop := LR2 K r rd
def dAug (i : Nat) (da : DE) (rd : D → D → (R → Prop) → Prop) : DS := fun D E s => ∃ x, s[i]? = some (.d x) ∧ da s (fun r s1 => s1[i]? = some (.d x) ∧ ∃ y, vw s1 r = some y ∧ rd x y (fun ro => ∃ z, ro = .d z ∧ D.nx (s1.set i (.d z)))) E
theorem lift_aug {i : Nat} {te : TE} {ti : TIp} {de : DE} {rd : D → D → (R → Prop) → Prop} (he : LiftE T K E te de) (hr : LIp K ti rd) : LiftS T K E (tAug i te ti) (dAug i de rd) := fun A P Z σ s H Dd Ed D S h k x => by
  obtain ⟨y, e, h⟩ := h
  obtain ⟨ov, e1, u, rfl, q⟩ := S.sl i _ e
  refine ⟨u, e1, he A P Z σ s H _ Ed _ S h (fun v H1 r ts s1 p ⟨e2, z, e3, h2⟩ => ?_) x.x⟩
  obtain ⟨ov, e1', u', rfl, q'⟩ := p.st.sl i _ e2
  rw [e1] at e1'
  cases e1'
  refine hr _ _ _ _ _ _ _ _ p.st.rok (.inl q') (p.tr.rb p.st e3) h2 fun w H3 ro n q3 => ?_
  obtain ⟨z', rfl, q3⟩ := q3
  obtain ⟨es, nr⟩ := n
  have S3 : StR T K (Pls A ts) P Z σ s1 H3 := p.st.grow (Kp.of es) (Same.tabs p.st.tb es) (fun a h => .inl h) fun a h => h
  have ok : okSet s1 i := by
    unfold okSet
    rw [e2]
    trivial
  exact k.nx _ _ _ (S3.setd ok (pls_less ts) S.pa nr) q3
end
end DL
set_option Elab.async false
set_option linter.all false
set_option maxRecDepth 100000
set_option maxHeartbeats 1000000
namespace Mv
open PySem
/-! ### sorted lists -/
def sortI (xs : List Int) : List Int := xs.mergeSort fun a b => decide (a ≤ b)
theorem sort_perm (xs : List Int) : (sortI xs).Perm xs := List.mergeSort_perm xs _
theorem sort_le (xs : List Int) : (sortI xs).Pairwise (· ≤ ·) := by
  have h := List.pairwise_mergeSort (le := fun a b : Int => decide (a ≤ b)) (fun a b c h1 h2 => by
    have h1 := of_decide_eq_true h1
    have h2 := of_decide_eq_true h2
    exact decide_eq_true (Int.le_trans h1 h2)) (fun a b => by
    by_cases h : a ≤ b
    · simp [h]
    · have : b ≤ a := by omega
      simp [this]) xs
  exact h.imp fun h => of_decide_eq_true h
theorem sorted_one : ∀ {xs ys : List Int}, xs.Perm ys → xs.Pairwise (· ≤ ·) → ys.Pairwise (· ≤ ·) → xs = ys
  | [], ys, h, _, _ => (List.Perm.nil_eq h)
  | x :: xs, [], h, _, _ => absurd h.length_eq (by simp)
  | x :: xs, y :: ys, h, h1, h2 => by
    have a := List.pairwise_cons.mp h1
    have b := List.pairwise_cons.mp h2
    have e : x = y := by
      have m1 : x ∈ y :: ys := h.mem_iff.mp List.mem_cons_self
      have m2 : y ∈ x :: xs := h.mem_iff.mpr List.mem_cons_self
      rcases List.mem_cons.mp m1 with e | m1
      · exact e
      · rcases List.mem_cons.mp m2 with e | m2
        · exact e.symm
        · exact Int.le_antisymm (a.1 _ m2) (b.1 _ m1)
    subst e
    rw [sorted_one (List.Perm.cons_inv h) a.2 b.2]
theorem sort_is {xs ys : List Int} (h : xs.Perm ys) (s : xs.Pairwise (· ≤ ·)) : xs = sortI ys := sorted_one (h.trans (sort_perm ys).symm) s (sort_le ys)
theorem sort_congr {xs ys : List Int} (h : xs.Perm ys) : sortI xs = sortI ys := sort_is ((sort_perm xs).trans h) (sort_le xs)
theorem sort_nodup {xs : List Int} (h : xs.Nodup) : (sortI xs).Nodup := (sort_perm xs).nodup_iff.mpr h
theorem mem_sort {x : Int} {xs : List Int} : x ∈ sortI xs ↔ x ∈ xs := (sort_perm xs).mem_iff
theorem perm_of_mem {xs ys : List Int} (h1 : xs.Nodup) (h2 : ys.Nodup) (h : ∀ x, x ∈ xs ↔ x ∈ ys) : xs.Perm ys := (List.perm_ext_iff_of_nodup h1 h2).mpr h
theorem sort_mem {xs ys : List Int} (h1 : xs.Nodup) (h2 : ys.Nodup) (h : ∀ x, x ∈ xs ↔ x ∈ ys) : sortI xs = sortI ys := sort_congr (perm_of_mem h1 h2 h)
/-! ### each value once, where it comes first -/
def addI (acc : List Int) (x : Int) : List Int := if x ∈ acc then acc else acc ++ [x]
def headsA (acc xs : List Int) : List Int := xs.foldl addI acc
def headsI (xs : List Int) : List Int := headsA [] xs
def tailsI (xs : List Int) : List Int := (headsI xs.reverse).reverse
theorem headsA_snoc (acc xs : List Int) (x : Int) : headsA acc (xs ++ [x]) = addI (headsA acc xs) x := by
  unfold headsA
  rw [List.foldl_append]
  rfl
theorem headsA_app (acc xs ys : List Int) : headsA acc (xs ++ ys) = headsA (headsA acc xs) ys := by
  unfold headsA
  rw [List.foldl_append]
theorem headsI_snoc (xs : List Int) (x : Int) : headsI (xs ++ [x]) = addI (headsI xs) x := headsA_snoc [] xs x
theorem mem_addI {acc : List Int} {x y : Int} : y ∈ addI acc x ↔ y ∈ acc ∨ y = x := by
  unfold addI
  split
  · rename_i h
    exact ⟨.inl, fun z => z.elim id fun e => e ▸ h⟩
  · simp
theorem snoc_ind {P : List Int → Prop} (h0 : P []) (hs : ∀ xs x, P xs → P (xs ++ [x])) (xs : List Int) : P xs := by
  have h : ∀ ys : List Int, P ys.reverse := fun ys => by
    induction ys with
    | nil => exact h0
    | cons y ys ih =>
      rw [List.reverse_cons]
      exact hs _ _ ih
  have e := h xs.reverse
  rw [List.reverse_reverse] at e
  exact e
theorem mem_headsI {y : Int} (xs : List Int) : y ∈ headsI xs ↔ y ∈ xs := by
  induction xs using snoc_ind with
  | h0 => exact Iff.rfl
  | hs xs x ih =>
    rw [headsI_snoc, mem_addI, ih]
    simp
theorem nodup_addI {acc : List Int} {x : Int} (h : acc.Nodup) : (addI acc x).Nodup := by
  unfold addI
  split
  · exact h
  · rename_i hx
    refine List.nodup_append.mpr ⟨h, by simp, fun a ha b hb => ?_⟩
    rw [List.mem_singleton] at hb
    rw [hb]
    exact fun e => hx (e ▸ ha)
theorem nodup_headsI (xs : List Int) : (headsI xs).Nodup := by
  induction xs using snoc_ind with
  | h0 => exact List.nodup_nil
  | hs xs x ih =>
    rw [headsI_snoc]
    exact nodup_addI ih
theorem headsI_nodup (xs : List Int) : xs.Nodup → headsI xs = xs := by
  induction xs using snoc_ind with
  | h0 => exact fun _ => rfl
  | hs xs x ih =>
    intro h
    obtain ⟨h1, _, h3⟩ := List.nodup_append.mp h
    rw [headsI_snoc, ih h1]
    unfold addI
    rw [if_neg fun hx => h3 x hx x (by simp) rfl]
theorem headsA_eq (acc xs : List Int) : headsA acc xs = acc ++ (headsI xs).filter fun x => decide (x ∉ acc) := by
  induction xs using snoc_ind with
  | h0 => simp [headsA, headsI]
  | hs xs x ih =>
    rw [headsA_snoc, headsI_snoc, ih]
    have hm := mem_headsI (y := x) xs
    unfold addI
    by_cases ha : x ∈ acc
    · rw [if_pos (List.mem_append_left _ ha)]
      split
      · rfl
      · rw [List.filter_append]
        simp [ha]
    · by_cases hx : x ∈ headsI xs
      · rw [if_pos hx, if_pos (List.mem_append_right _ (List.mem_filter.mpr ⟨hx, by simp [ha]⟩))]
      · rw [if_neg hx, if_neg, List.filter_append]
        · simp [ha]
        · intro z
          rcases List.mem_append.mp z with z | z
          · exact ha z
          · exact hx (List.mem_filter.mp z).1
theorem headsI_idem (xs : List Int) : headsI (headsI xs) = headsI xs := headsI_nodup _ (nodup_headsI xs)
theorem headsI_join (u v : List Int) : headsI (headsI u ++ headsI v) = headsI (u ++ v) := by
  show headsA [] _ = headsA [] _
  rw [headsA_app, headsA_app]
  show headsA (headsI (headsI u)) (headsI v) = headsA (headsI u) v
  rw [headsI_idem, headsA_eq, headsI_idem, ← headsA_eq]
theorem tailsI_idem (xs : List Int) : tailsI (tailsI xs) = tailsI xs := by
  unfold tailsI
  rw [List.reverse_reverse, headsI_idem]
theorem tailsI_join (u v : List Int) : tailsI (tailsI u ++ tailsI v) = tailsI (u ++ v) := by
  unfold tailsI
  rw [List.reverse_append, List.reverse_reverse, List.reverse_reverse, headsI_join, List.reverse_append]
/-! ### plain values -/
def firstI (xs : List Int) : List Int := xs.take 1
def lastI (xs : List Int) : List Int := xs.drop (xs.length - 1)
def endsI (xs : List Int) : List Int := xs.take 1 ++ xs.drop (xs.length - 1)
/-- the eight kinds -/
inductive Kd where
  | list | bag | set | first | last | ends | heads | tails
  deriving DecidableEq
def Kd.nm : Kd → Str
  | .list => "list" | .bag => "bag" | .set => "set" | .first => "first" | .last => "last" | .ends => "ends" | .heads => "heads" | .tails => "tails"
def kds : List Kd := [.list, .bag, .set, .first, .last, .ends, .heads, .tails]
def plainI (k : Kd) (xs : List Int) : List Int :=
  match k with
  | .list => xs
  | .bag => sortI xs
  | .set => sortI (headsI xs)
  | .first => firstI xs
  | .last => lastI xs
  | .ends => endsI xs
  | .heads => headsI xs
  | .tails => tailsI xs
theorem lastI_snoc (xs : List Int) (x : Int) : lastI (xs ++ [x]) = [x] := by
  unfold lastI
  rw [List.length_append]
  simp
theorem first_join (u v : List Int) : firstI (firstI u ++ firstI v) = firstI (u ++ v) := by
  cases u with
  | nil => cases v <;> rfl
  | cons x u => rfl
theorem last_join (u v : List Int) : lastI (lastI u ++ lastI v) = lastI (u ++ v) := by
  induction v using snoc_ind with
  | h0 =>
    induction u using snoc_ind with
    | h0 => rfl
    | hs u x _ => simp [lastI_snoc, lastI]
  | hs v y _ => rw [lastI_snoc, lastI_snoc, ← List.append_assoc, lastI_snoc]
theorem endsI_eq (xs : List Int) : endsI xs = firstI xs ++ lastI xs := rfl
theorem last_ends (xs : List Int) : lastI (endsI xs) = lastI xs := by
  induction xs using snoc_ind with
  | h0 => rfl
  | hs xs x _ => rw [endsI_eq, lastI_snoc, lastI_snoc]
theorem first_ends (xs : List Int) : firstI (endsI xs) = firstI xs := by
  cases xs with
  | nil => rfl
  | cons x xs => rfl
theorem first_app (u v : List Int) : firstI (u ++ v) = firstI (firstI u ++ firstI v) := (first_join u v).symm
theorem last_app (u v : List Int) : lastI (u ++ v) = lastI (lastI u ++ lastI v) := (last_join u v).symm
theorem ends_join (u v : List Int) : endsI (endsI u ++ endsI v) = endsI (u ++ v) := by
  rw [endsI_eq (_ ++ _), endsI_eq (u ++ v), first_app (endsI u), last_app (endsI u), first_ends, first_ends, last_ends, last_ends, first_join, last_join]
theorem plain_join (k : Kd) (u v : List Int) : plainI k (plainI k u ++ plainI k v) = plainI k (u ++ v) := by
  cases k with
  | list => rfl
  | bag => exact sort_congr ((sort_perm u).append (sort_perm v))
  | set =>
    refine sort_mem (nodup_headsI _) (nodup_headsI _) fun x => ?_
    show x ∈ headsI (sortI (headsI u) ++ sortI (headsI v)) ↔ _
    rw [mem_headsI, mem_headsI, List.mem_append, List.mem_append, mem_sort, mem_sort, mem_headsI, mem_headsI]
  | first => exact first_join u v
  | last => exact last_join u v
  | ends => exact ends_join u v
  | heads => exact headsI_join u v
  | tails => exact tailsI_join u v
theorem sort_nil : sortI [] = [] := List.Perm.eq_nil (sort_perm [])
theorem plain_nil (k : Kd) : plainI k [] = [] := by
  cases k with
  | bag => exact sort_nil
  | set => exact sort_nil
  | _ => rfl
theorem plain_idem (k : Kd) (u : List Int) : plainI k (plainI k u) = plainI k u := by
  have h := plain_join k u []
  rw [plain_nil, List.append_nil, List.append_nil] at h
  exact h
theorem headsI_len (xs : List Int) : (headsI xs).length ≤ xs.length := by
  induction xs using snoc_ind with
  | h0 => exact Nat.le_refl _
  | hs xs x ih =>
    rw [headsI_snoc, List.length_append]
    unfold addI
    split
    · omega
    · rw [List.length_append]
      simp only [List.length_singleton]
      omega
theorem plain_len (k : Kd) (xs : List Int) : (plainI k xs).length ≤ 2 * xs.length := by
  have h := headsI_len xs
  have h2 := headsI_len xs.reverse
  rw [List.length_reverse] at h2
  cases k with
  | list => show xs.length ≤ _; omega
  | bag => show (sortI xs).length ≤ _; rw [(sort_perm xs).length_eq]; omega
  | set => show (sortI (headsI xs)).length ≤ _; rw [(sort_perm (headsI xs)).length_eq]; omega
  | first => show (xs.take 1).length ≤ _; rw [List.length_take]; omega
  | last => show (xs.drop (xs.length - 1)).length ≤ _; rw [List.length_drop]; omega
  | ends => show (xs.take 1 ++ xs.drop (xs.length - 1)).length ≤ _; rw [List.length_append, List.length_take, List.length_drop]; omega
  | heads => show (headsI xs).length ≤ _; omega
  | tails => show ((headsI xs.reverse).reverse).length ≤ _; rw [List.length_reverse]; omega
end Mv
set_option Elab.async false
set_option linter.all false
set_option maxRecDepth 100000
set_option maxHeartbeats 4000000
namespace Mv
open PySem PySem.Spec PyProof.Rows L2
/-! ### C() where no class on the way has an __init__ -/
structure Mk0 (K : PySem.W.Frag) (C : Addr) : Prop where
  makes : PySem.W.makesIn K C = true
  init : PySem.W.findIn K (.ref C) "__init__" = some (some (.builtin "object.__init__"))
  top : PySem.W.mroIn K C (.type "object") = some true
  kp : PySem.W.keepIn K (.ref C) = true
def tMake0 (C : Addr) : TE := fun _ H Q => ∀ x dx, H x = none → H dx = none → dx ≠ x → Q (.ref x) (upd (upd H dx (.own x)) x (.ins C dx []))
section
variable {X : Cx} {pins : List (Addr × Obj)} {σ : L2.St} {H : Hp} {s : Shared} {Q : VK} {C : Addr}
theorem run_makeB (M : Mk0 X.K C) (I : Inv X pins σ H s) (h : ∀ x dx, H x = none → H dx = none → dx ≠ x → Q (.ref x) (upd (upd H dx (.own x)) x (.ins C dx []))) :
    wpAny (model X.prog X.w) X.A (call (.ref C) []) (EP X pins σ Q) X.xe s := by
  have hq := h (s.heap.objs.size + 1) s.heap.objs.size (I.hok.fresh (Nat.le_succ _)) (I.hok.fresh (Nat.le_refl _)) (Nat.ne_of_lt (Nat.lt_succ_self _))
  have J := Inv.made (C := C) I
  refine wpAny_call (make_map0 I.kIn M.makes M.init (fun self => PySem.W.Looks.of_pure (PySem.W.oi_bind _)) ?_)
  obtain ⟨o, ho, hc⟩ : ∃ o : Obj, ((s.heap.push PySem.W.emptyDict).push (PySem.W.instObj C s.heap.objs.size)).get? (s.heap.objs.size + 1) = some o ∧ o.cls = .ref C := by
    obtain ⟨_, _, _, e, _⟩ := J.hok _ _ upd_same
    exact ⟨_, e, rfl⟩
  have ty : PySem.W.Looks (model X.prog X.w) ((s.heap.push PySem.W.emptyDict).push (PySem.W.instObj C s.heap.objs.size)) (typeOf (.ref (s.heap.objs.size + 1))) (.ref C) := (PySem.W.Looks.ld ho).andThen (by rw [hc]; exact .now)
  have top : PySem.W.Looks (model X.prog X.w) ((s.heap.push PySem.W.emptyDict).push (PySem.W.instObj C s.heap.objs.size)) (isInstance (.ref (s.heap.objs.size + 1)) (.type "object")) true := ty.andThen (PySem.W.looks_mroIn J.kIn M.top)
  refine codeAny_call_builtin PySem.W.oi_plain PySem.W.entry_oi (@PySem.W.check_slot (model X.prog X.w) _ _ _ "object.__init__" "object" "__init__" (.ref (s.heap.objs.size + 1)) [] [] _ PySem.W.oi_kind PySem.W.oi_split top (PySem.W.oi_args _) ?_)
  rw [PySem.W.oi_run]
  exact wpAny_pure ⟨rfl, .ref (s.heap.objs.size + 1), _, J, rfl, hq⟩
theorem pe_makeB {x : Str} {p pos : Pos} (M : Mk0 X.K C) (hg : Gl X x) (hm : X.mg x = some (.ref C)) (hdb : (x == ("__debug__" : Str)) = false := by decide) : PE X (.Call (.Name x p) [] [] pos) (tMake0 C) := by
  refine ⟨fun pins s σ H Q I h => ?_⟩
  refine wpAny_Call_Name_kw (ld_glob I hg hm ?_ hdb)
  exact PySem.W.callWith_K0 I.kIn M.kp (run_makeB M I h)
end
theorem paired_at {α β : Type} {F : α → β → Prop} : ∀ {xs : List α} {ys : List β} {i : Nat} {y : β}, Paired F xs ys → ys[i]? = some y → ∃ x, xs[i]? = some x ∧ F x y
  | _, _, i, y, .nil, h => by cases h
  | _, _, 0, y, .cons r t, h => ⟨_, rfl, by cases h; exact r⟩
  | _, _, i + 1, y, .cons r t, h => paired_at (i := i) t h
/-! ### sorted of ints, whatever they are collected from -/
section
variable {X : Cx} {pins : List (Addr × Obj)} {σ : L2.St} {H : Hp} {s : Shared} {Q : VK}
theorem sorted_from (I : Inv X pins σ H s) {v : Value} {ns : List Int} (hz : ns.length ≤ sizeLine)
    (hc : ∀ R : List Value → Shared → Prop, (∀ (h' : Heap) (tk : Nat) (acc : List Value), (∀ b o, s.heap.get? b = some o → h'.get? b = some o) → IntsAre acc ns → R acc { s with heap := h', toks := tk }) → wpAny (model X.prog X.w) X.A.in1 (collect v) R X.xe s)
    (q : ∀ p : Addr, H p = none → Q (.ref p) (upd H p (.lst ((sortI ns).map V.int)))) :
    wpAny (model X.prog X.w) X.A (call (.builtin "sorted") [v]) (EP X pins σ Q) X.xe s := by
  refine Calls.call_function_entry PyProof.Rows.kind_sorted PyProof.Rows.plain_sorted PyProof.Rows.entry_sorted (PyProof.Rows.args_sorted1 _) ?_
  unfold Builtin.«sorted»
  refine wpAny_bind (m := checkCount "sorted" 1 1 _) (wpAny_pure (wpAny_bind (hc _ fun h' tk acc hk hi => ?_)))
  have I1 : Inv X pins σ H { s with heap := h', toks := tk } := I.kept hk
  have hl : acc.length = ns.length := hi.length
  refine wpAny_bind (wpAny_newList ?_ (by rw [hl]; exact hz))
  have ho : (h'.push (seqObj "list" acc.toArray 0)).get? h'.objs.size = some (seqObj "list" acc.toArray 0) := Heap.get?_push_size _ rfl
  show wpAny _ _ _ _ _ { s with heap := h'.push (seqObj "list" acc.toArray 0), toks := tk }
  refine wpAny_bind (wpAny_holding (wpAny_call_entry PyProof.Rows.slot_list_sort ⟨_, ho, rfl⟩ PyProof.Rows.entry_list_sort
    (SrtO.list_sort_ord (s := { s with heap := h'.push (seqObj "list" acc.toArray 0), toks := tk }) SrtO.swo_int ho (by rw [hl]; exact hz) (fun h2 => SrtO.ints_sortable hi h2) fun out k1 k2 => ⟨_, rfl, ?_⟩) (PyProof.Rows.args_list_sort _)))
  obtain ⟨g1, g2, g3⟩ := SrtO.ints_out hi k1 k2
  rw [sort_is g2 g3] at g1
  obtain ⟨e', he'⟩ := PyProof.Rows.sortedHeap_at (vs := acc) (out := out.toArray) ho
  refine wpAny_pure ⟨_, rfl, .ref h'.objs.size, upd H h'.objs.size (.lst ((sortI ns).map V.int)), I1.laid (t' := tk) (fun b u e => ?_) (Nat.le_refl _)
    (show ObjOk X.prog X.w _ _ _ (.lst ((sortI ns).map V.int)) from ⟨by rw [List.length_map, (sort_perm ns).length_eq]; exact hz, out, e', vals_of_ints g1, he'⟩), rfl, q _ (I1.hok.fresh (Nat.le_refl _))⟩
  have hb : b < h'.objs.size := Heap.lt_size e
  rw [PyProof.Rows.sortedHeap_old (Nat.ne_of_lt hb) (by rw [size_push']; exact Nat.lt_succ_of_lt hb)]
  exact Heap.get?_push_of_some _ e
/-- sorted(t), t a tuple of ints -/
def rSortT (K : PySem.W.Frag) : List V → Hp → VK → Prop := fun vs H Q => ∃ (a : Addr) (ns : List Int), vs = [V.ref a] ∧ SqT K H a (ns.map V.int) ∧ ∀ p : Addr, H p = none → Q (.ref p) (upd H p (.lst ((sortI ns).map V.int)))
theorem cr_sortT' : CallR X (.builtin "sorted") (rSortT X.K) := by
  intro pins s σ H vs us Q I r h
  obtain ⟨a, ns, rfl, hs, q⟩ := h
  rw [Vals.ref1 r]
  obtain ⟨its, rv, ⟨o, h1, h2, n, h3⟩, hz⟩ := I.tuple hs
  have hi := rv.ints
  have hl := hi.length
  rw [List.length_map] at hz
  refine sorted_from I hz (fun R k => wpAny_collect_seq a (.inr rfl) h1 h2 h3 (fun h' hk => ?_) (by rw [List.size_toArray, hl]; exact hz)) q
  have := k h' s.toks its hk hi
  simpa using this
/-- sorted(l), l a list of ints -/
def rSortL (K : PySem.W.Frag) : List V → Hp → VK → Prop := fun vs H Q => ∃ (a : Addr) (ns : List Int), vs = [V.ref a] ∧ SqL K H a (ns.map V.int) ∧ ∀ p : Addr, H p = none → Q (.ref p) (upd H p (.lst ((sortI ns).map V.int)))
theorem cr_sortL : CallR X (.builtin "sorted") (rSortL X.K) := by
  intro pins s σ H vs us Q I r h
  obtain ⟨a, ns, rfl, hs, q⟩ := h
  refine cr_sortedI pins s σ H _ us Q I r ⟨a, ns, rfl, hs, fun ns' p k1 k2 hp => ?_⟩
  rw [sort_is k1 k2]
  exact q p hp
/-! ### d.values() as a thing of its own -/
def valuesO (p d : Addr) : HO := .ext fun h => h.IsValuesView p d
def tVals (td : TE) : TE := fun σ H Q => td σ H fun x H1 => ∃ d kvs, x = .ref d ∧ H1 d = some (.dK kvs) ∧ ∀ p, H1 p = none → Q (.ref p) (upd H1 p (valuesO p d))
theorem pe_vals {e : Expr} {td : TE} {apos cpos : Pos} (he : PE X e td) (hbase : attributeBase e "values" X.env (eval e X.env) = eval e X.env := by rfl) (hline : (apos.endLine == cpos.line) = true := by rfl) : PE X (.Call (.Attribute e "values" apos) [] [] cpos) (tVals td) := by
  refine ⟨fun pins s σ H Q I h => ?_⟩
  refine wpAny_Call_method (T := "dict") (id := "dict.values") hbase rfl hline F.plainAttrs_dict F.slot_dict_values F.type_dict_values (thn (he.run pins s σ H _ I h) fun u s1 ⟨x, H1, I1, rx, d, kvs, ex, hd, q⟩ => ?_)
  subst ex
  obtain rfl : u = Value.ref d := rx
  obtain ⟨z, hgd, vs, kv, dd⟩ := dk_of I1.hok hd
  refine ⟨dd.typeIs, dd.mapOf.noDict, ?_⟩
  have hf : H1 s1.heap.objs.size = none := I1.hok.fresh (Nat.le_refl _)
  have e0 : (s1.heap.push { cls := .type "dict_values", data := .fields #[.ref d] }).get? s1.heap.objs.size = some { cls := .type "dict_values", data := .fields #[.ref d] } := Heap.get?_push_size _ rfl
  have J := I1.laid (a := s1.heap.objs.size) (o := valuesO s1.heap.objs.size d) (h' := s1.heap.push { cls := .type "dict_values", data := .fields #[.ref d] }) (t' := s1.toks) (fun b u e => Heap.get?_push_of_some _ e) (Nat.le_refl _) ⟨⟨_, e0, rfl, rfl⟩, ⟨_, e0⟩, fun h1 h2 ⟨o, ho, r⟩ k => ⟨o, k o ho, r⟩⟩
  show wpAny _ _ (callWith cpos (.builtin "dict.values") [.ref d] [] []) _ X.xe s1
  exact method_meetsIn F.slot_dict_values F.entry_dict_values rfl (PySem.evalArgs_none ⟨rfl, dd.typeIs, F.args_dict_values_1 _, _, meets_dict_values (mixKind X.prog X.w) d hgd, ⟨vs, dd⟩, ⟨.ref s1.heap.objs.size, _, J, rfl, q _ hf⟩⟩)
/-- sorted(v), v the values of a dict, all ints -/
def rSortV : List V → Hp → VK → Prop := fun vs H Q => ∃ (p d : Addr) (kvs : List (Key × V)) (ns : List Int), vs = [V.ref p] ∧ H p = some (valuesO p d) ∧ H d = some (.dK kvs) ∧ kvs.map (·.2) = ns.map V.int ∧ ∀ l : Addr, H l = none → Q (.ref l) (upd H l (.lst ((sortI ns).map V.int)))
theorem cr_sortV (hcalm : X.calm = true) : CallR X (.builtin "sorted") rSortV := by
  intro pins s σ H vs us Q I r h
  obtain ⟨p, d, kvs, ns, rfl, hp, hd, hv, q⟩ := h
  rw [Vals.ref1 r]
  have view : s.heap.IsValuesView p d := (show ObjOk X.prog X.w H s.heap p (valuesO p d) from I.hok p _ hp).1
  obtain ⟨z, lo, ws, rel, dd⟩ := dk_of I.hok hd
  obtain ⟨ep, hat⟩ := dd.dictAt
  have hlv : kvs.length = ws.length := rel.length
  have hln : kvs.length = ns.length := by
    have e := congrArg List.length hv
    rw [List.length_map, List.length_map] at e
    exact e
  refine sorted_from I (by rw [← hln]; exact z) (fun R k => PySem.W.kdu_collect (A := X.A.in1) (PySem.W.kdl_values (knd := mixKind X.prog X.w) (kvs := ws) (ep := ep)) (I.ok.hd hcalm) ⟨view, hat⟩ (by rw [← hlv]; exact z) fun h' tk acc hk hacc => k h' tk acc.toList hk ?_) q
  refine ints_each (by rw [Array.length_toList, hacc.1, ← hlv, hln]) fun j v e => ?_
  rw [Array.getElem?_toList] at e
  obtain ⟨key, e1⟩ := hacc.2 j v e
  obtain ⟨kv, e2, e3, e4⟩ := paired_at rel e1
  have e5 : (kvs.map (·.2))[j]? = some kv.2 := by rw [List.getElem?_map, e2]; rfl
  rw [hv] at e5
  obtain ⟨u, eu, e6⟩ := int_at e5
  rw [eu] at e4
  obtain ⟨t, e4⟩ := e4
  exact ⟨u, t, e6, e4⟩
end
end Mv
set_option Elab.async false
set_option linter.all false
set_option maxRecDepth 100000
set_option maxHeartbeats 4000000
namespace Mv
open PySem PySem.Spec PyProof.Rows L2
/-! ### enumerate(t), t a tuple -/
set_option maxHeartbeats 8000000 in
theorem enum_new1 {v : Value} {o : Obj} {Hh : Heap → Prop} (B : Begins v o Hh) :
    Meets (Builtin.«enumerate.__new__» ⟨[.type "enumerate", v], []⟩) (fun _ R s => Hh s.heap ∧
      R (.ok (.ret (.ref (s.heap.push o).objs.size))) { s with heap := (s.heap.push o).push { cls := .type "enumerate", data := .fields #[.none, .bool false, .ref s.heap.objs.size, rawInt 0, .none, .none] } }) :=
  .of_wp fun prog w A R s h => by
    obtain ⟨hp, g, d, tk, os⟩ := s
    obtain ⟨h1, h⟩ := h
    have hsub := sub_enumerate
    have q1 : ∀ {A' : Around} {E : Value → Shared → Prop} {Q : Value → Shared → Prop}, Q (.ref hp.objs.size) ⟨hp.push o, g, d, tk, os⟩ → wpAny (model prog w) A' (pyIter v) Q E ⟨hp, g, d, tk, os⟩ :=
      fun q => B.iter prog w _ _ ⟨hp, g, d, tk, os⟩ _ h1 q
    wp_walk using q1
    refine wpAny_stack_any fun st => wpAny_pure ?_
    split
    · rename_i c _ _ _ _ _
      cases (c == Value.type "enumerate") <;> (wp_walk using q1) <;> exact ⟨_, rfl, h⟩
    · wp_walk using q1
      exact ⟨_, rfl, h⟩
theorem enum_one {prog : Program} {w : World} {A : Around} {E : Value → Shared → Prop} {s : Shared} {v : Value} {o : Obj} {Hh : Heap → Prop} {Q : Value → Shared → Prop} (B : Begins v o Hh) (h1 : Hh s.heap)
    (h : ∀ h', IsEnum h' (s.heap.objs.size + 1) s.heap.objs.size 0 .none → h'.get? s.heap.objs.size = some o → h'.objs.size = s.heap.objs.size + 2 →
      (∀ b o, s.heap.get? b = some o → h'.get? b = some o) → Q (.ref (s.heap.objs.size + 1)) { s with heap := h' }) :
    wpAny (model prog w) A (call (.type "enumerate") [v]) Q E s := by
  refine callType_new F.called_enumerate (by decide) (F.typeCall_enumerate_1 _) (F.newCall_enumerate_1 _) (fun obj => F.args_object_init_2 obj _) F.entry_enumerate_new (enum_new1 B) ⟨h1, ?_⟩
  have hz : (s.heap.push o).objs.size = s.heap.objs.size + 1 := Heap.size_push ..
  show _ ∧ _
  rw [hz]
  have he := Heap.get?_push_size (s.heap.push o) (o := { cls := .type "enumerate", data := .fields #[.none, .bool false, .ref s.heap.objs.size, rawInt 0, .none, .none] }) rfl
  rw [hz] at he
  exact ⟨⟨_, he, rfl⟩, h _ he (Heap.get?_push_of_some _ (Heap.get?_push_size _ B.free)) (by rw [Heap.size_push, hz]) fun b u x => Heap.get?_push_of_some _ (Heap.get?_push_of_some _ x)⟩
/-- the tuple at a, each item in a new pair -/
def IteT (K : PySem.W.Frag) (a : Addr) : It where
  go := fun i H => ∃ (xs : List V) (x : V), SqT K H a xs ∧ xs[i]? = some x
  yld := fun i H v H' => ∃ T x, v = .ref T ∧ H T = none ∧ H' = upd H T (.tup [.int (i : Nat), x]) ∧ ∀ xs, SqT K H a xs → xs[i]? = some x
  stop := fun i H => ∃ xs : List V, SqT K H a xs ∧ xs.length = i
theorem turn_enumT {P : Program} {w : World} {K : PySem.W.Frag} {elts : List Expr} {kk : Nat} {tpos : Pos} {a e it : Addr} (hae : a ≠ e) (hai : a ≠ it) :
    Turn P w K (.Tuple elts kk tpos) (IteT K a) [e, it] e (fun i h => (∃ old, IsEnum h e it ((i : Nat) : Int) old) ∧ h.IsTupleIter it a i ∧ e ≠ it) where
  mem := List.mem_cons_self ..
  obj := fun i h st b hb => by
    obtain ⟨⟨old, he⟩, ⟨o, ho, hc, hd⟩, _⟩ := st
    rcases List.mem_cons.mp hb with z | z
    · rw [z]
      exact ⟨_, he, fun v q => nomatch q⟩
    · rw [List.mem_singleton.mp z]
      exact ⟨o, ho, fun v q => by rw [hd] at q; cases q⟩
  keep := fun i h h' st k => by
    obtain ⟨⟨old, he⟩, ⟨o, ho, hc, hd⟩, hne⟩ := st
    exact ⟨⟨old, k e (by simp) _ he⟩, ⟨o, k it (by simp) o ho, hc, hd⟩, hne⟩
  item := by
    intro X hP hw hK hc i pins s σ H E I hf st hg
    subst hP hw hK
    obtain ⟨⟨old, he⟩, hit, hne⟩ := st
    obtain ⟨xs, x, hq, hx⟩ := hg
    obtain ⟨its, rv, ⟨o, h1, h2, n, h3⟩, hz⟩ := I.tuple hq
    have p : s.heap.IsTuple a its.toArray := ⟨o, h1, h2, n, h3⟩
    obtain ⟨u, hu, ru⟩ := rv.get hx
    have hi : i < its.toArray.size := by
      rw [List.size_toArray]
      exact (List.getElem?_eq_some_iff.mp hu).1
    have hel : e < s.heap.objs.size := Heap.lt_size he
    have hil : it < s.heap.objs.size := by
      obtain ⟨_, q, _⟩ := hit
      exact Heap.lt_size q
    refine wpAny_pyNext_enum_itemD (Draws.tuple (by exact I.ok.hd hc) it a hai its.toArray) he ⟨hit, p⟩ hi hne (by simp [hne, Ne.symm hae]) fun x' h' tk px ho hs' hT hsz hk => ?_
    obtain rfl : u = x' := by
      rw [List.getElem?_toArray, hu] at px
      exact Option.some.inj px
    refine ⟨_, rfl, wpAny_letOwnedTupleGo_enum (s := { s with heap := h', toks := tk + 1 }) ho fun h'' he' sb => ?_⟩
    have hT2 : h''.get? s.heap.objs.size = some { cls := .type "tuple", data := .seq #[.int i tk, u] } := (sb.2 _ (Nat.ne_of_gt hel)).trans hT
    have new : ObjOk X.prog X.w (upd H s.heap.objs.size (.tup [.int (i : Nat), x])) h'' s.heap.objs.size (.tup [.int (i : Nat), x]) :=
      ⟨by show 2 ≤ sizeLine; decide, [.int i tk, u], .cons ⟨_, rfl⟩ (.cons ru .nil), ⟨_, hT2, rfl, _, rfl⟩⟩
    have I1 : Inv X pins σ (upd H s.heap.objs.size (.tup [.int (i : Nat), x])) { s with heap := h'', toks := tk + 1 } :=
      I.turnedNew (ch := [e, it]) (fun b ob hb q => (sb.2 b (fun z => hb (by simp [z]))).trans (hk b ob (fun z => hb (by simp [z])) (fun z => hb (by simp [z])) q)) hf (Nat.le_refl _) new
    refine ⟨.ref s.heap.objs.size, _, I1, rfl, ⟨_, x, rfl, I.hok.fresh (Nat.le_refl _), rfl, fun ys hy => by rw [I.tuple_inj hy hq]; exact hx⟩, ⟨⟨u, ?_⟩, hs'.1.at fun o q => (sb.2 it (Ne.symm hne)).trans q, hne⟩, fun b hb => ?_⟩
    · rw [show ((i + 1 : Nat) : Int) = (i : Int) + 1 from by omega]
      exact he'
    · have hb' : b < s.heap.objs.size := by
        rcases List.mem_cons.mp hb with z | z
        · rw [z]
          exact hel
        · rw [List.mem_singleton.mp z]
          exact hil
      rw [upd_ne (Nat.ne_of_lt hb')]
      exact (hf b hb).1
  done := by
    intro X hP hw hK hc i pins s σ H E I hf st hg
    subst hP hw hK
    obtain ⟨⟨old, he⟩, hit, hne⟩ := st
    obtain ⟨xs, hq, hx⟩ := hg
    obtain ⟨its, rv, ⟨o, h1, h2, n, h3⟩, hz⟩ := I.tuple hq
    have p : s.heap.IsTuple a its.toArray := ⟨o, h1, h2, n, h3⟩
    obtain ⟨f0, f1, f2, f3, f4, f5⟩ := hf it (by simp)
    have hl := rv.length
    have hz' : its.toArray.size = i := by
      rw [List.size_toArray, ← hl, hx]
    refine wpAny_pyNext_enum_endD (Draws.tuple (by exact I.ok.hd hc) it a hai its.toArray) he ⟨by rw [hz']; exact hit, p⟩ fun h' eb => ⟨rfl, I.turned (t' := s.toks) (fun b o hb q => eb b o hb q) f0 f1 f3 f4 f5⟩
  self := fun A i s Q E st h => let ⟨⟨_, he⟩, _⟩ := st; wpAny_pyIter_enum he h
def iEnumT (K : PySem.W.Frag) (ta : TA) : TI := fun σ H R => ta σ H fun vs H1 => ∃ a xs, vs = [.ref a] ∧ SqT K H1 a xs ∧ R (IteT K a) H1
theorem pi_enumT {X : Cx} {e : Expr} {ta : TA} {p pos tpos : Pos} {elts : List Expr} {kk : Nat} (hg : Gl X "enumerate") (hm : X.mg "enumerate" = none) (ha : PA X [e] ta) (hs : starEach [e] X.env = [(false, eval e X.env)] := by rfl) :
    PI X (.Tuple elts kk tpos) (.Call (.Name "enumerate" p) [e] [] pos) (iEnumT X.K ta) := by
  refine ⟨fun pins s σ H R I h => ?_⟩
  refine Call_ (ld_blt I hg hm boot_enumerate (PyProof.Rows.callWith_type1 (thn (ha.run pos pins s σ H _ I h) fun us s1 ⟨vs, H1, I1, r1, q1⟩ => ?_) hs rfl))
  obtain ⟨a, xs, rfl, hq, q⟩ := q1
  rw [Vals.ref1 r1]
  obtain ⟨its, rv, ⟨o, h1, h2, n, h3⟩, hz⟩ := I1.tuple hq
  have p' : s1.heap.IsTuple a its.toArray := ⟨o, h1, h2, n, h3⟩
  have hal : a < s1.heap.objs.size := Heap.lt_size h1
  refine enum_one (begins_tuple a its.toArray) p' fun h' he hit hsz hk => wpAny_pyIter_enum he ?_
  have I2 : Inv X pins σ H1 { s1 with heap := h' } := I1.kept (t' := s1.toks) hk
  refine ⟨s1.heap.objs.size + 1, [s1.heap.objs.size + 1, s1.heap.objs.size], _, _, H1, rfl, I2, turn_enumT (a := a) (e := s1.heap.objs.size + 1) (it := s1.heap.objs.size) (Nat.ne_of_lt (Nat.lt_succ_of_lt hal)) (Nat.ne_of_lt hal), ⟨⟨.none, he⟩, ⟨_, hit, rfl, rfl⟩, Nat.succ_ne_self _⟩, fun b hb => ?_, q⟩
  have hle : s1.heap.objs.size ≤ b := by
    rcases List.mem_cons.mp hb with z | z
    · rw [z]
      exact Nat.le_add_right _ _
    · rw [List.mem_singleton.mp z]
      exact Nat.le_refl _
  exact I1.fpOk hle (I1.hok.fresh hle)
theorem walk_enumT {K : PySem.W.Frag} {a : Addr} {xs : List V} : Walk (IteT K a) xs.length (fun H => SqT K H a xs) (YPair (fun i => some (.int (i : Nat))) (fun i => xs[i]?)) := by
  refine ⟨fun i _ hi q => ⟨xs, xs[i], q, List.getElem?_eq_getElem hi⟩, fun _ q => ⟨xs, q, rfl⟩, fun i H v H' _ q y => ?_⟩
  obtain ⟨T, x, h1, h2, h3, h4⟩ := y
  exact ⟨T, .int (i : Nat), x, h1, h2, h3, rfl, h4 xs q⟩
/-- a dict comprehension over it -/
theorem dc_it {J : It} {n : Nat} {G : Hp → Prop} {Y : Nat → Hp → V → Hp → Prop} (w : Walk J n G Y) {g : TG} {tt : TT} {tk tv : TE} {vs : List Nat} {σ : L2.St} {H1 : Hp} {D : Addr} {Q : VK} (Pv : Nat → Hp → Prop) (h0 : Pv 0 (upd H1 D (.dK []))) (hG : ∀ i H, i ≤ n → Pv i H → G H)
    (hs : ∀ i x H H', i < n → Pv i H → Y i H x H' → g x (wipe σ vs) H' fun σ2 H2 => wipe σ2 vs = wipe σ vs ∧ tt σ2 H2 fun b H3 =>
      if b = true then tk σ2 H3 fun y H4 => tv σ2 H4 fun z H5 => ∃ kvs k, y = kV k ∧ H5 D = some (.dK kvs) ∧ kvs.length < sizeLine ∧ Pv (i + 1) (upd H5 D (.dK (putK kvs k z))) else Pv (i + 1) H3) (hd : ∀ H, Pv n H → Q (.ref D) H) :
    ∃ W : Nat → Nat → Hp → Prop, (∃ m, W 0 m (upd H1 D (.dK []))) ∧ ∀ i m H, W i m H →
      (J.stop i H ∧ Q (.ref D) H) ∨ (J.go i H ∧ ∃ Nx : Hp → Prop, (∀ H', Nx H' → ∃ m', m' < m ∧ W (i + 1) m' H') ∧ ∀ x H', J.yld i H x H' → g x (wipe σ vs) H' fun σ2 H2 => wipe σ2 vs = wipe σ vs ∧ tt σ2 H2 fun b H3 =>
        if b = true then tk σ2 H3 fun y H4 => tv σ2 H4 fun z H5 => ∃ kvs k, y = kV k ∧ H5 D = some (.dK kvs) ∧ kvs.length < sizeLine ∧ Nx (upd H5 D (.dK (putK kvs k z))) else Nx H3) := by
  refine ⟨fun i m H => m = n - i ∧ i ≤ n ∧ Pv i H, ⟨n, by simp, Nat.zero_le _, h0⟩, ?_⟩
  rintro i m H ⟨rfl, hi, p⟩
  have q := hG i H hi p
  by_cases hlt : i < n
  · exact .inr ⟨w.goes i H hlt q, Pv (i + 1), fun H' p' => ⟨n - (i + 1), by omega, rfl, hlt, p'⟩, fun x H' y => hs i x H H' hlt p (w.yields i H x H' hlt q y)⟩
  · have e : i = n := by omega
    subst e
    exact .inl ⟨w.stops H q, hd H p⟩
end Mv
set_option Elab.async false
set_option linter.all false
set_option maxRecDepth 100000
set_option maxHeartbeats 1000000
/-! walks -/
namespace DL
open PySem PySem.Spec PyProof.Rows L2 Mv
section
variable {T : List (Addr × Str)} {K : PySem.W.Frag} {E : L2.St → XK} {A A' B : Addr → Prop} {P : Par} {Z Z' H H1 H2 H' : Hp} {σ σ' : L2.St} {s s1 s2 s' : SS} {vs us : List V} {rs qs : List R} {ts us' : List Addr} {Ed : EC} {v : V} {r : R}
theorem StR.base (S : StR T K A P Z σ s H) : StR T K A P (res (Own σ s) H) σ s H :=
  ⟨S.len, S.sl, S.inj, S.loc, fun a h o e => absurd h (res_some e).1, S.par, S.pin, S.aol, res_all, S.tb⟩
theorem StR.baseZ (S : StR T K A P Z σ s H) : LamX.ExtN Z (res (Own σ s) H) := fun b o e t => by
  rw [res_eq fun z => (S.zo b z).ne e t rfl]
  exact S.fr b o e t
theorem NwD.back (x : LamX.ExtN Z Z') {a : Addr} (n : NwD Z' a) : NwD Z a := fun o e => by
  refine Classical.byContradiction fun hn => ?_
  have hn' : ∀ ps, o ≠ .tbl ps := fun ps z => hn ⟨ps, z⟩
  exact n.ne (x a o e hn') hn' rfl
theorem StR.unbase (S : StR T K A P Z' σ s H) (x : LamX.ExtN Z Z') : StR T K A P Z σ s H :=
  ⟨S.len, S.sl, S.inj, S.loc, fun a h => NwD.back x (S.zo a h), S.par, S.pin, S.aol, x.trans S.fr, S.tb⟩
theorem RtR.unbase (x : LamX.ExtN Z Z') (h : RtR T K A P Z' v H σ s r) : RtR T K A P Z v H σ s r := by
  cases r with
  | d y => exact ⟨h.1.unbase x, h.2⟩
  | o c => obtain ⟨a, e, n, nA, S, h⟩ := h; exact ⟨a, e, NwD.back x n, nA, S.unbase x, h⟩
  | bw i => exact h
theorem EndsR.base {Dd : DEnds} {D : Ends} (k : EndsR T K A P Z Dd D) (x : LamX.ExtN Z Z') : EndsR T K A P Z' Dd D :=
  ⟨fun _ _ _ S q => k.nx _ _ _ (S.unbase x) q, fun _ _ _ _ _ r q => k.rt _ _ _ _ _ (r.unbase x) q, fun _ _ _ S q => k.bk _ _ _ (S.unbase x) q, fun _ _ _ S q => k.ct _ _ _ (S.unbase x) q⟩
theorem XOkS.base (k : XOkS T K A P Z Ed E) (x : LamX.ExtN Z Z') : XOkS T K A P Z' Ed E := fun _ _ _ _ _ _ S r q => k _ _ _ _ _ _ (S.unbase x) r q
theorem StR.ext0 (S : StR T K B P Z σ s H) : LamX.ExtN (res B Z) (res (Hid B σ s) H) := fun b o h t => by
  obtain ⟨n, e⟩ := res_some h
  have no : ¬ Own σ s b := fun z => (S.zo b z).ne e t rfl
  rw [res_eq fun z => z.elim n no]
  exact S.fr b o e t
/-- more is hidden, but nothing that stood there -/
def Sup (A : Addr → Prop) (Z : Hp) (A' : Addr → Prop) : Prop := ∀ a, A' a → A a ∨ NwD Z a
theorem Sup.refl : Sup A Z A := fun _ h => .inl h
/-- data at the start of a walk is data at each turn -/
theorem ext_base (S : StR T K A P Z σ s H) (u : Sup A (res (Own σ s) H) A') (S' : StR T K A' P (res (Own σ s) H) σ' s' H') : LamX.ExtN (res (Hid A σ s) H) (res (Hid A' σ' s') H') := fun b o h t => by
  obtain ⟨n, e⟩ := res_some h
  have e2 : res (Own σ s) H b = some o := by rw [res_eq fun z => n (.inr z)]; exact e
  refine S'.ext0 b o ?_ t
  rw [res_eq fun z => (u b z).elim (fun z => n (.inl z)) fun z => z.ne e2 t rfl]
  exact e2
/-! ### what is walked -/
structure ItR (T : List (Addr × Str)) (K : PySem.W.Frag) (A : Addr → Prop) (P : Par) (Z : Hp) (J : It) (xs : List D) (keep : SS → Prop) : Prop where
  goes : ∀ A' i σ s H, Sup A Z A' → i < xs.length → StR T K A' P Z σ s H → keep s → J.go i H
  stops : ∀ A' σ s H, Sup A Z A' → StR T K A' P Z σ s H → keep s → J.stop xs.length H
  yields : ∀ A' i σ s H x H', Sup A Z A' → i < xs.length → StR T K A' P Z σ s H → keep s → J.yld i H x H' → Same H H' ∧ ∃ d, xs[i]? = some d ∧ Rp K (res (Hid A' σ s) H') x d
abbrev DI := SS → (List D → (SS → Prop) → SS → Prop) → EC → Prop
def LiftI (T : List (Addr × Str)) (K : PySem.W.Frag) (E : L2.St → XK) (wi : TI) (wd : DI) : Prop :=
  ∀ (A : Addr → Prop) (P : Par) (Z : Hp) (σ : L2.St) (s : SS) (H : Hp) (Rd : List D → (SS → Prop) → SS → Prop) (Ed : EC) (R : It → Hp → Prop), StR T K A P Z σ s H → wd s Rd Ed →
    (∀ J H1 xs keep s1, Post T K A P Z σ s s1 H H1 [] [] [] → ItR T K A P (res (Own σ s1) H1) J xs keep → Rd xs keep s1 → R J H1) → XOk T K A P Z σ Ed (E σ) → wi σ H R
theorem ItR.of {J : It} {xs : List D} {keep : SS → Prop} {G : Hp → Prop} {Y : Nat → Hp → V → Hp → Prop} (w : Walk J xs.length G Y) (hG : ∀ A' σ s H, Sup A Z A' → StR T K A' P Z σ s H → keep s → G H)
    (hY : ∀ A' i σ s H x H', Sup A Z A' → i < xs.length → StR T K A' P Z σ s H → keep s → Y i H x H' → Same H H' ∧ ∃ d, xs[i]? = some d ∧ Rp K (res (Hid A' σ s) H') x d) : ItR T K A P Z J xs keep :=
  ⟨fun A' i σ s H u hi S k => w.goes i H hi (hG A' σ s H u S k), fun A' σ s H u S k => w.stops H (hG A' σ s H u S k), fun A' i σ s H x H' u hi S k y => hY A' i σ s H x H' u hi S k (w.yields i H x H' hi (hG A' σ s H u S k) y)⟩
def kT : SS → Prop := fun _ => True
/-- what is walked, left alone meanwhile -/
def itrL (s : SS) : R → Option (List D × (SS → Prop) × SS)
  | .d (.lst xs) => some (xs, kT, s)
  | .o (.lst xs) => some (xs, kT, s)
  | .bw i => match s[i]? with
    | some (.o true (.lst xs)) => some (xs, kT, s.set i (.d (.lst xs)))
    | some (.d (.lst xs)) => some (xs, kT, s)
    | some (.o false (.lst xs)) => some (xs, fun s' => s'[i]? = some (.o false (.lst xs)), s)
    | _ => none
  | _ => none
theorem SqL.fun_of {K : PySem.W.Frag} {H : Hp} {a : Addr} {vs : List V} (h : H a = some (.lst vs)) : SqL K H a vs := .inl (.inl h)
theorem lstAt_of (p : Post T K A P Z σ s s1 H H1 [v] [r] ts) (S : StR T K A P Z σ s H) {xs : List D} {keep : SS → Prop} (e : itrL s1 r = some (xs, keep, s2)) :
    Post T K A P Z σ s s2 H H1 [] [] [] ∧ ∃ a vs, v = .ref a ∧ vs.length = xs.length ∧ (SqL K H1 a vs ∧ Rps K (res (Hid A σ s2) H1) vs xs) ∧ ((keep = kT ∧ Rp K (res (Hid A σ s2) H1) v (.lst xs)) ∨ ∃ i, P i = some a ∧ keep = (fun s' => s'[i]? = some (.o false (.lst xs)))) := by
  have key : ∀ s3 x, frz1 s1 r = some (x, s3) → x = .lst xs → kT = keep → s3 = s2 → Post T K A P Z σ s s2 H H1 [] [] [] ∧ ∃ a vs, v = .ref a ∧ vs.length = xs.length ∧ (SqL K H1 a vs ∧ Rps K (res (Hid A σ s2) H1) vs xs) ∧ ((keep = kT ∧ Rp K (res (Hid A σ s2) H1) v (.lst xs)) ∨ ∃ i, P i = some a ∧ keep = (fun s' => s'[i]? = some (.o false (.lst xs)))) := by
    rintro s3 x ef rfl rfl rfl
    obtain ⟨p2, S2, r2⟩ := p.frz S (xs := [.lst xs]) (s2 := s3) (by simp only [frzs, ef])
    cases r2 with
    | cons h _ =>
      cases id h with
      | lst hq hr => exact ⟨p2, _, _, rfl, hr.length, ⟨.inl (.inl (res_some hq).2), hr⟩, .inl ⟨rfl, h⟩⟩
  cases r with
  | d x =>
    cases x with
    | lst ys => cases e; exact key _ _ rfl rfl rfl rfl
    | _ => cases e
  | o c =>
    cases c with
    | lst ys => cases e; exact key _ _ rfl rfl rfl rfl
    | _ => cases e
  | bw i =>
    have e' : (match s1[i]? with
      | some (.o true (.lst xs)) => some (xs, kT, s1.set i (.d (.lst xs)))
      | some (.d (.lst xs)) => some (xs, kT, s1)
      | some (.o false (.lst xs)) => some (xs, (fun s' : SS => s'[i]? = some (.o false (.lst xs))), s1)
      | _ => none) = some (xs, keep, s2) := e
    cases hs : s1[i]? with
    | none => rw [hs] at e'; cases e'
    | some sv =>
      rw [hs] at e'
      cases sv with
      | no => cases e'
      | d x =>
        cases x with
        | lst ys => cases e'; exact key _ (.lst xs) (by simp only [frz1, hs]) rfl rfl rfl
        | _ => cases e'
      | o l c =>
        cases c with
        | lst ys =>
          cases l with
          | true => cases e'; exact key _ (.lst xs) (by simp only [frz1, hs, CO.frz]) rfl rfl rfl
          | false =>
            cases e'
            have tr := p.tr
            cases tr with
            | bw h _ =>
              have p2 := p.drop S.pa
              have S2 := post_test p2 S
              obtain ⟨ov, e1, a, rfl, vs, q1, q2⟩ := S2.sl i _ hs
              rw [h] at e1
              cases e1
              exact ⟨p2, a, vs, rfl, q2.length, ⟨.inl (.inl q1), q2⟩, .inr ⟨i, S2.par i a _ h hs, rfl⟩⟩
        | _ => cases l <;> cases e'
/-- the list stays through the walk -/
theorem lst_stays (S1 : StR T K A P Z σ s1 H1) {a : Addr} {ws : List V} {xs : List D} {keep : SS → Prop} (hw : SqL K H1 a ws)
    (h : (keep = kT ∧ Rp K (res (Hid A σ s1) H1) (.ref a) (.lst xs)) ∨ ∃ i, P i = some a ∧ keep = (fun s' => s'[i]? = some (.o false (.lst xs)))) :
    ∀ A' σ' s' H', Sup A (res (Own σ s1) H1) A' → StR T K A' P (res (Own σ s1) H1) σ' s' H' → keep s' → ∃ vs, SqL K H' a vs ∧ Rps K (res (Hid A' σ' s') H') vs xs := fun A' σ' s' H' u S' k => by
  rcases h with ⟨rfl, h⟩ | ⟨i, hi, rfl⟩
  · cases h.ext (ext_base S1 u S') with
    | lst hq hr => exact ⟨_, .inl (.inl (res_some hq).2), hr⟩
  · obtain ⟨ov, e1, b, rfl, vs, q1, q2⟩ := S'.sl i _ k
    have := (S'.pin i a hi).2.1
    rw [this] at e1
    cases e1
    exact ⟨vs, .inl (.inl q1), q2⟩
theorem len_eq {vs : List V} {xs : List D} {G : Hp} (h : Rps K G vs xs) {i : Nat} (hi : i < xs.length) : i < vs.length := by rw [h.length]; exact hi
def dList (da : DE) : DI := fun s Rd E => da s (fun r s1 => ∃ xs keep s2, itrL s1 r = some (xs, keep, s2) ∧ Rd xs keep s2) E
theorem lift_iList {te : TE} {de : DE} (he : LiftE T K E te de) : LiftI T K E (iList K te) (dList de) := fun A P Z σ s H Rd Ed R S h k x =>
  he A P Z σ s H _ Ed _ S h (fun v H1 r ts s1 p ⟨xs, keep, s2, e, q⟩ => by
    obtain ⟨p2, a, ws, rfl, hl, ⟨hw, hr⟩, hc⟩ := lstAt_of p S e
    have S2 := post_test p2 S
    have st := lst_stays S2 hw hc
    refine ⟨a, rfl, ⟨ws, hw⟩, k _ _ xs keep s2 p2 ⟨fun A' i σ s H u hi S' k' => ?_, fun A' σ s H u S' k' => ?_, fun A' i σ s H y H' u hi S' k' hy => ?_⟩ q⟩
    · obtain ⟨vs, h1, h2⟩ := st A' σ s H u S' k'
      exact walk_list.goes i H (len_eq h2 hi) h1
    · obtain ⟨vs, h1, h2⟩ := st A' σ s H u S' k'
      have := (walk_list (K := K) (a := a) (xs := vs)).stops H h1
      rwa [h2.length] at this
    · obtain ⟨vs, h1, h2⟩ := st A' σ s H u S' k'
      obtain ⟨rfl, h3⟩ := walk_list.yields i H y H' (len_eq h2 hi) h1 hy
      exact ⟨Same.refl _, h2.at' h3⟩) x
def itrT (s : SS) : R → Option (List D)
  | .d (.tup xs) => some xs
  | .bw i => match s[i]? with
    | some (.d (.tup xs)) => some xs
    | _ => none
  | _ => none
theorem itrT_vw {xs : List D} (e : itrT s r = some xs) : vw s r = some (.tup xs) := by
  cases r with
  | d x =>
    cases x with
    | tup ys => cases e; rfl
    | _ => cases e
  | o c => cases e
  | bw i =>
    have e' : (match s[i]? with | some (.d (.tup xs)) => some xs | _ => none) = some xs := e
    cases hs : s[i]? with
    | none => rw [hs] at e'; cases e'
    | some sv =>
      rw [hs] at e'
      cases sv with
      | d x =>
        cases x with
        | tup ys => cases e'; simp only [vw, hs]
        | _ => cases e'
      | _ => cases e'
def dTupI (da : DE) : DI := fun s Rd E => da s (fun r s1 => ∃ xs, itrT s1 r = some xs ∧ Rd xs kT s1) E
theorem tup_stays (p : Post T K A P Z σ s s1 H H1 [v] [r] ts) (S : StR T K A P Z σ s H) {xs : List D} (e : itrT s1 r = some xs) :
    ∃ a vs, v = .ref a ∧ SqT K H1 a vs ∧ ∀ A' σ' s' H', Sup A (res (Own σ s1) H1) A' → StR T K A' P (res (Own σ s1) H1) σ' s' H' → SqT K H' a vs ∧ Rps K (res (Hid A' σ' s') H') vs xs := by
  obtain ⟨a, vs, rfl, h1, h2, h3⟩ := (p.tr.rb p.st (itrT_vw e)).tup
  have S1 := post_test (p.drop S.pa) S
  have x0 : LamX.ExtN (res (Hid (Pls A ts) σ s1) H1) (res (Hid A σ s1) H1) := res_less fun b z => z.elim (fun z => .inl (.inl z)) .inr
  exact ⟨a, vs, rfl, h1, fun A' σ' s' H' u S' => ⟨ExtN.sqT res_all (ExtN.sqT (x0.trans (ext_base S1 u S')) h2), h3.ext (x0.trans (ext_base S1 u S'))⟩⟩
theorem lift_iTup {te : TE} {de : DE} (he : LiftE T K E te de) : LiftI T K E (iTup K te) (dTupI de) := fun A P Z σ s H Rd Ed R S h k x =>
  he A P Z σ s H _ Ed _ S h (fun v H1 r ts s1 p ⟨xs, e, q⟩ => by
    obtain ⟨a, ws, rfl, hw, st⟩ := tup_stays p S e
    refine ⟨a, rfl, ⟨ws, hw⟩, k _ _ xs kT s1 (p.drop S.pa) (.of (by
      have l := (st A _ _ _ Sup.refl (post_test (p.drop S.pa) S).base).2.length
      rw [← l]
      exact walk_tup) (fun A' σ s H u S' _ => (st A' σ s H u S').1) fun A' i σ s H y H' u hi S' _ hy => ?_) q⟩
    obtain ⟨rfl, h3⟩ := hy
    exact ⟨Same.refl _, (st A' σ s _ u S').2.at' h3⟩) x
/-! ### ranges -/
def rngL (lo : Int) (n : Nat) : List D := (List.range n).map fun k : Nat => .int (lo + (k : Int))
theorem rngL_at {lo : Int} {n i : Nat} (h : i < n) : (rngL lo n)[i]? = some (.int (lo + (i : Int))) := by
  unfold rngL
  rw [List.getElem?_map, List.getElem?_range h]
  rfl
theorem rngL_len {lo : Int} {n : Nat} : (rngL lo n).length = n := by unfold rngL; rw [List.length_map, List.length_range]
theorem itR_rng {lo : Int} {n : Nat} : ItR T K A P Z (Itr lo n) (rngL lo n) kT :=
  .of (by rw [rngL_len]; exact walk_range) (fun _ _ _ _ _ _ _ => trivial) fun A' i σ s H x H' u hi S _ hy => by
    obtain ⟨rfl, rfl⟩ := hy
    rw [rngL_len] at hi
    exact ⟨Same.refl _, _, rngL_at hi, .sc _⟩
def dRng1 (da : DA) : DI := fun s Rd E => da s (fun rs s1 => ∃ j : Int, rs = [.d (.int j)] ∧ -(2 ^ 62) ≤ j ∧ j < 2 ^ 62 ∧ Rd (rngL 0 j.toNat) kT s1) E
def dRng2 (da : DA) : DI := fun s Rd E => da s (fun rs s1 => ∃ i j : Int, rs = [.d (.int i), .d (.int j)] ∧ (-(2 ^ 62) ≤ i ∧ i < 2 ^ 62 ∧ -(2 ^ 62) ≤ j ∧ j < 2 ^ 62) ∧ Rd (rngL i (j - i).toNat) kT s1) E
theorem TR.one {G : Hp} {i : V} (h : TR K G H σ vs [.d (.sc i)] ts) : vs = [i] := by
  cases h with
  | d h k =>
    cases h
    cases k
    rfl
theorem TR.two {G : Hp} {i j : V} (h : TR K G H σ vs [.d (.sc i), .d (.sc j)] ts) : vs = [i, j] := by
  cases h with
  | d h k =>
    cases h
    rw [k.one]
theorem TR.three {G : Hp} {i j l : V} (h : TR K G H σ vs [.d (.sc i), .d (.sc j), .d (.sc l)] ts) : vs = [i, j, l] := by
  cases h with
  | d h k =>
    cases h
    rw [k.two]
theorem lift_iRng1 {ta : TA} {da : DA} (ha : LiftA T K E ta da) : LiftI T K E (iRng1 ta) (dRng1 da) := fun A P Z σ s H Rd Ed R S h k x =>
  ha A P Z σ s H _ Ed _ S h (fun vs H1 rs ts s1 p ⟨j, e, h1, h2, q⟩ => by
    subst e
    exact ⟨j, p.tr.one, h1, h2, k _ _ _ _ s1 (p.drop S.pa) itR_rng q⟩) x
theorem lift_iRng2 {ta : TA} {da : DA} (ha : LiftA T K E ta da) : LiftI T K E (iRng2 ta) (dRng2 da) := fun A P Z σ s H Rd Ed R S h k x =>
  ha A P Z σ s H _ Ed _ S h (fun vs H1 rs ts s1 p ⟨i, j, e, h1, q⟩ => by
    subst e
    exact ⟨i, j, p.tr.two, h1, k _ _ _ _ s1 (p.drop S.pa) itR_rng q⟩) x
def rngC (lo c : Int) (n : Nat) : List D := (List.range n).map fun k : Nat => .int (lo + (k : Int) * c)
theorem itR_rngC {lo c : Int} {n : Nat} : ItR T K A P Z (Itc lo c n) (rngC lo c n) kT :=
  .of (by rw [show (rngC lo c n).length = n by unfold rngC; rw [List.length_map, List.length_range]]; exact walk_rangeC) (fun _ _ _ _ _ _ _ => trivial) fun A' i σ s H x H' u hi S _ hy => by
    obtain ⟨rfl, rfl⟩ := hy
    rw [show (rngC lo c n).length = n by unfold rngC; rw [List.length_map, List.length_range]] at hi
    refine ⟨Same.refl _, _, ?_, .sc _⟩
    unfold rngC
    rw [List.getElem?_map, List.getElem?_range hi]
    rfl
def dRng3 (da : DA) : DI := fun s Rd E => da s (fun rs s1 => ∃ (i j c : Int) (n : Nat), rs = [.d (.int i), .d (.int j), .d (.int c)] ∧ RgC i j c n ∧ Rd (rngC i c n) kT s1) E
theorem lift_iRng3 {ta : TA} {da : DA} (ha : LiftA T K E ta da) : LiftI T K E (iRng3 ta) (dRng3 da) := fun A P Z σ s H Rd Ed R S h k x =>
  ha A P Z σ s H _ Ed _ S h (fun vs H1 rs ts s1 p ⟨i, j, c, n, e, h1, q⟩ => by
    subst e
    exact ⟨i, j, c, n, p.tr.three, h1, k _ _ _ _ s1 (p.drop S.pa) itR_rngC q⟩) x
/-! ### a text, sign by sign -/
def strL (z : Str) : List D := z.cps.toList.map fun c => .str ⟨#[c]⟩
def dStrI (da : DE) : DI := fun s Rd E => da s (fun r s1 => ∃ z, vw s1 r = some (.str z) ∧ Rd (strL z) kT s1) E
theorem lift_iStr {te : TE} {de : DE} (he : LiftE T K E te de) : LiftI T K E (iStr te) (dStrI de) := fun A P Z σ s H Rd Ed R S h k x =>
  he A P Z σ s H _ Ed _ S h (fun v H1 r ts s1 p ⟨z, e, q⟩ => by
    refine ⟨z, (p.tr.rb p.st e).sc, k _ _ _ _ s1 (p.drop S.pa) (.of (by
      rw [show (strL z).length = z.cps.size by unfold strL; rw [List.length_map, Array.length_toList]]
      exact walk_str) (fun _ _ _ _ _ _ _ => trivial) fun A' i σ s H x H' u hi S _ hy => ?_) q⟩
    obtain ⟨rfl, c, h1, rfl⟩ := hy
    refine ⟨Same.refl _, _, ?_, .sc _⟩
    unfold strL
    rw [List.getElem?_map, Array.getElem?_toList, h1]
    rfl) x
/-! ### pairs -/
theorem pair_new {G : Hp} {hid : Addr → Prop} (k : ROk hid H) {p : Addr} (hn : H p = none) {x y : V} {dx dy : D} (hx : Rp K (res hid H) x dx) (hy : Rp K (res hid H) y dy) : Same H (upd H p (.tup [x, y])) ∧ Rp K (res hid (upd H p (.tup [x, y]))) (.ref p) (.tup [dx, dy]) :=
  newR_tup k hn (.cons hx (.cons hy .nil))
def enumL (xs : List D) : List D := xs.zipIdx.map fun q => .tup [.int (q.2 : Nat), q.1]
theorem enumL_at {xs : List D} {i : Nat} {d : D} (h : xs[i]? = some d) : (enumL xs)[i]? = some (.tup [.int (i : Nat), d]) := by
  unfold enumL
  rw [List.getElem?_map, List.getElem?_zipIdx, h]
  simp
theorem enumL_len {xs : List D} : (enumL xs).length = xs.length := by unfold enumL; rw [List.length_map, List.length_zipIdx]
def dEnum (da : DE) : DI := fun s Rd E => da s (fun r s1 => ∃ xs keep s2, itrL s1 r = some (xs, keep, s2) ∧ Rd (enumL xs) keep s2) E
theorem lift_iEnum {te : TE} {de : DE} (he : LiftE T K E te de) : LiftI T K E (iEnum K (tCons te tNil)) (dEnum de) := fun A P Z σ s H Rd Ed R S h k x =>
  he A P Z σ s H _ Ed _ S h (fun v H1 r ts s1 p ⟨xs, keep, s2, e, q⟩ => by
    obtain ⟨p2, a, ws, rfl, hl, ⟨hw, hr⟩, hc⟩ := lstAt_of p S e
    have S2 := post_test p2 S
    have st := lst_stays S2 hw hc
    refine ⟨a, ws, rfl, hw, k _ _ (enumL xs) keep s2 p2 ⟨fun A' i σ s H u hi S' k' => ?_, fun A' σ s H u S' k' => ?_, fun A' i σ s H y H' u hi S' k' hy => ?_⟩ q⟩
    · rw [enumL_len] at hi
      obtain ⟨vs, h1, h2⟩ := st A' σ s H u S' k'
      exact walk_enum.goes i H (len_eq h2 hi) h1
    · obtain ⟨vs, h1, h2⟩ := st A' σ s H u S' k'
      have := (walk_enum (K := K) (a := a) (xs := vs)).stops H h1
      rwa [h2.length, ← enumL_len] at this
    · rw [enumL_len] at hi
      obtain ⟨vs, h1, h2⟩ := st A' σ s H u S' k'
      obtain ⟨T', y1, y2, rfl, hn, rfl, e1, e2⟩ := walk_enum.yields i H y H' (len_eq h2 hi) h1 hy
      obtain rfl := Option.some.inj e1
      obtain ⟨d, e3, h3⟩ := h2.at' e2
      obtain ⟨g1, g2⟩ := pair_new (G := H) S'.rok hn (.sc (.int (i : Nat))) h3
      exact ⟨g1, _, enumL_at e3, g2⟩) x
def dEnumT (da : DE) : DI := fun s Rd E => da s (fun r s1 => ∃ xs, itrT s1 r = some xs ∧ Rd (enumL xs) kT s1) E
theorem lift_iEnumT {te : TE} {de : DE} (he : LiftE T K E te de) : LiftI T K E (iEnumT K (tCons te tNil)) (dEnumT de) := fun A P Z σ s H Rd Ed R S h k x =>
  he A P Z σ s H _ Ed _ S h (fun v H1 r ts s1 p ⟨xs, e, q⟩ => by
    obtain ⟨a, ws, rfl, hw, st⟩ := tup_stays p S e
    have l := (st A _ _ _ Sup.refl (post_test (p.drop S.pa) S).base).2.length
    refine ⟨a, ws, rfl, hw, k _ _ (enumL xs) kT s1 (p.drop S.pa) (.of (by
      rw [enumL_len, ← l]
      exact walk_enumT) (fun A' σ s H u S' _ => (st A' σ s H u S').1) fun A' i σ s H y H' u hi S' _ hy => ?_) q⟩
    obtain ⟨T', y1, y2, rfl, hn, rfl, e1, e2⟩ := hy
    obtain rfl := Option.some.inj e1
    obtain ⟨d, e3, h3⟩ := (st A' σ s _ u S').2.at' e2
    obtain ⟨g1, g2⟩ := pair_new (G := H) S'.rok hn (.sc (.int (i : Nat))) h3
    exact ⟨g1, _, enumL_at e3, g2⟩) x
def zipL (xs ys : List D) : List D := (xs.zip ys).map fun q => .tup [q.1, q.2]
theorem zipL_len {xs ys : List D} : (zipL xs ys).length = min xs.length ys.length := by unfold zipL; rw [List.length_map, List.length_zip]
def dZip (da db : DE) : DI := fun s Rd E => da s (fun r1 s1 => db s1 (fun r2 s2 => ∃ xs s3 ys s4, itrL s2 r1 = some (xs, kT, s3) ∧ itrL s3 r2 = some (ys, kT, s4) ∧ Rd (zipL xs ys) kT s4) E) E
end
end DL
set_option Elab.async false
set_option linter.all false
set_option maxRecDepth 100000
set_option maxHeartbeats 1000000
/-! for, comprehensions -/
namespace DL
open PySem PySem.Spec PyProof.Rows L2 Mv
section
variable {T : List (Addr × Str)} {K : PySem.W.Frag} {E : L2.St → XK} {A A' B : Addr → Prop} {P : Par} {Z Z' H H1 H2 H' : Hp} {σ σ' : L2.St} {s s1 s2 s' : SS} {vs us : List V} {rs qs : List R} {ts us' : List Addr} {Ed : EC} {v : V} {r : R}
def dZipI (da : DA) : DI := fun s Rd E => da s (fun rs s1 => ∃ xs ys s2, frzs rs s1 = some ([.lst xs, .lst ys], s2) ∧ Rd (zipL xs ys) kT s2) E
theorem lift_iZip {ta : TA} {da : DA} (ha : LiftA T K E ta da) : LiftI T K E (iZip K ta) (dZipI da) := fun A P Z σ s H Rd Ed R S h k x =>
  ha A P Z σ s H _ Ed _ S h (fun vs H1 rs ts s1 p ⟨xs, ys, s2, e, q⟩ => by
    obtain ⟨p2, S2, r2⟩ := p.frz S e
    cases r2 with
    | @cons v vs _ _ h1 r3 =>
      cases r3 with
      | @cons u us _ _ h2 r4 =>
        cases r4
        cases id h1 with
        | @lst a va _ ha1 ha2 =>
          cases id h2 with
          | @lst b vb _ hb1 hb2 =>
            refine ⟨a, b, va, vb, rfl, .inl (.inl (res_some ha1).2), .inl (.inl (res_some hb1).2), k _ _ (zipL xs ys) kT s2 p2 (.of (walk_zip (xs := va) (ys := vb) (by rw [zipL_len, ha2.length, hb2.length])) (fun A' σ s H u S' _ => ?_) fun A' i σ s H y H' u hi S' _ hy => ?_) q⟩
            · exact ⟨.inl (.inl (res_some (ext_base S2 u S' _ _ ha1 fun ps z => by cases z)).2), .inl (.inl (res_some (ext_base S2 u S' _ _ hb1 fun ps z => by cases z)).2)⟩
            · obtain ⟨T', y1, y2, rfl, hn, rfl, e1, e2⟩ := hy
              obtain ⟨d1, e3, h3⟩ := (ha2.ext (ext_base S2 u S')).at' e1
              obtain ⟨d2, e4, h4⟩ := (hb2.ext (ext_base S2 u S')).at' e2
              obtain ⟨g1, g2⟩ := pair_new (G := H) S'.rok hn h3 h4
              refine ⟨g1, _, ?_, g2⟩
              unfold zipL
              rw [List.getElem?_map, List.zip, List.getElem?_zipWith, e3, e4]
              rfl) x
/-! ### for -/
def dForI (gd : DGd) (tb : DS) (Dd : DEnds) (E : EC) (keep : SS → Prop) (xs : List D) (s : SS) : Prop :=
  ∃ I : List D → SS → Prop, I xs s ∧ (∀ x xs s, I (x :: xs) s → keep s ∧ gd x s (fun s1 => tb { Dd with nx := I xs, ct := I xs, bk := Dd.nx } E s1)) ∧ ∀ s, I [] s → keep s ∧ Dd.nx s
def dFor (wd : DI) (gd : DGd) (tb : DS) : DS := fun Dd E s => wd s (fun xs keep s1 => dForI gd tb Dd E keep xs s1) E
theorem lift_for {wi : TI} {g : TG} {tb : TS} {wd : DI} {gd : DGd} {dt : DS} (hw : LiftI T K E wi wd) (hg : LiftGd T K g gd) (hb : LiftS T K E tb dt) : LiftS T K E (tFor wi g tb) (dFor wd gd dt) := fun A P Z σ0 s H Dd Ed D S h k x =>
  hw A P Z σ0 s H _ Ed _ S h (fun J H1 xs keep s1 p it ⟨I, h0, hs, hn⟩ => by
    have S1 := post_test p S
    have xz := S1.baseZ
    refine ⟨fun i m σ H => i + m = xs.length ∧ ∃ s', StR T K A P (res (Own σ0 s1) H1) σ s' H ∧ I (xs.drop i) s', ⟨xs.length, Nat.zero_add _, s1, S1.base, h0⟩, ?_⟩
    rintro i m σ H ⟨hm, s', S', hi⟩
    by_cases hlt : i < xs.length
    · rw [List.drop_eq_getElem_cons hlt] at hi
      obtain ⟨hk, hgd⟩ := hs _ _ _ hi
      refine .inr ⟨it.goes A i σ s' H Sup.refl hlt S' hk, fun σ2 H2 => ∃ s2, StR T K A P (res (Own σ0 s1) H1) σ2 s2 H2 ∧ I (xs.drop (i + 1)) s2, fun σ2 H2 q => ⟨m - 1, by omega, by omega, q⟩, fun y H2 hy => ?_⟩
      obtain ⟨es, d, e1, r1⟩ := it.yields A i σ s' H y H2 Sup.refl hlt S' hk hy
      rw [List.getElem?_eq_getElem hlt] at e1
      cases e1
      have S2 : StR T K A P (res (Own σ0 s1) H1) σ s' H2 := S'.grow (Kp.of es) (Same.tabs S'.tb es) (fun a h => .inl h) fun a h => h
      refine hg A P _ σ s' H2 y _ _ _ S2 r1 hgd fun σ3 s3 S3 _ q => ?_
      refine hb A P _ σ3 s3 H2 _ Ed _ S3 q ⟨fun σ' s' H' S' q => ⟨s', S', q⟩, fun _ _ _ _ _ r q => k.rt _ _ _ _ _ (r.unbase xz) q, fun _ _ _ S q => k.nx _ _ _ (S.unbase xz) q, fun σ' s' H' S' q => ⟨s', S', q⟩⟩ (x.base xz)
    · have hi' : i = xs.length := by omega
      subst hi'
      rw [List.drop_length] at hi
      obtain ⟨hk, q⟩ := hn _ hi
      exact .inl ⟨it.stops A σ s' H Sup.refl S' hk, k.nx _ _ _ (S'.unbase xz) q⟩) x.x
/-! ### slots that a comprehension has for itself -/
def dwipe (s : SS) : List Nat → SS
  | [] => s
  | v :: vs => (dwipe s vs).set v .no
def okW (s : SS) : List Nat → Prop
  | [] => True
  | v :: vs => okW s vs ∧ okSet (dwipe s vs) v
def isO : SV → Bool
  | .o _ _ => true
  | _ => false
def sameO (s s' : SS) : Prop := s.map isO = s'.map isO
theorem StR.wiped (S : StR T K A P Z σ s H) : ∀ {vs : List Nat}, okW s vs → StR T K A P Z (L2.wipe σ vs) (dwipe s vs) H
  | [], _ => S
  | v :: vs, h => (StR.wiped S h.1).setn h.2 (fun _ z => z) S.pa
theorem sameO.own {s s' : SS} (h : sameO s s') {a : Addr} (k : Own σ s a) : Own σ s' a := by
  obtain ⟨i, l, c, h1, h2⟩ := k
  have e : (s.map isO)[i]? = (s'.map isO)[i]? := by rw [h]
  rw [List.getElem?_map, List.getElem?_map, h2] at e
  cases hs : s'[i]? with
  | none => rw [hs] at e; cases e
  | some sv =>
    rw [hs] at e
    cases sv with
    | o l' c' => exact ⟨i, l', c', h1, hs⟩
    | _ => cases e
theorem sameO.symm {s s' : SS} (h : sameO s s') : sameO s' s := Eq.symm h
theorem dwipe_at {s : SS} : ∀ {vs : List Nat} {i : Nat} {sv : SV}, (dwipe s vs)[i]? = some sv → i ∈ vs ∧ sv = .no ∨ i ∉ vs ∧ s[i]? = some sv
  | [], i, sv, h => .inr ⟨fun z => (by cases z), h⟩
  | v :: vs, i, sv, h => by
    have h : ((dwipe s vs).set v .no)[i]? = some sv := h
    by_cases n : v = i
    · subst n
      by_cases m : v < (dwipe s vs).length
      · rw [List.getElem?_set_self m] at h
        exact .inl ⟨List.mem_cons_self, (Option.some.inj h).symm⟩
      · rw [List.getElem?_eq_none (by rw [List.length_set]; omega)] at h
        cases h
    · rw [List.getElem?_set_ne n] at h
      rcases dwipe_at h with ⟨h1, h2⟩ | ⟨h1, h2⟩
      · exact .inl ⟨List.mem_cons_of_mem _ h1, h2⟩
      · exact .inr ⟨fun z => (List.mem_cons.mp z).elim (fun z => n z.symm) h1, h2⟩
theorem wipe_at (σ : L2.St) : ∀ {vs : List Nat} {i : Nat}, i ∉ vs → (L2.wipe σ vs)[i]? = σ[i]?
  | [], _, _ => rfl
  | v :: vs, i, h => by
    show ((L2.wipe σ vs).set v none)[i]? = _
    rw [List.getElem?_set_ne fun z => h (by rw [z]; exact List.mem_cons_self), wipe_at σ fun z => h (List.mem_cons_of_mem _ z)]
theorem own_wipe {vs : List Nat} (hs : ∀ i ∈ vs, ∀ sv, s[i]? = some sv → sv = .no) {a : Addr} : Own (L2.wipe σ vs) s a ↔ Own σ s a := by
  constructor
  · rintro ⟨i, l, c, h1, h2⟩
    have n : i ∉ vs := fun z => by cases hs i z _ h2
    rw [wipe_at σ n] at h1
    exact ⟨i, l, c, h1, h2⟩
  · rintro ⟨i, l, c, h1, h2⟩
    have n : i ∉ vs := fun z => by cases hs i z _ h2
    exact ⟨i, l, c, by rw [wipe_at σ n]; exact h1, h2⟩
theorem StR.unwipe {vs : List Nat} (S : StR T K A P Z (L2.wipe σ vs) s H) (hs : ∀ i ∈ vs, ∀ sv, s[i]? = some sv → sv = .no) : StR T K A P Z σ s H := by
  have ho : ∀ a, Own (L2.wipe σ vs) s a ↔ Own σ s a := fun a => own_wipe hs
  have e : Hid A σ s = Hid A (L2.wipe σ vs) s := funext fun a => propext (or_congr_right (ho a).symm)
  have no : ∀ {i : Nat} {l : Bool} {c : CO}, s[i]? = some (.o l c) → (L2.wipe σ vs)[i]? = σ[i]? := fun {i l c} h => wipe_at σ fun z => by cases hs i z _ h
  refine ⟨by rw [← S.len, wipe_length], fun i sv h => ?_, fun i j a l c l' c' h1 h2 h3 h4 => S.inj i j a l c l' c' (by rw [no h2]; exact h1) h2 (by rw [no h4]; exact h3) h4,
    fun i a c h1 h2 => S.loc i a c (by rw [no h2]; exact h1) h2, fun a h => S.zo a ((ho a).mpr h), fun i a c h1 h2 => S.par i a c (by rw [no h2]; exact h1) h2, fun i a h => ?_, S.aol, S.fr, S.tb⟩
  · by_cases m : i ∈ vs
    · rw [hs i m sv h]
      have hi : i < σ.length := by
        have := (List.getElem?_eq_some_iff.mp h).1
        rw [← S.len, wipe_length] at this
        exact this
      exact ⟨_, List.getElem?_eq_getElem hi, trivial⟩
    · obtain ⟨ov, e1, q⟩ := S.sl i sv h
      rw [wipe_at σ m] at e1
      exact ⟨ov, e1, by rw [e]; exact q⟩
  · obtain ⟨h1, h2, c, h3⟩ := S.pin i a h
    exact ⟨h1, by rw [← no h3]; exact h2, c, h3⟩
/-! ### a target that stores to such slots only -/
def TgIn (g : TG) (vs : List Nat) : Prop := ∀ x σ H (Q Q' : L2.St → Hp → Prop), g x σ H Q → (∀ σ2 H2, L2.wipe σ2 vs = L2.wipe σ vs → Q σ2 H2 → Q' σ2 H2) → g x σ H Q'
def TgsIn (g : TGs) (vs : List Nat) : Prop := ∀ xs σ H (Q Q' : L2.St → Hp → Prop), g xs σ H Q → (∀ σ2 H2, L2.wipe σ2 vs = L2.wipe σ vs → Q σ2 H2 → Q' σ2 H2) → g xs σ H Q'
theorem wipe_in (σ : L2.St) (x : Option V) : ∀ {vs : List Nat} {i : Nat}, i ∈ vs → L2.wipe (σ.set i x) vs = L2.wipe σ vs
  | [], _, h => by cases h
  | v :: vs, i, h => by
    show (L2.wipe (σ.set i x) vs).set v none = (L2.wipe σ vs).set v none
    by_cases m : i ∈ vs
    · rw [wipe_in σ x m]
    · obtain rfl : i = v := (List.mem_cons.mp h).resolve_right m
      refine List.ext_getElem? fun j => ?_
      by_cases n : i = j
      · subst n
        by_cases l : i < σ.length
        · rw [List.getElem?_set_self (by rw [wipe_length, List.length_set]; exact l), List.getElem?_set_self (by rw [wipe_length]; exact l)]
        · rw [List.getElem?_eq_none (by rw [List.length_set, wipe_length, List.length_set]; omega), List.getElem?_eq_none (by rw [List.length_set, wipe_length]; omega)]
      · rw [List.getElem?_set_ne n, List.getElem?_set_ne n]
        by_cases mj : j ∈ vs
        · have key : ∀ (τ : L2.St) (ws : List Nat), j ∈ ws → j < τ.length → (L2.wipe τ ws)[j]? = some none := fun τ ws => by
            induction ws with
            | nil => intro h; cases h
            | cons w ws ih =>
              intro h hl
              show ((L2.wipe τ ws).set w none)[j]? = _
              by_cases e : w = j
              · subst e
                rw [List.getElem?_set_self (by rw [wipe_length]; exact hl)]
              · rw [List.getElem?_set_ne e]
                exact ih ((List.mem_cons.mp h).resolve_left fun z => e z.symm) hl
          by_cases l : j < σ.length
          · rw [key _ _ mj (by rw [List.length_set]; exact l), key _ _ mj l]
          · rw [List.getElem?_eq_none (by rw [wipe_length, List.length_set]; omega), List.getElem?_eq_none (by rw [wipe_length]; omega)]
        · rw [wipe_at _ mj, wipe_at _ mj, List.getElem?_set_ne n]
theorem tgIn_name {i : Nat} {vs : List Nat} (h : i ∈ vs) : TgIn (gName i) vs := fun x σ H Q Q' q k => k _ _ (wipe_in σ _ h) q
theorem tgIn_nil {vs : List Nat} : TgsIn gNil vs := fun xs σ H Q Q' q k => ⟨q.1, k _ _ rfl q.2⟩
theorem tgIn_cons {vs : List Nat} {g : TG} {u : TGs} (hg : TgIn g vs) (hu : TgsIn u vs) : TgsIn (gCons g u) vs := fun xs σ H Q Q' ⟨v, r, e, q⟩ k =>
  ⟨v, r, e, hg v σ H _ _ q fun σ1 H1 e1 q1 => hu r σ1 H1 _ _ q1 fun σ2 H2 e2 q2 => k _ _ (e2.trans e1) q2⟩
theorem tgIn_tup {vs : List Nat} {n : Nat} {u : TGs} (hu : TgsIn u vs) : TgIn (gTup K n u) vs := fun x σ H Q Q' ⟨a, xs, e, h1, h2, q⟩ k => ⟨a, xs, e, h1, h2, hu xs σ H _ _ q k⟩
/-! ### a list comprehension -/
def noX : EC := fun _ _ => False
def dLcI (gd : DGd) (dt : DT) (de : DE) (vs : List Nat) (s0 : SS) (keep : SS → Prop) (xs : List D) (Q : List D → SS → Prop) : Prop :=
  ∃ I : List D → List D → SS → Prop, I xs [] (dwipe s0 vs) ∧
    (∀ x xs acc s, I (x :: xs) acc s → keep s ∧ gd x s (fun s2 => dt s2 (fun b s3 => if b = true then de s3 (fun r s4 => ∃ y s5, frz1 s4 r = some (y, s5) ∧ okW s5 vs ∧ sameO (dwipe s5 vs) (dwipe s0 vs) ∧ acc.length < sizeLine ∧ I xs (acc ++ [y]) (dwipe s5 vs)) noX
      else okW s3 vs ∧ sameO (dwipe s3 vs) (dwipe s0 vs) ∧ I xs acc (dwipe s3 vs)) noX)) ∧
    ∀ acc s, I [] acc s → keep s ∧ Q acc s
def dLc (wd : DI) (gd : DGd) (dt : DT) (de : DE) (vs : List Nat) : DE := fun s Q E => wd s (fun xs keep s1 => okW s1 vs ∧ sameO (dwipe s1 vs) s1 ∧ dLcI gd dt de vs s1 keep xs (fun acc s2 => Q (.o (.lst acc)) s2)) E
abbrev E0' : L2.St → XK := fun _ => E0
theorem idem_wipe (σ : L2.St) (vs : List Nat) : L2.wipe (L2.wipe σ vs) vs = L2.wipe σ vs := by
  have key : ∀ (us : List Nat) (τ : L2.St), (∀ i ∈ us, ∀ o, τ[i]? = some o → o = none) → L2.wipe τ us = τ := fun us => by
    induction us with
    | nil => intro τ _; rfl
    | cons u us ih =>
      intro τ h
      show (L2.wipe τ us).set u none = τ
      rw [ih τ fun i hi => h i (List.mem_cons_of_mem _ hi)]
      refine List.ext_getElem? fun j => ?_
      by_cases n : u = j
      · subst n
        by_cases l : u < τ.length
        · rw [List.getElem?_set_self l, List.getElem?_eq_getElem l, h u List.mem_cons_self _ (List.getElem?_eq_getElem l)]
        · rw [List.getElem?_eq_none (by rw [List.length_set]; omega), List.getElem?_eq_none (by omega)]
      · rw [List.getElem?_set_ne n]
  refine key vs _ fun i hi o e => ?_
  cases o with
  | none => rfl
  | some x => exact absurd hi (wipe_some e).2
theorem dwipe_no {s : SS} {vs : List Nat} : ∀ i ∈ vs, ∀ sv, (dwipe s vs)[i]? = some sv → sv = .no := fun i hi sv h =>
  (dwipe_at h).elim (fun z => z.2) fun z => absurd hi z.1
theorem lift_lc {wi : TI} {g : TG} {tt : TT} {te : TE} {vs : List Nat} {wd : DI} {gd : DGd} {dt : DT} {de : DE} (hw : LiftI T K E wi wd) (hg : LiftGd T K g gd) (hin : TgIn g vs) (ht : LiftT T K E0' tt dt) (he : LiftE T K E0' te de) :
    LiftE T K E (tLc wi g tt te vs) (dLc wd gd dt de vs) := fun A P Z σ0 s H Qd Ed Q S h k x =>
  hw A P Z σ0 s H _ Ed _ S h (fun J H1 xs keep s1 p it ⟨hok, hso, I, h0, hs, hn⟩ dp hD => by
    have S1 := post_test p S
    have xz := S1.baseZ
    have Sb := S1.base
    have so0 : sameO (dwipe s1 vs) s1 := hso
    have hnA : ¬ Hid A σ0 s1 dp := S1.newH (NwD.of hD)
    -- the new list is hidden while it grows
    have key : ∀ (i : Nat) (acc : List V) (accD : List D) (s' : SS) (H' : Hp), StR T K (Pls A [dp]) P (res (Own σ0 s1) H1) (L2.wipe σ0 vs) s' H' → H' dp = some (.lst acc) → Rps K (res (Hid (Pls A [dp]) (L2.wipe σ0 vs) s') H') acc accD → sameO s' (dwipe s1 vs) → (∀ i ∈ vs, ∀ sv, s'[i]? = some sv → sv = .no) → I (xs.drop i) accD s' →
        (∃ (acc : List V) (accD : List D) (s' : SS), StR T K (Pls A [dp]) P (res (Own σ0 s1) H1) (L2.wipe σ0 vs) s' H' ∧ H' dp = some (.lst acc) ∧ Rps K (res (Hid (Pls A [dp]) (L2.wipe σ0 vs) s') H') acc accD ∧ sameO s' (dwipe s1 vs) ∧ (∀ i ∈ vs, ∀ sv, s'[i]? = some sv → sv = .no) ∧ I (xs.drop i) accD s') := fun i acc accD s' H' a b c d e f => ⟨acc, accD, s', a, b, c, d, e, f⟩
    refine ⟨fun i m H' => i + m = xs.length ∧ ∃ (acc : List V) (accD : List D) (s' : SS), StR T K (Pls A [dp]) P (res (Own σ0 s1) H1) (L2.wipe σ0 vs) s' H' ∧ H' dp = some (.lst acc) ∧ Rps K (res (Hid (Pls A [dp]) (L2.wipe σ0 vs) s') H') acc accD ∧ sameO s' (dwipe s1 vs) ∧ (∀ i ∈ vs, ∀ sv, s'[i]? = some sv → sv = .no) ∧ I (xs.drop i) accD s',
      ⟨xs.length, Nat.zero_add _, key 0 [] [] _ _ ?_ upd_same .nil rfl dwipe_no h0⟩, ?_⟩
    · refine (Sb.wiped hok).grow (Kp.of (same_upd hD)) (Same.tabs S1.tb (same_upd hD)) (fun a h => ?_) fun a h => .inl h
      rcases h with h | h
      · exact .inl h
      · rw [List.mem_singleton.mp h]
        exact .inr ⟨NwD.of hD, _, upd_same, fun ps z => by cases z⟩
    · rintro i m H' ⟨hm, acc, accD, s', S', hl, hr, hso', hno, hi⟩
      have su : Sup A (res (Own σ0 s1) H1) (Pls A [dp]) := fun a h => h.elim .inl fun h => .inr fun o e => by
        rw [List.mem_singleton.mp h] at e
        have e := (res_some e).2
        rw [hD] at e
        cases e
      by_cases hlt : i < xs.length
      · rw [List.drop_eq_getElem_cons hlt] at hi
        obtain ⟨hk, hgd⟩ := hs _ _ _ _ hi
        refine .inr ⟨it.goes _ i _ s' H' su hlt S' hk, fun H2 => ∃ (acc : List V) (accD : List D) (s' : SS), StR T K (Pls A [dp]) P (res (Own σ0 s1) H1) (L2.wipe σ0 vs) s' H2 ∧ H2 dp = some (.lst acc) ∧ Rps K (res (Hid (Pls A [dp]) (L2.wipe σ0 vs) s') H2) acc accD ∧ sameO s' (dwipe s1 vs) ∧ (∀ i ∈ vs, ∀ sv, s'[i]? = some sv → sv = .no) ∧ I (xs.drop (i + 1)) accD s', fun H2 q => ⟨m - 1, by omega, by omega, q⟩, fun y H2 hy => ?_⟩
        obtain ⟨es, d, e1, r1⟩ := it.yields _ i _ s' H' y H2 su hlt S' hk hy
        rw [List.getElem?_eq_getElem hlt] at e1
        cases e1
        have S2 : StR T K (Pls A [dp]) P (res (Own σ0 s1) H1) (L2.wipe σ0 vs) s' H2 := S'.grow (Kp.of es) (Same.tabs S'.tb es) (fun a h => .inl h) fun a h => h
        have hl2 := es _ _ hl
        have hr2 : Rps K (res (Hid (Pls A [dp]) (L2.wipe σ0 vs) s') H2) acc accD := hr.ext (res_ext (M := fun _ => False) (Kp.of es) (fun _ z => z.elim) fun b z => .inl z)
        -- from a state behind the element back to the next turn
        have done : ∀ (σ5 : L2.St) (s5 : SS) (H5 : Hp) (acc' : List V) (accD' : List D), StR T K (Pls A [dp]) P (res (Own σ0 s1) H1) σ5 s5 H5 → L2.wipe σ5 vs = L2.wipe σ0 vs → okW s5 vs → sameO (dwipe s5 vs) (dwipe s1 vs) → H5 dp = some (.lst acc') → Rps K (res (Hid (Pls A [dp]) σ5 s5) H5) acc' accD' → I (xs.drop (i + 1)) accD' (dwipe s5 vs) →
            ∃ (acc : List V) (accD : List D) (s' : SS), StR T K (Pls A [dp]) P (res (Own σ0 s1) H1) (L2.wipe σ0 vs) s' H5 ∧ H5 dp = some (.lst acc) ∧ Rps K (res (Hid (Pls A [dp]) (L2.wipe σ0 vs) s') H5) acc accD ∧ sameO s' (dwipe s1 vs) ∧ (∀ i ∈ vs, ∀ sv, s'[i]? = some sv → sv = .no) ∧ I (xs.drop (i + 1)) accD s' := fun σ5 s5 H5 acc' accD' S5 ew ok5 so5 hl5 hr5 hI => by
          have S6 := S5.wiped ok5
          rw [ew] at S6
          refine ⟨acc', accD', dwipe s5 vs, S6, hl5, hr5.ext (res_less fun b z => ?_), so5, dwipe_no, hI⟩
          rcases z with z | ⟨j, l, c, h1, h2⟩
          · exact .inl z
          · refine .inr ?_
            rw [← ew] at h1
            have n : j ∉ vs := fun z => by cases dwipe_no j z _ h2
            rw [wipe_at σ5 n] at h1
            rcases dwipe_at h2 with ⟨z, _⟩ | ⟨_, h3⟩
            · exact absurd z n
            · exact ⟨j, l, c, h1, h3⟩
        refine hin _ _ _ (fun σ2 H2 => L2.wipe σ2 vs = L2.wipe σ0 vs → tt σ2 H2 fun b H3 => if b = true then te σ2 H3 fun y H4 => ∃ acc, H4 dp = some (.lst acc) ∧ acc.length < sizeLine ∧ _ else _) _ ?_ fun σ2 H2 ew q => by
          rw [idem_wipe] at ew
          exact ⟨ew, q ew⟩
        have nodp : ∀ {σ : L2.St} {s : SS} {H : Hp}, StR T K (Pls A [dp]) P (res (Own σ0 s1) H1) σ s H → ¬ Own σ s dp := fun {σ s H} S ⟨i, l, c, h1, h2⟩ => by
          cases l with
          | true => exact S.loc i dp c h1 h2 (.inr List.mem_cons_self)
          | false =>
            have := (S1.pin i dp (S.par i dp c h1 h2)).1
            exact hnA (.inl this)
        refine hg (Pls A [dp]) P _ _ s' H2 y _ _ _ S2 r1 hgd fun σ3 s3 S3 sub3 q ew3 => ?_
        have hr3 : Rps K (res (Hid (Pls A [dp]) σ3 s3) H2) acc accD := hr2.ext (res_less fun b z => z.elim .inl fun z => .inr (sub3 b z))
        have keepP : ∀ {s3 s4 : SS} {H2 H3 : Hp} {us : List V} {rs : List R} {ts : List Addr}, StR T K (Pls A [dp]) P (res (Own σ0 s1) H1) σ3 s3 H2 → Post T K (Pls A [dp]) P (res (Own σ0 s1) H1) σ3 s3 s4 H2 H3 us rs ts → H2 dp = some (.lst acc) → Rps K (res (Hid (Pls A [dp]) σ3 s3) H2) acc accD →
            StR T K (Pls A [dp]) P (res (Own σ0 s1) H1) σ3 s4 H3 ∧ H3 dp = some (.lst acc) ∧ Rps K (res (Hid (Pls A [dp]) σ3 s4) H3) acc accD := fun {s3 s4 H2 H3 us rs ts} S3 p3 h1 h2 =>
          ⟨post_test (p3.drop S3.pa) S3, p3.kp dp _ (nodp S3) h1 (fun ps z => by cases z), h2.ext (res_ext p3.kp (fun _ z => .inr z) fun b z => .inl (z.elim .inl fun z => .inr (p3.shr b z)))⟩
        have xx : ∀ {σ : L2.St}, XOk T K (Pls A [dp]) P (res (Own σ0 s1) H1) σ noX (E0' σ) := fun {σ} cls d H' ex s' _ _ z => z
        refine ht (Pls A [dp]) P _ σ3 s3 H2 _ noX _ S3 q (fun b H3 s4 p3 q3 => ?_) xx
        obtain ⟨S4, hl4, hr4⟩ := keepP S3 p3 hl2 hr3
        cases b with
        | false =>
          obtain ⟨k1, k2, k3⟩ := q3
          exact done _ _ _ _ _ S4 ew3 k1 k2 hl4 hr4 k3
        | true =>
          refine he (Pls A [dp]) P _ σ3 s4 H3 _ noX _ S4 q3 (fun w H4 r ts s5 p4 ⟨yd, s6, e6, k1, k2, k3, k4⟩ => ?_) xx
          obtain ⟨S5, hl5, hr5⟩ := keepP S4 p4 hl4 hr4
          have efs : frzs [r] s5 = some ([yd], s6) := by simp only [frzs, e6]
          obtain ⟨p6, S6, r6⟩ := p4.frz S4 efs
          cases r6 with
          | cons r6 _ =>
            have hr6 : Rps K (res (Hid (Pls A [dp]) σ3 s6) H4) acc accD := hr4.ext (res_ext p6.kp (fun _ z => .inr z) fun b z => .inl (z.elim .inl fun z => .inr (p6.shr b z)))
            refine ⟨acc, hl5, by rw [hr6.length]; exact k3, ?_⟩
            have hdn : ∀ b o, b ≠ dp → H4 b = some o → L2.upd H4 dp (.lst (acc ++ [w])) b = some o := fun b o n e => by rw [upd_ne n]; exact e
            have kx : Kp (fun a => a = dp) H4 (L2.upd H4 dp (.lst (acc ++ [w]))) := fun b o n e _ => hdn b o n e
            have xt : LamX.ExtN (res (Hid (Pls A [dp]) σ3 s6) H4) (res (Hid (Pls A [dp]) σ3 s6) (L2.upd H4 dp (.lst (acc ++ [w])))) := res_ext kx (fun a z => .inl (.inr (by rw [z]; exact List.mem_cons_self))) fun b z => .inl z
            have S7 : StR T K (Pls A [dp]) P (res (Own σ0 s1) H1) σ3 s6 (L2.upd H4 dp (.lst (acc ++ [w]))) := by
              refine ⟨S6.len, fun i sv h => ?_, S6.inj, S6.loc, S6.zo, S6.par, S6.pin, fun a h => ?_, fun b o e t => ?_, fun p hp => ?_⟩
              · obtain ⟨ov, e1, q⟩ := S6.sl i sv h
                refine ⟨ov, e1, ?_⟩
                cases sv with
                | no => trivial
                | d y => obtain ⟨u, e, r⟩ := q; exact ⟨u, e, r.ext xt⟩
                | o l c =>
                  obtain ⟨a, rfl, r⟩ := q
                  have n : a ≠ dp := fun z => nodp S6 ⟨i, l, c, z ▸ e1, h⟩
                  exact ⟨a, rfl, r.ext xt fun o e _ => hdn a o n e⟩
              · by_cases n : a = dp
                · rw [n]
                  exact ⟨_, upd_same, fun ps z => by cases z⟩
                · obtain ⟨o, e, t⟩ := S6.aol a h
                  exact ⟨o, hdn a o n e, t⟩
              · have n : b ≠ dp := fun z => by
                  rw [z] at e
                  have := (res_some e).2
                  rw [hD] at this
                  cases this
                exact hdn b o n (S6.fr b o e t)
              · obtain ⟨ps, h1, h2, h3⟩ := S6.tb p hp
                have n1 : p.1 ≠ dp := fun z => by rw [z, hl5] at h1; cases h1
                refine ⟨ps, hdn _ _ n1 h1, h2, fun pos cv hc => ?_⟩
                obtain ⟨c, e1, e2⟩ := h3 pos cv hc
                refine ⟨c, e1, hdn _ _ (fun z => ?_) e2⟩
                rw [z, hl5] at e2
                cases e2
            exact done _ _ _ _ _ S7 ew3 k1 k2 upd_same ((hr6.ext xt).app (.cons (r6.ext xt) .nil)) k4
      · have hi' : i = xs.length := by omega
        subst hi'
        rw [List.drop_length] at hi
        obtain ⟨hk, q⟩ := hn _ _ hi
        refine .inl ⟨it.stops _ _ s' H' su S' hk, ?_⟩
        have Su : StR T K (Pls A [dp]) P Z σ0 s' H' := (S'.unwipe hno).unbase xz
        have so1 : sameO s' s1 := hso'.trans hso
        have kp1 : Kp (Own σ0 s1) H1 H' := fun b o n e t => S'.fr b o (by rw [res_eq n]; exact e) t
        have nd' : ¬ Own σ0 s' dp := fun z => hnA (.inr (so1.own z))
        have hwo : Own (L2.wipe σ0 vs) s' = Own σ0 s' := funext fun a => propext (own_wipe hno)
        have p5 : Post T K A P Z σ0 s1 s' H1 H' [.ref dp] [.o (.lst accD)] [dp] := by
          refine ⟨by simp, fun a h => by rw [List.mem_singleton.mp h]; exact NwD.of hD, fun a h => by rw [List.mem_singleton.mp h]; exact nd', Su, .o ⟨acc, hl, ?_⟩ .nil, kp1, fun a z => so1.own z, fun a z => Su.hid (.inr (so1.symm.own z))⟩
          rw [show Hid (Pls A [dp]) σ0 s' = Hid (Pls A [dp]) (L2.wipe σ0 vs) s' from funext fun a => by unfold Hid; rw [hwo]]
          exact hr
        exact k _ _ _ _ _ (p.then p5) q) x
end
end DL
set_option Elab.async false
set_option linter.all false
set_option maxRecDepth 100000
set_option maxHeartbeats 1000000
/-! calls -/
namespace DL
open PySem PySem.Spec PyProof.Rows L2 Mv
abbrev DSp := SS → (R → SS → Prop) → EC → Prop
/-- the arguments' own objects -/
def Ow (vs : List V) (as : SS) (a : Addr) : Prop := ∃ (i : Nat) (l : Bool) (c : CO), vs[i]? = some (.ref a) ∧ as[i]? = some (.o l c)
structure ArgsR (K : PySem.W.Frag) (A : Addr → Prop) (H : Hp) (vs : List V) (as : SS) : Prop where
  len : vs.length = as.length
  at_ : ∀ (i : Nat) sv, as[i]? = some sv → ∃ v, vs[i]? = some v ∧ ((∃ x, sv = .d x ∧ Rp K (res A H) v x) ∨ ∃ a c, sv = .o false c ∧ v = .ref a ∧ A a ∧ CoR K (res A H) H a c)
  inj : ∀ (i j : Nat) a l c l' c', vs[i]? = some (.ref a) → as[i]? = some (.o l c) → vs[j]? = some (.ref a) → as[j]? = some (.o l' c') → i = j
structure CallP (T : List (Addr × Str)) (K : PySem.W.Frag) (A : Addr → Prop) (vs : List V) (as as' : SS) (H H' : Hp) : Prop where
  tb : LamX.Tabs T H'
  kp : Kp (Ow vs as) H H'
  own : ∀ (i : Nat) a l c, vs[i]? = some (.ref a) → as[i]? = some (.o l c) → ∃ c', as'[i]? = some (.o false c') ∧ CoR K (res A H') H' a c'
/-- what a call hands back -/
def RetP (T : List (Addr × Str)) (K : PySem.W.Frag) (A : Addr → Prop) (vs : List V) (as as' : SS) (H H' : Hp) (v : V) : R → Prop
  | .d x => CallP T K A vs as as' H H' ∧ Rp K (res A H') v x
  | .o c => ∃ a, v = .ref a ∧ NwD H a ∧ ¬ A a ∧ CallP T K (Pls A [a]) vs as as' H H' ∧ CoR K (res (Pls A [a]) H') H' a c
  | .bw _ => False
def liftSp (T : List (Addr × Str)) (K : PySem.W.Frag) (spd : DSp) : Sp := fun vs H Q E => ∃ (A : Addr → Prop) (as : SS) (Qd : R → SS → Prop) (Xd : EC), ArgsR K A H vs as ∧ (∀ a, A a → ∃ o, H a = some o ∧ ∀ ps, o ≠ .tbl ps) ∧ LamX.Tabs T H ∧ spd as Qd Xd ∧
  (∀ r as' v H', Qd r as' → RetP T K A vs as as' H H' v r → Q v H') ∧ ∀ ex as' cls d H', Xd ex as' → CallP T K A vs as as' H H' → ExR K (res A H') H' cls d ex → E cls d H'
section
variable {T : List (Addr × Str)} {K : PySem.W.Frag} {E : L2.St → XK} {A A' B : Addr → Prop} {P : Par} {Z Z' H H1 H2 H' : Hp} {σ σ' : L2.St} {s s1 s2 s' : SS} {vs us : List V} {rs qs : List R} {ts us' : List Addr} {Ed : EC} {v : V} {r : R}
theorem start_at {N : List Str} {vs : List V} {i : Nat} (h : i < vs.length) : (L2.start N vs)[i]? = some (some vs[i]) := by
  unfold L2.start
  rw [List.getElem?_append_left (by rw [List.length_map]; exact h), List.getElem?_map, List.getElem?_eq_getElem h]
  rfl
open Classical in
/-- the state at the start of a body -/
theorem start_ok {N : List Str} (hN : vs.length ≤ N.length) {as : SS} (ar : ArgsR K A H vs as) (hA : ∀ a, A a → ∃ o, H a = some o ∧ ∀ ps, o ≠ .tbl ps) (tb : LamX.Tabs T H) :
    ∃ P : Par, (∀ i a, P i = some a ↔ vs[i]? = some (.ref a) ∧ ∃ l c, as[i]? = some (.o l c)) ∧ StR T K A P (res (Ow vs as) H) (L2.start N vs) (as ++ List.replicate (N.length - as.length) .no) H := by
  have hP : ∀ i : Nat, ∃ o : Option Addr, ∀ a, o = some a ↔ vs[i]? = some (.ref a) ∧ ∃ l c, as[i]? = some (.o l c) := fun i => by
    by_cases h : ∃ a, vs[i]? = some (.ref a) ∧ ∃ l c, as[i]? = some (.o l c)
    · obtain ⟨a, h1, h2⟩ := h
      refine ⟨some a, fun b => ⟨fun e => by cases e; exact ⟨h1, h2⟩, fun e => ?_⟩⟩
      rw [h1] at e
      have := V.ref.inj (Option.some.inj e.1)
      rw [this]
    · exact ⟨none, fun b => ⟨fun e => (by cases e), fun e => absurd ⟨b, e⟩ h⟩⟩
  obtain ⟨P, hp⟩ : ∃ P : Par, ∀ i a, P i = some a ↔ vs[i]? = some (.ref a) ∧ ∃ l c, as[i]? = some (.o l c) := ⟨fun i => Classical.choose (hP i), fun i a => Classical.choose_spec (hP i) a⟩
  refine ⟨P, hp, ?_⟩
  have hl : (L2.start N vs).length = N.length := by
    unfold L2.start
    rw [List.length_append, List.length_map, List.length_replicate]
    omega
  have hsl : ∀ {i : Nat} {sv : SV}, (as ++ List.replicate (N.length - as.length) SV.no)[i]? = some sv → (as[i]? = some sv ∧ i < as.length) ∨ (sv = .no ∧ i < N.length) := fun {i sv} e => by
    by_cases h : i < as.length
    · rw [List.getElem?_append_left h] at e
      exact .inl ⟨e, h⟩
    · rw [List.getElem?_append_right (by omega), List.getElem?_replicate] at e
      split at e
      · exact .inr ⟨(Option.some.inj e).symm, by omega⟩
      · cases e
  have hσ : ∀ {i : Nat}, i < as.length → (L2.start N vs)[i]? = (vs[i]?).map some := fun {i} h => by
    have h' : i < vs.length := by rw [ar.len]; exact h
    rw [start_at h', List.getElem?_eq_getElem h']
    rfl
  have hown : ∀ a, Own (L2.start N vs) (as ++ List.replicate (N.length - as.length) .no) a → Ow vs as a := fun a ⟨i, l, c, h1, h2⟩ => by
    rcases hsl h2 with ⟨h3, h4⟩ | ⟨h3, _⟩
    · rw [hσ h4] at h1
      cases e : vs[i]? with
      | none => rw [e] at h1; cases h1
      | some v =>
        rw [e] at h1
        cases h1
        exact ⟨i, l, c, e, h3⟩
    · cases h3
  have hAo : ∀ a, Ow vs as a → A a := fun a ⟨i, l, c, h1, h2⟩ => by
    obtain ⟨v, e, h⟩ := ar.at_ i _ h2
    rcases h with ⟨x, z, _⟩ | ⟨b, c', z, rfl, h, _⟩
    · cases z
    · rw [h1] at e
      cases e
      exact h
  have hid : ∀ a, Hid A (L2.start N vs) (as ++ List.replicate (N.length - as.length) .no) a → A a := fun a h => h.elim id fun h => hAo a (hown a h)
  have x : LamX.ExtN (res A H) (res (Hid A (L2.start N vs) (as ++ List.replicate (N.length - as.length) .no)) H) := res_less hid
  have ogt : ∀ {i : Nat} {a : Addr} {l : Bool} {c : CO}, (L2.start N vs)[i]? = some (some (.ref a)) → (as ++ List.replicate (N.length - as.length) SV.no)[i]? = some (.o l c) → vs[i]? = some (.ref a) ∧ as[i]? = some (.o l c) := fun {i a l c} h1 h2 => by
    rcases hsl h2 with ⟨h3, h4⟩ | ⟨h3, _⟩
    · rw [hσ h4] at h1
      cases e : vs[i]? with
      | none => rw [e] at h1; cases h1
      | some v =>
        rw [e] at h1
        cases h1
        exact ⟨rfl, h3⟩
    · cases h3
  have lF : ∀ {i : Nat} {l : Bool} {c : CO}, as[i]? = some (.o l c) → l = false := fun {i l c} h => by
    obtain ⟨v, e, h⟩ := ar.at_ i _ h
    rcases h with ⟨x, z, _⟩ | ⟨b, c', z, _⟩
    · cases z
    · cases z
      rfl
  refine ⟨?_, fun i sv e => ?_, fun i j a l c l' c' h1 h2 h3 h4 => ?_, fun i a c h1 h2 => ?_, fun a h o e => absurd (hown a h) (res_some e).1, fun i a c h1 h2 => ?_, fun i a h => ?_, hA, res_all, tb⟩
  · rw [hl, List.length_append, List.length_replicate, ← ar.len]
    omega
  · rcases hsl e with ⟨h3, h4⟩ | ⟨rfl, h4⟩
    · obtain ⟨v, e1, h⟩ := ar.at_ i _ h3
      refine ⟨some v, by rw [hσ h4, e1]; rfl, ?_⟩
      rcases h with ⟨y, rfl, h⟩ | ⟨a, c, rfl, rfl, _, h⟩
      · exact ⟨v, rfl, h.ext x⟩
      · exact ⟨a, rfl, h.ext x fun o h _ => h⟩
    · exact ⟨_, List.getElem?_eq_getElem (by rw [hl]; exact h4), trivial⟩
  · obtain ⟨g1, g2⟩ := ogt h1 h2
    obtain ⟨g3, g4⟩ := ogt h3 h4
    exact ar.inj i j a l c l' c' g1 g2 g3 g4
  · have := lF (ogt h1 h2).2
    cases this
  · obtain ⟨g1, g2⟩ := ogt h1 h2
    exact (hp i a).mpr ⟨g1, _, _, g2⟩
  · obtain ⟨h1, l, c, h2⟩ := (hp i a).mp h
    have hi : i < as.length := (List.getElem?_eq_some_iff.mp h2).1
    refine ⟨hAo a ⟨i, l, c, h1, h2⟩, by rw [hσ hi, h1]; rfl, c, ?_⟩
    rw [List.getElem?_append_left hi, h2, lF h2]
/-- what a caller sees of the arguments -/
def cn : SV → SV
  | .o false c => .o false c
  | _ => .no
theorem call_end {as : SS} {P : Par} {A : Addr → Prop} (hP : ∀ i a, P i = some a ↔ vs[i]? = some (.ref a) ∧ ∃ l c, as[i]? = some (.o l c)) (S : StR T K A P (res (Ow vs as) H) σ' s' H') : CallP T K A vs as ((s'.take as.length).map cn) H H' := by
  refine ⟨S.tb, fun b o n e t => S.fr b o (by rw [res_eq n]; exact e) t, fun i a l c h1 h2 => ?_⟩
  obtain ⟨_, g1, c', g2⟩ := S.pin i a ((hP i a).mpr ⟨h1, l, c, h2⟩)
  have hi : i < as.length := (List.getElem?_eq_some_iff.mp h2).1
  obtain ⟨ov, e1, b, rfl, q⟩ := S.sl i _ g2
  rw [g1] at e1
  cases e1
  exact ⟨c', by rw [List.getElem?_map, List.getElem?_take_of_lt hi, g2]; rfl, q.ext (res_less fun b z => .inl z) fun o h _ => h⟩
theorem rt_end {as : SS} (ar : ArgsR K A H vs as) (hP : ∀ i a, P i = some a ↔ vs[i]? = some (.ref a) ∧ ∃ l c, as[i]? = some (.o l c)) (h : RtR T K A P (res (Ow vs as) H) v H' σ' s' r) : RetP T K A vs as ((s'.take as.length).map cn) H H' v r := by
  cases r with
  | d x => exact ⟨call_end hP h.1, h.2⟩
  | bw i => exact h
  | o c =>
    obtain ⟨a, e, n, nA, S, h⟩ := h
    refine ⟨a, e, fun o e2 => ?_, nA, call_end hP S, h⟩
    refine Classical.byContradiction fun hn => ?_
    have hn' : ∀ ps, o ≠ .tbl ps := fun ps z => hn ⟨ps, z⟩
    have no : ¬ Ow vs as a := fun ⟨i, l, c, h1, h2⟩ => by
      obtain ⟨v, e, h⟩ := ar.at_ i _ h2
      rcases h with ⟨x, z, _⟩ | ⟨b, c', z, rfl, h, _⟩
      · cases z
      · rw [h1] at e
        cases e
        exact nA h
    exact n.ne (by rw [res_eq no]; exact e2) hn' rfl
/-- THE RULE for a def, over data -/
theorem fnD {PP : Program} {w : World} {mg : Str → Option Value} {base : Heap} {x qual : Str} {st : Stmt} {f : Addr} {fd : FuncData} {N ps : List Str} {k : Nat} (F : Fun K x qual st f fd) (S : FnScope N ps (defScope st)) {spd : DSp} (hlen : ∀ as Q X, spd as Q X → as.length = ps.length)
    (h : ∀ (cdv : Value) (Ar : Around) (outer : List Env) (s : Shared) (H : Hp) (E : XK), Room k (Ar.deeper (envOfC qual (defScope st) s.heap.objs.size f cdv)) →
      ∃ t td, PSs (cxOf (L2.CX PP w) PP w K mg base N qual (defScope st) f cdv Ar outer s H E) (defBody st) t ∧ LiftS T K (fun _ => E) t td ∧
        ∀ as Q X, spd as Q X → td { nx := fun s => Q (.d .non) ((s.take as.length).map cn), rt := fun r s => Q r ((s.take as.length).map cn) } (fun ex s => X ex ((s.take as.length).map cn)) (as ++ List.replicate (N.length - as.length) .no)) :
    FnOk PP w K mg base (L2.CX PP w) (k + 1) f fd ps (liftSp T K spd) := by
  have hpl : ps.length ≤ N.length := by have := congrArg List.length S.pre; rw [List.length_take] at this; omega
  refine F.okX S (fun vs H Q E ⟨A, as, Qd, Xd, ar, _, _, q, _⟩ => by rw [ar.len]; exact hlen _ _ _ q) (fun cdv Ar outer s H vs Q E hr ⟨A, as, Qd, Xd, ar, hA, tb, q, qn, qx⟩ => ?_)
  obtain ⟨t, td, h1, h2, h3⟩ := h cdv Ar outer s H E hr
  have hl : vs.length ≤ N.length := by rw [ar.len, hlen _ _ _ q]; exact hpl
  obtain ⟨P, hP, S0⟩ := start_ok hl ar hA tb
  refine ⟨t, h1, h2 A P _ _ _ H _ _ _ S0 (h3 _ _ _ q) ⟨fun σ' s' H' S' q => ?_, fun v r σ' s' H' hr q => ?_, fun _ _ _ _ q => q.elim, fun _ _ _ _ q => q.elim⟩ fun cls d H' ex σ' s' S' hx q => ?_⟩
  · exact qn (.d .non) _ .non H' q ⟨call_end hP S', Rp.sc V.non⟩
  · exact qn r _ v H' q (rt_end ar hP hr)
  · exact qx ex _ cls d H' q (call_end hP S') (hx.ext (res_less fun b z => .inl z))
/-! ### what is one's own changes -/
theorem StR.mut {M : Addr → Prop} (S : StR T K A P Z σ s H) (k : Kp M H H') (hM : ∀ a, M a → Own σ s a) (tb : LamX.Tabs T H') (hl : s'.length = s.length)
    (hs : ∀ (j : Nat) sv', s'[j]? = some sv' → (s[j]? = some sv' ∧ ∀ a l c, σ[j]? = some (some (.ref a)) → sv' = .o l c → ¬ M a) ∨ ∃ l c c', s[j]? = some (.o l c) ∧ sv' = .o l c' ∧ ∀ a, σ[j]? = some (some (.ref a)) → CoR K (res (Hid A' σ s) H') H' a c')
    (ha : ∀ a, A' a → A a ∨ (NwD H a ∧ ∃ o, H' a = some o ∧ ∀ ps, o ≠ .tbl ps)) (hA : ∀ a, A a → A' a) (hO : ∀ a, M a → ∃ o, H' a = some o ∧ ∀ ps, o ≠ .tbl ps) : StR T K A' P Z σ s' H' ∧ ∀ a, Own σ s' a ↔ Own σ s a := by
  have sh : ∀ {j : Nat} {l : Bool} {c : CO}, s'[j]? = some (.o l c) → ∃ c', s[j]? = some (.o l c') := fun {j l c} e => by
    rcases hs j _ e with ⟨h, _⟩ | ⟨l', c1, c2, h, z, _⟩
    · exact ⟨c, h⟩
    · cases z
      exact ⟨c1, h⟩
  have sh' : ∀ {j : Nat} {l : Bool} {c : CO}, s[j]? = some (.o l c) → ∃ c', s'[j]? = some (.o l c') := fun {j l c} e => by
    have hj : j < s'.length := by rw [hl]; exact (List.getElem?_eq_some_iff.mp e).1
    rcases hs j _ (List.getElem?_eq_getElem hj) with ⟨h, _⟩ | ⟨l', c1, c2, h, z, _⟩
    · rw [e] at h
      exact ⟨c, by rw [List.getElem?_eq_getElem hj, ← Option.some.inj h]⟩
    · rw [e] at h
      cases h
      exact ⟨c2, by rw [List.getElem?_eq_getElem hj, z]⟩
  have own : ∀ a, Own σ s' a ↔ Own σ s a := fun a => ⟨fun ⟨i, l, c, h1, h2⟩ => (sh h2).elim fun c' h => ⟨i, l, c', h1, h⟩, fun ⟨i, l, c, h1, h2⟩ => (sh' h2).elim fun c' h => ⟨i, l, c', h1, h⟩⟩
  have hid : Hid A' σ s' = Hid A' σ s := funext fun a => propext (or_congr_right (own a))
  have x : LamX.ExtN (res (Hid A σ s) H) (res (Hid A' σ s) H') := res_ext k (fun a z => .inr (hM a z)) fun b z => z.elim (fun z => (ha b z).elim (fun z => .inl (.inl z)) fun z => .inr z.1) fun z => .inl (.inr z)
  refine ⟨⟨by rw [S.len, hl], fun j sv e => ?_, fun i j a l c l' c' h1 h2 h3 h4 => ?_, fun i a c h1 h2 z => ?_, fun a h => S.zo a ((own a).mp h), fun i a c h1 h2 => ?_, fun i a h => ?_, fun a h => ?_, fun b o e t => k b o (fun z => (S.zo b (hM b z)).ne e t rfl) (S.fr b o e t) t, tb⟩, own⟩
  · rw [hid]
    rcases hs j _ e with ⟨h, hn⟩ | ⟨l', c1, c2, h, rfl, hc⟩
    · obtain ⟨ov, e1, q⟩ := S.sl j _ h
      refine ⟨ov, e1, ?_⟩
      cases sv with
      | no => trivial
      | d y => obtain ⟨u, e, r⟩ := q; exact ⟨u, e, r.ext x⟩
      | o l c =>
        obtain ⟨a, rfl, r⟩ := q
        exact ⟨a, rfl, r.ext x fun o e2 t => k a o (hn a l c e1 rfl) e2 t⟩
    · obtain ⟨ov, e1, a, rfl, q⟩ := S.sl j _ h
      exact ⟨_, e1, a, rfl, hc a e1⟩
  · obtain ⟨c1, g1⟩ := sh h2
    obtain ⟨c2, g2⟩ := sh h4
    exact S.inj i j a l c1 l' c2 h1 g1 h3 g2
  · obtain ⟨c1, g1⟩ := sh h2
    rcases ha a z with z | z
    · exact S.loc i a c1 h1 g1 z
    · obtain ⟨o, e, t⟩ := S.hid (.inr ⟨i, true, c1, h1, g1⟩)
      exact z.1.ne e t rfl
  · obtain ⟨c1, g1⟩ := sh h2
    exact S.par i a c1 h1 g1
  · obtain ⟨h1, h2, c, h3⟩ := S.pin i a h
    exact ⟨hA a h1, h2, sh' h3⟩
  · rcases ha a h with h | h
    · by_cases m : M a
      · exact hO a m
      · obtain ⟨o, e, t⟩ := S.aol a h
        exact ⟨o, k a o m e t, t⟩
    · exact h.2
end
end DL
set_option Elab.async false
set_option linter.all false
set_option maxRecDepth 100000
set_option maxHeartbeats 1000000
/-! calls, from the caller's side -/
namespace DL
open PySem PySem.Spec PyProof.Rows L2 Mv
def toArg (s : SS) : R → Option SV
  | .d x => some (.d x)
  | .o c => some (.d c.frz)
  | .bw i => match s[i]? with
    | some (.o _ c) => some (.o false c)
    | some (.d x) => some (.d x)
    | _ => none
def toArgs (s : SS) : List R → Option SS
  | [] => some []
  | r :: rs => match toArg s r, toArgs s rs with
    | some a, some as => some (a :: as)
    | _, _ => none
def bws : List R → List Nat
  | [] => []
  | .bw i :: rs => i :: bws rs
  | _ :: rs => bws rs
def setO (s : SS) (i : Nat) (c : CO) : SS := match s[i]? with
  | some (.o l _) => s.set i (.o l c)
  | _ => s
def back : SS → List R → SS → SS
  | s, .bw i :: rs, .o _ c :: as => back (setO s i c) rs as
  | s, _ :: rs, _ :: as => back s rs as
  | s, _, _ => s
section
variable {T : List (Addr × Str)} {K : PySem.W.Frag} {E : L2.St → XK} {A A' B : Addr → Prop} {P : Par} {Z Z' H H1 H2 H' : Hp} {σ σ' : L2.St} {s s1 s2 s' : SS} {vs us : List V} {rs qs : List R} {ts us' : List Addr} {Ed : EC} {v : V} {r : R}
theorem setO_len {i : Nat} {c : CO} : (setO s i c).length = s.length := by
  unfold setO
  split
  · rw [List.length_set]
  · rfl
theorem setO_at {i j : Nat} {c : CO} {sv : SV} (h : (setO s i c)[j]? = some sv) : (s[j]? = some sv ∧ (j ≠ i ∨ ∀ l c, s[j]? ≠ some (.o l c))) ∨ ∃ l c0, j = i ∧ s[j]? = some (.o l c0) ∧ sv = .o l c := by
  unfold setO at h
  split at h
  · rename_i l c0 e
    by_cases n : i = j
    · subst n
      rw [List.getElem?_set_self (List.getElem?_eq_some_iff.mp e).1] at h
      exact .inr ⟨l, c0, rfl, e, (Option.some.inj h).symm⟩
    · rw [List.getElem?_set_ne n] at h
      exact .inl ⟨h, .inl fun z => n z.symm⟩
  · rename_i e
    refine .inl ⟨h, ?_⟩
    by_cases n : j = i
    · subst n
      exact .inr fun l c z => e l c z
    · exact .inl n
theorem setO_shape {i j : Nat} {c : CO} {l : Bool} {c1 : CO} (h0 : (setO s i c)[j]? = some (.o l c1)) : ∃ c2, s[j]? = some (.o l c2) := by
  rcases setO_at h0 with ⟨h, _⟩ | ⟨l', c0, _, h, z⟩
  · exact ⟨_, h⟩
  · cases z
    exact ⟨_, h⟩
theorem back_ok : ∀ (rs : List R) (as : SS) (s : SS), (back s rs as).length = s.length ∧ ∀ (j : Nat) sv, (back s rs as)[j]? = some sv →
    (s[j]? = some sv ∧ ((∀ (k : Nat) l c, rs[k]? = some (.bw j) → as[k]? ≠ some (.o l c)) ∨ ∀ l c, s[j]? ≠ some (.o l c))) ∨ ∃ (k : Nat) (l l' : Bool) (c c' : CO), rs[k]? = some (.bw j) ∧ as[k]? = some (.o l' c') ∧ s[j]? = some (.o l c) ∧ sv = .o l c'
  | [], as, s => by
    have e : back s [] as = s := by cases as <;> rfl
    rw [e]
    exact ⟨rfl, fun j sv h => .inl ⟨h, .inl fun k l c z => by simp at z⟩⟩
  | r :: rs, [], s => by
    have e : back s (r :: rs) [] = s := by cases r <;> rfl
    rw [e]
    exact ⟨rfl, fun j sv h => .inl ⟨h, .inl fun k l c _ z => by simp at z⟩⟩
  | r :: rs, a :: as, s => by
    have plain : ((∀ j, r ≠ .bw j) ∨ ∀ l c, a ≠ .o l c) → back s (r :: rs) (a :: as) = back s rs as → (back s (r :: rs) (a :: as)).length = s.length ∧ ∀ (j : Nat) sv, (back s (r :: rs) (a :: as))[j]? = some sv →
        (s[j]? = some sv ∧ ((∀ (k : Nat) l c, (r :: rs)[k]? = some (.bw j) → (a :: as)[k]? ≠ some (.o l c)) ∨ ∀ l c, s[j]? ≠ some (.o l c))) ∨ ∃ (k : Nat) (l l' : Bool) (c c' : CO), (r :: rs)[k]? = some (.bw j) ∧ (a :: as)[k]? = some (.o l' c') ∧ s[j]? = some (.o l c) ∧ sv = .o l c' := fun hn e => by
      rw [e]
      obtain ⟨h1, h2⟩ := back_ok rs as s
      refine ⟨h1, fun j sv h => ?_⟩
      rcases h2 j sv h with ⟨g1, g2 | g2⟩ | ⟨k, l, l', c, c', g1, g2, g3⟩
      · refine .inl ⟨g1, .inl fun k l c z1 z2 => ?_⟩
        cases k with
        | zero =>
          rcases hn with hn | hn
          · exact hn j (Option.some.inj z1)
          · exact hn l c (Option.some.inj z2)
        | succ k => exact g2 k l c z1 z2
      · exact .inl ⟨g1, .inr g2⟩
      · exact .inr ⟨k + 1, l, l', c, c', g1, g2, g3⟩
    cases r with
    | d x => exact plain (.inl fun j z => by cases z) rfl
    | o c => exact plain (.inl fun j z => by cases z) rfl
    | bw i =>
      cases a with
      | no => exact plain (.inr fun l c z => by cases z) rfl
      | d x => exact plain (.inr fun l c z => by cases z) rfl
      | o l0 c0 =>
        have e : back s (.bw i :: rs) (.o l0 c0 :: as) = back (setO s i c0) rs as := rfl
        rw [e]
        obtain ⟨h1, h2⟩ := back_ok rs as (setO s i c0)
        refine ⟨by rw [h1, setO_len], fun j sv h => ?_⟩
        rcases h2 j sv h with ⟨g1, g2⟩ | ⟨k, l, l', c, c', g1, g2, g3, g4⟩
        · rcases setO_at g1 with ⟨f1, f2⟩ | ⟨l, c1, rfl, f2, rfl⟩
          · refine .inl ⟨f1, ?_⟩
            rcases g2 with g2 | g2
            · rcases f2 with f2 | f2
              · refine .inl fun k l c z1 z2 => ?_
                cases k with
                | zero =>
                  cases z1
                  exact f2 rfl
                | succ k => exact g2 k l c z1 z2
              · exact .inr f2
            · refine .inr fun l c z => ?_
              rw [f1] at z
              cases z
              exact g2 l c g1
          · exact .inr ⟨0, l, l0, c1, c0, rfl, rfl, f2, rfl⟩
        · obtain ⟨c2, g5⟩ := setO_shape g3
          exact .inr ⟨k + 1, l, l', c2, c', g1, g2, g5, g4⟩
theorem toArgs_ok : ∀ {rs : List R} {as : SS}, toArgs s rs = some as → as.length = rs.length ∧ ∀ (k : Nat) sv, as[k]? = some sv → ∃ r, rs[k]? = some r ∧ toArg s r = some sv
  | [], as, e => by
    cases e
    exact ⟨rfl, fun k sv h => by simp at h⟩
  | r :: rs, as, e => by
    have e' : (match toArg s r, toArgs s rs with | some a, some as => some (a :: as) | _, _ => none) = some as := e
    cases e1 : toArg s r with
    | none => rw [e1] at e'; cases e'
    | some a =>
      cases e2 : toArgs s rs with
      | none => rw [e1, e2] at e'; cases e'
      | some bs =>
        rw [e1, e2] at e'
        cases e'
        obtain ⟨h1, h2⟩ := toArgs_ok e2
        refine ⟨congrArg (· + 1) h1, fun k sv h => ?_⟩
        cases k with
        | zero =>
          cases h
          exact ⟨r, rfl, e1⟩
        | succ k => exact h2 k sv h
theorem bws_mem : ∀ {rs : List R} {k i : Nat}, rs[k]? = some (.bw i) → i ∈ bws rs
  | [], k, i, h => by simp at h
  | r :: rs, 0, i, h => by
    cases h
    exact List.mem_cons_self
  | r :: rs, k + 1, i, h => by
    have := bws_mem (rs := rs) (k := k) h
    cases r with
    | d => exact this
    | o => exact this
    | bw => exact List.mem_cons_of_mem _ this
theorem bws_inj : ∀ {rs : List R} {k l i : Nat}, (bws rs).Nodup → rs[k]? = some (.bw i) → rs[l]? = some (.bw i) → k = l
  | [], k, l, i, _, h, _ => by simp at h
  | r :: rs, k, l, i, nd, h1, h2 => by
    have nd' : (bws rs).Nodup := by
      cases r with
      | d => exact nd
      | o => exact nd
      | bw => exact (List.nodup_cons.mp nd).2
    cases k with
    | zero =>
      cases l with
      | zero => rfl
      | succ l =>
        cases h1
        exact absurd (bws_mem (rs := rs) (k := l) h2) (List.nodup_cons.mp nd).1
    | succ k =>
      cases l with
      | zero =>
        cases h2
        exact absurd (bws_mem (rs := rs) (k := k) h1) (List.nodup_cons.mp nd).1
      | succ l => exact congrArg (· + 1) (bws_inj (rs := rs) (k := k) (l := l) nd' h1 h2)
theorem TR.at_ {G : Hp} (h : TR K G H σ vs rs ts) : vs.length = rs.length ∧ ∀ (k : Nat) r, rs[k]? = some r → ∃ v t, vs[k]? = some v ∧ TR K G H σ [v] [r] t ∧ ∀ a ∈ t, a ∈ ts := by
  induction h with
  | nil => exact ⟨rfl, fun k r h => by simp at h⟩
  | d h _ ih =>
    refine ⟨congrArg (· + 1) ih.1, fun k r e => ?_⟩
    cases k with
    | zero => cases e; exact ⟨_, [], rfl, .d h .nil, fun a z => by cases z⟩
    | succ k => exact ih.2 k r e
  | o h _ ih =>
    refine ⟨congrArg (· + 1) ih.1, fun k r e => ?_⟩
    cases k with
    | zero => cases e; exact ⟨_, [_], rfl, .o h .nil, fun a z => by rw [List.mem_singleton.mp z]; exact List.mem_cons_self⟩
    | succ k =>
      obtain ⟨v, t, g1, g2, g3⟩ := ih.2 k r e
      exact ⟨v, t, g1, g2, fun a z => List.mem_cons_of_mem _ (g3 a z)⟩
  | bw h _ ih =>
    refine ⟨congrArg (· + 1) ih.1, fun k r e => ?_⟩
    cases k with
    | zero => cases e; exact ⟨_, [], rfl, .bw h .nil, fun a z => by cases z⟩
    | succ k => exact ih.2 k r e
/-- a place that is new behind what was reckoned was new before -/
theorem Post.nwd (p : Post T K A P Z σ s s1 H H1 vs rs ts) {a : Addr} (n : NwD H1 a) : NwD H a := fun o' e' => by
  refine Classical.byContradiction fun q => ?_
  have q' : ∀ ps, o' ≠ .tbl ps := fun ps z => q ⟨ps, z⟩
  by_cases w : Own σ s a
  · obtain ⟨o2, e2, t2⟩ := p.ot a w
    exact n.ne e2 t2 rfl
  · exact n.ne (p.kp a o' w e' q') q' rfl
/-- the arguments, handed over -/
theorem Post.args (p : Post T K A P Z σ s s1 H H1 vs rs ts) (S : StR T K A P Z σ s H) {as : SS} (e : toArgs s1 rs = some as) (nd : (bws rs).Nodup) {dvs : List V} {dds : List D} (hd : ∀ G, Rps K G dvs dds) :
    ArgsR K (Hid A σ s1) H1 (vs ++ dvs) (as ++ dds.map .d) := by
  obtain ⟨l1, a1⟩ := toArgs_ok e
  obtain ⟨l2, a2⟩ := p.tr.at_
  have hl : vs.length = as.length := by rw [l2, l1]
  have S1 := post_test (p.drop S.pa) S
  have split : ∀ {i : Nat} {sv : SV}, (as ++ dds.map .d)[i]? = some sv → (as[i]? = some sv ∧ (vs ++ dvs)[i]? = vs[i]?) ∨ ∃ x v, sv = .d x ∧ (vs ++ dvs)[i]? = some v ∧ ∀ G, Rp K G v x := fun {i sv} h => by
    by_cases n : i < as.length
    · rw [List.getElem?_append_left n] at h
      exact .inl ⟨h, List.getElem?_append_left (by rw [hl]; exact n)⟩
    · rw [List.getElem?_append_right (by omega), List.getElem?_map] at h
      cases e : dds[i - as.length]? with
      | none => rw [e] at h; cases h
      | some x =>
        rw [e] at h
        cases h
        obtain ⟨v, e1, _⟩ := (hd H).at e
        refine .inr ⟨x, v, rfl, by rw [List.getElem?_append_right (by omega), hl]; exact e1, fun G => ?_⟩
        obtain ⟨v', e2, r⟩ := (hd G).at e
        rw [e1] at e2
        cases e2
        exact r
  have own : ∀ {i : Nat} {a : Addr} {l : Bool} {c : CO}, (vs ++ dvs)[i]? = some (.ref a) → (as ++ dds.map .d)[i]? = some (.o l c) → ∃ j l', rs[i]? = some (.bw j) ∧ σ[j]? = some (some (.ref a)) ∧ s1[j]? = some (.o l' c) ∧ l = false := fun {i a l c} h1 h2 => by
    rcases split h2 with ⟨g1, g2⟩ | ⟨x, v, z, _⟩
    · rw [g2] at h1
      obtain ⟨r, e1, e2⟩ := a1 i _ g1
      obtain ⟨v, t, e3, e4, _⟩ := a2 i r e1
      rw [h1] at e3
      cases e3
      cases r with
      | d x => cases e2
      | o c => cases e2
      | bw j =>
        have e2' : (match s1[j]? with | some (.o _ c) => some (.o false c) | some (.d x) => some (.d x) | _ => none) = some (SV.o l c) := e2
        cases e4 with
        | bw h4 _ =>
          cases hs : s1[j]? with
          | none => rw [hs] at e2'; cases e2'
          | some sv =>
            rw [hs] at e2'
            cases sv with
            | no => cases e2'
            | d x => cases e2'
            | o l' c' =>
              cases e2'
              exact ⟨j, l', e1, h4, hs, rfl⟩
    · cases z
  refine ⟨by rw [List.length_append, List.length_append, hl, List.length_map, (hd H).length], fun i sv h => ?_, fun i j a l c l' c' h1 h2 h3 h4 => ?_⟩
  · rcases split h with ⟨g1, g2⟩ | ⟨x, v, rfl, g1, g2⟩
    · rw [g2]
      obtain ⟨r, e1, e2⟩ := a1 i _ g1
      obtain ⟨v, t, e3, e4, e5⟩ := a2 i r e1
      refine ⟨v, e3, ?_⟩
      have x0 : LamX.ExtN (res (Hid (Pls A ts) σ s1) H1) (res (Hid A σ s1) H1) := res_less fun b z => z.elim (fun z => .inl (.inl z)) .inr
      cases e4 with
      | d h4 _ =>
        cases e2
        exact .inl ⟨_, rfl, h4.ext x0⟩
      | @o a c _ _ us h4 _ =>
        cases e2
        have ha := e5 a List.mem_cons_self
        refine .inl ⟨_, rfl, h4.frz x0 fun o e => ?_⟩
        rw [res_eq fun z => z.elim (p.nA S a ha) (p.fre a ha)]
        exact e
      | @bw _ j _ _ _ h4 _ =>
        have e2' : (match s1[j]? with | some (.o _ c) => some (.o false c) | some (.d x) => some (.d x) | _ => none) = some sv := e2
        cases hs : s1[j]? with
        | none => rw [hs] at e2'; cases e2'
        | some sw =>
          rw [hs] at e2'
          obtain ⟨ov, e6, q⟩ := S1.sl j _ hs
          rw [h4] at e6
          cases e6
          cases sw with
          | no => cases e2'
          | d x =>
            cases e2'
            obtain ⟨u, e7, q⟩ := q
            cases e7
            exact .inl ⟨x, rfl, q⟩
          | o l c =>
            cases e2'
            obtain ⟨a, e7, q⟩ := q
            cases e7
            exact .inr ⟨a, c, rfl, rfl, .inr ⟨j, l, c, h4, hs⟩, q⟩
    · exact ⟨v, g1, .inl ⟨x, rfl, g2 _⟩⟩
  · obtain ⟨k1, l1, g1, g2, g3, _⟩ := own h1 h2
    obtain ⟨k2, l2, f1, f2, f3, _⟩ := own h3 h4
    have := S1.inj k1 k2 a l1 c l2 c' g2 g3 f2 f3
    subst this
    exact bws_inj nd g1 f1
/-- behind the call -/
theorem Post.called (p : Post T K A P Z σ s s1 H H1 vs rs ts) (S : StR T K A P Z σ s H) {as as' : SS} (e : toArgs s1 rs = some as) (nd : (bws rs).Nodup) {dvs : List V} {dds : List D} (hd : ∀ G, Rps K G dvs dds)
    (c : CallP T K (Hid A' σ s1) (vs ++ dvs) (as ++ dds.map .d) as' H1 H2) (ha : ∀ a, A' a → A a ∨ (NwD H1 a ∧ ∃ o, H2 a = some o ∧ ∀ ps, o ≠ .tbl ps)) (hA : ∀ a, A a → A' a) :
    StR T K A' P Z σ (back s1 rs as') H2 ∧ (∀ a, Own σ (back s1 rs as') a ↔ Own σ s1 a) ∧ Kp (Own σ s) H H2 ∧ ∀ a, Own σ s a → ∃ o, H2 a = some o ∧ ∀ ps, o ≠ .tbl ps := by
  have ar := p.args S e nd hd
  have S1 := post_test (p.drop S.pa) S
  obtain ⟨l1, a1⟩ := toArgs_ok e
  obtain ⟨l2, a2⟩ := p.tr.at_
  have hl : vs.length = as.length := by rw [l2, l1]
  obtain ⟨b1, b2⟩ := back_ok rs as' s1
  -- an argument's own object is a slot's
  have own : ∀ {i : Nat} {a : Addr} {l : Bool} {c : CO}, (vs ++ dvs)[i]? = some (.ref a) → (as ++ dds.map .d)[i]? = some (.o l c) → ∃ j l', rs[i]? = some (.bw j) ∧ σ[j]? = some (some (.ref a)) ∧ s1[j]? = some (.o l' c) := fun {i a l c} h1 h2 => by
    have n : i < as.length := by
      refine Classical.byContradiction fun n => ?_
      rw [List.getElem?_append_right (by omega), List.getElem?_map] at h2
      cases e : dds[i - as.length]? with
      | none => rw [e] at h2; cases h2
      | some x => rw [e] at h2; cases h2
    rw [List.getElem?_append_left n] at h2
    rw [List.getElem?_append_left (by rw [hl]; exact n)] at h1
    obtain ⟨r, e1, e2⟩ := a1 i _ h2
    obtain ⟨v, t, e3, e4, _⟩ := a2 i r e1
    rw [h1] at e3
    cases e3
    cases r with
    | d x => cases e2
    | o c => cases e2
    | bw j =>
      have e2' : (match s1[j]? with | some (.o _ c) => some (.o false c) | some (.d x) => some (.d x) | _ => none) = some (SV.o l c) := e2
      cases e4 with
      | bw h4 _ =>
        cases hs : s1[j]? with
        | none => rw [hs] at e2'; cases e2'
        | some sv =>
          rw [hs] at e2'
          cases sv with
          | no => cases e2'
          | d x => cases e2'
          | o l' c' =>
            cases e2'
            exact ⟨j, l', e1, h4, hs⟩
  have hM : ∀ a, Ow (vs ++ dvs) (as ++ dds.map .d) a → Own σ s1 a := fun a ⟨i, l, c, h1, h2⟩ => by
    obtain ⟨j, l', g1, g2, g3⟩ := own h1 h2
    exact ⟨j, l', c, g2, g3⟩
  have ow2 : ∀ a, Ow (vs ++ dvs) (as ++ dds.map .d) a → ∃ o, H2 a = some o ∧ ∀ ps, o ≠ .tbl ps := fun a ⟨i, l, c1, h1, h2⟩ => by
    obtain ⟨c', _, q⟩ := c.own i a l c1 h1 h2
    exact q.there
  have hidA : ∀ b, Hid A σ s1 b → Hid A' σ s1 b := fun b z => z.elim (fun z => .inl (hA b z)) .inr
  have hm : StR T K A' P Z σ (back s1 rs as') H2 ∧ ∀ a, Own σ (back s1 rs as') a ↔ Own σ s1 a := by
    refine S1.mut c.kp hM c.tb b1 (fun j sv h => ?_) ha hA ow2
    rcases b2 j sv h with ⟨g1, g2⟩ | ⟨k, l, l', c1, c2, g1, g2, g3, rfl⟩
    · refine .inl ⟨g1, fun a l c1 h1 h2 h3 => ?_⟩
      subst h2
      obtain ⟨i, l3, c3, f1, f2⟩ := h3
      obtain ⟨j', l4, f3, f4, f5⟩ := own f1 f2
      have := S1.inj j j' a l c1 l4 c3 h1 g1 f4 f5
      subst this
      obtain ⟨c', f6, _⟩ := c.own i a l3 c3 f1 f2
      rcases g2 with g2 | g2
      · exact g2 i _ _ f3 f6
      · exact g2 _ _ g1
    · refine .inr ⟨l, c1, c2, g3, rfl, fun a h1 => ?_⟩
      obtain ⟨v, t, e3, e4, _⟩ := a2 k _ g1
      cases e4 with
      | bw h4 _ =>
        rw [h1] at h4
        cases h4
        have n : k < as.length := by rw [l1]; exact (List.getElem?_eq_some_iff.mp g1).1
        obtain ⟨r, e5, e6⟩ := a1 k _ (List.getElem?_eq_getElem n)
        rw [g1] at e5
        cases e5
        have e6' : (match s1[j]? with | some (.o _ c) => some (.o false c) | some (.d x) => some (.d x) | _ => none) = some as[k] := e6
        rw [g3] at e6'
        have e7 : as[k]? = some (.o false c1) := by rw [List.getElem?_eq_getElem n]; exact e6'.symm
        have v1 : (vs ++ dvs)[k]? = some (.ref a) := by rw [List.getElem?_append_left (by rw [hl]; exact n)]; exact e3
        have v2 : (as ++ dds.map .d)[k]? = some (.o false c1) := by rw [List.getElem?_append_left n]; exact e7
        obtain ⟨c', f6, f7⟩ := c.own k a _ _ v1 v2
        rw [g2] at f6
        cases f6
        exact f7
  obtain ⟨S2, ho⟩ := hm
  refine ⟨S2, ho, fun b o n e t => c.kp b o (fun z => n (p.shr b (hM b z))) (p.kp b o n e t) t, fun a h => ?_⟩
  by_cases m : Ow (vs ++ dvs) (as ++ dds.map .d) a
  · exact ow2 a m
  · obtain ⟨o, e, t⟩ := p.ot a h
    exact ⟨o, c.kp a o m e t, t⟩
end
end DL
set_option Elab.async false
set_option linter.all false
set_option maxRecDepth 100000
set_option maxHeartbeats 1000000
/-! calls, methods, objects: readings -/
namespace DL
open PySem PySem.Spec PyProof.Rows L2 Mv
section
variable {T : List (Addr × Str)} {K : PySem.W.Frag} {E : L2.St → XK} {A A' B : Addr → Prop} {P : Par} {Z Z' H H1 H2 H' : Hp} {σ σ' : L2.St} {s s1 s2 s' : SS} {vs us : List V} {rs qs : List R} {ts us' : List Addr} {Ed : EC} {v : V} {r : R}
theorem hid_pls {a : Addr} : Hid (Pls A [a]) σ s = Pls (Hid A σ s) [a] := funext fun b => propext ⟨fun z => z.elim (fun z => z.elim (fun z => .inl (.inl z)) .inr) fun z => .inl (.inr z), fun z => z.elim (fun z => z.elim (fun z => .inl (.inl z)) .inr) fun z => .inl (.inr z)⟩
theorem hid_own (h : ∀ a, Own σ s' a ↔ Own σ s a) : Hid A σ s' = Hid A σ s := funext fun b => propext (or_congr_right (h b))
theorem Post.ret (p : Post T K A P Z σ s s1 H H1 vs rs ts) (S : StR T K A P Z σ s H) {as as' : SS} (e : toArgs s1 rs = some as) (nd : (bws rs).Nodup) {dvs : List V} {dds : List D} (hd : ∀ G, Rps K G dvs dds)
    (c : RetP T K (Hid A σ s1) (vs ++ dvs) (as ++ dds.map SV.d) as' H1 H2 v r) : ∃ ts', Post T K A P Z σ s (back s1 rs as') H H2 [v] [r] ts' := by
  cases r with
  | bw i => exact c.elim
  | d x =>
    obtain ⟨S2, ho, kp, ot⟩ := p.called S e nd hd c.1 (fun a h => .inl h) fun a h => h
    refine ⟨[], .nil, fun _ z => (by cases z), fun _ z => (by cases z), by rw [pls_nil]; exact S2, .d ?_ .nil, kp, fun a z => p.shr a ((ho a).mp z), ot⟩
    rw [pls_nil, hid_own ho]
    exact c.2
  | o co =>
    obtain ⟨a, rfl, n, nA, c, q⟩ := c
    rw [← hid_pls] at c q
    obtain ⟨o, ho, ht⟩ := q.there
    obtain ⟨S2, hw, kp, ot⟩ := p.called S e nd hd c (fun b h => h.elim .inl fun h => .inr (by rw [List.mem_singleton.mp h]; exact ⟨n, o, ho, ht⟩)) fun a h => .inl h
    refine ⟨[a], by simp, fun b h => by rw [List.mem_singleton.mp h]; exact p.nwd n, fun b h => ?_, S2, .o ?_ .nil, kp, fun a z => p.shr a ((hw a).mp z), ot⟩
    · rw [List.mem_singleton.mp h]
      exact fun z => nA (.inr ((hw a).mp z))
    · rw [hid_own hw]
      exact q
def dCall (spd : DSp) (dds : List D) (da : DA) : DE := fun s Q E => da s (fun rs s1 => ∃ as, toArgs s1 rs = some as ∧ (bws rs).Nodup ∧ spd (as ++ dds.map SV.d) (fun r as' => Q r (back s1 rs as')) (fun ex as' => E ex (back s1 rs as'))) E
theorem lift_call {E : XK} {spd : DSp} {dvs : List V} {dds : List D} {ta : TA} {da : DA} (ha : LiftA T K (fun _ => E) ta da) (hd : ∀ G, Rps K G dvs dds) : LiftE T K (fun _ => E) (tCall (liftSp T K spd) dvs E ta) (dCall spd dds da) := fun A P Z σ s H Qd Ed Q S h k x =>
  ha A P Z σ s H _ Ed _ S h (fun vs H1 rs ts s1 p ⟨as, e, nd, q⟩ => by
    have S1 := post_test (p.drop S.pa) S
    refine ⟨Hid A σ s1, as ++ dds.map SV.d, _, _, p.args S e nd hd, S1.rok, S1.tb, q, fun r as' v H' q c => ?_, fun ex as' cls d H' q c hx => ?_⟩
    · obtain ⟨ts', p2⟩ := p.ret S e nd hd c
      exact k _ _ _ _ _ p2 q
    · obtain ⟨S2, ho, _, _⟩ := p.called S e nd hd c (fun a h => .inl h) fun a h => h
      exact x cls d H' ex _ S2 (by rw [hid_own ho]; exact hx) q) x
theorem lift_callS {E : L2.St → XK} {spd : DSp} {dvs : List V} {dds : List D} {ta : TA} {da : DA} (ha : LiftA T K E ta da) (hd : ∀ G, Rps K G dvs dds) : LiftE T K E (tCallSD (liftSp T K spd) dvs E ta) (dCall spd dds da) := fun A P Z σ s H Qd Ed Q S h k x =>
  ha A P Z σ s H _ Ed _ S h (fun vs H1 rs ts s1 p ⟨as, e, nd, q⟩ => by
    have S1 := post_test (p.drop S.pa) S
    refine ⟨Hid A σ s1, as ++ dds.map SV.d, _, _, p.args S e nd hd, S1.rok, S1.tb, q, fun r as' v H' q c => ?_, fun ex as' cls d H' q c hx => ?_⟩
    · obtain ⟨ts', p2⟩ := p.ret S e nd hd c
      exact k _ _ _ _ _ p2 q
    · obtain ⟨S2, ho, _, _⟩ := p.called S e nd hd c (fun a h => .inl h) fun a h => h
      exact x cls d H' ex _ S2 (by rw [hid_own ho]; exact hx) q) x
/-! ### methods of instances -/
theorem lookup_none {α β : Type} {fs : List (Str × α)} {gs : List (Str × β)} {m : Str} (h : fs.map (·.1) = gs.map (·.1)) (e : gs.lookup m = none) : fs.lookup m = none := by
  induction fs generalizing gs with
  | nil => rfl
  | cons f fs ih =>
    cases gs with
    | nil => cases h
    | cons g gs =>
      obtain ⟨f1, f2⟩ := f
      obtain ⟨g1, g2⟩ := g
      have h1 : f1 = g1 := (List.cons.inj h).1
      have h2 : fs.map (·.1) = gs.map (·.1) := (List.cons.inj h).2
      subst h1
      rw [List.lookup_cons] at e ⊢
      cases hb : (m == f1) with
      | true => rw [hb] at e; cases e
      | false => rw [hb] at e; exact ih h2 e
theorem lookup_some {fs : List (Str × V)} {gs : List (Str × D)} {m : Str} {G : Hp} {y : D} (h : fs.map (·.1) = gs.map (·.1)) (r : Rps K G (fs.map (·.2)) (gs.map (·.2))) (e : gs.lookup m = some y) : ∃ v, fs.lookup m = some v ∧ Rp K G v y := by
  induction fs generalizing gs with
  | nil =>
    cases gs with
    | nil => cases e
    | cons g gs => cases h
  | cons f fs ih =>
    cases gs with
    | nil => cases h
    | cons g gs =>
      obtain ⟨f1, f2⟩ := f
      obtain ⟨g1, g2⟩ := g
      have h1 : f1 = g1 := (List.cons.inj h).1
      have h2 : fs.map (·.1) = gs.map (·.1) := (List.cons.inj h).2
      subst h1
      cases r with
      | cons r1 r2 =>
        rw [List.lookup_cons] at e ⊢
        cases hb : (m == f1) with
        | true => rw [hb] at e; cases e; exact ⟨f2, rfl, r1⟩
        | false => rw [hb] at e; exact ih h2 r2 e
def dMeth (C : Addr) (m : Str) (spd : DSp) (dds : List D) (d0 : DE) (da : DA) : DE := fun s Q E => d0 s (fun r0 s0 => (∃ gs, vw s0 r0 = some (.ins C gs) ∧ gs.lookup m = none) ∧ da s0 (fun rs s1 => ∃ as, toArgs s1 (r0 :: rs) = some as ∧ (bws (r0 :: rs)).Nodup ∧
  spd (as ++ dds.map SV.d) (fun r as' => Q r (back s1 (r0 :: rs) as')) (fun ex as' => E ex (back s1 (r0 :: rs) as'))) E) E
theorem lift_meth {E : XK} {C : Addr} {m : Str} {spd : DSp} {dvs : List V} {dds : List D} {t0 : TE} {d0 : DE} {ta : TA} {da : DA} (h0 : LiftE T K (fun _ => E) t0 d0) (ha : LiftA T K (fun _ => E) ta da) (hd : ∀ G, Rps K G dvs dds) : LiftE T K (fun _ => E) (tMeth C m (liftSp T K spd) dvs E t0 ta) (dMeth C m spd dds d0 da) := fun A P Z σ s H Qd Ed Q S h k x =>
  h0 A P Z σ s H _ Ed _ S h (fun w H0 r0 ts0 s0 p0 ⟨⟨gs, e0, l0⟩, q0⟩ => by
    obtain ⟨a, dx, fs, rfl, g1, g2, g3⟩ := (p0.tr.rb p0.st e0).ins
    refine ⟨a, dx, fs, rfl, g1, lookup_none g2 l0, ha _ P Z σ s0 H0 _ Ed _ p0.st q0 (fun vs H1 rs ts s1 p1 ⟨as, e, nd, q⟩ => ?_) (x.less (pls_less ts0) S.pa)⟩
    have p : Post T K A P Z σ s s1 H H1 (V.ref a :: vs) (r0 :: rs) (ts0 ++ ts) := p0.seq p1
    have S1 := post_test (p.drop S.pa) S
    refine ⟨Hid A σ s1, as ++ dds.map SV.d, _, _, (show ArgsR K _ H1 (V.ref a :: (vs ++ dvs)) _ from p.args S e nd hd), S1.rok, S1.tb, q, fun r as' v H' q c => ?_, fun ex as' cls d H' q c hx => ?_⟩
    · obtain ⟨ts', p2⟩ := p.ret S e nd hd c
      exact k _ _ _ _ _ p2 q
    · obtain ⟨S2, ho, _, _⟩ := p.called S e nd hd c (fun a h => .inl h) fun a h => h
      exact x cls d H' ex _ S2 (by rw [hid_own ho]; exact hx) q) x
/-! ### a new instance -/
def dMake (C : Addr) (spd : DSp) (dds : List D) (da : DA) : DE := fun s Q E => da s (fun rs s1 => ∃ as, toArgs s1 rs = some as ∧ (bws rs).Nodup ∧
  spd (.o false (.ins C []) :: (as ++ dds.map SV.d)) (fun r as' => ∃ c rest, r = .d .non ∧ as' = .o false c :: rest ∧ Q (.o c) (back s1 rs rest)) (fun ex as' => E ex (back s1 rs as'.tail))) E
theorem lift_make {E : XK} {C : Addr} {spd : DSp} {dvs : List V} {dds : List D} {ta : TA} {da : DA} (ha : LiftA T K (fun _ => E) ta da) (hd : ∀ G, Rps K G dvs dds) : LiftE T K (fun _ => E) (tMake C (liftSp T K spd) dvs E ta) (dMake C spd dds da) := fun A P Z σ s H Qd Ed Q S h k x =>
  ha A P Z σ s H _ Ed _ S h (fun vs H1 rs ts s1 p ⟨as, e, nd, q⟩ ax dx hx hdx hne => by
    have S1 := post_test (p.drop S.pa) S
    have ar := p.args S e nd hd
    have nx : ¬ Hid A σ s1 ax := S1.newH (NwD.of hx)
    have es : Same H1 (upd (upd H1 dx (.own ax)) ax (.ins C dx [])) := fun b o e => by
      rw [upd_ne (ne_of_none e hx), upd_ne (ne_of_none e hdx)]
      exact e
    have ex : LamX.ExtN (res (Hid A σ s1) H1) (res (Pls (Hid A σ s1) [ax]) (upd (upd H1 dx (.own ax)) ax (.ins C dx []))) := res_ext (M := fun _ => False) (Kp.of es) (fun _ z => z.elim) fun b z => z.elim .inl fun z => .inr (by rw [List.mem_singleton.mp z]; exact NwD.of hx)
    have nax : ∀ {i : Nat}, (vs ++ dvs)[i]? = some (.ref ax) → ∀ l c, (as ++ dds.map SV.d)[i]? ≠ some (.o l c) := fun {i} h l c z => by
      obtain ⟨v, e1, h1⟩ := ar.at_ i _ z
      rcases h1 with ⟨y, z, _⟩ | ⟨b, c', z, rfl, hb, _⟩
      · cases z
      · rw [h] at e1
        cases e1
        exact nx hb
    have tailP : ∀ {as' : SS} {H' : Hp}, CallP T K (Pls (Hid A σ s1) [ax]) (.ref ax :: (vs ++ dvs)) (.o false (.ins C []) :: (as ++ dds.map SV.d)) as' (upd (upd H1 dx (.own ax)) ax (.ins C dx [])) H' → CallP T K (Hid (Pls A [ax]) σ s1) (vs ++ dvs) (as ++ dds.map SV.d) as'.tail H1 H' := fun {as' H'} c => by
      refine ⟨c.tb, fun b o n e t => c.kp b o (fun ⟨i, l, c0, h1, h2⟩ => ?_) (es b o e) t, fun i a l c0 h1 h2 => ?_⟩
      · cases i with
        | zero =>
          cases h1
          exact (ne_of_none e hx) rfl
        | succ i => exact n ⟨i, l, c0, h1, h2⟩
      · obtain ⟨c', g1, g2⟩ := c.own (i + 1) a l c0 h1 h2
        rw [← hid_pls] at g2
        exact ⟨c', by rw [List.getElem?_tail]; exact g1, g2⟩
    refine ⟨Pls (Hid A σ s1) [ax], .o false (.ins C []) :: (as ++ dds.map SV.d), _, _, ⟨congrArg (· + 1) ar.len, fun i sv h => ?_, fun i j a l c l' c' h1 h2 h3 h4 => ?_⟩, fun a h => ?_, Same.tabs S1.tb es, q, fun r as' v H' q c => ?_, fun ex as' cls d H' q c hx => ?_⟩
    · cases i with
      | zero =>
        cases h
        exact ⟨_, rfl, .inr ⟨ax, _, rfl, rfl, .inr List.mem_cons_self, dx, [], upd_same, rfl, .nil⟩⟩
      | succ i =>
        obtain ⟨v, e1, h1⟩ := ar.at_ i sv h
        refine ⟨v, e1, ?_⟩
        rcases h1 with ⟨y, z, h1⟩ | ⟨b, c', z, h1, h2, h3⟩
        · exact .inl ⟨y, z, h1.ext ex⟩
        · exact .inr ⟨b, c', z, h1, .inl h2, h3.ext ex fun o h _ => es _ _ h⟩
    · cases i with
      | zero =>
        cases j with
        | zero => rfl
        | succ j =>
          cases h1
          exact absurd h4 (nax h3 _ _)
      | succ i =>
        cases j with
        | zero =>
          cases h3
          exact absurd h2 (nax h1 _ _)
        | succ j => exact congrArg (· + 1) (ar.inj i j a l c l' c' h1 h2 h3 h4)
    · rcases h with h | h
      · obtain ⟨o, e, t⟩ := S1.rok a h
        exact ⟨o, es _ _ e, t⟩
      · rw [List.mem_singleton.mp h]
        exact ⟨_, upd_same, fun ps z => by cases z⟩
    · obtain ⟨co, rest, rfl, rfl, q⟩ := q
      obtain ⟨cp, hv⟩ := c
      have hv' : v = .non := by cases hv; rfl
      obtain ⟨c', g1, g2⟩ := cp.own 0 ax false _ rfl rfl
      cases g1
      obtain ⟨o, ho, ht⟩ := g2.there
      have cp2 := tailP cp
      obtain ⟨S2, hw, kp, ot⟩ := p.called S e nd hd cp2 (fun b h => h.elim .inl fun h => .inr (by rw [List.mem_singleton.mp h]; exact ⟨NwD.of hx, o, ho, ht⟩)) fun a h => .inl h
      refine ⟨hv', k _ _ (.o _) [ax] _ ⟨by simp, fun b h => by rw [List.mem_singleton.mp h]; exact p.nwd (NwD.of hx), fun b h => ?_, S2, .o ?_ .nil, kp, fun a z => p.shr a ((hw a).mp z), ot⟩ q⟩
      · rw [List.mem_singleton.mp h]
        exact fun z => nx (.inr ((hw ax).mp z))
      · rw [hid_own hw, hid_pls]
        exact g2
    · have cp2 := tailP c
      have cp3 : CallP T K (Hid A σ s1) (vs ++ dvs) (as ++ dds.map SV.d) as'.tail H1 H' := ⟨cp2.tb, cp2.kp, fun i a l c h1 h2 => by
        obtain ⟨c', g1, g2⟩ := cp2.own i a l c h1 h2
        exact ⟨c', g1, g2.ext (res_less fun b z => z.elim (fun z => .inl (.inl z)) .inr) fun o h _ => h⟩⟩
      obtain ⟨S2, ho, _, _⟩ := p.called S e nd hd cp3 (fun a h => .inl h) fun a h => h
      exact x cls d H' ex _ S2 (by rw [hid_own ho]; exact hx.ext (res_less fun b z => .inl z)) q) x
/-! ### attributes -/
def dFld (K : PySem.W.Frag) (f : Str) (da : DE) : DE := fun s Q E => da s (fun r s1 => ∃ C gs y, vw s1 r = some (.ins C gs) ∧ (Cls K C ∧ NoAttr K C f) ∧ gs.lookup f = some y ∧ Q (.d y) s1) E
theorem Post.rdv (p : Post T K A P Z σ s s1 H H1 vs rs ts) (S : StR T K A P Z σ s H) {y : D} (h : Rp K (res (Hid (Pls A ts) σ s1) H1) v y) : Post T K A P Z σ s s1 H H1 [v] [.d y] [] := by
  have q := p.drop S.pa
  exact ⟨.nil, q.nw, q.fre, q.st, .d (h.ext (res_less fun b z => z.elim (fun z => .inl ((Pls.nil b).mp z |> .inl)) .inr)) .nil, q.kp, q.shr, q.ot⟩
theorem lift_fld {f : Str} {ta : TE} {da : DE} (ha : LiftE T K E ta da) : LiftE T K E (tFld K ta f) (dFld K f da) := fun A P Z σ s H Qd Ed Q S h k x =>
  ha A P Z σ s H _ Ed _ S h (fun w H1 r ts s1 p ⟨C, gs, y, e, hc, hl, q⟩ => by
    obtain ⟨a, dx, fs, rfl, g1, g2, g3⟩ := (p.tr.rb p.st e).ins
    obtain ⟨v, h1, h2⟩ := lookup_some g2 g3 hl
    exact ⟨a, C, dx, fs, v, rfl, g1, hc.1, hc.2, h1, k _ _ _ _ _ (p.rdv S h2) q⟩) x
/-- a constant of the class, as data -/
def ConD (K : PySem.W.Frag) (C : Addr) (f : Str) (y : D) : Prop := ∃ v u, Con K C f v u ∧ ∀ G, Rp K G v y
def dCon (K : PySem.W.Frag) (f : Str) (da : DE) : DE := fun s Q E => da s (fun r s1 => ∃ C gs y, vw s1 r = some (.ins C gs) ∧ (Cls K C ∧ ConD K C f y) ∧ gs.lookup f = none ∧ Q (.d y) s1) E
theorem lift_con {f : Str} {ta : TE} {da : DE} (ha : LiftE T K E ta da) : LiftE T K E (tCon K ta f) (dCon K f da) := fun A P Z σ s H Qd Ed Q S h k x =>
  ha A P Z σ s H _ Ed _ S h (fun w H1 r ts s1 p ⟨C, gs, y, e, ⟨hc, v, u, hk, hr⟩, hl, q⟩ => by
    obtain ⟨a, dx, fs, rfl, g1, g2, g3⟩ := (p.tr.rb p.st e).ins
    exact ⟨a, C, dx, fs, v, u, rfl, g1, hc, hk, lookup_none g2 hl, k _ _ _ _ _ (p.rdv S (hr _)) q⟩) x
end
end DL
set_option Elab.async false
set_option linter.all false
set_option maxRecDepth 100000
set_option maxHeartbeats 1000000
/-! operations on data -/
namespace DL
open PySem PySem.Spec PyProof.Rows L2 Mv
abbrev D2 := D → D → (R → Prop) → Prop
abbrev D1 := D → (R → Prop) → Prop
abbrev DCs := List D → (R → Prop) → Prop
def xI0 (g : Int → Int → V) : D2 := fun x y Q => ∃ i j, x = .int i ∧ y = .int j ∧ Q (.d (.sc (g i j)))
def xI (C : Int → Int → Prop) (g : Int → Int → V) : D2 := fun x y Q => ∃ i j, x = .int i ∧ y = .int j ∧ C i j ∧ Q (.d (.sc (g i j)))
def xU (g : Int → V) : D1 := fun x Q => ∃ i, x = .int i ∧ Q (.d (.sc (g i)))
section
variable {K : PySem.W.Frag} {A : Addr → Prop} {H H' : Hp} {v : V}
theorem nsc {hid : Addr → Prop} {z : V} : NewR K hid H z H (.d (.sc z)) := ⟨Same.refl H, .sc z⟩
theorem nre {hid : Addr → Prop} {x : D} (h : Rp K (res hid H) v x) : NewR K hid H v H (.d x) := ⟨Same.refl H, h⟩
theorem lr_I0 (g : Int → Int → V) : LR2 K (rI0 g) (xI0 g) := fun hid H x y dx dy Qd Q _ hx hy ⟨i, j, e1, e2, q⟩ k => by
  subst e1 e2
  exact ⟨i, j, hx.sc, hy.sc, k _ _ _ nsc q⟩
theorem lr_I (C : Int → Int → Prop) (g : Int → Int → V) : LR2 K (rI C g) (xI C g) := fun hid H x y dx dy Qd Q _ hx hy ⟨i, j, e1, e2, hc, q⟩ k => by
  subst e1 e2
  exact ⟨i, j, hx.sc, hy.sc, hc, k _ _ _ nsc q⟩
theorem lr_U (g : Int → V) : LR1 K (rU g) (xU g) := fun hid H x dx Qd Q _ hx ⟨i, e1, q⟩ k => by
  subst e1
  exact ⟨i, hx.sc, k _ _ _ nsc q⟩
/-! ### equality -/
def xEqS : D2 := fun x y Q => ∃ u v, x = .sc u ∧ y = .sc v ∧ scal u v = true ∧ Q (.d (.bl (decide (u = v))))
def xNeS : D2 := fun x y Q => ∃ u v, x = .sc u ∧ y = .sc v ∧ scal u v = true ∧ Q (.d (.bl (!decide (u = v))))
theorem lr_eq : LR2 K rEq xEqS := fun hid H x y dx dy Qd Q _ hx hy ⟨i, j, e1, e2, hc, q⟩ k => by
  subst e1 e2
  rw [hx.sc, hy.sc]
  exact ⟨hc, k _ _ _ nsc q⟩
theorem lr_ne : LR2 K rNe xNeS := fun hid H x y dx dy Qd Q _ hx hy ⟨i, j, e1, e2, hc, q⟩ k => by
  subst e1 e2
  rw [hx.sc, hy.sc]
  exact ⟨hc, k _ _ _ nsc q⟩
def isNon : D → Bool
  | .sc .non => true
  | _ => false
theorem RB.non {x : D} (h : RB K (res A H) H v x) : decide (v = .non) = isNon x := by
  rcases h with h | ⟨a, c, rfl, _, e⟩
  · cases h with
    | sc v => cases v <;> simp [isNon]
    | _ => simp [isNon]
  · subst e
    cases c <;> simp [isNon, CO.frz]
def xIsN : D2 := fun x y Q => y = .non ∧ Q (.d (.bl (isNon x)))
def xNotN : D2 := fun x y Q => y = .non ∧ Q (.d (.bl (!isNon x)))
theorem lr_isN : LR2 K (fun x y H Q => y = .non ∧ Q (.bl (decide (x = .non))) H) xIsN := fun hid H x y dx dy Qd Q _ hx hy ⟨e1, q⟩ k => by
  subst e1
  refine ⟨hy.sc, ?_⟩
  rw [hx.non]
  exact k _ _ _ nsc q
theorem lr_notN : LR2 K (fun x y H Q => y = .non ∧ Q (.bl (!decide (x = .non))) H) xNotN := fun hid H x y dx dy Qd Q _ hx hy ⟨e1, q⟩ k => by
  subst e1
  refine ⟨hy.sc, ?_⟩
  rw [hx.non]
  exact k _ _ _ nsc q
/-! data that == compares -/
mutual
def py : D → Option PyData
  | .sc .non => some .none
  | .sc (.bl b) => some (.bool b)
  | .sc (.int i) => some (.int i)
  | .sc (.str z) => some (.str z)
  | .tup xs => (pys xs).map .tuple
  | .lst xs => (pys xs).map .list
  | .fl xs => (pys xs).map .list
  | _ => none
def pys : List D → Option (List PyData)
  | [] => some []
  | x :: xs => (py x).bind fun p => (pys xs).map (p :: ·)
end
mutual
theorem Rp.dp {G : Hp} : ∀ {v : V} {x : D} {p : PyData}, Rp K G v x → py x = some p → Dp K G v p
  | v, .sc z, p, h, e => by
    have hz : v = z := by cases h; rfl
    subst hz
    cases v with
    | non => unfold py at e; cases e; exact .non
    | bl b => unfold py at e; cases e; exact .bl b
    | int i => unfold py at e; cases e; exact .int i
    | str x => unfold py at e; cases e; exact .str x
    | byt x => unfold py at e; cases e
    | flt x => unfold py at e; cases e
    | ref x => unfold py at e; cases e
    | ty x => unfold py at e; cases e
  | _, .tup xs, p, h, e => by
    cases h with
    | tup h r =>
      unfold py at e
      cases e1 : pys xs with
      | none => rw [e1] at e; cases e
      | some ps => rw [e1] at e; cases e; exact .tup h (Rps.dp r e1)
  | _, .lst xs, p, h, e => by
    cases h with
    | lst h r =>
      unfold py at e
      cases e1 : pys xs with
      | none => rw [e1] at e; cases e
      | some ps => rw [e1] at e; cases e; exact .lst (.inl (.inl h)) (Rps.dp r e1)
  | _, .fl xs, p, h, e => by
    cases h with
    | fl h r =>
      unfold py at e
      cases e1 : pys xs with
      | none => rw [e1] at e; cases e
      | some ps => rw [e1] at e; cases e; exact .lst h (Rps.dp r e1)
  | _, .ins _ _, p, h, e => by unfold py at e; cases e
  | _, .dK _, p, h, e => by unfold py at e; cases e
  | _, .dN _, p, h, e => by unfold py at e; cases e
theorem Rps.dp {G : Hp} : ∀ {vs : List V} {xs : List D} {ps : List PyData}, Rps K G vs xs → pys xs = some ps → DpAll K G vs ps
  | _, [], ps, h, e => by
    cases h
    cases e
    exact .nil
  | _, x :: xs, ps, h, e => by
    cases h with
    | cons h r =>
      unfold pys at e
      cases e1 : py x with
      | none => rw [e1] at e; cases e
      | some p =>
        cases e2 : pys xs with
        | none => rw [e1, e2] at e; cases e
        | some qs => rw [e1, e2] at e; cases e; exact .cons (Rp.dp h e1) (Rps.dp r e2)
end
mutual
theorem Dp.extG {G G' : Hp} (e : LamX.ExtN G G') : ∀ {v : V} {p : PyData}, Dp K G v p → Dp K G' v p
  | _, _, .non => .non
  | _, _, .bl b => .bl b
  | _, _, .int i => .int i
  | _, _, .str x => .str x
  | _, _, .lst h r => .lst (ExtN.sqL e h) (DpAll.extG e r)
  | _, _, .tup h r => .tup (ExtN.sqT e h) (DpAll.extG e r)
theorem DpAll.extG {G G' : Hp} (e : LamX.ExtN G G') : ∀ {vs : List V} {ps : List PyData}, DpAll K G vs ps → DpAll K G' vs ps
  | _, _, .nil => .nil
  | _, _, .cons h r => .cons (Dp.extG e h) (DpAll.extG e r)
end
theorem RB.dp {x : D} {p : PyData} (h : RB K (res A H) H v x) (e : py x = some p) : Dp K H v p := by
  rcases h with h | ⟨a, c, rfl, h, rfl⟩
  · exact Dp.extG res_all (h.dp e)
  · cases c with
    | lst xs =>
      obtain ⟨vs, h1, h2⟩ := h
      have e' : (pys xs).map PyData.list = some p := by
        have : py (.lst xs) = some p := e
        unfold py at this
        exact this
      cases e1 : pys xs with
      | none => rw [e1] at e'; cases e'
      | some ps =>
        rw [e1] at e'
        cases e'
        exact .lst (.inl (.inl h1)) (DpAll.extG res_all (Rps.dp h2 e1))
    | ins C fs => have : py (.ins C fs) = some p := e; unfold py at this; cases this
    | dK fs => have : py (.dK fs) = some p := e; unfold py at this; cases this
    | dN fs => have : py (.dN fs) = some p := e; unfold py at this; cases this
def eqB (x y : D) : Bool := match py x, py y with
  | some p, some q => PyData.eqv p q
  | _, _ => false
def okD (x : D) : Prop := ∃ p, py x = some p ∧ SeqAt.shaped p = true
def xEqD : D2 := fun x y Q => okD x ∧ okD y ∧ Q (.d (.bl (eqB x y)))
def xNeD : D2 := fun x y Q => okD x ∧ okD y ∧ Q (.d (.bl (!eqB x y)))
theorem lr_eqD : LR2 K (rEqD K) xEqD := fun hid H x y dx dy Qd Q _ hx hy ⟨⟨p, e1, s1⟩, ⟨q, e2, s2⟩, h⟩ k => by
  refine ⟨p, q, hx.dp e1, hy.dp e2, s1, s2, ?_⟩
  have e : eqB dx dy = PyData.eqv p q := by unfold eqB; rw [e1, e2]
  rw [← e]
  exact k _ _ _ nsc h
theorem lr_neD : LR2 K (rNeD K) xNeD := fun hid H x y dx dy Qd Q _ hx hy ⟨⟨p, e1, s1⟩, ⟨q, e2, s2⟩, h⟩ k => by
  refine ⟨p, q, hx.dp e1, hy.dp e2, s1, s2, ?_⟩
  have e : eqB dx dy = PyData.eqv p q := by unfold eqB; rw [e1, e2]
  rw [← e]
  exact k _ _ _ nsc h
/-! ### subscripts, slices -/
theorem atI_of {vs : List V} {ds : List D} {G : Hp} {i : Int} {d : D} (r : Rps K G vs ds) (h : atI ds i = some d) : ∃ v, atI vs i = some v ∧ Rp K G v d := by
  unfold atI at h ⊢
  rw [r.length]
  cases e : ixN ds.length i with
  | none => rw [e] at h; cases h
  | some j =>
    rw [e] at h
    exact r.at h
def xIxL : D2 := fun x y Q => ∃ xs i z, x = .lst xs ∧ y = .int i ∧ atI xs i = some z ∧ Q (.d z)
def xIxT : D2 := fun x y Q => ∃ xs i z, x = .tup xs ∧ y = .int i ∧ atI xs i = some z ∧ Q (.d z)
theorem lr_ixL : LR2 K (rIxL K) xIxL := fun hid H x y dx dy Qd Q _ hx hy ⟨xs, i, z, e1, e2, e3, q⟩ k => by
  subst e1 e2
  obtain ⟨a, vs, rfl, h1, h2⟩ := hx.lst
  obtain ⟨v, e4, h3⟩ := atI_of h2 e3
  exact ⟨a, vs, i, v, rfl, hy.sc, .inl (.inl h1), e4, k _ _ _ (nre h3) q⟩
theorem lr_ixT : LR2 K (rIxT K) xIxT := fun hid H x y dx dy Qd Q _ hx hy ⟨xs, i, z, e1, e2, e3, q⟩ k => by
  subst e1 e2
  obtain ⟨a, vs, rfl, h1, _, h2⟩ := hx.tup
  obtain ⟨v, e4, h3⟩ := atI_of h2 e3
  exact ⟨a, vs, i, v, rfl, hy.sc, h1, e4, k _ _ _ (nre h3) q⟩
def xIxS : D2 := fun x y Q => ∃ z i c, x = .str z ∧ y = .int i ∧ z.length ≤ sizeLine ∧ atI z.cps.toList i = some c ∧ Q (.d (.str ⟨#[c]⟩))
theorem lr_ixS : LR2 K rIxS xIxS := fun hid H x y dx dy Qd Q _ hx hy ⟨z, i, c, e1, e2, e3, e4, q⟩ k => by
  subst e1 e2
  exact ⟨z, i, c, hx.sc, hy.sc, e3, e4, k _ _ _ nsc q⟩
def cutD (xs : List D) (lo hi : Option Int) : List D := (xs.drop (HT.sIx xs.length 0 lo)).take (HT.sIx xs.length xs.length hi - HT.sIx xs.length 0 lo)
theorem cutD_ok {vs : List V} {ds : List D} {G : Hp} {lo hi : Option Int} (r : Rps K G vs ds) : Rps K G (cutV vs lo hi) (cutD ds lo hi) := by
  unfold cutV cutD
  rw [r.length]
  exact (r.drop _).take _
abbrev DSl := D → Option Int → Option Int → (R → Prop) → Prop
def LRS (K : PySem.W.Frag) (r : V → Option Int → Option Int → Hp → VK → Prop) (rd : DSl) : Prop :=
  ∀ (hid : Addr → Prop) (H : Hp) (x : V) (dx : D) (lo hi : Option Int) (Qd : R → Prop) (Q : VK), ROk hid H → RB K (res hid H) H x dx → rd dx lo hi Qd → (∀ v H' ro, NewR K hid H v H' ro → Qd ro → Q v H') → r x lo hi H Q
def itsL : D → Option (List D)
  | .lst xs => some xs
  | .fl xs => some xs
  | _ => none
def xSlL : DSl := fun x lo hi Q => ∃ xs, itsL x = some xs ∧ Q (.o (.lst (cutD xs lo hi)))
def xSlT : DSl := fun x lo hi Q => ∃ xs, x = .tup xs ∧ Q (.d (.tup (cutD xs lo hi)))
theorem lr_slL : LRS K (rSlL K) xSlL := fun hid H x dx lo hi Qd Q ho hx ⟨xs, e1, q⟩ k => by
  cases dx with
  | lst ys =>
    cases e1
    obtain ⟨a, vs, rfl, h1, h2⟩ := hx.lst
    exact ⟨a, vs, rfl, .inl (.inl h1), fun p hp => k _ _ _ (newR_lst ho hp (cutD_ok h2)) q⟩
  | fl ys =>
    cases e1
    obtain ⟨a, vs, rfl, h1, h2⟩ := hx.fl
    exact ⟨a, vs, rfl, h1, fun p hp => k _ _ _ (newR_lst ho hp (cutD_ok h2)) q⟩
  | _ => cases e1
theorem cut_whole {vs : List V} {lo hi : Option Int} (h : HT.sIx vs.length 0 lo = 0 ∧ HT.sIx vs.length vs.length hi = vs.length) : cutV vs lo hi = vs := by
  unfold cutV
  rw [h.1, h.2, List.drop_zero, Nat.sub_zero, List.take_length]
theorem lr_slA : LRS K (rSlA K) xSlT := fun hid H x dx lo hi Qd Q ho hx ⟨xs, e1, q⟩ k => by
  subst e1
  obtain ⟨a, vs, rfl, h1, h1', h2⟩ := hx.tup
  refine ⟨a, vs, rfl, h1, fun hw => k _ _ _ (nre (.tup h1' ?_)) q, fun _ p hp => k _ _ _ (newR_tup ho hp (cutD_ok h2)) q⟩
  have := cutD_ok (lo := lo) (hi := hi) h2
  rwa [cut_whole hw] at this
abbrev DO := SS → (Option Int → SS → Prop) → EC → Prop
def LiftO (T : List (Addr × Str)) (K : PySem.W.Frag) (E : L2.St → XK) (t : TO) (td : DO) : Prop :=
  ∀ (A : Addr → Prop) (P : Par) (Z : Hp) (σ : L2.St) (s : SS) (H : Hp) (Qd : Option Int → SS → Prop) (Ed : EC) (Q : Option Int → Hp → Prop), StR T K A P Z σ s H → td s Qd Ed →
    (∀ b H' s', Post T K A P Z σ s s' H H' [] [] [] → Qd b s' → Q b H') → XOk T K A P Z σ Ed (E σ) → t σ H Q
def dNoPart : DO := fun s Q _ => Q none s
def dPart (da : DE) : DO := fun s Q E => da s (fun r s1 => ∃ i, r = .d (.int i) ∧ Q (some i) s1) E
end
section
variable {T : List (Addr × Str)} {K : PySem.W.Frag} {E : L2.St → XK}
theorem lift_noPart : LiftO T K E tNoPart dNoPart := fun A P Z σ s H Qd Ed Q S h k x => k _ _ _ (Post.refl S) h
theorem lift_part {ta : TE} {da : DE} (ha : LiftE T K E ta da) : LiftO T K E (tPart ta) (dPart da) := fun A P Z σ s H Qd Ed Q S h k x =>
  ha A P Z σ s H _ Ed _ S h (fun v H1 r ts s1 p ⟨i, e, q⟩ => by
    subst e
    have := p.tr.one
    cases this
    exact ⟨i, rfl, k _ _ _ (p.drop S.pa) q⟩) x
def dSl (rd : DSl) (da : DE) (dl dh : DO) : DE := fun s Q E => da s (fun r s1 => dl s1 (fun lo s2 => dh s2 (fun hi s3 => ∃ x, vw s3 r = some x ∧ rd x lo hi (fun ro => Q ro s3)) E) E) E
theorem lift_sl {r : V → Option Int → Option Int → Hp → VK → Prop} {rd : DSl} {ta : TE} {da : DE} {tl th : TO} {dl dh : DO} (hr : LRS K r rd) (ha : LiftE T K E ta da) (hl : LiftO T K E tl dl) (hh : LiftO T K E th dh) : LiftE T K E (tSl r ta tl th) (dSl rd da dl dh) := fun A P Z σ s H Qd Ed Q S h k x =>
  ha A P Z σ s H _ Ed _ S h (fun v H1 r1 ts s1 p q => hl _ P Z σ s1 H1 _ Ed _ p.st q (fun lo H2 s2 p2 q2 => by
    have p3 := p.seq p2
    rw [List.append_nil, List.append_nil, List.append_nil] at p3
    refine hh _ P Z σ s2 H2 _ Ed _ p3.st q2 (fun hi H3 s3 p4 q3 => ?_) (x.less (pls_less _) S.pa)
    have p5 := p3.seq p4
    rw [List.append_nil, List.append_nil, List.append_nil] at p5
    obtain ⟨dx, e1, q4⟩ := q3
    refine hr _ _ _ _ _ _ _ _ p5.st.rok (p5.tr.rb p5.st e1) q4 fun w H4 ro n q5 => ?_
    obtain ⟨ts3, p6⟩ := p5.new S.pa n
    exact k _ _ _ _ _ p6 q5) (x.less (pls_less ts) S.pa)) x
end
end DL
set_option Elab.async false
set_option linter.all false
set_option maxRecDepth 100000
set_option maxHeartbeats 4000000
namespace Mv
open PySem PySem.Spec PyProof.Rows L2
/-! ### sorted(range(n), key=lambda at: word[at]) -/
/-- the indexes of a word, by their values, equal ones ascending -/
def bagIx (xs : List Int) : List Nat := (List.range xs.length).mergeSort fun i j => decide (xs.getD i 0 ≤ xs.getD j 0)
theorem bagIx_perm (xs : List Int) : (bagIx xs).Perm (List.range xs.length) := List.mergeSort_perm _ _
theorem bagIx_len (xs : List Int) : (bagIx xs).length = xs.length := by rw [(bagIx_perm xs).length_eq, List.length_range]
theorem bagIx_lt {xs : List Int} {i : Nat} (h : i ∈ bagIx xs) : i < xs.length := List.mem_range.mp ((bagIx_perm xs).mem_iff.mp h)
theorem range_get (xs : List Int) : (List.range xs.length).map (fun i => xs.getD i 0) = xs := by
  apply List.ext_getElem?
  intro i
  rw [List.getElem?_map]
  by_cases h : i < xs.length
  · rw [List.getElem?_range h, List.getElem?_eq_getElem h]
    simp [List.getD_eq_getElem?_getD, List.getElem?_eq_getElem h]
  · rw [List.getElem?_eq_none (by rw [List.length_range]; omega), List.getElem?_eq_none (by omega)]
    rfl
theorem bagIx_vals (xs : List Int) : (bagIx xs).map (fun i => xs.getD i 0) = sortI xs := by
  refine sort_is ?_ ?_
  · have h := (bagIx_perm xs).map (fun i => xs.getD i 0)
    rw [range_get] at h
    exact h
  · rw [List.pairwise_map]
    have h := List.pairwise_mergeSort (le := fun i j => decide (xs.getD i 0 ≤ xs.getD j 0)) (by
      intro a b c h1 h2
      have h1 := of_decide_eq_true h1
      have h2 := of_decide_eq_true h2
      exact decide_eq_true (Int.le_trans h1 h2)) (by
      intro a b
      rcases Int.le_total (xs.getD a 0) (xs.getD b 0) with q | q
      · rw [decide_eq_true q]; rfl
      · rw [decide_eq_true q, Bool.or_true]) (List.range xs.length)
    exact h.imp fun {a b} q => of_decide_eq_true q
section
variable {prog : Program} {w : World} {A : Around} {s : Shared}
/-- lambda at: word[at], called -/
theorem lam_key {f c' c p : Addr} {q : Str} {params : Arguments} {scope : Scope} {cl : List (Str × Addr)} {pm ctv : Value} {p1 p2 p3 : Pos} {its : List Value} {i : Nat} {t u : Tok} {n : Int}
    (hroom : A.depth < recursionLimit) (nl : s.heap.NoLimit) (ho : s.heap.get? f = some (PySem.W.kla_obj "<lambda>" q params (.Subscript (.Name "word" p1) (.Name "at" p2) p3) scope cl pm c' ctv))
    (hcd : s.heap.CodeRec (.ref c') q) (hsc : scope.names = [(("at" : Str), NameKind.local), (("word" : Str), NameKind.free)]) (hk : scope.kind = .function) (hco : scope.isCoroutine = false) (hgen : scope.isGenerator = false)
    (hbind : ∀ v : Value, bindArgs (PySem.W.kla_fn "<lambda>" q params (.Subscript (.Name "word" p1) (.Name "at" p2) p3) scope cl pm (.ref c') ctv) ⟨[v], []⟩ = pure [(("at" : Str), v)])
    (hcl : cl.lookup ("word" : Str) = some c) (hcell : s.heap.IsCell c (some (.ref p))) (hseq : s.heap.IsTuple p its.toArray ∨ s.heap.IsList p its.toArray) (hz : its.length ≤ sizeLine) (hat : its[i]? = some (.int n u)) :
    wpAny (model prog w) A (call (.ref f) [.int (i : Nat) t]) (PySem.W.KeyPure (.int n) s) (fun _ _ => False) s := by
  have hi : i < its.length := (List.getElem?_eq_some_iff.mp hat).1
  have hz63 : its.length < 2 ^ 63 := by
    rw [sizeLine_eq] at hz
    omega
  refine wpAny_call (PySem.W.kla_callFunE hroom ho rfl hco hgen rfl hcd ?_)
  rw [hbind]
  refine wpAny_pure (wpAny_newFunctionEnv (by rw [hsc]; decide) (by rw [hsc]; intro y hy; rw [List.mem_singleton.mp hy]; rfl) (fun h₁ hns hsb => ⟨nl.fresh _ hsb, ?_⟩) hk)
  have kp : ∀ b o, s.heap.get? b = some o → h₁.get? b = some o := fun b o e => hsb.extBut b o (Nat.ne_of_lt (Heap.lt_size e)) (Heap.get?_push_of_some _ e)
  show codeAny _ _ (.expr _ (PySem.W.envX q scope s.heap.objs.size f (.ref c') cl)) _ _
  refine PySem.W.kla_codeExpr ?_
  obtain ⟨oc, hoc, hdc⟩ := hcell
  have kn1 : (PySem.W.envX q scope s.heap.objs.size f (.ref c') cl).kindOf "word" = some .free := by
    show scope.names.lookup _ = _
    rw [hsc]
    rfl
  have kn2 : (PySem.W.envX q scope s.heap.objs.size f (.ref c') cl).kindOf "at" = some .local := by
    show scope.names.lookup _ = _
    rw [hsc]
    rfl
  refine Subscript_ (wpAny_Name (wpAny_loadName_free hk kn1 hcl ⟨oc, kp _ _ hoc, hdc⟩ ?_) (by decide))
  refine wpAny_Name (wpAny_loadName_local (v := .int (i : Nat) t) hk kn2 hns rfl ?_) (by decide)
  have fin : PySem.W.KeyPure (.int n) s (.int n u) { s with heap := h₁, toks := s.toks + [(("at" : Str), Value.int (i : Nat) t)].length } := ⟨h₁, _, rfl, kp, .int n u⟩
  rcases hseq with ⟨o, h1, h2, m, h3⟩ | hl
  · refine subscriptTail_builtinR (x := .int n u) ⟨o, kp _ _ h1, h2⟩ slot_tuple_getitem.lookup (getItem_tuple (j := i) ⟨o, kp _ _ h1, h2, m, h3⟩ (by omega) (by omega) ?_ ?_ ⟨rfl, fin⟩)
    · rw [List.size_toArray]
      exact seqIndex_of (Int.natCast_nonneg _) (by omega)
    · rw [List.getElem?_toArray]
      exact hat
  · exact item_listR (x := .int n u) (hl.at fun o e => kp _ _ e) (Int.natCast_nonneg _) (by omega) (by rw [Int.toNat_natCast, List.getElem?_toArray]; exact hat) fin
end
theorem each_vals {out : List Value} {is : List Nat} (e : PySem.W.EachIs (fun v (i : Nat) => ∃ t, v = .int (i : Nat) t) out is) : Vals (is.map fun i => V.int (i : Nat)) out := by
  induction e with
  | nil => exact .nil
  | cons h _ ih =>
    obtain ⟨t, rfl⟩ := h
    exact .cons ⟨t, rfl⟩ ih
section
variable {X : Cx} {pins : List (Addr × Obj)} {σ : L2.St} {H : Hp} {s : Shared} {Q : VK}
/-- sorted(v, key=f), v collected as the ints vs, f a pure key -/
theorem sorted_key_from (I : Inv X pins σ H s) {v : Value} {f : Addr} {n : Nat} {key : Nat → Int} (hz : n ≤ sizeLine) (hu : X.A.units + 2 < cLine)
    (hc : ∀ R : List Value → Shared → Prop, (∀ (h' : Heap) (tk : Nat) (acc : List Value), (∀ b o, s.heap.get? b = some o → h'.get? b = some o) → PySem.W.EachIs (fun v (i : Nat) => ∃ t, v = .int (i : Nat) t) acc (List.range n) → R acc { s with heap := h', toks := tk }) → wpAny (model X.prog X.w) X.A.in1 (collect v) R X.xe s)
    (turn : ∀ (i : Nat) (t : Tok) (h : Heap) (tk : Nat), i < n → (∀ b o, s.heap.get? b = some o → h.get? b = some o) → wpAny (model X.prog X.w) X.A.in1.in1 (call (.ref f) [.int (i : Nat) t]) (PySem.W.KeyPure (.int (key i)) { s with heap := h, toks := tk }) (fun _ _ => False) { s with heap := h, toks := tk })
    (q : ∀ p : Addr, H p = none → Q (.ref p) (upd H p (.lst (((List.range n).mergeSort fun i j => decide (key i ≤ key j)).map fun i => V.int (i : Nat))))) :
    wpAny (model X.prog X.w) X.A (call (.builtin "sorted") [v] [(Str.ofString "key", .ref f)]) (EP X pins σ Q) X.xe s := by
  refine call_function_entry_kw kind_sorted plain_sorted entry_sorted (ksk_s1 _ _) ?_
  unfold Builtin.«sorted»
  refine wpAny_bind (m := checkCount "sorted" 1 1 _) (wpAny_pure (wpAny_bind (hc _ fun h' tk acc hk hi => ?_)))
  have I1 : Inv X pins σ H { s with heap := h', toks := tk } := I.kept hk
  have hl : acc.length = n := by rw [hi.length, List.length_range]
  refine wpAny_bind (wpAny_newList ?_ (by rw [hl]; exact hz))
  have hoL : (h'.push (seqObj "list" acc.toArray 0)).get? h'.objs.size = some (seqObj "list" acc.toArray 0) := Heap.get?_push_size _ rfl
  show wpAny _ _ _ _ _ { s with heap := h'.push (seqObj "list" acc.toArray 0), toks := tk }
  refine wpAny_bind (wpAny_holding (wpAny_call_entry_kw slot_list_sort ⟨_, hoL, rfl⟩ entry_list_sort ?_ (ksk_l1 _ _)))
  rw [ksk_t1]
  have up : ∀ {g : Heap}, PySem.W.KeepsBut h'.objs.size (h'.push (seqObj "list" acc.toArray 0)) g → ∀ b o, h'.get? b = some o → g.get? b = some o := fun {g} kp b o e =>
    kp b o (Nat.ne_of_lt (Heap.lt_size e)) (Heap.get?_push_of_some _ e)
  refine PySem.W.keyH_tree (b := false) (kz := (List.range n).map fun i => PyData.int (key i)) (s := { s with heap := h'.push (seqObj "list" acc.toArray 0), toks := tk }) hoL
    (by rw [List.length_map, List.length_range, hl]) (by rw [hl]; exact hz) (PySem.W.AllAlike.of fun _ _ => by simp [PySem.W.alike]) ?_ (PySem.W.bound_map (A := X.A.in1.in1) (bs := List.range n) (enc := fun i => PyData.int (key i)) fun _ _ => ?_)
    (PySem.W.keyH_turns (s := { s with heap := h'.push (seqObj "list" acc.toArray 0), toks := tk }) hi fun v i hv hin h tk2 kp => ?_) fun h3 tk3 out c kp hD ko => ?_
  · exact PySem.W.Sortable.others fun i => ⟨by simp, by simp⟩
  · show X.A.units + 2 + 0 < _
    omega
  · obtain ⟨t, rfl⟩ := hv
    exact turn i t h tk2 (List.mem_range.mp hin) fun b o e => up kp b o (hk b o e)
  · have eo := PySem.W.keyedOut_each (fun i : Nat => PyData.int (key i)) ko hi
    rw [PySem.W.dataLe_int] at eo
    refine ⟨_, rfl, wpAny_pure ⟨_, rfl, .ref h'.objs.size, upd H h'.objs.size (.lst (((List.range n).mergeSort fun i j => decide (key i ≤ key j)).map fun i => V.int (i : Nat))), I1.laid (t' := tk3) (h' := h3) (up kp) (Nat.le_refl _)
      (show ObjOk X.prog X.w _ _ _ (.lst _) from ⟨?_, out, c, ?_, hD⟩), rfl, q _ (I1.hok.fresh (Nat.le_refl _))⟩⟩
    · rw [List.length_map, List.length_mergeSort, List.length_range]
      exact hz
    · exact each_vals eo
end
end Mv
set_option Elab.async false
set_option linter.all false
set_option maxRecDepth 100000
set_option maxHeartbeats 4000000
namespace Mv
open PySem PySem.Spec PyProof.Rows L2
def tSortAt (K : PySem.W.Frag) (T : List (Addr × Str)) (i : Nat) (ta : TE) : TE := fun σ H Q => ta σ H fun x H1 => ∃ (p : Addr) (xs : List Int), σ[i]? = some (some (.ref p)) ∧ x = .int (xs.length : Int) ∧ (SqT K H1 p (xs.map V.int) ∨ SqL K H1 p (xs.map V.int)) ∧ xs.length ≤ 4000 ∧ LamX.Tabs T H1 ∧
  ∀ H2 l, LamX.ExtN H1 H2 → LamX.Tabs T H2 → H2 l = none → Q (.ref l) (upd H2 l (.lst ((bagIx xs).map fun i => V.int (i : Nat))))
theorem sq_extN {K : PySem.W.Frag} {H H1 : Hp} {p : Addr} {xs : List V} (e : LamX.ExtN H H1) (h : SqT K H p xs ∨ SqL K H p xs) : SqT K H1 p xs ∨ SqL K H1 p xs := by
  rcases h with ((h | ⟨o, h⟩) | h) | ((h | ⟨o, h⟩) | h)
  · exact .inl (.inl (.inl (e _ _ h (fun ps z => by cases z))))
  · exact .inl (.inl (.inr ⟨o, e _ _ h (fun ps z => by cases z)⟩))
  · exact .inl (.inr h)
  · exact .inr (.inl (.inl (e _ _ h (fun ps z => by cases z))))
  · exact .inr (.inl (.inr ⟨o, e _ _ h (fun ps z => by cases z)⟩))
  · exact .inr (.inr h)
/-- sorted(range(a), key=lambda at: word[at]) -/
theorem pe_sortAt {X : Cx} {k : Nat} {T : List (Addr × Str)} {c P : Addr} {params : Arguments} {scope : Scope} {i : Nat} {a : Expr} {ta : TE} {p p2 pos pos2 p3 p4 p5 lpos kpos : Pos}
    (hc : X.calm = true) (hr : Room k X.A) (hg : Gl X "sorted") (hm : X.mg "sorted" = none) (hg2 : Gl X "range") (hm2 : X.mg "range" = none) (ha : PE X a ta)
    (TB : LamX.TabB X.base X.mg c P) (hcode : X.env.code = .ref c) (hmT : (P, X.env.qual ++ "<lambda>") ∈ T) (hu : ∀ p ∈ T, p.1 = P → p.2 = X.env.qual ++ "<lambda>") (hN : X.N[i]? = some "word") (hv : X.env.kindOf "word" = some .cell)
    (hdef : defaultsOf params X.env = ([], [])) (hsc : scope.names = [(("at" : Str), NameKind.local), (("word" : Str), NameKind.free)]) (hk : scope.kind = .function) (hco : scope.isCoroutine = false) (hgen : scope.isGenerator = false)
    (hbind : ∀ (q : Str) (cl : List (Str × Addr)) (pm cv ctv v : Value), bindArgs (PySem.W.kla_fn "<lambda>" q params (.Subscript (.Name "word" p3) (.Name "at" p4) p5) scope cl pm cv ctv) ⟨[v], []⟩ = pure [(("at" : Str), v)])
    (na : starEach [a] X.env = (false, eval a X.env) :: starEach [] X.env := by rfl)
    (ne : starEach [.Call (.Name "range" p2) [a] [] pos2] X.env = (false, eval (.Call (.Name "range" p2) [a] [] pos2) X.env) :: starEach [] X.env := by rfl) :
    PE X (.Call (.Name "sorted" p) [.Call (.Name "range" p2) [a] [] pos2] [⟨some "key", .Lambda params (.Subscript (.Name "word" p3) (.Name "at" p4) p5) scope lpos, kpos⟩] pos) (tSortAt X.K T i ta) := by
  refine ⟨fun pins s σ H Q I h => ?_⟩
  refine wpAny_Call_Name_kw (ld_blt I hg hm boot_sorted ?_)
  refine PyProof.Rows.callWith_kw (args_cons (Call_ (ld_blt I hg2 hm2 boot_range (PyProof.Rows.callWith_type1 (one_arg ha I h (fun v s2 x H2 I2 rx q => ?_) na) na))) ne) (by rw [ne]; rfl) (by rw [ne]; rfl) (by rfl) (by rfl)
  obtain ⟨w1, xs, hσ, rfl, hsq, hlen, hT, q⟩ := q
  obtain ⟨t, rfl⟩ := rx
  refine call_range_1 (args_nil ?_)
  generalize ht0 : s2.toks = t0
  generalize hro : ({ cls := .type "range", data := .fields #[.int 0 t0, .int (xs.length : Int) t, .int 1 (t0 + 1)] } : Obj) = ro
  generalize hs3 : ({ s2 with heap := s2.heap.push ro, toks := t0 + 1 + 1 } : Shared) = s3
  have I3 : Inv X pins σ H2 s3 := by
    rw [← hs3]
    exact I2.kept fun b u e => Heap.get?_push_of_some _ e
  have h3r : s3.heap.get? s2.heap.objs.size = some ro := by
    rw [← hs3]
    exact Heap.get?_push_size _ (by rw [← hro]; rfl)
  have hro' : IsRange s3.heap s2.heap.objs.size 0 (xs.length : Int) 1 t0 t (t0 + 1) := by
    rw [← hro] at h3r
    exact h3r
  have I4 : Inv X ((s2.heap.objs.size, ro) :: pins) σ H2 s3 := I3.pins_of fun p hp => by
    rcases List.mem_cons.mp hp with rfl | hp
    · exact ⟨h3r, I2.hok.fresh (Nat.le_refl _), Nat.ne_of_gt I2.lt, I2.nofs (Nat.le_refl _), fun v z => by rw [← hro] at z; cases z⟩
    · exact I3.pin p (List.mem_append_right _ hp)
  clear hs3
  generalize s2.heap.objs.size = r at *
  obtain ⟨c0, hc0⟩ := I.ok.has _ (.inl hv)
  have hfree : ∀ y ∈ scope.names, y.2 = .free → ∃ c, X.env.cells.lookup y.1 = some c := fun y hy e => by
    rw [hsc] at hy
    rcases List.mem_cons.mp hy with rfl | hy
    · cases e
    · rw [List.mem_singleton.mp hy]
      exact ⟨c0, hc0⟩
  show wpAny _ _ (evalAll ((do let v ← eval (.Lambda params (.Subscript (.Name "word" p3) (.Name "at" p4) p5) scope lpos) X.env; standAt pos; pure v) :: [])) _ _ _
  refine wpAny_evalAll_cons (wpAny_bind (LamX.lam_make2 I4 TB hcode hmT hu hT hdef hfree fun f c' pm ctv H3 s4 I5 eN T1 hf hfn hfr hcd => wpAny_bind (wpAny_standAt (wpAny_pure (wpAny_evalAll_nil ?_)))))
  show wpAny _ _ (call (.builtin "sorted") [.ref r] [(Str.ofString "key", .ref f)]) _ _ _
  have hr4 : IsRange s4.heap r 0 (xs.length : Int) 1 t0 t (t0 + 1) := by
    have h4 := (I5.pin (r, ro) (List.mem_append_right _ (List.mem_cons_self ..))).1
    rw [← hro] at h4
    exact h4
  have hsq3 := sq_extN eN hsq
  have hun := hr.units0
  have hzl : xs.length ≤ sizeLine := small4000' hlen
  have eRs : Builtin.Range.rangeSize 0 (xs.length : Int) 1 = ((xs.length : Nat) : Int).toNat := by
    have := rangeSize_nat 0 (xs.length : Int)
    rw [Int.sub_zero] at this
    exact this
  obtain ⟨oc, vs, tq, hoc, hdc, hvc⟩ := (I5.hok c' _ hcd).1
  -- the word as the machine has it
  obtain ⟨its, rv, hseq⟩ : ∃ its : List Value, Vals (xs.map V.int) its ∧ (s4.heap.IsTuple w1 its.toArray ∨ s4.heap.IsList w1 its.toArray) := by
    rcases hsq3 with z | z
    · obtain ⟨its, rv, ⟨o, h1, h2, n, h3⟩, _⟩ := I5.tuple z
      exact ⟨its, rv, .inl ⟨o, h1, h2, n, h3⟩⟩
    · obtain ⟨its, rv, pl, _⟩ := I5.list z
      exact ⟨its, rv, .inr pl.isList⟩
  have hil : its.length = xs.length := by
    rw [← rv.length, List.length_map]
  obtain ⟨m, hns, hl⟩ := I5.loc
  have hcell : s4.heap.IsCell c0 (some (.ref w1)) := by
    obtain ⟨u, ru, lk⟩ := hl i "word" (.ref w1) hN hσ (.inr (.inl hv))
    obtain rfl : u = Value.ref w1 := ru
    rcases lk with ⟨z, _⟩ | ⟨_, c2, e2, hc2⟩
    · rw [hv] at z
      cases z
    · rw [hc0] at e2
      cases e2
      exact hc2
  refine wpAny_mono (sorted_key_from (n := xs.length) (key := fun i => xs.getD i 0) (Q := Q) I5 hzl (by have := hr.units; omega) (fun R kR => ?_) (fun j tj hp tk hj kp => ?_) (fun l hl2 => q H3 l eN T1 hl2)) (fun v s5 hv5 => ?_) fun _ _ z => z
  · refine collect_range (n := xs.length) (by exact I5.ok.hd hc) hr4 (small_one (by omega) (by omega) (by omega) (by omega)) (by rw [eRs, Int.toNat_natCast]) (by omega) fun h' tk acc k1 k2 => kR h' tk acc.toList k1 ?_
    refine PySem.W.EachIs.of_zip (by rw [Array.length_toList, k2.1, List.length_range]) fun pr hpr => ?_
    obtain ⟨j, hj⟩ := List.getElem?_of_mem hpr
    obtain ⟨e1, e2⟩ := List.getElem?_zip_eq_some.mp hj
    rw [Array.getElem?_toList] at e1
    obtain ⟨tt, e3⟩ := k2.2 j _ e1
    have hj2 : j < xs.length := by
      have := (List.getElem?_eq_some_iff.mp e2).1
      rw [List.length_range] at this
      exact this
    rw [List.getElem?_range hj2] at e2
    refine ⟨tt, ?_⟩
    rw [e3, ← Option.some.inj e2, Int.zero_add, Int.mul_one]
  · have e1 : (xs.map V.int)[j]? = some (.int (xs.getD j 0)) := by
      rw [List.getElem?_map, List.getElem?_eq_getElem hj, List.getD_eq_getElem?_getD, List.getElem?_eq_getElem hj]
      rfl
    obtain ⟨u, hu1, ⟨tu, rfl⟩⟩ := rv.get e1
    refine lam_key (s := { s4 with heap := hp, toks := tk }) (A := X.A.in1.in1) hr.depth (I5.nolimit.keeps kp) (kp _ _ hf) ⟨c', oc, vs, tq, rfl, kp _ _ hoc, hdc, hvc⟩ hsc hk hco hgen (hbind _ _ _ _ _) (c := c0) ?_ ?_ (p := w1) (its := its) ?_ (by rw [hil]; exact hzl) hu1
    · rw [hsc]
      show (cloFrom X.env.cells [(("word" : Str), NameKind.free)] []).lookup _ = _
      show List.lookup _ [(("word" : Str), (X.env.cells.lookup ("word" : Str)).getD 0)] = _
      rw [hc0]
      rfl
    · obtain ⟨o1, h1, h2⟩ := hcell
      exact ⟨o1, kp _ _ h1, h2⟩
    · rcases hseq with ⟨o, h1, h2, n, h3⟩ | z
      · exact .inl ⟨o, kp _ _ h1, h2, n, h3⟩
      · exact .inr (z.at fun o e => kp _ _ e)
  · obtain ⟨v2, H5, J, rv5, q5⟩ := hv5
    exact ⟨v2, H5, J.pins_of fun p hp => J.pin p (List.mem_append_right _ (List.mem_cons_of_mem _ hp)), rv5, q5⟩
end Mv
set_option Elab.async false
set_option linter.all false
set_option maxRecDepth 100000
set_option maxHeartbeats 1000000
namespace Mv
open PySem PySem.Spec PyProof.Rows L2
/-! ### the kept indexes -/
theorem getD_at {xs : List Int} {i : Nat} (h : i < xs.length) : xs.getD i 0 = xs[i] := by
  rw [List.getD_eq_getElem?_getD, List.getElem?_eq_getElem h]
  rfl
theorem idx_get {xs : List Int} {x : Int} (h : x ∈ xs) : xs.getD (xs.idxOf x) 0 = x := by
  rw [getD_at (List.idxOf_lt_length_iff.mpr h)]
  exact List.getElem_idxOf _
theorem get_ixs {xs ys : List Int} (h : ∀ y ∈ ys, y ∈ xs) : (ys.map xs.idxOf).map (fun i => xs.getD i 0) = ys := by
  rw [List.map_map]
  conv => rhs; rw [← List.map_id ys]
  exact List.map_congr_left fun y hy => idx_get (h y hy)
theorem idx_app {xs : List Int} {x y : Int} (h : y ∈ xs) : (xs ++ [x]).idxOf y = xs.idxOf y := by
  rw [List.idxOf_append, if_pos h]
theorem idx_new {xs : List Int} {x : Int} (h : x ∉ xs) : (xs ++ [x]).idxOf x = xs.length := by
  rw [List.idxOf_append, if_neg h]
  simp
theorem ixs_asc (xs : List Int) : ((headsI xs).map xs.idxOf).Pairwise (· < ·) := by
  induction xs using snoc_ind with
  | h0 => exact .nil
  | hs xs x ih =>
    have e : (headsI xs).map (xs ++ [x]).idxOf = (headsI xs).map xs.idxOf := List.map_congr_left fun y hy => idx_app ((mem_headsI xs).mp hy)
    rw [headsI_snoc]
    unfold addI
    split
    · rw [e]
      exact ih
    · rename_i hx
      rw [List.map_append, e, List.map_singleton, idx_new (fun z => hx ((mem_headsI xs).mpr z))]
      refine List.pairwise_append.mpr ⟨ih, List.pairwise_singleton _ _, fun a ha b hb => ?_⟩
      rw [List.mem_singleton.mp hb]
      obtain ⟨y, hy, rfl⟩ := List.mem_map.mp ha
      exact List.idxOf_lt_length_iff.mpr ((mem_headsI xs).mp hy)
/-- where x stands last -/
def lastIx (xs : List Int) (x : Int) : Nat := xs.length - 1 - xs.reverse.idxOf x
theorem lastIx_snoc (xs : List Int) (x y : Int) (h : y = x ∨ y ∈ xs) : lastIx (xs ++ [x]) y = if y = x then xs.length else lastIx xs y := by
  unfold lastIx
  rw [List.reverse_append, List.length_append, List.length_singleton]
  show xs.length + 1 - 1 - List.idxOf y (x :: xs.reverse) = _
  rw [List.idxOf_cons]
  by_cases e : y = x
  · subst e
    simp
  · rw [if_neg e]
    have hb : (x == y) = false := beq_eq_false_iff_ne.mpr (Ne.symm e)
    rw [hb]
    show xs.length + 1 - 1 - (List.idxOf y xs.reverse + 1) = _
    omega
theorem lastIx_lt {xs : List Int} {x : Int} (h : x ∈ xs) : lastIx xs x < xs.length := by
  have := List.length_pos_of_mem h
  unfold lastIx
  omega
theorem lastIx_get {xs : List Int} {x : Int} (h : x ∈ xs) : xs.getD (lastIx xs x) 0 = x := by
  have h1 : xs.reverse.idxOf x < xs.reverse.length := List.idxOf_lt_length_iff.mpr (List.mem_reverse.mpr h)
  have h2 := lastIx_lt h
  rw [getD_at h2]
  have e := List.getElem_idxOf h1
  rw [List.getElem_reverse] at e
  exact e
/-- the tails' indexes -/
def tailIx (xs : List Int) : List Nat := ((headsI xs.reverse).map (lastIx xs)).reverse
theorem tailIx_asc (xs : List Int) : (tailIx xs).Pairwise (· < ·) := by
  unfold tailIx
  rw [List.pairwise_reverse, List.pairwise_map]
  have h := ixs_asc xs.reverse
  rw [List.pairwise_map] at h
  refine List.Pairwise.imp_of_mem (fun {a b} ha hb hab => ?_) h
  have h1 : xs.reverse.idxOf b < xs.length := by
    have := List.idxOf_lt_length_iff.mpr ((mem_headsI xs.reverse).mp hb)
    rw [List.length_reverse] at this
    exact this
  unfold lastIx
  omega
theorem tailIx_vals (xs : List Int) : (tailIx xs).map (fun i => xs.getD i 0) = tailsI xs := by
  unfold tailIx tailsI
  rw [List.map_reverse, List.map_map]
  congr 1
  conv => rhs; rw [← List.map_id (headsI xs.reverse)]
  exact List.map_congr_left fun y hy => lastIx_get (List.mem_reverse.mp ((mem_headsI _).mp hy))
theorem intsOf_asc {is : List Nat} (h : is.Pairwise (· < ·)) : (is.map fun i : Nat => (i : Int)).Pairwise (· ≤ ·) := by
  rw [List.pairwise_map]
  exact h.imp fun {a b} q => by omega
theorem sort_ixs (xs : List Int) : sortI ((headsI xs).map fun x => ((xs.idxOf x : Nat) : Int)) = ((headsI xs).map xs.idxOf).map fun i : Nat => (i : Int) := by
  refine (sort_is ?_ (intsOf_asc (ixs_asc xs))).symm
  rw [List.map_map]
  exact List.Perm.refl _
theorem sort_last (xs : List Int) : sortI ((headsI xs).map fun x => ((lastIx xs x : Nat) : Int)) = (tailIx xs).map fun i : Nat => (i : Int) := by
  refine (sort_is ?_ (intsOf_asc (tailIx_asc xs))).symm
  unfold tailIx
  rw [List.map_reverse, List.map_map]
  refine (List.reverse_perm _).trans ?_
  refine List.Perm.map _ (perm_of_mem (nodup_headsI _) (nodup_headsI _) fun x => ?_)
  rw [mem_headsI, mem_headsI, List.mem_reverse]
/-- what keep gives -/
def keepIx (k : Kd) (xs : List Int) : List Nat :=
  match k with
  | .list => List.range xs.length
  | .bag => bagIx xs
  | .set => (sortI (headsI xs)).map xs.idxOf
  | .first => if xs.length = 0 then [] else [0]
  | .last => if xs.length = 0 then [] else [xs.length - 1]
  | .ends => if xs.length = 0 then [] else [0, xs.length - 1]
  | .heads => (headsI xs).map xs.idxOf
  | .tails => tailIx xs
theorem keep_vals (k : Kd) (xs : List Int) : (keepIx k xs).map (fun i => xs.getD i 0) = plainI k xs := by
  have hlast : xs.length ≠ 0 → xs.drop (xs.length - 1) = [xs.getD (xs.length - 1) 0] := fun h => by
    rw [getD_at (by omega), List.drop_eq_getElem_cons (by omega), show xs.length - 1 + 1 = xs.length from by omega, List.drop_length]
  have hfst : xs.length ≠ 0 → xs.take 1 = [xs.getD 0 0] := fun h => by
    cases xs with
    | nil => exact absurd rfl h
    | cons x r => rfl
  have hnil : xs.length = 0 → xs = [] := List.length_eq_zero_iff.mp
  cases k with
  | list => exact range_get xs
  | bag => exact bagIx_vals xs
  | set => exact get_ixs fun y hy => (mem_headsI xs).mp (mem_sort.mp hy)
  | heads => exact get_ixs fun y hy => (mem_headsI xs).mp hy
  | tails => exact tailIx_vals xs
  | first =>
    show (if xs.length = 0 then [] else [0]).map _ = firstI xs
    split
    · rename_i h
      rw [hnil h]
      rfl
    · rename_i h
      exact (hfst h).symm
  | last =>
    show (if xs.length = 0 then [] else [xs.length - 1]).map _ = lastI xs
    split
    · rename_i h
      rw [hnil h]
      rfl
    · rename_i h
      exact (hlast h).symm
  | ends =>
    show (if xs.length = 0 then [] else [0, xs.length - 1]).map _ = endsI xs
    split
    · rename_i h
      rw [hnil h]
      rfl
    · rename_i h
      unfold endsI
      rw [hfst h, hlast h]
      rfl
theorem keep_lt {k : Kd} {xs : List Int} {i : Nat} (h : i ∈ keepIx k xs) : i < xs.length := by
  cases k with
  | list => exact List.mem_range.mp h
  | bag => exact bagIx_lt h
  | set =>
    obtain ⟨y, hy, rfl⟩ := List.mem_map.mp h
    exact List.idxOf_lt_length_iff.mpr ((mem_headsI xs).mp (mem_sort.mp hy))
  | heads =>
    obtain ⟨y, hy, rfl⟩ := List.mem_map.mp h
    exact List.idxOf_lt_length_iff.mpr ((mem_headsI xs).mp hy)
  | tails =>
    obtain ⟨y, hy, rfl⟩ := List.mem_map.mp (List.mem_reverse.mp h)
    exact lastIx_lt (List.mem_reverse.mp ((mem_headsI _).mp hy))
  | first =>
    revert h
    show i ∈ (if xs.length = 0 then [] else [0]) → _
    split
    · exact fun h => by cases h
    · intro h
      rw [List.mem_singleton.mp h]
      omega
  | last =>
    revert h
    show i ∈ (if xs.length = 0 then [] else [xs.length - 1]) → _
    split
    · exact fun h => by cases h
    · intro h
      rw [List.mem_singleton.mp h]
      omega
  | ends =>
    revert h
    show i ∈ (if xs.length = 0 then [] else [0, xs.length - 1]) → _
    split
    · exact fun h => by cases h
    · intro h
      rcases List.mem_cons.mp h with h | h
      · omega
      · rw [List.mem_singleton.mp h]
        omega
theorem keep_len {k : Kd} {xs : List Int} : (keepIx k xs).length = (plainI k xs).length := by rw [← keep_vals, List.length_map]
/-! ### the dicts by the values -/
def leastD (xs : List Int) (i : Nat) : List (Key × V) := (headsI (xs.take i)).map fun x => (Sum.inl x, V.int ((xs.idxOf x : Nat) : Int))
def greatD (xs : List Int) (i : Nat) : List (Key × V) := (headsI (xs.take i)).map fun x => (Sum.inl x, V.int ((lastIx (xs.take i) x : Nat) : Int))
theorem val_map (g : Int → V) (y : Int) : ∀ ys : List Int, valV (ys.map fun x => ((Sum.inl x : Key), g x)) (.inl y) = if y ∈ ys then some (g y) else none
  | [] => rfl
  | x :: ys => by
    rw [List.map_cons]
    by_cases e : x = y
    · subst e
      rw [valV_pos rfl, if_pos (List.mem_cons_self ..)]
    · rw [valV_neg (fun z => e (Sum.inl.inj z)), val_map g y ys]
      by_cases h : y ∈ ys
      · rw [if_pos h, if_pos (List.mem_cons_of_mem _ h)]
      · rw [if_neg h, if_neg]
        intro z
        rcases List.mem_cons.mp z with z | z
        · exact e z.symm
        · exact h z
theorem take_succ_at {xs : List Int} {i : Nat} {x : Int} (h : xs[i]? = some x) : xs.take (i + 1) = xs.take i ++ [x] := by
  rw [List.take_add_one, h]
  rfl
theorem least_hit {xs : List Int} {i : Nat} {x : Int} (h : xs[i]? = some x) (hx : x ∈ xs.take i) : leastD xs (i + 1) = leastD xs i := by
  unfold leastD
  rw [take_succ_at h, headsI_snoc]
  unfold addI
  rw [if_pos ((mem_headsI _).mpr hx)]
theorem least_new {xs : List Int} {i : Nat} {x : Int} (h : xs[i]? = some x) (hx : x ∉ xs.take i) : leastD xs (i + 1) = putK (leastD xs i) (.inl x) (.int (i : Nat)) := by
  have hv : valV (leastD xs i) (.inl x) = none := by
    unfold leastD
    rw [val_map, if_neg fun z => hx ((mem_headsI _).mp z)]
  rw [putK_new _ hv]
  unfold leastD
  rw [take_succ_at h, headsI_snoc]
  unfold addI
  rw [if_neg fun z => hx ((mem_headsI _).mp z), List.map_append, List.map_singleton]
  have hi : i < xs.length := (List.getElem?_eq_some_iff.mp h).1
  have e : xs.idxOf x = i := by
    have e1 : xs = xs.take i ++ xs.drop i := (List.take_append_drop i xs).symm
    have e2 : xs.drop i = x :: xs.drop (i + 1) := by
      rw [List.drop_eq_getElem_cons hi, (List.getElem?_eq_some_iff.mp h).2]
    rw [e1, List.idxOf_append, if_neg hx, e2, List.idxOf_cons_self, List.length_take, Nat.zero_add]
    omega
  rw [e]
theorem great_put {xs : List Int} {i : Nat} {x : Int} (h : xs[i]? = some x) : greatD xs (i + 1) = putK (greatD xs i) (.inl x) (.int (i : Nat)) := by
  have hi : i < xs.length := (List.getElem?_eq_some_iff.mp h).1
  have hl : (xs.take i).length = i := by
    rw [List.length_take]
    omega
  have hL : ∀ y, y = x ∨ y ∈ xs.take i → lastIx (xs.take (i + 1)) y = if y = x then i else lastIx (xs.take i) y := fun y hy => by
    rw [take_succ_at h, lastIx_snoc _ _ _ hy, hl]
  have hm := fun y => mem_headsI (y := y) (xs.take i)
  by_cases hx : x ∈ xs.take i
  · unfold greatD
    rw [show headsI (xs.take (i + 1)) = headsI (xs.take i) from by
      rw [take_succ_at h, headsI_snoc]
      unfold addI
      rw [if_pos ((hm x).mpr hx)]]
    unfold putK
    rw [if_pos, List.map_map]
    · refine List.map_congr_left fun y hy => ?_
      rw [hL y (.inr ((hm y).mp hy))]
      show _ = if (Sum.inl y : Key) = Sum.inl x then _ else _
      by_cases e : y = x
      · subst e
        rw [if_pos rfl, if_pos rfl]
      · rw [if_neg e, if_neg fun z => e (Sum.inl.inj z)]
    · rw [valV_any, val_map, if_pos ((hm x).mpr hx)]
      rfl
  · have hv : valV (greatD xs i) (.inl x) = none := by
      unfold greatD
      rw [val_map, if_neg fun z => hx ((hm x).mp z)]
    rw [putK_new _ hv]
    unfold greatD
    rw [show headsI (xs.take (i + 1)) = headsI (xs.take i) ++ [x] from by
      rw [take_succ_at h, headsI_snoc]
      unfold addI
      rw [if_neg fun z => hx ((hm x).mp z)], List.map_append, List.map_singleton, hL x (.inl rfl), if_pos rfl]
    congr 1
    refine List.map_congr_left fun y hy => ?_
    have hy := (hm y).mp hy
    rw [hL y (.inr hy), if_neg fun z : y = x => hx (z ▸ hy)]
theorem leastD_len (xs : List Int) (i : Nat) : (leastD xs i).length ≤ i := by
  unfold leastD
  rw [List.length_map]
  refine Nat.le_trans (headsI_len _) ?_
  rw [List.length_take]
  omega
theorem greatD_len (xs : List Int) (i : Nat) : (greatD xs i).length ≤ i := by
  unfold greatD
  rw [List.length_map]
  refine Nat.le_trans (headsI_len _) ?_
  rw [List.length_take]
  omega
end Mv
set_option Elab.async false
set_option linter.all false
set_option maxRecDepth 100000
set_option maxHeartbeats 4000000
namespace Mv
open PySem PySem.Spec PyProof.Rows L2
/-! ### t[::-1], t a tuple: a new tuple -/
section
variable {prog : Program} {w : World} {A : Around} {E : Value → Shared → Prop} {s : Shared}
theorem sliceApplied_back {sl : Addr} {vl vu vs : Value} {n : Nat} {Q : Int × Int × Nat → Shared → Prop} (hs : s.heap.IsSliceOf sl vl vu vs) (pl : IsPart vl none) (pu : IsPart vu none) (ps : IsPart vs (some (-1)))
    (h : Q ((n : Int) - 1, -1, n) s) : wpAny (model prog w) A (Builtin.Slice.sliceApplied (.ref sl) (pure (n : Int))) Q E s := by
  obtain ⟨os, hos, hcs, hds⟩ := id hs
  unfold Builtin.Slice.sliceApplied Builtin.Slice.sliceFields
  refine wpAny_bind (wpAny_bind (wpAny_field hos hds (x := vl) rfl (wpAny_bind (wpAny_field hos hds (x := vu) rfl (wpAny_bind (wpAny_field hos hds (x := vs) rfl (wpAny_pure ?_)))))))
  refine wpAny_bind (HT.slicePart_ ps ?_)
  show wpAny _ _ (if ((-1 : Int) == 0) = true then _ else _) _ _ s
  rw [if_neg (by decide)]
  refine wpAny_bind (HT.slicePart_ pl (wpAny_bind (HT.slicePart_ pu (wpAny_bind (wpAny_pure ?_)))))
  show wpAny _ _ (match Builtin.Slice.sliceAdjust none none (-1) (n : Int) with | (lo, hi) => pure (lo, (-1 : Int), Builtin.Slice.slicePlaces lo hi (-1))) _ _ s
  have e1 : Builtin.Slice.sliceAdjust none none (-1) (n : Int) = ((n : Int) - 1, -1) := rfl
  have e2 : Builtin.Slice.slicePlaces ((n : Int) - 1) (-1) (-1) = n := by
    unfold Builtin.Slice.slicePlaces
    rw [if_neg (by decide), show (- -1 : Int) = 1 by decide, Int.ediv_one]
    split <;> omega
  rw [e1]
  show wpAny _ _ (pure ((n : Int) - 1, (-1 : Int), Builtin.Slice.slicePlaces ((n : Int) - 1) (-1) (-1))) _ _ s
  rw [e2]
  exact wpAny_pure h
theorem fm_congr {α β : Type} {f g : α → Option β} : ∀ {l : List α}, (∀ k ∈ l, f k = g k) → l.filterMap f = l.filterMap g
  | [], _ => rfl
  | x :: l, h => by rw [List.filterMap_cons, List.filterMap_cons, h x List.mem_cons_self, fm_congr fun k hk => h k (List.mem_cons_of_mem _ hk)]
theorem pick_back (xs : Array Value) : ((List.range xs.size).filterMap fun (k : Nat) => xs[((xs.size : Int) - 1 + (k : Int) * (-1)).toNat]?).toArray = xs.toList.reverse.toArray := by
  have h := PySem.W.krv_pick xs
  have e : (List.range xs.size).filterMap (fun (k : Nat) => xs[((xs.size : Int) - 1 + (k : Int) * (-1)).toNat]?) = ((List.range xs.size).map fun k => xs.size - 1 - k).filterMap (xs[·]?) := by
    rw [List.filterMap_map]
    refine fm_congr fun k hk => ?_
    have := List.mem_range.mp hk
    show xs[_]? = xs[xs.size - 1 - k]?
    congr 1
    omega
  rw [e, PySem.W.krv_range, List.filterMap_reverse, PySem.W.krv_all]
theorem getItem_tuple_back {t sl : Addr} {items : Array Value} {vl vu vs : Value} {Q : Value → Shared → Prop} (ht : IsTup s.heap t items) (hs : s.heap.IsSliceOf sl vl vu vs) (pl : IsPart vl none) (pu : IsPart vu none) (ps : IsPart vs (some (-1)))
    (h : Q (.ref s.heap.objs.size) { s with heap := s.heap.push { cls := .type "tuple", data := .seq items.toList.reverse.toArray } }) (hsz : items.size ≤ sizeLine) : wpAny (model prog w) A (getItem (.ref t) (.ref sl)) Q E s := by
  have htake : sizeOk (.seq items.toList.reverse.toArray) := by
    show items.toList.reverse.toArray.size ≤ sizeLine
    rw [List.size_toArray, List.length_reverse, Array.length_toList]
    exact hsz
  obtain ⟨os, hos, hcs, hds⟩ := id hs
  have hTs : s.TypeIs (.ref sl) "slice" := ⟨os, hos, hcs⟩
  unfold getItem
  try with_reducible refine wpAny_holding ?_
  first | refine wpAny_bind (wpAny_pure ?_) | skip
  refine wpAny_bind (wpAny_sequenceKey ht.typeIs (by decide) ?_)
  refine wpAny_bind (wpAny_callSpecial?_slot (name := Str.ofString "__getitem__") ht.typeIs PyProof.Rows.slot_tuple_getitem
    (wpAny_call_entry PyProof.Rows.slot_tuple_getitem ht.typeIs entry_tuple_getitem ?_ (args_tuple_getitem _ _)))
  show wpAny _ _ (Builtin.Tuple.tupleItemsOf (.ref t) >>= _) _ _ s
  refine wpAny_bind (tupleItemsOf_ ht ?_)
  refine wpAny_bind (wpAny_typeOf hTs ?_)
  rw [if_pos (by decide)]
  refine wpAny_bind (sliceApplied_back hs pl pu ps ?_)
  show wpAny _ _ (if (((items.size : Int) - 1) == 0 && (-1 : Int) == 1 && items.size == items.size) = true then _ else _) _ _ s
  rw [if_neg (by rw [show ((-1 : Int) == 1) = false from rfl, Bool.and_false, Bool.false_and]; exact Bool.false_ne_true), pick_back]
  first
    | exact wpAny_bind (m := Builtin.Tuple.tupleExact _) (wpAny_newObj_type (wpAny_pure ⟨_, rfl, wpAny_pure h⟩) htake)
    | exact wpAny_bind (m := Builtin.Tuple.tupleExact _) (wpAny_newObj_type (wpAny_bind (wpAny_pure (wpAny_pure ⟨_, rfl, wpAny_pure h⟩))) htake)
    | exact wpAny_bind (wpAny_bind (m := Builtin.Tuple.tupleExact _) (wpAny_newObj_type (wpAny_pure (wpAny_pure ⟨_, rfl, wpAny_pure h⟩)) htake))
    | exact wpAny_bind (wpAny_bind (m := Builtin.Tuple.tupleExact _) (wpAny_newObj_type (wpAny_pure ⟨_, rfl, wpAny_pure h⟩) htake))
end
section
variable {X : Cx}
def tRevT (K : PySem.W.Frag) (te : TE) : TE := fun σ H Q => te σ H fun x H1 => ∃ a xs, x = .ref a ∧ SqT K H1 a xs ∧ ∀ p, H1 p = none → Q (.ref p) (upd H1 p (.tup xs.reverse))
theorem pe_revT {e : Expr} {te : TE} {k : Nat} {p1 p2 p3 pos : Pos} (he : PE X e te) : PE X (.Subscript e (.Slice none none (some (.UnaryOp .USub (.Constant (.int 1) k p1) p2)) p3) pos) (tRevT X.K te) := by
  refine ⟨fun pins s σ H Q I h => ?_⟩
  refine Subscript_ (thn (he.run pins s σ H _ I h) fun v s1 ⟨x, H1, I1, r1, q1⟩ => ?_)
  obtain ⟨a, xs, ex, hx, q⟩ := q1
  subst ex
  cases r1
  have hst : PO X (some (.UnaryOp .USub (.Constant (.int 1) k p1) p2)) (tPart (tUn (rU fun i => .int (-i)) (tC (.int 1)))) := po_some (pe_un un_neg pe_int)
  refine wpAny_Slice (thn (po_none.run pins s1 σ H1 (fun o H2 => o = none ∧ H2 = H1) I1 ⟨rfl, rfl⟩) fun vl s2 ⟨l, H2, I2, pl, el, e2⟩ => ?_)
  subst el e2
  refine thn (po_none.run pins s2 σ H2 (fun o H3 => o = none ∧ H3 = H2) I2 ⟨rfl, rfl⟩) fun vu s3 ⟨u, H3, I3, pu, eu, e3⟩ => ?_
  subst eu e3
  refine thn (hst.run pins s3 σ H3 (fun o H4 => o = some (-1) ∧ H4 = H3) I3 ⟨1, rfl, -1, rfl, rfl, rfl⟩) fun vs s4 ⟨o, H4, I4, ps, eo, e4⟩ => ?_
  subst eo e4
  have I5 : Inv X pins σ H4 { s4 with heap := s4.heap.push { cls := .type "slice", data := .fields #[vl, vu, vs] } } := I4.kept (t' := s4.toks) fun b ob q => Heap.get?_push_of_some _ q
  obtain ⟨its, r, ht, hz⟩ := I5.tuple hx
  have hlen := r.length
  show wpAny (model X.prog X.w) X.A (subscriptTail e (.Slice none none (some (.UnaryOp .USub (.Constant (.int 1) k p1) p2)) p3) (.ref a) (.ref s4.heap.objs.size)) (EP X pins σ Q) X.xe { s4 with heap := s4.heap.push { cls := .type "slice", data := .fields #[vl, vu, vs] } }
  refine tail_any (ops := [.ref a, .ref s4.heap.objs.size]) ht.typeIs (PyProof.Rows.slot_tuple_getitem.lookup) ?_ (by with_unfolding_all rfl)
  refine getItem_tuple_back ht (Heap.IsSliceOf.new _ vl vu vs) pl pu ps ?_ (by rw [List.size_toArray]; omega)
  refine ⟨.ref _, _, I5.laid (t' := s4.toks) (o := .tup xs.reverse) (fun b ob q => Heap.get?_push_of_some _ q) (Nat.le_refl _) ?_, rfl, q _ (I5.hok.fresh (Nat.le_refl _))⟩
  exact ⟨by rw [List.length_reverse]; exact hz, _, r.reverse, IsTup.new _ _⟩
end
end Mv
set_option Elab.async false
set_option linter.all false
set_option maxRecDepth 100000
set_option maxHeartbeats 1000000
/-! built-in calls and methods -/
namespace DL
open PySem PySem.Spec PyProof.Rows L2 Mv
section
variable {K : PySem.W.Frag} {A : Addr → Prop} {H H' : Hp} {v : V}
theorem RBs.one {vs : List V} {x : D} (h : RBs K (res A H) H vs [x]) : ∃ v, vs = [v] ∧ RB K (res A H) H v x := by
  cases h with
  | cons h r =>
    cases r
    exact ⟨_, rfl, h⟩
theorem RBs.two {vs : List V} {x y : D} (h : RBs K (res A H) H vs [x, y]) : ∃ v u, vs = [v, u] ∧ RB K (res A H) H v x ∧ RB K (res A H) H u y := by
  cases h with
  | cons h r =>
    obtain ⟨u, rfl, h2⟩ := r.one
    exact ⟨_, u, rfl, h, h2⟩
/-- the items of a list or a tuple -/
def itsD : D → Option (List D)
  | .lst xs => some xs
  | .tup xs => some xs
  | .fl xs => some xs
  | _ => none
theorem RB.its {x : D} {xs : List D} (h : RB K (res A H) H v x) (e : itsD x = some xs) : ∃ a vs, v = .ref a ∧ (SqL K H a vs ∨ SqT K H a vs) ∧ Rps K (res A H) vs xs := by
  cases x with
  | lst ys => cases e; obtain ⟨a, vs, e, h1, h2⟩ := h.lst; exact ⟨a, vs, e, .inl (.inl (.inl h1)), h2⟩
  | tup ys => cases e; obtain ⟨a, vs, e, h1, _, h2⟩ := h.tup; exact ⟨a, vs, e, .inr h1, h2⟩
  | fl ys => cases e; obtain ⟨a, vs, e, h1, h2⟩ := h.fl; exact ⟨a, vs, e, .inl h1, h2⟩
  | _ => cases e
/-! ### len, list(..), tuple(..) -/
def xLen : DCs := fun ds Q => ∃ x xs, ds = [x] ∧ itsD x = some xs ∧ Q (.d (.int (xs.length : Nat)))
theorem lr_len : LRC K (fun xs H Q => ∃ p ys, xs = [.ref p] ∧ (SqL K H p ys ∨ SqT K H p ys) ∧ Q (.int ys.length) H) xLen := fun hid H vs ds Qd Q ho hv ⟨x, xs, e1, e2, q⟩ k => by
  subst e1
  obtain ⟨v, rfl, h⟩ := hv.one
  obtain ⟨a, vs, rfl, h1, h2⟩ := h.its e2
  refine ⟨a, vs, rfl, h1, k _ _ (.d (.int (xs.length : Nat))) ?_ q⟩
  rw [h2.length]
  exact nsc
def xLenS : DCs := fun ds Q => ∃ z, ds = [.str z] ∧ z.length ≤ sizeLine ∧ Q (.d (.int (z.length : Nat)))
theorem lr_lenS : LRC K (fun xs H Q => ∃ z, xs = [.str z] ∧ z.length ≤ sizeLine ∧ Q (.int z.length) H) xLenS := fun hid H vs ds Qd Q ho hv ⟨z, e1, e2, q⟩ k => by
  subst e1
  obtain ⟨v, rfl, h⟩ := hv.one
  rw [h.sc]
  exact ⟨z, rfl, e2, k _ _ _ nsc q⟩
def xList : DCs := fun ds Q => ∃ x xs, ds = [x] ∧ itsD x = some xs ∧ Q (.o (.lst xs))
theorem lr_list : LRC K (fun xs H Q => ∃ p ys, xs = [.ref p] ∧ (SqL K H p ys ∨ SqT K H p ys) ∧ ∀ l, H l = none → Q (.ref l) (upd H l (.lst ys))) xList := fun hid H vs ds Qd Q ho hv ⟨x, xs, e1, e2, q⟩ k => by
  subst e1
  obtain ⟨v, rfl, h⟩ := hv.one
  obtain ⟨a, vs, rfl, h1, h2⟩ := h.its e2
  exact ⟨a, vs, rfl, h1, fun l hl => k _ _ _ (newR_lst ho hl h2) q⟩
def xTuple : DCs := fun ds Q => ∃ x xs, ds = [x] ∧ itsD x = some xs ∧ Q (.d (.tup xs))
theorem lr_tuple : LRC K (fun xs H Q => ∃ p ys, xs = [.ref p] ∧ ((SqL K H p ys ∧ ∀ l, H l = none → Q (.ref l) (upd H l (.tup ys))) ∨ (SqT K H p ys ∧ Q (.ref p) H))) xTuple := fun hid H vs ds Qd Q ho hv ⟨x, xs, e1, e2, q⟩ k => by
  subst e1
  obtain ⟨v, rfl, h⟩ := hv.one
  cases x with
  | lst ys =>
    cases e2
    obtain ⟨a, vs, rfl, h1, h2⟩ := h.lst
    exact ⟨a, vs, rfl, .inl ⟨.inl (.inl h1), fun l hl => k _ _ _ (newR_tup ho hl h2) q⟩⟩
  | tup ys =>
    cases e2
    obtain ⟨a, vs, rfl, h1, h1', h2⟩ := h.tup
    exact ⟨a, vs, rfl, .inr ⟨h1, k _ _ _ (nre (.tup h1' h2)) q⟩⟩
  | fl ys =>
    cases e2
    obtain ⟨a, vs, rfl, h1, h2⟩ := h.fl
    exact ⟨a, vs, rfl, .inl ⟨h1, fun l hl => k _ _ _ (newR_tup ho hl h2) q⟩⟩
  | _ => cases e2
/-! ### numbers -/
def xInt : DCs := fun ds Q => (∃ i, ds = [.int i] ∧ Q (.d (.int i))) ∨ ∃ k, ds = [.bl k] ∧ Q (.d (.int (if k then 1 else 0)))
theorem lr_int : LRC K (fun xs H Q => (∃ i, xs = [.int i] ∧ Q (.int i) H) ∨ ∃ k, xs = [.bl k] ∧ Q (.int (if k then 1 else 0)) H) xInt := fun hid H vs ds Qd Q ho hv h k => by
  rcases h with ⟨i, e1, q⟩ | ⟨b, e1, q⟩
  · subst e1
    obtain ⟨v, rfl, h⟩ := hv.one
    rw [h.sc]
    exact .inl ⟨i, rfl, k _ _ _ nsc q⟩
  · subst e1
    obtain ⟨v, rfl, h⟩ := hv.one
    rw [h.sc]
    exact .inr ⟨b, rfl, k _ _ _ nsc q⟩
def xMin2 : DCs := fun ds Q => ∃ i j, ds = [.int i, .int j] ∧ Q (.d (.int (if j < i then j else i)))
theorem lr_min2 : LRC K (fun xs H Q => ∃ i j, xs = [.int i, .int j] ∧ Q (.int (if j < i then j else i)) H) xMin2 := fun hid H vs ds Qd Q ho hv ⟨i, j, e1, q⟩ k => by
  subst e1
  obtain ⟨v, u, rfl, h, h2⟩ := hv.two
  rw [h.sc, h2.sc]
  exact ⟨i, j, rfl, k _ _ _ nsc q⟩
def xMax2 : DCs := fun ds Q => ∃ i j, ds = [.int i, .int j] ∧ Q (.d (.int (if j > i then j else i)))
theorem lr_max2 : LRC K (fun xs H Q => ∃ i j, xs = [.int i, .int j] ∧ Q (.int (if j > i then j else i)) H) xMax2 := fun hid H vs ds Qd Q ho hv ⟨i, j, e1, q⟩ k => by
  subst e1
  obtain ⟨v, u, rfl, h, h2⟩ := hv.two
  rw [h.sc, h2.sc]
  exact ⟨i, j, rfl, k _ _ _ nsc q⟩
theorem rps_ints {G : Hp} {vs : List V} {ns : List Int} (h : Rps K G vs (ns.map D.int)) : vs = ns.map V.int := by
  have e : ns.map D.int = (ns.map V.int).map D.sc := by rw [List.map_map]; rfl
  rw [e] at h
  exact h.scs
theorem rps_bls {G : Hp} {vs : List V} {ns : List Bool} (h : Rps K G vs (ns.map D.bl)) : vs = ns.map V.bl := by
  have e : ns.map D.bl = (ns.map V.bl).map D.sc := by rw [List.map_map]; rfl
  rw [e] at h
  exact h.scs
theorem of_ints {G : Hp} (ns : List Int) : Rps K G (ns.map V.int) (ns.map D.int) := by
  have e : ns.map D.int = (ns.map V.int).map D.sc := by rw [List.map_map]; rfl
  rw [e]
  exact Rps.of_scs _
def xSum : DCs := fun ds Q => ∃ ns : List Int, ds = [.lst (ns.map D.int)] ∧ Q (.d (.int ns.sum))
theorem lr_sum : LRC K (rSum K) xSum := fun hid H vs ds Qd Q ho hv ⟨ns, e1, q⟩ k => by
  subst e1
  obtain ⟨v, rfl, h⟩ := hv.one
  obtain ⟨a, vs, rfl, h1, h2⟩ := h.lst
  rw [rps_ints h2] at h1
  exact ⟨a, ns, rfl, .inl (.inl h1), k _ _ _ nsc q⟩
def xAll : DCs := fun ds Q => ∃ bs : List Bool, ds = [.lst (bs.map D.bl)] ∧ Q (.d (.bl (bs.all id)))
theorem lr_all : LRC K (rAll K) xAll := fun hid H vs ds Qd Q ho hv ⟨ns, e1, q⟩ k => by
  subst e1
  obtain ⟨v, rfl, h⟩ := hv.one
  obtain ⟨a, vs, rfl, h1, h2⟩ := h.lst
  rw [rps_bls h2] at h1
  exact ⟨a, ns, rfl, .inl (.inl h1), k _ _ _ nsc q⟩
def xAny : DCs := fun ds Q => ∃ bs : List Bool, ds = [.lst (bs.map D.bl)] ∧ Q (.d (.bl (bs.any id)))
theorem lr_any : LRC K (rAny K) xAny := fun hid H vs ds Qd Q ho hv ⟨ns, e1, q⟩ k => by
  subst e1
  obtain ⟨v, rfl, h⟩ := hv.one
  obtain ⟨a, vs, rfl, h1, h2⟩ := h.lst
  rw [rps_bls h2] at h1
  exact ⟨a, ns, rfl, .inl (.inl h1), k _ _ _ nsc q⟩
def xSortL : DCs := fun ds Q => ∃ ns : List Int, ds = [.lst (ns.map D.int)] ∧ Q (.o (.lst ((sortI ns).map D.int)))
theorem lr_sortL : LRC K (rSortL K) xSortL := fun hid H vs ds Qd Q ho hv ⟨ns, e1, q⟩ k => by
  subst e1
  obtain ⟨v, rfl, h⟩ := hv.one
  obtain ⟨a, vs, rfl, h1, h2⟩ := h.lst
  rw [rps_ints h2] at h1
  exact ⟨a, ns, rfl, .inl (.inl h1), fun p hp => k _ _ _ (newR_lst ho hp (of_ints _)) q⟩
def xSortT : DCs := fun ds Q => ∃ ns : List Int, ds = [.tup (ns.map D.int)] ∧ Q (.o (.lst ((sortI ns).map D.int)))
theorem lr_sortT : LRC K (rSortT K) xSortT := fun hid H vs ds Qd Q ho hv ⟨ns, e1, q⟩ k => by
  subst e1
  obtain ⟨v, rfl, h⟩ := hv.one
  obtain ⟨a, vs, rfl, h1, _, h2⟩ := h.tup
  rw [rps_ints h2] at h1
  exact ⟨a, ns, rfl, h1, fun p hp => k _ _ _ (newR_lst ho hp (of_ints _)) q⟩
/-! ### isinstance -/
def typD : D → Option Value
  | .sc .non => some (.type "NoneType")
  | .sc (.bl _) => some (.type "bool")
  | .sc (.int _) => some (.type "int")
  | .sc (.str _) => some (.type "str")
  | .tup _ => some (.type "tuple")
  | .lst _ => some (.type "list")
  | _ => none
theorem RB.typ {x : D} {t : Value} (h : RB K (res A H) H v x) (e : typD x = some t) : TyX K H v t := by
  cases x with
  | sc z =>
    rw [h.sc]
    cases z <;> first
      | (cases e; done)
      | (cases e; exact .base (by constructor))
      | cases e
  | tup xs =>
    cases e
    obtain ⟨a, vs, rfl, h1, _⟩ := h.tup
    rcases h1 with (h1 | ⟨o, h1⟩) | ⟨o, its, n, h1, h2, _⟩
    · exact .base (.tup h1)
    · exact .fTuple h1
    · exact .kTuple h1 h2
  | lst xs =>
    cases e
    obtain ⟨a, vs, rfl, h1, _⟩ := h.lst
    exact .base (.lst h1)
  | _ => cases e
/-- what the rule asks of an own class -/
structure InsT (K : PySem.W.Frag) (C : Addr) : Prop where
  cl : Cls K C
  ha : PySem.W.findIn K (.ref C) "__class__" = some (some (.builtin "object.__class__"))
  hn : PySem.W.specialIn K (.builtin "object.__class__") "__get__" = some (some (.builtin "getset_descriptor.__get__"))
  htk : PySem.W.takesIn K (.builtin "object.__class__") = some true
  hm : PySem.W.mroIn K C (.type "object") = some true
def xIsi (K : PySem.W.Frag) : DCs := fun ds Q => ∃ x c u b, ds = [x, .sc c] ∧ ClsV c u ∧ (∃ t, (typD x = some t ∨ ∃ C fs, x = .ins C fs ∧ InsT K C ∧ t = .ref C) ∧ PySem.W.kitOne K t u = some b) ∧ Q (.d (.bl b))
theorem lr_isi : LRC K (rIsi K) (xIsi K) := fun hid H vs ds Qd Q ho hv ⟨x, c, u, b, e1, hc, ⟨t, ht, hk⟩, q⟩ k => by
  subst e1
  obtain ⟨v, w, rfl, h, h2⟩ := hv.two
  rw [h2.sc]
  refine ⟨v, c, t, u, b, rfl, hc, ?_, hk, k _ _ _ nsc q⟩
  rcases ht with ht | ⟨C, fs, rfl, ic, rfl⟩
  · exact h.typ ht
  · obtain ⟨a, dx, gs, rfl, h1, _⟩ := h.ins
    exact .base (.ins h1 ic.cl ic.ha ic.hn ic.htk ic.hm)
/-! ### truth -/
def truD : D → Option Bool
  | .sc .non => some false
  | .sc (.bl b) => some b
  | .sc (.int i) => some (i != 0)
  | .tup xs => some (!xs.isEmpty)
  | .lst xs => some (!xs.isEmpty)
  | .dK ks => some (!ks.isEmpty)
  | _ => none
theorem isEmpty_rps {G : Hp} {vs : List V} {xs : List D} (h : Rps K G vs xs) : vs.isEmpty = xs.isEmpty := by cases h <;> rfl
theorem RB.tru {x : D} {b : Bool} (h : RB K (res A H) H v x) (e : truD x = some b) : TruV K v H b := by
  cases x with
  | sc z =>
    rw [h.sc]
    cases z with
    | non => cases e; rfl
    | bl b => cases e; rfl
    | int i => cases e; rfl
    | _ => cases e
  | tup xs =>
    cases e
    obtain ⟨a, vs, rfl, h1, _, h2⟩ := h.tup
    exact .inr (.inl ⟨vs, h1, by rw [isEmpty_rps h2]⟩)
  | lst xs =>
    cases e
    obtain ⟨a, vs, rfl, h1, h2⟩ := h.lst
    exact .inl ⟨vs, .inl (.inl h1), by rw [isEmpty_rps h2]⟩
  | dK ks =>
    cases e
    obtain ⟨a, vs, rfl, h1, h2, _⟩ := h.dK
    refine .inr (.inr ⟨vs, h1, ?_⟩)
    cases vs <;> cases ks <;> first | rfl | cases h2
  | _ => cases e
end
section
variable {T : List (Addr × Str)} {K : PySem.W.Frag} {E : L2.St → XK} {A A' B : Addr → Prop} {P : Par} {Z Z' H H1 H2 H' : Hp} {σ σ' : L2.St} {s s1 s2 s' : SS} {vs us : List V} {rs qs : List R} {ts us' : List Addr} {Ed : EC} {v : V} {r : R}
def dTru (da : DE) : DT := fun s Q E => da s (fun r s1 => ∃ x k, vw s1 r = some x ∧ truD x = some k ∧ Q k s1) E
theorem lift_tru {ta : TE} {da : DE} (ha : LiftE T K E ta da) : LiftT T K E (fun σ H Q => ta σ H fun x H' => ∃ k, TruV K x H' k ∧ Q k H') (dTru da) := fun A P Z σ s H Qd Ed Q S h k x =>
  ha A P Z σ s H _ Ed _ S h (fun v H1 r ts s1 p ⟨y, b, e1, e2, q⟩ => ⟨b, (p.tr.rb p.st e1).tru e2, k _ _ _ (p.drop S.pa) q⟩) x
def dNotT (da : DE) : DE := fun s Q E => da s (fun r s1 => ∃ x k, vw s1 r = some x ∧ truD x = some k ∧ Q (.d (.bl (!k))) s1) E
theorem lift_notT {ta : TE} {da : DE} (ha : LiftE T K E ta da) : LiftE T K E (tNotT K ta) (dNotT da) := fun A P Z σ s H Qd Ed Q S h k x =>
  ha A P Z σ s H _ Ed _ S h (fun v H1 r ts s1 p ⟨y, b, e1, e2, q⟩ => ⟨b, (p.tr.rb p.st e1).tru e2, k _ _ _ _ _ (p.sc S.pa _) q⟩) x
/-! ### joining, repeating, turning round, membership -/
def xCat : D2 := fun x y Q => ∃ xs ys, x = .lst xs ∧ y = .lst ys ∧ xs.length + ys.length ≤ sizeLine ∧ Q (.o (.lst (xs ++ ys)))
theorem lr_cat : LR2 K rCat xCat := fun hid H x y dx dy Qd Q ho hx hy ⟨xs, ys, e1, e2, hl, q⟩ k => by
  subst e1 e2
  obtain ⟨a, vs, rfl, h1, h2⟩ := hx.lst
  obtain ⟨b, us, rfl, h3, h4⟩ := hy.lst
  exact ⟨a, b, vs, us, rfl, rfl, h1, h3, by rw [h2.length, h4.length]; exact hl, fun p hp => k _ _ _ (newR_lst ho hp (h2.app h4)) q⟩
def xCatT : D2 := fun x y Q => ∃ xs ys, x = .tup xs ∧ y = .tup ys ∧ xs.length + ys.length ≤ sizeLine ∧ Q (.d (.tup (xs ++ ys)))
theorem lr_catA : LR2 K (rCatA K) xCatT := fun hid H x y dx dy Qd Q ho hx hy ⟨xs, ys, e1, e2, hl, q⟩ k => by
  subst e1 e2
  obtain ⟨a, vs, rfl, h1, h1', h2⟩ := hx.tup
  obtain ⟨b, us, rfl, h3, h3', h4⟩ := hy.tup
  refine ⟨a, b, vs, us, rfl, rfl, h1, h3, by rw [h2.length, h4.length]; exact hl, fun e => k _ _ _ (nre (.tup h3' ?_)) q, fun _ e => k _ _ _ (nre (.tup h1' ?_)) q, fun _ _ p hp => k _ _ _ (newR_tup ho hp (h2.app h4)) q⟩
  · have := h2.app h4
    rwa [e, List.nil_append] at this
  · have := h2.app h4
    rwa [e, List.append_nil] at this
def xRep : D2 := fun x y Q => ∃ xs k, x = .lst xs ∧ y = .int k ∧ (-(2 ^ 63) ≤ k ∧ k < 2 ^ 63) ∧ xs.length * k.toNat ≤ sizeLine ∧ Q (.o (.lst (List.replicate k.toNat xs).flatten))
theorem rps_rep {G : Hp} {vs : List V} {xs : List D} (h : Rps K G vs xs) : ∀ n, Rps K G (List.replicate n vs).flatten (List.replicate n xs).flatten
  | 0 => .nil
  | n + 1 => by
    rw [List.replicate_succ, List.replicate_succ, List.flatten_cons, List.flatten_cons]
    exact h.app (rps_rep h n)
theorem lr_rep : LR2 K rRep xRep := fun hid H x y dx dy Qd Q ho hx hy ⟨xs, n, e1, e2, hb, hl, q⟩ k => by
  subst e1 e2
  obtain ⟨a, vs, rfl, h1, h2⟩ := hx.lst
  exact ⟨a, n, vs, rfl, hy.sc, h1, hb.1, hb.2, by rw [h2.length]; exact hl, fun p hp => k _ _ _ (newR_lst ho hp (rps_rep h2 _)) q⟩
def xRepT : D2 := fun x y Q => ∃ xs k, x = .tup xs ∧ y = .int k ∧ xs ≠ [] ∧ 1 ≤ k ∧ k ≤ 1000 ∧ xs.length ≤ 1000 ∧ Q (.d (.tup (List.replicate k.toNat xs).flatten))
theorem lr_repT : LR2 K (rRepT1 K) xRepT := fun hid H x y dx dy Qd Q ho hx hy ⟨xs, n, e1, e2, hn, h1', h2', h3', q⟩ k => by
  subst e1 e2
  obtain ⟨a, vs, rfl, h1, h1', h2⟩ := hx.tup
  refine ⟨a, n, vs, rfl, hy.sc, h1, fun z => hn ?_, by assumption, h2', by rw [h2.length]; exact h3', fun e => k _ _ _ (nre (.tup h1' ?_)) q, fun _ p hp => k _ _ _ (newR_tup ho hp (rps_rep h2 _)) q⟩
  · subst z
    cases h2
    rfl
  · have := rps_rep h2 n.toNat
    rw [e] at this ⊢
    have e2 : (List.replicate (1 : Int).toNat vs).flatten = vs := by simp
    rwa [e2] at this
def xIn (neg : Bool) : D2 := fun x y Q => ∃ u us ys, x = .sc u ∧ itsD y = some ys ∧ ys = us.map D.sc ∧ flatV u = true ∧ us.all flatV = true ∧ Q (.d (.bl (if neg then !inV u us else inV u us)))
theorem lr_in (neg : Bool) : LR2 K (rIn K neg) (xIn neg) := fun hid H x y dx dy Qd Q ho hx hy ⟨u, us, ys, e1, e2, e3, f1, f2, q⟩ k => by
  subst e1 e3
  obtain ⟨a, vs, rfl, h1, h2⟩ := hy.its e2
  rw [h2.scs] at h1
  rw [hx.sc]
  exact ⟨a, us, rfl, h1, f1, f2, k _ _ _ nsc q⟩
def xRevT : D1 := fun x Q => ∃ xs, x = .tup xs ∧ Q (.d (.tup xs.reverse))
def xRevL : D1 := fun x Q => ∃ xs, x = .lst xs ∧ Q (.o (.lst xs.reverse))
theorem lift_revT {ta : TE} {da : DE} (ha : LiftE T K E ta da) : LiftE T K E (tRevT K ta) (dUn xRevT da) :=
  lift_un (r := fun x H Q => ∃ a xs, x = .ref a ∧ SqT K H a xs ∧ ∀ p, H p = none → Q (.ref p) (upd H p (.tup xs.reverse))) (fun hid H x dx Qd Q ho hx ⟨xs, e1, q⟩ k => by
    subst e1
    obtain ⟨a, vs, rfl, h1, _, h2⟩ := hx.tup
    exact ⟨a, vs, rfl, h1, fun p hp => k _ _ _ (newR_tup ho hp h2.rev) q⟩) ha
theorem lift_revL {ta : TE} {da : DE} (ha : LiftE T K E ta da) : LiftE T K E (tRevL K ta) (dUn xRevL da) :=
  lift_un (r := fun x H Q => ∃ a xs, x = .ref a ∧ SqL K H a xs ∧ ∀ p, H p = none → Q (.ref p) (upd H p (.lst xs.reverse))) (fun hid H x dx Qd Q ho hx ⟨xs, e1, q⟩ k => by
    subst e1
    obtain ⟨a, vs, rfl, h1, h2⟩ := hx.lst
    exact ⟨a, vs, rfl, .inl (.inl h1), fun p hp => k _ _ _ (newR_lst ho hp h2.rev) q⟩) ha
end
end DL
set_option Elab.async false
set_option linter.all false
set_option maxRecDepth 100000
set_option maxHeartbeats 4000000
namespace Mv
open PySem PySem.Spec PyProof.Rows L2
/-! ### several except clauses, each with its own name -/
structure Cl where
  c : Value
  i : Nat
  ts : Addr → Value → Option Addr → TS
def endsAs (D : Ends) (i : Nat) : Ends := { nx := fun z h => D.nx (z.set i none) h, rt := D.rt, bk := fun z h => D.bk (z.set i none) h, ct := fun z h => D.ct (z.set i none) h }
def wMore (K : PySem.W.Frag) (Wo : WX) (D : Ends) : List Cl → WX
  | [] => Wo
  | q :: r => fun cls d z h => ∃ b, PySem.W.exmOne K cls q.c = some b ∧ (b = true → ∀ a, h a = none → q.ts a cls d (endsAs D q.i) (z.set q.i (some (.ref a))) h) ∧ (b = false → wMore K Wo D r cls d z h)
inductive ClOk (X : Cx) : List ExceptHandler → List Cl → Prop
  | nil : ClOk X [] []
  | cons {x n : Str} {q : Cl} {b0 : Stmt} {su : List Stmt} {np p : Pos} {hds : List ExceptHandler} {l : List Cl} (hi : X.N[q.i]? = some n) (hl : X.env.kindOf n = some .local) (hc : Names X x q.c)
      (hsu : ∀ (a : Addr) (oe : Obj) (cls : Value) (d : Option Addr) (pn : List (Addr × Obj)), Zc cls d oe → (∃ vs, oe.data = .fields vs) → PSs (X.suite a ((a, oe) :: pn)) (b0 :: su) (q.ts a cls d)) (r : ClOk X hds l) :
      ClOk X (.ExceptHandler (some (.Name x np)) (some n) (b0 :: su) p :: hds) (q :: l)
theorem ps_tryM {X : Cx} {body : List Stmt} {c0 : ExceptHandler} {cr : List ExceptHandler} {l : List Cl} {pos : Pos} {tb : WX → TS} {Wo : WX} (st : X.stack = X.env :: X.outer) (fr : X.env.frame = some X.env.locals) (nd : X.N.Nodup) (tk : Takes X Wo)
    (bd : ∀ (W : WX) (pn : List (Addr × Obj)) (xe : Value → Shared → Prop), Takes (X.tr pn xe) W → PassesOwn (model X.prog X.w) X.A X.env xe → PSs (X.tr pn xe) body (tb W))
    (cs : ClOk X (c0 :: cr) l) : PS X (.Try body (c0 :: cr) [] [] pos) (fun D z h => tb (wMore X.K Wo D l) D z h) := by
  refine ⟨fun pins s0 z0 h0 D I0 w0 => ?_⟩
  have okX := I0.ok
  have frX : X.A.frames = some (X.env :: X.outer) := by rw [okX.frames, st]
  refine wpAny_Try_except (wpAny_mono ((bd (wMore X.K Wo D l) (X.pn ++ pins) (fun e u1 => wpAny (model X.prog X.w) X.A (noteFrame e X.env) (fun _ u2 => wpAny (model X.prog X.w) X.A (setFlight e none) (fun _ u3 =>
    wpAny (model X.prog X.w) X.A (handleBy e X.env (c0 :: cr)) (SP X pins D) X.xe u3) X.xe u2) X.xe u1) (fun v t1 ex => ?_) PassesOwn.looking).run [] s0 z0 h0 D (I0.toTry _) w0) (fun g t1 nice => ?_) (fun e t1 he => he))
  · obtain ⟨a, B, t0, pins1, z1, h1, cls, d, rfl, J0, nb, ups, sky0, fresh, os, ag, w1⟩ := ex
    have J1 : Inv X pins z1 h1 t0 := J0.ofTry okX
    show wpAny (model X.prog X.w) X.A (noteFrame (.ref a) X.env) _ _ _
    refine Sky.land Zc.steady frX fr (show Sky B (X.env :: X.outer) a (Zc cls d) X.env.locals t1.heap by rw [← st]; exact sky0) fun g3 fly3 ups3 => ?_
    have J3 : Inv X pins z1 h1 { t1 with heap := g3 } := J1.landed nb fly3.1 (ups.trans ups3) os ag
    obtain ⟨oa, va, ha, za, da⟩ := fly3.there
    have outF : a ∉ frs (X.env :: X.outer) := fun inF => by
      obtain ⟨_, ob, eb, noF⟩ := fly3.2.2.1.mem inF
      rw [ha] at eb
      cases eb
      exact noF _ da
    have neLoc : a ≠ X.env.locals := fun y => outF (List.mem_filterMap.mpr ⟨X.env, List.mem_cons_self, by rw [fr, y]⟩)
    have neF : a ∉ X.fs := fun inF => by
      obtain ⟨ev, me, fe⟩ := List.mem_filterMap.mp inF
      exact outF (List.mem_filterMap.mpr ⟨ev, List.mem_cons_of_mem _ me, fe⟩)
    have S3 := J3.suite ha da fresh neLoc neF
    have each : ∀ {cr' : List ExceptHandler} {l' : List Cl}, ClOk X cr' l' → wMore X.K Wo D l' cls d z1 h1 → wpAny (model X.prog X.w) X.A (handleBy (.ref a) X.env cr') (SP X pins D) X.xe { t1 with heap := g3 } := by
      intro cr' l' ok'
      induction ok' with
      | nil =>
        intro wn
        obtain ⟨_, _, _, oe, vs, Tb, oT, tsT, he, _, hd, at1, _⟩ := id fly3
        refine wpAny_handleBy_nil ?_
        unfold PySem.passOn
        refine wpAny_bind (wpAny_field he hd at1 ?_)
        rw [if_neg (show ¬ ((Value.ref Tb == Value.none) = true) by simp)]
        have out : wpAny (model X.prog X.w) X.A (setFlight (.ref a) X.env.frame) (fun _ t4 => wpAny (model X.prog X.w) X.A (throw (.ref a) : Sem Flow) (SP X pins D) X.xe t4) X.xe { t1 with heap := g3 } := by
          rw [fr]
          exact HandSPX.setFlight_upZ fly3 fun g4 sk4 ups4 => wpAny_throw (tk _ _ ⟨a, B, t0, pins, z1, h1, cls, d, rfl, J1, nb, (ups.trans ups3).trans ups4, .inr (.inr (by rw [st]; exact sk4)), fresh, os, ag, wn⟩)
        first
          | exact wpAny_bind (wpAny_pure (wpAny_bind out))
          | exact wpAny_bind out
      | @cons x n q b0 su np p hds l2 hi hl hc hsu r ih =>
        rintro ⟨b, em, yes, no⟩
        refine wpAny_handleBy_cons (codeAny_handlers_test ?_) (fun y => by cases y)
        have lookT : PySem.W.Looks (model X.prog X.w) g3 (typeOf (.ref a)) cls := fun A Q E s kp y => wpAny_typeOf_ref (kp _ _ ha) (by rw [za.1]; exact y)
        have lookM := PySem.W.exm_one (M := model X.prog X.w) (J3.kIn) lookT em
        have nameOk : ∀ {Q E : Value → Shared → Prop}, Q q.c { t1 with heap := g3 } → wpAny (model X.prog X.w) (X.A.mark (some (.ref a))) (eval (.Name x np) X.env) Q E { t1 with heap := g3 } := fun {Q E} y => by
          obtain ⟨gx, dx, m1 | ⟨m1, m2, m3⟩⟩ := hc
          · exact ld_glob (X := X.suite a ((a, oa) :: (X.pn ++ pins))) S3 gx m1 y dx
          · exact ld_blt (X := X.suite a ((a, oa) :: (X.pn ++ pins))) S3 gx m1 m2 y m3 dx
        refine nameOk (lookM.here ?_)
        cases b with
        | false =>
          show wpAny _ X.A (handleBy (.ref a) X.env hds) _ _ _
          exact ih (no rfl)
        | true =>
          refine codeAny_handlers_suite_as (HandSPX.lands_againZ fly3 fun g4 fly4 ups4 => ?_)
          have J4 : Inv X pins z1 h1 { t1 with heap := g4 } := J1.landed nb fly4.1 ((ups.trans ups3).trans ups4) os ag
          obtain ⟨ob, vb, hb, zb, db⟩ := fly4.there
          refine store_ok (X := X.suite a ((a, ob) :: (X.pn ++ pins))) (v := .ref a) (J4.suite hb db fresh neLoc neF) nd hi (.inl hl) rfl (fun t5 S5 => ?_) (.inr hl)
          have gone : ∀ {z6 : L2.St} {h6 : Hp} {t6 : Shared} {Q : Shared → Prop}, Inv (X.suite a ((a, ob) :: (X.pn ++ pins))) [] z6 h6 t6 → (∀ t7, Inv X pins (z6.set q.i none) h6 t7 → Q t7) →
              wpAny (model X.prog X.w) X.A (do bindName X.env n .none; unbindBehindTheSuite X.env n p) (fun _ t7 => Q t7) X.xe t6 := fun {z6 h6 t6 Q} S6 y => gone_ok (S6.unsuite okX) nd hi hl y
          refine wpAny_mono ((hsu a ob cls d (X.pn ++ pins) zb ⟨_, db⟩).run [] t5 _ h1 _ S5 (yes rfl a fresh)) (fun g t6 nice => ?_) (fun _ _ y => y.elim)
          cases g with
          | ret u =>
            obtain ⟨v6, z6, h6, S6, rel6, w6⟩ := nice
            exact gone S6 fun t7 J7 => ⟨_, _, _, J7, rel6, w6⟩
          | next =>
            obtain ⟨z6, h6, S6, w6⟩ := nice
            exact gone S6 fun t7 J7 => ⟨_, _, J7, w6⟩
          | brk =>
            obtain ⟨z6, h6, S6, w6⟩ := nice
            exact gone S6 fun t7 J7 => ⟨_, _, J7, w6⟩
          | cont =>
            obtain ⟨z6, h6, S6, w6⟩ := nice
            exact gone S6 fun t7 J7 => ⟨_, _, J7, w6⟩
    exact each cs w1
  · cases g with
    | ret u =>
      obtain ⟨v2, z2, h2, J2, rel2, w2⟩ := nice
      exact ⟨v2, z2, h2, J2.ofTry okX, rel2, w2⟩
    | next =>
      obtain ⟨z2, h2, J2, w2⟩ := nice
      exact wpAny_execs_nil ⟨z2, h2, J2.ofTry okX, w2⟩
    | brk =>
      obtain ⟨z2, h2, J2, w2⟩ := nice
      exact ⟨z2, h2, J2.ofTry okX, w2⟩
    | cont =>
      obtain ⟨z2, h2, J2, w2⟩ := nice
      exact ⟨z2, h2, J2.ofTry okX, w2⟩
/-! ### a call with keywords, of a def that may raise -/
def tCallNS (n m : Nat) (sp : Sp) (gV : List V → List V → List V) (E : L2.St → XK) (t tk : TA) : TE := fun z h Q => t z h fun vs h1 => tk z h1 fun zs h2 => vs.length = n ∧ zs.length = m ∧ sp (gV vs zs) h2 Q (E z)
theorem pe_callNS {X : Cx} {CX : CXT} {k n : Nat} {f : Addr} {fd : FuncData} {ps ks : List Str} {sp : Sp} {E : L2.St → XK} {x : Str} {p pos : Pos} {e : Expr} {es : List Expr} {kws : List Keyword} {t tk : TA} {g : List Value → List Value → List Value} {gV : List V → List V → List V}
    (F : FnOk X.prog X.w X.K X.mg X.base CX k f fd ps sp) (hr : Room k X.A) (hg : Gl X x) (hm : X.mg x = some (.ref f)) (kp : PySem.W.keepIn X.K (.ref f) = true) (hb : KBn X.K fd ps n ks g gV) (hx : ∀ z, PassesAt CX X z (E z))
    (ha : PA X (e :: es) t) (hkw : PK X kws tk) (all : (backToKw pos (keywordEach kws X.env)).all (·.1.isSome) = true := by rfl) (hks : (backToKw pos (keywordEach kws X.env)).filterMap (·.1) = ks := by rfl)
    (db : (x == ("__debug__" : Str)) = false := by decide) (hst : starEach (e :: es) X.env = (false, eval e X.env) :: starEach es X.env := by rfl)
    (pl : ((backTo pos (starEach (e :: es) X.env)).any (·.1) || (backToKw pos (keywordEach kws X.env)).any (·.1.isNone)) = false := by rfl) :
    PE X (.Call (.Name x p) (e :: es) kws pos) (tCallNS n ks.length sp gV E t tk) := by
  refine ⟨fun pins s z h Q I w0 => wpAny_Call_Name_kw (ld_glob I hg hm ?_ db)⟩
  refine PySem.W.callWith_KW (h₀ := X.base) I.ok.mod.kin kp all (thn (ha.run pos pins s z h _ I w0) fun us s1 ⟨vs, h1, I1, r1, w1⟩ => thn (hkw.run pos pins s1 z h1 _ I1 w1) fun ws s2 ⟨zs, h2, I2, r2, l1, l2, w2⟩ => ⟨I2.kIn, ?_⟩) pl hst
  rw [hks]
  have rr := hb.rel r1 r2
  refine wpAny_call (codeAny_mono (F.run X.A X.stack s2 h2 ⟨us, ks.zip ws⟩ (g us ws) (gV vs zs) Q (E z) hr I2.env0 (hb.to s2 us ws I2.kIn (r1.length.symm.trans l1) (r2.length.symm.trans l2)) rr w2) fun res s' got => ?_)
  cases res with
  | error e => exact hx z pins h2 s2 e s' I2 got
  | ok fl =>
    cases fl with
    | ret u => exact I2.after got
    | next => exact got.elim
    | brk => exact got.elim
    | cont => exact got.elim
/-! ### X(), X an own exception class without own __init__ -/
theorem pmk_own0 {X : Cx} {C : Addr} {bmB : List Value} {B newId initId : String} {x : Str} {p pos : Pos} (F : ExcBaseFacts B newId initId bmB) (q : PySem.W.excIn X.K C bmB newId = true) (gC : X.mg x = some (.ref C)) (kC : PySem.W.keepIn X.K (.ref C) = true) (r : Raises X (.ref C)) (hg : Gl X x)
    (db : (x == ("__debug__" : Str)) = false := by decide) : PMk X (.Call (.Name x p) [] [] pos) (fun _ h Q => Q (.ref C) none h) := by
  intro pins s z h Q I w0
  refine wpAny_Call_Name_kw (ld_glob I hg gC (PySem.W.callWith_K0 I.kIn kC ?_) db)
  show wpAny _ _ (call (.ref C) []) _ _ _
  obtain ⟨bm, N, nm, qn, bs, hdct, sn, sub, ab, col, dd, k0, k1, k2, k3, k5, mN, hC, hN, hni, T⟩ := exc_obj I.kIn q
  refine wpAny_call_exc_subT F T hC hN hni (fun g e made => ?_) (by rw [sizeLine_eq]; decide)
  exact mk_of I made r w0 (I.hok.gone made.new)
end Mv
set_option Elab.async false
set_option linter.all false
set_option maxRecDepth 100000
set_option maxHeartbeats 1000000
/-! what changes objects; raise, try -/
namespace DL
open PySem PySem.Spec PyProof.Rows L2 Mv
/-- a method of a built-in type at an object: what it holds, the arguments; the value, what it holds then -/
abbrev DM := CO → List D → (D → CO → Prop) → Prop
def LRM (K : PySem.W.Frag) (r : V → List V → Hp → VK → Prop) (md : DM) : Prop :=
  ∀ (hid : Addr → Prop) (H : Hp) (a : Addr) (c : CO) (vs : List V) (ds : List D) (Qd : D → CO → Prop) (Q : VK), hid a → CoR K (res hid H) H a c → Rps K (res hid H) vs ds → md c ds Qd →
    (∀ v o x c', CoR K (res hid (upd H a o)) (upd H a o) a c' → (∀ ps, o ≠ .tbl ps) → Rp K (res hid (upd H a o)) v x → Qd x c' → Q v (upd H a o)) → r (.ref a) vs H Q
theorem heap_of : ∀ n : Nat, ∃ h : Heap, h.objs.size = n
  | 0 => ⟨{ objs := #[] }, rfl⟩
  | n + 1 => by
    obtain ⟨h, e⟩ := heap_of n
    exact ⟨h.push { cls := .none, data := .fields #[] }, by rw [Heap.size_push, e]⟩
theorem codeO_ndo {c : Addr} {q : Str} {od : Obj} {kvs : List NE} : LamX.CodeO c q ≠ NDO c od kvs := fun z => by
  obtain ⟨h, rfl⟩ := heap_of c
  have w := HO.ext.inj z
  have p : (h.push { cls := .none, data := .fields #[.none, .str q 0] }).get? h.objs.size = some od ∧ OdOk h.objs.size od kvs :=
    (congrFun w (h.push { cls := .none, data := .fields #[.none, .str q 0] })).mp ⟨_, #[.none, .str q 0], 0, Heap.get?_push_size _ rfl, rfl, rfl⟩
  obtain ⟨p1, _, _, _, _, xs, es, ep, _, hd, _⟩ := p
  rw [Heap.get?_push_size _ rfl] at p1
  cases p1
  cases hd
section
variable {T : List (Addr × Str)} {K : PySem.W.Frag} {E : L2.St → XK} {A A' B : Addr → Prop} {P : Par} {Z Z' H H1 H2 H' : Hp} {σ σ' : L2.St} {s s1 s2 s' : SS} {vs us : List V} {rs qs : List R} {ts us' : List Addr} {Ed : EC} {v : V} {r : R}
theorem tabs_upd' {a : Addr} {c : CO} {G : Hp} {o : HO} (tb : LamX.Tabs T H) (h : CoR K G H a c) : LamX.Tabs T (upd H a o) := fun p hp => by
  obtain ⟨ps, h1, h2, h3⟩ := tb p hp
  have ne : ∀ {b : Addr} {u : HO}, H b = some u → (∀ l, u ≠ .lst l) → (∀ C d f, u ≠ .ins C d f) → (∀ l, u ≠ .dK l) → (∀ od l, u ≠ NDO b od l) → b ≠ a := fun {b u} e n1 n2 n3 n4 z => by
    subst z
    cases c with
    | lst => obtain ⟨_, e1, _⟩ := h; rw [e] at e1; exact n1 _ (Option.some.inj e1)
    | ins => obtain ⟨_, _, e1, _⟩ := h; rw [e] at e1; exact n2 _ _ _ (Option.some.inj e1)
    | dK => obtain ⟨_, e1, _⟩ := h; rw [e] at e1; exact n3 _ (Option.some.inj e1)
    | dN => obtain ⟨_, _, e1, _⟩ := h; rw [e] at e1; exact n4 _ _ (Option.some.inj e1)
  refine ⟨ps, ?_, h2, fun pos cv hc => ?_⟩
  · rw [upd_ne (ne h1 (fun _ z => by cases z) (fun _ _ _ z => by cases z) (fun _ z => by cases z) fun _ _ z => by cases z)]
    exact h1
  · obtain ⟨c', e1, e2⟩ := h3 pos cv hc
    refine ⟨c', e1, ?_⟩
    have nn : ∀ u : HO, LamX.CodeO c' p.2 = u → (∃ φ, u = .ext φ) := fun u e => ⟨_, e.symm.trans rfl⟩
    rw [upd_ne (ne e2 (fun _ z => by obtain ⟨_, w⟩ := nn _ z; cases w) (fun _ _ _ z => by obtain ⟨_, w⟩ := nn _ z; cases w) (fun _ z => by obtain ⟨_, w⟩ := nn _ z; cases w) fun _ _ z => codeO_ndo z)]
    exact e2
theorem kp_upd {a : Addr} {o : HO} : Kp (fun b => b = a) H (upd H a o) := fun b u n e _ => by rw [upd_ne n]; exact e
/-- the object at slot i is changed -/
theorem StR.chg (S : StR T K A P Z σ s H) {i : Nat} {l : Bool} {c c' : CO} {a : Addr} {o : HO} (hs : s[i]? = some (.o l c)) (hσ : σ[i]? = some (some (.ref a))) (h : CoR K (res (Hid A σ s) (upd H a o)) (upd H a o) a c') (ht : ∀ ps, o ≠ .tbl ps) :
    StR T K A P Z σ (s.set i (.o l c')) (upd H a o) ∧ (∀ b, Own σ (s.set i (.o l c')) b ↔ Own σ s b) := by
  have own : Own σ s a := ⟨i, l, c, hσ, hs⟩
  obtain ⟨ov, e1, a', e2, q⟩ := S.sl i _ hs
  rw [hσ] at e1
  obtain rfl := Option.some.inj e1
  cases e2
  have hi := (List.getElem?_eq_some_iff.mp hs).1
  refine S.mut (M := fun b => b = a) kp_upd (fun b z => z ▸ own) (tabs_upd' S.tb q) (by rw [List.length_set]) (fun j sv e => ?_) (fun b z => .inl z) (fun b z => z) fun b z => ?_
  · by_cases n : i = j
    · subst n
      rw [List.getElem?_set_self hi] at e
      cases e
      refine .inr ⟨l, c, c', hs, rfl, fun b e => ?_⟩
      rw [hσ] at e
      cases e
      exact h
    · rw [List.getElem?_set_ne n] at e
      refine .inl ⟨e, fun b l1 c1 h1 h2 h3 => ?_⟩
      subst h2 h3
      exact n (S.inj i j b l c l1 c1 hσ hs h1 e)
  · rw [z]
    exact ⟨o, upd_same, ht⟩
theorem Post.chg (p : Post T K A P Z σ s s1 H H1 [] [] []) (S : StR T K A P Z σ s H) {i : Nat} {l : Bool} {c c' : CO} {a : Addr} {o : HO} (hs : s1[i]? = some (.o l c)) (hσ : σ[i]? = some (some (.ref a))) (h : CoR K (res (Hid A σ s1) (upd H1 a o)) (upd H1 a o) a c') (ht : ∀ ps, o ≠ .tbl ps)
    {x : D} (hr : Rp K (res (Hid A σ s1) (upd H1 a o)) v x) : Post T K A P Z σ s (s1.set i (.o l c')) H (upd H1 a o) [v] [.d x] [] := by
  have S1 := post_test p S
  obtain ⟨S2, ho⟩ := S1.chg hs hσ h ht
  have own : Own σ s1 a := ⟨i, l, c, hσ, hs⟩
  refine ⟨.nil, fun _ z => (by cases z), fun _ z => (by cases z), by rw [pls_nil]; exact S2, .d ?_ .nil, fun b u n e t => ?_, fun b z => p.shr b ((ho b).mp z), fun b z => ?_⟩
  · rw [pls_nil, hid_own ho]
    exact hr
  · rw [upd_ne fun z => n (p.shr b (by rw [z]; exact own))]
    exact p.kp b u n e t
  · by_cases n : b = a
    · rw [n]
      exact ⟨o, upd_same, ht⟩
    · obtain ⟨u, e, t⟩ := p.ot b z
      exact ⟨u, by rw [upd_ne n]; exact e, t⟩
def tyC (T : String) : CO → Prop
  | .lst _ => T = "list"
  | .dK _ => T = "dict"
  | .dN _ => False
  | _ => False
theorem CoR.tyV {T : String} {a : Addr} {c : CO} {G : Hp} (h : CoR K G H a c) (t : tyC T c) : L2.tyV K T (.ref a) H := by
  cases c with
  | lst xs => obtain ⟨vs, e, _⟩ := h; exact .inl ⟨t, vs, .inl (.inl e)⟩
  | ins => exact t.elim
  | dK ks => obtain ⟨vs, e, _⟩ := h; exact .inr (.inr (.inl ⟨t, .inl ⟨vs, e⟩⟩))
  | dN ks => exact t.elim
def dBM (Ty : String) (md : DM) (d0 : DE) (da : DA) : DE := fun s Q E => d0 s (fun r0 s0 => ∃ i, r0 = .bw i ∧ (∃ l c, s0[i]? = some (.o l c) ∧ tyC Ty c) ∧ da s0 (fun rs s1 => ∃ xs s2, frzs rs s1 = some (xs, s2) ∧ ∃ l c, s2[i]? = some (.o l c) ∧ md c xs (fun x c' => Q (.d x) (s2.set i (.o l c')))) E) E
theorem lift_bm {Ty : String} {r : V → List V → Hp → VK → Prop} {md : DM} {t0 : TE} {ta : TA} {d0 : DE} {da : DA} (hr : LRM K r md) (h0 : LiftE T K E t0 d0) (ha : LiftA T K E ta da) : LiftE T K E (tBM K Ty r t0 ta) (dBM Ty md d0 da) := fun A P Z σ s H Qd Ed Q S h k x =>
  h0 A P Z σ s H _ Ed _ S h (fun w H0 r0 ts0 s0 p0 ⟨i, e0, ⟨l0, c0, e1, t0⟩, q0⟩ => by
    subst e0
    have hσ : σ[i]? = some (some w) := by
      cases p0.tr with
      | bw h _ => exact h
    have S0 := post_test (p0.drop S.pa) S
    obtain ⟨ov, e2, a, e3, q⟩ := S0.sl i _ e1
    rw [hσ] at e2
    cases e2
    cases e3
    refine ⟨q.tyV t0, ha A P Z σ s0 H0 _ Ed _ S0 q0 (fun vs H1 rs ts s1 p1 ⟨xs, s2, e, l, c, es, q1⟩ => ?_) x⟩
    obtain ⟨p2, S2, r2⟩ := p1.frz S0 e
    have p := (p0.drop S.pa).then p2
    obtain ⟨ov, e2, a', e3, q2⟩ := S2.sl i _ es
    rw [hσ] at e2
    cases e2
    cases e3
    refine hr _ _ _ _ _ _ _ _ (.inr ⟨i, l, c, hσ, es⟩) q2 r2 q1 fun v o x c' g1 g2 g3 g4 => ?_
    exact k _ _ _ _ _ (p.chg S es hσ g1 g2 g3) g4) x
theorem ext_chg {hid : Addr → Prop} {a : Addr} {o : HO} (h : hid a) : LamX.ExtN (res hid H) (res hid (upd H a o)) := res_ext kp_upd (fun b z => z ▸ h) fun b z => .inl z
theorem CoR.l {G : Hp} {a : Addr} {vs : List V} {xs : List D} (h : H a = some (.lst vs)) (r : Rps K G vs xs) : CoR K G H a (.lst xs) := ⟨vs, h, r⟩
def mAppend : DM := fun c ds Q => ∃ xs y, c = .lst xs ∧ ds = [y] ∧ xs.length < sizeLine ∧ Q .non (.lst (xs ++ [y]))
theorem lm_append : LRM K rAppend mAppend := fun hid H a c vs ds Qd Q ha hc hv ⟨xs, y, e1, e2, hl, q⟩ k => by
  subst e1 e2
  obtain ⟨ws, h1, h2⟩ := hc
  cases hv with
  | @cons w _ _ _ h r =>
    cases r
    exact ⟨a, ws, w, rfl, rfl, h1, by rw [h2.length]; exact hl, k _ _ _ _ (.l upd_same ((h2.app (.cons h .nil)).ext (ext_chg ha))) (fun ps z => by cases z) (.sc _) q⟩
def mPop : DM := fun c ds Q => ∃ xs y, c = .lst (xs ++ [y]) ∧ ds = [] ∧ Q y (.lst xs)
theorem lm_pop : LRM K rPop mPop := fun hid H a c vs ds Qd Q ha hc hv ⟨xs, y, e1, e2, q⟩ k => by
  subst e1 e2
  obtain ⟨ws, h1, h2⟩ := hc
  cases hv
  have e : (xs ++ [y])[ws.length - 1]? = some y := by
    rw [h2.length, List.length_append, List.length_singleton, Nat.add_sub_cancel, List.getElem?_append_right (Nat.le_refl _), Nat.sub_self]
    rfl
  obtain ⟨w, e1, hw⟩ := h2.at e
  have h3 := h2.dropLast
  rw [List.dropLast_concat] at h3
  exact ⟨a, ws, w, rfl, rfl, h1, e1, k _ _ _ _ (.l upd_same (h3.ext (ext_chg ha))) (fun ps z => by cases z) (hw.ext (ext_chg ha)) q⟩
def mPopAt : DM := fun c ds Q => ∃ xs i k y, c = .lst xs ∧ ds = [.int i] ∧ (-(2 ^ 63) ≤ i ∧ i < 2 ^ 63) ∧ seqIndex? i xs.length = some k ∧ xs[k]? = some y ∧ Q y (.lst (xs.eraseIdx k))
theorem lm_popAt : LRM K rPopAt mPopAt := fun hid H a c vs ds Qd Q ha hc hv ⟨xs, i, j, y, e1, e2, hb, e3, e4, q⟩ k => by
  subst e1 e2
  obtain ⟨ws, h1, h2⟩ := hc
  have ev : vs = [.int i] := by
    cases hv with
    | cons h r => cases r; cases h; rfl
  obtain ⟨w, e5, hw⟩ := h2.at e4
  exact ⟨a, ws, i, j, w, rfl, ev, h1, hb.1, hb.2, by rw [h2.length]; exact e3, e5, k _ _ _ _ (.l upd_same ((h2.erase j).ext (ext_chg ha))) (fun ps z => by cases z) (hw.ext (ext_chg ha)) q⟩
def mReverse : DM := fun c ds Q => ∃ xs, c = .lst xs ∧ ds = [] ∧ Q .non (.lst xs.reverse)
theorem lm_reverse : LRM K rReverse mReverse := fun hid H a c vs ds Qd Q ha hc hv ⟨xs, e1, e2, q⟩ k => by
  subst e1 e2
  obtain ⟨ws, h1, h2⟩ := hc
  cases hv
  exact ⟨a, ws, rfl, rfl, h1, k _ _ _ _ (.l upd_same (h2.rev.ext (ext_chg ha))) (fun ps z => by cases z) (.sc _) q⟩
def mExtend : DM := fun c ds Q => ∃ xs ys, c = .lst xs ∧ ds = [.lst ys] ∧ xs.length + ys.length ≤ sizeLine ∧ Q .non (.lst (xs ++ ys))
theorem lm_extend : LRM K rExtend mExtend := fun hid H a c vs ds Qd Q ha hc hv ⟨xs, ys, e1, e2, hl, q⟩ k => by
  subst e1 e2
  obtain ⟨ws, h1, h2⟩ := hc
  cases hv with
  | cons h r =>
    cases r
    cases h with
    | @lst b us _ h3 h4 => exact ⟨a, b, ws, us, rfl, rfl, h1, (res_some h3).2, by rw [h2.length, h4.length]; exact hl, k _ _ _ _ (.l upd_same ((h2.app h4).ext (ext_chg ha))) (fun ps z => by cases z) (.sc _) q⟩
def mExtendT : DM := fun c ds Q => ∃ xs ys, c = .lst xs ∧ ds = [.tup ys] ∧ xs.length + ys.length ≤ sizeLine ∧ Q .non (.lst (xs ++ ys))
theorem lm_extendT : LRM K (rExtendT K) mExtendT := fun hid H a c vs ds Qd Q ha hc hv ⟨xs, ys, e1, e2, hl, q⟩ k => by
  subst e1 e2
  obtain ⟨ws, h1, h2⟩ := hc
  cases hv with
  | cons h r =>
    cases r
    cases h with
    | @tup b us _ h3 h4 => exact ⟨a, b, ws, us, rfl, rfl, h1, ExtN.sqT res_all h3, by rw [h2.length, h4.length]; exact hl, k _ _ _ _ (.l upd_same ((h2.app h4).ext (ext_chg ha))) (fun ps z => by cases z) (.sc _) q⟩
def mInsert : DM := fun c ds Q => ∃ xs i y, c = .lst xs ∧ ds = [.int i, y] ∧ xs.length < sizeLine ∧ (0 ≤ i ∧ i < 2 ^ 63) ∧ Q .non (.lst (xs.take i.toNat ++ [y] ++ xs.drop i.toNat))
theorem lm_insert : LRM K (fun x vs H Q => ∃ (l : Addr) (xs : List V) (i : Int) (y : V), x = .ref l ∧ vs = [.int i, y] ∧ H l = some (.lst xs) ∧ xs.length < sizeLine ∧ 0 ≤ i ∧ i < 2 ^ 63 ∧ Q .non (upd H l (.lst (xs.take i.toNat ++ [y] ++ xs.drop i.toNat)))) mInsert := fun hid H a c vs ds Qd Q ha hc hv ⟨xs, i, y, e1, e2, hl, hb, q⟩ k => by
  subst e1 e2
  obtain ⟨ws, h1, h2⟩ := hc
  cases hv with
  | cons h r =>
    cases h
    cases r with
    | @cons w _ _ _ h r =>
      cases r
      exact ⟨a, ws, i, w, rfl, rfl, h1, by rw [h2.length]; exact hl, hb.1, hb.2, k _ _ _ _ (.l upd_same ((((h2.take i.toNat).app (.cons h .nil)).app (h2.drop i.toNat)).ext (ext_chg ha))) (fun ps z => by cases z) (.sc _) q⟩
/-! ### x[i] = e, o.f = e -/
/-- the target's parts, then the store: of an own list -/
def dSetL (do_ di : DE) : DG := fun r s Q => ∃ x s0, frz1 s r = some (x, s0) ∧ do_ s0 (fun r0 s1 => di s1 (fun ri s2 => ∃ i l xs k j, r0 = .bw i ∧ ri = .d (.int k) ∧ s2[i]? = some (.o l (.lst xs)) ∧ ixN xs.length k = some j ∧ Q (s2.set i (.o l (.lst (xs.set j x))))) noX) noX
theorem lift_setL {to ti : TE} {do_ di : DE} (ho : LiftE T K E0' to do_) (hi : LiftE T K E0' ti di) : LiftG T K (gSub to ti rSetL) (dSetL do_ di) := fun A B P Z σ s H v r ts Qd Q S hA hp tr ht h k => by
  obtain ⟨x, s0, e0, h⟩ := h
  have SA := S.less hA hp
  have fr0 : FR K (res (Hid A σ s) H) σ [v] [r] := tr.fr (res_less fun b z => z.elim (fun z => .inl (hA b z)) .inr) fun a ha o e => by
    obtain ⟨_, n1, n2, _⟩ := ht a ha
    rw [res_eq fun z => z.elim n1 n2]
    exact e
  obtain ⟨S0, sub, r0⟩ := frz1_ok SA fr0 e0
  refine ho A P Z σ s0 H _ noX _ S0 h (fun w H1 rr ts1 s1 p1 q1 => ?_) (fun _ _ _ _ _ _ _ z => z)
  have S1 := post_test (p1.drop S0.pa) S0
  refine hi A P Z σ s1 H1 _ noX _ S1 q1 (fun w2 H2 ri ts2 s2 p2 ⟨i, l, xs, kk, j, e1, e2, e3, e4, q2⟩ => ?_) (fun _ _ _ _ _ _ _ z => z)
  subst e1 e2
  have S2 := post_test (p2.drop S1.pa) S1
  have hσ : σ[i]? = some (some w) := by
    cases p1.tr with
    | bw h _ => exact h
  obtain ⟨ov, e5, a, e6, ws, g1, g2⟩ := S2.sl i _ e3
  rw [hσ] at e5
  cases e5
  cases e6
  have ew : w2 = .int kk := by
    have := p2.tr.one
    cases this
    rfl
  have x1 : LamX.ExtN (res (Hid A σ s0) H) (res (Hid A σ s1) H1) := res_ext p1.kp (fun _ z => .inr z) fun b z => .inl (z.elim .inl fun z => .inr (p1.shr b z))
  have x2 : LamX.ExtN (res (Hid A σ s1) H1) (res (Hid A σ s2) H2) := res_ext p2.kp (fun _ z => .inr z) fun b z => .inl (z.elim .inl fun z => .inr (p2.shr b z))
  have rv : Rp K (res (Hid A σ s2) H2) v x := (r0.ext x1).ext x2
  have hid : Hid A σ s2 a := .inr ⟨i, l, _, hσ, e3⟩
  obtain ⟨S3, _⟩ := S2.chg (o := .lst (ws.set j v)) e3 hσ (c' := .lst (xs.set j x)) (.l upd_same ((g2.set j rv).ext (ext_chg hid))) (fun ps z => by cases z)
  refine ⟨a, ws, kk, j, rfl, ew, g1, by rw [g2.length]; exact e4, k _ _ _ S3 q2⟩
end
end DL
set_option Elab.async false
set_option linter.all false
set_option maxRecDepth 100000
set_option maxHeartbeats 4000000
namespace Mv
open PySem PySem.Spec PyProof.Rows L2
/-! ### special methods of own classes: o.__len__() behind len(o) -/
/-- a special method of the class at C -/
structure SpM (K : PySem.W.Frag) (C : Addr) (m : Str) (f : Addr) : Prop where
  at_ : PySem.W.findIn K (.ref C) m = some (some (.ref f))
  fn : PySem.W.isFn K (.ref f) = true
section
variable {X : Cx} {pins : List (Addr × Obj)} {σ : L2.St} {H : Hp} {s : Shared} {C f : Addr} {k : Nat} {fd : FuncData} {ps : List Str} {sp : Sp} {CX : CXT}
/-- a def, called one deeper than the body stands -/
theorem run_in1 {Q : VK} {us : List Value} {vs : List V} {E' : Value → Shared → Prop} (F : FnOk X.prog X.w X.K X.mg X.base (L2.CX X.prog X.w) k f fd ps sp) (hr : Room (k + 1) X.A) (hb : Binds X.K fd ps [])
    (I : Inv X pins σ H s) (r : Vals vs us) (h : sp vs H Q E0) : wpAny (model X.prog X.w) X.A.in1 (call (.ref f) us) (EP X pins σ Q) E' s := by
  have hl : us.length = ps.length := by rw [← r.length]; exact F.len _ _ _ _ h
  have hb' := hb s us I.kIn (by rw [List.append_nil]; exact hl)
  rw [List.append_nil] at hb'
  refine wpAny_call (codeAny_mono (F.run X.A.in1 X.stack s H ⟨us, []⟩ us vs Q E0 hr.in1 I.env0.in1 hb' r h) fun r s' hq => ?_)
  cases r with
  | error e =>
    obtain ⟨a, B, H', cls, d, _, _, _, _, _, _, _, z⟩ := hq
    exact False.elim z
  | ok fl =>
    cases fl with
    | ret u => exact I.after hq
    | next => exact False.elim hq
    | brk => exact False.elim hq
    | cont => exact False.elim hq
theorem looks_inst {a dx : Addr} {fs : List (Str × V)} (I : Inv X pins σ H s) (h : H a = some (.ins C dx fs)) : PySem.W.Looks (model X.prog X.w) s.heap (typeOf (.ref a)) (.ref C) := by
  obtain ⟨_, _, _, e, _⟩ := I.hok a _ h
  exact (PySem.W.Looks.ld e).andThen .now
theorem special_own {A : Around} {E' : Value → Shared → Prop} {a dx : Addr} {fs : List (Str × V)} {name : Str} {args : List Value} {Q : Option Value → Shared → Prop} (I : Inv X pins σ H s) (h : H a = some (.ins C dx fs)) (M : SpM X.K C name f)
    (hc : wpAny (model X.prog X.w) A (call (.ref f) (.ref a :: args)) (fun v s' => Q (some v) s') E' s) : wpAny (model X.prog X.w) A (callSpecial? (.ref a) name args) Q E' s := by
  have tf : PySem.W.typeIn X.K (.ref f) = some (.type "function") := by
    have := M.fn
    unfold PySem.W.isFn at this
    exact eq_of_beq this
  unfold callSpecial? specialOf
  refine wpAny_bind (wpAny_bind ((looks_inst I h).here ((PySem.W.looks_findIn I.kIn M.at_).here ?_)))
  refine wpAny_holding ?_
  unfold bindSpecial
  refine wpAny_bind (wpAny_bind ((PySem.W.looks_typeIn I.kIn tf).here ?_))
  rw [if_pos (by decide)]
  refine wpAny_pure ?_
  exact wpAny_bind (wpAny_mono hc (fun v s' h => wpAny_pure h) fun _ _ z => z)
/-- len(o) -/
def rLenO (C : Addr) (sp : Sp) : List V → Hp → VK → Prop := fun xs H Q => ∃ a dx fs, xs = [.ref a] ∧ H a = some (.ins C dx fs) ∧ sp [.ref a] H (fun v H' => ∃ n : Nat, v = .int n ∧ n < 2 ^ 62 ∧ Q (.int n) H') E0
theorem call_lenO (M : SpM X.K C "__len__" f) (F : FnOk X.prog X.w X.K X.mg X.base (L2.CX X.prog X.w) k f fd ps sp) (hb : Binds X.K fd ps []) (hr : Room (k + 1) X.A) : CallR X (.builtin "len") (rLenO C sp) := by
  intro pins s σ H xs us Q I r h
  obtain ⟨a, dx, fs, rfl, ha, q⟩ := h
  rw [Vals.ref1 r]
  refine Calls.call_function_entry PySem.kind_len PySem.plain_len PySem.entry_len (args_len1 _) ?_
  unfold Builtin.«len»
  refine wpAny_bind (m := oneArg "len" _) (wpAny_pure ?_)
  refine wpAny_bind (m := callSpecial? (.ref a) (Str.ofString "__len__")) (special_own I ha M (thn (run_in1 (vs := [.ref a]) F hr hb I (.cons rfl .nil) q) fun u s1 ⟨v, H1, I1, rv, n, e, hn, q⟩ => ?_))
  subst e
  obtain ⟨t, rfl⟩ := rv
  refine wpAny_bind (wpAny_holding ?_)
  show wpAny _ _ (asIndex (.int (n : Int) t)) _ _ s1
  unfold asIndex asInt?
  refine wpAny_bind (wpAny_pure (wpAny_pure ?_))
  refine wpAny_bind (wpAny_letGo ?_)
  show wpAny _ _ (if (n : Int) < 0 then _ else _) _ _ _
  rw [if_neg (by omega)]
  show wpAny _ _ (if (n : Int) ≥ 2 ^ 63 then _ else _) _ _ _
  rw [if_neg (by omega)]
  exact wpAny_bind (wpAny_mkInt (wpAny_pure ⟨_, rfl, .int (n : Nat), H1, I1.tok _, ⟨_, rfl⟩, q⟩))
end
end Mv
set_option Elab.async false
set_option linter.all false
set_option maxRecDepth 100000
set_option maxHeartbeats 1000000
/-! fields stored, raise, try, zip of any pair -/
namespace DL
open PySem PySem.Spec PyProof.Rows L2 Mv
/-- a field's new content -/
def putD (f : Str) (x : D) : List (Str × D) → List (Str × D)
  | [] => [(f, x)]
  | (g, y) :: r => if g = f then (g, x) :: r else (g, y) :: putD f x r
section
variable {T : List (Addr × Str)} {K : PySem.W.Frag} {E : L2.St → XK} {A A' B : Addr → Prop} {P : Par} {Z Z' H H1 H2 H' : Hp} {σ σ' : L2.St} {s s1 s2 s' : SS} {vs us : List V} {rs qs : List R} {ts us' : List Addr} {Ed : EC} {v : V} {r : R}
theorem putD_ok {G : Hp} {f : Str} {x : D} (h : Rp K G v x) : ∀ {fs : List (Str × V)} {gs : List (Str × D)}, fs.map (·.1) = gs.map (·.1) → Rps K G (fs.map (·.2)) (gs.map (·.2)) →
    (putF f v fs).map (·.1) = (putD f x gs).map (·.1) ∧ Rps K G ((putF f v fs).map (·.2)) ((putD f x gs).map (·.2))
  | [], [], _, _ => ⟨rfl, .cons h .nil⟩
  | [], _ :: _, e, _ => by cases e
  | _ :: _, [], e, _ => by cases e
  | (f1, v1) :: fs, (g1, x1) :: gs, e, r => by
    have e1 : f1 = g1 := (List.cons.inj e).1
    have e2 : fs.map (·.1) = gs.map (·.1) := (List.cons.inj e).2
    subst e1
    cases r with
    | cons r1 r2 =>
      unfold putF putD
      by_cases n : f1 = f
      · rw [if_pos n, if_pos n]
        refine ⟨?_, .cons h r2⟩
        show f1 :: fs.map (·.1) = f1 :: gs.map (·.1)
        rw [e2]
      · rw [if_neg n, if_neg n]
        obtain ⟨q1, q2⟩ := putD_ok h e2 r2
        refine ⟨?_, .cons r1 q2⟩
        show f1 :: (putF f v fs).map (·.1) = f1 :: (putD f x gs).map (·.1)
        rw [q1]
def dSFld (K : PySem.W.Frag) (f : Str) (d0 dv : DE) : DS := fun Dd E s => dv s (fun r s1 => ∃ x s2, frz1 s1 r = some (x, s2) ∧ d0 s2 (fun r0 s3 => ∃ i l C gs, r0 = .bw i ∧ s3[i]? = some (.o l (.ins C gs)) ∧ (Cls K C ∧ NoAttr K C f) ∧ gs.length < 1000 ∧ Dd.nx (s3.set i (.o l (.ins C (putD f x gs))))) E) E
theorem lift_sFld {f : Str} {t0 tv : TE} {d0 dv : DE} (h0 : LiftE T K E t0 d0) (hv : LiftE T K E tv dv) : LiftS T K E (sFld K t0 tv f) (dSFld K f d0 dv) := fun A P Z σ s H Dd Ed D S h k x =>
  hv A P Z σ s H _ Ed _ S h (fun w H1 r ts s1 p ⟨y, s2, e, q⟩ => by
    have efs : frzs [r] s1 = some ([y], s2) := by simp only [frzs, e]
    obtain ⟨p2, S2, r2⟩ := p.frz S efs
    cases r2 with
    | cons rw' _ =>
      refine h0 A P Z σ s2 H1 _ Ed _ S2 q (fun w0 H2 r0 ts0 s3 p3 ⟨i, l, C, gs, e1, e2, hc, hl, q3⟩ => ?_) x.x
      subst e1
      have S3 := post_test (p3.drop S2.pa) S2
      have hσ : σ[i]? = some (some w0) := by
        cases p3.tr with
        | bw h _ => exact h
      obtain ⟨ov, e5, a, e6, dx, fs, g1, g2, g3⟩ := S3.sl i _ e2
      rw [hσ] at e5
      cases e5
      cases e6
      have x2 : LamX.ExtN (res (Hid A σ s2) H1) (res (Hid A σ s3) H2) := res_ext p3.kp (fun _ z => .inr z) fun b z => .inl (z.elim .inl fun z => .inr (p3.shr b z))
      have rv := rw'.ext x2
      have hid : Hid A σ s3 a := .inr ⟨i, l, _, hσ, e2⟩
      obtain ⟨g4, g5⟩ := putD_ok (f := f) rv g2 g3
      obtain ⟨S4, _⟩ := S3.chg (o := .ins C dx (putF f w fs)) e2 hσ (c' := .ins C (putD f y gs)) ⟨dx, _, upd_same, g4, g5.ext (ext_chg hid)⟩ (fun ps z => by cases z)
      have hl' : fs.length < 1000 := by
        have := congrArg List.length g2
        rw [List.length_map, List.length_map] at this
        omega
      exact ⟨a, C, dx, fs, rfl, g1, hc.1, hc.2, hl', k.nx _ _ _ S4 q3⟩) x.x
/-! ### zip of two lists or two tuples -/
def dZipA (da : DA) : DI := fun s Rd E => da s (fun rs s1 => ∃ x y xs ys s2, frzs rs s1 = some ([x, y], s2) ∧ ((x = .lst xs ∧ y = .lst ys) ∨ (x = .tup xs ∧ y = .tup ys)) ∧ Rd (zipL xs ys) kT s2) E
theorem lift_iZipA {ta : TA} {da : DA} (ha : LiftA T K E ta da) : LiftI T K E (RZ.iZipA K ta) (dZipA da) := fun A P Z σ s H Rd Ed R S h k x =>
  ha A P Z σ s H _ Ed _ S h (fun vs H1 rs ts s1 p ⟨x, y, xs, ys, s2, e, hxy, q⟩ => by
    obtain ⟨p2, S2, r2⟩ := p.frz S e
    cases r2 with
    | @cons v vs _ _ h1 r3 =>
      cases r3 with
      | @cons u us _ _ h2 r4 =>
        cases r4
        rcases hxy with ⟨rfl, rfl⟩ | ⟨rfl, rfl⟩
        · cases id h1 with
          | @lst a va _ ha1 ha2 =>
            cases id h2 with
            | @lst b vb _ hb1 hb2 =>
              refine ⟨a, b, va, vb, rfl, .inl ⟨.inl (.inl (res_some ha1).2), .inl (.inl (res_some hb1).2), k _ _ (zipL xs ys) kT s2 p2 (.of (walk_zip (xs := va) (ys := vb) (by rw [zipL_len, ha2.length, hb2.length])) (fun A' σ s H u S' _ => ?_) fun A' i σ s H y H' u hi S' _ hy => ?_) q⟩⟩
              · exact ⟨.inl (.inl (res_some (ext_base S2 u S' _ _ ha1 fun ps z => by cases z)).2), .inl (.inl (res_some (ext_base S2 u S' _ _ hb1 fun ps z => by cases z)).2)⟩
              · obtain ⟨T', y1, y2, rfl, hn, rfl, e1, e2⟩ := hy
                obtain ⟨d1, e3, h3⟩ := (ha2.ext (ext_base S2 u S')).at' e1
                obtain ⟨d2, e4, h4⟩ := (hb2.ext (ext_base S2 u S')).at' e2
                obtain ⟨g1, g2⟩ := pair_new (G := H) S'.rok hn h3 h4
                refine ⟨g1, _, ?_, g2⟩
                unfold zipL
                rw [List.getElem?_map, List.zip, List.getElem?_zipWith, e3, e4]
                rfl
        · cases id h1 with
          | @tup a va _ ha1 ha2 =>
            cases id h2 with
            | @tup b vb _ hb1 hb2 =>
              refine ⟨a, b, va, vb, rfl, .inr ⟨ExtN.sqT res_all ha1, ExtN.sqT res_all hb1, k _ _ (zipL xs ys) kT s2 p2 ⟨fun A' i σ s H u hi S' _ => ?_, fun A' σ s H u S' _ => ?_, fun A' i σ s H y H' u hi S' _ hy => ?_⟩ q⟩⟩
              · rw [zipL_len] at hi
                have l1 := ha2.length
                have l2 := hb2.length
                exact ⟨va, vb, va[i]'(by omega), vb[i]'(by omega), ExtN.sqT res_all (ExtN.sqT (ext_base S2 u S') ha1), ExtN.sqT res_all (ExtN.sqT (ext_base S2 u S') hb1), List.getElem?_eq_getElem _, List.getElem?_eq_getElem _⟩
              · refine ⟨va, vb, ExtN.sqT res_all (ExtN.sqT (ext_base S2 u S') ha1), ExtN.sqT res_all (ExtN.sqT (ext_base S2 u S') hb1), ?_⟩
                have l1 := ha2.length
                have l2 := hb2.length
                rw [zipL_len]
                omega
              · obtain ⟨T', y1, y2, rfl, hn, rfl, e1, e2⟩ := hy
                have e1 := e1 va (ExtN.sqT res_all (ExtN.sqT (ext_base S2 u S') ha1))
                have e2 := e2 vb (ExtN.sqT res_all (ExtN.sqT (ext_base S2 u S') hb1))
                obtain ⟨d1, e3, h3⟩ := (ha2.ext (ext_base S2 u S')).at' e1
                obtain ⟨d2, e4, h4⟩ := (hb2.ext (ext_base S2 u S')).at' e2
                obtain ⟨g1, g2⟩ := pair_new (G := H) S'.rok hn h3 h4
                refine ⟨g1, _, ?_, g2⟩
                unfold zipL
                rw [List.getElem?_map, List.zip, List.getElem?_zipWith, e3, e4]
                rfl) x
/-! ### len(o) of an own class -/
def dLenO (C : Addr) (spd : DSp) (da : DE) : DE := fun s Q E => da s (fun r0 s1 => ∃ gs, vw s1 r0 = some (.ins C gs) ∧ ∃ as, toArgs s1 [r0] = some as ∧ spd as (fun r as' => ∃ n : Nat, r = .d (.int (n : Int)) ∧ n < 2 ^ 62 ∧ Q (.d (.int (n : Int))) (back s1 [r0] as')) noX) E
theorem lift_lenO {C : Addr} {spd : DSp} {t0 : TE} {d0 : DE} (h0 : LiftE T K E t0 d0) : LiftE T K E (tCB (rLenO C (liftSp T K spd)) (tCons t0 tNil)) (dLenO C spd d0) := fun A P Z σ s H Qd Ed Q S h k x =>
  h0 A P Z σ s H _ Ed _ S h (fun w H1 r0 ts s1 p ⟨gs, e0, as, e, q⟩ => by
    obtain ⟨a, dx, fs, rfl, g1, g2, g3⟩ := (p.tr.rb p.st e0).ins
    have S1 := post_test (p.drop S.pa) S
    have nd : (bws [r0]).Nodup := by cases r0 <;> simp [bws]
    have ar := p.args S e nd (dvs := []) (dds := []) (fun _ => .nil)
    rw [List.append_nil, List.map_nil, List.append_nil] at ar
    refine ⟨a, dx, fs, rfl, g1, Hid A σ s1, as, _, _, ar, S1.rok, S1.tb, q, fun r as' v H' q c => ?_, fun ex as' cls d H' q _ _ => q⟩
    obtain ⟨n, rfl, hn, q⟩ := q
    have ev : v = .int (n : Nat) := by
      have c2 := c.2
      cases c2
      rfl
    have c' : RetP T K (Hid A σ s1) ([V.ref a] ++ []) (as ++ ([] : List D).map SV.d) as' H1 H' v (.d (.int (n : Int))) := by
      rw [List.append_nil, List.map_nil, List.append_nil]
      exact c
    obtain ⟨ts', p2⟩ := p.ret S e nd (dvs := []) (dds := []) (fun _ => .nil) c'
    exact ⟨n, ev, hn, by rw [← ev]; exact k _ _ _ _ _ p2 q⟩) x
/-! ### raise X() -/
def tRaise0 (E : L2.St → XK) (C : Addr) : TS := fun _ σ H => E σ (.ref C) none H
def dRaise0 (C : Addr) : DS := fun _ E s => E ⟨.ref C, []⟩ s
theorem lift_raise0 {C : Addr} : LiftS T K E (tRaise0 E C) (dRaise0 C) := fun A P Z σ s H Dd Ed D S h k x => x _ none H ⟨.ref C, []⟩ σ s S ⟨rfl, .inl ⟨rfl, rfl⟩⟩ h
/-! ### try: .. except X: .. -/
abbrev Sui := Addr → Value → Option Addr → TS
def tTryM (K : PySem.W.Frag) (E : L2.St → XK) (tb : WX → TS) (l : List (Value × Sui)) : TS := fun D σ H => tb (wMany K (fun cls d σ H => E σ cls d H) D l) D σ H
/-- which clause is taken -/
def hdD (K : PySem.W.Frag) (Dd : DEnds) (E : EC) : List (Value × DS) → EC
  | [] => E
  | (c, td) :: r => fun ex s => ∃ b, PySem.W.exmOne K ex.c c = some b ∧ if b = true then td Dd noX s else hdD K Dd E r ex s
def dTryM (K : PySem.W.Frag) (td : DS) (l : List (Value × DS)) : DS := fun Dd E s => td Dd (hdD K Dd E l) s
inductive LiftHs (T : List (Addr × Str)) (K : PySem.W.Frag) : List (Value × Sui) → List (Value × DS) → Prop
  | nil : LiftHs T K [] []
  | cons {c : Value} {ts : Sui} {td : DS} {l : List (Value × Sui)} {ld : List (Value × DS)} (h : ∀ a cls d, LiftS T K E0' (ts a cls d) td) (r : LiftHs T K l ld) : LiftHs T K ((c, ts) :: l) ((c, td) :: ld)
theorem hd_ok {l : List (Value × Sui)} {ld : List (Value × DS)} (hl : LiftHs T K l ld) {Dd : DEnds} {D : Ends} (k : EndsR T K A P Z Dd D) (x : XOkS T K A P Z Ed E) :
    XOkS T K A P Z (hdD K Dd Ed ld) (fun σ cls d H => wMany K (fun cls d σ H => E σ cls d H) D l cls d σ H) := by
  induction hl with
  | nil => exact x
  | cons h r ih =>
    rintro cls d H' ex σ' s' S hx ⟨b, e, q⟩
    refine ⟨b, by rw [hx.1]; exact e, fun hb a _ => ?_, fun hb => ?_⟩
    · rw [if_pos hb] at q
      exact h a cls d A P Z σ' s' H' Dd noX D S q k fun _ _ _ _ _ _ _ _ z => z
    · rw [if_neg (by rw [hb]; decide)] at q
      exact ih cls d H' ex σ' s' S hx q
theorem lift_tryM {tb : WX → TS} {td : DS} {l : List (Value × Sui)} {ld : List (Value × DS)} (hb : ∀ W : WX, LiftS T K (WE W) (tb W) td) (hl : LiftHs T K l ld) : LiftS T K E (tTryM K E tb l) (dTryM K td ld) := fun A P Z σ s H Dd Ed D S h k x =>
  hb _ A P Z σ s H Dd _ D S h k (hd_ok hl k x)
end
/-! ### the rules, with their readings named -/
section
variable {X : Cx}
theorem ps_raise0 {E : XK} {C : Addr} {bmB : List Value} {Bn newId initId : String} {x : Str} {p pos pos' : Pos} (hc : X.calm = true) (tk : Takes X (fun cls d _ H => E cls d H)) (F : ExcBaseFacts Bn newId initId bmB) (q : PySem.W.excIn X.K C bmB newId = true) (gC : X.mg x = some (.ref C)) (kC : PySem.W.keepIn X.K (.ref C) = true) (r : Raises X (.ref C)) (hg : Gl X x)
    (db : (x == ("__debug__" : Str)) = false := by decide) : PS X (.Raise (some (.Call (.Name x p) [] [] pos)) none pos') (tRaise0 (fun _ => E) C) := ps_raise hc tk (pmk_own0 F q gC kC r hg db)
theorem ps_tryM' {E : XK} {body : List Stmt} {h₀ : ExceptHandler} {hds : List ExceptHandler} {l : List (Value × Sui)} {pos : Pos} {tb : WX → TS} (hs : X.stack = X.env :: X.outer) (hf : X.env.frame = some X.env.locals) (tk : Takes X (fun cls d _ H => E cls d H))
    (hb : ∀ (W : WX) (pn : List (Addr × Obj)) (xe : Value → Shared → Prop), Takes (X.tr pn xe) W → PassesOwn (model X.prog X.w) X.A X.env xe → PSs (X.tr pn xe) body (tb W))
    (hh : HdsOk X (h₀ :: hds) l) : PS X (.Try body (h₀ :: hds) [] [] pos) (tTryM X.K (fun _ => E) tb l) := ps_try_many hs hf tk hb hh
end
end DL
set_option Elab.async false
set_option linter.all false
set_option maxRecDepth 100000
set_option maxHeartbeats 1000000
/-! how a def calls: by CX throughout -/
namespace Mv
open PySem PySem.Spec PyProof.Rows L2
theorem passN {X : Cx} : Passes (L2.CX X.prog X.w) X E0 := fun _ _ _ _ _ _ _ h => by
  obtain ⟨a, B, H', cls, d, _, _, _, _, _, _, _, z⟩ := h
  exact False.elim z
section
variable {X : Cx} {k j : Nat} {C : Addr} {x m : Str} {sp : Sp} {E : XK} {p pos apos : Pos} {e o : Expr} {es : List Expr} {ta : TE} {t : TA} {W : WX}
theorem pe_cxS (c : CalX (L2.CX X.prog X.w) X.prog X.w X.K X.mg X.base k x sp) (hr : Room j X.A) (hk : k ≤ j) (tk : Takes X W) (hg : Gl X x) (ha : PA X (e :: es) t)
    (hdb : (x == ("__debug__" : Str)) = false := by decide) (he : starEach (e :: es) X.env = (false, eval e X.env) :: starEach es X.env := by rfl) (hpl : (backTo pos (starEach es X.env)).any (·.1) = false := by rfl) :
    PE X (.Call (.Name x p) (e :: es) [] pos) (tCallSD sp [] (WE W) t) := by
  obtain ⟨f, fd, ps, F, hm, kp, b⟩ := c.ex
  exact pe_callSD F (hr.mono hk) hg hm kp b .nil (fun σ => passAt tk σ) ha hdb he hpl
/-- a class that is called: its __init__ -/
structure MakX (P : Program) (w : World) (K : PySem.W.Frag) (mg : Str → Option Value) (base : Heap) (k : Nat) (x : Str) (C : Addr) (sp : Sp) : Prop where
  ex : ∃ (f : Addr) (fd : FuncData) (ps : List Str), FnOk P w K mg base (L2.CX P w) k f fd ps sp ∧ mg x = some (.ref C) ∧ Binds K fd ps [] ∧ Mk K C f
theorem pe_mkX (c : MakX X.prog X.w X.K X.mg X.base k x C sp) (hr : Room j X.A) (hk : k + 1 ≤ j) (hx : Passes (L2.CX X.prog X.w) X E) (hg : Gl X x) (ha : PA X (e :: es) t)
    (hdb : (x == ("__debug__" : Str)) = false := by decide) (he : starEach (e :: es) X.env = (false, eval e X.env) :: starEach es X.env := by rfl) (hpl : (backTo pos (starEach es X.env)).any (·.1) = false := by rfl) :
    PE X (.Call (.Name x p) (e :: es) [] pos) (tMake C sp [] E t) := by
  obtain ⟨f, fd, ps, F, hm, b, M⟩ := c.ex
  exact pe_make M F (hr.mono hk) hg hm b .nil hx ha hdb he hpl
/-- len of the class's instances -/
structure LenX (P : Program) (w : World) (K : PySem.W.Frag) (mg : Str → Option Value) (base : Heap) (k : Nat) (C : Addr) (sp : Sp) : Prop where
  ex : ∃ (f : Addr) (fd : FuncData) (ps : List Str), FnOk P w K mg base (L2.CX P w) k f fd ps sp ∧ SpM K C "__len__" f ∧ Binds K fd ps []
theorem cr_lenX (c : LenX X.prog X.w X.K X.mg X.base k C sp) (hr : Room j X.A) (hk : k + 1 ≤ j) : CallR X (.builtin "len") (rLenO C sp) := by
  obtain ⟨f, fd, ps, F, M, b⟩ := c.ex
  exact call_lenO M F b (hr.mono hk)
end
/-! readings named -/
def rLenSq (K : PySem.W.Frag) : List V → Hp → VK → Prop := fun xs H Q => ∃ p ys, xs = [.ref p] ∧ (SqL K H p ys ∨ SqT K H p ys) ∧ Q (.int ys.length) H
def rListOf (K : PySem.W.Frag) : List V → Hp → VK → Prop := fun xs H Q => ∃ p ys, xs = [.ref p] ∧ (SqL K H p ys ∨ SqT K H p ys) ∧ ∀ l, H l = none → Q (.ref l) (upd H l (.lst ys))
def rTupleOf (K : PySem.W.Frag) : List V → Hp → VK → Prop := fun xs H Q => ∃ p ys, xs = [.ref p] ∧ ((SqL K H p ys ∧ ∀ l, H l = none → Q (.ref l) (upd H l (.tup ys))) ∨ (SqT K H p ys ∧ Q (.ref p) H))
def tTru (K : PySem.W.Frag) (ta : TE) : TT := fun σ H Q => ta σ H fun x H' => ∃ k, TruV K x H' k ∧ Q k H'
/-- an exception class of the program's own, without an __init__ of its own -/
structure Ex0 (K : PySem.W.Frag) (mg : Str → Option Value) (x : Str) (C : Addr) : Prop where
  q : PySem.W.excIn K C [.type "ValueError", .type "Exception", .type "BaseException", .type "object"] "ValueError.__new__" = true
  g : mg x = some (.ref C)
  k : PySem.W.keepIn K (.ref C) = true
  b : PySem.W.subIn K (.ref C) (.type "BaseException") = some true
  t : PySem.W.typeIn K (.ref C) = some (.type "type")
theorem Ex0.r {X : Cx} {x : Str} {C : Addr} (e : Ex0 X.K X.mg x C) : Raises X (.ref C) := raises_own e.b e.t
/-- the built-in names that stay -/
structure Bd (mg : Str → Option Value) : Prop extends Bi mg where
  zip : mg "zip" = none
  all : mg "all" = none
  any : mg "any" = none
  min : mg "min" = none
  max : mg "max" = none
  sum : mg "sum" = none
  set : mg "set" = none
  dict : mg "dict" = none
  reversed : mg "reversed" = none
end Mv
namespace DL
open PySem PySem.Spec PyProof.Rows L2 Mv
def dYes : DT := fun s Q _ => Q true s
theorem lift_yes {T : List (Addr × Str)} {K : PySem.W.Frag} {E : L2.St → XK} : LiftT T K E tYes dYes := fun A P Z σ s H Qd Ed Q S h k _ => k _ _ _ (Post.refl S) h
end DL
set_option Elab.async false
set_option linter.all false
set_option maxRecDepth 100000
set_option maxHeartbeats 1000000
/-! typed data: what the readings come to -/
namespace DL
open PySem PySem.Spec PyProof.Rows L2 Mv
/-! ### comprehensions and loops over typed lists -/
theorem lc_pure {α : Type} {gd : DGd} {dt : DT} {de : DE} {vs : List Nat} {s0 : SS} {keep : SS → Prop} {Q : List D → SS → Prop} (xs : List α) (enc : α → D) (p : α → Bool) (g : α → D) (hk : keep (dwipe s0 vs)) (hl : xs.length ≤ 4000)
    (step : ∀ x ∈ xs, ∀ (T1 : D → SS → Prop) (T0 : SS → Prop), (p x = true → ∀ s5, okW s5 vs → dwipe s5 vs = dwipe s0 vs → T1 (g x) s5) → (p x = false → ∀ s3, okW s3 vs → dwipe s3 vs = dwipe s0 vs → T0 s3) →
      gd (enc x) (dwipe s0 vs) (fun s2 => dt s2 (fun b s3 => if b = true then de s3 (fun r s4 => ∃ y s5, frz1 s4 r = some (y, s5) ∧ T1 y s5) noX else T0 s3) noX))
    (h : Q ((xs.filter p).map g) (dwipe s0 vs)) : dLcI gd dt de vs s0 keep (xs.map enc) Q := by
  refine ⟨fun l acc s => ∃ done rest, xs = done ++ rest ∧ l = rest.map enc ∧ acc = (done.filter p).map g ∧ s = dwipe s0 vs, ⟨[], xs, rfl, rfl, rfl, rfl⟩, ?_, ?_⟩
  · rintro x l acc s ⟨done, rest, e1, e2, rfl, rfl⟩
    cases rest with
    | nil => cases e2
    | cons y rest =>
      cases e2
      refine ⟨hk, step y (by rw [e1]; simp) (fun z s5 => okW s5 vs ∧ sameO (dwipe s5 vs) (dwipe s0 vs) ∧ ((done.filter p).map g).length < sizeLine ∧ ∃ done' rest', xs = done' ++ rest' ∧ rest.map enc = rest'.map enc ∧ (done.filter p).map g ++ [z] = (done'.filter p).map g ∧ dwipe s5 vs = dwipe s0 vs)
        (fun s3 => okW s3 vs ∧ sameO (dwipe s3 vs) (dwipe s0 vs) ∧ ∃ done' rest', xs = done' ++ rest' ∧ rest.map enc = rest'.map enc ∧ (done.filter p).map g = (done'.filter p).map g ∧ dwipe s3 vs = dwipe s0 vs) (fun hp s5 k1 k2 => ⟨k1, by rw [k2]; rfl, ?_, done ++ [y], rest, by rw [e1]; simp, rfl, ?_, k2⟩) (fun hp s3 k1 k2 => ⟨k1, by rw [k2]; rfl, done ++ [y], rest, by rw [e1]; simp, rfl, ?_, k2⟩)⟩
      · rw [List.length_map]
        have := List.length_filter_le p done
        have h2 := congrArg List.length e1
        rw [List.length_append] at h2
        exact small4000 (by omega)
      · rw [List.filter_append, List.map_append]
        simp [hp]
      · rw [List.filter_append, List.map_append]
        simp [hp]
  · rintro acc s ⟨done, rest, e1, e2, rfl, rfl⟩
    cases rest with
    | nil =>
      rw [List.append_nil] at e1
      rw [← e1]
      exact ⟨hk, h⟩
    | cons y rest => cases e2
/-- no test, the element a plain function -/
theorem lc_map {α : Type} {gd : DGd} {de : DE} {vs : List Nat} {s0 : SS} {keep : SS → Prop} {Q : List D → SS → Prop} (xs : List α) (enc : α → D) (g : α → D) (hk : keep (dwipe s0 vs)) (hl : xs.length ≤ 4000)
    (step : ∀ x ∈ xs, ∀ (T1 : D → SS → Prop), (∀ s5, okW s5 vs → dwipe s5 vs = dwipe s0 vs → T1 (g x) s5) → gd (enc x) (dwipe s0 vs) (fun s2 => de s2 (fun r s4 => ∃ y s5, frz1 s4 r = some (y, s5) ∧ T1 y s5) noX))
    (h : Q (xs.map g) (dwipe s0 vs)) : dLcI gd dYes de vs s0 keep (xs.map enc) Q := by
  refine lc_pure xs enc (fun _ => true) g hk hl (fun x hx T1 T0 h1 _ => ?_) (by rw [List.filter_eq_self.mpr fun _ _ => rfl]; exact h)
  simp only [dYes, if_true]
  exact step x hx T1 fun s5 a b => h1 rfl s5 a b
/-- a loop over a typed list: done, rest -/
theorem for_typed {α : Type} {gd : DGd} {tb : DS} {Dd : DEnds} {E : EC} {keep : SS → Prop} {s : SS} (xs : List α) (enc : α → D) (J : List α → List α → SS → Prop) (h0 : J [] xs s)
    (step : ∀ done x rest s (N : SS → Prop), xs = done ++ x :: rest → J done (x :: rest) s → (∀ s', J (done ++ [x]) rest s' → N s') → keep s ∧ gd (enc x) s (fun s1 => tb { Dd with nx := N, ct := N, bk := Dd.nx } E s1)) (hn : ∀ s, J xs [] s → keep s ∧ Dd.nx s) : dForI gd tb Dd E keep (xs.map enc) s := by
  refine ⟨fun l s => ∃ done rest, xs = done ++ rest ∧ l = rest.map enc ∧ J done rest s, ⟨[], xs, rfl, rfl, h0⟩, ?_, ?_⟩
  · rintro x l s ⟨done, rest, e1, e2, hj⟩
    cases rest with
    | nil => cases e2
    | cons y rest =>
      cases e2
      exact step done y rest s _ e1 hj fun s' q => ⟨done ++ [y], rest, by rw [e1]; simp, rfl, q⟩
  · rintro s ⟨done, rest, e1, e2, hj⟩
    cases rest with
    | nil =>
      rw [List.append_nil] at e1
      rw [← e1] at hj
      exact hn s hj
    | cons y rest => cases e2
theorem rngL_eq (lo : Int) (n : Nat) : rngL lo n = (List.range n).map fun k : Nat => D.int (lo + (k : Int)) := rfl
/-- a loop over range(n) -/
theorem for_rng {gd : DGd} {tb : DS} {Dd : DEnds} {E : EC} {keep : SS → Prop} {s : SS} {lo : Int} {n : Nat} (J : Nat → SS → Prop) (h0 : J 0 s)
    (step : ∀ k s (N : SS → Prop), k < n → J k s → (∀ s', J (k + 1) s' → N s') → keep s ∧ gd (.int (lo + (k : Int))) s (fun s1 => tb { Dd with nx := N, ct := N, bk := Dd.nx } E s1)) (hn : ∀ s, J n s → keep s ∧ Dd.nx s) : dForI gd tb Dd E keep (rngL lo n) s := by
  rw [rngL_eq]
  refine for_typed (List.range n) (fun k : Nat => D.int (lo + (k : Int))) (fun done _ s => J done.length s) h0 (fun done x rest s N e hj hN => ?_) fun s hj => hn s (by rw [List.length_range] at hj; exact hj)
  have h1 : x = done.length := by
    have := congrArg (fun l : List Nat => l[done.length]?) e
    simp only [List.getElem?_append_right (Nat.le_refl _), Nat.sub_self, List.getElem?_cons_zero] at this
    have hl := congrArg List.length e
    rw [List.length_range, List.length_append, List.length_cons] at hl
    rw [List.getElem?_range (by omega)] at this
    exact (Option.some.inj this).symm
  have h2 : done.length < n := by
    have hl := congrArg List.length e
    rw [List.length_range, List.length_append, List.length_cons] at hl
    omega
  subst h1
  exact step _ s N h2 hj fun s' q => hN s' (by rw [List.length_append]; exact q)
/-! ### membership of typed values -/
theorem map_sc_inj {xs ys : List V} (h : xs.map D.sc = ys.map D.sc) : xs = ys := by
  induction xs generalizing ys with
  | nil => cases ys with
    | nil => rfl
    | cons y ys => cases h
  | cons x xs ih => cases ys with
    | nil => cases h
    | cons y ys =>
      have h1 := (List.cons.inj h).1
      cases h1
      rw [ih (List.cons.inj h).2]
theorem inV_ints (x : Int) (ys : List Int) : inV (.int x) (ys.map V.int) = decide (x ∈ ys) := by
  unfold inV
  rw [Bool.eq_iff_iff, List.any_eq_true, decide_eq_true_eq]
  constructor
  · rintro ⟨v, hv, e⟩
    obtain ⟨y, hy, rfl⟩ := List.mem_map.mp hv
    have : y = x := by simpa [eqV] using e
    rwa [← this]
  · intro h
    exact ⟨.int x, List.mem_map.mpr ⟨x, h, rfl⟩, by simp [eqV]⟩
theorem inV_strs (x : Str) (ys : List Str) : inV (.str x) (ys.map V.str) = decide (x ∈ ys) := by
  unfold inV
  rw [Bool.eq_iff_iff, List.any_eq_true, decide_eq_true_eq]
  constructor
  · rintro ⟨v, hv, e⟩
    obtain ⟨y, hy, rfl⟩ := List.mem_map.mp hv
    have : y = x := by simpa [eqV] using e
    rwa [← this]
  · intro h
    exact ⟨.str x, List.mem_map.mpr ⟨x, h, rfl⟩, by simp [eqV]⟩
theorem flat_strs (ys : List Str) : (ys.map V.str).all flatV = true := by
  rw [List.all_eq_true]
  intro v hv
  obtain ⟨y, _, rfl⟩ := List.mem_map.mp hv
  rfl
theorem xIn_int {neg : Bool} {x : Int} {ys : List Int} {y : D} {Q : R → Prop} (e : itsD y = some (ys.map D.int)) (h : Q (.d (.bl (if neg then !decide (x ∈ ys) else decide (x ∈ ys))))) : xIn neg (.int x) y Q := by
  refine ⟨.int x, ys.map V.int, _, rfl, e, by rw [List.map_map]; rfl, rfl, ints_flat ys, ?_⟩
  rw [inV_ints]
  exact h
theorem xIn_tupI {neg : Bool} {x : Int} {ys : List Int} {Q : R → Prop} : xIn neg (.sc (.int x)) (.tup (ys.map D.int)) Q ↔ Q (.d (.bl (if neg then !decide (x ∈ ys) else decide (x ∈ ys)))) := by
  refine ⟨fun ⟨u, us, zs, e1, e2, e3, _, _, q⟩ => ?_, xIn_int rfl⟩
  cases e1
  cases e2
  have : us = ys.map V.int := map_sc_inj (by rw [← e3, List.map_map]; rfl)
  rw [this, inV_ints] at q
  exact q
theorem xIn_lstI {neg : Bool} {x : Int} {ys : List Int} {Q : R → Prop} : xIn neg (.sc (.int x)) (.lst (ys.map D.int)) Q ↔ Q (.d (.bl (if neg then !decide (x ∈ ys) else decide (x ∈ ys)))) := by
  refine ⟨fun ⟨u, us, zs, e1, e2, e3, _, _, q⟩ => ?_, xIn_int rfl⟩
  cases e1
  cases e2
  have : us = ys.map V.int := map_sc_inj (by rw [← e3, List.map_map]; rfl)
  rw [this, inV_ints] at q
  exact q
theorem xIn_strs {neg : Bool} {x : Str} {ys : List Str} {y : D} {Q : R → Prop} (e : itsD y = some (ys.map D.str)) (h : Q (.d (.bl (if neg then !decide (x ∈ ys) else decide (x ∈ ys))))) : xIn neg (.str x) y Q := by
  refine ⟨.str x, ys.map V.str, _, rfl, e, by rw [List.map_map]; rfl, rfl, flat_strs ys, ?_⟩
  rw [inV_strs]
  exact h
theorem xIn_tupS {neg : Bool} {x : Str} {ys : List Str} {Q : R → Prop} : xIn neg (.sc (.str x)) (.tup (ys.map D.str)) Q ↔ Q (.d (.bl (if neg then !decide (x ∈ ys) else decide (x ∈ ys)))) := by
  refine ⟨fun ⟨u, us, zs, e1, e2, e3, _, _, q⟩ => ?_, xIn_strs rfl⟩
  cases e1
  cases e2
  have : us = ys.map V.str := map_sc_inj (by rw [← e3, List.map_map]; rfl)
  rw [this, inV_strs] at q
  exact q
theorem xIn_lstS {neg : Bool} {x : Str} {ys : List Str} {Q : R → Prop} : xIn neg (.sc (.str x)) (.lst (ys.map D.str)) Q ↔ Q (.d (.bl (if neg then !decide (x ∈ ys) else decide (x ∈ ys)))) := by
  refine ⟨fun ⟨u, us, zs, e1, e2, e3, _, _, q⟩ => ?_, xIn_strs rfl⟩
  cases e1
  cases e2
  have : us = ys.map V.str := map_sc_inj (by rw [← e3, List.map_map]; rfl)
  rw [this, inV_strs] at q
  exact q
theorem bl_inj {xs ys : List Bool} (h : xs.map D.bl = ys.map D.bl) : xs = ys := by
  have e : ∀ l : List Bool, l.map D.bl = (l.map V.bl).map D.sc := fun l => by rw [List.map_map]; rfl
  rw [e, e] at h
  exact (List.map_inj_right fun a b z => by cases z; rfl).mp (map_sc_inj h)
theorem int_inj {xs ys : List Int} (h : xs.map D.int = ys.map D.int) : xs = ys := by
  have e : ∀ l : List Int, l.map D.int = (l.map V.int).map D.sc := fun l => by rw [List.map_map]; rfl
  rw [e, e] at h
  exact (List.map_inj_right fun a b z => by cases z; rfl).mp (map_sc_inj h)
theorem xAll_bls {bs : List Bool} {Q : R → Prop} : xAll [.lst (bs.map D.bl)] Q ↔ Q (.d (.bl (bs.all id))) :=
  ⟨fun ⟨cs, e, q⟩ => by
    have : bs = cs := bl_inj (D.lst.inj (List.cons.inj e).1)
    rw [this]
    exact q, fun q => ⟨bs, rfl, q⟩⟩
theorem xAny_bls {bs : List Bool} {Q : R → Prop} : xAny [.lst (bs.map D.bl)] Q ↔ Q (.d (.bl (bs.any id))) :=
  ⟨fun ⟨cs, e, q⟩ => by
    have : bs = cs := bl_inj (D.lst.inj (List.cons.inj e).1)
    rw [this]
    exact q, fun q => ⟨bs, rfl, q⟩⟩
theorem xSum_ints {ns : List Int} {Q : R → Prop} : xSum [.lst (ns.map D.int)] Q ↔ Q (.d (.int ns.sum)) :=
  ⟨fun ⟨cs, e, q⟩ => by
    have : ns = cs := int_inj (D.lst.inj (List.cons.inj e).1)
    rw [this]
    exact q, fun q => ⟨ns, rfl, q⟩⟩
theorem xSortL_ints {ns : List Int} {Q : R → Prop} : xSortL [.lst (ns.map D.int)] Q ↔ Q (.o (.lst ((sortI ns).map D.int))) :=
  ⟨fun ⟨cs, e, q⟩ => by
    have : ns = cs := int_inj (D.lst.inj (List.cons.inj e).1)
    rw [this]
    exact q, fun q => ⟨ns, rfl, q⟩⟩
theorem xSortT_ints {ns : List Int} {Q : R → Prop} : xSortT [.tup (ns.map D.int)] Q ↔ Q (.o (.lst ((sortI ns).map D.int))) :=
  ⟨fun ⟨cs, e, q⟩ => by
    have : ns = cs := int_inj (D.tup.inj (List.cons.inj e).1)
    rw [this]
    exact q, fun q => ⟨ns, rfl, q⟩⟩
theorem atI_map {α β : Type} (f : α → β) (xs : List α) (i : Int) : atI (xs.map f) i = (atI xs i).map f := by
  unfold atI
  rw [List.length_map]
  cases ixN xs.length i with
  | none => rfl
  | some j =>
    show (xs.map f)[j]? = (xs[j]?).map f
    rw [List.getElem?_map]
theorem cutD_take (xs : List D) (k : Nat) : cutD xs none (some (k : Int)) = xs.take k := by
  unfold cutD
  rw [HT.sIx_nat]
  show (xs.drop 0).take (min k xs.length - 0) = _
  rw [List.drop_zero, Nat.sub_zero, ← List.take_eq_take_min]
theorem cutD_drop (xs : List D) (k : Nat) : cutD xs (some (k : Int)) none = xs.drop k := by
  unfold cutD
  rw [HT.sIx_nat]
  show (xs.drop (min k xs.length)).take (xs.length - min k xs.length) = _
  rcases Nat.le_total k xs.length with h | h
  · rw [Nat.min_eq_left h, List.take_of_length_le (by rw [List.length_drop]; exact Nat.le_refl _)]
  · rw [Nat.min_eq_right h, List.drop_length, List.take_nil, List.drop_of_length_le h]
theorem cutD_drop1 (xs : List D) : cutD xs (some 1) none = xs.drop 1 := cutD_drop xs 1
end DL
set_option Elab.async false
set_option linter.all false
set_option maxRecDepth 100000
set_option maxHeartbeats 4000000
/-! an exception that leaves a list comprehension: its element calls a def that raises -/
namespace Mv
open PySem PySem.Spec PyProof.Rows L2
theorem note_eq {e : Value} {e1 e2 : Env} (h : e1.frame = e2.frame) : noteFrame e e1 = noteFrame e e2 := by unfold noteFrame PySem.frameOf; rw [h]
/-- what a comprehension's code is to reach, the block's variables told -/
def cpE (M : Model) (A : Around) (N : Value → Shared → Prop) (use : Option (Value → Sem Unit)) (R : Value → Shared → Prop) (got : Value) (ce : Env) (r : Result) (t : Shared) : Prop :=
  match r with
  | .ok f => compPost M A N use R got ce.locals (.ok f) t
  | .error x => ∃ m, t.heap.Ns ce.locals m ∧ ∀ g, Heap.SameBut ce.locals t.heap g → wpAny M A (passOn "comprehension.variables-let-go" x ce : Sem Value) (fun _ _ => False) N { t with heap := g }
section
variable {M : Model} {A : Around} {N : Value → Shared → Prop} {t : Shared} {env : Env}
theorem comp_freeE {x : Expr} {sc : Scope} {p : Pos} {mk fst : Sem Value} {c : Comprehension} {cs : List Comprehension} {clo : List (Str × Addr)} {use : Option (Value → Sem Unit)} {R : Value → Shared → Prop}
    (k1 : clausesOf x = c :: cs) (k2 : ∀ y, foldedSetIterable c.iter env y = pure y) (k3 : closureFor sc env = pure clo) (k4 : sc.kind = .function) (k5 : ∀ n ∈ sc.names, n.2 = .local → sc.names.lookup n.1 = some .local)
    (k : wpAny M A fst (fun y t1 => wpAny M A (pyIter y) (fun it t2 => wpAny M A mk (fun got t3 => wpAny M A (newFunctionEnv sc env.globals clo [] env.qual none .none (some env)) (fun ce t4 =>
      codeAny M A (.compStart x 0 it got { ce with scope := relabel sc env }) (cpE M A N use R got { ce with scope := relabel sc env }) t4) N t3) N t2) N t1) N t) :
    wpAny M A (comprehension x sc env p mk false fst use) R N t := by
  unfold comprehension
  rw [k3, k1]
  refine wpAny_bind (wpAny_mono k (fun y t1 q1 => wpAny_bind (wpAny_standAt (wpAny_bind (wpAny_of_eq (k2 y) (wpAny_bind (wpAny_holding (wpAny_mono q1 (fun it t2 q2 =>
    wpAny_standIf (wpAny_bind (wpAny_mono q2 (fun got t3 q3 => wpAny_bind (wpAny_pure (wpAny_bind (wpAny_mono q3 (fun ce t4 q4 => ?_) fun _ _ z => z)))) fun _ _ z => z))) fun _ _ z => z))))))) fun _ _ z => z)
  dsimp only
  have own1 : ∀ n ∈ (sc.names.filter fun n => (n.2 == .local || n.2 == .cell) && n.1 != (".0" : Str)).reverse, n.2 = .local → Env.kindOf { ce with scope := relabel sc env } n.1 = some .local := fun n hn hl =>
    lookup_relabel_local (k5 n (List.mem_filter.mp (List.mem_reverse.mp hn)).1 hl)
  have own2 : ∀ n ∈ (sc.names.filter fun n => (n.2 == .local || n.2 == .cell) && n.1 != (".0" : Str)).reverse.drop 1 ++ (sc.names.filter fun n => (n.2 == .local || n.2 == .cell) && n.1 != (".0" : Str)).reverse.take 1,
      n.2 = .local → Env.kindOf { ce with scope := relabel sc env } n.1 = some .local := fun n hn hl => (List.mem_append.mp hn).elim (fun z => own1 n (List.mem_of_mem_drop z) hl) fun z => own1 n (List.mem_of_mem_take z) hl
  refine wpAny_holding (wpAny_bind (wpAny_attempt (wpAny_holding (wpAny_run (codeAny_mono q4 fun r t5 hr => ?_)))))
  cases r with
  | ok f =>
    cases use with
    | none =>
      obtain ⟨m, ns, fin⟩ := hr
      exact wpAny_bind (wpAny_holding (wpAny_comp_letGo (cenv := { ce with scope := relabel sc env }) k4 _ t5 m own1 ns fun g _ _ sb => wpAny_pure (fin g sb)))
    | some u =>
      have hr : wpAny M A (u got) _ N t5 := hr
      refine wpAny_bind (wpAny_rule (wpAny_bind (wpAny_holding (wpAny_mono hr (fun _ t6 q6 => ?_) fun _ _ z => z))))
      obtain ⟨m, ns, fin⟩ := q6
      exact wpAny_bind (wpAny_comp_letGo (cenv := { ce with scope := relabel sc env }) k4 _ t6 m own2 ns fun g _ _ sb => wpAny_pure (fin g sb))
  | error y =>
    obtain ⟨m, ns, fin⟩ := hr
    exact wpAny_bind (wpAny_holding (wpAny_comp_letGo (cenv := { ce with scope := relabel sc env }) k4 _ t5 m own1 ns fun g _ _ sb => wpAny_mono (fin g sb) (fun _ _ z => z.elim) fun _ _ z => z))
end
section
variable {X : Cx}
theorem frames_sub {B g g' : Heap} : ∀ {l : List Env}, g.FunFrames B l → (∀ L ∈ frs l, ∀ o, g.get? L = some o → g'.get? L = some o) → g'.FunFrames B l
  | [], _, _ => trivial
  | env :: l, ⟨hk, ⟨L, o, hf, hb, ho, hd⟩, hr⟩, k => ⟨hk, ⟨L, o, hf, hb, k L (List.mem_filterMap.mpr ⟨env, List.mem_cons_self, hf⟩) o ho, hd⟩, frames_sub hr fun b hb => by
      obtain ⟨e, he, q⟩ := List.mem_filterMap.mp hb
      exact k b (List.mem_filterMap.mpr ⟨e, List.mem_cons_of_mem _ he, q⟩)⟩
/-- noted by the frame -/
theorem sky_note {M : Model} {A : Around} {N : Value → Shared → Prop} {env : Env} {outer : List Env} {L a : Addr} {Z : Obj → Prop} {B : Heap} {t : Shared} {R : Unit → Shared → Prop} (hZ : HandSPX.Steady Z) (fr : A.frames = some (env :: outer)) (hf : env.frame = some L)
    (sk : Sky B (env :: outer) a Z L t.heap) (k : ∀ g, HandSPX.HeldZ B (env :: outer) a Z L g → t.heap.UpToSlots g → R () { t with heap := g }) : wpAny M A (noteFrame (.ref a) env) R N t := by
  rcases sk with ⟨b1, b2, b3, oe, vs, b4, b5, b6, b7⟩ | fl | hh
  · exact HandSPX.look_newZ hZ fr b3 hf b4 b1 b2 b6 b7 b5 k
  · exact HandSPX.looks_onZ hZ fr hf fl k
  · exact HandSPX.againZ hf hh.2.2.2 (k t.heap hh (Heap.UpToSlots.refl _))
/-- an exception of a call in a block: the block's variables are let go, and it goes on -/
theorem blk_out {E1 : XK} {C : Addr} {oC : Obj} {ce : Env} {pins : List (Addr × Obj)} {σ : L2.St} {H : Hp} {t t' : Shared} {e : Value} {N : Value → Shared → Prop} {m : Str → Option Value} (st : X.stack = X.env :: X.outer) (fr : X.env.frame = some X.env.locals)
    (tk : Takes X fun c d _ H => E1 c d H) (J : Inv X pins σ H t) (hC : t.heap.get? C = some oC) (dC : (∀ v, oC.data ≠ .cell v)) (f : FpOk X pins H C) (ns : t.heap.Ns C m) (ef : ce.frame = X.env.frame) (c : L2.CX X.prog X.w X.stack H t E1 e t') :
    wpAny (model X.prog X.w) X.A (noteFrame e ce) (fun _ t2 => ∃ m, t2.heap.Ns C m ∧ ∀ g, Heap.SameBut C t2.heap g → wpAny (model X.prog X.w) X.A (passOn "comprehension.variables-let-go" e ce : Sem Value) (fun _ _ => False) X.xe { t2 with heap := g }) N t' := by
  obtain ⟨f0, f1, f2, f3, f4, f5⟩ := f
  have Jp : Inv (X.tr ((C, oC) :: (X.pn ++ pins)) X.xe) [] σ H t := ⟨J.ok.toTry _ _, J.os, J.bare, J.base, J.loc, J.cell, J.free, J.freeC, fun p hp => by
    rw [List.append_nil] at hp
    rcases List.mem_cons.mp hp with z | z
    · rw [z]
      exact ⟨hC, f0, f1, f2, dC⟩
    · exact J.pin p z, J.hok, J.len⟩
  obtain ⟨a, B, tI, pn', σ', H2, cls, d, rfl, I2, nb, up, sk, na, os, ag, w⟩ := XE.of_call (W := fun c d _ H => E1 c d H) Jp (fun _ _ _ z => z) c
  have pC := I2.pin (C, oC) (List.mem_append_left _ List.mem_cons_self)
  have J2 : Inv X pins σ' H2 tI := ⟨J.ok, I2.os, I2.bare, I2.base, I2.loc, I2.cell, I2.free, I2.freeC, fun p hp => I2.pin p (List.mem_append_left _ (List.mem_cons_of_mem _ hp)), I2.hok, I2.len⟩
  have hA : X.A.frames = some (X.env :: X.outer) := by rw [J.ok.frames, st]
  have nC : C ∉ frs (X.env :: X.outer) := fun z => by
    obtain ⟨ev, me, fe⟩ := List.mem_filterMap.mp z
    rcases List.mem_cons.mp me with rfl | me
    · rw [fr] at fe
      exact f1 (Option.some.inj fe).symm
    · exact f2 (List.mem_filterMap.mpr ⟨ev, me, fe⟩)
  have nb' : ∀ b o, tI.heap.get? b = some o → b ∉ frs (X.env :: X.outer) → B.get? b = some o := by rw [← st]; exact nb
  have sk' : Sky B (X.env :: X.outer) a (Zc cls d) X.env.locals t'.heap := by rw [← st]; exact sk
  have bC : B.get? C = some oC := nb' C oC pC.1 nC
  have J3 : Inv X pins σ' H2 { tI with heap := PySem.W.hideAll tI.heap [C] } := J2.turned (t' := tI.toks) (fun b o n e => PySem.W.hideAll_get _ e fun z => n (List.mem_singleton.mp z)) pC.2.1 f1 f3 f4 f5
  rw [note_eq ef]
  refine sky_note Zc.steady hA fr sk' fun g1 hh1 up1 => ⟨m, ns.at' fun o e => ?_, fun g sb => ?_⟩
  · rw [hC] at e
    exact Option.some.inj e ▸ hh1.1 C oC bC
  · obtain ⟨h1, h2, h3, oe, vs, Tb, oT, ts, e1, e2, e3, e4, e5, e6, e7, e8, e9⟩ := hh1
    have nB : ∀ b, B.get? b = none → b ≠ C := fun b z y => by rw [y, bC] at z; cases z
    have hb : ∀ b, b ≠ C → (PySem.W.hideAll B [C]).get? b = B.get? b := fun b n => by
      cases e : B.get? b with
      | some o => exact PySem.W.hideAll_get _ e fun z => n (List.mem_singleton.mp z)
      | none =>
        cases q : (PySem.W.hideAll B [C]).get? b with
        | none => rfl
        | some o => rw [PySem.W.of_hideAll _ q] at e; cases e
    have held : HandSPX.HeldZ (PySem.W.hideAll B [C]) (X.env :: X.outer) a (Zc cls d) X.env.locals g := by
      refine ⟨fun b o e => ?_, (hb a (nB a h2)).trans h2, ?_, oe, vs, Tb, oT, ts, (sb.2 a (nB a h2)).trans e1, e2, e3, e4, (hb Tb (nB Tb e5)).trans e5, e6, (sb.2 Tb (nB Tb e5)).trans e7, e8, e9⟩
      · have n : b ≠ C := fun z => by
          rw [z, PySem.W.hideAll_none _ (List.mem_singleton.mpr rfl)] at e
          cases e
        exact (sb.2 b n).trans (h1 b o (PySem.W.of_hideAll _ e))
      · refine frames_sub (funFrames_none h3 fun b hm => ?_) fun b hm o e => (sb.2 b fun z => nC (z ▸ hm)).trans e
        have n : b ≠ C := fun z => nC (z ▸ hm)
        exact (hb b n).trans (h3.mem hm).1
    obtain ⟨_, _, _, oe', vs', Tb', oT', ts', r1, r2, r3, r4, _⟩ := id held
    unfold PySem.passOn
    refine wpAny_bind (wpAny_field r1 r3 r4 ?_)
    rw [if_neg (show ¬ ((Value.ref Tb' == Value.none) = true) by simp)]
    have out : wpAny (model X.prog X.w) X.A (setFlight (.ref a) ce.frame) (fun _ t4 => wpAny (model X.prog X.w) X.A (throw (.ref a) : Sem Value) (fun _ _ => False) X.xe t4) X.xe { t' with heap := g } := by
      rw [ef, fr]
      refine HandSPX.setFlight_onZ held fun g4 hh4 up4 => wpAny_throw (tk _ _ ⟨a, PySem.W.hideAll B [C], _, pins, σ', H2, cls, d, rfl, J3, fun b o e hm => ?_, fun b o e hd => ?_, .inr (.inr (by rw [st]; exact hh4)), na, os, ag, w⟩)
      · have n : b ≠ C := fun z => by
          have e' := e
          rw [z, PySem.W.hideAll_none _ (List.mem_singleton.mpr rfl)] at e'
          cases e'
        exact (hb b n).trans (nb b o (PySem.W.of_hideAll _ e) hm)
      · have n : b ≠ C := fun z => by
          have e' := e
          rw [z, PySem.W.hideAll_none _ (List.mem_singleton.mpr rfl)] at e'
          cases e'
        obtain ⟨s1, q1⟩ := up b o (PySem.W.of_hideAll _ e) hd
        obtain ⟨s2, q2⟩ := up1 b _ q1 hd
        obtain ⟨s3, q3⟩ := up4 b _ ((sb.2 b n).trans q2) hd
        exact ⟨s3, q3⟩
    first
      | exact wpAny_bind (wpAny_pure (wpAny_bind out))
      | exact wpAny_bind out
/-- a block whose calls' exceptions go on to the def -/
abbrev blkE (X : Cx) (t : Shared) (H : Hp) (sc : Scope) (ce : Env) (fp : List Addr) (xe : Value → Shared → Prop) : Cx := { X.blk t H sc ce fp with xe := xe }
theorem Inv.toE {pins : List (Addr × Obj)} {σ : L2.St} {H H0 : Hp} {t t0 : Shared} {sc : Scope} {ce : Env} {fp : List Addr} {xe : Value → Shared → Prop} (I : Inv (X.blk t0 H0 sc ce fp) pins σ H t) : Inv (blkE X t0 H0 sc ce fp xe) pins σ H t :=
  ⟨⟨I.ok.mod, I.ok.kind, I.ok.glob, I.ok.blt, I.ok.above, I.ok.inj, I.ok.has, I.ok.cab, I.ok.hd, I.ok.frames, I.ok.stk, I.ok.exf, I.ok.bs, I.ok.bsz, I.ok.noex, I.ok.exfs, I.ok.funs, I.ok.frf⟩, I.os, I.bare, I.base, I.loc, I.cell, I.free, I.freeC, I.pin, I.hok, I.len⟩
theorem lcE_core {E1 : XK} {pn : List (Addr × Obj)} {t : Shared} {z : L2.St} {h : Hp} {R : VK} {el tg it : Expr} {ifs : List Expr} {sc : Scope} {own : List (Str × Nat)} {p p' : Pos} {wi : TI} {g : TG} {tt : TT} {te : TE} {use : Option (Value → Sem Unit)} {Rf : Value → Shared → Prop}
    (hc : X.calm = true) (nd : X.N.Nodup) (st : X.stack = X.env :: X.outer) (fr : X.env.frame = some X.env.locals) (tk : Takes X fun c d _ H => E1 c d H) (I : Inv X pn z h t) (hi : PI X tg it wi) (ok : BlkOk X.N X.env.scope sc own)
    (hg : ∀ (t : Shared) (H : Hp) (C : Addr) (cl : List (Str × Addr)) (fp : List Addr) (xe : Value → Shared → Prop), PG (blkE X t H sc (compEnvC sc cl C X.env) fp xe) tg g) (ht : ∀ (t : Shared) (H : Hp) (C : Addr) (cl : List (Str × Addr)) (fp : List Addr) (xe : Value → Shared → Prop), PTs (blkE X t H sc (compEnvC sc cl C X.env) fp xe) ifs tt)
    (he : ∀ (t : Shared) (H : Hp) (C : Addr) (cl : List (Str × Addr)) (fp : List Addr) (xe : Value → Shared → Prop), (∀ σ, PassesAt (L2.CX X.prog X.w) (blkE X t H sc (compEnvC sc cl C X.env) fp xe) σ E1) → PE (blkE X t H sc (compEnvC sc cl C X.env) fp xe) el te) (hs : ∀ y, foldedSetIterable it X.env y = pure y)
    (w : tLc wi g tt te (own.map (·.2)) z h R)
    (fin : ∀ L C t1 m h1, Inv X pn z h1 t1 → R (.ref L) h1 → t1.heap.Ns C m → FpOk X pn h1 C → compPost (model X.prog X.w) X.A X.xe use Rf (.ref L) C (.ok .next) t1) :
    wpAny (model X.prog X.w) X.A (comprehension (.ListComp el [⟨tg, it, ifs, 0⟩] sc p) sc X.env p' (newList []) false (eval it X.env) use) Rf X.xe t := by
  have clo : ∀ n ∈ sc.names, n.2 = .free → ∃ c, X.env.cells.lookup n.1 = some c := fun n hn e => (ok.free n hn e).elim (fun k => I.ok.has _ (.inl k)) fun k => I.ok.has _ (.inr k)
  refine comp_freeE (use := use) rfl hs (closure_ok clo) ok.kind (fun n hn e => by rw [ok.uniq n hn, e]) (thn (hi.run pn t z h _ I w) fun xv t1 q1 => thn q1 fun iv t2 q2 => ?_)
  obtain ⟨a, fp, tn, J, h2, e, I2, T, st2, f2, q⟩ := q2
  subst e
  refine wpAny_newObj_type (newEnv_comp ?_) (by show 0 ≤ sizeLine; decide)
  generalize hL : t2.heap.objs.size = L
  have hLn : h2 L = none := I2.hok.fresh (Nat.le_of_eq hL)
  obtain ⟨W, ⟨m0, w0⟩, turn⟩ := q L hLn
  generalize ht3 : ({ t2 with heap := t2.heap.push { cls := .type "list", data := .seq ([] : List Value).toArray } } : Shared) = t3
  have I3 : Inv X pn z (upd h2 L (.lst [])) t3 := by
    rw [← ht3]
    refine I2.laid (t' := t2.toks) (fun b o e => Heap.get?_push_of_some _ e) (Nat.le_of_eq hL) ⟨Nat.zero_le _, [], 0, .nil, ?_⟩
    rw [← hL]
    exact Heap.get?_push_size _ rfl
  have g3 : t3.heap = t2.heap.push { cls := .type "list", data := .seq ([] : List Value).toArray } := by rw [← ht3]
  have low : ∀ b ∈ fp, b < t2.heap.objs.size := fun b hb => by
    obtain ⟨o, e, _⟩ := T.obj _ _ st2 b hb
    exact Heap.lt_size e
  have f3 : ∀ b ∈ fp, FpOk X pn (upd h2 L (.lst [])) b ∧ b < t3.heap.objs.size := fun b hb => by
    have lb := low b hb
    refine ⟨⟨?_, (f2 b hb).2⟩, by rw [g3, Heap.size_push]; exact Nat.lt_succ_of_lt lb⟩
    rw [upd_ne (by rw [← hL]; exact Nat.ne_of_lt lb)]
    exact (f2 b hb).1
  have st3 : tn 0 t3.heap := T.keep _ _ _ st2 fun b _ o e => by rw [g3]; exact Heap.get?_push_of_some _ e
  have I4 := block_start I3 ok nd f3
  have pg := hg t3 (upd h2 L (.lst [])) t3.heap.objs.size (cellsFrom (t3.heap.objs.size + 1) sc.names (cloFrom X.env.cells sc.names [])) fp
  have pt := ht t3 (upd h2 L (.lst [])) t3.heap.objs.size (cellsFrom (t3.heap.objs.size + 1) sc.names (cloFrom X.env.cells sc.names [])) fp
  have pe := he t3 (upd h2 L (.lst [])) t3.heap.objs.size (cellsFrom (t3.heap.objs.size + 1) sc.names (cloFrom X.env.cells sc.names [])) fp
  show codeAny _ _ (.compStart (.ListComp el [⟨tg, it, ifs, 0⟩] sc p) 0 (.ref a) (.ref L) (compEnvC sc (cellsFrom (t3.heap.objs.size + 1) sc.names (cloFrom X.env.cells sc.names [])) t3.heap.objs.size X.env)) (cpE (model X.prog X.w) X.A X.xe use Rf (.ref L) (compEnvC sc (cellsFrom (t3.heap.objs.size + 1) sc.names (cloFrom X.env.cells sc.names [])) t3.heap.objs.size X.env)) { t3 with heap := pushCells (t3.heap.push { cls := .type "dict", data := .dict #[] }) sc.names }
  have nfp : ∀ b ∈ fp, (upd h2 L (.lst [])) b = none := fun b hb => (f3 b hb).1.1
  generalize hce : compEnvC sc (cellsFrom (t3.heap.objs.size + 1) sc.names (cloFrom X.env.cells sc.names [])) t3.heap.objs.size X.env = ce at I4 pg pt pe ⊢
  have cL : ce.locals = t3.heap.objs.size := by subst hce; rfl
  have cF : ce.frame = X.env.frame := by subst hce; rfl
  generalize hh3 : upd h2 L (.lst []) = h3 at I3 I4 pg pt pe w0 nfp f3
  generalize ht4 : ({ t3 with heap := pushCells (t3.heap.push { cls := .type "dict", data := .dict #[] }) sc.names } : Shared) = t4 at I4 ⊢
  have st4 : tn 0 t4.heap := T.keep _ _ _ st3 fun b _ o e => by rw [← ht4]; exact pushCells_keeps _ _ _ _ (Heap.get?_push_of_some _ e)
  -- what an exception of the element is to reach
  generalize hxB : notedBy (model X.prog X.w) X.A ce (fun e t' => cpE (model X.prog X.w) X.A X.xe use Rf (.ref L) ce (.error e) t') = xB
  have back : ∀ {pn' : List (Addr × Obj)} {z' : L2.St} {h' : Hp} {t' : Shared}, Inv (blkE X t3 h3 sc ce fp xB) pn' z' h' t' → Inv X pn z h' t' ∧ FpOk X pn h' ce.locals := fun {pn' z' h' t'} I' =>
    ⟨I3.call' (ch := fp) I'.os I'.base I'.hok I'.bare fun b hb => ⟨(f3 b hb).1.2.2.2.1, (f3 b hb).1.2.1, (f3 b hb).1.2.2.2.2.1, (f3 b hb).1.2.2.2.2.2⟩, by
      have nC : h' ce.locals = none := I'.free
      rw [cL] at nC ⊢
      exact I3.fpOk (Nat.le_refl _) nC⟩
  have pass : ∀ σ, PassesAt (L2.CX X.prog X.w) (blkE X t3 h3 sc ce fp xB) σ E1 := fun σ pn' H' t' e t'' I' c => by
    obtain ⟨J', f'⟩ := back I'
    obtain ⟨m, ns, _⟩ := I'.loc
    have ns : t'.heap.Ns ce.locals m := ns
    obtain ⟨oC, es, ep, x1, x2, x3⟩ := id ns
    show xB e t''
    rw [← hxB]
    exact blk_out st fr tk J' x1 (fun v y => by first | (rw [x2] at y; cases y) | (rw [x3.1] at y; cases y) | (rw [x3] at y; cases y)) f' ns cF c
  have stat : ∀ {z' : L2.St} {h' : Hp} {t' : Shared}, Inv (blkE X t3 h3 sc ce fp xB) [] z' h' t' → (∀ b ∈ fp, h' b = none) → ∀ b ∈ fp, FpOk (blkE X t3 h3 sc ce fp xB) [] h' b := fun {z' h' t'} I' n b hb =>
    ⟨n b hb, (I'.ok.exf b hb).1, I'.ok.exfs b hb, .inl hb, fun y c e => (I'.ok.exf b hb).2 y c e, fun q hq => absurd (show q ∈ ([] : List (Addr × Obj)) ++ [] from hq) (by simp)⟩
  have loop : codeAny (model X.prog X.w) X.A (.compLoop (.ListComp el [⟨tg, it, ifs, 0⟩] sc p) 0 (.ref a) (.ref L) ce) (cpE (model X.prog X.w) X.A X.xe use Rf (.ref L) ce) t4 := by
    refine compLoop_any (fun n t' => ∃ i h', Inv (blkE X t3 h3 sc ce fp xB) [] (wipe z (own.map (·.2))) h' t' ∧ tn i t'.heap ∧ (∀ b ∈ fp, h' b = none) ∧ W i n h') ?_ m0 ⟨0, h3, Inv.toE I4, st4, nfp, w0⟩
    rw [hxB]
    rintro n t5 ⟨i, h5, I5, st5, n5, w5⟩
    rcases turn i n h5 w5 with ⟨stop, qq⟩ | ⟨go, Nx, hNx, step⟩
    · have td := T.done (blkE X t3 h3 sc ce fp xB) rfl rfl rfl hc i [] t5 _ h5 (fun _ _ => False) I5 (stat I5 n5) st5 stop
      refine thnF td fun r t6 ⟨hr, I6⟩ => ?_
      subst hr
      obtain ⟨I7, f7⟩ := back I6
      obtain ⟨m, ns, _⟩ := I6.loc
      have ns : t6.heap.Ns ce.locals m := ns
      exact fin L ce.locals t6 m h5 I7 qq ns f7
    · have ti := T.item (blkE X t3 h3 sc ce fp xB) rfl rfl rfl hc i [] t5 _ h5 (fun _ _ => False) I5 (stat I5 n5) st5 go
      refine thnF ti fun r t6 ⟨u, hr, q6⟩ => ?_
      subst hr
      refine thnF q6 fun _ t7 ⟨x, h7, I7, r7, y7, st7, n7⟩ => ?_
      have I7' := I7.pinned (stat I7 n7) (T.obj _ _ st7)
      refine thn ((pg xB).run _ t7 _ h7 x u _ I7' r7 (step x h7 y7)) fun _ t8 ⟨z8, h8, I8, hw8, q8⟩ => ?_
      refine thn ((pt xB).run _ t8 z8 h8 _ I8 q8) fun b t9 ⟨h9, I9, q9⟩ => ?_
      have close : ∀ {t' : Shared} {h' : Hp}, Inv (blkE X t3 h3 sc ce fp xB) ([] ++ pinsAt fp t7.heap) z8 h' t' → Nx h' → ∃ m, m < n ∧ ∃ i h', Inv (blkE X t3 h3 sc ce fp xB) [] (wipe z (own.map (·.2))) h' t' ∧ tn i t'.heap ∧ (∀ b ∈ fp, h' b = none) ∧ W i m h' := fun {t' h'} I' nx => by
        obtain ⟨m', hm, w'⟩ := hNx h' nx
        have pin' : ∀ b ∈ fp, ∀ o, t7.heap.get? b = some o → t'.heap.get? b = some o ∧ h' b = none := fun b hb o e =>
          let y := I'.pin (b, o) (List.mem_append_right _ (List.mem_append_right _ (mem_pinsAt hb e)))
          ⟨y.1, y.2.1⟩
        have hl : (wipe z (own.map (·.2))).length = z8.length := by rw [← hw8, wipe_length]
        refine ⟨m', hm, i + 1, h', (I'.unpinned (pins := [])).weak hl (fun j v e => ?_), T.keep _ _ _ st7 fun b hb o e => (pin' b hb o e).1, fun b hb => ?_, w'⟩
        · rw [← hw8] at e
          exact (wipe_some e).1
        · obtain ⟨o, e, _⟩ := T.obj _ _ st7 b hb
          exact (pin' b hb o e).2
      cases b with
      | false =>
        simp only [Bool.false_eq_true, if_false] at q9 ⊢
        exact close I9 q9
      | true =>
        simp only [if_true] at q9 ⊢
        refine thn ((pe xB pass).run _ t9 z8 h9 _ I9 q9) fun y t10 ⟨yv, h10, I10, r10, acc, hL10, hz10, nx⟩ => ?_
        exact app_ok (X := blkE X t3 h3 sc ce fp xB) I10 hL10 hz10 r10 fun t11 I11 => close I11 nx
  exact codeAny_compStart_list loop (T.self X.A 0 _ _ _ st4 loop)
/-- its reading, marked -/
def tLcE (wi : TI) (g : TG) (tt : TT) (te : TE) (vs : List Nat) : TE := tLc wi g tt te vs
/-- as a value -/
theorem pe_lcE {E1 : XK} {el tg it : Expr} {ifs : List Expr} {sc : Scope} {own : List (Str × Nat)} {p : Pos} {wi : TI} {g : TG} {tt : TT} {te : TE} (st : X.stack = X.env :: X.outer) (fr : X.env.frame = some X.env.locals) (tk : Takes X fun c d _ H => E1 c d H) (hc : X.calm = true) (nd : X.N.Nodup) (hi : PI X tg it wi) (ok : BlkOk X.N X.env.scope sc own)
    (hg : ∀ (t : Shared) (H : Hp) (C : Addr) (cl : List (Str × Addr)) (fp : List Addr) (xe : Value → Shared → Prop), PG (blkE X t H sc (compEnvC sc cl C X.env) fp xe) tg g) (ht : ∀ (t : Shared) (H : Hp) (C : Addr) (cl : List (Str × Addr)) (fp : List Addr) (xe : Value → Shared → Prop), PTs (blkE X t H sc (compEnvC sc cl C X.env) fp xe) ifs tt)
    (he : ∀ (t : Shared) (H : Hp) (C : Addr) (cl : List (Str × Addr)) (fp : List Addr) (xe : Value → Shared → Prop), (∀ σ, PassesAt (L2.CX X.prog X.w) (blkE X t H sc (compEnvC sc cl C X.env) fp xe) σ E1) → PE (blkE X t H sc (compEnvC sc cl C X.env) fp xe) el te) (hs : ∀ y, foldedSetIterable it X.env y = pure y := by intro _; rfl) :
    PE X (.ListComp el [⟨tg, it, ifs, 0⟩] sc p) (tLcE wi g tt te (own.map (·.2))) := by
  refine ⟨fun pn t z h R I w => ?_⟩
  rw [eval_ListComp]
  refine lcE_core hc nd st fr tk I hi ok hg ht he hs w fun L C t1 m h1 I1 q ns f => ⟨m, ns, fun g sb => ?_⟩
  obtain ⟨f0, f1, f2, f3, f4, f5⟩ := f
  exact ⟨.ref L, h1, I1.turned (t' := t1.toks) (fun b o hb e => (sb.2 b hb).trans e) f0 f1 f3 f4 f5, rfl, q⟩
end
end Mv
set_option Elab.async false
set_option linter.all false
set_option maxRecDepth 100000
set_option maxHeartbeats 1000000
/-! a list comprehension whose element may raise -/
namespace DL
open PySem PySem.Spec PyProof.Rows L2 Mv
section
variable {T : List (Addr × Str)} {K : PySem.W.Frag} {E : L2.St → XK} {A A' B : Addr → Prop} {P : Par} {Z Z' H H1 H2 H' : Hp} {σ σ' : L2.St} {s s1 s2 s' : SS} {vs us : List V} {rs qs : List R} {ts us' : List Addr} {Ed : EC} {v : V} {r : R}
def dLcEI (gd : DGd) (dt : DT) (de : DE) (vs : List Nat) (s0 : SS) (keep : SS → Prop) (xs : List D) (Q : List D → SS → Prop) (E : EC) : Prop :=
  ∃ I : List D → List D → SS → Prop, I xs [] (dwipe s0 vs) ∧
    (∀ x xs acc s, I (x :: xs) acc s → keep s ∧ gd x s (fun s2 => dt s2 (fun b s3 => if b = true then de s3 (fun r s4 => ∃ y s5, frz1 s4 r = some (y, s5) ∧ okW s5 vs ∧ sameO (dwipe s5 vs) (dwipe s0 vs) ∧ acc.length < sizeLine ∧ I xs (acc ++ [y]) (dwipe s5 vs)) (fun ex s4 => okW s4 vs ∧ sameO (dwipe s4 vs) (dwipe s0 vs) ∧ E ex (dwipe s4 vs))
      else okW s3 vs ∧ sameO (dwipe s3 vs) (dwipe s0 vs) ∧ I xs acc (dwipe s3 vs)) noX)) ∧
    ∀ acc s, I [] acc s → keep s ∧ Q acc s
def dLcE (wd : DI) (gd : DGd) (dt : DT) (de : DE) (vs : List Nat) : DE := fun s Q E => wd s (fun xs keep s1 => okW s1 vs ∧ sameO (dwipe s1 vs) s1 ∧ dLcEI gd dt de vs s1 keep xs (fun acc s2 => Q (.o (.lst acc)) s2) E) E
theorem lift_lcE {E1 : XK} {wi : TI} {g : TG} {tt : TT} {te : TE} {vs : List Nat} {wd : DI} {gd : DGd} {dt : DT} {de : DE} (hw : LiftI T K (fun _ => E1) wi wd) (hg : LiftGd T K g gd) (hin : TgIn g vs) (ht : LiftT T K E0' tt dt) (he : LiftE T K (fun _ => E1) te de) :
    LiftE T K (fun _ => E1) (tLcE wi g tt te vs) (dLcE wd gd dt de vs) := fun A P Z σ0 s H Qd Ed Q S h k x =>
  hw A P Z σ0 s H _ Ed _ S h (fun J H1 xs keep s1 p it ⟨hok, hso, I, h0, hs, hn⟩ dp hD => by
    have S1 := post_test p S
    have xz := S1.baseZ
    have Sb := S1.base
    have so0 : sameO (dwipe s1 vs) s1 := hso
    have hnA : ¬ Hid A σ0 s1 dp := S1.newH (NwD.of hD)
    -- the new list is hidden while it grows
    have key : ∀ (i : Nat) (acc : List V) (accD : List D) (s' : SS) (H' : Hp), StR T K (Pls A [dp]) P (res (Own σ0 s1) H1) (L2.wipe σ0 vs) s' H' → H' dp = some (.lst acc) → Rps K (res (Hid (Pls A [dp]) (L2.wipe σ0 vs) s') H') acc accD → sameO s' (dwipe s1 vs) → (∀ i ∈ vs, ∀ sv, s'[i]? = some sv → sv = .no) → I (xs.drop i) accD s' →
        (∃ (acc : List V) (accD : List D) (s' : SS), StR T K (Pls A [dp]) P (res (Own σ0 s1) H1) (L2.wipe σ0 vs) s' H' ∧ H' dp = some (.lst acc) ∧ Rps K (res (Hid (Pls A [dp]) (L2.wipe σ0 vs) s') H') acc accD ∧ sameO s' (dwipe s1 vs) ∧ (∀ i ∈ vs, ∀ sv, s'[i]? = some sv → sv = .no) ∧ I (xs.drop i) accD s') := fun i acc accD s' H' a b c d e f => ⟨acc, accD, s', a, b, c, d, e, f⟩
    refine ⟨fun i m H' => i + m = xs.length ∧ ∃ (acc : List V) (accD : List D) (s' : SS), StR T K (Pls A [dp]) P (res (Own σ0 s1) H1) (L2.wipe σ0 vs) s' H' ∧ H' dp = some (.lst acc) ∧ Rps K (res (Hid (Pls A [dp]) (L2.wipe σ0 vs) s') H') acc accD ∧ sameO s' (dwipe s1 vs) ∧ (∀ i ∈ vs, ∀ sv, s'[i]? = some sv → sv = .no) ∧ I (xs.drop i) accD s',
      ⟨xs.length, Nat.zero_add _, key 0 [] [] _ _ ?_ upd_same .nil rfl dwipe_no h0⟩, ?_⟩
    · refine (Sb.wiped hok).grow (Kp.of (same_upd hD)) (Same.tabs S1.tb (same_upd hD)) (fun a h => ?_) fun a h => .inl h
      rcases h with h | h
      · exact .inl h
      · rw [List.mem_singleton.mp h]
        exact .inr ⟨NwD.of hD, _, upd_same, fun ps z => by cases z⟩
    · rintro i m H' ⟨hm, acc, accD, s', S', hl, hr, hso', hno, hi⟩
      have su : Sup A (res (Own σ0 s1) H1) (Pls A [dp]) := fun a h => h.elim .inl fun h => .inr fun o e => by
        rw [List.mem_singleton.mp h] at e
        have e := (res_some e).2
        rw [hD] at e
        cases e
      by_cases hlt : i < xs.length
      · rw [List.drop_eq_getElem_cons hlt] at hi
        obtain ⟨hk, hgd⟩ := hs _ _ _ _ hi
        refine .inr ⟨it.goes _ i _ s' H' su hlt S' hk, fun H2 => ∃ (acc : List V) (accD : List D) (s' : SS), StR T K (Pls A [dp]) P (res (Own σ0 s1) H1) (L2.wipe σ0 vs) s' H2 ∧ H2 dp = some (.lst acc) ∧ Rps K (res (Hid (Pls A [dp]) (L2.wipe σ0 vs) s') H2) acc accD ∧ sameO s' (dwipe s1 vs) ∧ (∀ i ∈ vs, ∀ sv, s'[i]? = some sv → sv = .no) ∧ I (xs.drop (i + 1)) accD s', fun H2 q => ⟨m - 1, by omega, by omega, q⟩, fun y H2 hy => ?_⟩
        obtain ⟨es, d, e1, r1⟩ := it.yields _ i _ s' H' y H2 su hlt S' hk hy
        rw [List.getElem?_eq_getElem hlt] at e1
        cases e1
        have S2 : StR T K (Pls A [dp]) P (res (Own σ0 s1) H1) (L2.wipe σ0 vs) s' H2 := S'.grow (Kp.of es) (Same.tabs S'.tb es) (fun a h => .inl h) fun a h => h
        have hl2 := es _ _ hl
        have hr2 : Rps K (res (Hid (Pls A [dp]) (L2.wipe σ0 vs) s') H2) acc accD := hr.ext (res_ext (M := fun _ => False) (Kp.of es) (fun _ z => z.elim) fun b z => .inl z)
        -- from a state behind the element back to the next turn
        have done : ∀ (σ5 : L2.St) (s5 : SS) (H5 : Hp) (acc' : List V) (accD' : List D), StR T K (Pls A [dp]) P (res (Own σ0 s1) H1) σ5 s5 H5 → L2.wipe σ5 vs = L2.wipe σ0 vs → okW s5 vs → sameO (dwipe s5 vs) (dwipe s1 vs) → H5 dp = some (.lst acc') → Rps K (res (Hid (Pls A [dp]) σ5 s5) H5) acc' accD' → I (xs.drop (i + 1)) accD' (dwipe s5 vs) →
            ∃ (acc : List V) (accD : List D) (s' : SS), StR T K (Pls A [dp]) P (res (Own σ0 s1) H1) (L2.wipe σ0 vs) s' H5 ∧ H5 dp = some (.lst acc) ∧ Rps K (res (Hid (Pls A [dp]) (L2.wipe σ0 vs) s') H5) acc accD ∧ sameO s' (dwipe s1 vs) ∧ (∀ i ∈ vs, ∀ sv, s'[i]? = some sv → sv = .no) ∧ I (xs.drop (i + 1)) accD s' := fun σ5 s5 H5 acc' accD' S5 ew ok5 so5 hl5 hr5 hI => by
          have S6 := S5.wiped ok5
          rw [ew] at S6
          refine ⟨acc', accD', dwipe s5 vs, S6, hl5, hr5.ext (res_less fun b z => ?_), so5, dwipe_no, hI⟩
          rcases z with z | ⟨j, l, c, h1, h2⟩
          · exact .inl z
          · refine .inr ?_
            rw [← ew] at h1
            have n : j ∉ vs := fun z => by cases dwipe_no j z _ h2
            rw [wipe_at σ5 n] at h1
            rcases dwipe_at h2 with ⟨z, _⟩ | ⟨_, h3⟩
            · exact absurd z n
            · exact ⟨j, l, c, h1, h3⟩
        refine hin _ _ _ (fun σ2 H2 => L2.wipe σ2 vs = L2.wipe σ0 vs → tt σ2 H2 fun b H3 => if b = true then te σ2 H3 fun y H4 => ∃ acc, H4 dp = some (.lst acc) ∧ acc.length < sizeLine ∧ _ else _) _ ?_ fun σ2 H2 ew q => by
          rw [idem_wipe] at ew
          exact ⟨ew, q ew⟩
        have nodp : ∀ {σ : L2.St} {s : SS} {H : Hp}, StR T K (Pls A [dp]) P (res (Own σ0 s1) H1) σ s H → ¬ Own σ s dp := fun {σ s H} S ⟨i, l, c, h1, h2⟩ => by
          cases l with
          | true => exact S.loc i dp c h1 h2 (.inr List.mem_cons_self)
          | false =>
            have := (S1.pin i dp (S.par i dp c h1 h2)).1
            exact hnA (.inl this)
        refine hg (Pls A [dp]) P _ _ s' H2 y _ _ _ S2 r1 hgd fun σ3 s3 S3 sub3 q ew3 => ?_
        have hr3 : Rps K (res (Hid (Pls A [dp]) σ3 s3) H2) acc accD := hr2.ext (res_less fun b z => z.elim .inl fun z => .inr (sub3 b z))
        have keepP : ∀ {s3 s4 : SS} {H2 H3 : Hp} {us : List V} {rs : List R} {ts : List Addr}, StR T K (Pls A [dp]) P (res (Own σ0 s1) H1) σ3 s3 H2 → Post T K (Pls A [dp]) P (res (Own σ0 s1) H1) σ3 s3 s4 H2 H3 us rs ts → H2 dp = some (.lst acc) → Rps K (res (Hid (Pls A [dp]) σ3 s3) H2) acc accD →
            StR T K (Pls A [dp]) P (res (Own σ0 s1) H1) σ3 s4 H3 ∧ H3 dp = some (.lst acc) ∧ Rps K (res (Hid (Pls A [dp]) σ3 s4) H3) acc accD := fun {s3 s4 H2 H3 us rs ts} S3 p3 h1 h2 =>
          ⟨post_test (p3.drop S3.pa) S3, p3.kp dp _ (nodp S3) h1 (fun ps z => by cases z), h2.ext (res_ext p3.kp (fun _ z => .inr z) fun b z => .inl (z.elim .inl fun z => .inr (p3.shr b z)))⟩
        have xx : ∀ {σ : L2.St}, XOk T K (Pls A [dp]) P (res (Own σ0 s1) H1) σ noX (E0' σ) := fun {σ} cls d H' ex s' _ _ z => z
        refine ht (Pls A [dp]) P _ σ3 s3 H2 _ noX _ S3 q (fun b H3 s4 p3 q3 => ?_) xx
        obtain ⟨S4, hl4, hr4⟩ := keepP S3 p3 hl2 hr3
        cases b with
        | false =>
          obtain ⟨k1, k2, k3⟩ := q3
          exact done _ _ _ _ _ S4 ew3 k1 k2 hl4 hr4 k3
        | true =>
          refine he (Pls A [dp]) P _ σ3 s4 H3 _ _ _ S4 q3 (fun w H4 r ts s5 p4 ⟨yd, s6, e6, k1, k2, k3, k4⟩ => ?_) fun cls d HX ex s5 SX rX ⟨k1, k2, k3⟩ => by
            have S6 := SX.wiped k1
            rw [ew3] at S6
            have so1 : sameO (dwipe s5 vs) s1 := k2.trans hso
            refine x.less (A := A) (A' := A) (fun _ z => z) (fun i a e => (S.pin i a e).1) cls d HX ex (dwipe s5 vs) (((S6.unwipe dwipe_no).unbase xz).less (fun a z => .inl z) fun i a e => (S.pin i a e).1) (rX.ext (res_less fun b z => ?_)) k3
            rcases z with z | ⟨j, l, c, h1, h2⟩
            · exact .inl (.inl z)
            · refine .inr ?_
              have n : j ∉ vs := fun z => by cases dwipe_no j z _ h2
              rcases dwipe_at h2 with ⟨z, _⟩ | ⟨_, h3⟩
              · exact absurd z n
              · refine ⟨j, l, c, ?_, h3⟩
                have e3 : (L2.wipe σ3 vs)[j]? = (L2.wipe σ0 vs)[j]? := by rw [ew3]
                rw [wipe_at σ3 n, wipe_at σ0 n] at e3
                rw [e3]
                exact h1
          obtain ⟨S5, hl5, hr5⟩ := keepP S4 p4 hl4 hr4
          have efs : frzs [r] s5 = some ([yd], s6) := by simp only [frzs, e6]
          obtain ⟨p6, S6, r6⟩ := p4.frz S4 efs
          cases r6 with
          | cons r6 _ =>
            have hr6 : Rps K (res (Hid (Pls A [dp]) σ3 s6) H4) acc accD := hr4.ext (res_ext p6.kp (fun _ z => .inr z) fun b z => .inl (z.elim .inl fun z => .inr (p6.shr b z)))
            refine ⟨acc, hl5, by rw [hr6.length]; exact k3, ?_⟩
            have hdn : ∀ b o, b ≠ dp → H4 b = some o → L2.upd H4 dp (.lst (acc ++ [w])) b = some o := fun b o n e => by rw [upd_ne n]; exact e
            have kx : Kp (fun a => a = dp) H4 (L2.upd H4 dp (.lst (acc ++ [w]))) := fun b o n e _ => hdn b o n e
            have xt : LamX.ExtN (res (Hid (Pls A [dp]) σ3 s6) H4) (res (Hid (Pls A [dp]) σ3 s6) (L2.upd H4 dp (.lst (acc ++ [w])))) := res_ext kx (fun a z => .inl (.inr (by rw [z]; exact List.mem_cons_self))) fun b z => .inl z
            have S7 : StR T K (Pls A [dp]) P (res (Own σ0 s1) H1) σ3 s6 (L2.upd H4 dp (.lst (acc ++ [w]))) := by
              refine ⟨S6.len, fun i sv h => ?_, S6.inj, S6.loc, S6.zo, S6.par, S6.pin, fun a h => ?_, fun b o e t => ?_, fun p hp => ?_⟩
              · obtain ⟨ov, e1, q⟩ := S6.sl i sv h
                refine ⟨ov, e1, ?_⟩
                cases sv with
                | no => trivial
                | d y => obtain ⟨u, e, r⟩ := q; exact ⟨u, e, r.ext xt⟩
                | o l c =>
                  obtain ⟨a, rfl, r⟩ := q
                  have n : a ≠ dp := fun z => nodp S6 ⟨i, l, c, z ▸ e1, h⟩
                  exact ⟨a, rfl, r.ext xt fun o e _ => hdn a o n e⟩
              · by_cases n : a = dp
                · rw [n]
                  exact ⟨_, upd_same, fun ps z => by cases z⟩
                · obtain ⟨o, e, t⟩ := S6.aol a h
                  exact ⟨o, hdn a o n e, t⟩
              · have n : b ≠ dp := fun z => by
                  rw [z] at e
                  have := (res_some e).2
                  rw [hD] at this
                  cases this
                exact hdn b o n (S6.fr b o e t)
              · obtain ⟨ps, h1, h2, h3⟩ := S6.tb p hp
                have n1 : p.1 ≠ dp := fun z => by rw [z, hl5] at h1; cases h1
                refine ⟨ps, hdn _ _ n1 h1, h2, fun pos cv hc => ?_⟩
                obtain ⟨c, e1, e2⟩ := h3 pos cv hc
                refine ⟨c, e1, hdn _ _ (fun z => ?_) e2⟩
                rw [z, hl5] at e2
                cases e2
            exact done _ _ _ _ _ S7 ew3 k1 k2 upd_same ((hr6.ext xt).app (.cons (r6.ext xt) .nil)) k4
      · have hi' : i = xs.length := by omega
        subst hi'
        rw [List.drop_length] at hi
        obtain ⟨hk, q⟩ := hn _ _ hi
        refine .inl ⟨it.stops _ _ s' H' su S' hk, ?_⟩
        have Su : StR T K (Pls A [dp]) P Z σ0 s' H' := (S'.unwipe hno).unbase xz
        have so1 : sameO s' s1 := hso'.trans hso
        have kp1 : Kp (Own σ0 s1) H1 H' := fun b o n e t => S'.fr b o (by rw [res_eq n]; exact e) t
        have nd' : ¬ Own σ0 s' dp := fun z => hnA (.inr (so1.own z))
        have hwo : Own (L2.wipe σ0 vs) s' = Own σ0 s' := funext fun a => propext (own_wipe hno)
        have p5 : Post T K A P Z σ0 s1 s' H1 H' [.ref dp] [.o (.lst accD)] [dp] := by
          refine ⟨by simp, fun a h => by rw [List.mem_singleton.mp h]; exact NwD.of hD, fun a h => by rw [List.mem_singleton.mp h]; exact nd', Su, .o ⟨acc, hl, ?_⟩ .nil, kp1, fun a z => so1.own z, fun a z => Su.hid (.inr (so1.symm.own z))⟩
          rw [show Hid (Pls A [dp]) σ0 s' = Hid (Pls A [dp]) (L2.wipe σ0 vs) s' from funext fun a => by unfold Hid; rw [hwo]]
          exact hr
        exact k _ _ _ _ _ (p.then p5) q) x
end
end DL
set_option Elab.async false
set_option linter.all false
set_option maxRecDepth 100000
set_option maxHeartbeats 1000000
/-! data that compare, data in lists, index, one sign in a text -/
namespace DL
open PySem PySem.Spec PyProof.Rows L2 Mv
section
variable {T : List (Addr × Str)} {K : PySem.W.Frag}
def dep (n : Nat) (x : D) : Prop := ∃ p, py x = some p ∧ p.canLay0 = true ∧ p.depth ≤ n
theorem dep.le {n m : Nat} {x : D} (h : dep n x) (k : n ≤ m) : dep m x := by
  obtain ⟨p, e, c, d⟩ := h
  exact ⟨p, e, c, Nat.le_trans d k⟩
theorem dep_int (n : Nat) (i : Int) : dep n (.int i) := ⟨.int i, rfl, by simp [PyData.canLay0], by simp [PyData.depth]⟩
theorem dep_bl (n : Nat) (b : Bool) : dep n (.bl b) := ⟨.bool b, rfl, by simp [PyData.canLay0], by simp [PyData.depth]⟩
theorem dep_str (n : Nat) {z : Str} (h : PyData.canLay0 (.str z) = true) : dep n (.str z) := ⟨.str z, rfl, h, by simp [PyData.depth]⟩
theorem deps {n : Nat} : ∀ {xs : List D}, (∀ x ∈ xs, dep n x) → ∃ ps, pys xs = some ps ∧ PyData.canLayAll0 ps = true ∧ PyData.depthAll ps ≤ n
  | [], _ => ⟨[], rfl, rfl, Nat.zero_le _⟩
  | x :: xs, h => by
    obtain ⟨p, e, c, d⟩ := h x List.mem_cons_self
    obtain ⟨ps, e', c', d'⟩ := deps fun y hy => h y (List.mem_cons_of_mem _ hy)
    refine ⟨p :: ps, ?_, ?_, ?_⟩
    · show ((py x).bind fun p => (pys xs).map (p :: ·)) = _
      rw [e, e']
      rfl
    · simp [PyData.canLayAll0, c, c']
    · simp only [PyData.depthAll]
      omega
theorem dep_tup {n : Nat} {xs : List D} (h : ∀ x ∈ xs, dep n x) : dep (n + 1) (.tup xs) := by
  obtain ⟨ps, e, c, d⟩ := deps h
  refine ⟨.tuple ps, ?_, by simp only [PyData.canLay0]; exact c, by simp only [PyData.depth]; omega⟩
  show (pys xs).map _ = _
  rw [e]
  rfl
theorem dep_lst {n : Nat} {xs : List D} (h : ∀ x ∈ xs, dep n x) : dep (n + 1) (.lst xs) := by
  obtain ⟨ps, e, c, d⟩ := deps h
  refine ⟨.list ps, ?_, by simp only [PyData.canLay0]; exact c, by simp only [PyData.depth]; omega⟩
  show (pys xs).map _ = _
  rw [e]
  rfl
theorem dep.ok {n : Nat} {x : D} (h : dep n x) (hn : n ≤ 64 := by decide) : okD x := by
  obtain ⟨p, e, c, d⟩ := h
  refine ⟨p, e, ?_⟩
  show (PyData.canLay0 p && decide (PyData.depth p ≤ 64)) = true
  rw [Bool.and_eq_true]
  exact ⟨c, decide_eq_true (by omega)⟩
theorem dep.self {n : Nat} {x : D} (h : dep n x) : eqB x x = true := by
  obtain ⟨p, e, c, d⟩ := h
  unfold eqB
  rw [e]
  exact SeqAt.eqv_refl _ c
theorem eqB_cons {x y : D} {xs ys : List D} (hx : ∃ p, py x = some p) (hy : ∃ p, py y = some p) (hxs : ∃ p, pys xs = some p) (hys : ∃ p, pys ys = some p) : eqB (.tup (x :: xs)) (.tup (y :: ys)) = (eqB x y && eqB (.tup xs) (.tup ys)) := by
  obtain ⟨a, ha⟩ := hx
  obtain ⟨b, hb⟩ := hy
  obtain ⟨as, has⟩ := hxs
  obtain ⟨bs, hbs⟩ := hys
  have e1 : py (.tup (x :: xs)) = some (.tuple (a :: as)) := by
    show ((py x).bind fun p => (pys xs).map (p :: ·)).map _ = _
    rw [ha, has]; rfl
  have e2 : py (.tup (y :: ys)) = some (.tuple (b :: bs)) := by
    show ((py y).bind fun p => (pys ys).map (p :: ·)).map _ = _
    rw [hb, hbs]; rfl
  have e3 : py (.tup xs) = some (.tuple as) := by
    show (pys xs).map _ = _
    rw [has]; rfl
  have e4 : py (.tup ys) = some (.tuple bs) := by
    show (pys ys).map _ = _
    rw [hbs]; rfl
  unfold eqB
  rw [e1, e2, e3, e4, ha, hb]
  rfl
theorem xEqD_self {n : Nat} {x : D} {Q : R → Prop} (h : dep n x) (hn : n ≤ 64) (q : Q (.d (.bl true))) : xEqD x x Q := ⟨h.ok hn, h.ok hn, by rw [h.self]; exact q⟩
theorem xNeD_self {n : Nat} {x : D} {Q : R → Prop} (h : dep n x) (hn : n ≤ 64) (q : Q (.d (.bl false))) : xNeD x x Q := ⟨h.ok hn, h.ok hn, by rw [h.self]; exact q⟩
/-! x in a list, by data -/
def xInD (neg : Bool) : D2 := fun x y Q => okD x ∧ okD y ∧ ∃ xs, y = .lst xs ∧ Q (.d (.bl (if neg then !(xs.any fun z => eqB z x) else xs.any fun z => eqB z x)))
theorem any_eqB {x : D} {p : PyData} (e : py x = some p) : ∀ {xs : List D} {ps : List PyData}, pys xs = some ps → (ps.any fun z => PyData.eqv z p) = xs.any fun z => eqB z x
  | [], ps, h => by
    have h : some [] = some ps := h
    cases h
    rfl
  | y :: ys, ps, h => by
    have h : ((py y).bind fun q => (pys ys).map (q :: ·)) = some ps := h
    cases hy : py y with
    | none => rw [hy] at h; cases h
    | some q =>
      rw [hy, Option.bind_some] at h
      cases hz : pys ys with
      | none => rw [hz] at h; cases h
      | some qs =>
        rw [hz] at h
        cases h
        rw [List.any_cons, List.any_cons, any_eqB e hz]
        have : eqB y x = PyData.eqv q p := by unfold eqB; rw [hy, e]
        rw [this]
theorem okD_lst_inv {xs : List D} {p : PyData} (e : py (.lst xs) = some p) : ∃ ps, pys xs = some ps ∧ p = .list ps := by
  have e : (pys xs).map PyData.list = some p := e
  cases h : pys xs with
  | none => rw [h] at e; cases e
  | some ps => rw [h] at e; cases e; exact ⟨ps, rfl, rfl⟩
theorem lr_inD : LR2 K (rInD K) (xInD false) := fun hid H x y dx dy Qd Q _ hx hy ⟨⟨p, e1, s1⟩, ⟨q, e2, s2⟩, xs, e3, h⟩ k => by
  subst e3
  obtain ⟨ps, e4, rfl⟩ := okD_lst_inv e2
  refine ⟨p, ps, hx.dp e1, hy.dp e2, s1, s2, ?_⟩
  rw [any_eqB e1 e4]
  exact k _ _ _ nsc h
theorem lr_notInD : LR2 K (rNotInD K) (xInD true) := fun hid H x y dx dy Qd Q _ hx hy ⟨⟨p, e1, s1⟩, ⟨q, e2, s2⟩, xs, e3, h⟩ k => by
  subst e3
  obtain ⟨ps, e4, rfl⟩ := okD_lst_inv e2
  refine ⟨p, ps, hx.dp e1, hy.dp e2, s1, s2, ?_⟩
  rw [any_eqB e1 e4]
  exact k _ _ _ nsc h
/-! one text in another -/
def inStr (i j : Str) : Bool := !(Builtin.Str.occurrences j i 0 j.length 1).isEmpty
def xInS : D2 := fun x y Q => ∃ i j, x = .str i ∧ y = .str j ∧ Q (.d (.bl (inStr i j)))
def rInStr : R2 := fun x y H Q => ∃ i j, x = .str i ∧ y = .str j ∧ Q (.bl (!(Builtin.Str.occurrences j i 0 j.length 1).isEmpty)) H
theorem lr_inS : LR2 K rInStr xInS := fun hid H x y dx dy Qd Q _ hx hy ⟨i, j, e1, e2, q⟩ k => by
  subst e1 e2
  exact ⟨i, j, hx.sc, hy.sc, k _ _ _ nsc q⟩
/-! index -/
theorem upd_self {H : Hp} {a : Addr} {o : HO} (h : H a = some o) : upd H a o = H := funext fun b => by
  by_cases n : b = a
  · rw [n, upd_same, h]
  · rw [upd_ne n]
def mIndex : DM := fun c ds Q => ∃ (ns : List Int) (n : Int) (j : Nat), c = .lst (ns.map D.int) ∧ ds = [.int n] ∧ ns[j]? = some n ∧ (∀ m < j, ns[m]? ≠ some n) ∧ Q (.int (j : Nat)) c
theorem lm_index : LRM K (rIndex K) mIndex := fun hid H a c vs ds Qd Q ha hc hv ⟨ns, n, j, e1, e2, e3, e4, q⟩ k => by
  subst e1 e2
  obtain ⟨ws, h1, h2⟩ := id hc
  have ew := rps_ints h2
  subst ew
  have ev : vs = [.int n] := by
    cases hv with
    | cons h r => cases r; cases h; rfl
  subst ev
  have key := k (.int (j : Nat)) (.lst (ns.map V.int)) (.int (j : Nat)) (.lst (ns.map D.int)) (by rw [upd_self h1]; exact hc) (fun ps z => by cases z) (.sc _) q
  rw [upd_self h1] at key
  refine ⟨a, ns.map V.int, .int n, j, .int n, rfl, rfl, SqL.of h1, rfl, ?_, by rw [List.getElem?_map, e3]; rfl, ?_, fun m z hm hz => ?_, key⟩
  · rw [List.all_eq_true]
    intro v hv
    obtain ⟨i, _, rfl⟩ := List.mem_map.mp hv
    rfl
  · simp [eqV]
  · rw [List.getElem?_map] at hz
    cases h : ns[m]? with
    | none => rw [h] at hz; cases hz
    | some i =>
      rw [h] at hz
      cases hz
      have : i ≠ n := fun z => e4 m hm (by rw [h, z])
      simp [eqV, this]
end
end DL
set_option Elab.async false
set_option linter.all false
set_option maxRecDepth 100000
set_option maxHeartbeats 1000000
/-! evaluation from the outside: each row says what a reading comes to once its head is known -/
namespace DL
open PySem PySem.Spec PyProof.Rows L2 Mv
section
variable {K : PySem.W.Frag} {E : EC} {Dd : DEnds} {s s' : SS}
theorem ev1 {α : Type} {e : Option α} {p : α → Prop} : (∃ x, e = some x ∧ p x) = (match e with | some x => p x | none => False) := by
  cases e with
  | none => simp
  | some x => simp
theorem ev2 {α β : Type} {e : Option (α × β)} {p : α → β → Prop} : (∃ x y, e = some (x, y) ∧ p x y) = (match e with | some (x, y) => p x y | none => False) := by
  cases e with
  | none => simp
  | some x => exact propext ⟨fun ⟨a, b, e, q⟩ => by cases e; exact q, fun q => ⟨_, _, rfl, q⟩⟩
theorem ev3 {α β γ : Type} {e : Option (α × β × γ)} {p : α → β → γ → Prop} : (∃ x y z, e = some (x, y, z) ∧ p x y z) = (match e with | some (x, y, z) => p x y z | none => False) := by
  cases e with
  | none => simp
  | some x => exact propext ⟨fun ⟨a, b, c, e, q⟩ => by cases e; exact q, fun q => ⟨_, _, _, rfl, q⟩⟩
theorem evv {α β : Type} {e : Option α} {f : α → Option β} {p : α → β → Prop} : (∃ x y, e = some x ∧ f x = some y ∧ p x y) = (match e with | some x => (match f x with | some y => p x y | none => False) | none => False) := by
  cases e with
  | none => simp
  | some x => cases h : f x <;> simp [h]
theorem evT {b : Bool} {p : Bool → Prop} : (∃ k, R.d (.bl b) = .d (.bl k) ∧ p k) = p b := by simp
theorem evC {C : Addr} {e : Option D} {p : List (Str × D) → Prop} : (∃ gs, e = some (.ins C gs) ∧ p gs) = (match e with | some (.ins C' gs) => C' = C ∧ p gs | _ => False) := by
  cases e with
  | none => simp
  | some x =>
    cases x with
    | ins C' gs => exact propext ⟨fun ⟨a, e, q⟩ => by cases e; exact ⟨rfl, q⟩, fun ⟨e, q⟩ => ⟨gs, by rw [e], q⟩⟩
    | _ => simp
theorem evC0 {C : Addr} {e : Option D} {p : List (Str × D) → Prop} : (∃ gs, e = some (.ins C gs) ∧ p gs) = (match e with | some (.ins C' gs) => C' = C ∧ p gs | _ => False) := evC
theorem evF {e : Option D} {q : Addr → Prop} {f : Str} {p : D → Prop} : (∃ C gs y, e = some (.ins C gs) ∧ q C ∧ gs.lookup f = some y ∧ p y) = (match e with | some (.ins C gs) => q C ∧ (match gs.lookup f with | some y => p y | none => False) | _ => False) := by
  cases e with
  | none => simp
  | some x =>
    cases x with
    | ins C gs =>
      refine propext ⟨fun ⟨a, b, y, e, h, e2, q⟩ => ?_, fun ⟨h, q⟩ => ?_⟩
      · cases e
        refine ⟨h, ?_⟩
        rw [e2]
        exact q
      · cases h2 : gs.lookup f with
        | none => rw [h2] at q; exact q.elim
        | some y => rw [h2] at q; exact ⟨C, gs, y, rfl, h, h2, q⟩
    | _ => simp
theorem evStr {e : Option D} {p : Str → Prop} : (∃ z, e = some (.str z) ∧ p z) = (match e with | some (.sc (.str z)) => p z | _ => False) := by
  cases e with
  | none => simp
  | some x =>
    cases x with
    | sc v => cases v <;> simp
    | _ => simp
variable {Q : R → Prop}
theorem xI0_e {g : Int → Int → V} {i j : Int} : xI0 g (.int i) (.int j) Q = Q (.d (.sc (g i j))) := by simp [xI0]
theorem xI_e {C : Int → Int → Prop} {g : Int → Int → V} {i j : Int} : xI C g (.int i) (.int j) Q = (C i j ∧ Q (.d (.sc (g i j)))) := by simp [xI]
theorem xU_e {g : Int → V} {i : Int} : xU g (.int i) Q = Q (.d (.sc (g i))) := by simp [xU]
theorem xEqS_e {u v : V} : xEqS (.sc u) (.sc v) Q = (scal u v = true ∧ Q (.d (.bl (decide (u = v))))) := by simp [xEqS]
theorem xNeS_e {u v : V} : xNeS (.sc u) (.sc v) Q = (scal u v = true ∧ Q (.d (.bl (!decide (u = v))))) := by simp [xNeS]
theorem scal_i {i j : Int} : scal (.int i) (.int j) = true := rfl
theorem scal_s {i j : Str} : scal (.str i) (.str j) = true := rfl
theorem scal_b {i j : Bool} : scal (.bl i) (.bl j) = true := rfl
theorem xIxL_e {xs : List D} {i : Int} : xIxL (.lst xs) (.int i) Q = (match atI xs i with | some z => Q (.d z) | none => False) := by
  cases h : atI xs i <;> simp [xIxL, h]
theorem xIxT_e {xs : List D} {i : Int} : xIxT (.tup xs) (.int i) Q = (match atI xs i with | some z => Q (.d z) | none => False) := by
  cases h : atI xs i <;> simp [xIxT, h]
theorem atI_0 {α : Type} {x : α} {r : List α} : atI (x :: r) 0 = some x := by
  have : (0 : Int) < (r.length : Int) + 1 := by omega
  simp [atI, ixN, this]
theorem atI_1 {α : Type} {x y : α} {r : List α} : atI (x :: y :: r) 1 = some y := by
  have : (1 : Int) < (r.length : Int) + 1 + 1 := by omega
  simp [atI, ixN, this]
theorem atI_2 {α : Type} {x y z : α} {r : List α} : atI (x :: y :: z :: r) 2 = some z := by
  have : (2 : Int) < (r.length : Int) + 1 + 1 + 1 := by omega
  simp [atI, ixN, this]
theorem xSlL_e {xs : List D} {lo hi : Option Int} : xSlL (.lst xs) lo hi Q = Q (.o (.lst (cutD xs lo hi))) := by simp [xSlL, itsL]
theorem xSlT_e {xs : List D} {lo hi : Option Int} : xSlT (.tup xs) lo hi Q = Q (.d (.tup (cutD xs lo hi))) := by simp [xSlT]
theorem xLen_l {xs : List D} : xLen [.lst xs] Q = Q (.d (.int (xs.length : Nat))) := by simp [xLen, itsD]
theorem xLen_t {xs : List D} : xLen [.tup xs] Q = Q (.d (.int (xs.length : Nat))) := by simp [xLen, itsD]
theorem xLenS_e {z : Str} : xLenS [.str z] Q = (z.length ≤ sizeLine ∧ Q (.d (.int (z.length : Nat)))) := by simp [xLenS]
theorem xList_l {xs : List D} : xList [.lst xs] Q = Q (.o (.lst xs)) := by simp [xList, itsD]
theorem xList_t {xs : List D} : xList [.tup xs] Q = Q (.o (.lst xs)) := by simp [xList, itsD]
theorem xTuple_l {xs : List D} : xTuple [.lst xs] Q = Q (.d (.tup xs)) := by simp [xTuple, itsD]
theorem xTuple_t {xs : List D} : xTuple [.tup xs] Q = Q (.d (.tup xs)) := by simp [xTuple, itsD]
theorem xInt_i {i : Int} : xInt [.int i] Q = Q (.d (.int i)) := by simp [xInt]
theorem xInt_b {b : Bool} : xInt [.bl b] Q = Q (.d (.int (if b then 1 else 0))) := by simp [xInt]
theorem xMin2_e {i j : Int} : xMin2 [.int i, .int j] Q = Q (.d (.int (if j < i then j else i))) := by
  unfold xMin2
  exact propext ⟨fun ⟨a, b, e, q⟩ => by cases e; exact q, fun q => ⟨i, j, rfl, q⟩⟩
theorem xMax2_e {i j : Int} : xMax2 [.int i, .int j] Q = Q (.d (.int (if j > i then j else i))) := by
  unfold xMax2
  exact propext ⟨fun ⟨a, b, e, q⟩ => by cases e; exact q, fun q => ⟨i, j, rfl, q⟩⟩
theorem xCat_e {xs ys : List D} : xCat (.lst xs) (.lst ys) Q = (xs.length + ys.length ≤ sizeLine ∧ Q (.o (.lst (xs ++ ys)))) := by simp [xCat]
theorem xCatT_e {xs ys : List D} : xCatT (.tup xs) (.tup ys) Q = (xs.length + ys.length ≤ sizeLine ∧ Q (.d (.tup (xs ++ ys)))) := by simp [xCatT]
theorem xInS_e {i j : Str} : xInS (.str i) (.str j) Q = Q (.d (.bl (inStr i j))) := by simp [xInS]
theorem xInD_e {x : D} {xs : List D} : xInD false x (.lst xs) Q = (okD x ∧ okD (.lst xs) ∧ Q (.d (.bl (xs.any fun z => eqB z x)))) := by simp [xInD]
variable {M : D → CO → Prop}
theorem mAppend_e {xs : List D} {y : D} : mAppend (.lst xs) [y] M = (xs.length < sizeLine ∧ M .non (.lst (xs ++ [y]))) := by simp [mAppend]
theorem mReverse_e {xs : List D} : mReverse (.lst xs) [] M = M .non (.lst xs.reverse) := by simp [mReverse]
theorem mInsert_e {xs : List D} {i : Int} {y : D} : mInsert (.lst xs) [.int i, y] M = (xs.length < sizeLine ∧ (0 ≤ i ∧ i < 2 ^ 63) ∧ M .non (.lst (xs.take i.toNat ++ [y] ++ xs.drop i.toNat))) := by
  unfold mInsert
  exact propext ⟨fun ⟨a, b, c, e1, e2, q⟩ => by cases e1; cases e2; exact q, fun q => ⟨xs, i, y, rfl, rfl, q⟩⟩
theorem mExtend_e {xs ys : List D} : mExtend (.lst xs) [.lst ys] M = (xs.length + ys.length ≤ sizeLine ∧ M .non (.lst (xs ++ ys))) := by simp [mExtend]
theorem mPopAt_e {xs : List D} {i : Int} : mPopAt (.lst xs) [.int i] M = ((-(2 ^ 63) ≤ i ∧ i < 2 ^ 63) ∧ ∃ k y, seqIndex? i xs.length = some k ∧ xs[k]? = some y ∧ M y (.lst (xs.eraseIdx k))) := by
  unfold mPopAt
  exact propext ⟨fun ⟨a, b, k, y, e1, e2, h, q⟩ => by cases e1; cases e2; exact ⟨h, k, y, q⟩, fun ⟨h, k, y, q⟩ => ⟨xs, i, k, y, rfl, rfl, h, q⟩⟩
variable {N : SS → Prop}
theorem dgTup_e {n : Nat} {u : DGs} {r : R} : dgTup n u r s N = (match vw s r with | some (.tup xs) => xs.length = n ∧ u xs s N | _ => False) := by
  unfold dgTup
  cases vw s r with
  | none => simp
  | some x => cases x <;> simp
theorem ddTup_e {n : Nat} {u : DGs} {xs : List D} : ddTup n u (.tup xs) s N = (xs.length = n ∧ u xs s N) := by simp [ddTup]
theorem dgCons_e {g : DGd} {u : DGs} {x : D} {ys : List D} : dgCons g u (x :: ys) s N = g x s (fun s1 => u ys s1 N) := by
  unfold dgCons
  exact propext ⟨fun ⟨a, b, e, q⟩ => by cases e; exact q, fun q => ⟨x, ys, rfl, q⟩⟩
theorem dgNil_e : dgNil [] s N = N s := by simp [dgNil]
theorem dgName_d {i : Nat} {x : D} : dgName i (.d x) s N = (okSet s i ∧ N (s.set i (.d x))) := rfl
theorem dgName_o {i : Nat} {c : CO} : dgName i (.o c) s N = (okSet s i ∧ N (s.set i (.o true c))) := rfl
theorem dgName_b {i j : Nat} : dgName i (.bw j) s N = (match frz1 s (.bw j) with | some (x, s') => okSet s' i ∧ N (s'.set i (.d x)) | none => False) := by
  show (∃ x s', frz1 s (.bw j) = some (x, s') ∧ okSet s' i ∧ N (s'.set i (.d x))) = _
  cases h : frz1 s (.bw j) with
  | none => simp
  | some p => exact propext ⟨fun ⟨_, _, e, q⟩ => by cases e; exact q, fun q => ⟨_, _, rfl, q⟩⟩
variable {QQ : R → SS → Prop}
theorem dBM_e {Ty : String} {md : DM} {d0 : DE} {da : DA} : dBM Ty md d0 da s QQ E = d0 s (fun r0 s0 => match r0 with
    | .bw i => (match s0[i]? with
      | some (.o l c) => tyC Ty c ∧ da s0 (fun rs s1 => match frzs rs s1 with
        | some (xs, s2) => (match s2[i]? with
          | some (.o l c) => md c xs (fun x c' => QQ (.d x) (s2.set i (.o l c')))
          | _ => False)
        | none => False) E
      | _ => False)
    | _ => False) E := by
  unfold dBM
  congr 1
  funext r0 s0
  cases r0 with
  | bw i =>
    simp only [R.bw.injEq, exists_eq_left']
    cases h : s0[i]? with
    | none => simp
    | some sv =>
      cases sv with
      | o l c =>
        have e1 : (∃ l' c', some (SV.o l c) = some (.o l' c') ∧ tyC Ty c') = tyC Ty c := propext ⟨fun ⟨_, _, e, q⟩ => by cases e; exact q, fun q => ⟨_, _, rfl, q⟩⟩
        rw [e1]
        refine congrArg (tyC Ty c ∧ ·) ?_
        congr 1
        funext rs s1
        rw [ev2]
        cases h2 : frzs rs s1 with
        | none => rfl
        | some p =>
          obtain ⟨xs, s2⟩ := p
          refine propext ⟨fun ⟨l2, c2, e, q⟩ => ?_, fun q => ?_⟩
          · simp only [e]
            exact q
          · simp only at q
            split at q
            · rename_i l2 c2 e
              exact ⟨l2, c2, e, q⟩
            · exact q.elim
      | _ => simp
  | _ => simp
theorem dSetL_e {do_ di : DE} {r : R} : dSetL do_ di r s N = (match frz1 s r with
    | some (x, s0) => do_ s0 (fun r0 s1 => di s1 (fun ri s2 => match r0 with
      | .bw i => (match ri with
        | .d (.sc (.int k)) => (match s2[i]? with
          | some (.o l (.lst xs)) => (match ixN xs.length k with
            | some j => N (s2.set i (.o l (.lst (xs.set j x))))
            | none => False)
          | _ => False)
        | _ => False)
      | _ => False) noX) noX
    | none => False) := by
  unfold dSetL
  cases h : frz1 s r with
  | none => simp
  | some p =>
    obtain ⟨x, s0⟩ := p
    rw [ev2]
    show do_ s0 _ noX = do_ s0 _ noX
    congr 1
    funext r0 s1
    congr 1
    funext ri s2
    cases r0 with
    | bw i =>
      cases ri with
      | d y =>
        cases y with
        | sc v =>
          cases v with
          | int k =>
            refine propext ⟨fun ⟨i', l, xs, k', j, e1, e2, e3, e4, q⟩ => ?_, fun q => ?_⟩
            · cases e1
              cases e2
              simp only [e3, e4]
              exact q
            · simp only at q
              split at q
              · rename_i l xs e3
                split at q
                · rename_i j e4
                  exact ⟨i, l, xs, k, j, rfl, rfl, e3, e4, q⟩
                · exact q.elim
              · exact q.elim
          | _ => simp
        | _ => simp
      | _ => simp
    | _ => simp
theorem dSFld_e {f : Str} {d0 dv : DE} : dSFld K f d0 dv Dd E s = dv s (fun r s1 => match frz1 s1 r with
    | some (x, s2) => d0 s2 (fun r0 s3 => match r0 with
      | .bw i => (match s3[i]? with
        | some (.o l (.ins C gs)) => (Cls K C ∧ NoAttr K C f) ∧ gs.length < 1000 ∧ Dd.nx (s3.set i (.o l (.ins C (putD f x gs))))
        | _ => False)
      | _ => False) E
    | none => False) E := by
  unfold dSFld
  congr 1
  funext r s1
  cases h : frz1 s1 r with
  | none => simp
  | some p =>
    obtain ⟨x, s2⟩ := p
    rw [ev2]
    show d0 s2 _ E = d0 s2 _ E
    congr 1
    funext r0 s3
    cases r0 with
    | bw i =>
      refine propext ⟨fun ⟨i', l, C, gs, e1, e2, q⟩ => ?_, fun q => ?_⟩
      · cases e1
        simp only [e2]
        exact q
      · simp only at q
        split at q
        · rename_i l C gs e2
          exact ⟨i, l, C, gs, rfl, e2, q⟩
        · exact q.elim
    | _ => simp
variable {RI : List D → (SS → Prop) → SS → Prop}
theorem dRng1_e {da : DA} : dRng1 da s RI E = da s (fun rs s1 => match rs with | [.d (.sc (.int j))] => -(2 ^ 62) ≤ j ∧ j < 2 ^ 62 ∧ RI (rngL 0 j.toNat) kT s1 | _ => False) E := by
  unfold dRng1
  congr 1
  funext rs s1
  refine propext ⟨fun ⟨j, e, q⟩ => by subst e; exact q, fun h => ?_⟩
  split at h
  · exact ⟨_, rfl, h⟩
  · exact h.elim
theorem dRng2_e {da : DA} : dRng2 da s RI E = da s (fun rs s1 => match rs with | [.d (.sc (.int i)), .d (.sc (.int j))] => (-(2 ^ 62) ≤ i ∧ i < 2 ^ 62 ∧ -(2 ^ 62) ≤ j ∧ j < 2 ^ 62) ∧ RI (rngL i (j - i).toNat) kT s1 | _ => False) E := by
  unfold dRng2
  congr 1
  funext rs s1
  refine propext ⟨fun ⟨i, j, e, q⟩ => by subst e; exact q, fun h => ?_⟩
  split at h
  · exact ⟨_, _, rfl, h⟩
  · exact h.elim
theorem look1 {f : Str} {y : D} {r : List (Str × D)} : List.lookup f ((f, y) :: r) = some y := by simp [List.lookup_cons]
section
variable {T : List (Addr × Str)}
theorem lift_call0 {E : XK} {spd : DSp} {ta : TA} {da : DA} (ha : LiftA T K (fun _ => E) ta da) : LiftE T K (fun _ => E) (tCall (liftSp T K spd) [] E ta) (dCall spd [] da) := lift_call ha fun _ => .nil
theorem lift_callS0 {E : L2.St → XK} {spd : DSp} {ta : TA} {da : DA} (ha : LiftA T K E ta da) : LiftE T K E (tCallSD (liftSp T K spd) [] E ta) (dCall spd [] da) := lift_callS ha fun _ => .nil
theorem lift_meth0 {E : XK} {C : Addr} {m : Str} {spd : DSp} {t0 : TE} {d0 : DE} {ta : TA} {da : DA} (h0 : LiftE T K (fun _ => E) t0 d0) (ha : LiftA T K (fun _ => E) ta da) : LiftE T K (fun _ => E) (tMeth C m (liftSp T K spd) [] E t0 ta) (dMeth C m spd [] d0 da) := lift_meth h0 ha fun _ => .nil
theorem lift_make0 {E : XK} {C : Addr} {spd : DSp} {ta : TA} {da : DA} (ha : LiftA T K (fun _ => E) ta da) : LiftE T K (fun _ => E) (tMake C (liftSp T K spd) [] E ta) (dMake C spd [] da) := lift_make ha fun _ => .nil
end
theorem sl0 : (0 ≤ sizeLine) = True := by simp
theorem sl1 : (1 ≤ sizeLine) = True := by rw [sizeLine_eq]; simp
theorem sl2 : (2 ≤ sizeLine) = True := by rw [sizeLine_eq]; simp
theorem sl3 : (3 ≤ sizeLine) = True := by rw [sizeLine_eq]; simp
theorem sl4 : (4 ≤ sizeLine) = True := by rw [sizeLine_eq]; simp
theorem sl5 : (5 ≤ sizeLine) = True := by rw [sizeLine_eq]; simp
theorem sl6 : (6 ≤ sizeLine) = True := by rw [sizeLine_eq]; simp
theorem sl8 : (8 ≤ sizeLine) = True := by rw [sizeLine_eq]; simp
theorem sl10 : (10 ≤ sizeLine) = True := by rw [sizeLine_eq]; simp
theorem sll0 : (0 < sizeLine) = True := by rw [sizeLine_eq]; simp
end
theorem xAll_f {α : Type} {xs : List α} {f : α → Bool} {Q : R → Prop} : xAll [.lst (xs.map fun o => D.bl (f o))] Q = Q (.d (.bl (xs.all f))) := by
  rw [show (xs.map fun o => D.bl (f o)) = (xs.map f).map D.bl by rw [List.map_map]; rfl, propext xAll_bls, List.all_map]
  rfl
theorem xAny_f {α : Type} {xs : List α} {f : α → Bool} {Q : R → Prop} : xAny [.lst (xs.map fun o => D.bl (f o))] Q = Q (.d (.bl (xs.any f))) := by
  rw [show (xs.map fun o => D.bl (f o)) = (xs.map f).map D.bl by rw [List.map_map]; rfl, propext xAny_bls, List.any_map]
  rfl
theorem xIsi_ty {K : PySem.W.Frag} {x : D} {a b : String} {r : Bool} {Q : R → Prop} (h : typD x = some (.type a)) (e : kitB a b = some r) (q : Q (.d (.bl r))) : xIsi K [x, .sc (.ty b)] Q :=
  ⟨x, .ty b, .type b, r, rfl, .ty b, ⟨_, .inl h, kit_ty e⟩, q⟩
/-- a slot that may be stored into -/
def fr : SV → Prop
  | .o false _ => False
  | _ => True
theorem fr_no : fr .no = True := rfl
theorem fr_d {x : D} : fr (.d x) = True := rfl
theorem fr_t {c : CO} : fr (.o true c) = True := rfl
theorem fr_f {c : CO} : fr (.o false c) = False := rfl
theorem okS0 {x : SV} {s : SS} : okSet (x :: s) 0 = fr x := by
  unfold okSet fr
  rw [List.getElem?_cons_zero]
  cases x with
  | o l c => cases l <;> rfl
  | _ => rfl
theorem okSs {x : SV} {s : SS} {i : Nat} : okSet (x :: s) (i + 1) = okSet s i := by
  unfold okSet
  rw [List.getElem?_cons_succ]
theorem cn_no : cn .no = .no := rfl
theorem cn_d {x : D} : cn (.d x) = .no := rfl
theorem cn_t {c : CO} : cn (.o true c) = .no := rfl
theorem cn_f {c : CO} : cn (.o false c) = .o false c := rfl
end DL
set_option Elab.async false
set_option linter.all false
set_option maxRecDepth 100000
set_option maxHeartbeats 1000000
namespace DL
open PySem PySem.Spec PyProof.Rows L2 Mv
/-- a comprehension whose element may raise ex0 -/
theorem lcE_map {α : Type} {gd : DGd} {de : DE} {vs : List Nat} {s0 : SS} {keep : SS → Prop} {Q : List D → SS → Prop} {E : EC} (ex0 : EX) (xs : List α) (enc : α → D) (okp : α → Bool) (g : α → D) (hk : keep (dwipe s0 vs)) (hl : xs.length ≤ 4000)
    (step : ∀ x ∈ xs, ∀ (T1 : D → SS → Prop) (TE : EC), (okp x = true → ∀ s5, okW s5 vs → dwipe s5 vs = dwipe s0 vs → T1 (g x) s5) → (okp x = false → ∀ s5, okW s5 vs → dwipe s5 vs = dwipe s0 vs → TE ex0 s5) →
      gd (enc x) (dwipe s0 vs) (fun s2 => de s2 (fun r s4 => ∃ y s5, frz1 s4 r = some (y, s5) ∧ T1 y s5) TE))
    (h : xs.all okp = true → Q (xs.map g) (dwipe s0 vs)) (hx : xs.all okp = false → E ex0 (dwipe s0 vs)) : dLcEI gd dYes de vs s0 keep (xs.map enc) Q E := by
  refine ⟨fun l acc s => ∃ done rest, xs = done ++ rest ∧ l = rest.map enc ∧ acc = done.map g ∧ done.all okp = true ∧ s = dwipe s0 vs, ⟨[], xs, rfl, rfl, rfl, rfl, rfl⟩, ?_, ?_⟩
  · rintro x l acc s ⟨done, rest, e1, e2, rfl, hd, rfl⟩
    cases rest with
    | nil => cases e2
    | cons y rest =>
      cases e2
      refine ⟨hk, ?_⟩
      simp only [dYes, if_true]
      refine step y (by rw [e1]; simp) (fun z s5 => okW s5 vs ∧ sameO (dwipe s5 vs) (dwipe s0 vs) ∧ (done.map g).length < sizeLine ∧ ∃ done' rest', xs = done' ++ rest' ∧ rest.map enc = rest'.map enc ∧ done.map g ++ [z] = done'.map g ∧ done'.all okp = true ∧ dwipe s5 vs = dwipe s0 vs)
        _ (fun hp s5 k1 k2 => ⟨k1, by rw [k2]; rfl, ?_, done ++ [y], rest, by rw [e1]; simp, rfl, by simp, by rw [List.all_append, hd]; simp [hp], k2⟩) fun hp s5 k1 k2 => ⟨k1, by rw [k2]; rfl, ?_⟩
      · rw [List.length_map]
        have h2 := congrArg List.length e1
        rw [List.length_append] at h2
        exact small4000 (by omega)
      · rw [k2]
        refine hx ?_
        rw [e1, List.all_append, List.all_cons, hp, Bool.false_and, Bool.and_false]
  · rintro acc s ⟨done, rest, e1, e2, rfl, hd, rfl⟩
    cases rest with
    | nil =>
      rw [List.append_nil] at e1
      rw [← e1]
      exact ⟨hk, h (by rw [e1]; exact hd)⟩
    | cons y rest => cases e2
theorem atI_m1 {α : Type} (xs : List α) : atI xs (-1) = xs.getLast? := by
  cases xs with
  | nil => rfl
  | cons x r =>
    unfold atI ixN
    rw [if_neg (by omega), if_pos (by simp; omega), Option.bind_some, List.getLast?_eq_getElem?]
    congr 1
    simp
    omega
theorem atI_nat {α : Type} (xs : List α) (i : Nat) : atI xs (i : Int) = xs[i]? := by
  unfold atI ixN
  rw [if_pos (by omega)]
  by_cases h : i < xs.length
  · rw [if_pos (by omega), Option.bind_some, Int.toNat_natCast]
  · rw [if_neg (by omega), List.getElem?_eq_none (by omega)]
    rfl
theorem zipL_map {α β : Type} (f : α → D) (g : β → D) (xs : List α) (ys : List β) : zipL (xs.map f) (ys.map g) = (xs.zip ys).map fun p => .tup [f p.1, g p.2] := by
  unfold zipL
  rw [List.zip_map, List.map_map]
  rfl
end DL
set_option Elab.async false
set_option linter.all false
set_option maxRecDepth 100000
set_option maxHeartbeats 1000000
namespace DL
open PySem PySem.Spec PyProof.Rows L2 Mv
section
variable {T : List (Addr × Str)} {K : PySem.W.Frag} {E : L2.St → XK} {Q : R → Prop}
def xAbs : DCs := fun ds Q => ∃ i, ds = [.int i] ∧ Q (.d (.int (if i < 0 then -i else i)))
theorem lr_abs : LRC K (fun xs H Q => ∃ i, xs = [.int i] ∧ Q (.int (if i < 0 then -i else i)) H) xAbs := fun hid H vs ds Qd Q ho hv ⟨i, e1, q⟩ k => by
  subst e1
  obtain ⟨v, rfl, h⟩ := hv.one
  refine ⟨i, ?_, k _ _ _ nsc q⟩
  rw [h.sc]
theorem xAbs_e {i : Int} : xAbs [.int i] Q = Q (.d (.int (if i < 0 then -i else i))) := by
  unfold xAbs
  exact propext ⟨fun ⟨j, e, q⟩ => by cases e; exact q, fun q => ⟨i, rfl, q⟩⟩
def xRg : D1 := fun x Q => ∃ n, x = .int n ∧ RgOk 0 n ∧ Q (.o (.lst (rngL 0 n.toNat)))
theorem xRg_e {n : Int} : xRg (.int n) Q = (RgOk 0 n ∧ Q (.o (.lst (rngL 0 n.toNat)))) := by
  unfold xRg
  exact propext ⟨fun ⟨j, e, q⟩ => by cases e; exact q, fun q => ⟨n, rfl, q⟩⟩
theorem rps_rg {G : Hp} (n : Int) : Rps K G (rgV 0 n) (rngL 0 n.toNat) := by
  have e : rgV 0 n = ((List.range n.toNat).map fun k : Nat => (0 + (k : Int))).map V.int := by
    unfold rgV
    rw [List.map_map, Int.sub_zero]
    rfl
  have e2 : rngL 0 n.toNat = ((List.range n.toNat).map fun k : Nat => (0 + (k : Int))).map D.int := by
    rw [rngL_eq, List.map_map]
    rfl
  rw [e, e2]
  exact of_ints _
theorem lift_lstRg {ta : TE} {da : DE} (ha : LiftE T K E ta da) : LiftE T K E (tLstRg (tRg1 ta)) (dUn xRg da) :=
  lift_un (r := fun x H Q => ∃ n, x = .int n ∧ RgOk 0 n ∧ ∀ q, H q = none → Q (.ref q) (upd H q (.lst (rgV 0 n)))) (fun hid H x dx Qd Q ho hx ⟨n, e1, hr, q⟩ k => by
    subst e1
    exact ⟨n, hx.sc, hr, fun p hp => k _ _ _ (newR_lst ho hp (rps_rg n)) q⟩) ha
theorem lift_bm0 {Ty : String} {r : V → List V → Hp → VK → Prop} {md : DM} {t0 : TE} {d0 : DE} (hr : LRM K r md) (h0 : LiftE T K E t0 d0) : LiftE T K E (tBM0 K Ty r t0) (dBM Ty md d0 dNil) := lift_bm hr h0 lift_nil
theorem xSlL_fl {xs : List D} {lo hi : Option Int} : xSlL (.fl xs) lo hi Q = Q (.o (.lst (cutD xs lo hi))) := by simp [xSlL, itsL]
end
theorem atI_mem {α : Type} {xs : List α} {v : Int} (h0 : 0 ≤ v) (h1 : v < xs.length) : ∃ z, atI xs v = some z ∧ z ∈ xs := by
  have : v.toNat < xs.length := by omega
  refine ⟨xs[v.toNat], ?_, List.getElem_mem this⟩
  have e := atI_nat xs v.toNat
  rw [Int.toNat_of_nonneg h0] at e
  rw [e]
  exact List.getElem?_eq_getElem this
end DL
set_option Elab.async false
set_option linter.all false
set_option maxRecDepth 100000
set_option maxHeartbeats 1000000
/-! what simp is not to look into: what stands behind a call, a loop, a comprehension -/
namespace DL
open PySem PySem.Spec PyProof.Rows L2 Mv
/-- its type hangs on p: simp (with -dsimp) leaves p alone -/
structure Wt (p : Prop) : Type where
@[reducible] def stop (p : Prop) (_ : Wt p) : Prop := p
/-- the same, but what it is asked of is looked into -/
structure Wt1 {α : Type} (p : α → Prop) : Type where
@[reducible] def stop1 {α : Type} (x : α) (p : α → Prop) (_ : Wt1 p) : Prop := p x
structure Wt2 {α β : Type} (p : α → β → Prop) : Type where
@[reducible] def stop2 {α β : Type} (x : α) (y : β) (p : α → β → Prop) (_ : Wt2 p) : Prop := p x y
theorem dCall_e {spd : DSp} {da : DA} {s : SS} {Q : R → SS → Prop} {E : EC} : dCall spd [] da s Q E = da s (fun rs s1 => match toArgs s1 rs with | some as => (bws rs).Nodup ∧ stop1 as (fun as => spd as (fun r as' => Q r (back s1 rs as')) (fun ex as' => E ex (back s1 rs as'))) ⟨⟩ | none => False) E := by
  unfold dCall
  congr 1
  funext rs s1
  rw [ev1]
  simp only [List.map_nil, List.append_nil]
  cases toArgs s1 rs <;> rfl
theorem dMeth_e {C : Addr} {m : Str} {spd : DSp} {d0 : DE} {da : DA} {s : SS} {Q : R → SS → Prop} {E : EC} : dMeth C m spd [] d0 da s Q E = d0 s (fun r0 s0 => (∃ gs, vw s0 r0 = some (.ins C gs) ∧ gs.lookup m = none) ∧ da s0 (fun rs s1 => match toArgs s1 (r0 :: rs) with | some as => (bws (r0 :: rs)).Nodup ∧ stop1 as (fun as => spd as (fun r as' => Q r (back s1 (r0 :: rs) as')) (fun ex as' => E ex (back s1 (r0 :: rs) as'))) ⟨⟩ | none => False) E) E := by
  unfold dMeth
  congr 1
  funext r0 s0
  refine congrArg (_ ∧ ·) ?_
  congr 1
  funext rs s1
  rw [ev1]
  simp only [List.map_nil, List.append_nil]
  cases toArgs s1 (r0 :: rs) <;> rfl
theorem dFor_e {wd : DI} {gd : DGd} {tb : DS} {D : DEnds} {E : EC} {s : SS} : dFor wd gd tb D E s = wd s (fun xs keep s1 => stop2 xs s1 (fun xs s1 => dForI gd tb D E keep xs s1) ⟨⟩) E := rfl
theorem dLc_e {wd : DI} {gd : DGd} {dt : DT} {de : DE} {vs : List Nat} {s : SS} {Q : R → SS → Prop} {E : EC} : dLc wd gd dt de vs s Q E = wd s (fun xs keep s1 => okW s1 vs ∧ sameO (dwipe s1 vs) s1 ∧ stop2 xs s1 (fun xs s1 => dLcI gd dt de vs s1 keep xs (fun acc s2 => Q (.o (.lst acc)) s2)) ⟨⟩) E := rfl
theorem dMake_e {C : Addr} {spd : DSp} {da : DA} {s : SS} {Q : R → SS → Prop} {E : EC} : dMake C spd [] da s Q E = da s (fun rs s1 => match toArgs s1 rs with | some as => (bws rs).Nodup ∧ stop1 as (fun as => spd (.o false (.ins C []) :: as) (fun r as' => ∃ c rest, r = .d .non ∧ as' = .o false c :: rest ∧ Q (.o c) (back s1 rs rest)) (fun ex as' => E ex (back s1 rs as'.tail))) ⟨⟩ | none => False) E := by
  unfold dMake
  congr 1
  funext rs s1
  rw [ev1]
  simp only [List.map_nil, List.append_nil]
  cases toArgs s1 rs <;> rfl
theorem dLcE_e {wd : DI} {gd : DGd} {dt : DT} {de : DE} {vs : List Nat} {s : SS} {Q : R → SS → Prop} {E : EC} : dLcE wd gd dt de vs s Q E = wd s (fun xs keep s1 => okW s1 vs ∧ sameO (dwipe s1 vs) s1 ∧ stop2 xs s1 (fun xs s1 => dLcEI gd dt de vs s1 keep xs (fun acc s2 => Q (.o (.lst acc)) s2) E) ⟨⟩) E := rfl
theorem units65 {k : Nat} {A : Around} (r : Room k A) : A.units + 65 < cLine := by have := r.un; omega
end DL
set_option Elab.async false
set_option linter.all false
set_option maxRecDepth 100000
set_option maxHeartbeats 1000000
/-! len(set(x)) -/
namespace Mv
open PySem PySem.Spec PyProof.Rows L2
/-- each once -/
def dd : List Int → List Int
  | [] => []
  | x :: xs => if x ∈ xs then dd xs else x :: dd xs
theorem mem_dd : ∀ {xs : List Int} {k : Int}, k ∈ dd xs ↔ k ∈ xs
  | [], k => Iff.rfl
  | x :: xs, k => by
    unfold dd
    split
    · rw [mem_dd (xs := xs), List.mem_cons]
      exact ⟨.inr, fun h => h.elim (fun e => by rw [e]; assumption) id⟩
    · rw [List.mem_cons, List.mem_cons, mem_dd (xs := xs)]
theorem nodup_dd : ∀ xs : List Int, (dd xs).Nodup
  | [] => List.nodup_nil
  | x :: xs => by
    unfold dd
    split
    · exact nodup_dd xs
    · refine List.nodup_cons.mpr ⟨fun h => ?_, nodup_dd xs⟩
      rename_i h2
      exact h2 (mem_dd.mp h)
theorem ddNodup_le : ∀ {l m : List Int}, l.Nodup → (∀ x ∈ l, x ∈ m) → l.length ≤ m.length
  | [], m, _, _ => Nat.zero_le _
  | x :: l, m, n, h => by
    obtain ⟨n1, n2⟩ := List.nodup_cons.mp n
    have hx := h x List.mem_cons_self
    have := ddNodup_le (m := m.erase x) n2 fun y hy => (List.mem_erase_of_ne (fun e => n1 (by rw [← e]; exact hy))).mpr (h y (List.mem_cons_of_mem _ hy))
    rw [List.length_erase_of_mem hx] at this
    have h0 : 0 < m.length := List.length_pos_of_mem hx
    rw [List.length_cons]
    omega
theorem dd_len {xs ds : List Int} (n : ds.Nodup) (m : ∀ k, k ∈ ds ↔ k ∈ xs) : ds.length = (dd xs).length := by
  refine Nat.le_antisymm ?_ ?_
  · exact ddNodup_le n fun k h => mem_dd.mpr ((m k).mp h)
  · exact ddNodup_le (nodup_dd xs) fun k h => (m k).mpr (mem_dd.mp h)
theorem firstMet_nd (ns : List Int) : ∀ i, (PyProof.Rows.firstMet (fun i => ns.getD i 0) i).Nodup
  | 0 => by rw [PyProof.Rows.firstMet_zero]; exact List.nodup_nil
  | i + 1 => by
    rw [PyProof.Rows.firstMet_succ]
    unfold PyProof.Rows.step_dedup
    split
    · exact firstMet_nd ns i
    · rename_i h
      refine List.nodup_append.mpr ⟨firstMet_nd ns i, List.nodup_cons.mpr ⟨List.not_mem_nil, List.nodup_nil⟩, fun a ha b hb e => h ?_⟩
      rw [List.mem_singleton.mp hb] at e
      rw [List.any_eq_true]
      exact ⟨a, ha, by rw [e]; simp⟩
def tLenSet (K : PySem.W.Frag) (ta : TE) : TE := fun σ H Q => ta σ H fun x H1 => ∃ (l : Addr) (ns : List Int), x = V.ref l ∧ (SqL K H1 l (ns.map V.int) ∨ SqT K H1 l (ns.map V.int)) ∧ ns.length ≤ 1000 ∧ Q (.int ((dd ns).length : Nat)) H1
section
variable {X : Cx}
theorem pe_lenSet {a : Expr} {ta : TE} {p p2 q pos : Pos} (hc : X.calm = true) (hg : Gl X "len") (hm : X.mg "len" = none) (hg2 : Gl X "set") (hm2 : X.mg "set" = none) (ha : PE X a ta)
    (na : starEach [a] X.env = (false, eval a X.env) :: starEach [] X.env := by rfl) : PE X (.Call (.Name "len" p) [.Call (.Name "set" p2) [a] [] q] [] pos) (tLenSet X.K ta) := by
  refine ⟨fun pins s σ H Q I h => ?_⟩
  refine Call_ (ld_blt I hg hm PySem.boot_len ?_)
  refine PyProof.Rows.callWith_builtin1 (PyProof.Rows.args_cons ?_ rfl) rfl rfl
  refine Call_ (ld_blt I hg2 hm2 PyProof.Rows.boot_set ?_)
  refine PyProof.Rows.callWith_type1 (PyProof.Rows.args_cons (thn (ha.run pins s σ H _ I h) fun v s1 ⟨x, H1, I1, r1, q1⟩ => PyProof.Rows.args_nil ?_) na) na rfl
  obtain ⟨l, ns, rfl, hq, h1, q1⟩ := q1
  cases r1
  rcases hq with hq | hq
  · obtain ⟨its, r, pl, hz⟩ := I1.list hq
    have hl : its.toArray.size = ns.length := by rw [List.size_toArray, ← r.length, List.length_map]
    refine call_set_list (I1.ok.hd hc) pl.isList (ns := ns) (by simpa using r.ints) (by unfold scanBound; omega) fun h' tk hS hk => ?_
    refine PyProof.Rows.args_nil ?_
    obtain ⟨o, es, ep, t, ho, hex, hd, _, _, _, hf, hn⟩ := hS
    have I2 : Inv X pins σ H1 { s1 with heap := h', toks := tk } := I1.kept fun b o e => hk b o (Heap.lt_size e) e
    have hlen : es.size = (dd ns).length := by
      rw [hn, hl]
      refine dd_len (firstMet_nd ns _) fun k => ?_
      have := PyProof.Rows.firstMet_any (fun i => ns.getD i 0) ns.length k
      have e : ((List.range ns.length).map fun i => ns.getD i 0) = ns := by
        refine List.ext_getElem (by simp) fun i h1 h2 => ?_
        simp at h1 ⊢
        rw [List.getElem?_eq_getElem h2]
        rfl
      rw [e] at this
      have t1 : k ∈ PyProof.Rows.firstMet (fun i => ns.getD i 0) ns.length ↔ (PyProof.Rows.firstMet (fun i => ns.getD i 0) ns.length).any (· == k) = true := by simp
      have t2 : k ∈ ns ↔ ns.any (· == k) = true := by simp
      rw [t1, t2, this]
    have hle : (dd ns).length ≤ 1000 := by
      refine Nat.le_trans ?_ h1
      exact ddNodup_le (nodup_dd ns) fun k h => mem_dd.mp h
    exact call_len_set ho hex hd hf (by rw [hlen]; omega) ⟨.int ((dd ns).length : Nat), H1, I2.tok _, ⟨_, by rw [hlen]⟩, q1⟩
  · obtain ⟨its, r, pl, hz⟩ := I1.tuple hq
    refine call_set_tupI ns (I1.ok.hd hc) pl (by simpa using r.ints) (by unfold scanBound; omega) fun h' tk c hS hc2 hk => ?_
    refine PyProof.Rows.args_nil ?_
    obtain ⟨o, es, ep, t, ho, hex, hd, _, hnd, hm, _, hf, hn, _⟩ := hS
    have I2 : Inv X pins σ H1 { s1 with heap := h', toks := tk } := I1.kept hk
    have hlen : es.size = (dd ns).length := by
      rw [show es.size = (es.toList.map keyOf).length by simp]
      exact dd_len hnd fun k => by rw [← hm k]; simp
    have hle : (dd ns).length ≤ 1000 := by
      refine Nat.le_trans ?_ h1
      exact ddNodup_le (nodup_dd ns) fun k h => mem_dd.mp h
    exact call_len_set ho hex hd hf (by rw [hlen]; omega) ⟨.int ((dd ns).length : Nat), H1, I2.tok _, ⟨_, by rw [hlen]⟩, q1⟩
end
end Mv
set_option Elab.async false
set_option linter.all false
set_option maxRecDepth 100000
set_option maxHeartbeats 1000000
/-! dicts with nested keys, len(set(..)), calls of a name that holds a def, a, b = x, y that keeps new objects -/
namespace DL
open PySem PySem.Spec PyProof.Rows L2 Mv
section
variable {T : List (Addr × Str)} {K : PySem.W.Frag} {E : L2.St → XK} {A A' B : Addr → Prop} {P : Par} {Z Z' H H1 H2 H' : Hp} {σ σ' : L2.St} {s s1 s2 s' : SS} {vs us : List V} {rs qs : List R} {ts us' : List Addr} {Ed : EC} {v : V} {r : R}
/-! ### keys -/
theorem keysN_of {G : Hp} : ∀ {vs : List V} {ds : List D} {ks : List NestedKey}, Rps K G vs ds → nks ds = some ks → (∀ (v : V) (d : D) (k : NestedKey), d ∈ ds → Rp K G v d → nk d = some k → KeyN K G k v) → Paired (KeyN K G) ks vs
  | _, [], ks, h, e, _ => by
    cases h
    unfold nks at e
    cases e
    exact .nil
  | _, x :: xs, ks, h, e, f => by
    cases h with
    | cons h r =>
      unfold nks at e
      cases e1 : nk x with
      | none => rw [e1] at e; cases e
      | some k =>
        rw [e1] at e
        cases e2 : nks xs with
        | none => rw [e2] at e; cases e
        | some l =>
          rw [e2] at e
          cases e
          exact .cons (f _ _ _ List.mem_cons_self h e1) (keysN_of r e2 fun v d k hd => f v d k (List.mem_cons_of_mem _ hd))
theorem keyN_of {G : Hp} : ∀ (d : D) {v : V} {k : NestedKey}, Rp K G v d → nk d = some k → KeyN K G k v
  | .sc (.int i), v, k, h, e => by
    cases h
    unfold nk at e
    cases e
    exact .num i
  | .tup xs, v, k, h, e => by
    cases h with
    | tup h r =>
      unfold nk at e
      cases e1 : nks xs with
      | none => rw [e1] at e; cases e
      | some ks =>
        rw [e1] at e
        cases e
        exact .tup h (keysN_of r e1 fun v d k hd h e => keyN_of d h e)
  | .sc .non, v, k, h, e => by unfold nk at e; cases e
  | .sc (.bl _), v, k, h, e => by unfold nk at e; cases e
  | .sc (.str _), v, k, h, e => by unfold nk at e; cases e
  | .sc (.byt _), v, k, h, e => by unfold nk at e; cases e
  | .sc (.flt _), v, k, h, e => by unfold nk at e; cases e
  | .sc (.ref _), v, k, h, e => by unfold nk at e; cases e
  | .sc (.ty _), v, k, h, e => by unfold nk at e; cases e
  | .lst _, v, k, h, e => by unfold nk at e; cases e
  | .ins _ _, v, k, h, e => by unfold nk at e; cases e
  | .dK _, v, k, h, e => by unfold nk at e; cases e
  | .dN _, v, k, h, e => by unfold nk at e; cases e
  | .fl _, v, k, h, e => by unfold nk at e; cases e
termination_by d => sizeOf d
decreasing_by
  have := List.sizeOf_lt_of_mem hd
  simp
  omega
theorem keyN_ext {G G' : Hp} (e : LamX.ExtN G G') : ∀ {k : NestedKey} {v : V}, KeyN K G k v → KeyN K G' k v := fun {k v} h => by
  induction h using KeyN.rec (motive_2 := fun ks vs _ => Paired (KeyN K G') ks vs) with
  | num i => exact .num i
  | tup h p ih => exact .tup (ExtN.sqT e h) ih
  | nil => exact .nil
  | cons r t ih1 ih2 => exact .cons ih1 ih2
theorem keysAt_of {G : Hp} : ∀ {ks : List NE} {ds : List (D × D)}, (ks.map fun p : NE => some p.1) = ds.map (fun d => nk d.1) → Rps K G (ks.map fun p : NE => V.ref p.2.1) (ds.map (·.1)) → KeysAt K G ks
  | [], _, _, _ => fun p hp => by cases hp
  | p :: ks, [], e, _ => by cases e
  | p :: ks, d :: ds, e, r => by
    cases r with
    | cons r1 r2 =>
      obtain ⟨e1, e2⟩ := List.cons.inj e
      intro q hq
      rcases List.mem_cons.mp hq with rfl | hq
      · exact keyN_of _ r1 e1.symm
      · exact keysAt_of e2 r2 q hq
theorem keysAt_res {ks : List NE} (h : KeysAt K (res A H) ks) : KeysAt K H ks := fun p hp => keyN_ext res_all (h p hp)
/-- a key as it may be stored -/
def okKey (x : D) : Prop := (∃ xs, x = .tup xs) ∧ ∃ k, nk x = some k ∧ keyFit k
/-- the value at a key -/
def getN (ds : List (D × D)) (x : D) : Option D := (ds.find? fun d => decide (nk d.1 = nk x)).map (·.2)
def putDN (ds : List (D × D)) (x y : D) : List (D × D) := if (getN ds x).isSome then ds.map fun d => if nk d.1 = nk x then (d.1, y) else d else ds ++ [(x, y)]
theorem getN_rel {G : Hp} {x : D} {k : NestedKey} (hx : nk x = some k) : ∀ {ks : List NE} {ds : List (D × D)}, (ks.map fun p : NE => some p.1) = ds.map (fun d => nk d.1) → Rps K G (ks.map (·.2.2)) (ds.map (·.2)) →
    (valN ks k = none ∧ getN ds x = none) ∨ ∃ v y, valN ks k = some v ∧ getN ds x = some y ∧ Rp K G v y
  | [], [], _, _ => .inl ⟨rfl, rfl⟩
  | [], _ :: _, e, _ => by cases e
  | _ :: _, [], e, _ => by cases e
  | p :: ks, d :: ds, e, r => by
    obtain ⟨e1, e2⟩ := List.cons.inj e
    have e1 : some p.1 = nk d.1 := e1
    cases r with
    | cons r1 r2 =>
      by_cases n : p.1 = k
      · refine .inr ⟨p.2.2, d.2, ?_, ?_, r1⟩
        · simp [valN, List.find?_cons, n]
        · simp [getN, List.find?_cons, ← e1, hx, n]
      · rcases getN_rel hx e2 r2 with ⟨h1, h2⟩ | ⟨v, y, h1, h2, h3⟩
        · refine .inl ⟨?_, ?_⟩
          · simpa [valN, List.find?_cons, n] using h1
          · simpa [getN, List.find?_cons, ← e1, hx, n] using h2
        · refine .inr ⟨v, y, ?_, ?_, h3⟩
          · simpa [valN, List.find?_cons, n] using h1
          · simpa [getN, List.find?_cons, ← e1, hx, n] using h2
theorem putN_rel' {G : Hp} {x y : D} {k : NestedKey} {b : Addr} {w : V} (hx : nk x = some k) (rx : Rp K G (.ref b) x) (ry : Rp K G w y) {ks : List NE} {ds : List (D × D)} (e : (ks.map fun p : NE => some p.1) = ds.map (fun d => nk d.1))
    (r1 : Rps K G (ks.map fun p : NE => V.ref p.2.1) (ds.map (·.1))) (r2 : Rps K G (ks.map (·.2.2)) (ds.map (·.2))) :
    ((putN ks k b w).map fun p : NE => some p.1) = (putDN ds x y).map (fun d => nk d.1) ∧ Rps K G ((putN ks k b w).map fun p : NE => V.ref p.2.1) ((putDN ds x y).map (·.1)) ∧ Rps K G ((putN ks k b w).map (·.2.2)) ((putDN ds x y).map (·.2)) := by
  have hh : (valN ks k).isSome = (getN ds x).isSome := by
    rcases getN_rel hx e r2 with ⟨h1, h2⟩ | ⟨v, y, h1, h2, _⟩ <;> rw [h1, h2] <;> rfl
  unfold putN putDN
  rw [hh]
  split
  · clear hh
    have : ∀ {ks : List NE} {ds : List (D × D)}, (ks.map fun p : NE => some p.1) = ds.map (fun d => nk d.1) → Rps K G (ks.map fun p : NE => V.ref p.2.1) (ds.map (·.1)) → Rps K G (ks.map (·.2.2)) (ds.map (·.2)) →
        ((ks.map fun p : NE => if p.1 = k then (p.1, p.2.1, w) else p).map fun p : NE => some p.1) = (ds.map fun d => if nk d.1 = nk x then (d.1, y) else d).map (fun d => nk d.1) ∧
        Rps K G ((ks.map fun p : NE => if p.1 = k then (p.1, p.2.1, w) else p).map fun p : NE => V.ref p.2.1) ((ds.map fun d => if nk d.1 = nk x then (d.1, y) else d).map (·.1)) ∧
        Rps K G ((ks.map fun p : NE => if p.1 = k then (p.1, p.2.1, w) else p).map (·.2.2)) ((ds.map fun d => if nk d.1 = nk x then (d.1, y) else d).map (·.2)) := by
      intro ks
      induction ks with
      | nil =>
        intro ds e _ _
        cases ds with
        | nil => exact ⟨rfl, .nil, .nil⟩
        | cons _ _ => cases e
      | cons p ks ih =>
        intro ds e r1 r2
        cases ds with
        | nil => cases e
        | cons d ds =>
          obtain ⟨e1, e2⟩ := List.cons.inj e
          have e1 : some p.1 = nk d.1 := e1
          cases r1 with
          | cons a1 a2 =>
            cases r2 with
            | cons b1 b2 =>
              obtain ⟨i1, i2, i3⟩ := ih e2 a2 b2
              have hc : (nk d.1 = nk x) = (p.1 = k) := by rw [← e1, hx]; simp
              by_cases n : p.1 = k
              · have n' : nk d.1 = nk x := by rw [hc]; exact n
                refine ⟨?_, ?_, ?_⟩
                · simp only [List.map_cons, if_pos n, if_pos n'] at i1 ⊢
                  rw [i1]
                  exact congrArg (· :: _) e1
                · simp only [List.map_cons, if_pos n, if_pos n']
                  exact .cons a1 i2
                · simp only [List.map_cons, if_pos n, if_pos n']
                  exact .cons ry i3
              · have n' : ¬ nk d.1 = nk x := by rw [hc]; exact n
                refine ⟨?_, ?_, ?_⟩
                · simp only [List.map_cons, if_neg n, if_neg n'] at i1 ⊢
                  rw [i1]
                  exact congrArg (· :: _) e1
                · simp only [List.map_cons, if_neg n, if_neg n']
                  exact .cons a1 i2
                · simp only [List.map_cons, if_neg n, if_neg n']
                  exact .cons b1 i3
    exact this e r1 r2
  · rw [List.map_append, List.map_append, List.map_append, List.map_append, List.map_append, List.map_append, e]
    exact ⟨by rw [List.map_cons, List.map_cons, hx]; rfl, r1.app (.cons rx .nil), r2.app (.cons ry .nil)⟩
/-! ### {}, d.get(k, v), d[k] = v, list(d) -/
def dNewN : DE := fun s Q _ => Q (.o (.dN [])) s
theorem lift_newN : LiftE T K E tDNewN dNewN := fun A P Z σ s H Qd Ed Q S h k _ p od hp => by
  obtain ⟨ts, p1⟩ := (Post.refl S).new (v := .ref p) (H2 := upd H p (NDO p od [])) (r := .o (.dN [])) S.pa ⟨p, rfl, hp, same_upd hp, od, [], upd_same, rfl, .nil, .nil⟩
  exact k _ _ _ _ _ p1 h
def dGetN (dd dk dx : DE) : DE := fun s Q E => dd s (fun r0 s0 => (∃ ds, vw s0 r0 = some (.dN ds)) ∧ dk s0 (fun r1 s1 => dx s1 (fun r2 s2 => ∃ ds x, vw s2 r0 = some (.dN ds) ∧ vw s2 r1 = some x ∧ okKey x ∧ ∃ z, r2 = .d z ∧ Q (.d ((getN ds x).getD z)) s2) E) E) E
theorem lift_dGetN {td tk tx : TE} {dd' dk dx : DE} (hd : LiftE T K E td dd') (hk : LiftE T K E tk dk) (hx : LiftE T K E tx dx) : LiftE T K E (tDGetN K td tk tx) (dGetN dd' dk dx) := fun A P Z σ s H Qd Ed Q S h k x =>
  hd A P Z σ s H _ Ed _ S h (fun w0 H0 r0 ts0 s0 p0 ⟨⟨ds0, e0⟩, q0⟩ => by
    obtain ⟨a0, od0, ks0, ew0, hh0, _⟩ := (p0.tr.rb p0.st e0).dN
    refine ⟨⟨a0, od0, ks0, ew0, hh0⟩, ?_⟩
    subst ew0
    refine hk (Pls A ts0) P Z σ s0 H0 _ Ed _ p0.st q0 (fun w1 H1 r1 ts1 s1 p1 q1 => ?_) (x.less (fun a h => .inl h) S.pa)
    refine hx (Pls (Pls A ts0) ts1) P Z σ s1 H1 _ Ed _ p1.st q1 (fun w2 H2 r2 ts2 s2 p2 ⟨ds, y, e1, e2, ⟨⟨ys, ey⟩, kk, hk1, hk2⟩, z, e3, q2⟩ => ?_) ((x.less (fun a h => .inl h) S.pa).less (fun a h => .inl h) p0.st.pa)
    have P3 := p0.seq (p1.seq p2)
    have tr := P3.tr
    have S3 := P3.st
    subst e3
    have hb : RBs K (res (Hid (Pls A (ts0 ++ (ts1 ++ ts2))) σ s2) H2) H2 [.ref a0, w1, w2] [.dN ds, y, z] := tr.rbs S3 (by simp only [vws, e1, e2, List.append_assoc, List.cons_append, List.nil_append]; rfl)
    cases hb with
    | cons hb0 hb =>
      cases hb with
      | cons hb1 hb =>
        cases hb with
        | cons hb2 _ =>
          obtain ⟨a, od, ks, ea, hh, he, hr1, hr2⟩ := hb0.dN
          cases ea
          subst ey
          obtain ⟨b, us, rfl, _, hsq, hru⟩ := hb1.tup
          have ky := keyN_of (K := K) (.tup ys) (.tup hsq hru) hk1
          refine ⟨a0, od, ks, kk, b, rfl, hh, keysAt_res (keysAt_of he hr1), rfl, keyN_ext res_all ky, hk2, ?_⟩
          have hz : Rp K (res (Hid (Pls A (ts0 ++ (ts1 ++ ts2))) σ s2) H2) w2 z := by
            obtain ⟨t1, t2, et, _, tr2⟩ := TR.split tr
            obtain ⟨t3, t4, et2, _, tr3⟩ := TR.split tr2
            cases tr3 with
            | d h _ => exact h
          have fin : Rp K (res (Hid (Pls A (ts0 ++ (ts1 ++ ts2))) σ s2) H2) ((valN ks kk).getD w2) ((getN ds (.tup ys)).getD z) := by
            rcases getN_rel hk1 he hr2 with ⟨h1, h2⟩ | ⟨v, y, h1, h2, h3⟩
            · rw [h1, h2]; exact hz
            · rw [h1, h2]; exact h3
          exact k _ _ _ _ _ (P3.rdv S fin) q2) x
/-- d[k] = v: of one's own -/
def dPutN (dd dk dv : DE) : DS := fun Dd E s => dv s (fun r s1 => ∃ y s2, frz1 s1 r = some (y, s2) ∧ dd s2 (fun r0 s3 => dk s3 (fun r1 s4 => ∃ x s5 i l ds, frz1 s4 r1 = some (x, s5) ∧ r0 = .bw i ∧ s5[i]? = some (.o l (.dN ds)) ∧ okKey x ∧ ds.length < sizeLine ∧ Dd.nx (s5.set i (.o l (.dN (putDN ds x y))))) E) E) E
theorem lift_dPutN {td tk tv : TE} {dd' dk dv : DE} (hd : LiftE T K E td dd') (hk : LiftE T K E tk dk) (hv : LiftE T K E tv dv) : LiftS T K E (sDPutN K td tk tv) (dPutN dd' dk dv) := fun A P Z σ s H Dd Ed D S h k x =>
  hv A P Z σ s H _ Ed _ S h (fun w H1 r ts s1 p ⟨y, s2, e, q⟩ => by
    have efs : frzs [r] s1 = some ([y], s2) := by simp only [frzs, e]
    obtain ⟨p2, S2, r2⟩ := p.frz S efs
    cases r2 with
    | cons rw' _ =>
      refine hd A P Z σ s2 H1 _ Ed _ S2 q (fun w0 H2 r0 ts0 s3 p3 q3 => ?_) x.x
      refine hk (Pls A ts0) P Z σ s3 H2 _ Ed _ p3.st q3 (fun w1 H3 r1 ts1 s4 p4 ⟨z, s5, i, l, ds, e5, e6, e7, ⟨⟨ys, ey⟩, kk, hk1, hk2⟩, hl, q5⟩ => ?_) (x.x.less (fun a h => .inl h) S2.pa)
      subst e6 ey
      have p34 := p3.seq p4
      have efs5 : frzs [.bw i, r1] s4 = none ∨ True := .inr trivial
      have S4 := post_test (p34.drop S2.pa) S2
      have hσ : σ[i]? = some (some w0) := by
        cases p3.tr with
        | bw h _ => exact h
      have ets0 : ts0 = [] := by
        cases p3.tr with
        | bw _ h => cases h; rfl
      subst ets0
      rw [pls_nil] at p4
      obtain ⟨p5, S5, r5⟩ := p4.frz (post_test (p3.drop S2.pa) S2) (show frzs [r1] s4 = some ([.tup ys], s5) by simp only [frzs, e5])
      cases r5 with
      | cons rk _ =>
        obtain ⟨ov, e8, a, e9, od, ks, g1, g2, g3, g4⟩ := S5.sl i _ e7
        rw [hσ] at e8
        cases e8
        cases e9
        cases id rk with
        | @tup b us _ hsq hru =>
          have p35 := (p3.drop S2.pa).then p5
          have x2 : LamX.ExtN (res (Hid A σ s2) H1) (res (Hid A σ s5) H3) := res_ext p35.kp (fun _ z => .inr z) fun b z => .inl (z.elim .inl fun z => .inr (p35.shr b z))
          have rv := rw'.ext x2
          have hid : Hid A σ s5 a := .inr ⟨i, l, _, hσ, e7⟩
          refine ⟨a, od, ks, kk, b, rfl, g1, keysAt_res (keysAt_of g2 g3), rfl, keyN_ext res_all (keyN_of (K := K) (.tup ys) rk hk1), hk2, ?_, fun od' => ?_⟩
          · have := congrArg List.length g2
            rw [List.length_map, List.length_map] at this
            omega
          · obtain ⟨f1, f2, f3⟩ := putN_rel' hk1 rk rv g2 g3 g4
            obtain ⟨S6, _⟩ := S5.chg (o := NDO a od' (putN ks kk b w)) e7 hσ (c' := .dN (putDN ds (.tup ys) y)) ⟨od', _, upd_same, f1, f2.ext (ext_chg hid), f3.ext (ext_chg hid)⟩ (fun ps z => by cases z)
            exact k.nx _ _ _ S6 q5) x.x
def xListN : DCs := fun ds Q => ∃ ks, ds = [.dN ks] ∧ Q (.o (.lst (ks.map (·.1))))
theorem lr_listN : LRC K rListN xListN := fun hid H vs ds Qd Q ho hv ⟨ks, e1, q⟩ k => by
  subst e1
  obtain ⟨v, rfl, hr⟩ := hv.one
  obtain ⟨a, od, es, rfl, hh, he, hr1, hr2⟩ := hr.dN
  exact ⟨a, od, es, rfl, hh, fun p hp => k _ _ _ (newR_lst ho hp hr1) q⟩
/-! ### walks -/
def dKeysN (da : DE) : DI := fun s Rd E => da s (fun r s1 => ∃ ds s2, frz1 s1 r = some (.dN ds, s2) ∧ Rd (ds.map (·.1)) kT s2) E
def dItemsN (da : DE) : DI := fun s Rd E => da s (fun r s1 => ∃ ds s2, frz1 s1 r = some (.dN ds, s2) ∧ Rd (ds.map fun d => .tup [d.1, d.2]) kT s2) E
theorem Rp.dN_inv {G : Hp} {ds : List (D × D)} (h : Rp K G v (.dN ds)) : ∃ a od ks, v = .ref a ∧ G a = some (NDO a od ks) ∧ (ks.map fun p : NE => some p.1) = ds.map (fun d => nk d.1) ∧ Rps K G (ks.map fun p : NE => V.ref p.2.1) (ds.map (·.1)) ∧ Rps K G (ks.map (·.2.2)) (ds.map (·.2)) := by
  cases h with
  | dN h n r1 r => exact ⟨_, _, _, rfl, h, n, r1, r⟩
theorem lift_keysN {te : TE} {de : DE} (he : LiftE T K E te de) : LiftI T K E (iKeysN te) (dKeysN de) := fun A P Z σ s H Rd Ed R S h k x =>
  he A P Z σ s H _ Ed _ S h (fun v H1 r ts s1 p ⟨ds, s2, e, q⟩ => by
    obtain ⟨p2, S2, r2⟩ := p.frz S (show frzs [r] s1 = some ([.dN ds], s2) by simp only [frzs, e])
    cases r2 with
    | cons r2 _ =>
      obtain ⟨a, od, ks, rfl, hh, hn, hr1, hr2⟩ := r2.dN_inv
      have hl : ks.length = ds.length := by
        have := congrArg List.length hn
        rwa [List.length_map, List.length_map] at this
      refine ⟨a, od, ks, rfl, (res_some hh).2, k _ _ _ kT s2 p2 ⟨fun A' i σ s H u hi S' _ => ?_, fun A' σ s H u S' _ => ?_, fun A' i σ s H y H' u hi S' _ hy => ?_⟩ q⟩
      · refine ⟨(res_some (ext_base S2 u S' _ _ hh fun ps z => by cases z)).2, ?_⟩
        rw [List.length_map] at hi
        omega
      · refine ⟨(res_some (ext_base S2 u S' _ _ hh fun ps z => by cases z)).2, ?_⟩
        rw [List.length_map]
        omega
      · obtain ⟨rfl, q, hq, rfl⟩ := hy
        refine ⟨Same.refl _, ?_⟩
        exact (hr1.ext (ext_base S2 u S')).at' (by rw [List.getElem?_map, hq]; rfl)) x
theorem lift_itemsN {te : TE} {de : DE} (he : LiftE T K E te de) : LiftI T K E (iItemsN te) (dItemsN de) := fun A P Z σ s H Rd Ed R S h k x =>
  he A P Z σ s H _ Ed _ S h (fun v H1 r ts s1 p ⟨ds, s2, e, q⟩ => by
    obtain ⟨p2, S2, r2⟩ := p.frz S (show frzs [r] s1 = some ([.dN ds], s2) by simp only [frzs, e])
    cases r2 with
    | cons r2 _ =>
      obtain ⟨a, od, ks, rfl, hh, hn, hr1, hr2⟩ := r2.dN_inv
      have hl : ks.length = ds.length := by
        have := congrArg List.length hn
        rwa [List.length_map, List.length_map] at this
      refine ⟨a, od, ks, rfl, (res_some hh).2, k _ _ _ kT s2 p2 ⟨fun A' i σ s H u hi S' _ => ?_, fun A' σ s H u S' _ => ?_, fun A' i σ s H y H' u hi S' _ hy => ?_⟩ q⟩
      · refine ⟨(res_some (ext_base S2 u S' _ _ hh fun ps z => by cases z)).2, ?_⟩
        rw [List.length_map] at hi
        omega
      · refine ⟨(res_some (ext_base S2 u S' _ _ hh fun ps z => by cases z)).2, ?_⟩
        rw [List.length_map]
        omega
      · obtain ⟨T', q, hq, rfl, hn', rfl⟩ := hy
        obtain ⟨d1, e3, h3⟩ := (hr1.ext (ext_base S2 u S')).at' (by rw [List.getElem?_map, hq]; rfl)
        obtain ⟨d2, e4, h4⟩ := (hr2.ext (ext_base S2 u S')).at' (by rw [List.getElem?_map, hq]; rfl)
        obtain ⟨g1, g2⟩ := pair_new (G := H) S'.rok hn' h3 h4
        refine ⟨g1, _, ?_, g2⟩
        rw [List.getElem?_map] at e3 e4 ⊢
        cases hd : ds[i]? with
        | none => rw [hd] at e3; cases e3
        | some d =>
          rw [hd] at e3 e4
          cases e3
          cases e4
          rfl) x
/-! ### len(set(x)) -/
def dLenSet (da : DE) : DE := fun s Q E => da s (fun r s1 => ∃ x ns, vw s1 r = some x ∧ (x = .lst (ns.map D.int) ∨ x = .tup (ns.map D.int)) ∧ ns.length ≤ 1000 ∧ Q (.d (.int ((dd ns).length : Nat))) s1) E
theorem lift_lenSet {ta : TE} {da : DE} (ha : LiftE T K E ta da) : LiftE T K E (tLenSet K ta) (dLenSet da) := fun A P Z σ s H Qd Ed Q S h k x =>
  ha A P Z σ s H _ Ed _ S h (fun v H1 r ts s1 p ⟨y, ns, e, hy, hl, q⟩ => by
    rcases hy with rfl | rfl
    · obtain ⟨a, ws, rfl, h1, h2⟩ := (p.tr.rb p.st e).lst
      rw [rps_ints h2] at h1
      exact ⟨a, ns, rfl, .inl (.inl (.inl h1)), hl, k _ _ _ _ _ (p.sc S.pa _) q⟩
    · obtain ⟨a, ws, rfl, h1, _, h2⟩ := (p.tr.rb p.st e).tup
      rw [rps_ints h2] at h1
      exact ⟨a, ns, rfl, .inr h1, hl, k _ _ _ _ _ (p.sc S.pa _) q⟩) x
/-! ### a, b = x, y: new objects stay one's own -/
def svOf : R → Option SV
  | .d x => some (.d x)
  | .o c => some (.o true c)
  | .bw _ => none
def dPar2 (i j : Nat) (da : DA) : DS := fun D E s => da s (fun rs s1 => ∃ r1 r2 x y, rs = [r1, r2] ∧ svOf r1 = some x ∧ svOf r2 = some y ∧ i ≠ j ∧ okSet s1 i ∧ okSet (s1.set i x) j ∧ D.nx ((s1.set i x).set j y)) E
end
end DL
set_option Elab.async false
set_option linter.all false
set_option maxRecDepth 100000
set_option maxHeartbeats 1000000
namespace DL
open PySem PySem.Spec PyProof.Rows L2 Mv
section
variable {T : List (Addr × Str)} {K : PySem.W.Frag} {E : L2.St → XK} {A A' B : Addr → Prop} {P : Par} {Z Z' H H1 H2 H' : Hp} {σ σ' : L2.St} {s s1 s2 s' : SS} {vs us : List V} {rs qs : List R} {ts us' : List Addr} {Ed : EC} {v : V} {r : R}
/-! ### a, b = x, y -/
/-- an outcome into a slot; u: new objects that are still to come -/
theorem put_out {t u : List Addr} {i : Nat} {sv : SV} (S : StR T K (Pls A (t ++ u)) P Z σ s H) (hk : okSet s i) (hp : ∀ i a, P i = some a → A a) (tr : TR K (res (Hid (Pls A (t ++ u)) σ s) H) H σ [v] [r] t) (e : svOf r = some sv) (nd : (t ++ u).Nodup)
    (hn : ∀ a ∈ t, ¬ A a ∧ ¬ Own σ s a ∧ NwD Z a) : StR T K (Pls A u) P Z (σ.set i (some v)) (s.set i sv) H ∧ ∀ a, Own (σ.set i (some v)) (s.set i sv) a → Own σ s a ∨ a ∈ t := by
  have hA : ∀ a, Pls A u a → Pls A (t ++ u) a := fun a z => z.elim .inl fun z => .inr (List.mem_append.mpr (.inr z))
  cases r with
  | bw j => cases e
  | d x =>
    cases e
    cases tr with
    | d h _ => exact ⟨S.setd hk hA (fun i a z => .inl (hp i a z)) h, fun a z => .inl (own_set (fun _ _ z => by cases z) z)⟩
  | o c =>
    cases e
    cases tr with
    | @o a _ _ _ us' h k =>
      cases k
      obtain ⟨n1, n2, n3⟩ := hn a List.mem_cons_self
      refine ⟨S.seto hk hA (fun i a z => .inl (hp i a z)) (.inr List.mem_cons_self) (fun z => ?_) n2 n3 h, fun b z => ?_⟩
      · rcases z with z | z
        · exact n1 z
        · exact (List.nodup_cons.mp nd).1 z
      · obtain ⟨j, l, c', h1, h2⟩ := z
        by_cases n : j = i
        · subst n
          rw [List.getElem?_set_self (by rw [S.len]; exact hk.lt)] at h1
          cases h1
          exact .inr List.mem_cons_self
        · rw [List.getElem?_set_ne (Ne.symm n)] at h1 h2
          exact .inl ⟨j, l, c', h1, h2⟩
theorem TR.set_σ {G : Hp} {i : Nat} {ov : Option V} (h : TR K G H σ vs rs ts) (hb : ∀ j, R.bw j ∉ rs) : TR K G H (σ.set i ov) vs rs ts := by
  induction h with
  | nil => exact .nil
  | d r _ ih => exact .d r (ih fun j hj => hb j (List.mem_cons_of_mem _ hj))
  | o r _ ih => exact .o r (ih fun j hj => hb j (List.mem_cons_of_mem _ hj))
  | bw r _ ih => exact absurd List.mem_cons_self (hb _)
theorem lift_par2 {i j : Nat} {ta : TA} {da : DA} (ha : LiftA T K E ta da) : LiftS T K E (tPar i j ta) (dPar2 i j da) := fun A P Z σ s H Dd Ed D S h k x =>
  ha A P Z σ s H _ Ed _ S h (fun vs H1 rs ts s1 p ⟨r1, r2, y, z, er, e1, e2, hij, h1, h2, q⟩ => by
    subst er
    have hz := p.newZ S
    have hA := p.nA S
    have tr := p.tr
    cases vs with
    | nil => cases tr
    | cons v vs =>
      obtain ⟨t1, t2, et, tr1, tr2⟩ := tr.split
      cases vs with
      | nil => cases tr2
      | cons w vs =>
        obtain ⟨t3, t4, et2, tr3, tr4⟩ := tr2.split
        cases tr4
        rw [List.append_nil] at et2
        subst et2
        subst et
        obtain ⟨S1, o1⟩ := put_out (A := A) (t := t1) (u := t2) p.st h1 S.pa tr1 e1 p.nd fun a hm => ⟨hA a (List.mem_append.mpr (.inl hm)), p.fre a (List.mem_append.mpr (.inl hm)), hz a (List.mem_append.mpr (.inl hm))⟩
        have x1 : LamX.ExtN (res (Hid (Pls A (t1 ++ t2)) σ s1) H1) (res (Hid (Pls A t2) (σ.set i (some v)) (s1.set i y)) H1) := res_less fun b hb => by
          rcases hb with hb | hb
          · exact .inl (hb.elim .inl fun z => .inr (List.mem_append.mpr (.inr z)))
          · rcases o1 b hb with z | z
            · exact .inr z
            · exact .inl (.inr (List.mem_append.mpr (.inl z)))
        have nb : ∀ j, R.bw j ∉ [r2] := fun j hj => by
          rw [List.mem_singleton] at hj
          rw [← hj] at e2
          cases e2
        have tr3' : TR K (res (Hid (Pls A (t2 ++ [])) (σ.set i (some v)) (s1.set i y)) H1) H1 (σ.set i (some v)) [w] [r2] t2 := by
          rw [List.append_nil]
          exact (tr2.ext x1 fun a _ o h _ => h).set_σ nb
        have S1' : StR T K (Pls A (t2 ++ [])) P Z (σ.set i (some v)) (s1.set i y) H1 := by rw [List.append_nil]; exact S1
        obtain ⟨S2, _⟩ := put_out (A := A) (t := t2) (u := []) S1' h2 S.pa tr3' e2 (by rw [List.append_nil]; exact (List.nodup_append.mp p.nd).2.1) fun a hm => ⟨hA a (List.mem_append.mpr (.inr hm)), fun z => by
          rcases o1 a z with z | z
          · exact p.fre a (List.mem_append.mpr (.inr hm)) z
          · exact (List.nodup_append.mp p.nd).2.2 a z a hm rfl, hz a (List.mem_append.mpr (.inr hm))⟩
        rw [pls_nil] at S2
        exact ⟨v, w, rfl, k.nx _ _ _ S2 q⟩) x.x
/-! ### a call of a name that holds a def -/
def dCallA (M : Addr → Option DSp) (i : Nat) (da : DA) : DE := fun s Q E => ∃ f m, s[i]? = some (.d (.sc (.ref f))) ∧ M f = some m ∧ da s (fun rs s1 => ∃ as, toArgs s1 rs = some as ∧ (bws rs).Nodup ∧ m as (fun r as' => Q r (back s1 rs as')) (fun _ _ => False)) E
theorem lift_callA {M : Addr → Option DSp} {i : Nat} {ta : TA} {da : DA} (ha : LiftA T K E ta da) : LiftE T K E (tCallA i (fun f => (M f).map (liftSp T K)) ta) (dCallA M i da) := fun A P Z σ s H Qd Ed Q S h k x => by
  obtain ⟨f, m, e0, e1, h⟩ := h
  obtain ⟨ov, e2, u, rfl, q⟩ := S.sl i _ e0
  cases q
  refine ⟨f, liftSp T K m, e2, by show (M f).map (liftSp T K) = _; rw [e1]; rfl, ha A P Z σ s H _ Ed _ S h (fun vs H1 rs ts s1 p ⟨as, e, nd, q⟩ => ?_) x⟩
  have S1 := post_test (p.drop S.pa) S
  have ar := p.args S (dvs := []) (dds := []) e nd fun G => .nil
  rw [List.append_nil, show as ++ ([] : List D).map SV.d = as by simp] at ar
  refine ⟨Hid A σ s1, as, _, _, ar, S1.rok, S1.tb, q, fun r as' v H' q c => ?_, fun ex as' cls d H' q c hx => q.elim⟩
  have c' : RetP T K (Hid A σ s1) (vs ++ []) (as ++ ([] : List D).map SV.d) as' H1 H' v r := by
    rw [List.append_nil, show as ++ ([] : List D).map SV.d = as by simp]
    exact c
  obtain ⟨ts', p2⟩ := p.ret S (dvs := []) (dds := []) e nd (fun G => .nil) c'
  exact k _ _ _ _ _ p2 q
/-! ### {k: v} -/
theorem StR.updH {p : Addr} {o : HO} {od : Obj} {ks : List NE} (S : StR T K B P Z σ s H) (hB : B p) (hO : ¬ Own σ s p) (hZ : NwD Z p) (hp : H p = some (NDO p od ks)) (ho : ∀ ps, o ≠ .tbl ps) : StR T K B P Z σ s (upd H p o) ∧ LamX.ExtN (res (Hid B σ s) H) (res (Hid B σ s) (upd H p o)) := by
  have hdn : ∀ b u, b ≠ p → H b = some u → upd H p o b = some u := fun b u n e => by rw [upd_ne n]; exact e
  have kx : Kp (fun a => a = p) H (upd H p o) := fun b u n e _ => hdn b u n e
  have xt : LamX.ExtN (res (Hid B σ s) H) (res (Hid B σ s) (upd H p o)) := res_ext kx (fun a z => .inl (z ▸ hB)) fun b z => .inl z
  refine ⟨⟨S.len, fun i sv h => ?_, S.inj, S.loc, S.zo, S.par, S.pin, fun a h => ?_, fun b u e t => ?_, fun q hq => ?_⟩, xt⟩
  · obtain ⟨ov, e1, q⟩ := S.sl i sv h
    refine ⟨ov, e1, ?_⟩
    cases sv with
    | no => trivial
    | d y => obtain ⟨u, e, r⟩ := q; exact ⟨u, e, r.ext xt⟩
    | o l c =>
      obtain ⟨a, rfl, r⟩ := q
      have n : a ≠ p := fun z => hO ⟨i, l, c, z ▸ e1, h⟩
      exact ⟨a, rfl, r.ext xt fun o e _ => hdn a o n e⟩
  · by_cases n : a = p
    · rw [n]
      exact ⟨_, upd_same, ho⟩
    · obtain ⟨u, e, t⟩ := S.aol a h
      exact ⟨u, hdn a u n e, t⟩
  · have n : b ≠ p := hZ.ne e t
    exact hdn b u n (S.fr b u e t)
  · obtain ⟨ps, h1, h2, h3⟩ := S.tb q hq
    have n1 : q.1 ≠ p := fun z => by
      rw [z, hp] at h1
      cases h1
    refine ⟨ps, hdn _ _ n1 h1, h2, fun pos cv hc => ?_⟩
    obtain ⟨c, e1, e2⟩ := h3 pos cv hc
    refine ⟨c, e1, hdn _ _ (fun z => ?_) e2⟩
    subst z
    rw [hp] at e2
    exact codeO_ndo (Option.some.inj e2).symm
def dDisp1N (dk dv : DE) : DE := fun s Q E => dk s (fun r1 s1 => dv s1 (fun r2 s2 => ∃ x y s3, frzs [r1, r2] s2 = some ([x, y], s3) ∧ okKey x ∧ Q (.o (.dN [(x, y)])) s3) E) E
theorem lift_disp1N {tk tv : TE} {dk dv : DE} (hk : LiftE T K E tk dk) (hv : LiftE T K E tv dv) : LiftE T K E (tDisp1N K tk tv) (dDisp1N dk dv) := fun A P Z σ s H Qd Ed Q S h k x p od0 hp => by
  have nH : ¬ Hid A σ s p := S.newH (NwD.of hp)
  have S0 : StR T K (Pls A [p]) P Z σ s (upd H p (NDO p od0 [])) := S.grow (Kp.of (same_upd hp)) (Same.tabs S.tb (same_upd hp)) (fun a h => h.elim .inl fun h => .inr (by rw [List.mem_singleton.mp h]; exact ⟨NwD.of hp, _, upd_same, fun ps z => by cases z⟩)) fun a h => .inl h
  have hZ : NwD Z p := S.new0 (NwD.of hp)
  have xl : ∀ {σ : L2.St}, XOk T K A P Z σ Ed (E σ) → XOk T K (Pls A [p]) P Z σ Ed (E σ) := fun x => x.less (fun a h => .inl h) S.pa
  refine hk (Pls A [p]) P Z σ s _ _ Ed _ S0 h (fun w1 H1 r1 ts1 s1 p1 q1 => ?_) (xl x)
  refine hv (Pls (Pls A [p]) ts1) P Z σ s1 H1 _ Ed _ p1.st q1 (fun w2 H2 r2 ts2 s2 p2 ⟨y, z, s3, e, ⟨⟨ys, ey⟩, kk, hk1, hk2⟩, q2⟩ => ?_) ((xl x).less (fun a h => .inl h) S0.pa)
  have p12 := p1.seq p2
  obtain ⟨p3, S3, r3⟩ := p12.frz S0 e
  have nO : ∀ {s' : SS}, (∀ a, Own σ s' a → Own σ s a) → ¬ Own σ s' p := fun f z => nH (.inr (f p z))
  have hp2 : H2 p = some (NDO p od0 []) := p3.kp p _ (fun z => nH (.inr z)) upd_same fun ps z => by cases z
  subst ey
  cases r3 with
  | cons ra r3 =>
    cases r3 with
    | cons rb _ =>
      cases id ra with
      | @tup b us _ hsq hru =>
        refine ⟨hp2, kk, b, rfl, keyN_ext res_all (keyN_of (K := K) (.tup ys) ra hk1), hk2, fun od => ?_⟩
        obtain ⟨S4, xt⟩ := S3.updH (o := NDO p od [(kk, b, w2)]) (.inr List.mem_cons_self) (nO p3.shr) hZ hp2 fun ps z => by cases z
        refine k _ _ _ _ _ (?_ : Post T K A P Z σ s s3 H _ [.ref p] [.o (.dN [(.tup ys, z)])] [p]) q2
        refine ⟨by simp, fun a h => by rw [List.mem_singleton.mp h]; exact NwD.of hp, fun a h => by rw [List.mem_singleton.mp h]; exact nO p3.shr, S4, .o ⟨od, _, upd_same, ?_, ?_, ?_⟩ .nil, fun b' o' n e' t => ?_, p3.shr, fun a z => ?_⟩
        · simp [hk1]
        · exact .cons (ra.ext xt) .nil
        · exact .cons (rb.ext xt) .nil
        · have nb : b' ≠ p := fun z => by rw [z, hp] at e'; cases e'
          rw [upd_ne nb]
          exact p3.kp b' o' n (by rw [upd_ne nb]; exact e') t
        · have nb : a ≠ p := fun w => nH (.inr (w ▸ z))
          rw [upd_ne nb]
          exact p3.ot a z
/-! ### [k for d in ds for k in d] -/
def dFlatN (i a b : Nat) : DE := fun s Q _ => a < s.length ∧ b < s.length ∧ ∃ (lv : List (List (D × D))) (s1 : SS), itrL s (.bw i) = some (lv.map D.dN, kT, s1) ∧ (lv.map (·.length)).sum ≤ 4000 ∧ Q (.o (.lst (lv.flatMap fun l => l.map (·.1)))) s1
theorem levels_of {G : Hp} : ∀ {vs : List V} {lv : List (List (D × D))}, Rps K G vs (lv.map D.dN) → ∃ kss : List (List NE), kss.length = lv.length ∧ ∀ i : Nat, i < lv.length → ∃ d od ks l, vs[i]? = some (.ref d) ∧ kss[i]? = some ks ∧ lv[i]? = some l ∧ G d = some (NDO d od ks) ∧ ks.length = l.length ∧ Rps K G (ks.map fun p : NE => V.ref p.2.1) (l.map (·.1))
  | [], [], _ => ⟨[], rfl, fun i h => by cases h⟩
  | _ :: _, [], h => by cases h
  | _, l :: lv, h => by
    cases h with
    | cons h r =>
      obtain ⟨kss, hl, f⟩ := levels_of r
      obtain ⟨a, od, ks, rfl, hh, hn, hr1, hr2⟩ := h.dN_inv
      refine ⟨ks :: kss, by rw [List.length_cons, List.length_cons, hl], fun i hi => ?_⟩
      cases i with
      | zero =>
        refine ⟨a, od, ks, l, rfl, rfl, rfl, hh, ?_, hr1⟩
        have := congrArg List.length hn
        rwa [List.length_map, List.length_map] at this
      | succ i => exact f i (Nat.lt_of_succ_lt_succ hi)
theorem take_flat {α β : Type} (f : α → List β) : ∀ (xs : List α) (i : Nat) (x : α), xs[i]? = some x → (xs.take (i + 1)).flatMap f = (xs.take i).flatMap f ++ f x
  | [], i, x, h => by simp at h
  | y :: xs, 0, x, h => by
    cases h
    simp
  | y :: xs, i + 1, x, h => by
    rw [List.take_succ_cons, List.flatMap_cons, take_flat f xs i x h, List.take_succ_cons, List.flatMap_cons, List.append_assoc]
theorem flat_rps {G : Hp} : ∀ {kss : List (List NE)} {lv : List (List (D × D))}, kss.length = lv.length → (∀ i : Nat, i < lv.length → ∃ ks l, kss[i]? = some ks ∧ lv[i]? = some l ∧ Rps K G (ks.map fun p : NE => V.ref p.2.1) (l.map (·.1))) →
    Rps K G (kss.flatMap fun ks => ks.map fun p : NE => V.ref p.2.1) (lv.flatMap fun l => l.map (·.1))
  | [], [], _, _ => .nil
  | [], _ :: _, h, _ => by cases h
  | _ :: _, [], h, _ => by cases h
  | ks :: kss, l :: lv, h, f => by
    obtain ⟨ks', l', e1, e2, r⟩ := f 0 (by simp)
    cases e1
    cases e2
    exact r.app (flat_rps (Nat.succ.inj h) fun i hi => f (i + 1) (by simpa using hi))
theorem flat_le : ∀ (kss : List (List NE)) (i j : Nat) (ks : List NE), kss[i]? = some ks → j ≤ ks.length → ((kss.take i).flatMap fun ks => ks.map fun p : NE => V.ref p.2.1).length + j ≤ (kss.map (·.length)).sum
  | [], i, j, ks, h, _ => by simp at h
  | k :: kss, 0, j, ks, h, hj => by
    cases h
    simp
    omega
  | k :: kss, i + 1, j, ks, h, hj => by
    have := flat_le kss i j ks h hj
    rw [List.take_succ_cons, List.flatMap_cons, List.length_append, List.length_map, List.map_cons, List.sum_cons]
    omega
theorem flat_lt : ∀ (kss : List (List NE)) (i j : Nat) (ks : List NE), kss[i]? = some ks → j < ks.length → ((kss.take i).flatMap fun ks => ks.map fun p : NE => V.ref p.2.1).length + j < (kss.map (·.length)).sum := fun kss i j ks h hj => by
  have := flat_le kss i (j + 1) ks h hj
  omega
theorem small4000' {n : Nat} (h : n < 4000) : n < sizeLine := by rw [sizeLine_eq]; omega
theorem wipe_set (σ : L2.St) (x : Option V) : ∀ {vs : List Nat} {i : Nat}, i ∈ vs → L2.wipe (σ.set i x) vs = L2.wipe σ vs := fun h => wipe_in σ x h
theorem lift_flatN {i a b : Nat} {vs vs1 : List Nat} (ha : a ∈ vs) (hb : b ∈ vs1) (hab : a ∉ vs1) : LiftE T K E (tLc2 (iList K (tVar i)) (gName a) tYes (iKeysN (tVar a)) (gName b) tYes (tVar b) vs vs1) (dFlatN i a b) := fun A P Z σ s H Qd Ed Q S h k x => by
  obtain ⟨hla, hlb, lv, s1, e, hsum, q⟩ := h
  cases hs : s[i]? with
  | none =>
    have e' : (match s[i]? with
      | some (.o true (.lst xs)) => some (xs, kT, s.set i (.d (.lst xs)))
      | some (.d (.lst xs)) => some (xs, kT, s)
      | some (.o false (.lst xs)) => some (xs, (fun s' : SS => s'[i]? = some (.o false (.lst xs))), s)
      | _ => none) = some (lv.map D.dN, kT, s1) := e
    rw [hs] at e'
    cases e'
  | some sv =>
    obtain ⟨ov, eo, sr⟩ := S.sl i sv hs
    have hv : ∃ v, ov = some v := by
      cases sv with
      | no =>
        have e' : (match s[i]? with
          | some (.o true (.lst xs)) => some (xs, kT, s.set i (.d (.lst xs)))
          | some (.d (.lst xs)) => some (xs, kT, s)
          | some (.o false (.lst xs)) => some (xs, (fun s' : SS => s'[i]? = some (.o false (.lst xs))), s)
          | _ => none) = some (lv.map D.dN, kT, s1) := e
        rw [hs] at e'
        cases e'
      | d y => obtain ⟨u, e, _⟩ := sr; exact ⟨u, e⟩
      | o l c => obtain ⟨u, e, _⟩ := sr; exact ⟨_, e⟩
    obtain ⟨v, rfl⟩ := hv
    obtain ⟨p2, d0, ws, rfl, hl, ⟨hw, hr⟩, hc⟩ := lstAt_of (Post.slot S eo) S e
    obtain ⟨kss, hlen, hlv⟩ := levels_of hr
    have hwl : ws.length = lv.length := by rw [hl, List.length_map]
    have hlens : kss.map (·.length) = lv.map (·.length) := by
      refine List.ext_getElem? fun i => ?_
      rw [List.getElem?_map, List.getElem?_map]
      by_cases hi : i < lv.length
      · obtain ⟨_, _, ks, l, _, h2, h3, _, h5, _⟩ := hlv i hi
        rw [h2, h3]
        exact congrArg some h5
      · rw [List.getElem?_eq_none (by omega), List.getElem?_eq_none (by omega)]
        rfl
    have g4H : ∀ d od ks, res (Hid A σ s1) H d = some (NDO d od ks) → H d = some (NDO d od ks) := fun d od ks e => (res_some e).2
    have S2 := post_test p2 S
    refine ⟨.ref d0, eo, d0, rfl, ⟨ws, hw⟩, fun D hD => ?_⟩
    generalize hall : (fun ks : List NE => ks.map fun p : NE => V.ref p.2.1) = f
    have hDne : ∀ b o, H b = some o → b ≠ D := fun b o e z => by rw [z, hD] at e; cases e
    have up : ∀ (xs : List V) (b : Addr) (o : HO), H b = some o → upd H D (.lst xs) b = some o := fun xs b o e => by rw [upd_ne (hDne b o e)]; exact e
    have sqU : ∀ xs : List V, SqL K (upd H D (.lst xs)) d0 ws := fun xs => ExtN.sqL (fun b o e _ => up xs b o e) hw
    refine ⟨fun n m H' => n + m = lv.length ∧ H' = upd H D (.lst ((kss.take n).flatMap f)), ⟨lv.length, by omega, by simp⟩, ?_⟩
    rintro n m H' ⟨hnm, rfl⟩
    by_cases hn : n < lv.length
    · obtain ⟨d, od, ks, l, g1, g2, g3, g4, g5, g6⟩ := hlv n hn
      have wl := walk_list (K := K) (a := d0) (xs := ws)
      refine .inr ⟨wl.goes n _ (by rw [hwl]; exact hn) (sqU _), fun H' => H' = upd H D (.lst ((kss.take (n + 1)).flatMap f)), fun H' e => ⟨m - 1, by omega, by omega, e⟩, fun y H' hy => ?_⟩
      obtain ⟨rfl, h3⟩ := wl.yields n _ y H' (by rw [hwl]; exact hn) (sqU _) hy
      rw [g1] at h3
      cases h3
      refine ⟨(wipe_set (L2.wipe σ vs) _ ha).trans (idem_wipe σ vs), ?_⟩
      dsimp only [tYes]
      rw [if_pos rfl]
      have hva : ((L2.wipe σ vs).set a (some (V.ref d)))[a]? = some (some (.ref d)) := List.getElem?_set_self (by rw [wipe_length, S.len]; exact hla)
      have hsu : (kss.map (·.length)).sum ≤ 4000 := by rw [hlens]; exact hsum
      refine ⟨.ref d, hva, d, od, ks, rfl, up ((kss.take n).flatMap f) d (NDO d od ks) (g4H d od ks g4), fun (j k : Nat) (H' : Hp) => j + k = ks.length ∧ H' = upd H D (.lst ((kss.take n).flatMap f ++ (ks.take j).map fun p : NE => V.ref p.2.1)), ⟨ks.length, by omega, by simp⟩, ?_⟩
      rintro j k2 H' ⟨hjk, rfl⟩
      by_cases hj : j < ks.length
      · refine .inr ⟨⟨up _ d (NDO d od ks) (g4H d od ks g4), hj⟩, fun H' => H' = upd H D (.lst ((kss.take n).flatMap f ++ (ks.take (j + 1)).map fun p : NE => V.ref p.2.1)), fun H' e => ⟨k2 - 1, by omega, by omega, e⟩, fun y H' hy => ?_⟩
        obtain ⟨rfl, pp, hpp, rfl⟩ := hy
        refine ⟨(wipe_set (L2.wipe _ vs1) _ hb).trans (idem_wipe _ vs1), ?_⟩
        dsimp only [tYes]
        rw [if_pos rfl]
        refine ⟨.ref pp.2.1, List.getElem?_set_self (by rw [wipe_length, List.length_set, wipe_length, S.len]; exact hlb), (kss.take n).flatMap f ++ (ks.take j).map fun p : NE => V.ref p.2.1, upd_same, ?_, ?_⟩
        · have := flat_le kss n j ks g2 (by omega)
          rw [hall] at this
          refine small4000' ?_
          rw [List.length_append, List.length_map, List.length_take, Nat.min_eq_left (by omega)]
          have h5 := flat_lt kss n j ks g2 hj
          rw [hall] at h5
          omega
        · rw [upd_upd, List.append_assoc]
          have : (ks.take (j + 1)) = ks.take j ++ [pp] := by rw [List.take_add_one, hpp]; rfl
          rw [this, List.map_append]
          rfl
      · have : j = ks.length := by omega
        subst this
        refine .inl ⟨⟨up _ d (NDO d od ks) (g4H d od ks g4), by omega⟩, ?_⟩
        rw [List.take_length, take_flat f kss n ks g2, ← hall]
    · have : n = lv.length := by omega
      subst this
      refine .inl ⟨?_, ?_⟩
      · have := (walk_list (K := K) (a := d0) (xs := ws)).stops _ (sqU ((kss.take lv.length).flatMap f))
        rwa [hwl] at this
      · rw [← hlen, List.take_length]
        have hnD := hD
        refine k _ _ _ _ _ (p2.then ((Post.refl S2).new (v := .ref D) (r := .o (.lst (lv.flatMap fun l => l.map (·.1)))) S2.pa ⟨D, rfl, hD, same_upd hD, _, upd_same, ?_⟩).choose_spec) q
        rw [← hall, pls_nil]
        refine (flat_rps hlen fun i hi => ?_).ext (ext_new hD)
        obtain ⟨_, _, ks, l, _, h2, h3, _, _, h6⟩ := hlv i hi
        exact ⟨ks, l, h2, h3, h6⟩
end
end DL
set_option Elab.async false
set_option linter.all false
set_option maxRecDepth 100000
set_option maxHeartbeats 1000000
/-! sorted(xs), xs a list of data -/
namespace Mv
open PySem PySem.Spec PyProof.Rows L2
open PySem.W (EachIs AllAlike Sortable dataLe)
inductive PairU {α β : Type} (F : α → β → Prop) : List α → List β → Prop
  | nil : PairU F [] []
  | cons {a : α} {b : β} {as : List α} {bs : List β} : F a b → PairU F as bs → PairU F (a :: as) (b :: bs)
def rSortData (K : PySem.W.Frag) : List V → Hp → VK → Prop := fun vs H Q => ∃ (β : Type) (R0 : V → β → Prop) (enc : β → PyData) (a : Addr) (xs : List V) (bs : List β), vs = [.ref a] ∧ SqL K H a xs ∧ PairU (fun v b => R0 v b ∧ Dp K H v (enc b)) xs bs ∧ AllAlike (bs.map enc) ∧ Sortable (bs.map enc) ∧
  (∀ b ∈ bs, (enc b).depth ≤ 60) ∧ ∀ ys p, PairU R0 ys (bs.mergeSort (dataLe false enc)) → H p = none → Q (.ref p) (upd H p (.lst ys))
section
variable {X : Cx} {β : Type}
theorem each_of {R : Value → β → Prop} {F : V → β → Prop} (f : ∀ v b u, F v b → RelV v u → R u b) : ∀ {xs : List V} {bs : List β} {us : List Value}, PairU F xs bs → Vals xs us → EachIs R us bs
  | _, _, _, .nil, .nil => .nil
  | _, _, _, .cons h t, .cons r rs => .cons (f _ _ _ h r) (each_of f t rs)
theorem of_each {R0 : V → β → Prop} : ∀ {out : List Value} {bs : List β}, EachIs (fun u b => ∃ v, RelV v u ∧ R0 v b) out bs → ∃ ys, Vals ys out ∧ PairU R0 ys bs
  | _, _, .nil => ⟨[], .nil, .nil⟩
  | _, _, .cons ⟨v, h1, h2⟩ t => by
    obtain ⟨ys, i1, i2⟩ := of_each t
    exact ⟨v :: ys, .cons h1 i1, .cons h2 i2⟩
theorem PairU.len {α β : Type} {F : α → β → Prop} : ∀ {xs : List α} {bs : List β}, PairU F xs bs → xs.length = bs.length
  | _, _, .nil => rfl
  | _, _, .cons _ t => congrArg (· + 1) t.len
theorem cr_sortData (hu : X.A.units + 65 < cLine) : CallR X (.builtin "sorted") (rSortData X.K) := by
  intro pins s σ H vs us Q I r h
  obtain ⟨β, R0, enc, a, xs, bs, rfl, hq, hp, hal, hk, hd, q⟩ := h
  rw [Vals.ref1 r]
  obtain ⟨its, rv, pl, hz⟩ := I.list hq
  have hlen : bs.length ≤ sizeLine := by rw [← hp.len]; exact hz
  refine PySem.W.sorted_data (bs := bs) (enc := enc) (R := fun u b => ∃ v, RelV v u ∧ R0 v b) (by simpa using pl.isList) (each_of (fun v b u h r => ⟨v, r, h.1⟩) hp rv) (each_of (fun v b u h r => Dp.reads I _ _ _ h.2 r) hp rv) hal hk hlen (fun b hb => by have := hd b hb; omega) fun out ho he => ?_
  obtain ⟨ys, h1, h2⟩ := of_each he
  obtain ⟨c, hc⟩ := PyProof.Rows.sortedAll_at s.heap its out.toArray
  have hb : H (s.heap.objs.size + 1) = none := I.hok.fresh (Nat.le_succ _)
  refine ⟨.ref (s.heap.objs.size + 1), _, I.laid (t' := s.toks) (fun b o e => PyProof.Rows.sortedAll_old e) (Nat.le_succ _)
    (show ObjOk X.prog X.w _ _ _ (.lst ys) from ⟨by rw [h1.length, ho]; exact hlen, out, c, h1, hc⟩), rfl, q ys _ h2 hb⟩
end
end Mv
set_option Elab.async false
set_option linter.all false
set_option maxRecDepth 100000
set_option maxHeartbeats 4000000
namespace Mv
open PySem PySem.Spec PyProof.Rows L2
/-! ### bool(o), o with a __bool__ of its own -/
section
variable {X : Cx} {pins : List (Addr × Obj)} {σ : L2.St} {H : Hp} {s : Shared} {C f : Addr} {k : Nat} {fd : FuncData} {ps : List Str} {sp : Sp} {CX : CXT}
theorem run_in2 {Q : VK} {us : List Value} {vs : List V} {E' : Value → Shared → Prop} (F : FnOk X.prog X.w X.K X.mg X.base (L2.CX X.prog X.w) k f fd ps sp) (hr : Room (k + 2) X.A) (hb : Binds X.K fd ps [])
    (I : Inv X pins σ H s) (r : Vals vs us) (h : sp vs H Q E0) : wpAny (model X.prog X.w) X.A.in1.in1 (call (.ref f) us) (EP X pins σ Q) E' s := by
  have hl : us.length = ps.length := by rw [← r.length]; exact F.len _ _ _ _ h
  have hb' := hb s us I.kIn (by rw [List.append_nil]; exact hl)
  rw [List.append_nil] at hb'
  refine wpAny_call (codeAny_mono (F.run X.A.in1.in1 X.stack s H ⟨us, []⟩ us vs Q E0 hr.in1.in1 I.env0.in1.in1 hb' r h) fun r s' hq => ?_)
  cases r with
  | error e =>
    obtain ⟨a, B, H', cls, d, _, _, _, _, _, _, _, z⟩ := hq
    exact False.elim z
  | ok fl =>
    cases fl with
    | ret u => exact I.after hq
    | next => exact False.elim hq
    | brk => exact False.elim hq
    | cont => exact False.elim hq
theorem meets_bool_own (prog : Program) (w : World) (a : Addr) : MeetsIn prog w (Builtin.«bool.__new__» ⟨[.type "bool", .ref a], []⟩) (fun A R s => wpAny (model prog w) A.in1 (truthy (.ref a)) (fun b s' => R (.ok (.ret (.bool b))) s') (fun e s' => R (.error e) s') s) := fun A R s hs => by
  unfold Builtin.«bool.__new__»
  have f1 := F.conv_sub_bool
  refine wpAny_bind (m := isType (.type "bool")) (wpAny_pure ?_)
  simp only [Bool.not_true, Bool.false_eq_true, if_false]
  rw [f1]
  refine wpAny_bind (wpAny_pure ?_)
  simp only [Bool.not_true, Bool.false_eq_true, if_false]
  refine wpAny_bind (m := someArgs "bool" 0 1 _) (wpAny_pure ?_)
  refine wpAny_bind (wpAny_mono hs (fun b s' h => ?_) fun e s' h => h)
  exact wpAny_pure h
def rBoolO (C : Addr) (sp : Sp) : List V → Hp → VK → Prop := fun xs H Q => ∃ a dx fs, xs = [.ref a] ∧ H a = some (.ins C dx fs) ∧ sp [.ref a] H (fun v H' => ∃ b : Bool, v = .bl b ∧ Q (.bl b) H') E0
theorem call_boolO (M : SpM X.K C "__bool__" f) (F : FnOk X.prog X.w X.K X.mg X.base (L2.CX X.prog X.w) k f fd ps sp) (hb : Binds X.K fd ps []) (hr : Room (k + 2) X.A) : CallR X (.type "bool") (rBoolO C sp) := by
  intro pins s σ H xs us Q I r h
  obtain ⟨a, dx, fs, rfl, ha, q⟩ := h
  rw [Vals.ref1 r]
  refine callType_newIn PySem.F.called_bool PySem.F.newNe_bool (PySem.F.typeCall_bool_1 _) (PySem.F.newCall_bool_1 _) (fun obj => PySem.F.args_object_init_2 obj _) PySem.F.entry_bool_new (meets_bool_own X.prog X.w a) ?_
  show wpAny (model X.prog X.w) X.A.in1.in1 (truthy (.ref a)) _ _ s
  unfold truthy
  refine wpAny_bind (m := callSpecial? (.ref a) (Str.ofString "__bool__")) (special_own I ha M (thn (run_in2 (vs := [.ref a]) F hr hb I (.cons rfl .nil) q) fun u s1 ⟨v, H1, I1, rv, b, e, q⟩ => ?_))
  subst e
  obtain rfl : u = Value.bool b := rv
  exact wpAny_pure ⟨rfl, .bl b, H1, I1, rfl, q⟩
end
end Mv
set_option Elab.async false
set_option linter.all false
set_option maxRecDepth 100000
set_option maxHeartbeats 1000000
namespace Mv
open PySem PySem.Spec PyProof.Rows L2
section
variable {X : Cx} {j k : Nat} {C : Addr} {f : Str} {sp : Sp} {e : Expr} {pos : Pos} {ta : TE}
/-- a property of the class at C -/
structure PropX (P : Program) (w : World) (K : PySem.W.Frag) (mg : Str → Option Value) (base : Heap) (k : Nat) (C : Addr) (f : Str) (sp : Sp) : Prop where
  ex : ∃ (p g : Addr) (fd : FuncData) (ps : List Str), Cls K C ∧ PropOf K C f p g ∧ FnOk P w K mg base (L2.CX P w) k g fd ps sp ∧ Binds K fd ps []
theorem pe_propX (c : PropX X.prog X.w X.K X.mg X.base k C f sp) (hr : Room j X.A) (hk : k + 1 ≤ j) (he : PE X e ta) (hab : attributeBase e f X.env (eval e X.env) = eval e X.env := by rfl) : PE X (.Attribute e f pos) (tProp C sp [] E0 ta) := by
  obtain ⟨p, g, fd, ps, h1, h2, h3, h4⟩ := c.ex
  exact pe_prop he h1 h2 h3 (hr.mono hk) h4 .nil passN hab
/-- bool(o) -/
structure BoolX (P : Program) (w : World) (K : PySem.W.Frag) (mg : Str → Option Value) (base : Heap) (k : Nat) (C : Addr) (sp : Sp) : Prop where
  ex : ∃ (f : Addr) (fd : FuncData) (ps : List Str), FnOk P w K mg base (L2.CX P w) k f fd ps sp ∧ SpM K C "__bool__" f ∧ Binds K fd ps []
theorem cr_boolX (c : BoolX X.prog X.w X.K X.mg X.base k C sp) (hr : Room j X.A) (hk : k + 2 ≤ j) : CallR X (.type "bool") (rBoolO C sp) := by
  obtain ⟨f, fd, ps, F, M, b⟩ := c.ex
  exact call_boolO M F b (hr.mono hk)
/-- of a name that holds one of several defs -/
theorem pe_callX {M : Addr → Option Sp} {i : Nat} {x : Str} {p pos : Pos} {es : List Expr} {t : TA} (h : ∀ f sp, M f = some sp → Held X.prog X.w X.K X.mg X.base k f sp) (hr : Room j X.A) (hk : k ≤ j) (hN : X.N[i]? = some x) (hv : Vis X.env.scope x) (ha : PA X (e :: es) t)
    (hdb : (x == ("__debug__" : Str)) = false := by decide) (hcd : (x == ("__classdict__" : Str)) = false := by decide)
    (he : starEach (e :: es) X.env = (false, eval e X.env) :: starEach es X.env := by rfl) (hpl : (backTo pos (starEach es X.env)).any (·.1) = false := by rfl) : PE X (.Call (.Name x p) (e :: es) [] pos) (tCallA i M t) := pe_callA h (hr.mono hk) hN hv ha hdb hcd he hpl
end
end Mv
namespace DL
open PySem PySem.Spec PyProof.Rows L2 Mv
open PySem.W (EachIs AllAlike Sortable dataLe)
section
variable {T : List (Addr × Str)} {K : PySem.W.Frag} {E : L2.St → XK} {A A' B : Addr → Prop} {P : Par} {Z Z' H H1 H2 H' : Hp} {σ σ' : L2.St} {s s1 s2 s' : SS} {vs us : List V} {rs qs : List R} {ts us' : List Addr} {Ed : EC} {v : V} {r : R}
/-! ### sorted of data -/
def pyD (d : D) : PyData := (py d).getD .none
def okSort (xs : List D) : Prop := (∀ x ∈ xs, ∃ p, py x = some p ∧ p.depth ≤ 60) ∧ AllAlike (xs.map pyD) ∧ Sortable (xs.map pyD)
def sortDt (xs : List D) : List D := xs.mergeSort (dataLe false pyD)
def xSortDt : DCs := fun ds Q => ∃ xs, ds = [.lst xs] ∧ okSort xs ∧ Q (.o (.lst (sortDt xs)))
theorem pairU_of {G G' : Hp} (x : LamX.ExtN G G') : ∀ {vs : List V} {xs : List D}, Rps K G vs xs → (∀ x ∈ xs, ∃ p, py x = some p ∧ p.depth ≤ 60) → PairU (fun v d => Rp K G v d ∧ Dp K G' v (pyD d)) vs xs
  | _, _, .nil, _ => .nil
  | _, _, .cons h r, f => by
    obtain ⟨p, e, _⟩ := f _ List.mem_cons_self
    refine .cons ⟨h, ?_⟩ (pairU_of x r fun y hy => f y (List.mem_cons_of_mem _ hy))
    unfold pyD
    rw [e]
    exact Dp.extG x (h.dp e)
theorem of_pairU {G : Hp} : ∀ {vs : List V} {xs : List D}, PairU (fun v d => Rp K G v d) vs xs → Rps K G vs xs
  | _, _, .nil => .nil
  | _, _, .cons h r => .cons h (of_pairU r)
theorem lr_sortDt : LRC K (rSortData K) xSortDt := fun hid H vs ds Qd Q ho hv ⟨xs, e1, ⟨h1, h2, h3⟩, q⟩ k => by
  subst e1
  obtain ⟨v, rfl, hr⟩ := hv.one
  obtain ⟨a, ws, rfl, g1, g2⟩ := hr.lst
  refine ⟨D, fun v d => Rp K (res hid H) v d, pyD, a, ws, xs, rfl, .inl (.inl g1), pairU_of res_all g2 h1, h2, h3, fun b hb => ?_, fun ys p hp hn => k _ _ _ (newR_lst ho hn (of_pairU hp)) q⟩
  obtain ⟨p, e, hd⟩ := h1 b hb
  unfold pyD
  rw [e]
  exact hd
/-! ### properties, bool(o) -/
def dProp (C : Addr) (spd : DSp) (d0 : DE) : DE := fun s Q E => d0 s (fun r0 s1 => (∃ gs, vw s1 r0 = some (.ins C gs)) ∧ ∃ as, toArgs s1 [r0] = some as ∧ spd as (fun r as' => Q r (back s1 [r0] as')) noX) E
theorem lift_prop {C : Addr} {spd : DSp} {t0 : TE} {d0 : DE} (h0 : LiftE T K E t0 d0) : LiftE T K E (tProp C (liftSp T K spd) [] E0 t0) (dProp C spd d0) := fun A P Z σ s H Qd Ed Q S h k x =>
  h0 A P Z σ s H _ Ed _ S h (fun w H1 r0 ts s1 p ⟨⟨gs, e0⟩, as, e, q⟩ => by
    obtain ⟨a, dx, fs, rfl, g1, g2, g3⟩ := (p.tr.rb p.st e0).ins
    have S1 := post_test (p.drop S.pa) S
    have nd : (bws [r0]).Nodup := by cases r0 <;> simp [bws]
    have ar := p.args S e nd (dvs := []) (dds := []) (fun _ => .nil)
    rw [List.append_nil, List.map_nil, List.append_nil] at ar
    refine ⟨a, dx, fs, rfl, g1, Hid A σ s1, as, _, _, ar, S1.rok, S1.tb, q, fun r as' v H' q c => ?_, fun ex as' cls d H' q _ _ => q⟩
    have c' : RetP T K (Hid A σ s1) ([V.ref a] ++ []) (as ++ ([] : List D).map SV.d) as' H1 H' v r := by
      rw [List.append_nil, List.map_nil, List.append_nil]
      exact c
    obtain ⟨ts', p2⟩ := p.ret S e nd (dvs := []) (dds := []) (fun _ => .nil) c'
    exact k _ _ _ _ _ p2 q) x
def dBoolO (C : Addr) (spd : DSp) (da : DE) : DE := fun s Q E => da s (fun r0 s1 => (∃ gs, vw s1 r0 = some (.ins C gs)) ∧ ∃ as, toArgs s1 [r0] = some as ∧ spd as (fun r as' => ∃ b : Bool, r = .d (.bl b) ∧ Q (.d (.bl b)) (back s1 [r0] as')) noX) E
theorem lift_boolO {C : Addr} {spd : DSp} {t0 : TE} {d0 : DE} (h0 : LiftE T K E t0 d0) : LiftE T K E (tCB (rBoolO C (liftSp T K spd)) (tCons t0 tNil)) (dBoolO C spd d0) := fun A P Z σ s H Qd Ed Q S h k x =>
  h0 A P Z σ s H _ Ed _ S h (fun w H1 r0 ts s1 p ⟨⟨gs, e0⟩, as, e, q⟩ => by
    obtain ⟨a, dx, fs, rfl, g1, g2, g3⟩ := (p.tr.rb p.st e0).ins
    have S1 := post_test (p.drop S.pa) S
    have nd : (bws [r0]).Nodup := by cases r0 <;> simp [bws]
    have ar := p.args S e nd (dvs := []) (dds := []) (fun _ => .nil)
    rw [List.append_nil, List.map_nil, List.append_nil] at ar
    refine ⟨a, dx, fs, rfl, g1, Hid A σ s1, as, _, _, ar, S1.rok, S1.tb, q, fun r as' v H' q c => ?_, fun ex as' cls d H' q _ _ => q⟩
    obtain ⟨b, rfl, q⟩ := q
    have ev : v = .bl b := by
      have c2 := c.2
      cases c2
      rfl
    have c' : RetP T K (Hid A σ s1) ([V.ref a] ++ []) (as ++ ([] : List D).map SV.d) as' H1 H' v (.d (.bl b)) := by
      rw [List.append_nil, List.map_nil, List.append_nil]
      exact c
    obtain ⟨ts', p2⟩ := p.ret S e nd (dvs := []) (dds := []) (fun _ => .nil) c'
    exact ⟨b, ev, by rw [← ev]; exact k _ _ _ _ _ p2 q⟩) x
/-- the readings, with the tPar that keeps new objects -/
def tPar2 (i j : Nat) (ta : TA) : TS := tPar i j ta
theorem lift_par2' {i j : Nat} {ta : TA} {da : DA} (ha : LiftA T K E ta da) : LiftS T K E (tPar2 i j ta) (dPar2 i j da) := lift_par2 ha
/-! ### evaluation -/
def dListN_e : True := trivial
theorem dProp_e {C : Addr} {spd : DSp} {d0 : DE} {s : SS} {Q : R → SS → Prop} {E : EC} : dProp C spd d0 s Q E = d0 s (fun r0 s1 => (∃ gs, vw s1 r0 = some (.ins C gs)) ∧ match toArgs s1 [r0] with | some as => stop1 as (fun as => spd as (fun r as' => Q r (back s1 [r0] as')) noX) ⟨⟩ | none => False) E := by
  unfold dProp
  congr 1
  funext r0 s1
  rw [ev1]
  cases toArgs s1 [r0] <;> rfl
theorem dBoolO_e {C : Addr} {spd : DSp} {d0 : DE} {s : SS} {Q : R → SS → Prop} {E : EC} : dBoolO C spd d0 s Q E = d0 s (fun r0 s1 => (∃ gs, vw s1 r0 = some (.ins C gs)) ∧ match toArgs s1 [r0] with | some as => stop1 as (fun as => spd as (fun r as' => ∃ b : Bool, r = .d (.bl b) ∧ Q (.d (.bl b)) (back s1 [r0] as')) noX) ⟨⟩ | none => False) E := by
  unfold dBoolO
  congr 1
  funext r0 s1
  rw [ev1]
  cases toArgs s1 [r0] <;> rfl
theorem dCallA_e {M : Addr → Option DSp} {i : Nat} {da : DA} {s : SS} {Q : R → SS → Prop} {E : EC} : dCallA M i da s Q E = (match s[i]? with | some (.d (.sc (.ref f))) => (match M f with | some m => da s (fun rs s1 => match toArgs s1 rs with | some as => (bws rs).Nodup ∧ stop1 as (fun as => m as (fun r as' => Q r (back s1 rs as')) (fun _ _ => False)) ⟨⟩ | none => False) E | none => False) | _ => False) := by
  unfold dCallA
  have hda : ∀ m : DSp, (da s (fun rs s1 => ∃ as, toArgs s1 rs = some as ∧ (bws rs).Nodup ∧ m as (fun r as' => Q r (back s1 rs as')) (fun _ _ => False)) E) = (da s (fun rs s1 => match toArgs s1 rs with | some as => (bws rs).Nodup ∧ stop1 as (fun as => m as (fun r as' => Q r (back s1 rs as')) (fun _ _ => False)) ⟨⟩ | none => False) E) := fun m => by
    congr 1
    funext rs s1
    rw [ev1]
    cases toArgs s1 rs <;> rfl
  cases hs : s[i]? with
  | none => simp
  | some sv =>
    cases sv with
    | d x =>
      cases x with
      | sc v =>
        cases v with
        | ref f =>
          cases hm : M f with
          | none => simp [hm]
          | some m =>
            dsimp only
            rw [hm]
            dsimp only
            rw [← hda m]
            refine propext ⟨fun ⟨f', m', e, e2, h⟩ => ?_, fun h => ⟨f, m, rfl, hm, h⟩⟩
            cases e
            rw [hm] at e2
            cases e2
            exact h
        | _ => simp
      | _ => simp
    | _ => simp
theorem xSortDt_e {xs : List D} {Q : R → Prop} : xSortDt [.lst xs] Q = (okSort xs ∧ Q (.o (.lst (sortDt xs)))) := by simp [xSortDt]
theorem xListN_e {ks : List (D × D)} {Q : R → Prop} : xListN [.dN ks] Q = Q (.o (.lst (ks.map (·.1)))) := by simp [xListN]
theorem dGetN_e {dd dk dx : DE} {s : SS} {Q : R → SS → Prop} {E : EC} : dGetN dd dk dx s Q E = dd s (fun r0 s0 => (∃ ds, vw s0 r0 = some (.dN ds)) ∧ dk s0 (fun r1 s1 => dx s1 (fun r2 s2 => match vw s2 r0, vw s2 r1, r2 with | some (.dN ds), some x, .d z => okKey x ∧ Q (.d ((getN ds x).getD z)) s2 | _, _, _ => False) E) E) E := by
  unfold dGetN
  congr 1
  funext r0 s0
  refine congrArg (_ ∧ ·) ?_
  congr 1
  funext r1 s1
  congr 1
  funext r2 s2
  cases h1 : vw s2 r0 with
  | none => simp
  | some y =>
    cases y with
    | dN ds =>
      cases h2 : vw s2 r1 with
      | none => simp
      | some x => cases r2 <;> simp
    | _ => simp
end
end DL
set_option Elab.async false
set_option linter.all false
set_option maxRecDepth 100000
set_option maxHeartbeats 1000000
/-! evaluation of DL23 to DL25 -/
namespace DL
open PySem PySem.Spec PyProof.Rows L2 Mv
theorem dDisp1N_e {dk dv : DE} {s : SS} {Q : R → SS → Prop} {E : EC} : dDisp1N dk dv s Q E = dk s (fun r1 s1 => dv s1 (fun r2 s2 => match frzs [r1, r2] s2 with | some ([x, y], s3) => okKey x ∧ Q (.o (.dN [(x, y)])) s3 | _ => False) E) E := by
  unfold dDisp1N
  congr 1
  funext r1 s1
  congr 1
  funext r2 s2
  cases h : frzs [r1, r2] s2 with
  | none => simp
  | some p =>
    obtain ⟨l, s3⟩ := p
    rcases l with _ | ⟨x, _ | ⟨y, _ | ⟨z, l⟩⟩⟩ <;> simp [and_assoc]
theorem dPutN_e {dd dk dv : DE} {Dd : DEnds} {E : EC} {s : SS} : dPutN dd dk dv Dd E s = dv s (fun r s1 => match frz1 s1 r with
    | some (y, s2) => dd s2 (fun r0 s3 => dk s3 (fun r1 s4 => match frz1 s4 r1 with
      | some (x, s5) => (match r0 with
        | .bw i => (match s5[i]? with
          | some (.o l (.dN ds)) => okKey x ∧ ds.length < sizeLine ∧ Dd.nx (s5.set i (.o l (.dN (putDN ds x y))))
          | _ => False)
        | _ => False)
      | none => False) E) E
    | none => False) E := by
  unfold dPutN
  congr 1
  funext r s1
  cases h : frz1 s1 r with
  | none => simp
  | some p =>
    obtain ⟨y, s2⟩ := p
    simp only [Option.some.injEq, Prod.mk.injEq]
    have : ∀ (p : D → SS → Prop), (∃ y' s2', (y = y' ∧ s2 = s2') ∧ p y' s2') = p y s2 := fun p => propext ⟨fun ⟨_, _, ⟨e1, e2⟩, h⟩ => by subst e1 e2; exact h, fun h => ⟨y, s2, ⟨rfl, rfl⟩, h⟩⟩
    rw [this (fun y s2 => dd s2 _ E)]
    congr 1
    funext r0 s3
    congr 1
    funext r1 s4
    cases h2 : frz1 s4 r1 with
    | none => simp
    | some q =>
      obtain ⟨x, s5⟩ := q
      cases r0 with
      | bw i =>
        cases h3 : s5[i]? with
        | none => simp [h3]
        | some sv =>
          cases sv with
          | o l c => cases c <;> cases l <;> simp [h3, and_assoc]
          | _ => simp [h3]
      | _ => simp
theorem dKeysN_e {da : DE} {s : SS} {Rd : List D → (SS → Prop) → SS → Prop} {E : EC} : dKeysN da s Rd E = da s (fun r s1 => match frz1 s1 r with | some (.dN ds, s2) => Rd (ds.map (·.1)) kT s2 | _ => False) E := by
  unfold dKeysN
  congr 1
  funext r s1
  cases h : frz1 s1 r with
  | none => simp
  | some p =>
    obtain ⟨y, s2⟩ := p
    cases y <;> simp [and_assoc]
theorem dItemsN_e {da : DE} {s : SS} {Rd : List D → (SS → Prop) → SS → Prop} {E : EC} : dItemsN da s Rd E = da s (fun r s1 => match frz1 s1 r with | some (.dN ds, s2) => Rd (ds.map fun d => .tup [d.1, d.2]) kT s2 | _ => False) E := by
  unfold dItemsN
  congr 1
  funext r s1
  cases h : frz1 s1 r with
  | none => simp
  | some p =>
    obtain ⟨y, s2⟩ := p
    cases y <;> simp [and_assoc]
theorem dLenSet_e {da : DE} {s : SS} {Q : R → SS → Prop} {E : EC} : dLenSet da s Q E = da s (fun r s1 => match vw s1 r with | some (.lst xs) => ∃ ns : List Int, xs = ns.map D.int ∧ ns.length ≤ 1000 ∧ Q (.d (.int ((dd ns).length : Nat))) s1 | some (.tup xs) => ∃ ns : List Int, xs = ns.map D.int ∧ ns.length ≤ 1000 ∧ Q (.d (.int ((dd ns).length : Nat))) s1 | _ => False) E := by
  unfold dLenSet
  congr 1
  funext r s1
  cases h : vw s1 r with
  | none => simp
  | some y => cases y <;> simp
theorem dPar2_e {i j : Nat} {da : DA} {D : DEnds} {E : EC} {s : SS} : dPar2 i j da D E s = da s (fun rs s1 => match rs with | [r1, r2] => (match svOf r1, svOf r2 with | some x, some y => ¬ (i = j) ∧ okSet s1 i ∧ okSet (s1.set i x) j ∧ D.nx ((s1.set i x).set j y) | _, _ => False) | _ => False) E := by
  unfold dPar2
  congr 1
  funext rs s1
  rcases rs with _ | ⟨r1, _ | ⟨r2, _ | ⟨r3, l⟩⟩⟩
  · simp
  · simp
  · cases h1 : svOf r1 with
    | none => simp [h1]
    | some x =>
      cases h2 : svOf r2 with
      | none => simp [h1, h2]
      | some y =>
        dsimp only
        rw [h1, h2]
        dsimp only
        refine propext ⟨fun ⟨_, _, _, _, e, e1, e2, q⟩ => ?_, fun q => ⟨r1, r2, x, y, rfl, h1, h2, q⟩⟩
        cases e
        rw [h1] at e1
        rw [h2] at e2
        cases e1
        cases e2
        exact q
  · simp
theorem dFlatN_e {i a b : Nat} {s : SS} {Q : R → SS → Prop} {E : EC} : dFlatN i a b s Q E = (a < s.length ∧ b < s.length ∧ stop1 s (fun s => ∃ (lv : List (List (D × D))) (s1 : SS), itrL s (.bw i) = some (lv.map D.dN, kT, s1) ∧ (lv.map (·.length)).sum ≤ 4000 ∧ Q (.o (.lst (lv.flatMap fun l => l.map (·.1)))) s1) ⟨⟩) := rfl
end DL
set_option Elab.async false
set_option linter.all false
set_option maxRecDepth 100000
set_option maxHeartbeats 2000000
/-! list(zip(a, b)): the pairs are kept, so each turn makes a new one -/
namespace ZmL
open PySem PySem.Calls
open PySem.Sem (wp)
/-- the zip, the pair at a handed out and held -/
abbrev ZipO (h : Heap) (z TI TO a : Addr) (f : Bool) : Prop := h.get? z = some { cls := .type "zip", dict := none, data := .fields #[rawInt a, .bool f, .bool false, .ref TI, .ref TO], slots := #[] }
section
variable {prog : Program} {w : World} {A : Around} {E : Value → Shared → Prop} {s : Shared} {z TI TO i1 i2 : Addr} {fp1 fp2 : List Addr} {n1 n2 i : Nat} {P1 P2 : Nat → Value → Prop} {St1 St2 : Nat → Heap → Prop} {a : Addr} {f : Bool} {oa : Obj}
theorem owned_out {Q : Bool → Shared → Prop} (hz : ZipO s.heap z TI TO a f) (ha : s.heap.get? a = some oa) (h : ∀ g0 : Heap, ZipO g0 z TI TO a true → Heap.SameBut z s.heap g0 → Q false { s with heap := g0 }) :
    wpAny (model prog w) A (Builtin.SmallTypes.ownedTupleIsFree (.ref z)) Q E s := by
  unfold Builtin.SmallTypes.ownedTupleIsFree
  refine wpAny_bind (wpAny_field hz rfl (x := rawInt a) rfl ?_)
  show wpAny _ _ (loadIfAlive ((a : Int).toNat) >>= _) _ _ _
  rw [Int.toNat_natCast]
  refine wpAny_bind (PySem.W.kdx_alive ha ?_)
  simp only [Option.isNone_some, Bool.false_eq_true, if_false]
  refine wpAny_bind (wpAny_field hz rfl (x := .bool f) rfl ?_)
  cases f with
  | true =>
    rw [if_neg (show ¬ ((Value.bool true != Value.bool true) = true) from Bool.false_ne_true)]
    exact wpAny_pure (h _ hz (Heap.SameBut.refl _ _))
  | false =>
    rw [if_pos (show (Value.bool false != Value.bool true) = true from rfl)]
    exact wpAny_bind (wpAny_setField_rec hz (by simp) fun g0 hz0 hs0 => wpAny_pure (h g0 hz0 hs0))
theorem zipO_next_item {Q : Value → Shared → Prop} (S : ZipSep2 z TI TO i1 i2 fp1 fp2) (D1 : Draws prog w A i1 fp1 n1 P1 St1) (D2 : Draws prog w A i2 fp2 n2 P2 St2)
    (hz : ZipO s.heap z TI TO a f) (ha : s.heap.get? a = some oa) (hTI : IsTupOf2 s.heap TI (.ref i1) (.ref i2)) (st1 : St1 i s.heap) (st2 : St2 i s.heap) (hlt1 : i < n1) (hlt2 : i < n2)
    (hQ : ∀ x1 x2 h' tk, P1 i x1 → P2 i x2 → ZipO h' z TI TO a true → St1 (i + 1) h' → St2 (i + 1) h' → IsTupOf2 h' s.heap.objs.size x1 x2 → h'.objs.size = s.heap.objs.size + 1 →
      (∀ c o, c ≠ z → c ≠ i1 → c ≠ i2 → s.heap.get? c = some o → h'.get? c = some o) → Q (.ref s.heap.objs.size) { s with heap := h', toks := tk }) :
    wpAny (model prog w) A (Builtin.«zip.__next__» ⟨[.ref z], []⟩) (fun fin s' => ∃ v, fin = .done (.ret v) ∧ Q v s') E s := by
  obtain ⟨hp, g, d, tk0, os⟩ := s
  show wpAny _ _ (field (.ref z) 2 >>= _) _ _ _
  refine wpAny_bind (wpAny_field hz rfl (x := .bool false) rfl ?_)
  show wpAny _ _ (field (.ref z) 3 >>= _) _ _ _
  refine wpAny_bind (wpAny_field hz rfl (x := .ref TI) rfl ?_)
  refine wpAny_bind (wpAny_seqItems hTI rfl ?_)
  show wpAny _ _ (Builtin.SmallTypes.ownedTupleIsFree (.ref z) >>= _) _ _ _
  refine wpAny_bind (owned_out hz ha fun g0 hz0 hs0 => ?_)
  replace hs0 : Heap.SameBut z hp g0 := hs0
  simp only [Bool.false_eq_true, if_false]
  refine wpAny_bind ?_
  simp only [List.forIn_toArray, List.forIn_cons, List.forIn_nil]
  refine wpAny_bind ?_
  refine wpAny_bind (wpAny_holding ?_)
  show wpAny _ _ (Builtin.SmallTypes.nextOf (.ref i1) >>= _) _ _ ⟨g0, g, d, tk0, os⟩
  refine wpAny_bind (D1.item i _ _ _ hlt1 (D1.over st1 hs0 S.zf1) fun x1 p1 tk1 hx1 sn1 hp1 => wpAny_pure ?_)
  replace hp1 : Heap.SameBut i1 g0 p1 := hp1
  refine wpAny_pure ?_
  refine wpAny_bind ?_
  refine wpAny_bind (wpAny_holding ?_)
  show wpAny _ _ (Builtin.SmallTypes.nextOf (.ref i2) >>= _) _ _ ⟨p1, g, d, tk1, os⟩
  refine wpAny_bind (D2.item i _ _ _ hlt2 (D2.over (D2.over st2 hs0 S.zf2) hp1 S.sep1_2) fun x2 p2 tk2 hx2 sn2 hp2 => wpAny_pure ?_)
  replace hp2 : Heap.SameBut i2 p1 p2 := hp2
  refine wpAny_pure (wpAny_pure ?_)
  show wpAny _ _ (newTuple [x1, x2] >>= _) _ _ ⟨p2, g, d, tk2, os⟩
  refine wpAny_bind (wpAny_newTuple ?_)
  refine wpAny_pure ⟨_, rfl, ?_⟩
  have hsz : p2.objs.size = hp.objs.size := by rw [hp2.1, hp1.1, hs0.1]
  have hzz : ZipO p2 z TI TO a true := hp2.extBut _ _ S.zi2 (hp1.extBut _ _ S.zi1 hz0)
  have hkk : ∀ c o, c ≠ z → c ≠ i1 → c ≠ i2 → hp.get? c = some o → p2.get? c = some o := fun c o cz c1 c2 e => hp2.extBut _ _ c2 (hp1.extBut _ _ c1 (hs0.extBut _ _ cz e))
  have hj1 : St1 (i + 1) p2 := D1.over sn1 hp2 S.sep2_1
  show Q (.ref p2.objs.size) ⟨p2.push { cls := .type "tuple", data := .seq #[x1, x2] }, g, d, tk2, os⟩
  rw [hsz]
  refine hQ x1 x2 _ tk2 hx1 hx2 (Heap.get?_push_of_some _ hzz) (D1.frame _ _ _ hj1 fun b hb o e => Heap.get?_push_of_some _ e) (D2.frame _ _ _ sn2 fun b hb o e => Heap.get?_push_of_some _ e) ?_ ?_ fun c o cz c1 c2 e => Heap.get?_push_of_some _ (hkk c o cz c1 c2 e)
  · have this : (p2.push { cls := .type "tuple", data := .seq #[x1, x2] }).get? p2.objs.size = some _ := Heap.get?_push_size _ rfl
    rw [hsz] at this
    exact this
  · rw [Heap.size_push, hsz]
theorem zipO_next_end {Q : Fin → Shared → Prop} (S : ZipSep2 z TI TO i1 i2 fp1 fp2) (D1 : Draws prog w A i1 fp1 n1 P1 St1)
    (hz : ZipO s.heap z TI TO a f) (ha : s.heap.get? a = some oa) (hTI : IsTupOf2 s.heap TI (.ref i1) (.ref i2)) (st1 : St1 n1 s.heap)
    (hE : ∀ h' e, (∀ c o, c ≠ z → c ≠ i1 → s.heap.get? c = some o → h'.get? c = some o) → (∃ o, h'.get? e = some o ∧ o.cls = .type "StopIteration") → E (.ref e) { s with heap := h' }) :
    wpAny (model prog w) A (Builtin.«zip.__next__» ⟨[.ref z], []⟩) Q E s := by
  obtain ⟨hp, g, d, tk0, os⟩ := s
  show wpAny _ _ (field (.ref z) 2 >>= _) _ _ _
  refine wpAny_bind (wpAny_field hz rfl (x := .bool false) rfl ?_)
  show wpAny _ _ (field (.ref z) 3 >>= _) _ _ _
  refine wpAny_bind (wpAny_field hz rfl (x := .ref TI) rfl ?_)
  refine wpAny_bind (wpAny_seqItems hTI rfl ?_)
  show wpAny _ _ (Builtin.SmallTypes.ownedTupleIsFree (.ref z) >>= _) _ _ _
  refine wpAny_bind (owned_out hz ha fun g0 hz0 hs0 => ?_)
  replace hs0 : Heap.SameBut z hp g0 := hs0
  simp only [Bool.false_eq_true, if_false]
  refine wpAny_bind ?_
  simp only [List.forIn_toArray, List.forIn_cons, List.forIn_nil]
  refine wpAny_bind ?_
  refine wpAny_bind (wpAny_holding ?_)
  show wpAny _ _ (Builtin.SmallTypes.nextOf (.ref i1) >>= _) _ _ ⟨g0, g, d, tk0, os⟩
  refine wpAny_bind (D1.done ⟨g0, g, d, tk0, os⟩ _ _ (D1.over st1 hs0 S.zf1) fun q e hq he => ?_)
  replace hq : Heap.ExtBut i1 g0 q := hq
  exact hE q e (fun c o cz c1 x => hq _ _ c1 (hs0.extBut _ _ cz x)) he
theorem pyNext_zipO_item {Q : Option Value → Shared → Prop} (S : ZipSep2 z TI TO i1 i2 fp1 fp2) (D1 : Draws prog w A.in1 i1 fp1 n1 P1 St1) (D2 : Draws prog w A.in1 i2 fp2 n2 P2 St2)
    (hz : ZipO s.heap z TI TO a f) (ha : s.heap.get? a = some oa) (hTI : IsTupOf2 s.heap TI (.ref i1) (.ref i2)) (st1 : St1 i s.heap) (st2 : St2 i s.heap) (hlt1 : i < n1) (hlt2 : i < n2)
    (hQ : ∀ x1 x2 h' tk, P1 i x1 → P2 i x2 → ZipO h' z TI TO a true → St1 (i + 1) h' → St2 (i + 1) h' → IsTupOf2 h' s.heap.objs.size x1 x2 → h'.objs.size = s.heap.objs.size + 1 →
      (∀ c o, c ≠ z → c ≠ i1 → c ≠ i2 → s.heap.get? c = some o → h'.get? c = some o) → Q (some (.ref s.heap.objs.size)) { s with heap := h', toks := tk }) :
    wpAny (model prog w) A (pyNext (.ref z)) Q E s := by
  have hT : s.TypeIs (.ref z) "zip" := ⟨_, hz, rfl⟩
  unfold pyNext
  exact wpAny_bind (wpAny_attempt (wpAny_callSpecial?_slot (name := Str.ofString "__next__") hT F.slot_zip_next
    (wpAny_call_entry F.slot_zip_next hT F.entry_zip_next
      (zipO_next_item S D1 D2 hz ha hTI st1 st2 hlt1 hlt2 fun x1 x2 h' tk y1 y2 b1 d1 d2 b5 b6 b7 => wpAny_pure (hQ x1 x2 h' tk y1 y2 b1 d1 d2 b5 b6 b7)) (F.args_zip_next_1 _))))
theorem pyNext_zipO_end {Q : Option Value → Shared → Prop} (S : ZipSep2 z TI TO i1 i2 fp1 fp2) (D1 : Draws prog w A.in1 i1 fp1 n1 P1 St1)
    (hz : ZipO s.heap z TI TO a f) (ha : s.heap.get? a = some oa) (hTI : IsTupOf2 s.heap TI (.ref i1) (.ref i2)) (st1 : St1 n1 s.heap)
    (hQ : ∀ h', (∀ c o, c ≠ z → c ≠ i1 → s.heap.get? c = some o → h'.get? c = some o) → Q none { s with heap := h' }) : wpAny (model prog w) A (pyNext (.ref z)) Q E s := by
  have hT : s.TypeIs (.ref z) "zip" := ⟨_, hz, rfl⟩
  unfold pyNext
  refine wpAny_bind (wpAny_attempt (wpAny_callSpecial?_slot (name := Str.ofString "__next__") hT F.slot_zip_next
    (wpAny_call_entry F.slot_zip_next hT F.entry_zip_next (zipO_next_end S D1 hz ha hTI st1 fun h' e hk he => ?_) (F.args_zip_next_1 _))))
  obtain ⟨o, ho, hc⟩ := he
  refine wpAny_bind (wpAny_isInstance (T := "StopIteration") (b := true) ⟨o, ho, hc⟩ isSubtype_stop ?_)
  exact wpAny_pure (hQ _ hk)
/-- the zip between two turns of list(..), whose list is at L -/
def ZmSt (h : Heap) (z TI TO i1 i2 L i : Nat) : Prop := IsTupOf2 h TI (.ref i1) (.ref i2) ∧ ((i = 0 ∧ IsZip h z TI TO .none ∧ ∃ a1 a2, IsTupOf2 h TO a1 a2) ∨ ∃ a f oa, ZipO h z TI TO a f ∧ h.get? a = some oa ∧ a ≠ z ∧ a ≠ i1 ∧ a ≠ i2 ∧ a ≠ L)
theorem ZmSt.keep {h h' : Heap} {L : Addr} (x : ZmSt h z TI TO i1 i2 L i) (hk : ∀ b o, b ≠ L → h.get? b = some o → h'.get? b = some o) (hz : z ≠ L) (hT : TI ≠ L) (hO : TO ≠ L) : ZmSt h' z TI TO i1 i2 L i := by
  obtain ⟨x0, x⟩ := x
  refine ⟨hk _ _ hT x0, ?_⟩
  rcases x with ⟨e, x1, a1, a2, x2⟩ | ⟨a, f, oa, x1, x2, x3, x4, x5, x6⟩
  · exact .inl ⟨e, hk _ _ hz x1, a1, a2, hk _ _ hO x2⟩
  · exact .inr ⟨a, f, oa, hk _ _ hz x1, hk _ _ x6 x2, x3, x4, x5, x6⟩
theorem zm_item {L : Addr} {n : Nat} {Q : Option Value → Shared → Prop} (S : ZipSep2 z TI TO i1 i2 fp1 fp2) (D1 : Draws prog w A.in1 i1 fp1 n P1 St1) (D2 : Draws prog w A.in1 i2 fp2 n P2 St2)
    (hst : ZmSt s.heap z TI TO i1 i2 L i) (hL : L < s.heap.objs.size) (st1 : St1 i s.heap) (st2 : St2 i s.heap) (hlt : i < n)
    (hQ : ∀ x1 x2 h' tk, P1 i x1 → P2 i x2 → ZmSt h' z TI TO i1 i2 L (i + 1) → St1 (i + 1) h' → St2 (i + 1) h' → IsTupOf2 h' s.heap.objs.size x1 x2 → h'.objs.size = s.heap.objs.size + 1 →
      (∀ c o, c ≠ z → c ≠ TO → c ≠ i1 → c ≠ i2 → s.heap.get? c = some o → h'.get? c = some o) → Q (some (.ref s.heap.objs.size)) { s with heap := h', toks := tk }) :
    wpAny (model prog w) A (pyNext (.ref z)) Q E s := by
  obtain ⟨hTI, hst⟩ := hst
  have l1 : i1 < s.heap.objs.size := let ⟨_, e⟩ := D1.live _ _ st1; Heap.lt_size e
  have l2 : i2 < s.heap.objs.size := let ⟨_, e⟩ := D2.live _ _ st2; Heap.lt_size e
  rcases hst with ⟨rfl, hz, a1, a2, hTO⟩ | ⟨a, f, oa, hz, ha, az, ai1, ai2, aL⟩
  · have lz : z < s.heap.objs.size := Heap.lt_size hz
    exact wpAny_pyNext_zipD2_item S D1 D2 hz hTI hTO st1 st2 hlt hlt fun x1 x2 h' tk y1 y2 b1 b2 d1 d2 b5 b6 hk => hQ x1 x2 h' tk y1 y2
      ⟨hk _ _ S.TIz S.TITO S.TIi1 S.TIi2 hTI, .inr ⟨_, false, _, b1, b5, Nat.ne_of_gt lz, Nat.ne_of_gt l1, Nat.ne_of_gt l2, Nat.ne_of_gt hL⟩⟩ d1 d2 b5 b6 hk
  · exact pyNext_zipO_item S D1 D2 hz ha hTI st1 st2 hlt hlt fun x1 x2 h' tk y1 y2 b1 d1 d2 b5 b6 hk => hQ x1 x2 h' tk y1 y2
      ⟨hk _ _ S.TIz S.TIi1 S.TIi2 hTI, .inr ⟨a, true, oa, b1, hk _ _ az ai1 ai2 ha, az, ai1, ai2, aL⟩⟩ d1 d2 b5 b6 fun c o c1 _ c3 c4 e => hk c o c1 c3 c4 e
theorem zm_done {L : Addr} {n : Nat} {Q : Option Value → Shared → Prop} (S : ZipSep2 z TI TO i1 i2 fp1 fp2) (D1 : Draws prog w A.in1 i1 fp1 n P1 St1) (D2 : Draws prog w A.in1 i2 fp2 n P2 St2)
    (hst : ZmSt s.heap z TI TO i1 i2 L n) (st1 : St1 n s.heap) (st2 : St2 n s.heap)
    (hQ : ∀ h' tk, (∀ c o, c ≠ z → c ≠ TO → c ≠ i1 → c ≠ i2 → s.heap.get? c = some o → h'.get? c = some o) → Q none { s with heap := h', toks := tk }) :
    wpAny (model prog w) A (pyNext (.ref z)) Q E s := by
  obtain ⟨hTI, hst⟩ := hst
  rcases hst with ⟨rfl, hz, a1, a2, hTO⟩ | ⟨a, f, oa, hz, ha, az, ai1, ai2, aL⟩
  · exact wpAny_pyNext_zipD2_end S D1 D2 hz hTI hTO st1 st2 (Nat.le_refl _) (Nat.le_refl _) (.inl rfl) hQ
  · exact pyNext_zipO_end S D1 hz ha hTI st1 fun h' hk => hQ h' s.toks fun c o c1 _ c3 _ e => hk c o c1 c3 e
/-- the pairs that were made -/
structure ZmG (P1 P2 : Nat → Value → Prop) (lo : Addr) (h : Heap) (as : List Addr) : Prop where
  rise : as.Pairwise (· < ·)
  above : ∀ a ∈ as, lo < a
  pairs : ∀ (j : Nat) (a : Addr), as[j]? = some a → ∃ x y, P1 j x ∧ P2 j y ∧ IsTupOf2 h a x y
theorem ZmG.there {lo : Addr} {h : Heap} {as : List Addr} (g : ZmG P1 P2 lo h as) {a : Addr} (ha : a ∈ as) : a < h.objs.size := by
  obtain ⟨j, hj⟩ := List.mem_iff_getElem?.mp ha
  obtain ⟨_, _, _, _, e⟩ := g.pairs j a hj
  exact Heap.lt_size e
theorem ZmG.low {lo lo' : Addr} {h : Heap} {as : List Addr} (g : ZmG P1 P2 lo h as) (hl : lo' ≤ lo) : ZmG P1 P2 lo' h as := ⟨g.rise, fun a ha => Nat.lt_of_le_of_lt hl (g.above a ha), g.pairs⟩
end
section
variable {prog : Program} {w : World} {A : Around} {E : Value → Shared → Prop} {s : Shared} {z TI TO i1 i2 : Addr} {fp1 fp2 : List Addr} {n : Nat} {P1 P2 : Nat → Value → Prop} {St1 St2 : Nat → Heap → Prop} {R : Result → Shared → Prop}
theorem zm_loop {L : Addr} (S : ZipSep2 z TI TO i1 i2 fp1 fp2) (D1 : Draws prog w A.in1.in1 i1 fp1 n P1 St1) (D2 : Draws prog w A.in1.in1 i2 fp2 n P2 St2) (hz : z < L) (hT : TI < L) (hO : TO < L) (l1 : i1 < L) (l2 : i2 < L) (hL1 : L ∉ fp1) (hL2 : L ∉ fp2) (hn : n ≤ sizeLine) (res : Value) {h₁ : Heap}
    (hR : ∀ h' tk acc c as, (∀ b o, b ≠ L → b ≠ z → b ≠ TO → b ≠ i1 → b ≠ i2 → h₁.get? b = some o → h'.get? b = some o) → h'.get? L = some { cls := .type "list", dict := none, data := .seq acc c, slots := #[] } → as.length = n → ZmG P1 P2 L h' as →
      acc.toList = as.map Value.ref → R (.ok (.ret res)) { s with heap := h', toks := tk }) :
    ∀ (k i : Nat) (h : Heap) (tk c : Nat) (acc : Array Value) (as : List Addr), n - i = k → i ≤ n → ZmSt h z TI TO i1 i2 L i → St1 i h → St2 i h → (∀ b o, b ≠ L → b ≠ z → b ≠ TO → b ≠ i1 → b ≠ i2 → h₁.get? b = some o → h.get? b = some o) →
      h.get? L = some { cls := .type "list", dict := none, data := .seq acc c, slots := #[] } → acc.toList = as.map Value.ref → as.length = i → ZmG P1 P2 L h as →
      codeAny (model prog w) A (.builtin "list.extend.loop" ⟨[.ref L, .ref z, res], []⟩) R { s with heap := h, toks := tk } := by
  have nz := Nat.ne_of_lt hz
  have nT := Nat.ne_of_lt hT
  have nO := Nat.ne_of_lt hO
  have n1 := Nat.ne_of_lt l1
  have n2 := Nat.ne_of_lt l2
  intro k
  induction k with
  | zero =>
    intro i h tk c acc as hk hi hst st1 st2 hkeep hS hacc hal hG
    obtain rfl : i = n := by omega
    refine codeAny_builtin PySem.F.entry_extend_loop ?_
    rw [Around.under_plainId PySem.F.plain_extend_loop _]
    show wpAny _ A.in1 (pyNext (.ref z) >>= _) _ _ _
    refine wpAny_bind (zm_done (s := { s with heap := h, toks := tk }) (A := A.in1) S D1 D2 hst st1 st2 fun h' tk' he => ?_)
    refine wpAny_pure (hR h' tk' acc c as (fun b o h0 h1 h2 h3 h4 e => he b o h1 h2 h3 h4 (hkeep b o h0 h1 h2 h3 h4 e)) (he L _ nz.symm nO.symm n1.symm n2.symm hS) (by omega) ⟨hG.rise, hG.above, fun j a hj => ?_⟩ hacc)
    obtain ⟨x, y, e1, e2, e3⟩ := hG.pairs j a hj
    have hb := hG.above a (List.mem_of_getElem? hj)
    exact ⟨x, y, e1, e2, he a _ (Nat.ne_of_gt (Nat.lt_trans hz hb)) (Nat.ne_of_gt (Nat.lt_trans hO hb)) (Nat.ne_of_gt (Nat.lt_trans l1 hb)) (Nat.ne_of_gt (Nat.lt_trans l2 hb)) e3⟩
  | succ k ih =>
    intro i h tk c acc as hk hi hst st1 st2 hkeep hS hacc hal hG
    have hlt : i < n := by omega
    have hsz : acc.size = i := by rw [← Array.length_toList, hacc, List.length_map, hal]
    refine codeAny_builtin PySem.F.entry_extend_loop ?_
    rw [Around.under_plainId PySem.F.plain_extend_loop _]
    show wpAny _ A.in1 (pyNext (.ref z) >>= _) _ _ _
    refine wpAny_bind (zm_item (s := { s with heap := h, toks := tk }) (A := A.in1) (L := L) S D1 D2 hst (Heap.lt_size hS) st1 st2 hlt fun x1 x2 h' tk' hx1 hx2 hst' sn1 sn2 ht hz' hkp => ?_)
    dsimp only at ht hz' hkp ⊢
    have hS' := hkp L _ nz.symm nO.symm n1.symm n2.symm hS
    have up : ∀ b o, b ≠ L → h'.get? b = some o → (h'.update L (Obj.mapSeq (·.push (Value.ref h.objs.size)))).get? b = some o := fun b o hb e => (Heap.get?_update_other _ _ (Ne.symm hb)).trans e
    have hSl : L < h.objs.size := Heap.lt_size hS
    show wpAny _ A.in1 (updateSeq L (·.push (Value.ref h.objs.size)) >>= _) _ _ _
    refine wpAny_bind ?_
    refine wpAny_updateSeq hS' rfl (wpAny_pure ⟨plainId_quiet PySem.F.plain_extend_loop _, ih (i + 1) _ tk' _ (acc.push (Value.ref h.objs.size)) (as ++ [h.objs.size]) (by omega) hlt (hst'.keep up nz nT nO)
      (D1.frame _ _ _ sn1 fun b hb o e => up b o (fun q => hL1 (q ▸ hb)) e) (D2.frame _ _ _ sn2 fun b hb o e => up b o (fun q => hL2 (q ▸ hb)) e)
      (fun b o h0 h1 h2 h3 h4 e => up b o h0 (hkp b o h1 h2 h3 h4 (hkeep b o h0 h1 h2 h3 h4 e))) (Heap.get?_update_self _ hS' rfl) (by rw [Array.toList_push, hacc, List.map_append]; rfl) (by rw [List.length_append, hal]; rfl) ⟨?_, ?_, ?_⟩⟩) (by first | (rw [hsz]; omega) | (rw [Array.size_push, hsz]; omega)) (by first | (rw [hsz]; omega) | (rw [Array.size_push, hsz]; omega))
    · refine List.pairwise_append.mpr ⟨hG.rise, List.pairwise_singleton _ _, fun a ha b hb => ?_⟩
      rw [List.mem_singleton.mp hb]
      exact hG.there ha
    · intro a ha
      rcases List.mem_append.mp ha with ha | ha
      · exact hG.above a ha
      · rw [List.mem_singleton.mp ha]; exact hSl
    · intro j b hj
      rcases Nat.lt_trichotomy j as.length with h1 | h1 | h1
      · rw [List.getElem?_append_left h1] at hj
        obtain ⟨x', y', e1, e2, e3⟩ := hG.pairs j b hj
        have hb := hG.above b (List.mem_of_getElem? hj)
        exact ⟨x', y', e1, e2, up b _ (Nat.ne_of_gt hb) (hkp b _ (Nat.ne_of_gt (Nat.lt_trans hz hb)) (Nat.ne_of_gt (Nat.lt_trans hO hb)) (Nat.ne_of_gt (Nat.lt_trans l1 hb)) (Nat.ne_of_gt (Nat.lt_trans l2 hb)) e3)⟩
      · subst h1
        have hb : h.objs.size = b := by simpa using hj
        subst hb
        exact ⟨x1, x2, by rw [hal]; exact hx1, by rw [hal]; exact hx2, up _ _ (Nat.ne_of_gt hSl) ht⟩
      · have hnone : (as ++ [h.objs.size])[j]? = none := List.getElem?_eq_none (by rw [List.length_append, List.length_singleton]; omega)
        rw [hnone] at hj; cases hj
end
theorem zip_no_len : typeLookup (.type "zip") "__len__" = pure none := by rw [typeLookup_type, builtinLookup_eq_fast]; kernel_rfl
theorem zip_no_hint : typeLookup (.type "zip") "__length_hint__" = pure none := by rw [typeLookup_type, builtinLookup_eq_fast]; kernel_rfl
section
variable {prog : Program} {w : World} {A : Around} {E : Value → Shared → Prop} {s : Shared} {z TI TO i1 i2 : Addr} {fp1 fp2 : List Addr} {n : Nat} {P1 P2 : Nat → Value → Prop} {St1 St2 : Nat → Heap → Prop} {R : Result → Shared → Prop} {f0 : Value}
theorem zm_hint {Q : Bool → Shared → Prop} (hz : IsZip s.heap z TI TO f0) (h : Q true s) : wpAny (model prog w) A (Builtin.List.listLengthHint (.ref z)) Q E s := by
  have hT : s.TypeIs (.ref z) "zip" := ⟨_, hz, rfl⟩
  unfold Builtin.List.listLengthHint
  refine wpAny_bind (wpAny_specialOf hT zip_no_len ?_)
  show wpAny _ A (specialOf (Value.ref z) (Str.ofString "__length_hint__") >>= _) _ _ _
  refine wpAny_bind (wpAny_specialOf hT zip_no_hint ?_)
  exact wpAny_pure h
theorem zm_extend {L : Addr} (S : ZipSep2 z TI TO i1 i2 fp1 fp2) (D1 : Draws prog w A.in1.in1 i1 fp1 n P1 St1) (D2 : Draws prog w A.in1.in1 i2 fp2 n P2 St2) (hz : z < L) (hT : TI < L) (hO : TO < L) (l1 : i1 < L) (l2 : i2 < L) (hL1 : L ∉ fp1) (hL2 : L ∉ fp2) (hn : n ≤ sizeLine) (res : Value) (c₀ : Nat)
    (zz : IsZip s.heap z TI TO .none) (tt : IsTupOf2 s.heap TI (.ref i1) (.ref i2)) {a1 a2 : Value} (oo : IsTupOf2 s.heap TO a1 a2) (st1 : St1 0 s.heap) (st2 : St2 0 s.heap) (hS : s.heap.get? L = some { cls := .type "list", data := .seq #[] c₀ })
    (hR : ∀ h' tk acc c as, (∀ b o, b ≠ L → b ≠ z → b ≠ TO → b ≠ i1 → b ≠ i2 → s.heap.get? b = some o → h'.get? b = some o) → h'.get? L = some { cls := .type "list", dict := none, data := .seq acc c, slots := #[] } → as.length = n → ZmG P1 P2 L h' as →
      acc.toList = as.map Value.ref → R (.ok (.ret res)) { s with heap := h', toks := tk }) :
    wpAny (model prog w) A.in1 (Builtin.List.listExtendWith (.ref L) (.ref z) res)
      (fun fin s' => match fin with | .done f => R (.ok f) s' | .again c' => c'.quiet = true ∧ codeAny (model prog w) A c' R s') (fun e s' => R (.error e) s') s := by
  have nz := Nat.ne_of_lt hz
  unfold Builtin.List.listExtendWith
  refine wpAny_bind (wpAny_typeOf (T := "zip") ⟨_, zz, rfl⟩ ?_)
  have h1 : Builtin.List.listSameRef (.ref L) (.ref z) = false := by simp [Builtin.List.listSameRef, nz.symm]
  have h2 : (Value.type "zip" == Value.type "list") = false := by decide
  have h3 : (Value.type "zip" == Value.type "tuple") = false := by decide
  simp only [h1, h2, h3, Bool.or_false, Bool.false_eq_true, if_false]
  refine wpAny_bind (wpAny_pyIter_zip zz ?_)
  refine wpAny_bind (wpAny_holding (zm_hint zz ?_))
  refine wpAny_ite_split (fun _ => ?_) (fun q => absurd rfl q)
  refine wpAny_bind (wpAny_rule ?_)
  refine wpAny_bind ?_
  show wpAny _ _ (updateSeq L (·.push .none) >>= fun _ => updateSeq L (·.pop)) _ _ _
  refine wpAny_bind (wpAny_updateSeq hS rfl ?_)
  have hS₂ := Heap.get?_update_self (Obj.mapSeq (·.push Value.none)) hS rfl
  refine wpAny_updateSeq (hz := by seq_fits) hS₂ rfl ?_
  have hS₃ := Heap.get?_update_self (Obj.mapSeq (·.pop)) hS₂ rfl
  have up : ∀ b o, b ≠ L → s.heap.get? b = some o → ((s.heap.update L (Obj.mapSeq (·.push Value.none))).update L (Obj.mapSeq (·.pop))).get? b = some o := fun b o hb e => (Heap.get?_update_other _ _ (Ne.symm hb)).trans ((Heap.get?_update_other _ _ (Ne.symm hb)).trans e)
  refine wpAny_pure ⟨plainId_quiet PySem.F.plain_extend_loop _, ?_⟩
  exact zm_loop (s := s) S D1 D2 hz hT hO l1 l2 hL1 hL2 hn res (h₁ := s.heap) hR n 0 _ s.toks _ #[] [] (Nat.sub_zero _) (Nat.zero_le _) ⟨up _ _ (Nat.ne_of_lt hT) tt, .inl ⟨rfl, up _ _ nz zz, a1, a2, up _ _ (Nat.ne_of_lt hO) oo⟩⟩
    (D1.frame _ _ _ st1 fun b hb o e => up b o (fun q => hL1 (q ▸ hb)) e) (D2.frame _ _ _ st2 fun b hb o e => up b o (fun q => hL2 (q ▸ hb)) e) (fun b o h0 _ _ _ _ e => up b o h0 e) hS₃ rfl rfl ⟨List.Pairwise.nil, (fun _ ha => nomatch ha), (fun j a hj => by simp at hj)⟩
/-- list(zip object) -/
theorem zm_call {Q : Value → Shared → Prop} (S : ZipSep2 z TI TO i1 i2 fp1 fp2) (D1 : Draws prog w A.in1.in1.in1 i1 fp1 n P1 St1) (D2 : Draws prog w A.in1.in1.in1 i2 fp2 n P2 St2) (hL1 : ∀ b ∈ fp1, b < s.heap.objs.size) (hL2 : ∀ b ∈ fp2, b < s.heap.objs.size) (hn : n ≤ sizeLine)
    (zz : IsZip s.heap z TI TO .none) (tt : IsTupOf2 s.heap TI (.ref i1) (.ref i2)) {a1 a2 : Value} (oo : IsTupOf2 s.heap TO a1 a2) (st1 : St1 0 s.heap) (st2 : St2 0 s.heap)
    (hQ : ∀ h' tk acc c as, (∀ b o, b ≠ z → b ≠ TO → b ≠ i1 → b ≠ i2 → s.heap.get? b = some o → h'.get? b = some o) → h'.get? s.heap.objs.size = some { cls := .type "list", dict := none, data := .seq acc c, slots := #[] } → as.length = n → ZmG P1 P2 s.heap.objs.size h' as →
      acc.toList = as.map Value.ref → Q (.ref s.heap.objs.size) { s with heap := h', toks := tk }) :
    wpAny (model prog w) A (call (.type "list") [.ref z]) Q E s := by
  refine callType_codes (Q₁ := fun obj s₁ => obj = .ref s.heap.objs.size ∧ s₁ = { s with heap := s.heap.push { cls := .type "list", data := .seq #[] } }) PySem.F.called_list (PySem.F.typeCall_list_1 _) PySem.F.entry_list_init
    (code_list_new _ ⟨rfl, rfl⟩) fun obj s₁ h₁ => ?_
  obtain ⟨rfl, rfl⟩ := h₁
  have hS : (s.heap.push { cls := .type "list", data := .seq #[] }).get? s.heap.objs.size = some { cls := .type "list", data := .seq #[] } := Heap.get?_push_size _ rfl
  have up : ∀ b o, s.heap.get? b = some o → (s.heap.push { cls := .type "list", data := .seq #[] }).get? b = some o := fun b o e => Heap.get?_push_of_some _ e
  have lt : ∀ b o, s.heap.get? b = some o → b < s.heap.objs.size := fun b o e => Heap.lt_size e
  have lz := lt _ _ zz
  have lT := lt _ _ tt
  have lO := lt _ _ oo
  have g1 := hL1 _ S.mem1
  have g2 := hL2 _ S.mem2
  have m1 : s.heap.objs.size ∉ fp1 := fun q => Nat.lt_irrefl _ (hL1 _ q)
  have m2 : s.heap.objs.size ∉ fp2 := fun q => Nat.lt_irrefl _ (hL2 _ q)
  refine ⟨⟨_, hS, rfl⟩, PySem.F.args_list_init_2 _ _, ?_⟩
  show wpAny _ _ (do let old ← Builtin.List.listItems (.ref s.heap.objs.size); Builtin.List.listUpdate (.ref s.heap.objs.size) (fun _ => #[]); letGo old.toList.reverse; Builtin.List.listExtendWith (.ref s.heap.objs.size) (.ref z) .none) _ _ _
  refine wpAny_bind ?_
  unfold Builtin.List.listItems
  refine wpAny_bind (wpAny_seqItems hS rfl (wpAny_pure ?_))
  show wpAny _ _ (updateSeq s.heap.objs.size (fun _ => #[]) >>= fun _ => letGo (#[] : Array Value).toList.reverse >>= fun _ => Builtin.List.listExtendWith (.ref s.heap.objs.size) (.ref z) .none) _ _ _
  refine wpAny_bind (wpAny_updateSeq hS rfl ?_)
  have hS₂ := Heap.get?_update_self (Obj.mapSeq (fun _ => (#[] : Array Value))) hS rfl
  have oth : ∀ b o, b ≠ s.heap.objs.size → s.heap.get? b = some o → ((s.heap.push { cls := .type "list", data := .seq #[] }).update s.heap.objs.size (Obj.mapSeq (fun _ => (#[] : Array Value)))).get? b = some o :=
    fun b o hb e => (Heap.get?_update_other _ _ (Ne.symm hb)).trans (up b o e)
  refine wpAny_bind (wpAny_letGo ?_)
  refine zm_extend (A := A.in1) S D1 D2 lz lT lO g1 g2 m1 m2 hn .none _ (oth _ _ (Nat.ne_of_lt lz) zz) (oth _ _ (Nat.ne_of_lt lT) tt) (oth _ _ (Nat.ne_of_lt lO) oo) (D1.frame _ _ _ st1 fun b hb o e => oth b o (fun q => m1 (q ▸ hb)) e) (D2.frame _ _ _ st2 fun b hb o e => oth b o (fun q => m2 (q ▸ hb)) e) hS₂ fun h' tk acc c as hk hS' hl hG hacc => ?_
  exact ⟨rfl, hQ h' tk acc c as (fun b o h1 h2 h3 h4 e => hk b o (Nat.ne_of_lt (Heap.lt_size e)) h1 h2 h3 h4 (oth b o (Nat.ne_of_lt (Heap.lt_size e)) e)) hS' hl hG hacc⟩
end
end ZmL
set_option Elab.async false
set_option linter.all false
set_option maxRecDepth 100000
set_option maxHeartbeats 2000000
/-! list(zip(a, b)) by hand -/
namespace Mv
open PySem PySem.Spec PyProof.Rows L2
def putP : Hp → List Addr → List (V × V) → Hp
  | H, a :: as, p :: kvs => putP (upd H a (.tup [p.1, p.2])) as kvs
  | H, _, _ => H
theorem putP_off {b : Addr} : ∀ (as : List Addr) (kvs : List (V × V)) (H : Hp), b ∉ as → putP H as kvs b = H b
  | [], _, _, _ => rfl
  | _ :: _, [], _, _ => rfl
  | a :: as, p :: kvs, H, h => by
    show putP (upd H a (.tup [p.1, p.2])) as kvs b = H b
    rw [putP_off as kvs _ (fun z => h (List.mem_cons_of_mem _ z)), upd_ne (fun z => h (by rw [z]; exact List.mem_cons_self))]
theorem putP_at : ∀ (as : List Addr) (kvs : List (V × V)) (H : Hp), as.length = kvs.length → as.Nodup → Paired (fun (t : Addr) (p : V × V) => putP H as kvs t = some (.tup [p.1, p.2])) as kvs
  | [], [], _, _, _ => .nil
  | [], _ :: _, _, h, _ => by cases h
  | _ :: _, [], _, h, _ => by cases h
  | a :: as, p :: kvs, H, h, hn => by
    have hn' := List.nodup_cons.mp hn
    have ih := putP_at as kvs (upd H a (.tup [p.1, p.2])) (Nat.succ.inj h) hn'.2
    refine .cons ?_ ih
    show putP (upd H a (.tup [p.1, p.2])) as kvs a = some (.tup [p.1, p.2])
    rw [putP_off as kvs _ hn'.1, upd_same]
def rListZip (K : PySem.W.Frag) : List V → Hp → VK → Prop := fun vs H Q => ∃ a b xs ys, vs = [.ref a, .ref b] ∧ (SqL K H a xs ∨ SqT K H a xs) ∧ (SqL K H b ys ∨ SqT K H b ys) ∧ xs.length = ys.length ∧
  ∀ (H' : Hp) (p : Addr) (ts : List Addr), (∀ b o, H b = some o → H' b = some o) → H p = none → (∀ t ∈ ts, H t = none) → p ∉ ts → H' p = some (.lst (ts.map V.ref)) → Paired (fun (t : Addr) (q : V × V) => H' t = some (.tup [q.1, q.2])) ts (xs.zip ys) → Q (.ref p) H'
section
variable {X : Cx} {pins : List (Addr × Obj)} {σ : L2.St} {H : Hp} {s : Shared}
theorem pairs_laid {h' : Heap} {tk p : Nat} {xs ys : List V} {us ws : List Value} {acc : Array Value} {c : Nat} {as : List Addr} (I : Inv X pins σ H s) (hxs : xs.length ≤ sizeLine) (hl : xs.length = ys.length) (rx : Vals xs us) (ry : Vals ys ws) (hp : s.heap.objs.size ≤ p)
    (hk : ∀ b o, s.heap.get? b = some o → h'.get? b = some o) (hS : h'.get? p = some { cls := .type "list", dict := none, data := .seq acc c, slots := #[] }) (ha : as.length = xs.length) (hG : ZmL.ZmG (fun i v => us.toArray[i]? = some v) (fun i v => ws.toArray[i]? = some v) p h' as) (hacc : acc.toList = as.map Value.ref) :
    ∃ H' : Hp, (∀ b o, H b = some o → H' b = some o) ∧ H p = none ∧ (∀ t ∈ as, H t = none) ∧ p ∉ as ∧ H' p = some (.lst (as.map V.ref)) ∧ Paired (fun (t : Addr) (q : V × V) => H' t = some (.tup [q.1, q.2])) as (xs.zip ys) ∧ Inv X pins σ H' { s with heap := h', toks := tk } := by
  have lz : as.length = (xs.zip ys).length := by rw [List.length_zip]; omega
  have hSn : p ∉ as := fun z => Nat.lt_irrefl _ (hG.above _ z)
  have nd : as.Nodup := List.Pairwise.imp (fun {a b} (h : a < b) => Nat.ne_of_lt h) hG.rise
  have new : ∀ t ∈ as, H t = none := fun t ht => I.hok.fresh (Nat.le_of_lt (Nat.lt_of_le_of_lt hp (hG.above t ht)))
  have newS : H p = none := I.hok.fresh hp
  have atP := putP_at as (xs.zip ys) (upd H p (.lst (as.map V.ref))) lz nd
  have off : ∀ b, b ∉ as → b ≠ p → putP (upd H p (.lst (as.map V.ref))) as (xs.zip ys) b = H b := fun b h1 h2 => by rw [putP_off as _ _ h1, upd_ne h2]
  have low : ∀ b o, s.heap.get? b = some o → b ∉ as ∧ b ≠ p := fun b o e => ⟨fun z => absurd (Heap.lt_size e) (Nat.not_lt.mpr (Nat.le_of_lt (Nat.lt_of_le_of_lt hp (hG.above b z)))), fun z => absurd (Heap.lt_size e) (Nat.not_lt.mpr (by rw [z]; exact hp))⟩
  have kp : ∀ b u, H b = some u → (putP (upd H p (.lst (as.map V.ref))) as (xs.zip ys)) b = some u := fun b u e => by
    rw [off b (fun z => by rw [new b z] at e; cases e) (fun z => by rw [z, newS] at e; cases e)]
    exact e
  have eS : putP (upd H p (.lst (as.map V.ref))) as (xs.zip ys) p = some (.lst (as.map V.ref)) := by rw [putP_off as _ _ hSn, upd_same]
  refine ⟨putP (upd H p (.lst (as.map V.ref))) as (xs.zip ys), kp, newS, new, hSn, eS, atP, ?_⟩
  refine I.call' (ch := []) rfl ⟨fun b o q _ _ _ => hk b o q, fun b o q _ _ _ => ⟨o.slots, hk b o q⟩, fun b o q n _ => ?_, fun b o q _ => ⟨o, hk b o q⟩, fun b xs q => kp b _ q, fun b o u q => kp b _ q, fun b ps q => ⟨#[], by rw [kp b _ q]; simp⟩⟩ (fun b u q => ?_) I.bare fun b z => by simp at z
  · obtain ⟨z1, z2⟩ := low b o q
    rw [off b z1 z2]
    exact n
  · by_cases hb : b ∈ as
    · obtain ⟨j, pk, e1, e2, e3⟩ := LiI.paired_ix atP hb
      rw [e3] at q
      cases q
      obtain ⟨x, y, f1, f2, f3⟩ := hG.pairs j b e1
      have e2' : xs[j]? = some pk.1 ∧ ys[j]? = some pk.2 := by
        rw [List.zip, List.getElem?_zipWith] at e2
        cases hx : xs[j]? with
        | none => rw [hx] at e2; cases e2
        | some x' =>
          cases hy : ys[j]? with
          | none => rw [hx, hy] at e2; cases e2
          | some y' =>
            rw [hx, hy] at e2
            cases e2
            exact ⟨rfl, rfl⟩
      obtain ⟨u1, g1, r1⟩ := rx.get e2'.1
      obtain ⟨u2, g2, r2⟩ := ry.get e2'.2
      rw [List.getElem?_toArray] at f1 f2
      rw [g1] at f1
      rw [g2] at f2
      cases f1
      cases f2
      exact ⟨by show 2 ≤ sizeLine; decide, [_, _], .cons r1 (.cons r2 .nil), ⟨_, f3, rfl, _, rfl⟩⟩
    · by_cases hb2 : b = p
      · rw [hb2] at q ⊢
        rw [eS] at q
        cases q
        refine ⟨by rw [List.length_map]; omega, acc.toList, c, by rw [hacc]; exact LiI.vals_refs as, ?_⟩
        rw [Array.toArray_toList]
        exact hS
      · rw [off b hb hb2] at q
        exact (I.hok b u q).stay (fun d v _ y => hk d v y) (fun d y => kp d _ y) fun d xs y => kp d _ y
/-- what begins at a list or a tuple -/
theorem it_of {prog : Program} {w : World} {h : Heap} {a : Addr} {items : Array Value} (x : h.IsList a items ∨ h.IsTuple a items) : ∃ (o : Obj) (Hh : Heap → Prop), Begins (.ref a) o Hh ∧ Hh h ∧
    ∀ it, a ≠ it → ∃ St : Nat → Heap → Prop, (∀ A : Around, A.handled = none → Draws prog w A it [it, a] items.size (fun i v => items[i]? = some v) St) ∧ ∀ h', h'.get? it = some o → Hh h' → St 0 h' := by
  rcases x with x | x
  · refine ⟨_, _, begins_list a items, x, fun it n => ⟨_, fun A hA => Draws.list hA it a n items, fun h' e e2 => ⟨⟨_, e, rfl, rfl⟩, e2⟩⟩⟩
  · refine ⟨_, _, begins_tuple a items, x, fun it n => ⟨_, fun A hA => Draws.tuple hA it a n items, fun h' e e2 => ⟨⟨_, e, rfl, rfl⟩, e2⟩⟩⟩
end
section
variable {X : Cx} {e e2 : Expr} {ta : TA} {p q cpos pos : Pos}
/-- list(zip(e, e2)) -/
theorem pe_listZip (hc : X.calm = true) (hg : Gl X "list") (hm : X.mg "list" = none) (hg2 : Gl X "zip") (hm2 : X.mg "zip" = none) (ha : PA X [e, e2] ta)
    (hs : starEach [.Call (.Name "zip" q) [e, e2] [] cpos] X.env = (false, eval (.Call (.Name "zip" q) [e, e2] [] cpos) X.env) :: starEach [] X.env := by rfl)
    (hs2 : starEach [e, e2] X.env = (false, eval e X.env) :: starEach [e2] X.env := by rfl) (hpl : (backTo cpos (starEach [e2] X.env)).any (·.1) = false := by rfl) :
    PE X (.Call (.Name "list" p) [.Call (.Name "zip" q) [e, e2] [] cpos] [] pos) (tCB (rListZip X.K) ta) := by
  refine ⟨fun pins s σ H Q I h => ?_⟩
  refine wpAny_Call_Name_kw (ld_blt I hg hm (show bootBuiltins "list" = some (.type "list") by decide +kernel) ?_)
  refine PyProof.Rows.callWith_type1 ?_ hs rfl
  rw [hs]
  show wpAny _ _ (spliced ((false, eval (.Call (.Name "zip" q) [e, e2] [] cpos) X.env) :: backTo pos (starEach [] X.env))) _ _ s
  refine Calls.spliced_cons ?_
  refine Call_ (ld_blt I hg2 hm2 PyProof.Rows.boot_zip (PyProof.Rows.callWith_type1 (thn (ha.run cpos pins s σ H _ I h) fun us s1 ⟨vs, H1, I1, r1, q1⟩ => ?_) hs2 hpl))
  obtain ⟨a, b, xs, ys, ex, hqx, hqy, hl, q1⟩ := q1
  subst ex
  cases r1 with
  | cons r rr =>
    cases rr with
    | cons r' rr =>
      cases rr
      cases r
      cases r'
      obtain ⟨its, rv, px, hxs⟩ : ∃ its : List Value, Vals xs its ∧ (s1.heap.IsList a its.toArray ∨ s1.heap.IsTuple a its.toArray) ∧ xs.length ≤ sizeLine := by
        rcases hqx with hqx | hqx
        · obtain ⟨its, rv, p1, z⟩ := I1.list hqx
          exact ⟨its, rv, .inl p1.isList, z⟩
        · obtain ⟨its, rv, p1, z⟩ := I1.tuple hqx
          exact ⟨its, rv, .inr p1, z⟩
      obtain ⟨its2, rv2, py, hys⟩ : ∃ its : List Value, Vals ys its ∧ (s1.heap.IsList b its.toArray ∨ s1.heap.IsTuple b its.toArray) ∧ ys.length ≤ sizeLine := by
        rcases hqy with hqy | hqy
        · obtain ⟨its, rv, p1, z⟩ := I1.list hqy
          exact ⟨its, rv, .inl p1.isList, z⟩
        · obtain ⟨its, rv, p1, z⟩ := I1.tuple hqy
          exact ⟨its, rv, .inr p1, z⟩
      have la : a < s1.heap.objs.size := by
        rcases px with ⟨_, z, _⟩ | ⟨_, z, _⟩ <;> exact Heap.lt_size z
      have lb : b < s1.heap.objs.size := by
        rcases py with ⟨_, z, _⟩ | ⟨_, z, _⟩ <;> exact Heap.lt_size z
      obtain ⟨o1, Hh1, B1, k1, d1⟩ := it_of (prog := X.prog) (w := X.w) px
      obtain ⟨o2, Hh2, B2, k2, d2⟩ := it_of (prog := X.prog) (w := X.w) py
      obtain ⟨St1, D1, t1⟩ := d1 s1.heap.objs.size (Nat.ne_of_lt la)
      obtain ⟨St2, D2, t2⟩ := d2 (s1.heap.objs.size + 1) (Nat.ne_of_lt (Nat.lt_succ_of_lt lb))
      have hh := I.ok.hd hc
      refine zip_begins2 B1 B2 k1 k2 fun h' hz hTI hTO g1 g2 hsz hk => ?_
      refine Calls.spliced_nil ?_
      have hn : its2.toArray.size = its.toArray.size := by
        have e1 := rv.length
        have e2 := rv2.length
        simp
        omega
      have D2' : ∀ A : Around, A.handled = none → Draws X.prog X.w A (s1.heap.objs.size + 1) [s1.heap.objs.size + 1, b] its.toArray.size (fun i v => its2.toArray[i]? = some v) St2 := fun A hA => by
        rw [← hn]
        exact D2 A hA
      have S : ZipSep2 (s1.heap.objs.size + 4) (s1.heap.objs.size + 2) (s1.heap.objs.size + 3) s1.heap.objs.size (s1.heap.objs.size + 1) [s1.heap.objs.size, a] [s1.heap.objs.size + 1, b] := by
        generalize s1.heap.objs.size = n at la lb
        have la' : @LT.lt Nat instLTNat a n := la
        have lb' : @LT.lt Nat instLTNat b n := lb
        refine ⟨?_, ?_, ?_, ?_, by simp, ?_, ?_, ?_, by simp, ?_, ?_, ?_, ?_⟩ <;> simp only [List.mem_cons, List.not_mem_nil, or_false, not_or, ne_eq] <;> first | (show ¬ (@Eq Nat _ _); omega) | (refine ⟨?_, ?_⟩ <;> (show ¬ (@Eq Nat _ _); omega))
      refine ZmL.zm_call (s := { s1 with heap := h' }) S (D1 _ hh) (D2' _ hh) ?_ ?_ (by simp; have := rv.length; omega) hz hTI hTO (t1 _ g1 (B1.keeps _ _ k1 hk)) (t2 _ g2 (B2.keeps _ _ k2 hk)) fun h'' tk acc c as hk2 hS hal hG hacc => ?_
      · intro c hc
        show c < h'.objs.size
        rw [hsz]
        rcases List.mem_cons.mp hc with z | z
        · rw [z]; exact Nat.lt_add_of_pos_right (by decide)
        · rw [List.mem_singleton.mp z]; exact Nat.lt_of_lt_of_le la (Nat.le_add_right _ _)
      · intro c hc
        show c < h'.objs.size
        rw [hsz]
        rcases List.mem_cons.mp hc with z | z
        · rw [z]; exact Nat.add_lt_add_left (by decide) _
        · rw [List.mem_singleton.mp z]; exact Nat.lt_of_lt_of_le lb (Nat.le_add_right _ _)
      · have hks : ∀ c o, s1.heap.get? c = some o → h''.get? c = some o := fun c o e => by
          have lc := Heap.lt_size e
          refine hk2 c o ?_ ?_ ?_ ?_ (hk c o e)
          · exact Nat.ne_of_lt (Nat.lt_of_lt_of_le lc (Nat.le_add_right _ _))
          · exact Nat.ne_of_lt (Nat.lt_of_lt_of_le lc (Nat.le_add_right _ _))
          · exact Nat.ne_of_lt lc
          · exact Nat.ne_of_lt (Nat.lt_of_lt_of_le lc (Nat.le_add_right _ _))
        have hps : s1.heap.objs.size ≤ h'.objs.size := by rw [hsz]; exact Nat.le_add_right _ _
        have eal : as.length = xs.length := by
          have := rv.length
          rw [hal]
          simp
          omega
        obtain ⟨H', j1, j2, j3, j4, j5, j6, J⟩ := pairs_laid (tk := tk) I1 hxs hl rv rv2 hps hks hS eal hG hacc
        exact ⟨.ref h'.objs.size, H', J, rfl, q1 H' _ as j1 j2 j3 j4 j5 j6⟩
end
end Mv
set_option Elab.async false
set_option linter.all false
set_option maxRecDepth 100000
set_option maxHeartbeats 1000000
/-! list(zip(a, b)) -/
namespace DL
open PySem PySem.Spec PyProof.Rows L2 Mv
def lsOf : D → Option (List D)
  | .lst xs => some xs
  | .tup xs => some xs
  | _ => none
def xListZip : DCs := fun ds Q => ∃ x y xs ys, ds = [x, y] ∧ lsOf x = some xs ∧ lsOf y = some ys ∧ xs.length = ys.length ∧ Q (.o (.lst (zipL xs ys)))
section
variable {K : PySem.W.Frag} {hid : Addr → Prop} {H : Hp} {v : V}
theorem RB.lsOf {x : D} {xs : List D} (h : RB K (res hid H) H v x) (e : lsOf x = some xs) : ∃ a vs, v = .ref a ∧ (SqL K H a vs ∨ SqT K H a vs) ∧ Rps K (res hid H) vs xs := by
  cases x with
  | lst ys =>
    cases e
    obtain ⟨a, vs, rfl, h1, h2⟩ := h.lst
    exact ⟨a, vs, rfl, .inl (.inl (.inl h1)), h2⟩
  | tup ys =>
    cases e
    obtain ⟨a, vs, rfl, h1, _, h2⟩ := h.tup
    exact ⟨a, vs, rfl, .inr h1, h2⟩
  | _ => cases e
theorem rps_pairs {G : Hp} : ∀ {ts : List Addr} {vs us : List V} {xs ys : List D}, Paired (fun (t : Addr) (q : V × V) => SqT K G t [q.1, q.2]) ts (vs.zip us) → Rps K G vs xs → Rps K G us ys → Rps K G (ts.map V.ref) (zipL xs ys)
  | _, [], us, xs, ys, p, hx, hy => by
    cases hx
    rw [List.zip_nil_left] at p
    cases p
    unfold zipL
    rw [List.zip_nil_left]
    exact .nil
  | _, v :: vs, [], xs, ys, p, hx, hy => by
    cases hy
    rw [List.zip_nil_right] at p
    cases p
    unfold zipL
    rw [List.zip_nil_right]
    exact .nil
  | _, v :: vs, u :: us, _, _, p, .cons h1 hx, .cons h2 hy => by
    rw [List.zip_cons_cons] at p
    cases p with
    | cons q p =>
      unfold zipL
      rw [List.zip_cons_cons, List.map_cons, List.map_cons]
      exact .cons (.tup q (.cons h1 (.cons h2 .nil))) (rps_pairs p hx hy)
theorem paired_map {α β : Type} {F F' : α → β → Prop} {as : List α} (f : ∀ a b, a ∈ as → F a b → F' a b) : ∀ {bs : List β}, Paired F as bs → Paired F' as bs := by
  induction as with
  | nil => intro bs h; cases h; exact .nil
  | cons a as ih =>
    intro bs h
    cases h with
    | cons h t => exact .cons (f _ _ List.mem_cons_self h) (ih (fun a b m => f a b (List.mem_cons_of_mem _ m)) t)
theorem lr_listZip : LRC K (rListZip K) xListZip := fun hid H vs ds Qd Q ho hv ⟨x, y, xs, ys, e1, ex, ey, hl, q⟩ k => by
  subst e1
  obtain ⟨v, u, rfl, h, h2⟩ := hv.two
  obtain ⟨a, va, rfl, g1, g2⟩ := h.lsOf ex
  obtain ⟨b, vb, rfl, g3, g4⟩ := h2.lsOf ey
  refine ⟨a, b, va, vb, rfl, g1, g3, by rw [g2.length, g4.length]; exact hl, fun H' p ts j1 j2 j3 j4 j5 j6 => k _ _ _ ?_ q⟩
  have x : LamX.ExtN (res hid H) (res (fun b => hid b ∨ b = p) H') := res_ext (M := fun _ => False) (Kp.of j1) (fun _ z => z.elim) fun b z => z.elim .inl fun z => .inr (by rw [z]; exact NwD.of j2)
  refine ⟨p, rfl, j2, j1, _, j5, rps_pairs (paired_map (fun t q m e => .inl (.inl ?_)) j6) (g2.ext x) (g4.ext x)⟩
  rw [res_eq]
  · exact e
  · rintro (z | z)
    · exact rok_new ho (j3 t m) z
    · exact j4 (z ▸ m)
theorem xListZip_e {x y : D} {Q : R → Prop} : xListZip [x, y] Q = (match lsOf x, lsOf y with | some xs, some ys => xs.length = ys.length ∧ Q (.o (.lst (zipL xs ys))) | _, _ => False) := by
  unfold xListZip
  cases hx : lsOf x with
  | none =>
    refine propext ⟨fun ⟨_, _, _, _, e, e1, _⟩ => ?_, fun h => h.elim⟩
    cases e
    rw [hx] at e1
    cases e1
  | some xs =>
    cases hy : lsOf y with
    | none =>
      refine propext ⟨fun ⟨_, _, _, _, e, _, e1, _⟩ => ?_, fun h => h.elim⟩
      cases e
      rw [hy] at e1
      cases e1
    | some ys =>
      refine propext ⟨fun ⟨_, _, _, _, e, e1, e2, h⟩ => ?_, fun h => ⟨x, y, xs, ys, rfl, hx, hy, h⟩⟩
      cases e
      rw [hx] at e1
      rw [hy] at e2
      cases e1
      cases e2
      exact h
end
end DL
set_option Elab.async false
set_option linter.all false
set_option maxRecDepth 100000
set_option maxHeartbeats 1000000
namespace DL
open PySem PySem.Spec PyProof.Rows L2 Mv
/-- a loop over range(i, j, c) -/
theorem for_rngC {gd : DGd} {tb : DS} {Dd : DEnds} {E : EC} {keep : SS → Prop} {s : SS} {lo c : Int} {n : Nat} (J : Nat → SS → Prop) (h0 : J 0 s)
    (step : ∀ k s (N : SS → Prop), k < n → J k s → (∀ s', J (k + 1) s' → N s') → keep s ∧ gd (.int (lo + (k : Int) * c)) s (fun s1 => tb { Dd with nx := N, ct := N, bk := Dd.nx } E s1)) (hn : ∀ s, J n s → keep s ∧ Dd.nx s) : dForI gd tb Dd E keep (rngC lo c n) s := by
  unfold rngC
  refine for_typed (List.range n) (fun k : Nat => D.int (lo + (k : Int) * c)) (fun done _ s => J done.length s) h0 (fun done x rest s N e hj hN => ?_) fun s hj => hn s (by rw [List.length_range] at hj; exact hj)
  have h1 : x = done.length := by
    have := congrArg (fun l : List Nat => l[done.length]?) e
    simp only [List.getElem?_append_right (Nat.le_refl _), Nat.sub_self, List.getElem?_cons_zero] at this
    have hl := congrArg List.length e
    rw [List.length_range, List.length_append, List.length_cons] at hl
    rw [List.getElem?_range (by omega)] at this
    exact (Option.some.inj this).symm
  have h2 : done.length < n := by
    have hl := congrArg List.length e
    rw [List.length_range, List.length_append, List.length_cons] at hl
    omega
  subst h1
  exact step _ s N h2 hj fun s' q => hN s' (by rw [List.length_append]; exact q)
end DL
namespace DL
open PySem PySem.Spec PyProof.Rows L2 Mv
/-- a loop that may be left by break -/
theorem for_brk {α : Type} {gd : DGd} {tb : DS} {Dd : DEnds} {E : EC} {keep : SS → Prop} {s : SS} (xs : List α) (enc : α → D) (J : List α → List α → SS → Prop) (Bc : SS → Prop) (h0 : J [] xs s)
    (step : ∀ done x rest s (N Bk : SS → Prop), xs = done ++ x :: rest → J done (x :: rest) s → (∀ s', J (done ++ [x]) rest s' → N s') → (∀ s', Bc s' → Bk s') → keep s ∧ gd (enc x) s (fun s1 => tb { Dd with nx := N, ct := N, bk := Bk } E s1))
    (hk : ∀ s, J xs [] s → keep s) (hn : ∀ s, J xs [] s ∨ Bc s → Dd.nx s) : dForI gd tb Dd E keep (xs.map enc) s :=
  for_typed xs enc J h0 (fun done x rest s N e hj hN => step done x rest s N Dd.nx e hj hN fun s' h => hn s' (.inr h)) fun s hj => ⟨hk s hj, hn s (.inl hj)⟩
end DL
set_option Elab.async false
set_option linter.all false
set_option maxRecDepth 100000
set_option maxHeartbeats 2000000
/-! sorted(d.items()), d a dict whose keys are nested tuples -/
namespace SrI
open PySem PySem.W PySem.Calls PyProof.Rows
section
variable {prog : Program} {w : World} {A : Around} {E : Value → Shared → Prop} {s : Shared} {β : Type} {bs : List β} {enc : β → PyData} {r d : Addr} {es : Array DictEntry} {ep : Nat}
theorem ix_each : ∀ {as : List Addr} {bs : List β} (pre : List Addr) (qre : List β), pre.length = qre.length → as.length = bs.length → EachIs (fun v b => ∃ (j : Nat) (a : Addr), (pre ++ as)[j]? = some a ∧ v = Value.ref a ∧ (qre ++ bs)[j]? = some b) (as.map Value.ref) bs
  | [], [], _, _, _, _ => .nil
  | [], _ :: _, _, _, _, h => by cases h
  | _ :: _, [], _, _, _, h => by cases h
  | a :: as, b :: bs, pre, qre, hl, h => by
    refine .cons ⟨pre.length, a, by simp, rfl, by rw [hl]; simp⟩ ?_
    have := ix_each (as := as) (bs := bs) (pre ++ [a]) (qre ++ [b]) (by simp [hl]) (Nat.succ.inj h)
    simpa using this
theorem sorted_items {Q : Value → Shared → Prop} (hh : A.handled = none) (hv : s.heap.IsItemsView r d) (hm : s.heap.DictRaw d es ep) (hn : es.size ≤ sizeLine) (hne : 0 < es.size) (hbs : es.size = bs.length)
    (er : ∀ (h' : Heap) (as : List Addr), (∀ b o, s.heap.get? b = some o → h'.get? b = some o) → as.length = es.size → DilG es s.heap.objs.size h' as → EachIs (fun v b => ∃ l, Reads h' v (enc b) l) (as.map Value.ref) bs)
    (hal : AllAlike (bs.map enc)) (hk : Sortable (bs.map enc)) (hu : ∀ b, b ∈ bs → A.units + 2 + (enc b).depth < cLine)
    (h : ∀ (h' : Heap) (tk : Nat) (as : List Addr) (B : Addr) (out : List Value) (n : Nat), (∀ b o, s.heap.get? b = some o → h'.get? b = some o) → as.length = es.size → DilG es s.heap.objs.size h' as → s.heap.objs.size ≤ B → (∀ a ∈ as, a < B) →
      out.length = bs.length → EachIs (fun v b => ∃ (j : Nat) (a : Addr), as[j]? = some a ∧ v = Value.ref a ∧ bs[j]? = some b) out (bs.mergeSort (dataLe false enc)) → h'.get? B = some (seqObj "list" out.toArray n) → Q (.ref B) { s with heap := h', toks := tk }) :
    wpAny (model prog w) A (call (.builtin "sorted") [.ref r]) Q E s := by
  refine call_function_entry kind_sorted plain_sorted entry_sorted (args_sorted1 _) ?_
  unfold Builtin.«sorted»
  refine wpAny_bind (m := checkCount "sorted" 1 1 _) (wpAny_pure ?_)
  refine wpAny_bind (dil_collect (A := A.in1) (es := es) (ep := ep) hh hv hm hn fun h' tk as hkp hl hG => ?_)
  have hL : (as.map Value.ref).length ≤ sizeLine := by rw [List.length_map, hl]; exact hn
  refine wpAny_bind (wpAny_newList ?_ hL)
  have ho : (h'.push (seqObj "list" (as.map Value.ref).toArray 0)).get? h'.objs.size = some (seqObj "list" (as.map Value.ref).toArray 0) := Heap.get?_push_size _ rfl
  have e1 := ix_each (as := as) (bs := bs) [] [] rfl (by rw [hl, hbs])
  have up : ∀ b o, h'.get? b = some o → (sortingHeap (h'.push (seqObj "list" (as.map Value.ref).toArray 0)) h'.objs.size (as.map Value.ref)).get? b = some o := fun b o e => sortingHeap_old (Nat.ne_of_lt (Heap.lt_size e)) (Heap.get?_push_of_some _ e)
  have er' : EachIs (fun v b => ∃ l, Reads (sortingHeap (h'.push (seqObj "list" (as.map Value.ref).toArray 0)) h'.objs.size (as.map Value.ref)) v (enc b) l) (as.map Value.ref) bs := (er h' as hkp hl hG).mono fun _ _ ⟨l, q⟩ => ⟨l, PyProof.Rows.Reads.keeps up q⟩
  refine wpAny_bind (wpAny_holding (wpAny_call_entry slot_list_sort ⟨_, ho, rfl⟩ entry_list_sort ?body (args_list_sort _)))
  case body =>
    refine list_sort_vals (s := { s with heap := h'.push (seqObj "list" (as.map Value.ref).toArray 0), toks := tk }) (κ := dataKind (sortingHeap (h'.push (seqObj "list" (as.map Value.ref).toArray 0)) h'.objs.size (as.map Value.ref)) (bs.map enc)) ho
      (SortsAt.data (s := { s with heap := sortingHeap (h'.push (seqObj "list" (as.map Value.ref).toArray 0)) h'.objs.size (as.map Value.ref), toks := tk }) (each_map (R := fun v d => ∃ l, Reads (sortingHeap (h'.push (seqObj "list" (as.map Value.ref).toArray 0)) h'.objs.size (as.map Value.ref)) v d l) enc er') hal hk (bound_map hu)) hL ⟨.none, rfl, wpAny_pure ⟨_, rfl, ?_⟩⟩
    obtain ⟨n, hn2⟩ := sortedHeap_at (out := (sortVals (dataKind (sortingHeap (h'.push (seqObj "list" (as.map Value.ref).toArray 0)) h'.objs.size (as.map Value.ref)) (bs.map enc)) false (as.map Value.ref) (as.map Value.ref)).toArray) ho
    have old : ∀ b o, h'.get? b = some o → (sortedHeap (h'.push (seqObj "list" (as.map Value.ref).toArray 0)) h'.objs.size (as.map Value.ref) (sortVals (dataKind (sortingHeap (h'.push (seqObj "list" (as.map Value.ref).toArray 0)) h'.objs.size (as.map Value.ref)) (bs.map enc)) false (as.map Value.ref) (as.map Value.ref)).toArray).get? b = some o := fun b o e => by
      have lt := Heap.lt_size e
      rw [sortedHeap_old (Nat.ne_of_lt lt) (by rw [Heap.size_push]; exact Nat.lt_succ_of_lt lt)]
      exact Heap.get?_push_of_some _ e
    refine h _ tk as h'.objs.size _ n (fun b o e => old b o (hkp b o e)) hl ⟨hG.rise, hG.above, fun j a hj => ?_⟩ ?_ (fun a ha => hG.there ha) (by rw [sortVals_length false rfl, List.length_map, hl, hbs]) (sortVals_data false e1 er' hal) hn2
    · obtain ⟨hj', e3⟩ := hG.pairs j a hj
      exact ⟨hj', old _ _ e3⟩
    · obtain ⟨a, ha⟩ : ∃ a, a ∈ as := by
        cases as with
        | nil => rw [List.length_nil] at hl; omega
        | cons a as => exact ⟨a, List.mem_cons_self⟩
      exact Nat.le_of_lt (Nat.lt_trans (hG.above a ha) (hG.there ha))
end
end SrI
namespace Mv
open PySem PySem.Spec PyProof.Rows L2
open PySem.W (EachIs AllAlike Sortable dataLe DilG)
def rSortItems (K : PySem.W.Frag) : V → Hp → VK → Prop := fun x H Q => ∃ (β : Type) (enc : β → PyData) (d : Addr) (od : Obj) (kvs : List NE) (bs : List β), x = .ref d ∧ H d = some (NDO d od kvs) ∧ 0 < kvs.length ∧
  PairU (fun (e : NE) b => ∃ k v, enc b = .tuple [k, v] ∧ Dp K H (.ref e.2.1) k ∧ Dp K H e.2.2 v) kvs bs ∧ AllAlike (bs.map enc) ∧ Sortable (bs.map enc) ∧ (∀ b ∈ bs, (enc b).depth ≤ 60) ∧
  ∀ (H' : Hp) (p : Addr) (ts : List Addr) (ys : List V), (∀ b o, H b = some o → H' b = some o) → H p = none → (∀ t ∈ ts, H t = none) → p ∉ ts → ts.length = kvs.length → (∀ (j : Nat) (t : Addr) (e : NE), ts[j]? = some t → kvs[j]? = some e → H' t = some (.tup [.ref e.2.1, e.2.2])) →
    H' p = some (.lst ys) → PairU (fun v b => ∃ (j : Nat) (t : Addr), ts[j]? = some t ∧ v = V.ref t ∧ bs[j]? = some b) ys (bs.mergeSort (dataLe false enc)) → Q (.ref p) H'
section
variable {X : Cx} {pins : List (Addr × Obj)} {σ : L2.St} {H : Hp} {s : Shared} {β : Type}
theorem outs_refs {as : List Addr} {bs : List β} : ∀ {out : List Value} {cs : List β}, EachIs (fun v b => ∃ (j : Nat) (a : Addr), as[j]? = some a ∧ v = Value.ref a ∧ bs[j]? = some b) out cs → ∃ ys : List V, Vals ys out ∧ PairU (fun v b => ∃ (j : Nat) (t : Addr), as[j]? = some t ∧ v = V.ref t ∧ bs[j]? = some b) ys cs
  | _, _, .nil => ⟨[], .nil, .nil⟩
  | _, _, .cons ⟨j, a, h1, h2, h3⟩ t => by
    obtain ⟨ys, i1, i2⟩ := outs_refs t
    exact ⟨V.ref a :: ys, .cons h2 i1, .cons ⟨j, a, h1, rfl, h3⟩ i2⟩
theorem items_sorted_laid {kvs : List NE} {es : Array DictEntry} {h' : Heap} {tk p n : Nat} {as : List Addr} {out : List Value} {ys : List V} (I : Inv X pins σ H s) (hz : kvs.length ≤ sizeLine) (hes : es.size = kvs.length) (ent : ∀ i q, kvs[i]? = some q → ∃ hi : i < es.size, es[i].key = .ref q.2.1 ∧ RelV q.2.2 es[i].val)
    (hk : ∀ b o, s.heap.get? b = some o → h'.get? b = some o) (ha : as.length = kvs.length) (hG : DilG es s.heap.objs.size h' as) (hp : s.heap.objs.size ≤ p) (hab : ∀ a ∈ as, a < p) (hol : out.length = kvs.length) (hv : Vals ys out) (hS : h'.get? p = some (PyProof.Rows.seqObj "list" out.toArray n)) :
    ∃ H' : Hp, (∀ b o, H b = some o → H' b = some o) ∧ H p = none ∧ (∀ t ∈ as, H t = none) ∧ p ∉ as ∧ (∀ (j : Nat) (t : Addr) (e : NE), as[j]? = some t → kvs[j]? = some e → H' t = some (.tup [.ref e.2.1, e.2.2])) ∧ H' p = some (.lst ys) ∧ Inv X pins σ H' { s with heap := h', toks := tk } := by
  have hSn : p ∉ as := fun z => Nat.lt_irrefl _ (hab _ z)
  have nd : as.Nodup := List.Pairwise.imp (fun {a b} (h : a < b) => Nat.ne_of_lt h) hG.rise
  have new : ∀ t ∈ as, H t = none := fun t ht => I.hok.fresh (Nat.le_of_lt (hG.above t ht))
  have newS : H p = none := I.hok.fresh hp
  obtain ⟨prs, eprs⟩ : ∃ l : List (V × V), l = kvs.map fun e => (V.ref e.2.1, e.2.2) := ⟨_, rfl⟩
  have lz : as.length = prs.length := by rw [eprs, List.length_map]; exact ha
  have atP := putP_at as prs (upd H p (.lst ys)) lz nd
  have off : ∀ b, b ∉ as → b ≠ p → putP (upd H p (.lst ys)) as prs b = H b := fun b h1 h2 => by rw [putP_off as _ _ h1, upd_ne h2]
  have low : ∀ b o, s.heap.get? b = some o → b ∉ as ∧ b ≠ p := fun b o e => ⟨fun z => absurd (Heap.lt_size e) (Nat.not_lt.mpr (Nat.le_of_lt (hG.above b z))), fun z => absurd (Heap.lt_size e) (Nat.not_lt.mpr (by rw [z]; exact hp))⟩
  have kp : ∀ b u, H b = some u → (putP (upd H p (.lst ys)) as prs) b = some u := fun b u e => by
    rw [off b (fun z => by rw [new b z] at e; cases e) (fun z => by rw [z, newS] at e; cases e)]
    exact e
  have eS : putP (upd H p (.lst ys)) as prs p = some (.lst ys) := by rw [putP_off as _ _ hSn, upd_same]
  have atJ : ∀ (j : Nat) (t : Addr) (e : NE), as[j]? = some t → kvs[j]? = some e → putP (upd H p (.lst ys)) as prs t = some (.tup [.ref e.2.1, e.2.2]) := fun j t e h1 h2 => by
    obtain ⟨q, hq, f⟩ := LiI.paired_get atP h1
    rw [eprs, List.getElem?_map, h2] at hq
    cases hq
    exact f
  refine ⟨putP (upd H p (.lst ys)) as prs, kp, newS, new, hSn, atJ, eS, ?_⟩
  refine I.call' (ch := []) rfl ⟨fun b o q _ _ _ => hk b o q, fun b o q _ _ _ => ⟨o.slots, hk b o q⟩, fun b o q n _ => ?_, fun b o q _ => ⟨o, hk b o q⟩, fun b xs q => kp b _ q, fun b o u q => kp b _ q, fun b ps q => ⟨#[], by rw [kp b _ q]; simp⟩⟩ (fun b u q => ?_) I.bare fun b z => by simp at z
  · obtain ⟨z1, z2⟩ := low b o q
    rw [off b z1 z2]
    exact n
  · by_cases hb : b ∈ as
    · obtain ⟨j, hj⟩ := List.mem_iff_getElem?.mp hb
      obtain ⟨e, he⟩ : ∃ e, kvs[j]? = some e := ⟨_, List.getElem?_eq_getElem (by have := (List.getElem?_eq_some_iff.mp hj).1; omega)⟩
      rw [atJ j b e hj he] at q
      cases q
      obtain ⟨hj', e3⟩ := hG.pairs j b hj
      obtain ⟨hi, g1, g2⟩ := ent j e he
      refine ⟨by show 2 ≤ sizeLine; decide, [es[j].key, es[j].val], .cons (show RelV (V.ref e.2.1) es[j].key from g1) (.cons g2 .nil), ⟨_, e3, rfl, _, rfl⟩⟩
    · by_cases hb2 : b = p
      · rw [hb2] at q ⊢
        rw [eS] at q
        cases q
        exact ⟨by rw [hv.length]; omega, out, n, hv, hS⟩
      · rw [off b hb hb2] at q
        exact (I.hok b u q).stay (fun d v _ y => hk d v y) (fun d y => kp d _ y) fun d xs y => kp d _ y
variable {e : Expr} {te : TE} {p apos cpos pos : Pos}
/-- sorted(e.items()) -/
theorem pe_sortItems (hu : X.A.units + 65 < cLine) (hc : X.calm = true) (he : PE X e te) (hg : Gl X "sorted") (hm : X.mg "sorted" = none) (hv : bootBuiltins "sorted" = some (.builtin "sorted")) (hbase : attributeBase e "items" X.env (eval e X.env) = eval e X.env := by rfl) (hline : (apos.endLine == cpos.line) = true := by rfl)
    (hs : starEach [.Call (.Attribute e "items" apos) [] [] cpos] X.env = (false, eval (.Call (.Attribute e "items" apos) [] [] cpos) X.env) :: starEach [] X.env := by rfl) :
    PE X (.Call (.Name "sorted" p) [.Call (.Attribute e "items" apos) [] [] cpos] [] pos) (tUn (rSortItems X.K) te) := by
  refine ⟨fun pins s σ H Q I hq => ?_⟩
  refine wpAny_Call_Name_kw (ld_blt I hg hm hv ?_)
  refine PyProof.Rows.callWith_builtin1 ?_ hs rfl
  rw [hs]
  show wpAny _ _ (spliced ((false, eval (.Call (.Attribute e "items" apos) [] [] cpos) X.env) :: backTo pos (starEach [] X.env))) _ _ s
  refine Calls.spliced_cons ?_
  refine wpAny_Call_method (T := "dict") (id := "dict.items") hbase rfl hline F.plainAttrs_dict F.slot_dict_items F.type_dict_items (thn (he.run pins s σ H _ I hq) fun u s1 ⟨x, H1, I1, rx, q1⟩ => ?_)
  obtain ⟨β, enc, d, od, kvs, bs, ex, hd, hne, hpu, hal, hk, hdep, q⟩ := q1
  subst ex
  obtain rfl : u = Value.ref d := rx
  obtain ⟨es, ep, hdt, hgd, hx, raw, hsm, hsz, hl, ent⟩ := ndo_raw I1 hd
  obtain ⟨t1, t2, _⟩ := ndo_dict I1 hd
  refine ⟨t1, t2, ?_⟩
  show wpAny _ _ (callWith cpos (.builtin "dict.items") [.ref d] [] []) _ X.xe s1
  refine method_meetsIn F.slot_dict_items F.entry_dict_items rfl (PySem.evalArgs_none ⟨rfl, t1, F.args_dict_items_1 _, _, meets_dict_items_raw d hsm, ⟨es, ep, raw⟩, ?_⟩)
  refine Calls.spliced_nil ?_
  have I2 : Inv X pins σ H1 { s1 with heap := s1.heap.push { cls := .type "dict_items", data := .fields #[.ref d] } } := I1.kept (t' := s1.toks) fun b ob q => Heap.get?_push_of_some _ q
  have hbl : kvs.length = bs.length := hpu.len
  refine SrI.sorted_items (s := { s1 with heap := s1.heap.push { cls := .type "dict_items", data := .fields #[.ref d] } }) (bs := bs) (enc := enc) (I1.ok.hd hc) ⟨_, Heap.get?_push_size _ rfl, rfl, rfl⟩ (raw.at fun o e => Heap.get?_push_of_some _ e) (by rw [hsz]; exact hl) (by omega) (by omega) (fun h' as hkp hal' hG => ?_) hal hk (fun b hb => by have := hdep b hb; omega) fun h' tk as B out n hkp hal' hG hB hab hol heach hS => ?_
  · have key : ∀ (pre : List NE) (l : List NE) (cs : List β) (bs' : List Addr), kvs = pre ++ l → PairU (fun (e : NE) b => ∃ k v, enc b = .tuple [k, v] ∧ Dp X.K H1 (.ref e.2.1) k ∧ Dp X.K H1 e.2.2 v) l cs → (∀ (j : Nat) a, bs'[j]? = some a → as[pre.length + j]? = some a) → bs'.length = l.length → EachIs (fun v b => ∃ l, Reads h' v (enc b) l) (bs'.map Value.ref) cs := by
      intro pre l
      induction l generalizing pre with
      | nil =>
        intro cs bs' _ hp _ hlen
        cases hp
        cases bs' with
        | nil => exact .nil
        | cons _ _ => cases hlen
      | cons e l ih =>
        intro cs bs' hkv hp hat hlen
        cases hp with
        | @cons _ b _ _ h1 t =>
          cases bs' with
          | nil => cases hlen
          | cons a bs' =>
            refine .cons ?_ (ih (pre ++ [e]) _ bs' (by rw [hkv]; simp) t (fun j a h => by have := hat (j + 1) a h; rw [List.length_append, List.length_singleton]; rw [show pre.length + 1 + j = pre.length + (j + 1) by omega]; exact this) (Nat.succ.inj hlen))
            obtain ⟨k, v, e1, d1, d2⟩ := h1
            have ha0 := hat 0 a rfl
            rw [Nat.add_zero] at ha0
            obtain ⟨hj', e3⟩ := hG.pairs _ _ ha0
            obtain ⟨hi, g1, g2⟩ := ent pre.length e (by rw [hkv]; simp)
            obtain ⟨l1, r1⟩ := Dp.reads I2 _ _ _ d1 (show RelV (V.ref e.2.1) es[pre.length].key from g1)
            obtain ⟨l2, r2⟩ := Dp.reads I2 _ _ _ d2 g2
            rw [e1]
            refine ⟨l1 ++ (l2 ++ []), .tuple e3 rfl rfl (.cons (PyProof.Rows.Reads.keeps hkp r1) (.cons (PyProof.Rows.Reads.keeps hkp r2) .nil))⟩
    exact key [] kvs bs as rfl hpu (fun j a h => by rw [List.length_nil, Nat.zero_add]; exact h) (by omega)
  · obtain ⟨ys, hv2, hpu2⟩ := outs_refs heach
    obtain ⟨H', j1, j2, j3, j4, j5, j6, J⟩ := items_sorted_laid (tk := tk) I2 hl hsz ent hkp (by omega) hG hB hab (by omega) hv2 hS
    exact ⟨.ref B, H', J, rfl, q H' B as ys j1 j2 j3 j4 (by omega) j5 j6 hpu2⟩
end
end Mv
set_option Elab.async false
set_option linter.all false
set_option maxRecDepth 100000
set_option maxHeartbeats 1000000
/-! sorted(d.items()) -/
namespace DL
open PySem PySem.Spec PyProof.Rows L2 Mv
open PySem.W (EachIs AllAlike Sortable dataLe)
def itD (d : D × D) : D := .tup [d.1, d.2]
def xSortItems : D → (R → Prop) → Prop := fun x Q => ∃ ds, x = .dN ds ∧ ds ≠ [] ∧ okSort (ds.map itD) ∧ Q (.o (.lst (sortDt (ds.map itD))))
section
variable {K : PySem.W.Frag} {hid : Addr → Prop} {H : Hp} {v : V}
theorem py_pair {x y : D} {p : PyData} (h : py (.tup [x, y]) = some p) : ∃ a b, p = .tuple [a, b] ∧ py x = some a ∧ py y = some b := by
  unfold py at h
  cases hx : py x with
  | none => simp [pys, hx] at h
  | some a =>
    cases hy : py y with
    | none => simp [pys, hx, hy] at h
    | some b =>
      simp [pys, hx, hy] at h
      exact ⟨a, b, h.symm, rfl, rfl⟩
theorem pairU_items {G G' : Hp} (x : LamX.ExtN G G') : ∀ {es : List NE} {ds : List (D × D)}, Rps K G (es.map fun p : NE => V.ref p.2.1) (ds.map (·.1)) → Rps K G (es.map (·.2.2)) (ds.map (·.2)) → (∀ d ∈ ds.map itD, ∃ p, py d = some p ∧ p.depth ≤ 60) →
    PairU (fun (e : NE) (b : D) => ∃ k v, pyD b = .tuple [k, v] ∧ Dp K G' (.ref e.2.1) k ∧ Dp K G' e.2.2 v) es (ds.map itD)
  | [], [], _, _, _ => .nil
  | [], _ :: _, h, _, _ => by cases h
  | _ :: _, [], h, _, _ => by cases h
  | e :: es, d :: ds, .cons h1 r1, .cons h2 r2, f => by
    refine .cons ?_ (pairU_items x r1 r2 fun y hy => f y (List.mem_cons_of_mem _ hy))
    obtain ⟨p, hp, _⟩ := f _ List.mem_cons_self
    obtain ⟨a, b, e1, e2, e3⟩ := py_pair (show py (.tup [d.1, d.2]) = some p from hp)
    refine ⟨a, b, ?_, Dp.extG x (h1.dp e2), Dp.extG x (h2.dp e3)⟩
    unfold pyD
    rw [hp, e1]
    rfl
theorem lr_sortItems : LR1 K (rSortItems K) xSortItems := fun hid H x dx Qd Q ho hx ⟨ds, e1, hne, ⟨h1, h2, h3⟩, q⟩ k => by
  subst e1
  obtain ⟨a, od, es, rfl, hh, he, hr1, hr2⟩ := hx.dN
  have hlen : es.length = ds.length := by
    have := congrArg List.length he
    rw [List.length_map, List.length_map] at this
    exact this
  refine ⟨D, pyD, a, od, es, ds.map itD, rfl, hh, by have := List.length_pos_iff.mpr hne; omega, pairU_items res_all hr1 hr2 h1, h2, h3, fun b hb => ?_, fun H' p ts ys j1 j2 j3 j4 j5 j6 j7 j8 => k _ _ _ ?_ q⟩
  · obtain ⟨p, e, hd⟩ := h1 b hb
    unfold pyD
    rw [e]
    exact hd
  · have xt : LamX.ExtN (res hid H) (res (fun b => hid b ∨ b = p) H') := res_ext (M := fun _ => False) (Kp.of j1) (fun _ z => z.elim) fun b z => z.elim .inl fun z => .inr (by rw [z]; exact NwD.of j2)
    refine ⟨p, rfl, j2, j1, _, j7, ?_⟩
    have key : ∀ {ys : List V} {cs : List D}, PairU (fun v b => ∃ (j : Nat) (t : Addr), ts[j]? = some t ∧ v = V.ref t ∧ (ds.map itD)[j]? = some b) ys cs → Rps K (res (fun b => hid b ∨ b = p) H') ys cs := fun {ys cs} h => by
      induction h with
      | nil => exact .nil
      | cons h _ ih =>
        refine .cons ?_ ih
        obtain ⟨j, t, g1, rfl, g2⟩ := h
        rw [List.getElem?_map] at g2
        cases hd : ds[j]? with
        | none => rw [hd] at g2; cases g2
        | some d =>
          rw [hd] at g2
          cases g2
          obtain ⟨e, hej⟩ : ∃ e, es[j]? = some e := ⟨_, List.getElem?_eq_getElem (by have := (List.getElem?_eq_some_iff.mp g1).1; omega)⟩
          have ht := j6 j t e g1 hej
          have tm : t ∈ ts := List.mem_iff_getElem?.mpr ⟨j, g1⟩
          obtain ⟨u1, f1, r1⟩ := hr1.at (i := j) (by rw [List.getElem?_map, hd]; rfl)
          obtain ⟨u2, f2, r2⟩ := hr2.at (i := j) (by rw [List.getElem?_map, hd]; rfl)
          rw [List.getElem?_map, hej] at f1 f2
          cases f1
          cases f2
          refine .tup (.inl (.inl ?_)) (.cons (r1.ext xt) (.cons (r2.ext xt) .nil))
          rw [res_eq]
          · exact ht
          · rintro (z | z)
            · exact rok_new ho (j3 t tm) z
            · exact j4 (z ▸ tm)
    exact key j8
theorem xSortItems_e {ds : List (D × D)} {Q : R → Prop} : xSortItems (.dN ds) Q = (ds ≠ [] ∧ okSort (ds.map itD) ∧ Q (.o (.lst (sortDt (ds.map itD))))) := by
  simp [xSortItems]
end
end DL
set_option Elab.async false
set_option linter.all false
set_option maxRecDepth 100000
set_option maxHeartbeats 1000000
namespace Mv
open PySem PySem.Spec PyProof.Rows L2
def rIxN (K : PySem.W.Frag) : R2 := fun x y H Q => ∃ (d : Addr) (od : Obj) (kvs : List NE) (k : NestedKey) (b : Addr) (v : V), x = .ref d ∧ H d = some (NDO d od kvs) ∧ KeysAt K H kvs ∧ y = .ref b ∧ KeyN K H k (.ref b) ∧ keyFit k ∧ valN kvs k = some v ∧ Q v H
theorem ix_dictN {X : Cx} (hu : X.A.units + 65 < cLine) : IxR X (rIxN X.K) := by
  intro value slice pins s σ H x y v u Q I rx ry h hs
  obtain ⟨d, od, kvs, k, b, w, rfl, hd, hks, rfl, hk, hf, hv, q⟩ := h
  obtain rfl : v = Value.ref d := rx
  obtain rfl : u = Value.ref b := ry
  obtain ⟨xs, hp, dd⟩ := ndo_of I hd hks
  have hr := valN_rel hp k
  rw [hv] at hr
  obtain ⟨p, hp2, hr2⟩ : ∃ p, atKey xs k = some p ∧ RelV w p.2 := by
    cases e : atKey xs k with
    | none => rw [e] at hr; exact hr.elim
    | some p => rw [e] at hr; exact ⟨p, rfl, hr⟩
  have hT := (ndo_dict I hd).1
  unfold subscriptTail
  refine wpAny_bind ?_
  rw [getitemInPython_of_ne hT.not_modules]
  refine wpAny_bind (wpAny_specialOf hT PySem.F.slot_dict_getitem.lookup ?_)
  have fin : wpAny (model X.prog X.w) X.A (subscripted slice false (Value.ref d) (Value.ref b)) (fun r s₃ => wpAny (model X.prog X.w) X.A (letTemporaryGo value (Value.ref d) r >>= fun _ => pure r) (EP X pins σ Q) X.xe s₃) X.xe s := by
    rw [hs]
    refine wpAny_operating (wpAny_getItem_heap (knd := nestedKind X.prog X.w) ?_ ⟨keyN_is I hk rfl, hf.2⟩ dd hp2 (wpAny_bind (wpAny_letTemporaryGo (wpAny_pure ⟨w, H, I.tok _, hr2, q⟩))))
    show X.A.units + 1 + 8 < cLine
    omega
  first
    | exact wpAny_pure (wpAny_bind fin)
    | exact wpAny_bind (wpAny_pure (wpAny_bind fin))
    | exact wpAny_bind fin
end Mv
set_option Elab.async false
set_option linter.all false
set_option maxRecDepth 100000
set_option maxHeartbeats 1000000
/-! d[k], d a dict whose keys are nested tuples -/
namespace DL
open PySem PySem.Spec PyProof.Rows L2 Mv
def xIxN : D2 := fun x y Q => ∃ ds z, x = .dN ds ∧ okKey y ∧ getN ds y = some z ∧ Q (.d z)
section
variable {K : PySem.W.Frag}
theorem lr_ixN : LR2 K (rIxN K) xIxN := fun hid H x y dx dy Qd Q ho hx hy ⟨ds, z, e1, ⟨⟨ys, ey⟩, kk, hk1, hk2⟩, hg, q⟩ k => by
  subst e1 ey
  obtain ⟨a, od, ks, rfl, hh, he, hr1, hr2⟩ := hx.dN
  obtain ⟨b, us, rfl, _, hsq, hru⟩ := hy.tup
  have ky := keyN_of (K := K) (.tup ys) (.tup hsq hru) hk1
  rcases getN_rel hk1 he hr2 with ⟨h1, h2⟩ | ⟨v, w, h1, h2, h3⟩
  · rw [h2] at hg
    cases hg
  · rw [h2] at hg
    cases hg
    exact ⟨a, od, ks, kk, b, v, rfl, hh, keysAt_res (keysAt_of he hr1), rfl, keyN_ext res_all ky, hk2, h1, k _ _ _ (nre h3) q⟩
theorem xIxN_e {ds : List (D × D)} {y : D} {Q : R → Prop} : xIxN (.dN ds) y Q = (okKey y ∧ match getN ds y with | some z => Q (.d z) | none => False) := by
  unfold xIxN
  cases h : getN ds y with
  | none => simp [h]
  | some z =>
    refine propext ⟨fun ⟨ds', z', e, h1, h2, q⟩ => ?_, fun ⟨h1, q⟩ => ⟨ds, z, rfl, h1, h, q⟩⟩
    cases e
    rw [h] at h2
    cases h2
    exact ⟨h1, q⟩
end
end DL
set_option Elab.async false
set_option linter.all false
set_option maxRecDepth 100000
set_option maxHeartbeats 1000000
/-! x[i], x a list or a tuple -/
namespace Mv
open PySem PySem.Spec PyProof.Rows L2
def rIxM (K : PySem.W.Frag) : R2 := fun x y H Q => rIxL K x y H Q ∨ rIxT K x y H Q
theorem ix_mix {X : Cx} : IxR X (rIxM X.K) := by
  intro value slice pins s σ H x y v u Q I rx ry h hs
  rcases h with h | h
  · exact ix_list value slice pins s σ H x y v u Q I rx ry h hs
  · exact ix_tup value slice pins s σ H x y v u Q I rx ry h hs
end Mv
set_option Elab.async false
set_option linter.all false
set_option maxRecDepth 100000
set_option maxHeartbeats 1000000
/-! x[i], x a list or a tuple -/
namespace DL
open PySem PySem.Spec PyProof.Rows L2 Mv
def xIxM : D2 := fun x y Q => xIxL x y Q ∨ xIxT x y Q
section
variable {K : PySem.W.Frag}
theorem lr_ixM : LR2 K (rIxM K) xIxM := fun hid H x y dx dy Qd Q ho hx hy h k => by
  rcases h with h | h
  · exact .inl (lr_ixL hid H x y dx dy Qd Q ho hx hy h k)
  · exact .inr (lr_ixT hid H x y dx dy Qd Q ho hx hy h k)
end
theorem xIxM_l {xs : List D} {i : Int} {Q : R → Prop} : xIxM (.lst xs) (.int i) Q = (match atI xs i with | some z => Q (.d z) | none => False) := by
  unfold xIxM
  rw [xIxL_e]
  have : xIxT (.lst xs) (.int i) Q = False := by simp [xIxT]
  rw [this, or_false] <;> (cases atI xs i <;> rfl)
theorem xIxM_t {xs : List D} {i : Int} {Q : R → Prop} : xIxM (.tup xs) (.int i) Q = (match atI xs i with | some z => Q (.d z) | none => False) := by
  unfold xIxM
  rw [xIxT_e]
  have : xIxL (.tup xs) (.int i) Q = False := by simp [xIxL]
  rw [this, false_or] <;> (cases atI xs i <;> rfl)
end DL
set_option Elab.async false
set_option linter.all false
set_option maxRecDepth 100000
set_option maxHeartbeats 1000000
/-! is, is not of bools -/
namespace DL
open PySem PySem.Spec PyProof.Rows L2 Mv
def xIsB : D2 := fun x y Q => ∃ a b, x = .bl a ∧ y = .bl b ∧ Q (.d (.bl (decide (a = b))))
def xNotB : D2 := fun x y Q => ∃ a b, x = .bl a ∧ y = .bl b ∧ Q (.d (.bl (!decide (a = b))))
section
variable {K : PySem.W.Frag}
theorem lr_isB : LR2 K rIsB xIsB := fun hid H x y dx dy Qd Q _ hx hy ⟨a, b, e1, e2, q⟩ k => by
  subst e1 e2
  exact ⟨a, b, hx.sc, hy.sc, k _ _ _ nsc q⟩
theorem lr_notB : LR2 K rNotB xNotB := fun hid H x y dx dy Qd Q _ hx hy ⟨a, b, e1, e2, q⟩ k => by
  subst e1 e2
  exact ⟨a, b, hx.sc, hy.sc, k _ _ _ nsc q⟩
end
theorem xIsB_e {a b : Bool} {Q : R → Prop} : xIsB (.bl a) (.bl b) Q = Q (.d (.bl (decide (a = b)))) := by simp [xIsB]
theorem xNotB_e {a b : Bool} {Q : R → Prop} : xNotB (.bl a) (.bl b) Q = Q (.d (.bl (!decide (a = b)))) := by simp [xNotB]
end DL
set_option Elab.async false
set_option linter.all false
set_option maxRecDepth 100000
set_option maxHeartbeats 1000000
/-! a comprehension whose elements change the state -/
namespace DL
open PySem PySem.Spec PyProof.Rows L2 Mv
theorem lc_st {α : Type} {gd : DGd} {de : DE} {vs : List Nat} {s0 : SS} {keep : SS → Prop} {Q : List D → SS → Prop} (xs : List α) (enc : α → D) (J : List α → List D → SS → Prop) (hl : xs.length ≤ 4000) (h0 : J [] [] (dwipe s0 vs))
    (step : ∀ done x rest acc s (T : D → SS → Prop), xs = done ++ x :: rest → J done acc s → acc.length = done.length → (∀ y s5, okW s5 vs → sameO (dwipe s5 vs) (dwipe s0 vs) → J (done ++ [x]) (acc ++ [y]) (dwipe s5 vs) → T y s5) →
      keep s ∧ gd (enc x) s (fun s2 => de s2 (fun r s4 => ∃ y s5, frz1 s4 r = some (y, s5) ∧ T y s5) noX))
    (h : ∀ acc s, acc.length = xs.length → J xs acc s → keep s ∧ Q acc s) : dLcI gd dYes de vs s0 keep (xs.map enc) Q := by
  refine ⟨fun l acc s => ∃ done rest, xs = done ++ rest ∧ l = rest.map enc ∧ acc.length = done.length ∧ J done acc s, ⟨[], xs, rfl, rfl, rfl, h0⟩, ?_, ?_⟩
  · rintro x l acc s ⟨done, rest, e1, e2, e3, hj⟩
    cases rest with
    | nil => cases e2
    | cons y rest =>
      cases e2
      obtain ⟨hk, hs⟩ := step done y rest acc s (fun z s5 => okW s5 vs ∧ sameO (dwipe s5 vs) (dwipe s0 vs) ∧ acc.length < sizeLine ∧ ∃ done' rest', xs = done' ++ rest' ∧ rest.map enc = rest'.map enc ∧ (acc ++ [z]).length = done'.length ∧ J done' (acc ++ [z]) (dwipe s5 vs)) e1 hj e3
        (fun z s5 k1 k2 k3 => ⟨k1, k2, small4000 (by have := congrArg List.length e1; rw [List.length_append, List.length_cons] at this; omega), done ++ [y], rest, by rw [e1]; simp, rfl, by simp [e3], k3⟩)
      refine ⟨hk, ?_⟩
      simp only [dYes, if_true]
      exact hs
  · rintro acc s ⟨done, rest, e1, e2, e3, hj⟩
    cases rest with
    | nil =>
      rw [List.append_nil] at e1
      rw [← e1] at hj e3
      exact h acc s e3 hj
    | cons y rest => cases e2
theorem lc_rngS {gd : DGd} {de : DE} {vs : List Nat} {s0 : SS} {keep : SS → Prop} {Q : List D → SS → Prop} {lo : Int} {n : Nat} (J : Nat → List D → SS → Prop) (hl : n ≤ 4000) (h0 : J 0 [] (dwipe s0 vs))
    (step : ∀ k acc s (T : D → SS → Prop), k < n → J k acc s → acc.length = k → (∀ y s5, okW s5 vs → sameO (dwipe s5 vs) (dwipe s0 vs) → J (k + 1) (acc ++ [y]) (dwipe s5 vs) → T y s5) →
      keep s ∧ gd (.int (lo + (k : Int))) s (fun s2 => de s2 (fun r s4 => ∃ y s5, frz1 s4 r = some (y, s5) ∧ T y s5) noX))
    (h : ∀ acc s, acc.length = n → J n acc s → keep s ∧ Q acc s) : dLcI gd dYes de vs s0 keep (rngL lo n) Q := by
  rw [rngL_eq]
  refine lc_st (List.range n) (fun k : Nat => D.int (lo + (k : Int))) (fun done acc s => J done.length acc s) (by simpa using hl) h0 (fun done x rest acc s T e hj ha ht => ?_) fun acc s ha hj => h acc s (by simpa using ha) (by simpa using hj)
  have h1 : x = done.length := by
    have := congrArg (fun l : List Nat => l[done.length]?) e
    simp only [List.getElem?_append_right (Nat.le_refl _), Nat.sub_self, List.getElem?_cons_zero] at this
    have hl := congrArg List.length e
    rw [List.length_range, List.length_append, List.length_cons] at hl
    rw [List.getElem?_range (by omega)] at this
    exact (Option.some.inj this).symm
  have hn : done.length < n := by
    have hl := congrArg List.length e
    rw [List.length_range, List.length_append, List.length_cons] at hl
    omega
  subst h1
  exact step done.length acc s T hn hj ha fun y s5 k1 k2 k3 => ht y s5 k1 k2 (by rw [List.length_append, List.length_singleton]; exact k3)
end DL
set_option Elab.async false
set_option linter.all false
set_option maxRecDepth 100000
set_option maxHeartbeats 400000
open PySem PySem.Spec PyProof.Rows L2 Mv DL in
local macro_rules
  | `(tactic| exists "e") => `(tactic| try simp -dsimp only [↓dVar, ↓dC, ↓dNil, ↓dCons, ↓dOp, ↓dUn, ↓dCB, ↓dTest, ↓dAnd, ↓dOr, ↓dNot, ↓dIf, ↓dAndV, ↓dOrV, ↓dNotV, ↓dChain, ↓dTup, ↓dLst, ↓ddName, ↓dNext, ↓dSeq, ↓dBreak, ↓dCont, ↓dDrop, ↓dRet, ↓dRetN, ↓dIfS, ↓dAsg, ↓dNever, ↓dPar, ↓dAug, ↓dList, ↓dTupI, ↓dRng3, ↓dStrI, ↓dEnum, ↓dEnumT, ↓dZipI, ↓dZipA, ↓dFor_e, ↓dLc_e, ↓dLcE_e, ↓dCall_e, ↓dMeth_e, ↓dMake_e, ↓dFld, ↓dCon, ↓dSl, ↓dNoPart, ↓dPart, ↓dTru, ↓dNotT, ↓dRaise0, ↓dTryM, ↓dLenO, ↓dYes, ↓dNewN, ↓ev1, ↓ev2, ↓ev3, ↓evv, ↓evT, ↓evC, ↓evF, ↓evStr, ↓xI0_e, ↓xI_e, ↓xU_e, ↓xEqS_e, ↓xNeS_e, ↓xIxL_e, ↓xIxT_e, ↓xIxM_l, ↓xIxM_t, ↓xIsB_e, ↓xNotB_e, ↓xSlL_e, ↓xSlT_e, ↓xLen_l, ↓xLen_t, ↓xLenS_e, ↓xList_l, ↓xList_t, ↓xTuple_l, ↓xTuple_t, ↓xInt_i, ↓xInt_b, ↓xAbs_e, ↓xRg_e, ↓xSlL_fl, ↓xMin2_e, ↓xListZip_e, ↓lsOf, ↓xSortItems_e, ↓xIxN_e, ↓xMax2_e, ↓xCat_e, ↓xCatT_e, ↓xInS_e, ↓xInD_e, ↓mAppend_e, ↓mReverse_e, ↓mInsert_e, ↓mExtend_e, ↓mPopAt_e, ↓dgTup_e, ↓ddTup_e, ↓dgCons_e, ↓dgNil_e, ↓dgName_d, ↓dgName_o, ↓dgName_b, ↓dBM_e, ↓dSetL_e, ↓dSFld_e, ↓dRng1_e, ↓dRng2_e, ↓xAll_bls, ↓xAny_bls, ↓xAll_f, ↓xAny_f, ↓xSum_ints, ↓xSortL_ints, ↓xSortT_ints, ↓xIn_tupI, ↓xIn_lstI, ↓xIn_tupS, ↓xIn_lstS, ↓xEqD, ↓xNeD, ↓dDisp1N_e, ↓dPutN_e, ↓dGetN_e, ↓dKeysN_e, ↓dItemsN_e, ↓dLenSet_e, ↓dPar2_e, ↓dFlatN_e, ↓dProp_e, ↓dBoolO_e, ↓dCallA_e, ↓xListN_e, ↓xSortDt_e, ↓svOf, sl0, sl1, sl2, sl3, sl4, sl5, sl6, sl8, sl10, sll0, xIsN, xNotN, xIxS, xRep, xRepT, xRevT, xRevL, mPop, mExtendT, mIndex, scal_i, scal_s, scal_b, atI_0, atI_1, atI_2, look1, ↓reduceIte, okS0, okSs, fr_no, fr_d, fr_t, fr_f, vw, vws, frz1, frzs, CO.frz, rtn, itrL, itrT, itsD, itsL, toArg, toArgs, bws, back, setO, dwipe, okW, cn_no, cn_d, cn_t, cn_f, DL.isNon, putD, tyC, typD, truD, List.getElem?_cons_zero, List.getElem?_cons_succ, List.set_cons_zero, List.set_cons_succ, List.length_cons, List.length_nil, List.cons_append, List.nil_append, List.append_nil, List.map_cons, List.map_nil, List.replicate_succ, List.replicate_zero, List.take_succ_cons, List.take_zero, Nat.reduceAdd, Nat.reduceSub, Option.some.injEq, Prod.mk.injEq, List.cons.injEq, D.sc.injEq, D.tup.injEq, D.lst.injEq, D.ins.injEq, D.fl.injEq, CO.lst.injEq, CO.ins.injEq, SV.d.injEq, SV.o.injEq, R.d.injEq, R.o.injEq, R.bw.injEq, V.int.injEq, V.bl.injEq, V.str.injEq, V.ref.injEq, reduceCtorEq, and_assoc, and_true, true_and, and_false, false_and, or_false, false_or, exists_false, exists_eq, exists_eq', exists_eq_left, exists_eq_left', exists_eq_right, exists_eq_right', exists_and_left, exists_and_right, exists_const, ite_true, ite_false, if_true, if_false, decide_true, decide_false, Bool.false_eq_true, Bool.true_eq_false, List.nodup_nil, List.nodup_cons, List.not_mem_nil, List.mem_cons, or_self, Nat.reduceEqDiff, not_false_eq_true, List.tail_cons, sameO, List.isEmpty_nil, List.isEmpty_cons, Bool.not_true, Bool.not_false, isO])
  | `(tactic| exists "e", $xs,*) => `(tactic| try simp -dsimp only [↓dVar, ↓dC, ↓dNil, ↓dCons, ↓dOp, ↓dUn, ↓dCB, ↓dTest, ↓dAnd, ↓dOr, ↓dNot, ↓dIf, ↓dAndV, ↓dOrV, ↓dNotV, ↓dChain, ↓dTup, ↓dLst, ↓ddName, ↓dNext, ↓dSeq, ↓dBreak, ↓dCont, ↓dDrop, ↓dRet, ↓dRetN, ↓dIfS, ↓dAsg, ↓dNever, ↓dPar, ↓dAug, ↓dList, ↓dTupI, ↓dRng3, ↓dStrI, ↓dEnum, ↓dEnumT, ↓dZipI, ↓dZipA, ↓dFor_e, ↓dLc_e, ↓dLcE_e, ↓dCall_e, ↓dMeth_e, ↓dMake_e, ↓dFld, ↓dCon, ↓dSl, ↓dNoPart, ↓dPart, ↓dTru, ↓dNotT, ↓dRaise0, ↓dTryM, ↓dLenO, ↓dYes, ↓dNewN, ↓ev1, ↓ev2, ↓ev3, ↓evv, ↓evT, ↓evC, ↓evF, ↓evStr, ↓xI0_e, ↓xI_e, ↓xU_e, ↓xEqS_e, ↓xNeS_e, ↓xIxL_e, ↓xIxT_e, ↓xIxM_l, ↓xIxM_t, ↓xIsB_e, ↓xNotB_e, ↓xSlL_e, ↓xSlT_e, ↓xLen_l, ↓xLen_t, ↓xLenS_e, ↓xList_l, ↓xList_t, ↓xTuple_l, ↓xTuple_t, ↓xInt_i, ↓xInt_b, ↓xAbs_e, ↓xRg_e, ↓xSlL_fl, ↓xMin2_e, ↓xListZip_e, ↓lsOf, ↓xSortItems_e, ↓xIxN_e, ↓xMax2_e, ↓xCat_e, ↓xCatT_e, ↓xInS_e, ↓xInD_e, ↓mAppend_e, ↓mReverse_e, ↓mInsert_e, ↓mExtend_e, ↓mPopAt_e, ↓dgTup_e, ↓ddTup_e, ↓dgCons_e, ↓dgNil_e, ↓dgName_d, ↓dgName_o, ↓dgName_b, ↓dBM_e, ↓dSetL_e, ↓dSFld_e, ↓dRng1_e, ↓dRng2_e, ↓xAll_bls, ↓xAny_bls, ↓xAll_f, ↓xAny_f, ↓xSum_ints, ↓xSortL_ints, ↓xSortT_ints, ↓xIn_tupI, ↓xIn_lstI, ↓xIn_tupS, ↓xIn_lstS, ↓xEqD, ↓xNeD, ↓dDisp1N_e, ↓dPutN_e, ↓dGetN_e, ↓dKeysN_e, ↓dItemsN_e, ↓dLenSet_e, ↓dPar2_e, ↓dFlatN_e, ↓dProp_e, ↓dBoolO_e, ↓dCallA_e, ↓xListN_e, ↓xSortDt_e, ↓svOf, sl0, sl1, sl2, sl3, sl4, sl5, sl6, sl8, sl10, sll0, xIsN, xNotN, xIxS, xRep, xRepT, xRevT, xRevL, mPop, mExtendT, mIndex, scal_i, scal_s, scal_b, atI_0, atI_1, atI_2, look1, ↓reduceIte, okS0, okSs, fr_no, fr_d, fr_t, fr_f, vw, vws, frz1, frzs, CO.frz, rtn, itrL, itrT, itsD, itsL, toArg, toArgs, bws, back, setO, dwipe, okW, cn_no, cn_d, cn_t, cn_f, DL.isNon, putD, tyC, typD, truD, List.getElem?_cons_zero, List.getElem?_cons_succ, List.set_cons_zero, List.set_cons_succ, List.length_cons, List.length_nil, List.cons_append, List.nil_append, List.append_nil, List.map_cons, List.map_nil, List.replicate_succ, List.replicate_zero, List.take_succ_cons, List.take_zero, Nat.reduceAdd, Nat.reduceSub, Option.some.injEq, Prod.mk.injEq, List.cons.injEq, D.sc.injEq, D.tup.injEq, D.lst.injEq, D.ins.injEq, D.fl.injEq, CO.lst.injEq, CO.ins.injEq, SV.d.injEq, SV.o.injEq, R.d.injEq, R.o.injEq, R.bw.injEq, V.int.injEq, V.bl.injEq, V.str.injEq, V.ref.injEq, reduceCtorEq, and_assoc, and_true, true_and, and_false, false_and, or_false, false_or, exists_false, exists_eq, exists_eq', exists_eq_left, exists_eq_left', exists_eq_right, exists_eq_right', exists_and_left, exists_and_right, exists_const, ite_true, ite_false, if_true, if_false, decide_true, decide_false, Bool.false_eq_true, Bool.true_eq_false, List.nodup_nil, List.nodup_cons, List.not_mem_nil, List.mem_cons, or_self, Nat.reduceEqDiff, not_false_eq_true, List.tail_cons, sameO, List.isEmpty_nil, List.isEmpty_cons, Bool.not_true, Bool.not_false, isO, $[$xs:term],*])
  | `(tactic| exists "l") => `(tactic| (repeat' (first | with_reducible (first | apply lift_call0 | apply lift_meth0 | apply lift_make0 | apply lift_callS0 | exact lift_var _ | exact lift_C _ | exact lift_nil | apply lift_cons | exact lr_I0 _ | exact lr_I _ _ | exact lr_U _ | exact lr_eq | exact lr_ne | exact lr_eqD | exact lr_neD | exact lr_isN | exact lr_notN | exact lr_ixL | exact lr_ixT | exact lr_ixS | exact lr_slL | exact lr_slA | exact lr_len | exact lr_lenS | exact lr_list | exact lr_tuple | exact lr_int | exact lr_min2 | exact lr_listZip | exact lr_sortItems | exact lr_ixN | exact lr_ixM | exact lr_isB | exact lr_notB | exact lr_max2 | exact lr_sum | exact lr_all | exact lr_any | exact lr_sortL | exact lr_sortT | exact lr_isi | exact lr_cat | exact lr_catA | exact lr_rep | exact lr_repT | exact lr_abs | apply lift_lstRg | exact lr_in _ | exact lr_inD | exact lr_notInD | exact lr_inS | exact lm_index | exact lm_append | exact lm_pop | exact lm_popAt | exact lm_reverse | exact lm_extend | exact lm_extendT | exact lm_insert | exact lift_next | exact lift_break | exact lift_cont | exact lift_retN | exact lift_never | exact lift_raise0 | exact lift_noPart | exact lift_yes | apply lift_seq | apply lift_asg | apply lift_gName | apply lift_gTup | apply lift_gCons | apply lift_dName | apply lift_gNil | apply lift_dTup | apply lift_setL | apply lift_lenO | apply lift_op | apply lift_un | apply lift_boolO | apply lift_cb | apply lift_test | apply lift_and | apply lift_or | apply lift_not | apply lift_if | apply lift_andV | apply lift_orV | apply lift_notV | apply lift_chain | apply lift_tup | apply lift_lst | apply lift_drop | apply lift_ret | apply lift_ifS | exact lift_newN | apply lift_dGetN | apply lift_dPutN | exact lr_listN | apply lift_keysN | apply lift_itemsN | apply lift_lenSet | apply lift_par2' | apply lift_callA | apply lift_disp1N | (refine lift_flatN (by decide) (by decide) (by decide)) | exact lr_sortDt | apply lift_prop | apply lift_par | apply lift_aug | apply lift_for | apply lift_lcE | apply lift_lc | apply lift_iList | apply lift_iTup | apply lift_iRng1 | apply lift_iRng2 | apply lift_iRng3 | apply lift_iStr | apply lift_iEnum | apply lift_iEnumT | apply lift_iZip | apply lift_iZipA | apply lift_callS | (refine lift_call ?_ (fun _ => .nil)) | (refine lift_meth ?_ ?_ (fun _ => .nil)) | (refine lift_make ?_ (fun _ => .nil)) | apply lift_fld | apply lift_con | apply lift_sl | apply lift_part | apply lift_tru | apply lift_notT | apply lift_revT | apply lift_revL | apply lift_bm0 | apply lift_bm | apply lift_sFld | apply lift_tryM | apply LiftHs.cons | exact LiftHs.nil | (refine tgIn_name ?_; decide) | apply tgIn_tup | apply tgIn_cons | exact tgIn_nil) | (first | apply lift_call0 | apply lift_meth0 | apply lift_make0 | apply lift_callS0 | exact lift_var _ | exact lift_C _ | exact lift_nil | apply lift_cons | exact lr_I0 _ | exact lr_I _ _ | exact lr_U _ | exact lr_eq | exact lr_ne | exact lr_eqD | exact lr_neD | exact lr_isN | exact lr_notN | exact lr_ixL | exact lr_ixT | exact lr_ixS | exact lr_slL | exact lr_slA | exact lr_len | exact lr_lenS | exact lr_list | exact lr_tuple | exact lr_int | exact lr_min2 | exact lr_listZip | exact lr_sortItems | exact lr_ixN | exact lr_ixM | exact lr_isB | exact lr_notB | exact lr_max2 | exact lr_sum | exact lr_all | exact lr_any | exact lr_sortL | exact lr_sortT | exact lr_isi | exact lr_cat | exact lr_catA | exact lr_rep | exact lr_repT | exact lr_abs | apply lift_lstRg | exact lr_in _ | exact lr_inD | exact lr_notInD | exact lr_inS | exact lm_index | exact lm_append | exact lm_pop | exact lm_popAt | exact lm_reverse | exact lm_extend | exact lm_extendT | exact lm_insert | exact lift_next | exact lift_break | exact lift_cont | exact lift_retN | exact lift_never | exact lift_raise0 | exact lift_noPart | exact lift_yes | apply lift_seq | apply lift_asg | apply lift_gName | apply lift_gTup | apply lift_gCons | apply lift_dName | apply lift_gNil | apply lift_dTup | apply lift_setL | apply lift_lenO | apply lift_op | apply lift_un | apply lift_cb | apply lift_test | apply lift_and | apply lift_or | apply lift_not | apply lift_if | apply lift_andV | apply lift_orV | apply lift_notV | apply lift_chain | apply lift_tup | apply lift_lst | apply lift_drop | apply lift_ret | apply lift_ifS | apply lift_par | apply lift_aug | apply lift_for | apply lift_lcE | apply lift_lc | apply lift_iList | apply lift_iTup | apply lift_iRng1 | apply lift_iRng2 | apply lift_iRng3 | apply lift_iStr | apply lift_iEnum | apply lift_iEnumT | apply lift_iZip | apply lift_iZipA | apply lift_callS | (refine lift_call ?_ (fun _ => .nil)) | (refine lift_meth ?_ ?_ (fun _ => .nil)) | (refine lift_make ?_ (fun _ => .nil)) | apply lift_fld | apply lift_con | apply lift_sl | apply lift_part | apply lift_tru | apply lift_notT | apply lift_revT | apply lift_revL | apply lift_bm0 | apply lift_bm | apply lift_sFld | apply lift_tryM | apply LiftHs.cons | exact LiftHs.nil | (refine tgIn_name ?_; decide) | apply tgIn_tup | apply tgIn_cons | exact tgIn_nil) | intro _)))
namespace DL
open PySem PySem.Spec PyProof.Rows L2 Mv
def topS (i : Nat) : Stmt := PySem.Challenge.pw_movedstates_k53_without_bounds_nothing_i.main.body.getD i (.Pass ⟨0, 0, 0, 0⟩)
example (p : Prop) (h : p ∧ True) : p := by simp -dsimp only [↓dVar, ↓dC, ↓dNil, ↓dCons, ↓dOp, ↓dUn, ↓dCB, ↓dTest, ↓dAnd, ↓dOr, ↓dNot, ↓dIf, ↓dAndV, ↓dOrV, ↓dNotV, ↓dChain, ↓dTup, ↓dLst, ↓ddName, ↓dNext, ↓dSeq, ↓dBreak, ↓dCont, ↓dDrop, ↓dRet, ↓dRetN, ↓dIfS, ↓dAsg, ↓dNever, ↓dPar, ↓dAug, ↓dList, ↓dTupI, ↓dRng3, ↓dStrI, ↓dEnum, ↓dEnumT, ↓dZipI, ↓dZipA, ↓dFor_e, ↓dLc_e, ↓dLcE_e, ↓dCall_e, ↓dMeth_e, ↓dMake_e, ↓dFld, ↓dCon, ↓dSl, ↓dNoPart, ↓dPart, ↓dTru, ↓dNotT, ↓dRaise0, ↓dTryM, ↓dLenO, ↓dYes, ↓dNewN, ↓ev1, ↓ev2, ↓ev3, ↓evv, ↓evT, ↓evC, ↓evF, ↓evStr, ↓xI0_e, ↓xI_e, ↓xU_e, ↓xEqS_e, ↓xNeS_e, ↓xIxL_e, ↓xIxT_e, ↓xIxM_l, ↓xIxM_t, ↓xIsB_e, ↓xNotB_e, ↓xSlL_e, ↓xSlT_e, ↓xLen_l, ↓xLen_t, ↓xLenS_e, ↓xList_l, ↓xList_t, ↓xTuple_l, ↓xTuple_t, ↓xInt_i, ↓xInt_b, ↓xAbs_e, ↓xRg_e, ↓xSlL_fl, ↓xMin2_e, ↓xListZip_e, ↓lsOf, ↓xSortItems_e, ↓xIxN_e, ↓xMax2_e, ↓xCat_e, ↓xCatT_e, ↓xInS_e, ↓xInD_e, ↓mAppend_e, ↓mReverse_e, ↓mInsert_e, ↓mExtend_e, ↓mPopAt_e, ↓dgTup_e, ↓ddTup_e, ↓dgCons_e, ↓dgNil_e, ↓dgName_d, ↓dgName_o, ↓dgName_b, ↓dBM_e, ↓dSetL_e, ↓dSFld_e, ↓dRng1_e, ↓dRng2_e, ↓xAll_bls, ↓xAny_bls, ↓xAll_f, ↓xAny_f, ↓xSum_ints, ↓xSortL_ints, ↓xSortT_ints, ↓xIn_tupI, ↓xIn_lstI, ↓xIn_tupS, ↓xIn_lstS, ↓xEqD, ↓xNeD, ↓dDisp1N_e, ↓dPutN_e, ↓dGetN_e, ↓dKeysN_e, ↓dItemsN_e, ↓dLenSet_e, ↓dPar2_e, ↓dFlatN_e, ↓dProp_e, ↓dBoolO_e, ↓dCallA_e, ↓xListN_e, ↓xSortDt_e, ↓svOf, sl0, sl1, sl2, sl3, sl4, sl5, sl6, sl8, sl10, sll0, xIsN, xNotN, xIxS, xRep, xRepT, xRevT, xRevL, mPop, mExtendT, mIndex, scal_i, scal_s, scal_b, atI_0, atI_1, atI_2, look1, ↓reduceIte, okS0, okSs, fr_no, fr_d, fr_t, fr_f, vw, vws, frz1, frzs, CO.frz, rtn, itrL, itrT, itsD, itsL, toArg, toArgs, bws, back, setO, dwipe, okW, cn_no, cn_d, cn_t, cn_f, DL.isNon, putD, tyC, typD, truD, List.getElem?_cons_zero, List.getElem?_cons_succ, List.set_cons_zero, List.set_cons_succ, List.length_cons, List.length_nil, List.cons_append, List.nil_append, List.append_nil, List.map_cons, List.map_nil, List.replicate_succ, List.replicate_zero, List.take_succ_cons, List.take_zero, Nat.reduceAdd, Nat.reduceSub, Option.some.injEq, Prod.mk.injEq, List.cons.injEq, D.sc.injEq, D.tup.injEq, D.lst.injEq, D.ins.injEq, D.fl.injEq, CO.lst.injEq, CO.ins.injEq, SV.d.injEq, SV.o.injEq, R.d.injEq, R.o.injEq, R.bw.injEq, V.int.injEq, V.bl.injEq, V.str.injEq, V.ref.injEq, reduceCtorEq, and_assoc, and_true, true_and, and_false, false_and, or_false, false_or, exists_false, exists_eq, exists_eq', exists_eq_left, exists_eq_left', exists_eq_right, exists_eq_right', exists_and_left, exists_and_right, exists_const, ite_true, ite_false, if_true, if_false, decide_true, decide_false, Bool.false_eq_true, Bool.true_eq_false, List.nodup_nil, List.nodup_cons, List.not_mem_nil, List.mem_cons, or_self, Nat.reduceEqDiff, not_false_eq_true, List.tail_cons, sameO, List.isEmpty_nil, List.isEmpty_cons, Bool.not_true, Bool.not_false, isO] at h; exact h
abbrev st__law_stream : Stmt := topS 57
theorem sc__law_stream : FnScope ["_law_script", "_law_pairs", "_law_at", "_law_cell", "_law_rest", "_law_k"] ["_law_script"] (defScope st__law_stream) := ⟨rfl, rfl, rfl, by decide +kernel, rfl, by decide +kernel, by decide +kernel⟩
abbrev st__law_size : Stmt := topS 59
theorem sc__law_size : FnScope ["_law_stream_here"] ["_law_stream_here"] (defScope st__law_size) := ⟨rfl, rfl, rfl, by decide +kernel, rfl, by decide +kernel, by decide +kernel⟩
abbrev st__law_makes : Stmt := topS 60
theorem sc__law_makes : FnScope ["_law_stream_here", "_law_size_here", "_law_makes_here", "_law_worker"] ["_law_stream_here", "_law_size_here"] (defScope st__law_makes) := ⟨rfl, rfl, rfl, by decide +kernel, rfl, by decide +kernel, by decide +kernel⟩
abbrev st_Crew___init__ : Stmt := inClass (topS 37) 1
theorem sc_Crew___init__ : FnScope ["self", "workers", "known", "name", "make"] ["self", "workers"] (defScope st_Crew___init__) := ⟨rfl, rfl, rfl, by decide +kernel, rfl, by decide +kernel, by decide +kernel⟩
abbrev st_Scheme___init__ : Stmt := inClass (topS 43) 2
theorem sc_Scheme___init__ : FnScope ["self", "rules", "_", "bounds"] ["self", "rules"] (defScope st_Scheme___init__) := ⟨rfl, rfl, rfl, by decide +kernel, rfl, by decide +kernel, by decide +kernel⟩
abbrev st__law_spots : Stmt := topS 64
theorem sc__law_spots : FnScope ["_law_stream_here", "_law_size_here", "_law_many", "_law_full", "_law_powers", "_law_mask", "_law_spots_here", "_law_turn", "_law_pick", "_law_later", "_law_bit"] ["_law_stream_here", "_law_size_here", "_law_many"] (defScope st__law_spots) := ⟨rfl, rfl, rfl, by decide +kernel, rfl, by decide +kernel, by decide +kernel⟩
abbrev st__law_group : Stmt := topS 62
theorem sc__law_group : FnScope ["_law_stream_here", "_law_pick"] ["_law_stream_here"] (defScope st__law_group) := ⟨rfl, rfl, rfl, by decide +kernel, rfl, by decide +kernel, by decide +kernel⟩
abbrev st__law_workers : Stmt := topS 61
theorem sc__law_workers : FnScope ["_law_makes_here", "_law_turn", "_law_names", "_law_workers_here", "_law_worker"] ["_law_makes_here", "_law_turn"] (defScope st__law_workers) := ⟨rfl, rfl, rfl, by decide +kernel, rfl, by decide +kernel, by decide +kernel⟩
abbrev st__law_verdict_fits : Stmt := topS 69
theorem sc__law_verdict_fits : FnScope ["_law_hands", "_law_plan", "_law_spots_here", "_law_verdict", "_law_node", "_law_place"] ["_law_hands", "_law_plan", "_law_spots_here"] (defScope st__law_verdict_fits) := ⟨rfl, rfl, rfl, by decide +kernel, rfl, by decide +kernel, by decide +kernel⟩
abbrev st__law_ranking : Stmt := topS 65
theorem sc__law_ranking : FnScope ["_law_stream_here", "_law_size_here", "_law_left", "_law_ranking_here", "_law_turn"] ["_law_stream_here", "_law_size_here"] (defScope st__law_ranking) := ⟨rfl, rfl, rfl, by decide +kernel, rfl, by decide +kernel, by decide +kernel⟩
abbrev st__law_needless : Stmt := topS 67
theorem sc__law_needless : FnScope ["_law_trail", "_law_spots_here", "_law_place", "_law_old", "_law_new"] ["_law_trail", "_law_spots_here"] (defScope st__law_needless) := ⟨rfl, rfl, rfl, by decide +kernel, rfl, by decide +kernel, by decide +kernel⟩
abbrev st__law_one_tally : Stmt := topS 70
theorem sc__law_one_tally : FnScope ["_law_hands", "_law_spots_here", "_law_nobody", "_law_rows"] ["_law_hands", "_law_spots_here"] (defScope st__law_one_tally) := ⟨rfl, rfl, rfl, by decide +kernel, rfl, by decide +kernel, by decide +kernel⟩
abbrev st__law_second_moves : Stmt := topS 71
theorem sc__law_second_moves : FnScope ["_law_hands", "_law_somebody", "_law_verdict"] ["_law_hands"] (defScope st__law_second_moves) := ⟨rfl, rfl, rfl, by decide +kernel, rfl, by decide +kernel, by decide +kernel⟩
abbrev st__law_draw : Stmt := topS 58
theorem sc__law_draw : FnScope ["_law_stream_here", "_law_many"] ["_law_stream_here", "_law_many"] (defScope st__law_draw) := ⟨rfl, rfl, rfl, by decide +kernel, rfl, by decide +kernel, by decide +kernel⟩
abbrev st__law_first_of : Stmt := topS 68
theorem sc__law_first_of : FnScope ["_law_makes_here", "_law_groups", "_law_ranking_here", "_law_spot_here", "_law_lineup", "_law_worker", "_law_group_here"] ["_law_makes_here", "_law_groups", "_law_ranking_here", "_law_spot_here"] (defScope st__law_first_of) := ⟨rfl, rfl, rfl, by decide +kernel, rfl, by decide +kernel, by decide +kernel⟩
abbrev st_holders : Stmt := topS 15
theorem sc_holders : FnScope ["crew", "scheme", "ranking", "yards", "yard"] ["crew", "scheme", "ranking", "yards"] (defScope st_holders) := ⟨rfl, rfl, rfl, by decide +kernel, rfl, by decide +kernel, by decide +kernel⟩
abbrev st_Crew___len__ : Stmt := inClass (topS 37) 4
theorem sc_Crew___len__ : FnScope ["self"] ["self"] (defScope st_Crew___len__) := ⟨rfl, rfl, rfl, by decide +kernel, rfl, by decide +kernel, by decide +kernel⟩
abbrev st_has_worker : Stmt := topS 38
theorem sc_has_worker : FnScope ["workers", "name", "known", "_"] ["workers", "name"] (defScope st_has_worker) := ⟨rfl, rfl, rfl, by decide +kernel, rfl, by decide +kernel, by decide +kernel⟩
abbrev st_is_name : Stmt := topS 33
theorem sc_is_name : FnScope ["text"] ["text"] (defScope st_is_name) := ⟨rfl, rfl, rfl, by decide +kernel, rfl, by decide +kernel, by decide +kernel⟩
abbrev st__law_spot : Stmt := topS 63
theorem sc__law_spot : FnScope ["_law_size_here", "_law_mask", "_law_powers", "_law_at"] ["_law_size_here", "_law_mask"] (defScope st__law_spot) := ⟨rfl, rfl, rfl, by decide +kernel, rfl, by decide +kernel, by decide +kernel⟩
abbrev st_needless : Stmt := topS 20
theorem sc_needless : FnScope ["crew", "scheme", "yards"] ["crew", "scheme", "yards"] (defScope st_needless) := ⟨rfl, rfl, rfl, by decide +kernel, rfl, by decide +kernel, by decide +kernel⟩
abbrev st_Verdict_holds : Stmt := inClass (topS 19) 1
theorem sc_Verdict_holds : FnScope ["self"] ["self"] (defScope st_Verdict_holds) := ⟨rfl, rfl, rfl, by decide +kernel, rfl, by decide +kernel, by decide +kernel⟩
abbrev st_settled : Stmt := topS 23
theorem sc_settled : FnScope ["node", "_", "held", "firsts", "taken", "first"] ["node"] (defScope st_settled) := ⟨rfl, rfl, rfl, by decide +kernel, rfl, by decide +kernel, by decide +kernel⟩
abbrev st_moved_counts : Stmt := topS 55
theorem sc_moved_counts : FnScope ["crew", "scheme", "before", "after", "moved", "idle", "old", "new", "many"] ["crew", "scheme", "before", "after"] (defScope st_moved_counts) := ⟨rfl, rfl, rfl, by decide +kernel, rfl, by decide +kernel, by decide +kernel⟩
abbrev st_tally : Stmt := topS 54
theorem sc_tally : FnScope ["crew", "scheme", "yards", "yard", "counts", "node", "many", "held"] ["crew", "scheme", "yards"] (defScope st_tally) := ⟨rfl, rfl, rfl, by decide +kernel, rfl, by decide +kernel, by decide +kernel⟩
abbrev st__law_in_group : Stmt := topS 66
theorem sc__law_in_group : FnScope ["_law_group_here", "_law_make"] ["_law_group_here", "_law_make"] (defScope st__law_in_group) := ⟨rfl, rfl, rfl, by decide +kernel, rfl, by decide +kernel, by decide +kernel⟩
abbrev st_refuse_ranking : Stmt := topS 16
theorem sc_refuse_ranking : FnScope ["crew", "ranking", "worker"] ["crew", "ranking"] (defScope st_refuse_ranking) := ⟨rfl, rfl, rfl, by decide +kernel, rfl, by decide +kernel, by decide +kernel⟩
abbrev st_holder : Stmt := topS 14
theorem sc_holder : FnScope ["crew", "scheme", "ranking", "yard", "walked", "worker", "taken"] ["crew", "scheme", "ranking", "yard"] (defScope st_holder) := ⟨rfl, rfl, rfl, by decide +kernel, rfl, by decide +kernel, by decide +kernel⟩
abbrev st_consists_of : Stmt := topS 35
theorem sc_consists_of : FnScope ["text", "signs", "sign"] ["text", "signs"] (defScope st_consists_of) := ⟨rfl, rfl, rfl, by decide +kernel, rfl, by decide +kernel, by decide +kernel⟩
abbrev st_verdict_on : Stmt := topS 26
theorem sc_verdict_on : FnScope ["crew", "scheme", "yards", "fails", "yard", "levels", "node", "level"] ["crew", "scheme", "yards", "fails"] (defScope st_verdict_on) := ⟨rfl, rfl, rfl, by decide +kernel, rfl, by decide +kernel, by decide +kernel⟩
abbrev st_moves_needlessly : Stmt := topS 28
theorem sc_moves_needlessly : FnScope ["yards", "held", "pairs", "one", "other"] ["yards", "held"] (defScope st_moves_needlessly) := ⟨rfl, rfl, rfl, by decide +kernel, rfl, by decide +kernel, by decide +kernel⟩
abbrev st_is_needless : Stmt := topS 29
theorem sc_is_needless : FnScope ["one", "other", "before", "old", "after", "new"] ["one", "other"] (defScope st_is_needless) := ⟨rfl, rfl, rfl, by decide +kernel, rfl, by decide +kernel, by decide +kernel⟩
abbrev st_refuse_yard : Stmt := topS 17
theorem sc_refuse_yard : FnScope ["crew", "yard", "ascending", "one", "other"] ["crew", "yard"] (defScope st_refuse_yard) := ⟨rfl, rfl, rfl, by decide +kernel, rfl, by decide +kernel, by decide +kernel⟩
abbrev st_nodes_by_length : Stmt := topS 24
theorem sc_nodes_by_length : FnScope ["crew", "scheme", "yards", "levels", "_", "behind", "node", "many", "worker", "longer"] ["crew", "scheme", "yards"] (defScope st_nodes_by_length) := ⟨rfl, rfl, rfl, by decide +kernel, rfl, by decide +kernel, by decide +kernel⟩
abbrev st_walk : Stmt := topS 13
theorem sc_walk : FnScope ["crew", "scheme", "ranking", "yard", "walked", "seen", "worker", "make"] ["crew", "scheme", "ranking", "yard"] (defScope st_walk) := ⟨rfl, rfl, rfl, by decide +kernel, rfl, by decide +kernel, by decide +kernel⟩
abbrev st_Verdict___init__ : Stmt := inClass (topS 19) 0
theorem sc_Verdict___init__ : FnScope ["self", "table", "ranking"] ["self", "table", "ranking"] (defScope st_Verdict___init__) := ⟨rfl, rfl, rfl, by decide +kernel, rfl, by decide +kernel, by decide +kernel⟩
abbrev st_first_failing : Stmt := topS 27
theorem sc_first_failing : FnScope ["crew", "scheme", "yards", "fails", "beginning", "node", "rest", "worker", "longer", "found"] ["crew", "scheme", "yards", "fails", "beginning", "node"] (defScope st_first_failing) := ⟨rfl, rfl, rfl, by decide +kernel, rfl, by decide +kernel, by decide +kernel⟩
abbrev st_start_node : Stmt := topS 21
theorem sc_start_node : FnScope ["yards", "nobody", "_"] ["yards"] (defScope st_start_node) := ⟨rfl, rfl, rfl, by decide +kernel, rfl, by decide +kernel, by decide +kernel⟩
abbrev st_unplaced : Stmt := topS 25
theorem sc_unplaced : FnScope ["crew", "node", "worker"] ["crew", "node"] (defScope st_unplaced) := ⟨rfl, rfl, rfl, by decide +kernel, rfl, by decide +kernel, by decide +kernel⟩
abbrev st_next_node : Stmt := topS 22
theorem sc_next_node : FnScope ["crew", "scheme", "yards", "node", "worker", "placed", "held", "firsts", "make", "next_held", "next_firsts", "at", "yard", "seen", "other"] ["crew", "scheme", "yards", "node", "worker"] (defScope st_next_node) := ⟨rfl, rfl, rfl, by decide +kernel, rfl, by decide +kernel, by decide +kernel⟩
abbrev st_present : Stmt := topS 12
theorem sc_present : FnScope ["ranking", "yard", "worker"] ["ranking", "yard"] (defScope st_present) := ⟨rfl, rfl, rfl, by decide +kernel, rfl, by decide +kernel, by decide +kernel⟩
abbrev st_Crew_make_of : Stmt := inClass (topS 37) 8
theorem sc_Crew_make_of : FnScope ["self", "worker"] ["self", "worker"] (defScope st_Crew_make_of) := ⟨rfl, rfl, rfl, by decide +kernel, rfl, by decide +kernel, by decide +kernel⟩
abbrev st_Scheme_takes : Stmt := inClass (topS 43) 5
theorem sc_Scheme_takes : FnScope ["self", "make", "seen", "rule"] ["self", "make", "seen"] (defScope st_Scheme_takes) := ⟨rfl, rfl, rfl, by decide +kernel, rfl, by decide +kernel, by decide +kernel⟩
abbrev st_rule_takes : Stmt := topS 44
theorem sc_rule_takes : FnScope ["rule", "make", "seen", "group", "bounds", "bound"] ["rule", "make", "seen"] (defScope st_rule_takes) := ⟨rfl, rfl, rfl, by decide +kernel, rfl, by decide +kernel, by decide +kernel⟩
abbrev st_belongs : Stmt := topS 45
theorem sc_belongs : FnScope ["make", "group"] ["make", "group"] (defScope st_belongs) := ⟨rfl, rfl, rfl, by decide +kernel, rfl, by decide +kernel, by decide +kernel⟩
abbrev st_bound_holds : Stmt := topS 46
theorem sc_bound_holds : FnScope ["bound", "seen", "group", "sign", "number", "many", "make"] ["bound", "seen"] (defScope st_bound_holds) := ⟨rfl, rfl, rfl, by decide +kernel, rfl, by decide +kernel, by decide +kernel⟩
abbrev st_law : Stmt := topS 72
theorem sc_law : FnScope ["_law_script", "_law_stream_here", "_law_size_here", "_law_makes_here", "_law_groups", "_law_k", "_law_hands", "_law_plan", "_law_group_here", "_law_spots_here", "_law_ranking_here", "_law_trail", "_law_spot_here"] ["_law_script"] (defScope st_law) := ⟨rfl, rfl, rfl, by decide +kernel, rfl, by decide +kernel, by decide +kernel⟩
end DL
set_option Elab.async false
set_option linter.all false
set_option maxRecDepth 100000
set_option maxHeartbeats 1000000
namespace DL
open PySem PySem.Spec PyProof.Rows L2 Mv
inductive Mk
  | a | b | y | c
  deriving DecidableEq
def Mk.s : Mk → Str
  | .a => "a"
  | .b => "b"
  | .y => "any"
  | .c => "c"
theorem Mk.inj {m n : Mk} (h : m.s = n.s) : m = n := by revert h; cases m <;> cases n <;> decide +kernel
abbrev Gp := Option Mk
abbrev Bo := Gp × Bool × Int
abbrev Ru := Gp × List Bo
def mD (m : Mk) : D := .str m.s
def gD : Gp → D
  | none => .tup [.str "any"]
  | some m => .tup [.str "make", .str m.s]
def boD (b : Bo) : D := .tup [gD b.1, .str (if b.2.1 then "<" else ">="), .int b.2.2]
def ruD (r : Ru) : D := .tup [gD r.1, .tup (r.2.map boD)]
def bel (m : Mk) (g : Gp) : Bool := g == none || g == some m
def boH (b : Bo) (seen : List Mk) : Bool := if b.2.1 then decide (((seen.filter (bel · b.1)).length : Int) < b.2.2) else decide (b.2.2 ≤ ((seen.filter (bel · b.1)).length : Int))
def ruT (r : Ru) (m : Mk) (seen : List Mk) : Bool := bel m r.1 && r.2.all (boH · seen)
def tkM (rs : List Ru) (m : Mk) (seen : List Mk) : Bool := rs.any (ruT · m seen)
theorem ok_gD (g : Gp) : okD (gD g) := by
  cases g with
  | none => exact ⟨_, rfl, by decide +kernel⟩
  | some m => cases m <;> exact ⟨_, rfl, by decide +kernel⟩
theorem ok_any : okD (.tup [.str "any"]) := ok_gD none
theorem ok_make (m : Mk) : okD (.tup [.str "make", .str m.s]) := ok_gD (some m)
theorem eq_any (g : Gp) : eqB (gD g) (.tup [.str "any"]) = (g == none) := by
  cases g with
  | none => decide +kernel
  | some m => cases m <;> decide +kernel
theorem eq_make (g : Gp) (m : Mk) : eqB (gD g) (.tup [.str "make", .str m.s]) = (g == some m) := by
  cases g with
  | none => cases m <;> decide +kernel
  | some n => cases n <;> cases m <;> decide +kernel
/-- a list that a def may only read -/
def sq (a : SV) (xs : List D) : Prop := a = .d (.lst xs) ∨ a = .o false (.lst xs)
end DL
namespace DL
open PySem PySem.Spec PyProof.Rows L2 Mv
theorem sign_lt (b : Bool) : decide ((if b = true then ("<" : Str) else ">=") = ("<" : Str)) = b := by cases b <;> decide +kernel
end DL
namespace DL
open PySem PySem.Spec PyProof.Rows L2 Mv
abbrev Wk := Str × Mk
def wD (w : Wk) : D := .tup [.str w.1, mD w.2]
def isNm (t : Str) : Prop := 1 ≤ t.length ∧ t.length ≤ 8 ∧ (t.cps.toList.all fun c => inStr ⟨#[c]⟩ "abcdefghijklmnopqrstuvwxyz") = true
def crewO (CC : Addr) (ws : List Wk) : CO := .ins CC [("_workers", .lst (ws.map wD))]
def planO (CS : Addr) (rs : List Ru) : CO := .ins CS [("rules", .lst (rs.map ruD))]
end DL
set_option Elab.async false
set_option linter.all false
set_option maxRecDepth 100000
set_option maxHeartbeats 1000000
namespace DL
open PySem PySem.Spec PyProof.Rows L2 Mv
def iD (l : List Int) : D := .tup (l.map D.int)
def okR (n : Nat) (rk : List Int) : Bool := rk.length == n && (List.range n).all fun k : Nat => decide ((k : Int) ∈ rk)
def asc (yd : List Int) : Bool := (yd.zip (yd.drop 1)).all fun p => decide (p.1 < p.2)
def okY (n : Nat) (yd : List Int) : Bool := !yd.isEmpty && asc yd && decide (0 ≤ yd.headD 0) && decide (yd.getLastD 0 < n)
def mkOf (ws : List Wk) (i : Int) : Mk := match atI ws i with
  | some w => w.2
  | none => .a
def lineup (rk yd : List Int) : List Int := rk.filter (· ∈ yd)
def walkM (mk : Int → Mk) (rs : List Ru) : List Int → List Mk → List (Int × Bool)
  | [], _ => []
  | w :: r, seen => (w, tkM rs (mk w) seen) :: walkM mk rs r (seen ++ [mk w])
def stD (p : Int × Bool) : D := .tup [.int p.1, .bl p.2]
def firstM (st : List (Int × Bool)) : Int := match st.find? (·.2) with
  | some p => p.1
  | none => (st.headD (0, false)).1
theorem walk_app (mk : Int → Mk) (rs : List Ru) : ∀ (a b : List Int) (sn : List Mk), walkM mk rs (a ++ b) sn = walkM mk rs a sn ++ walkM mk rs b (sn ++ a.map mk)
  | [], b, sn => by simp [walkM]
  | x :: a, b, sn => by
    rw [List.cons_append, walkM, walkM, walk_app mk rs a b, List.map_cons, List.cons_append, List.append_assoc]
    rfl
theorem walk_len (mk : Int → Mk) (rs : List Ru) : ∀ (a : List Int) (sn : List Mk), (walkM mk rs a sn).length = a.length
  | [], _ => rfl
  | x :: a, sn => by rw [walkM, List.length_cons, walk_len, List.length_cons]
theorem asc_cons {x y : Int} {l : List Int} : asc (x :: y :: l) = (decide (x < y) && asc (y :: l)) := rfl
theorem asc_lt : ∀ {l : List Int} {x : Int}, asc (x :: l) = true → ∀ z ∈ l, x < z
  | [], _, _, z, h => by cases h
  | y :: l, x, h, z, hz => by
    rw [asc_cons, Bool.and_eq_true] at h
    have h1 := of_decide_eq_true h.1
    rcases List.mem_cons.mp hz with rfl | hz
    · exact h1
    · have := asc_lt h.2 z hz
      omega
theorem asc_last : ∀ {l : List Int} {x : Int}, asc (x :: l) = true → ∀ z ∈ x :: l, z ≤ (x :: l).getLastD 0
  | [], x, _, z, h => by
    rw [List.mem_singleton.mp h]
    exact Int.le_refl _
  | y :: l, x, h, z, hz => by
    rw [asc_cons, Bool.and_eq_true] at h
    have h1 := of_decide_eq_true h.1
    have hy := asc_last h.2 y List.mem_cons_self
    have e : (x :: y :: l).getLastD 0 = (y :: l).getLastD 0 := by simp [List.getLastD_cons]
    rw [e]
    rcases List.mem_cons.mp hz with rfl | hz
    · omega
    · exact asc_last h.2 z hz
theorem okY_mem {n : Nat} {yd : List Int} (h : okY n yd = true) : ∀ z ∈ yd, 0 ≤ z ∧ z < n := by
  unfold okY at h
  rw [Bool.and_eq_true, Bool.and_eq_true, Bool.and_eq_true] at h
  obtain ⟨⟨⟨h1, h2⟩, h3⟩, h4⟩ := h
  have h3 := of_decide_eq_true h3
  have h4 := of_decide_eq_true h4
  intro z hz
  cases yd with
  | nil => cases hz
  | cons x l =>
    have := asc_last h2 z hz
    rcases List.mem_cons.mp hz with rfl | hz'
    · exact ⟨h3, by omega⟩
    · have := asc_lt h2 z hz'
      have h3 : 0 ≤ x := h3
      exact ⟨by omega, by omega⟩
theorem okR_mem {n : Nat} {rk : List Int} (h : okR n rk = true) {z : Int} (h0 : 0 ≤ z) (h1 : z < n) : z ∈ rk := by
  unfold okR at h
  rw [Bool.and_eq_true] at h
  have := List.all_eq_true.mp h.2 z.toNat (List.mem_range.mpr (by omega))
  have := of_decide_eq_true this
  rwa [Int.toNat_of_nonneg h0] at this
theorem lineup_ne {n : Nat} {rk yd : List Int} (h : okR n rk = true) (k : okY n yd = true) : lineup rk yd ≠ [] := by
  have hm := okY_mem k
  unfold okY at k
  cases yd with
  | nil => simp at k
  | cons y l =>
    have hy := hm y List.mem_cons_self
    have : y ∈ lineup rk (y :: l) := List.mem_filter.mpr ⟨okR_mem h hy.1 hy.2, by simp⟩
    intro z
    rw [z] at this
    cases this
end DL
namespace DL
open PySem PySem.Spec PyProof.Rows L2 Mv
theorem first_at {done rest : List (Int × Bool)} {p : Int × Bool} (hd : ∀ q ∈ done, q.2 = false) (hp : p.2 = true) : firstM (done ++ p :: rest) = p.1 := by
  unfold firstM
  rw [List.find?_append, List.find?_eq_none.mpr (fun q hq => by simp [hd q hq]), Option.none_or, List.find?_cons_of_pos hp]
theorem first_none {st : List (Int × Bool)} {p : Int × Bool} {r : List (Int × Bool)} (e : st = p :: r) (hd : ∀ q ∈ st, q.2 = false) : firstM st = p.1 := by
  unfold firstM
  rw [List.find?_eq_none.mpr (fun q hq => by simp [hd q hq]), e]
  rfl
end DL
namespace DL
open PySem PySem.Spec PyProof.Rows L2 Mv
def stS (ns : List Int) : SV := .o false (.lst (ns.map D.int))
theorem fmod_pos {i m : Int} (h : 0 < m) : 0 ≤ i.fmod m ∧ i.fmod m < m := ⟨Int.fmod_nonneg_of_pos i h, Int.fmod_lt_of_pos i h⟩
end DL
namespace DL
open PySem PySem.Spec PyProof.Rows L2 Mv
def pw2 : List Int := [1, 2, 4, 8, 16, 32]
def spotM (n m : Nat) : List Int := ((List.range n).filter fun i => decide (((m : Int) / (pw2.getD i 1)) % 2 = 1)).map fun i : Nat => (i : Int)
theorem spot_ok : ∀ n < 6, ∀ m < 2 ^ n, 1 ≤ m → okY n (spotM n m) = true := by decide +kernel
def nmL : List Str := ["m", "kb", "a", "zzz", "if", "any"]
def nmAt (t : Int) (k : Nat) : Str := nmL.getD ((((k : Int) * 5 + t) % 6).toNat) "m"
theorem nm_isNm (t : Int) (k : Nat) : isNm (nmAt t k) := by
  have h : ∀ i < 6, isNm (nmL.getD i "m") := by
    intro i hi
    rcases i with _ | _ | _ | _ | _ | _ | i
    · exact ⟨by decide +kernel, by decide +kernel, by decide +kernel⟩
    · exact ⟨by decide +kernel, by decide +kernel, by decide +kernel⟩
    · exact ⟨by decide +kernel, by decide +kernel, by decide +kernel⟩
    · exact ⟨by decide +kernel, by decide +kernel, by decide +kernel⟩
    · exact ⟨by decide +kernel, by decide +kernel, by decide +kernel⟩
    · exact ⟨by decide +kernel, by decide +kernel, by decide +kernel⟩
    · omega
  exact h _ (by omega)
theorem mk_isNm (m : Mk) : isNm m.s := by cases m <;> exact ⟨by decide +kernel, by decide +kernel, by decide +kernel⟩
theorem nm_inj {t : Int} {k l : Nat} (hk : k < 6) (hl : l < 6) (h : nmAt t k = nmAt t l) : k = l := by
  have key : ∀ i < 6, ∀ j < 6, nmL.getD i "m" = nmL.getD j "m" → i = j := by decide +kernel
  have := key _ (by omega) _ (by omega) h
  omega
theorem nm_at {t : Int} {k : Nat} : atI (nmL.map D.str) (((k : Int) * 5 + t) % 6) = some (.str (nmAt t k)) := by
  have h0 : 0 ≤ ((k : Int) * 5 + t) % 6 := by omega
  have h1 : (((k : Int) * 5 + t) % 6).toNat < 6 := by omega
  rw [atI_map, ← Int.toNat_of_nonneg h0, atI_nat]
  unfold nmAt
  rw [List.getD_eq_getElem?_getD]
  have : (((k : Int) * 5 + t) % 6).toNat < nmL.length := h1
  rw [List.getElem?_eq_getElem this]
  rfl
theorem pw_at {k : Nat} (h : k < 6) : atI (pw2.map D.int) (0 + (k : Int)) = some (.int (pw2.getD k 1)) := by
  rw [Int.zero_add, atI_nat, List.getElem?_map, List.getD_eq_getElem?_getD]
  have : k < pw2.length := h
  rw [List.getElem?_eq_getElem this]
  rfl
theorem pw_pos {k : Nat} (h : k < 6) : 0 < pw2.getD k 1 ∧ pw2.getD k 1 ≤ 32 := by
  have : ∀ k < 6, 0 < pw2.getD k 1 ∧ pw2.getD k 1 ≤ 32 := by decide +kernel
  exact this k h
end DL
namespace DL
open PySem PySem.Spec PyProof.Rows L2 Mv
theorem mask_add : ∀ n < 6, ∀ m : Nat, m < 2 ^ n → ∀ k < n, ¬ ((m : Int) / (pw2.getD k 1)) % 2 = 1 → (m : Int) + pw2.getD k 1 < 2 ^ n := by decide +kernel
theorem mask_sub : ∀ n < 6, ∀ m : Nat, m < 2 ^ n → ∀ k < n, ((m : Int) / (pw2.getD k 1)) % 2 = 1 → 0 ≤ (m : Int) - pw2.getD k 1 := by decide +kernel
theorem full_at : ∀ n : Nat, n < 6 → 1 ≤ n → atI [D.int 1, D.int 3, D.int 7, D.int 15, D.int 31, D.int 63] ((n : Int) - 1) = some (.int (((2 ^ n - 1 : Nat)) : Int)) := by
  intro n h h1
  match n, h, h1 with
  | 1, _, _ => rfl
  | 2, _, _ => rfl
  | 3, _, _ => rfl
  | 4, _, _ => rfl
  | 5, _, _ => rfl
end DL
namespace DL
open PySem PySem.Spec PyProof.Rows L2 Mv
theorem seqIndex_nat {i : Int} {n : Nat} (h0 : 0 ≤ i) (h1 : i < n) : seqIndex? i n = some i.toNat := by
  have e : ixN n i = some i.toNat := by unfold ixN; rw [if_pos h0, if_pos h1]
  exact (ixN_seq e).1
theorem perm_erase {α : Type} : ∀ (l : List α) (i : Nat) (h : i < l.length), (l[i] :: l.eraseIdx i).Perm l
  | x :: l, 0, _ => .refl _
  | x :: l, i + 1, h => by
    have hi : i < l.length := Nat.lt_of_succ_lt_succ h
    have ih := perm_erase l i hi
    show (l[i] :: x :: l.eraseIdx i).Perm (x :: l)
    exact (List.Perm.swap _ _ _).trans (ih.cons x)
end DL
namespace DL
open PySem PySem.Spec PyProof.Rows L2 Mv
theorem spot_len (n m : Nat) : (spotM n m).length ≤ n := by
  unfold spotM
  rw [List.length_map]
  exact Nat.le_trans (List.length_filter_le _ _) (by rw [List.length_range]; exact Nat.le_refl _)
end DL
namespace DL
open PySem PySem.Spec PyProof.Rows L2 Mv
theorem erase_map {α β : Type} (f : α → β) : ∀ (l : List α) (i : Nat), (l.map f).eraseIdx i = (l.eraseIdx i).map f
  | [], _ => rfl
  | x :: l, 0 => rfl
  | x :: l, i + 1 => by
    show f x :: (l.map f).eraseIdx i = f x :: (l.eraseIdx i).map f
    rw [erase_map f l i]
theorem pow_cast (n : Nat) : ((2 : Int) ^ n) = ((2 ^ n : Nat) : Int) := by simp
end DL
namespace DL
open PySem PySem.Spec PyProof.Rows L2 Mv
theorem zipIdx_map' {α β : Type} (f : α → β) : ∀ (l : List α) (n : Nat), (l.map f).zipIdx n = (l.zipIdx n).map fun p => (f p.1, p.2)
  | [], _ => rfl
  | x :: l, n => by
    rw [List.map_cons, List.zipIdx_cons, List.zipIdx_cons, List.map_cons, zipIdx_map' f l]
theorem enumL_ints (l : List Int) : enumL (l.map D.int) = l.zipIdx.map fun p : Int × Nat => .tup [.int (p.2 : Nat), .int p.1] := by
  unfold enumL
  rw [zipIdx_map', List.map_map]
  rfl
end DL
set_option Elab.async false
set_option linter.all false
set_option maxRecDepth 100000
set_option maxHeartbeats 400000
namespace DL
open PySem PySem.Spec PyProof.Rows L2 Mv
def mkL (mk : List Mk) (i : Int) : Mk := (atI mk i).getD .a
theorem mkL_eq (ws : List Wk) : mkL (ws.map (·.2)) = mkOf ws := funext fun i => by
  unfold mkL mkOf
  rw [atI_map]
  cases atI ws i <;> rfl
theorem dec_s {x m : Mk} : decide (x.s = m.s) = (x == m) := by cases x <;> cases m <;> decide +kernel
theorem bel_none {m : Mk} : bel m none = true := by cases m <;> rfl
theorem bel_some {m x : Mk} : bel m (some x) = (x == m) := by cases m <;> cases x <;> rfl
theorem boH_eq (b : Bo) (sn : List Mk) : boH b sn = (b.2.1 == decide (((sn.filter (bel · b.1)).length : Int) < b.2.2)) := by
  unfold boH
  cases b.2.1 with
  | true =>
    rw [if_pos rfl]
    cases decide (((sn.filter (bel · b.1)).length : Int) < b.2.2) <;> rfl
  | false =>
    rw [if_neg (by simp)]
    by_cases h : ((sn.filter (bel · b.1)).length : Int) < b.2.2
    · rw [decide_eq_true h, decide_eq_false (by omega)]
      rfl
    · rw [decide_eq_false h, decide_eq_true (by omega)]
      rfl
def mixS (lu : List Int) (p : List Int × List Int) (w : Int) : List Int × List Int := if w ∈ lu then (p.1 ++ [p.2.headD 0], p.2.tail) else (p.1 ++ [w], p.2)
def mixM (lu sec : List Int) : List Int × List Int := sec.foldl (mixS lu) ([], lu)
def togM (sp : List Int) (w : Int) : List Int := if w ∈ sp then sp.filter (fun z => decide (z ≠ w)) else sortI (sp ++ [w])
theorem dep_st (p : Int × Bool) : dep 1 (stD p) := dep_tup (n := 0) fun x hx => by
  simp only [List.mem_cons, List.not_mem_nil, or_false] at hx
  rcases hx with rfl | rfl
  · exact dep_int 0 _
  · exact dep_bl 0 _
theorem dep_sts (st : List (Int × Bool)) : dep 2 (.lst (st.map stD)) := dep_lst fun x hx => by
  obtain ⟨p, _, rfl⟩ := List.mem_map.mp hx
  exact dep_st p
theorem dep_ints (l : List Int) : dep 1 (.lst (l.map D.int)) := dep_lst fun x hx => by
  obtain ⟨p, _, rfl⟩ := List.mem_map.mp hx
  exact dep_int 0 p
end DL
namespace DL
open PySem PySem.Spec PyProof.Rows L2 Mv
theorem okR_len {n : Nat} {l : List Int} (h : l.length ≠ n) : okR n l = false := by
  unfold okR
  simp [h]
theorem okR_miss {n : Nat} {l : List Int} {z : Int} (h0 : 0 ≤ z) (h1 : z < n) (h : z ∉ l) : okR n l = false := by
  cases e : okR n l with
  | false => rfl
  | true => exact absurd (okR_mem e h0 h1) h
abbrev idL (n : Nat) : List Int := (List.range n).map fun k : Nat => (k : Int)
theorem idL_nodup (n : Nat) : (idL n).Nodup := List.Pairwise.map _ (fun a b (h : a ≠ b) z => h (by exact_mod_cast z)) List.nodup_range
theorem idL_mem {n : Nat} {z : Int} : z ∈ idL n ↔ 0 ≤ z ∧ z < n := by
  rw [List.mem_map]
  constructor
  · rintro ⟨k, hk, rfl⟩
    have := List.mem_range.mp hk
    omega
  · rintro ⟨h0, h1⟩
    exact ⟨z.toNat, List.mem_range.mpr (by omega), by omega⟩
theorem okR_perm {n : Nat} {rk : List Int} (h : rk.Perm (idL n)) : okR n rk = true := by
  unfold okR
  rw [h.length_eq, List.length_map, List.length_range, Bool.and_eq_true]
  refine ⟨by simp, List.all_eq_true.mpr fun k hk => decide_eq_true (h.mem_iff.mpr (idL_mem.mpr ?_))⟩
  have := List.mem_range.mp hk
  omega
theorem bad_swap {rk : List Int} (h : rk.Perm (idL rk.length)) {p : Nat} (hp : p < rk.length) {z : Int} (hz : z < 0 ∨ (rk.length : Int) ≤ z) : okR rk.length (rk.take p ++ [z] ++ rk.drop (p + 1)) = false := by
  have nd : rk.Nodup := h.nodup_iff.mpr (idL_nodup _)
  have e : rk = rk.take p ++ rk[p] :: rk.drop (p + 1) := by
    rw [← List.drop_eq_getElem_cons hp, List.take_append_drop]
  have hm := idL_mem.mp (h.mem_iff.mp (List.getElem_mem hp))
  rw [e] at nd
  have nd2 := List.nodup_append.mp nd
  have nd3 := List.nodup_cons.mp nd2.2.1
  refine okR_miss hm.1 hm.2 fun hx => ?_
  rcases List.mem_append.mp hx with hx | hx
  · rcases List.mem_append.mp hx with hx | hx
    · exact nd2.2.2 _ hx _ List.mem_cons_self rfl
    · have := List.mem_singleton.mp hx
      omega
  · exact nd3.1 hx
end DL
set_option Elab.async false
set_option linter.all false
set_option maxRecDepth 100000
set_option maxHeartbeats 1000000
namespace DL
open PySem PySem.Spec PyProof.Rows L2 Mv
def crewA (CC : Addr) (ws : List Wk) : SV := .o false (crewO CC ws)
def rulesOk (rs : List Ru) : Prop := rs.length ≤ 4000 ∧ ∀ r ∈ rs, r.2.length ≤ 4000
def holdM (ws : List Wk) (rs : List Ru) (rk yd : List Int) : Int := firstM (walkM (mkOf ws) rs (lineup rk yd) [])
def yD (yd : List Int) : D := iD yd
/-! ### dicts of typed keys -/
section
variable {α β : Type} [DecidableEq α]
def getA (L : List (α × β)) (a : α) : Option β := (L.find? fun p => decide (p.1 = a)).map (·.2)
def putA (L : List (α × β)) (a : α) (b : β) : List (α × β) := if (getA L a).isSome then L.map fun p => if p.1 = a then (p.1, b) else p else L ++ [(a, b)]
theorem getN_enc (enc : α → D) (g : β → D) (inj : ∀ a b, nk (enc a) = nk (enc b) ↔ a = b) : ∀ (L : List (α × β)) (a : α), getN (L.map fun p => (enc p.1, g p.2)) (enc a) = (getA L a).map g
  | [], a => rfl
  | p :: L, a => by
    by_cases h : p.1 = a
    · simp [getN, getA, List.find?_cons, h]
    · have h' : ¬ nk (enc p.1) = nk (enc a) := fun z => h ((inj _ _).mp z)
      have := getN_enc enc g inj L a
      simp only [getN, getA, List.map_cons, List.find?_cons, h, h', decide_false] at this ⊢
      exact this
theorem putN_enc (enc : α → D) (g : β → D) (inj : ∀ a b, nk (enc a) = nk (enc b) ↔ a = b) (L : List (α × β)) (a : α) (b : β) : putDN (L.map fun p => (enc p.1, g p.2)) (enc a) (g b) = (putA L a b).map fun p => (enc p.1, g p.2) := by
  unfold putDN putA
  rw [getN_enc enc g inj, Option.isSome_map]
  split
  · rw [List.map_map, List.map_map]
    refine List.map_congr_left fun p hp => ?_
    by_cases h : p.1 = a
    · simp [h]
    · have h' : ¬ nk (enc p.1) = nk (enc a) := fun z => h ((inj _ _).mp z)
      simp [h, h']
  · rw [List.map_append]
    rfl
theorem putA_len {L : List (α × β)} {a : α} {b : β} : (putA L a b).length ≤ L.length + 1 := by
  unfold putA
  split <;> simp
theorem getA_mem {L : List (α × β)} {a : α} : (getA L a).isSome = true ↔ a ∈ L.map (·.1) := by
  unfold getA
  rw [Option.isSome_map, List.find?_isSome]
  simp only [decide_eq_true_eq, List.mem_map]
/-- the keys behind a putting -/
theorem putA_keys (L : List (α × β)) (a : α) (b : β) : (putA L a b).map (·.1) = if a ∈ L.map (·.1) then L.map (·.1) else L.map (·.1) ++ [a] := by
  unfold putA
  by_cases h : a ∈ L.map (·.1)
  · rw [if_pos (getA_mem.mpr h), if_pos h, List.map_map]
    refine List.map_congr_left fun p hp => ?_
    by_cases e : p.1 = a <;> simp [e]
  · rw [if_neg (fun z => h (getA_mem.mp z)), if_neg h, List.map_append]
    rfl
/-- each at its first place -/
def addK (l : List α) (a : α) : List α := if a ∈ l then l else l ++ [a]
theorem mem_addK {l : List α} {a x : α} : x ∈ addK l a ↔ x ∈ l ∨ x = a := by
  unfold addK
  split
  · exact ⟨.inl, fun h => h.elim id fun e => by rw [e]; assumption⟩
  · simp
theorem nodup_addK {l : List α} {a : α} (h : l.Nodup) : (addK l a).Nodup := by
  unfold addK
  split
  · exact h
  · rename_i n
    exact List.nodup_append.mpr ⟨h, by simp, fun x hx y hy e => n (by rw [List.mem_singleton.mp hy] at e; rw [← e]; exact hx)⟩
theorem mem_foldK {l : List α} : ∀ {as : List α} {x : α}, x ∈ as.foldl addK l ↔ x ∈ l ∨ x ∈ as
  | [], x => by simp
  | a :: as, x => by
    rw [List.foldl_cons, mem_foldK (as := as), mem_addK, List.mem_cons, or_assoc]
theorem nodup_foldK {l : List α} (h : l.Nodup) : ∀ {as : List α}, (as.foldl addK l).Nodup
  | [] => h
  | a :: as => nodup_foldK (nodup_addK h) (as := as)
end
end DL
set_option Elab.async false
set_option linter.all false
set_option maxRecDepth 100000
set_option maxHeartbeats 1000000
/-! nodes, levels, verdicts -/
namespace DL
open PySem PySem.Spec PyProof.Rows L2 Mv
abbrev Nd := List Int × List Int × List Int
def nD (n : Nd) : D := .tup [iD n.1, iD n.2.1, iD n.2.2]
def startN (ys : List (List Int)) : Nd := ([], ys.map fun _ => -1, ys.map fun _ => -1)
def heldS (mk : Int → Mk) (rs : List Ru) (placed : List Int) (w : Int) (yd : List Int) (h : Int) : Int := if w ∈ yd then (if h = -1 then (if tkM rs (mk w) ((placed.filter (· ∈ yd)).map mk) = true then w else h) else h) else h
def firstS (w : Int) (yd : List Int) (f : Int) : Int := if w ∈ yd then (if f = -1 then w else f) else f
def nextN (mk : Int → Mk) (rs : List Ru) (ys : List (List Int)) (n : Nd) (w : Int) : Nd := (sortI (n.1 ++ [w]), List.zipWith (heldS mk rs n.1 w) ys n.2.1, List.zipWith (firstS w) ys n.2.2)
def settledN (n : Nd) : List Int := List.zipWith (fun t f => if t = -1 then f else t) n.2.1 n.2.2
def unplN (sz : Nat) (placed : List Int) : List Int := (idL sz).filter fun w => decide (w ∉ placed)
/-- a node as it may be -/
structure NdOk (sz : Nat) (ys : List (List Int)) (n : Nd) : Prop where
  l1 : n.2.1.length = ys.length
  l2 : n.2.2.length = ys.length
  pl : ∀ w ∈ n.1, 0 ≤ w ∧ w < sz
theorem startN_ok (sz : Nat) (ys : List (List Int)) : NdOk sz ys (startN ys) := ⟨by simp [startN], by simp [startN], fun w h => by cases h⟩
theorem sortI_mem {l : List Int} {x : Int} : x ∈ sortI l ↔ x ∈ l := by unfold sortI; exact (List.mergeSort_perm _ _).mem_iff
theorem unplN_mem {sz : Nat} {pl : List Int} {w : Int} : w ∈ unplN sz pl ↔ (0 ≤ w ∧ w < sz) ∧ w ∉ pl := by
  unfold unplN
  rw [List.mem_filter, idL_mem]
  simp
theorem unplN_len (sz : Nat) (pl : List Int) : (unplN sz pl).length ≤ sz := by
  refine Nat.le_trans (List.length_filter_le _ _) ?_
  simp
theorem nextN_ok {sz : Nat} {ys : List (List Int)} {n : Nd} {mk : Int → Mk} {rs : List Ru} {w : Int} (h : NdOk sz ys n) (h0 : 0 ≤ w) (h1 : w < sz) : NdOk sz ys (nextN mk rs ys n w) := by
  refine ⟨?_, ?_, fun z hz => ?_⟩
  · simp [nextN, h.l1]
  · simp [nextN, h.l2]
  · rcases List.mem_append.mp (sortI_mem.mp hz) with q | q
    · exact h.pl z q
    · rw [List.mem_singleton.mp q]
      exact ⟨h0, h1⟩
theorem zipW_map {α β γ : Type} (f : α → β → γ) : ∀ (xs : List α) (ys : List β), List.zipWith f xs ys = (xs.zip ys).map fun p => f p.1 p.2
  | [], _ => by simp
  | _ :: _, [] => by simp
  | x :: xs, y :: ys => by simp [zipW_map f xs ys]
theorem vl_table {a b : D} : List.lookup ("table" : Str) [("table", a), ("ranking", b)] = some a := rfl
theorem vl_rank {a b : D} : List.lookup ("ranking" : Str) [("table", a), ("ranking", b)] = some b := rfl
theorem vl_holds {a b : D} : List.lookup ("holds" : Str) [("table", a), ("ranking", b)] = none := rfl
/-! ### keys -/
theorem nks_ints : ∀ l : List Int, nks (l.map D.int) = some (l.map NestedKey.num)
  | [] => rfl
  | x :: l => by
    rw [List.map_cons]
    unfold nks
    rw [nks_ints l]
    rfl
theorem nk_iD (l : List Int) : nk (iD l) = some (.tup (l.map .num)) := by
  unfold iD nk
  rw [nks_ints]
  rfl
theorem nk_nD (n : Nd) : nk (nD n) = some (.tup [.tup (n.1.map .num), .tup (n.2.1.map .num), .tup (n.2.2.map .num)]) := by
  unfold nD nk
  simp only [nks, nk_iD, Option.map_some]
theorem num_inj {a b : List Int} (h : a.map NestedKey.num = b.map NestedKey.num) : a = b := by
  induction a generalizing b with
  | nil => cases b with | nil => rfl | cons _ _ => cases h
  | cons x a ih =>
    cases b with
    | nil => cases h
    | cons y b =>
      obtain ⟨h1, h2⟩ := List.cons.inj h
      cases h1
      rw [ih h2]
theorem nk_nD_inj (a b : Nd) : nk (nD a) = nk (nD b) ↔ a = b := by
  refine ⟨fun h => ?_, fun h => by rw [h]⟩
  rw [nk_nD, nk_nD] at h
  obtain ⟨a1, a2, a3⟩ := a
  obtain ⟨b1, b2, b3⟩ := b
  simp only [Option.some.injEq, NestedKey.tup.injEq, List.cons.injEq, and_true] at h
  rw [num_inj h.1, num_inj h.2.1, num_inj h.2.2]
theorem plainKs_num : ∀ l : List Int, plainKs (l.map .num) = true
  | [] => rfl
  | x :: l => by
    rw [List.map_cons]
    unfold plainKs plainK
    rw [plainKs_num l]
    rfl
theorem depthAll_num : ∀ l : List Int, NestedKey.depthAll (l.map .num) = 0
  | [] => rfl
  | x :: l => by
    rw [List.map_cons]
    unfold NestedKey.depthAll NestedKey.depth
    rw [depthAll_num l]
    rfl
theorem okKey_nD (n : Nd) : okKey (nD n) := by
  refine ⟨⟨_, rfl⟩, _, nk_nD n, ?_, ?_⟩
  · simp only [plainK, plainKs, plainKs_num, Bool.and_true]
  · simp only [NestedKey.depth, NestedKey.depthAll, depthAll_num]
    decide
theorem okKey_iD (l : List Int) : okKey (iD l) := by
  refine ⟨⟨_, rfl⟩, _, nk_iD l, ?_, ?_⟩
  · simp only [plainK, plainKs_num]
  · simp only [NestedKey.depth, depthAll_num]
    decide
theorem nk_iD_inj (a b : List Int) : nk (iD a) = nk (iD b) ↔ a = b := by
  refine ⟨fun h => ?_, fun h => by rw [h]⟩
  rw [nk_iD, nk_iD] at h
  simp only [Option.some.injEq, NestedKey.tup.injEq] at h
  exact num_inj h
/-! ### levels -/
abbrev Lv := List (Nd × Int)
def lvD (L : Lv) : D := .dN (L.map fun p => (nD p.1, D.int p.2))
def lvIn (mk : Int → Mk) (rs : List Ru) (ys : List (List Int)) (n : Nd) (c : Int) (acc : Lv) (ws : List Int) : Lv := ws.foldl (fun acc w => putA acc (nextN mk rs ys n w) ((getA acc (nextN mk rs ys n w)).getD 0 + c)) acc
def lvS (mk : Int → Mk) (rs : List Ru) (ys : List (List Int)) (sz : Nat) (acc : Lv) (l : Lv) : Lv := l.foldl (fun acc p => lvIn mk rs ys p.1 p.2 acc (unplN sz p.1.1)) acc
def lvK (mk : Int → Mk) (rs : List Ru) (ys : List (List Int)) (sz : Nat) : Nat → Lv
  | 0 => [(startN ys, 1)]
  | k + 1 => lvS mk rs ys sz [] (lvK mk rs ys sz k)
section
variable {mk : Int → Mk} {rs : List Ru} {ys : List (List Int)} {sz : Nat}
theorem lvIn_len {n : Nd} {c : Int} : ∀ (ws : List Int) (acc : Lv), (lvIn mk rs ys n c acc ws).length ≤ acc.length + ws.length
  | [], acc => by simp [lvIn]
  | w :: ws, acc => by
    have h1 := lvIn_len (n := n) (c := c) ws (putA acc (nextN mk rs ys n w) ((getA acc (nextN mk rs ys n w)).getD 0 + c))
    have h2 := putA_len (L := acc) (a := nextN mk rs ys n w) (b := (getA acc (nextN mk rs ys n w)).getD 0 + c)
    unfold lvIn at h1 ⊢
    rw [List.foldl_cons, List.length_cons]
    omega
theorem lvS_len : ∀ (l acc : Lv), (lvS mk rs ys sz acc l).length ≤ acc.length + l.length * sz
  | [], acc => by simp [lvS]
  | p :: l, acc => by
    have h1 := lvS_len l (lvIn mk rs ys p.1 p.2 acc (unplN sz p.1.1))
    have h2 := lvIn_len (mk := mk) (rs := rs) (ys := ys) (n := p.1) (c := p.2) (unplN sz p.1.1) acc
    have h3 := unplN_len sz p.1.1
    unfold lvS at h1 ⊢
    rw [List.foldl_cons, List.length_cons, Nat.succ_mul]
    omega
theorem lvK_len : ∀ k, (lvK mk rs ys sz k).length ≤ sz ^ k
  | 0 => by simp [lvK]
  | k + 1 => by
    have h1 := lvS_len (mk := mk) (rs := rs) (ys := ys) (sz := sz) (lvK mk rs ys sz k) []
    have h2 := Nat.mul_le_mul_right sz (lvK_len k)
    unfold lvK
    rw [List.length_nil] at h1
    rw [Nat.pow_succ]
    omega
/-- the nodes of a step, in their order -/
def lvNs (mk : Int → Mk) (rs : List Ru) (ys : List (List Int)) (sz : Nat) (l : List Nd) : List Nd := (l.flatMap fun n => (unplN sz n.1).map (nextN mk rs ys n))
theorem lvIn_keys {n : Nd} {c : Int} : ∀ (ws : List Int) (acc : Lv), (lvIn mk rs ys n c acc ws).map (·.1) = (ws.map (nextN mk rs ys n)).foldl addK (acc.map (·.1))
  | [], acc => rfl
  | w :: ws, acc => by
    have h1 := lvIn_keys (n := n) (c := c) ws (putA acc (nextN mk rs ys n w) ((getA acc (nextN mk rs ys n w)).getD 0 + c))
    unfold lvIn at h1 ⊢
    rw [List.foldl_cons, h1, putA_keys, List.map_cons, List.foldl_cons]
    rfl
theorem lvS_keys : ∀ (l acc : Lv), (lvS mk rs ys sz acc l).map (·.1) = (lvNs mk rs ys sz (l.map (·.1))).foldl addK (acc.map (·.1))
  | [], acc => rfl
  | p :: l, acc => by
    have h1 := lvS_keys l (lvIn mk rs ys p.1 p.2 acc (unplN sz p.1.1))
    unfold lvS at h1 ⊢
    rw [List.foldl_cons, h1, lvIn_keys]
    unfold lvNs
    rw [List.map_cons, List.flatMap_cons, List.foldl_append]
theorem lvIn_ok {n : Nd} {c : Int} (hn : NdOk sz ys n) : ∀ (ws : List Int) (acc : Lv), (∀ w ∈ ws, 0 ≤ w ∧ w < sz) → (∀ p ∈ acc, NdOk sz ys p.1) → ∀ p ∈ lvIn mk rs ys n c acc ws, NdOk sz ys p.1 := fun ws acc hw ha p hp => by
  have hm : p.1 ∈ (lvIn mk rs ys n c acc ws).map (·.1) := List.mem_map.mpr ⟨p, hp, rfl⟩
  rw [lvIn_keys, mem_foldK] at hm
  rcases hm with h | h
  · obtain ⟨q, hq, e⟩ := List.mem_map.mp h
    rw [← e]
    exact ha q hq
  · obtain ⟨w, hw', e⟩ := List.mem_map.mp h
    rw [← e]
    exact nextN_ok hn (hw w hw').1 (hw w hw').2
theorem lvS_ok : ∀ (l acc : Lv), (∀ p ∈ l, NdOk sz ys p.1) → (∀ p ∈ acc, NdOk sz ys p.1) → ∀ p ∈ lvS mk rs ys sz acc l, NdOk sz ys p.1
  | [], acc, _, ha => ha
  | q :: l, acc, hl, ha => by
    unfold lvS
    rw [List.foldl_cons]
    exact lvS_ok l _ (fun p hp => hl p (List.mem_cons_of_mem _ hp)) (lvIn_ok (hl q List.mem_cons_self) _ _ (fun w hw => (unplN_mem.mp hw).1) ha)
theorem lvK_ok : ∀ k, ∀ p ∈ lvK mk rs ys sz k, NdOk sz ys p.1
  | 0 => fun p hp => by rw [List.mem_singleton.mp hp]; exact startN_ok sz ys
  | k + 1 => lvS_ok _ _ (lvK_ok k) fun p hp => by cases hp
end
/-! ### loops over yards -/
theorem enumL_map {α : Type} (f : α → D) (xs : List α) : enumL (xs.map f) = xs.zipIdx.map fun p : α × Nat => .tup [.int (p.2 : Nat), f p.1] := by
  unfold enumL
  rw [zipIdx_map', List.map_map]
  rfl
theorem zipIdx_split {α : Type} {xs : List α} {done rest : List (α × Nat)} {p : α × Nat} (e : xs.zipIdx = done ++ p :: rest) : p.2 = done.length ∧ xs[done.length]? = some p.1 := by
  have h := congrArg (fun l => l[done.length]?) e
  simp only [List.getElem?_append_right (Nat.le_refl _), Nat.sub_self, List.getElem?_cons_zero, List.getElem?_zipIdx, Nat.zero_add] at h
  cases h2 : xs[done.length]? with
  | none => rw [h2] at h; cases h
  | some x =>
    rw [h2] at h
    cases h
    exact ⟨rfl, rfl⟩
/-- the first k places are changed -/
def upto (f : List Int → Int → Int) (ys : List (List Int)) (l : List Int) (k : Nat) : List Int := List.zipWith f (ys.take k) (l.take k) ++ l.drop k
theorem upto_0 (f : List Int → Int → Int) (ys : List (List Int)) (l : List Int) : upto f ys l 0 = l := by simp [upto]
theorem upto_all (f : List Int → Int → Int) (ys : List (List Int)) (l : List Int) (h : l.length = ys.length) : upto f ys l ys.length = List.zipWith f ys l := by
  unfold upto
  rw [List.take_length, ← h, List.take_length, List.drop_length, List.append_nil]
theorem upto_len {f : List Int → Int → Int} {ys : List (List Int)} {l : List Int} {k : Nat} (h : l.length = ys.length) : (upto f ys l k).length = l.length := by
  unfold upto
  rw [List.length_append, List.length_zipWith, List.length_take, List.length_take, List.length_drop]
  omega
theorem upto_set {f : List Int → Int → Int} : ∀ {ys : List (List Int)} {l : List Int} {k : Nat} {yd : List Int} {x : Int}, ys[k]? = some yd → l[k]? = some x → (upto f ys l k).set k (f yd x) = upto f ys l (k + 1)
  | [], l, k, yd, x, h, _ => by simp at h
  | y :: ys, [], k, yd, x, _, h => by simp at h
  | y :: ys, z :: l, 0, yd, x, h1, h2 => by
    cases h1
    cases h2
    simp [upto]
  | y :: ys, z :: l, k + 1, yd, x, h1, h2 => by
    have := upto_set (f := f) (ys := ys) (l := l) (k := k) (yd := yd) (x := x) h1 h2
    unfold upto at this ⊢
    simp only [List.take_succ_cons, List.zipWith_cons_cons, List.drop_succ_cons, List.cons_append, List.set_cons_succ] at this ⊢
    rw [this]
theorem upto_same {f : List Int → Int → Int} {ys : List (List Int)} {l : List Int} {k : Nat} {yd : List Int} {x : Int} (h1 : ys[k]? = some yd) (h2 : l[k]? = some x) (e : f yd x = x) (hl : l.length = ys.length) : upto f ys l (k + 1) = upto f ys l k := by
  rw [← upto_set h1 h2, e]
  refine List.ext_getElem? fun i => ?_
  by_cases hi : k = i
  · subst hi
    have hk : k < l.length := (List.getElem?_eq_some_iff.mp h2).1
    rw [List.getElem?_set_self (by rw [upto_len hl]; exact hk)]
    unfold upto
    rw [List.getElem?_append_right (by simp; omega)]
    simp only [List.length_zipWith, List.length_take, List.getElem?_drop]
    rw [show k + (k - min (min k ys.length) (min k l.length)) = k by omega, h2]
  · rw [List.getElem?_set_ne hi]
theorem ixN_nat {n k : Nat} (h : k < n) : ixN n (k : Int) = some k := by
  unfold ixN
  simp
  omega
theorem lvl_last {α : Type} {k : Nat} (f : Nat → α) : atI ((List.range (k + 1)).map f) (-1) = some (f k) := by
  rw [atI_m1, List.range_succ, List.map_append]
  simp
abbrev ndE (p : Nd × Int) : D × D := (nD p.1, D.int p.2)
theorem getN_nd (L : Lv) (n : Nd) : getN (L.map ndE) (nD n) = (getA L n).map D.int := getN_enc nD D.int nk_nD_inj L n
theorem putN_nd (L : Lv) (n : Nd) (c : Int) : putDN (L.map ndE) (nD n) (.int c) = (putA L n c).map ndE := putN_enc nD D.int nk_nD_inj L n c
theorem lvD_nd (L : Lv) : lvD L = .dN (L.map ndE) := rfl
theorem getD_int (o : Option Int) : (o.map D.int).getD (.int 0) = .int (o.getD 0) := by cases o <;> rfl
theorem lvIn_app {mk : Int → Mk} {rs : List Ru} {ys : List (List Int)} {n : Nd} {c : Int} {acc : Lv} {ws : List Int} {w : Int} : lvIn mk rs ys n c acc (ws ++ [w]) = putA (lvIn mk rs ys n c acc ws) (nextN mk rs ys n w) ((getA (lvIn mk rs ys n c acc ws) (nextN mk rs ys n w)).getD 0 + c) := by
  unfold lvIn
  rw [List.foldl_append]
  rfl
theorem lvS_app {mk : Int → Mk} {rs : List Ru} {ys : List (List Int)} {sz : Nat} {acc l : Lv} {p : Nd × Int} : lvS mk rs ys sz acc (l ++ [p]) = lvIn mk rs ys p.1 p.2 (lvS mk rs ys sz acc l) (unplN sz p.1.1) := by
  unfold lvS
  rw [List.foldl_append]
  rfl
theorem lvK_pl {mk : Int → Mk} {rs : List Ru} {ys : List (List Int)} {sz : Nat} : ∀ k, ∀ p ∈ lvK mk rs ys sz k, p.1.1.length = k
  | 0 => fun p hp => by rw [List.mem_singleton.mp hp]; rfl
  | k + 1 => fun p hp => by
    have hm : p.1 ∈ (lvK mk rs ys sz (k + 1)).map (·.1) := List.mem_map.mpr ⟨p, hp, rfl⟩
    unfold lvK at hm
    rw [lvS_keys, mem_foldK] at hm
    rcases hm with h | h
    · cases h
    · unfold lvNs at h
      obtain ⟨n, hn, h⟩ := List.mem_flatMap.mp h
      obtain ⟨w, hw, e⟩ := List.mem_map.mp h
      obtain ⟨q, hq, rfl⟩ := List.mem_map.mp hn
      rw [← e]
      show (sortI _).length = _
      unfold sortI
      rw [List.length_mergeSort, List.length_append, lvK_pl k q hq]
      rfl
theorem pow5 : ∀ n ≤ 5, ∀ k ≤ n, n ^ k ≤ 3125 := by decide +kernel
theorem lvK_le {mk : Int → Mk} {rs : List Ru} {ys : List (List Int)} {sz k : Nat} (h : sz ≤ 5) (hk : k ≤ sz) : (lvK mk rs ys sz k).length ≤ 3125 := Nat.le_trans (lvK_len k) (pow5 sz h k hk)
/-! ### the first one that fails -/
def ffM (mk : Int → Mk) (rs : List Ru) (ys : List (List Int)) (sz : Nat) (p : List (List Int) → List Int → Bool) : Nat → List Int → Nd → Option (List Int)
  | 0, _, _ => none
  | m + 1, b, n => if (unplN sz n.1).length = 0 then (if p ys (settledN n) = true then some b else none) else (unplN sz n.1).findSome? fun w => ffM mk rs ys sz p m (b ++ [w]) (nextN mk rs ys n w)
def oD (o : Option (List Int)) : D := match o with
  | some l => .lst (l.map D.int)
  | none => .non
theorem unplN_next {sz : Nat} {n : Nd} {mk : Int → Mk} {rs : List Ru} {ys : List (List Int)} {w : Int} (h : w ∈ unplN sz n.1) : (unplN sz (nextN mk rs ys n w).1).length < (unplN sz n.1).length := by
  unfold unplN at h ⊢
  have key : ∀ l : List Int, w ∈ l → w ∉ n.1 → (l.filter fun x => decide (x ∉ (nextN mk rs ys n w).1)).length < (l.filter fun x => decide (x ∉ n.1)).length := fun l => by
    have hm : ∀ x, x ∈ (nextN mk rs ys n w).1 ↔ x ∈ n.1 ∨ x = w := fun x => by
      show x ∈ sortI _ ↔ _
      rw [sortI_mem]
      simp
    have le : ∀ l : List Int, (l.filter fun x => decide (x ∉ (nextN mk rs ys n w).1)).length ≤ (l.filter fun x => decide (x ∉ n.1)).length := fun l => by
      induction l with
      | nil => simp
      | cons x l ih =>
        rw [List.filter_cons, List.filter_cons]
        by_cases h1 : x ∈ n.1
        · have : x ∈ (nextN mk rs ys n w).1 := (hm x).mpr (.inl h1)
          simp only [h1, this, not_true_eq_false, decide_false, if_false]
          simpa using ih
        · by_cases h2 : x ∈ (nextN mk rs ys n w).1
          · simp only [h1, h2, not_true_eq_false, not_false_eq_true, decide_false, decide_true, if_true]
            simp
            have := ih
            simp at this
            omega
          · simp only [h1, h2, not_false_eq_true, decide_true, if_true, List.length_cons]
            exact Nat.succ_le_succ ih
    intro hw hn
    induction l with
    | nil => cases hw
    | cons x l ih =>
      rw [List.filter_cons, List.filter_cons]
      by_cases e : x = w
      · subst e
        have h2 : x ∈ (nextN mk rs ys n x).1 := (hm x).mpr (.inr rfl)
        rw [if_neg (by simp [h2]), if_pos (by simp [hn]), List.length_cons]
        exact Nat.lt_succ_of_le (le l)
      · have hw' : w ∈ l := (List.mem_cons.mp hw).resolve_left fun z => e z.symm
        have := ih hw'
        by_cases h1 : x ∈ n.1
        · rw [if_neg (by simp [(hm x).mpr (.inl h1)]), if_neg (by simp [h1])]
          exact this
        · rw [if_pos (by simp [hm, h1, e]), if_pos (by simp [h1]), List.length_cons, List.length_cons]
          exact Nat.succ_lt_succ this
  have h' := List.mem_filter.mp h
  exact key _ h'.1 (by simpa using h'.2)
theorem len0_nil {α : Type} {l : List α} : l.length = 0 ↔ l = [] := List.length_eq_zero_iff
end DL
set_option Elab.async false
set_option linter.all false
set_option maxRecDepth 100000
set_option maxHeartbeats 1000000
/-! nodes, sorted -/
namespace DL
open PySem PySem.Spec PyProof.Rows L2 Mv
open PySem.W (AllAlike Sortable dataLe keyToks keyToksAll alike alikeAll)
theorem pys_ints : ∀ l : List Int, pys (l.map D.int) = some (l.map PyData.int)
  | [] => rfl
  | x :: l => by
    rw [List.map_cons]
    unfold pys
    rw [pys_ints l]
    rfl
def ndPy (n : Nd) : PyData := .tuple [.tuple (n.1.map .int), .tuple (n.2.1.map .int), .tuple (n.2.2.map .int)]
theorem py_iD (l : List Int) : py (iD l) = some (.tuple (l.map .int)) := by
  unfold iD py
  rw [pys_ints]
  rfl
theorem py_nD (n : Nd) : py (nD n) = some (ndPy n) := by
  unfold nD py
  simp only [pys, py_iD, Option.map_some, Option.bind_some]
  rfl
theorem pyD_nD (n : Nd) : pyD (nD n) = ndPy n := by
  unfold pyD
  rw [py_nD]
  rfl
theorem okSort_nD (l : List Nd) : okSort (l.map nD) := by
  have e : (l.map nD).map pyD = l.map ndPy := by
    rw [List.map_map]
    exact List.map_congr_left fun n _ => pyD_nD n
  refine ⟨fun x hx => ?_, ?_, ?_⟩
  · obtain ⟨n, _, rfl⟩ := List.mem_map.mp hx
    refine ⟨_, py_nD n, ?_⟩
    unfold ndPy
    simp only [PyData.depth, PyData.depthAll, PySem.W.depth_ints]
    decide
  · rw [e]
    refine PySem.W.AllAlike.of fun a b => ?_
    unfold ndPy
    simp only [alike, alikeAll, PySem.W.alike_ints, Bool.and_self]
  · rw [e]
    exact PySem.W.Sortable.tuples fun a => ⟨_, _, rfl⟩
theorem toks_ints : ∀ {a b : List Int} {l m : List (Int ⊕ List Nat)}, keyToksAll (a.map .int) ++ l = keyToksAll (b.map .int) ++ m → a = b ∧ l = m
  | [], [], l, m, h => by
    simp only [List.map_nil, keyToksAll, List.cons_append, List.nil_append, List.cons.injEq, true_and] at h
    exact ⟨rfl, h⟩
  | [], y :: b, l, m, h => by simp [keyToksAll] at h
  | x :: a, [], l, m, h => by simp [keyToksAll] at h
  | x :: a, y :: b, l, m, h => by
    simp only [List.map_cons, keyToksAll, keyToks, List.cons_append, List.nil_append, List.cons.injEq, Sum.inl.injEq, true_and] at h
    obtain ⟨h1, h2⟩ := h
    obtain ⟨e1, e2⟩ := toks_ints h2
    exact ⟨by rw [h1, e1], e2⟩
theorem toks_nD {a b : Nd} (h : keyToks (pyD (nD a)) = keyToks (pyD (nD b))) : a = b := by
  rw [pyD_nD, pyD_nD] at h
  obtain ⟨a1, a2, a3⟩ := a
  obtain ⟨b1, b2, b3⟩ := b
  simp only [ndPy, keyToks, keyToksAll, List.cons.injEq, true_and] at h
  obtain ⟨e1, h⟩ := toks_ints h
  simp only [List.cons.injEq, true_and] at h
  obtain ⟨e2, h⟩ := toks_ints h
  simp only [List.cons.injEq, true_and] at h
  obtain ⟨e3, h⟩ := toks_ints h
  rw [e1, e2, e3]
theorem nD_inj {a b : Nd} (h : nD a = nD b) : a = b := (nk_nD_inj a b).mp (congrArg nk h)
/-- sorted() of the same nodes in another order -/
theorem sortDt_perm {l m : List Nd} (h : l.Perm m) : sortDt (l.map nD) = sortDt (m.map nD) := by
  unfold sortDt
  have t := PySem.W.sortLe_total (PyProof.Rows.listOrd PyProof.Rows.itemOrd) false fun b => keyToks (pyD b)
  refine List.Perm.eq_of_pairwise (le := fun a b => dataLe false pyD a b = true) (fun a b ha hb h1 h2 => ?_) (PySem.W.sort_pairwise t _) (PySem.W.sort_pairwise t _) (((List.mergeSort_perm _ _).trans (h.map nD)).trans (List.mergeSort_perm _ _).symm)
  obtain ⟨x, _, rfl⟩ := List.mem_map.mp ((List.mergeSort_perm _ _).mem_iff.mp ha)
  obtain ⟨y, _, rfl⟩ := List.mem_map.mp ((List.mergeSort_perm _ _).mem_iff.mp hb)
  have e1 : (PyProof.Rows.listOrd PyProof.Rows.itemOrd).blt (keyToks (pyD (nD y))) (keyToks (pyD (nD x))) = false := by simpa [dataLe, PySem.W.sortLe] using h1
  have e2 : (PyProof.Rows.listOrd PyProof.Rows.itemOrd).blt (keyToks (pyD (nD x))) (keyToks (pyD (nD y))) = false := by simpa [dataLe, PySem.W.sortLe] using h2
  rw [toks_nD (KeyOrd.total (PyProof.Rows.listOrd PyProof.Rows.itemOrd) _ _ e2 e1)]
theorem lvK_sum {mk : Int → Mk} {rs : List Ru} {ys : List (List Int)} {sz : Nat} (h : sz ≤ 5) : ((List.range (sz + 1)).map fun k => (lvK mk rs ys sz k).length).sum ≤ 4000 := by
  have h1 : ∀ l : List Nat, (l.map fun k => (lvK mk rs ys sz k).length).sum ≤ (l.map fun k => sz ^ k).sum := fun l => by
    induction l with
    | nil => exact Nat.le_refl _
    | cons k l ih =>
      have := lvK_len (mk := mk) (rs := rs) (ys := ys) (sz := sz) k
      simp only [List.map_cons, List.sum_cons]
      omega
  have h2 : ∀ n ≤ 5, ((List.range (n + 1)).map fun k => n ^ k).sum ≤ 4000 := by decide +kernel
  exact Nat.le_trans (h1 _) (h2 sz h)
end DL
set_option Elab.async false
set_option linter.all false
set_option maxRecDepth 100000
set_option maxHeartbeats 1000000
/-! nodes of heads -/
namespace DL
open PySem PySem.Spec PyProof.Rows L2 Mv
/-- neighbours that differ -/
def movM : List Int → Bool
  | [] => false
  | [_] => false
  | x :: y :: l => decide (x ≠ y) || movM (y :: l)
theorem movM_iff : ∀ l : List Int, movM l = true ↔ ∃ k, ∃ a b, l[k]? = some a ∧ l[k + 1]? = some b ∧ a ≠ b
  | [] => by simp [movM]
  | [x] => by simp [movM]
  | x :: y :: l => by
    rw [movM, Bool.or_eq_true, decide_eq_true_eq, movM_iff (y :: l)]
    constructor
    · rintro (h | ⟨k, a, b, h1, h2, h3⟩)
      · exact ⟨0, x, y, rfl, rfl, h⟩
      · exact ⟨k + 1, a, b, h1, h2, h3⟩
    · rintro ⟨k, a, b, h1, h2, h3⟩
      cases k with
      | zero => cases h1; cases h2; exact .inl h3
      | succ k => exact .inr ⟨k, a, b, h1, h2, h3⟩
theorem movM_no {l : List Int} (h : ∀ k a b, l[k]? = some a → l[k + 1]? = some b → a = b) : movM l = false := by
  rw [← Bool.not_eq_true, movM_iff]
  rintro ⟨k, a, b, h1, h2, h3⟩
  exact h3 (h k a b h1 h2)
theorem sortI_perm {a b : List Int} (h : a.Perm b) : sortI a = sortI b := by
  unfold sortI
  refine List.Perm.eq_of_pairwise (le := fun a b => decide (a ≤ b) = true) (fun a b _ _ h1 h2 => ?_) (List.pairwise_mergeSort (fun a b c => by simp; omega) (fun a b => by simp; omega) _) (List.pairwise_mergeSort (fun a b c => by simp; omega) (fun a b => by simp; omega) _) (((List.mergeSort_perm _ _).trans h).trans (List.mergeSort_perm _ _).symm)
  simp at h1 h2
  omega
theorem sortI_pm (a : List Int) : (sortI a).Perm a := List.mergeSort_perm _ _
theorem boH_perm {b : Bo} {s t : List Mk} (h : s.Perm t) : boH b s = boH b t := by
  unfold boH
  rw [(h.filter _).length_eq]
theorem tkM_perm {rs : List Ru} {m : Mk} {s t : List Mk} (h : s.Perm t) : tkM rs m s = tkM rs m t := by
  unfold tkM ruT
  congr 1
  funext r
  congr 2
  funext b
  exact boH_perm h
/-- one worker of a head -/
def stW (mk : Int → Mk) (rs : List Ru) (yd : List Int) (s : List Mk × Int × Int) (w : Int) : List Mk × Int × Int :=
  if w ∈ yd then (s.1 ++ [mk w], (if s.2.1 = -1 then (if tkM rs (mk w) s.1 = true then w else s.2.1) else s.2.1), (if s.2.2 = -1 then w else s.2.2)) else s
def runW (mk : Int → Mk) (rs : List Ru) (yd h : List Int) : List Mk × Int × Int := h.foldl (stW mk rs yd) ([], -1, -1)
def nodeM (mk : Int → Mk) (rs : List Ru) (ys : List (List Int)) (h : List Int) : Nd := (sortI h, ys.map fun yd => (runW mk rs yd h).2.1, ys.map fun yd => (runW mk rs yd h).2.2)
section
variable {mk : Int → Mk} {rs : List Ru} {ys : List (List Int)} {yd : List Int}
theorem runW_app (h : List Int) (w : Int) : runW mk rs yd (h ++ [w]) = stW mk rs yd (runW mk rs yd h) w := by
  unfold runW
  rw [List.foldl_append]
  rfl
theorem runW_seen (h : List Int) : (runW mk rs yd h).1 = (h.filter (· ∈ yd)).map mk := by
  have key : ∀ n, ∀ h : List Int, h.length = n → (runW mk rs yd h).1 = (h.filter (· ∈ yd)).map mk := fun n => by
    induction n with
    | zero => intro h e; rw [List.length_eq_zero_iff.mp e]; rfl
    | succ n ih =>
      intro h e
      have hne : h ≠ [] := fun z => by rw [z] at e; cases e
      have e1 := List.dropLast_concat_getLast hne
      rw [← e1, runW_app, List.filter_append, List.map_append, ← ih _ (by rw [List.length_dropLast, e]; rfl)]
      unfold stW
      by_cases hw : h.getLast hne ∈ yd
      · rw [if_pos hw]
        simp [hw]
      · rw [if_neg hw]
        simp [hw]
  exact key _ h rfl
theorem nodeM_nil : nodeM mk rs ys [] = startN ys := by
  unfold nodeM startN runW sortI
  simp
theorem nodeM_app (h : List Int) (w : Int) : nextN mk rs ys (nodeM mk rs ys h) w = nodeM mk rs ys (h ++ [w]) := by
  unfold nextN
  have e1 : sortI ((nodeM mk rs ys h).1 ++ [w]) = sortI (h ++ [w]) := sortI_perm ((sortI_pm h).append_right _)
  have e2 : List.zipWith (heldS mk rs (nodeM mk rs ys h).1 w) ys (nodeM mk rs ys h).2.1 = (nodeM mk rs ys (h ++ [w])).2.1 := by
    show List.zipWith _ ys (ys.map _) = ys.map _
    rw [List.zipWith_map_right, List.zipWith_self]
    refine List.map_congr_left fun yd _ => ?_
    rw [runW_app]
    unfold heldS stW
    have et : tkM rs (mk w) (((nodeM mk rs ys h).1.filter (· ∈ yd)).map mk) = tkM rs (mk w) (runW mk rs yd h).1 := by
      rw [runW_seen]
      exact tkM_perm (((sortI_pm h).filter _).map _)
    rw [et]
    split <;> rfl
  have e3 : List.zipWith (firstS w) ys (nodeM mk rs ys h).2.2 = (nodeM mk rs ys (h ++ [w])).2.2 := by
    show List.zipWith _ ys (ys.map _) = ys.map _
    rw [List.zipWith_map_right, List.zipWith_self]
    refine List.map_congr_left fun yd _ => ?_
    rw [runW_app]
    unfold firstS stW
    split <;> rfl
  rw [e1, e2, e3]
  rfl
theorem nodeM_fst {h : List Int} {w : Int} : w ∈ (nodeM mk rs ys h).1 ↔ w ∈ h := sortI_mem
theorem nodeM_l1 {h : List Int} : (nodeM mk rs ys h).2.1.length = ys.length := by simp [nodeM]
theorem nodeM_l2 {h : List Int} : (nodeM mk rs ys h).2.2.length = ys.length := by simp [nodeM]
end
/-! ### heads -/
/-- one level more -/
def hdN (n : Nat) (l : List (List Int)) : List (List Int) := l.flatMap fun r => (unplN n r).map fun w => r ++ [w]
def hdL (n : Nat) : Nat → List (List Int)
  | 0 => [[]]
  | k + 1 => hdN n (hdL n k)
def headsM (n : Nat) : Nat → List (List Int)
  | 0 => [[]]
  | k + 1 => headsM n k ++ hdL n (k + 1)
theorem hdN_len (n : Nat) (l : List (List Int)) : (hdN n l).length ≤ l.length * n := by
  induction l with
  | nil => simp [hdN]
  | cons r l ih =>
    have e : hdN n (r :: l) = (unplN n r).map (fun w => r ++ [w]) ++ hdN n l := rfl
    have h1 : ((unplN n r).map (fun w => r ++ [w])).length ≤ n := by
      rw [List.length_map]
      exact unplN_len n r
    rw [e, List.length_append, List.length_cons, Nat.succ_mul]
    omega
theorem hdL_len (n : Nat) : ∀ k, (hdL n k).length ≤ n ^ k
  | 0 => by simp [hdL]
  | k + 1 => by
    have h1 := hdN_len n (hdL n k)
    have h2 := Nat.mul_le_mul_right n (hdL_len n k)
    rw [Nat.pow_succ]
    unfold hdL
    omega
theorem hdL_mem (n : Nat) : ∀ k r, r ∈ hdL n k ↔ r.length = k ∧ r.Nodup ∧ ∀ w ∈ r, 0 ≤ w ∧ w < n
  | 0, r => by
    simp only [hdL, List.mem_singleton]
    constructor
    · rintro rfl
      exact ⟨rfl, List.nodup_nil, fun w h => by cases h⟩
    · rintro ⟨h, _⟩
      exact List.length_eq_zero_iff.mp h
  | k + 1, r => by
    simp only [hdL, hdN, List.mem_flatMap, List.mem_map, unplN_mem]
    constructor
    · rintro ⟨q, hq, w, ⟨hw, hn⟩, rfl⟩
      obtain ⟨h1, h2, h3⟩ := (hdL_mem n k q).mp hq
      refine ⟨by rw [List.length_append, h1]; rfl, ?_, fun z hz => ?_⟩
      · exact List.nodup_append.mpr ⟨h2, by simp, fun x hx y hy e => hn (by rw [List.mem_singleton.mp hy] at e; rw [← e]; exact hx)⟩
      · rcases List.mem_append.mp hz with hz | hz
        · exact h3 z hz
        · rw [List.mem_singleton.mp hz]
          exact hw
    · rintro ⟨h1, h2, h3⟩
      have hne : r ≠ [] := fun z => by rw [z] at h1; cases h1
      have e1 := List.dropLast_concat_getLast hne
      rw [← e1] at h2
      obtain ⟨n1, _, n3⟩ := List.nodup_append.mp h2
      refine ⟨r.dropLast, (hdL_mem n k _).mpr ⟨by rw [List.length_dropLast, h1]; rfl, n1, fun w hw => h3 w (List.dropLast_subset r hw)⟩, r.getLast hne, ⟨h3 _ (List.getLast_mem hne), fun z => n3 _ z _ (List.mem_singleton.mpr rfl) rfl⟩, e1⟩
theorem headsM_mem (n : Nat) : ∀ k r, r ∈ headsM n k ↔ r.length ≤ k ∧ r.Nodup ∧ ∀ w ∈ r, 0 ≤ w ∧ w < n
  | 0, r => by
    rw [show headsM n 0 = hdL n 0 from rfl, hdL_mem]
    constructor
    · rintro ⟨h, g⟩; exact ⟨by omega, g⟩
    · rintro ⟨h, g⟩; exact ⟨by omega, g⟩
  | k + 1, r => by
    rw [headsM, List.mem_append, headsM_mem n k, hdL_mem]
    constructor
    · rintro (⟨h, g⟩ | ⟨h, g⟩)
      · exact ⟨by omega, g⟩
      · exact ⟨by omega, g⟩
    · rintro ⟨h, g⟩
      by_cases e : r.length = k + 1
      · exact .inr ⟨e, g⟩
      · exact .inl ⟨by omega, g⟩
theorem headsM_len {n : Nat} : ∀ k, (headsM n k).length ≤ ((List.range (k + 1)).map fun j => n ^ j).sum
  | 0 => by simp [headsM]
  | k + 1 => by
    have h1 := headsM_len (n := n) k
    have h2 := hdL_len n (k + 1)
    rw [headsM, List.length_append, List.range_succ (n := k + 1), List.map_append, List.sum_append]
    simp only [List.map_cons, List.map_nil, List.sum_cons, List.sum_nil]
    omega
theorem headsM_le {n k : Nat} (h : n ≤ 5) (hk : k ≤ n) : (headsM n k).length ≤ 4000 := by
  have h2 : ∀ n ≤ 5, ∀ k ≤ n, ((List.range (k + 1)).map fun k => n ^ k).sum ≤ 4000 := by decide +kernel
  exact Nat.le_trans (headsM_len k) (h2 n h k hk)
end DL
namespace DL
open PySem PySem.Spec PyProof.Rows L2 Mv
/-- what is due -/
def dueM (mk : Int → Mk) (rs : List Ru) (ys : List (List Int)) (n : Nat) : D :=
  match (headsM n n).find? fun h => decide (h.length = n) && movM (settledN (nodeM mk rs ys h)) with
  | some h => .tup [.lst [], .lst (h.map D.int)]
  | none => .tup [.lst (sortDt ((((headsM n n).map (nodeM mk rs ys)).foldl addK []).map nD)), .non]
end DL
namespace DL
open PySem PySem.Spec PyProof.Rows L2 Mv
theorem dep_iD (l : List Int) : dep 1 (iD l) := dep_tup fun x hx => by
  obtain ⟨i, _, rfl⟩ := List.mem_map.mp hx
  exact dep_int 0 _
theorem dep_nD (n : Nd) : dep 2 (nD n) := dep_tup fun x hx => by
  simp only [List.mem_cons, List.not_mem_nil, or_false] at hx
  rcases hx with rfl | rfl | rfl <;> exact dep_iD _
theorem dep_nDs (l : List Nd) : dep 3 (.lst (l.map nD)) := dep_lst fun x hx => by
  obtain ⟨i, _, rfl⟩ := List.mem_map.mp hx
  exact dep_nD _
theorem dep_ys (l : List (List Int)) : dep 2 (.lst (l.map iD)) := dep_lst fun x hx => by
  obtain ⟨i, _, rfl⟩ := List.mem_map.mp hx
  exact dep_iD _
end DL
namespace DL
open PySem PySem.Spec PyProof.Rows L2 Mv
theorem putN_set (ks : List Nd) (a : Nd) : putDN (ks.map fun n => (nD n, D.bl true)) (nD a) (D.bl true) = (addK ks a).map fun n => (nD n, D.bl true) := by
  have h := putN_enc (β := Bool) nD D.bl nk_nD_inj (ks.map fun n => (n, true)) a true
  rw [List.map_map] at h
  have e1 : (ks.map fun n => (nD n, D.bl true)) = ks.map ((fun p : Nd × Bool => (nD p.1, D.bl p.2)) ∘ fun n => (n, true)) := rfl
  rw [e1, h]
  have e2 : putA (ks.map fun n => (n, true)) a true = (addK ks a).map fun n => (n, true) := by
    unfold putA addK
    have hk : (ks.map fun n => (n, true)).map (·.1) = ks := by rw [List.map_map]; exact List.map_id _
    by_cases hm : a ∈ ks
    · rw [if_pos (getA_mem.mpr (by rw [hk]; exact hm)), if_pos hm, List.map_map]
      refine List.map_congr_left fun n _ => ?_
      by_cases z : n = a <;> simp [z]
    · rw [if_neg (fun z => hm (by rw [← hk]; exact getA_mem.mp z)), if_neg hm, List.map_append]
      rfl
  rw [e2, List.map_map]
  rfl
theorem foldK_len {l : List Nd} : ∀ {as : List Nd}, (as.foldl addK l).length ≤ l.length + as.length
  | [] => by simp
  | a :: as => by
    have h1 := foldK_len (l := addK l a) (as := as)
    have h2 : (addK l a).length ≤ l.length + 1 := by
      unfold addK
      split <;> simp
    rw [List.foldl_cons, List.length_cons]
    omega
end DL
namespace DL
open PySem PySem.Spec PyProof.Rows L2 Mv
theorem cutD_take' (rk : List Int) (k : Nat) : cutD (rk.map D.int) none (some ((k : Int) + 1)) = (rk.take (k + 1)).map D.int := by
  rw [show ((k : Int) + 1) = ((k + 1 : Nat) : Int) by omega, cutD_take, List.map_take]
end DL
set_option Elab.async false
set_option linter.all false
set_option maxRecDepth 100000
set_option maxHeartbeats 1000000
/-! the verdict is what is due -/
namespace DL
open PySem PySem.Spec PyProof.Rows L2 Mv
section
variable {mk : Int → Mk} {rs : List Ru} {ys : List (List Int)} {n : Nat}
theorem unplN_sort (b : List Int) : unplN n (nodeM mk rs ys b).1 = unplN n b := by
  unfold unplN
  congr 1
  funext w
  rw [decide_eq_decide, nodeM_fst]
theorem unplN_count {b : List Int} (hn : b.Nodup) (hb : ∀ w ∈ b, 0 ≤ w ∧ w < n) : (unplN n b).length + b.length = n := by
  have h1 : ((idL n).filter fun w => decide (w ∈ b)).Perm b := by
    refine (List.perm_ext_iff_of_nodup ((idL_nodup n).filter _) hn).mpr fun w => ?_
    rw [List.mem_filter, idL_mem, decide_eq_true_eq]
    exact ⟨fun h => h.2, fun h => ⟨hb w h, h⟩⟩
  have h2 : ∀ l : List Int, (l.filter fun w => decide (w ∉ b)).length + (l.filter fun w => decide (w ∈ b)).length = l.length := fun l => by
    induction l with
    | nil => rfl
    | cons x l ih =>
      rw [List.filter_cons, List.filter_cons]
      by_cases h : x ∈ b
      · rw [if_neg (by simp [h]), if_pos (by simp [h]), List.length_cons, List.length_cons]
        omega
      · rw [if_pos (by simp [h]), if_neg (by simp [h]), List.length_cons, List.length_cons]
        omega
  have h3 := h2 (idL n)
  rw [h1.length_eq] at h3
  simpa [unplN] using h3
/-! ### the first ranking that fails -/
def hdE (n : Nat) : Nat → List (List Int) → List (List Int)
  | 0, l => l
  | j + 1, l => hdE n j (hdN n l)
theorem hdN_app (l m : List (List Int)) : hdN n (l ++ m) = hdN n l ++ hdN n m := by
  unfold hdN
  rw [List.flatMap_append]
theorem hdE_app : ∀ (j : Nat) (l m : List (List Int)), hdE n j (l ++ m) = hdE n j l ++ hdE n j m
  | 0, l, m => rfl
  | j + 1, l, m => by
    unfold hdE
    rw [hdN_app, hdE_app j]
theorem hdE_nil : ∀ j : Nat, hdE n j [] = []
  | 0 => rfl
  | j + 1 => by
    unfold hdE
    rw [show hdN n [] = [] from rfl, hdE_nil j]
theorem hdE_find (p : List Int → Bool) (j : Nat) : ∀ l : List (List Int), (hdE n j l).find? p = l.findSome? fun r => (hdE n j [r]).find? p
  | [] => by rw [hdE_nil]; rfl
  | r :: l => by
    rw [show r :: l = [r] ++ l from rfl, hdE_app, List.find?_append, hdE_find p j l, List.singleton_append, List.findSome?_cons]
    cases (hdE n j [r]).find? p <;> rfl
theorem hdE_succ : ∀ (j : Nat) (l : List (List Int)), hdE n (j + 1) l = hdN n (hdE n j l)
  | 0, l => rfl
  | j + 1, l => by
    rw [hdE, hdE_succ j (hdN n l)]
    rfl
theorem hdL_eq : ∀ k, hdL n k = hdE n k [[]]
  | 0 => rfl
  | k + 1 => by rw [hdE_succ, ← hdL_eq k]; rfl
theorem ffM_find (p : List (List Int) → List Int → Bool) : ∀ (m j : Nat) (b : List Int), b.Nodup → (∀ w ∈ b, 0 ≤ w ∧ w < n) → b.length + j = n → j < m →
    ffM mk rs ys n p m b (nodeM mk rs ys b) = (hdE n j [b]).find? fun h => p ys (settledN (nodeM mk rs ys h))
  | 0, j, b, _, _, _, h => by omega
  | m + 1, j, b, h1, h2, h3, h4 => by
    have hc := unplN_count h1 h2
    rw [ffM, unplN_sort]
    cases j with
    | zero =>
      rw [if_pos (by omega)]
      unfold hdE
      rw [List.find?_cons]
      cases p ys (settledN (nodeM mk rs ys b)) <;> rfl
    | succ j =>
      rw [if_neg (by omega)]
      unfold hdE
      rw [show hdN n [b] = (unplN n b).map fun w => b ++ [w] by simp [hdN], hdE_find, List.findSome?_map]
      have key : ∀ l : List Int, (∀ w ∈ l, w ∈ unplN n b) → (l.findSome? fun w => ffM mk rs ys n p m (b ++ [w]) (nextN mk rs ys (nodeM mk rs ys b) w)) = l.findSome? ((fun r => (hdE n j [r]).find? fun h => p ys (settledN (nodeM mk rs ys h))) ∘ fun w => b ++ [w]) := fun l hl => by
        induction l with
        | nil => rfl
        | cons w l ih =>
          have hw := unplN_mem.mp (hl w List.mem_cons_self)
          have e := ffM_find p m j (b ++ [w]) (List.nodup_append.mpr ⟨h1, by simp, fun x hx y hy e => hw.2 (by rw [List.mem_singleton.mp hy] at e; rw [← e]; exact hx)⟩) (fun z hz => by
            rcases List.mem_append.mp hz with hz | hz
            · exact h2 z hz
            · rw [List.mem_singleton.mp hz]; exact hw.1) (by rw [List.length_append, List.length_singleton]; omega) (by omega)
          rw [List.findSome?_cons, List.findSome?_cons, ih fun w h => hl w (List.mem_cons_of_mem _ h), nodeM_app, e]
          rfl
      exact key _ fun w h => h
theorem ffM_all (p : List (List Int) → List Int → Bool) {m : Nat} (hm : n < m) : ffM mk rs ys n p m [] (startN ys) = (hdL n n).find? fun h => p ys (settledN (nodeM mk rs ys h)) := by
  rw [← nodeM_nil (mk := mk) (rs := rs), ffM_find p m n [] List.nodup_nil (fun w h => by cases h) (by simp) hm, hdL_eq]
theorem heads_find (q : List Int → Bool) : ((headsM n n).find? fun h => decide (h.length = n) && q h) = (hdL n n).find? q := by
  have h0 : ∀ k, k < n → ((headsM n k).find? fun h => decide (h.length = n) && q h) = none := fun k hk => by
    rw [List.find?_eq_none]
    intro h hh
    have := ((headsM_mem n k h).mp hh).1
    rw [decide_eq_false (by omega)]
    simp
  have h1 : ((hdL n n).find? fun h => decide (h.length = n) && q h) = (hdL n n).find? q := by
    have key : ∀ l : List (List Int), (∀ h ∈ l, h.length = n) → (l.find? fun h => decide (h.length = n) && q h) = l.find? q := fun l hl => by
      induction l with
      | nil => rfl
      | cons h l ih =>
        rw [List.find?_cons, List.find?_cons, hl h List.mem_cons_self, decide_eq_true rfl, Bool.true_and, ih fun z hz => hl z (List.mem_cons_of_mem _ hz)]
    exact key _ fun h hh => ((hdL_mem n n h).mp hh).1
  cases n with
  | zero => exact h1
  | succ k =>
    rw [headsM, List.find?_append, h0 k (by omega), h1]
    rfl
/-! ### the nodes -/
theorem lvK_keys : ∀ k x, x ∈ (lvK mk rs ys n k).map (·.1) ↔ ∃ h ∈ hdL n k, nodeM mk rs ys h = x
  | 0, x => by
    unfold lvK hdL
    simp only [List.map_cons, List.map_nil, List.mem_singleton, exists_eq_left]
    rw [nodeM_nil]
    exact ⟨fun h => h.symm, fun h => h.symm⟩
  | k + 1, x => by
    have e : (lvK mk rs ys n (k + 1)).map (·.1) = (lvNs mk rs ys n ((lvK mk rs ys n k).map (·.1))).foldl addK [] := by
      rw [lvK, lvS_keys]
      rfl
    rw [e, mem_foldK]
    unfold lvNs hdL hdN
    simp only [List.not_mem_nil, false_or, List.mem_flatMap, List.mem_map]
    constructor
    · rintro ⟨nd, ⟨p, hp, rfl⟩, w, hw, rfl⟩
      obtain ⟨h, hh, e⟩ := (lvK_keys k p.1).mp (List.mem_map.mpr ⟨p, hp, rfl⟩)
      rw [← e, unplN_sort] at hw
      exact ⟨h ++ [w], ⟨h, hh, w, hw, rfl⟩, by rw [← e, nodeM_app]⟩
    · rintro ⟨_, ⟨h, hh, w, hw, rfl⟩, rfl⟩
      obtain ⟨p, hp, e⟩ := List.mem_map.mp ((lvK_keys k _).mpr ⟨h, hh, rfl⟩)
      exact ⟨_, ⟨p, hp, rfl⟩, w, by rw [e, unplN_sort]; exact hw, by rw [e, nodeM_app]⟩
theorem lvK_nodup : ∀ k, ((lvK mk rs ys n k).map (·.1)).Nodup
  | 0 => by simp [lvK]
  | k + 1 => by
    rw [lvK, lvS_keys]
    exact nodup_foldK List.nodup_nil
theorem levels_perm : ((((List.range (n + 1)).flatMap fun k => lvK mk rs ys n k).map (·.1))).Perm (((headsM n n).map (nodeM mk rs ys)).foldl addK []) := by
  have hm : ∀ j x, x ∈ (((List.range j).flatMap fun k => lvK mk rs ys n k).map (·.1)) ↔ ∃ k < j, ∃ h ∈ hdL n k, nodeM mk rs ys h = x := fun j x => by
    rw [List.map_flatMap, List.mem_flatMap]
    simp only [List.mem_range]
    exact ⟨fun ⟨k, hk, h⟩ => ⟨k, hk, (lvK_keys k x).mp h⟩, fun ⟨k, hk, h⟩ => ⟨k, hk, (lvK_keys k x).mpr h⟩⟩
  refine (List.perm_ext_iff_of_nodup ?_ (nodup_foldK List.nodup_nil)).mpr fun x => ?_
  · have key : ∀ j, (((List.range j).flatMap fun k => lvK mk rs ys n k).map (·.1)).Nodup := fun j => by
      induction j with
      | zero => simp
      | succ j ih =>
        rw [List.range_succ, List.flatMap_append, List.map_append]
        refine List.nodup_append.mpr ⟨ih, by simpa using lvK_nodup j, fun x hx y hy e => ?_⟩
        subst e
        obtain ⟨k, hk, h, hh, e1⟩ := (hm j x).mp hx
        have hy' : x ∈ (lvK mk rs ys n j).map (·.1) := by simpa using hy
        obtain ⟨h2, hh2, e2⟩ := (lvK_keys j x).mp hy'
        have l1 : x.1.length = k := by rw [← e1]; show (sortI h).length = k; rw [(sortI_pm h).length_eq]; exact ((hdL_mem n k h).mp hh).1
        have l2 : x.1.length = j := by rw [← e2]; show (sortI h2).length = j; rw [(sortI_pm h2).length_eq]; exact ((hdL_mem n j h2).mp hh2).1
        omega
    exact key _
  · rw [hm, mem_foldK]
    simp only [List.not_mem_nil, false_or, List.mem_map]
    constructor
    · rintro ⟨k, hk, h, hh, e⟩
      have := (hdL_mem n k h).mp hh
      exact ⟨h, (headsM_mem n n h).mpr ⟨by omega, this.2⟩, e⟩
    · rintro ⟨h, hh, e⟩
      have := (headsM_mem n n h).mp hh
      exact ⟨h.length, by omega, h, (hdL_mem n _ h).mpr ⟨rfl, this.2⟩, e⟩
/-! ### more than one holder -/
theorem dd_one : ∀ l : List Int, (1 < (dd l).length) ↔ ∃ a ∈ l, ∃ b ∈ l, a ≠ b := fun l => by
  constructor
  · intro h
    cases e : dd l with
    | nil => rw [e] at h; simp at h
    | cons a t =>
      cases t with
      | nil => rw [e] at h; simp at h
      | cons b t =>
        have hn := nodup_dd l
        rw [e] at hn
        exact ⟨a, mem_dd.mp (by rw [e]; simp), b, mem_dd.mp (by rw [e]; simp), fun z => by subst z; simp at hn⟩
  · rintro ⟨a, ha, b, hb, hne⟩
    have h1 := mem_dd.mpr ha
    have h2 := mem_dd.mpr hb
    cases e : dd l with
    | nil => rw [e] at h1; cases h1
    | cons x t =>
      cases t with
      | nil =>
        rw [e] at h1 h2
        exact absurd ((List.mem_singleton.mp h1).trans (List.mem_singleton.mp h2).symm) hne
      | cons y t => simp
theorem movM_two : ∀ l : List Int, movM l = true ↔ ∃ a ∈ l, ∃ b ∈ l, a ≠ b
  | [] => by simp [movM]
  | [x] => by simp [movM]
  | x :: y :: l => by
    rw [movM, Bool.or_eq_true, decide_eq_true_eq, movM_two (y :: l)]
    constructor
    · rintro (h | ⟨a, ha, b, hb, h⟩)
      · exact ⟨x, by simp, y, by simp, h⟩
      · exact ⟨a, List.mem_cons_of_mem _ ha, b, List.mem_cons_of_mem _ hb, h⟩
    · rintro ⟨a, ha, b, hb, h⟩
      by_cases e : x = y
      · subst e
        refine .inr ⟨a, ?_, b, ?_, h⟩
        · rcases List.mem_cons.mp ha with rfl | ha
          · simp
          · exact ha
        · rcases List.mem_cons.mp hb with rfl | hb
          · simp
          · exact hb
      · exact .inl e
theorem movesP_eq (held : List Int) : decide (1 < (dd held).length) = movM held := by
  rw [Bool.eq_iff_iff, decide_eq_true_eq, dd_one, movM_two]
theorem level_any (q : Nd → Bool) : ((lvK mk rs ys n n).any fun p => q p.1) = ((hdL n n).find? fun h => q (nodeM mk rs ys h)).isSome := by
  rw [Bool.eq_iff_iff, List.any_eq_true, List.find?_isSome]
  constructor
  · rintro ⟨p, hp, hq⟩
    obtain ⟨h, hh, e⟩ := (lvK_keys n p.1).mp (List.mem_map.mpr ⟨p, hp, rfl⟩)
    exact ⟨h, hh, by rw [e]; exact hq⟩
  · rintro ⟨h, hh, hq⟩
    obtain ⟨p, hp, e⟩ := List.mem_map.mp ((lvK_keys n (nodeM mk rs ys h)).mpr ⟨h, hh, rfl⟩)
    exact ⟨p, hp, by rw [e]; exact hq⟩
end
end DL
set_option Elab.async false
set_option linter.all false
set_option maxRecDepth 100000
set_option maxHeartbeats 1000000
/-! defs that are passed on: what they ask of yards and holders -/
namespace DL
open PySem PySem.Spec PyProof.Rows L2 Mv
abbrev Pf := List (List Int) → List Int → Bool
def movesP (_ : List (List Int)) (held : List Int) : Bool := decide (1 < (dd held).length)
/-- the first ones of runs -/
def runsL : Option Int → List Int → List Int
  | _, [] => []
  | o, x :: l => if o = some x then runsL (some x) l else x :: runsL (some x) l
def returnsP (_ : List (List Int)) (held : List Int) : Bool := decide ((dd (runsL none held)).length < (runsL none held).length)
def ndl2 : List (List Int) → List Int → Bool
  | b :: a :: ys, x :: y :: l => (decide (x ≠ y) && decide (x ∈ a) && decide (y ∈ b)) || ndl2 (a :: ys) (y :: l)
  | _, _ => false
def needlessP (ys : List (List Int)) (held : List Int) : Bool := ndl2 ys held
def sp_fail (p : Pf) : DSp := fun as Q X => match as with
  | [a, b] => ∃ (ys : List (List Int)) (held : List Int), sq a (ys.map iD) ∧ b = .d (iD held) ∧ ys.length ≤ 1000 ∧ held.length = ys.length ∧ Q (.d (.bl (p ys held))) [cn a, .no]
  | _ => False
def sp_moves : DSp := sp_fail movesP
def sp_returns : DSp := sp_fail returnsP
def sp_moves_needlessly : DSp := sp_fail needlessP
theorem fail_noX {p : Pf} (as : SS) (Q : R → SS → Prop) (X X' : EC) (h : sp_fail p as Q X) : sp_fail p as Q X' := by
  rcases as with _ | ⟨a, _ | ⟨b, _ | ⟨_, _⟩⟩⟩ <;> first | exact h.elim | exact h
/-- what a verdict asks of the levels -/
def verdM (mk : Int → Mk) (rs : List Ru) (ys : List (List Int)) (sz : Nat) (p : List (List Int) → List Int → Bool) : List D × D :=
  if ((lvK mk rs ys sz sz).any fun n => p ys (settledN n.1)) = true then ([], oD (ffM mk rs ys sz p 10 [] (startN ys)))
  else (sortDt ((((List.range (sz + 1)).flatMap fun k => lvK mk rs ys sz k).map (·.1)).map nD), .non)
section
variable {P : Program} {w : World} {K : PySem.W.Frag} {mg : Str → Option Value} {base : Heap}
theorem cx0_of {k : Nat} {f : Addr} {fd : FuncData} {ps : List Str} {sp : DSp} (n : ∀ as Q X X', sp as Q X → sp as Q X') (F : FnOk P w K mg base (L2.CX P w) k f fd ps (liftSp [] K sp)) : FnOk P w K mg base (fun _ _ _ _ _ _ => False) k f fd ps (liftSp [] K sp) :=
  ⟨F.len, fun A outer s H args us vs Q E hr he hb hv hs => by
    have h' : liftSp [] K sp vs H Q (fun _ _ _ => False) := by
      obtain ⟨A1, as, Qd, Xd, h1, h2, h3, h4, h5, h6⟩ := hs
      exact ⟨A1, as, Qd, fun _ _ => False, h1, h2, h3, n _ _ _ _ h4, h5, fun _ _ _ _ _ z => z.elim⟩
    refine codeAny_mono (F.run A outer s H args us vs Q (fun _ _ _ => False) hr he hb hv h') fun r s2 z => ?_
    cases r with
    | ok v =>
      cases v with
      | ret u => exact z
      | _ => exact z
    | error e =>
      obtain ⟨_, _, _, _, _, _, _, _, _, _, _, _, z⟩ := z
      exact z.elim⟩
/-- which defs are passed on -/
def PFof (L : List (Addr × Pf)) : Addr → Option Pf := fun f => (L.find? fun q => q.1 == f).map (·.2)
theorem hM_of {k : Nat} {L : List (Addr × Pf)} (h : ∀ q ∈ L, Held P w K mg base k q.1 (liftSp [] K (sp_fail q.2))) (f : Addr) (sp : Sp) (e : ((PFof L f).map sp_fail).map (liftSp [] K) = some sp) : Held P w K mg base k f sp := by
  unfold PFof at e
  cases hf : L.find? fun q => q.1 == f with
  | none => rw [hf] at e; cases e
  | some q =>
    rw [hf] at e
    cases e
    have e1 : q.1 = f := by simpa using List.find?_some hf
    rw [← e1]
    exact h q (List.mem_of_find?_eq_some hf)
theorem held_mk {k : Nat} {f : Addr} {fd : FuncData} {ps : List Str} {p : Pf} (hk : PySem.W.keepIn K (.ref f) = true) (hb : Binds K fd ps []) (F : FnOk P w K mg base (L2.CX P w) k f fd ps (liftSp [] K (sp_fail p))) : Held P w K mg base k f (liftSp [] K (sp_fail p)) :=
  ⟨fd, ps, cx0_of fail_noX F, hk, hb⟩
theorem fnOk_none {k : Nat} {f : Addr} {fd : FuncData} {ps : List Str} {sp : DSp} (n : ∀ as Q X, ¬ sp as Q X) : FnOk P w K mg base (L2.CX P w) k f fd ps (liftSp [] K sp) :=
  ⟨fun vs H Q E h => by obtain ⟨_, as, Qd, Xd, _, _, _, h4, _⟩ := h; exact (n _ _ _ h4).elim, fun A outer s H args us vs Q E hr he hb hv hs => by obtain ⟨_, as, Qd, Xd, _, _, _, h4, _⟩ := hs; exact (n _ _ _ h4).elim⟩
/-- two defs of two names stand at two places -/
theorem fn_ne {f g : Addr} {x y : Str} {fs gs : Arguments × List Stmt × Scope} {o1 o2 : Value} {d1 d2 : Option Addr} {s1 s2 : Array (Option Value)} {q1 q2 : Str} {r1 r2 : Value} {k1 k2 : Value} {c1 c2 : Value} {p1 p2 : Value} {n1 n2 : Option Addr} {v1 v2 w1 w2 : Value} (n : x ≠ y)
    (h1 : K.lookup f = some ⟨o1, d1, .func (PySem.W.fnOf x q1 fs.1 fs.2.1 fs.2.2 r1 k1 c1 p1 n1 v1 w1), s1⟩)
    (h2 : K.lookup g = some ⟨o2, d2, .func (PySem.W.fnOf y q2 gs.1 gs.2.1 gs.2.2 r2 k2 c2 p2 n2 v2 w2), s2⟩) : f ≠ g := fun e => by
  subst e
  rw [h1] at h2
  have h := congrArg (fun o : Option Obj => match o with | some ⟨_, _, .func d, _⟩ => d.name | _ => "") h2
  exact n h
end
end DL
set_option Elab.async false
set_option linter.all false
set_option maxRecDepth 100000
set_option maxHeartbeats 1000000
/-! trails of rankings: who holds in each yard -/
namespace DL
open PySem PySem.Spec PyProof.Rows L2 Mv
section
variable {mk : Int → Mk} {rs : List Ru} {ys : List (List Int)} {yd : List Int} {n : Nat}
def holdW (mk : Int → Mk) (rs : List Ru) (yd h : List Int) : Int := if (runW mk rs yd h).2.1 = -1 then (runW mk rs yd h).2.2 else (runW mk rs yd h).2.1
def trailW (mk : Int → Mk) (rs : List Ru) (ys : List (List Int)) (h : List Int) : List Int := ys.map fun yd => holdW mk rs yd h
theorem settled_node (h : List Int) : settledN (nodeM mk rs ys h) = trailW mk rs ys h := by
  unfold settledN nodeM trailW
  dsimp only
  induction ys with
  | nil => rfl
  | cons y ys ih => rw [List.map_cons, List.map_cons, List.zipWith_cons_cons, ih, List.map_cons] <;> rfl
theorem trailW_len {h : List Int} : (trailW mk rs ys h).length = ys.length := by simp [trailW]
theorem stW_taken {st : List Mk × Int × Int} {w : Int} (h : st.2.1 ≠ -1) : (stW mk rs yd st w).2.1 = st.2.1 := by
  unfold stW
  by_cases hw : w ∈ yd <;> simp [hw, h]
theorem runW_taken {a : List Int} (h : (runW mk rs yd a).2.1 ≠ -1) : ∀ b : List Int, (runW mk rs yd (a ++ b)).2.1 = (runW mk rs yd a).2.1 := fun b => by
  unfold runW at h ⊢
  rw [List.foldl_append]
  induction b generalizing a with
  | nil => rfl
  | cons w b ih =>
    rw [List.foldl_cons]
    have e := stW_taken (mk := mk) (rs := rs) (yd := yd) (w := w) h
    have := ih (a := a ++ [w]) (by rw [List.foldl_append]; show (stW mk rs yd _ w).2.1 ≠ -1; rw [e]; exact h)
    rw [List.foldl_append] at this
    exact this.trans e
/-! ### needless moves -/
theorem ndl2_iff : ∀ (ys : List (List Int)) (l : List Int), ndl2 ys l = true ↔ ∃ (k : Nat) (b a : List Int) (x y : Int), ys[k]? = some b ∧ ys[k + 1]? = some a ∧ l[k]? = some x ∧ l[k + 1]? = some y ∧ x ≠ y ∧ x ∈ a ∧ y ∈ b
  | [], l => by simp [ndl2]
  | [b], l => by
    refine ⟨fun h => by simp [ndl2] at h, fun ⟨k, _, _, _, _, _, h, _⟩ => by simp at h⟩
  | b :: a :: ys, [] => by simp [ndl2]
  | b :: a :: ys, [x] => by simp [ndl2]
  | b :: a :: ys, x :: y :: l => by
    unfold ndl2
    rw [Bool.or_eq_true, ndl2_iff (a :: ys) (y :: l)]
    constructor
    · rintro (h | ⟨k, b', a', x', y', h⟩)
      · simp only [Bool.and_eq_true, decide_eq_true_eq] at h
        exact ⟨0, b, a, x, y, rfl, rfl, rfl, rfl, h.1.1, h.1.2, h.2⟩
      · exact ⟨k + 1, b', a', x', y', h⟩
    · rintro ⟨k, b', a', x', y', h1, h2, h3, h4, h5⟩
      cases k with
      | zero =>
        cases h1; cases h2; cases h3; cases h4
        left
        simp [h5]
      | succ k => exact .inr ⟨k, b', a', x', y', h1, h2, h3, h4, h5⟩
/-- what is_needless says -/
def isNdl (p q : List Int × Int) : Bool := decide (p.2 ≠ q.2) && decide (p.2 ∈ q.1) && decide (q.2 ∈ p.1)
theorem ndl2_any : ∀ (ys : List (List Int)) (l : List Int), ndl2 ys l = (((ys.zip l).zip ((ys.zip l).drop 1)).any fun p => isNdl p.1 p.2)
  | [], l => by simp [ndl2]
  | [b], l => by cases l <;> simp [ndl2]
  | b :: a :: ys, [] => by simp [ndl2]
  | b :: a :: ys, [x] => by simp [ndl2]
  | b :: a :: ys, x :: y :: l => by
    unfold ndl2
    rw [ndl2_any (a :: ys) (y :: l)]
    simp [isNdl]
end
end DL
set_option Elab.async false
set_option linter.all false
set_option maxRecDepth 100000
set_option maxHeartbeats 1000000
/-! runs of equal holders -/
namespace DL
open PySem PySem.Spec PyProof.Rows L2 Mv
def newAt (held : List Int) (q : Int × Nat) : Bool := decide (q.2 = 0) || decide (held[q.2 - 1]? ≠ some q.1)
theorem runs_gen : ∀ (l pre : List Int), ((l.zipIdx pre.length).filter (newAt (pre ++ l))).map (·.1) = runsL pre.getLast? l
  | [], pre => rfl
  | x :: l, pre => by
    have ih := runs_gen l (pre ++ [x])
    rw [List.length_append, List.length_singleton, List.append_assoc, List.singleton_append] at ih
    rw [List.zipIdx_cons, List.filter_cons]
    have e : newAt (pre ++ x :: l) (x, pre.length) = decide (pre.getLast? ≠ some x) := by
      unfold newAt
      cases pre with
      | nil => simp
      | cons p pre =>
        have : (p :: pre ++ x :: l)[(p :: pre).length - 1]? = (p :: pre).getLast? := by
          rw [List.getElem?_append_left (by simp), ← List.getLast?_eq_getElem?]
        rw [this]
        simp
    rw [e]
    unfold runsL
    by_cases h : pre.getLast? = some x
    · rw [if_neg (by simp [h]), if_pos h, ih]
      congr 1
      simp
    · rw [if_pos (by simp [h]), if_neg h, List.map_cons, ih]
      congr 2
      simp
theorem runs_eq (held : List Int) : (held.zipIdx.filter (newAt held)).map (·.1) = runsL none held := runs_gen held []
theorem runsL_len : ∀ (o : Option Int) (l : List Int), (runsL o l).length ≤ l.length
  | _, [] => Nat.le_refl _
  | o, x :: l => by
    unfold runsL
    split
    · exact Nat.le_succ_of_le (runsL_len _ l)
    · exact Nat.succ_le_succ (runsL_len _ l)
end DL
set_option Elab.async false
set_option linter.all false
set_option maxRecDepth 100000
set_option maxHeartbeats 1000000
/-! sorted() of data with a reading -/
namespace DL
open PySem PySem.Spec PyProof.Rows L2 Mv
open PySem.W (AllAlike Sortable dataLe keyToks keyToksAll alike alikeAll)
def srt {α : Type} (enc : α → D) (l : List α) : List α := l.mergeSort fun a b => dataLe false pyD (enc a) (enc b)
theorem srt_perm {α : Type} (enc : α → D) (l : List α) : (srt enc l).Perm l := List.mergeSort_perm _ _
theorem sortDt_srt {α : Type} (enc : α → D) (l : List α) : sortDt (l.map enc) = (srt enc l).map enc := by
  unfold sortDt srt
  exact (List.map_mergeSort (f := enc) (s := dataLe false pyD) fun a _ b _ => rfl).symm
theorem srt_eq {α : Type} {enc : α → D} (inj : ∀ a b, keyToks (pyD (enc a)) = keyToks (pyD (enc b)) → a = b) {l m : List α} (h : l.Perm m) : srt enc l = srt enc m := by
  have t := PySem.W.sortLe_total (PyProof.Rows.listOrd PyProof.Rows.itemOrd) false fun b => keyToks (pyD b)
  have tot : ∀ a b, (dataLe false pyD (enc a) (enc b) || dataLe false pyD (enc b) (enc a)) = true := fun a b => by
    have := t.total (enc a) (enc b)
    exact (Bool.or_eq_true _ _).mpr this
  have tr : ∀ a b c, dataLe false pyD (enc a) (enc b) = true → dataLe false pyD (enc b) (enc c) = true → dataLe false pyD (enc a) (enc c) = true := fun a b c => t.trans (enc a) (enc b) (enc c)
  refine List.Perm.eq_of_pairwise (le := fun a b => dataLe false pyD (enc a) (enc b) = true) (fun x y _ _ h1 h2 => ?_) (List.pairwise_mergeSort tr tot _) (List.pairwise_mergeSort tr tot _) (((List.mergeSort_perm _ _).trans h).trans (List.mergeSort_perm _ _).symm)
  have e1 : (PyProof.Rows.listOrd PyProof.Rows.itemOrd).blt (keyToks (pyD (enc y))) (keyToks (pyD (enc x))) = false := by simpa [dataLe, PySem.W.sortLe] using h1
  have e2 : (PyProof.Rows.listOrd PyProof.Rows.itemOrd).blt (keyToks (pyD (enc x))) (keyToks (pyD (enc y))) = false := by simpa [dataLe, PySem.W.sortLe] using h2
  exact inj _ _ (KeyOrd.total (PyProof.Rows.listOrd PyProof.Rows.itemOrd) _ _ e2 e1)
theorem sortDt_eq {α : Type} {enc : α → D} (inj : ∀ a b, keyToks (pyD (enc a)) = keyToks (pyD (enc b)) → a = b) {l m : List α} (h : l.Perm m) : sortDt (l.map enc) = sortDt (m.map enc) := by
  rw [sortDt_srt, sortDt_srt, srt_eq inj h]
theorem pyD_iD (l : List Int) : pyD (iD l) = .tuple (l.map .int) := by
  unfold pyD
  rw [py_iD]
  rfl
theorem okSort_iD (l : List (List Int)) (hne : ∀ x ∈ l, x ≠ []) : okSort (l.map iD) := by
  have e : (l.map iD).map pyD = l.map fun l => .tuple (l.map .int) := by
    rw [List.map_map]
    exact List.map_congr_left fun n _ => pyD_iD n
  refine ⟨fun x hx => ?_, ?_, ?_⟩
  · obtain ⟨n, _, rfl⟩ := List.mem_map.mp hx
    refine ⟨_, py_iD n, ?_⟩
    simp only [PyData.depth, PyData.depthAll, PySem.W.depth_ints]
    decide
  · rw [e]
    refine PySem.W.AllAlike.of fun a b => ?_
    simp only [alike, alikeAll, PySem.W.alike_ints, Bool.and_self]
  · rw [e]
    refine .inl fun d hd => ?_
    obtain ⟨x, hx, rfl⟩ := List.mem_map.mp hd
    cases x with
    | nil => exact absurd rfl (hne _ hx)
    | cons y r => exact ⟨_, _, rfl⟩
theorem toks_iD (a b : List Int) (h : keyToks (pyD (iD a)) = keyToks (pyD (iD b))) : a = b := by
  rw [pyD_iD, pyD_iD] at h
  simp only [keyToks, keyToksAll, List.cons.injEq, true_and] at h
  have h' : keyToksAll (a.map PyData.int) ++ [] = keyToksAll (b.map PyData.int) ++ [] := by simpa using h
  exact (toks_ints h').1
theorem addK_len {α : Type} [DecidableEq α] {l : List α} {a : α} : (addK l a).length ≤ l.length + 1 := by
  unfold addK
  split
  · omega
  · simp
theorem foldA_len {α : Type} [DecidableEq α] : ∀ {as l : List α}, (as.foldl addK l).length ≤ as.length + l.length
  | [], l => by simp
  | a :: as, l => by
    have h1 := foldA_len (as := as) (l := addK l a)
    have h2 := addK_len (l := l) (a := a)
    rw [List.foldl_cons, List.length_cons]
    omega
/-- the trails told in a table are those of all rankings -/
theorem set_perm {α : Type} [DecidableEq α] {xs ys : List α} (hy : ys.Nodup) (h : ∀ t, t ∈ xs ↔ t ∈ ys) : (xs.foldl addK []).Perm ys := by
  refine (List.perm_ext_iff_of_nodup (nodup_foldK List.nodup_nil) hy).mpr fun t => ?_
  rw [mem_foldK]
  simp only [List.not_mem_nil, false_or]
  exact h t
def trD (l : List Int) : D × D := (iD l, D.bl true)
theorem putN_tr (ks : List (List Int)) (a : List Int) : putDN (ks.map trD) (iD a) (D.bl true) = (addK ks a).map trD := by
  have h := putN_enc (β := Bool) iD D.bl nk_iD_inj (ks.map fun n => (n, true)) a true
  rw [List.map_map] at h
  have e1 : (ks.map trD) = ks.map ((fun p : List Int × Bool => (iD p.1, D.bl p.2)) ∘ fun n => (n, true)) := rfl
  rw [e1, h]
  have e2 : putA (ks.map fun n => (n, true)) a true = (addK ks a).map fun n => (n, true) := by
    unfold putA addK
    have hk : (ks.map fun n => (n, true)).map (·.1) = ks := by rw [List.map_map]; exact List.map_id _
    by_cases hm : a ∈ ks
    · rw [if_pos (getA_mem.mpr (by rw [hk]; exact hm)), if_pos hm, List.map_map]
      refine List.map_congr_left fun n _ => ?_
      by_cases z : n = a <;> simp [z]
    · rw [if_neg (fun z => hm (by rw [← hk]; exact getA_mem.mp z)), if_neg hm, List.map_append]
      rfl
  rw [e2, List.map_map]
  rfl
section
variable {mk : Int → Mk} {rs : List Ru} {ys : List (List Int)} {n : Nat}
/-- the table of a verdict that holds -/
def tableM (mk : Int → Mk) (rs : List Ru) (ys : List (List Int)) (n : Nat) : List Nd := srt nD (((List.range (n + 1)).flatMap fun k => lvK mk rs ys n k).map (·.1))
def badM (mk : Int → Mk) (rs : List Ru) (ys : List (List Int)) (n : Nat) (p : Pf) : Option (List Int) := (hdL n n).find? fun h => p ys (trailW mk rs ys h)
theorem verd_find (p : Pf) (hn : n < 10) : verdM mk rs ys n p = match badM mk rs ys n p with | some h => ([], oD (some h)) | none => ((tableM mk rs ys n).map nD, .non) := by
  have e3 := level_any (mk := mk) (rs := rs) (ys := ys) (n := n) fun nd => p ys (settledN nd)
  have e4 := ffM_all (mk := mk) (rs := rs) (ys := ys) (n := n) p (m := 10) hn
  have e1 : (fun h : List Int => p ys (settledN (nodeM mk rs ys h))) = fun h => p ys (trailW mk rs ys h) := funext fun h => by rw [settled_node]
  rw [e1] at e3 e4
  unfold verdM badM tableM
  rw [e3, e4, sortDt_srt]
  cases (hdL n n).find? fun h => p ys (trailW mk rs ys h) <;> rfl
/-- a verdict: its table, its ranking -/
def vpM (mk : Int → Mk) (rs : List Ru) (ys : List (List Int)) (n : Nat) (p : Pf) : List Nd × D := match badM mk rs ys n p with
  | some h => ([], oD (some h))
  | none => (tableM mk rs ys n, .non)
theorem verd_vp (p : Pf) (hn : n < 10) : verdM mk rs ys n p = ((vpM mk rs ys n p).1.map nD, (vpM mk rs ys n p).2) := by
  rw [verd_find p hn]
  unfold vpM
  cases badM mk rs ys n p <;> rfl
theorem vpM_non {p : Pf} (h : DL.isNon (vpM mk rs ys n p).2 = true) : (vpM mk rs ys n p).1 = tableM mk rs ys n := by
  unfold vpM at h ⊢
  cases hb : badM mk rs ys n p with
  | some l => rw [hb] at h; cases h
  | none => rfl
theorem vpM_isNon {p : Pf} : DL.isNon (vpM mk rs ys n p).2 = (badM mk rs ys n p).isNone := by
  unfold vpM
  cases badM mk rs ys n p <;> rfl
theorem table_mem (m : Nd) : m ∈ tableM mk rs ys n ↔ ∃ k ≤ n, ∃ h ∈ hdL n k, nodeM mk rs ys h = m := by
  unfold tableM
  rw [(srt_perm _ _).mem_iff, List.mem_map]
  constructor
  · rintro ⟨p, hp, rfl⟩
    obtain ⟨k, hk, hp⟩ := List.mem_flatMap.mp hp
    exact ⟨k, by have := List.mem_range.mp hk; omega, (lvK_keys k _).mp (List.mem_map.mpr ⟨p, hp, rfl⟩)⟩
  · rintro ⟨k, hk, h⟩
    obtain ⟨p, hp, e⟩ := List.mem_map.mp ((lvK_keys k m).mpr h)
    exact ⟨p, List.mem_flatMap.mpr ⟨k, List.mem_range.mpr (by omega), hp⟩, e⟩
theorem table_len (hn : n ≤ 5) : (tableM mk rs ys n).length ≤ 4000 := by
  unfold tableM
  rw [(srt_perm _ _).length_eq, List.length_map, List.length_flatMap]
  exact lvK_sum hn
theorem table_two (h1 : 1 ≤ n) : 2 ≤ (tableM mk rs ys n).length := by
  have a : nodeM mk rs ys [] ∈ tableM mk rs ys n := (table_mem _).mpr ⟨0, Nat.zero_le _, [], by simp [hdL], rfl⟩
  have b : nodeM mk rs ys [0] ∈ tableM mk rs ys n := (table_mem _).mpr ⟨1, h1, [0], (hdL_mem n 1 [0]).mpr ⟨rfl, by simp, by simp; omega⟩, rfl⟩
  have ne : nodeM mk rs ys [] ≠ nodeM mk rs ys [0] := fun e => by
    have := congrArg (fun m : Nd => m.1.length) e
    simp [nodeM, sortI] at this
  generalize tableM mk rs ys n = l at a b
  match l, a, b with
  | [], a, _ => cases a
  | [x], a, b =>
    rw [List.mem_singleton] at a b
    exact absurd (a.trans b.symm) ne
  | _ :: _ :: l, _, _ => simp
theorem table_node {m : Nd} (h : m ∈ tableM mk rs ys n) : m.2.1.length = ys.length ∧ m.2.2.length = ys.length := by
  obtain ⟨_, _, h, _, rfl⟩ := (table_mem m).mp h
  exact ⟨nodeM_l1, nodeM_l2⟩
theorem table_trails (t : List Int) : t ∈ ((tableM mk rs ys n).filter fun m => decide (m.1.length = n)).map settledN ↔ ∃ h ∈ hdL n n, trailW mk rs ys h = t := by
  rw [List.mem_map]
  have len : ∀ h : List Int, (nodeM mk rs ys h).1.length = h.length := fun h => (sortI_pm h).length_eq
  constructor
  · rintro ⟨m, hm, rfl⟩
    obtain ⟨hm, hl⟩ := List.mem_filter.mp hm
    obtain ⟨k, hk, h, hh, rfl⟩ := (table_mem m).mp hm
    have hl : (nodeM mk rs ys h).1.length = n := by simpa using hl
    have hk : h.length = k := ((hdL_mem n k h).mp hh).1
    rw [len] at hl
    obtain rfl : k = n := by omega
    exact ⟨h, hh, (settled_node h).symm⟩
  · rintro ⟨h, hh, rfl⟩
    refine ⟨nodeM mk rs ys h, List.mem_filter.mpr ⟨(table_mem _).mpr ⟨n, Nat.le_refl _, h, hh, rfl⟩, ?_⟩, settled_node h⟩
    rw [len, ((hdL_mem n n h).mp hh).1]
    simp
end
end DL
set_option Elab.async false
set_option linter.all false
set_option maxRecDepth 100000
set_option maxHeartbeats 1000000
/-! returns of a trail -/
namespace DL
open PySem PySem.Spec PyProof.Rows L2 Mv
def backL (x : Int) : List Int → Bool
  | [] => false
  | y :: l => if y = x then backL x l else decide (x ∈ l)
def retL : List Int → Bool
  | [] => false
  | x :: l => retL l || backL x l
theorem retL_dup (x : Int) (l : List Int) : retL (x :: x :: l) = retL (x :: l) := by
  simp only [retL, backL, if_true]
  cases retL l <;> cases backL x l <;> rfl
theorem runs_some (x : Int) : ∀ l : List Int, ∀ a, a ≠ x → (a ∈ runsL (some x) l ↔ a ∈ l)
  | [], a, h => by simp [runsL]
  | y :: l, a, h => by
    unfold runsL
    by_cases e : y = x
    · subst e
      rw [if_pos rfl, runs_some y l a h]
      simp [h]
    · rw [if_neg (fun z => e (Option.some.inj z).symm), List.mem_cons, List.mem_cons]
      by_cases e2 : a = y
      · simp [e2]
      · rw [runs_some y l a e2]
theorem runs_nodup : ∀ (l : List Int) (a : Int), ((runsL (some a) l).Nodup ∧ a ∉ runsL (some a) l) ↔ retL (a :: l) = false
  | [], a => by simp [runsL, retL, backL]
  | x :: l, a => by
    unfold runsL
    by_cases e : a = x
    · subst e
      rw [if_pos rfl, retL_dup]
      exact runs_nodup l a
    · rw [if_neg (fun z => e (Option.some.inj z)), List.nodup_cons, List.mem_cons]
      have ih := runs_nodup l x
      have e2 : retL (a :: x :: l) = (retL (x :: l) || decide (a ∈ l)) := by
        show (retL (x :: l) || backL a (x :: l)) = _
        unfold backL
        rw [if_neg (fun z => e z.symm)]
      rw [e2, Bool.or_eq_false_iff, ← ih, decide_eq_false_iff_not, runs_some x l a e]
      constructor
      · rintro ⟨⟨h1, h2⟩, h3⟩
        exact ⟨⟨h2, h1⟩, fun z => h3 (.inr z)⟩
      · rintro ⟨⟨h2, h1⟩, h3⟩
        exact ⟨⟨h1, h2⟩, fun z => z.elim e h3⟩
theorem runs_none : ∀ l : List Int, (runsL none l).Nodup ↔ retL l = false
  | [] => by simp [runsL, retL]
  | x :: l => by
    unfold runsL
    rw [if_neg (fun z => by cases z), List.nodup_cons, ← runs_nodup l x]
    exact And.comm
theorem dd_le : ∀ l : List Int, (dd l).length ≤ l.length
  | [] => Nat.le_refl _
  | x :: l => by
    have := dd_le l
    unfold dd
    split
    · rw [List.length_cons]; omega
    · rw [List.length_cons, List.length_cons]; omega
theorem dd_lt : ∀ l : List Int, (dd l).length < l.length ↔ ¬ l.Nodup
  | [] => by simp [dd]
  | x :: l => by
    have h1 := dd_le l
    have h2 := dd_lt l
    unfold dd
    rw [List.nodup_cons]
    by_cases hx : x ∈ l
    · rw [if_pos hx, List.length_cons]
      exact ⟨fun _ z => z.1 hx, fun _ => by omega⟩
    · rw [if_neg hx, List.length_cons, List.length_cons]
      constructor
      · intro h z
        exact h2.mp (by omega) z.2
      · intro h
        have := h2.mpr fun z => h ⟨hx, z⟩
        omega
theorem returnsP_eq (ys : List (List Int)) (l : List Int) : returnsP ys l = retL l := by
  unfold returnsP
  have h := runs_none l
  have h2 := dd_lt (runsL none l)
  cases hr : retL l with
  | true =>
    rw [hr] at h
    exact decide_eq_true (h2.mpr fun z => by have := h.mp z; cases this)
  | false => exact decide_eq_false fun z => h2.mp z (h.mpr hr)
theorem backL_iff (x : Int) : ∀ l : List Int, backL x l = true ↔ ∃ (j k : Nat) (y : Int), j < k ∧ l[j]? = some y ∧ y ≠ x ∧ l[k]? = some x
  | [] => by simp [backL]
  | y :: l => by
    unfold backL
    by_cases e : y = x
    · rw [if_pos e, backL_iff x l]
      constructor
      · rintro ⟨j, k, z, h1, h2, h3, h4⟩
        exact ⟨j + 1, k + 1, z, by omega, h2, h3, h4⟩
      · rintro ⟨j, k, z, h1, h2, h3, h4⟩
        cases j with
        | zero =>
          cases h2
          exact absurd e h3
        | succ j =>
          cases k with
          | zero => omega
          | succ k => exact ⟨j, k, z, by omega, h2, h3, h4⟩
    · rw [if_neg e, decide_eq_true_eq]
      constructor
      · intro h
        obtain ⟨k, hk⟩ := List.mem_iff_getElem?.mp h
        exact ⟨0, k + 1, y, by omega, rfl, e, hk⟩
      · rintro ⟨j, k, z, h1, h2, h3, h4⟩
        cases k with
        | zero => omega
        | succ k => exact List.mem_iff_getElem?.mpr ⟨k, h4⟩
theorem retL_iff : ∀ l : List Int, retL l = true ↔ ∃ (i j k : Nat) (x y : Int), i < j ∧ j < k ∧ l[i]? = some x ∧ l[j]? = some y ∧ y ≠ x ∧ l[k]? = some x
  | [] => by simp [retL]
  | x :: l => by
    unfold retL
    rw [Bool.or_eq_true, retL_iff l, backL_iff]
    constructor
    · rintro (⟨i, j, k, a, y, h1, h2, h⟩ | ⟨j, k, y, h1, h2, h3, h4⟩)
      · exact ⟨i + 1, j + 1, k + 1, a, y, by omega, by omega, h⟩
      · exact ⟨0, j + 1, k + 1, x, y, by omega, by omega, rfl, h2, h3, h4⟩
    · rintro ⟨i, j, k, a, y, h1, h2, h3, h4, h5, h6⟩
      cases j with
      | zero => omega
      | succ j =>
        cases k with
        | zero => omega
        | succ k =>
          cases i with
          | zero =>
            cases h3
            exact .inr ⟨j, k, y, by omega, h4, h5, h6⟩
          | succ i => exact .inl ⟨i, j, k, a, y, by omega, by omega, h3, h4, h5, h6⟩
end DL
namespace DL
open PySem PySem.Spec PyProof.Rows L2 Mv
theorem movM_const {l : List Int} (h : ∀ a ∈ l, ∀ b ∈ l, a = b) : movM l = false := by
  rw [← Bool.not_eq_true, movM_two]
  rintro ⟨a, ha, b, hb, n⟩
  exact n (h a ha b hb)
theorem movM_all {l : List Int} (h : movM l = false) : ∀ a ∈ l, ∀ b ∈ l, a = b := fun a ha b hb => by
  by_cases e : a = b
  · exact e
  · rw [(movM_two l).mpr ⟨a, ha, b, hb, e⟩] at h
    cases h
theorem ret_of_mov {l : List Int} (h : movM l = false) : retL l = false := by
  rw [← Bool.not_eq_true, retL_iff]
  rintro ⟨i, j, k, x, y, _, _, h1, h2, n, _⟩
  exact n (movM_all h _ (List.mem_iff_getElem?.mpr ⟨_, h2⟩) _ (List.mem_iff_getElem?.mpr ⟨_, h1⟩))
theorem ndl_of_mov {ys : List (List Int)} {l : List Int} (h : movM l = false) : ndl2 ys l = false := by
  rw [← Bool.not_eq_true, ndl2_iff]
  rintro ⟨k, b, a, x, y, _, _, h1, h2, n, _⟩
  exact n (movM_all h _ (List.mem_iff_getElem?.mpr ⟨_, h1⟩) _ (List.mem_iff_getElem?.mpr ⟨_, h2⟩))
theorem ret_short {l : List Int} (h : l.length ≤ 2) : retL l = false := by
  rw [← Bool.not_eq_true, retL_iff]
  rintro ⟨i, j, k, x, y, h1, h2, h3, h4, _, h6⟩
  have := (List.getElem?_eq_some_iff.mp h6).1
  omega
theorem mov_short {l : List Int} (h : l.length ≤ 1) : movM l = false := movM_const fun a ha b hb => by
  match l, h with
  | [], _ => cases ha
  | [x], _ => rw [List.mem_singleton.mp ha, List.mem_singleton.mp hb]
section
variable {mk : Int → Mk} {rs : List Ru} {ys : List (List Int)} {n : Nat} {p : Pf}
theorem movesP_mov (ys : List (List Int)) (l : List Int) : movesP ys l = movM l := movesP_eq l
theorem bad_none : badM mk rs ys n p = none ↔ ∀ h ∈ hdL n n, p ys (trailW mk rs ys h) = false := by
  unfold badM
  rw [List.find?_eq_none]
  simp
theorem bad_one (h : ys.length ≤ 1) : badM mk rs ys n movesP = none := bad_none.mpr fun r _ => by
  rw [movesP_mov]
  exact mov_short (by rw [trailW_len]; exact h)
theorem bad_same {y : List Int} (h : ∀ z ∈ ys, z = y) : badM mk rs ys n movesP = none := bad_none.mpr fun r _ => by
  rw [movesP_mov]
  refine movM_const fun a ha b hb => ?_
  obtain ⟨u, hu, rfl⟩ := List.mem_map.mp ha
  obtain ⟨v, hv, rfl⟩ := List.mem_map.mp hb
  rw [h u hu, h v hv]
theorem bad_two (h : ys.length ≤ 2) : badM mk rs ys n returnsP = none := bad_none.mpr fun r _ => by
  rw [returnsP_eq]
  exact ret_short (by rw [trailW_len]; exact h)
theorem bad_mov (h : badM mk rs ys n movesP = none) : badM mk rs ys n returnsP = none ∧ badM mk rs ys n needlessP = none := by
  rw [bad_none] at h
  refine ⟨bad_none.mpr fun r hr => ?_, bad_none.mpr fun r hr => ?_⟩
  · rw [returnsP_eq]
    exact ret_of_mov (by rw [← movesP_mov ys]; exact h r hr)
  · exact ndl_of_mov (by rw [← movesP_mov ys]; exact h r hr)
end
end DL
namespace DL
open PySem PySem.Spec PyProof.Rows L2 Mv
section
variable {mk : Int → Mk} {rs : List Ru} {ys : List (List Int)} {n : Nat} {p : Pf}
theorem vpM_none (h : badM mk rs ys n p = none) : vpM mk rs ys n p = (tableM mk rs ys n, .non) := by unfold vpM; rw [h]
theorem vpM_some {l : List Int} (h : badM mk rs ys n p = some l) : vpM mk rs ys n p = ([], .lst (l.map D.int)) := by unfold vpM; rw [h]; rfl
theorem verd_none (hn : n < 10) (h : badM mk rs ys n p = none) : verdM mk rs ys n p = ((tableM mk rs ys n).map nD, .non) := by rw [verd_vp p hn, vpM_none h]
theorem verd_some {l : List Int} (hn : n < 10) (h : badM mk rs ys n p = some l) : verdM mk rs ys n p = ([], .lst (l.map D.int)) := by rw [verd_vp p hn, vpM_some h]; rfl
end
theorem atI_m2 {α : Type} (xs : List α) (h : 2 ≤ xs.length) : atI xs (-2) = xs[xs.length - 2]? := by
  unfold atI ixN
  rw [if_neg (by omega), if_pos (by omega), Option.bind_some]
  congr 1
  omega
theorem cutD_last (ys : List (List Int)) (h : 1 ≤ ys.length) : cutD (ys.map iD) (some (-1)) none = (ys.drop (ys.length - 1)).map iD := by
  have e : HT.sIx (ys.map iD).length 0 (some (-1)) = ys.length - 1 := by
    rw [List.length_map]
    unfold HT.sIx
    simp
    omega
  unfold cutD
  rw [e, List.map_drop]
  show ((ys.map iD).drop (ys.length - 1)).take ((ys.map iD).length - (ys.length - 1)) = _
  rw [List.take_of_length_le (by simp)]
end DL
set_option Elab.async false
set_option linter.all false
set_option maxRecDepth 100000
set_option maxHeartbeats 1000000
/-! tallies: how many rankings have each trail -/
namespace DL
open PySem PySem.Spec PyProof.Rows L2 Mv
open PySem.W (AllAlike Sortable dataLe dataLt keyToks keyToksAll alike alikeAll)
section
variable {α : Type} [DecidableEq α]
def wsum (f : α → Int) (l : List (α × Int)) : Int := (l.map fun p => p.2 * f p.1).sum
theorem wsum_cons (f : α → Int) (p : α × Int) (l : List (α × Int)) : wsum f (p :: l) = p.2 * f p.1 + wsum f l := by simp [wsum]
theorem wsum_app (f : α → Int) (l m : List (α × Int)) : wsum f (l ++ m) = wsum f l + wsum f m := by simp [wsum]
def addA (acc : List (α × Int)) (p : α × Int) : List (α × Int) := putA acc p.1 ((getA acc p.1).getD 0 + p.2)
def cntA (acc l : List (α × Int)) : List (α × Int) := l.foldl addA acc
theorem getA_none {L : List (α × Int)} {a : α} (h : a ∉ L.map (·.1)) : getA L a = none := by
  cases e : getA L a with
  | none => rfl
  | some v => exact absurd (getA_mem.mp (by rw [e]; rfl)) h
theorem wsum_upd (f : α → Int) (a : α) (b : Int) : ∀ L : List (α × Int), a ∉ L.map (·.1) → L.map (fun p => if p.1 = a then (p.1, b) else p) = L
  | [], _ => rfl
  | p :: L, h => by
    rw [List.map_cons, List.mem_cons, not_or] at h
    rw [List.map_cons, if_neg (fun e => h.1 e.symm), wsum_upd f a b L h.2]
theorem wsum_add (f : α → Int) (a : α) (c : Int) : ∀ L : List (α × Int), (L.map (·.1)).Nodup → wsum f (addA L (a, c)) = wsum f L + c * f a
  | [], _ => by simp [addA, putA, getA, wsum]
  | p :: L, h => by
    rw [List.map_cons, List.nodup_cons] at h
    have ih := wsum_add f a c L h.2
    unfold addA putA at ih ⊢
    dsimp only at ih ⊢
    by_cases e : p.1 = a
    · have e1 : getA (p :: L) a = some p.2 := by simp [getA, e]
      rw [e1]
      simp only [Option.isSome_some, if_true, Option.getD_some, List.map_cons, e]
      rw [wsum_cons, wsum_cons, wsum_upd f a _ L (by rw [← e]; exact h.1)]
      dsimp only
      rw [e, Int.add_mul]
      omega
    · have e1 : getA (p :: L) a = getA L a := by simp [getA, e]
      rw [e1]
      by_cases hs : (getA L a).isSome = true
      · rw [if_pos hs] at ih ⊢
        rw [List.map_cons, if_neg e, wsum_cons, wsum_cons, ih]
        omega
      · rw [if_neg hs] at ih ⊢
        rw [List.cons_append, wsum_cons, wsum_cons, ih]
        omega
theorem addA_keys (L : List (α × Int)) (p : α × Int) : (addA L p).map (·.1) = addK (L.map (·.1)) p.1 := by
  unfold addA addK
  rw [putA_keys]
theorem cntA_keys : ∀ (l acc : List (α × Int)), (cntA acc l).map (·.1) = (l.map (·.1)).foldl addK (acc.map (·.1))
  | [], acc => rfl
  | p :: l, acc => by
    show (cntA (addA acc p) l).map (·.1) = _
    rw [cntA_keys l, addA_keys]
    rfl
theorem wsum_cnt (f : α → Int) : ∀ (l acc : List (α × Int)), (acc.map (·.1)).Nodup → wsum f (cntA acc l) = wsum f acc + wsum f l
  | [], acc, _ => by simp [cntA, wsum]
  | p :: l, acc, h => by
    show wsum f (cntA (addA acc p) l) = _
    rw [wsum_cnt f l _ (by rw [addA_keys]; exact nodup_addK h), wsum_add f p.1 p.2 acc h, wsum_cons]
    omega
theorem cntA_nodup (l : List (α × Int)) : ((cntA [] l).map (·.1)).Nodup := by
  rw [cntA_keys]
  exact nodup_foldK List.nodup_nil
/-- two lists of counts with the same sums and the same keys -/
theorem wsum_one (L : List (α × Int)) (h : (L.map (·.1)).Nodup) {a : α} {c : Int} (m : (a, c) ∈ L) : wsum (fun x => if x = a then 1 else 0) L = c := by
  induction L with
  | nil => cases m
  | cons p L ih =>
    rw [List.map_cons, List.nodup_cons] at h
    rw [wsum_cons]
    have zero : ∀ M : List (α × Int), a ∉ M.map (·.1) → wsum (fun x => if x = a then 1 else 0) M = 0 := fun M => by
      induction M with
      | nil => intro _; rfl
      | cons q M ih =>
        intro hq
        rw [List.map_cons, List.mem_cons, not_or] at hq
        rw [wsum_cons, ih hq.2, if_neg (fun e => hq.1 e.symm)]
        simp
    rcases List.mem_cons.mp m with rfl | m
    · rw [zero L h.1]
      simp
    · have : p.1 ≠ a := fun e => h.1 (by rw [e]; exact List.mem_map.mpr ⟨_, m, rfl⟩)
      rw [ih h.2 m, if_neg this]
      simp
theorem cnt_perm {L M : List (α × Int)} (hL : (L.map (·.1)).Nodup) (hM : (M.map (·.1)).Nodup) (hk : ∀ a, a ∈ L.map (·.1) ↔ a ∈ M.map (·.1)) (hw : ∀ f : α → Int, wsum f L = wsum f M) : L.Perm M := by
  have nd : ∀ {N : List (α × Int)}, (N.map (·.1)).Nodup → N.Nodup := fun {N} h => List.Pairwise.of_map (·.1) (fun a b n e => n (by rw [e])) h
  have one : ∀ {L M : List (α × Int)}, (L.map (·.1)).Nodup → (M.map (·.1)).Nodup → (∀ a, a ∈ L.map (·.1) → a ∈ M.map (·.1)) → (∀ f : α → Int, wsum f L = wsum f M) → ∀ p ∈ L, p ∈ M := fun {L M} hL hM hk hw p hp => by
    obtain ⟨q, hq, e⟩ := List.mem_map.mp (hk p.1 (List.mem_map.mpr ⟨p, hp, rfl⟩))
    have h1 := wsum_one L hL (a := p.1) (c := p.2) hp
    have h2 := wsum_one M hM (a := p.1) (c := q.2) (by rw [← e]; exact hq)
    rw [hw] at h1
    have : q = p := Prod.ext e (by rw [← h2, h1])
    rw [← this]
    exact hq
  exact (List.perm_ext_iff_of_nodup (nd hL) (nd hM)).mpr fun p => ⟨one hL hM (fun a => (hk a).mp) hw p, one hM hL (fun a => (hk a).mpr) (fun f => (hw f).symm) p⟩
end
/-! ### the levels' counts -/
section
variable {mk : Int → Mk} {rs : List Ru} {ys : List (List Int)} {n : Nat}
def expN (mk : Int → Mk) (rs : List Ru) (ys : List (List Int)) (sz : Nat) (l : List (Nd × Int)) : List (Nd × Int) := l.flatMap fun p => (unplN sz p.1.1).map fun w => (nextN mk rs ys p.1 w, p.2)
theorem lvIn_cnt (m : Nd) (c : Int) : ∀ (ws : List Int) (acc : Lv), lvIn mk rs ys m c acc ws = cntA acc (ws.map fun w => (nextN mk rs ys m w, c))
  | [], acc => rfl
  | w :: ws, acc => by
    have := lvIn_cnt m c ws (addA acc (nextN mk rs ys m w, c))
    unfold lvIn cntA at this ⊢
    rw [List.foldl_cons, List.map_cons, List.foldl_cons]
    exact this
theorem lvS_cnt : ∀ (l acc : Lv), lvS mk rs ys n acc l = cntA acc (expN mk rs ys n l)
  | [], acc => rfl
  | p :: l, acc => by
    have := lvS_cnt l (lvIn mk rs ys p.1 p.2 acc (unplN n p.1.1))
    unfold lvS at this ⊢
    rw [List.foldl_cons, this, lvIn_cnt]
    unfold expN cntA
    rw [List.flatMap_cons, List.foldl_append]
theorem wsum_exp (f : Nd → Int) (l : Lv) : wsum f (expN mk rs ys n l) = wsum (fun m => ((unplN n m.1).map fun w => f (nextN mk rs ys m w)).sum) l := by
  induction l with
  | nil => rfl
  | cons p l ih =>
    have e : expN mk rs ys n (p :: l) = ((unplN n p.1.1).map fun w => (nextN mk rs ys p.1 w, p.2)) ++ expN mk rs ys n l := by unfold expN; rw [List.flatMap_cons]
    rw [e, wsum_app, wsum_cons, ih]
    congr 1
    unfold wsum
    rw [List.map_map]
    generalize unplN n p.1.1 = us
    induction us with
    | nil => simp
    | cons u us ih2 =>
      rw [List.map_cons, List.sum_cons, ih2, List.map_cons, List.sum_cons, Int.mul_add]
      rfl
theorem lvK_wsum (f : Nd → Int) : ∀ k, wsum f (lvK mk rs ys n k) = ((hdL n k).map fun h => f (nodeM mk rs ys h)).sum
  | 0 => by
    unfold lvK hdL
    rw [wsum_cons]
    simp [wsum, nodeM_nil]
  | k + 1 => by
    unfold lvK
    rw [lvS_cnt, wsum_cnt f _ [] List.nodup_nil, wsum_exp, lvK_wsum _ k]
    rw [show wsum f ([] : Lv) = 0 from rfl, Int.zero_add, show hdL n (k + 1) = hdN n (hdL n k) from rfl]
    unfold hdN
    generalize hdL n k = hs
    induction hs with
    | nil => rfl
    | cons h hs ih =>
      rw [List.map_cons, List.sum_cons, ih, List.flatMap_cons, List.map_append, List.sum_append, List.map_map, unplN_sort]
      congr 2
      refine List.map_congr_left fun w _ => ?_
      rw [nodeM_app]
      rfl
/-! ### the tally -/
def tyD (p : List Int × Int) : D := .tup [iD p.1, .int p.2]
abbrev tyE (p : List Int × Int) : D × D := (iD p.1, D.int p.2)
def tallyC (mk : Int → Mk) (rs : List Ru) (ys : List (List Int)) (n : Nat) : List (List Int × Int) := cntA [] ((lvK mk rs ys n n).map fun p => (settledN p.1, p.2))
def tallyM (mk : Int → Mk) (rs : List Ru) (ys : List (List Int)) (n : Nat) : List (List Int × Int) := srt tyD (tallyC mk rs ys n)
/-- the same, ranking by ranking -/
def tallyH (mk : Int → Mk) (rs : List Ru) (ys : List (List Int)) (n : Nat) : List (List Int × Int) := cntA [] ((hdL n n).map fun h => (trailW mk rs ys h, 1))
theorem wsum_map {α β : Type} (g : α → β) (f : β → Int) (l : List (α × Int)) : wsum f (l.map fun p => (g p.1, p.2)) = wsum (fun a => f (g a)) l := by
  unfold wsum
  rw [List.map_map]
  rfl
theorem tallyC_wsum (f : List Int → Int) : wsum f (tallyC mk rs ys n) = ((hdL n n).map fun h => f (trailW mk rs ys h)).sum := by
  unfold tallyC
  rw [wsum_cnt f _ [] List.nodup_nil, wsum_map, lvK_wsum]
  rw [show wsum f ([] : List (List Int × Int)) = 0 from rfl, Int.zero_add]
  congr 1
  refine List.map_congr_left fun h _ => ?_
  rw [settled_node]
theorem tallyH_wsum (f : List Int → Int) : wsum f (tallyH mk rs ys n) = ((hdL n n).map fun h => f (trailW mk rs ys h)).sum := by
  unfold tallyH
  rw [wsum_cnt f _ [] List.nodup_nil]
  rw [show wsum f ([] : List (List Int × Int)) = 0 from rfl, Int.zero_add]
  unfold wsum
  rw [List.map_map]
  congr 1
  refine List.map_congr_left fun h _ => ?_
  simp
theorem tallyC_keys (t : List Int) : t ∈ (tallyC mk rs ys n).map (·.1) ↔ ∃ h ∈ hdL n n, trailW mk rs ys h = t := by
  unfold tallyC
  rw [cntA_keys, mem_foldK, List.map_map]
  simp only [List.map_nil, List.not_mem_nil, false_or]
  constructor
  · intro h
    obtain ⟨p, hp, e⟩ := List.mem_map.mp h
    obtain ⟨h, hh, e2⟩ := (lvK_keys n p.1).mp (List.mem_map.mpr ⟨p, hp, rfl⟩)
    exact ⟨h, hh, by rw [← settled_node, e2]; exact e⟩
  · rintro ⟨h, hh, e⟩
    obtain ⟨p, hp, e2⟩ := List.mem_map.mp ((lvK_keys n _).mpr ⟨h, hh, rfl⟩)
    exact List.mem_map.mpr ⟨p, hp, by show settledN p.1 = t; rw [e2, settled_node]; exact e⟩
theorem tallyH_keys (t : List Int) : t ∈ (tallyH mk rs ys n).map (·.1) ↔ ∃ h ∈ hdL n n, trailW mk rs ys h = t := by
  unfold tallyH
  rw [cntA_keys, mem_foldK, List.map_map]
  simp
theorem tally_perm : (tallyC mk rs ys n).Perm (tallyH mk rs ys n) :=
  cnt_perm (cntA_nodup _) (cntA_nodup _) (fun t => by rw [tallyC_keys, tallyH_keys]) fun f => by rw [tallyC_wsum, tallyH_wsum]
theorem sum_perm {l m : List Int} (h : l.Perm m) : l.sum = m.sum := by
  induction h with
  | nil => rfl
  | cons x _ ih => rw [List.sum_cons, List.sum_cons, ih]
  | swap x y l =>
    simp only [List.sum_cons]
    omega
  | trans _ _ h1 h2 => exact h1.trans h2
theorem tallyM_wsum (f : List Int → Int) : wsum f (tallyM mk rs ys n) = ((hdL n n).map fun h => f (trailW mk rs ys h)).sum := by
  rw [← tallyC_wsum]
  unfold wsum tallyM
  exact sum_perm ((srt_perm tyD _).map _)
theorem tallyM_mem {p : List Int × Int} (h : p ∈ tallyM mk rs ys n) : ∃ r ∈ hdL n n, trailW mk rs ys r = p.1 := (tallyC_keys _).mp (List.mem_map.mpr ⟨p, (srt_perm tyD _).mem_iff.mp h, rfl⟩)
end
end DL
namespace DL
open PySem PySem.Spec PyProof.Rows L2 Mv
open PySem.W (AllAlike Sortable dataLe dataLt keyToks keyToksAll alike alikeAll)
theorem py_tyD (p : List Int × Int) : py (tyD p) = some (.tuple [.tuple (p.1.map .int), .int p.2]) := by
  unfold tyD py
  simp only [pys, py_iD, py]
  rfl
theorem pyD_tyD (p : List Int × Int) : pyD (tyD p) = .tuple [.tuple (p.1.map .int), .int p.2] := by
  unfold pyD
  rw [py_tyD]
  rfl
theorem okSort_tyD (l : List (List Int × Int)) : okSort (l.map tyD) := by
  have e : (l.map tyD).map pyD = l.map fun p => .tuple [.tuple (p.1.map .int), .int p.2] := by
    rw [List.map_map]
    exact List.map_congr_left fun p _ => pyD_tyD p
  refine ⟨fun x hx => ?_, ?_, ?_⟩
  · obtain ⟨p, _, rfl⟩ := List.mem_map.mp hx
    refine ⟨_, py_tyD p, ?_⟩
    simp only [PyData.depth, PyData.depthAll, PySem.W.depth_ints]
    decide
  · rw [e]
    refine PySem.W.AllAlike.of fun a b => ?_
    simp only [alike, alikeAll, PySem.W.alike_ints, Bool.and_self]
  · rw [e]
    exact PySem.W.Sortable.tuples fun a => ⟨_, _, rfl⟩
theorem toks_tyD (a b : List Int × Int) (h : keyToks (pyD (tyD a)) = keyToks (pyD (tyD b))) : a = b := by
  rw [pyD_tyD, pyD_tyD] at h
  simp only [keyToks, keyToksAll, List.cons.injEq, true_and] at h
  obtain ⟨e1, h⟩ := toks_ints h
  simp only [List.cons_append, List.nil_append, List.cons.injEq, Sum.inl.injEq, true_and, and_true] at h
  exact Prod.ext e1 h
theorem srt_pw {α : Type} (enc : α → D) (l : List α) : (srt enc l).Pairwise fun a b => dataLe false pyD (enc a) (enc b) = true := by
  have t := PySem.W.sortLe_total (PyProof.Rows.listOrd PyProof.Rows.itemOrd) false fun b => keyToks (pyD b)
  exact List.pairwise_mergeSort (fun a b c => t.trans (enc a) (enc b) (enc c)) (fun a b => (Bool.or_eq_true _ _).mpr (t.total (enc a) (enc b))) _
theorem srt_unique {α : Type} {enc : α → D} (inj : ∀ a b, keyToks (pyD (enc a)) = keyToks (pyD (enc b)) → a = b) {l m : List α} (hp : l.Perm m) (h1 : l.Pairwise fun a b => dataLe false pyD (enc a) (enc b) = true) (h2 : m.Pairwise fun a b => dataLe false pyD (enc a) (enc b) = true) : l = m := by
  refine List.Perm.eq_of_pairwise (le := fun a b => dataLe false pyD (enc a) (enc b) = true) (fun x y _ _ h1 h2 => ?_) h1 h2 hp
  have e1 : (PyProof.Rows.listOrd PyProof.Rows.itemOrd).blt (keyToks (pyD (enc y))) (keyToks (pyD (enc x))) = false := by simpa [dataLe, PySem.W.sortLe] using h1
  have e2 : (PyProof.Rows.listOrd PyProof.Rows.itemOrd).blt (keyToks (pyD (enc x))) (keyToks (pyD (enc y))) = false := by simpa [dataLe, PySem.W.sortLe] using h2
  exact inj _ _ (KeyOrd.total (PyProof.Rows.listOrd PyProof.Rows.itemOrd) _ _ e2 e1)
theorem le_pair {s t : List Int} (a b : Int) (h : dataLe false pyD (iD s) (iD t) = true) (n : s ≠ t) : dataLe false pyD (tyD (s, a)) (tyD (t, b)) = true := by
  have h' : dataLt (pyD (iD t)) (pyD (iD s)) = false := by
    have : (!dataLt (pyD (iD t)) (pyD (iD s))) = true := h
    simpa using this
  show (!dataLt (pyD (tyD (t, b))) (pyD (tyD (s, a)))) = true
  rw [pyD_iD, pyD_iD] at h'
  rw [pyD_tyD, pyD_tyD, PySem.W.dataLt_pair (by simp only [alike, PySem.W.alike_ints]) rfl]
  rw [if_neg, h']
  · rfl
  · intro e
    have h2 := (PySem.W.toks_eqv _ _ (show alike (PyData.tuple (t.map .int)) (PyData.tuple (s.map .int)) = true by simp only [alike, PySem.W.alike_ints])).1 e
    exact n (toks_iD s t (by rw [pyD_iD, pyD_iD]; exact h2.symm))
section
variable {α : Type} [DecidableEq α]
theorem getA_of : ∀ {L : List (α × Int)}, (L.map (·.1)).Nodup → ∀ p ∈ L, getA L p.1 = some p.2
  | [], _, p, h => by cases h
  | q :: L, hn, p, h => by
    rw [List.map_cons, List.nodup_cons] at hn
    rcases List.mem_cons.mp h with rfl | h
    · simp [getA]
    · have ne : q.1 ≠ p.1 := fun e => hn.1 (by rw [e]; exact List.mem_map.mpr ⟨p, h, rfl⟩)
      have := getA_of hn.2 p h
      unfold getA at this ⊢
      rw [List.find?_cons_of_neg (by simpa using ne)]
      exact this
end
/-- the rows of counts, sorted by their trails -/
theorem rows_srt {L M : List (List Int × Int)} (hp : M.Perm L) (hn : (L.map (·.1)).Nodup) : srt tyD M = (srt iD (L.map (·.1))).map fun t => (t, (getA L t).getD 0) := by
  have eL : (L.map (·.1)).map (fun t => (t, (getA L t).getD 0)) = L := by
    rw [List.map_map]
    have : L.map ((fun t => (t, (getA L t).getD 0)) ∘ fun x => x.1) = L.map id := List.map_congr_left fun p hp => by
      simp [getA_of hn p hp]
    rw [this, List.map_id]
  refine srt_unique toks_tyD ?_ (srt_pw _ _) ?_
  · refine ((srt_perm tyD M).trans hp).trans ?_
    have := ((srt_perm iD (L.map (·.1))).map fun t => (t, (getA L t).getD 0)).symm
    rw [eL] at this
    exact this
  · rw [List.pairwise_map]
    have nd : (srt iD (L.map (·.1))).Pairwise (fun a b => a ≠ b) := (srt_perm iD _).nodup_iff.mpr hn
    have pw := srt_pw iD (L.map (·.1))
    exact (List.Pairwise.and pw nd).imp fun h => le_pair _ _ h.1 h.2
end DL
namespace DL
open PySem PySem.Spec PyProof.Rows L2 Mv
section
variable (mk : Int → Mk) (rs : List Ru) (n : Nat)
def mvF (t : List Int) : Int := match t with
  | [x, y] => if x ≠ y then 1 else 0
  | _ => 0
def idF (b a t : List Int) : Int := match t with
  | [x, y] => if isNdl (b, x) (a, y) = true then 1 else 0
  | _ => 0
/-- over all rankings: moves, needless moves from yard b to yard a -/
def mvS (b a : List Int) : Int := ((hdL n n).map fun h => if holdW mk rs b h ≠ holdW mk rs a h then (1 : Int) else 0).sum
def idS (b a : List Int) : Int := ((hdL n n).map fun h => if isNdl (b, holdW mk rs b h) (a, holdW mk rs a h) = true then (1 : Int) else 0).sum
theorem wsum_mv (b a : List Int) : wsum mvF (tallyM mk rs [b, a] n) = mvS mk rs n b a := by
  rw [tallyM_wsum]
  rfl
theorem wsum_id (b a : List Int) : wsum (idF b a) (tallyM mk rs [b, a] n) = idS mk rs n b a := by
  rw [tallyM_wsum]
  rfl
end
end DL
namespace DL
open PySem PySem.Spec PyProof.Rows L2 Mv
/-- sums of ones -/
def cntP {α : Type} (p : α → Bool) (l : List α) : Int := (l.map fun x => if p x = true then (1 : Int) else 0).sum
theorem cntP_cons {α : Type} (p : α → Bool) (x : α) (l : List α) : cntP p (x :: l) = (if p x = true then 1 else 0) + cntP p l := by simp [cntP]
theorem cntP_app {α : Type} (p : α → Bool) (l : List α) (x : α) : cntP p (l ++ [x]) = cntP p l + (if p x = true then 1 else 0) := by simp [cntP]
theorem cntP_nonneg {α : Type} (p : α → Bool) (l : List α) : 0 ≤ cntP p l := by
  induction l with
  | nil => exact Int.le_refl _
  | cons x l ih => rw [cntP_cons]; split <;> omega
theorem cntP_zero {α : Type} (p : α → Bool) (l : List α) : cntP p l = 0 ↔ ∀ x ∈ l, p x = false := by
  induction l with
  | nil => simp [cntP]
  | cons x l ih =>
    have := cntP_nonneg p l
    rw [cntP_cons, List.forall_mem_cons, ← ih]
    cases h : p x
    · simp
    · simp
      omega
section
variable {mk : Int → Mk} {rs : List Ru} {ys : List (List Int)} {n : Nat} {p : Pf}
theorem cnt_bad : (cntP (fun h => p ys (trailW mk rs ys h)) (hdL n n) = 0) ↔ badM mk rs ys n p = none := by rw [cntP_zero, bad_none]
theorem wsum_cntP (q : List Int → Bool) : wsum (fun t => if q t = true then (1 : Int) else 0) (tallyM mk rs ys n) = cntP (fun h => q (trailW mk rs ys h)) (hdL n n) := by
  rw [tallyM_wsum]
  rfl
theorem idS_cntP (b a : List Int) : idS mk rs n b a = cntP (fun h => isNdl (b, holdW mk rs b h) (a, holdW mk rs a h)) (hdL n n) := rfl
theorem step_sum (b a : List Int) (l : List (List Int)) (o w : List Int → Int) :
    (l.map fun h => if o h ≠ w h then (1 : Int) else 0).sum = cntP (fun h => decide (o h ≠ w h) && decide (o h ∉ a)) l + cntP (fun h => decide (o h ≠ w h) && decide (w h ∉ b)) l - cntP (fun h => decide (o h ≠ w h) && (decide (o h ∉ a) && decide (w h ∉ b))) l + cntP (fun h => isNdl (b, o h) (a, w h)) l := by
  induction l with
  | nil => rfl
  | cons h l ih =>
    rw [List.map_cons, List.sum_cons, cntP_cons, cntP_cons, cntP_cons, cntP_cons, ih]
    unfold isNdl
    by_cases h1 : o h = w h
    · simp [h1]
    · by_cases h2 : o h ∈ a
      · by_cases h3 : w h ∈ b
        · simp [h1, h2, h3]; omega
        · simp [h1, h2, h3]; omega
      · by_cases h3 : w h ∈ b
        · simp [h1, h2, h3]; omega
        · simp [h1, h2, h3]; omega
end
end DL
namespace DL
open PySem PySem.Spec PyProof.Rows L2 Mv
theorem dep_tys (l : List (List Int × Int)) : dep 3 (.lst (l.map tyD)) := dep_lst fun x hx => by
  obtain ⟨p, _, rfl⟩ := List.mem_map.mp hx
  exact dep_tup fun y hy => by
    rcases List.mem_cons.mp hy with rfl | hy
    · exact dep_iD _
    · rw [List.mem_singleton.mp hy]
      exact dep_int 1 _
end DL
namespace DL
open PySem PySem.Spec PyProof.Rows L2 Mv
theorem cmul01 (c : Int) (b : Bool) : CMul c (if b = true then 1 else 0) := .inr (by constructor <;> split <;> omega)
theorem decide_none {α : Type} {o : Option α} {P : Prop} [Decidable P] (h : P ↔ o = none) : decide P = o.isNone := by
  cases o with
  | none => exact decide_eq_true (h.mpr rfl)
  | some x => exact decide_eq_false fun z => by have := h.mp z; cases this
end DL
set_option Elab.async false
set_option linter.all false
set_option maxRecDepth 100000
set_option maxHeartbeats 1000000
/-! holders by the walk; rules without bounds -/
namespace DL
open PySem PySem.Spec PyProof.Rows L2 Mv
/-- an object that a call borrows, or a new one handed over -/
def pl (a : SV) (c : CO) : Prop := a = .o false c ∨ a = .d c.frz
section
variable {mk : Int → Mk} {rs : List Ru} {yd : List Int}
theorem lineup_app (h : List Int) (w : Int) : lineup (h ++ [w]) yd = lineup h yd ++ (if w ∈ yd then [w] else []) := by
  unfold lineup
  rw [List.filter_append]
  congr 1
  by_cases c : w ∈ yd <;> simp [c]
theorem walk_snoc (l : List Int) (w : Int) : walkM mk rs (l ++ [w]) [] = walkM mk rs l [] ++ [(w, tkM rs (mk w) (l.map mk))] := by
  rw [walk_app]
  simp [walkM]
/-- the run over a head, by the walk -/
theorem run_walk : ∀ (n : Nat) (h : List Int), h.length = n → (∀ w ∈ h, w ≠ -1) →
    (runW mk rs yd h).2.1 = (match (walkM mk rs (lineup h yd) []).find? (·.2) with | some p => p.1 | none => -1) ∧ (runW mk rs yd h).2.2 = (lineup h yd).headD (-1) ∧ (∀ p ∈ walkM mk rs (lineup h yd) [], p.1 ≠ -1)
  | 0, h, e, _ => by
    rw [List.length_eq_zero_iff.mp e]
    exact ⟨rfl, rfl, fun p hp => by cases hp⟩
  | n + 1, h, e, hw => by
    obtain ⟨g, w, rfl⟩ : ∃ g w, h = g ++ [w] := ⟨h.dropLast, h.getLast (fun z => by rw [z] at e; cases e), (List.dropLast_concat_getLast _).symm⟩
    have eg : g.length = n := by rw [List.length_append, List.length_singleton] at e; omega
    have hww : w ≠ -1 := hw w (by simp)
    obtain ⟨i1, i2, i3⟩ := run_walk n g eg fun w h => hw w (by simp [h])
    have is := runW_seen (mk := mk) (rs := rs) (yd := yd) g
    rw [runW_app, lineup_app]
    unfold stW
    by_cases c : w ∈ yd
    · rw [if_pos c, if_pos c, walk_snoc]
      refine ⟨?_, ?_, fun p hp => ?_⟩
      · show (if (runW mk rs yd g).2.1 = -1 then (if tkM rs (mk w) (runW mk rs yd g).1 = true then w else (runW mk rs yd g).2.1) else (runW mk rs yd g).2.1) = _
        rw [List.find?_append, is]
        show (if (runW mk rs yd g).2.1 = -1 then (if tkM rs (mk w) ((lineup g yd).map mk) = true then w else (runW mk rs yd g).2.1) else (runW mk rs yd g).2.1) = _
        cases hf : (walkM mk rs (lineup g yd) []).find? (·.2) with
        | some p =>
          rw [hf] at i1
          dsimp only at i1
          have hp : p.1 ≠ -1 := i3 p (List.mem_of_find?_eq_some hf)
          rw [i1, if_neg hp]
          rfl
        | none =>
          rw [hf] at i1
          dsimp only at i1
          rw [i1, if_pos rfl]
          by_cases ht : tkM rs (mk w) ((lineup g yd).map mk) = true
          · rw [if_pos ht]
            simp [ht]
          · rw [if_neg ht]
            simp [ht]
      · show (if (runW mk rs yd g).2.2 = -1 then w else (runW mk rs yd g).2.2) = _
        rw [i2]
        cases hl : lineup g yd with
        | nil => rfl
        | cons a l =>
          have : a ∈ lineup g yd := by rw [hl]; simp
          have ha : a ≠ -1 := hw a (by have := (List.mem_filter.mp this).1; simp [this])
          show (if a = -1 then w else a) = a
          rw [if_neg ha]
      · rcases List.mem_append.mp hp with hp | hp
        · exact i3 p hp
        · rw [List.mem_singleton.mp hp]
          exact hww
    · rw [if_neg c, if_neg c, List.append_nil]
      exact ⟨i1, i2, i3⟩
theorem walk_head : ∀ (l : List Int), (((walkM mk rs l []).headD (0, false)).1) = l.headD 0
  | [] => rfl
  | _ :: _ => rfl
theorem hold_walk {h : List Int} (hw : ∀ w ∈ h, w ≠ -1) (hl : lineup h yd ≠ []) : holdW mk rs yd h = firstM (walkM mk rs (lineup h yd) []) := by
  obtain ⟨i1, i2, i3⟩ := run_walk (mk := mk) (rs := rs) (yd := yd) _ h rfl hw
  unfold holdW firstM
  rw [i1, i2, walk_head]
  cases hf : (walkM mk rs (lineup h yd) []).find? (·.2) with
  | some p =>
    dsimp only
    rw [if_neg (i3 p (List.mem_of_find?_eq_some hf))]
  | none =>
    dsimp only
    rw [if_pos rfl]
    cases hl2 : lineup h yd with
    | nil => exact absurd hl2 hl
    | cons a l => rfl
/-! ### rules without bounds -/
def noB (rs : List Ru) : Prop := ∀ r ∈ rs, r.2 = []
theorem tk_noB (h : noB rs) (m : Mk) (sn : List Mk) : tkM rs m sn = tkM rs m [] := by
  unfold tkM
  induction rs with
  | nil => rfl
  | cons r l ih =>
    rw [List.any_cons, List.any_cons, ih fun x hx => h x (List.mem_cons_of_mem _ hx)]
    congr 1
    unfold ruT
    rw [h r (List.mem_cons_self ..)]
    rfl
theorem walk_noB (hb : noB rs) : ∀ (l : List Int) (sn : List Mk), walkM mk rs l sn = l.map fun w => (w, tkM rs (mk w) [])
  | [], _ => rfl
  | w :: l, sn => by
    unfold walkM
    rw [walk_noB hb l, tk_noB hb, List.map_cons]
/-- the first worker for which p, or the first one -/
def foP (p : Int → Bool) (l : List Int) : Int := (l.find? p).getD (l.headD (-1))
theorem first_noB (hb : noB rs) {l : List Int} (hl : l ≠ []) : firstM (walkM mk rs l []) = foP (fun w => tkM rs (mk w) []) l := by
  rw [walk_noB hb]
  unfold firstM foP
  rw [List.find?_map]
  cases hf : l.find? ((fun p : Int × Bool => p.2) ∘ fun w => (w, tkM rs (mk w) [])) with
  | some w =>
    have : l.find? (fun w => tkM rs (mk w) []) = some w := hf
    rw [this]
    rfl
  | none =>
    have : l.find? (fun w => tkM rs (mk w) []) = none := hf
    rw [this]
    cases l with
    | nil => exact absurd rfl hl
    | cons a l => rfl
theorem hold_noB (hb : noB rs) {h : List Int} (hw : ∀ w ∈ h, w ≠ -1) (hl : lineup h yd ≠ []) : holdW mk rs yd h = foP (fun w => tkM rs (mk w) []) (lineup h yd) := by
  rw [hold_walk hw hl, first_noB hb hl]
theorem hold_nil {h : List Int} (hw : ∀ w ∈ h, w ≠ -1) (hl : lineup h yd = []) : holdW mk rs yd h = -1 := by
  obtain ⟨i1, i2, i3⟩ := run_walk (mk := mk) (rs := rs) (yd := yd) _ h rfl hw
  unfold holdW
  rw [i1, i2, hl]
  rfl
theorem find_pair {q1 q2 : Int → Bool} : ∀ {l : List Int} {x y : Int}, l.find? q1 = some x → l.find? q2 = some y → q2 x = true → q1 y = true → x = y
  | [], x, y, h, _, _, _ => by cases h
  | z :: l, x, y, h1, h2, k1, k2 => by
    rw [List.find?_cons] at h1 h2
    by_cases c1 : q1 z = true
    · rw [c1] at h1
      cases h1
      rw [k1] at h2
      cases h2
      rfl
    · by_cases c2 : q2 z = true
      · rw [c2] at h2
        cases h2
        exact absurd k2 c1
      · rw [Bool.eq_false_iff.mpr c1] at h1
        rw [Bool.eq_false_iff.mpr c2] at h2
        exact find_pair h1 h2 k1 k2
theorem fo_pair {p : Int → Bool} {h a b : List Int} (ha : lineup h a ≠ []) (hb : lineup h b ≠ []) (k1 : foP p (lineup h b) ∈ a) (k2 : foP p (lineup h a) ∈ b) : foP p (lineup h b) = foP p (lineup h a) := by
  have hd : ∀ {c : List Int}, lineup h c ≠ [] → ∃ x, h.find? (fun w => decide (w ∈ c)) = some x ∧ (lineup h c).headD (-1) = x := fun {c} hc => by
    cases hl : lineup h c with
    | nil => exact absurd hl hc
    | cons x l =>
      refine ⟨x, ?_, rfl⟩
      have : (lineup h c).head? = some x := by rw [hl]; rfl
      unfold lineup at this
      rw [List.head?_filter] at this
      exact this
  have hf : ∀ c : List Int, (lineup h c).find? p = h.find? fun w => decide (w ∈ c) && p w := fun c => by
    unfold lineup
    rw [List.find?_filter]
    congr 1
    funext w
    by_cases c1 : w ∈ c <;> cases p w <;> simp [c1]
  obtain ⟨xb, fb, eb⟩ := hd hb
  obtain ⟨xa, fa, ea⟩ := hd ha
  unfold foP at k1 k2 ⊢
  rw [hf, eb] at k1
  rw [hf, ea] at k2
  rw [hf, hf, eb, ea]
  cases h1 : h.find? (fun w => decide (w ∈ b) && p w) with
  | some x =>
    rw [h1] at k1
    have q1 := List.find?_some h1
    have m1 := List.mem_of_find?_eq_some h1
    simp only [Bool.and_eq_true, decide_eq_true_eq] at q1
    cases h2 : h.find? (fun w => decide (w ∈ a) && p w) with
    | some y =>
      rw [h2] at k2
      have q2 := List.find?_some h2
      simp only [Bool.and_eq_true, decide_eq_true_eq] at q2
      exact find_pair h1 h2 (by simp only [Bool.and_eq_true, decide_eq_true_eq]; exact ⟨k1, q1.2⟩) (by simp only [Bool.and_eq_true, decide_eq_true_eq]; exact ⟨k2, q2.2⟩)
    | none =>
      have := List.find?_eq_none.mp h2 x m1
      exact absurd (by simp only [Bool.and_eq_true, decide_eq_true_eq]; exact ⟨k1, q1.2⟩) this
  | none =>
    rw [h1] at k1
    cases h2 : h.find? (fun w => decide (w ∈ a) && p w) with
    | some y =>
      rw [h2] at k2
      have q2 := List.find?_some h2
      have m2 := List.mem_of_find?_eq_some h2
      simp only [Bool.and_eq_true, decide_eq_true_eq] at q2
      have := List.find?_eq_none.mp h1 y m2
      exact absurd (by simp only [Bool.and_eq_true, decide_eq_true_eq]; exact ⟨k2, q2.2⟩) this
    | none =>
      rw [h2] at k2
      exact find_pair fb fa (decide_eq_true k1) (decide_eq_true k2)
theorem nb_same (hn : noB rs) {h a b : List Int} (hw : ∀ w ∈ h, w ≠ -1) (na : (-1 : Int) ∉ a) (nb : (-1 : Int) ∉ b) (k1 : holdW mk rs b h ∈ a) (k2 : holdW mk rs a h ∈ b) : holdW mk rs b h = holdW mk rs a h := by
  by_cases hb : lineup h b = []
  · rw [hold_nil hw hb] at k1
    exact absurd k1 na
  by_cases ha : lineup h a = []
  · rw [hold_nil hw ha] at k2
    exact absurd k2 nb
  rw [hold_noB hn hw ha, hold_noB hn hw hb] at *
  exact fo_pair ha hb k1 k2
variable {ys : List (List Int)} {n : Nat}
theorem hdL_neg {k : Nat} {h : List Int} (hh : h ∈ hdL n k) : ∀ w ∈ h, w ≠ -1 := fun w hw z => by
  have := ((hdL_mem n k h).mp hh).2.2 w hw
  omega
theorem okY_neg {yd : List Int} (h : okY n yd = true) : (-1 : Int) ∉ yd := fun z => by
  have := okY_mem h _ z
  omega
theorem nb_isNdl (hn : noB rs) {h a b : List Int} (hw : ∀ w ∈ h, w ≠ -1) (na : (-1 : Int) ∉ a) (nb : (-1 : Int) ∉ b) : isNdl (b, holdW mk rs b h) (a, holdW mk rs a h) = false := by
  rw [← Bool.not_eq_true]
  intro z
  unfold isNdl at z
  simp only [Bool.and_eq_true, decide_eq_true_eq] at z
  exact z.1.1 (nb_same hn hw na nb (by first | exact z.1.2 | exact z.2) (by first | exact z.2 | exact z.1.2))
theorem nb_ndl (hn : noB rs) {h : List Int} (hw : ∀ w ∈ h, w ≠ -1) (hy : ∀ yd ∈ ys, okY n yd = true) : ndl2 ys (trailW mk rs ys h) = false := by
  rw [← Bool.not_eq_true, ndl2_iff]
  rintro ⟨k, b, a, x, y, e1, e2, e3, e4, ne, k1, k2⟩
  unfold trailW at e3 e4
  rw [List.getElem?_map, e1] at e3
  rw [List.getElem?_map, e2] at e4
  cases e3
  cases e4
  have hb := hy b (List.mem_iff_getElem?.mpr ⟨_, e1⟩)
  have ha := hy a (List.mem_iff_getElem?.mpr ⟨_, e2⟩)
  exact ne (nb_same hn hw (okY_neg ha) (okY_neg hb) (by first | exact k1 | exact k2) (by first | exact k2 | exact k1))
theorem nb_bad (hn : noB rs) (hy : ∀ yd ∈ ys, okY n yd = true) : badM mk rs ys n needlessP = none := bad_none.mpr fun h hh => nb_ndl hn (hdL_neg hh) hy
theorem nb_idS (hn : noB rs) {a b : List Int} (ha : okY n a = true) (hb : okY n b = true) : idS mk rs n b a = 0 := by
  show cntP (fun h => isNdl (b, holdW mk rs b h) (a, holdW mk rs a h)) (hdL n n) = 0
  rw [cntP_zero]
  exact fun h hh => nb_isNdl hn (hdL_neg hh) (okY_neg ha) (okY_neg hb)
/-! ### schemes by which the first worker takes -/
def fstT (rs : List Ru) : Prop := rs = [] ∨ ∀ m, tkM rs m [] = true
theorem hold_fst (hf : fstT rs) {h : List Int} (hw : ∀ w ∈ h, w ≠ -1) : holdW mk rs yd h = (lineup h yd).headD (-1) := by
  cases hl : lineup h yd with
  | nil => exact hold_nil hw hl
  | cons w l =>
    rw [hold_walk hw (by rw [hl]; simp), hl]
    rcases hf with rfl | hf
    · rw [first_noB (fun r hr => by cases hr) (by simp)]
      unfold foP
      have : (w :: l).find? (fun w => tkM [] (mk w) []) = none := List.find?_eq_none.mpr fun x _ => by simp [tkM]
      rw [this]
      rfl
    · unfold firstM walkM
      rw [List.find?_cons_of_pos (by exact hf _)]
      rfl
theorem tally_fst {rs' : List Ru} (hf : fstT rs) (hf' : fstT rs') : tallyM mk rs ys n = tallyM mk rs' ys n := by
  have e : tallyH mk rs ys n = tallyH mk rs' ys n := by
    unfold tallyH
    congr 1
    refine List.map_congr_left fun h hh => ?_
    have : trailW mk rs ys h = trailW mk rs' ys h := by
      unfold trailW
      refine List.map_congr_left fun yd _ => ?_
      rw [hold_fst hf (hdL_neg hh), hold_fst hf' (hdL_neg hh)]
    rw [this]
  exact srt_eq toks_tyD ((tally_perm.trans (by rw [e])).trans tally_perm.symm)
theorem fst_nil : fstT [] := .inl rfl
theorem fst_any : fstT [(none, [])] := .inr fun m => rfl
theorem fst_nobody : fstT [(none, [(none, true, 1)])] := .inr fun m => rfl
/-! ### the rule for any that sees somebody -/
def someR : List Ru := [(none, [(none, false, 1)])]
theorem some_bad {n : Nat} (h3 : 3 ≤ n) (h5 : n ≤ 5) : badM mk someR [[1, 2], [0, 1, 2]] n needlessP = some (idL n) := by
  obtain rfl | rfl | rfl : n = 3 ∨ n = 4 ∨ n = 5 := by omega
  · show (hdL 3 3).find? (fun h => needlessP [[1, 2], [0, 1, 2]] (trailW mk someR [[1, 2], [0, 1, 2]] h)) = _
    rw [show hdL 3 3 = idL 3 :: (hdL 3 3).tail by decide +kernel]
    exact List.find?_cons_of_pos (by rfl)
  · show (hdL 4 4).find? (fun h => needlessP [[1, 2], [0, 1, 2]] (trailW mk someR [[1, 2], [0, 1, 2]] h)) = _
    rw [show hdL 4 4 = idL 4 :: (hdL 4 4).tail by decide +kernel]
    exact List.find?_cons_of_pos (by rfl)
  · show (hdL 5 5).find? (fun h => needlessP [[1, 2], [0, 1, 2]] (trailW mk someR [[1, 2], [0, 1, 2]] h)) = _
    rw [show hdL 5 5 = idL 5 :: (hdL 5 5).tail by decide +kernel]
    exact List.find?_cons_of_pos (by rfl)
end
end DL
set_option Elab.async false
set_option linter.all false
set_option maxRecDepth 100000
set_option maxHeartbeats 400000
namespace DL
open PySem PySem.Spec PyProof.Rows L2 Mv
section
variable {P : Program} {w : World} {K : PySem.W.Frag} {mg : Str → Option Value} {base : Heap} {T : List (Addr × Str)} {CC CS CV cR cY cM fM fR fU : Addr} {PF : Addr → Option Pf}
def sp_belongs : DSp := fun as Q X => match as with
  | [a, b] => ∃ (m : Mk) (g : Gp), a = .d (mD m) ∧ b = .d (gD g) ∧ Q (.d (.bl (bel m g))) [.no, .no]
  | _ => False
theorem ok_belongs {f : Addr} {fd : FuncData} (F : Fun K "belongs" "belongs" st_belongs f fd) (B : Bd mg)  : FnOk P w K mg base (L2.CX P w) 1 f fd ["make", "group"] (liftSp T K sp_belongs) := by
  refine fnD F sc_belongs (fun as Q X h => by rcases as with _ | ⟨_, _ | ⟨_, _ | ⟨_, _⟩⟩⟩ <;> first | rfl | exact h.elim) fun cdv Ar outer s H E hr => ⟨_, _, (pss_one (ps_ret (pe_or (pe_cmpR (show OpR _ _ (rEqD K) from op_eqD hr.units) (pv 1) (pe_tup (pa_cons pe_str pa_nil)) (nomark _)) (pe_one (pe_cmpR (show OpR _ _ (rEqD K) from op_eqD hr.units) (pv 1) (pe_tup (pa_cons pe_str (pa_cons (pv 0) pa_nil))) (nomark _)))))), by (exists "l"), ?_⟩
  clear hr
  rintro as Q X h
  rcases as with _ | ⟨a, _ | ⟨b, _ | ⟨_, _⟩⟩⟩ <;> try exact h.elim
  obtain ⟨m, g, rfl, rfl, q⟩ := h
  (exists "e", ok_gD, ok_any, ok_make, eq_any, eq_make, mD)
  unfold bel at q
  cases h1 : g == none with
  | true => simpa [h1] using q
  | false => simpa [h1] using q
def sp_bound_holds : DSp := fun as Q X => match as with
  | [a, b] => ∃ (o : Bo) (sn : List Mk), a = .d (boD o) ∧ sq b (sn.map mD) ∧ sn.length ≤ 4000 ∧ Q (.d (.bl (boH o sn))) [.no, cn b]
  | _ => False
theorem ok_bound_holds {f : Addr} {fd : FuncData} (F : Fun K "bound_holds" "bound_holds" st_bound_holds f fd) (B : Bd mg) (c_belongs : CalX (L2.CX P w) P w K mg base 1 "belongs" (liftSp T K sp_belongs)) : FnOk P w K mg base (L2.CX P w) 4 f fd ["bound", "seen"] (liftSp T K sp_bound_holds) := by
  refine fnD F sc_bound_holds (fun as Q X h => by rcases as with _ | ⟨_, _ | ⟨_, _ | ⟨_, _⟩⟩⟩ <;> first | rfl | exact h.elim) fun cdv Ar outer s H E hr => ⟨_, _, (pss_cons (ps_asg (pv 0) (show PG _ _ (gTup K 3 _) from pg_tup rfl (pgs_cons (pg_name (i := 2) sc_bound_holds.nd rfl (.inr rfl)) (pgs_cons (pg_name (i := 3) sc_bound_holds.nd rfl (.inl rfl)) (pgs_cons (pg_name (i := 4) sc_bound_holds.nd rfl (.inl rfl)) pgs_nil)))))
 (pss_cons (ps_set (i := 5) sc_bound_holds.nd rfl (.inl rfl) (pe_callB (show CallR _ _ (rLenSq K) from call_len_seq) (by rfl) B.len PySem.boot_len (pa_cons (pe_lc (own := [("make", 6)]) (g := gName 6) rfl sc_bound_holds.nd (show PI _ _ _ (iList K _) from pi_list (pv 1)) (blkOk_by (N := ["bound", "seen", "group", "sign", "number", "many", "make"]) (sc := defScope st_bound_holds) (by decide +kernel)) (fun _ _ _ _ _ => (pg_name (i := 6) sc_bound_holds.nd rfl (.inl rfl))) (fun _ _ _ _ _ => (pts_one (pt_val (pe_cx c_belongs hr (by decide) passN (by rfl) (pa_cons (pv 6) (pa_cons (pv 2) pa_nil)))))) (fun _ _ _ _ _ => (pv 6))) pa_nil)))
 (pss_one (ps_ret (pe_ifExp (pt_cmpR op_eq (pv 3) pe_str (nomark _)) (pe_cmpR op_lt (pv 5) (pv 4) (nomark _)) (pe_cmpR op_ge (pv 5) (pv 4) (nomark _))))))), by (exists "l"), ?_⟩
  clear hr
  rintro as Q X h
  rcases as with _ | ⟨a, _ | ⟨b, _ | ⟨_, _⟩⟩⟩ <;> try exact h.elim
  obtain ⟨o, sn, rfl, h2, hl, q⟩ := h
  rcases h2 with rfl | rfl
  all_goals (exists "e", boD)
  all_goals refine lc_pure sn mD (fun m => bel m o.1) mD (by first | trivial | rfl | simp [kT, dwipe]) hl (fun m hm T1 T0 h1 h0 => ?_) ?_
  all_goals (exists "e")
  all_goals try refine ⟨m, o.1, rfl, rfl, ?_⟩
  all_goals (exists "e", sign_lt)
  all_goals first | ((split <;> first | (rename_i c; exact h1 c _ (by simp [okW, okSet, dwipe]) (by first | rfl | simp [dwipe])) | (rename_i c; exact h0 (by simpa using c) _ (by simp [okW, okSet, dwipe]) (by first | rfl | simp [dwipe])))) | skip
  all_goals
    unfold boH at q
    rw [List.length_map]
    cases h1 : o.2.1 <;> (rw [h1] at q; exact q)
def sp_rule_takes : DSp := fun as Q X => match as with
  | [a, b, c] => ∃ (r : Ru) (m : Mk) (sn : List Mk), a = .d (ruD r) ∧ b = .d (mD m) ∧ sq c (sn.map mD) ∧ sn.length ≤ 4000 ∧ r.2.length ≤ 4000 ∧ Q (.d (.bl (ruT r m sn))) [.no, .no, cn c]
  | _ => False
theorem ok_rule_takes {f : Addr} {fd : FuncData} (F : Fun K "rule_takes" "rule_takes" st_rule_takes f fd) (B : Bd mg) (c_belongs : CalX (L2.CX P w) P w K mg base 1 "belongs" (liftSp T K sp_belongs)) (c_bound_holds : CalX (L2.CX P w) P w K mg base 4 "bound_holds" (liftSp T K sp_bound_holds)) : FnOk P w K mg base (L2.CX P w) 5 f fd ["rule", "make", "seen"] (liftSp T K sp_rule_takes) := by
  refine fnD F sc_rule_takes (fun as Q X h => by rcases as with _ | ⟨_, _ | ⟨_, _ | ⟨_, _ | ⟨_, _⟩⟩⟩⟩ <;> first | rfl | exact h.elim) fun cdv Ar outer s H E hr => ⟨_, _, (pss_cons (ps_asg (pv 0) (show PG _ _ (gTup K 2 _) from pg_tup rfl (pgs_cons (pg_name (i := 3) sc_rule_takes.nd rfl (.inl rfl)) (pgs_cons (pg_name (i := 4) sc_rule_takes.nd rfl (.inl rfl)) pgs_nil))))
 (pss_one (ps_ret (pe_and (pe_cx c_belongs hr (by decide) (passes_call (takes_of rfl rfl rfl rfl) (fun _ _ _ _ h => h)) (by rfl) (pa_cons (pv 1) (pa_cons (pv 3) pa_nil))) (pe_one (pe_callB (show CallR _ _ (rAll K) from cr_all rfl) (by rfl) B.all (by decide +kernel) (pa_cons (pe_lc (own := [("bound", 5)]) (g := gName 5) (tt := tYes) rfl sc_rule_takes.nd (show PI _ _ _ (iTup K _) from pi_tup (pv 4)) (blkOk_by (N := ["rule", "make", "seen", "group", "bounds", "bound"]) (sc := defScope st_rule_takes) (by decide +kernel)) (fun _ _ _ _ _ => (pg_name (i := 5) sc_rule_takes.nd rfl (.inl rfl))) (fun _ _ _ _ _ => pts_nil) (fun _ _ _ _ _ => (pe_cx c_bound_holds hr (by decide) passN (by rfl) (pa_cons (pv 5) (pa_cons (pv 2) pa_nil))))) pa_nil))))))), by (exists "l"), ?_⟩
  clear hr
  rintro as Q X h
  rcases as with _ | ⟨a, _ | ⟨b, _ | ⟨c, _ | ⟨_, _⟩⟩⟩⟩ <;> try exact h.elim
  obtain ⟨r, m, sn, rfl, rfl, h2, hl, hr, q⟩ := h
  unfold ruT at q
  rcases h2 with rfl | rfl
  all_goals (exists "e", ruD)
  all_goals refine ⟨m, r.1, rfl, rfl, ?_⟩
  all_goals (exists "e")
  all_goals cases hb : bel m r.1 with
    | false => simpa [hb, cn] using q
    | true => ?_
  all_goals rw [hb, Bool.true_and] at q
  all_goals simp only [if_true]
  all_goals refine lc_map r.2 boD (fun o => .bl (boH o sn)) (by first | trivial | rfl | simp [kT, dwipe]) hr (fun o ho T1 h1 => ?_) ?_
  all_goals (exists "e")
  all_goals first
    | (refine ⟨o, sn, rfl, ?_, hl, ?_⟩
       · first | exact .inl rfl | exact .inr rfl
       · (exists "e")
         first | exact h1 _ (by simp [okW, okSet, dwipe]) rfl | exact h1 _ (by simp [okW, okSet, dwipe]) (by simp [dwipe]))
    | skip
  all_goals (exists "e")
  all_goals simpa only [cn] using q
def sp_Scheme_takes (CS : Addr) : DSp := fun as Q X => match as with
  | [a, b, c] => ∃ (rs : List Ru) (m : Mk) (sn : List Mk), pl a (planO CS rs) ∧ b = .d (mD m) ∧ sq c (sn.map mD) ∧ sn.length ≤ 4000 ∧ rs.length ≤ 4000 ∧ (∀ r ∈ rs, r.2.length ≤ 4000) ∧ Q (.d (.bl (tkM rs m sn))) [cn a, .no, cn c]
  | _ => False
theorem ok_Scheme_takes {f : Addr} {fd : FuncData} (F : Fun K "takes" "Scheme.takes" st_Scheme_takes f fd) (B : Bd mg) (c_rule_takes : CalX (L2.CX P w) P w K mg base 5 "rule_takes" (liftSp T K sp_rule_takes)) (hS : Cls K CS) (nS : NoAttr K CS "rules") : FnOk P w K mg base (L2.CX P w) 6 f fd ["self", "make", "seen"] (liftSp T K (sp_Scheme_takes CS)) := by
  refine fnD F sc_Scheme_takes (fun as Q X h => by rcases as with _ | ⟨_, _ | ⟨_, _ | ⟨_, _ | ⟨_, _⟩⟩⟩⟩ <;> first | rfl | exact h.elim) fun cdv Ar outer s H E hr => ⟨_, _, (pss_one (ps_ret (pe_callB (show CallR _ _ (rAny K) from cr_any rfl) (by rfl) B.any (by decide +kernel) (pa_cons (pe_lc (own := [("rule", 3)]) (g := gName 3) (tt := tYes) rfl sc_Scheme_takes.nd (show PI _ _ _ (iList K _) from pi_list (show PE _ _ (tFld K _ _) from pe_fld (pv 0) rfl)) (blkOk_by (N := ["self", "make", "seen", "rule"]) (sc := defScope st_Scheme_takes) (by decide +kernel)) (fun _ _ _ _ _ => (pg_name (i := 3) sc_Scheme_takes.nd rfl (.inl rfl))) (fun _ _ _ _ _ => pts_nil) (fun _ _ _ _ _ => (pe_cx c_rule_takes hr (by decide) passN (by rfl) (pa_cons (pv 3) (pa_cons (pv 1) (pa_cons (pv 2) pa_nil)))))) pa_nil)))), by (exists "l"), ?_⟩
  clear hr
  rintro as Q X h
  rcases as with _ | ⟨a, _ | ⟨b, _ | ⟨c, _ | ⟨_, _⟩⟩⟩⟩ <;> try exact h.elim
  obtain ⟨rs, m, sn, hpl, rfl, h2, hl, hr, hb, q⟩ := h
  unfold tkM at q
  rcases hpl with rfl | rfl <;> rcases h2 with rfl | rfl
  all_goals (exists "e", planO)
  all_goals refine ⟨hS, nS, ?_⟩
  all_goals refine lc_map rs ruD (fun r => .bl (ruT r m sn)) (by first | trivial | rfl | simp [kT, dwipe]) hr (fun r hr T1 h1 => ?_) ?_
  all_goals (exists "e")
  all_goals first
    | (refine ⟨r, m, sn, rfl, rfl, ?_, hl, hb r hr, ?_⟩
       · first | exact .inl rfl | exact .inr rfl
       · (exists "e")
         first | exact h1 _ (by simp [okW, okSet, dwipe]) rfl | exact h1 _ (by simp [okW, okSet, dwipe]) (by simp [dwipe]))
    | skip
  all_goals simpa only [cn, planO, CO.frz] using q
def sp_Scheme___init__ (CS : Addr) : DSp := fun as Q X => match as with
  | [a, b] => ∃ (rs : List Ru), a = .o false (.ins CS []) ∧ b = .d (.lst (rs.map ruD)) ∧ rs.length ≤ 4 ∧ (∀ r ∈ rs, r.2.length ≤ 3) ∧ Q (.d .non) [.o false (planO CS rs), .no]
  | _ => False
theorem ok_Scheme___init__ {f : Addr} {fd : FuncData} (F : Fun K "__init__" "Scheme.__init__" st_Scheme___init__ f fd) (B : Bd mg) (hS : Cls K CS) (nS : NoAttr K CS "rules") (v1 : ConD K CS "MOST" (.int 4)) (v2 : ConD K CS "MOST_BOUNDS" (.int 3)) : FnOk P w K mg base (L2.CX P w) 4 f fd ["self", "rules"] (liftSp T K (sp_Scheme___init__ CS)) := by
  refine fnD F sc_Scheme___init__ (fun as Q X h => by rcases as with _ | ⟨_, _ | ⟨_, _ | ⟨_, _⟩⟩⟩ <;> first | rfl | exact h.elim) fun cdv Ar outer s H E hr => ⟨_, _, (pss_cons (ps_if (PW.pt (pw_or (pt_cmpR op_gt (pe_callB (show CallR _ _ (rLenSq K) from call_len_seq) (by rfl) B.len PySem.boot_len (pa_cons (pv 1) pa_nil)) (show PE _ _ (tCon K _ _) from pe_con (pv 0) rfl) (nomark _)) (pw_or1 (pt_val (pe_callB (show CallR _ _ (rAny K) from cr_any rfl) (by rfl) B.any (by decide +kernel) (pa_cons (pe_lc (own := [("_", 2), ("bounds", 3)]) (g := gTup K 2 (gCons (gName 2) (gCons (gName 3) gNil))) (tt := tYes) rfl sc_Scheme___init__.nd (show PI _ _ _ (iList K _) from pi_list (pv 1)) (blkOk_by (N := ["self", "rules", "_", "bounds"]) (sc := defScope st_Scheme___init__) (by decide +kernel)) (fun _ _ _ _ _ => (show PG _ _ (gTup K 2 _) from pg_tup rfl (pgs_cons (pg_name (i := 2) sc_Scheme___init__.nd rfl (.inl rfl)) (pgs_cons (pg_name (i := 3) sc_Scheme___init__.nd rfl (.inl rfl)) pgs_nil)))) (fun _ _ _ _ _ => pts_nil) (fun _ _ _ _ _ => (pe_cmpR op_gt (pe_callB (show CallR _ _ (rLenSq K) from call_len_seq) (by rfl) B.len PySem.boot_len (pa_cons (pv 3) pa_nil)) (show PE _ _ (tCon K _ _) from pe_con (pv 0) rfl) (nomark _)))) pa_nil))))))
 (pss_one ps_never) pss_nil)
 (pss_one (show PS _ _ (sFld K _ _ _) from ps_fld (pv 0) (pe_callTy (show CallR _ _ (rListOf K) from call_list_of) (by rfl) B.list (by decide +kernel) (pa_cons (pv 1) pa_nil)) rfl))), by (exists "l"), ?_⟩
  clear hr
  rintro as Q X h
  rcases as with _ | ⟨a, _ | ⟨b, _ | ⟨_, _⟩⟩⟩ <;> try exact h.elim
  obtain ⟨rs, rfl, rfl, h1, h2, q⟩ := h
  (exists "e")
  refine ⟨hS, .int 4, v1, rfl, ?_⟩
  (exists "e")
  rw [List.length_map, if_neg (by simp; omega)]
  refine lc_map rs ruD (fun r => .bl (decide (3 < ((r.2.map boD).length : Int)))) (by first | trivial | rfl | simp [kT, dwipe]) (by omega) (fun r hr T1 h1 => ?_) ?_
  · (exists "e", ruD)
    refine ⟨hS, .int 3, v2, rfl, ?_⟩
    (exists "e")
    first | exact h1 _ (by simp [okW, okSet, dwipe]) rfl | exact h1 _ (by simp [okW, okSet, dwipe]) (by simp [dwipe])
  · (exists "e")
    rw [if_neg (by
      rw [List.any_eq_true]
      rintro ⟨r, hr, h⟩
      have := h2 r hr
      simp at h
      omega)]
    exact ⟨hS, nS, by simp, q⟩
end
end DL
set_option Elab.async false
set_option linter.all false
set_option maxRecDepth 100000
set_option maxHeartbeats 400000
namespace DL
open PySem PySem.Spec PyProof.Rows L2 Mv
section
variable {P : Program} {w : World} {K : PySem.W.Frag} {mg : Str → Option Value} {base : Heap} {T : List (Addr × Str)} {CC CS CV cR cY cM fM fR fU : Addr} {PF : Addr → Option Pf}
def sp_consists_of : DSp := fun as Q X => match as with
  | [a, b] => ∃ (t u : Str), a = .d (.str t) ∧ b = .d (.str u) ∧ t.length ≤ 4000 ∧ Q (.d (.bl (t.cps.toList.all fun c => inStr ⟨#[c]⟩ u))) [.no, .no]
  | _ => False
theorem ok_consists_of {f : Addr} {fd : FuncData} (F : Fun K "consists_of" "consists_of" st_consists_of f fd) (B : Bd mg)  : FnOk P w K mg base (L2.CX P w) 1 f fd ["text", "signs"] (liftSp T K sp_consists_of) := by
  refine fnD F sc_consists_of (fun as Q X h => by rcases as with _ | ⟨_, _ | ⟨_, _ | ⟨_, _⟩⟩⟩ <;> first | rfl | exact h.elim) fun cdv Ar outer s H E hr => ⟨_, _, (pss_one (ps_ret (pe_callB (show CallR _ _ (rAll K) from cr_all rfl) (by rfl) B.all (by decide +kernel) (pa_cons (pe_lc (own := [("sign", 2)]) (g := gName 2) (tt := tYes) rfl sc_consists_of.nd (pi_str (pv 0)) (blkOk_by (N := ["text", "signs", "sign"]) (sc := defScope st_consists_of) (by decide +kernel)) (fun _ _ _ _ _ => (pg_name (i := 2) sc_consists_of.nd rfl (.inl rfl))) (fun _ _ _ _ _ => pts_nil) (fun _ _ _ _ _ => (pe_cmpR (show OpR _ _ rInStr from op_in_str) (pv 2) (pv 1) (by rfl)))) pa_nil)))), by (exists "l"), ?_⟩
  clear hr
  rintro as Q X h
  rcases as with _ | ⟨a, _ | ⟨b, _ | ⟨_, _⟩⟩⟩ <;> try exact h.elim
  obtain ⟨t, u, rfl, rfl, hl, q⟩ := h
  (exists "e")
  refine lc_map t.cps.toList (fun c => D.str ⟨#[c]⟩) (fun c => .bl (inStr ⟨#[c]⟩ u)) (by first | trivial | rfl | simp [kT, dwipe]) hl (fun c hc T1 h1 => ?_) ?_
  · (exists "e")
    first | exact h1 _ (by simp [okW, okSet, dwipe]) rfl | exact h1 _ (by simp [okW, okSet, dwipe]) (by simp [dwipe])
  · (exists "e")
    exact q
def sp_is_name : DSp := fun as Q X => match as with
  | [a] => ∃ t, a = .d (.str t) ∧ isNm t ∧ Q (.d (.bl true)) [.no]
  | _ => False
theorem ok_is_name {f : Addr} {fd : FuncData} (F : Fun K "is_name" "is_name" st_is_name f fd) (B : Bd mg) (c_consists_of : CalX (L2.CX P w) P w K mg base 1 "consists_of" (liftSp T K sp_consists_of)) {tL tN : Nat} (gL : mg "LETTERS" = some (.str "abcdefghijklmnopqrstuvwxyz" tL)) (gN : mg "LONGEST_NAME" = some (.int 8 tN)) : FnOk P w K mg base (L2.CX P w) 4 f fd ["text"] (liftSp T K sp_is_name) := by
  refine fnD F sc_is_name (fun as Q X h => by rcases as with _ | ⟨_, _ | ⟨_, _⟩⟩ <;> first | rfl | exact h.elim) fun cdv Ar outer s H E hr => ⟨_, _, (pss_one (ps_ret (pe_and (pe_callB (id := "isinstance") (show CallR _ _ (rIsi K) from call_isi) (by rfl) B.isinstance (by decide +kernel) (pa_cons (pv 0) (pa_cons (pe_bltn (by rfl) B.str (by decide +kernel) (v := .ty "str") rfl) pa_nil))) (pe_and (pe_chain op_le op_le pe_int (pe_callB call_len_str (by rfl) B.len PySem.boot_len (pa_cons (pv 0) pa_nil)) (pe_glob (v := .int 8) (by rfl) gN ⟨_, rfl⟩)) (pe_one (pe_cx c_consists_of hr (by decide) (passes_call (takes_of rfl rfl rfl rfl) (fun _ _ _ _ h => h)) (by rfl) (pa_cons (pv 0) (pa_cons (pe_glob (v := .str "abcdefghijklmnopqrstuvwxyz") (by rfl) gL ⟨_, rfl⟩) pa_nil)))))))), by (exists "l"), ?_⟩
  clear hr
  rintro as Q X h
  rcases as with _ | ⟨a, _ | ⟨_, _⟩⟩ <;> try exact h.elim
  obtain ⟨t, rfl, ⟨n1, n2, n3⟩, q⟩ := h
  (exists "e")
  refine xIsi_ty (a := "str") (r := true) rfl (by decide +kernel) ?_
  (exists "e")
  refine ⟨by rw [sizeLine_eq]; omega, ?_⟩
  rw [if_pos (by simp; omega), if_pos (by simp; omega)]
  refine ⟨_, _, rfl, rfl, by omega, ?_⟩
  (exists "e")
  rw [show (_ : Bool) = true from n3]
  exact q
def sp_has_worker : DSp := fun as Q X => match as with
  | [a, b] => ∃ (ws : List Wk) (n : Str), a = .o false (.lst (ws.map wD)) ∧ b = .d (.str n) ∧ ws.length ≤ 4000 ∧ Q (.d (.bl (decide (n ∈ ws.map (·.1))))) [a, .no]
  | _ => False
theorem ok_has_worker {f : Addr} {fd : FuncData} (F : Fun K "has_worker" "has_worker" st_has_worker f fd) (B : Bd mg)  : FnOk P w K mg base (L2.CX P w) 1 f fd ["workers", "name"] (liftSp T K sp_has_worker) := by
  refine fnD F sc_has_worker (fun as Q X h => by rcases as with _ | ⟨_, _ | ⟨_, _ | ⟨_, _⟩⟩⟩ <;> first | rfl | exact h.elim) fun cdv Ar outer s H E hr => ⟨_, _, (pss_one (ps_ret (pe_cmpR (show OpR _ _ (rIn K false) from op_in_seq) (pv 1) (pe_lc (own := [("known", 2), ("_", 3)]) (g := gTup K 2 (gCons (gName 2) (gCons (gName 3) gNil))) (tt := tYes) rfl sc_has_worker.nd (show PI _ _ _ (iList K _) from pi_list (pv 0)) (blkOk_by (N := ["workers", "name", "known", "_"]) (sc := defScope st_has_worker) (by decide +kernel)) (fun _ _ _ _ _ => (show PG _ _ (gTup K 2 _) from pg_tup rfl (pgs_cons (pg_name (i := 2) sc_has_worker.nd rfl (.inl rfl)) (pgs_cons (pg_name (i := 3) sc_has_worker.nd rfl (.inl rfl)) pgs_nil)))) (fun _ _ _ _ _ => pts_nil) (fun _ _ _ _ _ => (pv 2))) (by rfl)))), by (exists "l"), ?_⟩
  clear hr
  rintro as Q X h
  rcases as with _ | ⟨a, _ | ⟨b, _ | ⟨_, _⟩⟩⟩ <;> try exact h.elim
  obtain ⟨ws, n, rfl, rfl, hl, q⟩ := h
  (exists "e")
  refine lc_map ws wD (fun w => .str w.1) (by first | trivial | rfl | simp [kT, dwipe]) hl (fun w hw T1 h1 => ?_) ?_
  · (exists "e", wD)
    first | exact h1 _ (by simp [okW, okSet, dwipe]) rfl | exact h1 _ (by simp [okW, okSet, dwipe]) (by simp [dwipe])
  · rw [show (ws.map fun w : Wk => D.str w.1) = (ws.map (·.1)).map D.str by rw [List.map_map]; rfl]
    (exists "e")
    exact q
def sp_Crew___len__ (CC : Addr) : DSp := fun as Q X => match as with
  | [a] => ∃ (ws : List Wk), a = .o false (crewO CC ws) ∧ Q (.d (.int (ws.length : Nat))) [a]
  | _ => False
theorem ok_Crew___len__ {f : Addr} {fd : FuncData} (F : Fun K "__len__" "Crew.__len__" st_Crew___len__ f fd) (B : Bd mg) (hC : Cls K CC) (nC : NoAttr K CC "_workers") : FnOk P w K mg base (L2.CX P w) 2 f fd ["self"] (liftSp T K (sp_Crew___len__ CC)) := by
  refine fnD F sc_Crew___len__ (fun as Q X h => by rcases as with _ | ⟨_, _ | ⟨_, _⟩⟩ <;> first | rfl | exact h.elim) fun cdv Ar outer s H E hr => ⟨_, _, (pss_one (ps_ret (pe_callB (show CallR _ _ (rLenSq K) from call_len_seq) (by rfl) B.len PySem.boot_len (pa_cons (show PE _ _ (tFld K _ _) from pe_fld (pv 0) rfl) pa_nil)))), by (exists "l"), ?_⟩
  clear hr
  rintro as Q X h
  rcases as with _ | ⟨a, _ | ⟨_, _⟩⟩ <;> try exact h.elim
  obtain ⟨ws, rfl, q⟩ := h
  (exists "e", crewO)
  refine ⟨hC, nC, ?_⟩
  (exists "e")
  rw [List.length_map]
  exact q
def sp_Crew_make_of (CC : Addr) : DSp := fun as Q X => match as with
  | [a, b] => ∃ (ws : List Wk) (i : Int) (w : Wk), a = .o false (crewO CC ws) ∧ b = .d (.int i) ∧ atI ws i = some w ∧ Q (.d (mD w.2)) [a, .no]
  | _ => False
theorem ok_Crew_make_of {f : Addr} {fd : FuncData} (F : Fun K "make_of" "Crew.make_of" st_Crew_make_of f fd) (B : Bd mg) (hC : Cls K CC) (nC : NoAttr K CC "_workers") : FnOk P w K mg base (L2.CX P w) 1 f fd ["self", "worker"] (liftSp T K (sp_Crew_make_of CC)) := by
  refine fnD F sc_Crew_make_of (fun as Q X h => by rcases as with _ | ⟨_, _ | ⟨_, _ | ⟨_, _⟩⟩⟩ <;> first | rfl | exact h.elim) fun cdv Ar outer s H E hr => ⟨_, _, (pss_one (ps_ret (pe_ix (show IxR _ (rIxT K) from ix_tup) (pe_ix (show IxR _ (rIxL K) from ix_list) (show PE _ _ (tFld K _ _) from pe_fld (pv 0) rfl) (pv 1) (fun _ _ => rfl)) pe_int (fun _ _ => rfl)))), by (exists "l"), ?_⟩
  clear hr
  rintro as Q X h
  rcases as with _ | ⟨a, _ | ⟨b, _ | ⟨_, _⟩⟩⟩ <;> try exact h.elim
  obtain ⟨ws, i, w, rfl, rfl, hi, q⟩ := h
  (exists "e", crewO)
  refine ⟨hC, nC, ?_⟩
  (exists "e", atI_map, hi, Option.map_some)
  (exists "e", wD)
  exact q
def sp_Crew___init__ (CC : Addr) : DSp := fun as Q X => match as with
  | [a, b] => ∃ (ws : List Wk), a = .o false (.ins CC []) ∧ b = .d (.lst (ws.map wD)) ∧ 1 ≤ ws.length ∧ ws.length ≤ 6 ∧ (∀ w ∈ ws, isNm w.1 ∧ isNm w.2.s) ∧ (ws.map (·.1)).Nodup ∧ Q (.d .non) [.o false (crewO CC ws), .no]
  | _ => False
theorem ok_Crew___init__ {f : Addr} {fd : FuncData} (F : Fun K "__init__" "Crew.__init__" st_Crew___init__ f fd) (B : Bd mg) (c_has_worker : CalX (L2.CX P w) P w K mg base 1 "has_worker" (liftSp T K sp_has_worker)) (c_is_name : CalX (L2.CX P w) P w K mg base 4 "is_name" (liftSp T K sp_is_name)) (hC : Cls K CC) (nC : NoAttr K CC "_workers") (v3 : ConD K CC "MOST" (.int 6)) : FnOk P w K mg base (L2.CX P w) 5 f fd ["self", "workers"] (liftSp T K (sp_Crew___init__ CC)) := by
  refine fnD F sc_Crew___init__ (fun as Q X h => by rcases as with _ | ⟨_, _ | ⟨_, _ | ⟨_, _⟩⟩⟩ <;> first | rfl | exact h.elim) fun cdv Ar outer s H E hr => ⟨_, _, (pss_cons (ps_if (pt_not (pt_chain op_le op_le pe_int (pe_callB (show CallR _ _ (rLenSq K) from call_len_seq) (by rfl) B.len PySem.boot_len (pa_cons (pv 1) pa_nil)) (show PE _ _ (tCon K _ _) from pe_con (pv 0) rfl)))
 (pss_one ps_never) pss_nil)
 (pss_cons (ps_set (i := 2) sc_Crew___init__.nd rfl (.inl rfl) (pe_lst pa_nil))
 (pss_cons (ps_for (passes_of rfl) rfl (show PI _ _ _ (iList K _) from pi_list (pv 1)) (show PG _ _ (gTup K 2 _) from pg_tup rfl (pgs_cons (pg_name (i := 3) sc_Crew___init__.nd rfl (.inl rfl)) (pgs_cons (pg_name (i := 4) sc_Crew___init__.nd rfl (.inl rfl)) pgs_nil)))
 (pss_cons (ps_if (pt_not (pt_val (pe_cx c_is_name hr (by decide) (passes_call (takes_of rfl rfl rfl rfl) (fun _ _ _ _ h => h)) (by rfl) (pa_cons (pv 3) pa_nil))))
 (pss_one ps_never) pss_nil)
 (pss_cons (ps_if (pt_not (pt_val (pe_cx c_is_name hr (by decide) (passes_call (takes_of rfl rfl rfl rfl) (fun _ _ _ _ h => h)) (by rfl) (pa_cons (pv 4) pa_nil))))
 (pss_one ps_never) pss_nil)
 (pss_cons (ps_if (pt_val (pe_cx c_has_worker hr (by decide) (passes_call (takes_of rfl rfl rfl rfl) (fun _ _ _ _ h => h)) (by rfl) (pa_cons (pv 2) (pa_cons (pv 3) pa_nil))))
 (pss_one ps_never) pss_nil)
 (pss_one (ps_expr (show PE _ _ (tBM K _ _ _ _) from pe_bm PySem.F.plainAttrs_list PySem.F.slot_list_append PySem.F.type_list_append mt_append (pv 2) (pa_cons (pe_tup (pa_cons (pv 3) (pa_cons (pv 4) pa_nil))) pa_nil))))))))
 (pss_one (show PS _ _ (sFld K _ _ _) from ps_fld (pv 0) (pv 2) rfl))))), by (exists "l"), ?_⟩
  clear hr
  rintro as Q X h
  rcases as with _ | ⟨a, _ | ⟨b, _ | ⟨_, _⟩⟩⟩ <;> try exact h.elim
  obtain ⟨ws, rfl, rfl, h1, h2, h3, h4, q⟩ := h
  (exists "e")
  rw [if_pos (by rw [List.length_map]; simp; omega)]
  refine ⟨hC, .int 6, v3, rfl, ?_⟩
  (exists "e")
  rw [if_neg (by rw [List.length_map]; simp; omega)]
  (exists "e")
  refine for_typed ws wD (fun done rest s => ∃ x y : SV, fr x ∧ fr y ∧ s = [.o false (.ins CC []), .d (.lst (ws.map wD)), .o true (.lst (done.map wD)), x, y]) ⟨.no, .no, trivial, trivial, rfl⟩ (fun done wk rest s N e hJ hN => ⟨by first | trivial | rfl | simp [kT, dwipe], ?_⟩) fun s hJ => ⟨by first | trivial | rfl | simp [kT, dwipe], ?_⟩
  · obtain ⟨x, y, k1, k2, rfl⟩ := hJ
    have hw := h3 wk (by rw [e]; simp)
    (exists "e", wD, k1, k2)
    refine ⟨_, rfl, hw.1, ?_⟩
    (exists "e")
    refine ⟨_, rfl, hw.2, ?_⟩
    (exists "e")
    refine ⟨done, _, rfl, rfl, by have := congrArg List.length e; simp at this; omega, ?_⟩
    (exists "e")
    have hn : wk.1 ∉ done.map (·.1) := fun z => by
      rw [e, List.map_append, List.map_cons] at h4
      have h5 := (List.nodup_append.mp h4).2.2
      exact h5 _ z _ List.mem_cons_self rfl
    rw [decide_eq_false hn]
    (exists "e")
    refine ⟨by rw [List.length_map]; have := congrArg List.length e; simp at this; exact small4000 (by omega), hN _ ⟨.d (.str wk.1), .d (mD wk.2), trivial, trivial, ?_⟩⟩
    rw [List.map_append]
    rfl
  · obtain ⟨x, y, k1, k2, rfl⟩ := hJ
    (exists "e")
    exact ⟨hC, nC, by simp, q⟩
end
end DL
set_option Elab.async false
set_option linter.all false
set_option maxRecDepth 100000
set_option maxHeartbeats 400000
namespace DL
open PySem PySem.Spec PyProof.Rows L2 Mv
section
variable {P : Program} {w : World} {K : PySem.W.Frag} {mg : Str → Option Value} {base : Heap} {T : List (Addr × Str)} {CC CS CV cR cY cM fM fR fU : Addr} {PF : Addr → Option Pf}
def sp_refuse_yard (CC cY : Addr) : DSp := fun as Q X => match as with
  | [a, b] => ∃ (ws : List Wk) (yd : List Int), a = .o false (crewO CC ws) ∧ b = .d (iD yd) ∧ ws.length ≤ 6 ∧ yd.length ≤ 1000 ∧ (if okY ws.length yd = true then Q (.d .non) [a, .no] else X ⟨.ref cY, []⟩ [a, .no])
  | _ => False
theorem ok_refuse_yard {f : Addr} {fd : FuncData} (F : Fun K "refuse_yard" "refuse_yard" st_refuse_yard f fd) (B : Bd mg) (l_Crew___len__ : LenX P w K mg base 2 CC (liftSp T K (sp_Crew___len__ CC))) (eY : Ex0 K mg "BadYard" cY) : FnOk P w K mg base (L2.CX P w) 4 f fd ["crew", "yard"] (liftSp T K (sp_refuse_yard CC cY)) := by
  refine fnD F sc_refuse_yard (fun as Q X h => by rcases as with _ | ⟨_, _ | ⟨_, _ | ⟨_, _⟩⟩⟩ <;> first | rfl | exact h.elim) fun cdv Ar outer s H E hr => ⟨_, _, (pss_cons (ps_set (i := 2) sc_refuse_yard.nd rfl (.inl rfl) (pe_callB (show CallR _ _ (rAll K) from cr_all rfl) (by rfl) B.all (by decide +kernel) (pa_cons (pe_lc (own := [("one", 3), ("other", 4)]) (g := gTup K 2 (gCons (gName 3) (gCons (gName 4) gNil))) (tt := tYes) rfl sc_refuse_yard.nd (show PI _ _ _ (RZ.iZipA K _) from RZ.pi_zipA (by rfl) B.zip (pa_cons (pv 1) (pa_cons (pe_slice (show SlR _ (rSlA K) from sl_tupA) (pv 1) (po_some pe_int) po_none) pa_nil))) (blkOk_by (N := ["crew", "yard", "ascending", "one", "other"]) (sc := defScope st_refuse_yard) (by decide +kernel)) (fun _ _ _ _ _ => (show PG _ _ (gTup K 2 _) from pg_tup rfl (pgs_cons (pg_name (i := 3) sc_refuse_yard.nd rfl (.inl rfl)) (pgs_cons (pg_name (i := 4) sc_refuse_yard.nd rfl (.inl rfl)) pgs_nil)))) (fun _ _ _ _ _ => pts_nil) (fun _ _ _ _ _ => (pe_cmpR op_lt (pv 3) (pv 4) (nomark _)))) pa_nil)))
 (pss_one (ps_if (PW.pt (pw_or (pt_cmpR op_eq (pe_callB (show CallR _ _ (rLenSq K) from call_len_seq) (by rfl) B.len PySem.boot_len (pa_cons (pv 1) pa_nil)) pe_int (nomark _)) (pw_or (pt_not (pt_val (pv 2))) (pw_or (pt_cmpR op_lt (pe_ix (show IxR _ (rIxT K) from ix_tup) (pv 1) pe_int (fun _ _ => rfl)) pe_int (nomark _)) (pw_or1 (pt_cmpR op_ge (pe_ix (show IxR _ (rIxT K) from ix_tup) (pv 1) (pe_un un_neg pe_int) (fun _ _ => rfl)) (pe_callB (cr_lenX l_Crew___len__ hr (by decide)) (by rfl) B.len PySem.boot_len (pa_cons (pv 0) pa_nil)) (nomark _)))))))
 (pss_one (ps_raise0 rfl (takes_of rfl rfl rfl rfl) PySem.F.excBase_ValueError eY.q eY.g eY.k eY.r (by rfl))) pss_nil))), by (exists "l"), ?_⟩
  clear hr
  rintro as Q X h
  rcases as with _ | ⟨a, _ | ⟨b, _ | ⟨_, _⟩⟩⟩ <;> try exact h.elim
  obtain ⟨ws, yd, rfl, rfl, hw, hl, q⟩ := h
  (exists "e", iD)
  rw [cutD_drop1, ← List.map_drop, zipL_map]
  refine lc_map (yd.zip (yd.drop 1)) (fun p : Int × Int => .tup [.int p.1, .int p.2]) (fun p : Int × Int => .bl (decide (p.1 < p.2))) (by first | trivial | rfl | simp [kT, dwipe]) (by simp; omega) (fun p hp T1 h1 => ?_) ?_
  · (exists "e")
    first | exact h1 _ (by simp [okW, okSet, dwipe]) rfl | exact h1 _ (by simp [okW, okSet, dwipe]) (by simp [dwipe])
  (exists "e")
  have eq : ((yd.zip (yd.drop 1)).all fun p => decide (p.1 < p.2)) = asc yd := rfl
  rw [eq]
  cases yd with
  | nil => exact q
  | cons y l =>
    (exists "e")
    rw [if_neg (by simp; omega)]
    have hY : okY ws.length (y :: l) = (asc (y :: l) && decide (0 ≤ y) && decide ((y :: l).getLastD 0 < ws.length)) := by simp [okY]
    rw [hY] at q
    cases ha : asc (y :: l) with
    | false =>
      rw [ha] at q
      exact q
    | true =>
      rw [ha, Bool.true_and] at q
      by_cases hy : y < 0
      · rw [decide_eq_false (by omega : ¬ 0 ≤ y)] at q
        rw [decide_eq_true hy]
        exact q
      · rw [decide_eq_true (by omega : 0 ≤ y), Bool.true_and] at q
        rw [decide_eq_false hy]
        simp only [Bool.not_true, Bool.false_eq_true, if_false]
        have hg : (y :: l).getLast? = some ((y :: l).getLastD 0) := by simp [List.getLast?_cons, List.getLastD_cons]
        rw [show (D.int y :: List.map D.int l) = List.map D.int (y :: l) from rfl, atI_map, atI_m1, hg, Option.map_some]
        (exists "e", crewO)
        refine ⟨ws, rfl, ?_⟩
        (exists "e")
        refine ⟨ws.length, rfl, by omega, ?_⟩
        by_cases hl2 : (y :: l).getLastD 0 < ws.length
        · rw [decide_eq_true hl2] at q
          rw [decide_eq_false (by omega)]
          exact q
        · rw [decide_eq_false hl2] at q
          rw [decide_eq_true (by omega)]
          exact q
def sp_refuse_ranking (CC cR : Addr) : DSp := fun as Q X => match as with
  | [a, b] => ∃ (ws : List Wk) (rk : List Int), a = .o false (crewO CC ws) ∧ sq b (rk.map D.int) ∧ ws.length ≤ 6 ∧ rk.length ≤ 1000 ∧ (if okR ws.length rk = true then Q (.d .non) [a, cn b] else X ⟨.ref cR, []⟩ [a, cn b])
  | _ => False
theorem ok_refuse_ranking {f : Addr} {fd : FuncData} (F : Fun K "refuse_ranking" "refuse_ranking" st_refuse_ranking f fd) (B : Bd mg) (l_Crew___len__ : LenX P w K mg base 2 CC (liftSp T K (sp_Crew___len__ CC))) (eR : Ex0 K mg "BadRanking" cR) : FnOk P w K mg base (L2.CX P w) 4 f fd ["crew", "ranking"] (liftSp T K (sp_refuse_ranking CC cR)) := by
  refine fnD F sc_refuse_ranking (fun as Q X h => by rcases as with _ | ⟨_, _ | ⟨_, _ | ⟨_, _⟩⟩⟩ <;> first | rfl | exact h.elim) fun cdv Ar outer s H E hr => ⟨_, _, (pss_one (ps_if (PW.pt (pw_or (pt_cmpR op_ne (pe_callB (show CallR _ _ (rLenSq K) from call_len_seq) (by rfl) B.len PySem.boot_len (pa_cons (pv 1) pa_nil)) (pe_callB (cr_lenX l_Crew___len__ hr (by decide)) (by rfl) B.len PySem.boot_len (pa_cons (pv 0) pa_nil)) (nomark _)) (pw_or1 (pt_not (pt_val (pe_callB (show CallR _ _ (rAll K) from cr_all rfl) (by rfl) B.all (by decide +kernel) (pa_cons (pe_lc (own := [("worker", 2)]) (g := gName 2) (tt := tYes) rfl sc_refuse_ranking.nd (pi_range1 (by rfl) B.range (pa_cons (pe_callB (cr_lenX l_Crew___len__ hr (by decide)) (by rfl) B.len PySem.boot_len (pa_cons (pv 0) pa_nil)) pa_nil)) (blkOk_by (N := ["crew", "ranking", "worker"]) (sc := defScope st_refuse_ranking) (by decide +kernel)) (fun _ _ _ _ _ => (pg_name (i := 2) sc_refuse_ranking.nd rfl (.inl rfl))) (fun _ _ _ _ _ => pts_nil) (fun _ _ _ _ _ => (pe_cmpR (show OpR _ _ (rIn K false) from op_in_seq) (pv 2) (pv 1) (by rfl)))) pa_nil)))))))
 (pss_one (ps_raise0 rfl (takes_of rfl rfl rfl rfl) PySem.F.excBase_ValueError eR.q eR.g eR.k eR.r (by rfl))) pss_nil)), by (exists "l"), ?_⟩
  clear hr
  rintro as Q X h
  rcases as with _ | ⟨a, _ | ⟨b, _ | ⟨_, _⟩⟩⟩ <;> try exact h.elim
  obtain ⟨ws, rk, rfl, h2, hw, hl, q⟩ := h
  rcases h2 with rfl | rfl
  all_goals (exists "e", crewO)
  all_goals refine ⟨ws, rfl, ?_⟩
  all_goals (exists "e")
  all_goals refine ⟨ws.length, rfl, by omega, ?_⟩
  all_goals
    by_cases e : rk.length = ws.length
    rotate_left
    · rw [if_pos (by rw [List.length_map]; simp; omega)]
      rw [if_neg (by unfold okR; simp [e])] at q
      exact q
    rw [if_neg (by simp [e])]
    (exists "e")
    refine ⟨ws, rfl, ?_⟩
    (exists "e")
    refine ⟨ws.length, rfl, by omega, by omega, by omega, ?_⟩
    rw [rngL_eq]
    (exists "e")
    refine lc_map (List.range ws.length) (fun k : Nat => D.int (0 + (k : Int))) (fun k : Nat => .bl (decide ((0 + (k : Int)) ∈ rk))) (by first | trivial | rfl | simp [kT, dwipe]) (by simp; omega) (fun k hk T1 h1 => ?_) ?_
    · (exists "e")
      first | exact h1 _ (by simp [okW, okSet, dwipe]) rfl | exact h1 _ (by simp [okW, okSet, dwipe]) (by simp [dwipe])
    · (exists "e")
      have e2 : okR ws.length rk = ((List.range ws.length).all fun k : Nat => decide ((0 + (k : Int)) ∈ rk)) := by
        unfold okR
        simp [e]
      rw [e2] at q
      cases hh : ((List.range ws.length).all fun k : Nat => decide ((0 + (k : Int)) ∈ rk)) <;>
        (rw [hh] at q
         simp only [if_true, if_false, Bool.not_true, Bool.not_false, Bool.false_eq_true] at q ⊢
         exact q)
def sp_present : DSp := fun as Q X => match as with
  | [a, b] => ∃ (rk yd : List Int), sq a (rk.map D.int) ∧ b = .d (iD yd) ∧ rk.length ≤ 1000 ∧ Q (.o (.lst ((lineup rk yd).map D.int))) [cn a, .no]
  | _ => False
theorem ok_present {f : Addr} {fd : FuncData} (F : Fun K "present" "present" st_present f fd) (B : Bd mg)  : FnOk P w K mg base (L2.CX P w) 1 f fd ["ranking", "yard"] (liftSp T K sp_present) := by
  refine fnD F sc_present (fun as Q X h => by rcases as with _ | ⟨_, _ | ⟨_, _ | ⟨_, _⟩⟩⟩ <;> first | rfl | exact h.elim) fun cdv Ar outer s H E hr => ⟨_, _, (pss_one (ps_ret (pe_lc (own := [("worker", 2)]) (g := gName 2) rfl sc_present.nd (show PI _ _ _ (iList K _) from pi_list (pv 0)) (blkOk_by (N := ["ranking", "yard", "worker"]) (sc := defScope st_present) (by decide +kernel)) (fun _ _ _ _ _ => (pg_name (i := 2) sc_present.nd rfl (.inl rfl))) (fun _ _ _ _ _ => (pts_one (pt_cmpR (show OpR _ _ (rIn K false) from op_in_seq) (pv 2) (pv 1) (by rfl)))) (fun _ _ _ _ _ => (pv 2))))), by (exists "l"), ?_⟩
  clear hr
  rintro as Q X h
  rcases as with _ | ⟨a, _ | ⟨b, _ | ⟨_, _⟩⟩⟩ <;> try exact h.elim
  obtain ⟨rk, yd, h2, rfl, hl, q⟩ := h
  rcases h2 with rfl | rfl
  all_goals (exists "e", iD)
  all_goals refine lc_pure rk D.int (fun i => decide (i ∈ yd)) D.int (by first | trivial | rfl | simp [kT, dwipe]) (by omega) (fun i hi T1 T0 h1 h0 => ?_) ?_
  all_goals (exists "e")
  all_goals first | ((split <;> first | (rename_i c; exact h1 c _ (by simp [okW, okSet, dwipe]) (by first | rfl | simp [dwipe])) | (rename_i c; exact h0 (by simpa using c) _ (by simp [okW, okSet, dwipe]) (by first | rfl | simp [dwipe])))) | skip
  all_goals exact q
end
end DL
set_option Elab.async false
set_option linter.all false
set_option maxRecDepth 100000
set_option maxHeartbeats 400000
namespace DL
open PySem PySem.Spec PyProof.Rows L2 Mv
section
variable {P : Program} {w : World} {K : PySem.W.Frag} {mg : Str → Option Value} {base : Heap} {T : List (Addr × Str)} {CC CS CV cR cY cM fM fR fU : Addr} {PF : Addr → Option Pf}
def sp_walk (CC CS cR cY : Addr) : DSp := fun as Q X => match as with
  | [a, b, c, d] => ∃ (ws : List Wk) (rs : List Ru) (rk yd : List Int), a = .o false (crewO CC ws) ∧ b = .o false (planO CS rs) ∧ sq c (rk.map D.int) ∧ d = .d (iD yd) ∧ ws.length ≤ 6 ∧ rulesOk rs ∧ rk.length ≤ 1000 ∧ yd.length ≤ 1000 ∧
    (if okR ws.length rk = true then (if okY ws.length yd = true then Q (.o (.lst ((walkM (mkOf ws) rs (lineup rk yd) []).map stD))) [a, b, cn c, .no] else X ⟨.ref cY, []⟩ [a, b, cn c, .no]) else X ⟨.ref cR, []⟩ [a, b, cn c, .no])
  | _ => False
theorem ok_walk {f : Addr} {fd : FuncData} (F : Fun K "walk" "walk" st_walk f fd) (B : Bd mg) (c_refuse_ranking : CalX (L2.CX P w) P w K mg base 4 "refuse_ranking" (liftSp T K (sp_refuse_ranking CC cR))) (c_refuse_yard : CalX (L2.CX P w) P w K mg base 4 "refuse_yard" (liftSp T K (sp_refuse_yard CC cY))) (c_present : CalX (L2.CX P w) P w K mg base 1 "present" (liftSp T K sp_present)) (m_Crew_make_of : MetX (L2.CX P w) P w K mg base 1 CC "make_of" (liftSp T K (sp_Crew_make_of CC))) (m_Scheme_takes : MetX (L2.CX P w) P w K mg base 6 CS "takes" (liftSp T K (sp_Scheme_takes CS))) : FnOk P w K mg base (L2.CX P w) 7 f fd ["crew", "scheme", "ranking", "yard"] (liftSp T K (sp_walk CC CS cR cY)) := by
  refine fnD F sc_walk (fun as Q X h => by rcases as with _ | ⟨_, _ | ⟨_, _ | ⟨_, _ | ⟨_, _ | ⟨_, _⟩⟩⟩⟩⟩ <;> first | rfl | exact h.elim) fun cdv Ar outer s H E hr => ⟨_, _, (pss_cons (ps_expr (pe_cx c_refuse_ranking hr (by decide) (passes_call (takes_of rfl rfl rfl rfl) (fun _ _ _ _ h => h)) (by rfl) (pa_cons (pv 0) (pa_cons (pv 2) pa_nil))))
 (pss_cons (ps_expr (pe_cx c_refuse_yard hr (by decide) (passes_call (takes_of rfl rfl rfl rfl) (fun _ _ _ _ h => h)) (by rfl) (pa_cons (pv 0) (pa_cons (pv 3) pa_nil))))
 (pss_cons (ps_set (i := 4) sc_walk.nd rfl (.inl rfl) (pe_lst pa_nil))
 (pss_cons (ps_set (i := 5) sc_walk.nd rfl (.inl rfl) (pe_lst pa_nil))
 (pss_cons (ps_for (passes_of rfl) rfl (show PI _ _ _ (iList K _) from pi_list (pe_cx c_present hr (by decide) (passes_call (takes_of rfl rfl rfl rfl) (fun _ _ _ _ h => h)) (by rfl) (pa_cons (pv 2) (pa_cons (pv 3) pa_nil)))) (pg_name (i := 6) sc_walk.nd rfl (.inl rfl))
 (pss_cons (ps_set (i := 7) sc_walk.nd rfl (.inl rfl) (pe_mx m_Crew_make_of hr (by decide) (passes_call (takes_of rfl rfl rfl rfl) (fun _ _ _ _ h => h)) (pv 0) (pa_cons (pv 6) pa_nil)))
 (pss_cons (ps_expr (show PE _ _ (tBM K _ _ _ _) from pe_bm PySem.F.plainAttrs_list PySem.F.slot_list_append PySem.F.type_list_append mt_append (pv 4) (pa_cons (pe_tup (pa_cons (pv 6) (pa_cons (pe_mx m_Scheme_takes hr (by decide) (passes_call (takes_of rfl rfl rfl rfl) (fun _ _ _ _ h => h)) (pv 1) (pa_cons (pv 7) (pa_cons (pv 5) pa_nil))) pa_nil))) pa_nil)))
 (pss_one (ps_expr (show PE _ _ (tBM K _ _ _ _) from pe_bm PySem.F.plainAttrs_list PySem.F.slot_list_append PySem.F.type_list_append mt_append (pv 5) (pa_cons (pv 7) pa_nil)))))))
 (pss_one (ps_ret (pv 4)))))))), by (exists "l"), ?_⟩
  clear hr
  rintro as Q X h
  rcases as with _ | ⟨a, _ | ⟨b, _ | ⟨c, _ | ⟨d, _ | ⟨_, _⟩⟩⟩⟩⟩ <;> try exact h.elim
  obtain ⟨ws, rs, rk, yd, rfl, rfl, h2, rfl, hw, hr, hl, hy, q⟩ := h
  rcases h2 with rfl | rfl
  all_goals (exists "e")
  all_goals
    refine ⟨ws, rk, rfl, by first | exact .inl rfl | exact .inr rfl, hw, hl, ?_⟩
    by_cases h1 : okR ws.length rk = true
    rotate_left
    · rw [if_neg h1] at q ⊢
      exact q
    rw [if_pos h1] at q ⊢
    (exists "e")
    refine ⟨ws, yd, rfl, rfl, hw, hy, ?_⟩
    by_cases h2 : okY ws.length yd = true
    rotate_left
    · rw [if_neg h2] at q ⊢
      exact q
    rw [if_pos h2] at q ⊢
    (exists "e")
    refine ⟨rk, yd, by first | exact .inl rfl | exact .inr rfl, rfl, hl, ?_⟩
    (exists "e")
    have hlu : (lineup rk yd).length ≤ 1000 := Nat.le_trans (List.length_filter_le _ _) hl
    refine for_typed (lineup rk yd) D.int (fun done rest s => ∃ x y c : SV, fr x ∧ fr y ∧ cn c = _ ∧ s = [.o false (crewO CC ws), .o false (planO CS rs), c, .d (iD yd), .o true (.lst ((walkM (mkOf ws) rs done []).map stD)), .o true (.lst ((done.map (mkOf ws)).map mD)), x, y])
      ⟨.no, .no, _, trivial, trivial, rfl, rfl⟩ (fun done i rest s N e hJ hN => ⟨by first | trivial | rfl | simp [kT, dwipe], ?_⟩) fun s hJ => ⟨by first | trivial | rfl | simp [kT, dwipe], ?_⟩
    · obtain ⟨x, y, c, k1, k2, k3, rfl⟩ := hJ
      have hm : i ∈ lineup rk yd := by rw [e]; simp
      have hi := okY_mem h2 i (by simpa using (List.mem_filter.mp hm).2)
      have hle := congrArg List.length e
      rw [List.length_append, List.length_cons] at hle
      obtain ⟨wk, hwk⟩ : ∃ wk, atI ws i = some wk := by
        rw [← Int.toNat_of_nonneg hi.1, atI_nat]
        exact ⟨ws[i.toNat], List.getElem?_eq_getElem (by omega)⟩
      have hmk : mkOf ws i = wk.2 := by unfold mkOf; rw [hwk]
      (exists "e", k1, k2, crewO)
      refine ⟨rfl, ws, i, wk, rfl, rfl, hwk, ?_⟩
      (exists "e", k1, k2, crewO, planO)
      refine ⟨rfl, rs, wk.2, done.map (mkOf ws), .inl rfl, rfl, .inr rfl, by rw [List.length_map]; omega, hr.1, hr.2, ?_⟩
      (exists "e")
      rw [List.length_map, walk_len, List.length_map, List.length_map]
      refine ⟨small4000 (by omega), small4000 (by omega), hN _ ⟨.d (.int i), .d (mD wk.2), c, trivial, trivial, k3, ?_⟩⟩
      rw [walk_app, List.map_append, List.map_append, List.map_append, ← hmk]
      rfl
    · obtain ⟨x, y, c, k1, k2, k3, rfl⟩ := hJ
      (exists "e", k3)
      exact q
end
end DL
set_option Elab.async false
set_option linter.all false
set_option maxRecDepth 100000
set_option maxHeartbeats 400000
namespace DL
open PySem PySem.Spec PyProof.Rows L2 Mv
section
variable {P : Program} {w : World} {K : PySem.W.Frag} {mg : Str → Option Value} {base : Heap} {T : List (Addr × Str)} {CC CS CV cR cY cM fM fR fU : Addr} {PF : Addr → Option Pf}
def sp_holder (CC CS cR cY : Addr) : DSp := fun as Q X => match as with
  | [a, b, c, d] => ∃ (ws : List Wk) (rs : List Ru) (rk yd : List Int), a = .o false (crewO CC ws) ∧ b = .o false (planO CS rs) ∧ sq c (rk.map D.int) ∧ d = .d (iD yd) ∧ ws.length ≤ 6 ∧ rulesOk rs ∧ rk.length ≤ 1000 ∧ yd.length ≤ 1000 ∧
    (if okR ws.length rk = true then (if okY ws.length yd = true then Q (.d (.int (holdM ws rs rk yd))) [a, b, cn c, .no] else X ⟨.ref cY, []⟩ [a, b, cn c, .no]) else X ⟨.ref cR, []⟩ [a, b, cn c, .no])
  | _ => False
theorem ok_holder {f : Addr} {fd : FuncData} (F : Fun K "holder" "holder" st_holder f fd) (B : Bd mg) (c_walk : CalX (L2.CX P w) P w K mg base 7 "walk" (liftSp T K (sp_walk CC CS cR cY))) : FnOk P w K mg base (L2.CX P w) 8 f fd ["crew", "scheme", "ranking", "yard"] (liftSp T K (sp_holder CC CS cR cY)) := by
  refine fnD F sc_holder (fun as Q X h => by rcases as with _ | ⟨_, _ | ⟨_, _ | ⟨_, _ | ⟨_, _ | ⟨_, _⟩⟩⟩⟩⟩ <;> first | rfl | exact h.elim) fun cdv Ar outer s H E hr => ⟨_, _, (pss_cons (ps_set (i := 4) sc_holder.nd rfl (.inl rfl) (pe_cx c_walk hr (by decide) (passes_call (takes_of rfl rfl rfl rfl) (fun _ _ _ _ h => h)) (by rfl) (pa_cons (pv 0) (pa_cons (pv 1) (pa_cons (pv 2) (pa_cons (pv 3) pa_nil))))))
 (pss_cons (ps_for (passes_of rfl) rfl (show PI _ _ _ (iList K _) from pi_list (pv 4)) (show PG _ _ (gTup K 2 _) from pg_tup rfl (pgs_cons (pg_name (i := 5) sc_holder.nd rfl (.inl rfl)) (pgs_cons (pg_name (i := 6) sc_holder.nd rfl (.inl rfl)) pgs_nil)))
 (pss_one (ps_if (pt_val (pv 6))
 (pss_one (ps_ret (pv 5))) pss_nil)))
 (pss_one (ps_ret (pe_ix (show IxR _ (rIxT K) from ix_tup) (pe_ix (show IxR _ (rIxL K) from ix_list) (pv 4) pe_int (fun _ _ => rfl)) pe_int (fun _ _ => rfl)))))), by (exists "l"), ?_⟩
  clear hr
  rintro as Q X h
  rcases as with _ | ⟨a, _ | ⟨b, _ | ⟨c, _ | ⟨d, _ | ⟨_, _⟩⟩⟩⟩⟩ <;> try exact h.elim
  obtain ⟨ws, rs, rk, yd, rfl, rfl, h2, rfl, hw, hr, hl, hy, q⟩ := h
  rcases h2 with rfl | rfl
  all_goals (exists "e")
  all_goals
    refine ⟨ws, rs, rk, yd, rfl, rfl, by first | exact .inl rfl | exact .inr rfl, rfl, hw, hr, hl, hy, ?_⟩
    by_cases h1 : okR ws.length rk = true
    rotate_left
    · rw [if_neg h1] at q ⊢
      exact q
    rw [if_pos h1] at q ⊢
    by_cases h2 : okY ws.length yd = true
    rotate_left
    · rw [if_neg h2] at q ⊢
      exact q
    rw [if_pos h2] at q ⊢
    have hne := lineup_ne h1 h2
    unfold holdM at q
    (exists "e")
    generalize hst : walkM (mkOf ws) rs (lineup rk yd) [] = st at q ⊢
    have hst2 : st ≠ [] := fun z => hne (by
      have := walk_len (mkOf ws) rs (lineup rk yd) []
      rw [hst, z] at this
      exact List.length_eq_zero_iff.mp this.symm)
    refine for_typed st stD (fun done rest s => (∀ p ∈ done, p.2 = false) ∧ ∃ x y c : SV, fr x ∧ fr y ∧ cn c = _ ∧ s = [.o false (crewO CC ws), .o false (planO CS rs), c, .d (iD yd), .d (.lst (st.map stD)), x, y])
      ⟨fun p hp => by (cases hp), .no, .no, _, trivial, trivial, rfl, rfl⟩ (fun done p rest s N e hJ hN => ⟨by first | trivial | rfl | simp [kT, dwipe], ?_⟩) fun s hJ => ⟨by first | trivial | rfl | simp [kT, dwipe], ?_⟩
    · obtain ⟨hd, x, y, c, k1, k2, k3, rfl⟩ := hJ
      (exists "e", k1, k2, k3, stD)
      cases hp : p.2 with
      | true =>
        rw [e, first_at hd hp] at q
        exact q
      | false =>
        refine hN _ ⟨fun p' hp' => ?_, .d (.int p.1), .d (.bl p.2), c, trivial, trivial, k3, by rw [hp]⟩
        rcases List.mem_append.mp hp' with z | z
        · exact hd p' z
        · rw [List.mem_singleton.mp z]
          exact hp
    · obtain ⟨hd, x, y, c, k1, k2, k3, rfl⟩ := hJ
      cases st with
      | nil => exact absurd rfl hst2
      | cons p r =>
        (exists "e", k1, k2, k3, stD)
        rw [first_none rfl hd] at q
        exact q
end
end DL
set_option Elab.async false
set_option linter.all false
set_option maxRecDepth 100000
set_option maxHeartbeats 400000
namespace DL
open PySem PySem.Spec PyProof.Rows L2 Mv
section
variable {P : Program} {w : World} {K : PySem.W.Frag} {mg : Str → Option Value} {base : Heap} {T : List (Addr × Str)} {CC CS CV cR cY cM fM fR fU : Addr} {PF : Addr → Option Pf}
def sp_holders (CC CS cR cY : Addr) : DSp := fun as Q X => match as with
  | [a, b, c, d] => ∃ (ws : List Wk) (rs : List Ru) (rk : List Int) (ys : List (List Int)), a = .o false (crewO CC ws) ∧ b = .o false (planO CS rs) ∧ sq c (rk.map D.int) ∧ sq d (ys.map iD) ∧ ws.length ≤ 6 ∧ rulesOk rs ∧ rk.length ≤ 1000 ∧ ys.length ≤ 1000 ∧ (∀ yd ∈ ys, yd.length ≤ 1000) ∧
    (if okR ws.length rk = true then (if (ys.all fun yd => okY ws.length yd) = true then Q (.o (.lst (ys.map fun yd => .int (holdM ws rs rk yd)))) [a, b, cn c, cn d] else X ⟨.ref cY, []⟩ [a, b, cn c, cn d]) else X ⟨.ref cR, []⟩ [a, b, cn c, cn d])
  | _ => False
theorem ok_holders {f : Addr} {fd : FuncData} (F : Fun K "holders" "holders" st_holders f fd) (B : Bd mg) (c_refuse_ranking : CalX (L2.CX P w) P w K mg base 4 "refuse_ranking" (liftSp T K (sp_refuse_ranking CC cR))) (c_holder : CalX (L2.CX P w) P w K mg base 8 "holder" (liftSp T K (sp_holder CC CS cR cY))) : FnOk P w K mg base (L2.CX P w) 9 f fd ["crew", "scheme", "ranking", "yards"] (liftSp T K (sp_holders CC CS cR cY)) := by
  refine fnD F sc_holders (fun as Q X h => by rcases as with _ | ⟨_, _ | ⟨_, _ | ⟨_, _ | ⟨_, _ | ⟨_, _⟩⟩⟩⟩⟩ <;> first | rfl | exact h.elim) fun cdv Ar outer s H E hr => ⟨_, _, (pss_cons (ps_expr (pe_cx c_refuse_ranking hr (by decide) (passes_call (takes_of rfl rfl rfl rfl) (fun _ _ _ _ h => h)) (by rfl) (pa_cons (pv 0) (pa_cons (pv 2) pa_nil))))
 (pss_one (ps_ret (pe_lcE rfl rfl (takes_of rfl rfl rfl rfl) (own := [("yard", 4)]) (g := gName 4) (tt := tYes) rfl sc_holders.nd (show PI _ _ _ (iList K _) from pi_list (pv 3)) (blkOk_by (N := ["crew", "scheme", "ranking", "yards", "yard"]) (sc := defScope st_holders) (by decide +kernel)) (fun _ _ _ _ _ _ => (pg_name (i := 4) sc_holders.nd rfl (.inl rfl))) (fun _ _ _ _ _ _ => pts_nil) (fun _ _ _ _ _ _ hp => (pe_cx c_holder hr (by decide) (fun pins σ H s e s' I c => hp σ pins H s e s' I c) (by rfl) (pa_cons (pv 0) (pa_cons (pv 1) (pa_cons (pv 2) (pa_cons (pv 4) pa_nil)))))))))), by (exists "l"), ?_⟩
  clear hr
  rintro as Q X h
  rcases as with _ | ⟨a, _ | ⟨b, _ | ⟨c, _ | ⟨d, _ | ⟨_, _⟩⟩⟩⟩⟩ <;> try exact h.elim
  obtain ⟨ws, rs, rk, ys, rfl, rfl, h2, h3, hw, hr, hl, hy, hy2, q⟩ := h
  rcases h2 with rfl | rfl <;> rcases h3 with rfl | rfl
  all_goals
    (exists "e")
    refine ⟨ws, rk, rfl, by first | exact .inl rfl | exact .inr rfl, hw, hl, ?_⟩
    by_cases h1 : okR ws.length rk = true
    rotate_left
    · rw [if_neg h1] at q ⊢
      exact q
    rw [if_pos h1] at q ⊢
    (exists "e")
    refine lcE_map ⟨.ref cY, []⟩ ys iD (fun yd => okY ws.length yd) (fun yd => .int (holdM ws rs rk yd)) (by first | trivial | rfl | simp [kT, dwipe]) (by omega) (fun yd hyd T1 TE t1 t0 => ?_) (fun hh => ?_) (fun hh => ?_)
    · (exists "e")
      refine ⟨ws, rs, rk, yd, rfl, rfl, by first | exact .inl rfl | exact .inr rfl, rfl, hw, hr, hl, hy2 yd hyd, ?_⟩
      rw [if_pos h1]
      by_cases h2 : okY ws.length yd = true
      · rw [if_pos h2]
        (exists "e")
        exact t1 h2 _ (by simp [okW, okSet, dwipe]) (by first | rfl | simp [dwipe])
      · rw [if_neg h2]
        (exists "e")
        exact t0 (by simpa using h2) _ (by simp [okW, okSet, dwipe]) (by first | rfl | simp [dwipe])
    · rw [if_pos hh] at q
      (exists "e")
      exact q
    · rw [if_neg (by rw [hh]; simp)] at q
      exact q
end
end DL
set_option Elab.async false
set_option linter.all false
set_option maxRecDepth 100000
set_option maxHeartbeats 400000
namespace DL
open PySem PySem.Spec PyProof.Rows L2 Mv
section
variable {P : Program} {w : World} {K : PySem.W.Frag} {mg : Str → Option Value} {base : Heap} {T : List (Addr × Str)} {CC CS CV cR cY cM fM fR fU : Addr} {PF : Addr → Option Pf}
def sp__law_draw : DSp := fun as Q X => match as with
  | [a, b] => ∃ (ns : List Int) (m : Int), a = stS ns ∧ b = .d (.int m) ∧ 0 < m ∧ ∀ (v : Int) (ns' : List Int), 0 ≤ v → v < m → Q (.d (.int v)) [stS ns', .no]
  | _ => False
theorem ok__law_draw {f : Addr} {fd : FuncData} (F : Fun K "_law_draw" "_law_draw" st__law_draw f fd) (B : Bd mg)  : FnOk P w K mg base (L2.CX P w) 4 f fd ["_law_stream_here", "_law_many"] (liftSp T K sp__law_draw) := by
  refine fnD F sc__law_draw (fun as Q X h => by rcases as with _ | ⟨_, _ | ⟨_, _ | ⟨_, _⟩⟩⟩ <;> first | rfl | exact h.elim) fun cdv Ar outer s H E hr => ⟨_, _, (pss_cons (ps_if (pt_cmpR op_eq (pe_callB (show CallR _ _ (rLenSq K) from call_len_seq) (by rfl) B.len PySem.boot_len (pa_cons (pv 0) pa_nil)) pe_int (nomark _))
 (pss_one (ps_ret pe_int)) pss_nil)
 (pss_one (ps_ret (pe_op op_modN (pe_callTy call_int1 (by rfl) B.int (by decide +kernel) (pa_cons (show PE _ _ (tBM0 K _ _ _) from pe_bm0 PySem.F.plainAttrs_list PySem.F.slot_list_pop PySem.F.type_list_pop mt_pop (pv 0)) pa_nil)) (pv 1))))), by (exists "l"), ?_⟩
  clear hr
  rintro as Q X h
  rcases as with _ | ⟨a, _ | ⟨b, _ | ⟨_, _⟩⟩⟩ <;> try exact h.elim
  obtain ⟨ns, m, rfl, rfl, hm, q⟩ := h
  (exists "e", stS)
  cases hn : ns.reverse with
  | nil =>
    obtain rfl : ns = [] := List.reverse_eq_nil_iff.mp hn
    (exists "e")
    exact q 0 [] (by omega) (by omega)
  | cons y r =>
    obtain rfl : ns = r.reverse ++ [y] := by
      have := congrArg List.reverse hn
      rwa [List.reverse_reverse, List.reverse_cons] at this
    rw [if_neg (by simp; omega)]
    refine ⟨r.reverse.map D.int, .int y, by simp, ?_⟩
    (exists "e")
    exact ⟨by omega, q _ _ (fmod_pos hm).1 (fmod_pos hm).2⟩
def sp__law_size : DSp := fun as Q X => match as with
  | [a] => ∃ (ns : List Int), a = stS ns ∧ ∀ (v : Int) (ns' : List Int), 1 ≤ v → v ≤ 5 → Q (.d (.int v)) [stS ns']
  | _ => False
theorem ok__law_size {f : Addr} {fd : FuncData} (F : Fun K "_law_size" "_law_size" st__law_size f fd) (B : Bd mg) (c__law_draw : CalX (L2.CX P w) P w K mg base 4 "_law_draw" (liftSp T K sp__law_draw)) : FnOk P w K mg base (L2.CX P w) 5 f fd ["_law_stream_here"] (liftSp T K sp__law_size) := by
  refine fnD F sc__law_size (fun as Q X h => by rcases as with _ | ⟨_, _ | ⟨_, _⟩⟩ <;> first | rfl | exact h.elim) fun cdv Ar outer s H E hr => ⟨_, _, (pss_one (ps_ret (pe_ix (show IxR _ (rIxL K) from ix_list) (pe_lst (pa_cons pe_int (pa_cons pe_int (pa_cons pe_int (pa_cons pe_int (pa_cons pe_int (pa_cons pe_int (pa_cons pe_int (pa_cons pe_int (pa_cons pe_int (pa_cons pe_int pa_nil))))))))))) (pe_cx c__law_draw hr (by decide) (passes_call (takes_of rfl rfl rfl rfl) (fun _ _ _ _ h => h)) (by rfl) (pa_cons (pv 0) (pa_cons pe_int pa_nil))) (fun _ _ => rfl)))), by (exists "l"), ?_⟩
  clear hr
  rintro as Q X h
  rcases as with _ | ⟨a, _ | ⟨_, _⟩⟩ <;> try exact h.elim
  obtain ⟨ns, rfl, q⟩ := h
  (exists "e", stS)
  refine ⟨ns, 10, rfl, rfl, by omega, fun v ns' h0 h1 => ?_⟩
  (exists "e", stS)
  obtain ⟨z, e, hz⟩ := atI_mem (xs := [D.int 1, D.int 2, D.int 3, D.int 3, D.int 4, D.int 4, D.int 4, D.int 4, D.int 4, D.int 5]) h0 (by simpa using h1)
  rw [e]
  (exists "e")
  simp only [List.mem_cons, List.not_mem_nil, or_false] at hz
  rcases hz with rfl | rfl | rfl | rfl | rfl | rfl | rfl | rfl | rfl | rfl <;> exact q _ ns' (by omega) (by omega)
def sp__law_makes : DSp := fun as Q X => match as with
  | [a, b] => ∃ (ns : List Int) (n : Nat), a = stS ns ∧ b = .d (.int n) ∧ n ≤ 1000 ∧ ∀ (mk : List Mk) (ns' : List Int), mk.length = n → Q (.o (.lst (mk.map mD))) [stS ns', .no]
  | _ => False
theorem ok__law_makes {f : Addr} {fd : FuncData} (F : Fun K "_law_makes" "_law_makes" st__law_makes f fd) (B : Bd mg) (c__law_draw : CalX (L2.CX P w) P w K mg base 4 "_law_draw" (liftSp T K sp__law_draw)) : FnOk P w K mg base (L2.CX P w) 5 f fd ["_law_stream_here", "_law_size_here"] (liftSp T K sp__law_makes) := by
  refine fnD F sc__law_makes (fun as Q X h => by rcases as with _ | ⟨_, _ | ⟨_, _ | ⟨_, _⟩⟩⟩ <;> first | rfl | exact h.elim) fun cdv Ar outer s H E hr => ⟨_, _, (pss_cons (ps_set (i := 2) sc__law_makes.nd rfl (.inl rfl) (pe_lst pa_nil))
 (pss_cons (ps_for (passes_of rfl) rfl (pi_range1 (by rfl) B.range (pa_cons (pv 1) pa_nil)) (pg_name (i := 3) sc__law_makes.nd rfl (.inl rfl))
 (pss_one (ps_expr (show PE _ _ (tBM K _ _ _ _) from pe_bm PySem.F.plainAttrs_list PySem.F.slot_list_append PySem.F.type_list_append mt_append (pv 2) (pa_cons (pe_ix (show IxR _ (rIxL K) from ix_list) (pe_lst (pa_cons pe_str (pa_cons pe_str (pa_cons pe_str (pa_cons pe_str (pa_cons pe_str pa_nil)))))) (pe_cx c__law_draw hr (by decide) (passes_call (takes_of rfl rfl rfl rfl) (fun _ _ _ _ h => h)) (by rfl) (pa_cons (pv 0) (pa_cons pe_int pa_nil))) (fun _ _ => rfl)) pa_nil)))))
 (pss_one (ps_ret (pv 2))))), by (exists "l"), ?_⟩
  clear hr
  rintro as Q X h
  rcases as with _ | ⟨a, _ | ⟨b, _ | ⟨_, _⟩⟩⟩ <;> try exact h.elim
  obtain ⟨ns, n, rfl, rfl, hn, q⟩ := h
  (exists "e", stS)
  refine ⟨by omega, by omega, ?_⟩
  refine for_rng (fun k s => ∃ (ns : List Int) (mk : List Mk) (x : SV), mk.length = k ∧ fr x ∧ s = [stS ns, .d (.int n), .o true (.lst (mk.map mD)), x]) ⟨ns, [], .no, rfl, trivial, rfl⟩ (fun k s N hk hJ hN => ⟨by first | trivial | rfl | simp [kT, dwipe], ?_⟩) fun s hJ => ⟨by first | trivial | rfl | simp [kT, dwipe], ?_⟩
  · obtain ⟨ns, mk, x, hm, k1, rfl⟩ := hJ
    (exists "e", k1, stS)
    refine ⟨ns, 5, rfl, rfl, by omega, fun v ns' h0 h1 => ?_⟩
    (exists "e", stS)
    obtain ⟨z, e, hz⟩ := atI_mem (xs := [D.str "a", D.str "b", D.str "a", D.str "b", D.str "any"]) h0 (by simpa using h1)
    rw [e]
    obtain ⟨m, rfl⟩ : ∃ m : Mk, z = mD m := by
      simp only [List.mem_cons, List.not_mem_nil, or_false] at hz
      rcases hz with rfl | rfl | rfl | rfl | rfl
      · exact ⟨.a, rfl⟩
      · exact ⟨.b, rfl⟩
      · exact ⟨.a, rfl⟩
      · exact ⟨.b, rfl⟩
      · exact ⟨.y, rfl⟩
    (exists "e")
    rw [List.length_map]
    refine ⟨small4000 (by omega), hN _ ⟨ns', mk ++ [m], .d (.int (0 + (k : Int))), by simp [hm], trivial, ?_⟩⟩
    rw [List.map_append]
    rfl
  · obtain ⟨ns, mk, x, hm, k1, rfl⟩ := hJ
    (exists "e", k1, stS)
    exact q mk ns (by simpa using hm)
def sp__law_group : DSp := fun as Q X => match as with
  | [a] => ∃ (ns : List Int), a = stS ns ∧ ∀ (g : Gp) (ns' : List Int), Q (.d (gD g)) [stS ns']
  | _ => False
theorem ok__law_group {f : Addr} {fd : FuncData} (F : Fun K "_law_group" "_law_group" st__law_group f fd) (B : Bd mg) (c__law_draw : CalX (L2.CX P w) P w K mg base 4 "_law_draw" (liftSp T K sp__law_draw)) : FnOk P w K mg base (L2.CX P w) 5 f fd ["_law_stream_here"] (liftSp T K sp__law_group) := by
  refine fnD F sc__law_group (fun as Q X h => by rcases as with _ | ⟨_, _ | ⟨_, _⟩⟩ <;> first | rfl | exact h.elim) fun cdv Ar outer s H E hr => ⟨_, _, (pss_cons (ps_set (i := 1) sc__law_group.nd rfl (.inl rfl) (pe_cx c__law_draw hr (by decide) (passes_call (takes_of rfl rfl rfl rfl) (fun _ _ _ _ h => h)) (by rfl) (pa_cons (pv 0) (pa_cons pe_int pa_nil))))
 (pss_cons (ps_if (PW.pt (pw_or (pt_cmpR op_eq (pv 1) pe_int (nomark _)) (pw_or1 (pt_cmpR op_eq (pv 1) pe_int (nomark _)))))
 (pss_one (ps_ret (pe_tup (pa_cons pe_str pa_nil)))) pss_nil)
 (pss_one (ps_ret (pe_tup (pa_cons pe_str (pa_cons (pe_ix (show IxR _ (rIxL K) from ix_list) (pe_lst (pa_cons pe_str (pa_cons pe_str (pa_cons pe_str (pa_cons pe_str pa_nil))))) (pe_op op_sub (pv 1) pe_int) (fun _ _ => rfl)) pa_nil))))))), by (exists "l"), ?_⟩
  clear hr
  rintro as Q X h
  rcases as with _ | ⟨a, _ | ⟨_, _⟩⟩ <;> try exact h.elim
  obtain ⟨ns, rfl, q⟩ := h
  (exists "e", stS)
  refine ⟨ns, 6, rfl, rfl, by omega, fun v ns' h0 h1 => ?_⟩
  (exists "e", stS)
  by_cases e0 : v = 0
  · subst e0
    (exists "e")
    exact q none ns'
  by_cases e5 : v = 5
  · subst e5
    (exists "e")
    exact q none ns'
  rw [decide_eq_false e0, decide_eq_false e5]
  (exists "e")
  obtain ⟨z, e, hz⟩ := atI_mem (xs := [D.str "a", D.str "b", D.str "any", D.str "c"]) (v := v - 1) (by omega) (by simp; omega)
  rw [e]
  (exists "e")
  simp only [List.mem_cons, List.not_mem_nil, or_false] at hz
  rcases hz with rfl | rfl | rfl | rfl
  · exact q (some .a) ns'
  · exact q (some .b) ns'
  · exact q (some .y) ns'
  · exact q (some .c) ns'
end
end DL
set_option Elab.async false
set_option linter.all false
set_option maxRecDepth 100000
set_option maxHeartbeats 400000
namespace DL
open PySem PySem.Spec PyProof.Rows L2 Mv
section
variable {P : Program} {w : World} {K : PySem.W.Frag} {mg : Str → Option Value} {base : Heap} {T : List (Addr × Str)} {CC CS CV cR cY cM fM fR fU : Addr} {PF : Addr → Option Pf}
def sp__law_workers : DSp := fun as Q X => match as with
  | [a, b] => ∃ (mk : List Mk) (t : Int), a = .o false (.lst (mk.map mD)) ∧ b = .d (.int t) ∧ mk.length ≤ 6 ∧ ∀ ws : List Wk, ws.map (·.2) = mk → (ws.map (·.1)).Nodup → (∀ w ∈ ws, isNm w.1 ∧ isNm w.2.s) → Q (.o (.lst (ws.map wD))) [a, .no]
  | _ => False
theorem ok__law_workers {f : Addr} {fd : FuncData} (F : Fun K "_law_workers" "_law_workers" st__law_workers f fd) (B : Bd mg)  : FnOk P w K mg base (L2.CX P w) 4 f fd ["_law_makes_here", "_law_turn"] (liftSp T K sp__law_workers) := by
  refine fnD F sc__law_workers (fun as Q X h => by rcases as with _ | ⟨_, _ | ⟨_, _ | ⟨_, _⟩⟩⟩ <;> first | rfl | exact h.elim) fun cdv Ar outer s H E hr => ⟨_, _, (pss_cons (ps_set (i := 2) sc__law_workers.nd rfl (.inl rfl) (pe_lst (pa_cons pe_str (pa_cons pe_str (pa_cons pe_str (pa_cons pe_str (pa_cons pe_str (pa_cons pe_str pa_nil))))))))
 (pss_cons (ps_set (i := 3) sc__law_workers.nd rfl (.inl rfl) (pe_lst pa_nil))
 (pss_cons (ps_for (passes_of rfl) rfl (pi_range1 (by rfl) B.range (pa_cons (pe_callB (show CallR _ _ (rLenSq K) from call_len_seq) (by rfl) B.len PySem.boot_len (pa_cons (pv 0) pa_nil)) pa_nil)) (pg_name (i := 4) sc__law_workers.nd rfl (.inl rfl))
 (pss_one (ps_expr (show PE _ _ (tBM K _ _ _ _) from pe_bm PySem.F.plainAttrs_list PySem.F.slot_list_append PySem.F.type_list_append mt_append (pv 3) (pa_cons (pe_tup (pa_cons (pe_ix (show IxR _ (rIxL K) from ix_list) (pv 2) (pe_op op_mod (pe_callTy call_int1 (by rfl) B.int (by decide +kernel) (pa_cons (pe_op op_add (pe_op op_mul (pv 4) pe_int) (pv 1)) pa_nil)) pe_int) (fun _ _ => rfl)) (pa_cons (pe_ix (show IxR _ (rIxL K) from ix_list) (pv 0) (pv 4) (fun _ _ => rfl)) pa_nil))) pa_nil)))))
 (pss_one (ps_ret (pv 3)))))), by (exists "l"), ?_⟩
  clear hr
  rintro as Q X h
  rcases as with _ | ⟨a, _ | ⟨b, _ | ⟨_, _⟩⟩⟩ <;> try exact h.elim
  obtain ⟨mk, t, rfl, rfl, hm, q⟩ := h
  (exists "e")
  refine ⟨by rw [List.length_map]; omega, by rw [List.length_map]; omega, ?_⟩
  refine for_rng (fun k s => ∃ (ws : List Wk) (x : SV), ws.map (·.2) = mk.take k ∧ ws.map (·.1) = (List.range k).map (nmAt t) ∧ fr x ∧ s = [.o false (.lst (mk.map mD)), .d (.int t), .o true (.lst [D.str "m", D.str "kb", D.str "a", D.str "zzz", D.str "if", D.str "any"]), .o true (.lst (ws.map wD)), x]) ⟨[], .no, by simp, by simp, trivial, rfl⟩ (fun k s N hk hJ hN => ⟨by first | trivial | rfl | simp [kT, dwipe], ?_⟩) fun s hJ => ⟨by first | trivial | rfl | simp [kT, dwipe], ?_⟩
  · obtain ⟨ws, x, e1, e2, k1, rfl⟩ := hJ
    have hk' : k < mk.length := by simpa using hk
    (exists "e", k1)
    have e3 : atI [D.str "m", D.str "kb", D.str "a", D.str "zzz", D.str "if", D.str "any"] (((k : Int) * 5 + t) % 6) = some (.str (nmAt t k)) := nm_at
    have e4 : atI (mk.map mD) (k : Int) = some (mD mk[k]) := by
      rw [atI_map, atI_nat, List.getElem?_eq_getElem hk']
      rfl
    have hl : ws.length = k := by
      have := congrArg List.length e2
      simpa using this
    simp only [Int.zero_add]
    rw [e3, e4]
    refine ⟨.inr ⟨by omega, by omega⟩, by omega, ?_⟩
    (exists "e")
    rw [List.length_map]
    refine ⟨small4000 (by omega), hN _ ⟨ws ++ [(nmAt t k, mk[k])], .d (.int (k : Int)), ?_, ?_, trivial, ?_⟩⟩
    · rw [List.map_append, e1, List.take_succ_eq_append_getElem hk']
      rfl
    · rw [List.map_append, e2, List.range_succ, List.map_append]
      rfl
    · rw [List.map_append]
      rfl
  · obtain ⟨ws, x, e1, e2, k1, rfl⟩ := hJ
    (exists "e", k1)
    have hk : ((mk.map mD).length : Int).toNat = mk.length := by simp
    rw [hk] at e1 e2
    refine q ws (by rw [e1, List.take_length]) ?_ fun w hw => ⟨?_, mk_isNm _⟩
    · rw [e2]
      refine List.Pairwise.map _ (R := fun i j => i < 6 ∧ j < 6 ∧ i ≠ j) (fun i j h z => h.2.2 (nm_inj h.1 h.2.1 z)) ?_
      refine List.Pairwise.imp_of_mem (fun {i j} hi hj h => ⟨?_, ?_, h⟩) List.nodup_range
      · have := List.mem_range.mp hi; omega
      · have := List.mem_range.mp hj; omega
    · have : w.1 ∈ ws.map (·.1) := List.mem_map_of_mem hw
      rw [e2] at this
      obtain ⟨i, _, e⟩ := List.mem_map.mp this
      rw [← e]
      exact nm_isNm t i
def sp__law_spot : DSp := fun as Q X => match as with
  | [a, b] => ∃ (n m : Nat), a = .d (.int n) ∧ b = .d (.int m) ∧ n ≤ 5 ∧ Q (.d (iD (spotM n m))) [.no, .no]
  | _ => False
theorem ok__law_spot {f : Addr} {fd : FuncData} (F : Fun K "_law_spot" "_law_spot" st__law_spot f fd) (B : Bd mg)  : FnOk P w K mg base (L2.CX P w) 1 f fd ["_law_size_here", "_law_mask"] (liftSp T K sp__law_spot) := by
  refine fnD F sc__law_spot (fun as Q X h => by rcases as with _ | ⟨_, _ | ⟨_, _ | ⟨_, _⟩⟩⟩ <;> first | rfl | exact h.elim) fun cdv Ar outer s H E hr => ⟨_, _, (pss_cons (ps_set (i := 2) sc__law_spot.nd rfl (.inr rfl) (pe_lst (pa_cons pe_int (pa_cons pe_int (pa_cons pe_int (pa_cons pe_int (pa_cons pe_int (pa_cons pe_int pa_nil))))))))
 (pss_one (ps_ret (pe_callTy (show CallR _ _ (rTupleOf K) from call_tuple_of) (by rfl) B.tuple (by decide +kernel) (pa_cons (pe_lc (own := [("_law_at", 3)]) (g := gName 3) rfl sc__law_spot.nd (pi_range1 (by rfl) B.range (pa_cons (pv 0) pa_nil)) (blkOk_by (N := ["_law_size_here", "_law_mask", "_law_powers", "_law_at"]) (sc := defScope st__law_spot) (by decide +kernel)) (fun _ _ _ _ _ => (pg_name (i := 3) sc__law_spot.nd rfl (.inl rfl))) (fun _ _ _ _ _ => (pts_one (pt_cmpR op_eq (pe_op op_mod (pe_callTy call_int1 (by rfl) B.int (by decide +kernel) (pa_cons (pe_op op_fdivN (pv 1) (pe_ix (show IxR _ (rIxL K) from ix_list) (pv 2) (pv 3) (fun _ _ => rfl))) pa_nil)) pe_int) pe_int (nomark _)))) (fun _ _ _ _ _ => (pv 3))) pa_nil))))), by (exists "l"), ?_⟩
  clear hr
  rintro as Q X h
  rcases as with _ | ⟨a, _ | ⟨b, _ | ⟨_, _⟩⟩⟩ <;> try exact h.elim
  obtain ⟨n, m, rfl, rfl, hn, q⟩ := h
  (exists "e")
  refine ⟨by omega, by omega, ?_⟩
  rw [rngL_eq]
  refine lc_pure (List.range (n : Int).toNat) (fun k : Nat => D.int (0 + (k : Int))) (fun i => decide (((m : Int) / (pw2.getD i 1)) % 2 = 1)) (fun k : Nat => D.int (0 + (k : Int))) (by first | trivial | rfl | simp [kT, dwipe]) (by simp; omega) (fun k hk T1 T0 h1 h0 => ?_) ?_
  · have hk' : k < 6 := by have := List.mem_range.mp hk; simp at this; omega
    have e : atI [D.int 1, D.int 2, D.int 4, D.int 8, D.int 16, D.int 32] (0 + (k : Int)) = some (.int (pw2.getD k 1)) := pw_at hk'
    have hp := pw_pos hk'
    (exists "e", e)
    refine ⟨⟨by omega, by omega⟩, by omega, ?_⟩
    rw [Int.fdiv_eq_ediv_of_nonneg _ (by omega)]
    (exists "e")
    (split <;> first | (rename_i c; exact h1 c _ (by simp [okW, okSet, dwipe]) (by first | rfl | simp [dwipe])) | (rename_i c; exact h0 (by simpa using c) _ (by simp [okW, okSet, dwipe]) (by first | rfl | simp [dwipe])))
  · (exists "e")
    unfold iD spotM at q
    rw [List.map_map] at q
    simp only [Int.zero_add, Int.toNat_natCast]
    exact q
end
end DL
set_option Elab.async false
set_option linter.all false
set_option maxRecDepth 100000
set_option maxHeartbeats 400000
namespace DL
open PySem PySem.Spec PyProof.Rows L2 Mv
section
variable {P : Program} {w : World} {K : PySem.W.Frag} {mg : Str → Option Value} {base : Heap} {T : List (Addr × Str)} {CC CS CV cR cY cM fM fR fU : Addr} {PF : Addr → Option Pf}
def sp__law_spots : DSp := fun as Q X => match as with
  | [a, b, c] => ∃ (ns : List Int) (n m : Nat), a = stS ns ∧ b = .d (.int n) ∧ c = .d (.int m) ∧ 1 ≤ n ∧ n ≤ 5 ∧ 1 ≤ m ∧ m ≤ 10 ∧ ∀ (ys : List (List Int)) (ns' : List Int), ys.length = m → (∀ y ∈ ys, okY n y = true ∧ y.length ≤ n) → Q (.o (.lst (ys.map iD))) [stS ns', .no, .no]
  | _ => False
theorem ok__law_spots {f : Addr} {fd : FuncData} (F : Fun K "_law_spots" "_law_spots" st__law_spots f fd) (B : Bd mg) (c__law_draw : CalX (L2.CX P w) P w K mg base 4 "_law_draw" (liftSp T K sp__law_draw)) (c__law_spot : CalX (L2.CX P w) P w K mg base 1 "_law_spot" (liftSp T K sp__law_spot)) : FnOk P w K mg base (L2.CX P w) 5 f fd ["_law_stream_here", "_law_size_here", "_law_many"] (liftSp T K sp__law_spots) := by
  refine fnD F sc__law_spots (fun as Q X h => by rcases as with _ | ⟨_, _ | ⟨_, _ | ⟨_, _ | ⟨_, _⟩⟩⟩⟩ <;> first | rfl | exact h.elim) fun cdv Ar outer s H E hr => ⟨_, _, (pss_cons (ps_set (i := 3) sc__law_spots.nd rfl (.inl rfl) (pe_ix (show IxR _ (rIxL K) from ix_list) (pe_lst (pa_cons pe_int (pa_cons pe_int (pa_cons pe_int (pa_cons pe_int (pa_cons pe_int (pa_cons pe_int pa_nil))))))) (pe_op op_sub (pv 1) pe_int) (fun _ _ => rfl)))
 (pss_cons (ps_set (i := 4) sc__law_spots.nd rfl (.inl rfl) (pe_lst (pa_cons pe_int (pa_cons pe_int (pa_cons pe_int (pa_cons pe_int (pa_cons pe_int (pa_cons pe_int pa_nil))))))))
 (pss_cons (ps_set (i := 5) sc__law_spots.nd rfl (.inl rfl) (pe_op op_add pe_int (pe_cx c__law_draw hr (by decide) (passes_call (takes_of rfl rfl rfl rfl) (fun _ _ _ _ h => h)) (by rfl) (pa_cons (pv 0) (pa_cons (pv 3) pa_nil)))))
 (pss_cons (ps_set (i := 6) sc__law_spots.nd rfl (.inl rfl) (pe_lst (pa_cons (pe_cx c__law_spot hr (by decide) (passes_call (takes_of rfl rfl rfl rfl) (fun _ _ _ _ h => h)) (by rfl) (pa_cons (pv 1) (pa_cons (pv 5) pa_nil))) pa_nil)))
 (pss_cons (ps_for (passes_of rfl) rfl (pi_range1 (by rfl) B.range (pa_cons (pe_op op_sub (pv 2) pe_int) pa_nil)) (pg_name (i := 7) sc__law_spots.nd rfl (.inl rfl))
 (pss_cons (ps_set (i := 8) sc__law_spots.nd rfl (.inl rfl) (pe_cx c__law_draw hr (by decide) (passes_call (takes_of rfl rfl rfl rfl) (fun _ _ _ _ h => h)) (by rfl) (pa_cons (pv 0) (pa_cons pe_int pa_nil))))
 (pss_cons (ps_set (i := 9) sc__law_spots.nd rfl (.inl rfl) (pv 5))
 (pss_cons (ps_if (pt_cmpR op_eq (pv 8) pe_int (nomark _))
 (pss_one (ps_set (i := 9) sc__law_spots.nd rfl (.inl rfl) (pe_op op_add pe_int (pe_cx c__law_draw hr (by decide) (passes_call (takes_of rfl rfl rfl rfl) (fun _ _ _ _ h => h)) (by rfl) (pa_cons (pv 0) (pa_cons (pv 3) pa_nil)))))) (pss_one (ps_if (pt_cmpR op_gt (pv 8) pe_int (nomark _))
 (pss_cons (ps_set (i := 10) sc__law_spots.nd rfl (.inl rfl) (pe_ix (show IxR _ (rIxL K) from ix_list) (pv 4) (pe_cx c__law_draw hr (by decide) (passes_call (takes_of rfl rfl rfl rfl) (fun _ _ _ _ h => h)) (by rfl) (pa_cons (pv 0) (pa_cons (pv 1) pa_nil))) (fun _ _ => rfl)))
 (pss_cons (ps_set (i := 9) sc__law_spots.nd rfl (.inl rfl) (pe_op op_add (pv 5) (pv 10)))
 (pss_one (ps_if (pt_cmpR op_eq (pe_op op_mod (pe_callTy call_int1 (by rfl) B.int (by decide +kernel) (pa_cons (pe_op op_fdivN (pv 5) (pv 10)) pa_nil)) pe_int) pe_int (nomark _))
 (pss_one (ps_set (i := 9) sc__law_spots.nd rfl (.inl rfl) (pe_op op_sub (pv 5) (pv 10)))) pss_nil)))) pss_nil)))
 (pss_cons (ps_if (pt_cmpR op_gt (pv 9) pe_int (nomark _))
 (pss_one (ps_set (i := 5) sc__law_spots.nd rfl (.inl rfl) (pv 9))) pss_nil)
 (pss_one (ps_expr (show PE _ _ (tBM K _ _ _ _) from pe_bm PySem.F.plainAttrs_list PySem.F.slot_list_append PySem.F.type_list_append mt_append (pv 6) (pa_cons (pe_cx c__law_spot hr (by decide) (passes_call (takes_of rfl rfl rfl rfl) (fun _ _ _ _ h => h)) (by rfl) (pa_cons (pv 1) (pa_cons (pv 5) pa_nil))) pa_nil)))))))))
 (pss_one (ps_ret (pv 6)))))))), by (exists "l"), ?_⟩
  clear hr
  rintro as Q X h
  rcases as with _ | ⟨a, _ | ⟨b, _ | ⟨c, _ | ⟨_, _⟩⟩⟩⟩ <;> try exact h.elim
  obtain ⟨ns, n, m, rfl, rfl, rfl, hn1, hn5, hm1, hm, q⟩ := h
  (exists "e", stS)
  rw [full_at n (by omega) hn1]
  (exists "e", stS)
  refine ⟨ns, _, rfl, rfl, by have : 1 < 2 ^ n := Nat.one_lt_two_pow (by omega); omega, fun v ns2 h0 h1 => ?_⟩
  (exists "e", stS)
  have hge : 1 < 2 ^ n := Nat.one_lt_two_pow (by omega)
  have hpc := pow_cast n
  have hcast : (((2 ^ n - 1 : Nat)) : Int) = ((2 ^ n : Nat) : Int) - 1 := by omega
  rw [hcast] at h1
  obtain ⟨m0, e0⟩ : ∃ m0 : Nat, 1 + v = (m0 : Int) := ⟨(1 + v).toNat, by omega⟩
  have hm0 : 1 ≤ m0 ∧ m0 < 2 ^ n := by omega
  rw [e0]
  refine ⟨n, m0, rfl, rfl, hn5, ?_⟩
  (exists "e", stS)
  refine ⟨by omega, by omega, ?_⟩
  refine for_rng (fun k s => ∃ (ns : List Int) (mk : Nat) (ys : List (List Int)) (x7 x8 x9 x10 : SV), 1 ≤ mk ∧ mk < 2 ^ n ∧ ys.length = k + 1 ∧ (∀ y ∈ ys, okY n y = true ∧ y.length ≤ n) ∧ fr x7 ∧ fr x8 ∧ fr x9 ∧ fr x10 ∧
      s = [stS ns, .d (.int n), .d (.int m), .d (.int (((2 ^ n - 1 : Nat)) : Int)), .o true (.lst [D.int 1, D.int 2, D.int 4, D.int 8, D.int 16, D.int 32]), .d (.int mk), .o true (.lst (ys.map iD)), x7, x8, x9, x10])
    ⟨ns2, m0, [spotM n m0], .no, .no, .no, .no, hm0.1, hm0.2, rfl, fun y hy => ?_, trivial, trivial, trivial, trivial, rfl⟩ (fun k s N hk hJ hN => ⟨by first | trivial | rfl | simp [kT, dwipe], ?_⟩) fun s hJ => ⟨by first | trivial | rfl | simp [kT, dwipe], ?_⟩
  · rw [List.mem_singleton.mp hy]
    exact ⟨spot_ok n (by omega) m0 hm0.2 hm0.1, spot_len n m0⟩
  · obtain ⟨ns, mk, ys, x7, x8, x9, x10, h1, h2, h4, h5, k7, k8, k9, k10, rfl⟩ := hJ
    have hk' : k < m := by omega
    have h2' : (mk : Int) < ((2 ^ n : Nat) : Int) := by omega
    (exists "e", stS, k7, k8, k9, k10, stS)
    refine ⟨ns, 4, rfl, rfl, by omega, fun v8 ns8 g0 g1 => ?_⟩
    (exists "e", stS, k7, k8, k9, k10, stS)
    by_cases e3 : v8 = 3
    · subst e3
      (exists "e", stS, k7, k8, k9, k10, stS)
      refine ⟨ns8, _, rfl, rfl, by omega, fun v9 ns9 g2 g3 => ?_⟩
      (exists "e", stS, k7, k8, k9, k10, stS)
      generalize hL : 1 + v9 = L
      have hL0 : 0 ≤ L := by omega
      have hL1 : L < ((2 ^ n : Nat) : Int) := by rw [hcast] at g3; omega
      (exists "e", stS)
      by_cases hp : 0 < L
      · obtain ⟨M, rfl⟩ : ∃ M : Nat, L = (M : Int) := ⟨L.toNat, (Int.toNat_of_nonneg hL0).symm⟩
        rw [decide_eq_true hp]
        (exists "e", stS)
        refine ⟨n, M, rfl, rfl, hn5, ?_⟩
        (exists "e", stS)
        rw [List.length_map]
        refine ⟨small4000 (by omega), hN _ ⟨ns9, M, ys ++ [spotM n M], (.d (.int (0 + (k : Int)))), (.d (.int 3)), (.d (.int (M : Int))), x10, by omega, by omega, by simp [h4], fun y hy => ?_, trivial, trivial, trivial, k10, ?_⟩⟩
        · rcases List.mem_append.mp hy with z | z
          · exact h5 y z
          · rw [List.mem_singleton.mp z]
            exact ⟨spot_ok n (by omega) M (by omega) (by omega), spot_len n M⟩
        · rw [List.map_append]
          rfl
      · rw [decide_eq_false hp]
        (exists "e", stS)
        refine ⟨n, mk, rfl, rfl, hn5, ?_⟩
        (exists "e", stS)
        rw [List.length_map]
        refine ⟨small4000 (by omega), hN _ ⟨ns9, mk, ys ++ [spotM n mk], (.d (.int (0 + (k : Int)))), (.d (.int 3)), (.d (.int L)), x10, h1, h2, by simp [h4], fun y hy => ?_, trivial, trivial, trivial, k10, ?_⟩⟩
        · rcases List.mem_append.mp hy with z | z
          · exact h5 y z
          · rw [List.mem_singleton.mp z]
            exact ⟨spot_ok n (by omega) mk h2 h1, spot_len n mk⟩
        · rw [List.map_append]
          rfl
    rw [decide_eq_false e3]
    by_cases e1 : 0 < v8
    rotate_left
    · rw [decide_eq_false e1]
      (exists "e", stS, k7, k8, k9, k10, stS)
      rw [decide_eq_true (by omega : (0 : Int) < mk)]
      (exists "e", stS)
      refine ⟨n, mk, rfl, rfl, hn5, ?_⟩
      (exists "e", stS)
      rw [List.length_map]
      refine ⟨small4000 (by omega), hN _ ⟨ns8, mk, ys ++ [spotM n mk], .d (.int (0 + (k : Int))), .d (.int v8), .d (.int mk), x10, h1, h2, by simp [h4], fun y hy => ?_, trivial, trivial, trivial, k10, ?_⟩⟩
      · rcases List.mem_append.mp hy with z | z
        · exact h5 y z
        · rw [List.mem_singleton.mp z]
          exact ⟨spot_ok n (by omega) mk h2 h1, spot_len n mk⟩
      · rw [List.map_append]
        rfl
    rw [decide_eq_true e1]
    (exists "e", stS, k7, k8, k9, k10, stS)
    refine ⟨ns8, n, rfl, rfl, by omega, fun v9 ns9 g2 g3 => ?_⟩
    obtain ⟨kb, rfl⟩ : ∃ kb : Nat, v9 = (kb : Int) := ⟨v9.toNat, (Int.toNat_of_nonneg g2).symm⟩
    have e : atI [D.int 1, D.int 2, D.int 4, D.int 8, D.int 16, D.int 32] (kb : Int) = some (.int (pw2.getD kb 1)) := by
      have := pw_at (k := kb) (by omega)
      rw [Int.zero_add] at this
      exact this
    have hpw := pw_pos (k := kb) (by omega)
    (exists "e", e, k7, k8, k9, k10, stS)
    refine ⟨⟨by omega, by omega⟩, by omega, ?_⟩
    rw [Int.fdiv_eq_ediv_of_nonneg _ (by omega)]
    by_cases eb : (mk : Int) / pw2.getD kb 1 % 2 = 1
    · rw [decide_eq_true eb]
      have hsub := mask_sub n (by omega) mk h2 kb (by omega) eb
      (exists "e", stS)
      generalize hL : (mk : Int) - pw2.getD kb 1 = L
      have hL0 : 0 ≤ L := by omega
      have hL1 : L < ((2 ^ n : Nat) : Int) := by omega
      (exists "e", stS)
      by_cases hp : 0 < L
      · obtain ⟨M, rfl⟩ : ∃ M : Nat, L = (M : Int) := ⟨L.toNat, (Int.toNat_of_nonneg hL0).symm⟩
        rw [decide_eq_true hp]
        (exists "e", stS)
        refine ⟨n, M, rfl, rfl, hn5, ?_⟩
        (exists "e", stS)
        rw [List.length_map]
        refine ⟨small4000 (by omega), hN _ ⟨ns9, M, ys ++ [spotM n M], (.d (.int (0 + (k : Int)))), (.d (.int v8)), (.d (.int (M : Int))), (.d (.int (pw2.getD kb 1))), by omega, by omega, by simp [h4], fun y hy => ?_, trivial, trivial, trivial, trivial, ?_⟩⟩
        · rcases List.mem_append.mp hy with z | z
          · exact h5 y z
          · rw [List.mem_singleton.mp z]
            exact ⟨spot_ok n (by omega) M (by omega) (by omega), spot_len n M⟩
        · rw [List.map_append]
          rfl
      · rw [decide_eq_false hp]
        (exists "e", stS)
        refine ⟨n, mk, rfl, rfl, hn5, ?_⟩
        (exists "e", stS)
        rw [List.length_map]
        refine ⟨small4000 (by omega), hN _ ⟨ns9, mk, ys ++ [spotM n mk], (.d (.int (0 + (k : Int)))), (.d (.int v8)), (.d (.int L)), (.d (.int (pw2.getD kb 1))), h1, h2, by simp [h4], fun y hy => ?_, trivial, trivial, trivial, trivial, ?_⟩⟩
        · rcases List.mem_append.mp hy with z | z
          · exact h5 y z
          · rw [List.mem_singleton.mp z]
            exact ⟨spot_ok n (by omega) mk h2 h1, spot_len n mk⟩
        · rw [List.map_append]
          rfl
    · rw [decide_eq_false eb]
      have hadd := mask_add n (by omega) mk h2 kb (by omega) eb
      (exists "e", stS)
      generalize hL : (mk : Int) + pw2.getD kb 1 = L
      have hL0 : 0 ≤ L := by omega
      have hL1 : L < ((2 ^ n : Nat) : Int) := by omega
      (exists "e", stS)
      by_cases hp : 0 < L
      · obtain ⟨M, rfl⟩ : ∃ M : Nat, L = (M : Int) := ⟨L.toNat, (Int.toNat_of_nonneg hL0).symm⟩
        rw [decide_eq_true hp]
        (exists "e", stS)
        refine ⟨n, M, rfl, rfl, hn5, ?_⟩
        (exists "e", stS)
        rw [List.length_map]
        refine ⟨small4000 (by omega), hN _ ⟨ns9, M, ys ++ [spotM n M], (.d (.int (0 + (k : Int)))), (.d (.int v8)), (.d (.int (M : Int))), (.d (.int (pw2.getD kb 1))), by omega, by omega, by simp [h4], fun y hy => ?_, trivial, trivial, trivial, trivial, ?_⟩⟩
        · rcases List.mem_append.mp hy with z | z
          · exact h5 y z
          · rw [List.mem_singleton.mp z]
            exact ⟨spot_ok n (by omega) M (by omega) (by omega), spot_len n M⟩
        · rw [List.map_append]
          rfl
      · rw [decide_eq_false hp]
        (exists "e", stS)
        refine ⟨n, mk, rfl, rfl, hn5, ?_⟩
        (exists "e", stS)
        rw [List.length_map]
        refine ⟨small4000 (by omega), hN _ ⟨ns9, mk, ys ++ [spotM n mk], (.d (.int (0 + (k : Int)))), (.d (.int v8)), (.d (.int L)), (.d (.int (pw2.getD kb 1))), h1, h2, by simp [h4], fun y hy => ?_, trivial, trivial, trivial, trivial, ?_⟩⟩
        · rcases List.mem_append.mp hy with z | z
          · exact h5 y z
          · rw [List.mem_singleton.mp z]
            exact ⟨spot_ok n (by omega) mk h2 h1, spot_len n mk⟩
        · rw [List.map_append]
          rfl
  · obtain ⟨ns, mk, ys, x7, x8, x9, x10, h1, h2, h4, h5, k7, k8, k9, k10, rfl⟩ := hJ
    (exists "e", stS, k7, k8, k9, k10)
    exact q ys ns (by simp at h4; omega) h5
end
end DL
set_option Elab.async false
set_option linter.all false
set_option maxRecDepth 100000
set_option maxHeartbeats 400000
namespace DL
open PySem PySem.Spec PyProof.Rows L2 Mv
section
variable {P : Program} {w : World} {K : PySem.W.Frag} {mg : Str → Option Value} {base : Heap} {T : List (Addr × Str)} {CC CS CV cR cY cM fM fR fU : Addr} {PF : Addr → Option Pf}
def sp__law_stream : DSp := fun as Q X => match as with
  | [a] => ∃ (cs : List Int), a = .d (.fl (cs.map D.int)) ∧ ∀ ns : List Int, Q (.o (.lst (ns.map D.int))) [.no]
  | _ => False
theorem ok__law_stream {f : Addr} {fd : FuncData} (F : Fun K "_law_stream" "_law_stream" st__law_stream f fd) (B : Bd mg)  : FnOk P w K mg base (L2.CX P w) 1 f fd ["_law_script"] (liftSp T K sp__law_stream) := by
  refine fnD F sc__law_stream (fun as Q X h => by rcases as with _ | ⟨_, _ | ⟨_, _⟩⟩ <;> first | rfl | exact h.elim) fun cdv Ar outer s H E hr => ⟨_, _, (pss_cons (ps_set (i := 1) sc__law_stream.nd rfl (.inl rfl) (pe_lst pa_nil))
 (pss_cons (ps_for (passes_of rfl) rfl (show PI _ _ _ (iEnum K _) from pi_enum (by rfl) B.enumerate (pa_cons (pe_slice (show SlR _ (rSlL K) from sl_list) (pv 0) po_none (po_some pe_int)) pa_nil)) (show PG _ _ (gTup K 2 _) from pg_tup rfl (pgs_cons (pg_name (i := 2) sc__law_stream.nd rfl (.inl rfl)) (pgs_cons (pg_name (i := 3) sc__law_stream.nd rfl (.inl rfl)) pgs_nil)))
 (pss_cons (ps_set (i := 4) sc__law_stream.nd rfl (.inl rfl) (pe_callB call_abs (by rfl) B.abs (by decide +kernel) (pa_cons (pv 3) pa_nil)))
 (pss_cons (ps_if (pt_cmpR op_lt (pv 4) pe_int (nomark _))
 (pss_cons (ps_set (i := 4) sc__law_stream.nd rfl (.inl rfl) (pe_op op_mod (pe_callTy call_int1 (by rfl) B.int (by decide +kernel) (pa_cons (pe_op op_mul (pv 4) (pe_op op_add (pe_op op_add pe_int (pe_op op_mul pe_int (pv 2))) (pe_callTy call_int1 (by rfl) B.int (by decide +kernel) (pa_cons (pe_cmpR op_lt (pv 3) pe_int (nomark _)) pa_nil)))) pa_nil)) pe_int))
 (pss_one (ps_set (i := 4) sc__law_stream.nd rfl (.inl rfl) (pe_op op_mod (pe_callTy call_int1 (by rfl) B.int (by decide +kernel) (pa_cons (pe_op op_mul (pv 4) (pe_op op_add (pv 4) pe_int)) pa_nil)) pe_int)))) pss_nil)
 (pss_one (ps_for (passes_of rfl) rfl (pi_range1 (by rfl) B.range (pa_cons pe_int pa_nil)) (pg_name (i := 5) sc__law_stream.nd rfl (.inl rfl))
 (pss_cons (ps_expr (show PE _ _ (tBM K _ _ _ _) from pe_bm PySem.F.plainAttrs_list PySem.F.slot_list_append PySem.F.type_list_append mt_append (pv 1) (pa_cons (pe_op op_mod (pe_callTy call_int1 (by rfl) B.int (by decide +kernel) (pa_cons (pv 4) pa_nil)) pe_int) pa_nil)))
 (pss_cons (ps_set (i := 4) sc__law_stream.nd rfl (.inl rfl) (pe_op op_fdiv (pv 4) pe_int))
 (pss_one (ps_if (pt_cmpR op_eq (pv 4) pe_int (nomark _))
 (pss_one ps_break) pss_nil)))))))))
 (pss_cons (ps_expr (show PE _ _ (tBM0 K _ _ _) from pe_bm0 PySem.F.plainAttrs_list PySem.F.slot_list_reverse PySem.F.type_list_reverse mt_reverse (pv 1)))
 (pss_one (ps_ret (pv 1)))))), by (exists "l"), ?_⟩
  clear hr
  rintro as Q X h
  rcases as with _ | ⟨a, _ | ⟨_, _⟩⟩ <;> try exact h.elim
  obtain ⟨cs, rfl, q⟩ := h
  (exists "e")
  rw [show (63 : Int) = ((63 : Nat) : Int) from rfl, cutD_take, ← List.map_take, enumL_ints]
  have hlen : ((cs.take 63).zipIdx).length ≤ 63 := by
    rw [List.length_zipIdx, List.length_take]
    omega
  refine for_typed (cs.take 63).zipIdx (fun p : Int × Nat => .tup [.int (p.2 : Nat), .int p.1]) (fun done rest s => ∃ (ns : List Int) (x2 x3 x4 x5 : SV), ns.length ≤ 60 * done.length ∧ fr x2 ∧ fr x3 ∧ fr x4 ∧ fr x5 ∧ s = [.d (.fl (cs.map D.int)), .o true (.lst (ns.map D.int)), x2, x3, x4, x5])
    ⟨[], .no, .no, .no, .no, by simp, trivial, trivial, trivial, trivial, rfl⟩ (fun done p rest s N e hJ hN => ⟨by first | trivial | rfl | simp [kT, dwipe], ?_⟩) fun s hJ => ⟨by first | trivial | rfl | simp [kT, dwipe], ?_⟩
  · obtain ⟨ns, x2, x3, x4, x5, hn, k2, k3, k4, k5, rfl⟩ := hJ
    have hd := congrArg List.length e
    rw [List.length_append, List.length_cons] at hd
    have inner : ∀ (Dd : DEnds) (Ee : EC) (r : Int) (x5 : SV), Dd.nx = N → fr x5 → dForI (ddName 5)
        (dSeq (dDrop (dBM "list" mAppend (dVar 1) (dCons (dOp (xI (fun x j => 0 < j) fun i j => V.int (i % j)) (dCB xInt (dCons (dVar 4) dNil)) (dC (V.int 100))) dNil)))
          (dSeq (dAsg (dOp (xI CDiv fun i j => V.int (i / j)) (dVar 4) (dC (V.int 100))) (dgName 4)) (dIfS (dTest (dOp xEqS (dVar 4) (dC (V.int 0)))) dBreak dNext)))
        Dd Ee kT (rngL 0 60) [.d (.fl (cs.map D.int)), .o true (.lst (ns.map D.int)), .d (.int (p.2 : Nat)), .d (.int p.1), .d (.int r), x5] := fun Dd Ee r x5 hD k5 => by
      refine for_rng (fun k s => ∃ (ns : List Int) (r : Int) (x5 : SV), ns.length ≤ 60 * done.length + k ∧ fr x5 ∧ s = [.d (.fl (cs.map D.int)), .o true (.lst (ns.map D.int)), .d (.int (p.2 : Nat)), .d (.int p.1), .d (.int r), x5]) ⟨ns, r, x5, by omega, k5, rfl⟩ (fun k s M hk hJ hM => ⟨by first | trivial | rfl | simp [kT, dwipe], ?_⟩) fun s hJ => ⟨by first | trivial | rfl | simp [kT, dwipe], ?_⟩
      · obtain ⟨ns, r, x5, hn, k5, rfl⟩ := hJ
        (exists "e", k5)
        rw [List.length_map]
        have hne : ns.map D.int ++ [D.int (r % 100)] = (ns ++ [r % 100]).map D.int := by rw [List.map_append]; rfl
        refine ⟨by omega, small4000 (by omega), ⟨by omega, by omega⟩, ?_⟩
        rw [hne]
        by_cases e0 : r / 100 = 0
        · rw [decide_eq_true e0]
          (exists "e")
          rw [hD]
          exact hN _ ⟨ns ++ [r % 100], _, _, _, _, by simp; omega, by exact trivial, by exact trivial, by exact trivial, by exact trivial, rfl⟩
        · rw [decide_eq_false e0]
          (exists "e")
          exact hM _ ⟨ns ++ [r % 100], _, _, by simp; omega, by exact trivial, rfl⟩
      · obtain ⟨ns, r, x5, hn, k5, rfl⟩ := hJ
        rw [hD]
        exact hN _ ⟨ns, _, _, _, _, by simp; omega, by exact trivial, by exact trivial, by exact trivial, k5, rfl⟩
    (exists "e", k2, k3, k4, k5)
    by_cases hc : (if p.1 < 0 then -p.1 else p.1) < 1000000000000000000
    · rw [decide_eq_true hc]
      (exists "e")
      have hge : 0 ≤ (if p.1 < 0 then -p.1 else p.1) := by split <;> omega
      have hm := Int.emod_lt_of_pos ((if p.1 < 0 then -p.1 else p.1) * (6364136223846793005 + 2 * (p.2 : Int) + if decide (p.1 < 0) = true then 1 else 0)) (b := 1000000000000000003) (by omega)
      have hm0 := Int.emod_nonneg ((if p.1 < 0 then -p.1 else p.1) * (6364136223846793005 + 2 * (p.2 : Int) + if decide (p.1 < 0) = true then 1 else 0)) (b := 1000000000000000003) (by omega)
      refine ⟨.inl ⟨by omega, by omega⟩, .inl ⟨by omega, by omega⟩, by omega, .inl ⟨by omega, by omega⟩, by omega, by omega, by omega, ?_⟩
      exact inner _ _ _ _ rfl k5
    · rw [decide_eq_false hc]
      (exists "e")
      refine ⟨by omega, by omega, ?_⟩
      exact inner _ _ _ _ rfl k5
  · obtain ⟨ns, x2, x3, x4, x5, hn, k2, k3, k4, k5, rfl⟩ := hJ
    (exists "e")
    rw [← List.map_reverse]
    exact q _
end
end DL
set_option Elab.async false
set_option linter.all false
set_option maxRecDepth 100000
set_option maxHeartbeats 400000
namespace DL
open PySem PySem.Spec PyProof.Rows L2 Mv
section
variable {P : Program} {w : World} {K : PySem.W.Frag} {mg : Str → Option Value} {base : Heap} {T : List (Addr × Str)} {CC CS CV cR cY cM fM fR fU : Addr} {PF : Addr → Option Pf}
def sp__law_ranking : DSp := fun as Q X => match as with
  | [a, b] => ∃ (ns : List Int) (n : Nat), a = stS ns ∧ b = .d (.int n) ∧ 1 ≤ n ∧ n ≤ 5 ∧ ∀ (rk : List Int) (ns' : List Int), rk.Perm ((List.range n).map fun k : Nat => (k : Int)) → Q (.o (.lst (rk.map D.int))) [stS ns', .no]
  | _ => False
theorem ok__law_ranking {f : Addr} {fd : FuncData} (F : Fun K "_law_ranking" "_law_ranking" st__law_ranking f fd) (B : Bd mg) (c__law_draw : CalX (L2.CX P w) P w K mg base 4 "_law_draw" (liftSp T K sp__law_draw)) : FnOk P w K mg base (L2.CX P w) 5 f fd ["_law_stream_here", "_law_size_here"] (liftSp T K sp__law_ranking) := by
  refine fnD F sc__law_ranking (fun as Q X h => by rcases as with _ | ⟨_, _ | ⟨_, _ | ⟨_, _⟩⟩⟩ <;> first | rfl | exact h.elim) fun cdv Ar outer s H E hr => ⟨_, _, (pss_cons (ps_set (i := 2) sc__law_ranking.nd rfl (.inl rfl) (pe_listRg rfl (by rfl) B.list (prg_1 (by rfl) B.range (pv 1))))
 (pss_cons (ps_set (i := 3) sc__law_ranking.nd rfl (.inl rfl) (pe_lst pa_nil))
 (pss_cons (ps_for (passes_of rfl) rfl (pi_range1 (by rfl) B.range (pa_cons (pv 1) pa_nil)) (pg_name (i := 4) sc__law_ranking.nd rfl (.inl rfl))
 (pss_one (ps_expr (show PE _ _ (tBM K _ _ _ _) from pe_bm PySem.F.plainAttrs_list PySem.F.slot_list_append PySem.F.type_list_append mt_append (pv 3) (pa_cons (show PE _ _ (tBM K _ _ _ _) from pe_bm PySem.F.plainAttrs_list PySem.F.slot_list_pop PySem.F.type_list_pop mt_popAt (pv 2) (pa_cons (pe_cx c__law_draw hr (by decide) (passes_call (takes_of rfl rfl rfl rfl) (fun _ _ _ _ h => h)) (by rfl) (pa_cons (pv 0) (pa_cons (pe_callB (show CallR _ _ (rLenSq K) from call_len_seq) (by rfl) B.len PySem.boot_len (pa_cons (pv 2) pa_nil)) pa_nil))) pa_nil)) pa_nil)))))
 (pss_one (ps_ret (pv 3)))))), by (exists "l"), ?_⟩
  clear hr
  rintro as Q X h
  rcases as with _ | ⟨a, _ | ⟨b, _ | ⟨_, _⟩⟩⟩ <;> try exact h.elim
  obtain ⟨ns, n, rfl, rfl, hn1, hn5, q⟩ := h
  (exists "e", stS)
  refine ⟨⟨by omega, by omega, by omega, by omega, by omega⟩, by omega, by omega, ?_⟩
  refine for_rng (fun k s => ∃ (ns lf rk : List Int) (x : SV), rk.length = k ∧ (rk ++ lf).Perm ((List.range n).map fun k : Nat => (k : Int)) ∧ fr x ∧ s = [stS ns, .d (.int n), .o true (.lst (lf.map D.int)), .o true (.lst (rk.map D.int)), x])
    ⟨ns, (List.range n).map fun k : Nat => (k : Int), [], .no, rfl, by simp, trivial, ?_⟩ (fun k s N hk hJ hN => ⟨by first | trivial | rfl | simp [kT, dwipe], ?_⟩) fun s hJ => ⟨by first | trivial | rfl | simp [kT, dwipe], ?_⟩
  · rw [rngL_eq, List.map_map]
    simp [stS]
  · obtain ⟨ns, lf, rk, x, e1, e2, k1, rfl⟩ := hJ
    have hk' : k < n := by simpa using hk
    have hlen := e2.length_eq
    rw [List.length_append, List.length_map, List.length_range] at hlen
    (exists "e", k1, stS)
    rw [List.length_map]
    refine ⟨ns, _, rfl, rfl, by omega, fun v ns2 h0 h1 => ?_⟩
    (exists "e", k1, stS)
    have hv : v.toNat < lf.length := by omega
    rw [List.length_map, seqIndex_nat h0 (by omega)]
    (exists "e", stS)
    rw [List.getElem?_map, List.getElem?_eq_getElem hv, Option.map_some, List.length_map]
    (exists "e", stS)
    refine ⟨by omega, by omega, small4000 (by omega), hN _ ⟨ns2, lf.eraseIdx v.toNat, rk ++ [lf[v.toNat]], .d (.int (0 + (k : Int))), by simp [e1], ?_, trivial, ?_⟩⟩
    · refine List.Perm.trans ?_ e2
      rw [List.append_assoc]
      exact (perm_erase lf v.toNat hv).append_left rk
    · rw [List.map_append, erase_map]
      rfl
  · obtain ⟨ns, lf, rk, x, e1, e2, k1, rfl⟩ := hJ
    have hlen := e2.length_eq
    rw [List.length_append, List.length_map, List.length_range] at hlen
    have e1' : rk.length = n := by simpa using e1
    obtain rfl : lf = [] := List.length_eq_zero_iff.mp (by omega)
    rw [List.append_nil] at e2
    (exists "e", k1)
    exact q rk ns e2
end
end DL
set_option Elab.async false
set_option linter.all false
set_option maxRecDepth 100000
set_option maxHeartbeats 400000
namespace DL
open PySem PySem.Spec PyProof.Rows L2 Mv
section
variable {P : Program} {w : World} {K : PySem.W.Frag} {mg : Str → Option Value} {base : Heap} {T : List (Addr × Str)} {CC CS CV cR cY cM fM fR fU : Addr} {PF : Addr → Option Pf}
def sp__law_in_group : DSp := fun as Q X => match as with
  | [a, b] => ∃ (g : Gp) (m : Mk), a = .d (gD g) ∧ b = .d (mD m) ∧ Q (.d (.bl (bel m g))) [.no, .no]
  | _ => False
theorem ok__law_in_group {f : Addr} {fd : FuncData} (F : Fun K "_law_in_group" "_law_in_group" st__law_in_group f fd) (B : Bd mg)  : FnOk P w K mg base (L2.CX P w) 1 f fd ["_law_group_here", "_law_make"] (liftSp T K sp__law_in_group) := by
  refine fnD F sc__law_in_group (fun as Q X h => by rcases as with _ | ⟨_, _ | ⟨_, _ | ⟨_, _⟩⟩⟩ <;> first | rfl | exact h.elim) fun cdv Ar outer s H E hr => ⟨_, _, (pss_one (ps_ret (pe_or (pe_cmpR (show OpR _ _ (rEqD K) from op_eqD hr.units) (pv 0) (pe_tup (pa_cons pe_str pa_nil)) (nomark _)) (pe_one (pe_cmpR op_eq (pe_ix (show IxR _ (rIxT K) from ix_tup) (pv 0) pe_int (fun _ _ => rfl)) (pv 1) (nomark _)))))), by (exists "l"), ?_⟩
  clear hr
  rintro as Q X h
  rcases as with _ | ⟨a, _ | ⟨b, _ | ⟨_, _⟩⟩⟩ <;> try exact h.elim
  obtain ⟨g, m, rfl, rfl, q⟩ := h
  (exists "e", ok_gD, ok_any, eq_any)
  cases g with
  | none =>
    (exists "e")
    rw [bel_none] at q
    exact q
  | some x =>
    rw [show ((some x : Gp) == none) = false from rfl]
    (exists "e", gD, mD)
    rw [bel_some] at q
    rw [dec_s]
    exact q
end
end DL
set_option Elab.async false
set_option linter.all false
set_option maxRecDepth 100000
set_option maxHeartbeats 400000
namespace DL
open PySem PySem.Spec PyProof.Rows L2 Mv
section
variable {P : Program} {w : World} {K : PySem.W.Frag} {mg : Str → Option Value} {base : Heap} {T : List (Addr × Str)} {CC CS CV cR cY cM fM fR fU : Addr} {PF : Addr → Option Pf}
def verdO (CV : Addr) (tb : List D) (rk : D) : CO := .ins CV [("table", .lst tb), ("ranking", rk)]
def sp_Verdict___init__ (CV : Addr) : DSp := fun as Q X => match as with
  | [a, b, c] => ∃ (tb : List D) (rk : D), a = .o false (.ins CV []) ∧ b = .d (.lst tb) ∧ c = .d rk ∧ Q (.d .non) [.o false (verdO CV tb rk), .no, .no]
  | _ => False
theorem ok_Verdict___init__ {f : Addr} {fd : FuncData} (F : Fun K "__init__" "Verdict.__init__" st_Verdict___init__ f fd) (B : Bd mg) (hV : Cls K CV) (nV1 : NoAttr K CV "table") (nV2 : NoAttr K CV "ranking") : FnOk P w K mg base (L2.CX P w) 1 f fd ["self", "table", "ranking"] (liftSp T K (sp_Verdict___init__ CV)) := by
  refine fnD F sc_Verdict___init__ (fun as Q X h => by rcases as with _ | ⟨_, _ | ⟨_, _ | ⟨_, _ | ⟨_, _⟩⟩⟩⟩ <;> first | rfl | exact h.elim) fun cdv Ar outer s H E hr => ⟨_, _, (pss_cons (show PS _ _ (sFld K _ _ _) from ps_fld (pv 0) (pv 1) rfl)
 (pss_one (show PS _ _ (sFld K _ _ _) from ps_fld (pv 0) (pv 2) rfl))), by (exists "l"), ?_⟩
  clear hr
  rintro as Q X h
  rcases as with _ | ⟨a, _ | ⟨b, _ | ⟨c, _ | ⟨_, _⟩⟩⟩⟩ <;> try exact h.elim
  obtain ⟨tb, rk, rfl, rfl, rfl, q⟩ := h
  (exists "e")
  refine ⟨hV, nV1, by simp, ?_⟩
  (exists "e")
  exact ⟨hV, nV2, by simp, q⟩
def sp_Verdict_holds (CV : Addr) : DSp := fun as Q X => match as with
  | [a] => ∃ (tb : List D) (rk : D), (a = .o false (verdO CV tb rk) ∨ a = .d (verdO CV tb rk).frz) ∧ Q (.d (.bl (DL.isNon rk))) [cn a]
  | _ => False
theorem ok_Verdict_holds {f : Addr} {fd : FuncData} (F : Fun K "holds" "Verdict.holds" st_Verdict_holds f fd) (B : Bd mg) (hV : Cls K CV) (nV2 : NoAttr K CV "ranking") : FnOk P w K mg base (L2.CX P w) 1 f fd ["self"] (liftSp T K (sp_Verdict_holds CV)) := by
  refine fnD F sc_Verdict_holds (fun as Q X h => by rcases as with _ | ⟨_, _ | ⟨_, _⟩⟩ <;> first | rfl | exact h.elim) fun cdv Ar outer s H E hr => ⟨_, _, (pss_one (ps_ret (pe_cmpR op_isN (show PE _ _ (tFld K _ _) from pe_fld (pv 0) rfl) pe_non (nomark _)))), by (exists "l"), ?_⟩
  clear hr
  rintro as Q X h
  rcases as with _ | ⟨a, _ | ⟨_, _⟩⟩ <;> try exact h.elim
  obtain ⟨tb, rk, h2, q⟩ := h
  rcases h2 with rfl | rfl
  all_goals
    (exists "e", verdO, vl_rank)
    refine ⟨hV, nV2, ?_⟩
    (exists "e", verdO)
    exact q
def sp_start_node : DSp := fun as Q X => match as with
  | [a] => ∃ (ys : List (List Int)), sq a (ys.map iD) ∧ ys.length ≤ 1000 ∧ Q (.d (nD (startN ys))) [cn a]
  | _ => False
theorem ok_start_node {f : Addr} {fd : FuncData} (F : Fun K "start_node" "start_node" st_start_node f fd) (B : Bd mg)  : FnOk P w K mg base (L2.CX P w) 1 f fd ["yards"] (liftSp T K sp_start_node) := by
  refine fnD F sc_start_node (fun as Q X h => by rcases as with _ | ⟨_, _ | ⟨_, _⟩⟩ <;> first | rfl | exact h.elim) fun cdv Ar outer s H E hr => ⟨_, _, (pss_cons (ps_set (i := 1) sc_start_node.nd rfl (.inl rfl) (pe_callTy (show CallR _ _ (rTupleOf K) from call_tuple_of) (by rfl) B.tuple (by decide +kernel) (pa_cons (pe_lc (own := [("_", 2)]) (g := gName 2) (tt := tYes) rfl sc_start_node.nd (show PI _ _ _ (iList K _) from pi_list (pv 0)) (blkOk_by (N := ["yards", "nobody", "_"]) (sc := defScope st_start_node) (by decide +kernel)) (fun _ _ _ _ _ => (pg_name (i := 2) sc_start_node.nd rfl (.inl rfl))) (fun _ _ _ _ _ => pts_nil) (fun _ _ _ _ _ => (pe_un un_neg pe_int))) pa_nil)))
 (pss_one (ps_ret (pe_tup (pa_cons (pe_tup pa_nil) (pa_cons (pv 1) (pa_cons (pv 1) pa_nil))))))), by (exists "l"), ?_⟩
  clear hr
  rintro as Q X h
  rcases as with _ | ⟨a, _ | ⟨_, _⟩⟩ <;> try exact h.elim
  obtain ⟨ys, h2, hl, q⟩ := h
  rcases h2 with rfl | rfl
  all_goals
    (exists "e")
    refine lc_map ys iD (fun _ => D.int (-1)) (by first | trivial | rfl | simp [kT, dwipe]) (by omega) (fun y hy T1 h1 => ?_) ?_
    · (exists "e")
      first | exact h1 _ (by simp [okW, okSet, dwipe]) rfl | exact h1 _ (by simp [okW, okSet, dwipe]) (by simp [dwipe])
    · (exists "e")
      have e1 : (nD (startN ys)) = .tup [.tup [], .tup (ys.map fun _ => D.int (-1)), .tup (ys.map fun _ => D.int (-1))] := by
        simp [nD, startN, iD, List.map_map, Function.comp_def]
      rw [e1] at q
      exact q
def sp_settled : DSp := fun as Q X => match as with
  | [a] => ∃ (n : Nd), a = .d (nD n) ∧ n.2.1.length = n.2.2.length ∧ n.2.1.length ≤ 1000 ∧ Q (.d (iD (settledN n))) [.no]
  | _ => False
theorem ok_settled {f : Addr} {fd : FuncData} (F : Fun K "settled" "settled" st_settled f fd) (B : Bd mg)  : FnOk P w K mg base (L2.CX P w) 1 f fd ["node"] (liftSp T K sp_settled) := by
  refine fnD F sc_settled (fun as Q X h => by rcases as with _ | ⟨_, _ | ⟨_, _⟩⟩ <;> first | rfl | exact h.elim) fun cdv Ar outer s H E hr => ⟨_, _, (pss_cons (ps_asg (pv 0) (show PG _ _ (gTup K 3 _) from pg_tup rfl (pgs_cons (pg_name (i := 1) sc_settled.nd rfl (.inl rfl)) (pgs_cons (pg_name (i := 2) sc_settled.nd rfl (.inl rfl)) (pgs_cons (pg_name (i := 3) sc_settled.nd rfl (.inl rfl)) pgs_nil)))))
 (pss_one (ps_ret (pe_callTy (show CallR _ _ (rTupleOf K) from call_tuple_of) (by rfl) B.tuple (by decide +kernel) (pa_cons (pe_lc (own := [("taken", 4), ("first", 5)]) (g := gTup K 2 (gCons (gName 4) (gCons (gName 5) gNil))) (tt := tYes) rfl sc_settled.nd (show PI _ _ _ (RZ.iZipA K _) from RZ.pi_zipA (by rfl) B.zip (pa_cons (pv 2) (pa_cons (pv 3) pa_nil))) (blkOk_by (N := ["node", "_", "held", "firsts", "taken", "first"]) (sc := defScope st_settled) (by decide +kernel)) (fun _ _ _ _ _ => (show PG _ _ (gTup K 2 _) from pg_tup rfl (pgs_cons (pg_name (i := 4) sc_settled.nd rfl (.inl rfl)) (pgs_cons (pg_name (i := 5) sc_settled.nd rfl (.inl rfl)) pgs_nil)))) (fun _ _ _ _ _ => pts_nil) (fun _ _ _ _ _ => (pe_ifExp (pt_cmpR op_eq (pv 4) (pe_un un_neg pe_int) (nomark _)) (pv 5) (pv 4)))) pa_nil))))), by (exists "l"), ?_⟩
  clear hr
  rintro as Q X h
  rcases as with _ | ⟨a, _ | ⟨_, _⟩⟩ <;> try exact h.elim
  obtain ⟨n, rfl, hl, hl2, q⟩ := h
  (exists "e", nD, iD)
  rw [zipL_map]
  refine lc_map (n.2.1.zip n.2.2) (fun p : Int × Int => .tup [.int p.1, .int p.2]) (fun p : Int × Int => D.int (if p.1 = -1 then p.2 else p.1)) (by first | trivial | rfl | simp [kT, dwipe]) (by simp; omega) (fun p hp T1 h1 => ?_) ?_
  · (exists "e")
    by_cases h : p.1 = -1
    · rw [if_pos h] at h1
      rw [decide_eq_true h]
      (exists "e")
      first | exact h1 _ (by simp [okW, okSet, dwipe]) rfl | exact h1 _ (by simp [okW, okSet, dwipe]) (by simp [dwipe])
    · rw [if_neg h] at h1
      rw [decide_eq_false h]
      (exists "e")
      first | exact h1 _ (by simp [okW, okSet, dwipe]) rfl | exact h1 _ (by simp [okW, okSet, dwipe]) (by simp [dwipe])
  · (exists "e")
    have e1 : iD (settledN n) = .tup ((n.2.1.zip n.2.2).map fun p : Int × Int => D.int (if p.1 = -1 then p.2 else p.1)) := by
      unfold iD settledN
      rw [zipW_map, List.map_map]
      rfl
    rw [e1] at q
    exact q
end
end DL
set_option Elab.async false
set_option linter.all false
set_option maxRecDepth 100000
set_option maxHeartbeats 400000
namespace DL
open PySem PySem.Spec PyProof.Rows L2 Mv
section
variable {P : Program} {w : World} {K : PySem.W.Frag} {mg : Str → Option Value} {base : Heap} {T : List (Addr × Str)} {CC CS CV cR cY cM fM fR fU : Addr} {PF : Addr → Option Pf}
def sp_next_node (CC CS : Addr) : DSp := fun as Q X => match as with
  | [a, b, c, d, e] => ∃ (ws : List Wk) (rs : List Ru) (ys : List (List Int)) (n : Nd) (v : Int), a = .o false (crewO CC ws) ∧ pl b (planO CS rs) ∧ sq c (ys.map iD) ∧ d = .d (nD n) ∧ e = .d (.int v) ∧ rulesOk rs ∧ ys.length ≤ 1000 ∧ NdOk ws.length ys n ∧ n.1.length ≤ 100 ∧ 0 ≤ v ∧ v < ws.length ∧
    Q (.d (nD (nextN (mkOf ws) rs ys n v))) [a, cn b, cn c, .no, .no]
  | _ => False
theorem ok_next_node {f : Addr} {fd : FuncData} (F : Fun K "next_node" "next_node" st_next_node f fd) (B : Bd mg) (m_Crew_make_of : MetX (L2.CX P w) P w K mg base 1 CC "make_of" (liftSp T K (sp_Crew_make_of CC))) (m_Scheme_takes : MetX (L2.CX P w) P w K mg base 6 CS "takes" (liftSp T K (sp_Scheme_takes CS))) : FnOk P w K mg base (L2.CX P w) 7 f fd ["crew", "scheme", "yards", "node", "worker"] (liftSp T K (sp_next_node CC CS)) := by
  refine fnD F sc_next_node (fun as Q X h => by rcases as with _ | ⟨_, _ | ⟨_, _ | ⟨_, _ | ⟨_, _ | ⟨_, _ | ⟨_, _⟩⟩⟩⟩⟩⟩ <;> first | rfl | exact h.elim) fun cdv Ar outer s H E hr => ⟨_, _, (pss_cons (ps_asg (pv 3) (show PG _ _ (gTup K 3 _) from pg_tup rfl (pgs_cons (pg_name (i := 5) sc_next_node.nd rfl (.inl rfl)) (pgs_cons (pg_name (i := 6) sc_next_node.nd rfl (.inl rfl)) (pgs_cons (pg_name (i := 7) sc_next_node.nd rfl (.inl rfl)) pgs_nil)))))
 (pss_cons (ps_set (i := 8) sc_next_node.nd rfl (.inl rfl) (pe_mx m_Crew_make_of hr (by decide) (passes_call (takes_of rfl rfl rfl rfl) (fun _ _ _ _ h => h)) (pv 0) (pa_cons (pv 4) pa_nil)))
 (pss_cons (show PS _ _ (tPar2 9 10 _) from ps_par (i := 9) (j := 10) rfl sc_next_node.nd rfl rfl (by decide) rfl rfl (pa_cons (pe_callTy (show CallR _ _ (rListOf K) from call_list_of) (by rfl) B.list (by decide +kernel) (pa_cons (pv 6) pa_nil)) (pa_cons (pe_callTy (show CallR _ _ (rListOf K) from call_list_of) (by rfl) B.list (by decide +kernel) (pa_cons (pv 7) pa_nil)) pa_nil)) rfl)
 (pss_cons (ps_for (passes_of rfl) rfl (show PI _ _ _ (iEnum K _) from pi_enum (by rfl) B.enumerate (pa_cons (pv 2) pa_nil)) (show PG _ _ (gTup K 2 _) from pg_tup rfl (pgs_cons (pg_name (i := 11) sc_next_node.nd rfl (.inl rfl)) (pgs_cons (pg_name (i := 12) sc_next_node.nd rfl (.inr rfl)) pgs_nil)))
 (pss_one (ps_if (pt_cmpR (show OpR _ _ (rIn K false) from op_in_seq) (pv 4) (pv 12) (by rfl))
 (pss_cons (ps_setLc (i := 13) (own := [("other", 14)]) (g := gName 14) rfl sc_next_node.nd rfl rfl (sw_true rfl rfl rfl (by decide +kernel)) (show PI _ _ _ (iTup K _) from pi_tup (pv 5)) (blkOk_by (N := ["crew", "scheme", "yards", "node", "worker", "placed", "held", "firsts", "make", "next_held", "next_firsts", "at", "yard", "seen", "other"]) (sc := defScope st_next_node) (by decide +kernel)) (fun _ _ _ _ _ => (pg_name (i := 14) sc_next_node.nd rfl (.inl rfl))) (fun _ _ _ _ _ => (pts_one (pt_cmpR (show OpR _ _ (rIn K false) from op_in_seq) (pv 14) (pv 12) (by rfl)))) (fun _ _ _ _ _ => (pe_mx m_Crew_make_of hr (by decide) passN (pv 0) (pa_cons (pv 14) pa_nil))))
 (pss_cons (ps_if (PW.pt (pw_and (pt_cmpR op_eq (pe_ix (show IxR _ (rIxT K) from ix_tup) (pv 6) (pv 11) (fun _ _ => rfl)) (pe_un un_neg pe_int) (nomark _)) (pw_and1 (pt_val (pe_mx m_Scheme_takes hr (by decide) (passes_call (takes_of rfl rfl rfl rfl) (fun _ _ _ _ h => h)) (pv 1) (pa_cons (pv 8) (pa_cons (pv 13) pa_nil)))))))
 (pss_one (ps_asg (pv 4) (pg_sub (pv 9) (pv 11) set_list))) pss_nil)
 (pss_one (ps_if (pt_cmpR op_eq (pe_ix (show IxR _ (rIxT K) from ix_tup) (pv 7) (pv 11) (fun _ _ => rfl)) (pe_un un_neg pe_int) (nomark _))
 (pss_one (ps_asg (pv 4) (pg_sub (pv 10) (pv 11) set_list))) pss_nil)))) pss_nil)))
 (pss_one (ps_ret (pe_tup (pa_cons (pe_callTy (show CallR _ _ (rTupleOf K) from call_tuple_of) (by rfl) B.tuple (by decide +kernel) (pa_cons (pe_callB (show CallR _ _ (rSortT K) from cr_sortT') (by rfl) B.sorted (by decide +kernel) (pa_cons (pe_op (show OpR _ _ (rCatA K) from op_catA) (pv 5) (pe_tup (pa_cons (pv 4) pa_nil))) pa_nil)) pa_nil)) (pa_cons (pe_callTy (show CallR _ _ (rTupleOf K) from call_tuple_of) (by rfl) B.tuple (by decide +kernel) (pa_cons (pv 9) pa_nil)) (pa_cons (pe_callTy (show CallR _ _ (rTupleOf K) from call_tuple_of) (by rfl) B.tuple (by decide +kernel) (pa_cons (pv 10) pa_nil)) pa_nil)))))))))), by (exists "l"), ?_⟩
  clear hr
  rintro as Q X h
  rcases as with _ | ⟨a, _ | ⟨b, _ | ⟨c, _ | ⟨d, _ | ⟨e, _ | ⟨_, _⟩⟩⟩⟩⟩⟩ <;> try exact h.elim
  obtain ⟨ws, rs, ys, n, v, rfl, hpl, h2, rfl, rfl, hr, hl, hn, hp, v0, v1, q⟩ := h
  obtain ⟨wk, hwk⟩ : ∃ wk, atI ws v = some wk := by
    rw [← Int.toNat_of_nonneg v0, atI_nat]
    exact ⟨ws[v.toNat], List.getElem?_eq_getElem (by omega)⟩
  have hmk : mkOf ws v = wk.2 := by unfold mkOf; rw [hwk]
  generalize hfh : heldS (mkOf ws) rs n.1 v = fh
  generalize hff : firstS v = ff
  rcases hpl with rfl | rfl <;> rcases h2 with rfl | rfl
  all_goals
    (exists "e", nD, iD, crewO)
    refine ⟨rfl, ws, v, wk, rfl, rfl, hwk, ?_⟩
    (exists "e", nD, iD, crewO)
    rw [enumL_map]
    refine for_typed ys.zipIdx (fun p : List Int × Nat => .tup [.int (p.2 : Nat), iD p.1]) (fun done rest s => ∃ x11 x12 x13 : SV, fr x11 ∧ fr x12 ∧ fr x13 ∧
        s = [.o false (crewO CC ws), _, _, .d (nD n), .d (.int v), .d (iD n.1), .d (iD n.2.1), .d (iD n.2.2), .d (mD wk.2), .o true (.lst ((upto fh ys n.2.1 done.length).map D.int)), .o true (.lst ((upto ff ys n.2.2 done.length).map D.int)), x11, x12, x13, .no])
      ⟨.no, .no, .no, trivial, trivial, trivial, by rw [List.length_nil, upto_0, upto_0] <;> rfl⟩ (fun done p rest s N e hJ hN => ?_) fun s hJ => ?_
    · obtain ⟨x11, x12, x13, k11, k12, k13, rfl⟩ := hJ
      refine ⟨by first | trivial | rfl, ?_⟩
      obtain ⟨yd, kk⟩ := p
      obtain ⟨ep, ey⟩ := zipIdx_split e
      obtain rfl : kk = done.length := ep
      have ey : ys[done.length]? = some yd := ey
      obtain ⟨h0, eh⟩ : ∃ h0, n.2.1[done.length]? = some h0 := ⟨_, List.getElem?_eq_getElem (by have := (List.getElem?_eq_some_iff.mp ey).1; rw [hn.l1]; exact this)⟩
      obtain ⟨f0, ef⟩ : ∃ f0, n.2.2[done.length]? = some f0 := ⟨_, List.getElem?_eq_getElem (by have := (List.getElem?_eq_some_iff.mp ey).1; rw [hn.l2]; exact this)⟩
      have kl1 : done.length < (upto fh ys n.2.1 done.length).length := by rw [upto_len hn.l1]; exact (List.getElem?_eq_some_iff.mp eh).1
      have kl2 : done.length < (upto ff ys n.2.2 done.length).length := by rw [upto_len hn.l2]; exact (List.getElem?_eq_some_iff.mp ef).1
      have fin : ∀ X13 : SV, fr X13 → N [.o false (crewO CC ws), _, _, .d (nD n), .d (.int v), .d (iD n.1), .d (iD n.2.1), .d (iD n.2.2), .d (mD wk.2), .o true (.lst ((upto fh ys n.2.1 (done.length + 1)).map D.int)), .o true (.lst ((upto ff ys n.2.2 (done.length + 1)).map D.int)), .d (.int (done.length : Nat)), .d (iD yd), X13, .no] := fun X13 k => hN _ ⟨.d (.int (done.length : Nat)), .d (iD yd), X13, trivial, trivial, k, by rw [List.length_append, List.length_singleton] <;> rfl⟩
      (exists "e", k11, k12, k13, iD)
      by_cases hv : v ∈ yd
      rotate_left
      · rw [decide_eq_false hv]
        (exists "e")
        have g1 := upto_same (f := fh) ey eh (by rw [← hfh]; unfold heldS; rw [if_neg hv]) hn.l1
        have g2 := upto_same (f := ff) ey ef (by rw [← hff]; unfold firstS; rw [if_neg hv]) hn.l2
        rw [g1, g2] at fin
        exact fin _ k13
      rw [decide_eq_true hv]
      (exists "e")
      refine lc_pure n.1 D.int (fun o => decide (o ∈ yd)) (fun o => mD (mkOf ws o)) (by first | trivial | rfl | simp [kT, dwipe]) (by omega) (fun o ho T1 T0 h1 h0 => ?_) ?_
      · (exists "e")
        by_cases c : o ∈ yd
        · rw [decide_eq_true c]
          (exists "e", crewO)
          obtain ⟨wo, hwo⟩ : ∃ wo, atI ws o = some wo := by
            have := hn.pl o ho
            rw [← Int.toNat_of_nonneg this.1, atI_nat]
            exact ⟨ws[o.toNat], List.getElem?_eq_getElem (by omega)⟩
          refine ⟨rfl, ws, o, wo, rfl, rfl, hwo, ?_⟩
          (exists "e")
          have hmo : mkOf ws o = wo.2 := by unfold mkOf; rw [hwo]
          rw [hmo] at h1
          exact h1 (decide_eq_true c) _ (by simp [okW, okSet, dwipe]) (by first | rfl | simp [dwipe])
        · rw [decide_eq_false c]
          (exists "e")
          exact h0 (decide_eq_false c) _ (by simp [okW, okSet, dwipe]) (by first | rfl | simp [dwipe])
      (exists "e", k11, k12, k13, atI_map, atI_nat, eh, Option.map_some)
      generalize hsn : (n.1.filter fun o => decide (o ∈ yd)).map (fun o => mkOf ws o) = sn
      have hsn2 : ((n.1.filter fun o => decide (o ∈ yd)).map fun o => mD (mkOf ws o)) = sn.map mD := by rw [← hsn, List.map_map]; rfl
      have hsl : sn.length ≤ 100 := by rw [← hsn, List.length_map]; exact Nat.le_trans (List.length_filter_le _ _) hp
      rw [hsn2]
      have hfv : fh yd h0 = if h0 = -1 then (if tkM rs wk.2 sn = true then v else h0) else h0 := by
        rw [← hfh, ← hsn, ← hmk]
        unfold heldS
        rw [if_pos hv]
      have hgv : ff yd f0 = if f0 = -1 then v else f0 := by
        rw [← hff]
        unfold firstS
        rw [if_pos hv]
      have u2 := upto_set (f := ff) ey ef
      have u1 := upto_set (f := fh) ey eh
      rw [hfv] at u1
      rw [hgv] at u2
      have back2 : ∀ Z : List Int, Z = upto fh ys n.2.1 (done.length + 1) → ∀ X13 : SV, fr X13 → (if f0 = -1 then N [.o false (crewO CC ws), _, _, .d (nD n), .d (.int v), .d (iD n.1), .d (iD n.2.1), .d (iD n.2.2), .d (mD wk.2), .o true (.lst (Z.map D.int)), .o true (.lst (((upto ff ys n.2.2 done.length).set done.length v).map D.int)), .d (.int (done.length : Nat)), .d (iD yd), X13, .no]
          else N [.o false (crewO CC ws), _, _, .d (nD n), .d (.int v), .d (iD n.1), .d (iD n.2.1), .d (iD n.2.2), .d (mD wk.2), .o true (.lst (Z.map D.int)), .o true (.lst ((upto ff ys n.2.2 done.length).map D.int)), .d (.int (done.length : Nat)), .d (iD yd), X13, .no]) := fun Z ez X13 k => by
        subst ez
        by_cases hf : f0 = -1
        · rw [if_pos hf] at u2 ⊢
          rw [u2]
          exact fin X13 k
        · rw [if_neg hf] at u2 ⊢
          have := upto_same (f := ff) ey ef (by rw [hgv, if_neg hf]) hn.l2
          rw [this] at fin
          exact fin X13 k
      have firsts : ∀ X13 : SV, fr X13 → ∀ Z : List Int, (if h0 = -1 then (if tkM rs wk.2 sn = true then (upto fh ys n.2.1 done.length).set done.length v else upto fh ys n.2.1 done.length) else upto fh ys n.2.1 done.length) = Z → Z = upto fh ys n.2.1 (done.length + 1) := fun _ _ Z e => by
        rw [← e]
        by_cases hh : h0 = -1
        · rw [if_pos hh] at u1 hfv ⊢
          by_cases ht : tkM rs wk.2 sn = true
          · rw [if_pos ht] at u1 ⊢
            exact u1
          · rw [if_neg ht] at hfv ⊢
            exact (upto_same ey eh hfv hn.l1).symm
        · rw [if_neg hh] at hfv ⊢
          exact (upto_same ey eh hfv hn.l1).symm
      rw [List.getElem?_map, eh, Option.map_some]
      (exists "e")
      by_cases hh : h0 = -1
      · rw [decide_eq_true hh]
        rw [if_pos hh] at firsts
        (exists "e", planO)
        refine ⟨rfl, rs, wk.2, sn, by first | exact .inl rfl | exact .inr rfl, rfl, .inr rfl, by omega, hr.1, hr.2, ?_⟩
        (exists "e", planO)
        by_cases ht : tkM rs wk.2 sn = true
        · rw [if_pos ht] at firsts
          rw [ht]
          (exists "e", planO)
          rw [List.length_map, ixN_nat kl1]
          (exists "e")
          first | rw [atI_map, atI_nat, ef, Option.map_some] | rw [List.getElem?_map, ef, Option.map_some]
          (exists "e")
          have z := back2 _ (firsts .no trivial _ rfl) (.o true (.lst (sn.map mD))) trivial
          by_cases hf : f0 = -1
          · rw [if_pos hf] at z
            rw [decide_eq_true hf]
            (exists "e")
            rw [List.length_map, ixN_nat kl2]
            (exists "e")
            rw [← List.map_set, ← List.map_set]
            exact z
          · rw [if_neg hf] at z
            rw [decide_eq_false hf]
            (exists "e")
            rw [← List.map_set]
            exact z
        · rw [if_neg ht] at firsts
          rw [Bool.eq_false_iff.mpr ht]
          (exists "e", planO)
          first | rw [atI_map, atI_nat, ef, Option.map_some] | rw [List.getElem?_map, ef, Option.map_some]
          (exists "e")
          have z := back2 _ (firsts .no trivial _ rfl) (.o true (.lst (sn.map mD))) trivial
          by_cases hf : f0 = -1
          · rw [if_pos hf] at z
            rw [decide_eq_true hf]
            (exists "e")
            rw [List.length_map, ixN_nat kl2]
            (exists "e")
            rw [← List.map_set]
            exact z
          · rw [if_neg hf] at z
            rw [decide_eq_false hf]
            (exists "e")
            exact z
      · rw [decide_eq_false hh]
        rw [if_neg hh] at firsts
        (exists "e")
        first | rw [atI_map, atI_nat, ef, Option.map_some] | rw [List.getElem?_map, ef, Option.map_some]
        (exists "e")
        have z := back2 _ (firsts .no trivial _ rfl) (.o true (.lst (sn.map mD))) trivial
        by_cases hf : f0 = -1
        · rw [if_pos hf] at z
          rw [decide_eq_true hf]
          (exists "e")
          rw [List.length_map, ixN_nat kl2]
          (exists "e")
          rw [← List.map_set]
          exact z
        · rw [if_neg hf] at z
          rw [decide_eq_false hf]
          (exists "e")
          exact z
    · obtain ⟨x11, x12, x13, k11, k12, k13, rfl⟩ := hJ
      refine ⟨by first | trivial | rfl, ?_⟩
      (exists "e", iD)
      refine ⟨by rw [List.length_map]; exact Nat.le_of_lt (small4000 (by omega)), ?_⟩
      rw [show n.1.map D.int ++ [D.int v] = (n.1 ++ [v]).map D.int by simp]
      (exists "e")
      rw [List.length_zipIdx, upto_all fh ys n.2.1 hn.l1, upto_all ff ys n.2.2 hn.l2]
      have e1 : nD (nextN (mkOf ws) rs ys n v) = .tup [.tup ((sortI (n.1 ++ [v])).map D.int), .tup ((List.zipWith fh ys n.2.1).map D.int), .tup ((List.zipWith ff ys n.2.2).map D.int)] := by
        rw [← hfh, ← hff]
        rfl
      rw [e1] at q
      exact q
end
end DL
set_option Elab.async false
set_option linter.all false
set_option maxRecDepth 100000
set_option maxHeartbeats 400000
namespace DL
open PySem PySem.Spec PyProof.Rows L2 Mv
section
variable {P : Program} {w : World} {K : PySem.W.Frag} {mg : Str → Option Value} {base : Heap} {T : List (Addr × Str)} {CC CS CV cR cY cM fM fR fU : Addr} {PF : Addr → Option Pf}
def sp_unplaced (CC : Addr) : DSp := fun as Q X => match as with
  | [a, b] => ∃ (ws : List Wk) (n : Nd), a = .o false (crewO CC ws) ∧ b = .d (nD n) ∧ ws.length ≤ 1000 ∧ Q (.o (.lst ((unplN ws.length n.1).map D.int))) [a, .no]
  | _ => False
theorem ok_unplaced {f : Addr} {fd : FuncData} (F : Fun K "unplaced" "unplaced" st_unplaced f fd) (B : Bd mg) (l_Crew___len__ : LenX P w K mg base 2 CC (liftSp T K (sp_Crew___len__ CC))) : FnOk P w K mg base (L2.CX P w) 4 f fd ["crew", "node"] (liftSp T K (sp_unplaced CC)) := by
  refine fnD F sc_unplaced (fun as Q X h => by rcases as with _ | ⟨_, _ | ⟨_, _ | ⟨_, _⟩⟩⟩ <;> first | rfl | exact h.elim) fun cdv Ar outer s H E hr => ⟨_, _, (pss_one (ps_ret (pe_lc (own := [("worker", 2)]) (g := gName 2) rfl sc_unplaced.nd (pi_range1 (by rfl) B.range (pa_cons (pe_callB (cr_lenX l_Crew___len__ hr (by decide)) (by rfl) B.len PySem.boot_len (pa_cons (pv 0) pa_nil)) pa_nil)) (blkOk_by (N := ["crew", "node", "worker"]) (sc := defScope st_unplaced) (by decide +kernel)) (fun _ _ _ _ _ => (pg_name (i := 2) sc_unplaced.nd rfl (.inl rfl))) (fun _ _ _ _ _ => (pts_one (pt_cmpR (show OpR _ _ (rIn K true) from op_notIn_seq) (pv 2) (pe_ix (show IxR _ (rIxT K) from ix_tup) (pv 1) pe_int (fun _ _ => rfl)) (by rfl)))) (fun _ _ _ _ _ => (pv 2))))), by (exists "l"), ?_⟩
  clear hr
  rintro as Q X h
  rcases as with _ | ⟨a, _ | ⟨b, _ | ⟨_, _⟩⟩⟩ <;> try exact h.elim
  obtain ⟨ws, n, rfl, rfl, hl, q⟩ := h
  (exists "e", crewO)
  refine ⟨ws, rfl, ?_⟩
  (exists "e", crewO)
  refine ⟨ws.length, rfl, by omega, ?_⟩
  (exists "e", crewO)
  refine ⟨by omega, by omega, ?_⟩
  rw [rngL_eq]
  refine lc_pure (List.range ws.length) (fun k : Nat => D.int (0 + (k : Int))) (fun k : Nat => decide ((0 + (k : Int)) ∉ n.1)) (fun k : Nat => D.int (0 + (k : Int))) (by first | trivial | rfl | simp [kT, dwipe]) (by simp; omega) (fun k hk T1 T0 h1 h0 => ?_) ?_
  · (exists "e", nD, iD)
    by_cases c : (0 + (k : Int)) ∈ n.1
    · rw [decide_eq_true c]
      (exists "e")
      exact h0 (decide_eq_false fun z => z c) _ (by simp [okW, okSet, dwipe]) (by first | rfl | simp [dwipe])
    · rw [decide_eq_false c]
      (exists "e")
      exact h1 (decide_eq_true c) _ (by simp [okW, okSet, dwipe]) (by first | rfl | simp [dwipe])
  · (exists "e")
    have e1 : ((List.range ws.length).filter fun k : Nat => decide ((0 + (k : Int)) ∉ n.1)).map (fun k : Nat => D.int (0 + (k : Int))) = (unplN ws.length n.1).map D.int := by
      unfold unplN idL
      rw [List.filter_map, List.map_map]
      simp [Function.comp_def]
    rw [e1]
    exact q
def sp_nodes_by_length (CC CS : Addr) : DSp := fun as Q X => match as with
  | [a, b, c] => ∃ (ws : List Wk) (rs : List Ru) (ys : List (List Int)), a = .o false (crewO CC ws) ∧ pl b (planO CS rs) ∧ sq c (ys.map iD) ∧ rulesOk rs ∧ ys.length ≤ 1000 ∧ ws.length ≤ 5 ∧
    Q (.o (.lst ((List.range (ws.length + 1)).map fun k => lvD (lvK (mkOf ws) rs ys ws.length k)))) [a, cn b, cn c]
  | _ => False
theorem ok_nodes_by_length {f : Addr} {fd : FuncData} (F : Fun K "nodes_by_length" "nodes_by_length" st_nodes_by_length f fd) (B : Bd mg) (c_start_node : CalX (L2.CX P w) P w K mg base 1 "start_node" (liftSp T K sp_start_node)) (c_unplaced : CalX (L2.CX P w) P w K mg base 4 "unplaced" (liftSp T K (sp_unplaced CC))) (c_next_node : CalX (L2.CX P w) P w K mg base 7 "next_node" (liftSp T K (sp_next_node CC CS))) (l_Crew___len__ : LenX P w K mg base 2 CC (liftSp T K (sp_Crew___len__ CC))) : FnOk P w K mg base (L2.CX P w) 8 f fd ["crew", "scheme", "yards"] (liftSp T K (sp_nodes_by_length CC CS)) := by
  refine fnD F sc_nodes_by_length (fun as Q X h => by rcases as with _ | ⟨_, _ | ⟨_, _ | ⟨_, _ | ⟨_, _⟩⟩⟩⟩ <;> first | rfl | exact h.elim) fun cdv Ar outer s H E hr => ⟨_, _, (pss_cons (ps_set (i := 3) sc_nodes_by_length.nd rfl (.inl rfl) (pe_lst (pa_cons (show PE _ _ (tDisp1N K _ _) from pe_disp1N (units65 hr) (pe_cx c_start_node hr (by decide) (passes_call (takes_of rfl rfl rfl rfl) (fun _ _ _ _ h => h)) (by rfl) (pa_cons (pv 2) pa_nil)) pe_int) pa_nil)))
 (pss_cons (ps_for (passes_of rfl) rfl (pi_range1 (by rfl) B.range (pa_cons (pe_callB (cr_lenX l_Crew___len__ hr (by decide)) (by rfl) B.len PySem.boot_len (pa_cons (pv 0) pa_nil)) pa_nil)) (pg_name (i := 4) sc_nodes_by_length.nd rfl (.inl rfl))
 (pss_cons (ps_set (i := 5) sc_nodes_by_length.nd rfl (.inl rfl) pe_dnewN)
 (pss_cons (ps_for (passes_of rfl) rfl (pi_itemsN (pe_ix (show IxR _ (rIxL K) from ix_list) (pv 3) (pe_un un_neg pe_int) (fun _ _ => rfl))) (show PG _ _ (gTup K 2 _) from pg_tup rfl (pgs_cons (pg_name (i := 6) sc_nodes_by_length.nd rfl (.inl rfl)) (pgs_cons (pg_name (i := 7) sc_nodes_by_length.nd rfl (.inl rfl)) pgs_nil)))
 (pss_one (ps_for (passes_of rfl) rfl (show PI _ _ _ (iList K _) from pi_list (pe_cx c_unplaced hr (by decide) (passes_call (takes_of rfl rfl rfl rfl) (fun _ _ _ _ h => h)) (by rfl) (pa_cons (pv 0) (pa_cons (pv 6) pa_nil)))) (pg_name (i := 8) sc_nodes_by_length.nd rfl (.inl rfl))
 (pss_cons (ps_set (i := 9) sc_nodes_by_length.nd rfl (.inl rfl) (pe_cx c_next_node hr (by decide) (passes_call (takes_of rfl rfl rfl rfl) (fun _ _ _ _ h => h)) (by rfl) (pa_cons (pv 0) (pa_cons (pv 1) (pa_cons (pv 2) (pa_cons (pv 6) (pa_cons (pv 8) pa_nil)))))))
 (pss_one (show PS _ _ (sDPutN K _ _ _) from ps_dputN (units65 hr) (pv 5) (pv 9) (pe_op op_add (show PE _ _ (tDGetN K _ _ _) from pe_dgetN (units65 hr) (pv 5) (pv 9) pe_int ⟨by rfl, by rfl, by rfl, by rfl⟩) (pv 7)) rfl))))))
 (pss_one (ps_expr (show PE _ _ (tBM K _ _ _ _) from pe_bm PySem.F.plainAttrs_list PySem.F.slot_list_append PySem.F.type_list_append mt_append (pv 3) (pa_cons (pv 5) pa_nil)))))))
 (pss_one (ps_ret (pv 3))))), by (exists "l"), ?_⟩
  clear hr
  rintro as Q X h
  rcases as with _ | ⟨a, _ | ⟨b, _ | ⟨c, _ | ⟨_, _⟩⟩⟩⟩ <;> try exact h.elim
  obtain ⟨ws, rs, ys, rfl, hpl, h2, hr, hl, hw, q⟩ := h
  have sc : ∀ c : SV, sq c (ys.map iD) → c = .d (.lst (ys.map iD)) ∨ c = .o false (.lst (ys.map iD)) := fun c h => h
  rcases hpl with rfl | rfl <;> rcases h2 with rfl | rfl
  all_goals
    (exists "e")
    refine ⟨ys, by first | exact .inl rfl | exact .inr rfl, hl, ?_⟩
    (exists "e")
    refine ⟨okKey_nD _, ?_⟩
    (exists "e", crewO)
    refine ⟨ws, rfl, ?_⟩
    (exists "e", crewO)
    refine ⟨ws.length, rfl, by omega, by omega, by omega, ?_⟩
    refine for_rng (fun k s => ∃ (x4 x5 x6 x7 x8 x9 : SV), fr x4 ∧ fr x5 ∧ fr x6 ∧ fr x7 ∧ fr x8 ∧ fr x9 ∧ s = [.o false (crewO CC ws), _, _, .o true (.lst ((List.range (k + 1)).map fun k => lvD (lvK (mkOf ws) rs ys ws.length k))), x4, x5, x6, x7, x8, x9])
      ⟨.no, .no, .no, .no, .no, .no, trivial, trivial, trivial, trivial, trivial, trivial, rfl⟩ (fun k s N hk hJ hN => ⟨by first | trivial | rfl | simp [kT, dwipe], ?_⟩) fun s hJ => ⟨by first | trivial | rfl | simp [kT, dwipe], ?_⟩
    · obtain ⟨x4, x5, x6, x7, x8, x9, k4, k5, k6, k7, k8, k9, rfl⟩ := hJ
      (exists "e", k4, k5, k6, k7, k8, k9, lvl_last, lvD_nd)
      have hk5 : k ≤ ws.length := by omega
      have hL := lvK_le (mk := mkOf ws) (rs := rs) (ys := ys) hw hk5
      have hOk := lvK_ok (mk := mkOf ws) (rs := rs) (ys := ys) (sz := ws.length) k
      have hPl := lvK_pl (mk := mkOf ws) (rs := rs) (ys := ys) (sz := ws.length) k
      generalize hLk : lvK (mkOf ws) rs ys ws.length k = L at hL hOk hPl ⊢
      rw [List.map_map]
      refine for_typed L ((fun d : D × D => D.tup [d.1, d.2]) ∘ ndE) (fun done rest s => ∃ (x4 x6 x7 x8 x9 : SV), fr x4 ∧ fr x6 ∧ fr x7 ∧ fr x8 ∧ fr x9 ∧ s = [.o false (crewO CC ws), _, _, .o true (.lst ((List.range (k + 1)).map fun k => lvD (lvK (mkOf ws) rs ys ws.length k))), x4, .o true (.dN ((lvS (mkOf ws) rs ys ws.length [] done).map ndE)), x6, x7, x8, x9])
        ⟨_, _, _, _, _, by exact trivial, k6, k7, k8, k9, rfl⟩ (fun done p rest s N2 e hJ hN2 => ?_) fun s hJ => ?_
      · obtain ⟨x4, x6, x7, x8, x9, k4, k6, k7, k8, k9, rfl⟩ := hJ
        refine ⟨by first | trivial | rfl | simp [kT, dwipe], ?_⟩
        have hp : p ∈ L := by rw [e]; simp
        have hdl : done.length ≤ 3125 := by have := congrArg List.length e; rw [List.length_append] at this; omega
        (exists "e", k4, k6, k7, k8, k9, Function.comp)
        refine ⟨ws, p.1, rfl, rfl, by omega, ?_⟩
        (exists "e")
        have hul := unplN_len ws.length p.1.1
        have hbl := lvS_len (mk := mkOf ws) (rs := rs) (ys := ys) (sz := ws.length) done []
        have hil : ∀ d : List Int, d.length ≤ 5 → (lvIn (mkOf ws) rs ys p.1 p.2 (lvS (mkOf ws) rs ys ws.length [] done) d).length ≤ 20000 := fun d hd => by
          have := lvIn_len (mk := mkOf ws) (rs := rs) (ys := ys) (n := p.1) (c := p.2) d (lvS (mkOf ws) rs ys ws.length [] done)
          have h3 : done.length * ws.length ≤ 3125 * 5 := Nat.mul_le_mul hdl hw
          rw [List.length_nil] at hbl
          omega
        refine for_typed (unplN ws.length p.1.1) D.int (fun doneW rest s => ∃ (x8 x9 : SV), fr x8 ∧ fr x9 ∧ s = [.o false (crewO CC ws), _, _, .o true (.lst ((List.range (k + 1)).map fun k => lvD (lvK (mkOf ws) rs ys ws.length k))), x4, .o true (.dN ((lvIn (mkOf ws) rs ys p.1 p.2 (lvS (mkOf ws) rs ys ws.length [] done) doneW).map ndE)), .d (nD p.1), .d (.int p.2), x8, x9])
          ⟨_, _, k8, k9, rfl⟩ (fun doneW w rest s N3 e3 hJ hN3 => ?_) fun s hJ => ?_
        · obtain ⟨x8, x9, k8, k9, rfl⟩ := hJ
          refine ⟨by first | trivial | rfl | simp [kT, dwipe], ?_⟩
          have hwm : w ∈ unplN ws.length p.1.1 := by rw [e3]; simp
          have hwd : doneW.length ≤ 5 := by have := congrArg List.length e3; rw [List.length_append] at this; omega
          (exists "e", k4, k8, k9)
          refine ⟨ws, rs, ys, p.1, w, rfl, by first | exact .inl rfl | exact .inr rfl, by first | exact .inl rfl | exact .inr rfl, rfl, rfl, hr, hl, hOk p hp, by rw [hPl p hp]; omega, (unplN_mem.mp hwm).1.1, (unplN_mem.mp hwm).1.2, ?_⟩
          (exists "e", k4, k8, k9)
          refine ⟨⟨_, rfl⟩, okKey_nD _, ?_⟩
          rw [getN_nd, getD_int]
          (exists "e")
          refine ⟨okKey_nD _, by rw [List.length_map, sizeLine_eq]; have := hil _ hwd; omega, ?_⟩
          rw [putN_nd, ← lvIn_app]
          exact hN3 _ ⟨.d (.int w), .d (nD (nextN (mkOf ws) rs ys p.1 w)), trivial, trivial, rfl⟩
        · obtain ⟨x8, x9, k8, k9, rfl⟩ := hJ
          refine ⟨by first | trivial | rfl | simp [kT, dwipe], hN2 _ ⟨_, .d (nD p.1), .d (.int p.2), _, _, k4, trivial, trivial, k8, k9, ?_⟩⟩
          rw [lvS_app] <;> rfl
      · obtain ⟨x4, x6, x7, x8, x9, k4, k6, k7, k8, k9, rfl⟩ := hJ
        refine ⟨by first | trivial | rfl | simp [kT, dwipe], ?_⟩
        (exists "e", k4, k6, k7, k8, k9)
        refine ⟨by simp; rw [sizeLine_eq]; omega, hN _ ⟨x4, .d (.dN ((lvS (mkOf ws) rs ys ws.length [] L).map ndE)), x6, x7, x8, x9, k4, trivial, k6, k7, k8, k9, ?_⟩⟩
        rw [List.range_succ (n := k + 1), List.map_append, List.map_singleton, ← hLk]
        rfl
    · obtain ⟨x4, x5, x6, x7, x8, x9, k4, k5, k6, k7, k8, k9, rfl⟩ := hJ
      (exists "e", k4, k5, k6, k7, k8, k9)
      exact q
end
end DL
set_option Elab.async false
set_option linter.all false
set_option maxRecDepth 100000
set_option maxHeartbeats 400000
namespace DL
open PySem PySem.Spec PyProof.Rows L2 Mv
section
variable {P : Program} {w : World} {K : PySem.W.Frag} {mg : Str → Option Value} {base : Heap} {T : List (Addr × Str)} {CC CS CV cR cY cM fM fR fU : Addr} {PF : Addr → Option Pf}
def sp_first_failing (CC CS : Addr) (PF : Addr → Option (List (List Int) → List Int → Bool)) (m : Nat) : DSp := fun as Q X => match as with
  | [a, b, c, d, e, g] => ∃ (ws : List Wk) (rs : List Ru) (ys : List (List Int)) (fa : Addr) (p : List (List Int) → List Int → Bool) (bg : List Int) (n : Nd), a = .o false (crewO CC ws) ∧ b = .o false (planO CS rs) ∧ sq c (ys.map iD) ∧ d = .d (.sc (.ref fa)) ∧ PF fa = some p ∧ e = .d (.lst (bg.map D.int)) ∧ g = .d (nD n) ∧ rulesOk rs ∧ ys.length ≤ 1000 ∧ ws.length ≤ 6 ∧ NdOk ws.length ys n ∧ n.1.length + m ≤ 100 ∧ bg.length + m ≤ 100 ∧ (unplN ws.length n.1).length < m ∧
    Q (.d (oD (ffM (mkOf ws) rs ys ws.length p m bg n))) [a, b, cn c, .no, .no, .no]
  | _ => False
theorem ok_first_failing {f : Addr} {fd : FuncData} (F : Fun K "first_failing" "first_failing" st_first_failing f fd) (B : Bd mg) (c_unplaced : CalX (L2.CX P w) P w K mg base 4 "unplaced" (liftSp T K (sp_unplaced CC))) (c_next_node : CalX (L2.CX P w) P w K mg base 7 "next_node" (liftSp T K (sp_next_node CC CS))) (c_first_failing : CalX (L2.CX P w) P w K mg base (m + 7) "first_failing" (liftSp T K (sp_first_failing CC CS PF m))) (c_settled : CalX (L2.CX P w) P w K mg base 1 "settled" (liftSp T K sp_settled)) (hM : ∀ f sp, ((PF f).map sp_fail).map (liftSp T K) = some sp → Held P w K mg base 4 f sp) : FnOk P w K mg base (L2.CX P w) (m + 8) f fd ["crew", "scheme", "yards", "fails", "beginning", "node"] (liftSp T K (sp_first_failing CC CS PF (m + 1))) := by
  refine fnD F sc_first_failing (fun as Q X h => by rcases as with _ | ⟨_, _ | ⟨_, _ | ⟨_, _ | ⟨_, _ | ⟨_, _ | ⟨_, _ | ⟨_, _⟩⟩⟩⟩⟩⟩⟩ <;> first | rfl | exact h.elim) fun cdv Ar outer s H E hr => ⟨_, _, (pss_cons (ps_set (i := 6) sc_first_failing.nd rfl (.inl rfl) (pe_cx c_unplaced hr (by omega) (passes_call (takes_of rfl rfl rfl rfl) (fun _ _ _ _ h => h)) (by rfl) (pa_cons (pv 0) (pa_cons (pv 5) pa_nil))))
 (pss_cons (ps_if (pt_cmpR op_eq (pe_callB (show CallR _ _ (rLenSq K) from call_len_seq) (by rfl) B.len PySem.boot_len (pa_cons (pv 6) pa_nil)) pe_int (nomark _))
 (pss_one (ps_ret (pe_ifExp (pt_val (pe_callX hM hr (by omega) (i := 3) rfl (by first | exact .inl rfl | exact .inr (.inl rfl) | exact .inr (.inr rfl)) (pa_cons (pv 2) (pa_cons (pe_cx c_settled hr (by omega) (passes_call (takes_of rfl rfl rfl rfl) (fun _ _ _ _ h => h)) (by rfl) (pa_cons (pv 5) pa_nil)) pa_nil)))) (pv 4) pe_non))) pss_nil)
 (pss_cons (ps_for (passes_of rfl) rfl (show PI _ _ _ (iList K _) from pi_list (pv 6)) (pg_name (i := 7) sc_first_failing.nd rfl (.inl rfl))
 (pss_cons (ps_set (i := 8) sc_first_failing.nd rfl (.inl rfl) (pe_cx c_next_node hr (by omega) (passes_call (takes_of rfl rfl rfl rfl) (fun _ _ _ _ h => h)) (by rfl) (pa_cons (pv 0) (pa_cons (pv 1) (pa_cons (pv 2) (pa_cons (pv 5) (pa_cons (pv 7) pa_nil)))))))
 (pss_cons (ps_set (i := 9) sc_first_failing.nd rfl (.inl rfl) (pe_cx c_first_failing hr (by omega) (passes_call (takes_of rfl rfl rfl rfl) (fun _ _ _ _ h => h)) (by rfl) (pa_cons (pv 0) (pa_cons (pv 1) (pa_cons (pv 2) (pa_cons (pv 3) (pa_cons (pe_op op_cat (pv 4) (pe_lst (pa_cons (pv 7) pa_nil))) (pa_cons (pv 8) pa_nil))))))))
 (pss_one (ps_if (pt_cmpR op_notN (pv 9) pe_non (nomark _))
 (pss_one (ps_ret (pv 9))) pss_nil)))))
 (pss_one (ps_ret pe_non))))), by (exists "l"), ?_⟩
  clear hr
  rintro as Q X h
  rcases as with _ | ⟨a, _ | ⟨b, _ | ⟨c, _ | ⟨d, _ | ⟨e, _ | ⟨g, _ | ⟨_, _⟩⟩⟩⟩⟩⟩⟩ <;> try exact h.elim
  obtain ⟨ws, rs, ys, fa, p, bg, n, rfl, rfl, h2, rfl, hp, rfl, rfl, hr, hl, hw, hn, hlen, hbg, hm, q⟩ := h
  rcases h2 with rfl | rfl
  all_goals
    (exists "e")
    refine ⟨ws, n, rfl, rfl, by omega, ?_⟩
    (exists "e")
    rw [List.length_map, hp]
    by_cases h0 : (unplN ws.length n.1).length = 0
    · have e0 : ffM (mkOf ws) rs ys ws.length p (m + 1) bg n = if p ys (settledN n) = true then some bg else none := by unfold ffM; rw [if_pos h0]
      rw [e0] at q
      rw [decide_eq_true (by omega)]
      (exists "e")
      refine ⟨n, rfl, by rw [hn.l1, hn.l2], by rw [hn.l1]; exact hl, ?_⟩
      (exists "e")
      refine ⟨ys, settledN n, by first | exact .inl rfl | exact .inr rfl, rfl, hl, by simp [settledN, hn.l1, hn.l2], ?_⟩
      cases hb : p ys (settledN n) with
      | true =>
        rw [hb] at q
        (exists "e")
        exact q
      | false =>
        rw [hb] at q
        (exists "e")
        exact q
    · rw [decide_eq_false (by omega)]
      (exists "e")
      have e0 : ffM (mkOf ws) rs ys ws.length p (m + 1) bg n = (unplN ws.length n.1).findSome? fun w => ffM (mkOf ws) rs ys ws.length p m (bg ++ [w]) (nextN (mkOf ws) rs ys n w) := by
        rw [ffM, if_neg h0]
      rw [e0] at q
      have hul := unplN_len ws.length n.1
      refine for_typed (unplN ws.length n.1) D.int (fun done rest s => (∀ w ∈ done, ffM (mkOf ws) rs ys ws.length p m (bg ++ [w]) (nextN (mkOf ws) rs ys n w) = none) ∧ ∃ (x7 x8 x9 : SV), fr x7 ∧ fr x8 ∧ fr x9 ∧ s = [.o false (crewO CC ws), .o false (planO CS rs), _, .d (.sc (.ref fa)), .d (.lst (bg.map D.int)), .d (nD n), .d (.lst ((unplN ws.length n.1).map D.int)), x7, x8, x9])
        ⟨fun w hw => (by cases hw), .no, .no, .no, trivial, trivial, trivial, rfl⟩ (fun done w rest s N e hJ hN => ?_) fun s hJ => ?_
      · obtain ⟨hd, x7, x8, x9, k7, k8, k9, rfl⟩ := hJ
        refine ⟨by first | trivial | rfl | simp [kT, dwipe], ?_⟩
        have hwm : w ∈ unplN ws.length n.1 := by rw [e]; simp
        have hwb := (unplN_mem.mp hwm).1
        (exists "e", k7, k8, k9)
        refine ⟨ws, rs, ys, n, w, rfl, .inl rfl, by first | exact .inl rfl | exact .inr rfl, rfl, rfl, hr, hl, hn, by omega, hwb.1, hwb.2, ?_⟩
        (exists "e", k7, k8, k9)
        refine ⟨by rw [List.length_map, sizeLine_eq]; omega, ?_⟩
        rw [show bg.map D.int ++ [D.int w] = (bg ++ [w]).map D.int by simp]
        have hun := unplN_next (mk := mkOf ws) (rs := rs) (ys := ys) hwm
        have hnl : (nextN (mkOf ws) rs ys n w).1.length = n.1.length + 1 := by simp [nextN, sortI]
        refine ⟨ws, rs, ys, fa, p, bg ++ [w], nextN (mkOf ws) rs ys n w, rfl, rfl, by first | exact .inl rfl | exact .inr rfl, rfl, hp, rfl, rfl, hr, hl, hw, nextN_ok hn hwb.1 hwb.2, by omega, by simp; omega, by omega, ?_⟩
        cases hf : ffM (mkOf ws) rs ys ws.length p m (bg ++ [w]) (nextN (mkOf ws) rs ys n w) with
        | none =>
          (exists "e", k7, k8, k9, oD)
          refine hN _ ⟨fun z hz => ?_, .d (.int w), .d (nD (nextN (mkOf ws) rs ys n w)), .d .non, trivial, trivial, trivial, rfl⟩
          rcases List.mem_append.mp hz with hz | hz
          · exact hd z hz
          · rw [List.mem_singleton.mp hz]
            exact hf
        | some l =>
          have e1 : ((unplN ws.length n.1).findSome? fun w => ffM (mkOf ws) rs ys ws.length p m (bg ++ [w]) (nextN (mkOf ws) rs ys n w)) = some l := by
            rw [e, List.findSome?_append, List.findSome?_eq_none_iff.mpr hd, List.findSome?_cons, hf]
            rfl
          rw [e1] at q
          (exists "e", k7, k8, k9, oD)
          exact q
      · obtain ⟨hd, x7, x8, x9, k7, k8, k9, rfl⟩ := hJ
        refine ⟨by first | trivial | rfl | simp [kT, dwipe], ?_⟩
        have e1 : ((unplN ws.length n.1).findSome? fun w => ffM (mkOf ws) rs ys ws.length p m (bg ++ [w]) (nextN (mkOf ws) rs ys n w)) = none := List.findSome?_eq_none_iff.mpr hd
        rw [e1] at q
        (exists "e")
        exact q
theorem ff_none {CC CS : Addr} {PF : Addr → Option (List (List Int) → List Int → Bool)} (as : SS) (Q : R → SS → Prop) (X : EC) : ¬ sp_first_failing CC CS PF 0 as Q X := fun h => by
  rcases as with _ | ⟨a, _ | ⟨b, _ | ⟨c, _ | ⟨d, _ | ⟨e, _ | ⟨g, _ | ⟨_, _⟩⟩⟩⟩⟩⟩⟩ <;> try exact h.elim
  obtain ⟨_, _, _, _, _, _, _, _, _, _, _, _, _, _, _, _, _, _, _, _, h, _⟩ := h
  exact absurd h (Nat.not_lt_zero _)
end
end DL
set_option Elab.async false
set_option linter.all false
set_option maxRecDepth 100000
set_option maxHeartbeats 400000
namespace DL
open PySem PySem.Spec PyProof.Rows L2 Mv
section
variable {P : Program} {w : World} {K : PySem.W.Frag} {mg : Str → Option Value} {base : Heap} {T : List (Addr × Str)} {CC CS CV cR cY cM fM fR fU : Addr} {PF : Addr → Option Pf}
def sp_verdict_on (CC CS CV cY : Addr) (PF : Addr → Option (List (List Int) → List Int → Bool)) : DSp := fun as Q X => match as with
  | [a, b, c, d] => ∃ (ws : List Wk) (rs : List Ru) (ys : List (List Int)) (fa : Addr) (p : List (List Int) → List Int → Bool), a = .o false (crewO CC ws) ∧ b = .o false (planO CS rs) ∧ sq c (ys.map iD) ∧ d = .d (.sc (.ref fa)) ∧ PF fa = some p ∧ rulesOk rs ∧ ys.length ≤ 1000 ∧ ws.length ≤ 5 ∧ (∀ yd ∈ ys, yd.length ≤ 1000) ∧
    (if (ys.all fun yd => okY ws.length yd) = true then Q (.o (verdO CV (verdM (mkOf ws) rs ys ws.length p).1 (verdM (mkOf ws) rs ys ws.length p).2)) [a, b, cn c, .no] else X ⟨.ref cY, []⟩ [a, b, cn c, .no])
  | _ => False
theorem ok_verdict_on {f : Addr} {fd : FuncData} (F : Fun K "verdict_on" "verdict_on" st_verdict_on f fd) (B : Bd mg) (c_nodes_by_length : CalX (L2.CX P w) P w K mg base 8 "nodes_by_length" (liftSp T K (sp_nodes_by_length CC CS))) (c_refuse_yard : CalX (L2.CX P w) P w K mg base 4 "refuse_yard" (liftSp T K (sp_refuse_yard CC cY))) (c_first_failing : CalX (L2.CX P w) P w K mg base 17 "first_failing" (liftSp T K (sp_first_failing CC CS PF 10))) (c_settled : CalX (L2.CX P w) P w K mg base 1 "settled" (liftSp T K sp_settled)) (c_start_node : CalX (L2.CX P w) P w K mg base 1 "start_node" (liftSp T K sp_start_node)) (k_Verdict : MakX P w K mg base 1 "Verdict" CV (liftSp T K (sp_Verdict___init__ CV))) (hM : ∀ f sp, ((PF f).map sp_fail).map (liftSp T K) = some sp → Held P w K mg base 4 f sp) : FnOk P w K mg base (L2.CX P w) 18 f fd ["crew", "scheme", "yards", "fails"] (liftSp T K (sp_verdict_on CC CS CV cY PF)) := by
  refine fnD F sc_verdict_on (fun as Q X h => by rcases as with _ | ⟨_, _ | ⟨_, _ | ⟨_, _ | ⟨_, _ | ⟨_, _⟩⟩⟩⟩⟩ <;> first | rfl | exact h.elim) fun cdv Ar outer s H E hr => ⟨_, _, (pss_cons (ps_for (passes_of rfl) rfl (show PI _ _ _ (iList K _) from pi_list (pv 2)) (pg_name (i := 4) sc_verdict_on.nd rfl (.inl rfl))
 (pss_one (ps_expr (pe_cx c_refuse_yard hr (by decide) (passes_call (takes_of rfl rfl rfl rfl) (fun _ _ _ _ h => h)) (by rfl) (pa_cons (pv 0) (pa_cons (pv 4) pa_nil))))))
 (pss_cons (ps_set (i := 5) sc_verdict_on.nd rfl (.inl rfl) (pe_cx c_nodes_by_length hr (by decide) (passes_call (takes_of rfl rfl rfl rfl) (fun _ _ _ _ h => h)) (by rfl) (pa_cons (pv 0) (pa_cons (pv 1) (pa_cons (pv 2) pa_nil)))))
 (pss_cons (ps_if (pt_val (pe_callB (show CallR _ _ (rAny K) from cr_any rfl) (by rfl) B.any (by decide +kernel) (pa_cons (pe_lc (own := [("node", 6)]) (g := gName 6) (tt := tYes) rfl sc_verdict_on.nd (pi_keysN (pe_ix (show IxR _ (rIxL K) from ix_list) (pv 5) (pe_un un_neg pe_int) (fun _ _ => rfl))) (blkOk_by (N := ["crew", "scheme", "yards", "fails", "yard", "levels", "node", "level"]) (sc := defScope st_verdict_on) (by decide +kernel)) (fun _ _ _ _ _ => (pg_name (i := 6) sc_verdict_on.nd rfl (.inl rfl))) (fun _ _ _ _ _ => pts_nil) (fun _ _ _ _ _ => (pe_callX hM hr (by decide) (i := 3) rfl (by first | exact .inl rfl | exact .inr (.inl rfl) | exact .inr (.inr rfl)) (pa_cons (pv 2) (pa_cons (pe_cx c_settled hr (by decide) passN (by rfl) (pa_cons (pv 6) pa_nil)) pa_nil))))) pa_nil)))
 (pss_one (ps_ret (pe_mkX k_Verdict hr (by decide) (passes_call (takes_of rfl rfl rfl rfl) (fun _ _ _ _ h => h)) (by rfl) (pa_cons (pe_lst pa_nil) (pa_cons (pe_cx c_first_failing hr (by decide) (passes_call (takes_of rfl rfl rfl rfl) (fun _ _ _ _ h => h)) (by rfl) (pa_cons (pv 0) (pa_cons (pv 1) (pa_cons (pv 2) (pa_cons (pv 3) (pa_cons (pe_lst pa_nil) (pa_cons (pe_cx c_start_node hr (by decide) (passes_call (takes_of rfl rfl rfl rfl) (fun _ _ _ _ h => h)) (by rfl) (pa_cons (pv 2) pa_nil)) pa_nil))))))) pa_nil))))) pss_nil)
 (pss_one (ps_ret (pe_mkX k_Verdict hr (by decide) (passes_call (takes_of rfl rfl rfl rfl) (fun _ _ _ _ h => h)) (by rfl) (pa_cons (pe_callB (show CallR _ _ (rSortData K) from cr_sortData (units65 hr)) (by rfl) B.sorted (by decide +kernel) (pa_cons (pe_lc2 (own := [("level", 7), ("node", 6)]) (vs1 := [6]) (g := gName 7) (g1 := gName 6) (tt := tYes) (tt1 := tYes) rfl sc_verdict_on.nd (show PI _ _ _ (iList K _) from pi_list (pv 5)) (blkOk_by (N := ["crew", "scheme", "yards", "fails", "yard", "levels", "node", "level"]) (sc := defScope st_verdict_on) (by decide +kernel)) (by decide) (fun _ _ _ _ _ => (pg_name (i := 7) sc_verdict_on.nd rfl (.inl rfl))) (fun _ _ _ _ _ => pts_nil) (fun _ _ _ _ _ => (pi_keysN (pv 7))) (fun _ _ _ _ _ => (pg_name (i := 6) sc_verdict_on.nd rfl (.inl rfl))) (fun _ _ _ _ _ => pts_nil) (fun _ _ _ _ _ => (pv 6))) pa_nil)) (pa_cons pe_non pa_nil)))))))), by (exists "l"), ?_⟩
  clear hr
  rintro as Q X h
  rcases as with _ | ⟨a, _ | ⟨b, _ | ⟨c, _ | ⟨d, _ | ⟨_, _⟩⟩⟩⟩⟩ <;> try exact h.elim
  obtain ⟨ws, rs, ys, fa, p, rfl, rfl, h2, rfl, hp, hr, hl, hw, hy, q⟩ := h
  rcases h2 with rfl | rfl
  all_goals
    (exists "e")
    refine for_typed ys iD (fun done rest s => (∀ yd ∈ done, okY ws.length yd = true) ∧ ∃ x4 : SV, fr x4 ∧ s = [.o false (crewO CC ws), .o false (planO CS rs), _, .d (.sc (.ref fa)), x4, .no, .no, .no])
      ⟨fun yd h => (by cases h), .no, trivial, rfl⟩ (fun done yd rest s N e hJ hN => ?_) fun s hJ => ?_
    · obtain ⟨hd, x4, k4, rfl⟩ := hJ
      refine ⟨by first | trivial | rfl | simp [kT, dwipe], ?_⟩
      have hym : yd ∈ ys := by rw [e]; simp
      (exists "e", k4)
      refine ⟨ws, yd, rfl, rfl, by omega, hy yd hym, ?_⟩
      by_cases ho : okY ws.length yd = true
      · rw [if_pos ho]
        (exists "e", k4)
        refine hN _ ⟨fun z hz => ?_, .d (iD yd), trivial, rfl⟩
        rcases List.mem_append.mp hz with hz | hz
        · exact hd z hz
        · rw [List.mem_singleton.mp hz]
          exact ho
      · rw [if_neg ho]
        rw [if_neg (by rw [List.all_eq_true]; exact fun z => ho (z yd hym))] at q
        (exists "e", k4)
        exact q
    · obtain ⟨hd, x4, k4, rfl⟩ := hJ
      refine ⟨by first | trivial | rfl | simp [kT, dwipe], ?_⟩
      rw [if_pos (List.all_eq_true.mpr hd)] at q
      (exists "e", k4)
      refine ⟨ws, rs, ys, rfl, .inl rfl, by first | exact .inl rfl | exact .inr rfl, hr, hl, hw, ?_⟩
      (exists "e", k4)
      rw [lvl_last, lvD_nd]
      have hL := lvK_le (mk := mkOf ws) (rs := rs) (ys := ys) hw (Nat.le_refl ws.length)
      have hOk := lvK_ok (mk := mkOf ws) (rs := rs) (ys := ys) (sz := ws.length) ws.length
      (exists "e", k4)
      try rw [List.map_map]
      refine lc_map (lvK (mkOf ws) rs ys ws.length ws.length) ((fun x : D × D => x.1) ∘ ndE) (fun p' => D.bl (p ys (settledN p'.1))) (by first | trivial | rfl | simp [kT, dwipe]) (by omega) (fun p' hp' T1 h1 => ?_) ?_
      · (exists "e", k4, Function.comp)
        rw [hp]
        have hn := hOk p' hp'
        (exists "e", k4, Function.comp)
        refine ⟨p'.1, rfl, by rw [hn.l1, hn.l2], by rw [hn.l1]; exact hl, ?_⟩
        (exists "e", k4, Function.comp)
        refine ⟨ys, settledN p'.1, by first | exact .inl rfl | exact .inr rfl, rfl, hl, by simp [settledN, hn.l1, hn.l2], ?_⟩
        (exists "e", k4, Function.comp)
        exact h1 _ (by simp [okW, okSet, dwipe]) (by first | rfl | simp [dwipe])
      · (exists "e", k4)
        by_cases hb : ((lvK (mkOf ws) rs ys ws.length ws.length).any fun n => p ys (settledN n.1)) = true
        · have ev : verdM (mkOf ws) rs ys ws.length p = ([], oD (ffM (mkOf ws) rs ys ws.length p 10 [] (startN ys))) := by unfold verdM; rw [if_pos hb]
          rw [ev] at q
          rw [if_pos hb]
          refine ⟨ys, by first | exact .inl rfl | exact .inr rfl, hl, ?_⟩
          (exists "e", k4)
          refine ⟨ws, rs, ys, fa, p, [], startN ys, rfl, rfl, by first | exact .inl rfl | exact .inr rfl, rfl, hp, rfl, rfl, hr, hl, by omega, startN_ok _ _, by simp [startN], by simp, by have := unplN_len ws.length (startN ys).1; omega, ?_⟩
          (exists "e", k4)
          refine ⟨[], _, rfl, rfl, rfl, ?_⟩
          (exists "e", k4)
          exact q
        · have ev : verdM (mkOf ws) rs ys ws.length p = (sortDt ((((List.range (ws.length + 1)).flatMap fun k => lvK (mkOf ws) rs ys ws.length k).map (·.1)).map nD), .non) := by unfold verdM; rw [if_neg hb]
          rw [ev] at q
          rw [if_neg hb]
          (exists "e", k4)
          refine ⟨by omega, by omega, (List.range (ws.length + 1)).map fun k => (lvK (mkOf ws) rs ys ws.length k).map ndE, _, by rw [List.map_map] <;> rfl, ?_, ?_⟩
          · rw [List.map_map]
            refine Nat.le_trans ?_ (lvK_sum hw (mk := mkOf ws) (rs := rs) (ys := ys))
            simp [Function.comp_def]
          · have e1 : ((List.range (ws.length + 1)).map fun k => (lvK (mkOf ws) rs ys ws.length k).map ndE).flatMap (fun l => l.map fun x => x.1) = (((List.range (ws.length + 1)).flatMap fun k => lvK (mkOf ws) rs ys ws.length k).map (·.1)).map nD := by
              rw [List.flatMap_map, List.map_flatMap, List.map_flatMap]
              congr 1
              funext k
              simp [Function.comp_def]
            rw [e1]
            (exists "e", k4)
            refine ⟨okSort_nD _, ?_⟩
            (exists "e", k4)
            refine ⟨_, _, rfl, rfl, rfl, ?_⟩
            (exists "e", k4)
            exact q
end
end DL
set_option Elab.async false
set_option linter.all false
set_option maxRecDepth 100000
set_option maxHeartbeats 400000
namespace DL
open PySem PySem.Spec PyProof.Rows L2 Mv
section
variable {P : Program} {w : World} {K : PySem.W.Frag} {mg : Str → Option Value} {base : Heap} {T : List (Addr × Str)} {CC CS CV cR cY cM fM fR fU : Addr} {PF : Addr → Option Pf}
def sp_needless (CC CS CV cY : Addr) (PF : Addr → Option Pf) (fU : Addr) : DSp := fun as Q X => match as with
  | [a, b, c] => ∃ (ws : List Wk) (rs : List Ru) (ys : List (List Int)), a = .o false (crewO CC ws) ∧ b = .o false (planO CS rs) ∧ sq c (ys.map iD) ∧ rulesOk rs ∧ ys.length ≤ 1000 ∧ ws.length ≤ 5 ∧ (∀ yd ∈ ys, yd.length ≤ 1000) ∧
    (if (ys.all fun yd => okY ws.length yd) = true then Q (.o (verdO CV (verdM (mkOf ws) rs ys ws.length needlessP).1 (verdM (mkOf ws) rs ys ws.length needlessP).2)) [a, b, cn c] else X ⟨.ref cY, []⟩ [a, b, cn c])
  | _ => False
theorem ok_needless {f : Addr} {fd : FuncData} (F : Fun K "needless" "needless" st_needless f fd) (B : Bd mg) (c_verdict_on : CalX (L2.CX P w) P w K mg base 18 "verdict_on" (liftSp T K (sp_verdict_on CC CS CV cY PF))) (gU : mg "moves_needlessly" = some (.ref fU)) (hpU : PF fU = some needlessP) : FnOk P w K mg base (L2.CX P w) 19 f fd ["crew", "scheme", "yards"] (liftSp T K (sp_needless CC CS CV cY PF fU)) := by
  refine fnD F sc_needless (fun as Q X h => by rcases as with _ | ⟨_, _ | ⟨_, _ | ⟨_, _ | ⟨_, _⟩⟩⟩⟩ <;> first | rfl | exact h.elim) fun cdv Ar outer s H E hr => ⟨_, _, (pss_one (ps_ret (pe_cx c_verdict_on hr (by decide) (passes_call (takes_of rfl rfl rfl rfl) (fun _ _ _ _ h => h)) (by rfl) (pa_cons (pv 0) (pa_cons (pv 1) (pa_cons (pv 2) (pa_cons (pe_glob (v := .ref fU) (by rfl) gU rfl) pa_nil))))))), by (exists "l"), ?_⟩
  clear hr
  rintro as Q X h
  rcases as with _ | ⟨a, _ | ⟨b, _ | ⟨c, _ | ⟨_, _⟩⟩⟩⟩ <;> try exact h.elim
  obtain ⟨ws, rs, ys, rfl, rfl, h2, hr, hl, hw, hy, q⟩ := h
  rcases h2 with rfl | rfl
  all_goals
    (exists "e")
    refine ⟨ws, rs, ys, fU, needlessP, rfl, rfl, by first | exact .inl rfl | exact .inr rfl, rfl, hpU, hr, hl, hw, hy, ?_⟩
    by_cases ho : (ys.all fun yd => okY ws.length yd) = true
    · rw [if_pos ho] at q ⊢
      (exists "e")
      exact q
    · rw [if_neg ho] at q ⊢
      (exists "e")
      exact q
end
end DL
set_option Elab.async false
set_option linter.all false
set_option maxRecDepth 100000
set_option maxHeartbeats 400000
namespace DL
open PySem PySem.Spec PyProof.Rows L2 Mv
section
variable {P : Program} {w : World} {K : PySem.W.Frag} {mg : Str → Option Value} {base : Heap} {T : List (Addr × Str)} {CC CS CV cR cY cM fM fR fU : Addr} {PF : Addr → Option Pf}
def pnD (p : List Int × Int) : D := .tup [iD p.1, .int p.2]
def sp_is_needless : DSp := fun as Q X => match as with
  | [a, b] => ∃ (p q : List Int × Int), a = .d (pnD p) ∧ b = .d (pnD q) ∧ Q (.d (.bl (isNdl p q))) [.no, .no]
  | _ => False
theorem ok_is_needless {f : Addr} {fd : FuncData} (F : Fun K "is_needless" "is_needless" st_is_needless f fd) (B : Bd mg)  : FnOk P w K mg base (L2.CX P w) 1 f fd ["one", "other"] (liftSp T K sp_is_needless) := by
  refine fnD F sc_is_needless (fun as Q X h => by rcases as with _ | ⟨_, _ | ⟨_, _ | ⟨_, _⟩⟩⟩ <;> first | rfl | exact h.elim) fun cdv Ar outer s H E hr => ⟨_, _, (pss_cons (ps_asg (pv 0) (show PG _ _ (gTup K 2 _) from pg_tup rfl (pgs_cons (pg_name (i := 2) sc_is_needless.nd rfl (.inl rfl)) (pgs_cons (pg_name (i := 3) sc_is_needless.nd rfl (.inl rfl)) pgs_nil))))
 (pss_cons (ps_asg (pv 1) (show PG _ _ (gTup K 2 _) from pg_tup rfl (pgs_cons (pg_name (i := 4) sc_is_needless.nd rfl (.inl rfl)) (pgs_cons (pg_name (i := 5) sc_is_needless.nd rfl (.inl rfl)) pgs_nil))))
 (pss_one (ps_ret (pe_and (pe_cmpR op_ne (pv 3) (pv 5) (nomark _)) (pe_and (pe_cmpR (show OpR _ _ (rIn K false) from op_in_seq) (pv 3) (pv 4) (by rfl)) (pe_one (pe_cmpR (show OpR _ _ (rIn K false) from op_in_seq) (pv 5) (pv 2) (by rfl))))))))), by (exists "l"), ?_⟩
  clear hr
  rintro as Q X h
  rcases as with _ | ⟨a, _ | ⟨b, _ | ⟨_, _⟩⟩⟩ <;> try exact h.elim
  obtain ⟨p, q0, rfl, rfl, q⟩ := h
  unfold isNdl at q
  (exists "e", pnD, iD)
  by_cases h1 : p.2 = q0.2
  · rw [if_neg (by simp [h1])]
    simpa [h1] using q
  · rw [if_pos (by simp [h1])]
    by_cases h2 : p.2 ∈ q0.1
    · rw [if_pos (by simp [h2])]
      simpa [h1, h2] using q
    · rw [if_neg (by simp [h2])]
      simpa [h1, h2] using q
end
end DL
set_option Elab.async false
set_option linter.all false
set_option maxRecDepth 100000
set_option maxHeartbeats 400000
namespace DL
open PySem PySem.Spec PyProof.Rows L2 Mv
section
variable {P : Program} {w : World} {K : PySem.W.Frag} {mg : Str → Option Value} {base : Heap} {T : List (Addr × Str)} {CC CS CV cR cY cM fM fR fU : Addr} {PF : Addr → Option Pf}
theorem ok_moves_needlessly {f : Addr} {fd : FuncData} (F : Fun K "moves_needlessly" "moves_needlessly" st_moves_needlessly f fd) (B : Bd mg) (c_is_needless : CalX (L2.CX P w) P w K mg base 1 "is_needless" (liftSp T K sp_is_needless)) : FnOk P w K mg base (L2.CX P w) 2 f fd ["yards", "held"] (liftSp T K sp_moves_needlessly) := by
  refine fnD F sc_moves_needlessly (fun as Q X h => by rcases as with _ | ⟨_, _ | ⟨_, _ | ⟨_, _⟩⟩⟩ <;> first | rfl | exact h.elim) fun cdv Ar outer s H E hr => ⟨_, _, (pss_cons (ps_set (i := 2) sc_moves_needlessly.nd rfl (.inl rfl) (show PE _ _ (tCB (rListZip K) _) from pe_listZip rfl (by rfl) B.list (by rfl) B.zip (pa_cons (pv 0) (pa_cons (pv 1) pa_nil))))
 (pss_one (ps_ret (pe_callB (show CallR _ _ (rAny K) from cr_any rfl) (by rfl) B.any (by decide +kernel) (pa_cons (pe_lc (own := [("one", 3), ("other", 4)]) (g := gTup K 2 (gCons (gName 3) (gCons (gName 4) gNil))) (tt := tYes) rfl sc_moves_needlessly.nd (show PI _ _ _ (RZ.iZipA K _) from RZ.pi_zipA (by rfl) B.zip (pa_cons (pv 2) (pa_cons (pe_slice (show SlR _ (rSlL K) from sl_list) (pv 2) (po_some pe_int) po_none) pa_nil))) (blkOk_by (N := ["yards", "held", "pairs", "one", "other"]) (sc := defScope st_moves_needlessly) (by decide +kernel)) (fun _ _ _ _ _ => (show PG _ _ (gTup K 2 _) from pg_tup rfl (pgs_cons (pg_name (i := 3) sc_moves_needlessly.nd rfl (.inl rfl)) (pgs_cons (pg_name (i := 4) sc_moves_needlessly.nd rfl (.inl rfl)) pgs_nil)))) (fun _ _ _ _ _ => pts_nil) (fun _ _ _ _ _ => (pe_cx c_is_needless hr (by decide) passN (by rfl) (pa_cons (pv 3) (pa_cons (pv 4) pa_nil))))) pa_nil))))), by (exists "l"), ?_⟩
  clear hr
  rintro as Q X h
  rcases as with _ | ⟨a, _ | ⟨b, _ | ⟨_, _⟩⟩⟩ <;> try exact h.elim
  obtain ⟨ys, held, h2, rfl, hl, hl2, q⟩ := h
  rcases h2 with rfl | rfl
  all_goals
    (exists "e", iD)
    refine ⟨by simp [hl2], ?_⟩
    rw [zipL_map, cutD_drop1, ← List.map_drop, zipL_map]
    refine lc_map ((ys.zip held).zip ((ys.zip held).drop 1)) _ (fun p => D.bl (isNdl p.1 p.2)) (by first | trivial | rfl | simp [kT, dwipe]) (by simp [List.length_zip]; omega) (fun p hp T1 h1 => ?_) ?_
    · (exists "e")
      refine ⟨p.1, p.2, rfl, rfl, ?_⟩
      (exists "e")
      exact h1 _ (by simp [okW, okSet, dwipe]) (by first | rfl | simp [dwipe])
    · (exists "e")
      unfold needlessP at q
      rw [ndl2_any] at q
      exact q
end
end DL
set_option Elab.async false
set_option linter.all false
set_option maxRecDepth 100000
set_option maxHeartbeats 400000
namespace DL
open PySem PySem.Spec PyProof.Rows L2 Mv
section
variable {P : Program} {w : World} {K : PySem.W.Frag} {mg : Str → Option Value} {base : Heap} {T : List (Addr × Str)} {CC CS CV cR cY cM fM fR fU : Addr} {PF : Addr → Option Pf}
def sp__law_needless : DSp := fun as Q X => match as with
  | [a, b] => ∃ (l : List Int) (ys : List (List Int)), (sq a (l.map D.int) ∨ a = .d (.tup (l.map D.int))) ∧ sq b (ys.map iD) ∧ l.length = ys.length ∧ l.length ≤ 4000 ∧ Q (.d (.bl (ndl2 ys l))) [cn a, cn b]
  | _ => False
theorem ok__law_needless {f : Addr} {fd : FuncData} (F : Fun K "_law_needless" "_law_needless" st__law_needless f fd) (B : Bd mg)  : FnOk P w K mg base (L2.CX P w) 4 f fd ["_law_trail", "_law_spots_here"] (liftSp T K sp__law_needless) := by
  refine fnD F sc__law_needless (fun as Q X h => by rcases as with _ | ⟨_, _ | ⟨_, _ | ⟨_, _⟩⟩⟩ <;> first | rfl | exact h.elim) fun cdv Ar outer s H E hr => ⟨_, _, (pss_cons (ps_for (passes_of rfl) rfl (pi_range1 (by rfl) B.range (pa_cons (pe_op op_sub (pe_callB (show CallR _ _ (rLenSq K) from call_len_seq) (by rfl) B.len PySem.boot_len (pa_cons (pv 0) pa_nil)) pe_int) pa_nil)) (pg_name (i := 2) sc__law_needless.nd rfl (.inl rfl))
 (pss_cons (ps_set (i := 3) sc__law_needless.nd rfl (.inl rfl) (pe_ix (show IxR _ (rIxM K) from ix_mix) (pv 0) (pv 2) (fun _ _ => rfl)))
 (pss_cons (ps_set (i := 4) sc__law_needless.nd rfl (.inl rfl) (pe_ix (show IxR _ (rIxM K) from ix_mix) (pv 0) (pe_op op_add (pv 2) pe_int) (fun _ _ => rfl)))
 (pss_one (ps_if (PW.pt (pw_and (pt_cmpR op_ne (pv 3) (pv 4) (nomark _)) (pw_and (pt_cmpR (show OpR _ _ (rIn K false) from op_in_seq) (pv 3) (pe_ix (show IxR _ (rIxL K) from ix_list) (pv 1) (pe_op op_add (pv 2) pe_int) (fun _ _ => rfl)) (by rfl)) (pw_and1 (pt_cmpR (show OpR _ _ (rIn K false) from op_in_seq) (pv 4) (pe_ix (show IxR _ (rIxL K) from ix_list) (pv 1) (pv 2) (fun _ _ => rfl)) (by rfl))))))
 (pss_one (ps_ret pe_bl)) pss_nil)))))
 (pss_one (ps_ret pe_bl))), by (exists "l"), ?_⟩
  clear hr
  rintro as Q X h
  rcases as with _ | ⟨a, _ | ⟨b, _ | ⟨_, _⟩⟩⟩ <;> try exact h.elim
  obtain ⟨l, ys, h2, h3, he, hl, q⟩ := h
  rcases h2 with (rfl | rfl) | rfl <;> rcases h3 with rfl | rfl
  all_goals
    (exists "e")
    refine ⟨by simp; omega, by simp; omega, ?_⟩
    refine for_rng (fun k s => (∀ (j : Nat) (b a : List Int) (x y : Int), j < k → ys[j]? = some b → ys[j + 1]? = some a → l[j]? = some x → l[j + 1]? = some y → ¬ (x ≠ y ∧ x ∈ a ∧ y ∈ b)) ∧ ∃ x2 x3 x4 : SV, fr x2 ∧ fr x3 ∧ fr x4 ∧ s = [_, _, x2, x3, x4])
      ⟨fun j b a x y h => (by omega), .no, .no, .no, trivial, trivial, trivial, rfl⟩ (fun k s N hk hJ hN => ⟨by first | trivial | rfl | simp [kT, dwipe], ?_⟩) fun s hJ => ⟨by first | trivial | rfl | simp [kT, dwipe], ?_⟩
    · obtain ⟨hd, x2, x3, x4, k2, k3, k4, rfl⟩ := hJ
      have hk2 : k + 1 < l.length := by simp at hk; omega
      obtain ⟨o, e1⟩ : ∃ o, l[k]? = some o := ⟨_, List.getElem?_eq_getElem (by omega)⟩
      obtain ⟨n, e2⟩ : ∃ n, l[k + 1]? = some n := ⟨_, List.getElem?_eq_getElem hk2⟩
      obtain ⟨b0, e5⟩ : ∃ o, ys[k]? = some o := ⟨_, List.getElem?_eq_getElem (by omega)⟩
      obtain ⟨a0, e6⟩ : ∃ n, ys[k + 1]? = some n := ⟨_, List.getElem?_eq_getElem (by omega)⟩
      have e3 : ((k : Int) + 1) = ((k + 1 : Nat) : Int) := by omega
      have e4 : ((0 : Int) + (k : Int)) = (k : Int) := by omega
      (exists "e", k2, k3, k4, e3, e4, atI_map, atI_nat, List.getElem?_map, e1, e2, e5, e6, Option.map_some, iD)
      have fin : ¬ (o ≠ n ∧ o ∈ a0 ∧ n ∈ b0) → N [_, _, .d (.int (k : Nat)), .d (.int o), .d (.int n)] := fun hc => hN _ ⟨fun j b a x y hj h1 h2 h3 h4 => by
        by_cases ej : j = k
        · subst ej
          rw [e5] at h1
          rw [e6] at h2
          rw [e1] at h3
          rw [e2] at h4
          cases h1
          cases h2
          cases h3
          cases h4
          exact hc
        · exact hd j b a x y (by omega) h1 h2 h3 h4, .d (.int (k : Nat)), .d (.int o), .d (.int n), trivial, trivial, trivial, rfl⟩
      by_cases c1 : o = n
      · rw [if_neg (by simp [c1])]
        exact fin fun z => z.1 c1
      · rw [if_pos (by simp [c1])]
        by_cases c2 : o ∈ a0
        · rw [if_pos (by simp [c2])]
          by_cases c3 : n ∈ b0
          · rw [if_pos (by simp [c3])]
            rw [(ndl2_iff ys l).mpr ⟨k, b0, a0, o, n, e5, e6, e1, e2, c1, c2, c3⟩] at q
            exact q
          · rw [if_neg (by simp [c3])]
            exact fin fun z => c3 z.2.2
        · rw [if_neg (by simp [c2])]
          exact fin fun z => c2 z.2.1
    · obtain ⟨hd, x2, x3, x4, k2, k3, k4, rfl⟩ := hJ
      have e0 : ndl2 ys l = false := by
        rw [← Bool.not_eq_true, ndl2_iff]
        rintro ⟨k, b, a, x, y, h1, h2, h3, h4, h5⟩
        exact hd k b a x y (by have := (List.getElem?_eq_some_iff.mp h4).1; simp; omega) h1 h2 h3 h4 h5
      rw [e0] at q
      (exists "e", k2, k3, k4)
      exact q
end
end DL
set_option Elab.async false
set_option linter.all false
set_option maxRecDepth 100000
set_option maxHeartbeats 400000
namespace DL
open PySem PySem.Spec PyProof.Rows L2 Mv
section
variable {P : Program} {w : World} {K : PySem.W.Frag} {mg : Str → Option Value} {base : Heap} {T : List (Addr × Str)} {CC CS CV cR cY cM fM fR fU : Addr} {PF : Addr → Option Pf}
theorem getN_ty (L : List (List Int × Int)) (t : List Int) : getN (L.map tyE) (iD t) = (getA L t).map D.int := getN_enc iD D.int nk_iD_inj L t
theorem putN_ty (L : List (List Int × Int)) (t : List Int) (c : Int) : putDN (L.map tyE) (iD t) (.int c) = (putA L t c).map tyE := putN_enc iD D.int nk_iD_inj L t c
def sp_tally (CC CS cY : Addr) : DSp := fun as Q X => match as with
  | [a, b, c] => ∃ (ws : List Wk) (rs : List Ru) (ys : List (List Int)), a = .o false (crewO CC ws) ∧ pl b (planO CS rs) ∧ sq c (ys.map iD) ∧ rulesOk rs ∧ ys.length ≤ 1000 ∧ 1 ≤ ws.length ∧ ws.length ≤ 5 ∧ (∀ yd ∈ ys, yd.length ≤ 1000) ∧
    (if (ys.all fun yd => okY ws.length yd) = true then Q (.o (.lst ((tallyM (mkOf ws) rs ys ws.length).map tyD))) [a, cn b, cn c] else X ⟨.ref cY, []⟩ [a, cn b, cn c])
  | _ => False
theorem ok_tally {f : Addr} {fd : FuncData} (F : Fun K "tally" "tally" st_tally f fd) (B : Bd mg) (c_refuse_yard : CalX (L2.CX P w) P w K mg base 4 "refuse_yard" (liftSp T K (sp_refuse_yard CC cY))) (c_settled : CalX (L2.CX P w) P w K mg base 1 "settled" (liftSp T K sp_settled)) (c_nodes_by_length : CalX (L2.CX P w) P w K mg base 8 "nodes_by_length" (liftSp T K (sp_nodes_by_length CC CS))) : FnOk P w K mg base (L2.CX P w) 9 f fd ["crew", "scheme", "yards"] (liftSp T K (sp_tally CC CS cY)) := by
  refine fnD F sc_tally (fun as Q X h => by rcases as with _ | ⟨_, _ | ⟨_, _ | ⟨_, _ | ⟨_, _⟩⟩⟩⟩ <;> first | rfl | exact h.elim) fun cdv Ar outer s H E hr => ⟨_, _, (pss_cons (ps_for (passes_of rfl) rfl (show PI _ _ _ (iList K _) from pi_list (pv 2)) (pg_name (i := 3) sc_tally.nd rfl (.inl rfl))
 (pss_one (ps_expr (pe_cx c_refuse_yard hr (by decide) (passes_call (takes_of rfl rfl rfl rfl) (fun _ _ _ _ h => h)) (by rfl) (pa_cons (pv 0) (pa_cons (pv 3) pa_nil))))))
 (pss_cons (ps_set (i := 4) sc_tally.nd rfl (.inl rfl) pe_dnewN)
 (pss_cons (ps_for (passes_of rfl) rfl (pi_itemsN (pe_ix (show IxR _ (rIxL K) from ix_list) (pe_cx c_nodes_by_length hr (by decide) (passes_call (takes_of rfl rfl rfl rfl) (fun _ _ _ _ h => h)) (by rfl) (pa_cons (pv 0) (pa_cons (pv 1) (pa_cons (pv 2) pa_nil)))) (pe_un un_neg pe_int) (fun _ _ => rfl))) (show PG _ _ (gTup K 2 _) from pg_tup rfl (pgs_cons (pg_name (i := 5) sc_tally.nd rfl (.inl rfl)) (pgs_cons (pg_name (i := 6) sc_tally.nd rfl (.inl rfl)) pgs_nil)))
 (pss_cons (ps_set (i := 7) sc_tally.nd rfl (.inl rfl) (pe_cx c_settled hr (by decide) (passes_call (takes_of rfl rfl rfl rfl) (fun _ _ _ _ h => h)) (by rfl) (pa_cons (pv 5) pa_nil)))
 (pss_one (show PS _ _ (sDPutN K _ _ _) from ps_dputN (units65 hr) (pv 4) (pv 7) (pe_op op_add (show PE _ _ (tDGetN K _ _ _) from pe_dgetN (units65 hr) (pv 4) (pv 7) pe_int ⟨by rfl, by rfl, by rfl, by rfl⟩) (pv 6)) rfl))))
 (pss_one (ps_ret (show PE _ _ (tUn (rSortItems K) _) from pe_sortItems (units65 hr) rfl (pv 4) (by rfl) B.sorted (by decide +kernel))))))), by (exists "l"), ?_⟩
  clear hr
  rintro as Q X h
  rcases as with _ | ⟨a, _ | ⟨b, _ | ⟨c, _ | ⟨_, _⟩⟩⟩⟩ <;> try exact h.elim
  obtain ⟨ws, rs, ys, rfl, hpl, h2, hr, hl, hw1, hw, hy, q⟩ := h
  rcases hpl with rfl | rfl <;> rcases h2 with rfl | rfl
  all_goals
    (exists "e")
    refine for_typed ys iD (fun done rest s => (∀ yd ∈ done, okY ws.length yd = true) ∧ ∃ x3 : SV, fr x3 ∧ s = [.o false (crewO CC ws), _, _, x3, .no, .no, .no, .no])
      ⟨fun yd h => (by cases h), .no, trivial, rfl⟩ (fun done yd rest s N e hJ hN => ?_) fun s hJ => ?_
    · obtain ⟨hd, x3, k3, rfl⟩ := hJ
      refine ⟨by first | trivial | rfl | simp [kT, dwipe], ?_⟩
      have hym : yd ∈ ys := by rw [e]; simp
      (exists "e", k3)
      refine ⟨ws, yd, rfl, rfl, by omega, hy yd hym, ?_⟩
      by_cases ho : okY ws.length yd = true
      · rw [if_pos ho]
        (exists "e", k3)
        refine hN _ ⟨fun z hz => ?_, .d (iD yd), trivial, rfl⟩
        rcases List.mem_append.mp hz with hz | hz
        · exact hd z hz
        · rw [List.mem_singleton.mp hz]
          exact ho
      · rw [if_neg ho]
        rw [if_neg (by rw [List.all_eq_true]; exact fun z => ho (z yd hym))] at q
        (exists "e", k3)
        exact q
    · obtain ⟨hd, x3, k3, rfl⟩ := hJ
      refine ⟨by first | trivial | rfl | simp [kT, dwipe], ?_⟩
      rw [if_pos (List.all_eq_true.mpr hd)] at q
      (exists "e", k3)
      refine ⟨ws, rs, ys, rfl, by first | exact .inl rfl | exact .inr rfl, by first | exact .inl rfl | exact .inr rfl, hr, hl, hw, ?_⟩
      (exists "e", k3)
      rw [lvl_last, lvD_nd]
      have hL := lvK_le (mk := mkOf ws) (rs := rs) (ys := ys) hw (Nat.le_refl ws.length)
      have hOk := lvK_ok (mk := mkOf ws) (rs := rs) (ys := ys) (sz := ws.length) ws.length
      (exists "e", k3)
      rw [List.map_map]
      refine for_typed (lvK (mkOf ws) rs ys ws.length ws.length) ((fun d : D × D => D.tup [d.1, d.2]) ∘ ndE) (fun done rest s => ∃ (x5 x6 x7 : SV), fr x5 ∧ fr x6 ∧ fr x7 ∧ s = [.o false (crewO CC ws), _, _, x3, .o true (.dN ((cntA [] (done.map fun p => (settledN p.1, p.2))).map tyE)), x5, x6, x7])
        ⟨_, _, _, by exact trivial, by exact trivial, by exact trivial, rfl⟩ (fun done p rest s N e hJ hN => ?_) fun s hJ => ?_
      · obtain ⟨x5, x6, x7, k5, k6, k7, rfl⟩ := hJ
        refine ⟨by first | trivial | rfl | simp [kT, dwipe], ?_⟩
        have hp := hOk p (by rw [e]; simp)
        have hdl : done.length ≤ 3125 := by have := congrArg List.length e; rw [List.length_append] at this; omega
        have hcl : (cntA [] (done.map fun p => (settledN p.1, p.2))).length ≤ 3125 := by
          have h1 := congrArg List.length (cntA_keys (done.map fun p => (settledN p.1, p.2)) [])
          rw [List.length_map] at h1
          have h2 := foldA_len (as := (done.map fun p => (settledN p.1, p.2)).map (·.1)) (l := [])
          rw [List.length_map, List.length_map, List.length_nil] at h2
          simp only [List.map_nil] at h1
          omega
        (exists "e", k3, k5, k6, k7, Function.comp)
        refine ⟨p.1, rfl, by rw [hp.l1, hp.l2], by rw [hp.l1]; exact hl, ?_⟩
        (exists "e", k3, k5, k6, k7)
        refine ⟨⟨_, rfl⟩, okKey_iD _, ?_⟩
        rw [getN_ty, getD_int]
        (exists "e", k3, k5, k6, k7)
        refine ⟨okKey_iD _, by rw [List.length_map, sizeLine_eq]; omega, ?_⟩
        rw [putN_ty]
        refine hN _ ⟨.d (nD p.1), .d (.int p.2), .d (iD (settledN p.1)), trivial, trivial, trivial, ?_⟩
        rw [List.map_append]
        unfold cntA
        rw [List.foldl_append]
        rfl
      · obtain ⟨x5, x6, x7, k5, k6, k7, rfl⟩ := hJ
        refine ⟨by first | trivial | rfl | simp [kT, dwipe], ?_⟩
        have he : ∀ l : List (List Int × Int), (l.map tyE).map itD = l.map tyD := fun l => by
          rw [List.map_map]
          rfl
        have hne : tallyC (mkOf ws) rs ys ws.length ≠ [] := fun z => by
          obtain ⟨h0, hh0⟩ : ∃ h, h ∈ hdL ws.length ws.length := ⟨idL ws.length, (hdL_mem _ _ _).mpr ⟨by simp, idL_nodup _, fun w hw => idL_mem.mp hw⟩⟩
          have := (tallyC_keys (mk := mkOf ws) (rs := rs) (ys := ys) (n := ws.length) _).mpr ⟨h0, hh0, rfl⟩
          rw [z] at this
          cases this
        (exists "e", k3, k5, k6, k7, he)
        refine ⟨fun z => hne (by simpa [tallyC] using z), okSort_tyD _, ?_⟩
        rw [sortDt_srt]
        (exists "e", k3, k5, k6, k7)
        exact q
end
end DL
set_option Elab.async false
set_option linter.all false
set_option maxRecDepth 100000
set_option maxHeartbeats 400000
namespace DL
open PySem PySem.Spec PyProof.Rows L2 Mv
section
variable {P : Program} {w : World} {K : PySem.W.Frag} {mg : Str → Option Value} {base : Heap} {T : List (Addr × Str)} {CC CS CV cR cY cM fM fR fU : Addr} {PF : Addr → Option Pf}
def sp_moved_counts (CC CS cY : Addr) : DSp := fun as Q X => match as with
  | [a, b, c, d] => ∃ (ws : List Wk) (rs : List Ru) (b0 a0 : List Int), a = .o false (crewO CC ws) ∧ b = .o false (planO CS rs) ∧ c = .d (iD b0) ∧ d = .d (iD a0) ∧ rulesOk rs ∧ 1 ≤ ws.length ∧ ws.length ≤ 5 ∧ b0.length ≤ 1000 ∧ a0.length ≤ 1000 ∧
    (if (okY ws.length b0 && okY ws.length a0) = true then Q (.d (.tup [.int (mvS (mkOf ws) rs ws.length b0 a0), .int (mvS (mkOf ws) rs ws.length b0 a0 - idS (mkOf ws) rs ws.length b0 a0), .int (idS (mkOf ws) rs ws.length b0 a0)])) [a, b, .no, .no] else X ⟨.ref cY, []⟩ [a, b, .no, .no])
  | _ => False
theorem ok_moved_counts {f : Addr} {fd : FuncData} (F : Fun K "moved_counts" "moved_counts" st_moved_counts f fd) (B : Bd mg) (c_tally : CalX (L2.CX P w) P w K mg base 9 "tally" (liftSp T K (sp_tally CC CS cY))) (c_is_needless : CalX (L2.CX P w) P w K mg base 1 "is_needless" (liftSp T K sp_is_needless)) : FnOk P w K mg base (L2.CX P w) 10 f fd ["crew", "scheme", "before", "after"] (liftSp T K (sp_moved_counts CC CS cY)) := by
  refine fnD F sc_moved_counts (fun as Q X h => by rcases as with _ | ⟨_, _ | ⟨_, _ | ⟨_, _ | ⟨_, _ | ⟨_, _⟩⟩⟩⟩⟩ <;> first | rfl | exact h.elim) fun cdv Ar outer s H E hr => ⟨_, _, (pss_cons (ps_set (i := 4) sc_moved_counts.nd rfl (.inl rfl) pe_int)
 (pss_cons (ps_set (i := 5) sc_moved_counts.nd rfl (.inl rfl) pe_int)
 (pss_cons (ps_for (passes_of rfl) rfl (show PI _ _ _ (iList K _) from pi_list (pe_cx c_tally hr (by decide) (passes_call (takes_of rfl rfl rfl rfl) (fun _ _ _ _ h => h)) (by rfl) (pa_cons (pv 0) (pa_cons (pv 1) (pa_cons (pe_lst (pa_cons (pv 2) (pa_cons (pv 3) pa_nil))) pa_nil))))) (show PG _ _ (gTup K 2 _) from pg_tup rfl (pgs_cons (show PG _ _ (gTup K 2 _) from pg_tup rfl (pgs_cons (pg_name (i := 6) sc_moved_counts.nd rfl (.inl rfl)) (pgs_cons (pg_name (i := 7) sc_moved_counts.nd rfl (.inl rfl)) pgs_nil))) (pgs_cons (pg_name (i := 8) sc_moved_counts.nd rfl (.inl rfl)) pgs_nil)))
 (pss_cons (ps_if (pt_cmpR op_ne (pv 6) (pv 7) (nomark _))
 (pss_one (ps_set (i := 4) sc_moved_counts.nd rfl (.inl rfl) (pe_op op_add (pv 4) (pv 8)))) pss_nil)
 (pss_one (ps_if (pt_val (pe_cx c_is_needless hr (by decide) (passes_call (takes_of rfl rfl rfl rfl) (fun _ _ _ _ h => h)) (by rfl) (pa_cons (pe_tup (pa_cons (pv 2) (pa_cons (pv 6) pa_nil))) (pa_cons (pe_tup (pa_cons (pv 3) (pa_cons (pv 7) pa_nil))) pa_nil))))
 (pss_one (ps_set (i := 5) sc_moved_counts.nd rfl (.inl rfl) (pe_op op_add (pv 5) (pv 8)))) pss_nil))))
 (pss_one (ps_ret (pe_tup (pa_cons (pv 4) (pa_cons (pe_op op_sub (pv 4) (pv 5)) (pa_cons (pv 5) pa_nil))))))))), by (exists "l"), ?_⟩
  clear hr
  rintro as Q X h
  rcases as with _ | ⟨a, _ | ⟨b, _ | ⟨c, _ | ⟨d, _ | ⟨_, _⟩⟩⟩⟩⟩ <;> try exact h.elim
  obtain ⟨ws, rs, b0, a0, rfl, rfl, rfl, rfl, hr, hw1, hw, hb, ha, q⟩ := h
  (exists "e")
  refine ⟨ws, rs, [b0, a0], rfl, .inl rfl, .inl rfl, hr, by simp, hw1, hw, fun yd h => by simp at h; rcases h with rfl | rfl <;> assumption, ?_⟩
  by_cases ho : (okY ws.length b0 && okY ws.length a0) = true
  · rw [if_pos ho] at q
    rw [if_pos (by simpa using ho)]
    (exists "e")
    refine for_typed (tallyM (mkOf ws) rs [b0, a0] ws.length) tyD (fun done rest s => ∃ (x6 x7 x8 : SV), fr x6 ∧ fr x7 ∧ fr x8 ∧ s = [.o false (crewO CC ws), .o false (planO CS rs), .d (iD b0), .d (iD a0), .d (.int (wsum mvF done)), .d (.int (wsum (idF b0 a0) done)), x6, x7, x8])
      ⟨.no, .no, .no, trivial, trivial, trivial, rfl⟩ (fun done p rest s N e hJ hN => ?_) fun s hJ => ?_
    · obtain ⟨x6, x7, x8, k6, k7, k8, rfl⟩ := hJ
      refine ⟨by first | trivial | rfl | simp [kT, dwipe], ?_⟩
      obtain ⟨r, _, er⟩ := tallyM_mem (p := p) (by rw [e]; simp)
      obtain ⟨t, m⟩ := p
      obtain ⟨x, y, et⟩ : ∃ x y, t = [x, y] := ⟨_, _, er.symm⟩
      subst et
      have hN' : ∀ mv idl : Int, mv = wsum mvF done + m * mvF [x, y] → idl = wsum (idF b0 a0) done + m * idF b0 a0 [x, y] → N [.o false (crewO CC ws), .o false (planO CS rs), .d (iD b0), .d (iD a0), .d (.int mv), .d (.int idl), .d (.int x), .d (.int y), .d (.int m)] := fun mv idl e1 e2 => by
        refine hN _ ⟨.d (.int x), .d (.int y), .d (.int m), trivial, trivial, trivial, ?_⟩
        rw [wsum_app, wsum_app, wsum_cons, wsum_cons, e1, e2]
        show _ = [_, _, _, _, SV.d (D.int (_ + (_ + 0))), SV.d (D.int (_ + (_ + 0))), _, _, _]
        rw [Int.add_zero, Int.add_zero]
      (exists "e", k6, k7, k8, tyD, iD)
      by_cases hxy : x = y
      · rw [if_neg (by simp [hxy])]
        refine ⟨(b0, x), (a0, y), rfl, rfl, ?_⟩
        have hz : isNdl (b0, x) (a0, y) = false := by simp [isNdl, hxy]
        rw [hz]
        (exists "e", k6, k7, k8)
        exact hN' _ _ (by simp [mvF, hxy]) (by simp [idF, hz])
      · rw [if_pos (by simp [hxy])]
        refine ⟨(b0, x), (a0, y), rfl, rfl, ?_⟩
        cases hz : isNdl (b0, x) (a0, y) with
        | true =>
          (exists "e", k6, k7, k8)
          exact hN' _ _ (by simp [mvF, hxy]) (by simp [idF, hz])
        | false =>
          (exists "e", k6, k7, k8)
          exact hN' _ _ (by simp [mvF, hxy]) (by simp [idF, hz])
    · obtain ⟨x6, x7, x8, k6, k7, k8, rfl⟩ := hJ
      refine ⟨by first | trivial | rfl | simp [kT, dwipe], ?_⟩
      rw [wsum_mv, wsum_id]
      (exists "e", k6, k7, k8)
      exact q
  · rw [if_neg ho] at q
    rw [if_neg (by simpa using ho)]
    (exists "e")
    exact q
end
end DL
set_option Elab.async false
set_option linter.all false
set_option maxRecDepth 100000
set_option maxHeartbeats 400000
namespace DL
open PySem PySem.Spec PyProof.Rows L2 Mv
section
variable {P : Program} {w : World} {K : PySem.W.Frag} {mg : Str → Option Value} {base : Heap} {T : List (Addr × Str)} {CC CS CV cR cY cM fM fR fU : Addr} {PF : Addr → Option Pf}
def sp__law_first_of : DSp := fun as Q X => match as with
  | [a, b, c, d] => ∃ (mk : List Mk) (gs : List Gp) (rk yd : List Int), a = .o false (.lst (mk.map mD)) ∧ sq b (gs.map gD) ∧ sq c (rk.map D.int) ∧ d = .d (iD yd) ∧ rk.length ≤ 1000 ∧ gs.length ≤ 1000 ∧ (∀ w ∈ rk, 0 ≤ w ∧ w < mk.length) ∧ lineup rk yd ≠ [] ∧
    Q (.d (.int (foP (fun w => gs.any fun g => bel (mkL mk w) g) (lineup rk yd)))) [a, cn b, cn c, .no]
  | _ => False
theorem ok__law_first_of {f : Addr} {fd : FuncData} (F : Fun K "_law_first_of" "_law_first_of" st__law_first_of f fd) (B : Bd mg) (c__law_in_group : CalX (L2.CX P w) P w K mg base 1 "_law_in_group" (liftSp T K sp__law_in_group)) : FnOk P w K mg base (L2.CX P w) 2 f fd ["_law_makes_here", "_law_groups", "_law_ranking_here", "_law_spot_here"] (liftSp T K sp__law_first_of) := by
  refine fnD F sc__law_first_of (fun as Q X h => by rcases as with _ | ⟨_, _ | ⟨_, _ | ⟨_, _ | ⟨_, _ | ⟨_, _⟩⟩⟩⟩⟩ <;> first | rfl | exact h.elim) fun cdv Ar outer s H E hr => ⟨_, _, (pss_cons (ps_setLc (i := 4) (own := [("_law_worker", 5)]) (g := gName 5) rfl sc__law_first_of.nd rfl rfl (sw_true rfl rfl rfl (by decide +kernel)) (show PI _ _ _ (iList K _) from pi_list (pv 2)) (blkOk_by (N := ["_law_makes_here", "_law_groups", "_law_ranking_here", "_law_spot_here", "_law_lineup", "_law_worker", "_law_group_here"]) (sc := defScope st__law_first_of) (by decide +kernel)) (fun _ _ _ _ _ => (pg_name (i := 5) sc__law_first_of.nd rfl (.inl rfl))) (fun _ _ _ _ _ => (pts_one (pt_cmpR (show OpR _ _ (rIn K false) from op_in_seq) (pv 5) (pv 3) (by rfl)))) (fun _ _ _ _ _ => (pv 5)))
 (pss_cons (ps_for (passes_of rfl) rfl (show PI _ _ _ (iList K _) from pi_list (pv 4)) (pg_name (i := 5) sc__law_first_of.nd rfl (.inl rfl))
 (pss_one (ps_for (passes_of rfl) rfl (show PI _ _ _ (iList K _) from pi_list (pv 1)) (pg_name (i := 6) sc__law_first_of.nd rfl (.inl rfl))
 (pss_one (ps_if (pt_val (pe_cx c__law_in_group hr (by decide) (passes_call (takes_of rfl rfl rfl rfl) (fun _ _ _ _ h => h)) (by rfl) (pa_cons (pv 6) (pa_cons (pe_ix (show IxR _ (rIxL K) from ix_list) (pv 0) (pv 5) (fun _ _ => rfl)) pa_nil))))
 (pss_one (ps_ret (pv 5))) pss_nil)))))
 (pss_one (ps_ret (pe_ix (show IxR _ (rIxL K) from ix_list) (pv 4) pe_int (fun _ _ => rfl)))))), by (exists "l"), ?_⟩
  clear hr
  rintro as Q X h
  rcases as with _ | ⟨a, _ | ⟨b, _ | ⟨c, _ | ⟨d, _ | ⟨_, _⟩⟩⟩⟩⟩ <;> try exact h.elim
  obtain ⟨mk, gs, rk, yd, rfl, h3, h2, rfl, hl, hg, hm, hne, q⟩ := h
  rcases h2 with rfl | rfl <;> rcases h3 with rfl | rfl
  all_goals
    (exists "e", iD)
    refine lc_pure rk D.int (fun i => decide (i ∈ yd)) D.int (by first | trivial | rfl | simp [kT, dwipe]) (by omega) (fun i hi T1 T0 h1 h0 => ?_) ?_
    · (exists "e")
      (split <;> first | (rename_i c; exact h1 c _ (by simp [okW, okSet, dwipe]) (by first | rfl | simp [dwipe])) | (rename_i c; exact h0 (by simpa using c) _ (by simp [okW, okSet, dwipe]) (by first | rfl | simp [dwipe])))
    rw [show (rk.filter fun i => decide (i ∈ yd)) = lineup rk yd from rfl]
    (exists "e")
    have hll : (lineup rk yd).length ≤ 1000 := Nat.le_trans (List.length_filter_le _ _) hl
    refine for_typed (lineup rk yd) D.int (fun done rest s => (∀ w ∈ done, (gs.any fun g => bel (mkL mk w) g) = false) ∧ ∃ x5 x6 : SV, fr x5 ∧ fr x6 ∧ s = [.o false (.lst (mk.map mD)), _, _, .d (.tup (yd.map D.int)), .d (.lst ((lineup rk yd).map D.int)), x5, x6])
      ⟨fun w h => (by cases h), .no, .no, trivial, trivial, rfl⟩ (fun done w rest s N e hJ hN => ?_) fun s hJ => ?_
    · obtain ⟨hd, x5, x6, k5, k6, rfl⟩ := hJ
      refine ⟨by first | trivial | rfl | simp [kT, dwipe], ?_⟩
      have hwl : w ∈ lineup rk yd := by rw [e]; simp
      have hwm := hm w (List.mem_filter.mp hwl).1
      obtain ⟨m, em⟩ : ∃ m, atI mk w = some m := by
        rw [← Int.toNat_of_nonneg hwm.1, atI_nat]
        exact ⟨mk[w.toNat], List.getElem?_eq_getElem (by omega)⟩
      have hmw : mkL mk w = m := by unfold mkL; rw [em]; rfl
      (exists "e", k5, k6)
      refine for_typed gs gD (fun gd rest s => (∀ g ∈ gd, bel m g = false) ∧ ∃ x6 : SV, fr x6 ∧ s = [.o false (.lst (mk.map mD)), _, _, .d (.tup (yd.map D.int)), .d (.lst ((lineup rk yd).map D.int)), .d (.int w), x6])
        ⟨fun g h => (by cases h), x6, k6, rfl⟩ (fun gd g rest2 s N2 e2 hJ hN2 => ?_) fun s hJ => ?_
      · obtain ⟨hgd, x6, k6, rfl⟩ := hJ
        refine ⟨by first | trivial | rfl | simp [kT, dwipe], ?_⟩
        (exists "e", k6, atI_map, em, Option.map_some)
        refine ⟨g, m, rfl, rfl, ?_⟩
        (exists "e", k6)
        cases hb : bel m g with
        | true =>
          (exists "e", k6)
          have hf : (lineup rk yd).find? (fun w => gs.any fun g => bel (mkL mk w) g) = some w := by
            rw [e, List.find?_append, List.find?_eq_none.mpr fun x hx => by rw [hd x hx]; simp]
            rw [List.find?_cons_of_pos (by rw [hmw, e2]; simp [hb])]
            rfl
          unfold foP at q
          rw [hf] at q
          exact q
        | false =>
          (exists "e", k6)
          refine hN2 _ ⟨fun x hx => ?_, .d (gD g), trivial, rfl⟩
          rcases List.mem_append.mp hx with hx | hx
          · exact hgd x hx
          · rw [List.mem_singleton.mp hx]
            exact hb
      · obtain ⟨hgd, x6, k6, rfl⟩ := hJ
        refine ⟨by first | trivial | rfl | simp [kT, dwipe], ?_⟩
        refine hN _ ⟨fun x hx => ?_, .d (.int w), x6, trivial, k6, rfl⟩
        rcases List.mem_append.mp hx with hx | hx
        · exact hd x hx
        · rw [List.mem_singleton.mp hx, hmw, List.any_eq_false]
          exact fun g hg => by rw [hgd g hg]; simp
    · obtain ⟨hd, x5, x6, k5, k6, rfl⟩ := hJ
      refine ⟨by first | trivial | rfl | simp [kT, dwipe], ?_⟩
      have hf : (lineup rk yd).find? (fun w => gs.any fun g => bel (mkL mk w) g) = none := List.find?_eq_none.mpr fun x hx => by rw [hd x hx]; simp
      unfold foP at q
      rw [hf] at q
      cases hl2 : lineup rk yd with
      | nil => exact absurd hl2 hne
      | cons w l =>
        rw [hl2] at q
        (exists "e", k5, k6)
        exact q
end
end DL
set_option Elab.async false
set_option linter.all false
set_option maxRecDepth 100000
set_option maxHeartbeats 400000
namespace DL
open PySem PySem.Spec PyProof.Rows L2 Mv
section
variable {P : Program} {w : World} {K : PySem.W.Frag} {mg : Str → Option Value} {base : Heap} {T : List (Addr × Str)} {CC CS CV cR cY cM fM fR fU : Addr} {PF : Addr → Option Pf}
def sp__law_verdict_fits (CC CS CV cY : Addr) (PF : Addr → Option Pf) (fU : Addr) : DSp := fun as Q X => match as with
  | [a, b, c] => ∃ (ws : List Wk) (rs : List Ru) (ys : List (List Int)), a = .o false (crewO CC ws) ∧ b = .o false (planO CS rs) ∧ sq c (ys.map iD) ∧ rulesOk rs ∧ ys.length ≤ 1000 ∧ 1 ≤ ws.length ∧ ws.length ≤ 5 ∧ (∀ yd ∈ ys, okY ws.length yd = true ∧ yd.length ≤ 1000) ∧ noB rs ∧ Q (.d (.bl true)) [a, b, cn c]
  | _ => False
theorem ok__law_verdict_fits {f : Addr} {fd : FuncData} (F : Fun K "_law_verdict_fits" "_law_verdict_fits" st__law_verdict_fits f fd) (B : Bd mg) (c_needless : CalX (L2.CX P w) P w K mg base 19 "needless" (liftSp T K (sp_needless CC CS CV cY PF fU))) (c__law_needless : CalX (L2.CX P w) P w K mg base 4 "_law_needless" (liftSp T K sp__law_needless)) (c_settled : CalX (L2.CX P w) P w K mg base 1 "settled" (liftSp T K sp_settled)) (c_moved_counts : CalX (L2.CX P w) P w K mg base 10 "moved_counts" (liftSp T K (sp_moved_counts CC CS cY))) (l_Crew___len__ : LenX P w K mg base 2 CC (liftSp T K (sp_Crew___len__ CC))) (p_Verdict_holds : PropX P w K mg base 1 CV "holds" (liftSp T K (sp_Verdict_holds CV))) (hV : Cls K CV) (nV1 : NoAttr K CV "table") (nV2 : NoAttr K CV "ranking") : FnOk P w K mg base (L2.CX P w) 20 f fd ["_law_hands", "_law_plan", "_law_spots_here"] (liftSp T K (sp__law_verdict_fits CC CS CV cY PF fU)) := by
  refine fnD F sc__law_verdict_fits (fun as Q X h => by rcases as with _ | ⟨_, _ | ⟨_, _ | ⟨_, _ | ⟨_, _⟩⟩⟩⟩ <;> first | rfl | exact h.elim) fun cdv Ar outer s H E hr => ⟨_, _, (pss_cons (ps_set (i := 3) sc__law_verdict_fits.nd rfl (.inl rfl) (pe_cx c_needless hr (by decide) (passes_call (takes_of rfl rfl rfl rfl) (fun _ _ _ _ h => h)) (by rfl) (pa_cons (pv 0) (pa_cons (pv 1) (pa_cons (pv 2) pa_nil)))))
 (pss_cons (ps_if (PW.pt (pw_or (pt_cmpR op_notBl (pe_propX p_Verdict_holds hr (by decide) (pv 3)) pe_bl (nomark _)) (pw_or (pt_cmpR op_notN (show PE _ _ (tFld K _ _) from pe_fld (pv 3) rfl) pe_non (nomark _)) (pw_or1 (pt_cmpR op_lt (pe_callB (show CallR _ _ (rLenSq K) from call_len_seq) (by rfl) B.len PySem.boot_len (pa_cons (show PE _ _ (tFld K _ _) from pe_fld (pv 3) rfl) pa_nil)) pe_int (nomark _))))))
 (pss_one (ps_ret pe_bl)) pss_nil)
 (pss_cons (ps_for (passes_of rfl) rfl (show PI _ _ _ (iList K _) from pi_list (show PE _ _ (tFld K _ _) from pe_fld (pv 3) rfl)) (pg_name (i := 4) sc__law_verdict_fits.nd rfl (.inl rfl))
 (pss_one (ps_if (PW.pt (pw_and (pt_cmpR op_eq (pe_callB (show CallR _ _ (rLenSq K) from call_len_seq) (by rfl) B.len PySem.boot_len (pa_cons (pe_ix (show IxR _ (rIxT K) from ix_tup) (pv 4) pe_int (fun _ _ => rfl)) pa_nil)) (pe_callB (cr_lenX l_Crew___len__ hr (by decide)) (by rfl) B.len PySem.boot_len (pa_cons (pv 0) pa_nil)) (nomark _)) (pw_and1 (pt_val (pe_cx c__law_needless hr (by decide) (passes_call (takes_of rfl rfl rfl rfl) (fun _ _ _ _ h => h)) (by rfl) (pa_cons (pe_cx c_settled hr (by decide) (passes_call (takes_of rfl rfl rfl rfl) (fun _ _ _ _ h => h)) (by rfl) (pa_cons (pv 4) pa_nil)) (pa_cons (pv 2) pa_nil)))))))
 (pss_one (ps_ret pe_bl)) pss_nil)))
 (pss_cons (ps_for (passes_of rfl) rfl (pi_range1 (by rfl) B.range (pa_cons (pe_op op_sub (pe_callB (show CallR _ _ (rLenSq K) from call_len_seq) (by rfl) B.len PySem.boot_len (pa_cons (pv 2) pa_nil)) pe_int) pa_nil)) (pg_name (i := 5) sc__law_verdict_fits.nd rfl (.inl rfl))
 (pss_one (ps_if (pt_cmpR op_ne (pe_ix (show IxR _ (rIxT K) from ix_tup) (pe_cx c_moved_counts hr (by decide) (passes_call (takes_of rfl rfl rfl rfl) (fun _ _ _ _ h => h)) (by rfl) (pa_cons (pv 0) (pa_cons (pv 1) (pa_cons (pe_ix (show IxR _ (rIxL K) from ix_list) (pv 2) (pv 5) (fun _ _ => rfl)) (pa_cons (pe_ix (show IxR _ (rIxL K) from ix_list) (pv 2) (pe_op op_add (pv 5) pe_int) (fun _ _ => rfl)) pa_nil))))) pe_int (fun _ _ => rfl)) pe_int (nomark _))
 (pss_one (ps_ret pe_bl)) pss_nil)))
 (pss_one (ps_ret pe_bl)))))), by (exists "l"), ?_⟩
  clear hr
  rintro as Q X h
  rcases as with _ | ⟨a, _ | ⟨b, _ | ⟨c, _ | ⟨_, _⟩⟩⟩⟩ <;> try exact h.elim
  obtain ⟨ws, rs, ys, rfl, rfl, h2, hr, hl, hw1, hw, hy, hnb, q⟩ := h
  have hyo : (ys.all fun yd => okY ws.length yd) = true := List.all_eq_true.mpr fun y h => (hy y h).1
  have hvU : verdM (mkOf ws) rs ys ws.length needlessP = ((tableM (mkOf ws) rs ys ws.length).map nD, .non) := verd_none (by omega) (nb_bad hnb fun y h => (hy y h).1)
  rcases h2 with rfl | rfl
  all_goals
    (exists "e")
    refine ⟨ws, rs, ys, rfl, rfl, by first | exact .inl rfl | exact .inr rfl, hr, hl, hw, fun y h => (hy y h).2, ?_⟩
    rw [if_pos hyo, hvU]
    (exists "e", verdO, vl_table, vl_rank, vl_holds)
    refine ⟨_, _, .inl rfl, ?_⟩
    (exists "e", verdO, vl_table, vl_rank, vl_holds)
    have htw := table_two (mk := mkOf ws) (rs := rs) (ys := ys) hw1
    have htl := table_len (mk := mkOf ws) (rs := rs) (ys := ys) hw
    refine ⟨hV, nV2, hV, nV1, ?_⟩
    rw [List.length_map, decide_eq_false (by omega), if_neg (by simp)]
    refine ⟨hV, nV1, ?_⟩
    refine for_typed (tableM (mkOf ws) rs ys ws.length) nD (fun done rest s => ∃ x4 : SV, fr x4 ∧ s = [.o false (crewO CC ws), .o false (planO CS rs), _, .o true (verdO CV ((tableM (mkOf ws) rs ys ws.length).map nD) .non), x4, .no])
      ⟨.no, trivial, rfl⟩ (fun done m rest s N e hJ hN => ?_) fun s hJ => ?_
    · obtain ⟨x4, k4, rfl⟩ := hJ
      refine ⟨by first | trivial | rfl | simp [kT, dwipe], ?_⟩
      have hm : m ∈ tableM (mkOf ws) rs ys ws.length := by rw [e]; simp
      have hml := table_node hm
      have fin := hN _ ⟨.d (nD m), trivial, rfl⟩
      (exists "e", k4, nD, iD, crewO)
      refine ⟨ws, rfl, ?_⟩
      (exists "e", k4)
      refine ⟨ws.length, rfl, by omega, ?_⟩
      by_cases hml2 : m.1.length = ws.length
      · rw [if_pos (by rw [List.length_map]; exact decide_eq_true (by exact_mod_cast hml2))]
        (exists "e", k4)
        refine ⟨m, rfl, by omega, by omega, ?_⟩
        (exists "e", k4)
        have hs : (settledN m).length = ys.length := by simp [settledN, hml.1, hml.2]
        have hnd : ndl2 ys (settledN m) = false := by
          obtain ⟨h, hh, eh⟩ := (table_trails _).mp (List.mem_map.mpr ⟨m, List.mem_filter.mpr ⟨hm, decide_eq_true hml2⟩, rfl⟩)
          rw [← eh]
          exact nb_ndl hnb (hdL_neg hh) fun y h => (hy y h).1
        refine ⟨settledN m, ys, .inr rfl, by first | exact .inl rfl | exact .inr rfl, hs, by omega, ?_⟩
        rw [hnd]
        (exists "e", k4)
        exact fin
      · rw [if_neg (by rw [List.length_map]; simp; omega)]
        (exists "e", k4)
        exact fin
    · obtain ⟨x4, k4, rfl⟩ := hJ
      refine ⟨by first | trivial | rfl | simp [kT, dwipe], ?_⟩
      (exists "e", k4)
      rw [List.length_map]
      refine ⟨by omega, by omega, ?_⟩
      refine for_rng (fun k s => ∃ x5 : SV, fr x5 ∧ s = [.o false (crewO CC ws), .o false (planO CS rs), _, .o true (verdO CV ((tableM (mkOf ws) rs ys ws.length).map nD) .non), x4, x5])
        ⟨.no, trivial, rfl⟩ (fun k s N hk hJ hN => ⟨by first | trivial | rfl | simp [kT, dwipe], ?_⟩) fun s hJ => ⟨by first | trivial | rfl | simp [kT, dwipe], ?_⟩
      · obtain ⟨x5, k5, rfl⟩ := hJ
        have hkl : k + 1 < ys.length := by omega
        have e5 : ys[k]? = some ys[k] := List.getElem?_eq_getElem (by omega)
        have e6 : ys[k + 1]? = some ys[k + 1] := List.getElem?_eq_getElem hkl
        obtain ⟨b0, hb0⟩ : ∃ b, ys[k] = b := ⟨_, rfl⟩
        obtain ⟨a0, ha0⟩ : ∃ b, ys[k + 1] = b := ⟨_, rfl⟩
        rw [hb0] at e5
        rw [ha0] at e6
        have hb := hy b0 (List.mem_iff_getElem?.mpr ⟨_, e5⟩)
        have ha := hy a0 (List.mem_iff_getElem?.mpr ⟨_, e6⟩)
        have e3 : ((k : Int) + 1) = ((k + 1 : Nat) : Int) := by omega
        have e4 : ((0 : Int) + (k : Int)) = ((k : Nat) : Int) := by omega
        (exists "e", k4, k5, e3, e4, List.getElem?_map, atI_nat, e5, e6, Option.map_some)
        refine ⟨ws, rs, b0, a0, rfl, rfl, rfl, rfl, hr, hw1, hw, hb.2, ha.2, ?_⟩
        rw [if_pos (by rw [hb.1, ha.1]; rfl), nb_idS hnb ha.1 hb.1]
        (exists "e", k4, k5)
        exact hN _ ⟨.d (.int (0 + (k : Nat))), trivial, rfl⟩
      · obtain ⟨x5, k5, rfl⟩ := hJ
        (exists "e", k4, k5)
        exact q
end
end DL
set_option Elab.async false
set_option linter.all false
set_option maxRecDepth 100000
set_option maxHeartbeats 400000
namespace DL
open PySem PySem.Spec PyProof.Rows L2 Mv
section
variable {P : Program} {w : World} {K : PySem.W.Frag} {mg : Str → Option Value} {base : Heap} {T : List (Addr × Str)} {CC CS CV cR cY cM fM fR fU : Addr} {PF : Addr → Option Pf}
def sp__law_one_tally (CC CS cY : Addr) : DSp := fun as Q X => match as with
  | [a, b] => ∃ (ws : List Wk) (ys : List (List Int)), a = .o false (crewO CC ws) ∧ sq b (ys.map iD) ∧ ys.length ≤ 1000 ∧ 1 ≤ ws.length ∧ ws.length ≤ 5 ∧ (∀ yd ∈ ys, okY ws.length yd = true ∧ yd.length ≤ 1000) ∧ Q (.d (.bl true)) [a, cn b]
  | _ => False
theorem ok__law_one_tally {f : Addr} {fd : FuncData} (F : Fun K "_law_one_tally" "_law_one_tally" st__law_one_tally f fd) (B : Bd mg) (c_tally : CalX (L2.CX P w) P w K mg base 9 "tally" (liftSp T K (sp_tally CC CS cY))) (k_Scheme : MakX P w K mg base 4 "Scheme" CS (liftSp T K (sp_Scheme___init__ CS))) : FnOk P w K mg base (L2.CX P w) 10 f fd ["_law_hands", "_law_spots_here"] (liftSp T K (sp__law_one_tally CC CS cY)) := by
  refine fnD F sc__law_one_tally (fun as Q X h => by rcases as with _ | ⟨_, _ | ⟨_, _ | ⟨_, _⟩⟩⟩ <;> first | rfl | exact h.elim) fun cdv Ar outer s H E hr => ⟨_, _, (pss_cons (ps_set (i := 2) sc__law_one_tally.nd rfl (.inl rfl) (pe_tup (pa_cons (pe_tup (pa_cons pe_str pa_nil)) (pa_cons (pe_tup (pa_cons (pe_tup (pa_cons (pe_tup (pa_cons pe_str pa_nil)) (pa_cons pe_str (pa_cons pe_int pa_nil)))) pa_nil)) pa_nil))))
 (pss_cons (ps_set (i := 3) sc__law_one_tally.nd rfl (.inl rfl) (pe_cx c_tally hr (by decide) (passes_call (takes_of rfl rfl rfl rfl) (fun _ _ _ _ h => h)) (by rfl) (pa_cons (pv 0) (pa_cons (pe_mkX k_Scheme hr (by decide) (passes_call (takes_of rfl rfl rfl rfl) (fun _ _ _ _ h => h)) (by rfl) (pa_cons (pe_lst pa_nil) pa_nil)) (pa_cons (pv 1) pa_nil)))))
 (pss_cons (ps_if (pt_cmpR (show OpR _ _ (rNeD K) from op_neD hr.units) (pe_cx c_tally hr (by decide) (passes_call (takes_of rfl rfl rfl rfl) (fun _ _ _ _ h => h)) (by rfl) (pa_cons (pv 0) (pa_cons (pe_mkX k_Scheme hr (by decide) (passes_call (takes_of rfl rfl rfl rfl) (fun _ _ _ _ h => h)) (by rfl) (pa_cons (pe_lst (pa_cons (pe_tup (pa_cons (pe_tup (pa_cons pe_str pa_nil)) (pa_cons (pe_tup pa_nil) pa_nil))) pa_nil)) pa_nil)) (pa_cons (pv 1) pa_nil)))) (pv 3) (nomark _))
 (pss_one (ps_ret pe_bl)) pss_nil)
 (pss_one (ps_ret (pe_cmpR (show OpR _ _ (rEqD K) from op_eqD hr.units) (pe_cx c_tally hr (by decide) (passes_call (takes_of rfl rfl rfl rfl) (fun _ _ _ _ h => h)) (by rfl) (pa_cons (pv 0) (pa_cons (pe_mkX k_Scheme hr (by decide) (passes_call (takes_of rfl rfl rfl rfl) (fun _ _ _ _ h => h)) (by rfl) (pa_cons (pe_lst (pa_cons (pv 2) pa_nil)) pa_nil)) (pa_cons (pv 1) pa_nil)))) (pv 3) (nomark _))))))), by (exists "l"), ?_⟩
  clear hr
  rintro as Q X h
  rcases as with _ | ⟨a, _ | ⟨b, _ | ⟨_, _⟩⟩⟩ <;> try exact h.elim
  obtain ⟨ws, ys, rfl, h2, hl, hw1, hw, hy, q⟩ := h
  have hyo : (ys.all fun yd => okY ws.length yd) = true := List.all_eq_true.mpr fun y h => (hy y h).1
  rcases h2 with rfl | rfl
  all_goals
    (exists "e")
    have hd := dep_tys (tallyM (mkOf ws) [] ys ws.length)
    refine ⟨[], rfl, rfl, by simp, by simp, ?_⟩
    (exists "e")
    refine ⟨ws, [], ys, rfl, by first | exact .inl rfl | exact .inr rfl, by first | exact .inl rfl | exact .inr rfl, ⟨by simp, by simp⟩, hl, hw1, hw, fun y h => (hy y h).2, ?_⟩
    rw [if_pos hyo]
    (exists "e")
    refine ⟨[(none, [])], rfl, rfl, by simp, by simp, ?_⟩
    (exists "e")
    refine ⟨ws, [(none, [])], ys, rfl, by first | exact .inl rfl | exact .inr rfl, by first | exact .inl rfl | exact .inr rfl, ⟨by simp, by simp⟩, hl, hw1, hw, fun y h => (hy y h).2, ?_⟩
    rw [if_pos hyo]
    rw [← tally_fst fst_nil fst_any]
    (exists "e")
    refine ⟨hd.ok, hd.ok, ?_⟩
    rw [hd.self]
    (exists "e")
    refine ⟨[(none, [(none, true, 1)])], rfl, rfl, by simp, by simp, ?_⟩
    (exists "e")
    refine ⟨ws, [(none, [(none, true, 1)])], ys, rfl, by first | exact .inl rfl | exact .inr rfl, by first | exact .inl rfl | exact .inr rfl, ⟨by simp, by simp⟩, hl, hw1, hw, fun y h => (hy y h).2, ?_⟩
    rw [if_pos hyo]
    rw [← tally_fst fst_nil fst_nobody]
    (exists "e")
    refine ⟨hd.ok, hd.ok, ?_⟩
    rw [hd.self]
    (exists "e")
    exact q
end
end DL
set_option Elab.async false
set_option linter.all false
set_option maxRecDepth 100000
set_option maxHeartbeats 400000
namespace DL
open PySem PySem.Spec PyProof.Rows L2 Mv
section
variable {P : Program} {w : World} {K : PySem.W.Frag} {mg : Str → Option Value} {base : Heap} {T : List (Addr × Str)} {CC CS CV cR cY cM fM fR fU : Addr} {PF : Addr → Option Pf}
def sp__law_second_moves (CC CS CV cY : Addr) (PF : Addr → Option Pf) (fU : Addr) : DSp := fun as Q X => match as with
  | [a] => ∃ (ws : List Wk), a = .o false (crewO CC ws) ∧ 3 ≤ ws.length ∧ ws.length ≤ 5 ∧ Q (.d (.bl true)) [a]
  | _ => False
theorem ok__law_second_moves {f : Addr} {fd : FuncData} (F : Fun K "_law_second_moves" "_law_second_moves" st__law_second_moves f fd) (B : Bd mg) (c_needless : CalX (L2.CX P w) P w K mg base 19 "needless" (liftSp T K (sp_needless CC CS CV cY PF fU))) (k_Scheme : MakX P w K mg base 4 "Scheme" CS (liftSp T K (sp_Scheme___init__ CS))) (l_Crew___len__ : LenX P w K mg base 2 CC (liftSp T K (sp_Crew___len__ CC))) (p_Verdict_holds : PropX P w K mg base 1 CV "holds" (liftSp T K (sp_Verdict_holds CV))) (hV : Cls K CV) (nV1 : NoAttr K CV "table") (nV2 : NoAttr K CV "ranking") : FnOk P w K mg base (L2.CX P w) 20 f fd ["_law_hands"] (liftSp T K (sp__law_second_moves CC CS CV cY PF fU)) := by
  refine fnD F sc__law_second_moves (fun as Q X h => by rcases as with _ | ⟨_, _ | ⟨_, _⟩⟩ <;> first | rfl | exact h.elim) fun cdv Ar outer s H E hr => ⟨_, _, (pss_cons (ps_set (i := 1) sc__law_second_moves.nd rfl (.inl rfl) (pe_mkX k_Scheme hr (by decide) (passes_call (takes_of rfl rfl rfl rfl) (fun _ _ _ _ h => h)) (by rfl) (pa_cons (pe_lst (pa_cons (pe_tup (pa_cons (pe_tup (pa_cons pe_str pa_nil)) (pa_cons (pe_tup (pa_cons (pe_tup (pa_cons (pe_tup (pa_cons pe_str pa_nil)) (pa_cons pe_str (pa_cons pe_int pa_nil)))) pa_nil)) pa_nil))) pa_nil)) pa_nil)))
 (pss_cons (ps_set (i := 2) sc__law_second_moves.nd rfl (.inl rfl) (pe_cx c_needless hr (by decide) (passes_call (takes_of rfl rfl rfl rfl) (fun _ _ _ _ h => h)) (by rfl) (pa_cons (pv 0) (pa_cons (pv 1) (pa_cons (pe_lst (pa_cons (pe_tup (pa_cons pe_int (pa_cons pe_int pa_nil))) (pa_cons (pe_tup (pa_cons pe_int (pa_cons pe_int (pa_cons pe_int pa_nil)))) pa_nil))) pa_nil)))))
 (pss_one (ps_ret (pe_and (pe_cmpR op_isBl (pe_propX p_Verdict_holds hr (by decide) (pv 2)) pe_bl (nomark _)) (pe_one (pe_cmpR (show OpR _ _ (rEqD K) from op_eqD hr.units) (show PE _ _ (tFld K _ _) from pe_fld (pv 2) rfl) (pe_listRg rfl (by rfl) B.list (prg_1 (by rfl) B.range (pe_callB (cr_lenX l_Crew___len__ hr (by decide)) (by rfl) B.len PySem.boot_len (pa_cons (pv 0) pa_nil)))) (nomark _)))))))), by (exists "l"), ?_⟩
  clear hr
  rintro as Q X h
  rcases as with _ | ⟨a, _ | ⟨_, _⟩⟩ <;> try exact h.elim
  obtain ⟨ws, rfl, hw1, hw, q⟩ := h
  (exists "e")
  refine ⟨someR, rfl, rfl, by decide, by decide, ?_⟩
  (exists "e")
  refine ⟨ws, someR, [[1, 2], [0, 1, 2]], rfl, rfl, by first | exact .inl rfl | exact .inr rfl, ⟨by decide, by decide⟩, by decide, by omega, by decide, ?_⟩
  have hyo : ([[1, 2], [0, 1, 2]].all fun yd => okY ws.length yd) = true := by
    obtain e | e | e : ws.length = 3 ∨ ws.length = 4 ∨ ws.length = 5 := by omega
    all_goals rw [e]; decide
  have hv : verdM (mkOf ws) someR [[1, 2], [0, 1, 2]] ws.length needlessP = ([], .lst ((idL ws.length).map D.int)) := verd_some (by omega) (some_bad hw1 hw)
  rw [if_pos hyo, hv]
  (exists "e", verdO, vl_table, vl_rank, vl_holds)
  refine ⟨_, _, .inl rfl, ?_⟩
  (exists "e", verdO, vl_table, vl_rank, vl_holds)
  refine ⟨hV, nV2, rfl, ws, rfl, ws.length, rfl, by omega, ⟨by omega, by omega, by omega, by omega, by omega⟩, ?_⟩
  have hrg : rngL 0 ((ws.length : Int)).toNat = (idL ws.length).map D.int := by
    rw [rngL_eq, List.map_map]
    simp
  have hd := dep_ints (idL ws.length)
  rw [hrg]
  refine ⟨hd.ok, hd.ok, ?_⟩
  rw [hd.self]
  (exists "e")
  exact q
end
end DL
set_option Elab.async false
set_option linter.all false
set_option maxRecDepth 100000
set_option maxHeartbeats 400000
namespace DL
open PySem PySem.Spec PyProof.Rows L2 Mv
section
variable {P : Program} {w : World} {K : PySem.W.Frag} {mg : Str → Option Value} {base : Heap} {T : List (Addr × Str)} {CC CS CV cR cY cM fM fR fU : Addr} {PF : Addr → Option Pf}
def sp_law : DSp := fun as Q X => match as with
  | [a] => ∃ (cs : List Int), a = .d (.fl (cs.map D.int)) ∧ Q (.d (.bl true)) [.no]
  | _ => False
theorem ok_law {f : Addr} {fd : FuncData} (F : Fun K "law" "law" st_law f fd) (B : Bd mg) (c__law_stream : CalX (L2.CX P w) P w K mg base 1 "_law_stream" (liftSp T K sp__law_stream)) (c__law_size : CalX (L2.CX P w) P w K mg base 5 "_law_size" (liftSp T K sp__law_size)) (c__law_makes : CalX (L2.CX P w) P w K mg base 5 "_law_makes" (liftSp T K sp__law_makes)) (c__law_spots : CalX (L2.CX P w) P w K mg base 5 "_law_spots" (liftSp T K sp__law_spots)) (c__law_group : CalX (L2.CX P w) P w K mg base 5 "_law_group" (liftSp T K sp__law_group)) (c__law_workers : CalX (L2.CX P w) P w K mg base 4 "_law_workers" (liftSp T K sp__law_workers)) (c__law_verdict_fits : CalX (L2.CX P w) P w K mg base 20 "_law_verdict_fits" (liftSp T K (sp__law_verdict_fits CC CS CV cY PF fU))) (c__law_ranking : CalX (L2.CX P w) P w K mg base 5 "_law_ranking" (liftSp T K sp__law_ranking)) (c__law_needless : CalX (L2.CX P w) P w K mg base 4 "_law_needless" (liftSp T K sp__law_needless)) (c__law_one_tally : CalX (L2.CX P w) P w K mg base 10 "_law_one_tally" (liftSp T K (sp__law_one_tally CC CS cY))) (c__law_second_moves : CalX (L2.CX P w) P w K mg base 20 "_law_second_moves" (liftSp T K (sp__law_second_moves CC CS CV cY PF fU))) (c__law_draw : CalX (L2.CX P w) P w K mg base 4 "_law_draw" (liftSp T K sp__law_draw)) (c__law_first_of : CalX (L2.CX P w) P w K mg base 2 "_law_first_of" (liftSp T K sp__law_first_of)) (c_holders : CalX (L2.CX P w) P w K mg base 9 "holders" (liftSp T K (sp_holders CC CS cR cY))) (k_Crew : MakX P w K mg base 5 "Crew" CC (liftSp T K (sp_Crew___init__ CC))) (k_Scheme : MakX P w K mg base 4 "Scheme" CS (liftSp T K (sp_Scheme___init__ CS)))  : FnOk P w K mg base (L2.CX P w) 21 f fd ["_law_script"] (liftSp T K sp_law) := by
  refine fnD F sc_law (fun as Q X h => by rcases as with _ | ⟨_, _ | ⟨_, _⟩⟩ <;> first | rfl | exact h.elim) fun cdv Ar outer s H E hr => ⟨_, _, (pss_cons (ps_set (i := 1) sc_law.nd rfl (.inr rfl) (pe_cx c__law_stream hr (by decide) (passes_call (takes_of rfl rfl rfl rfl) (fun _ _ _ _ h => h)) (by rfl) (pa_cons (pv 0) pa_nil)))
 (pss_cons (ps_set (i := 2) sc_law.nd rfl (.inl rfl) (pe_cx c__law_size hr (by decide) (passes_call (takes_of rfl rfl rfl rfl) (fun _ _ _ _ h => h)) (by rfl) (pa_cons (pv 1) pa_nil)))
 (pss_cons (ps_set (i := 3) sc_law.nd rfl (.inr rfl) (pe_cx c__law_makes hr (by decide) (passes_call (takes_of rfl rfl rfl rfl) (fun _ _ _ _ h => h)) (by rfl) (pa_cons (pv 1) (pa_cons (pv 2) pa_nil))))
 (pss_cons (ps_set (i := 4) sc_law.nd rfl (.inr rfl) (pe_lc (own := [("_law_k", 5)]) (g := gName 5) (tt := tYes) rfl sc_law.nd (pi_range1 (by rfl) B.range (pa_cons (pe_cx c__law_draw hr (by decide) (passes_call (takes_of rfl rfl rfl rfl) (fun _ _ _ _ h => h)) (by rfl) (pa_cons (pv 1) (pa_cons pe_int pa_nil))) pa_nil)) (blkOk_by (N := ["_law_script", "_law_stream_here", "_law_size_here", "_law_makes_here", "_law_groups", "_law_k", "_law_hands", "_law_plan", "_law_group_here", "_law_spots_here", "_law_ranking_here", "_law_trail", "_law_spot_here"]) (sc := defScope st_law) (by decide +kernel)) (fun _ _ _ _ _ => (pg_name (i := 5) sc_law.nd rfl (.inl rfl))) (fun _ _ _ _ _ => pts_nil) (fun _ _ _ _ _ => (pe_cx c__law_group hr (by decide) passN (by rfl) (pa_cons (pv 1) pa_nil)))))
 (pss_cons (ps_set (i := 6) sc_law.nd rfl (.inl rfl) (pe_mkX k_Crew hr (by decide) (passes_call (takes_of rfl rfl rfl rfl) (fun _ _ _ _ h => h)) (by rfl) (pa_cons (pe_cx c__law_workers hr (by decide) (passes_call (takes_of rfl rfl rfl rfl) (fun _ _ _ _ h => h)) (by rfl) (pa_cons (pv 3) (pa_cons (pe_cx c__law_draw hr (by decide) (passes_call (takes_of rfl rfl rfl rfl) (fun _ _ _ _ h => h)) (by rfl) (pa_cons (pv 1) (pa_cons pe_int pa_nil))) pa_nil))) pa_nil)))
 (pss_cons (ps_set (i := 7) sc_law.nd rfl (.inl rfl) (pe_mkX k_Scheme hr (by decide) (passes_call (takes_of rfl rfl rfl rfl) (fun _ _ _ _ h => h)) (by rfl) (pa_cons (pe_lc (own := [("_law_group_here", 8)]) (g := gName 8) (tt := tYes) rfl sc_law.nd (show PI _ _ _ (iList K _) from pi_list (pv 4)) (blkOk_by (N := ["_law_script", "_law_stream_here", "_law_size_here", "_law_makes_here", "_law_groups", "_law_k", "_law_hands", "_law_plan", "_law_group_here", "_law_spots_here", "_law_ranking_here", "_law_trail", "_law_spot_here"]) (sc := defScope st_law) (by decide +kernel)) (fun _ _ _ _ _ => (pg_name (i := 8) sc_law.nd rfl (.inl rfl))) (fun _ _ _ _ _ => pts_nil) (fun _ _ _ _ _ => (pe_tup (pa_cons (pv 8) (pa_cons (pe_tup pa_nil) pa_nil))))) pa_nil)))
 (pss_cons (ps_set (i := 9) sc_law.nd rfl (.inl rfl) (pe_cx c__law_spots hr (by decide) (passes_call (takes_of rfl rfl rfl rfl) (fun _ _ _ _ h => h)) (by rfl) (pa_cons (pv 1) (pa_cons (pv 2) (pa_cons (pe_op op_add pe_int (pe_cx c__law_draw hr (by decide) (passes_call (takes_of rfl rfl rfl rfl) (fun _ _ _ _ h => h)) (by rfl) (pa_cons (pv 1) (pa_cons (pe_op op_add pe_int (pe_callTy call_int1 (by rfl) B.int (by decide +kernel) (pa_cons (pe_cmpR op_lt (pv 2) pe_int (nomark _)) pa_nil))) pa_nil)))) pa_nil)))))
 (pss_cons (ps_if (pt_not (pt_val (pe_cx c__law_verdict_fits hr (by decide) (passes_call (takes_of rfl rfl rfl rfl) (fun _ _ _ _ h => h)) (by rfl) (pa_cons (pv 6) (pa_cons (pv 7) (pa_cons (pe_callTy (show CallR _ _ (rListOf K) from call_list_of) (by rfl) B.list (by decide +kernel) (pa_cons (pv 9) pa_nil)) pa_nil))))))
 (pss_one (ps_ret pe_bl)) pss_nil)
 (pss_cons (ps_for (passes_of rfl) rfl (pi_range1 (by rfl) B.range (pa_cons pe_int pa_nil)) (pg_name (i := 5) sc_law.nd rfl (.inl rfl))
 (pss_cons (ps_set (i := 10) sc_law.nd rfl (.inr rfl) (pe_cx c__law_ranking hr (by decide) (passes_call (takes_of rfl rfl rfl rfl) (fun _ _ _ _ h => h)) (by rfl) (pa_cons (pv 1) (pa_cons (pv 2) pa_nil))))
 (pss_cons (ps_setLc (i := 11) (own := [("_law_spot_here", 12)]) (g := gName 12) (tt := tYes) rfl sc_law.nd rfl rfl (sw_true rfl rfl rfl (by decide +kernel)) (show PI _ _ _ (iList K _) from pi_list (pv 9)) (blkOk_by (N := ["_law_script", "_law_stream_here", "_law_size_here", "_law_makes_here", "_law_groups", "_law_k", "_law_hands", "_law_plan", "_law_group_here", "_law_spots_here", "_law_ranking_here", "_law_trail", "_law_spot_here"]) (sc := defScope st_law) (by decide +kernel)) (fun _ _ _ _ _ => (pg_name (i := 12) sc_law.nd rfl (.inl rfl))) (fun _ _ _ _ _ => pts_nil) (fun _ _ _ _ _ => (pe_cx c__law_first_of hr (by decide) passN (by rfl) (pa_cons (pv 3) (pa_cons (pv 4) (pa_cons (pv 10) (pa_cons (pv 12) pa_nil)))))))
 (pss_cons (ps_if (pt_cmpR (show OpR _ _ (rNeD K) from op_neD hr.units) (pe_cx c_holders hr (by decide) (passes_call (takes_of rfl rfl rfl rfl) (fun _ _ _ _ h => h)) (by rfl) (pa_cons (pv 6) (pa_cons (pv 7) (pa_cons (pv 10) (pa_cons (pv 9) pa_nil))))) (pv 11) (nomark _))
 (pss_one (ps_ret pe_bl)) pss_nil)
 (pss_one (ps_if (pt_val (pe_cx c__law_needless hr (by decide) (passes_call (takes_of rfl rfl rfl rfl) (fun _ _ _ _ h => h)) (by rfl) (pa_cons (pv 11) (pa_cons (pv 9) pa_nil))))
 (pss_one (ps_ret pe_bl)) pss_nil))))))
 (pss_cons (ps_if (pt_not (pt_val (pe_cx c__law_one_tally hr (by decide) (passes_call (takes_of rfl rfl rfl rfl) (fun _ _ _ _ h => h)) (by rfl) (pa_cons (pv 6) (pa_cons (pe_slice (show SlR _ (rSlL K) from sl_list) (pv 9) po_none (po_some pe_int)) pa_nil)))))
 (pss_one (ps_ret pe_bl)) pss_nil)
 (pss_one (ps_ret (pe_or (pe_cmpR op_lt (pv 2) pe_int (nomark _)) (pe_one (pe_cx c__law_second_moves hr (by decide) (passes_call (takes_of rfl rfl rfl rfl) (fun _ _ _ _ h => h)) (by rfl) (pa_cons (pv 6) pa_nil)))))))))))))))), by (exists "l"), ?_⟩
  clear hr
  rintro as Q X h
  rcases as with _ | ⟨a, _ | ⟨_, _⟩⟩ <;> try exact h.elim
  obtain ⟨cs, rfl, q⟩ := h
  (exists "e")
  refine ⟨cs, rfl, fun ns => ?_⟩
  (exists "e")
  refine ⟨ns, rfl, fun v ns1 v1 v5 => ?_⟩
  obtain ⟨n, rfl⟩ : ∃ n : Nat, v = (n : Int) := ⟨v.toNat, (Int.toNat_of_nonneg (by omega)).symm⟩
  (exists "e", stS)
  refine ⟨ns1, n, rfl, rfl, by omega, fun mk ns2 hmk => ?_⟩
  (exists "e", stS)
  refine ⟨ns2, 5, rfl, rfl, by omega, fun gk ns3 g0 g1 => ?_⟩
  (exists "e", stS)
  refine ⟨by omega, by omega, ?_⟩
  refine lc_rngS (fun k acc s => ∃ (ns : List Int) (gs : List Gp), acc = gs.map gD ∧ gs.length = k ∧ s = [.d (.fl (cs.map D.int)), .o true (.lst (ns.map D.int)), .d (.int n), .o true (.lst (mk.map mD)), .no, .no, .no, .no, .no, .no, .no, .no, .no])
    (by omega) ⟨ns3, [], rfl, rfl, rfl⟩ (fun k acc s T hk hJ ha hT => ?_) fun acc s ha hJ => ?_
  · obtain ⟨ns, gs, rfl, hg, rfl⟩ := hJ
    refine ⟨by first | trivial | rfl | simp [kT, dwipe], ?_⟩
    (exists "e", stS)
    refine ⟨ns, rfl, fun g ns' => ?_⟩
    (exists "e", stS)
    exact hT _ _ (by simp [okW, okSet, dwipe]) (by first | rfl | simp [dwipe, sameO]) ⟨ns', gs ++ [g], by simp, by simp [hg], rfl⟩
  · obtain ⟨ns4, gs, rfl, hg, rfl⟩ := hJ
    refine ⟨by first | trivial | rfl | simp [kT, dwipe], ?_⟩
    have hgl : gs.length ≤ 4 := by omega
    (exists "e", stS)
    refine ⟨ns4, 6, rfl, rfl, by omega, fun t ns5 t0 t1 => ?_⟩
    (exists "e", stS)
    refine ⟨mk, t, rfl, rfl, by omega, fun ws e1 e2 e3 => ?_⟩
    have hwl : ws.length = n := by rw [← hmk, ← e1, List.length_map]
    (exists "e", stS)
    refine ⟨ws, rfl, rfl, by omega, by omega, e3, e2, ?_⟩
    (exists "e", stS)
    obtain ⟨rs, hrs⟩ : ∃ rs : List Ru, rs = gs.map fun g => (g, []) := ⟨_, rfl⟩
    have hnb : noB rs := fun r hr => by
      rw [hrs] at hr
      obtain ⟨g, _, rfl⟩ := List.mem_map.mp hr
      rfl
    have hrl : rs.length ≤ 4 := by rw [hrs, List.length_map]; exact hgl
    have hro : rulesOk rs := ⟨by omega, fun r hr => by rw [hnb r hr]; simp⟩
    refine lc_map (keep := kT) gs gD (fun g => ruD (g, [])) trivial (by omega) (fun g hg T1 h1 => ?_) ?_
    · (exists "e", stS)
      exact h1 _ (by simp [okW, okSet, dwipe]) (by first | rfl | simp [dwipe])
    rw [show gs.map (fun g => ruD (g, [])) = rs.map ruD by rw [hrs, List.map_map]; rfl]
    (exists "e", stS, dwipe, List.map_cons, List.map_nil)
    refine ⟨rs, rfl, rfl, hrl, fun r hr => by rw [hnb r hr]; simp, ?_⟩
    (exists "e", stS)
    obtain ⟨dk, edk, dk3, dk4⟩ : ∃ k : Int, (4 + if decide ((n : Int) < 5) = true then (1 : Int) else 0) = k ∧ 4 ≤ k ∧ k ≤ 5 := by
      refine ⟨_, rfl, ?_, ?_⟩ <;> split <;> omega
    rw [edk]
    refine ⟨ns5, dk, rfl, rfl, by omega, fun m0 ns6 m1 m2 => ?_⟩
    obtain ⟨m, em⟩ : ∃ m : Nat, 1 + m0 = (m : Int) := ⟨(1 + m0).toNat, by omega⟩
    (exists "e", stS, em)
    subst e1
    have hws : ws.length ≤ 5 := by omega
    refine ⟨ns6, n, m, rfl, rfl, rfl, by omega, by omega, by omega, by omega, fun ys ns7 hys hyk => ?_⟩
    have hyl : 1 ≤ ys.length ∧ ys.length ≤ 5 := by omega
    clear hys
    have hyk2 : ∀ y ∈ ys, okY ws.length y = true ∧ y.length ≤ 100 := fun y h => by
      rw [hwl]
      have := (hyk y h).2
      exact ⟨(hyk y h).1, by omega⟩
    subst hwl
    have hyall : (ys.all fun yd => okY ws.length yd) = true := List.all_eq_true.mpr fun y h => (hyk2 y h).1
    (exists "e", stS)
    refine ⟨ws, rs, ys, rfl, rfl, by first | exact .inl rfl | exact .inr rfl, hro, by omega, by omega, hws, fun y h => ⟨(hyk2 y h).1, by have := (hyk2 y h).2; omega⟩, hnb, ?_⟩
    (exists "e", stS)
    refine ⟨by omega, by omega, ?_⟩
    refine for_rng (fun k s => ∃ (ns : List Int) (x5 x9 x10 x11 : SV), fr x5 ∧ fr x10 ∧ fr x11 ∧ (x9 = .o true (.lst (ys.map iD)) ∨ x9 = .d (.lst (ys.map iD))) ∧ s = [.d (.fl (cs.map D.int)), .o true (.lst (ns.map D.int)), .d (.int ws.length), .o true (.lst ((ws.map fun x => x.2).map mD)), .d (.lst (gs.map gD)), x5, .o true (crewO CC ws), .o true (planO CS rs), .no, x9, x10, x11, .no])
      ⟨ns7, .no, _, .no, .no, trivial, trivial, trivial, .inl rfl, rfl⟩ (fun k s N hk hJ hN => ⟨by first | trivial | rfl | simp [kT, dwipe], ?_⟩) fun s hJ => ⟨by first | trivial | rfl | simp [kT, dwipe], ?_⟩
    · obtain ⟨ns, x5, x9, x10, x11, k5, k10, k11, h9, rfl⟩ := hJ
      have htr : ∀ rk : List Int, rk.Perm (idL ws.length) → (ys.map fun yd => D.int (foP (fun w => gs.any fun g => bel (mkL (ws.map (·.2)) w) g) (lineup rk yd))) = (trailW (mkOf ws) rs ys rk).map D.int ∧ (ys.map fun yd => D.int (holdM ws rs rk yd)) = (trailW (mkOf ws) rs ys rk).map D.int := fun rk hrk => by
        have hw : ∀ w ∈ rk, w ≠ -1 := fun w hw z => by have := idL_mem.mp (hrk.mem_iff.mp hw); omega
        have htk : (fun w => gs.any fun g => bel (mkL (ws.map (·.2)) w) g) = fun w => tkM rs (mkOf ws w) [] := by
          funext w
          rw [hrs, mkL_eq]
          unfold tkM
          rw [List.any_map]
          congr 1
          funext g
          simp [ruT]
        unfold trailW
        rw [List.map_map]
        refine ⟨List.map_congr_left fun yd hyd => ?_, List.map_congr_left fun yd hyd => ?_⟩
        · have hl := lineup_ne (okR_perm hrk) (hyk2 yd hyd).1
          rw [htk]
          show _ = D.int (holdW (mkOf ws) rs yd rk)
          rw [hold_noB hnb hw hl]
        · have hl := lineup_ne (okR_perm hrk) (hyk2 yd hyd).1
          show _ = D.int (holdW (mkOf ws) rs yd rk)
          rw [hold_walk hw hl]
          rfl
      rcases h9 with rfl | rfl
      all_goals
        (exists "e", stS, k5, k10, k11)
        refine ⟨ns, ws.length, rfl, rfl, by omega, hws, fun rk ns' hrk => ?_⟩
        (exists "e", stS, k5, k10, k11)
        have hrl2 : rk.length = ws.length := by have := hrk.length_eq; simpa using this
        have hrm : ∀ w ∈ rk, 0 ≤ w ∧ w < ws.length := fun w hw => idL_mem.mp (hrk.mem_iff.mp hw)
        have hrR := okR_perm hrk
        have hlu : ∀ yd ∈ ys, lineup rk yd ≠ [] := fun yd h => lineup_ne hrR (hyk2 yd h).1
        have hnd : ndl2 ys (trailW (mkOf ws) rs ys rk) = false := nb_ndl hnb (fun w hw z => by have := hrm w hw; omega) fun y h => (hyk2 y h).1
        refine lc_map (keep := kT) ys iD (fun yd => D.int (foP (fun w => gs.any fun g => bel (mkL (ws.map (·.2)) w) g) (lineup rk yd))) trivial (by omega) (fun yd hyd T1 h1 => ?_) ?_
        · (exists "e", stS, k5, k10, k11)
          refine ⟨ws.map (·.2), gs, rk, yd, rfl, by first | exact .inl rfl | exact .inr rfl, by first | exact .inl rfl | exact .inr rfl, rfl, by omega, by omega, fun w hw => by have := hrm w hw; simp; omega, hlu yd hyd, ?_⟩
          (exists "e", stS, k5, k10, k11)
          exact h1 _ (by simp [okW, okSet, dwipe]) (by first | rfl | simp [dwipe])
        rw [(htr rk hrk).1]
        (exists "e", stS, k5, k10, k11, dwipe, List.map_cons, List.map_nil)
        refine ⟨ws, rs, rk, ys, rfl, rfl, by first | exact .inl rfl | exact .inr rfl, by first | exact .inl rfl | exact .inr rfl, by omega, hro, by omega, by omega, fun y h => by have := (hyk2 y h).2; omega, ?_⟩
        rw [if_pos hrR, if_pos hyall, (htr rk hrk).2]
        (exists "e", stS, k5, k10, k11)
        have hd := dep_ints (trailW (mkOf ws) rs ys rk)
        refine ⟨hd.ok, hd.ok, ?_⟩
        rw [hd.self]
        (exists "e", stS, k5, k10, k11)
        refine ⟨trailW (mkOf ws) rs ys rk, ys, .inl (by first | exact .inl rfl | exact .inr rfl), by first | exact .inl rfl | exact .inr rfl, trailW_len, by rw [trailW_len]; omega, ?_⟩
        rw [hnd]
        (exists "e", stS, k5, k10, k11)
        exact hN _ ⟨ns', .d (.int (0 + (k : Nat))), _, _, _, trivial, by exact trivial, by exact trivial, .inr rfl, rfl⟩
    · obtain ⟨ns8, x5, x9, x10, x11, k5, k10, k11, h9, rfl⟩ := hJ
      rcases h9 with rfl | rfl
      all_goals
        (exists "e", stS, k5, k10, k11)
        rw [show cutD (ys.map iD) none (some 3) = (ys.take 3).map iD by rw [List.map_take]; exact cutD_take _ 3]
        refine ⟨ws, ys.take 3, rfl, by first | exact .inl rfl | exact .inr rfl, by rw [List.length_take]; omega, by omega, hws, fun y h => ⟨(hyk2 y (List.mem_of_mem_take h)).1, by have := (hyk2 y (List.mem_of_mem_take h)).2; omega⟩, ?_⟩
        (exists "e", stS, k5, k10, k11)
        by_cases h3 : (ws.length : Int) < 3
        · rw [if_pos (decide_eq_true h3)]
          exact q
        · rw [if_neg (by simpa using h3)]
          refine ⟨ws, rfl, by omega, hws, ?_⟩
          (exists "e", stS, k5, k10, k11)
          exact q
end
end DL
set_option Elab.async false
set_option linter.all false
set_option maxRecDepth 100000
set_option maxHeartbeats 8000000
namespace DL
open PySem PySem.Spec PyProof.Rows L2 Mv
theorem cal_ofD {CX : CXT} {P : Program} {w : World} {K : PySem.W.Frag} {mg : Str → Option Value} {base : Heap} {k : Nat} {x : Str} {st : Stmt} {f : Addr} {fd : FuncData} {ps : List Str} {sp : Sp} (F : Fun K x x st f fd) (hm : mg x = some (.ref f)) (b : Binds K fd ps []) (h : FnOk P w K mg base CX k f fd ps sp) : CalX CX P w K mg base k x sp := ⟨f, fd, ps, h, hm, F.kp, b⟩
abbrev rwK : PySem.W.OpenLaw := PySem.Challenge.rw_movedstates_k53_without_bounds_nothing_i
def spEnd (K : PySem.W.Frag) : Sp := fun vs H Q _ => ∃ (a : Addr) (ns : List Int), vs = [.ref a] ∧ SqL K H a (ns.map V.int) ∧ ns.length ≤ 63 ∧ ∀ H' : Hp, Q (.bl true) H'
theorem end_of {K : PySem.W.Frag} {vs : List V} {H : Hp} {Q : VK} {E : XK} (h : spEnd K vs H Q E) : liftSp [] K sp_law vs H Q E := by
  obtain ⟨a, ns, rfl, hs, hl, q⟩ := h
  refine ⟨fun _ => False, [.d (.fl (ns.map D.int))], fun r _ => r = .d (.bl true), fun _ _ => False, ⟨rfl, fun i sv e => ?_, fun i j a l c l' c' _ h => ?_⟩, fun a h => h.elim, fun p hp => (by cases hp), ⟨ns, rfl, rfl⟩, fun r as' v H' e hp => ?_, fun _ _ _ _ _ z => z.elim⟩
  · cases i with
    | zero =>
      cases e
      exact ⟨_, rfl, .inl ⟨_, rfl, .fl (by rw [show res (fun _ => False) H = H from funext fun b => by simp [res]]; exact hs) (of_ints ns)⟩⟩
    | succ i => cases e
  · cases i with
    | zero => cases h
    | succ i => cases h
  · subst e
    obtain ⟨_, hr⟩ := hp
    cases hr
    exact q H'
theorem all_mk {w : World} {K : PySem.W.Frag} {h : Heap} {mg : Str → Option Value} {fa : Addr}
    {CC : Addr}
    {t_CCMOST : Tok}
    {CS : Addr}
    {t_CSMOST : Tok}
    {t_CSMOST_BOUNDS : Tok}
    {CV : Addr}
    {f__law_stream : Addr} {od__law_stream an__law_stream : Option Addr} {sl__law_stream : Array (Option Value)} {oc__law_stream kV__law_stream dc__law_stream pm__law_stream cd__law_stream ct__law_stream : Value}
    {f__law_size : Addr} {od__law_size an__law_size : Option Addr} {sl__law_size : Array (Option Value)} {oc__law_size kV__law_size dc__law_size pm__law_size cd__law_size ct__law_size : Value}
    {f__law_makes : Addr} {od__law_makes an__law_makes : Option Addr} {sl__law_makes : Array (Option Value)} {oc__law_makes kV__law_makes dc__law_makes pm__law_makes cd__law_makes ct__law_makes : Value}
    {f_Crew___init__ : Addr} {od_Crew___init__ an_Crew___init__ : Option Addr} {sl_Crew___init__ : Array (Option Value)} {oc_Crew___init__ kV_Crew___init__ dc_Crew___init__ pm_Crew___init__ cd_Crew___init__ ct_Crew___init__ : Value}
    {f_Scheme___init__ : Addr} {od_Scheme___init__ an_Scheme___init__ : Option Addr} {sl_Scheme___init__ : Array (Option Value)} {oc_Scheme___init__ kV_Scheme___init__ dc_Scheme___init__ pm_Scheme___init__ cd_Scheme___init__ ct_Scheme___init__ : Value}
    {f__law_spots : Addr} {od__law_spots an__law_spots : Option Addr} {sl__law_spots : Array (Option Value)} {oc__law_spots kV__law_spots dc__law_spots pm__law_spots cd__law_spots ct__law_spots : Value}
    {f__law_group : Addr} {od__law_group an__law_group : Option Addr} {sl__law_group : Array (Option Value)} {oc__law_group kV__law_group dc__law_group pm__law_group cd__law_group ct__law_group : Value}
    {f__law_workers : Addr} {od__law_workers an__law_workers : Option Addr} {sl__law_workers : Array (Option Value)} {oc__law_workers kV__law_workers dc__law_workers pm__law_workers cd__law_workers ct__law_workers : Value}
    {f__law_verdict_fits : Addr} {od__law_verdict_fits an__law_verdict_fits : Option Addr} {sl__law_verdict_fits : Array (Option Value)} {oc__law_verdict_fits kV__law_verdict_fits dc__law_verdict_fits pm__law_verdict_fits cd__law_verdict_fits ct__law_verdict_fits : Value}
    {f__law_ranking : Addr} {od__law_ranking an__law_ranking : Option Addr} {sl__law_ranking : Array (Option Value)} {oc__law_ranking kV__law_ranking dc__law_ranking pm__law_ranking cd__law_ranking ct__law_ranking : Value}
    {f__law_needless : Addr} {od__law_needless an__law_needless : Option Addr} {sl__law_needless : Array (Option Value)} {oc__law_needless kV__law_needless dc__law_needless pm__law_needless cd__law_needless ct__law_needless : Value}
    {f__law_one_tally : Addr} {od__law_one_tally an__law_one_tally : Option Addr} {sl__law_one_tally : Array (Option Value)} {oc__law_one_tally kV__law_one_tally dc__law_one_tally pm__law_one_tally cd__law_one_tally ct__law_one_tally : Value}
    {f__law_second_moves : Addr} {od__law_second_moves an__law_second_moves : Option Addr} {sl__law_second_moves : Array (Option Value)} {oc__law_second_moves kV__law_second_moves dc__law_second_moves pm__law_second_moves cd__law_second_moves ct__law_second_moves : Value}
    {f__law_draw : Addr} {od__law_draw an__law_draw : Option Addr} {sl__law_draw : Array (Option Value)} {oc__law_draw kV__law_draw dc__law_draw pm__law_draw cd__law_draw ct__law_draw : Value}
    {f__law_first_of : Addr} {od__law_first_of an__law_first_of : Option Addr} {sl__law_first_of : Array (Option Value)} {oc__law_first_of kV__law_first_of dc__law_first_of pm__law_first_of cd__law_first_of ct__law_first_of : Value}
    {f_holders : Addr} {od_holders an_holders : Option Addr} {sl_holders : Array (Option Value)} {oc_holders kV_holders dc_holders pm_holders cd_holders ct_holders : Value}
    {f_Crew___len__ : Addr} {od_Crew___len__ an_Crew___len__ : Option Addr} {sl_Crew___len__ : Array (Option Value)} {oc_Crew___len__ kV_Crew___len__ dc_Crew___len__ pm_Crew___len__ cd_Crew___len__ ct_Crew___len__ : Value}
    {f_has_worker : Addr} {od_has_worker an_has_worker : Option Addr} {sl_has_worker : Array (Option Value)} {oc_has_worker kV_has_worker dc_has_worker pm_has_worker cd_has_worker ct_has_worker : Value}
    {f_is_name : Addr} {od_is_name an_is_name : Option Addr} {sl_is_name : Array (Option Value)} {oc_is_name kV_is_name dc_is_name pm_is_name cd_is_name ct_is_name : Value}
    {f__law_spot : Addr} {od__law_spot an__law_spot : Option Addr} {sl__law_spot : Array (Option Value)} {oc__law_spot kV__law_spot dc__law_spot pm__law_spot cd__law_spot ct__law_spot : Value}
    {f_needless : Addr} {od_needless an_needless : Option Addr} {sl_needless : Array (Option Value)} {oc_needless kV_needless dc_needless pm_needless cd_needless ct_needless : Value}
    {f_Verdict_holds : Addr} {od_Verdict_holds an_Verdict_holds : Option Addr} {sl_Verdict_holds : Array (Option Value)} {oc_Verdict_holds kV_Verdict_holds dc_Verdict_holds pm_Verdict_holds cd_Verdict_holds ct_Verdict_holds : Value}
    {P_Verdict_holds : Addr} {r_Verdict_holds : List Value}
    {f_settled : Addr} {od_settled an_settled : Option Addr} {sl_settled : Array (Option Value)} {oc_settled kV_settled dc_settled pm_settled cd_settled ct_settled : Value}
    {f_moved_counts : Addr} {od_moved_counts an_moved_counts : Option Addr} {sl_moved_counts : Array (Option Value)} {oc_moved_counts kV_moved_counts dc_moved_counts pm_moved_counts cd_moved_counts ct_moved_counts : Value}
    {f_tally : Addr} {od_tally an_tally : Option Addr} {sl_tally : Array (Option Value)} {oc_tally kV_tally dc_tally pm_tally cd_tally ct_tally : Value}
    {f__law_in_group : Addr} {od__law_in_group an__law_in_group : Option Addr} {sl__law_in_group : Array (Option Value)} {oc__law_in_group kV__law_in_group dc__law_in_group pm__law_in_group cd__law_in_group ct__law_in_group : Value}
    {f_refuse_ranking : Addr} {od_refuse_ranking an_refuse_ranking : Option Addr} {sl_refuse_ranking : Array (Option Value)} {oc_refuse_ranking kV_refuse_ranking dc_refuse_ranking pm_refuse_ranking cd_refuse_ranking ct_refuse_ranking : Value}
    {f_holder : Addr} {od_holder an_holder : Option Addr} {sl_holder : Array (Option Value)} {oc_holder kV_holder dc_holder pm_holder cd_holder ct_holder : Value}
    {f_consists_of : Addr} {od_consists_of an_consists_of : Option Addr} {sl_consists_of : Array (Option Value)} {oc_consists_of kV_consists_of dc_consists_of pm_consists_of cd_consists_of ct_consists_of : Value}
    {f_verdict_on : Addr} {od_verdict_on an_verdict_on : Option Addr} {sl_verdict_on : Array (Option Value)} {oc_verdict_on kV_verdict_on dc_verdict_on pm_verdict_on cd_verdict_on ct_verdict_on : Value}
    {f_moves_needlessly : Addr} {od_moves_needlessly an_moves_needlessly : Option Addr} {sl_moves_needlessly : Array (Option Value)} {oc_moves_needlessly kV_moves_needlessly dc_moves_needlessly pm_moves_needlessly cd_moves_needlessly ct_moves_needlessly : Value}
    {f_is_needless : Addr} {od_is_needless an_is_needless : Option Addr} {sl_is_needless : Array (Option Value)} {oc_is_needless kV_is_needless dc_is_needless pm_is_needless cd_is_needless ct_is_needless : Value}
    {f_refuse_yard : Addr} {od_refuse_yard an_refuse_yard : Option Addr} {sl_refuse_yard : Array (Option Value)} {oc_refuse_yard kV_refuse_yard dc_refuse_yard pm_refuse_yard cd_refuse_yard ct_refuse_yard : Value}
    {f_nodes_by_length : Addr} {od_nodes_by_length an_nodes_by_length : Option Addr} {sl_nodes_by_length : Array (Option Value)} {oc_nodes_by_length kV_nodes_by_length dc_nodes_by_length pm_nodes_by_length cd_nodes_by_length ct_nodes_by_length : Value}
    {f_walk : Addr} {od_walk an_walk : Option Addr} {sl_walk : Array (Option Value)} {oc_walk kV_walk dc_walk pm_walk cd_walk ct_walk : Value}
    {f_Verdict___init__ : Addr} {od_Verdict___init__ an_Verdict___init__ : Option Addr} {sl_Verdict___init__ : Array (Option Value)} {oc_Verdict___init__ kV_Verdict___init__ dc_Verdict___init__ pm_Verdict___init__ cd_Verdict___init__ ct_Verdict___init__ : Value}
    {f_first_failing : Addr} {od_first_failing an_first_failing : Option Addr} {sl_first_failing : Array (Option Value)} {oc_first_failing kV_first_failing dc_first_failing pm_first_failing cd_first_failing ct_first_failing : Value}
    {f_start_node : Addr} {od_start_node an_start_node : Option Addr} {sl_start_node : Array (Option Value)} {oc_start_node kV_start_node dc_start_node pm_start_node cd_start_node ct_start_node : Value}
    {f_unplaced : Addr} {od_unplaced an_unplaced : Option Addr} {sl_unplaced : Array (Option Value)} {oc_unplaced kV_unplaced dc_unplaced pm_unplaced cd_unplaced ct_unplaced : Value}
    {f_next_node : Addr} {od_next_node an_next_node : Option Addr} {sl_next_node : Array (Option Value)} {oc_next_node kV_next_node dc_next_node pm_next_node cd_next_node ct_next_node : Value}
    {f_present : Addr} {od_present an_present : Option Addr} {sl_present : Array (Option Value)} {oc_present kV_present dc_present pm_present cd_present ct_present : Value}
    {f_Crew_make_of : Addr} {od_Crew_make_of an_Crew_make_of : Option Addr} {sl_Crew_make_of : Array (Option Value)} {oc_Crew_make_of kV_Crew_make_of dc_Crew_make_of pm_Crew_make_of cd_Crew_make_of ct_Crew_make_of : Value}
    {f_Scheme_takes : Addr} {od_Scheme_takes an_Scheme_takes : Option Addr} {sl_Scheme_takes : Array (Option Value)} {oc_Scheme_takes kV_Scheme_takes dc_Scheme_takes pm_Scheme_takes cd_Scheme_takes ct_Scheme_takes : Value}
    {f_rule_takes : Addr} {od_rule_takes an_rule_takes : Option Addr} {sl_rule_takes : Array (Option Value)} {oc_rule_takes kV_rule_takes dc_rule_takes pm_rule_takes cd_rule_takes ct_rule_takes : Value}
    {f_belongs : Addr} {od_belongs an_belongs : Option Addr} {sl_belongs : Array (Option Value)} {oc_belongs kV_belongs dc_belongs pm_belongs cd_belongs ct_belongs : Value}
    {f_bound_holds : Addr} {od_bound_holds an_bound_holds : Option Addr} {sl_bound_holds : Array (Option Value)} {oc_bound_holds kV_bound_holds dc_bound_holds pm_bound_holds cd_bound_holds ct_bound_holds : Value}
    {f_law : Addr} {od_law an_law : Option Addr} {sl_law : Array (Option Value)} {oc_law kV_law dc_law pm_law cd_law ct_law : Value}
    {tL : Tok}
    {tN : Tok}
    {cR : Addr}
    {cY : Addr}
    (X : K.In h) (G : h.Ns mainGlobals mg) (hfa : mg "law" = some (.ref fa))
    (z_len : PySem.W.nsIn K mainGlobals "len" = some none)
    (z_range : PySem.W.nsIn K mainGlobals "range" = some none)
    (z_enumerate : PySem.W.nsIn K mainGlobals "enumerate" = some none)
    (z_abs : PySem.W.nsIn K mainGlobals "abs" = some none)
    (z_int : PySem.W.nsIn K mainGlobals "int" = some none)
    (z_list : PySem.W.nsIn K mainGlobals "list" = some none)
    (z_tuple : PySem.W.nsIn K mainGlobals "tuple" = some none)
    (z_sorted : PySem.W.nsIn K mainGlobals "sorted" = some none)
    (z_isinstance : PySem.W.nsIn K mainGlobals "isinstance" = some none)
    (z_str : PySem.W.nsIn K mainGlobals "str" = some none)
    (z_bool : PySem.W.nsIn K mainGlobals "bool" = some none)
    (z_super : PySem.W.nsIn K mainGlobals "super" = some none)
    (z_ValueError : PySem.W.nsIn K mainGlobals "ValueError" = some none)
    (z_zip : PySem.W.nsIn K mainGlobals "zip" = some none)
    (z_all : PySem.W.nsIn K mainGlobals "all" = some none)
    (z_any : PySem.W.nsIn K mainGlobals "any" = some none)
    (z_min : PySem.W.nsIn K mainGlobals "min" = some none)
    (z_max : PySem.W.nsIn K mainGlobals "max" = some none)
    (z_sum : PySem.W.nsIn K mainGlobals "sum" = some none)
    (z_set : PySem.W.nsIn K mainGlobals "set" = some none)
    (z_dict : PySem.W.nsIn K mainGlobals "dict" = some none)
    (z_reversed : PySem.W.nsIn K mainGlobals "reversed" = some none)
    (a_CC : PySem.W.nsIn K mainGlobals "Crew" = some (some (.ref CC)))
    (pg_CC : PySem.W.plainGet K CC Str.empty = true)
    (hd_CC : PySem.W.hasDictIn K CC = true)
    (po_CC : PySem.W.plainOver K CC = true)
    (sa_CC : PySem.W.findIn K (.ref CC) "__setattr__" = some (some (.builtin "object.__setattr__")))
    (mk_CC : PySem.W.makesIn K CC = true)
    (kc_CC : PySem.W.keepIn K (.ref CC) = true)
    (no_CC_workers : PySem.W.findIn K (.ref CC) "_workers" = some none)
    (cn_CCMOST : PySem.W.findIn K (.ref CC) "MOST" = some (some (.int 6 t_CCMOST) ))
    (cg_CCMOST : PySem.W.specialIn K (.int 6 t_CCMOST) "__get__" = some none)
    (a_CS : PySem.W.nsIn K mainGlobals "Scheme" = some (some (.ref CS)))
    (pg_CS : PySem.W.plainGet K CS Str.empty = true)
    (hd_CS : PySem.W.hasDictIn K CS = true)
    (po_CS : PySem.W.plainOver K CS = true)
    (sa_CS : PySem.W.findIn K (.ref CS) "__setattr__" = some (some (.builtin "object.__setattr__")))
    (mk_CS : PySem.W.makesIn K CS = true)
    (kc_CS : PySem.W.keepIn K (.ref CS) = true)
    (no_CSrules : PySem.W.findIn K (.ref CS) "rules" = some none)
    (cn_CSMOST : PySem.W.findIn K (.ref CS) "MOST" = some (some (.int 4 t_CSMOST) ))
    (cg_CSMOST : PySem.W.specialIn K (.int 4 t_CSMOST) "__get__" = some none)
    (cn_CSMOST_BOUNDS : PySem.W.findIn K (.ref CS) "MOST_BOUNDS" = some (some (.int 3 t_CSMOST_BOUNDS) ))
    (cg_CSMOST_BOUNDS : PySem.W.specialIn K (.int 3 t_CSMOST_BOUNDS) "__get__" = some none)
    (a_CV : PySem.W.nsIn K mainGlobals "Verdict" = some (some (.ref CV)))
    (pg_CV : PySem.W.plainGet K CV Str.empty = true)
    (hd_CV : PySem.W.hasDictIn K CV = true)
    (po_CV : PySem.W.plainOver K CV = true)
    (sa_CV : PySem.W.findIn K (.ref CV) "__setattr__" = some (some (.builtin "object.__setattr__")))
    (mk_CV : PySem.W.makesIn K CV = true)
    (kc_CV : PySem.W.keepIn K (.ref CV) = true)
    (no_CVtable : PySem.W.findIn K (.ref CV) "table" = some none)
    (no_CVranking : PySem.W.findIn K (.ref CV) "ranking" = some none)
    (a__law_stream : PySem.W.nsIn K mainGlobals "_law_stream" = some (some (.ref f__law_stream)))
    (l__law_stream : K.lookup f__law_stream = some ⟨oc__law_stream, od__law_stream, .func (PySem.W.fnOf "_law_stream" "_law_stream" (defArgs st__law_stream) (defBody st__law_stream) (defScope st__law_stream) .none kV__law_stream dc__law_stream pm__law_stream an__law_stream cd__law_stream ct__law_stream), sl__law_stream⟩)
    (c__law_stream : PySem.W.codeIn K cd__law_stream "_law_stream" = true)
    (k__law_stream : PySem.W.keepIn K (.ref f__law_stream) = true)
    (a__law_size : PySem.W.nsIn K mainGlobals "_law_size" = some (some (.ref f__law_size)))
    (l__law_size : K.lookup f__law_size = some ⟨oc__law_size, od__law_size, .func (PySem.W.fnOf "_law_size" "_law_size" (defArgs st__law_size) (defBody st__law_size) (defScope st__law_size) .none kV__law_size dc__law_size pm__law_size an__law_size cd__law_size ct__law_size), sl__law_size⟩)
    (c__law_size : PySem.W.codeIn K cd__law_size "_law_size" = true)
    (k__law_size : PySem.W.keepIn K (.ref f__law_size) = true)
    (a__law_makes : PySem.W.nsIn K mainGlobals "_law_makes" = some (some (.ref f__law_makes)))
    (l__law_makes : K.lookup f__law_makes = some ⟨oc__law_makes, od__law_makes, .func (PySem.W.fnOf "_law_makes" "_law_makes" (defArgs st__law_makes) (defBody st__law_makes) (defScope st__law_makes) .none kV__law_makes dc__law_makes pm__law_makes an__law_makes cd__law_makes ct__law_makes), sl__law_makes⟩)
    (c__law_makes : PySem.W.codeIn K cd__law_makes "_law_makes" = true)
    (k__law_makes : PySem.W.keepIn K (.ref f__law_makes) = true)
    (a_Crew___init__ : PySem.W.findIn K (.ref CC) "__init__" = some (some (.ref f_Crew___init__)))
    (i_Crew___init__ : PySem.W.isFn K (.ref f_Crew___init__) = true)
    (l_Crew___init__ : K.lookup f_Crew___init__ = some ⟨oc_Crew___init__, od_Crew___init__, .func (PySem.W.fnOf "__init__" "Crew.__init__" (defArgs st_Crew___init__) (defBody st_Crew___init__) (defScope st_Crew___init__) .none kV_Crew___init__ dc_Crew___init__ pm_Crew___init__ an_Crew___init__ cd_Crew___init__ ct_Crew___init__), sl_Crew___init__⟩)
    (c_Crew___init__ : PySem.W.codeIn K cd_Crew___init__ "Crew.__init__" = true)
    (k_Crew___init__ : PySem.W.keepIn K (.ref f_Crew___init__) = true)
    (a_Scheme___init__ : PySem.W.findIn K (.ref CS) "__init__" = some (some (.ref f_Scheme___init__)))
    (i_Scheme___init__ : PySem.W.isFn K (.ref f_Scheme___init__) = true)
    (l_Scheme___init__ : K.lookup f_Scheme___init__ = some ⟨oc_Scheme___init__, od_Scheme___init__, .func (PySem.W.fnOf "__init__" "Scheme.__init__" (defArgs st_Scheme___init__) (defBody st_Scheme___init__) (defScope st_Scheme___init__) .none kV_Scheme___init__ dc_Scheme___init__ pm_Scheme___init__ an_Scheme___init__ cd_Scheme___init__ ct_Scheme___init__), sl_Scheme___init__⟩)
    (c_Scheme___init__ : PySem.W.codeIn K cd_Scheme___init__ "Scheme.__init__" = true)
    (k_Scheme___init__ : PySem.W.keepIn K (.ref f_Scheme___init__) = true)
    (a__law_spots : PySem.W.nsIn K mainGlobals "_law_spots" = some (some (.ref f__law_spots)))
    (l__law_spots : K.lookup f__law_spots = some ⟨oc__law_spots, od__law_spots, .func (PySem.W.fnOf "_law_spots" "_law_spots" (defArgs st__law_spots) (defBody st__law_spots) (defScope st__law_spots) .none kV__law_spots dc__law_spots pm__law_spots an__law_spots cd__law_spots ct__law_spots), sl__law_spots⟩)
    (c__law_spots : PySem.W.codeIn K cd__law_spots "_law_spots" = true)
    (k__law_spots : PySem.W.keepIn K (.ref f__law_spots) = true)
    (a__law_group : PySem.W.nsIn K mainGlobals "_law_group" = some (some (.ref f__law_group)))
    (l__law_group : K.lookup f__law_group = some ⟨oc__law_group, od__law_group, .func (PySem.W.fnOf "_law_group" "_law_group" (defArgs st__law_group) (defBody st__law_group) (defScope st__law_group) .none kV__law_group dc__law_group pm__law_group an__law_group cd__law_group ct__law_group), sl__law_group⟩)
    (c__law_group : PySem.W.codeIn K cd__law_group "_law_group" = true)
    (k__law_group : PySem.W.keepIn K (.ref f__law_group) = true)
    (a__law_workers : PySem.W.nsIn K mainGlobals "_law_workers" = some (some (.ref f__law_workers)))
    (l__law_workers : K.lookup f__law_workers = some ⟨oc__law_workers, od__law_workers, .func (PySem.W.fnOf "_law_workers" "_law_workers" (defArgs st__law_workers) (defBody st__law_workers) (defScope st__law_workers) .none kV__law_workers dc__law_workers pm__law_workers an__law_workers cd__law_workers ct__law_workers), sl__law_workers⟩)
    (c__law_workers : PySem.W.codeIn K cd__law_workers "_law_workers" = true)
    (k__law_workers : PySem.W.keepIn K (.ref f__law_workers) = true)
    (a__law_verdict_fits : PySem.W.nsIn K mainGlobals "_law_verdict_fits" = some (some (.ref f__law_verdict_fits)))
    (l__law_verdict_fits : K.lookup f__law_verdict_fits = some ⟨oc__law_verdict_fits, od__law_verdict_fits, .func (PySem.W.fnOf "_law_verdict_fits" "_law_verdict_fits" (defArgs st__law_verdict_fits) (defBody st__law_verdict_fits) (defScope st__law_verdict_fits) .none kV__law_verdict_fits dc__law_verdict_fits pm__law_verdict_fits an__law_verdict_fits cd__law_verdict_fits ct__law_verdict_fits), sl__law_verdict_fits⟩)
    (c__law_verdict_fits : PySem.W.codeIn K cd__law_verdict_fits "_law_verdict_fits" = true)
    (k__law_verdict_fits : PySem.W.keepIn K (.ref f__law_verdict_fits) = true)
    (a__law_ranking : PySem.W.nsIn K mainGlobals "_law_ranking" = some (some (.ref f__law_ranking)))
    (l__law_ranking : K.lookup f__law_ranking = some ⟨oc__law_ranking, od__law_ranking, .func (PySem.W.fnOf "_law_ranking" "_law_ranking" (defArgs st__law_ranking) (defBody st__law_ranking) (defScope st__law_ranking) .none kV__law_ranking dc__law_ranking pm__law_ranking an__law_ranking cd__law_ranking ct__law_ranking), sl__law_ranking⟩)
    (c__law_ranking : PySem.W.codeIn K cd__law_ranking "_law_ranking" = true)
    (k__law_ranking : PySem.W.keepIn K (.ref f__law_ranking) = true)
    (a__law_needless : PySem.W.nsIn K mainGlobals "_law_needless" = some (some (.ref f__law_needless)))
    (l__law_needless : K.lookup f__law_needless = some ⟨oc__law_needless, od__law_needless, .func (PySem.W.fnOf "_law_needless" "_law_needless" (defArgs st__law_needless) (defBody st__law_needless) (defScope st__law_needless) .none kV__law_needless dc__law_needless pm__law_needless an__law_needless cd__law_needless ct__law_needless), sl__law_needless⟩)
    (c__law_needless : PySem.W.codeIn K cd__law_needless "_law_needless" = true)
    (k__law_needless : PySem.W.keepIn K (.ref f__law_needless) = true)
    (a__law_one_tally : PySem.W.nsIn K mainGlobals "_law_one_tally" = some (some (.ref f__law_one_tally)))
    (l__law_one_tally : K.lookup f__law_one_tally = some ⟨oc__law_one_tally, od__law_one_tally, .func (PySem.W.fnOf "_law_one_tally" "_law_one_tally" (defArgs st__law_one_tally) (defBody st__law_one_tally) (defScope st__law_one_tally) .none kV__law_one_tally dc__law_one_tally pm__law_one_tally an__law_one_tally cd__law_one_tally ct__law_one_tally), sl__law_one_tally⟩)
    (c__law_one_tally : PySem.W.codeIn K cd__law_one_tally "_law_one_tally" = true)
    (k__law_one_tally : PySem.W.keepIn K (.ref f__law_one_tally) = true)
    (a__law_second_moves : PySem.W.nsIn K mainGlobals "_law_second_moves" = some (some (.ref f__law_second_moves)))
    (l__law_second_moves : K.lookup f__law_second_moves = some ⟨oc__law_second_moves, od__law_second_moves, .func (PySem.W.fnOf "_law_second_moves" "_law_second_moves" (defArgs st__law_second_moves) (defBody st__law_second_moves) (defScope st__law_second_moves) .none kV__law_second_moves dc__law_second_moves pm__law_second_moves an__law_second_moves cd__law_second_moves ct__law_second_moves), sl__law_second_moves⟩)
    (c__law_second_moves : PySem.W.codeIn K cd__law_second_moves "_law_second_moves" = true)
    (k__law_second_moves : PySem.W.keepIn K (.ref f__law_second_moves) = true)
    (a__law_draw : PySem.W.nsIn K mainGlobals "_law_draw" = some (some (.ref f__law_draw)))
    (l__law_draw : K.lookup f__law_draw = some ⟨oc__law_draw, od__law_draw, .func (PySem.W.fnOf "_law_draw" "_law_draw" (defArgs st__law_draw) (defBody st__law_draw) (defScope st__law_draw) .none kV__law_draw dc__law_draw pm__law_draw an__law_draw cd__law_draw ct__law_draw), sl__law_draw⟩)
    (c__law_draw : PySem.W.codeIn K cd__law_draw "_law_draw" = true)
    (k__law_draw : PySem.W.keepIn K (.ref f__law_draw) = true)
    (a__law_first_of : PySem.W.nsIn K mainGlobals "_law_first_of" = some (some (.ref f__law_first_of)))
    (l__law_first_of : K.lookup f__law_first_of = some ⟨oc__law_first_of, od__law_first_of, .func (PySem.W.fnOf "_law_first_of" "_law_first_of" (defArgs st__law_first_of) (defBody st__law_first_of) (defScope st__law_first_of) .none kV__law_first_of dc__law_first_of pm__law_first_of an__law_first_of cd__law_first_of ct__law_first_of), sl__law_first_of⟩)
    (c__law_first_of : PySem.W.codeIn K cd__law_first_of "_law_first_of" = true)
    (k__law_first_of : PySem.W.keepIn K (.ref f__law_first_of) = true)
    (a_holders : PySem.W.nsIn K mainGlobals "holders" = some (some (.ref f_holders)))
    (l_holders : K.lookup f_holders = some ⟨oc_holders, od_holders, .func (PySem.W.fnOf "holders" "holders" (defArgs st_holders) (defBody st_holders) (defScope st_holders) .none kV_holders dc_holders pm_holders an_holders cd_holders ct_holders), sl_holders⟩)
    (c_holders : PySem.W.codeIn K cd_holders "holders" = true)
    (k_holders : PySem.W.keepIn K (.ref f_holders) = true)
    (a_Crew___len__ : PySem.W.findIn K (.ref CC) "__len__" = some (some (.ref f_Crew___len__)))
    (i_Crew___len__ : PySem.W.isFn K (.ref f_Crew___len__) = true)
    (l_Crew___len__ : K.lookup f_Crew___len__ = some ⟨oc_Crew___len__, od_Crew___len__, .func (PySem.W.fnOf "__len__" "Crew.__len__" (defArgs st_Crew___len__) (defBody st_Crew___len__) (defScope st_Crew___len__) .none kV_Crew___len__ dc_Crew___len__ pm_Crew___len__ an_Crew___len__ cd_Crew___len__ ct_Crew___len__), sl_Crew___len__⟩)
    (c_Crew___len__ : PySem.W.codeIn K cd_Crew___len__ "Crew.__len__" = true)
    (k_Crew___len__ : PySem.W.keepIn K (.ref f_Crew___len__) = true)
    (a_has_worker : PySem.W.nsIn K mainGlobals "has_worker" = some (some (.ref f_has_worker)))
    (l_has_worker : K.lookup f_has_worker = some ⟨oc_has_worker, od_has_worker, .func (PySem.W.fnOf "has_worker" "has_worker" (defArgs st_has_worker) (defBody st_has_worker) (defScope st_has_worker) .none kV_has_worker dc_has_worker pm_has_worker an_has_worker cd_has_worker ct_has_worker), sl_has_worker⟩)
    (c_has_worker : PySem.W.codeIn K cd_has_worker "has_worker" = true)
    (k_has_worker : PySem.W.keepIn K (.ref f_has_worker) = true)
    (a_is_name : PySem.W.nsIn K mainGlobals "is_name" = some (some (.ref f_is_name)))
    (l_is_name : K.lookup f_is_name = some ⟨oc_is_name, od_is_name, .func (PySem.W.fnOf "is_name" "is_name" (defArgs st_is_name) (defBody st_is_name) (defScope st_is_name) .none kV_is_name dc_is_name pm_is_name an_is_name cd_is_name ct_is_name), sl_is_name⟩)
    (c_is_name : PySem.W.codeIn K cd_is_name "is_name" = true)
    (k_is_name : PySem.W.keepIn K (.ref f_is_name) = true)
    (a__law_spot : PySem.W.nsIn K mainGlobals "_law_spot" = some (some (.ref f__law_spot)))
    (l__law_spot : K.lookup f__law_spot = some ⟨oc__law_spot, od__law_spot, .func (PySem.W.fnOf "_law_spot" "_law_spot" (defArgs st__law_spot) (defBody st__law_spot) (defScope st__law_spot) .none kV__law_spot dc__law_spot pm__law_spot an__law_spot cd__law_spot ct__law_spot), sl__law_spot⟩)
    (c__law_spot : PySem.W.codeIn K cd__law_spot "_law_spot" = true)
    (k__law_spot : PySem.W.keepIn K (.ref f__law_spot) = true)
    (a_needless : PySem.W.nsIn K mainGlobals "needless" = some (some (.ref f_needless)))
    (l_needless : K.lookup f_needless = some ⟨oc_needless, od_needless, .func (PySem.W.fnOf "needless" "needless" (defArgs st_needless) (defBody st_needless) (defScope st_needless) .none kV_needless dc_needless pm_needless an_needless cd_needless ct_needless), sl_needless⟩)
    (c_needless : PySem.W.codeIn K cd_needless "needless" = true)
    (k_needless : PySem.W.keepIn K (.ref f_needless) = true)
    (a_Verdict_holds : PySem.W.findIn K (.ref CV) "holds" = some (some (.ref P_Verdict_holds)))
    (g_Verdict_holds : PySem.W.specialIn K (.ref P_Verdict_holds) "__get__" = some (some (.builtin "property.__get__")))
    (t_Verdict_holds : PySem.W.takesIn K (.ref P_Verdict_holds) = some true)
    (r__Verdict_holds : PySem.W.recIn K P_Verdict_holds "property" = some (.ref f_Verdict_holds :: r_Verdict_holds))
    (l_Verdict_holds : K.lookup f_Verdict_holds = some ⟨oc_Verdict_holds, od_Verdict_holds, .func (PySem.W.fnOf "holds" "Verdict.holds" (defArgs st_Verdict_holds) (defBody st_Verdict_holds) (defScope st_Verdict_holds) .none kV_Verdict_holds dc_Verdict_holds pm_Verdict_holds an_Verdict_holds cd_Verdict_holds ct_Verdict_holds), sl_Verdict_holds⟩)
    (c_Verdict_holds : PySem.W.codeIn K cd_Verdict_holds "Verdict.holds" = true)
    (k_Verdict_holds : PySem.W.keepIn K (.ref f_Verdict_holds) = true)
    (a_settled : PySem.W.nsIn K mainGlobals "settled" = some (some (.ref f_settled)))
    (l_settled : K.lookup f_settled = some ⟨oc_settled, od_settled, .func (PySem.W.fnOf "settled" "settled" (defArgs st_settled) (defBody st_settled) (defScope st_settled) .none kV_settled dc_settled pm_settled an_settled cd_settled ct_settled), sl_settled⟩)
    (c_settled : PySem.W.codeIn K cd_settled "settled" = true)
    (k_settled : PySem.W.keepIn K (.ref f_settled) = true)
    (a_moved_counts : PySem.W.nsIn K mainGlobals "moved_counts" = some (some (.ref f_moved_counts)))
    (l_moved_counts : K.lookup f_moved_counts = some ⟨oc_moved_counts, od_moved_counts, .func (PySem.W.fnOf "moved_counts" "moved_counts" (defArgs st_moved_counts) (defBody st_moved_counts) (defScope st_moved_counts) .none kV_moved_counts dc_moved_counts pm_moved_counts an_moved_counts cd_moved_counts ct_moved_counts), sl_moved_counts⟩)
    (c_moved_counts : PySem.W.codeIn K cd_moved_counts "moved_counts" = true)
    (k_moved_counts : PySem.W.keepIn K (.ref f_moved_counts) = true)
    (a_tally : PySem.W.nsIn K mainGlobals "tally" = some (some (.ref f_tally)))
    (l_tally : K.lookup f_tally = some ⟨oc_tally, od_tally, .func (PySem.W.fnOf "tally" "tally" (defArgs st_tally) (defBody st_tally) (defScope st_tally) .none kV_tally dc_tally pm_tally an_tally cd_tally ct_tally), sl_tally⟩)
    (c_tally : PySem.W.codeIn K cd_tally "tally" = true)
    (k_tally : PySem.W.keepIn K (.ref f_tally) = true)
    (a__law_in_group : PySem.W.nsIn K mainGlobals "_law_in_group" = some (some (.ref f__law_in_group)))
    (l__law_in_group : K.lookup f__law_in_group = some ⟨oc__law_in_group, od__law_in_group, .func (PySem.W.fnOf "_law_in_group" "_law_in_group" (defArgs st__law_in_group) (defBody st__law_in_group) (defScope st__law_in_group) .none kV__law_in_group dc__law_in_group pm__law_in_group an__law_in_group cd__law_in_group ct__law_in_group), sl__law_in_group⟩)
    (c__law_in_group : PySem.W.codeIn K cd__law_in_group "_law_in_group" = true)
    (k__law_in_group : PySem.W.keepIn K (.ref f__law_in_group) = true)
    (a_refuse_ranking : PySem.W.nsIn K mainGlobals "refuse_ranking" = some (some (.ref f_refuse_ranking)))
    (l_refuse_ranking : K.lookup f_refuse_ranking = some ⟨oc_refuse_ranking, od_refuse_ranking, .func (PySem.W.fnOf "refuse_ranking" "refuse_ranking" (defArgs st_refuse_ranking) (defBody st_refuse_ranking) (defScope st_refuse_ranking) .none kV_refuse_ranking dc_refuse_ranking pm_refuse_ranking an_refuse_ranking cd_refuse_ranking ct_refuse_ranking), sl_refuse_ranking⟩)
    (c_refuse_ranking : PySem.W.codeIn K cd_refuse_ranking "refuse_ranking" = true)
    (k_refuse_ranking : PySem.W.keepIn K (.ref f_refuse_ranking) = true)
    (a_holder : PySem.W.nsIn K mainGlobals "holder" = some (some (.ref f_holder)))
    (l_holder : K.lookup f_holder = some ⟨oc_holder, od_holder, .func (PySem.W.fnOf "holder" "holder" (defArgs st_holder) (defBody st_holder) (defScope st_holder) .none kV_holder dc_holder pm_holder an_holder cd_holder ct_holder), sl_holder⟩)
    (c_holder : PySem.W.codeIn K cd_holder "holder" = true)
    (k_holder : PySem.W.keepIn K (.ref f_holder) = true)
    (a_consists_of : PySem.W.nsIn K mainGlobals "consists_of" = some (some (.ref f_consists_of)))
    (l_consists_of : K.lookup f_consists_of = some ⟨oc_consists_of, od_consists_of, .func (PySem.W.fnOf "consists_of" "consists_of" (defArgs st_consists_of) (defBody st_consists_of) (defScope st_consists_of) .none kV_consists_of dc_consists_of pm_consists_of an_consists_of cd_consists_of ct_consists_of), sl_consists_of⟩)
    (c_consists_of : PySem.W.codeIn K cd_consists_of "consists_of" = true)
    (k_consists_of : PySem.W.keepIn K (.ref f_consists_of) = true)
    (a_verdict_on : PySem.W.nsIn K mainGlobals "verdict_on" = some (some (.ref f_verdict_on)))
    (l_verdict_on : K.lookup f_verdict_on = some ⟨oc_verdict_on, od_verdict_on, .func (PySem.W.fnOf "verdict_on" "verdict_on" (defArgs st_verdict_on) (defBody st_verdict_on) (defScope st_verdict_on) .none kV_verdict_on dc_verdict_on pm_verdict_on an_verdict_on cd_verdict_on ct_verdict_on), sl_verdict_on⟩)
    (c_verdict_on : PySem.W.codeIn K cd_verdict_on "verdict_on" = true)
    (k_verdict_on : PySem.W.keepIn K (.ref f_verdict_on) = true)
    (a_moves_needlessly : PySem.W.nsIn K mainGlobals "moves_needlessly" = some (some (.ref f_moves_needlessly)))
    (l_moves_needlessly : K.lookup f_moves_needlessly = some ⟨oc_moves_needlessly, od_moves_needlessly, .func (PySem.W.fnOf "moves_needlessly" "moves_needlessly" (defArgs st_moves_needlessly) (defBody st_moves_needlessly) (defScope st_moves_needlessly) .none kV_moves_needlessly dc_moves_needlessly pm_moves_needlessly an_moves_needlessly cd_moves_needlessly ct_moves_needlessly), sl_moves_needlessly⟩)
    (c_moves_needlessly : PySem.W.codeIn K cd_moves_needlessly "moves_needlessly" = true)
    (k_moves_needlessly : PySem.W.keepIn K (.ref f_moves_needlessly) = true)
    (a_is_needless : PySem.W.nsIn K mainGlobals "is_needless" = some (some (.ref f_is_needless)))
    (l_is_needless : K.lookup f_is_needless = some ⟨oc_is_needless, od_is_needless, .func (PySem.W.fnOf "is_needless" "is_needless" (defArgs st_is_needless) (defBody st_is_needless) (defScope st_is_needless) .none kV_is_needless dc_is_needless pm_is_needless an_is_needless cd_is_needless ct_is_needless), sl_is_needless⟩)
    (c_is_needless : PySem.W.codeIn K cd_is_needless "is_needless" = true)
    (k_is_needless : PySem.W.keepIn K (.ref f_is_needless) = true)
    (a_refuse_yard : PySem.W.nsIn K mainGlobals "refuse_yard" = some (some (.ref f_refuse_yard)))
    (l_refuse_yard : K.lookup f_refuse_yard = some ⟨oc_refuse_yard, od_refuse_yard, .func (PySem.W.fnOf "refuse_yard" "refuse_yard" (defArgs st_refuse_yard) (defBody st_refuse_yard) (defScope st_refuse_yard) .none kV_refuse_yard dc_refuse_yard pm_refuse_yard an_refuse_yard cd_refuse_yard ct_refuse_yard), sl_refuse_yard⟩)
    (c_refuse_yard : PySem.W.codeIn K cd_refuse_yard "refuse_yard" = true)
    (k_refuse_yard : PySem.W.keepIn K (.ref f_refuse_yard) = true)
    (a_nodes_by_length : PySem.W.nsIn K mainGlobals "nodes_by_length" = some (some (.ref f_nodes_by_length)))
    (l_nodes_by_length : K.lookup f_nodes_by_length = some ⟨oc_nodes_by_length, od_nodes_by_length, .func (PySem.W.fnOf "nodes_by_length" "nodes_by_length" (defArgs st_nodes_by_length) (defBody st_nodes_by_length) (defScope st_nodes_by_length) .none kV_nodes_by_length dc_nodes_by_length pm_nodes_by_length an_nodes_by_length cd_nodes_by_length ct_nodes_by_length), sl_nodes_by_length⟩)
    (c_nodes_by_length : PySem.W.codeIn K cd_nodes_by_length "nodes_by_length" = true)
    (k_nodes_by_length : PySem.W.keepIn K (.ref f_nodes_by_length) = true)
    (a_walk : PySem.W.nsIn K mainGlobals "walk" = some (some (.ref f_walk)))
    (l_walk : K.lookup f_walk = some ⟨oc_walk, od_walk, .func (PySem.W.fnOf "walk" "walk" (defArgs st_walk) (defBody st_walk) (defScope st_walk) .none kV_walk dc_walk pm_walk an_walk cd_walk ct_walk), sl_walk⟩)
    (c_walk : PySem.W.codeIn K cd_walk "walk" = true)
    (k_walk : PySem.W.keepIn K (.ref f_walk) = true)
    (a_Verdict___init__ : PySem.W.findIn K (.ref CV) "__init__" = some (some (.ref f_Verdict___init__)))
    (i_Verdict___init__ : PySem.W.isFn K (.ref f_Verdict___init__) = true)
    (l_Verdict___init__ : K.lookup f_Verdict___init__ = some ⟨oc_Verdict___init__, od_Verdict___init__, .func (PySem.W.fnOf "__init__" "Verdict.__init__" (defArgs st_Verdict___init__) (defBody st_Verdict___init__) (defScope st_Verdict___init__) .none kV_Verdict___init__ dc_Verdict___init__ pm_Verdict___init__ an_Verdict___init__ cd_Verdict___init__ ct_Verdict___init__), sl_Verdict___init__⟩)
    (c_Verdict___init__ : PySem.W.codeIn K cd_Verdict___init__ "Verdict.__init__" = true)
    (k_Verdict___init__ : PySem.W.keepIn K (.ref f_Verdict___init__) = true)
    (a_first_failing : PySem.W.nsIn K mainGlobals "first_failing" = some (some (.ref f_first_failing)))
    (l_first_failing : K.lookup f_first_failing = some ⟨oc_first_failing, od_first_failing, .func (PySem.W.fnOf "first_failing" "first_failing" (defArgs st_first_failing) (defBody st_first_failing) (defScope st_first_failing) .none kV_first_failing dc_first_failing pm_first_failing an_first_failing cd_first_failing ct_first_failing), sl_first_failing⟩)
    (c_first_failing : PySem.W.codeIn K cd_first_failing "first_failing" = true)
    (k_first_failing : PySem.W.keepIn K (.ref f_first_failing) = true)
    (a_start_node : PySem.W.nsIn K mainGlobals "start_node" = some (some (.ref f_start_node)))
    (l_start_node : K.lookup f_start_node = some ⟨oc_start_node, od_start_node, .func (PySem.W.fnOf "start_node" "start_node" (defArgs st_start_node) (defBody st_start_node) (defScope st_start_node) .none kV_start_node dc_start_node pm_start_node an_start_node cd_start_node ct_start_node), sl_start_node⟩)
    (c_start_node : PySem.W.codeIn K cd_start_node "start_node" = true)
    (k_start_node : PySem.W.keepIn K (.ref f_start_node) = true)
    (a_unplaced : PySem.W.nsIn K mainGlobals "unplaced" = some (some (.ref f_unplaced)))
    (l_unplaced : K.lookup f_unplaced = some ⟨oc_unplaced, od_unplaced, .func (PySem.W.fnOf "unplaced" "unplaced" (defArgs st_unplaced) (defBody st_unplaced) (defScope st_unplaced) .none kV_unplaced dc_unplaced pm_unplaced an_unplaced cd_unplaced ct_unplaced), sl_unplaced⟩)
    (c_unplaced : PySem.W.codeIn K cd_unplaced "unplaced" = true)
    (k_unplaced : PySem.W.keepIn K (.ref f_unplaced) = true)
    (a_next_node : PySem.W.nsIn K mainGlobals "next_node" = some (some (.ref f_next_node)))
    (l_next_node : K.lookup f_next_node = some ⟨oc_next_node, od_next_node, .func (PySem.W.fnOf "next_node" "next_node" (defArgs st_next_node) (defBody st_next_node) (defScope st_next_node) .none kV_next_node dc_next_node pm_next_node an_next_node cd_next_node ct_next_node), sl_next_node⟩)
    (c_next_node : PySem.W.codeIn K cd_next_node "next_node" = true)
    (k_next_node : PySem.W.keepIn K (.ref f_next_node) = true)
    (a_present : PySem.W.nsIn K mainGlobals "present" = some (some (.ref f_present)))
    (l_present : K.lookup f_present = some ⟨oc_present, od_present, .func (PySem.W.fnOf "present" "present" (defArgs st_present) (defBody st_present) (defScope st_present) .none kV_present dc_present pm_present an_present cd_present ct_present), sl_present⟩)
    (c_present : PySem.W.codeIn K cd_present "present" = true)
    (k_present : PySem.W.keepIn K (.ref f_present) = true)
    (a_Crew_make_of : PySem.W.findIn K (.ref CC) "make_of" = some (some (.ref f_Crew_make_of)))
    (i_Crew_make_of : PySem.W.isFn K (.ref f_Crew_make_of) = true)
    (l_Crew_make_of : K.lookup f_Crew_make_of = some ⟨oc_Crew_make_of, od_Crew_make_of, .func (PySem.W.fnOf "make_of" "Crew.make_of" (defArgs st_Crew_make_of) (defBody st_Crew_make_of) (defScope st_Crew_make_of) .none kV_Crew_make_of dc_Crew_make_of pm_Crew_make_of an_Crew_make_of cd_Crew_make_of ct_Crew_make_of), sl_Crew_make_of⟩)
    (c_Crew_make_of : PySem.W.codeIn K cd_Crew_make_of "Crew.make_of" = true)
    (k_Crew_make_of : PySem.W.keepIn K (.ref f_Crew_make_of) = true)
    (a_Scheme_takes : PySem.W.findIn K (.ref CS) "takes" = some (some (.ref f_Scheme_takes)))
    (i_Scheme_takes : PySem.W.isFn K (.ref f_Scheme_takes) = true)
    (l_Scheme_takes : K.lookup f_Scheme_takes = some ⟨oc_Scheme_takes, od_Scheme_takes, .func (PySem.W.fnOf "takes" "Scheme.takes" (defArgs st_Scheme_takes) (defBody st_Scheme_takes) (defScope st_Scheme_takes) .none kV_Scheme_takes dc_Scheme_takes pm_Scheme_takes an_Scheme_takes cd_Scheme_takes ct_Scheme_takes), sl_Scheme_takes⟩)
    (c_Scheme_takes : PySem.W.codeIn K cd_Scheme_takes "Scheme.takes" = true)
    (k_Scheme_takes : PySem.W.keepIn K (.ref f_Scheme_takes) = true)
    (a_rule_takes : PySem.W.nsIn K mainGlobals "rule_takes" = some (some (.ref f_rule_takes)))
    (l_rule_takes : K.lookup f_rule_takes = some ⟨oc_rule_takes, od_rule_takes, .func (PySem.W.fnOf "rule_takes" "rule_takes" (defArgs st_rule_takes) (defBody st_rule_takes) (defScope st_rule_takes) .none kV_rule_takes dc_rule_takes pm_rule_takes an_rule_takes cd_rule_takes ct_rule_takes), sl_rule_takes⟩)
    (c_rule_takes : PySem.W.codeIn K cd_rule_takes "rule_takes" = true)
    (k_rule_takes : PySem.W.keepIn K (.ref f_rule_takes) = true)
    (a_belongs : PySem.W.nsIn K mainGlobals "belongs" = some (some (.ref f_belongs)))
    (l_belongs : K.lookup f_belongs = some ⟨oc_belongs, od_belongs, .func (PySem.W.fnOf "belongs" "belongs" (defArgs st_belongs) (defBody st_belongs) (defScope st_belongs) .none kV_belongs dc_belongs pm_belongs an_belongs cd_belongs ct_belongs), sl_belongs⟩)
    (c_belongs : PySem.W.codeIn K cd_belongs "belongs" = true)
    (k_belongs : PySem.W.keepIn K (.ref f_belongs) = true)
    (a_bound_holds : PySem.W.nsIn K mainGlobals "bound_holds" = some (some (.ref f_bound_holds)))
    (l_bound_holds : K.lookup f_bound_holds = some ⟨oc_bound_holds, od_bound_holds, .func (PySem.W.fnOf "bound_holds" "bound_holds" (defArgs st_bound_holds) (defBody st_bound_holds) (defScope st_bound_holds) .none kV_bound_holds dc_bound_holds pm_bound_holds an_bound_holds cd_bound_holds ct_bound_holds), sl_bound_holds⟩)
    (c_bound_holds : PySem.W.codeIn K cd_bound_holds "bound_holds" = true)
    (k_bound_holds : PySem.W.keepIn K (.ref f_bound_holds) = true)
    (a_law : PySem.W.nsIn K mainGlobals "law" = some (some (.ref f_law)))
    (l_law : K.lookup f_law = some ⟨oc_law, od_law, .func (PySem.W.fnOf "law" "law" (defArgs st_law) (defBody st_law) (defScope st_law) .none kV_law dc_law pm_law an_law cd_law ct_law), sl_law⟩)
    (c_law : PySem.W.codeIn K cd_law "law" = true)
    (k_law : PySem.W.keepIn K (.ref f_law) = true)
    (g_gL : PySem.W.nsIn K mainGlobals "LETTERS" = some (some (.str "abcdefghijklmnopqrstuvwxyz" tL)))
    (g_gN : PySem.W.nsIn K mainGlobals "LONGEST_NAME" = some (some (.int 8 tN)))
    (eR_a : PySem.W.nsIn K mainGlobals "BadRanking" = some (some (.ref cR)))
    (eR_k : PySem.W.keepIn K (.ref cR) = true)
    (eR_ex : PySem.W.subIn K (.ref cR) (.type "BaseException") = some true)
    (eR_ty : PySem.W.typeIn K (.ref cR) = some (.type "type"))
    (eR_hd : PySem.W.hasDictIn K cR = true)
    (eR_xi : PySem.W.excIn K cR [.type "ValueError", .type "Exception", .type "BaseException", .type "object"] "ValueError.__new__" = true)
    (eY_a : PySem.W.nsIn K mainGlobals "BadYard" = some (some (.ref cY)))
    (eY_k : PySem.W.keepIn K (.ref cY) = true)
    (eY_ex : PySem.W.subIn K (.ref cY) (.type "BaseException") = some true)
    (eY_ty : PySem.W.typeIn K (.ref cY) = some (.type "type"))
    (eY_hd : PySem.W.hasDictIn K cY = true)
    (eY_xi : PySem.W.excIn K cY [.type "ValueError", .type "Exception", .type "BaseException", .type "object"] "ValueError.__new__" = true)
    (s_yy : PySem.W.subIn K (.ref cY) (.ref cY) = some true) :
    LamX.LawAtS rwK w K (L2.CX rwK.prog w) 21 63 "_law_script" mg fa h := by
  cases hfa.symm.trans (PySem.W.mg_of X G a_law)
  have Bi0 : Bi mg := ⟨PySem.W.mg_none_of X G z_len, PySem.W.mg_none_of X G z_range, PySem.W.mg_none_of X G z_enumerate, PySem.W.mg_none_of X G z_abs, PySem.W.mg_none_of X G z_int, PySem.W.mg_none_of X G z_list, PySem.W.mg_none_of X G z_tuple, PySem.W.mg_none_of X G z_sorted, PySem.W.mg_none_of X G z_isinstance, PySem.W.mg_none_of X G z_str, PySem.W.mg_none_of X G z_bool, PySem.W.mg_none_of X G z_super, PySem.W.mg_none_of X G z_ValueError⟩
  have B : Bd mg := ⟨Bi0, PySem.W.mg_none_of X G z_zip, PySem.W.mg_none_of X G z_all, PySem.W.mg_none_of X G z_any, PySem.W.mg_none_of X G z_min, PySem.W.mg_none_of X G z_max, PySem.W.mg_none_of X G z_sum, PySem.W.mg_none_of X G z_set, PySem.W.mg_none_of X G z_dict, PySem.W.mg_none_of X G z_reversed⟩
  have F__law_stream := fun_mk (st := st__law_stream) l__law_stream c__law_stream k__law_stream
  have b__law_stream := F__law_stream.binds (ps := ["_law_script"]) fun _ _ _ _ _ _ us hl => match us, hl with | [_], _ => rfl
  have F__law_size := fun_mk (st := st__law_size) l__law_size c__law_size k__law_size
  have b__law_size := F__law_size.binds (ps := ["_law_stream_here"]) fun _ _ _ _ _ _ us hl => match us, hl with | [_], _ => rfl
  have F__law_makes := fun_mk (st := st__law_makes) l__law_makes c__law_makes k__law_makes
  have b__law_makes := F__law_makes.binds (ps := ["_law_stream_here", "_law_size_here"]) fun _ _ _ _ _ _ us hl => match us, hl with | [_, _], _ => rfl
  have F_Crew___init__ := fun_mk (st := st_Crew___init__) l_Crew___init__ c_Crew___init__ k_Crew___init__
  have b_Crew___init__ := F_Crew___init__.binds (ps := ["self", "workers"]) fun _ _ _ _ _ _ us hl => match us, hl with | [_, _], _ => rfl
  have F_Scheme___init__ := fun_mk (st := st_Scheme___init__) l_Scheme___init__ c_Scheme___init__ k_Scheme___init__
  have b_Scheme___init__ := F_Scheme___init__.binds (ps := ["self", "rules"]) fun _ _ _ _ _ _ us hl => match us, hl with | [_, _], _ => rfl
  have F__law_spots := fun_mk (st := st__law_spots) l__law_spots c__law_spots k__law_spots
  have b__law_spots := F__law_spots.binds (ps := ["_law_stream_here", "_law_size_here", "_law_many"]) fun _ _ _ _ _ _ us hl => match us, hl with | [_, _, _], _ => rfl
  have F__law_group := fun_mk (st := st__law_group) l__law_group c__law_group k__law_group
  have b__law_group := F__law_group.binds (ps := ["_law_stream_here"]) fun _ _ _ _ _ _ us hl => match us, hl with | [_], _ => rfl
  have F__law_workers := fun_mk (st := st__law_workers) l__law_workers c__law_workers k__law_workers
  have b__law_workers := F__law_workers.binds (ps := ["_law_makes_here", "_law_turn"]) fun _ _ _ _ _ _ us hl => match us, hl with | [_, _], _ => rfl
  have F__law_verdict_fits := fun_mk (st := st__law_verdict_fits) l__law_verdict_fits c__law_verdict_fits k__law_verdict_fits
  have b__law_verdict_fits := F__law_verdict_fits.binds (ps := ["_law_hands", "_law_plan", "_law_spots_here"]) fun _ _ _ _ _ _ us hl => match us, hl with | [_, _, _], _ => rfl
  have F__law_ranking := fun_mk (st := st__law_ranking) l__law_ranking c__law_ranking k__law_ranking
  have b__law_ranking := F__law_ranking.binds (ps := ["_law_stream_here", "_law_size_here"]) fun _ _ _ _ _ _ us hl => match us, hl with | [_, _], _ => rfl
  have F__law_needless := fun_mk (st := st__law_needless) l__law_needless c__law_needless k__law_needless
  have b__law_needless := F__law_needless.binds (ps := ["_law_trail", "_law_spots_here"]) fun _ _ _ _ _ _ us hl => match us, hl with | [_, _], _ => rfl
  have F__law_one_tally := fun_mk (st := st__law_one_tally) l__law_one_tally c__law_one_tally k__law_one_tally
  have b__law_one_tally := F__law_one_tally.binds (ps := ["_law_hands", "_law_spots_here"]) fun _ _ _ _ _ _ us hl => match us, hl with | [_, _], _ => rfl
  have F__law_second_moves := fun_mk (st := st__law_second_moves) l__law_second_moves c__law_second_moves k__law_second_moves
  have b__law_second_moves := F__law_second_moves.binds (ps := ["_law_hands"]) fun _ _ _ _ _ _ us hl => match us, hl with | [_], _ => rfl
  have F__law_draw := fun_mk (st := st__law_draw) l__law_draw c__law_draw k__law_draw
  have b__law_draw := F__law_draw.binds (ps := ["_law_stream_here", "_law_many"]) fun _ _ _ _ _ _ us hl => match us, hl with | [_, _], _ => rfl
  have F__law_first_of := fun_mk (st := st__law_first_of) l__law_first_of c__law_first_of k__law_first_of
  have b__law_first_of := F__law_first_of.binds (ps := ["_law_makes_here", "_law_groups", "_law_ranking_here", "_law_spot_here"]) fun _ _ _ _ _ _ us hl => match us, hl with | [_, _, _, _], _ => rfl
  have F_holders := fun_mk (st := st_holders) l_holders c_holders k_holders
  have b_holders := F_holders.binds (ps := ["crew", "scheme", "ranking", "yards"]) fun _ _ _ _ _ _ us hl => match us, hl with | [_, _, _, _], _ => rfl
  have F_Crew___len__ := fun_mk (st := st_Crew___len__) l_Crew___len__ c_Crew___len__ k_Crew___len__
  have b_Crew___len__ := F_Crew___len__.binds (ps := ["self"]) fun _ _ _ _ _ _ us hl => match us, hl with | [_], _ => rfl
  have F_has_worker := fun_mk (st := st_has_worker) l_has_worker c_has_worker k_has_worker
  have b_has_worker := F_has_worker.binds (ps := ["workers", "name"]) fun _ _ _ _ _ _ us hl => match us, hl with | [_, _], _ => rfl
  have F_is_name := fun_mk (st := st_is_name) l_is_name c_is_name k_is_name
  have b_is_name := F_is_name.binds (ps := ["text"]) fun _ _ _ _ _ _ us hl => match us, hl with | [_], _ => rfl
  have F__law_spot := fun_mk (st := st__law_spot) l__law_spot c__law_spot k__law_spot
  have b__law_spot := F__law_spot.binds (ps := ["_law_size_here", "_law_mask"]) fun _ _ _ _ _ _ us hl => match us, hl with | [_, _], _ => rfl
  have F_needless := fun_mk (st := st_needless) l_needless c_needless k_needless
  have b_needless := F_needless.binds (ps := ["crew", "scheme", "yards"]) fun _ _ _ _ _ _ us hl => match us, hl with | [_, _, _], _ => rfl
  have F_Verdict_holds := fun_mk (st := st_Verdict_holds) l_Verdict_holds c_Verdict_holds k_Verdict_holds
  have b_Verdict_holds := F_Verdict_holds.binds (ps := ["self"]) fun _ _ _ _ _ _ us hl => match us, hl with | [_], _ => rfl
  have F_settled := fun_mk (st := st_settled) l_settled c_settled k_settled
  have b_settled := F_settled.binds (ps := ["node"]) fun _ _ _ _ _ _ us hl => match us, hl with | [_], _ => rfl
  have F_moved_counts := fun_mk (st := st_moved_counts) l_moved_counts c_moved_counts k_moved_counts
  have b_moved_counts := F_moved_counts.binds (ps := ["crew", "scheme", "before", "after"]) fun _ _ _ _ _ _ us hl => match us, hl with | [_, _, _, _], _ => rfl
  have F_tally := fun_mk (st := st_tally) l_tally c_tally k_tally
  have b_tally := F_tally.binds (ps := ["crew", "scheme", "yards"]) fun _ _ _ _ _ _ us hl => match us, hl with | [_, _, _], _ => rfl
  have F__law_in_group := fun_mk (st := st__law_in_group) l__law_in_group c__law_in_group k__law_in_group
  have b__law_in_group := F__law_in_group.binds (ps := ["_law_group_here", "_law_make"]) fun _ _ _ _ _ _ us hl => match us, hl with | [_, _], _ => rfl
  have F_refuse_ranking := fun_mk (st := st_refuse_ranking) l_refuse_ranking c_refuse_ranking k_refuse_ranking
  have b_refuse_ranking := F_refuse_ranking.binds (ps := ["crew", "ranking"]) fun _ _ _ _ _ _ us hl => match us, hl with | [_, _], _ => rfl
  have F_holder := fun_mk (st := st_holder) l_holder c_holder k_holder
  have b_holder := F_holder.binds (ps := ["crew", "scheme", "ranking", "yard"]) fun _ _ _ _ _ _ us hl => match us, hl with | [_, _, _, _], _ => rfl
  have F_consists_of := fun_mk (st := st_consists_of) l_consists_of c_consists_of k_consists_of
  have b_consists_of := F_consists_of.binds (ps := ["text", "signs"]) fun _ _ _ _ _ _ us hl => match us, hl with | [_, _], _ => rfl
  have F_verdict_on := fun_mk (st := st_verdict_on) l_verdict_on c_verdict_on k_verdict_on
  have b_verdict_on := F_verdict_on.binds (ps := ["crew", "scheme", "yards", "fails"]) fun _ _ _ _ _ _ us hl => match us, hl with | [_, _, _, _], _ => rfl
  have F_moves_needlessly := fun_mk (st := st_moves_needlessly) l_moves_needlessly c_moves_needlessly k_moves_needlessly
  have b_moves_needlessly := F_moves_needlessly.binds (ps := ["yards", "held"]) fun _ _ _ _ _ _ us hl => match us, hl with | [_, _], _ => rfl
  have F_is_needless := fun_mk (st := st_is_needless) l_is_needless c_is_needless k_is_needless
  have b_is_needless := F_is_needless.binds (ps := ["one", "other"]) fun _ _ _ _ _ _ us hl => match us, hl with | [_, _], _ => rfl
  have F_refuse_yard := fun_mk (st := st_refuse_yard) l_refuse_yard c_refuse_yard k_refuse_yard
  have b_refuse_yard := F_refuse_yard.binds (ps := ["crew", "yard"]) fun _ _ _ _ _ _ us hl => match us, hl with | [_, _], _ => rfl
  have F_nodes_by_length := fun_mk (st := st_nodes_by_length) l_nodes_by_length c_nodes_by_length k_nodes_by_length
  have b_nodes_by_length := F_nodes_by_length.binds (ps := ["crew", "scheme", "yards"]) fun _ _ _ _ _ _ us hl => match us, hl with | [_, _, _], _ => rfl
  have F_walk := fun_mk (st := st_walk) l_walk c_walk k_walk
  have b_walk := F_walk.binds (ps := ["crew", "scheme", "ranking", "yard"]) fun _ _ _ _ _ _ us hl => match us, hl with | [_, _, _, _], _ => rfl
  have F_Verdict___init__ := fun_mk (st := st_Verdict___init__) l_Verdict___init__ c_Verdict___init__ k_Verdict___init__
  have b_Verdict___init__ := F_Verdict___init__.binds (ps := ["self", "table", "ranking"]) fun _ _ _ _ _ _ us hl => match us, hl with | [_, _, _], _ => rfl
  have F_first_failing := fun_mk (st := st_first_failing) l_first_failing c_first_failing k_first_failing
  have b_first_failing := F_first_failing.binds (ps := ["crew", "scheme", "yards", "fails", "beginning", "node"]) fun _ _ _ _ _ _ us hl => match us, hl with | [_, _, _, _, _, _], _ => rfl
  have F_start_node := fun_mk (st := st_start_node) l_start_node c_start_node k_start_node
  have b_start_node := F_start_node.binds (ps := ["yards"]) fun _ _ _ _ _ _ us hl => match us, hl with | [_], _ => rfl
  have F_unplaced := fun_mk (st := st_unplaced) l_unplaced c_unplaced k_unplaced
  have b_unplaced := F_unplaced.binds (ps := ["crew", "node"]) fun _ _ _ _ _ _ us hl => match us, hl with | [_, _], _ => rfl
  have F_next_node := fun_mk (st := st_next_node) l_next_node c_next_node k_next_node
  have b_next_node := F_next_node.binds (ps := ["crew", "scheme", "yards", "node", "worker"]) fun _ _ _ _ _ _ us hl => match us, hl with | [_, _, _, _, _], _ => rfl
  have F_present := fun_mk (st := st_present) l_present c_present k_present
  have b_present := F_present.binds (ps := ["ranking", "yard"]) fun _ _ _ _ _ _ us hl => match us, hl with | [_, _], _ => rfl
  have F_Crew_make_of := fun_mk (st := st_Crew_make_of) l_Crew_make_of c_Crew_make_of k_Crew_make_of
  have b_Crew_make_of := F_Crew_make_of.binds (ps := ["self", "worker"]) fun _ _ _ _ _ _ us hl => match us, hl with | [_, _], _ => rfl
  have F_Scheme_takes := fun_mk (st := st_Scheme_takes) l_Scheme_takes c_Scheme_takes k_Scheme_takes
  have b_Scheme_takes := F_Scheme_takes.binds (ps := ["self", "make", "seen"]) fun _ _ _ _ _ _ us hl => match us, hl with | [_, _, _], _ => rfl
  have F_rule_takes := fun_mk (st := st_rule_takes) l_rule_takes c_rule_takes k_rule_takes
  have b_rule_takes := F_rule_takes.binds (ps := ["rule", "make", "seen"]) fun _ _ _ _ _ _ us hl => match us, hl with | [_, _, _], _ => rfl
  have F_belongs := fun_mk (st := st_belongs) l_belongs c_belongs k_belongs
  have b_belongs := F_belongs.binds (ps := ["make", "group"]) fun _ _ _ _ _ _ us hl => match us, hl with | [_, _], _ => rfl
  have F_bound_holds := fun_mk (st := st_bound_holds) l_bound_holds c_bound_holds k_bound_holds
  have b_bound_holds := F_bound_holds.binds (ps := ["bound", "seen"]) fun _ _ _ _ _ _ us hl => match us, hl with | [_, _], _ => rfl
  have F_law := fun_mk (st := st_law) l_law c_law k_law
  have b_law := F_law.binds (ps := ["_law_script"]) fun _ _ _ _ _ _ us hl => match us, hl with | [_], _ => rfl
  have cl_CC : Cls K CC := ⟨pg_CC, hd_CC, po_CC, sa_CC⟩
  have cd_CCMOST : ConD K CC "MOST" (.int 6) := ⟨V.int 6, _, ⟨cn_CCMOST, ⟨_, rfl⟩, cg_CCMOST, by decide +kernel⟩, fun G => .sc _⟩
  have cl_CS : Cls K CS := ⟨pg_CS, hd_CS, po_CS, sa_CS⟩
  have cd_CSMOST : ConD K CS "MOST" (.int 4) := ⟨V.int 4, _, ⟨cn_CSMOST, ⟨_, rfl⟩, cg_CSMOST, by decide +kernel⟩, fun G => .sc _⟩
  have cd_CSMOST_BOUNDS : ConD K CS "MOST_BOUNDS" (.int 3) := ⟨V.int 3, _, ⟨cn_CSMOST_BOUNDS, ⟨_, rfl⟩, cg_CSMOST_BOUNDS, by decide +kernel⟩, fun G => .sc _⟩
  have cl_CV : Cls K CV := ⟨pg_CV, hd_CV, po_CV, sa_CV⟩
  have gL := PySem.W.mg_of X G g_gL
  have gN := PySem.W.mg_of X G g_gN
  have eR : Ex0 K mg "BadRanking" cR := ⟨eR_xi, PySem.W.mg_of X G eR_a, eR_k, eR_ex, eR_ty⟩
  have eY : Ex0 K mg "BadYard" cY := ⟨eY_xi, PySem.W.mg_of X G eY_a, eY_k, eY_ex, eY_ty⟩
  obtain ⟨PF, ePF⟩ : ∃ PF : Addr → Option Pf, PF = PFof [(f_moves_needlessly, needlessP)] := ⟨_, rfl⟩
  obtain ⟨fU, efU⟩ : ∃ a : Addr, a = f_moves_needlessly := ⟨_, rfl⟩
  have gU : mg "moves_needlessly" = some (.ref fU) := by rw [efU]; exact PySem.W.mg_of X G a_moves_needlessly
  have hpU : PF fU = some needlessP := by rw [ePF, efU]; simp [PFof, List.find?_cons]
  have hf := (PySem.W.exm_ref eY_ex eY_hd eY_ty s_yy : PySem.W.exmOne K (Value.ref cY) (Value.ref cY) = some true)
  have hS := cl_CS
  have hC := cl_CC
  have hV := cl_CV
  have nS := (no_CSrules : NoAttr K CS "rules")
  have nC := (no_CC_workers : NoAttr K CC "_workers")
  have nV1 := (no_CVtable : NoAttr K CV "table")
  have nV2 := (no_CVranking : NoAttr K CV "ranking")
  have v1 := cd_CSMOST
  have v2 := cd_CSMOST_BOUNDS
  have v3 := cd_CCMOST
  refine ⟨PySem.W.fnOf "law" "law" (defArgs st_law) (defBody st_law) (defScope st_law) .none kV_law dc_law pm_law an_law cd_law ct_law, [], spEnd K, fun p hp => (by cases hp), fun p hp => (by cases hp), fun p hp => (by cases hp), fun s u => .of_eq rfl, fun H a ns hl _ hH hS => ⟨a, ns, rfl, hS, hl, fun _ => rfl⟩, fun base KB GB TB => ?_⟩
  have c__law_stream : CalX (L2.CX rwK.prog w) rwK.prog w K mg base 1 "_law_stream" (liftSp [] K sp__law_stream) := cal_ofD F__law_stream (PySem.W.mg_of X G a__law_stream) b__law_stream (ok__law_stream (T := []) F__law_stream B )
  have c_has_worker : CalX (L2.CX rwK.prog w) rwK.prog w K mg base 1 "has_worker" (liftSp [] K sp_has_worker) := cal_ofD F_has_worker (PySem.W.mg_of X G a_has_worker) b_has_worker (ok_has_worker (T := []) F_has_worker B )
  have c__law_spot : CalX (L2.CX rwK.prog w) rwK.prog w K mg base 1 "_law_spot" (liftSp [] K sp__law_spot) := cal_ofD F__law_spot (PySem.W.mg_of X G a__law_spot) b__law_spot (ok__law_spot (T := []) F__law_spot B )
  have p_Verdict_holds : PropX rwK.prog w K mg base 1 CV "holds" (liftSp [] K (sp_Verdict_holds CV)) := ⟨P_Verdict_holds, f_Verdict_holds, _, _, cl_CV, ⟨a_Verdict_holds, g_Verdict_holds, t_Verdict_holds, _, r__Verdict_holds⟩, ok_Verdict_holds (T := []) F_Verdict_holds B hV nV2, b_Verdict_holds⟩
  have c_settled : CalX (L2.CX rwK.prog w) rwK.prog w K mg base 1 "settled" (liftSp [] K sp_settled) := cal_ofD F_settled (PySem.W.mg_of X G a_settled) b_settled (ok_settled (T := []) F_settled B )
  have c__law_in_group : CalX (L2.CX rwK.prog w) rwK.prog w K mg base 1 "_law_in_group" (liftSp [] K sp__law_in_group) := cal_ofD F__law_in_group (PySem.W.mg_of X G a__law_in_group) b__law_in_group (ok__law_in_group (T := []) F__law_in_group B )
  have c_consists_of : CalX (L2.CX rwK.prog w) rwK.prog w K mg base 1 "consists_of" (liftSp [] K sp_consists_of) := cal_ofD F_consists_of (PySem.W.mg_of X G a_consists_of) b_consists_of (ok_consists_of (T := []) F_consists_of B )
  have c_is_needless : CalX (L2.CX rwK.prog w) rwK.prog w K mg base 1 "is_needless" (liftSp [] K sp_is_needless) := cal_ofD F_is_needless (PySem.W.mg_of X G a_is_needless) b_is_needless (ok_is_needless (T := []) F_is_needless B )
  have k_Verdict : MakX rwK.prog w K mg base 1 "Verdict" CV (liftSp [] K (sp_Verdict___init__ CV)) := ⟨f_Verdict___init__, _, _, ok_Verdict___init__ (T := []) F_Verdict___init__ B hV nV1 nV2, PySem.W.mg_of X G a_CV, b_Verdict___init__, ⟨mk_CV, a_Verdict___init__, i_Verdict___init__, kc_CV⟩⟩
  have c_start_node : CalX (L2.CX rwK.prog w) rwK.prog w K mg base 1 "start_node" (liftSp [] K sp_start_node) := cal_ofD F_start_node (PySem.W.mg_of X G a_start_node) b_start_node (ok_start_node (T := []) F_start_node B )
  have c_present : CalX (L2.CX rwK.prog w) rwK.prog w K mg base 1 "present" (liftSp [] K sp_present) := cal_ofD F_present (PySem.W.mg_of X G a_present) b_present (ok_present (T := []) F_present B )
  have m_Crew_make_of : MetX (L2.CX rwK.prog w) rwK.prog w K mg base 1 CC "make_of" (liftSp [] K (sp_Crew_make_of CC)) := ⟨f_Crew_make_of, _, _, cl_CC, ⟨a_Crew_make_of, i_Crew_make_of, k_Crew_make_of⟩, ok_Crew_make_of (T := []) F_Crew_make_of B hC nC, b_Crew_make_of⟩
  have c_belongs : CalX (L2.CX rwK.prog w) rwK.prog w K mg base 1 "belongs" (liftSp [] K sp_belongs) := cal_ofD F_belongs (PySem.W.mg_of X G a_belongs) b_belongs (ok_belongs (T := []) F_belongs B )
  have c__law_first_of : CalX (L2.CX rwK.prog w) rwK.prog w K mg base 2 "_law_first_of" (liftSp [] K sp__law_first_of) := cal_ofD F__law_first_of (PySem.W.mg_of X G a__law_first_of) b__law_first_of (ok__law_first_of (T := []) F__law_first_of B c__law_in_group)
  have l_Crew___len__ : LenX rwK.prog w K mg base 2 CC (liftSp [] K (sp_Crew___len__ CC)) := ⟨f_Crew___len__, _, _, ok_Crew___len__ (T := []) F_Crew___len__ B hC nC, ⟨a_Crew___len__, i_Crew___len__⟩, b_Crew___len__⟩
  have c_moves_needlessly : CalX (L2.CX rwK.prog w) rwK.prog w K mg base 2 "moves_needlessly" (liftSp [] K sp_moves_needlessly) := cal_ofD F_moves_needlessly (PySem.W.mg_of X G a_moves_needlessly) b_moves_needlessly (ok_moves_needlessly (T := []) F_moves_needlessly B c_is_needless)
  have k_Scheme : MakX rwK.prog w K mg base 4 "Scheme" CS (liftSp [] K (sp_Scheme___init__ CS)) := ⟨f_Scheme___init__, _, _, ok_Scheme___init__ (T := []) F_Scheme___init__ B hS nS v1 v2, PySem.W.mg_of X G a_CS, b_Scheme___init__, ⟨mk_CS, a_Scheme___init__, i_Scheme___init__, kc_CS⟩⟩
  have c__law_workers : CalX (L2.CX rwK.prog w) rwK.prog w K mg base 4 "_law_workers" (liftSp [] K sp__law_workers) := cal_ofD F__law_workers (PySem.W.mg_of X G a__law_workers) b__law_workers (ok__law_workers (T := []) F__law_workers B )
  have c__law_needless : CalX (L2.CX rwK.prog w) rwK.prog w K mg base 4 "_law_needless" (liftSp [] K sp__law_needless) := cal_ofD F__law_needless (PySem.W.mg_of X G a__law_needless) b__law_needless (ok__law_needless (T := []) F__law_needless B )
  have c__law_draw : CalX (L2.CX rwK.prog w) rwK.prog w K mg base 4 "_law_draw" (liftSp [] K sp__law_draw) := cal_ofD F__law_draw (PySem.W.mg_of X G a__law_draw) b__law_draw (ok__law_draw (T := []) F__law_draw B )
  have c_is_name : CalX (L2.CX rwK.prog w) rwK.prog w K mg base 4 "is_name" (liftSp [] K sp_is_name) := cal_ofD F_is_name (PySem.W.mg_of X G a_is_name) b_is_name (ok_is_name (T := []) F_is_name B c_consists_of gL gN)
  have c_refuse_ranking : CalX (L2.CX rwK.prog w) rwK.prog w K mg base 4 "refuse_ranking" (liftSp [] K (sp_refuse_ranking CC cR)) := cal_ofD F_refuse_ranking (PySem.W.mg_of X G a_refuse_ranking) b_refuse_ranking (ok_refuse_ranking (T := []) F_refuse_ranking B l_Crew___len__ eR)
  have c_refuse_yard : CalX (L2.CX rwK.prog w) rwK.prog w K mg base 4 "refuse_yard" (liftSp [] K (sp_refuse_yard CC cY)) := cal_ofD F_refuse_yard (PySem.W.mg_of X G a_refuse_yard) b_refuse_yard (ok_refuse_yard (T := []) F_refuse_yard B l_Crew___len__ eY)
  have c_unplaced : CalX (L2.CX rwK.prog w) rwK.prog w K mg base 4 "unplaced" (liftSp [] K (sp_unplaced CC)) := cal_ofD F_unplaced (PySem.W.mg_of X G a_unplaced) b_unplaced (ok_unplaced (T := []) F_unplaced B l_Crew___len__)
  have c_bound_holds : CalX (L2.CX rwK.prog w) rwK.prog w K mg base 4 "bound_holds" (liftSp [] K sp_bound_holds) := cal_ofD F_bound_holds (PySem.W.mg_of X G a_bound_holds) b_bound_holds (ok_bound_holds (T := []) F_bound_holds B c_belongs)
  have c__law_size : CalX (L2.CX rwK.prog w) rwK.prog w K mg base 5 "_law_size" (liftSp [] K sp__law_size) := cal_ofD F__law_size (PySem.W.mg_of X G a__law_size) b__law_size (ok__law_size (T := []) F__law_size B c__law_draw)
  have c__law_makes : CalX (L2.CX rwK.prog w) rwK.prog w K mg base 5 "_law_makes" (liftSp [] K sp__law_makes) := cal_ofD F__law_makes (PySem.W.mg_of X G a__law_makes) b__law_makes (ok__law_makes (T := []) F__law_makes B c__law_draw)
  have k_Crew : MakX rwK.prog w K mg base 5 "Crew" CC (liftSp [] K (sp_Crew___init__ CC)) := ⟨f_Crew___init__, _, _, ok_Crew___init__ (T := []) F_Crew___init__ B c_has_worker c_is_name hC nC v3, PySem.W.mg_of X G a_CC, b_Crew___init__, ⟨mk_CC, a_Crew___init__, i_Crew___init__, kc_CC⟩⟩
  have c__law_spots : CalX (L2.CX rwK.prog w) rwK.prog w K mg base 5 "_law_spots" (liftSp [] K sp__law_spots) := cal_ofD F__law_spots (PySem.W.mg_of X G a__law_spots) b__law_spots (ok__law_spots (T := []) F__law_spots B c__law_draw c__law_spot)
  have c__law_group : CalX (L2.CX rwK.prog w) rwK.prog w K mg base 5 "_law_group" (liftSp [] K sp__law_group) := cal_ofD F__law_group (PySem.W.mg_of X G a__law_group) b__law_group (ok__law_group (T := []) F__law_group B c__law_draw)
  have c__law_ranking : CalX (L2.CX rwK.prog w) rwK.prog w K mg base 5 "_law_ranking" (liftSp [] K sp__law_ranking) := cal_ofD F__law_ranking (PySem.W.mg_of X G a__law_ranking) b__law_ranking (ok__law_ranking (T := []) F__law_ranking B c__law_draw)
  have c_rule_takes : CalX (L2.CX rwK.prog w) rwK.prog w K mg base 5 "rule_takes" (liftSp [] K sp_rule_takes) := cal_ofD F_rule_takes (PySem.W.mg_of X G a_rule_takes) b_rule_takes (ok_rule_takes (T := []) F_rule_takes B c_belongs c_bound_holds)
  have m_Scheme_takes : MetX (L2.CX rwK.prog w) rwK.prog w K mg base 6 CS "takes" (liftSp [] K (sp_Scheme_takes CS)) := ⟨f_Scheme_takes, _, _, cl_CS, ⟨a_Scheme_takes, i_Scheme_takes, k_Scheme_takes⟩, ok_Scheme_takes (T := []) F_Scheme_takes B c_rule_takes hS nS, b_Scheme_takes⟩
  have c_walk : CalX (L2.CX rwK.prog w) rwK.prog w K mg base 7 "walk" (liftSp [] K (sp_walk CC CS cR cY)) := cal_ofD F_walk (PySem.W.mg_of X G a_walk) b_walk (ok_walk (T := []) F_walk B c_refuse_ranking c_refuse_yard c_present m_Crew_make_of m_Scheme_takes)
  have c_next_node : CalX (L2.CX rwK.prog w) rwK.prog w K mg base 7 "next_node" (liftSp [] K (sp_next_node CC CS)) := cal_ofD F_next_node (PySem.W.mg_of X G a_next_node) b_next_node (ok_next_node (T := []) F_next_node B m_Crew_make_of m_Scheme_takes)
  have c_holder : CalX (L2.CX rwK.prog w) rwK.prog w K mg base 8 "holder" (liftSp [] K (sp_holder CC CS cR cY)) := cal_ofD F_holder (PySem.W.mg_of X G a_holder) b_holder (ok_holder (T := []) F_holder B c_walk)
  have c_nodes_by_length : CalX (L2.CX rwK.prog w) rwK.prog w K mg base 8 "nodes_by_length" (liftSp [] K (sp_nodes_by_length CC CS)) := cal_ofD F_nodes_by_length (PySem.W.mg_of X G a_nodes_by_length) b_nodes_by_length (ok_nodes_by_length (T := []) F_nodes_by_length B c_start_node c_unplaced c_next_node l_Crew___len__)
  have c_holders : CalX (L2.CX rwK.prog w) rwK.prog w K mg base 9 "holders" (liftSp [] K (sp_holders CC CS cR cY)) := cal_ofD F_holders (PySem.W.mg_of X G a_holders) b_holders (ok_holders (T := []) F_holders B c_refuse_ranking c_holder)
  have c_tally : CalX (L2.CX rwK.prog w) rwK.prog w K mg base 9 "tally" (liftSp [] K (sp_tally CC CS cY)) := cal_ofD F_tally (PySem.W.mg_of X G a_tally) b_tally (ok_tally (T := []) F_tally B c_refuse_yard c_settled c_nodes_by_length)
  have c__law_one_tally : CalX (L2.CX rwK.prog w) rwK.prog w K mg base 10 "_law_one_tally" (liftSp [] K (sp__law_one_tally CC CS cY)) := cal_ofD F__law_one_tally (PySem.W.mg_of X G a__law_one_tally) b__law_one_tally (ok__law_one_tally (T := []) F__law_one_tally B c_tally k_Scheme)
  have c_moved_counts : CalX (L2.CX rwK.prog w) rwK.prog w K mg base 10 "moved_counts" (liftSp [] K (sp_moved_counts CC CS cY)) := cal_ofD F_moved_counts (PySem.W.mg_of X G a_moved_counts) b_moved_counts (ok_moved_counts (T := []) F_moved_counts B c_tally c_is_needless)
  have hM := (by rw [ePF]; exact hM_of (L := [(f_moves_needlessly, needlessP)]) (by simp only [List.forall_mem_cons, List.not_mem_nil, false_implies, implies_true, and_true]; exact held_mk k_moves_needlessly b_moves_needlessly ((ok_moves_needlessly (T := []) F_moves_needlessly B c_is_needless).mono (by decide))) : ∀ f sp, ((PF f).map sp_fail).map (liftSp [] K) = some sp → Held rwK.prog w K mg base 4 f sp)
  have hff : ∀ m : Nat, CalX (L2.CX rwK.prog w) rwK.prog w K mg base (m + 7) "first_failing" (liftSp [] K (sp_first_failing CC CS PF m)) := fun m => by
    induction m with
    | zero => exact cal_ofD F_first_failing (PySem.W.mg_of X G a_first_failing) b_first_failing (fnOk_none ff_none)
    | succ m ih => exact cal_ofD F_first_failing (PySem.W.mg_of X G a_first_failing) b_first_failing (ok_first_failing (T := []) F_first_failing B c_unplaced c_next_node ih c_settled hM)
  have c_first_failing := hff 10
  have c_verdict_on : CalX (L2.CX rwK.prog w) rwK.prog w K mg base 18 "verdict_on" (liftSp [] K (sp_verdict_on CC CS CV cY PF)) := cal_ofD F_verdict_on (PySem.W.mg_of X G a_verdict_on) b_verdict_on (ok_verdict_on (T := []) F_verdict_on B c_nodes_by_length c_refuse_yard c_first_failing c_settled c_start_node k_Verdict hM)
  have c_needless : CalX (L2.CX rwK.prog w) rwK.prog w K mg base 19 "needless" (liftSp [] K (sp_needless CC CS CV cY PF fU)) := cal_ofD F_needless (PySem.W.mg_of X G a_needless) b_needless (ok_needless (T := []) F_needless B c_verdict_on gU hpU)
  have c__law_verdict_fits : CalX (L2.CX rwK.prog w) rwK.prog w K mg base 20 "_law_verdict_fits" (liftSp [] K (sp__law_verdict_fits CC CS CV cY PF fU)) := cal_ofD F__law_verdict_fits (PySem.W.mg_of X G a__law_verdict_fits) b__law_verdict_fits (ok__law_verdict_fits (T := []) F__law_verdict_fits B c_needless c__law_needless c_settled c_moved_counts l_Crew___len__ p_Verdict_holds hV nV1 nV2)
  have c__law_second_moves : CalX (L2.CX rwK.prog w) rwK.prog w K mg base 20 "_law_second_moves" (liftSp [] K (sp__law_second_moves CC CS CV cY PF fU)) := cal_ofD F__law_second_moves (PySem.W.mg_of X G a__law_second_moves) b__law_second_moves (ok__law_second_moves (T := []) F__law_second_moves B c_needless k_Scheme l_Crew___len__ p_Verdict_holds hV nV1 nV2)
  exact (ok_law (T := []) F_law B c__law_stream c__law_size c__law_makes c__law_spots c__law_group c__law_workers c__law_verdict_fits c__law_ranking c__law_needless c__law_one_tally c__law_second_moves c__law_draw c__law_first_of c_holders k_Crew k_Scheme).imp fun vs H Q E h => end_of h
end DL
set_option Elab.async false
open PySem PySem.W PyProof.Rows
set_option maxRecDepth 100000 in
set_option maxHeartbeats 0 in
theorem PySem.Challenge.cw_movedstates_k53_without_bounds_nothing_i_holds : PySem.Challenge.rw_movedstates_k53_without_bounds_nothing_i.Holds := by
  w_on; o_law; k_head; (case hw => w_witness2)
  k_fill
  refine LamX.walk_ofTs (l := PySem.Challenge.rw_movedstates_k53_without_bounds_nothing_i) (n := 63) (k := 21) (x := "_law_script") (CX := fun w => L2.CX (PySem.Challenge.rw_movedstates_k53_without_bounds_nothing_i).prog w) rfl (by decide) rfl ⟨rfl, by decide, by decide⟩ (fun w h Y => kIn_of Y) ?F (fun w H s e s' z => by obtain ⟨_, _, _, _, _, _, _, _, _, _, _, _, hE⟩ := z; exact hE)
  case F =>
    intro w mg fa h Y KX G hmg
    refine' DL.all_mk KX G hmg ?z_len ?z_range ?z_enumerate ?z_abs ?z_int ?z_list ?z_tuple ?z_sorted ?z_isinstance ?z_str ?z_bool ?z_super ?z_ValueError ?z_zip ?z_all ?z_any ?z_min ?z_max ?z_sum ?z_set ?z_dict ?z_reversed ?a_CC ?pg_CC ?hd_CC ?po_CC ?sa_CC ?mk_CC ?kc_CC ?no_CC_workers ?cn_CCMOST ?cg_CCMOST ?a_CS ?pg_CS ?hd_CS ?po_CS ?sa_CS ?mk_CS ?kc_CS ?no_CSrules ?cn_CSMOST ?cg_CSMOST ?cn_CSMOST_BOUNDS ?cg_CSMOST_BOUNDS ?a_CV ?pg_CV ?hd_CV ?po_CV ?sa_CV ?mk_CV ?kc_CV ?no_CVtable ?no_CVranking ?a__law_stream ?l__law_stream ?c__law_stream ?k__law_stream ?a__law_size ?l__law_size ?c__law_size ?k__law_size ?a__law_makes ?l__law_makes ?c__law_makes ?k__law_makes ?a_Crew___init__ ?i_Crew___init__ ?l_Crew___init__ ?c_Crew___init__ ?k_Crew___init__ ?a_Scheme___init__ ?i_Scheme___init__ ?l_Scheme___init__ ?c_Scheme___init__ ?k_Scheme___init__ ?a__law_spots ?l__law_spots ?c__law_spots ?k__law_spots ?a__law_group ?l__law_group ?c__law_group ?k__law_group ?a__law_workers ?l__law_workers ?c__law_workers ?k__law_workers ?a__law_verdict_fits ?l__law_verdict_fits ?c__law_verdict_fits ?k__law_verdict_fits ?a__law_ranking ?l__law_ranking ?c__law_ranking ?k__law_ranking ?a__law_needless ?l__law_needless ?c__law_needless ?k__law_needless ?a__law_one_tally ?l__law_one_tally ?c__law_one_tally ?k__law_one_tally ?a__law_second_moves ?l__law_second_moves ?c__law_second_moves ?k__law_second_moves ?a__law_draw ?l__law_draw ?c__law_draw ?k__law_draw ?a__law_first_of ?l__law_first_of ?c__law_first_of ?k__law_first_of ?a_holders ?l_holders ?c_holders ?k_holders ?a_Crew___len__ ?i_Crew___len__ ?l_Crew___len__ ?c_Crew___len__ ?k_Crew___len__ ?a_has_worker ?l_has_worker ?c_has_worker ?k_has_worker ?a_is_name ?l_is_name ?c_is_name ?k_is_name ?a__law_spot ?l__law_spot ?c__law_spot ?k__law_spot ?a_needless ?l_needless ?c_needless ?k_needless ?a_Verdict_holds ?g_Verdict_holds ?t_Verdict_holds ?r__Verdict_holds ?l_Verdict_holds ?c_Verdict_holds ?k_Verdict_holds ?a_settled ?l_settled ?c_settled ?k_settled ?a_moved_counts ?l_moved_counts ?c_moved_counts ?k_moved_counts ?a_tally ?l_tally ?c_tally ?k_tally ?a__law_in_group ?l__law_in_group ?c__law_in_group ?k__law_in_group ?a_refuse_ranking ?l_refuse_ranking ?c_refuse_ranking ?k_refuse_ranking ?a_holder ?l_holder ?c_holder ?k_holder ?a_consists_of ?l_consists_of ?c_consists_of ?k_consists_of ?a_verdict_on ?l_verdict_on ?c_verdict_on ?k_verdict_on ?a_moves_needlessly ?l_moves_needlessly ?c_moves_needlessly ?k_moves_needlessly ?a_is_needless ?l_is_needless ?c_is_needless ?k_is_needless ?a_refuse_yard ?l_refuse_yard ?c_refuse_yard ?k_refuse_yard ?a_nodes_by_length ?l_nodes_by_length ?c_nodes_by_length ?k_nodes_by_length ?a_walk ?l_walk ?c_walk ?k_walk ?a_Verdict___init__ ?i_Verdict___init__ ?l_Verdict___init__ ?c_Verdict___init__ ?k_Verdict___init__ ?a_first_failing ?l_first_failing ?c_first_failing ?k_first_failing ?a_start_node ?l_start_node ?c_start_node ?k_start_node ?a_unplaced ?l_unplaced ?c_unplaced ?k_unplaced ?a_next_node ?l_next_node ?c_next_node ?k_next_node ?a_present ?l_present ?c_present ?k_present ?a_Crew_make_of ?i_Crew_make_of ?l_Crew_make_of ?c_Crew_make_of ?k_Crew_make_of ?a_Scheme_takes ?i_Scheme_takes ?l_Scheme_takes ?c_Scheme_takes ?k_Scheme_takes ?a_rule_takes ?l_rule_takes ?c_rule_takes ?k_rule_takes ?a_belongs ?l_belongs ?c_belongs ?k_belongs ?a_bound_holds ?l_bound_holds ?c_bound_holds ?k_bound_holds ?a_law ?l_law ?c_law ?k_law ?g_gL ?g_gN ?eR_a ?eR_k ?eR_ex ?eR_ty ?eR_hd ?eR_xi ?eY_a ?eY_k ?eY_ex ?eY_ty ?eY_hd ?eY_xi ?s_yy
    (case z_len => k_is)
    (case z_range => k_is)
    (case z_enumerate => k_is)
    (case z_abs => k_is)
    (case z_int => k_is)
    (case z_list => k_is)
    (case z_tuple => k_is)
    (case z_sorted => k_is)
    (case z_isinstance => k_is)
    (case z_str => k_is)
    (case z_bool => k_is)
    (case z_super => k_is)
    (case z_ValueError => k_is)
    (case z_zip => k_is)
    (case z_all => k_is)
    (case z_any => k_is)
    (case z_min => k_is)
    (case z_max => k_is)
    (case z_sum => k_is)
    (case z_set => k_is)
    (case z_dict => k_is)
    (case z_reversed => k_is)
    (case a_CC => k_is)
    (case pg_CC => k_is)
    (case hd_CC => k_is)
    (case po_CC => k_is)
    (case sa_CC => k_is)
    (case mk_CC => k_is)
    (case kc_CC => k_is)
    (case no_CC_workers => k_is)
    (case cn_CCMOST => k_is)
    (case cg_CCMOST => k_is)
    (case a_CS => k_is)
    (case pg_CS => k_is)
    (case hd_CS => k_is)
    (case po_CS => k_is)
    (case sa_CS => k_is)
    (case mk_CS => k_is)
    (case kc_CS => k_is)
    (case no_CSrules => k_is)
    (case cn_CSMOST => k_is)
    (case cg_CSMOST => k_is)
    (case cn_CSMOST_BOUNDS => k_is)
    (case cg_CSMOST_BOUNDS => k_is)
    (case a_CV => k_is)
    (case pg_CV => k_is)
    (case hd_CV => k_is)
    (case po_CV => k_is)
    (case sa_CV => k_is)
    (case mk_CV => k_is)
    (case kc_CV => k_is)
    (case no_CVtable => k_is)
    (case no_CVranking => k_is)
    (case a__law_stream => k_is)
    (case l__law_stream => k_is)
    (case c__law_stream => k_is)
    (case k__law_stream => k_is)
    (case a__law_size => k_is)
    (case l__law_size => k_is)
    (case c__law_size => k_is)
    (case k__law_size => k_is)
    (case a__law_makes => k_is)
    (case l__law_makes => k_is)
    (case c__law_makes => k_is)
    (case k__law_makes => k_is)
    (case a_Crew___init__ => k_is)
    (case i_Crew___init__ => k_is)
    (case l_Crew___init__ => k_is)
    (case c_Crew___init__ => k_is)
    (case k_Crew___init__ => k_is)
    (case a_Scheme___init__ => k_is)
    (case i_Scheme___init__ => k_is)
    (case l_Scheme___init__ => k_is)
    (case c_Scheme___init__ => k_is)
    (case k_Scheme___init__ => k_is)
    (case a__law_spots => k_is)
    (case l__law_spots => k_is)
    (case c__law_spots => k_is)
    (case k__law_spots => k_is)
    (case a__law_group => k_is)
    (case l__law_group => k_is)
    (case c__law_group => k_is)
    (case k__law_group => k_is)
    (case a__law_workers => k_is)
    (case l__law_workers => k_is)
    (case c__law_workers => k_is)
    (case k__law_workers => k_is)
    (case a__law_verdict_fits => k_is)
    (case l__law_verdict_fits => k_is)
    (case c__law_verdict_fits => k_is)
    (case k__law_verdict_fits => k_is)
    (case a__law_ranking => k_is)
    (case l__law_ranking => k_is)
    (case c__law_ranking => k_is)
    (case k__law_ranking => k_is)
    (case a__law_needless => k_is)
    (case l__law_needless => k_is)
    (case c__law_needless => k_is)
    (case k__law_needless => k_is)
    (case a__law_one_tally => k_is)
    (case l__law_one_tally => k_is)
    (case c__law_one_tally => k_is)
    (case k__law_one_tally => k_is)
    (case a__law_second_moves => k_is)
    (case l__law_second_moves => k_is)
    (case c__law_second_moves => k_is)
    (case k__law_second_moves => k_is)
    (case a__law_draw => k_is)
    (case l__law_draw => k_is)
    (case c__law_draw => k_is)
    (case k__law_draw => k_is)
    (case a__law_first_of => k_is)
    (case l__law_first_of => k_is)
    (case c__law_first_of => k_is)
    (case k__law_first_of => k_is)
    (case a_holders => k_is)
    (case l_holders => k_is)
    (case c_holders => k_is)
    (case k_holders => k_is)
    (case a_Crew___len__ => k_is)
    (case i_Crew___len__ => k_is)
    (case l_Crew___len__ => k_is)
    (case c_Crew___len__ => k_is)
    (case k_Crew___len__ => k_is)
    (case a_has_worker => k_is)
    (case l_has_worker => k_is)
    (case c_has_worker => k_is)
    (case k_has_worker => k_is)
    (case a_is_name => k_is)
    (case l_is_name => k_is)
    (case c_is_name => k_is)
    (case k_is_name => k_is)
    (case a__law_spot => k_is)
    (case l__law_spot => k_is)
    (case c__law_spot => k_is)
    (case k__law_spot => k_is)
    (case a_needless => k_is)
    (case l_needless => k_is)
    (case c_needless => k_is)
    (case k_needless => k_is)
    (case a_Verdict_holds => k_is)
    (case g_Verdict_holds => k_is)
    (case t_Verdict_holds => k_is)
    (case r__Verdict_holds => k_is)
    (case l_Verdict_holds => k_is)
    (case c_Verdict_holds => k_is)
    (case k_Verdict_holds => k_is)
    (case a_settled => k_is)
    (case l_settled => k_is)
    (case c_settled => k_is)
    (case k_settled => k_is)
    (case a_moved_counts => k_is)
    (case l_moved_counts => k_is)
    (case c_moved_counts => k_is)
    (case k_moved_counts => k_is)
    (case a_tally => k_is)
    (case l_tally => k_is)
    (case c_tally => k_is)
    (case k_tally => k_is)
    (case a__law_in_group => k_is)
    (case l__law_in_group => k_is)
    (case c__law_in_group => k_is)
    (case k__law_in_group => k_is)
    (case a_refuse_ranking => k_is)
    (case l_refuse_ranking => k_is)
    (case c_refuse_ranking => k_is)
    (case k_refuse_ranking => k_is)
    (case a_holder => k_is)
    (case l_holder => k_is)
    (case c_holder => k_is)
    (case k_holder => k_is)
    (case a_consists_of => k_is)
    (case l_consists_of => k_is)
    (case c_consists_of => k_is)
    (case k_consists_of => k_is)
    (case a_verdict_on => k_is)
    (case l_verdict_on => k_is)
    (case c_verdict_on => k_is)
    (case k_verdict_on => k_is)
    (case a_moves_needlessly => k_is)
    (case l_moves_needlessly => k_is)
    (case c_moves_needlessly => k_is)
    (case k_moves_needlessly => k_is)
    (case a_is_needless => k_is)
    (case l_is_needless => k_is)
    (case c_is_needless => k_is)
    (case k_is_needless => k_is)
    (case a_refuse_yard => k_is)
    (case l_refuse_yard => k_is)
    (case c_refuse_yard => k_is)
    (case k_refuse_yard => k_is)
    (case a_nodes_by_length => k_is)
    (case l_nodes_by_length => k_is)
    (case c_nodes_by_length => k_is)
    (case k_nodes_by_length => k_is)
    (case a_walk => k_is)
    (case l_walk => k_is)
    (case c_walk => k_is)
    (case k_walk => k_is)
    (case a_Verdict___init__ => k_is)
    (case i_Verdict___init__ => k_is)
    (case l_Verdict___init__ => k_is)
    (case c_Verdict___init__ => k_is)
    (case k_Verdict___init__ => k_is)
    (case a_first_failing => k_is)
    (case l_first_failing => k_is)
    (case c_first_failing => k_is)
    (case k_first_failing => k_is)
    (case a_start_node => k_is)
    (case l_start_node => k_is)
    (case c_start_node => k_is)
    (case k_start_node => k_is)
    (case a_unplaced => k_is)
    (case l_unplaced => k_is)
    (case c_unplaced => k_is)
    (case k_unplaced => k_is)
    (case a_next_node => k_is)
    (case l_next_node => k_is)
    (case c_next_node => k_is)
    (case k_next_node => k_is)
    (case a_present => k_is)
    (case l_present => k_is)
    (case c_present => k_is)
    (case k_present => k_is)
    (case a_Crew_make_of => k_is)
    (case i_Crew_make_of => k_is)
    (case l_Crew_make_of => k_is)
    (case c_Crew_make_of => k_is)
    (case k_Crew_make_of => k_is)
    (case a_Scheme_takes => k_is)
    (case i_Scheme_takes => k_is)
    (case l_Scheme_takes => k_is)
    (case c_Scheme_takes => k_is)
    (case k_Scheme_takes => k_is)
    (case a_rule_takes => k_is)
    (case l_rule_takes => k_is)
    (case c_rule_takes => k_is)
    (case k_rule_takes => k_is)
    (case a_belongs => k_is)
    (case l_belongs => k_is)
    (case c_belongs => k_is)
    (case k_belongs => k_is)
    (case a_bound_holds => k_is)
    (case l_bound_holds => k_is)
    (case c_bound_holds => k_is)
    (case k_bound_holds => k_is)
    (case a_law => k_is)
    (case l_law => k_is)
    (case c_law => k_is)
    (case k_law => k_is)
    (case g_gL => k_is)
    (case g_gN => k_is)
    (case eR_a => k_is)
    (case eR_k => k_is)
    (case eR_ex => k_is)
    (case eR_ty => k_is)
    (case eR_hd => k_is)
    (case eR_xi => first | k_exc | kx_is)
    (case eY_a => k_is)
    (case eY_k => k_is)
    (case eY_ex => k_is)
    (case eY_ty => k_is)
    (case eY_hd => k_is)
    (case eY_xi => first | k_exc | kx_is)
    (case s_yy => k_is)
