import PyProof.Rows.All
import Wide.All
import OpenK.AllK
import Wide.FinOn
import HandS.Dict
import HandS.Small
import HandS.IsInst
import KE.KDictKeyed
import KE.KDictItemsList
import KE.KDictLaw
import HandS.ForMost
import HandS.ExcOwn
import KE.SortKeyHeap
import HandS.TupMul
import HandS.TupAny
import HandS.Style
import HandS.Wide
import HandS.Deep
import PyProof.ReprReads
import PyProof.ReprRoads
import PyProof.RowDictHeap
import HandS.List
import PyProof.SumWalk
import PyProof.ListOps
import PyProof.WalkInts
import HandS.More
import HandS.Conv
import HandS.ListItems
import HandS.RaiseMore
import HandS.SortInts
import HandS.Call
import PyProof.TupleOfSeq
import PyProof.CompFree
import PyProof.WalksMore
import HandS.Star
import HandS.Flow
import KE.KUnpack
import HandS.Walk
import HandS.Zip
import KE.GoesEnum
import KE.GoesZip
import KE.GoesMore
import HandS.DictComp
import KE.KDictPairs
import HandS.MakeKwOnly
import HandS.SortKw
import HandS.Spec
import HandS.WideMore
import HandS.Head0
import HandS.Head1
import HandS.Head2
import HandS.HeadEnd
import HandS.HeadHook1
import HandS.HeadHook2
import KE.RegKIsAll
import PyProof.StrLawsRepr
import PyProof.Rows.StrDigitsNeg
import KE.KStateDown
import PySem.Challenge.RW_backwardrow_k50_whole_sped_rows_stand_fo
set_option Elab.async false
set_option linter.all false
set_option autoImplicit false
set_option maxRecDepth 100000
set_option maxHeartbeats 4000000
/-! N0: rules for dicts whose keys are tuples of numbers, texts, None, nested. -/
namespace Ev
open PySem L2
abbrev NE := NestedKey × Addr × Value
/-- what stands in the written part -/
def KSeq (K : PySem.W.Frag) (T : String) (a : Addr) (vs : List V) : Prop :=
  ∃ (o : Obj) (its : Array Value) (n : Nat), K.lookup a = some o ∧ o.cls = .type T ∧ o.dict = none ∧ o.data = .seq its n ∧ its.size ≤ sizeLine ∧ Vals vs its.toList
/-- how a key stands -/
def RepKyG (S : Addr → HO → Prop) : NestedKey → V → Prop
  | .none, v => v = .non
  | .num i, v => v = .int i
  | .text x, v => v = .str x
  | .tup ks, v => ∃ a vs, v = .ref a ∧ S a (.tup vs) ∧ RepKysG S ks vs
where
  RepKysG (S : Addr → HO → Prop) : List NestedKey → List V → Prop
  | [], vs => vs = []
  | k :: ks, vs => ∃ v r, vs = v :: r ∧ RepKyG S k v ∧ RepKysG S ks r
abbrev RepKysG := @RepKyG.RepKysG
mutual
theorem RepKyG.imp {S S' : Addr → HO → Prop} (h : ∀ a us, S a (.tup us) → S' a (.tup us)) : ∀ (k : NestedKey) (v : V), RepKyG S k v → RepKyG S' k v
  | .none, _, x => by simp only [RepKyG] at x ⊢; exact x
  | .num i, _, x => by simp only [RepKyG] at x ⊢; exact x
  | .text t, _, x => by simp only [RepKyG] at x ⊢; exact x
  | .tup ks, _, x => by
    simp only [RepKyG] at x ⊢
    obtain ⟨a, vs, e, h1, h2⟩ := x
    exact ⟨a, vs, e, h _ _ h1, RepKysG.imp h ks vs h2⟩
theorem RepKysG.imp {S S' : Addr → HO → Prop} (h : ∀ a us, S a (.tup us) → S' a (.tup us)) : ∀ (ks : List NestedKey) (vs : List V), RepKysG S ks vs → RepKysG S' ks vs
  | [], _, x => by simp only [RepKyG.RepKysG] at x ⊢; exact x
  | k :: ks, _, x => by
    simp only [RepKyG.RepKysG] at x ⊢
    obtain ⟨v, r, e, h1, h2⟩ := x
    exact ⟨v, r, e, RepKyG.imp h k v h1, RepKysG.imp h ks r h2⟩
end
/-- in the abstract heap -/
abbrev KyS (K : PySem.W.Frag) (H : Hp) : Addr → HO → Prop := fun a u => H a = some u ∨ ∃ vs, u = .tup vs ∧ KSeq K "tuple" a vs
abbrev KyH (K : PySem.W.Frag) (H : Hp) : NestedKey → V → Prop := RepKyG (KyS K H)
mutual
theorem nested_of {P : Program} {w : World} {K : PySem.W.Frag} {H : Hp} {h : Heap} (ok : HOk P w H h) (kin : K.In h) : ∀ (k : NestedKey) (v : V) (u : Value), KyH K H k v → RelV v u → NestedIs h k u
  | .none, _, u, x, r => by
    simp only [KyH, RepKyG] at x
    subst x
    cases (show u = Value.none from r)
    exact .none
  | .num i, _, u, x, r => by
    simp only [KyH, RepKyG] at x
    subst x
    obtain ⟨t, e⟩ := (show ∃ t, u = Value.int i t from r)
    subst e
    exact .int i t
  | .text y, _, u, x, r => by
    simp only [KyH, RepKyG] at x
    subst x
    obtain ⟨t, e⟩ := (show ∃ t, u = Value.str y t from r)
    subst e
    exact .text y t
  | .tup ks, _, u, x, r => by
    simp only [KyH, RepKyG] at x
    obtain ⟨a, vs, rfl, h1 | ⟨vs', e', o, its, n, lk, e1, _, e2, _, rv⟩, h2⟩ := x
    · cases (show u = Value.ref a from r)
      obtain ⟨_, its, rv, o, e1, e2, n, e3⟩ := (show ObjOk P w H h a (.tup vs) from ok a _ h1)
      exact .tup e1 e2 e3 (by simpa using nesteds_of ok kin ks vs its h2 rv)
    · cases e'
      cases (show u = Value.ref a from r)
      exact .tup (kin _ _ lk) e1 e2 (nesteds_of ok kin ks vs its.toList h2 rv)
theorem nesteds_of {P : Program} {w : World} {K : PySem.W.Frag} {H : Hp} {h : Heap} (ok : HOk P w H h) (kin : K.In h) : ∀ (ks : List NestedKey) (vs : List V) (us : List Value), RepKysG (KyS K H) ks vs → Vals vs us → NestedAll h ks us
  | [], _, us, x, r => by
    simp only [RepKyG.RepKysG] at x
    subst x
    cases r
    exact .nil
  | k :: ks, _, us, x, r => by
    simp only [RepKyG.RepKysG] at x
    obtain ⟨v, q, rfl, h1, h2⟩ := x
    cases r with
    | cons r1 r2 => exact .cons (nested_of ok kin k v _ h1 r1) (nesteds_of ok kin ks q _ h2 r2)
end
/-- what is true of the dict's own object -/
def DNp (P : Program) (w : World) (a : Addr) (xs : List NE) : Heap → Prop := fun h =>
  xs.length ≤ sizeLine ∧ (a == sysModules) = false ∧ ∃ o es ep, h.get? a = some o ∧ o.ExactDict ∧ o.data = .dict es ep ∧ es.toList = xs.map (entryOfKey (nestedKind P w)) ∧ (xs.map (·.1)).Nodup
def dnO (P : Program) (w : World) (a : Addr) (xs : List NE) : HO := .ext (DNp P w a xs)
/-- its keys stand -/
def NKs (K : PySem.W.Frag) (H : Hp) (xs : List NE) : Prop := ∀ x ∈ xs, KyH K H x.1 (.ref x.2.1) ∧ x.1.depth ≤ 8
theorem NKs.imp {K : PySem.W.Frag} {H H' : Hp} {xs : List NE} (h : NKs K H xs) (t : ∀ a ys, H a = some (.tup ys) → H' a = some (.tup ys)) : NKs K H' xs := fun x hx => by
  exact ⟨RepKyG.imp (fun a us q => q.imp (t a us) id) _ _ (h x hx).1, (h x hx).2⟩
section
variable {P : Program} {w : World} {H : Hp} {h : Heap} {a : Addr} {xs : List NE}
theorem dn_ok (p : DNp P w a xs h) : ObjOk P w H h a (dnO P w a xs) := by
  refine ⟨p, ?_, fun h1 h2 p1 k => ?_⟩
  · obtain ⟨_, _, o, _, _, e, _⟩ := p
    exact ⟨o, e⟩
  · obtain ⟨z, y, o, es, ep, e, r⟩ := p1
    exact ⟨z, y, o, es, ep, k o e, r⟩
theorem dn_of {K : PySem.W.Frag} (ok : HOk P w H h) (kin : K.In h) (e : H a = some (dnO P w a xs)) (nk : NKs K H xs) : xs.length ≤ sizeLine ∧ (a == sysModules) = false ∧ h.DictOfH (nestedKind P w) a xs := by
  obtain ⟨⟨z, y, o, es, ep, e1, e2, e3, e4, e5⟩, _⟩ := (show ObjOk P w H h a (.ext (DNp P w a xs)) from ok a _ e)
  exact ⟨z, y, o, es, ep, e1, e2, e3, e4, fun x hx => ⟨nested_of ok kin _ _ _ (nk x hx).1 rfl, (nk x hx).2⟩, e5⟩
theorem dn_is (ok : HOk P w H h) (e : H a = some (dnO P w a xs)) : ∃ o es ep, h.get? a = some o ∧ o.ExactDict ∧ o.data = .dict es ep ∧ es.toList = xs.map (entryOfKey (nestedKind P w)) ∧ xs.length ≤ sizeLine ∧ (a == sysModules) = false := by
  obtain ⟨⟨z, y, o, es, ep, e1, e2, e3, e4, e5⟩, _⟩ := (show ObjOk P w H h a (.ext (DNp P w a xs)) from ok a _ e)
  exact ⟨o, es, ep, e1, e2, e3, e4, z, y⟩
end
section
variable {X : Cx} {pins : List (Addr × Obj)} {σ : L2.St} {H : Hp} {s : Shared} {a : Addr} {y d : V} {u r : Value} {k : NestedKey} {A : Around} {E : Value → Shared → Prop} {xs : List NE}
/-- a key that stands as y -/
structure KyAt (K : PySem.W.Frag) (H : Hp) (k : NestedKey) (y : V) : Prop where
  is : KyH K H k y
  dp : k.depth ≤ 8
  rf : ∃ b, y = .ref b
/-- what a look-up gives -/
def RGot (xs : List NE) (k : NestedKey) (d v : V) : Prop := match (atKey xs k).map (·.2) with
  | some u => RelV v u
  | none => v = d
theorem got_rel {v : V} (g : RGot xs k d v) (rd : RelV d r) : RelV v (((atKey xs k).map (·.2)).getD r) := by
  unfold RGot at g
  cases q : (atKey xs k).map (·.2) with
  | some u => rw [q] at g; exact g
  | none => rw [q] at g; rw [g]; exact rd
theorem n_get2 {v : V} {Q : Value → Shared → Prop} (hu : A.units + 10 < cLine) (I : Inv X pins σ H s) (e : H a = some (dnO X.prog X.w a xs)) (nk : NKs X.K H xs) (ky : KyAt X.K H k y) (ry : RelV y u) (rd : RelV d r) (g : RGot xs k d v) (h : ∀ w' s', Inv X pins σ H s' → RelV v w' → Q w' s') :
    wpAny (model X.prog X.w) A (call (.builtin "dict.get") [.ref a, u, r]) Q E s := by
  obtain ⟨z, hd, dd⟩ := dn_of I.hok I.kIn e nk
  obtain ⟨b, rfl⟩ := ky.rf
  cases (show u = Value.ref b from ry)
  refine call_meetsIn PySem.F.slot_dict_get dd.typeIs PySem.F.entry_dict_get (PySem.F.args_dict_get_3 _ _ _) (meetsH_dict_get_default (nestedKind X.prog X.w) a b hd r) ⟨?_, k, xs, ⟨nested_of I.hok I.kIn _ _ _ ky.is rfl, ky.dp⟩, dd, h _ _ (I.tok _) (got_rel g rd)⟩
  show A.units + 1 + 8 < cLine
  omega
theorem n_get1 {v : V} {Q : Value → Shared → Prop} (hu : A.units + 10 < cLine) (I : Inv X pins σ H s) (e : H a = some (dnO X.prog X.w a xs)) (nk : NKs X.K H xs) (ky : KyAt X.K H k y) (ry : RelV y u) (g : RGot xs k .non v) (h : ∀ w' s', Inv X pins σ H s' → RelV v w' → Q w' s') :
    wpAny (model X.prog X.w) A (call (.builtin "dict.get") [.ref a, u]) Q E s := by
  obtain ⟨z, hd, dd⟩ := dn_of I.hok I.kIn e nk
  obtain ⟨b, rfl⟩ := ky.rf
  cases (show u = Value.ref b from ry)
  refine call_meetsIn PySem.F.slot_dict_get dd.typeIs PySem.F.entry_dict_get (PySem.F.args_dict_get_2 _ _) (meetsH_dict_get (nestedKind X.prog X.w) a b hd) ⟨?_, k, xs, ⟨nested_of I.hok I.kIn _ _ _ ky.is rfl, ky.dp⟩, dd, h _ _ (I.tok _) (got_rel g rfl)⟩
  show A.units + 1 + 8 < cLine
  omega
theorem n_getItem {v : V} {ua : Addr × Value} {Q : Value → Shared → Prop} (hu : A.units + 10 < cLine) (I : Inv X pins σ H s) (e : H a = some (dnO X.prog X.w a xs)) (nk : NKs X.K H xs) (ky : KyAt X.K H k y) (ry : RelV y u) (g : atKey xs k = some ua) (rv : RelV v ua.2) (h : ∀ w' s', Inv X pins σ H s' → RelV v w' → Q w' s') :
    wpAny (model X.prog X.w) A (getItem (.ref a) u) Q E s := by
  obtain ⟨z, hd, dd⟩ := dn_of I.hok I.kIn e nk
  obtain ⟨b, rfl⟩ := ky.rf
  cases (show u = Value.ref b from ry)
  exact wpAny_getItem_heap (knd := nestedKind X.prog X.w) (show A.units + 1 + 8 < cLine by omega) ⟨nested_of I.hok I.kIn _ _ _ ky.is rfl, ky.dp⟩ dd g (h _ _ (I.tok _) rv)
theorem n_in {Q : Value → Shared → Prop} (hu : A.units + 10 < cLine) (I : Inv X pins σ H s) (e : H a = some (dnO X.prog X.w a xs)) (nk : NKs X.K H xs) (ky : KyAt X.K H k y) (ry : RelV y u) (h : ∀ s', Inv X pins σ H s' → Q (.bool (atKey xs k).isSome) s') :
    wpAny (model X.prog X.w) A (compareOp .In u (.ref a)) Q E s := by
  obtain ⟨z, hd, dd⟩ := dn_of I.hok I.kIn e nk
  obtain ⟨b, rfl⟩ := ky.rf
  cases (show u = Value.ref b from ry)
  exact wpAny_in_heap (knd := nestedKind X.prog X.w) (show A.units + 1 + 8 < cLine by omega) ⟨nested_of I.hok I.kIn _ _ _ ky.is rfl, ky.dp⟩ hd dd (h _ (I.tok _))
theorem NKs.put {b : Addr} {q : Value} (nk : NKs X.K H xs) (ky : KyAt X.K H k (.ref b)) : NKs X.K H (storedH xs k b q) := by
  unfold storedH
  split
  · intro x hx
    obtain ⟨x0, h0, rfl⟩ := List.mem_map.mp hx
    unfold putAt
    split
    · exact nk x0 h0
    · exact nk x0 h0
  · intro x hx
    rcases List.mem_append.mp hx with h | h
    · exact nk x h
    · rw [List.mem_singleton.mp h]
      exact ⟨ky.is, ky.dp⟩
theorem n_put {b : Addr} {q : Value} {Q : Unit → Shared → Prop} (hu : A.units + 10 < cLine) (I : Inv X pins σ H s) (e : H a = some (dnO X.prog X.w a xs)) (nk : NKs X.K H xs) (ky : KyAt X.K H k (.ref b)) (hl : xs.length < sizeLine) (h : ∀ s', Inv X pins σ (upd H a (dnO X.prog X.w a (storedH xs k b q))) s' → Q () s') :
    wpAny (model X.prog X.w) A (setItem (.ref a) (.ref b) q) Q E s := by
  obtain ⟨z, hd, dd⟩ := dn_of I.hok I.kIn e nk
  refine wpAny_setItem_heap (knd := nestedKind X.prog X.w) (hsz := z) (show A.units + 1 + 8 < cLine by omega) ⟨nested_of I.hok I.kIn _ _ _ ky.is rfl, ky.dp⟩ dd fun h' dd' hs => h _ ?_
  obtain ⟨o, es, ep, hq, h2, h3, h4, _, h5⟩ := dd'
  refine d_write I (by rw [e]; exact True.intro) hs ⟨o, hq⟩ (dn_ok ⟨?_, hd, o, es, ep, hq, h2, h3, h4, h5⟩)
  have := storedH_length xs k b q
  omega
theorem dn_empty {P : Program} {w : World} (h : Heap) (hb : sysModules < h.objs.size) : ObjOk P w H (h.push { cls := .type "dict", data := .dict #[] }) h.objs.size (dnO P w h.objs.size []) :=
  dn_ok ⟨Nat.zero_le _, beq_eq_false_iff_ne.mpr (Ne.symm (Nat.ne_of_lt hb)), _, #[], 0, Heap.get?_push_size _ rfl, ⟨rfl, rfl, rfl⟩, rfl, rfl, List.nodup_nil⟩
end
/-! ### readings -/
def IsN (X : Cx) (H : Hp) (a : Addr) : Prop := ∃ xs, H a = some (dnO X.prog X.w a xs)
theorem isN_at {X : Cx} {pins : List (Addr × Obj)} {σ : L2.St} {H : Hp} {s : Shared} {a : Addr} (I : Inv X pins σ H s) (d : IsN X H a) : s.TypeIs (.ref a) "dict" ∧ (∀ b, Value.ref a = .ref b → ∃ ob, s.heap.get? b = some ob ∧ ob.dict = none) := by
  obtain ⟨xs, e⟩ := d
  obtain ⟨o, es, ep, h1, h2, h3, h4, _, _⟩ := dn_is I.hok e
  refine ⟨⟨o, h1, h2.1⟩, fun b q => ?_⟩
  cases q
  exact ⟨o, h1, h2.2.1⟩
def tNNew (X : Cx) : TE := fun _ H Q => ∀ p, H p = none → Q (.ref p) (upd H p (dnO X.prog X.w p []))
def tNGet1 (X : Cx) (td ty : TE) : TE := fun σ H Q => td σ H fun x H1 => ∃ a, x = .ref a ∧ IsN X H1 a ∧ ty σ H1 fun y H2 => ∃ xs k v, H2 a = some (dnO X.prog X.w a xs) ∧ NKs X.K H2 xs ∧ KyAt X.K H2 k y ∧ RGot xs k .non v ∧ Q v H2
def tNGet2 (X : Cx) (td ty tx : TE) : TE := fun σ H Q => td σ H fun x H1 => ∃ a, x = .ref a ∧ IsN X H1 a ∧ ty σ H1 fun y H2 => tx σ H2 fun z H3 => ∃ xs k v, H3 a = some (dnO X.prog X.w a xs) ∧ NKs X.K H3 xs ∧ KyAt X.K H3 k y ∧ RGot xs k z v ∧ Q v H3
def tNGet (X : Cx) (td ty : TE) : TE := fun σ H Q => td σ H fun x H1 => ty σ H1 fun y H2 => ∃ a xs k v ua, x = .ref a ∧ H2 a = some (dnO X.prog X.w a xs) ∧ NKs X.K H2 xs ∧ KyAt X.K H2 k y ∧ atKey xs k = some ua ∧ RelV v ua.2 ∧ Q v H2
section
variable {X : Cx} {o e f i value : Expr} {apos cpos pos pos' : Pos} {td ty tx tv : TE}
theorem pe_nnew : PE X (.Dict [] [] pos) (tNNew X) := ⟨fun pins s σ H Q I h =>
  wpAny_Dict_empty ⟨.ref s.heap.objs.size, _, I.laid (a := s.heap.objs.size) (o := dnO X.prog X.w s.heap.objs.size []) (t' := s.toks) (fun _ _ q => Heap.get?_push_of_some _ q) (Nat.le_refl _) (dn_empty s.heap I.big), rfl, h _ (I.hok.fresh (Nat.le_refl _))⟩⟩
theorem pe_nget1 (hu : X.A.units + 10 < cLine) (ho : PE X o td) (he : PE X e ty) (m : M1 X o "get" apos e cpos) : PE X (.Call (.Attribute o "get" apos) [e] [] cpos) (tNGet1 X td ty) := by
  refine ⟨fun pins s σ H Q I h => ?_⟩
  refine wpAny_Call_method m.base m.few m.line PySem.F.plainAttrs_dict PySem.F.slot_dict_get PySem.F.type_dict_get (thn (ho.run pins s σ H _ I h) fun u s1 ⟨x, H1, I1, rx, a, ex, d, q1⟩ => ?_)
  subst ex
  obtain rfl : u = Value.ref a := rx
  obtain ⟨t1, t2⟩ := isN_at I1 d
  refine ⟨t1, t2, ?_⟩
  rw [m.trees]
  refine Calls.callWith_builtin rfl (Calls.evalArgs_plain (Calls.spliced_cons (thn (he.run pins s1 σ H1 _ I1 q1) fun iv s2 ⟨y, H2, I2, ry, xs, k, v, eH, nk, ky, g, q2⟩ => Calls.spliced_nil ?_)))
  exact n_get1 hu I2 eH nk ky ry g fun w' s3 I3 rw' => ⟨_, H2, I3, rw', q2⟩
theorem pe_nget2 (hu : X.A.units + 10 < cLine) (ho : PE X o td) (he : PE X e ty) (hf : PE X f tx) (m : M2 X o "get" apos e f cpos) : PE X (.Call (.Attribute o "get" apos) [e, f] [] cpos) (tNGet2 X td ty tx) := by
  refine ⟨fun pins s σ H Q I h => ?_⟩
  refine wpAny_Call_method m.base m.few m.line PySem.F.plainAttrs_dict PySem.F.slot_dict_get PySem.F.type_dict_get (thn (ho.run pins s σ H _ I h) fun u s1 ⟨x, H1, I1, rx, a, ex, d, q1⟩ => ?_)
  subst ex
  obtain rfl : u = Value.ref a := rx
  obtain ⟨t1, t2⟩ := isN_at I1 d
  refine ⟨t1, t2, ?_⟩
  rw [m.trees]
  refine Calls.callWith_builtin rfl (Calls.evalArgs_plain (Calls.spliced_cons (thn (he.run pins s1 σ H1 _ I1 q1) fun iv s2 ⟨y, H2, I2, ry, q2⟩ =>
    Calls.spliced_cons (thn (hf.run pins s2 σ H2 _ I2 q2) fun fv s3 ⟨z, H3, I3, rz, xs, k, v, eH, nk, ky, g, q3⟩ => Calls.spliced_nil ?_))))
  exact n_get2 hu I3 eH nk ky ry rz g fun w' s4 I4 rw' => ⟨_, H3, I4, rw', q3⟩
theorem pe_nget (hu : X.A.units + 10 < cLine) (ho : PE X o td) (hi : PE X i ty) (hs : NoSl i) : PE X (.Subscript o i pos) (tNGet X td ty) := by
  refine ⟨fun pins s σ H Q I h => ?_⟩
  refine subD_of PySem.F.slot_dict_getitem.lookup hs (thn (ho.run pins s σ H _ I h) fun u s1 ⟨x, H1, I1, rx, q1⟩ => thn (hi.run pins s1 σ H1 _ I1 q1) fun iv s2 ⟨y, H2, I2, ry, a, xs, k, v, ua, ex, eH, nk, ky, g, rv, q2⟩ => ?_)
  subst ex
  obtain rfl : u = Value.ref a := rx
  exact ⟨(isN_at I2 ⟨xs, eH⟩).1, n_getItem hu I2 eH nk ky ry g rv fun w' s3 I3 rw' => ⟨v, H2, I3, rw', q2⟩⟩
end
end Ev
/-! Ev0: plain data D, the memory of cells, worlds, how a value stands for a datum. -/
namespace Ev
open PySem L2
/-- plain data; a cell is an object that may still change; scr: a list that was handed in -/
inductive D where
  | non
  | bl (b : Bool)
  | int (i : Int)
  | str (s : Str)
  | tup (xs : List D)
  | lst (xs : List D)
  | scr (xs : List D)
  | ins (c : Nat) (fs : List (Str × D))
  | dct (kvs : List (Key × D))
  /-- a dict whose keys are tuples -/
  | dcn (kvs : List (NestedKey × D))
  | cell (i : Nat)
/-- what a cell holds -/
inductive MO where
  | lst (xs : List D)
  | ins (c : Nat) (fs : List (Str × D))
  | dcn (kvs : List (NestedKey × D))
abbrev Mem := List (Option MO)
/-- a world: the cells' addresses, what they hold, the abstract heap -/
structure Wd where
  as : List Addr
  M : Mem
  H : Hp
  /-- what is still being built: no value knows it -/
  hd : Addr → Prop
def Live (w : Wd) (a : Addr) : Prop := ∃ (i : Nat) (o : MO), w.as[i]? = some a ∧ w.M[i]? = some (some o)
/-- what stands at a and will not change -/
def Sat (w : Wd) (a : Addr) (u : HO) : Prop := w.H a = some u ∧ ¬ Live w a ∧ ¬ w.hd a
structure Gb where
  K : PySem.W.Frag
  cls : Nat → Addr
  /-- how many classes are told -/
  nc : Nat
  prog : Program
  wd : World
/-- what a key's tuples are -/
def KySat (G : Gb) (w : Wd) : Addr → HO → Prop := fun a u => Sat w a u ∨ ∃ vs, u = .tup vs ∧ KSeq G.K "tuple" a vs
mutual
def Rep (G : Gb) (w : Wd) : D → V → Prop
  | .non, v => v = .non
  | .bl b, v => v = .bl b
  | .int i, v => v = .int i
  | .str s, v => v = .str s
  | .tup xs, v => ∃ a vs, v = .ref a ∧ (Sat w a (.tup vs) ∨ KSeq G.K "tuple" a vs) ∧ RepL G w xs vs
  | .lst xs, v => ∃ a vs, v = .ref a ∧ Sat w a (.lst vs) ∧ RepL G w xs vs
  | .scr xs, v => ∃ a vs, v = .ref a ∧ ((∃ o, Sat w a (.frz o (.lst vs))) ∨ KSeq G.K "list" a vs) ∧ RepL G w xs vs
  | .ins c fs, v => c < G.nc ∧ ∃ a dx vs, v = .ref a ∧ Sat w a (.ins (G.cls c) dx vs) ∧ RepF G w fs vs
  | .dct kvs, v => ∃ a vs, v = .ref a ∧ Sat w a (.dK vs) ∧ RepK G w kvs vs
  | .dcn kvs, v => ∃ a xs, v = .ref a ∧ Sat w a (dnO G.prog G.wd a xs) ∧ RepN G w kvs xs
  | .cell i, v => ∃ a, v = .ref a ∧ w.as[i]? = some a
def RepL (G : Gb) (w : Wd) : List D → List V → Prop
  | [], vs => vs = []
  | d :: ds, vs => ∃ v r, vs = v :: r ∧ Rep G w d v ∧ RepL G w ds r
def RepF (G : Gb) (w : Wd) : List (Str × D) → List (Str × V) → Prop
  | [], vs => vs = []
  | d :: ds, vs => ∃ v r, vs = (d.1, v) :: r ∧ Rep G w d.2 v ∧ RepF G w ds r
def RepK (G : Gb) (w : Wd) : List (Key × D) → List (Key × V) → Prop
  | [], vs => vs = []
  | d :: ds, vs => ∃ v r, vs = (d.1, v) :: r ∧ Rep G w d.2 v ∧ RepK G w ds r
def RepN (G : Gb) (w : Wd) : List (NestedKey × D) → List NE → Prop
  | [], xs => xs = []
  | d :: ds, xs => ∃ ka u v r, xs = (d.1, ka, u) :: r ∧ RepKyG (KySat G w) d.1 (.ref ka) ∧ d.1.depth ≤ 8 ∧ RelV v u ∧ Rep G w d.2 v ∧ RepN G w ds r
end
/-- a cell's object -/
def MRep (G : Gb) (w : Wd) (a : Addr) : MO → Prop
  | .lst xs => ∃ vs, w.H a = some (.lst vs) ∧ RepL G w xs vs
  | .ins c fs => c < G.nc ∧ ∃ dx vs, w.H a = some (.ins (G.cls c) dx vs) ∧ RepF G w fs vs
  | .dcn kvs => ∃ xs, w.H a = some (dnO G.prog G.wd a xs) ∧ RepN G w kvs xs
structure WOk (G : Gb) (w : Wd) : Prop where
  len : w.as.length = w.M.length
  nd : w.as.Nodup
  there : ∀ (i : Nat) (a : Addr), w.as[i]? = some a → w.H a ≠ none
  cell : ∀ (i : Nat) (a : Addr) (o : MO), w.as[i]? = some a → w.M[i]? = some (some o) → MRep G w a o
  hid : ∀ a, w.hd a → w.H a ≠ none
  ch : ∀ (i : Nat) (a : Addr), w.as[i]? = some a → ¬ w.hd a
structure Ext (w w' : Wd) : Prop where
  pre : ∃ ys, w'.as = w.as ++ ys
  keep : ∀ a o, w.H a = some o → ¬ Live w a → w'.H a = some o ∧ ¬ Live w' a
  hid : w'.hd = w.hd
  ex : ∀ a, w.H a ≠ none → w'.H a ≠ none
/-- what stands stays to be told -/
structure Emb (w w' : Wd) : Prop where
  pre : ∃ ys, w'.as = w.as ++ ys
  sat : ∀ a u, Sat w a u → Sat w' a u
theorem Ext.refl (w : Wd) : Ext w w := ⟨⟨[], (List.append_nil _).symm⟩, fun _ _ h n => ⟨h, n⟩, rfl, fun _ h => h⟩
theorem Emb.refl (w : Wd) : Emb w w := ⟨⟨[], (List.append_nil _).symm⟩, fun _ _ h => h⟩
theorem pre_trans {a b c : List Addr} (x : ∃ ys, b = a ++ ys) (y : ∃ ys, c = b ++ ys) : ∃ ys, c = a ++ ys := by
  obtain ⟨p, hp⟩ := x
  obtain ⟨q, hq⟩ := y
  exact ⟨p ++ q, by rw [hq, hp, List.append_assoc]⟩
theorem Ext.trans {a b c : Wd} (x : Ext a b) (y : Ext b c) : Ext a c := ⟨pre_trans x.pre y.pre, fun d o h n => by
  obtain ⟨h1, n1⟩ := x.keep d o h n
  exact y.keep d o h1 n1, y.hid.trans x.hid, fun d h => y.ex d (x.ex d h)⟩
theorem Emb.trans {a b c : Wd} (x : Emb a b) (y : Emb b c) : Emb a c := ⟨pre_trans x.pre y.pre, fun a u h => y.sat a u (x.sat a u h)⟩
theorem Ext.emb {w w' : Wd} (x : Ext w w') : Emb w w' := ⟨x.pre, fun a u h => by
  obtain ⟨h1, n1, n2⟩ := h
  obtain ⟨h2, n3⟩ := x.keep a u h1 n1
  exact ⟨h2, n3, fun z => n2 (by rw [← x.hid]; exact z)⟩⟩
theorem upd_ex {H : Hp} {p : Addr} {o : HO} : ∀ a, H a ≠ none → upd H p o a ≠ none := fun a h => by
  by_cases z : a = p
  · rw [z, upd_same]
    exact fun z => nomatch z
  · rw [upd_ne z]
    exact h
theorem Emb.at {w w' : Wd} (x : Emb w w') {i : Nat} {a : Addr} (h : w.as[i]? = some a) : w'.as[i]? = some a := by
  obtain ⟨p, hp⟩ := x.pre
  rw [hp, List.getElem?_append_left (List.getElem?_eq_some_iff.mp h).1]
  exact h
theorem Sat.emb {w w' : Wd} (x : Emb w w') {a : Addr} {u : HO} (h : Sat w a u) : Sat w' a u := x.sat a u h
section
variable {G : Gb} {w w' : Wd}
mutual
theorem Rep.emb (x : Emb w w') : ∀ (d : D) (v : V), Rep G w d v → Rep G w' d v
  | .non, _, h => by simp only [Rep] at h ⊢; exact h
  | .bl b, _, h => by simp only [Rep] at h ⊢; exact h
  | .int i, _, h => by simp only [Rep] at h ⊢; exact h
  | .str s, _, h => by simp only [Rep] at h ⊢; exact h
  | .tup xs, _, h => by
    simp only [Rep] at h ⊢
    obtain ⟨a, vs, e, h1 | h1, h2⟩ := h
    · exact ⟨a, vs, e, .inl (h1.emb x), RepL.emb x xs vs h2⟩
    · exact ⟨a, vs, e, .inr h1, RepL.emb x xs vs h2⟩
  | .lst xs, _, h => by
    simp only [Rep] at h ⊢
    obtain ⟨a, vs, e, h1, h2⟩ := h
    exact ⟨a, vs, e, h1.emb x, RepL.emb x xs vs h2⟩
  | .scr xs, _, h => by
    simp only [Rep] at h ⊢
    obtain ⟨a, vs, e, ⟨o, h1⟩ | h1, h2⟩ := h
    · exact ⟨a, vs, e, .inl ⟨o, h1.emb x⟩, RepL.emb x xs vs h2⟩
    · exact ⟨a, vs, e, .inr h1, RepL.emb x xs vs h2⟩
  | .ins c fs, _, h => by
    simp only [Rep] at h ⊢
    obtain ⟨hc, a, dx, vs, e, h1, h2⟩ := h
    exact ⟨hc, a, dx, vs, e, h1.emb x, RepF.emb x fs vs h2⟩
  | .dct kvs, _, h => by
    simp only [Rep] at h ⊢
    obtain ⟨a, vs, e, h1, h2⟩ := h
    exact ⟨a, vs, e, h1.emb x, RepK.emb x kvs vs h2⟩
  | .dcn kvs, _, h => by
    simp only [Rep] at h ⊢
    obtain ⟨a, xs, e, h1, h2⟩ := h
    exact ⟨a, xs, e, h1.emb x, RepN.emb x kvs xs h2⟩
  | .cell i, _, h => by
    simp only [Rep] at h ⊢
    obtain ⟨a, e, h1⟩ := h
    exact ⟨a, e, x.at h1⟩
theorem RepL.emb (x : Emb w w') : ∀ (ds : List D) (vs : List V), RepL G w ds vs → RepL G w' ds vs
  | [], _, h => by simp only [RepL] at h ⊢; exact h
  | d :: ds, _, h => by
    simp only [RepL] at h ⊢
    obtain ⟨v, r, e, h1, h2⟩ := h
    exact ⟨v, r, e, Rep.emb x d v h1, RepL.emb x ds r h2⟩
theorem RepF.emb (x : Emb w w') : ∀ (ds : List (Str × D)) (vs : List (Str × V)), RepF G w ds vs → RepF G w' ds vs
  | [], _, h => by simp only [RepF] at h ⊢; exact h
  | (n, d) :: ds, _, h => by
    simp only [RepF] at h ⊢
    obtain ⟨v, r, e, h1, h2⟩ := h
    exact ⟨v, r, e, Rep.emb x d v h1, RepF.emb x ds r h2⟩
theorem RepK.emb (x : Emb w w') : ∀ (ds : List (Key × D)) (vs : List (Key × V)), RepK G w ds vs → RepK G w' ds vs
  | [], _, h => by simp only [RepK] at h ⊢; exact h
  | (n, d) :: ds, _, h => by
    simp only [RepK] at h ⊢
    obtain ⟨v, r, e, h1, h2⟩ := h
    exact ⟨v, r, e, Rep.emb x d v h1, RepK.emb x ds r h2⟩
theorem RepN.emb (x : Emb w w') : ∀ (ds : List (NestedKey × D)) (vs : List NE), RepN G w ds vs → RepN G w' ds vs
  | [], _, h => by simp only [RepN] at h ⊢; exact h
  | (n, d) :: ds, _, h => by
    simp only [RepN] at h ⊢
    obtain ⟨ka, u, v, r, e, h0, h1, h2, h3, h4⟩ := h
    exact ⟨ka, u, v, r, e, RepKyG.imp (fun a us q => q.imp (fun z => Sat.emb x z) id) _ _ h0, h1, h2, Rep.emb x d v h3, RepN.emb x ds r h4⟩
end
theorem Rep.ext (x : Ext w w') (d : D) (v : V) (h : Rep G w d v) : Rep G w' d v := Rep.emb x.emb d v h
theorem RepL.ext (x : Ext w w') (ds : List D) (vs : List V) (h : RepL G w ds vs) : RepL G w' ds vs := RepL.emb x.emb ds vs h
theorem RepF.ext (x : Ext w w') (ds : List (Str × D)) (vs : List (Str × V)) (h : RepF G w ds vs) : RepF G w' ds vs := RepF.emb x.emb ds vs h
theorem RepL.length : ∀ {ds : List D} {vs : List V}, RepL G w ds vs → ds.length = vs.length
  | [], _, h => by simp only [RepL] at h; subst h; rfl
  | d :: ds, _, h => by
    simp only [RepL] at h
    obtain ⟨v, r, rfl, _, h2⟩ := h
    simp [RepL.length h2]
theorem RepL.get : ∀ {ds : List D} {vs : List V} {i : Nat} {d : D}, RepL G w ds vs → ds[i]? = some d → ∃ v, vs[i]? = some v ∧ Rep G w d v
  | [], _, _, _, _, e => by simp at e
  | d :: ds, _, i, _, h, e => by
    simp only [RepL] at h
    obtain ⟨v, r, rfl, h1, h2⟩ := h
    cases i with
    | zero => simp at e; subst e; exact ⟨v, rfl, h1⟩
    | succ i =>
      obtain ⟨u, e1, e2⟩ := RepL.get (i := i) h2 (by simpa using e)
      exact ⟨u, by simpa using e1, e2⟩
theorem RepL.nil : RepL G w [] [] := by simp only [RepL]
theorem RepL.cons {d : D} {v : V} {ds : List D} {vs : List V} (h : Rep G w d v) (t : RepL G w ds vs) : RepL G w (d :: ds) (v :: vs) := by
  simp only [RepL]; exact ⟨v, vs, rfl, h, t⟩
theorem RepL.append : ∀ {ds es : List D} {vs us : List V}, RepL G w ds vs → RepL G w es us → RepL G w (ds ++ es) (vs ++ us)
  | [], _, _, _, h, t => by simp only [RepL] at h; subst h; exact t
  | d :: ds, _, _, _, h, t => by
    simp only [RepL] at h
    obtain ⟨v, r, rfl, h1, h2⟩ := h
    exact RepL.cons h1 (RepL.append h2 t)
theorem RepL.set : ∀ {ds : List D} {vs : List V} {d : D} {v : V} (i : Nat), RepL G w ds vs → Rep G w d v → RepL G w (ds.set i d) (vs.set i v)
  | [], _, _, _, _, h, _ => by simp only [RepL] at h; subst h; simp only [List.set_nil, RepL]
  | d :: ds, _, _, _, i, h, t => by
    simp only [RepL] at h
    obtain ⟨v, r, rfl, h1, h2⟩ := h
    cases i with
    | zero => exact RepL.cons t h2
    | succ i => exact RepL.cons h1 (RepL.set i h2 t)
theorem RepL.take : ∀ {ds : List D} {vs : List V} (n : Nat), RepL G w ds vs → RepL G w (ds.take n) (vs.take n)
  | _, _, 0, _ => by simp only [List.take_zero, RepL]
  | [], _, n + 1, h => by simp only [RepL] at h; subst h; simp only [List.take_nil, RepL]
  | d :: ds, _, n + 1, h => by
    simp only [RepL] at h
    obtain ⟨v, r, rfl, h1, h2⟩ := h
    exact RepL.cons h1 (RepL.take n h2)
theorem RepL.drop : ∀ {ds : List D} {vs : List V} (n : Nat), RepL G w ds vs → RepL G w (ds.drop n) (vs.drop n)
  | _, _, 0, h => h
  | [], _, n + 1, h => by simp only [RepL] at h; subst h; simp only [List.drop_nil, RepL]
  | d :: ds, _, n + 1, h => by
    simp only [RepL] at h
    obtain ⟨v, r, rfl, h1, h2⟩ := h
    exact RepL.drop n h2
theorem RepL.ints : ∀ (ns : List Int), RepL G w (ns.map D.int) (ns.map V.int)
  | [] => RepL.nil
  | n :: ns => RepL.cons (by simp only [Rep]) (RepL.ints ns)
/-! ### how worlds grow -/
theorem WOk.nolive (g : WOk G w) {p : Addr} (hp : w.H p = none) : ∀ i : Nat, w.as[i]? ≠ some p := fun i e => g.there i p e hp
theorem live_none {p : Addr} (g : WOk G w) (hp : w.H p = none) : ¬ Live w p := fun ⟨i, _, e, _⟩ => g.nolive hp i e
/-- a new object that will not change -/
theorem ext_new (g : WOk G w) {p : Addr} {o : HO} (hp : w.H p = none) : Ext w { w with H := upd w.H p o } := by
  refine ⟨⟨[], (List.append_nil _).symm⟩, fun a u h n => ?_, rfl, upd_ex⟩
  refine ⟨?_, n⟩
  show upd w.H p o a = some u
  rw [upd_ne (ne_of_none h hp)]
  exact h
theorem hid_upd (g : WOk G w) {p : Addr} {o : HO} : ∀ a, w.hd a → upd w.H p o a ≠ none := fun a h => upd_ex a (g.hid a h)
theorem MRep.emb {a : Addr} {o : MO} (x : Emb w w') (k : w'.H a = w.H a) (h : MRep G w a o) : MRep G w' a o := by
  cases o with
  | lst xs =>
    obtain ⟨vs, e, h2⟩ := h
    exact ⟨vs, by rw [k]; exact e, RepL.emb x _ _ h2⟩
  | ins c fs =>
    obtain ⟨hc, dx, vs, e, h2⟩ := h
    exact ⟨hc, dx, vs, by rw [k]; exact e, RepF.emb x _ _ h2⟩
  | dcn kvs =>
    obtain ⟨xs, e, h2⟩ := h
    exact ⟨xs, by rw [k]; exact e, RepN.emb x _ _ h2⟩
theorem MRep.ext {a : Addr} {o : MO} (x : Ext w w') (k : w'.H a = w.H a) (h : MRep G w a o) : MRep G w' a o := h.emb x.emb k
theorem wok_new (g : WOk G w) {p : Addr} {o : HO} (hp : w.H p = none) : WOk G { w with H := upd w.H p o } := by
  have x := ext_new (o := o) g hp
  have ne : ∀ (i : Nat) (a : Addr), w.as[i]? = some a → a ≠ p := fun i a e z => g.nolive hp i (z ▸ e)
  refine ⟨g.len, g.nd, fun i a e => ?_, fun i a u e m => ?_, hid_upd g, g.ch⟩
  · show upd w.H p o a ≠ none
    rw [upd_ne (ne i a e)]
    exact g.there i a e
  · exact (g.cell i a u e m).ext x (upd_ne (ne i a e))
theorem sat_new (g : WOk G w) {p : Addr} {o : HO} (hp : w.H p = none) : Sat { w with H := upd w.H p o } p o :=
  ⟨upd_same, fun l => live_none g hp l, fun z => g.hid p z hp⟩
/-- a new cell -/
def Wd.alloc (w : Wd) (p : Addr) (m : MO) (o : HO) : Wd := ⟨w.as ++ [p], w.M ++ [some m], upd w.H p o, w.hd⟩
theorem live_alloc (g : WOk G w) {p a : Addr} {m : MO} {o : HO} (hp : w.H p = none) (h : Live (w.alloc p m o) a) : a = p ∨ Live w a := by
  obtain ⟨i, u, e, q⟩ := h
  have e' : (w.as ++ [p])[i]? = some a := e
  have q' : (w.M ++ [some m])[i]? = some (some u) := q
  by_cases hi : i < w.as.length
  · rw [List.getElem?_append_left hi] at e'
    rw [List.getElem?_append_left (by rw [← g.len]; exact hi)] at q'
    exact .inr ⟨i, u, e', q'⟩
  · rw [List.getElem?_append_right (by omega)] at e'
    have : i - w.as.length = 0 := by
      by_cases z : i - w.as.length = 0
      · exact z
      · rw [List.getElem?_eq_none (by simp; omega)] at e'
        cases e'
    rw [this] at e'
    exact .inl (Option.some.inj e').symm
theorem ext_alloc (g : WOk G w) {p : Addr} {m : MO} {o : HO} (hp : w.H p = none) : Ext w (w.alloc p m o) := by
  refine ⟨⟨[p], rfl⟩, fun a u h n => ?_, rfl, upd_ex⟩
  have ne := ne_of_none h hp
  refine ⟨(upd_ne ne).trans h, fun l => ?_⟩
  rcases live_alloc g hp l with z | z
  · exact ne z
  · exact n z
theorem wok_alloc (g : WOk G w) {p : Addr} {m : MO} {o : HO} (hp : w.H p = none) (hm : MRep G (w.alloc p m o) p m) : WOk G (w.alloc p m o) := by
  have x := ext_alloc (m := m) (o := o) g hp
  have ne : ∀ (i : Nat) (a : Addr), w.as[i]? = some a → a ≠ p := fun i a e z => g.nolive hp i (z ▸ e)
  have sp : ∀ (i : Nat) (a : Addr), (w.as ++ [p])[i]? = some a → (i < w.as.length ∧ w.as[i]? = some a) ∨ (i = w.as.length ∧ a = p) := fun i a e => by
    by_cases hi : i < w.as.length
    · rw [List.getElem?_append_left hi] at e
      exact .inl ⟨hi, e⟩
    · rw [List.getElem?_append_right (by omega)] at e
      by_cases z : i - w.as.length = 0
      · rw [z] at e
        exact .inr ⟨by omega, (Option.some.inj e).symm⟩
      · rw [List.getElem?_eq_none (by simp; omega)] at e
        cases e
  refine ⟨?_, ?_, fun i a e => ?_, fun i a u e q => ?_, hid_upd g, fun i a e z => (sp i a e).elim (fun h => g.ch i a h.2 z) fun h => g.hid a z (h.2 ▸ hp)⟩
  · show (w.as ++ [p]).length = (w.M ++ [some m]).length
    simp [g.len]
  · show (w.as ++ [p]).Nodup
    refine List.nodup_append.mpr ⟨g.nd, by simp, fun a ha b hb => ?_⟩
    have hb' : b = p := by simpa using hb
    obtain ⟨i, hi⟩ := List.getElem?_of_mem ha
    rw [hb']
    exact ne i a hi
  · show upd w.H p o a ≠ none
    rcases sp i a e with ⟨_, e1⟩ | ⟨_, rfl⟩
    · rw [upd_ne (ne i a e1)]
      exact g.there i a e1
    · rw [upd_same]
      exact fun z => nomatch z
  · have q' : (w.M ++ [some m])[i]? = some (some u) := q
    rcases sp i a e with ⟨hi, e1⟩ | ⟨rfl, rfl⟩
    · rw [List.getElem?_append_left (by rw [← g.len]; exact hi)] at q'
      exact (g.cell i a u e1 q').ext x (upd_ne (ne i a e1))
    · rw [g.len, List.getElem?_append_right (Nat.le_refl _), Nat.sub_self] at q'
      have : m = u := Option.some.inj (Option.some.inj q')
      rw [← this]
      exact hm
/-- a cell is written -/
def Wd.put (w : Wd) (i : Nat) (a : Addr) (m : MO) (o : HO) : Wd := ⟨w.as, w.M.set i (some m), upd w.H a o, w.hd⟩
theorem live_put {i : Nat} {a b : Addr} {m m0 : MO} {o : HO} (ha : w.as[i]? = some a) (hm : w.M[i]? = some (some m0)) (h : Live (w.put i a m o) b) : Live w b := by
  obtain ⟨j, u, e, q⟩ := h
  have q' : (w.M.set i (some m))[j]? = some (some u) := q
  by_cases hj : i = j
  · subst hj
    exact ⟨i, m0, e, hm⟩
  · rw [List.getElem?_set_ne hj] at q'
    exact ⟨j, u, e, q'⟩
theorem nd_ix {as : List Addr} (nd : as.Nodup) {i j : Nat} {a : Addr} (h1 : as[i]? = some a) (h2 : as[j]? = some a) : i = j := by
  obtain ⟨hi, e1⟩ := List.getElem?_eq_some_iff.mp h1
  exact (List.getElem?_inj hi nd).mp (h1.trans h2.symm)
theorem ext_put {i : Nat} {a : Addr} {m m0 : MO} {o : HO} (ha : w.as[i]? = some a) (hm : w.M[i]? = some (some m0)) : Ext w (w.put i a m o) := by
  refine ⟨⟨[], (List.append_nil _).symm⟩, fun b u h n => ?_, rfl, upd_ex⟩
  have ne : b ≠ a := fun z => n ⟨i, m0, z ▸ ha, hm⟩
  exact ⟨(upd_ne ne).trans h, fun l => n (live_put ha hm l)⟩
theorem wok_put (g : WOk G w) {i : Nat} {a : Addr} {m m0 : MO} {o : HO} (ha : w.as[i]? = some a) (hm : w.M[i]? = some (some m0)) (hn : MRep G (w.put i a m o) a m) : WOk G (w.put i a m o) := by
  have x := ext_put (m := m) (o := o) ha hm
  refine ⟨?_, g.nd, fun j b e => ?_, fun j b u e q => ?_, hid_upd g, g.ch⟩
  · show w.as.length = (w.M.set i (some m)).length
    rw [List.length_set]
    exact g.len
  · show upd w.H a o b ≠ none
    by_cases z : b = a
    · rw [z, upd_same]
      exact fun z => nomatch z
    · rw [upd_ne z]
      exact g.there j b e
  · have q' : (w.M.set i (some m))[j]? = some (some u) := q
    by_cases hj : i = j
    · subst hj
      have e' : w.as[i]? = some b := e
      rw [ha] at e'
      cases e'
      rw [List.getElem?_set_self (List.getElem?_eq_some_iff.mp hm).1] at q'
      have : m = u := Option.some.inj (Option.some.inj q')
      rw [← this]
      exact hn
    · rw [List.getElem?_set_ne hj] at q'
      have ne : b ≠ a := fun z => hj (nd_ix g.nd ha (z ▸ e))
      exact (g.cell j b u e q').ext x (upd_ne ne)
/-- a cell is let go: what it held will not change any more -/
def Wd.frz (w : Wd) (i : Nat) : Wd := ⟨w.as, w.M.set i none, w.H, w.hd⟩
theorem live_frz {i : Nat} {b : Addr} (h : Live (w.frz i) b) : Live w b := by
  obtain ⟨j, u, e, q⟩ := h
  have q' : (w.M.set i none)[j]? = some (some u) := q
  by_cases hj : i = j
  · subst hj
    by_cases hi : i < w.M.length
    · rw [List.getElem?_set_self hi] at q'
      cases q'
    · rw [List.getElem?_eq_none (by simpa using hi)] at q'
      cases q'
  · rw [List.getElem?_set_ne hj] at q'
    exact ⟨j, u, e, q'⟩
theorem ext_frz {i : Nat} : Ext w (w.frz i) := ⟨⟨[], (List.append_nil _).symm⟩, fun b u h n => ⟨h, fun l => n (live_frz l)⟩, rfl, fun _ z => z⟩
theorem wok_frz (g : WOk G w) {i : Nat} : WOk G (w.frz i) := by
  refine ⟨?_, g.nd, g.there, fun j b u e q => ?_, g.hid, g.ch⟩
  · show w.as.length = (w.M.set i none).length
    rw [List.length_set]
    exact g.len
  · have q' : (w.M.set i none)[j]? = some (some u) := q
    by_cases hj : i = j
    · subst hj
      by_cases hi : i < w.M.length
      · rw [List.getElem?_set_self hi] at q'
        cases q'
      · rw [List.getElem?_eq_none (by simpa using hi)] at q'
        cases q'
    · rw [List.getElem?_set_ne hj] at q'
      exact (g.cell j b u e q').ext ext_frz rfl
theorem not_live_frz (g : WOk G w) {i : Nat} {a : Addr} (ha : w.as[i]? = some a) : ¬ Live (w.frz i) a := fun ⟨j, u, e, q⟩ => by
  have ej : i = j := nd_ix g.nd ha e
  subst ej
  have q' : (w.M.set i none)[i]? = some (some u) := q
  by_cases hi : i < w.M.length
  · rw [List.getElem?_set_self hi] at q'
    cases q'
  · rw [List.getElem?_eq_none (by simpa using hi)] at q'
    cases q'
/-! ### an object that is being built -/
def Wd.hide (w : Wd) (p : Addr) (o : HO) : Wd := ⟨w.as, w.M, upd w.H p o, fun a => a = p ∨ w.hd a⟩
theorem emb_hide (g : WOk G w) {p : Addr} {o : HO} (hp : w.H p = none) : Emb w (w.hide p o) := ⟨⟨[], (List.append_nil _).symm⟩, fun a u h => by
  have ne := ne_of_none h.1 hp
  exact ⟨(upd_ne ne).trans h.1, h.2.1, fun z => z.elim ne h.2.2⟩⟩
theorem wok_hide (g : WOk G w) {p : Addr} {o : HO} (hp : w.H p = none) : WOk G (w.hide p o) := by
  have g1 := wok_new (o := o) g hp
  refine ⟨g1.len, g1.nd, g1.there, fun i a u e m => ?_, fun a h => ?_, fun i a e z => z.elim (fun q => g.nolive hp i (q ▸ e)) (g.ch i a e)⟩
  · have ne : a ≠ p := fun z => g.nolive hp i (z ▸ e)
    exact (g.cell i a u e m).emb (emb_hide g hp) (upd_ne ne)
  · rcases h with rfl | h
    · show upd w.H a o a ≠ none
      rw [upd_same]
      exact fun z => nomatch z
    · exact upd_ex a (g.hid a h)
/-- what is being built is written -/
def Wd.grow (w : Wd) (p : Addr) (o : HO) : Wd := ⟨w.as, w.M, upd w.H p o, w.hd⟩
theorem emb_grow {p : Addr} {o : HO} (hp : w.hd p) : Emb w (w.grow p o) := ⟨⟨[], (List.append_nil _).symm⟩, fun a u h => by
  have ne : a ≠ p := fun z => h.2.2 (z ▸ hp)
  exact ⟨(upd_ne ne).trans h.1, h.2.1, h.2.2⟩⟩
theorem wok_grow (g : WOk G w) {p : Addr} {o : HO} (hp : w.hd p) (nl : ¬ Live w p) : WOk G (w.grow p o) := by
  refine ⟨g.len, g.nd, fun i a e => upd_ex a (g.there i a e), fun i a u e m => ?_, hid_upd g, g.ch⟩
  have ne : a ≠ p := fun z => nl ⟨i, u, z ▸ e, m⟩
  exact (g.cell i a u e m).emb (emb_grow hp) (upd_ne ne)
/-- it is done: it will not change any more -/
def Wd.bare (w : Wd) (hd : Addr → Prop) : Wd := ⟨w.as, w.M, w.H, hd⟩
theorem emb_bare {hd : Addr → Prop} (h : ∀ a, hd a → w.hd a) : Emb w (w.bare hd) := ⟨⟨[], (List.append_nil _).symm⟩, fun a u q => ⟨q.1, q.2.1, fun z => q.2.2 (h a z)⟩⟩
theorem wok_bare (g : WOk G w) {hd : Addr → Prop} (h : ∀ a, hd a → w.hd a) : WOk G (w.bare hd) :=
  ⟨g.len, g.nd, g.there, fun i a u e m => (g.cell i a u e m).emb (emb_bare h) rfl, fun a z => g.hid a (h a z), fun i a e z => g.ch i a e (h a z)⟩
end
end Ev
/-! Ev1: a small language of expressions and statements over plain data, and what they are worth. -/
namespace Ev
open PySem L2
inductive Res (α : Type) where
  | ok (a : α) (M : Mem)
  | ex (c : Nat) (fs : List (Str × D)) (M : Mem)
  | no
def Res.bind {α β : Type} (r : Res α) (f : α → Mem → Res β) : Res β :=
  match r with
  | .ok a M => f a M
  | .ex c fs M => .ex c fs M
  | .no => .no
@[simp] theorem Res.bind_ok {α β : Type} (a : α) (M : Mem) (f : α → Mem → Res β) : (Res.ok a M).bind f = f a M := by simp only [Res.bind]
@[simp] theorem Res.bind_ex {α β : Type} (c : Nat) (fs : List (Str × D)) (M : Mem) (f : α → Mem → Res β) : (Res.ex c fs M).bind f = .ex c fs M := by simp only [Res.bind]
theorem Res.bind_assoc {α β γ : Type} (r : Res α) (f : α → Mem → Res β) (g : β → Mem → Res γ) : (r.bind f).bind g = r.bind fun a M => (f a M).bind g := by cases r <;> rfl
@[simp] theorem Res.bind_no {α β : Type} (f : α → Mem → Res β) : (Res.no : Res α).bind f = .no := by simp only [Res.bind]
/-- what may raise stands for nothing here -/
def Res.sure {α : Type} (r : Res α) : Res α := match r with
  | .ok a M => .ok a M
  | _ => .no
@[simp] theorem Res.sure_ok {α : Type} (a : α) (M : Mem) : (Res.ok a M).sure = .ok a M := by simp only [Res.sure]
/-- where it stands, else nothing -/
def Res.of {α : Type} (o : Option α) (M : Mem) : Res α := match o with | some a => .ok a M | none => .no
@[simp] theorem Res.of_some {α : Type} (a : α) (M : Mem) : Res.of (some a) M = .ok a M := by simp only [Res.of]
@[simp] theorem Res.of_none {α : Type} (M : Mem) : (Res.of none M : Res α) = .no := by simp only [Res.of]
abbrev Env' := List (Option D)
inductive BO where | add | sub | mul | fdiv | mod | pow
  deriving DecidableEq
inductive CO where | eq | ne | lt | le | gt | ge | is | isn | inn | nin
  /-- a tuple among a dict's keys -/
  | din | ndi
  deriving DecidableEq
/-- built-in functions, called by their names -/
inductive Bi where
  | int | len | abs | repr | str | tuple | list | all | any | bool | min | max | sum | sorted
  deriving DecidableEq
/-- methods of built-in values -/
inductive Mt where
  | append | extend | pop | join | split | startswith | index
  deriving DecidableEq
mutual
inductive Ex where
  | var (i : Nat)
  | non | bl (b : Bool) | int (i : Int) | str (s : Str)
  | bin (o : BO) (a b : Ex)
  | cmp (o : CO) (a b : Ex)
  | chn (o p : CO) (a b c : Ex)
  | and (a b : Ex) | or (a b : Ex) | not (a : Ex) | neg (a : Ex)
  | ite (c a b : Ex)
  | tup (es : List Ex) | stup (a : Ex) (es : List Ex) | lst (es : List Ex) | mls (es : List Ex)
  | ix (a b : Ex) | slc (a : Ex) (lo hi : Option Ex) | rev (a : Ex)
  | call (f : Nat) (es : List Ex) (ks : List (Str × Ex)) (pm : List Nat)
  | bi (b : Bi) (es : List Ex)
  | mbl (e : Ex)
  | dct0
  | dct1 (k v : Ex)
  | fldE (a : Ex) (f : Str)
  | mcall (m : Str) (tbl : List (Nat × Nat)) (o : Ex) (es : List Ex)
  | new (c f : Nat) (es : List Ex)
  | isc (e : Ex) (x : Str) (subs : List Nat)
  | dc (a b : Ex) (t : Tg) (it : It) (c : Option Ex) (vs : List Nat)
  | dix (o e : Ex)
  | dgt (o e : Ex)
  | lrg1 (b : Ex)
  | mrg1 (b : Ex)
  /-- a sum of lists, as a cell -/
  | madd (a b : Ex)
  /-- a list, so many times, as a cell -/
  | mmul (a b : Ex)
  /-- dicts whose keys are tuples -/
  | mdn0
  | dnix (o e : Ex)
  | dng1 (o e : Ex)
  | dng2 (o e f : Ex)
  | dnl (o : Ex)
  | dni (o : Ex)
  | dnn (o : Ex)
  | lset (e : Ex)
  | srt (f : Nat) (e : Ex)
  | mck (m : Str) (tbl : List (Nat × Nat)) (o : Ex) (es : List Ex) (ks : List (Str × Ex)) (pm : List Nat)
  /-- an instance made, by keywords alone -/
  | mnk (c f : Nat) (ks : List (Str × Ex)) (pm : List Nat)
  /-- dict(a list of pairs), keys tuples -/
  | dctN (e : Ex)
  | lrg2 (a b : Ex)
  | isi (e : Ex) (ts : List String)
  | meth (m : Mt) (o : Ex) (es : List Ex)
  | lc (e : Ex) (t : Tg) (it : It) (c : Option Ex) (vs : List Nat)
  | lc2 (e : Ex) (t : Tg) (it : It) (c : Option Ex) (t1 : Tg) (it1 : It) (c1 : Option Ex) (vs vs1 : List Nat)
  | frz (i : Nat)
inductive It where
  | seq (e : Ex)
  | rng1 (a : Ex)
  | rng2 (a b : Ex)
  /-- downwards by one -/
  | rng3 (a b c : Ex)
  | enu (e : Ex)
  | zip (a b : Ex)
  | zip3 (es : List Ex)
inductive Tg where
  | nm (i : Nat)
  | tp (ts : List Tg)
  | sub (a b : Ex)
  | fld (a : Ex) (f : Str)
end
/-! the slots that a target stores -/
mutual
def tgS : Tg → List Nat
  | .nm i => [i]
  | .tp ts => tgSs ts
  | _ => []
def tgSs : List Tg → List Nat
  | [] => []
  | t :: ts => tgS t ++ tgSs ts
end
inductive Sx where
  | asg (t : Tg) (e : Ex)
  | par (is : List Nat) (es : List Ex)
  | aug (i : Nat) (o : BO) (e : Ex)
  | expr (e : Ex)
  | ret (e : Ex)
  | retN
  | ifs (c : Ex) (a b : List Sx)
  | fors (t : Tg) (it : It) (body : List Sx)
  | whl (n : Nat) (c : Ex) (body : List Sx)
  | brk | cnt | pass | nev
  /-- a name's cell is let go ahead of a statement -/
  | frzs (v : Nat) (s : Sx)
/-! ### what operations are worth -/
/-- a list's items: as it will stay, or a cell's as they are -/
def seqL (M : Mem) : D → Option (List D)
  | .lst xs => some xs
  | .scr xs => some xs
  | .cell i => match M[i]? with
    | some (some (.lst xs)) => some xs
    | _ => none
  | _ => none
/-- one that was made here -/
def seqC (M : Mem) : D → Option (List D)
  | .scr _ => none
  | d => seqL M d
def seqT : D → Option (List D)
  | .tup xs => some xs
  | _ => none
def seqA (M : Mem) (d : D) : Option (List D) := match d with
  | .tup xs => some xs
  | d => seqL M d
/-! plain data as the library tells it -/
mutual
def toPd : D → Option PyData
  | .non => some .none
  | .bl b => some (.bool b)
  | .int i => some (.int i)
  | .str s => some (.str s)
  | .tup xs => (toPds xs).map .tuple
  | .lst xs => (toPds xs).map .list
  | .scr xs => (toPds xs).map .list
  | .ins _ _ => none
  | .dct _ => none
  | .dcn _ => none
  | .cell _ => none
def toPds : List D → Option (List PyData)
  | [] => some []
  | d :: ds => match toPd d, toPds ds with
    | some p, some ps => some (p :: ps)
    | _, _ => none
end
/-! dicts of plain values, and lists of such, as repr writes them -/
def leafPd : D → Option PyData
  | .non => some .none
  | .bl b => some (.bool b)
  | .int i => some (.int i)
  | .str s => some (.str s)
  | _ => none
def kPd : Key → PyData
  | .inl i => .int i
  | .inr x => .str x
def dctPd : List (Key × D) → Option (List (PyData × PyData))
  | [] => some []
  | (k, d) :: r => match leafPd d, dctPd r with
    | some p, some ps => some ((kPd k, p) :: ps)
    | _, _ => none
def toPr1 : D → Option PyData
  | .dct kvs => (dctPd kvs).map .dict
  | d => toPd d
def toPrs : List D → Option (List PyData)
  | [] => some []
  | d :: ds => match toPr1 d, toPrs ds with
    | some p, some ps => some (p :: ps)
    | _, _ => none
def toPr : D → Option PyData
  | .tup xs => (toPrs xs).map .tuple
  | .lst xs => (toPrs xs).map .list
  | .dct kvs => (dctPd kvs).map .dict
  | _ => none
/-- an instance: its class, its fields -/
def insOf (M : Mem) : D → Option (Nat × List (Str × D))
  | .ins c fs => some (c, fs)
  | .cell i => match M[i]? with
    | some (some (.ins c fs)) => some (c, fs)
    | _ => none
  | _ => none
def putFD (f : Str) (d : D) : List (Str × D) → List (Str × D)
  | [] => [(f, d)]
  | (g, x) :: r => if g = f then (g, d) :: r else (g, x) :: putFD f d r
/-! dicts: what stands at a key, what is put -/
def valD (kvs : List (Key × D)) (k : Key) : Option D := (kvs.find? fun kv => decide (kv.1 = k)).map (·.2)
def putKD (kvs : List (Key × D)) (k : Key) (d : D) : List (Key × D) :=
  if (kvs.any fun kv => decide (kv.1 = k)) = true then kvs.map (fun kv => if kv.1 = k then (kv.1, d) else kv) else kvs ++ [(k, d)]
def keyD : D → Option Key
  | .int i => some (.inl i)
  | .str s => some (.inr s)
  | _ => none
/-! keys that are tuples -/
mutual
def nkD : D → Option NestedKey
  | .non => some .none
  | .int i => some (.num i)
  | .str s => some (.text s)
  | .tup xs => (nkDs xs).map .tup
  | .bl _ => none
  | .lst _ => none
  | .scr _ => none
  | .ins _ _ => none
  | .dct _ => none
  | .dcn _ => none
  | .cell _ => none
def nkDs : List D → Option (List NestedKey)
  | [] => some []
  | d :: ds => match nkD d, nkDs ds with
    | some k, some ks => some (k :: ks)
    | _, _ => none
end
def keyT : D → Option NestedKey
  | .tup xs => match nkDs xs with
    | some ks => if (NestedKey.tup ks).depth ≤ 8 then some (.tup ks) else none
    | none => none
  | _ => none
mutual
def kD : NestedKey → D
  | .none => .non
  | .num i => .int i
  | .text s => .str s
  | .tup ks => .tup (kDs ks)
def kDs : List NestedKey → List D
  | [] => []
  | k :: ks => kD k :: kDs ks
end
def valN (kvs : List (NestedKey × D)) (k : NestedKey) : Option D := (kvs.find? fun kv => decide (kv.1 = k)).map (·.2)
def putKN (kvs : List (NestedKey × D)) (k : NestedKey) (d : D) : List (NestedKey × D) :=
  if (valN kvs k).isSome = true then kvs.map (fun kv => if kv.1 = k then (kv.1, d) else kv) else kvs ++ [(k, d)]
def dcnOf (M : Mem) : D → Option (List (NestedKey × D))
  | .dcn kvs => some kvs
  | .cell i => match M[i]? with
    | some (some (.dcn kvs)) => some kvs
    | _ => none
  | _ => none
/-- a key of numbers, None below all -/
def rankD : D → Option Int
  | .non => some (-1)
  | .int i => some i
  | _ => none
def ranksD : List D → Option (List Int)
  | [] => some []
  | d :: ds => match rankD d, ranksD ds with
    | some i, some is => some (i :: is)
    | _, _ => none
def rankT : D → Option (List Int)
  | .tup xs => ranksD xs
  | _ => none
def rankP (d : D) : PyData := .tuple (((rankT d).getD []).map .int)
/-- sorted by their ranks, all of one length -/
def srtD (n : Nat) (xs : List D) : Option (List D) :=
  if (xs.all fun d => match rankT d with | some is => is.length == n && decide (0 < n ∧ n < 100) && is.all fun i => decide (-1000 < i ∧ i < 1000) | none => false) = true then some (xs.mergeSort (PySem.W.dataLe false rankP)) else none
def lenT : D → Nat
  | .tup xs => xs.length
  | _ => 0
/-- a cell as the list that it is now -/
def now (M : Mem) (d : D) : D := match seqL M d with
  | some xs => .lst xs
  | none => d
def truth (M : Mem) : D → Option Bool
  | .non => some false
  | .bl b => some b
  | .int i => some (i != 0)
  | .str s => if s.length ≤ sizeLine then some (s.length != 0) else none
  | .tup xs => some (!xs.isEmpty)
  | .ins _ _ => none
  | d => (seqL M d).map fun xs => !xs.isEmpty
def mulOk (i j : Int) : Bool := decide ((-(2 ^ 64) < i ∧ i < 2 ^ 64) ∨ (-(2 ^ 64) < j ∧ j < 2 ^ 64) ∨ i.natAbs.log2 + j.natAbs.log2 < 1000000)
def binI : BO → Int → Int → Option Int
  | .add, i, j => some (i + j)
  | .sub, i, j => some (i - j)
  | .mul, i, j => if mulOk i j then some (i * j) else none
  | .fdiv, i, j => if 0 < j ∧ j.natAbs.log2 < 9000 then some (i / j) else none
  | .mod, i, j => if 0 < j then some (i % j) else none
  | .pow, i, j => if 0 ≤ j ∧ j ≤ 1000000 ∧ i.natAbs < 2 ^ 64 then some (i ^ j.toNat) else none
def evBin (o : BO) (x y : D) (M : Mem) : Option D :=
  match x, y with
  | .int i, .int j => (binI o i j).map .int
  | .str s, .str t => if o = .add ∧ s.length + t.length ≤ sizeLine then some (.str (s ++ t)) else none
  | .tup xs, .tup ys => if o = .add ∧ xs.length + ys.length ≤ sizeLine then some (.tup (xs ++ ys)) else none
  | .tup xs, .int k => if o = .mul ∧ xs ≠ [] ∧ -(2 ^ 63) ≤ k ∧ k ≤ 1000 ∧ xs.length ≤ 1000 then some (.tup (List.replicate k.toNat xs).flatten) else none
  | .lst xs, .int k => if o = .mul ∧ -(2 ^ 63) ≤ k ∧ k < 2 ^ 63 ∧ xs.length * k.toNat ≤ sizeLine then some (.lst (List.replicate k.toNat xs).flatten) else none
  | x, y => if o = .add then match seqC M x, seqC M y with
    | some xs, some ys => if xs.length + ys.length ≤ sizeLine then some (.lst (xs ++ ys)) else none
    | _, _ => none
    else none
/-- in place -/
def evAug (o : BO) (x y : D) : Option D :=
  match x, y with
  | .int i, .int j => if o = .pow then none else (binI o i j).map .int
  | .str s, .str t => if o = .add ∧ s.length + t.length ≤ sizeLine then some (.str (s ++ t)) else none
  | _, _ => none
def shapedB (p : PyData) : Bool := SeqAt.shaped p
/-- == -/
def eqD (M : Mem) (x y : D) : Option Bool :=
  match toPd (now M x), toPd (now M y) with
  | some p, some q => if shapedB p && shapedB q then some (PyData.eqv p q) else none
  | _, _ => match seqL M x, seqL M y with
    | some xs, some ys => if xs.length = ys.length then none else some false
    | _, _ => none
/-- strings and integers as they are -/
def eqM (M : Mem) (x y : D) : Option Bool := match x, y with
  | .str s, .str t => some (decide (s = t))
  | .int i, .int j => some (decide (i = j))
  | x, y => eqD M x y
/-- numbers, texts, None -/
def flatE : D → Bool
  | .non => true
  | .int _ => true
  | .str _ => true
  | _ => false
def eqF : D → D → Bool
  | .non, .non => true
  | .int a, .int b => decide (a = b)
  | .str a, .str b => decide (a = b)
  | _, _ => false
/-- in a tuple of data -/
def inT : Option PyData → Option PyData → Option Bool
  | some p, some (.tuple qs) => if shapedB p && shapedB (.tuple qs) then some (qs.any fun z => PyData.eqv z p) else none
  | _, _ => none
def inD (M : Mem) (x y : D) : Option Bool :=
  match toPd (now M x), toPd (now M y) with
  | some p, some (.list qs) => if shapedB p && shapedB (.list qs) then some (qs.any fun z => PyData.eqv z p) else none
  | _, _ => match y with
    | .tup xs => if flatE x && xs.all flatE then some (xs.any fun z => eqF z x) else inT (toPd (now M x)) (toPd (now M y))
    | _ => none
def dinD (M : Mem) (x y : D) : Option Bool := match keyT x, dcnOf M y with
  | some k, some kvs => some (valN kvs k).isSome
  | _, _ => none
def isD (x y : D) : Option Bool := match x, y with
  | .bl a, .bl b => some (a == b)
  | .non, .non => some true
  | _, .non => some false
  | .non, .bl _ | .int _, .bl _ | .str _, .bl _ | .tup _, .bl _ | .lst _, .bl _ | .scr _, .bl _ | .ins _ _, .bl _ | .cell _, .bl _ => some false
  | _, _ => none
def cmpI : CO → Int → Int → Option Bool
  | .lt, i, j => some (decide (i < j))
  | .le, i, j => some (decide (i ≤ j))
  | .gt, i, j => some (decide (j < i))
  | .ge, i, j => some (decide (j ≤ i))
  | _, _, _ => none
def ordD (o : CO) : D → D → Option Bool
  | .int i, .int j => cmpI o i j
  | _, _ => none
def cmpD (o : CO) (M : Mem) (x y : D) : Option Bool :=
  match o with
  | .eq => eqM M x y
  | .ne => (eqM M x y).map (!·)
  | .is => isD x y
  | .isn => (isD x y).map (!·)
  | .inn => inD M x y
  | .nin => (inD M x y).map (!·)
  | .din => dinD M x y
  | .ndi => (dinD M x y).map (!·)
  | o => ordD o x y
def ixD (M : Mem) (x y : D) : Option D :=
  match y with
  | .int i => match seqA M x with
    | some xs => atI xs i
    | none => none
  | _ => none
def cutD (xs : List D) (lo hi : Option Int) : List D := (xs.drop (HT.sIx xs.length 0 lo)).take (HT.sIx xs.length xs.length hi - HT.sIx xs.length 0 lo)
def slcD (M : Mem) (x : D) (a b : Option Int) : Option D := match x with
  | .tup xs => some (.tup (cutD xs a b))
  | x => (seqL M x).map fun xs => .lst (cutD xs a b)
def revD (M : Mem) (x : D) : Option D := match x with
  | .tup xs => some (.tup xs.reverse)
  | x => (seqL M x).map fun xs => .lst xs.reverse
def tyOf : D → Option (String × List String)
  | .non => some ("NoneType", ["NoneType"])
  | .bl _ => some ("bool", ["bool", "int"])
  | .int _ => some ("int", ["int"])
  | .str _ => some ("str", ["str"])
  | .tup _ => some ("tuple", ["tuple"])
  | .lst _ => some ("list", ["list"])
  | .scr _ => some ("list", ["list"])
  | .cell _ => none
  | .dct _ => some ("dict", ["dict"])
  | .dcn _ => some ("dict", ["dict"])
  | .ins _ _ => none
/-- the built-in classes that may be asked for -/
def tyAsk : List String := ["int", "bool", "str", "list", "tuple", "dict"]
def isiD (ts : List String) (d : D) : Option Bool := match tyOf d with
  | some (_, l) => if ts.all tyAsk.contains then some (ts.any l.contains) else none
  | none => none
/-- truth values alone -/
def blsD : List D → Option (List Bool)
  | [] => some []
  | .bl b :: ds => (blsD ds).map (b :: ·)
  | _ => none
def intsD : List D → Option (List Int)
  | [] => some []
  | .int i :: ds => (intsD ds).map (i :: ·)
  | _ => none
def lstsD : List D → Option (List (List D))
  | [] => some []
  | .lst xs :: ds => (lstsD ds).map (xs :: ·)
  | _ => none
def evBi (b : Bi) (ds : List D) (M : Mem) : Option D :=
  match b, ds with
  | .int, [.int i] => some (.int i)
  | .int, [.bl b] => some (.int (if b then 1 else 0))
  | .abs, [.int i] => some (.int (if i < 0 then -i else i))
  | .len, [d] => match seqA M d with
    | some xs => some (.int xs.length)
    | none => match d with
      | .str s => if s.length ≤ sizeLine then some (.int s.length) else none
      | _ => none
  | .repr, [d] => match toPd (now M d) with
    | some p => if p.showable ∧ p.depth ≤ 40 ∧ p.shown.length ≤ sizeLine then some (.str p.shown) else none
    | none => match toPr (now M d) with
      | some p => if p.showable ∧ p.depth ≤ 40 ∧ p.shown.length ≤ sizeLine then some (.str p.shown) else none
      | none => none
  | .tuple, [.tup xs] => some (.tup xs)
  | .tuple, [d] => (seqL M d).map .tup
  | .list, [d] => (seqA M d).map .lst
  | .all, [d] => ((seqL M d).bind blsD).map fun bs => .bl (bs.all id)
  | .any, [d] => ((seqL M d).bind blsD).map fun bs => .bl (bs.any id)
  | .bool, [.int i] => some (.bl (i != 0))
  | .bool, [.bl b] => some (.bl b)
  | .bool, [d] => (seqL M d).map fun xs => .bl (!xs.isEmpty)
  | .min, [.int i, .int j] => some (.int (if j < i then j else i))
  | .max, [.int i, .int j] => some (.int (if j > i then j else i))
  | .str, [.int i] => if i.natAbs.log2 < 1920 then some (.str (toString i)) else none
  | .str, [.str s] => some (.str s)
  | .str, [.lst xs] => match toPds xs with
    | some ps => if (PyData.list ps).showable ∧ (PyData.list ps).depth ≤ 40 ∧ (PyData.list ps).shown.length ≤ sizeLine then some (.str (PyData.list ps).shown) else none
    | none => none
  | .sum, [d] => ((seqL M d).bind intsD).map fun ns => .int ns.sum
  | .sum, [d, .lst []] => ((seqL M d).bind lstsD).bind fun xss => if xss.flatten.length ≤ sizeLine then some (.lst xss.flatten) else none
  | .sorted, [d] => ((seqL M d).bind intsD).map fun ns => .lst ((ns.mergeSort fun a b => decide (a ≤ b)).map .int)
  | _, _ => none
def rngD (a b : Int) : Option (List D) :=
  if -(2 ^ 62) ≤ a ∧ a < 2 ^ 62 ∧ -(2 ^ 62) ≤ b ∧ b < 2 ^ 62 then some ((List.range (b - a).toNat).map fun (k : Nat) => .int (a + (k : Int))) else none
def dwnD (a b : Int) : Option (List D) :=
  if -(2 ^ 62) ≤ a ∧ a < 2 ^ 62 ∧ -(2 ^ 62) ≤ b ∧ b < 2 ^ 62 then some ((List.range (a - b).toNat).map fun (k : Nat) => .int (a - (k : Int))) else none
def isStrD : D → Bool
  | .str _ => true
  | _ => false
/-- whether a method is one of this value -/
def mtFit (m : Mt) (o : D) (M : Mem) : Bool := match m with
  | .append | .extend | .pop | .index => (seqL M o).isSome
  | .join | .split | .startswith => isStrD o
def evMt (m : Mt) (o : D) (ds : List D) (M : Mem) : Option (D × Mem) :=
  match m, o, ds with
  | .append, .cell i, [d] => match M[i]? with
    | some (some (.lst xs)) => if xs.length < sizeLine then some (.non, M.set i (some (.lst (xs ++ [d])))) else none
    | _ => none
  | .extend, .cell i, [d] => match M[i]? with
    | some (some (.lst xs)) => match d with
      | .lst ys => if xs.length + ys.length ≤ sizeLine then some (.non, M.set i (some (.lst (xs ++ ys)))) else none
      | _ => none
    | _ => none
  | .pop, .cell i, [.int k] => match M[i]? with
    | some (some (.lst xs)) => match ixN xs.length k with
      | some j => match xs[j]? with
        | some y => if -(2 ^ 63) ≤ k ∧ k < 2 ^ 63 then some (y, M.set i (some (.lst (xs.eraseIdx j)))) else none
        | none => none
      | none => none
    | _ => none
  | .index, o, [d] => match toPd (now M o), toPd (now M d) with
    | some (.list qs), some p => if shapedB (.list qs) && shapedB p then (qs.findIdx? fun z => PyData.eqv z p).map fun (j : Nat) => (D.int (j : Int), M) else none
    | _, _ => none
  | _, _, _ => none
def Res.ofM {α : Type} (o : Option (α × Mem)) : Res α := match o with | some (a, M) => .ok a M | none => .no
@[simp] theorem Res.ofM_some {α : Type} (a : α) (M : Mem) : Res.ofM (some (a, M)) = .ok a M := by simp only [Res.ofM]
/-! ### expressions -/
/-- a comprehension's turns: f hands back what is added, if anything is -/
def lcGo (f : D → Mem → Res (Option D)) : List D → List D → Mem → Res (List D)
  | [], acc, M => .ok acc M
  | x :: xs, acc, M => match f x M with
    | .ok (some d) M1 => if acc.length < sizeLine then lcGo f xs (acc ++ [d]) M1 else .no
    | .ok none M1 => lcGo f xs acc M1
    | _ => .no
/-- a dict comprehension's turns -/
def dcGo (f : D → Mem → Res (Option (Key × D))) : List D → List (Key × D) → Mem → Res (List (Key × D))
  | [], acc, M => .ok acc M
  | x :: xs, acc, M => match f x M with
    | .ok (some (k, d)) M1 => if acc.length < sizeLine then dcGo f xs (putKD acc k d) M1 else .no
    | .ok none M1 => dcGo f xs acc M1
    | _ => .no
/-- a two-fold comprehension's outer turns -/
def lc2Go (f : D → List D → Mem → Res (List D)) : List D → List D → Mem → Res (List D)
  | [], acc, M => .ok acc M
  | x :: xs, acc, M => match f x acc M with
    | .ok acc1 M1 => lc2Go f xs acc1 M1
    | _ => .no
def wipeD (σ : Env') : List Nat → Env'
  | [] => σ
  | v :: vs => (wipeD σ vs).set v none
section
variable (Φ : Nat → List D → Mem → Res D)
/-- the pairs' keys and values, one behind the other -/
def pairsN : List D → List (NestedKey × D) → Option (List (NestedKey × D))
  | [], acc => some acc
  | .tup [k, v] :: ps, acc => match keyT k with
    | some kk => pairsN ps (putKN acc kk v)
    | none => none
  | _ :: _, _ => none
mutual
def evE : Ex → Env' → Mem → Res D
  | .var i, σ, M => match σ[i]? with
    | some (some d) => .ok d M
    | _ => .no
  | .non, _, M => .ok .non M
  | .bl b, _, M => .ok (.bl b) M
  | .int i, _, M => .ok (.int i) M
  | .str s, _, M => .ok (.str s) M
  | .bin o a b, σ, M => (evE a σ M).bind fun x M1 => (evE b σ M1).bind fun y M2 => Res.of (evBin o x y M2) M2
  | .cmp o a b, σ, M => (evE a σ M).bind fun x M1 => (evE b σ M1).bind fun y M2 => Res.of ((cmpD o M2 x y).map .bl) M2
  | .chn o p a b c, σ, M => (evE a σ M).bind fun x M1 => (evE b σ M1).bind fun y M2 => match cmpD o M2 x y with
    | some true => (evE c σ M2).bind fun z M3 => Res.of ((cmpD p M3 y z).map .bl) M3
    | some false => .ok (.bl false) M2
    | none => .no
  | .and a b, σ, M => (evE a σ M).bind fun x M1 => match truth M1 x with
    | some true => evE b σ M1
    | some false => .ok x M1
    | none => .no
  | .or a b, σ, M => (evE a σ M).bind fun x M1 => match truth M1 x with
    | some true => .ok x M1
    | some false => evE b σ M1
    | none => .no
  | .not a, σ, M => (evE a σ M).bind fun x M1 => Res.of ((truth M1 x).map fun b => .bl (!b)) M1
  | .neg a, σ, M => (evE a σ M).bind fun x M1 => match x with
    | .int i => .ok (.int (-i)) M1
    | _ => .no
  | .ite c a b, σ, M => (evE c σ M).bind fun x M1 => match truth M1 x with
    | some true => evE a σ M1
    | some false => evE b σ M1
    | none => .no
  | .tup es, σ, M => (evL es σ M).bind fun ds M1 => if ds.length ≤ sizeLine then .ok (.tup ds) M1 else .no
  | .stup a es, σ, M => (evE a σ M).bind fun d M1 => match seqA M1 d with
    | some xs => (evL es σ M1).bind fun ds M2 => if xs.length + ds.length ≤ sizeLine then .ok (.tup (xs ++ ds)) M2 else .no
    | none => .no
  | .lst es, σ, M => (evL es σ M).bind fun ds M1 => if ds.length ≤ sizeLine then .ok (.lst ds) M1 else .no
  | .mls es, σ, M => (evL es σ M).bind fun ds M1 => if ds.length ≤ sizeLine then .ok (.cell M1.length) (M1 ++ [some (.lst ds)]) else .no
  | .ix a b, σ, M => (evE a σ M).bind fun x M1 => (evE b σ M1).bind fun y M2 => Res.of (ixD M2 x y) M2
  | .slc a lo hi, σ, M => (evE a σ M).bind fun x M1 => (evO lo σ M1).bind fun l M2 => (evO hi σ M2).bind fun h M3 => Res.of (slcD M3 x l h) M3
  | .rev a, σ, M => (evE a σ M).bind fun x M1 => Res.of (revD M1 x) M1
  | .call f es ks pm, σ, M => (evL es σ M).bind fun ds M1 => (evK ks σ M1).bind fun us M2 => Φ f (pm.map fun i => ((ds ++ us)[i]?).getD .non) M2
  | .bi b es, σ, M => (evL es σ M).bind fun ds M1 => Res.of (evBi b ds M1) M1
  | .dct0, _, M => .ok (.dct []) M
  | .dct1 a b, σ, M => (evE a σ M).bind fun x M1 => (evE b σ M1).bind fun y M2 => match x with
    | .int i => .ok (.dct [(.inl i, y)]) M2
    | .str s => .ok (.dct [(.inr s, y)]) M2
    | _ => .no
  | .fldE a f, σ, M => (evE a σ M).bind fun x M1 => match insOf M1 x with
    | some (_, fs) => Res.of (fs.lookup f) M1
    | none => .no
  | .mcall m tbl o es, σ, M => (evE o σ M).bind fun x M1 => match insOf M1 x with
    | some (c, fs) => if (fs.lookup m).isNone = true then match tbl.lookup c with
      | some i => (evL es σ M1).bind fun ds M2 => Φ i (x :: ds) M2
      | none => .no
      else .no
    | none => .no
  | .new c f es, σ, M => (evL es σ M).bind fun ds M1 => (Φ f (.cell M1.length :: ds) (M1 ++ [some (.ins c [])])).bind fun d M2 => match d, M2[M1.length]? with
    | .non, some (some (.ins c' fs)) => .ok (.ins c' fs) (M2.set M1.length none)
    | _, _ => .no
  | .isc e x subs, σ, M => (evE e σ M).bind fun d M1 => match d with
    | .ins c _ => .ok (.bl (subs.contains c)) M1
    | _ => .no
  | .dc a b t it c vs, σ, M => (evI it σ M).bind fun ds M1 => (dcGo (fun x M2 => (evT t x (wipeD σ vs) M2).bind fun σ3 M3 => (evC c σ3 M3).bind fun q M4 => if q = true then (evE a σ3 M4).bind fun kd M5 => (evE b σ3 M5).bind fun d M6 => match keyD kd with
      | some k => .ok (some (k, d)) M6
      | none => .no
    else .ok none M4) ds [] M1).bind fun kvs M6 => .ok (.dct kvs) M6
  | .dix o e, σ, M => (evE o σ M).bind fun x M1 => (evE e σ M1).bind fun y M2 => match x, keyD y with
    | .dct kvs, some k => Res.of (valD kvs k) M2
    | _, _ => .no
  | .lrg1 b, σ, M => (evE b σ M).bind fun y M2 => match y with
    | .int j => match rngD 0 j with
      | some ds => if ds.length ≤ sizeLine then .ok (.lst ds) M2 else .no
      | none => .no
    | _ => .no
  | .mrg1 b, σ, M => (evE b σ M).bind fun y M2 => match y with
    | .int j => match rngD 0 j with
      | some ds => if ds.length ≤ sizeLine then .ok (.cell M2.length) (M2 ++ [some (.lst ds)]) else .no
      | none => .no
    | _ => .no
  | .madd a b, σ, M => (evE a σ M).bind fun x M1 => (evE b σ M1).bind fun y M2 => match seqC M2 x, seqC M2 y with
    | some xs, some ys => if xs.length + ys.length ≤ sizeLine then .ok (.cell M2.length) (M2 ++ [some (.lst (xs ++ ys))]) else .no
    | _, _ => .no
  | .mmul a b, σ, M => (evE a σ M).bind fun x M1 => (evE b σ M1).bind fun y M2 => match x, y with
    | .lst xs, .int k => if -(2 ^ 63) ≤ k ∧ k < 2 ^ 63 ∧ xs.length * k.toNat ≤ sizeLine then .ok (.cell M2.length) (M2 ++ [some (.lst (List.replicate k.toNat xs).flatten)]) else .no
    | _, _ => .no
  | .mdn0, _, M => .ok (.cell M.length) (M ++ [some (.dcn [])])
  | .dnix o e, σ, M => (evE o σ M).bind fun x M1 => (evE e σ M1).bind fun y M2 => match dcnOf M2 x, keyT y with
    | some kvs, some k => Res.of (valN kvs k) M2
    | _, _ => .no
  | .dng1 o e, σ, M => (evE o σ M).bind fun x M1 => match dcnOf M1 x with
    | some _ => (evE e σ M1).bind fun y M2 => match dcnOf M2 x, keyT y with
      | some kvs, some k => .ok ((valN kvs k).getD .non) M2
      | _, _ => .no
    | none => .no
  | .dng2 o e f, σ, M => (evE o σ M).bind fun x M1 => match dcnOf M1 x with
    | some _ => (evE e σ M1).bind fun y M2 => (evE f σ M2).bind fun z M3 => match dcnOf M3 x, keyT y with
      | some kvs, some k => .ok ((valN kvs k).getD z) M3
      | _, _ => .no
    | none => .no
  | .dnl o, σ, M => (evE o σ M).bind fun x M1 => match dcnOf M1 x with
    | some kvs => .ok (.lst (kvs.map fun kv => kD kv.1)) M1
    | none => .no
  | .dni o, σ, M => (evE o σ M).bind fun x M1 => match dcnOf M1 x with
    | some kvs => .ok (.lst (kvs.map fun kv => .tup [kD kv.1, kv.2])) M1
    | none => .no
  | .dnn o, σ, M => (evE o σ M).bind fun x M1 => match dcnOf M1 x with
    | some kvs => .ok (.int kvs.length) M1
    | none => .no
  | .lset e, σ, M => (evE e σ M).bind fun x M1 => match (seqL M1 x).bind intsD with
    | some ns => if ns.length < 64 ∧ ns.Nodup then .ok (.int ns.length) M1 else .no
    | none => .no
  | .srt _ e, σ, M => (evE e σ M).bind fun x M1 => match seqL M1 x with
    | some xs => Res.of ((srtD (lenT (xs.headD .non)) xs).map .lst) M1
    | none => .no
  | .mck m tbl o es ks pm, σ, M => (evE o σ M).bind fun x M1 => match insOf M1 x with
    | some (c, fs) => if (fs.lookup m).isNone = true then match tbl.lookup c with
      | some i => (evL es σ M1).bind fun ds M2 => (evK ks σ M2).bind fun us M3 => Φ i (pm.map fun j => ((x :: (ds ++ us))[j]?).getD .non) M3
      | none => .no
      else .no
    | none => .no
  | .mnk c f ks pm, σ, M => (evK ks σ M).bind fun us M1 => (Φ f (pm.map fun j => ((.cell M1.length :: us)[j]?).getD .non) (M1 ++ [some (.ins c [])])).bind fun d M2 => match d, M2[M1.length]? with
    | .non, some (some (.ins c' fs)) => .ok (.ins c' fs) (M2.set M1.length none)
    | _, _ => .no
  | .dctN e, σ, M => (evE e σ M).bind fun d M1 => match d with
    | .lst ps => match pairsN ps [] with
      | some kvs => .ok (.dcn kvs) M1
      | none => .no
    | _ => .no
  | .lrg2 a b, σ, M => (evE a σ M).bind fun x M1 => (evE b σ M1).bind fun y M2 => match x, y with
    | .int i, .int j => match rngD i j with
      | some ds => if ds.length ≤ sizeLine then .ok (.lst ds) M2 else .no
      | none => .no
    | _, _ => .no
  | .dgt o e, σ, M => (evE o σ M).bind fun x M1 => match x with
    | .dct kvs => (evE e σ M1).bind fun y M2 => match keyD y with
      | some k => .ok ((valD kvs k).getD .non) M2
      | none => .no
    | _ => .no
  | .mbl e, σ, M => (evE e σ M).bind fun d M1 => match seqA M1 d with
    | some xs => .ok (.cell M1.length) (M1 ++ [some (.lst xs)])
    | none => .no
  | .isi e ts, σ, M => (evE e σ M).bind fun x M1 => Res.of ((isiD ts x).map .bl) M1
  | .meth m o es, σ, M => (evE o σ M).bind fun x M1 => if mtFit m x M1 then (evL es σ M1).bind fun ds M2 => Res.ofM (evMt m x ds M2) else .no
  | .lc e t it c vs, σ, M => (evI it σ M).bind fun ds M1 => (lcGo (fun x M2 => (evT t x (wipeD σ vs) M2).bind fun σ3 M3 => (evC c σ3 M3).bind fun b M4 => if b = true then (evE e σ3 M4).bind fun d M5 => .ok (some d) M5 else .ok none M4) ds [] M1).bind fun ds M6 => .ok (.lst ds) M6
  | .lc2 e t it c t1 it1 c1 vs vs1, σ, M => (evI it σ M).bind fun ds M1 => (lc2Go (fun x acc M2 => (evT t x (wipeD σ vs) M2).bind fun σ3 M3 => (evC c σ3 M3).bind fun b M4 => if b = true then (evI it1 σ3 M4).bind fun ds1 M5 => lcGo (fun x1 M6 => (evT t1 x1 (wipeD σ3 vs1) M6).bind fun σ4 M7 => (evC c1 σ4 M7).bind fun b1 M8 => if b1 = true then (evE e σ4 M8).bind fun d M9 => .ok (some d) M9 else .ok none M8) ds1 acc M5 else .ok acc M4) ds [] M1).bind fun ds M6 => .ok (.lst ds) M6
  | .frz v, σ, M => match σ[v]? with
    | some (some (.cell i)) => match M[i]? with
      | some (some (.lst xs)) => .ok (.lst xs) (M.set i none)
      | some (some (.ins c fs)) => .ok (.ins c fs) (M.set i none)
      | some (some (.dcn kvs)) => .ok (.dcn kvs) (M.set i none)
      | _ => .no
    | _ => .no
def evL : List Ex → Env' → Mem → Res (List D)
  | [], _, M => .ok [] M
  | e :: es, σ, M => (evE e σ M).bind fun d M1 => (evL es σ M1).bind fun ds M2 => .ok (d :: ds) M2
def evK : List (Str × Ex) → Env' → Mem → Res (List D)
  | [], _, M => .ok [] M
  | (_, e) :: es, σ, M => (evE e σ M).bind fun d M1 => (evK es σ M1).bind fun ds M2 => .ok (d :: ds) M2
def evO : Option Ex → Env' → Mem → Res (Option Int)
  | none, _, M => .ok none M
  | some e, σ, M => (evE e σ M).bind fun d M1 => match d with
    | .int i => .ok (some i) M1
    | _ => .no
def evC : Option Ex → Env' → Mem → Res Bool
  | none, _, M => .ok true M
  | some e, σ, M => (evE e σ M).bind fun d M1 => Res.of (truth M1 d) M1
def evI : It → Env' → Mem → Res (List D)
  | .seq e, σ, M => (evE e σ M).bind fun d M1 => match d with
    | .lst xs => .ok xs M1
    | .scr xs => .ok xs M1
    | .tup xs => .ok xs M1
    | _ => .no
  | .rng1 a, σ, M => (evE a σ M).bind fun d M1 => match d with
    | .int n => Res.of (rngD 0 n) M1
    | _ => .no
  | .rng2 a b, σ, M => (evE a σ M).bind fun x M1 => (evE b σ M1).bind fun y M2 => match x, y with
    | .int m, .int n => Res.of (rngD m n) M2
    | _, _ => .no
  | .rng3 a b c, σ, M => (evE a σ M).bind fun x M1 => (evE b σ M1).bind fun y M2 => (evE c σ M2).bind fun z M3 => match x, y, z with
    | .int m, .int n, .int i => if i = -1 then Res.of (dwnD m n) M3 else .no
    | _, _, _ => .no
  | .enu e, σ, M => (evE e σ M).bind fun d M1 => match d with
    | .lst xs => .ok ((xs.zipIdx).map fun p => .tup [.int p.2, p.1]) M1
    | .scr xs => .ok ((xs.zipIdx).map fun p => .tup [.int p.2, p.1]) M1
    | .tup xs => .ok ((xs.zipIdx).map fun p => .tup [.int p.2, p.1]) M1
    | _ => .no
  | .zip a b, σ, M => (evE a σ M).bind fun x M1 => (evE b σ M1).bind fun y M2 => match x, y with
    | .lst xs, .lst ys => .ok ((xs.zip ys).map fun p => .tup [p.1, p.2]) M2
    | _, _ => .no
  | .zip3 es, σ, M => (evL es σ M).bind fun ds M1 => match ds with
    | [.tup xs, .tup ys, .tup zs] => .ok ((xs.zip (ys.zip zs)).map fun p => .tup [p.1, p.2.1, p.2.2]) M1
    | _ => .no
def evT : Tg → D → Env' → Mem → Res Env'
  | .nm i, d, σ, M => .ok (σ.set i (some d)) M
  | .tp ts, d, σ, M => match d with
    | .tup ds => evTs ts ds σ M
    | .lst ds => evTs ts ds σ M
    | _ => .no
  | .sub a b, d, σ, M => (evE a σ M).sure.bind fun x M1 => (evE b σ M1).sure.bind fun y M2 => match x, y with
    | .cell i, .int k => match M2[i]? with
      | some (some (.lst xs)) => match ixN xs.length k with
        | some j => .ok σ (M2.set i (some (.lst (xs.set j d))))
        | none => .no
      | _ => .no
    | .cell i, .tup ks => match M2[i]?, keyT (.tup ks) with
      | some (some (.dcn kvs)), some k => if kvs.length < sizeLine then .ok σ (M2.set i (some (.dcn (putKN kvs k d)))) else .no
      | _, _ => .no
    | _, _ => .no
  | .fld a f, d, σ, M => (evE a σ M).sure.bind fun x M1 => match x with
    | .cell i => match M1[i]? with
      | some (some (.ins c fs)) => if fs.length < 1000 then .ok σ (M1.set i (some (.ins c (putFD f d fs)))) else .no
      | _ => .no
    | _ => .no
def evTs : List Tg → List D → Env' → Mem → Res Env'
  | [], [], σ, M => .ok σ M
  | t :: ts, d :: ds, σ, M => (evT t d σ M).bind fun σ1 M1 => evTs ts ds σ1 M1
  | _, _, _, _ => .no
end
/-! ### statements -/
inductive RS where
  | nx (σ : Env') (M : Mem) | bk (σ : Env') (M : Mem) | ct (σ : Env') (M : Mem)
  | rt (d : D) (M : Mem)
  | ex (c : Nat) (fs : List (Str × D)) (σ : Env') (M : Mem)
  | no
def RS.of {α : Type} (r : Res α) (σ : Env') (f : α → Mem → RS) : RS := match r with
  | .ok a M => f a M
  | .ex c fs M => .ex c fs σ M
  | .no => .no
@[simp] theorem RS.of_ok {α : Type} (a : α) (M : Mem) (σ : Env') (f : α → Mem → RS) : RS.of (.ok a M) σ f = f a M := by simp only [RS.of]
def RS.then (r : RS) (f : Env' → Mem → RS) : RS := match r with
  | .nx σ M => f σ M
  | r => r
@[simp] theorem RS.then_nx (σ : Env') (M : Mem) (f : Env' → Mem → RS) : (RS.nx σ M).then f = f σ M := by simp only [RS.then]
@[simp] theorem RS.then_rt (d : D) (M : Mem) (f : Env' → Mem → RS) : (RS.rt d M).then f = .rt d M := by simp only [RS.then]
def forGo (f : D → Env' → Mem → RS) : List D → Env' → Mem → RS
  | [], σ, M => .nx σ M
  | x :: xs, σ, M => match f x σ M with
    | .nx σ1 M1 => forGo f xs σ1 M1
    | .ct σ1 M1 => forGo f xs σ1 M1
    | .bk σ1 M1 => .nx σ1 M1
    | r => r
def whlGo (c : Env' → Mem → Res Bool) (f : Env' → Mem → RS) : Nat → Env' → Mem → RS
  | 0, _, _ => .no
  | n + 1, σ, M => RS.of (c σ M) σ fun b M1 => if b then match f σ M1 with
      | .nx σ1 M2 => whlGo c f n σ1 M2
      | .ct σ1 M2 => whlGo c f n σ1 M2
      | .bk σ1 M2 => .nx σ1 M2
      | r => r
    else .nx σ M1
def setAll (σ : Env') : List Nat → List D → Env'
  | i :: is, d :: ds => setAll (σ.set i (some d)) is ds
  | _, _ => σ
mutual
def evS : Sx → Env' → Mem → RS
  | .asg t e, σ, M => RS.of (evE Φ e σ M) σ fun d M1 => RS.of (evT Φ t d σ M1) σ fun σ1 M2 => .nx σ1 M2
  | .par is es, σ, M => RS.of (evL Φ es σ M) σ fun ds M1 => if ds.length = is.length then .nx (setAll σ is.reverse ds.reverse) M1 else .no
  | .aug i o e, σ, M => match σ[i]? with
    | some (some x) => RS.of (evE Φ e σ M) σ fun y M1 => match evAug o x y with
      | some z => .nx (σ.set i (some z)) M1
      | none => .no
    | _ => .no
  | .expr e, σ, M => RS.of (evE Φ e σ M) σ fun _ M1 => .nx σ M1
  | .ret e, σ, M => RS.of (evE Φ e σ M) σ fun d M1 => .rt d M1
  | .retN, _, M => .rt .non M
  | .ifs c a b, σ, M => RS.of ((evE Φ c σ M).bind fun d M1 => Res.of (truth M1 d) M1) σ fun t M1 => if t then evSs a σ M1 else evSs b σ M1
  | .fors t it body, σ, M => RS.of (evI Φ it σ M) σ fun ds M1 => forGo (fun x σ1 M2 => RS.of (evT Φ t x σ1 M2) σ1 fun σ2 M3 => evSs body σ2 M3) ds σ M1
  | .whl n c body, σ, M => whlGo (fun σ1 M1 => (evE Φ c σ1 M1).bind fun d M2 => Res.of (truth M2 d) M2) (fun σ1 M1 => evSs body σ1 M1) n σ M
  | .brk, σ, M => .bk σ M
  | .cnt, σ, M => .ct σ M
  | .pass, σ, M => .nx σ M
  | .nev, _, _ => .no
  | .frzs v s, σ, M => match σ[v]? with
    | some (some (.cell i)) => match M[i]? with
      | some (some (.lst xs)) => evS s (σ.set v (some (.lst xs))) (M.set i none)
      | some (some (.ins c fs)) => evS s (σ.set v (some (.ins c fs))) (M.set i none)
      | some (some (.dcn kvs)) => evS s (σ.set v (some (.dcn kvs))) (M.set i none)
      | _ => .no
    | _ => .no
def evSs : List Sx → Env' → Mem → RS
  | [], σ, M => .nx σ M
  | s :: ss, σ, M => (evS s σ M).then fun σ1 M1 => evSs ss σ1 M1
end
end
/-- a class: its __init__ as a def, its methods as defs -/
structure Cf where
  name : Str
  init : Option Nat
  meths : List (Str × Nat)
  /-- fields that no class of it has by name -/
  flds : List Str
  /-- which classes it is asked for, by name: and the answer -/
  asks : List (Str × Bool)
/-- a def: its parameters, its names by slot, its body -/
structure Df where
  name : Str
  ps : List Str
  N : List Str
  body : List Sx
  /-- how it may be called: positional values, keywords, where each parameter's value stands -/
  shapes : List (Nat × List Str × List Nat)
def bodyRes (r : RS) : Res D := match r with
  | .nx _ M => .ok .non M
  | .rt d M => .ok d M
  | .ex c fs _ M => .ex c fs M
  | _ => .no
/-! whether no cell is told -/
mutual
def noCell : D → Bool
  | .tup xs => noCells xs
  | .lst xs => noCells xs
  | .scr xs => noCells xs
  | .ins _ fs => noCellF fs
  | .dct kvs => noCellK kvs
  | .dcn kvs => noCellN kvs
  | .cell _ => false
  | _ => true
def noCells : List D → Bool
  | [] => true
  | d :: ds => noCell d && noCells ds
def noCellF : List (Str × D) → Bool
  | [] => true
  | d :: ds => noCell d.2 && noCellF ds
def noCellK : List (Key × D) → Bool
  | [] => true
  | d :: ds => noCell d.2 && noCellK ds
def noCellN : List (NestedKey × D) → Bool
  | [] => true
  | d :: ds => noCell d.2 && noCellN ds
end
/-- behind a call: its own cells are forgotten where nothing of them is left -/
def quiet : Option MO → Bool
  | none => true
  | some (.lst xs) => noCells xs
  | some (.ins _ fs) => noCellF fs
  | some (.dcn kvs) => noCellN kvs
def spare (n : Nat) (M : Mem) : Bool := (M.drop n).all Option.isNone && (M.take n).all quiet
def tidy (n : Nat) (r : Res D) : Res D := match r with
  | .ok d M => if M.length ≤ n then .ok d M else if (spare n M && noCell d) = true then .ok d (M.take n) else .ok d M
  | .ex c fs M => if M.length ≤ n then .ex c fs M else if (spare n M && noCellF fs) = true then .ex c fs (M.take n) else .ex c fs M
  | .no => .no
def evF (P : List Df) : Nat → Nat → List D → Mem → Res D
  | 0, _, _, _ => .no
  | k + 1, f, ds, M => match P[f]? with
    | some d => if ds.length = d.ps.length then tidy M.length (bodyRes (evSs (evF P k) d.body (ds.map some ++ List.replicate (d.N.length - ds.length) none) M)) else .no
    | none => .no
end Ev
/-! EvA: a tuple once, or no times; a tuple from behind. -/
namespace Ev
open PySem PySem.Spec PyProof.Rows L2
def tupO (dd : Option Addr) (its : Array Value) (n : Nat) (sl : Array (Option Value)) : Obj := ⟨.type "tuple", dd, .seq its n, sl⟩
theorem mulOnce (p : Addr) (ys : Array Value) (m : Nat) (dd : Option Addr) (sl : Array (Option Value)) (u : Tok) (hne : ys.isEmpty = false) :
    Meets (Builtin.«tuple.__mul__» ⟨[.ref p, .int 1 u], []⟩) (fun _ R s => s.heap.get? p = some (tupO dd ys m sl) ∧ R (.ok (.ret (Value.ref p))) s) :=
  .of_wp fun _ _ _ _ st q => by
    obtain ⟨hp, g, d, tk, os⟩ := st
    have f1 := AutoSeq1.idx_int
    have q1 : hp.get? p = some { cls := Value.type "tuple", dict := dd, data := Data.seq ys m, slots := sl } := q.1
    wp_walk using wpAny_loadPart' q1
    exact ⟨_, rfl, q.2⟩
theorem mulNone (p : Addr) (ys : Array Value) (m : Nat) (dd : Option Addr) (sl : Array (Option Value)) (x : Int) (u : Tok) (e0 : (decide (x < -(2 ^ 63)) || decide (x ≥ 2 ^ 63)) = false) (e1 : (ys.isEmpty || x == 1) = false) (e2 : (decide (x ≤ 0) || ys.isEmpty) = true) :
    Meets (Builtin.«tuple.__mul__» ⟨[.ref p, .int x u], []⟩) (fun _ R s => s.heap.get? p = some (tupO dd ys m sl) ∧
      R (.ok (.ret (Value.ref s.heap.objs.size))) { s with heap := s.heap.push { cls := Value.type "tuple", data := Data.seq #[] }, toks := s.toks }) :=
  .of_wp fun _ _ _ _ st q => by
    obtain ⟨hp, g, d, tk, os⟩ := st
    have f1 := AutoSeq1.idx_int
    have q1 : hp.get? p = some { cls := Value.type "tuple", dict := dd, data := Data.seq ys m, slots := sl } := q.1
    wp_walk using wpAny_loadPart' q1
    repeat (first
      | (refine wpAny_ite_false (decide_eq_false (fun z => by rw [e0] at z; cases z)) ?_; wp_walk using wpAny_loadPart' q1)
      | (refine wpAny_ite_false (decide_eq_false (fun z => by rw [e1] at z; cases z)) ?_; wp_walk using wpAny_loadPart' q1)
      | (refine wpAny_ite_true (decide_eq_true e2) ?_; wp_walk using wpAny_loadPart' q1))
    exact ⟨_, rfl, q.2⟩
def rRep01 (K : PySem.W.Frag) : R2 := fun x y H Q => ∃ p k zs, x = .ref p ∧ y = .int k ∧ SqT K H p zs ∧ zs ≠ [] ∧ -(2 ^ 63) ≤ k ∧ k ≤ 1 ∧ (k = 1 → Q (.ref p) H) ∧ (k ≤ 0 → ∀ q, H q = none → Q (.ref q) (upd H q (.tup [])))
section
variable {X : Cx}
theorem op_rep01 : OpR X (binaryOp .Mult) (rRep01 X.K) := by
  intro pins s σ H x y v u Q I rx ry ⟨p, k, zs, ex, ey, hT, hne, h1, h2, q1, q0⟩
  subst ex ey
  cases rx
  obtain ⟨t, rfl⟩ := ry
  obtain ⟨ys, r, ⟨ob, ho, hc, m, hd⟩, hs⟩ := I.tuple hT
  obtain ⟨cls, dd, data, sl⟩ := ob
  simp only at hc hd
  subst hc hd
  have hi : ys.toArray.isEmpty = false := by
    cases ys with
    | nil => exact absurd (List.eq_nil_of_length_eq_zero r.length) hne
    | cons a b => rfl
  by_cases hk : k = 1
  · subst hk
    exact wpAny_binaryOp_repeat_ref (T := "tuple") (U := "int") (by decide) ⟨_, ho, rfl⟩ (fun s' => typeIs_int s' 1 t) noFill_tuple_mul F.fills_int_mul F.slot_int_rmul repeat_tuple F.slot_int_index.lookup
      (call_meets F.slot_int_rmul (typeIs_int s 1 t) F.entry_int_rmul (F.args_int_rmul_2 _ _) (int_rmul_tuple 1 t p ys.toArray m dd sl)
        ⟨ho, rfl, ⟨_, ho, rfl⟩, call_meets F.slot_tuple_mul ⟨_, ho, rfl⟩ F.entry_tuple_mul (F.args_tuple_mul_2 _ _) (mulOnce p ys.toArray m dd sl t hi) ⟨ho, ⟨.ref p, H, I, rfl, q1 rfl⟩⟩⟩)
  · have e0 : (decide (k < -(2 ^ 63)) || decide (k ≥ 2 ^ 63)) = false := by
      rw [Bool.or_eq_false_iff]
      exact ⟨decide_eq_false (by omega), decide_eq_false (by omega)⟩
    have e1 : (ys.toArray.isEmpty || k == 1) = false := by
      rw [Bool.or_eq_false_iff]
      exact ⟨hi, beq_eq_false_iff_ne.mpr hk⟩
    have e2 : (decide (k ≤ 0) || ys.toArray.isEmpty) = true := by rw [decide_eq_true (by omega), Bool.true_or]
    refine wpAny_binaryOp_repeat_ref (T := "tuple") (U := "int") (by decide) ⟨_, ho, rfl⟩ (fun s' => typeIs_int s' k t) noFill_tuple_mul F.fills_int_mul F.slot_int_rmul repeat_tuple F.slot_int_index.lookup
      (call_meets F.slot_int_rmul (typeIs_int s k t) F.entry_int_rmul (F.args_int_rmul_2 _ _) (int_rmul_tuple k t p ys.toArray m dd sl)
        ⟨ho, rfl, ⟨_, ho, rfl⟩, call_meets F.slot_tuple_mul ⟨_, ho, rfl⟩ F.entry_tuple_mul (F.args_tuple_mul_2 _ _) (mulNone p ys.toArray m dd sl k t e0 e1 e2) ⟨ho, ?_⟩⟩)
    refine ⟨.ref s.heap.objs.size, _, I.laid (t' := s.toks) (o := .tup []) (fun b ob q => Heap.get?_push_of_some _ q) (Nat.le_refl _) ?_, rfl, q0 (by omega) _ (I.hok.fresh (Nat.le_refl _))⟩
    exact ⟨by rw [sizeLine_eq]; decide, _, .nil, IsTup.new _ _⟩
end
/-! ### from behind -/
theorem rev_places (n : Nat) : Builtin.Slice.slicePlaces ((n : Int) - 1) (-1) (-1) = n := by
  have h1 : ¬ ((-1 : Int) > 0) := by decide
  unfold Builtin.Slice.slicePlaces
  rw [if_neg h1]
  by_cases h : (n : Int) - 1 > -1
  · rw [if_pos h, show (-(-1 : Int)) = 1 from rfl, Int.ediv_one]
    omega
  · rw [if_neg h]
    omega
theorem rev_pick (ys : Array Value) : ((List.range ys.size).filterMap fun (m : Nat) => ys[(((ys.size : Int) - 1) + (m : Int) * -1).toNat]?).toArray = ys.toList.reverse.toArray := by
  have e : ((List.range ys.size).filterMap fun (m : Nat) => ys[(((ys.size : Int) - 1) + (m : Int) * -1).toNat]?) = ((List.range ys.size).map fun k => ys.size - 1 - k).filterMap fun i => ys[i]? := by
    rw [List.filterMap_map]
    have all : ∀ l : List Nat, (∀ m ∈ l, m < ys.size) → (l.filterMap fun (m : Nat) => ys[(((ys.size : Int) - 1) + (m : Int) * -1).toNat]?) = l.filterMap ((fun i => ys[i]?) ∘ fun k => ys.size - 1 - k) := fun l => by
      induction l with
      | nil => intro _; rfl
      | cons m l ih =>
        intro hl
        have hm := hl m (List.mem_cons_self ..)
        have e2 : (((ys.size : Int) - 1) + (m : Int) * -1).toNat = ys.size - 1 - m := by omega
        simp only [List.filterMap_cons, Function.comp_apply, e2]
        rw [ih fun k hk => hl k (List.mem_cons_of_mem _ hk)]
    exact all _ fun m hm => List.mem_range.mp hm
  rw [e, PySem.W.krv_range, List.filterMap_reverse, PySem.W.krv_all]
section
variable {P : Program} {w : World} {A : Around} {E : Value → Shared → Prop} {s : Shared}
theorem rev_applied {sl : Addr} {vs : Value} {n : Nat} {Q : Int × Int × Nat → Shared → Prop} (hs : s.heap.IsSliceOf sl .none .none vs) (ps : IsPart vs (some (-1))) (h : Q ((n : Int) - 1, -1, n) s) : wpAny (model P w) A (Builtin.Slice.sliceApplied (.ref sl) (pure (n : Int))) Q E s := by
  have ⟨ob, ho, _, hd⟩ := hs
  unfold Builtin.Slice.sliceApplied Builtin.Slice.sliceFields
  refine wpAny_bind (wpAny_bind (wpAny_field ho hd (x := .none) rfl (wpAny_bind (wpAny_field ho hd (x := .none) rfl (wpAny_bind (wpAny_field ho hd (x := vs) rfl (wpAny_pure ?_)))))))
  refine wpAny_bind (HT.slicePart_ ps ?_)
  show wpAny _ _ (if ((-1 : Int) == 0) = true then _ else _) _ _ s
  rw [if_neg (by decide)]
  refine wpAny_bind (HT.slicePart_ .none (wpAny_bind (HT.slicePart_ .none (wpAny_bind (wpAny_pure (wpAny_pure ?_))))))
  show Q ((n : Int) - 1, -1, Builtin.Slice.slicePlaces ((n : Int) - 1) (-1) (-1)) s
  rw [rev_places]
  exact h
theorem getItem_tup_rev {t sl : Addr} {ys : Array Value} {vs : Value} {Q : Value → Shared → Prop} (ht : IsTup s.heap t ys) (hs : s.heap.IsSliceOf sl .none .none vs) (ps : IsPart vs (some (-1)))
    (hz : ys.size ≤ sizeLine) (h : Q (.ref s.heap.objs.size) { s with heap := s.heap.push { cls := .type "tuple", data := .seq ys.toList.reverse.toArray } }) : wpAny (model P w) A (getItem (.ref t) (.ref sl)) Q E s := by
  have hsz : sizeOk (.seq ys.toList.reverse.toArray) := by
    show ys.toList.reverse.toArray.size ≤ sizeLine
    simpa using hz
  have hTs : s.TypeIs (.ref sl) "slice" := by
    obtain ⟨o, h1, h2, _⟩ := hs
    exact ⟨o, h1, h2⟩
  unfold getItem
  try with_reducible refine wpAny_holding ?_
  first | refine wpAny_bind (wpAny_pure ?_) | skip
  refine wpAny_bind (wpAny_sequenceKey ht.typeIs (by decide) (wpAny_bind (wpAny_callSpecial?_slot (name := Str.ofString "__getitem__") ht.typeIs PyProof.Rows.slot_tuple_getitem (wpAny_call_entry PyProof.Rows.slot_tuple_getitem ht.typeIs entry_tuple_getitem ?_ (args_tuple_getitem _ _)))))
  show wpAny _ _ (do let xs ← Builtin.Tuple.tupleItemsOf (.ref t); _) _ _ s
  refine wpAny_bind (tupleItemsOf_ ht (wpAny_bind (wpAny_typeOf hTs ?_)))
  rw [if_pos (by decide)]
  refine wpAny_bind (rev_applied hs ps ?_)
  have hno : ¬ ((((ys.size : Int) - 1) == 0 && (-1 : Int) == 1 && ys.size == ys.size) = true) := by simp
  show wpAny _ _ (if (((ys.size : Int) - 1) == 0 && (-1 : Int) == 1 && ys.size == ys.size) = true then _ else _) _ _ s
  rw [if_neg hno, rev_pick]
  have fin := wpAny_pure (M := model P w) (A := A) (E := E) h
  first
    | exact wpAny_bind (m := Builtin.Tuple.tupleExact _) (wpAny_newObj_type (wpAny_pure ⟨_, rfl, fin⟩) hsz)
    | exact wpAny_bind (m := Builtin.Tuple.tupleExact _) (wpAny_newObj_type (wpAny_bind (wpAny_pure (wpAny_pure ⟨_, rfl, fin⟩))) hsz)
    | exact wpAny_bind (wpAny_bind (m := Builtin.Tuple.tupleExact _) (wpAny_newObj_type (wpAny_pure (wpAny_pure ⟨_, rfl, fin⟩)) hsz))
    | exact wpAny_bind (wpAny_bind (m := Builtin.Tuple.tupleExact _) (wpAny_newObj_type (wpAny_pure ⟨_, rfl, fin⟩) hsz))
end
section
variable {X : Cx}
def tRevT (K : PySem.W.Frag) (te : TE) : TE := fun σ H Q => te σ H fun x H1 => ∃ q ys, x = .ref q ∧ SqT K H1 q ys ∧ ∀ p, H1 p = none → Q (.ref p) (upd H1 p (.tup ys.reverse))
theorem pe_revT {b : Expr} {tb : TE} {k : Nat} {q1 q2 q3 qos : Pos} (hb : PE X b tb) : PE X (.Subscript b (.Slice none none (some (.UnaryOp .USub (.Constant (.int 1) k q1) q2)) q3) qos) (tRevT X.K tb) := by
  refine ⟨fun pins s σ H Q I h => Subscript_ (thn (hb.run pins s σ H _ I h) ?_)⟩
  rintro v s1 ⟨x, H1, I1, r1, t, ys, rfl, hy, fin⟩
  cases r1
  have step : PO X (some (.UnaryOp .USub (.Constant (.int 1) k q1) q2)) (tPart (tUn (rU fun i => .int (-i)) (tC (.int 1)))) := po_some (pe_un un_neg pe_int)
  refine wpAny_Slice (thn (po_none.run pins s1 σ H1 (fun o H2 => o = none ∧ H2 = H1) I1 ⟨rfl, rfl⟩) ?_)
  rintro vl s2 ⟨_, H2, I2, pl, rfl, rfl⟩
  refine thn (po_none.run pins s2 σ H2 (fun o H3 => o = none ∧ H3 = H2) I2 ⟨rfl, rfl⟩) ?_
  rintro vu s3 ⟨_, H3, I3, pu, rfl, rfl⟩
  refine thn (step.run pins s3 σ H3 (fun o H4 => o = some (-1) ∧ H4 = H3) I3 ⟨1, rfl, -1, rfl, rfl, rfl⟩) ?_
  rintro vs s4 ⟨_, H4, I4, ps, rfl, rfl⟩
  cases pl
  cases pu
  have J : Inv X pins σ H4 { s4 with heap := s4.heap.push { cls := .type "slice", data := .fields #[Value.none, Value.none, vs] } } := I4.kept (t' := s4.toks) fun b ob q => Heap.get?_push_of_some _ q
  obtain ⟨its, r, ht, hz⟩ := J.tuple hy
  have hlen := r.length
  show wpAny (model X.prog X.w) X.A (subscriptTail b (.Slice none none (some (.UnaryOp .USub (.Constant (.int 1) k q1) q2)) q3) (.ref t) (.ref s4.heap.objs.size)) (EP X pins σ Q) X.xe { s4 with heap := s4.heap.push { cls := .type "slice", data := .fields #[Value.none, Value.none, vs] } }
  refine tail_any (ops := [.ref t, .ref s4.heap.objs.size]) ht.typeIs (PyProof.Rows.slot_tuple_getitem.lookup) ?_ (by with_unfolding_all rfl)
  refine getItem_tup_rev ht (Heap.IsSliceOf.new _ Value.none Value.none vs) ps (by rw [List.size_toArray, ← hlen]; exact hz) ?_
  refine ⟨.ref _, _, J.laid (t' := s4.toks) (o := .tup ys.reverse) (fun b ob q => Heap.get?_push_of_some _ q) (Nat.le_refl _) ?_, rfl, fin _ (J.hok.fresh (Nat.le_refl _))⟩
  exact ⟨by rw [List.length_reverse]; exact hz, _, r.reverse, IsTup.new _ _⟩
end
end Ev
/-! Ev2: what the operations do with the values that stand for data. -/
namespace Ev
open PySem L2
/-! ### what an end is worth -/
/-- an exception's own dict -/
def XRep (G : Gb) (w : Wd) (d : Option Addr) (fs : List (Str × D)) : Prop := (fs = [] ∧ d = none) ∨ ∃ dx vs, d = some dx ∧ w.H dx = some (.xd vs) ∧ RepF G w fs vs
def Post {α : Type} (G : Gb) (W : WX) (σ : L2.St) (w : Wd) (r : Res α) (Qr : α → Wd → Prop) : Prop :=
  match r with
  | .ok a M => ∀ w', Ext w w' → WOk G w' → w'.M = M → Qr a w'
  | .ex c fs M => ∀ w' d, Ext w w' → WOk G w' → w'.M = M → XRep G w' d fs → W (.ref (G.cls c)) d σ w'.H
  | .no => False
section
variable {G : Gb} {W : WX} {σ : L2.St} {w w' : Wd} {α β : Type} {r : Res α} {f : α → Mem → Res β}
theorem Post.later {Qr : α → Wd → Prop} (x : Ext w w') (h : Post G W σ w r Qr) : Post G W σ w' r Qr := by
  cases r with
  | ok a M => exact fun w2 x2 g e => h w2 (x.trans x2) g e
  | ex c fs M => exact fun w2 d x2 g e q => h w2 d (x.trans x2) g e q
  | no => exact h
theorem Post.mono {Qr Qr' : α → Wd → Prop} (h : Post G W σ w r Qr) (k : ∀ a w', Ext w w' → WOk G w' → Qr a w' → Qr' a w') : Post G W σ w r Qr' := by
  cases r with
  | ok a M => exact fun w2 x2 g e => k a w2 x2 g (h w2 x2 g e)
  | ex c fs M => exact h
  | no => exact h
theorem Post.monoE {Qr Qr' : α → Wd → Prop} (h : Post G W σ w r Qr) (k : ∀ a w', r = .ok a w'.M → Ext w w' → WOk G w' → Qr a w' → Qr' a w') : Post G W σ w r Qr' := by
  cases r with
  | ok a M => exact fun w2 x2 g e => k a w2 (by rw [e]) x2 g (h w2 x2 g e)
  | ex c fs M => exact h
  | no => exact h
theorem Post.bind {Qr : β → Wd → Prop} (h : Post G W σ w (r.bind f) Qr) : Post G W σ w r fun a w' => Post G W σ w' (f a w'.M) Qr := by
  cases r with
  | ok a M =>
    intro w2 x2 g e
    subst e
    exact Post.later x2 h
  | ex c fs M => exact h
  | no => exact h
theorem Post.of {o : Option α} {M : Mem} {Qr : α → Wd → Prop} (h : Post G W σ w (Res.of o M) Qr) : ∃ a, o = some a ∧ Post G W σ w (.ok a M) Qr := by
  cases o with
  | some a => exact ⟨a, rfl, h⟩
  | none => exact h.elim
theorem Post.ofM {o : Option (α × Mem)} {Qr : α → Wd → Prop} (h : Post G W σ w (Res.ofM o) Qr) : ∃ a M, o = some (a, M) ∧ Post G W σ w (.ok a M) Qr := by
  cases o with
  | some a => exact ⟨a.1, a.2, rfl, h⟩
  | none => exact h.elim
end
/-! ### what a value is told by -/
section
variable {G : Gb} {w : Wd}
theorem Sat.sqT {a : Addr} {vs : List V} (h : Sat w a (.tup vs)) : SqT G.K w.H a vs := .inl (.inl h.1)
theorem kseqT {a : Addr} {vs : List V} (h : KSeq G.K "tuple" a vs) : SqT G.K w.H a vs := by
  obtain ⟨o, its, n, h1, h2, h3, h4, h5, h6⟩ := h
  exact .inr ⟨o, its, n, h1, h2, h4, h5, h6⟩
theorem kseqL {a : Addr} {vs : List V} (h : KSeq G.K "list" a vs) : SqL G.K w.H a vs := by
  obtain ⟨o, its, n, h1, h2, h3, h4, h5, h6⟩ := h
  exact .inr ⟨o, its, n, h1, h2, h3, h4, h5, h6⟩
theorem Rep.tup {xs : List D} {v : V} (h : Rep G w (.tup xs) v) : ∃ a vs, v = .ref a ∧ SqT G.K w.H a vs ∧ RepL G w xs vs := by
  simp only [Rep] at h
  obtain ⟨a, vs, e, h1 | h1, h2⟩ := h
  · exact ⟨a, vs, e, h1.sqT, h2⟩
  · exact ⟨a, vs, e, kseqT h1, h2⟩
theorem Rep.lstC (g : WOk G w) {d : D} {xs : List D} {v : V} (h : Rep G w d v) (e : seqC w.M d = some xs) : ∃ a vs, v = .ref a ∧ w.H a = some (.lst vs) ∧ RepL G w xs vs := by
  cases d with
  | lst ys =>
    simp only [seqC, seqL, Option.some.injEq] at e
    subst e
    simp only [Rep] at h
    obtain ⟨a, vs, e1, h1, h2⟩ := h
    exact ⟨a, vs, e1, h1.1, h2⟩
  | cell i =>
    simp only [Rep] at h
    obtain ⟨a, e1, h1⟩ := h
    simp only [seqC, seqL] at e
    split at e
    · rename_i zs hz
      obtain ⟨vs, h2, h3⟩ := g.cell i a _ h1 hz
      cases e
      exact ⟨a, vs, e1, h2, h3⟩
    · cases e
  | _ => simp [seqC, seqL] at e
theorem Rep.lst (g : WOk G w) {d : D} {xs : List D} {v : V} (h : Rep G w d v) (e : seqL w.M d = some xs) : ∃ a vs, v = .ref a ∧ SqL G.K w.H a vs ∧ RepL G w xs vs := by
  by_cases hs : ∃ ys, d = .scr ys
  · obtain ⟨ys, rfl⟩ := hs
    simp only [seqL, Option.some.injEq] at e
    subst e
    simp only [Rep] at h
    obtain ⟨a, vs, e1, ⟨o, h1⟩ | h1, h2⟩ := h
    · exact ⟨a, vs, e1, .inl (.inr ⟨o, h1.1⟩), h2⟩
    · exact ⟨a, vs, e1, kseqL h1, h2⟩
  · have e' : seqC w.M d = some xs := by
      cases d <;> first | exact e | exact absurd ⟨_, rfl⟩ hs
    obtain ⟨a, vs, e1, h1, h2⟩ := Rep.lstC g h e'
    exact ⟨a, vs, e1, .inl (.inl h1), h2⟩
theorem Rep.now (g : WOk G w) {d : D} {v : V} (h : Rep G w d v) : ∃ q, Ev.now w.M d = q ∧ (q = d ∨ ∃ xs, q = .lst xs ∧ seqL w.M d = some xs) := by
  refine ⟨_, rfl, ?_⟩
  unfold Ev.now
  cases e : seqL w.M d with
  | none => exact .inl rfl
  | some xs => exact .inr ⟨xs, rfl, rfl⟩
/-- new objects -/
theorem rep_tup (g : WOk G w) {p : Addr} {ds : List D} {vs : List V} (hp : w.H p = none) (h : RepL G w ds vs) : Rep G { w with H := upd w.H p (.tup vs) } (.tup ds) (.ref p) := by
  simp only [Rep]
  exact ⟨p, vs, rfl, .inl (sat_new g hp), RepL.ext (ext_new g hp) _ _ h⟩
theorem rep_lst (g : WOk G w) {p : Addr} {ds : List D} {vs : List V} (hp : w.H p = none) (h : RepL G w ds vs) : Rep G { w with H := upd w.H p (.lst vs) } (.lst ds) (.ref p) := by
  simp only [Rep]
  exact ⟨p, vs, rfl, sat_new g hp, RepL.ext (ext_new g hp) _ _ h⟩
mutual
theorem Rep.dp : ∀ (d : D) (v : V) (p : PyData), Rep G w d v → toPd d = some p → Dp G.K w.H v p
  | .non, v, p, h, e => by simp only [Rep] at h; simp only [toPd, Option.some.injEq] at e; subst h e; exact .non
  | .bl b, v, p, h, e => by simp only [Rep] at h; simp only [toPd, Option.some.injEq] at e; subst h e; exact .bl b
  | .int i, v, p, h, e => by simp only [Rep] at h; simp only [toPd, Option.some.injEq] at e; subst h e; exact .int i
  | .str s, v, p, h, e => by simp only [Rep] at h; simp only [toPd, Option.some.injEq] at e; subst h e; exact .str s
  | .tup xs, v, p, h, e => by
    obtain ⟨a, vs, rfl, h1, h2⟩ := Rep.tup h
    simp only [toPd, Option.map_eq_some_iff] at e
    obtain ⟨ps, e1, rfl⟩ := e
    exact .tup h1 (RepL.dp xs vs ps h2 e1)
  | .lst xs, v, p, h, e => by
    simp only [Rep] at h
    obtain ⟨a, vs, rfl, h1, h2⟩ := h
    simp only [toPd, Option.map_eq_some_iff] at e
    obtain ⟨ps, e1, rfl⟩ := e
    exact .lst (.inl (.inl h1.1)) (RepL.dp xs vs ps h2 e1)
  | .scr xs, v, p, h, e => by
    simp only [Rep] at h
    simp only [toPd, Option.map_eq_some_iff] at e
    obtain ⟨ps, e1, rfl⟩ := e
    obtain ⟨a, vs, rfl, ⟨o, h1⟩ | h1, h2⟩ := h
    · exact .lst (.inl (.inr ⟨o, h1.1⟩)) (RepL.dp xs vs ps h2 e1)
    · exact .lst (kseqL h1) (RepL.dp xs vs ps h2 e1)
  | .ins _ _, v, p, h, e => by simp [toPd] at e
  | .cell _, v, p, h, e => by simp [toPd] at e
theorem RepL.dp : ∀ (ds : List D) (vs : List V) (ps : List PyData), RepL G w ds vs → toPds ds = some ps → DpAll G.K w.H vs ps
  | [], vs, ps, h, e => by simp only [RepL] at h; simp only [toPds, Option.some.injEq] at e; subst h e; exact .nil
  | d :: ds, vs, ps, h, e => by
    simp only [RepL] at h
    obtain ⟨v, r, rfl, h1, h2⟩ := h
    simp only [toPds] at e
    split at e
    · rename_i p qs e1 e2
      cases e
      exact .cons (Rep.dp d v p h1 e1) (RepL.dp ds r qs h2 e2)
    · cases e
end
theorem Rep.dpNow (g : WOk G w) {d : D} {v : V} {p : PyData} (h : Rep G w d v) (e : toPd (Ev.now w.M d) = some p) : Dp G.K w.H v p := by
  obtain ⟨q, e1, e2 | ⟨xs, e2, e3⟩⟩ := Rep.now g h
  · rw [e1, e2] at e
    exact Rep.dp d v p h e
  · rw [e1, e2] at e
    obtain ⟨a, vs, rfl, h1, h2⟩ := Rep.lst g h e3
    simp only [toPd, Option.map_eq_some_iff] at e
    obtain ⟨ps, e4, rfl⟩ := e
    exact .lst h1 (RepL.dp xs vs ps h2 e4)
theorem RepL.nil_iff {xs : List D} {vs : List V} (h : RepL G w xs vs) : xs = [] ↔ vs = [] := by
  cases xs with
  | nil => simp only [RepL] at h; simp [h]
  | cons d ds =>
    simp only [RepL] at h
    obtain ⟨v, r, rfl, _⟩ := h
    simp
end
/-! ### readings by data -/
def Gives (G : Gb) (w : Wd) (z : D) (Q : VK) : Prop := ∀ w' v, Ext w w' → WOk G w' → w'.M = w.M → Rep G w' z v → Q v w'.H
section
variable {G : Gb} {w : Wd} {Q : VK}
theorem Gives.same {z : D} {v : V} (h : Gives G w z Q) (g : WOk G w) (r : Rep G w z v) : Q v w.H := h w v (Ext.refl w) g rfl r
theorem Gives.tup {ds : List D} {vs : List V} (h : Gives G w (.tup ds) Q) (g : WOk G w) (r : RepL G w ds vs) : ∀ p, w.H p = none → Q (.ref p) (upd w.H p (.tup vs)) :=
  fun p hp => h { w with H := upd w.H p (.tup vs) } (.ref p) (ext_new g hp) (wok_new g hp) rfl (rep_tup g hp r)
theorem Gives.lst {ds : List D} {vs : List V} (h : Gives G w (.lst ds) Q) (g : WOk G w) (r : RepL G w ds vs) : ∀ p, w.H p = none → Q (.ref p) (upd w.H p (.lst vs)) :=
  fun p hp => h { w with H := upd w.H p (.lst vs) } (.ref p) (ext_new g hp) (wok_new g hp) rfl (rep_lst g hp r)
end
def rOp (G : Gb) (f : D → D → Mem → Option D) : R2 := fun x y H Q => ∃ w d e z, w.H = H ∧ WOk G w ∧ Rep G w d x ∧ Rep G w e y ∧ f d e w.M = some z ∧ Gives G w z Q
def rCall (G : Gb) (f : List D → Mem → Option D) : List V → Hp → VK → Prop := fun xs H Q => ∃ w ds z, w.H = H ∧ WOk G w ∧ RepL G w ds xs ∧ f ds w.M = some z ∧ Gives G w z Q
def toOp : BO → Operator
  | .add => .Add | .sub => .Sub | .mul => .Mult | .fdiv => .FloorDiv | .mod => .Mod | .pow => .Pow
def toCmp : CO → CmpOp
  | .eq => .Eq | .ne => .NotEq | .lt => .Lt | .le => .LtE | .gt => .Gt | .ge => .GtE | .is => .Is | .isn => .IsNot | .inn => .In | .nin => .NotIn | .din => .In | .ndi => .NotIn
section
variable {X : Cx} {G : Gb}
theorem mulOk_ok {i j : Int} (h : mulOk i j = true) : CMul i j ∨ CMulW i j := by
  unfold mulOk at h
  rcases of_decide_eq_true h with z | z | z
  · exact .inl (.inl z)
  · exact .inl (.inr z)
  · exact .inr z
theorem rep_int {w : Wd} {i : Int} : Rep G w (.int i) (.int i) := by simp only [Rep]
theorem rep_bl {w : Wd} {b : Bool} : Rep G w (.bl b) (.bl b) := by simp only [Rep]
theorem rep_str {w : Wd} {s : Str} : Rep G w (.str s) (.str s) := by simp only [Rep]
theorem rep_non {w : Wd} : Rep G w .non .non := by simp only [Rep]
theorem op_binI (o : BO) {i j k : Int} (h : binI o i j = some k) {pins : List (Addr × Obj)} {s : Shared} {σ : L2.St} {H : Hp} {v u : Value} {Q : VK} (I : Inv X pins σ H s) (rx : RelV (.int i) v) (ry : RelV (.int j) u) (q : Q (.int k) H) :
    wpAny (model X.prog X.w) X.A (binaryOp (toOp o) v u) (EP X pins σ Q) X.xe s := by
  cases o with
  | add =>
    simp only [binI, Option.some.injEq] at h; subst h
    exact op_add pins s σ H _ _ v u Q I rx ry ⟨i, j, rfl, rfl, q⟩
  | sub =>
    simp only [binI, Option.some.injEq] at h; subst h
    exact op_sub pins s σ H _ _ v u Q I rx ry ⟨i, j, rfl, rfl, q⟩
  | mul =>
    simp only [binI] at h
    split at h
    · rename_i hm
      cases h
      rcases mulOk_ok hm with z | z
      · exact op_mul pins s σ H _ _ v u Q I rx ry ⟨i, j, rfl, rfl, z, q⟩
      · exact op_mulW pins s σ H _ _ v u Q I rx ry ⟨i, j, rfl, rfl, z, q⟩
    · cases h
  | fdiv =>
    simp only [binI] at h
    split at h
    · rename_i hm
      cases h
      exact op_fdivW pins s σ H _ _ v u Q I rx ry ⟨i, j, rfl, rfl, hm, q⟩
    · cases h
  | mod =>
    simp only [binI] at h
    split at h
    · rename_i hm
      cases h
      exact op_mod pins s σ H _ _ v u Q I rx ry ⟨i, j, rfl, rfl, hm, q⟩
    · cases h
  | pow =>
    simp only [binI] at h
    split at h
    · rename_i hm
      cases h
      exact op_pow pins s σ H _ _ v u Q I rx ry ⟨i, j, rfl, rfl, hm, q⟩
    · cases h
theorem RepL.repl {w : Wd} {ds : List D} {vs : List V} (h : RepL G w ds vs) : ∀ n : Nat, RepL G w (List.replicate n ds).flatten (List.replicate n vs).flatten
  | 0 => RepL.nil
  | n + 1 => by
    rw [List.replicate_succ, List.replicate_succ, List.flatten_cons, List.flatten_cons]
    exact h.append (RepL.repl h n)
theorem op_bin (hK : X.K = G.K) (o : BO) : OpR X (binaryOp (toOp o)) (rOp G (evBin o)) := by
  intro pins s σ H x y v u Q I rx ry h
  obtain ⟨w, d, e, z, rfl, g, r1, r2, hz, q⟩ := h
  have other : ∀ {d e : D}, (if o = .add then match seqC w.M d, seqC w.M e with
      | some xs, some ys => if xs.length + ys.length ≤ sizeLine then some (D.lst (xs ++ ys)) else none
      | _, _ => none else none) = some z → Rep G w d x → Rep G w e y → wpAny (model X.prog X.w) X.A (binaryOp (toOp o) v u) (EP X pins σ Q) X.xe s := by
    intro d e hq r1 r2
    split at hq
    · rename_i ho
      subst ho
      split at hq
      · rename_i xs ys e1 e2
        split at hq
        · rename_i hl
          cases hq
          obtain ⟨a, vs, rfl, h1, h2⟩ := Rep.lstC g r1 e1
          obtain ⟨b, us, rfl, h3, h4⟩ := Rep.lstC g r2 e2
          exact op_cat pins s σ w.H _ _ v u Q I rx ry ⟨a, b, vs, us, rfl, rfl, h1, h3, by rw [← h2.length, ← h4.length]; exact hl, q.lst g (h2.append h4)⟩
        · cases hq
      · cases hq
    · cases hq
  unfold evBin at hz
  split at hz
  · rename_i i j
    simp only [Rep] at r1 r2
    subst r1 r2
    obtain ⟨k, hk, rfl⟩ := Option.map_eq_some_iff.mp hz
    exact op_binI o hk I rx ry (q.same g rep_int)
  · rename_i a b
    simp only [Rep] at r1 r2
    subst r1 r2
    split at hz
    · rename_i hc
      cases hz
      obtain ⟨rfl, hl⟩ := hc
      exact op_add_str pins s σ w.H _ _ v u Q I rx ry ⟨a, b, rfl, rfl, hl, q.same g rep_str⟩
    · cases hz
  · rename_i xs ys
    split at hz
    · rename_i hc
      cases hz
      obtain ⟨rfl, hl⟩ := hc
      have q1 := r1
      have q2 := r2
      obtain ⟨a, vs, rfl, h1, h2⟩ := Rep.tup r1
      obtain ⟨b, us, rfl, h3, h4⟩ := Rep.tup r2
      rw [← hK] at h1 h3
      refine op_catA pins s σ w.H _ _ v u Q I rx ry ⟨a, b, vs, us, rfl, rfl, h1, h3, by rw [← h2.length, ← h4.length]; exact hl, fun z => ?_, fun _ z => ?_, fun _ _ => q.tup g (h2.append h4)⟩
      · have e : xs = [] := h2.nil_iff.mpr z
        subst e
        exact q.same g q2
      · have e : ys = [] := h4.nil_iff.mpr z
        subst e
        rw [List.append_nil] at q
        exact q.same g q1
    · cases hz
  · rename_i xs k
    split at hz
    · rename_i hc
      cases hz
      obtain ⟨rfl, hx, k1, k2, hl⟩ := hc
      have q1 := r1
      obtain ⟨a, vs, rfl, h1, h2⟩ := Rep.tup r1
      simp only [Rep] at r2
      subst r2
      rw [← hK] at h1
      by_cases k3 : 2 ≤ k
      · exact op_repT pins s σ w.H _ _ v u Q I rx ry ⟨a, k, vs, rfl, rfl, h1, fun z => hx (h2.nil_iff.mpr z), k3, k2, by rw [← h2.length]; exact hl, q.tup g (h2.repl k.toNat)⟩
      · refine op_rep01 pins s σ w.H _ _ v u Q I rx ry ⟨a, k, vs, rfl, rfl, h1, fun z => hx (h2.nil_iff.mpr z), k1, by omega, fun z => ?_, fun z => ?_⟩
        · subst z
          have e : (List.replicate (Int.toNat 1) xs).flatten = xs := by simp
          rw [e] at q
          exact q.same g q1
        · have e : (List.replicate k.toNat xs).flatten = [] := by rw [show k.toNat = 0 by omega]; rfl
          rw [e] at q
          exact q.tup g RepL.nil
    · cases hz
  · rename_i xs k
    split at hz
    · rename_i hc
      cases hz
      obtain ⟨rfl, k1, k2, hl⟩ := hc
      simp only [Rep] at r1 r2
      obtain ⟨a, vs, rfl, h1, h2⟩ := r1
      subst r2
      exact op_rep pins s σ w.H _ _ v u Q I rx ry ⟨a, k, vs, rfl, rfl, h1.1, k1, k2, by rw [← h2.length]; exact hl, q.lst g (h2.repl k.toNat)⟩
    · cases hz
  · exact other hz r1 r2
end
end Ev
/-! EvP: dicts whose keys are tuples: how they stand. -/
namespace Ev
open PySem L2
section
variable {G : Gb} {w w' : Wd}
mutual
theorem rep_nk : ∀ (d : D) (k : NestedKey) (v : V), nkD d = some k → Rep G w d v → RepKyG (KySat G w) k v
  | .non, k, v, h, r => by simp only [nkD, Option.some.injEq] at h; subst h; simp only [Rep] at r; simp only [RepKyG]; exact r
  | .int i, k, v, h, r => by simp only [nkD, Option.some.injEq] at h; subst h; simp only [Rep] at r; simp only [RepKyG]; exact r
  | .str s, k, v, h, r => by simp only [nkD, Option.some.injEq] at h; subst h; simp only [Rep] at r; simp only [RepKyG]; exact r
  | .tup xs, k, v, h, r => by
    simp only [nkD] at h
    obtain ⟨ks, hk, rfl⟩ := Option.map_eq_some_iff.mp h
    simp only [Rep] at r
    obtain ⟨a, vs, rfl, h1, h2⟩ := r
    simp only [RepKyG]
    exact ⟨a, vs, rfl, h1.imp id (fun z => ⟨vs, rfl, z⟩), rep_nks xs ks vs hk h2⟩
  | .bl b, k, v, h, r => by simp [nkD] at h
  | .lst _, k, v, h, r => by simp [nkD] at h
  | .scr _, k, v, h, r => by simp [nkD] at h
  | .ins _ _, k, v, h, r => by simp [nkD] at h
  | .dct _, k, v, h, r => by simp [nkD] at h
  | .dcn _, k, v, h, r => by simp [nkD] at h
  | .cell _, k, v, h, r => by simp [nkD] at h
theorem rep_nks : ∀ (ds : List D) (ks : List NestedKey) (vs : List V), nkDs ds = some ks → RepL G w ds vs → RepKysG (KySat G w) ks vs
  | [], ks, vs, h, r => by simp only [nkDs, Option.some.injEq] at h; subst h; simp only [RepL] at r; simp only [RepKyG.RepKysG]; exact r
  | d :: ds, ks, vs, h, r => by
    simp only [nkDs] at h
    split at h
    · rename_i k ks' h1 h2
      cases h
      simp only [RepL] at r
      obtain ⟨v, q, rfl, r1, r2⟩ := r
      simp only [RepKyG.RepKysG]
      exact ⟨v, q, rfl, rep_nk d k v h1 r1, rep_nks ds ks' q h2 r2⟩
    · cases h
end
mutual
theorem rep_kD : ∀ (k : NestedKey) (v : V), RepKyG (KySat G w) k v → Rep G w (kD k) v
  | .none, v, h => by simp only [RepKyG] at h; simp only [kD, Rep]; exact h
  | .num i, v, h => by simp only [RepKyG] at h; simp only [kD, Rep]; exact h
  | .text s, v, h => by simp only [RepKyG] at h; simp only [kD, Rep]; exact h
  | .tup ks, v, h => by
    simp only [RepKyG] at h
    obtain ⟨a, vs, rfl, h1, h2⟩ := h
    simp only [kD, Rep]
    refine ⟨a, vs, rfl, ?_, rep_kDs ks vs h2⟩
    rcases h1 with z | ⟨vs', e, z⟩
    · exact .inl z
    · cases e; exact .inr z
theorem rep_kDs : ∀ (ks : List NestedKey) (vs : List V), RepKysG (KySat G w) ks vs → RepL G w (kDs ks) vs
  | [], vs, h => by simp only [RepKyG.RepKysG] at h; simp only [kDs, RepL]; exact h
  | k :: ks, vs, h => by
    simp only [RepKyG.RepKysG] at h
    obtain ⟨v, r, rfl, h1, h2⟩ := h
    simp only [kDs, RepL]
    exact ⟨v, r, rfl, rep_kD k v h1, rep_kDs ks r h2⟩
end
theorem keyT_rep {d : D} {k : NestedKey} {v : V} (h : keyT d = some k) (r : Rep G w d v) : ∃ b, v = .ref b ∧ RepKyG (KySat G w) k (.ref b) ∧ k.depth ≤ 8 := by
  unfold keyT at h
  split at h
  · rename_i xs
    split at h
    · rename_i ks hk
      split at h
      · rename_i hd
        cases h
        have q := rep_nk (.tup xs) (.tup ks) v (by simp only [nkD, hk, Option.map_some]) r
        have q0 := q
        simp only [RepKyG] at q0
        obtain ⟨a, vs, rfl, _⟩ := q0
        exact ⟨a, rfl, q, hd⟩
      · cases h
    · cases h
  · cases h
theorem ky_H {k : NestedKey} {v : V} (h : RepKyG (KySat G w) k v) : KyH G.K w.H k v := RepKyG.imp (fun a us q => q.imp (fun z => z.1) id) k v h
theorem RepN.nks : ∀ {kvs : List (NestedKey × D)} {xs : List NE}, RepN G w kvs xs → NKs G.K w.H xs
  | [], _, h => by simp only [RepN] at h; subst h; exact fun x hx => by cases hx
  | d :: ds, _, h => by
    simp only [RepN] at h
    obtain ⟨ka, u, v, r, rfl, h1, h2, _, _, h5⟩ := h
    intro x hx
    rcases List.mem_cons.mp hx with rfl | hx
    · exact ⟨ky_H h1, h2⟩
    · exact RepN.nks h5 x hx
theorem RepN.len : ∀ {kvs : List (NestedKey × D)} {xs : List NE}, RepN G w kvs xs → kvs.length = xs.length
  | [], _, h => by simp only [RepN] at h; subst h; rfl
  | d :: ds, _, h => by
    simp only [RepN] at h
    obtain ⟨ka, u, v, r, rfl, _, _, _, _, h5⟩ := h
    simp [RepN.len h5]
theorem valN_cons (x : NestedKey × D) (kvs : List (NestedKey × D)) (k : NestedKey) : valN (x :: kvs) k = if x.1 = k then some x.2 else valN kvs k := by
  unfold valN
  by_cases e : x.1 = k
  · simp [e]
  · simp [e]
theorem atKey_cons (x : NE) (xs : List NE) (k : NestedKey) : atKey (x :: xs) k = if x.1 = k then some x.2 else atKey xs k := by
  unfold atKey
  by_cases e : x.1 = k
  · simp [e]
  · simp [e]
theorem RepN.val : ∀ {kvs : List (NestedKey × D)} {xs : List NE}, RepN G w kvs xs → ∀ k, (∀ d, valN kvs k = some d → ∃ ua v, atKey xs k = some ua ∧ RelV v ua.2 ∧ Rep G w d v) ∧ (valN kvs k = none → atKey xs k = none)
  | [], _, h, k => by
    simp only [RepN] at h; subst h
    exact ⟨fun d e => by simp [valN] at e, fun _ => rfl⟩
  | x :: ds, _, h, k => by
    simp only [RepN] at h
    obtain ⟨ka, u, v, r, rfl, h1, h2, h3, h4, h5⟩ := h
    rw [valN_cons, atKey_cons]
    by_cases e : x.1 = k
    · simp only [e, if_true]
      exact ⟨fun d hd => by cases hd; exact ⟨(ka, u), v, rfl, h3, h4⟩, fun z => by cases z⟩
    · simp only [e, if_false]
      exact RepN.val h5 k
theorem RepN.app : ∀ {kvs es : List (NestedKey × D)} {xs ys : List NE}, RepN G w kvs xs → RepN G w es ys → RepN G w (kvs ++ es) (xs ++ ys)
  | [], _, _, _, h, t => by simp only [RepN] at h; subst h; exact t
  | d :: ds, _, _, _, h, t => by
    simp only [RepN] at h
    obtain ⟨ka, u, v, r, rfl, h1, h2, h3, h4, h5⟩ := h
    simp only [List.cons_append, RepN]
    exact ⟨ka, u, v, _, rfl, h1, h2, h3, h4, RepN.app h5 t⟩
theorem RepN.map (k : NestedKey) {d : D} {v : V} {q : Value} (rq : RelV v q) (r : Rep G w d v) : ∀ {kvs : List (NestedKey × D)} {xs : List NE}, RepN G w kvs xs → RepN G w (kvs.map fun kv => if kv.1 = k then (kv.1, d) else kv) (xs.map (putAt k q))
  | [], _, h => by simp only [RepN] at h; subst h; simp only [List.map_nil, RepN]
  | x :: kvs, _, h => by
    simp only [RepN] at h
    obtain ⟨ka, u, v', rs, rfl, h1, h2, h3, h4, h5⟩ := h
    have ih := RepN.map k rq r h5
    simp only [List.map_cons, RepN, putAt]
    by_cases e : x.1 = k
    · rw [if_pos e, if_pos e]
      exact ⟨ka, q, v, _, rfl, h1, h2, rq, r, ih⟩
    · rw [if_neg e, if_neg e]
      exact ⟨ka, u, v', _, rfl, h1, h2, h3, h4, ih⟩
theorem RepN.put {k : NestedKey} {d : D} {v : V} {q : Value} {b : Addr} (hk : RepKyG (KySat G w) k (.ref b)) (hd : k.depth ≤ 8) (rq : RelV v q) (r : Rep G w d v) {kvs : List (NestedKey × D)} {xs : List NE} (h : RepN G w kvs xs) : RepN G w (putKN kvs k d) (storedH xs k b q) := by
  have e : (atKey xs k).isSome = (valN kvs k).isSome := by
    cases hv : valN kvs k with
    | none => rw [(h.val k).2 hv]; rfl
    | some d' =>
      obtain ⟨ua, _, e1, _⟩ := (h.val k).1 d' hv
      rw [e1]; rfl
  unfold putKN storedH
  rw [e]
  split
  · exact RepN.map k rq r h
  · exact RepN.app h (by simp only [RepN]; exact ⟨b, q, v, [], rfl, hk, hd, rq, r, rfl⟩)
/-- such a dict, whether it may change or not -/
theorem dcn_at (g : WOk G w) {d : D} {v : V} {kvs : List (NestedKey × D)} (r : Rep G w d v) (h : dcnOf w.M d = some kvs) : ∃ a xs, v = .ref a ∧ w.H a = some (dnO G.prog G.wd a xs) ∧ RepN G w kvs xs := by
  cases d with
  | dcn ks =>
    simp only [dcnOf, Option.some.injEq] at h
    subst h
    simp only [Rep] at r
    obtain ⟨a, xs, rfl, h1, h2⟩ := r
    exact ⟨a, xs, rfl, h1.1, h2⟩
  | cell i =>
    simp only [dcnOf] at h
    split at h
    · rename_i ks hm
      cases h
      simp only [Rep] at r
      obtain ⟨a, rfl, ha⟩ := r
      obtain ⟨xs, h1, h2⟩ := g.cell i a _ ha hm
      exact ⟨a, xs, rfl, h1, h2⟩
    · cases h
  | _ => simp [dcnOf] at h
end
end Ev
/-! Ev3: comparisons, places, cuts, built-in calls and methods over data. -/
namespace Ev
open PySem L2
section
variable {X : Cx} {G : Gb}
theorem rep_same {w : Wd} {d : D} {v : V} (h : Rep G w d v) : (d = .non ↔ v = .non) := by
  cases d with
  | non => simp only [Rep] at h; simp [h]
  | bl _ => simp only [Rep] at h; simp [h]
  | int _ => simp only [Rep] at h; simp [h]
  | str _ => simp only [Rep] at h; simp [h]
  | tup _ => simp only [Rep] at h; obtain ⟨a, vs, rfl, _⟩ := h; simp
  | lst _ => simp only [Rep] at h; obtain ⟨a, vs, rfl, _⟩ := h; simp
  | scr _ => simp only [Rep] at h; obtain ⟨a, vs, rfl, _⟩ := h; simp
  | ins _ _ => simp only [Rep] at h; obtain ⟨_, a, vs, _, rfl, _⟩ := h; simp
  | dct _ => simp only [Rep] at h; obtain ⟨a, vs, rfl, _⟩ := h; simp
  | dcn _ => simp only [Rep] at h; obtain ⟨a, vs, rfl, _⟩ := h; simp
  | cell _ => simp only [Rep] at h; obtain ⟨a, rfl, _⟩ := h; simp
theorem is_notbool {M : Model} {A : Around} {E : Value → Shared → Prop} {s : Shared} {Q : Value → Shared → Prop} {v : Value} {b : Bool} (hv : ∀ c, v ≠ .bool c) (hb : ∀ i, v ≠ .builtin i) (h : Q (.bool false) s) : wpAny M A (compareOp .Is v (.bool b)) Q E s := by
  cases v <;> first
    | exact absurd rfl (hv _)
    | exact absurd rfl (hb _)
    | exact wpAny_pure h
theorem isnot_notbool {M : Model} {A : Around} {E : Value → Shared → Prop} {s : Shared} {Q : Value → Shared → Prop} {v : Value} {b : Bool} (hv : ∀ c, v ≠ .bool c) (hb : ∀ i, v ≠ .builtin i) (h : Q (.bool true) s) : wpAny M A (compareOp .IsNot v (.bool b)) Q E s := by
  cases v <;> first
    | exact absurd rfl (hv _)
    | exact absurd rfl (hb _)
    | exact wpAny_pure h
theorem relV_notbool {w : Wd} {d : D} {x : V} {v : Value} (h : Rep G w d x) (r : RelV x v) (nb : ∀ b, d ≠ .bl b) : ∀ c, v ≠ .bool c := by
  intro c e
  subst e
  cases x with
  | bl b =>
    cases d with
    | bl b' => exact nb _ rfl
    | tup _ => simp only [Rep] at h; obtain ⟨a, vs, e, _⟩ := h; cases e
    | lst _ => simp only [Rep] at h; obtain ⟨a, vs, e, _⟩ := h; cases e
    | scr _ => simp only [Rep] at h; obtain ⟨a, vs, e, _⟩ := h; cases e
    | ins _ _ => simp only [Rep] at h; obtain ⟨_, a, vs, _, e, _⟩ := h; cases e
    | dct _ => simp only [Rep] at h; obtain ⟨a, vs, e, _⟩ := h; cases e
    | dcn _ => simp only [Rep] at h; obtain ⟨a, vs, e, _⟩ := h; cases e
    | cell _ => simp only [Rep] at h; obtain ⟨a, e, _⟩ := h; cases e
    | _ => simp only [Rep] at h; cases h
  | non => cases r
  | int _ => obtain ⟨t, e⟩ := r; cases e
  | str _ => obtain ⟨t, e⟩ := r; cases e
  | byt _ => obtain ⟨t, e⟩ := r; cases e
  | flt _ => obtain ⟨t, e⟩ := r; cases e
  | ref _ => cases r
  | ty _ => cases r
theorem relV_notblt {x : V} {v : Value} (r : RelV x v) : ∀ i, v ≠ .builtin i := by
  intro c e
  subst e
  cases x with
  | bl _ => cases r
  | non => cases r
  | int _ => obtain ⟨t, e⟩ := r; cases e
  | str _ => obtain ⟨t, e⟩ := r; cases e
  | byt _ => obtain ⟨t, e⟩ := r; cases e
  | flt _ => obtain ⟨t, e⟩ := r; cases e
  | ref _ => cases r
  | ty _ => cases r
theorem op_isD {neg : Bool} {pins : List (Addr × Obj)} {s : Shared} {σ : L2.St} {w : Wd} {x y : V} {v u : Value} {Q : VK} {d e : D} {b : Bool} (I : Inv X pins σ w.H s) (rx : RelV x v) (ry : RelV y u) (r1 : Rep G w d x) (r2 : Rep G w e y) (h : isD d e = some b) (q : Q (.bl (if neg then !b else b)) w.H) :
    wpAny (model X.prog X.w) X.A (compareOp (if neg then .IsNot else .Is) v u) (EP X pins σ Q) X.xe s := by
  have toN : e = .non → b = decide (x = .non) → wpAny (model X.prog X.w) X.A (compareOp (if neg then .IsNot else .Is) v u) (EP X pins σ Q) X.xe s := fun he hb => by
    subst he hb
    simp only [Rep] at r2
    subst r2
    cases neg
    · exact op_isN pins s σ w.H _ _ v u Q I rx ry ⟨rfl, q⟩
    · exact op_notN pins s σ w.H _ _ v u Q I rx ry ⟨rfl, q⟩
  have toB : ∀ c, e = .bl c → (∀ b, d ≠ .bl b) → b = false → wpAny (model X.prog X.w) X.A (compareOp (if neg then .IsNot else .Is) v u) (EP X pins σ Q) X.xe s := fun c he hd hb => by
    subst he hb
    simp only [Rep] at r2
    subst r2
    cases ry
    have nb := relV_notbool r1 rx hd
    cases neg
    · exact is_notbool nb (relV_notblt rx) ⟨.bl _, _, I, rfl, q⟩
    · exact isnot_notbool nb (relV_notblt rx) ⟨.bl _, _, I, rfl, q⟩
  unfold isD at h
  split at h
  · rename_i a c
    simp only [Rep] at r1 r2
    subst r1 r2
    cases rx
    cases ry
    cases h
    cases neg
    · exact PyProof.Rows.is_bool ⟨.bl _, _, I, rfl, q⟩
    · exact PyProof.Rows.isnot_bool ⟨.bl _, _, I, rfl, q⟩
  · cases h
    exact toN rfl (by rw [decide_eq_true ((rep_same r1).mp rfl)])
  · cases h
    rename_i hx
    exact toN rfl (by rw [decide_eq_false fun z => hx ((rep_same r1).mpr z)])
  all_goals first
    | (cases h; exact toB _ rfl (by intro b z; cases z) rfl)
    | cases h
theorem cmpI_ok (o : CO) {i j : Int} {b : Bool} (h : cmpI o i j = some b) {pins : List (Addr × Obj)} {s : Shared} {σ : L2.St} {H : Hp} {v u : Value} {Q : VK} (I : Inv X pins σ H s) (rx : RelV (.int i) v) (ry : RelV (.int j) u) (q : Q (.bl b) H) :
    wpAny (model X.prog X.w) X.A (compareOp (toCmp o) v u) (EP X pins σ Q) X.xe s := by
  cases o with
  | lt => simp only [cmpI, Option.some.injEq] at h; subst h; exact op_lt pins s σ H _ _ v u Q I rx ry ⟨i, j, rfl, rfl, q⟩
  | le => simp only [cmpI, Option.some.injEq] at h; subst h; exact op_le pins s σ H _ _ v u Q I rx ry ⟨i, j, rfl, rfl, q⟩
  | gt => simp only [cmpI, Option.some.injEq] at h; subst h; exact op_gt pins s σ H _ _ v u Q I rx ry ⟨i, j, rfl, rfl, q⟩
  | ge => simp only [cmpI, Option.some.injEq] at h; subst h; exact op_ge pins s σ H _ _ v u Q I rx ry ⟨i, j, rfl, rfl, q⟩
  | _ => simp [cmpI] at h
theorem eqD_ok {w : Wd} {d e : D} {b : Bool} (h : eqD w.M d e = some b) : (∃ p q, toPd (now w.M d) = some p ∧ toPd (now w.M e) = some q ∧ SeqAt.shaped p = true ∧ SeqAt.shaped q = true ∧ b = PyData.eqv p q) ∨ ∃ xs ys, seqL w.M d = some xs ∧ seqL w.M e = some ys ∧ xs.length ≠ ys.length ∧ b = false := by
  unfold eqD at h
  split at h
  · rename_i p q e1 e2
    split at h
    · rename_i hs
      simp only [Bool.and_eq_true, shapedB] at hs
      cases h
      exact .inl ⟨p, q, e1, e2, hs.1, hs.2, rfl⟩
    · cases h
  · split at h
    · rename_i xs ys e1 e2
      split at h
      · cases h
      · rename_i hl
        cases h
        exact .inr ⟨xs, ys, e1, e2, hl, rfl⟩
    · cases h
/-- lists of other lengths -/
theorem op_len (hu : X.A.units < cLine) {pins : List (Addr × Obj)} {s : Shared} {σ : L2.St} {H : Hp} {a b : Addr} {vs us : List V} {v u : Value} {Q : VK} (I : Inv X pins σ H s) (h1 : SqL X.K H a vs) (h2 : SqL X.K H b us) (rx : RelV (.ref a) v) (ry : RelV (.ref b) u) (hl : vs.length ≠ us.length) :
    (Q (.bl false) H → wpAny (model X.prog X.w) X.A (compareOp .Eq v u) (EP X pins σ Q) X.xe s) ∧ (Q (.bl true) H → wpAny (model X.prog X.w) X.A (compareOp .NotEq v u) (EP X pins σ Q) X.xe s) := by
  cases rx
  cases ry
  obtain ⟨xs, r1, p1, _⟩ := I.list h1
  obtain ⟨ys, r2, p2, _⟩ := I.list h2
  have e1 := r1.length
  have e2 := r2.length
  have hs : (xs.toArray.size != ys.toArray.size) = true := by
    simp only [List.size_toArray, bne_iff_ne, ne_eq]
    omega
  exact ⟨fun q => SeqAt.RcAt.lists_lengths p1.isList p2.isList hs hu _ _ _ _ ⟨.bl false, H, I, rfl, q⟩, fun q => SeqAt.RcNeAt.lists_lengths p1.isList p2.isList hs hu _ _ _ _ ⟨.bl true, H, I, rfl, q⟩⟩
theorem eqM_or {M : Mem} {d e : D} {b : Bool} (h : eqM M d e = some b) : (∃ s t, d = .str s ∧ e = .str t ∧ b = decide (s = t)) ∨ (∃ s t, d = .int s ∧ e = .int t ∧ b = decide (s = t)) ∨ eqD M d e = some b := by
  unfold eqM at h
  split at h
  · exact .inl ⟨_, _, rfl, rfl, (Option.some.inj h).symm⟩
  · exact .inr (.inl ⟨_, _, rfl, rfl, (Option.some.inj h).symm⟩)
  · exact .inr (.inr h)
theorem dec_str' {s t : Str} : decide (V.str s = V.str t) = decide (s = t) := decide_eq_decide.mpr (by simp)
theorem dec_int' {s t : Int} : decide (V.int s = V.int t) = decide (s = t) := decide_eq_decide.mpr (by simp)
theorem inT_ok {a c : Option PyData} {b : Bool} (h : inT a c = some b) : ∃ p qs, a = some p ∧ c = some (.tuple qs) ∧ SeqAt.shaped p = true ∧ SeqAt.shaped (.tuple qs) = true ∧ b = qs.any fun z => PyData.eqv z p := by
  unfold inT at h
  split at h
  · rename_i p qs
    split at h
    · rename_i hs
      simp only [Bool.and_eq_true, shapedB] at hs
      cases h
      exact ⟨p, qs, rfl, rfl, hs.1, hs.2, rfl⟩
    · cases h
  · cases h
theorem inD_ok {w : Wd} {d e : D} {b : Bool} (h : inD w.M d e = some b) : (∃ p qs, toPd (now w.M d) = some p ∧ toPd (now w.M e) = some (.list qs) ∧ SeqAt.shaped p = true ∧ SeqAt.shaped (.list qs) = true ∧ b = qs.any fun z => PyData.eqv z p) ∨
    (∃ xs, e = .tup xs ∧ flatE d = true ∧ xs.all flatE = true ∧ b = xs.any fun z => eqF z d) ∨
    ∃ p qs, toPd (now w.M d) = some p ∧ toPd (now w.M e) = some (.tuple qs) ∧ SeqAt.shaped p = true ∧ SeqAt.shaped (.tuple qs) = true ∧ b = qs.any fun z => PyData.eqv z p := by
  unfold inD at h
  split at h
  · rename_i p q e1 e2
    split at h
    · rename_i hs
      simp only [Bool.and_eq_true, shapedB] at hs
      cases h
      exact .inl ⟨p, q, e1, e2, hs.1, hs.2, rfl⟩
    · cases h
  · split at h
    · rename_i xs _
      split at h
      · rename_i hs
        simp only [Bool.and_eq_true] at hs
        cases h
        exact .inr (.inl ⟨xs, rfl, hs.1, hs.2, rfl⟩)
      · exact .inr (.inr (inT_ok h))
    · cases h
def rInT (K : PySem.W.Frag) : R2 := fun x y H Q => ∃ d ds, Dp K H x d ∧ Dp K H y (.tuple ds) ∧ SeqAt.shaped d = true ∧ SeqAt.shaped (.tuple ds) = true ∧ Q (.bl (ds.any fun z => PyData.eqv z d)) H
def rNotInT (K : PySem.W.Frag) : R2 := fun x y H Q => ∃ d ds, Dp K H x d ∧ Dp K H y (.tuple ds) ∧ SeqAt.shaped d = true ∧ SeqAt.shaped (.tuple ds) = true ∧ Q (.bl (!ds.any fun z => PyData.eqv z d)) H
theorem op_inT (hu : X.A.units + 65 < cLine) : OpR X (compareOp .In) (rInT X.K) := by
  intro pins s σ H x y v u Q I rx ry h
  obtain ⟨d, ds, hd, he, sd, se, q⟩ := h
  obtain ⟨as, r1⟩ := Dp.reads I d x v hd rx
  obtain ⟨bs, r2⟩ := Dp.reads I (.tuple ds) y u he ry
  exact SeqAt.in_tuple_reads r2 r1 (SeqAt.canLay_of_shaped se) (SeqAt.canLay_of_shaped sd) (PyProof.Rows.room_in_shaped sd hu) ⟨.bl _, H, I, rfl, q⟩
theorem op_notInT (hu : X.A.units + 65 < cLine) : OpR X (compareOp .NotIn) (rNotInT X.K) := by
  intro pins s σ H x y v u Q I rx ry h
  obtain ⟨d, ds, hd, he, sd, se, q⟩ := h
  obtain ⟨as, r1⟩ := Dp.reads I d x v hd rx
  obtain ⟨bs, r2⟩ := Dp.reads I (.tuple ds) y u he ry
  exact SeqAt.notIn_tuple_reads r2 r1 (SeqAt.canLay_of_shaped se) (SeqAt.canLay_of_shaped sd) (PyProof.Rows.room_in_shaped sd hu) ⟨.bl _, H, I, rfl, q⟩
theorem flat_rep {w : Wd} {d : D} {v : V} (r : Rep G w d v) (h : flatE d = true) : flatV v = true := by
  cases d <;> first | (simp only [Rep] at r; subst r; rfl) | (simp [flatE] at h)
theorem flats_rep {w : Wd} : ∀ {ds : List D} {vs : List V}, RepL G w ds vs → ds.all flatE = true → vs.all flatV = true
  | [], _, r, _ => by simp only [RepL] at r; subst r; rfl
  | d :: ds, _, r, h => by
    simp only [RepL] at r
    obtain ⟨v, q, rfl, r1, r2⟩ := r
    simp only [List.all_cons, Bool.and_eq_true] at h ⊢
    exact ⟨flat_rep r1 h.1, flats_rep r2 h.2⟩
theorem eqF_rep {w : Wd} {d e : D} {v u : V} (r1 : Rep G w d v) (r2 : Rep G w e u) (h1 : flatE d = true) (h2 : flatE e = true) : eqV v u = eqF d e := by
  cases d <;> first | (simp [flatE] at h1; done) | (cases e <;> first | (simp [flatE] at h2; done) | (simp only [Rep] at r1 r2; subst r1 r2; first | (simp [eqV, eqF]; done) | (rename_i a b; by_cases e : a = b <;> simp [eqV, eqF, e])))
theorem inV_rep {w : Wd} {d : D} {v : V} (r : Rep G w d v) (h : flatE d = true) : ∀ {ds : List D} {vs : List V}, RepL G w ds vs → ds.all flatE = true → inV v vs = ds.any fun z => eqF z d
  | [], _, q, _ => by simp only [RepL] at q; subst q; rfl
  | e :: ds, _, q, hs => by
    simp only [RepL] at q
    obtain ⟨u, q', rfl, q1, q2⟩ := q
    simp only [List.all_cons, Bool.and_eq_true] at hs
    have ih := inV_rep r h q2 hs.2
    unfold inV at ih ⊢
    rw [List.any_cons, List.any_cons, ih, eqF_rep q1 r hs.1 h]
theorem op_din (hP : X.prog = G.prog) (hW : X.w = G.wd) (hK : X.K = G.K) (hu : X.A.units + 65 < cLine) {pins : List (Addr × Obj)} {σ : L2.St} {w : Wd} {s : Shared} {d e : D} {x y : V} {v u : Value} {b : Bool} {Q : VK} (I : Inv X pins σ w.H s) (rx : RelV x v) (ry : RelV y u) (g : WOk G w) (r1 : Rep G w d x) (r2 : Rep G w e y) (h : dinD w.M d e = some b) :
    (Q (.bl b) w.H → wpAny (model X.prog X.w) X.A (compareOp .In v u) (EP X pins σ Q) X.xe s) ∧ (Q (.bl (!b)) w.H → wpAny (model X.prog X.w) X.A (compareOp .NotIn v u) (EP X pins σ Q) X.xe s) := by
  unfold dinD at h
  split at h
  · rename_i k kvs hk hd
    cases h
    obtain ⟨a, xs, rfl, h1, h2⟩ := dcn_at g r2 hd
    obtain ⟨c, rfl, k1, k2⟩ := keyT_rep hk r1
    obtain rfl : u = Value.ref a := ry
    rw [← hP, ← hW] at h1
    have nk : NKs X.K w.H xs := by rw [hK]; exact h2.nks
    have ky : KyAt X.K w.H k (.ref c) := ⟨by rw [hK]; exact ky_H k1, k2, c, rfl⟩
    have es : (atKey xs k).isSome = (valN kvs k).isSome := by
      cases hv : valN kvs k with
      | none => rw [(h2.val k).2 hv]; rfl
      | some d' =>
        obtain ⟨ua, _, e1, _⟩ := (h2.val k).1 d' hv
        rw [e1]; rfl
    refine ⟨fun q => n_in (by omega) I h1 nk ky rx fun s' I' => ⟨.bl _, w.H, I', rfl, by rw [es]; exact q⟩, fun q => ?_⟩
    obtain ⟨z, hd', dd⟩ := dn_of I.hok I.kIn h1 nk
    cases (show v = Value.ref c from rx)
    exact PyProof.Rows.wpAny_notIn_heap (knd := nestedKind X.prog X.w) (show X.A.units + 1 + 8 < cLine by omega) ⟨nested_of I.hok I.kIn _ _ _ ky.is rfl, ky.dp⟩ hd' dd ⟨.bl _, w.H, I.tok _, rfl, by rw [es]; exact q⟩
  · cases h
theorem op_cmp (hP : X.prog = G.prog) (hW : X.w = G.wd) (hK : X.K = G.K) (hu : X.A.units + 65 < cLine) (o : CO) : OpR X (compareOp (toCmp o)) (rOp G fun x y M => (cmpD o M x y).map .bl) := by
  intro pins s σ H x y v u Q I rx ry h
  obtain ⟨w, d, e, z, rfl, g, r1, r2, hz, q⟩ := h
  obtain ⟨b, hb, rfl⟩ := Option.map_eq_some_iff.mp hz
  have q := q.same g rep_bl
  have hu' : X.A.units + 64 < cLine := by omega
  have ord : ordD o d e = some b → wpAny (model X.prog X.w) X.A (compareOp (toCmp o) v u) (EP X pins σ Q) X.xe s := fun h => by
    unfold ordD at h
    split at h
    · rename_i i j
      simp only [Rep] at r1 r2
      subst r1 r2
      exact cmpI_ok o h I rx ry q
    · cases h
  cases o with
  | eq =>
    rcases eqM_or hb with ⟨s, t, rfl, rfl, rfl⟩ | ⟨s, t, rfl, rfl, rfl⟩ | hb
    · simp only [Rep] at r1 r2
      subst r1 r2
      exact op_eq pins _ σ w.H _ _ v u Q I rx ry ⟨rfl, by rw [dec_str'] ; exact q⟩
    · simp only [Rep] at r1 r2
      subst r1 r2
      exact op_eq pins _ σ w.H _ _ v u Q I rx ry ⟨rfl, by rw [dec_int'] ; exact q⟩
    rcases eqD_ok (w := w) hb with ⟨p, p2, e1, e2, s1, s2, rfl⟩ | ⟨xs, ys, e1, e2, hl, rfl⟩
    rotate_left
    · obtain ⟨a1, vs, rfl, h1, h2⟩ := Rep.lst g r1 e1
      obtain ⟨a2, us, rfl, h3, h4⟩ := Rep.lst g r2 e2
      exact (op_len (by omega) I (by rw [hK]; exact h1) (by rw [hK]; exact h3) rx ry (by rw [← h2.length, ← h4.length]; exact hl)).1 q
    exact op_eqD hu' pins s σ w.H x y v u Q I rx ry ⟨p, p2, by rw [hK]; exact Rep.dpNow g r1 e1, by rw [hK]; exact Rep.dpNow g r2 e2, s1, s2, q⟩
  | ne =>
    obtain ⟨c, hc, rfl⟩ := Option.map_eq_some_iff.mp hb
    rcases eqM_or hc with ⟨s, t, rfl, rfl, rfl⟩ | ⟨s, t, rfl, rfl, rfl⟩ | hc
    · simp only [Rep] at r1 r2
      subst r1 r2
      exact op_ne pins _ σ w.H _ _ v u Q I rx ry ⟨rfl, by rw [dec_str'] ; exact q⟩
    · simp only [Rep] at r1 r2
      subst r1 r2
      exact op_ne pins _ σ w.H _ _ v u Q I rx ry ⟨rfl, by rw [dec_int'] ; exact q⟩
    rcases eqD_ok (w := w) hc with ⟨p, p2, e1, e2, s1, s2, rfl⟩ | ⟨xs, ys, e1, e2, hl, rfl⟩
    rotate_left
    · obtain ⟨a1, vs, rfl, h1, h2⟩ := Rep.lst g r1 e1
      obtain ⟨a2, us, rfl, h3, h4⟩ := Rep.lst g r2 e2
      exact (op_len (by omega) I (by rw [hK]; exact h1) (by rw [hK]; exact h3) rx ry (by rw [← h2.length, ← h4.length]; exact hl)).2 q
    exact op_neD hu' pins s σ w.H x y v u Q I rx ry ⟨p, p2, by rw [hK]; exact Rep.dpNow g r1 e1, by rw [hK]; exact Rep.dpNow g r2 e2, s1, s2, q⟩
  | inn =>
    rcases inD_ok (w := w) hb with ⟨p, p2, e1, e2, s1, s2, rfl⟩ | ⟨xs, rfl, f1, f2, rfl⟩ | ⟨p, p2, e1, e2, s1, s2, rfl⟩
    · exact op_inD hu pins s σ w.H x y v u Q I rx ry ⟨p, p2, by rw [hK]; exact Rep.dpNow g r1 e1, by rw [hK]; exact Rep.dpNow g r2 e2, s1, s2, q⟩
    · obtain ⟨a, vs, rfl, h1, h2⟩ := Rep.tup r2
      exact op_in_seq pins s σ w.H x _ v u Q I rx ry ⟨a, vs, rfl, .inr (by rw [hK]; exact h1), flat_rep r1 f1, flats_rep h2 f2, by rw [if_neg Bool.false_ne_true, inV_rep r1 f1 h2 f2]; exact q⟩
    · exact op_inT hu pins s σ w.H x y v u Q I rx ry ⟨p, p2, by rw [hK]; exact Rep.dpNow g r1 e1, by rw [hK]; exact Rep.dpNow g r2 e2, s1, s2, q⟩
  | nin =>
    obtain ⟨c, hc, rfl⟩ := Option.map_eq_some_iff.mp hb
    rcases inD_ok (w := w) hc with ⟨p, p2, e1, e2, s1, s2, rfl⟩ | ⟨xs, rfl, f1, f2, rfl⟩ | ⟨p, p2, e1, e2, s1, s2, rfl⟩
    · exact op_notInD hu pins s σ w.H x y v u Q I rx ry ⟨p, p2, by rw [hK]; exact Rep.dpNow g r1 e1, by rw [hK]; exact Rep.dpNow g r2 e2, s1, s2, q⟩
    · obtain ⟨a, vs, rfl, h1, h2⟩ := Rep.tup r2
      exact op_notIn_seq pins s σ w.H x _ v u Q I rx ry ⟨a, vs, rfl, .inr (by rw [hK]; exact h1), flat_rep r1 f1, flats_rep h2 f2, by rw [if_pos rfl, inV_rep r1 f1 h2 f2]; exact q⟩
    · exact op_notInT hu pins s σ w.H x y v u Q I rx ry ⟨p, p2, by rw [hK]; exact Rep.dpNow g r1 e1, by rw [hK]; exact Rep.dpNow g r2 e2, s1, s2, q⟩
  | din => exact (op_din hP hW hK hu I rx ry g r1 r2 hb).1 q
  | ndi =>
    obtain ⟨c, hc, rfl⟩ := Option.map_eq_some_iff.mp hb
    exact (op_din hP hW hK hu I rx ry g r1 r2 hc).2 q
  | is => exact op_isD (neg := false) I rx ry r1 r2 hb q
  | isn =>
    obtain ⟨c, hc, rfl⟩ := Option.map_eq_some_iff.mp hb
    exact op_isD (neg := true) I rx ry r1 r2 hc q
  | lt => exact ord hb
  | le => exact ord hb
  | gt => exact ord hb
  | ge => exact ord hb
/-! ### places and cuts -/
theorem atI_rep {w : Wd} {xs : List D} {vs : List V} {i : Int} {z : D} (h : RepL G w xs vs) (e : atI xs i = some z) : ∃ v, atI vs i = some v ∧ Rep G w z v := by
  unfold atI at e ⊢
  rw [← h.length]
  cases k : ixN xs.length i with
  | none => rw [k] at e; cases e
  | some j =>
    rw [k] at e
    exact h.get e
theorem ix_D (hK : X.K = G.K) : IxR X (rOp G fun x y M => ixD M x y) := by
  intro value slice pins s σ H x y v u Q I rx ry h hs
  obtain ⟨w, d, e, z, rfl, g, r1, r2, hz, q⟩ := h
  simp only [ixD] at hz
  split at hz
  · rename_i i
    simp only [Rep] at r2
    subst r2
    split at hz
    · rename_i xs hx
      by_cases ht : ∃ ys, d = .tup ys
      · obtain ⟨ys, rfl⟩ := ht
        simp only [seqA, Option.some.injEq] at hx
        subst hx
        obtain ⟨a, vs, rfl, h1, h2⟩ := Rep.tup r1
        obtain ⟨v2, h3, h4⟩ := atI_rep h2 hz
        exact ix_tup value slice pins s σ w.H _ _ v u Q I rx ry ⟨a, vs, i, v2, rfl, rfl, by rw [hK]; exact h1, h3, q.same g h4⟩ hs
      · have hx' : seqL w.M d = some xs := by
          cases d <;> first | exact hx | exact absurd ⟨_, rfl⟩ ht
        obtain ⟨a, vs, rfl, h1, h2⟩ := Rep.lst g r1 hx'
        obtain ⟨v2, h3, h4⟩ := atI_rep h2 hz
        exact ix_list value slice pins s σ w.H _ _ v u Q I rx ry ⟨a, vs, i, v2, rfl, rfl, by rw [hK]; exact h1, h3, q.same g h4⟩ hs
    · cases hz
  · cases hz
theorem cut_rep {w : Wd} {xs : List D} {vs : List V} (h : RepL G w xs vs) (lo hi : Option Int) : RepL G w (cutD xs lo hi) (cutV vs lo hi) := by
  unfold cutD cutV
  rw [h.length]
  exact (h.drop _).take _
def rSlD (G : Gb) : V → Option Int → Option Int → Hp → VK → Prop := fun x lo hi H Q => ∃ w d z, w.H = H ∧ WOk G w ∧ Rep G w d x ∧ slcD w.M d lo hi = some z ∧ Gives G w z Q
theorem sl_D (hK : X.K = G.K) : SlR X (rSlD G) := by
  intro pins s σ H x v vl vu lo hi sl Q I rx hs pl pu h
  obtain ⟨w, d, z, rfl, g, r1, hz, q⟩ := h
  simp only [slcD] at hz
  split at hz
  · rename_i xs
    cases hz
    have q1 := r1
    obtain ⟨a, vs, rfl, h1, h2⟩ := Rep.tup r1
    refine sl_tupA pins s σ w.H _ v vl vu lo hi sl Q I rx hs pl pu ⟨a, vs, rfl, by rw [hK]; exact h1, fun z => ?_, fun _ => q.tup g (cut_rep h2 lo hi)⟩
    have e : cutD xs lo hi = xs := by
      rw [← h2.length] at z
      unfold cutD
      rw [z.1, z.2, List.drop_zero, Nat.sub_zero, List.take_length]
    rw [e] at q
    exact q.same g q1
  · obtain ⟨xs, hx, rfl⟩ := Option.map_eq_some_iff.mp hz
    obtain ⟨a, vs, rfl, h1, h2⟩ := Rep.lst g r1 hx
    exact sl_list pins s σ w.H _ v vl vu lo hi sl Q I rx hs pl pu ⟨a, vs, rfl, by rw [hK]; exact h1, q.lst g (cut_rep h2 lo hi)⟩
/-! ### truth -/
theorem tru_D (hK : X.K = G.K) {w : Wd} {d : D} {x : V} {b : Bool} (g : WOk G w) (r : Rep G w d x) (h : truth w.M d = some b) : TruV X.K x w.H b := by
  have lst : ∀ xs, seqL w.M d = some xs → b = !xs.isEmpty → TruV X.K x w.H b := fun xs hx hb => by
    obtain ⟨a, vs, rfl, h1, h2⟩ := Rep.lst g r hx
    refine .inl ⟨vs, by rw [hK]; exact h1, ?_⟩
    rw [hb]
    have := h2.nil_iff
    cases xs <;> cases vs <;> simp_all
  cases d with
  | non => simp only [Rep] at r; subst r; simp only [truth, Option.some.injEq] at h; exact h.symm
  | bl c => simp only [Rep] at r; subst r; simp only [truth, Option.some.injEq] at h; exact h.symm
  | int i => simp only [Rep] at r; subst r; simp only [truth, Option.some.injEq] at h; exact h.symm
  | str z =>
    simp only [Rep] at r; subst r
    simp only [truth] at h
    split at h
    · rename_i hl
      cases h
      refine ⟨hl, ?_⟩
      cases hz : z.length with
      | zero => rfl
      | succ n =>
        have e1 : (((n + 1 : Nat) : Int) != 0) = true := by simp; omega
        rw [e1]
        rfl
    · cases h
  | tup xs =>
    obtain ⟨a, vs, rfl, h1, h2⟩ := Rep.tup r
    simp only [truth, Option.some.injEq] at h
    refine .inr (.inl ⟨vs, by rw [hK]; exact h1, ?_⟩)
    rw [← h]
    have := h2.nil_iff
    cases xs <;> cases vs <;> simp_all
  | lst xs => exact lst xs rfl (by simpa [truth, seqL] using h.symm)
  | scr xs => exact lst xs rfl (by simpa [truth, seqL] using h.symm)
  | ins _ _ => simp [truth] at h
  | dct _ => simp [truth, seqL] at h
  | dcn _ => simp [truth, seqL] at h
  | cell i =>
    simp only [truth] at h
    obtain ⟨xs, hx, e⟩ := Option.map_eq_some_iff.mp h
    exact lst xs hx e.symm
end
end Ev
/-! EvB: repr of dicts, and of lists and tuples in which dicts stand. -/
namespace Ev
open PySem L2
section
variable {X : Cx} {G : Gb} {w : Wd} {pins : List (Addr × Obj)} {s : Shared} {σ : L2.St}
theorem leaf_reads {h : Heap} {d : D} {v : V} {u : Value} {p : PyData} (r : Rep G w d v) (ru : RelV v u) (e : leafPd d = some p) : Reads h u p [] := by
  cases d with
  | non =>
    simp only [Rep] at r; subst r
    cases ru
    simp only [leafPd, Option.some.injEq] at e; subst e
    exact Reads.none
  | bl b =>
    simp only [Rep] at r; subst r
    cases ru
    simp only [leafPd, Option.some.injEq] at e; subst e
    exact Reads.bool b
  | int i =>
    simp only [Rep] at r; subst r
    obtain ⟨t, rfl⟩ := ru
    simp only [leafPd, Option.some.injEq] at e; subst e
    exact Reads.int i t
  | str x =>
    simp only [Rep] at r; subst r
    obtain ⟨t, rfl⟩ := ru
    simp only [leafPd, Option.some.injEq] at e; subst e
    exact Reads.str x t
  | _ => simp [leafPd] at e
theorem pairs_reads {h : Heap} : ∀ {kvs : List (Key × D)} {vs : List (Key × V)} {us : List (Key × Value)} {ps : List (PyData × PyData)}, RepK G w kvs vs → KV vs us → dctPd kvs = some ps → PyProof.V.PairsRead h kPd us ps []
  | [], _, _, _, r, q, e => by
    simp only [RepK] at r; subst r
    cases q
    simp only [dctPd, Option.some.injEq] at e; subst e
    exact .nil
  | (k, d) :: kvs, _, _, _, r, q, e => by
    simp only [RepK] at r
    obtain ⟨v, rs, rfl, r1, r2⟩ := r
    cases q with
    | @cons _ b _ _ q1 q2 =>
      obtain ⟨b1, b2⟩ := b
      obtain ⟨e1, e2⟩ := q1
      simp only at e1 e2
      subst e1
      simp only [dctPd] at e
      split at e
      · rename_i p ps' e3 e4
        cases e
        exact .cons (leaf_reads r1 e2 e3) (pairs_reads r2 q2 e4)
      · cases e
theorem dct_reads (I : Inv X pins σ w.H s) {a : Addr} {vs : List (Key × V)} {kvs : List (Key × D)} {ps : List (PyData × PyData)} (e : w.H a = some (.dK vs)) (r : RepK G w kvs vs) (h : dctPd kvs = some ps) : Reads s.heap (.ref a) (.dict ps) [a] ∧ a ≠ sysModules := by
  obtain ⟨_, ne, us, q, dd⟩ := dk_rd I.hok (.inl e)
  refine ⟨PyProof.V.reads_dictOf (fun k v hk => ?_) dd (pairs_reads r q h), fun z => by rw [z] at ne; simp at ne⟩
  rcases keyIs_shape hk with ⟨i, t, rfl, rfl⟩ | ⟨x, t, rfl, rfl⟩
  · exact Reads.int i t
  · exact Reads.str x t
end
end Ev
/-! N2: sum(lists, []). -/
namespace Ev
open PySem L2
/-- the first lists, joined -/
def preA (its : Nat → Array Value) : Nat → Array Value
  | 0 => #[]
  | j + 1 => preA its j ++ its j
section
variable {prog : Program} {w : World} {A : Around} {R : Result → Shared → Prop} {I : Addr} {fp wr : List Addr} {n : Nat} {P : Nat → Value → Prop} {St : Nat → Heap → Prop}
theorem codeAny_sum_lists (W : Walks prog w A.in1 I fp wr n P St) (ls : Nat → Addr) (its : Nat → Array Value) (hP : ∀ i v, P i v → v = .ref (ls i)) (S : Addr) (hSf : S ∉ fp) (hl : ∀ i, i < n → ls i ∉ wr ∧ ls i ≠ S) (hz : ∀ i, i ≤ n → (preA its i).size ≤ sizeLine) (hSt : ∀ i h, St i h → ∀ b ∈ fp, b < h.objs.size) :
    ∀ (k i : Nat) (s : Shared) (T : Addr) (c cT : Nat), n - i = k → i ≤ n → St i s.heap → s.heap.get? S = some { cls := .type "list", dict := none, data := .seq #[.ref T] c, slots := #[] } → IsL s.heap T (preA its i) cT → T ∉ wr → T ≠ S →
    (∀ j, j < n → ∃ m, IsL s.heap (ls j) (its j) m) →
    (∀ h' tk T' cT', (∀ b o, b ∉ wr → b ≠ S → s.heap.get? b = some o → h'.get? b = some o) → IsL h' T' (preA its n) cT' → ((i = n ∧ T' = T) ∨ (i < n ∧ S < T')) → R (.ok (.ret (.ref T'))) { s with heap := h', toks := tk }) →
    codeAny (model prog w) A (.builtin "sum.loop" ⟨[.ref I, .ref S, rawInt 2, rawInt 0], []⟩) R s := by
  have hSw : S ∉ wr := fun h => hSf (W.sub _ h)
  intro k
  induction k with
  | zero =>
    intro i s T c cT hk hi hst hS hT hTw hTS hls hR
    have hin : i = n := by omega
    subst hin
    refine codeAny_builtin F.entry_sum_loop ?_
    rw [Around.under_plainId F.plain_sum_loop _]
    show wpAny _ A.in1 (seqItems? (.ref S) >>= _) _ _ s
    refine wpAny_bind (wpAny_seqItems hS rfl ?_)
    show wpAny _ A.in1 (tryCatch (pyNext (.ref I)) _ >>= _) _ _ s
    refine wpAny_bind (wpAny_tryCatch (W.done s _ _ hst fun h' tk hk' => ?_))
    exact wpAny_pure (hR h' tk T cT (fun b o hbw _ e => hk' b o hbw e) (hk' T _ hTw hT) (.inl ⟨rfl, rfl⟩))
  | succ k ih =>
    intro i s T c cT hk hi hst hS hT hTw hTS hls hR
    have hlt : i < n := by omega
    refine codeAny_builtin F.entry_sum_loop ?_
    rw [Around.under_plainId F.plain_sum_loop _]
    show wpAny _ A.in1 (seqItems? (.ref S) >>= _) _ _ s
    refine wpAny_bind (wpAny_seqItems hS rfl ?_)
    show wpAny _ A.in1 (tryCatch (pyNext (.ref I)) _ >>= _) _ _ s
    refine wpAny_bind (wpAny_tryCatch (W.item i s _ _ hlt hst fun v h' tk hPv hst' hk' => ?_))
    obtain rfl := hP i v hPv
    obtain ⟨m, hm⟩ := hls i hlt
    have hS' := hk' S _ hSw hS
    have hT' : IsL h' T (preA its i) cT := hk' T _ hTw hT
    have hm' : IsL h' (ls i) (its i) m := hk' _ _ (hl i hlt).1 hm
    have hz1 := hz (i + 1) hlt
    simp only [preA, Array.size_append] at hz1
    show wpAny _ A.in1 ((holding [Value.ref (ls i)] (binaryOp .Add (.ref T) (.ref (ls i)))).attempt >>= _) _ _ _
    refine wpAny_bind (wpAny_attempt (wpAny_holding (PySem.P.add_list hT' hm' ?_ hz1)))
    have up : ∀ b o, h'.get? b = some o → (h'.push { cls := .type "list", data := .seq (preA its i ++ its i) }).get? b = some o := fun b o e => Heap.get?_push_of_some _ e
    have hS1 := up _ _ hS'
    show wpAny _ A.in1 (updateSeq S (fun _ => #[Value.ref h'.objs.size]) >>= _) _ _ _
    refine wpAny_bind (wpAny_updateSeq hS1 rfl ?_)
    have hS2 := Heap.get?_update_self (Obj.mapSeq fun _ => #[Value.ref h'.objs.size]) hS1 rfl
    refine wpAny_bind (wpAny_letGo ?_)
    have hSn : S ≠ h'.objs.size := Nat.ne_of_lt (Heap.lt_size hS')
    have off : ∀ b o, b ≠ S → h'.get? b = some o → (((h'.push { cls := .type "list", data := .seq (preA its i ++ its i) }).update S (Obj.mapSeq fun _ => #[Value.ref h'.objs.size])).update S (Obj.mapSeq fun _ => #[Value.ref h'.objs.size])).get? b = some o := fun b o hb e =>
      (Heap.get?_update_other _ _ (Ne.symm hb)).trans ((Heap.get?_update_other _ _ (Ne.symm hb)).trans (up b o e))
    have hI : ∀ b ∈ fp, ∀ o, h'.get? b = some o → (((h'.push { cls := .type "list", data := .seq (preA its i ++ its i) }).update S (Obj.mapSeq fun _ => #[Value.ref h'.objs.size])).update S (Obj.mapSeq fun _ => #[Value.ref h'.objs.size])).get? b = some o := fun b hb o e => off b o (fun z => hSf (by rw [← z]; exact hb)) e
    have hnew : (((h'.push { cls := .type "list", data := .seq (preA its i ++ its i) }).update S (Obj.mapSeq fun _ => #[Value.ref h'.objs.size])).update S (Obj.mapSeq fun _ => #[Value.ref h'.objs.size])).get? h'.objs.size = some { cls := .type "list", data := .seq (preA its i ++ its i) } :=
      (Heap.get?_update_other _ _ hSn).trans ((Heap.get?_update_other _ _ hSn).trans (Heap.get?_push_size _ rfl))
    have nw : h'.objs.size ∉ wr := fun z => Nat.lt_irrefl _ (hSt _ _ hst' _ (W.sub _ z))
    refine wpAny_bind (wpAny_updateSeq hS2 rfl (wpAny_pure ⟨plainId_quiet F.plain_sum_loop _, ?_⟩))
    refine ih (i + 1) _ h'.objs.size _ 0 (by omega) hlt (W.frame _ _ _ hst' hI) (Heap.get?_update_self _ hS2 rfl) hnew nw (Ne.symm hSn) (fun j hj => ?_) fun h2 tk2 T2 c2 k2 t2 d2 => ?_
    · obtain ⟨m2, e2⟩ := hls j hj
      exact ⟨m2, off _ _ (hl j hj).2 (hk' _ _ (hl j hj).1 e2)⟩
    · refine hR h2 tk2 T2 c2 (fun b o hbw hbS e => k2 b o hbw hbS (off b o hbS (hk' b o hbw e))) t2 (.inr ⟨hlt, ?_⟩)
      rcases d2 with ⟨_, rfl⟩ | ⟨_, z⟩
      · exact Heap.lt_size hS'
      · exact z
end
theorem args_sum2 (a b : Value) : argsOk "sum" ⟨[a, b], []⟩ := by unfold argsOk; kernel_rfl
theorem sub_list_str : isSubtype (.type "list") (.type "str") = pure false := by rw [isSubtype_type]; kernel_rfl
theorem sub_list_bytes : isSubtype (.type "list") (.type "bytes") = pure false := by rw [isSubtype_type]; kernel_rfl
theorem sub_list_bytearray : isSubtype (.type "list") (.type "bytearray") = pure false := by rw [isSubtype_type]; kernel_rfl
section
variable {prog : Program} {w : World} {A : Around} {E : Value → Shared → Prop} {s : Shared}
theorem sum_lists {a b cT : Addr} {items : Array Value} {ls : Nat → Addr} {its : Nat → Array Value} {Q : Value → Shared → Prop} (hh : A.handled = none) (hl : s.heap.IsList a items) (hi : ∀ (i : Nat) (v : Value), items[i]? = some v → v = .ref (ls i)) (hb : IsL s.heap b #[] cT) (hits : ∀ j, j < items.size → ∃ m, IsL s.heap (ls j) (its j) m) (hz : ∀ i, i ≤ items.size → (preA its i).size ≤ sizeLine)
    (h : ∀ h' tk T' cT', (∀ c o, s.heap.get? c = some o → h'.get? c = some o) → IsL h' T' (preA its items.size) cT' → ((items.size = 0 ∧ T' = b) ∨ (0 < items.size ∧ s.heap.objs.size ≤ T')) → Q (.ref T') { s with heap := h', toks := tk }) :
    wpAny (model prog w) A (call (.builtin "sum") [.ref a, .ref b]) Q E s := by
  refine call_function_tree F.kind_sum F.plain_sum F.entry_sum (args_sum2 _ _) ?_
  unfold Builtin.«sum»
  simp only [List.length_cons, List.length_nil]
  rw [if_neg (by decide)]
  refine wpAny_bind (wpAny_of_eq (show Builtin.Builtins.bindParams "sum" ["start"] 0 { pos := [.ref b] } = pure [some (.ref b)] from rfl) ?_)
  refine wpAny_bind (wpAny_pyIter_list hl ?_)
  refine wpAny_bind (wpAny_pure ?_)
  have hb1 : IsL (s.heap.push { cls := .type "list_iterator", data := .fields #[.ref a, .int 0 0] }) b #[] cT := Heap.get?_push_of_some _ hb
  have tb : ∀ s1 : Shared, s1.heap = s.heap.push { cls := .type "list_iterator", data := .fields #[.ref a, .int 0 0] } → s1.TypeIs (.ref b) "list" := fun s1 e => ⟨_, by rw [e]; exact hb1, rfl⟩
  simp only [List.forIn_cons, List.forIn_nil]
  refine wpAny_bind (wpAny_bind (wpAny_bind (wpAny_isInstance (T := "list") (b := false) (tb _ rfl) sub_list_str ?_)))
  simp only [Bool.false_eq_true, if_false]
  refine wpAny_pure (wpAny_bind (wpAny_bind (wpAny_isInstance (T := "list") (b := false) (tb _ rfl) sub_list_bytes ?_)))
  simp only [Bool.false_eq_true, if_false]
  refine wpAny_pure (wpAny_bind (wpAny_bind (wpAny_isInstance (T := "list") (b := false) (tb _ rfl) sub_list_bytearray ?_)))
  simp only [Bool.false_eq_true, if_false]
  refine wpAny_pure (wpAny_pure ?_)
  refine wpAny_bind (wpAny_newObj_type ?_)
  have ha : a < s.heap.objs.size := let ⟨_, ho, _⟩ := hl; Heap.lt_size ho
  have W := Walks.list (prog := prog) (w := w) (A := A.in1) hh s.heap.objs.size a (Nat.ne_of_lt ha) items
  have sz : (s.heap.push { cls := .type "list_iterator", data := .fields #[.ref a, .int 0 0] }).objs.size = s.heap.objs.size + 1 := Heap.size_push ..
  have low : ∀ {c : Addr} {o : Obj}, s.heap.get? c = some o → c ∉ [s.heap.objs.size] ∧ c ≠ (s.heap.push { cls := .type "list_iterator", data := .fields #[.ref a, .int 0 0] }).objs.size := fun {c o} e => by
    have := Heap.lt_size e
    rw [sz]
    refine ⟨fun z => ?_, fun z => ?_⟩
    · rw [List.mem_singleton.mp z] at this
      exact Nat.lt_irrefl _ this
    · rw [z] at this
      exact Nat.lt_irrefl _ (Nat.lt_of_succ_lt this)
  refine wpAny_pure ⟨plainId_quiet F.plain_sum_loop _, codeAny_sum_lists W ls its (fun i v hv => hi i v hv) _ ?_ (fun i hi' => ?_) hz ?_ items.size 0 _ b _ cT rfl (Nat.zero_le _) ?_ (Heap.get?_push_size _ rfl) (Heap.get?_push_of_some _ hb1) (low hb).1 (low hb).2 (fun j hj => ?_) fun h' tk T' cT' hk hT' hd => ?_⟩
  · intro z
    rw [sz] at z
    rcases List.mem_cons.mp z with e | e
    · exact absurd e (Nat.succ_ne_self _)
    · have q : s.heap.objs.size + 1 < s.heap.objs.size := by
        rw [List.mem_singleton.mp e]
        exact ha
      exact Nat.lt_irrefl _ (Nat.lt_of_succ_lt q)
  · obtain ⟨m, e⟩ := hits i hi'
    exact low e
  · intro i h st c hc
    obtain ⟨⟨o, ho, _⟩, o2, ho2, _⟩ := st
    rcases List.mem_cons.mp hc with rfl | hc
    · exact Heap.lt_size ho
    · rw [List.mem_singleton.mp hc]
      exact Heap.lt_size ho2
  · exact ⟨⟨_, Heap.get?_push_of_some _ (Heap.get?_push_size _ rfl), rfl, rfl⟩, (hl.push _).push _⟩
  · obtain ⟨m, e⟩ := hits j hj
    exact ⟨m, Heap.get?_push_of_some _ (Heap.get?_push_of_some _ e)⟩
  · refine h h' tk T' cT' (fun c o e => hk c o (low e).1 (low e).2 (Heap.get?_push_of_some _ (Heap.get?_push_of_some _ e))) hT' ?_
    rcases hd with ⟨e1, e2⟩ | ⟨e1, e2⟩
    · exact .inl ⟨e1.symm, e2⟩
    · refine .inr ⟨e1, ?_⟩
      rw [sz] at e2
      exact Nat.le_of_lt (Nat.lt_of_succ_lt e2)
end
/-- sum(xs, []) -/
def rSumL (K : PySem.W.Frag) : List V → Hp → VK → Prop := fun vs H Q => ∃ (a b : Addr) (ls : List Addr) (xss : List (List V)), vs = [.ref a, .ref b] ∧ SqL K H a (ls.map V.ref) ∧ H b = some (.lst []) ∧ Paired (fun l xs => H l = some (.lst xs)) ls xss ∧ xss.flatten.length ≤ sizeLine ∧
  (ls = [] → Q (.ref b) H) ∧ ∀ p, H p = none → Q (.ref p) (upd H p (.lst xss.flatten))
theorem pre_flat {xss : List (List Value)} {its : Nat → Array Value} (h : ∀ (i : Nat) (xs : List Value), xss[i]? = some xs → its i = xs.toArray) : ∀ i, i ≤ xss.length → preA its i = ((xss.take i).flatten).toArray
  | 0, _ => by simp [preA]
  | i + 1, hi => by
    have hx : xss[i]? = some (xss[i]'(by omega)) := List.getElem?_eq_getElem (by omega)
    rw [preA, pre_flat h i (by omega), h i _ hx, List.take_add_one, hx, List.flatten_append]
    simp only [Option.toList_some, List.flatten_cons, List.flatten_nil, List.append_nil, List.append_toArray]
theorem paired_all {X : Cx} {pins : List (Addr × Obj)} {σ : L2.St} {H : Hp} {s : Shared} (I : Inv X pins σ H s) : ∀ {ls : List Addr} {xss : List (List V)}, Paired (fun l xs => H l = some (HO.lst xs)) ls xss → ∃ uss : List (List Value), Paired (fun xs us => Vals xs us) xss uss ∧ Paired (fun l us => ∃ n, IsL s.heap l us.toArray n) ls uss
  | _, _, .nil => ⟨[], .nil, .nil⟩
  | l :: _, xs :: _, .cons h t => by
    obtain ⟨uss, h1, h2⟩ := paired_all I t
    obtain ⟨_, us, n, rv, e⟩ := (show ObjOk X.prog X.w H s.heap l (.lst xs) from I.hok l _ h)
    exact ⟨us :: uss, .cons rv h1, .cons ⟨n, e⟩ h2⟩
theorem paired_nth {α β : Type} {F : α → β → Prop} : ∀ {xs : List α} {ys : List β} {j : Nat}, Paired F xs ys → j < ys.length → ∃ x y, xs[j]? = some x ∧ ys[j]? = some y ∧ F x y
  | _, _, _, .nil, h => by simp at h
  | _, _, 0, .cons r _, _ => ⟨_, _, rfl, rfl, r⟩
  | _, _, j + 1, .cons _ t, h => by
    obtain ⟨x, y, e1, e2, e3⟩ := paired_nth (j := j) t (by simpa using h)
    exact ⟨x, y, e1, e2, e3⟩
theorem vals_refs_nth : ∀ {ls : List Addr} {us : List Value} {i : Nat} {v : Value}, Vals (ls.map V.ref) us → us[i]? = some v → v = .ref (ls.getD i 0)
  | [], us, i, v, r, h => by
    rw [List.map_nil] at r
    cases r
    simp at h
  | l :: ls, us, i, v, r, h => by
    rw [List.map_cons] at r
    cases r with
    | @cons a b as bs x t =>
      cases i with
      | zero =>
        simp only [List.getElem?_cons_zero, Option.some.injEq] at h
        subst h
        exact x
      | succ i =>
        rw [List.getElem?_cons_succ] at h
        have := vals_refs_nth t h
        rw [this]
        simp
theorem vals_flat : ∀ {xss : List (List V)} {uss : List (List Value)}, Paired (fun xs us => Vals xs us) xss uss → Vals xss.flatten uss.flatten
  | _, _, .nil => .nil
  | _, _, .cons h t => by
    rw [List.flatten_cons, List.flatten_cons]
    have : ∀ {a : List V} {b : List Value} {c : List V} {d : List Value}, Vals a b → Vals c d → Vals (a ++ c) (b ++ d) := fun {a b c d} h1 h2 => by
      induction h1 with
      | nil => exact h2
      | cons x _ ih => exact .cons x ih
    exact this h (vals_flat t)
theorem call_sumL {X : Cx} (hc : X.calm = true) : CallR X (.builtin "sum") (rSumL X.K) := by
  intro pins s σ H vs us Q I r h
  obtain ⟨a, b, ls, xss, rfl, ha, hb, hp, hz, q0, q⟩ := h
  obtain ⟨u1, u2, rfl, r1, r2⟩ := vals2 r
  cases (show u1 = Value.ref a from r1)
  cases (show u2 = Value.ref b from r2)
  obtain ⟨its, rv, pl, _⟩ := I.list ha
  obtain ⟨uss, v1, v2⟩ := paired_all I hp
  obtain ⟨_, its0, n0, rv0, hb0⟩ := (show ObjOk X.prog X.w H s.heap b (.lst []) from I.hok b _ hb)
  cases rv0
  have hlen : its.length = uss.length := by
    have h1 := rv.length
    rw [List.length_map] at h1
    have h2 := Paired.length v2
    omega
  have hvf := vals_flat v1
  have hpre := pre_flat (xss := uss) (its := fun i => (uss.getD i []).toArray) (fun i xs hx => by simp [List.getD_eq_getElem?_getD, hx])
  refine sum_lists (ls := fun i => ls.getD i 0) (its := fun i => (uss.getD i []).toArray) (I.ok.hd hc) pl.isList (fun i v hv => ?_) hb0 (fun j hj => ?_) (fun i hi => ?_) fun h' tk T' cT' hk hT' hd => ?_
  · exact vals_refs_nth rv (by simpa using hv)
  · obtain ⟨l, us, e1, e2, n, e3⟩ := paired_nth v2 (j := j) (by simp at hj; omega)
    refine ⟨n, ?_⟩
    simp only [List.getD_eq_getElem?_getD, e1, e2, Option.getD_some]
    exact e3
  · have hi' : i ≤ uss.length := by simp at hi; omega
    rw [hpre i hi', List.size_toArray]
    have h1 : (uss.take i).flatten.length ≤ uss.flatten.length := by
      have e : uss.flatten = (uss.take i).flatten ++ (uss.drop i).flatten := by rw [← List.flatten_append, List.take_append_drop]
      rw [e, List.length_append]
      omega
    have h2 := hvf.length
    omega
  · have e0 : its.toArray.size = uss.length := by simp [hlen]
    rw [e0] at hT' hd
    rw [hpre _ (Nat.le_refl _), List.take_length] at hT'
    rcases hd with ⟨d1, rfl⟩ | ⟨d1, d2⟩
    · have : uss = [] := List.length_eq_zero_iff.mp d1
      subst this
      have hls : ls = [] := by
        have := Paired.length v2
        exact List.length_eq_zero_iff.mp this
      exact ⟨.ref _, H, I.kept (t' := tk) hk, rfl, q0 hls⟩
    · exact ⟨.ref T', _, I.laid (t' := tk) hk d2 (show ObjOk X.prog X.w _ h' T' (.lst xss.flatten) from ⟨hz, uss.flatten, cT', hvf, hT'⟩), rfl, q T' (I.hok.fresh d2)⟩
end Ev
/-! N1: such dicts: list(d), list(d.items()), len(d), isinstance(d, dict). -/
namespace Ev
open PySem L2
def rListN (X : Cx) : List V → Hp → VK → Prop := fun us H Q => ∃ a xs, us = [V.ref a] ∧ H a = some (dnO X.prog X.w a xs) ∧ ∀ p, H p = none → Q (.ref p) (upd H p (.lst (xs.map fun x => V.ref x.2.1)))
theorem vals_keys {P : Program} {w : World} : ∀ {xs : List NE} {its : List Value}, its.length = xs.length → (∀ (j : Nat) (v : Value), its[j]? = some v → ∃ x, xs[j]? = some x ∧ v = .ref x.2.1) → Vals (xs.map fun x => V.ref x.2.1) its
  | [], [], _, _ => .nil
  | [], _ :: _, h, _ => by cases h
  | _ :: _, [], h, _ => by cases h
  | x :: xs, i :: its, h, k => by
    obtain ⟨y, e1, e2⟩ := k 0 i rfl
    cases e1
    exact .cons e2 (vals_keys (P := P) (w := w) (Nat.succ.inj h) fun j v e => k (j + 1) v e)
theorem raw_of {P : Program} {w : World} {h : Heap} {a : Addr} {xs : List NE} {es : Array DictEntry} (e : es.toList = xs.map (entryOfKey (nestedKind P w))) : es.size = xs.length ∧ ∀ (i : Nat) (hi : i < es.size), ∃ x, xs[i]? = some x ∧ es[i].key = .ref x.2.1 ∧ es[i].val = x.2.2 := by
  have hl : es.size = xs.length := by rw [← Array.length_toList, e, List.length_map]
  refine ⟨hl, fun i hi => ?_⟩
  have h1 : es.toList[i]? = some es[i] := by rw [Array.getElem?_toList]; exact Array.getElem?_eq_getElem hi
  rw [e, List.getElem?_map] at h1
  obtain ⟨x, hx, h2⟩ := Option.map_eq_some_iff.mp h1
  exact ⟨x, hx, by rw [← h2]; rfl, by rw [← h2]; rfl⟩
theorem call_list_n {X : Cx} (hc : X.calm = true) : CallR X (.type "list") (rListN X) := by
  intro pins s σ H us vs Q I r h
  obtain ⟨a, xs, rfl, e, q⟩ := h
  obtain ⟨u, rfl, rx⟩ := vals1 r
  cases (show u = Value.ref a from rx)
  obtain ⟨o, es, ep, h1, h2, h3, h4, z, lo⟩ := dn_is I.hok e
  obtain ⟨hl, hx⟩ := raw_of (h := s.heap) (a := a) h4
  refine PySem.W.kdl_call (KdlSrc.rawDict (es := es) (ep := ep) lo) (I.ok.hd hc) ⟨o, h1, h2, h3⟩ (by rw [hl]; exact z) fun h' tk acc c' hk hD hacc => ?_
  have hv : Vals (xs.map fun x => V.ref x.2.1) acc.toList := vals_keys (P := X.prog) (w := X.w) (by rw [Array.length_toList, hacc.1, hl]) fun j v ev => by
    obtain ⟨hj, e2⟩ := hacc.2 j v (by rw [← Array.getElem?_toList]; exact ev)
    obtain ⟨x, hx1, hx2, _⟩ := hx j hj
    exact ⟨x, hx1, by rw [e2, hx2]⟩
  exact ⟨.ref s.heap.objs.size, upd H s.heap.objs.size (.lst (xs.map fun x => V.ref x.2.1)), I.laid (t' := tk) hk (Nat.le_refl _)
    (show ObjOk X.prog X.w _ _ _ (.lst (xs.map fun x => V.ref x.2.1)) from ⟨by rw [List.length_map]; exact z, acc.toList, c', hv, by rw [Array.toArray_toList]; exact hD⟩), rfl, q _ (I.hok.fresh (Nat.le_refl _))⟩
/-! len(d) -/
def rLenN (X : Cx) : List V → Hp → VK → Prop := fun us H Q => ∃ a xs, us = [V.ref a] ∧ H a = some (dnO X.prog X.w a xs) ∧ Q (.int xs.length) H
theorem call_len_n {X : Cx} : CallR X (.builtin "len") (rLenN X) := by
  intro pins s σ H us vs Q I r h
  obtain ⟨a, xs, rfl, e, q⟩ := h
  obtain ⟨u, rfl, rx⟩ := vals1 r
  cases (show u = Value.ref a from rx)
  obtain ⟨o, es, ep, h1, h2, h3, h4, z, lo⟩ := dn_is I.hok e
  obtain ⟨hl, hx⟩ := raw_of (h := s.heap) (a := a) h4
  have raw : s.heap.DictRaw a es ep := ⟨o, h1, h2, h3⟩
  refine PyProof.Rows.call_len_slot (n := es.size) raw.typeIs PySem.F.slot_dict_len (fun Q' hq => call_len_raw lo raw hq) (by omega) (by rw [hl]; rw [sizeLine_eq] at z; omega) ?_
  rw [show ((es.size : Int)) = ((xs.length : Nat) : Int) by rw [hl]]
  exact ⟨.int xs.length, H, (I.tok _).tok _, ⟨_, rfl⟩, q⟩
/-! isinstance(d, dict) -/
def rIsiN (X : Cx) : List V → Hp → VK → Prop := fun us H Q => ∃ a xs c u b, us = [V.ref a, c] ∧ H a = some (dnO X.prog X.w a xs) ∧ ClsV c u ∧ PySem.W.kitOne X.K (.type "dict") u = some b ∧ Q (.bl b) H
theorem call_isi_n {X : Cx} : CallR X (.builtin "isinstance") (rIsiN X) := by
  intro pins s σ H us vs Q I r h
  obtain ⟨a, xs, c, u, b, rfl, eH, k, e, q⟩ := h
  obtain ⟨u1, u2, rfl, r1, r2⟩ := vals2 r
  have e2 := k.eq r2
  subst e2
  cases (show u1 = Value.ref a from r1)
  obtain ⟨o, es, ep, h1, h2, h3, h4, z, lo⟩ := dn_is I.hok eH
  exact PySem.W.kia_one (PySem.W.kitx_dict) I.kIn ⟨o, h1, h2.1⟩ e (fun z => nomatch z) fun tk => ⟨.bl b, H, I.tok tk, rfl, q⟩
def rIsiTN (X : Cx) : List V → Hp → VK → Prop := fun us H Q => ∃ a xs tp cs ws b, us = [V.ref a, .ref tp] ∧ H a = some (dnO X.prog X.w a xs) ∧ H tp = some (.tup cs) ∧ Paired ClsV cs ws ∧ PySem.W.kitAny X.K (.type "dict") ws = some b ∧ Q (.bl b) H
theorem call_isiT_n {X : Cx} : CallR X (.builtin "isinstance") (rIsiTN X) := by
  intro pins s σ H us vs Q I r h
  obtain ⟨a, xs, tp, cs, ws, b, rfl, eH, hT, k, e, q⟩ := h
  obtain ⟨u1, u2, rfl, r1, r2⟩ := vals2 r
  cases (show u2 = Value.ref tp from r2)
  cases (show u1 = Value.ref a from r1)
  obtain ⟨o1, es, ep, g1, g2, g3, g4, z, lo⟩ := dn_is I.hok eH
  obtain ⟨_, its, rv, o, h1, h2, n, h3⟩ := (show ObjOk X.prog X.w H s.heap tp (.tup cs) from I.hok tp _ hT)
  have e3 := ClsV.all k rv
  subst e3
  obtain ⟨oc, od, dt, sl⟩ := o
  simp only at h2 h3
  subst h2 h3
  exact PySem.W.kia_tup (PySem.W.kitx_dict) I.kIn ⟨o1, g1, g2.1⟩ h1 e (fun z => nomatch z) fun tk => ⟨.bl b, H, I.tok tk, rfl, q⟩
/-! list(d.items()) -/
def putN : Hp → List Addr → List (Addr × V) → Hp
  | H, a :: as, p :: kvs => putN (upd H a (.tup [.ref p.1, p.2])) as kvs
  | H, _, _ => H
theorem putN_off {b : Addr} : ∀ (as : List Addr) (kvs : List (Addr × V)) (H : Hp), b ∉ as → putN H as kvs b = H b
  | [], _, _, _ => rfl
  | _ :: _, [], _, _ => rfl
  | a :: as, p :: kvs, H, h => by
    show putN (upd H a (.tup [.ref p.1, p.2])) as kvs b = H b
    rw [putN_off as kvs _ (fun z => h (List.mem_cons_of_mem _ z)), upd_ne (fun z => h (by rw [z]; exact List.mem_cons_self))]
theorem putN_at : ∀ (as : List Addr) (kvs : List (Addr × V)) (H : Hp), as.length = kvs.length → as.Nodup → Paired (fun (t : Addr) (p : Addr × V) => putN H as kvs t = some (.tup [.ref p.1, p.2])) as kvs
  | [], [], _, _, _ => .nil
  | [], _ :: _, _, h, _ => by cases h
  | _ :: _, [], _, h, _ => by cases h
  | a :: as, p :: kvs, H, h, hn => by
    have hn' := List.nodup_cons.mp hn
    have ih := putN_at as kvs (upd H a (.tup [.ref p.1, p.2])) (Nat.succ.inj h) hn'.2
    refine .cons ?_ ih
    show putN (upd H a (.tup [.ref p.1, p.2])) as kvs a = some (.tup [.ref p.1, p.2])
    rw [putN_off as kvs _ hn'.1, upd_same]
/-- the entries' values, as told -/
abbrev NVs : List (Addr × V) → List NE → Prop := Paired fun p x => p.1 = x.2.1 ∧ RelV p.2 x.2.2
def rNItems (X : Cx) : V → Hp → VK → Prop := fun x H Q => ∃ (d : Addr) (xs : List NE) (kvs : List (Addr × V)), x = .ref d ∧ H d = some (dnO X.prog X.w d xs) ∧ NVs kvs xs ∧
  ∀ (H' : Hp) (p : Addr) (ts : List Addr), (∀ b o, H b = some o → H' b = some o) → H p = none → (∀ t ∈ ts, H t = none) → p ∉ ts → H' p = some (.lst (ts.map V.ref)) → Paired (fun (t : Addr) (q : Addr × V) => H' t = some (.tup [.ref q.1, q.2])) ts kvs → Q (.ref p) H'
def tNItems (X : Cx) (te : TE) : TE := fun σ H Q => te σ H fun x H1 => rNItems X x H1 Q
section
variable {X : Cx} {e : Expr} {te : TE} {p apos cpos pos : Pos}
theorem nitems_laid {pins : List (Addr × Obj)} {σ : L2.St} {H : Hp} {s : Shared} {h' : Heap} {tk : Nat} {kvs : List (Addr × V)} {xs : List NE} {es : Array DictEntry} {acc : Array Value} {c : Nat} {as : List Addr} (I : Inv X pins σ H s) (hz : xs.length ≤ sizeLine) (kv : NVs kvs xs)
    (hes : es.size = xs.length ∧ ∀ (i : Nat) (hi : i < es.size), ∃ x, xs[i]? = some x ∧ es[i].key = .ref x.2.1 ∧ es[i].val = x.2.2)
    (hk : ∀ b o, s.heap.get? b = some o → h'.get? b = some o) (hS : h'.get? s.heap.objs.size = some { cls := .type "list", dict := none, data := .seq acc c, slots := #[] }) (hl : as.length = es.size) (hG : PySem.W.DilG es s.heap.objs.size h' as) (hacc : acc.toList = as.map Value.ref) :
    ∃ H' : Hp, (∀ b o, H b = some o → H' b = some o) ∧ H s.heap.objs.size = none ∧ (∀ t ∈ as, H t = none) ∧ s.heap.objs.size ∉ as ∧ H' s.heap.objs.size = some (.lst (as.map V.ref)) ∧ Paired (fun (t : Addr) (q : Addr × V) => H' t = some (.tup [.ref q.1, q.2])) as kvs ∧ Inv X pins σ H' { s with heap := h', toks := tk } := by
  have lk : kvs.length = xs.length := Paired.length kv
  have hSn : s.heap.objs.size ∉ as := fun z => Nat.lt_irrefl _ (hG.above _ z)
  have nd : as.Nodup := List.Pairwise.imp (fun {a b} (h : a < b) => Nat.ne_of_lt h) hG.rise
  have new : ∀ t ∈ as, H t = none := fun t ht => I.hok.fresh (Nat.le_of_lt (hG.above t ht))
  have newS : H s.heap.objs.size = none := I.hok.fresh (Nat.le_refl _)
  have atP := putN_at as kvs (upd H s.heap.objs.size (.lst (as.map V.ref))) (by have := hes.1; omega) nd
  have off : ∀ b, b ∉ as → b ≠ s.heap.objs.size → putN (upd H s.heap.objs.size (.lst (as.map V.ref))) as kvs b = H b := fun b h1 h2 => by rw [putN_off as kvs _ h1, upd_ne h2]
  have low : ∀ b o, s.heap.get? b = some o → b ∉ as ∧ b ≠ s.heap.objs.size := fun b o e => ⟨fun z => absurd (Heap.lt_size e) (Nat.not_lt.mpr (Nat.le_of_lt (hG.above b z))), Nat.ne_of_lt (Heap.lt_size e)⟩
  have kp : ∀ b u, H b = some u → (putN (upd H s.heap.objs.size (.lst (as.map V.ref))) as kvs) b = some u := fun b u e => by
    rw [off b (fun z => by rw [new b z] at e; cases e) (fun z => by rw [z, newS] at e; cases e)]
    exact e
  have eS : putN (upd H s.heap.objs.size (.lst (as.map V.ref))) as kvs s.heap.objs.size = some (.lst (as.map V.ref)) := by rw [putN_off as kvs _ hSn, upd_same]
  refine ⟨putN (upd H s.heap.objs.size (.lst (as.map V.ref))) as kvs, kp, newS, new, hSn, eS, atP, ?_⟩
  refine I.call' (ch := []) rfl ⟨fun b o q _ _ _ => hk b o q, fun b o q _ _ _ => ⟨o.slots, hk b o q⟩, fun b o q n _ => ?_, fun b o q _ => ⟨o, hk b o q⟩, fun b xs q => kp b _ q, fun b o u q => kp b _ q, fun b ps q => ⟨#[], by rw [kp b _ q]; simp⟩⟩ (fun b u q => ?_) I.bare fun b z => by simp at z
  · obtain ⟨z1, z2⟩ := low b o q
    rw [off b z1 z2]
    exact n
  · by_cases hb : b ∈ as
    · obtain ⟨j, pk, e1, e2, e3⟩ := LiI.paired_ix atP hb
      rw [e3] at q
      cases q
      obtain ⟨hj, f3⟩ := hG.pairs j b e1
      obtain ⟨x, g1, g2, g3⟩ := LiI.paired_get kv e2
      obtain ⟨x', f1, f2, f4⟩ := hes.2 j hj
      rw [f1] at g1
      cases g1
      exact ⟨by show 2 ≤ sizeLine; decide, [es[j].key, es[j].val], .cons (by rw [f2, g2]; rfl) (.cons (by rw [f4]; exact g3) .nil), ⟨_, f3, rfl, _, rfl⟩⟩
    · by_cases hb2 : b = s.heap.objs.size
      · rw [hb2] at q ⊢
        rw [eS] at q
        cases q
        refine ⟨by rw [List.length_map, hl, hes.1]; exact hz, acc.toList, c, by rw [hacc]; exact LiI.vals_refs as, ?_⟩
        rw [Array.toArray_toList]
        exact hS
      · rw [off b hb hb2] at q
        exact (I.hok b u q).stay (fun d v _ y => hk d v y) (fun d y => kp d _ y) fun d xs y => kp d _ y
theorem pe_nlistItems (hc : X.calm = true) (he : PE X e te) (hg : Gl X "list") (hm : X.mg "list" = none) (hv : bootBuiltins "list" = some (.type "list")) (hbase : attributeBase e "items" X.env (eval e X.env) = eval e X.env) (hline : (apos.endLine == cpos.line) = true)
    (hs : starEach [.Call (.Attribute e "items" apos) [] [] cpos] X.env = (false, eval (.Call (.Attribute e "items" apos) [] [] cpos) X.env) :: starEach [] X.env) :
    PE X (.Call (.Name "list" p) [.Call (.Attribute e "items" apos) [] [] cpos] [] pos) (tNItems X te) := by
  refine ⟨fun pins s σ H Q I hq => ?_⟩
  refine wpAny_Call_Name_kw (ld_blt I hg hm hv ?_)
  refine PyProof.Rows.callWith_type1 ?_ hs rfl
  rw [hs]
  show wpAny _ _ (spliced ((false, eval (.Call (.Attribute e "items" apos) [] [] cpos) X.env) :: backTo pos (starEach [] X.env))) _ _ s
  refine Calls.spliced_cons ?_
  refine wpAny_Call_method (T := "dict") (id := "dict.items") hbase rfl hline PySem.F.plainAttrs_dict PySem.F.slot_dict_items PySem.F.type_dict_items (thn (he.run pins s σ H _ I hq) fun u s1 ⟨x, H1, I1, rx, d, xs, kvs, ex, hd, kv, q⟩ => ?_)
  subst ex
  obtain rfl : u = Value.ref d := rx
  obtain ⟨o, es, ep, h1, h2, h3, h4, z, lo⟩ := dn_is I1.hok hd
  have hes := raw_of (h := s1.heap) (a := d) h4
  have raw : s1.heap.DictRaw d es ep := ⟨o, h1, h2, h3⟩
  have I2 : Inv X pins σ H1 { s1 with heap := s1.heap.push { cls := .type "dict_items", data := .fields #[.ref d] } } := I1.kept (t' := s1.toks) fun b ob q => Heap.get?_push_of_some _ q
  refine ⟨raw.typeIs, (isN_at I1 ⟨xs, hd⟩).2, ?_⟩
  show wpAny _ _ (callWith cpos (.builtin "dict.items") [.ref d] [] []) _ X.xe s1
  refine method_meetsIn PySem.F.slot_dict_items PySem.F.entry_dict_items rfl (PySem.evalArgs_none ⟨rfl, raw.typeIs, PySem.F.args_dict_items_1 _, _, meets_dict_items_raw d lo, ⟨es, ep, raw⟩, ?_⟩)
  refine Calls.spliced_nil ?_
  refine PySem.W.dil_call (es := es) (ep := ep) (I1.ok.hd hc) ⟨_, Heap.get?_push_size _ rfl, rfl, rfl⟩ (raw.push _) (by rw [hes.1]; exact z) fun h' tk acc c as hk hS hl hG hacc => ?_
  obtain ⟨H', k1, k2, k3, k4, k5, k6, J⟩ := nitems_laid (tk := tk) I2 z kv hes hk hS hl hG hacc
  exact ⟨.ref _, H', J, rfl, q H' _ as k1 k2 k3 k4 k5 k6⟩
end
end Ev
/-! Ev4: built-in calls and methods over data. -/
namespace Ev
open PySem L2
section
variable {X : Cx} {G : Gb}
mutual
theorem noDict : ∀ (d : D) (p : PyData), toPd d = some p → p.hasDict = false
  | .non, p, e => by simp only [toPd, Option.some.injEq] at e; subst e; simp only [PyData.hasDict]
  | .bl b, p, e => by simp only [toPd, Option.some.injEq] at e; subst e; simp only [PyData.hasDict]
  | .int i, p, e => by simp only [toPd, Option.some.injEq] at e; subst e; simp only [PyData.hasDict]
  | .str s, p, e => by simp only [toPd, Option.some.injEq] at e; subst e; simp only [PyData.hasDict]
  | .tup xs, p, e => by
    simp only [toPd, Option.map_eq_some_iff] at e
    obtain ⟨ps, e1, rfl⟩ := e
    simp only [PyData.hasDict]
    exact noDicts xs ps e1
  | .lst xs, p, e => by
    simp only [toPd, Option.map_eq_some_iff] at e
    obtain ⟨ps, e1, rfl⟩ := e
    simp only [PyData.hasDict]
    exact noDicts xs ps e1
  | .scr xs, p, e => by
    simp only [toPd, Option.map_eq_some_iff] at e
    obtain ⟨ps, e1, rfl⟩ := e
    simp only [PyData.hasDict]
    exact noDicts xs ps e1
  | .ins _ _, p, e => by simp [toPd] at e
  | .cell _, p, e => by simp [toPd] at e
theorem noDicts : ∀ (ds : List D) (ps : List PyData), toPds ds = some ps → PyData.hasDictAll ps = false
  | [], ps, e => by simp only [toPds, Option.some.injEq] at e; subst e; simp only [PyData.hasDictAll]
  | d :: ds, ps, e => by
    simp only [toPds] at e
    split at e
    · rename_i p qs e1 e2
      cases e
      simp only [PyData.hasDictAll, noDict d p e1, noDicts ds qs e2, Bool.or_false]
    · cases e
end
theorem noDict_now {M : Mem} {d : D} {p : PyData} (e : toPd (now M d) = some p) : p.hasDict = false := noDict _ _ e
theorem rep1 {w : Wd} {d : D} {xs : List V} (h : RepL G w [d] xs) : ∃ v, xs = [v] ∧ Rep G w d v := by
  simp only [RepL] at h
  obtain ⟨v, r, rfl, h1, rfl⟩ := h
  exact ⟨v, rfl, h1⟩
def biVal : Bi → Value
  | .int => .type "int" | .len => .builtin "len" | .abs => .builtin "abs" | .repr => .builtin "repr" | .str => .type "str" | .tuple => .type "tuple" | .list => .type "list" | .all => .builtin "all" | .any => .builtin "any" | .bool => .type "bool" | .min => .builtin "min" | .max => .builtin "max" | .sum => .builtin "sum" | .sorted => .builtin "sorted"
theorem call_repr (hK : X.K = G.K) (hu : X.A.units + 100 < cLine) (hg : X.A.guards = some []) {pins : List (Addr × Obj)} {s : Shared} {σ : L2.St} {w : Wd} {v : V} {u : Value} {Q : VK} {d : D} {p : PyData} (I : Inv X pins σ w.H s) (g : WOk G w) (r : Rep G w d v) (ru : RelV v u)
    (e : toPd (now w.M d) = some p) (hs : p.showable = true) (hd : p.depth ≤ 40) (hz : p.shown.length ≤ sizeLine) (q : Q (.str p.shown) w.H) : wpAny (model X.prog X.w) X.A (call (.builtin "repr") [u]) (EP X pins σ Q) X.xe s := by
  have hp := Rep.dpNow g r e
  rw [← hK] at hp
  obtain ⟨as, rd⟩ := Dp.reads I p v u hp ru
  have nd := noDict_now e
  cases rd with
  | none =>
    have q' : Q (.str "None") w.H := by simpa [PyData.shown] using q
    exact PySem.P.repr_of_none ⟨.str _, w.H, I.tok _, ⟨_, rfl⟩, q'⟩
  | bool b =>
    have q' : Q (.str (if b then "True" else "False")) w.H := by
      cases b <;> simpa [PyData.shown] using q
    exact PySem.P.repr_of_bool ⟨.str _, w.H, I.tok _, ⟨_, rfl⟩, q'⟩
  | int i t =>
    have q' : Q (.str (toString i)) w.H := by simpa [PyData.shown] using q
    have hi : i.natAbs.log2 < 1920 := by simpa [PyData.showable] using hs
    exact PySem.P.repr_of_int hi ⟨.str _, w.H, I.tok _, ⟨_, rfl⟩, q'⟩
  | str x t =>
    have q' : Q (.str (reprText x)) w.H := by simpa [PyData.shown] using q
    exact PySem.P.repr_of_str ⟨.str _, w.H, I.tok _, ⟨_, rfl⟩, q'⟩ (by simpa [PyData.shown] using hz)
  | list h1 h2 h3 h4 =>
    refine PySem.repr_of_reads' (Reads.list h1 h2 h3 h4) hs (PyData.noDict_hsm nd) hg (by omega) (fun _ _ x => x) (fun h' tu tk hk => ?_) hz
    exact ⟨.str _, w.H, I.kept (t' := tk) hk, ⟨_, rfl⟩, q⟩
  | tuple h1 h2 h3 h4 =>
    refine PySem.repr_of_reads' (Reads.tuple h1 h2 h3 h4) hs (PyData.noDict_hsm nd) hg (by omega) (fun _ _ x => x) (fun h' tu tk hk => ?_) hz
    exact ⟨.str _, w.H, I.kept (t' := tk) hk, ⟨_, rfl⟩, q⟩
  | dict _ _ _ _ _ => simp [PyData.hasDict] at nd
theorem reads_pr1 (hK : X.K = G.K) {pins : List (Addr × Obj)} {s : Shared} {σ : L2.St} {w : Wd} {d : D} {v : V} {u : Value} {p : PyData} (I : Inv X pins σ w.H s) (r : Rep G w d v) (ru : RelV v u) (e : toPr1 d = some p) : ∃ as, Reads s.heap u p as ∧ (p.hasDict = true → sysModules ∉ as) := by
  by_cases hd : ∃ kvs, d = .dct kvs
  · obtain ⟨kvs, rfl⟩ := hd
    simp only [toPr1] at e
    obtain ⟨ps, h, rfl⟩ := Option.map_eq_some_iff.mp e
    simp only [Rep] at r
    obtain ⟨a, vs, rfl, q, rk⟩ := r
    cases ru
    obtain ⟨h1, h2⟩ := dct_reads I q.1 rk h
    exact ⟨[a], h1, fun _ z => h2 (List.mem_singleton.mp z).symm⟩
  · have e' : toPd d = some p := by
      cases d <;> first | exact e | exact absurd ⟨_, rfl⟩ hd
    have hp := Rep.dp d v p r e'
    rw [← hK] at hp
    obtain ⟨as, rd⟩ := Dp.reads I p v u hp ru
    exact ⟨as, rd, fun z => by rw [noDict d p e'] at z; cases z⟩
theorem all_pr (hK : X.K = G.K) {pins : List (Addr × Obj)} {s : Shared} {σ : L2.St} {w : Wd} (I : Inv X pins σ w.H s) : ∀ {ds : List D} {vs : List V} {us : List Value} {ps : List PyData}, RepL G w ds vs → Vals vs us → toPrs ds = some ps →
    PyData.showableAll ps = true → (∀ t ∈ PyData.shownAll ps, t.length ≤ sizeLine) →
    (∃ as, ReadsAll s.heap us ps as) ∧ ∃ bs, ReadAtMost s.heap (PyData.depthAll ps) bs ∧ ReprAllK X.prog X.w bs s.heap (PyData.depthAll ps) us (PyData.shownAll ps)
  | [], _, _, _, r, q, e, _, _ => by
    simp only [RepL] at r; subst r
    cases q
    simp only [toPrs, Option.some.injEq] at e; subst e
    refine ⟨⟨[], .nil⟩, [], fun _ z => (nomatch z), ?_⟩
    simp only [PyData.shownAll]
    exact ReprAllK.nil
  | d :: ds, _, _, _, r, q, e, hs, hz => by
    simp only [RepL] at r
    obtain ⟨v, rs, rfl, r1, r2⟩ := r
    cases q with
    | cons q1 q2 =>
      simp only [toPrs] at e
      split at e
      · rename_i p ps' e1 e2
        cases e
        simp only [PyData.showableAll, Bool.and_eq_true] at hs
        simp only [PyData.shownAll, List.mem_cons] at hz
        obtain ⟨as, a1, a2⟩ := reads_pr1 hK I r1 q1 e1
        obtain ⟨⟨cs, c1⟩, bs, b1, b2⟩ := all_pr hK I r2 q2 e2 hs.2 fun t ht => hz t (.inr ht)
        obtain ⟨ks, k1, k2⟩ := ReprK.of_reads (prog := X.prog) (w := X.w) a1 hs.1 a2 (hz _ (.inl rfl))
        have m1 : p.depth ≤ PyData.depthAll (p :: ps') := by simp only [PyData.depthAll]; exact Nat.le_max_left _ _
        have m2 : PyData.depthAll ps' ≤ PyData.depthAll (p :: ps') := by simp only [PyData.depthAll]; exact Nat.le_max_right _ _
        refine ⟨⟨_, ReadsAll.cons a1 c1⟩, ks ++ bs, (k1.mono m1).append (b1.mono m2), ?_⟩
        have t1 := (k2.more (as' := ks ++ bs) fun z hz => List.mem_append.mpr (.inl hz)).level_le m1
        have t2 := b2.more_le (as' := ks ++ bs) (fun z hz => List.mem_append.mpr (.inr hz)) m2
        simp only [PyData.shownAll]
        exact ReprAllK.cons t1 t2
      · cases e
theorem repr_of_shows {A : Around} {E : Value → Shared → Prop} {s : Shared} {Q : Value → Shared → Prop} {a : Addr} {d : PyData} {T idr : String} (S : ShowsBy X.prog X.w s.heap a d T idr) (hg : A.guards = some []) (hu : A.units + (d.depth + 1) < cLine)
    (hQ : ∀ h' u tk, (∀ b o, s.heap.get? b = some o → h'.get? b = some o) → Q (.str d.shown u) { s with heap := h', toks := tk }) : wpAny (model X.prog X.w) A (call (.builtin "repr") [.ref a]) Q E s := by
  have hu1 : A.units + 1 + d.depth < cLine := by omega
  refine call_repr_slot (by omega) (S.typeIs s fun _ _ z => z) S.slotRepr (S.call A.in1 E s _ hg hu1 (fun _ _ z => z) fun h' u tk hk => ?_)
  exact ⟨_, _, rfl, hQ h' u tk hk⟩
theorem call_repr2 (hK : X.K = G.K) (hu : X.A.units + 100 < cLine) (hg : X.A.guards = some []) {pins : List (Addr × Obj)} {s : Shared} {σ : L2.St} {w : Wd} {v : V} {u : Value} {Q : VK} {d : D} {p : PyData} (I : Inv X pins σ w.H s) (g : WOk G w) (r : Rep G w d v) (ru : RelV v u)
    (e : toPr (now w.M d) = some p) (hs : p.showable = true) (hd : p.depth ≤ 40) (hz : p.shown.length ≤ sizeLine) (q : Q (.str p.shown) w.H) : wpAny (model X.prog X.w) X.A (call (.builtin "repr") [u]) (EP X pins σ Q) X.xe s := by
  have fin : ∀ {a : Addr} {T idr : String}, ShowsBy X.prog X.w s.heap a p T idr → wpAny (model X.prog X.w) X.A (call (.builtin "repr") [.ref a]) (EP X pins σ Q) X.xe s := fun S =>
    repr_of_shows S hg (by omega) fun h' tu tk hk => ⟨.str _, w.H, I.kept (t' := tk) hk, ⟨_, rfl⟩, q⟩
  have lst : ∀ xs, seqL w.M d = some xs → wpAny (model X.prog X.w) X.A (call (.builtin "repr") [u]) (EP X pins σ Q) X.xe s := fun xs hx => by
    have en : now w.M d = .lst xs := by unfold now; rw [hx]
    rw [en] at e
    simp only [toPr] at e
    obtain ⟨ps, h, rfl⟩ := Option.map_eq_some_iff.mp e
    obtain ⟨a, vs, rfl, h1, h2⟩ := Rep.lst g r hx
    cases ru
    rw [← hK] at h1
    obtain ⟨its, rv, ⟨o, n, ho, hc, _, hd'⟩, _⟩ := I.list h1
    have hz' : (listText (PyData.shownAll ps)).length ≤ sizeLine := by simpa only [PyData.shown] using hz
    obtain ⟨⟨as, ra⟩, bs, hb, hk⟩ := all_pr hK I h2 rv h (by simpa only [PyData.showable] using hs) fun t ht => Nat.le_trans (listText_mem_le ht) hz'
    have deep : PyData.depthAll ps < (PyData.list ps).depth := by simp only [PyData.depth]; omega
    have hna : a ∉ bs := not_mem_of_deeper (Reads.list ho hc hd' ra) deep hb
    refine fin (T := "list") (idr := "list.__repr__") ⟨F.slot_list_repr.toG, F.slot_list_str, F.slot_list_format, fun s2 hk0 => ⟨o, hk0 _ _ ho, hc⟩, fun A E s2 Q2 hg2 hu2 hk0 hQ => ?_⟩
    simp only [PyData.depth] at hu2
    simp only [PyData.shown] at hQ
    cases its with
    | nil =>
      cases ra
      simp only [PyData.shownAll, listText_nil] at hQ
      exact call_list_repr_empty ⟨o, hk0 _ _ ho, hc⟩ (hk0 _ _ ho) hd' (hQ s2.heap _ _ fun _ _ z => z)
    | cons y ys =>
      refine call_list_reprK ho hc hd' hna (by simpa using hk.length_eq) (fun i z ez => ?_) hg2 (fun b _ => Clear.nil b) hu2 hk0 hQ hz'
      exact hk.item i z (by simpa using ez)
  cases d with
  | tup xs =>
    have en : now w.M (.tup xs) = .tup xs := rfl
    rw [en] at e
    simp only [toPr] at e
    obtain ⟨ps, h, rfl⟩ := Option.map_eq_some_iff.mp e
    obtain ⟨a, vs, rfl, h1, h2⟩ := Rep.tup r
    cases ru
    rw [← hK] at h1
    obtain ⟨its, rv, ⟨o, ho, hc, n, hd'⟩, _⟩ := I.tuple h1
    have hz' : (tupleText (PyData.shownAll ps)).length ≤ sizeLine := by simpa only [PyData.shown] using hz
    obtain ⟨⟨as, ra⟩, bs, hb, hk⟩ := all_pr hK I h2 rv h (by simpa only [PyData.showable] using hs) fun t ht => Nat.le_trans (tupleText_mem_le ht) hz'
    have deep : PyData.depthAll ps < (PyData.tuple ps).depth := by simp only [PyData.depth]; omega
    have hna : a ∉ bs := not_mem_of_deeper (Reads.tuple ho hc hd' ra) deep hb
    refine fin (T := "tuple") (idr := "tuple.__repr__") ⟨F.slot_tuple_repr, F.slot_tuple_str, F.slot_tuple_format, fun s2 hk0 => ⟨o, hk0 _ _ ho, hc⟩, fun A E s2 Q2 hg2 hu2 hk0 hQ => ?_⟩
    simp only [PyData.depth] at hu2
    simp only [PyData.shown] at hQ
    exact call_tuple_reprK ho hc hd' hna hk hg2 (fun b _ => Clear.nil b) hu2 hk0 hQ hz'
  | lst xs => exact lst xs rfl
  | scr xs => exact lst xs rfl
  | cell i =>
    cases hx : seqL w.M (.cell i) with
    | some xs => exact lst xs hx
    | none => simp [now, hx, toPr] at e
  | dct kvs =>
    have en : now w.M (.dct kvs) = .dct kvs := rfl
    rw [en] at e
    simp only [toPr] at e
    obtain ⟨ps, h, rfl⟩ := Option.map_eq_some_iff.mp e
    simp only [Rep] at r
    obtain ⟨a, vs, rfl, qa, rk⟩ := r
    cases ru
    obtain ⟨h1, h2⟩ := dct_reads I qa.1 rk h
    refine PySem.repr_of_reads' h1 hs (fun _ z => h2 (List.mem_singleton.mp z).symm) hg (by omega) (fun _ _ z => z) (fun h' tu tk hk => ?_) hz
    exact ⟨.str _, w.H, I.kept (t' := tk) hk, ⟨_, rfl⟩, q⟩
  | _ => simp [now, seqL, toPr] at e
/-- str of a list -/
theorem call_strL (hK : X.K = G.K) (hu : X.A.units + 100 < cLine) (hg : X.A.guards = some []) {pins : List (Addr × Obj)} {s : Shared} {σ : L2.St} {w : Wd} {v : V} {u : Value} {Q : VK} {xs : List D} {ps : List PyData} (I : Inv X pins σ w.H s) (g : WOk G w) (r : Rep G w (.lst xs) v) (ru : RelV v u)
    (e : toPds xs = some ps) (hs : (PyData.list ps).showable = true) (hd : (PyData.list ps).depth ≤ 40) (hz : (PyData.list ps).shown.length ≤ sizeLine) (q : Q (.str (PyData.list ps).shown) w.H) : wpAny (model X.prog X.w) X.A (call (.type "str") [u]) (EP X pins σ Q) X.xe s := by
  have e' : toPd (.lst xs) = some (.list ps) := by simp only [toPd, e, Option.map_some]
  have hp := Rep.dp _ v _ r e'
  rw [← hK] at hp
  obtain ⟨as, rd⟩ := Dp.reads I _ v u hp ru
  simp only [Rep] at r
  obtain ⟨a, vs, rfl, _⟩ := r
  cases ru
  refine PySem.str_of_reads rd hs (PyData.noDict_hsm (noDict _ _ e')) hg (by omega) (fun _ _ z => z) (fun h' tu tk hk => ?_) hz
  exact ⟨.str _, w.H, I.kept (t' := tk) hk, ⟨_, rfl⟩, q⟩
theorem rep2 {w : Wd} {d e : D} {xs : List V} (h : RepL G w [d, e] xs) : ∃ v u, xs = [v, u] ∧ Rep G w d v ∧ Rep G w e u := by
  simp only [RepL] at h
  obtain ⟨v, r, rfl, h1, u, r2, rfl, h2, rfl⟩ := h
  exact ⟨v, u, rfl, h1, h2⟩
theorem rep_bls {w : Wd} : ∀ {ds : List D} {vs : List V} {bs : List Bool}, RepL G w ds vs → blsD ds = some bs → vs = bs.map V.bl
  | [], _, bs, h, e => by
    simp only [RepL] at h
    simp only [blsD, Option.some.injEq] at e
    subst h e
    rfl
  | .bl b :: ds, _, bs, h, e => by
    simp only [RepL] at h
    obtain ⟨v, r, rfl, h1, h2⟩ := h
    simp only [Rep] at h1
    subst h1
    simp only [blsD] at e
    obtain ⟨cs, hc, rfl⟩ := Option.map_eq_some_iff.mp e
    rw [rep_bls h2 hc]
    rfl
  | .non :: _, _, _, _, e => by simp [blsD] at e
  | .int _ :: _, _, _, _, e => by simp [blsD] at e
  | .str _ :: _, _, _, _, e => by simp [blsD] at e
  | .tup _ :: _, _, _, _, e => by simp [blsD] at e
  | .lst _ :: _, _, _, _, e => by simp [blsD] at e
  | .scr _ :: _, _, _, _, e => by simp [blsD] at e
  | .ins _ _ :: _, _, _, _, e => by simp [blsD] at e
  | .cell _ :: _, _, _, _, e => by simp [blsD] at e
theorem rep_ints {w : Wd} : ∀ {ds : List D} {vs : List V} {ns : List Int}, RepL G w ds vs → intsD ds = some ns → vs = ns.map V.int
  | [], _, _, r, e => by
    simp only [RepL] at r; subst r
    simp only [intsD, Option.some.injEq] at e; subst e
    rfl
  | .int i :: ds, _, _, r, e => by
    simp only [RepL] at r
    obtain ⟨v, q, rfl, r1, r2⟩ := r
    simp only [intsD] at e
    obtain ⟨ns, e1, rfl⟩ := Option.map_eq_some_iff.mp e
    simp only [Rep] at r1; subst r1
    rw [rep_ints r2 e1]
    rfl
  | .non :: _, _, _, _, e => by simp [intsD] at e
  | .bl _ :: _, _, _, _, e => by simp [intsD] at e
  | .str _ :: _, _, _, _, e => by simp [intsD] at e
  | .tup _ :: _, _, _, _, e => by simp [intsD] at e
  | .lst _ :: _, _, _, _, e => by simp [intsD] at e
  | .scr _ :: _, _, _, _, e => by simp [intsD] at e
  | .ins _ _ :: _, _, _, _, e => by simp [intsD] at e
  | .dct _ :: _, _, _, _, e => by simp [intsD] at e
  | .cell _ :: _, _, _, _, e => by simp [intsD] at e
theorem rep_lsts {w : Wd} : ∀ {ds : List D} {vs : List V} {xss : List (List D)}, RepL G w ds vs → lstsD ds = some xss → ∃ (ls : List Addr) (vss : List (List V)), vs = ls.map V.ref ∧ Paired (fun l xs => w.H l = some (.lst xs)) ls vss ∧ RepL G w xss.flatten vss.flatten ∧ (ls = [] → xss = [])
  | [], _, _, r, e => by
    simp only [RepL] at r; subst r
    simp only [lstsD, Option.some.injEq] at e; subst e
    exact ⟨[], [], rfl, .nil, RepL.nil, fun _ => rfl⟩
  | .lst xs :: ds, _, _, r, e => by
    simp only [RepL] at r
    obtain ⟨v, q, rfl, r1, r2⟩ := r
    simp only [lstsD] at e
    obtain ⟨xss, e1, rfl⟩ := Option.map_eq_some_iff.mp e
    obtain ⟨ls, vss, rfl, h1, h2, _⟩ := rep_lsts r2 e1
    simp only [Rep] at r1
    obtain ⟨a, us, rfl, q1, q2⟩ := r1
    exact ⟨a :: ls, us :: vss, rfl, .cons q1.1 h1, by rw [List.flatten_cons, List.flatten_cons]; exact q2.append h2, fun z => by cases z⟩
  | .non :: _, _, _, _, e => by simp [lstsD] at e
  | .bl _ :: _, _, _, _, e => by simp [lstsD] at e
  | .int _ :: _, _, _, _, e => by simp [lstsD] at e
  | .str _ :: _, _, _, _, e => by simp [lstsD] at e
  | .tup _ :: _, _, _, _, e => by simp [lstsD] at e
  | .scr _ :: _, _, _, _, e => by simp [lstsD] at e
  | .ins _ _ :: _, _, _, _, e => by simp [lstsD] at e
  | .dct _ :: _, _, _, _, e => by simp [lstsD] at e
  | .cell _ :: _, _, _, _, e => by simp [lstsD] at e
theorem sorted_one {ns ms : List Int} (h : ms.Perm ns) (hs : ms.Pairwise (· ≤ ·)) : ms = ns.mergeSort fun a b => decide (a ≤ b) := by
  refine List.Perm.eq_of_pairwise (le := fun a b : Int => a ≤ b) (fun a b _ _ h1 h2 => Int.le_antisymm h1 h2) hs ?_ (h.trans (List.mergeSort_perm ns _).symm)
  have := List.pairwise_mergeSort (le := fun a b : Int => decide (a ≤ b)) (fun a b c h1 h2 => by simp only [decide_eq_true_eq] at *; omega) (fun a b => by simp only [Bool.or_eq_true, decide_eq_true_eq]; omega) ns
  exact this.imp fun h => of_decide_eq_true h
theorem call_bi (hc : X.calm = true) (hK : X.K = G.K) (hu : X.A.units + 100 < cLine) (hg : X.A.guards = some []) (b : Bi) : CallR X (biVal b) (rCall G (evBi b)) := by
  intro pins s σ H xs us Q I r h
  obtain ⟨w, ds, z, rfl, g, rl, hz, q⟩ := h
  unfold evBi at hz
  split at hz
  · obtain ⟨v, rfl, r1⟩ := rep1 rl
    simp only [Rep] at r1; subst r1; cases hz
    exact call_int1 pins s σ w.H _ us Q I r (.inl ⟨_, rfl, q.same g rep_int⟩)
  · obtain ⟨v, rfl, r1⟩ := rep1 rl
    simp only [Rep] at r1; subst r1; cases hz
    exact call_int1 pins s σ w.H _ us Q I r (.inr ⟨_, rfl, q.same g rep_int⟩)
  · obtain ⟨v, rfl, r1⟩ := rep1 rl
    simp only [Rep] at r1; subst r1; cases hz
    exact call_abs pins s σ w.H _ us Q I r ⟨_, rfl, q.same g rep_int⟩
  · rename_i d
    obtain ⟨v, rfl, r1⟩ := rep1 rl
    split at hz
    rotate_left
    · split at hz
      · simp only [Rep] at r1; subst r1
        split at hz
        · rename_i hl
          cases hz
          exact call_len_str pins s σ w.H _ us Q I r ⟨_, rfl, hl, q.same g rep_int⟩
        · cases hz
      · cases hz
    rename_i ys hy
    cases hz
    by_cases ht : ∃ ys, d = .tup ys
    · obtain ⟨zs, rfl⟩ := ht
      simp only [seqA, Option.some.injEq] at hy
      subst hy
      obtain ⟨a, vs, rfl, h1, h2⟩ := Rep.tup r1
      exact call_len_seq pins s σ w.H _ us Q I r ⟨a, vs, rfl, .inr (by rw [hK]; exact h1), by rw [← h2.length]; exact q.same g rep_int⟩
    · have hy' : seqL w.M d = some ys := by
        cases d <;> first | exact hy | exact absurd ⟨_, rfl⟩ ht
      obtain ⟨a, vs, rfl, h1, h2⟩ := Rep.lst g r1 hy'
      exact call_len_seq pins s σ w.H _ us Q I r ⟨a, vs, rfl, .inl (by rw [hK]; exact h1), by rw [← h2.length]; exact q.same g rep_int⟩
  · rename_i d
    obtain ⟨v, rfl, r1⟩ := rep1 rl
    split at hz
    · rename_i p hp
      split at hz
      · rename_i hc
        cases hz
        obtain ⟨u, rfl, ru⟩ := vals1 r
        exact call_repr hK hu hg I g r1 ru hp hc.1 hc.2.1 hc.2.2 (q.same g rep_str)
      · cases hz
    · split at hz
      · rename_i p hp
        split at hz
        · rename_i hc
          cases hz
          obtain ⟨u, rfl, ru⟩ := vals1 r
          exact call_repr2 hK hu hg I g r1 ru hp hc.1 hc.2.1 hc.2.2 (q.same g rep_str)
        · cases hz
      · cases hz
  · rename_i ys
    obtain ⟨v, rfl, r1⟩ := rep1 rl
    cases hz
    have r1' := r1
    obtain ⟨a, vs, rfl, h1, h2⟩ := Rep.tup r1
    exact call_tuple_of pins s σ w.H _ us Q I r ⟨a, vs, rfl, .inr ⟨by rw [hK]; exact h1, q.same g r1'⟩⟩
  · rename_i d _
    obtain ⟨v, rfl, r1⟩ := rep1 rl
    obtain ⟨ys, hy, rfl⟩ := Option.map_eq_some_iff.mp hz
    obtain ⟨a, vs, rfl, h1, h2⟩ := Rep.lst g r1 hy
    exact call_tuple_of pins s σ w.H _ us Q I r ⟨a, vs, rfl, .inl ⟨by rw [hK]; exact h1, q.tup g h2⟩⟩
  · rename_i d
    obtain ⟨v, rfl, r1⟩ := rep1 rl
    obtain ⟨ys, hy, rfl⟩ := Option.map_eq_some_iff.mp hz
    by_cases ht : ∃ ys, d = .tup ys
    · obtain ⟨zs, rfl⟩ := ht
      simp only [seqA, Option.some.injEq] at hy
      subst hy
      obtain ⟨a, vs, rfl, h1, h2⟩ := Rep.tup r1
      exact call_list_of pins s σ w.H _ us Q I r ⟨a, vs, rfl, .inr (by rw [hK]; exact h1), q.lst g h2⟩
    · have hy' : seqL w.M d = some ys := by
        cases d <;> first | exact hy | exact absurd ⟨_, rfl⟩ ht
      obtain ⟨a, vs, rfl, h1, h2⟩ := Rep.lst g r1 hy'
      exact call_list_of pins s σ w.H _ us Q I r ⟨a, vs, rfl, .inl (by rw [hK]; exact h1), q.lst g h2⟩
  · obtain ⟨v, rfl, r1⟩ := rep1 rl
    obtain ⟨bs, hb, rfl⟩ := Option.map_eq_some_iff.mp hz
    obtain ⟨ys, hy, hb⟩ := Option.bind_eq_some_iff.mp hb
    obtain ⟨a, vs, rfl, h1, h2⟩ := Rep.lst g r1 hy
    rw [rep_bls h2 hb] at h1
    exact cr_all hc pins s σ w.H _ us Q I r ⟨a, bs, rfl, by rw [hK]; exact h1, q.same g rep_bl⟩
  · obtain ⟨v, rfl, r1⟩ := rep1 rl
    obtain ⟨bs, hb, rfl⟩ := Option.map_eq_some_iff.mp hz
    obtain ⟨ys, hy, hb⟩ := Option.bind_eq_some_iff.mp hb
    obtain ⟨a, vs, rfl, h1, h2⟩ := Rep.lst g r1 hy
    rw [rep_bls h2 hb] at h1
    exact cr_any hc pins s σ w.H _ us Q I r ⟨a, bs, rfl, by rw [hK]; exact h1, q.same g rep_bl⟩
  · obtain ⟨v, rfl, r1⟩ := rep1 rl
    simp only [Rep] at r1; subst r1; cases hz
    exact call_bool1 pins s σ w.H _ us Q I r (.inl ⟨_, rfl, q.same g rep_bl⟩)
  · obtain ⟨v, rfl, r1⟩ := rep1 rl
    simp only [Rep] at r1; subst r1; cases hz
    exact call_bool1 pins s σ w.H _ us Q I r (.inr ⟨_, rfl, q.same g rep_bl⟩)
  · obtain ⟨v, rfl, r1⟩ := rep1 rl
    obtain ⟨ys, hy, rfl⟩ := Option.map_eq_some_iff.mp hz
    obtain ⟨a, vs, rfl, h1, h2⟩ := Rep.lst g r1 hy
    have e : ys.isEmpty = vs.isEmpty := by
      have := h2.length
      cases ys <;> cases vs <;> first | rfl | (simp at this)
    exact call_boolL pins s σ w.H _ us Q I r ⟨a, vs, rfl, by rw [hK]; exact h1, by rw [← e]; exact q.same g rep_bl⟩
  · obtain ⟨v, v2, rfl, r1, r2⟩ := rep2 rl
    simp only [Rep] at r1 r2; subst r1 r2; cases hz
    exact call_min2 hc pins s σ w.H _ us Q I r ⟨_, _, rfl, q.same g rep_int⟩
  · obtain ⟨v, v2, rfl, r1, r2⟩ := rep2 rl
    simp only [Rep] at r1 r2; subst r1 r2; cases hz
    exact call_max2 hc pins s σ w.H _ us Q I r ⟨_, _, rfl, q.same g rep_int⟩
  · obtain ⟨v, rfl, r1⟩ := rep1 rl
    simp only [Rep] at r1; subst r1
    split at hz
    · rename_i hl
      cases hz
      exact call_str_int pins s σ w.H _ us Q I r ⟨_, rfl, hl, q.same g rep_str⟩
    · cases hz
  · obtain ⟨v, rfl, r1⟩ := rep1 rl
    simp only [Rep] at r1; subst r1; cases hz
    exact SkE.call_str_str pins s σ w.H _ us Q I r ⟨_, rfl, q.same g rep_str⟩
  · obtain ⟨v, rfl, r1⟩ := rep1 rl
    split at hz
    · rename_i ps hp
      split at hz
      · rename_i hc
        cases hz
        obtain ⟨u, rfl, ru⟩ := vals1 r
        exact call_strL hK hu hg I g r1 ru hp hc.1 hc.2.1 hc.2.2 (q.same g rep_str)
      · cases hz
    · cases hz
  · obtain ⟨v, rfl, r1⟩ := rep1 rl
    obtain ⟨ns, hn, rfl⟩ := Option.map_eq_some_iff.mp hz
    obtain ⟨ys, hy, hn⟩ := Option.bind_eq_some_iff.mp hn
    obtain ⟨a, vs, rfl, h1, h2⟩ := Rep.lst g r1 hy
    rw [rep_ints h2 hn] at h1
    exact cr_sum hc pins s σ w.H _ us Q I r ⟨a, ns, rfl, by rw [hK]; exact h1, q.same g rep_int⟩
  · obtain ⟨v, v2, rfl, r1, r2⟩ := rep2 rl
    obtain ⟨xss, hn, hz⟩ := Option.bind_eq_some_iff.mp hz
    obtain ⟨ys, hy, hn⟩ := Option.bind_eq_some_iff.mp hn
    split at hz
    · rename_i hl
      cases hz
      obtain ⟨a, vs, rfl, h1, h2⟩ := Rep.lst g r1 hy
      obtain ⟨ls, vss, rfl, p1, p2, p3⟩ := rep_lsts h2 hn
      have r2' := r2
      simp only [Rep, RepL] at r2
      obtain ⟨b, us', rfl, q1, rfl⟩ := r2
      refine call_sumL hc pins s σ w.H _ us Q I r ⟨a, b, ls, vss, rfl, by rw [hK]; exact h1, q1.1, p1, by rw [← p2.length]; exact hl, fun z => ?_, q.lst g p2⟩
      rw [p3 z] at q
      exact q.same g r2'
    · cases hz
  · obtain ⟨v, rfl, r1⟩ := rep1 rl
    obtain ⟨ns, hn, rfl⟩ := Option.map_eq_some_iff.mp hz
    obtain ⟨ys, hy, hn⟩ := Option.bind_eq_some_iff.mp hn
    obtain ⟨a, vs, rfl, h1, h2⟩ := Rep.lst g r1 hy
    rw [rep_ints h2 hn] at h1
    refine cr_sortedI pins s σ w.H _ us Q I r ⟨a, ns, rfl, by rw [hK]; exact h1, fun ms p hp hs hn => ?_⟩
    rw [sorted_one hp hs]
    exact q.lst g (RepL.ints _) p hn
  · cases hz
/-! ### isinstance -/
theorem tyx_D {w : Wd} {d : D} {v : V} (g : WOk G w) (r : Rep G w d v) {T : String} {l : List String} (h : tyOf d = some (T, l)) (hd : ∀ kvs, d ≠ .dcn kvs) : TyX G.K w.H v (.type T) := by
  cases d with
  | non => simp only [Rep] at r; subst r; simp only [tyOf, Option.some.injEq, Prod.mk.injEq] at h; rw [← h.1]; exact .base .non
  | bl _ => simp only [Rep] at r; subst r; simp only [tyOf, Option.some.injEq, Prod.mk.injEq] at h; rw [← h.1]; exact .base (.bl _)
  | int _ => simp only [Rep] at r; subst r; simp only [tyOf, Option.some.injEq, Prod.mk.injEq] at h; rw [← h.1]; exact .base (.int _)
  | str _ => simp only [Rep] at r; subst r; simp only [tyOf, Option.some.injEq, Prod.mk.injEq] at h; rw [← h.1]; exact .base (.str _)
  | tup xs =>
    simp only [Rep] at r; simp only [tyOf, Option.some.injEq, Prod.mk.injEq] at h; rw [← h.1]
    obtain ⟨a, vs, rfl, h1 | ⟨o, its, n, h1, h2, _⟩, _⟩ := r
    · exact .base (.tup h1.1)
    · exact .kTuple h1 h2
  | lst xs =>
    simp only [Rep] at r; simp only [tyOf, Option.some.injEq, Prod.mk.injEq] at h; rw [← h.1]
    obtain ⟨a, vs, rfl, h1, _⟩ := r
    exact .base (.lst h1.1)
  | scr xs =>
    simp only [Rep] at r; simp only [tyOf, Option.some.injEq, Prod.mk.injEq] at h; rw [← h.1]
    obtain ⟨a, vs, rfl, ⟨o, h1⟩ | ⟨o, its, n, h1, h2, _⟩, _⟩ := r
    · exact .base (.frz h1.1)
    · exact .kList h1 h2
  | ins _ _ => simp [tyOf] at h
  | dct _ =>
    simp only [Rep] at r; simp only [tyOf, Option.some.injEq, Prod.mk.injEq] at h; rw [← h.1]
    obtain ⟨a, vs, rfl, h1, _⟩ := r
    exact .base (.dK h1.1)
  | dcn kvs => exact absurd rfl (hd kvs)
  | cell _ => simp [tyOf] at h
theorem kit_all : (["NoneType", "bool", "int", "str", "tuple", "list", "dict"].all fun a => tyAsk.all fun b => kitB a b == some ((match a with | "NoneType" => ["NoneType"] | "bool" => ["bool", "int"] | "int" => ["int"] | "str" => ["str"] | "tuple" => ["tuple"] | "list" => ["list"] | _ => ["dict"]).contains b)) = true := by decide +kernel
theorem kit_D {d : D} {T t : String} {l : List String} (h : tyOf d = some (T, l)) (ht : tyAsk.contains t = true) : kitB T t = some (l.contains t) := by
  have k := kit_all
  simp only [List.all_cons, List.all_nil, Bool.and_eq_true, Bool.and_true] at k
  obtain ⟨k1, k2, k3, k4, k5, k6, k7⟩ := k
  have hm : t ∈ tyAsk := by simpa using ht
  have use : ∀ {a : String} {m : List String}, (tyAsk.all fun b => kitB a b == some (m.contains b)) = true → kitB a t = some (m.contains t) := fun h => by
    have := List.all_eq_true.mp h t hm
    simpa using this
  cases d with
  | non => simp only [tyOf, Option.some.injEq, Prod.mk.injEq] at h; rw [← h.1, ← h.2]; exact use k1
  | bl _ => simp only [tyOf, Option.some.injEq, Prod.mk.injEq] at h; rw [← h.1, ← h.2]; exact use k2
  | int _ => simp only [tyOf, Option.some.injEq, Prod.mk.injEq] at h; rw [← h.1, ← h.2]; exact use k3
  | str _ => simp only [tyOf, Option.some.injEq, Prod.mk.injEq] at h; rw [← h.1, ← h.2]; exact use k4
  | tup _ => simp only [tyOf, Option.some.injEq, Prod.mk.injEq] at h; rw [← h.1, ← h.2]; exact use k5
  | lst _ => simp only [tyOf, Option.some.injEq, Prod.mk.injEq] at h; rw [← h.1, ← h.2]; exact use k6
  | scr _ => simp only [tyOf, Option.some.injEq, Prod.mk.injEq] at h; rw [← h.1, ← h.2]; exact use k6
  | dct _ => simp only [tyOf, Option.some.injEq, Prod.mk.injEq] at h; rw [← h.1, ← h.2]; exact use k7
  | dcn _ => simp only [tyOf, Option.some.injEq, Prod.mk.injEq] at h; rw [← h.1, ← h.2]; exact use k7
  | ins _ _ => simp [tyOf] at h
  | cell _ => simp [tyOf] at h
theorem isiD_ok {ts : List String} {d : D} {b : Bool} (h : isiD ts d = some b) : ∃ T l, tyOf d = some (T, l) ∧ (∀ t ∈ ts, tyAsk.contains t = true) ∧ b = ts.any l.contains := by
  unfold isiD at h
  split at h
  · rename_i T l e
    split at h
    · rename_i ha
      cases h
      exact ⟨T, l, e, fun t ht => List.all_eq_true.mp ha t ht, rfl⟩
    · cases h
  · cases h
theorem kitAny_D {K : PySem.W.Frag} {T : String} {l : List String} : ∀ {ts : List String}, (∀ t ∈ ts, kitB T t = some (l.contains t)) → PySem.W.kitAny K (.type T) (ts.map Value.type) = some (ts.any l.contains)
  | [], _ => rfl
  | t :: ts, h => by
    have h1 := kit_ty (K := K) (h t (List.mem_cons_self ..))
    have ih := kitAny_D (K := K) (T := T) (l := l) (ts := ts) fun x hx => h x (List.mem_cons_of_mem _ hx)
    refine kitAny_cons h1 (fun e => ?_) (fun e => ?_)
    · rw [ih, List.any_cons, e, Bool.false_or]
    · rw [List.any_cons, e, Bool.true_or]
def tyVs (ts : List String) : List V := ts.map V.ty
theorem paired_ty : ∀ (ts : List String), Paired ClsV (tyVs ts) (ts.map Value.type)
  | [] => .nil
  | t :: ts => .cons (.ty t) (paired_ty ts)
theorem d_dcn (d : D) : (∃ kvs, d = .dcn kvs) ∨ ∀ kvs, d ≠ .dcn kvs := by
  cases d with
  | dcn kvs => exact .inl ⟨kvs, rfl⟩
  | _ => exact .inr fun kvs z => by cases z
/-- isinstance(x, T) -/
theorem isi_one (hK : X.K = G.K) (hP : X.prog = G.prog) (hw : X.w = G.wd) {t : String} : CallR X (.builtin "isinstance") (fun xs H Q => ∃ w d b x, w.H = H ∧ WOk G w ∧ xs = [x, .ty t] ∧ Rep G w d x ∧ isiD [t] d = some b ∧ Q (.bl b) H) := by
  intro pins s σ H xs us Q I r h
  obtain ⟨w, d, b, x, rfl, g, rfl, r1, hb, q⟩ := h
  obtain ⟨T, l, e, ha, rfl⟩ := isiD_ok hb
  rcases d_dcn d with ⟨kvs, rfl⟩ | hd
  · have kd := kit_D e (ha t (List.mem_cons_self ..))
    simp only [tyOf, Option.some.injEq, Prod.mk.injEq] at e
    simp only [Rep] at r1
    obtain ⟨a, ys, rfl, h1, _⟩ := r1
    refine call_isi_n pins s σ w.H _ us Q I r ⟨a, ys, .ty t, .type t, _, rfl, by rw [hP, hw]; exact h1.1, .ty t, kit_ty (by rw [e.1]; exact kd), ?_⟩
    simpa using q
  · refine call_isi pins s σ w.H _ us Q I r ⟨x, .ty t, .type T, .type t, _, rfl, .ty t, by rw [hK]; exact tyx_D g r1 e hd, kit_ty (kit_D e (ha t (List.mem_cons_self ..))), ?_⟩
    simpa using q
/-- isinstance(x, (T, ..)) -/
theorem isi_many (hK : X.K = G.K) (hP : X.prog = G.prog) (hw : X.w = G.wd) {ts : List String} : CallR X (.builtin "isinstance") (fun xs H Q => ∃ w d b x tp, w.H = H ∧ WOk G w ∧ xs = [x, .ref tp] ∧ H tp = some (.tup (tyVs ts)) ∧ Rep G w d x ∧ isiD ts d = some b ∧ Q (.bl b) H) := by
  intro pins s σ H xs us Q I r h
  obtain ⟨w, d, b, x, tp, rfl, g, rfl, htp, r1, hb, q⟩ := h
  obtain ⟨T, l, e, ha, rfl⟩ := isiD_ok hb
  rcases d_dcn d with ⟨kvs, rfl⟩ | hd
  · have kd := kitAny_D (K := X.K) (ts := ts) fun t ht => kit_D e (ha t ht)
    simp only [tyOf, Option.some.injEq, Prod.mk.injEq] at e
    simp only [Rep] at r1
    obtain ⟨a, ys, rfl, h1, _⟩ := r1
    exact call_isiT_n pins s σ w.H _ us Q I r ⟨a, ys, tp, tyVs ts, ts.map Value.type, _, rfl, by rw [hP, hw]; exact h1.1, htp, paired_ty ts, by rw [e.1]; exact kd, q⟩
  · exact call_isiT pins s σ w.H _ us Q I r ⟨x, tp, tyVs ts, .type T, ts.map Value.type, _, rfl, htp, paired_ty ts, by rw [hK]; exact tyx_D g r1 e hd, kitAny_D fun t ht => kit_D e (ha t ht), q⟩
/-! ### methods -/
def mtTy : Mt → String
  | .append | .extend | .pop | .index => "list"
  | .join | .split | .startswith => "str"
def mtName : Mt → Str
  | .append => "append" | .extend => "extend" | .pop => "pop" | .index => "index" | .join => "join" | .split => "split" | .startswith => "startswith"
def mtId : Mt → String
  | .append => "list.append" | .extend => "list.extend" | .pop => "list.pop" | .index => "list.index" | .join => "str.join" | .split => "str.split" | .startswith => "str.startswith"
/-- what a method does -/
def rMeth (G : Gb) (m : Mt) : V → List V → Hp → VK → Prop := fun x xs H Q => ∃ w o ds z M', w.H = H ∧ WOk G w ∧ Rep G w o x ∧ RepL G w ds xs ∧ evMt m o ds w.M = some (z, M') ∧ ∀ w' v, Ext w w' → WOk G w' → w'.M = M' → Rep G w' z v → Q v w'.H
theorem put_lst {w : Wd} (g : WOk G w) {i : Nat} {a : Addr} {xs ys : List D} {vs : List V} (ha : w.as[i]? = some a) (hm : w.M[i]? = some (some (.lst xs))) (r : RepL G w ys vs) :
    WOk G (w.put i a (.lst ys) (.lst vs)) := by
  have x := ext_put (m := .lst ys) (o := .lst vs) ha hm
  exact wok_put g ha hm ⟨vs, upd_same, RepL.ext x _ _ r⟩
theorem cell_lst {w : Wd} (g : WOk G w) {i : Nat} {v : V} {xs : List D} (r : Rep G w (.cell i) v) (hm : w.M[i]? = some (some (.lst xs))) : ∃ a vs, v = .ref a ∧ w.as[i]? = some a ∧ w.H a = some (.lst vs) ∧ RepL G w xs vs := by
  simp only [Rep] at r
  obtain ⟨a, rfl, ha⟩ := r
  obtain ⟨vs, h1, h2⟩ := g.cell i a _ ha hm
  exact ⟨a, vs, rfl, ha, h1, h2⟩
theorem RepL.eraseIdx {w : Wd} : ∀ {ds : List D} {vs : List V} (i : Nat), RepL G w ds vs → RepL G w (ds.eraseIdx i) (vs.eraseIdx i)
  | [], _, _, h => by simp only [RepL] at h; subst h; simp only [List.eraseIdx_nil, RepL]
  | d :: ds, _, i, h => by
    simp only [RepL] at h
    obtain ⟨v, r, rfl, h1, h2⟩ := h
    cases i with
    | zero => exact h2
    | succ i => exact RepL.cons h1 (RepL.eraseIdx i h2)
theorem mt_D (hK : X.K = G.K) (hu : X.A.units + 65 < cLine) (m : Mt) : MtR X (mtId m) (rMeth G m) := by
  intro pins s σ H x xs v us Q I rx rxs h
  obtain ⟨w, o, ds, z, M', rfl, g, r1, rl, hz, q⟩ := h
  unfold evMt at hz
  split at hz
  · rename_i i d
    split at hz
    · rename_i ys hm
      split at hz
      · rename_i hl
        cases hz
        obtain ⟨a, vs, rfl, ha, h1, h2⟩ := cell_lst g r1 hm
        obtain ⟨y, rfl, r2⟩ := rep1 rl
        refine mt_append pins s σ w.H _ _ v us Q I rx rxs ⟨a, vs, y, rfl, rfl, h1, by rw [← h2.length]; exact hl, ?_⟩
        exact q (w.put i a (.lst (ys ++ [d])) (.lst (vs ++ [y]))) .non (ext_put ha hm) (put_lst g ha hm (h2.append (.cons r2 .nil))) rfl rep_non
      · cases hz
    · cases hz
  · rename_i i d
    split at hz
    · rename_i ys hm
      split at hz
      · rename_i zs
        split at hz
        · rename_i hl
          cases hz
          obtain ⟨a, vs, rfl, ha, h1, h2⟩ := cell_lst g r1 hm
          obtain ⟨y, rfl, r2⟩ := rep1 rl
          simp only [Rep] at r2
          obtain ⟨b, ws, rfl, h3, h4⟩ := r2
          refine mt_extend pins s σ w.H _ _ v us Q I rx rxs ⟨a, b, vs, ws, rfl, rfl, h1, h3.1, by rw [← h2.length, ← h4.length]; exact hl, ?_⟩
          exact q (w.put i a (.lst (ys ++ zs)) (.lst (vs ++ ws))) .non (ext_put ha hm) (put_lst g ha hm (h2.append h4)) rfl rep_non
        · cases hz
      · cases hz
    · cases hz
  · rename_i i kk
    split at hz
    · rename_i ys hm
      split at hz
      · rename_i j hj
        split at hz
        · rename_i y hy
          split at hz
          · rename_i hl
            cases hz
            obtain ⟨a, vs, rfl, ha, h1, h2⟩ := cell_lst g r1 hm
            obtain ⟨z, rfl, r2⟩ := rep1 rl
            have e : z = .int kk := by simpa only [Rep] using r2
            subst e
            obtain ⟨yv, e2, r3⟩ := h2.get hy
            refine mt_popAt pins s σ w.H _ _ v us Q I rx rxs ⟨a, vs, kk, j, yv, rfl, rfl, h1, hl.1, hl.2, by rw [← h2.length]; exact (ixN_seq hj).1, e2, ?_⟩
            have x := ext_put (m := .lst (ys.eraseIdx j)) (o := .lst (vs.eraseIdx j)) ha hm
            exact q (w.put i a (.lst (ys.eraseIdx j)) (.lst (vs.eraseIdx j))) yv x (put_lst g ha hm (h2.eraseIdx j)) rfl (Rep.ext x _ _ r3)
          · cases hz
        · cases hz
      · cases hz
    · cases hz
  · rename_i d
    split at hz
    · rename_i qs p e1 e2
      split at hz
      · rename_i hs
        simp only [Bool.and_eq_true, shapedB] at hs
        obtain ⟨j, hj, e⟩ := Option.map_eq_some_iff.mp hz
        cases e
        obtain ⟨y, rfl, r2⟩ := rep1 rl
        obtain ⟨hlt, hp, hno⟩ := List.findIdx?_eq_some_iff_getElem.mp hj
        have hd := Rep.dpNow g r1 e1
        have hx : ∃ a, x = V.ref a := by
          cases o <;> first | (simp [now, seqL, toPd] at e1; done) | (simp only [Rep] at r1; obtain ⟨a, r1⟩ := r1; first | exact ⟨a, r1.1⟩ | (obtain ⟨vs, e, _⟩ := r1; exact ⟨a, e⟩))
        obtain ⟨a, rfl⟩ := hx
        refine mt_indexD hu pins s σ w.H _ _ v us Q I rx rxs ⟨a, y, p, qs, j, qs[j], rfl, rfl, by rw [hK]; exact hd, by rw [hK]; exact Rep.dpNow g r2 e2, hs.1, hs.2, List.getElem?_eq_getElem hlt, hp, fun m z hm hz => ?_, ?_⟩
        · obtain ⟨hm', rfl⟩ := List.getElem?_eq_some_iff.mp hz
          have := hno m hm
          simpa using this
        · exact q w (.int j) (Ext.refl w) g rfl rep_int
      · cases hz
    · cases hz
  · cases hz
end
end Ev
set_option maxHeartbeats 4000000
/-! Ev5: which text an expression stands for; a text is worth what its expression is. -/
namespace Ev
open PySem L2
/-- a constant of the module -/
inductive GA where | int (i : Int) | str (s : Str)
  deriving DecidableEq
def GA.v : GA → V
  | .int i => .int i
  | .str s => .str s
def GA.d : GA → D
  | .int i => .int i
  | .str s => .str s
inductive GC where | int (i : Int) | str (s : Str) | tup (xs : List GA)
  deriving DecidableEq
def GCok (K : PySem.W.Frag) : GC → V → Prop
  | .int i, v => v = .int i
  | .str s, v => v = .str s
  | .tup xs, v => ∃ a, v = .ref a ∧ KSeq K "tuple" a (xs.map GA.v)
/-- a display of constants -/
def gaE : Ex → Option GA
  | .int i => some (.int i)
  | .str s => some (.str s)
  | _ => none
def gasE : List Ex → Option (List GA)
  | [] => some []
  | e :: es => match gaE e, gasE es with
    | some a, some as => some (a :: as)
    | _, _ => none
def gtB (sc : List (Str × GC)) (es : List Ex) (x : Str) : Bool := match gasE es with
  | some as => decide ((x, GC.tup as) ∈ sc) && decide (as.length ≤ 1000)
  | none => false
structure Cn where
  N : List Str
  sc : Scope
  /-- the names that may be stored -/
  st : Scope
  P : List Df
  /-- built-in names that the module does not store -/
  bs : List Str
  /-- its constants -/
  gs : List (Str × GC)
  /-- its classes -/
  cs : List Cf
def visB (sc : Scope) (x : Str) : Bool := match sc.names.lookup x with | some .local => true | some .cell => true | some .free => true | _ => false
def locB (sc : Scope) (x : Str) : Bool := match sc.names.lookup x with | some .local => true | some .cell => true | _ => false
def glB (sc : Scope) (x : Str) : Bool := match sc.names.lookup x with | some .globalImplicit => true | _ => false
def okName (x : Str) : Bool := !(x == ("__debug__" : Str)) && !(x == ("__classdict__" : Str)) && !(x == ("__name__" : Str))
def eqS (a b : Str) : Bool := decide (a = b)
def biName : Bi → Str
  | .int => "int" | .len => "len" | .abs => "abs" | .repr => "repr" | .str => "str" | .tuple => "tuple" | .list => "list" | .all => "all" | .any => "any" | .bool => "bool" | .min => "min" | .max => "max" | .sum => "sum" | .sorted => "sorted"
def attrOk : Expr → Bool
  | .Call (.Name _ _) [] [] _ => false
  | _ => true
def Cn.blk (Γ : Cn) (scope : Scope) : Cn := { Γ with sc := relS scope Γ.sc, st := scope }
def ownOf (N : List Str) (vs : List Nat) : List (Str × Nat) := vs.filterMap fun i => (N[i]?).map fun x => (x, i)
def mTy (Γ : Cn) (t : String) : Expr → Bool
  | .Name x _ => eqS x (Str.ofString t) && glB Γ.sc x && Γ.bs.contains x && okName x
  | _ => false
def mTys (Γ : Cn) : List String → List Expr → Bool
  | [], [] => true
  | t :: ts, e :: es => mTy Γ t e && mTys Γ ts es
  | _, _ => false
def mTyE (Γ : Cn) (ts : List String) : Expr → Bool
  | .Tuple es _ _ => mTys Γ ts es && decide (ts.length ≤ 100)
  | e => match ts with
    | [t] => mTy Γ t e
    | _ => false
/-- [::-1] -/
def isRev : Expr → Bool
  | .Slice none none (some (.UnaryOp .USub (.Constant (.int i) _ _) _)) _ => decide (i = 1)
  | _ => false
theorem isRev_of {e : Expr} (h : isRev e = true) : ∃ n p1 p2 p3, e = .Slice none none (some (.UnaryOp .USub (.Constant (.int 1) n p1) p2)) p3 := by
  unfold isRev at h
  split at h
  · have := of_decide_eq_true h
    subst this
    exact ⟨_, _, _, _, rfl⟩
  · cases h
/-- a name, or an integer that is written out -/
def atB : Ex → Expr → Bool
  | .var _, _ => true
  | .int _, .Constant _ _ _ => true
  | _, _ => false
/-- a def that stands at the module's top: its name begins with no dot -/
def topB (x : Str) : Bool := !decide (x.cps[0]? = some 46)
/-- a def by this name is a sort's key -/
def isRank (d : Df) : Bool := eqS d.name "key_rank"
/-- key=z, z a sort's key def -/
def srtK (Γ : Cn) (f : Nat) : List Keyword → Bool
  | [⟨some k, .Name z _, _⟩] => eqS k "key" && glB Γ.sc z && okName z &&
    match Γ.P[f]? with
    | some d => eqS z d.name && topB d.name && isRank d
    | none => false
  | _ => false
mutual
def mE : Ex → Cn → Expr → Bool
  | .var i, Γ, .Name x _ => decide (Γ.N[i]? = some x) && visB Γ.sc x && okName x
  | .non, _, .Constant .none _ _ => true
  | .bl b, _, .Constant (.bool c) _ _ => b == c
  | .int i, Γ, e => (match e with
    | .Constant (.int j) _ _ => decide (i = j)
    | .Name x _ => glB Γ.sc x && okName x && decide ((x, GC.int i) ∈ Γ.gs)
    | _ => false)
  | .str s, Γ, e => (match e with
    | .Constant (.str t) _ _ => eqS s t
    | .Name x _ => glB Γ.sc x && okName x && decide ((x, GC.str s) ∈ Γ.gs)
    | _ => false)
  | .bin o a b, Γ, .BinOp x op y _ => decide (op = toOp o) && mE a Γ x && mE b Γ y
  | .cmp o a b, Γ, .Compare x [op] [y] _ => decide (op = toCmp o) && mE a Γ x && mE b Γ y
  | .chn o p a b c, Γ, .Compare x [op, oq] [y, z] _ => decide (op = toCmp o) && decide (oq = toCmp p) && mE a Γ x && mE b Γ y && mE c Γ z
  | .and a b, Γ, .BoolOp .And (x :: y :: rest) pos => mE a Γ x && (match rest with | [] => mE b Γ y | _ => mE b Γ (.BoolOp .And (y :: rest) pos))
  | .or a b, Γ, .BoolOp .Or (x :: y :: rest) pos => mE a Γ x && (match rest with | [] => mE b Γ y | _ => mE b Γ (.BoolOp .Or (y :: rest) pos))
  | .not a, Γ, .UnaryOp .Not x _ => mE a Γ x
  | .neg a, Γ, .UnaryOp .USub x _ => mE a Γ x
  | .ite c a b, Γ, .IfExp t x y _ => mE c Γ t && mE a Γ x && mE b Γ y
  | .tup es, Γ, e => (match e with
    | .Tuple xs _ _ => mL es Γ xs
    | .Name x _ => glB Γ.sc x && okName x && gtB Γ.gs es x
    | _ => false)
  | .stup a es, Γ, .Tuple ys _ _ => (match ys with
    | .Starred x _ :: xs => mE a Γ x && mL es Γ xs
    | _ => false)
  | .lst es, Γ, .List xs _ => mL es Γ xs
  | .mls es, Γ, .List xs _ => mL es Γ xs
  | .ix a b, Γ, .Subscript x y _ => mE a Γ x && mE b Γ y
  | .slc a lo hi, Γ, .Subscript x (.Slice l h none _) _ => mE a Γ x && mO lo Γ l && mO hi Γ h
  | .rev a, Γ, .Subscript x sl _ => isRev sl && mE a Γ x
  | .call f es ks pm, Γ, .Call (.Name x _) args kws _ => match Γ.P[f]? with
    | some d => eqS d.name x && topB d.name && glB Γ.sc x && okName x && mL es Γ args && mK ks Γ kws && decide ((es.length, ks.map (·.1), pm) ∈ d.shapes)
    | none => false
  | .bi b es, Γ, .Call (.Name x _) args [] _ => eqS x (biName b) && glB Γ.sc x && okName x && Γ.bs.contains x && mL es Γ args && !args.isEmpty
  | .dct0, Γ, .Dict [] [] _ => true
  | .dct1 a b, Γ, .Dict [some x] [y] _ => atB a x && atB b y && mE a Γ x && mE b Γ y
  | .fldE a f, Γ, .Attribute x name _ => eqS name f && attrOk x && mE a Γ x && Γ.cs.all fun cf => cf.flds.contains f
  | .mcall m tbl o es, Γ, .Call (.Attribute y name apos) args [] cpos => eqS name m && attrOk y && mE o Γ y && mL es Γ args && (apos.endLine == cpos.line) && decide (args.length < 20) && !args.isEmpty &&
      tbl.all fun p => match Γ.cs[p.1]?, Γ.P[p.2]? with
        | some cf, some d => decide (cf.meths.lookup m = some p.2) && decide ((es.length + 1, [], List.range (es.length + 1)) ∈ d.shapes)
        | _, _ => false
  | .new c f es, Γ, .Call (.Name x _) args [] _ => glB Γ.sc x && okName x && mL es Γ args && !args.isEmpty && match Γ.cs[c]?, Γ.P[f]? with
    | some cf, some d => eqS cf.name x && decide (cf.init = some f) && decide ((es.length + 1, [], List.range (es.length + 1)) ∈ d.shapes)
    | _, _ => false
  | .isc e y subs, Γ, .Call (.Name x _) [a, .Name z _] [] _ => eqS x "isinstance" && glB Γ.sc x && okName x && Γ.bs.contains x && eqS z y && glB Γ.sc z && okName z && mE e Γ a && !Γ.cs.isEmpty &&
      Γ.cs.zipIdx.all fun p => decide (p.1.asks.lookup y = some (subs.contains p.2))
  | .dc a b t it c vs, Γ, .DictComp kx vx [⟨tg, iter, ifs, isas⟩] scope _ => decide (isas = 0) && mI it Γ tg iter && blkC Γ.N Γ.sc scope (ownOf Γ.N vs) && decide ((ownOf Γ.N vs).map (·.2) = vs) &&
      mT t (Γ.blk scope) tg && (tgS t).all vs.contains && mC c (Γ.blk scope) ifs && mE a (Γ.blk scope) kx && mE b (Γ.blk scope) vx
  | .dix o e, Γ, .Subscript x y _ => mE o Γ x && mE e Γ y
  | .lrg1 b, Γ, .Call (.Name x _) [.Call (.Name z _) [y] [] _] [] _ => eqS x "list" && glB Γ.sc x && okName x && Γ.bs.contains x && eqS z "range" && glB Γ.sc z && okName z && Γ.bs.contains z && mE b Γ y
  | .mrg1 b, Γ, .Call (.Name x _) [.Call (.Name z _) [y] [] _] [] _ => eqS x "list" && glB Γ.sc x && okName x && Γ.bs.contains x && eqS z "range" && glB Γ.sc z && okName z && Γ.bs.contains z && mE b Γ y
  | .mmul a b, Γ, .BinOp x op y _ => decide (op = toOp .mul) && mE a Γ x && mE b Γ y
  | .madd a b, Γ, .BinOp x op y _ => decide (op = toOp .add) && mE a Γ x && mE b Γ y
  | .mdn0, Γ, .Dict [] [] _ => true
  | .dnix o e, Γ, .Subscript x y _ => mE o Γ x && mE e Γ y
  | .dng1 o e, Γ, .Call (.Attribute y name apos) [a] [] cpos => eqS name "get" && attrOk y && mE o Γ y && mE e Γ a && (apos.endLine == cpos.line)
  | .dng2 o e f, Γ, .Call (.Attribute y name apos) [a, b] [] cpos => eqS name "get" && attrOk y && mE o Γ y && mE e Γ a && mE f Γ b && (apos.endLine == cpos.line)
  | .dnl o, Γ, .Call (.Name x _) [a] [] _ => eqS x "list" && glB Γ.sc x && okName x && Γ.bs.contains x && mE o Γ a
  | .dni o, Γ, .Call (.Name x _) [.Call (.Attribute y name apos) [] [] cpos] [] _ => eqS x "list" && glB Γ.sc x && okName x && Γ.bs.contains x && eqS name "items" && attrOk y && mE o Γ y && (apos.endLine == cpos.line)
  | .dnn o, Γ, .Call (.Name x _) [a] [] _ => eqS x "len" && glB Γ.sc x && okName x && Γ.bs.contains x && mE o Γ a
  | .lset e, Γ, .Call (.Name x _) [.Call (.Name z _) [a] [] _] [] _ => eqS x "len" && glB Γ.sc x && okName x && Γ.bs.contains x && eqS z "set" && glB Γ.sc z && okName z && Γ.bs.contains z && mE e Γ a
  | .mck m tbl o es ks pm, Γ, .Call (.Attribute y name apos) args kws cpos => eqS name m && attrOk y && mE o Γ y && mL es Γ args && mK ks Γ kws && (apos.endLine == cpos.line) && decide (args.length + kws.length < 12) &&
      tbl.all fun p => match Γ.cs[p.1]?, Γ.P[p.2]? with
        | some cf, some d => decide (cf.meths.lookup m = some p.2) && decide ((es.length + 1, ks.map (·.1), pm) ∈ d.shapes)
        | _, _ => false
  | .mnk c f ks pm, Γ, .Call (.Name x _) [] kws _ => glB Γ.sc x && okName x && mK ks Γ kws && match Γ.cs[c]?, Γ.P[f]? with
    | some cf, some d => eqS cf.name x && decide (cf.init = some f) && decide ((1, ks.map (·.1), pm) ∈ d.shapes)
    | _, _ => false
  | .dctN e, Γ, .Call (.Name x _) [a] [] _ => eqS x "dict" && glB Γ.sc x && okName x && Γ.bs.contains x && mE e Γ a
  | .srt f e, Γ, .Call (.Name x _) [a] kws _ => eqS x "sorted" && glB Γ.sc x && okName x && Γ.bs.contains x && mE e Γ a && srtK Γ f kws
  | .lrg2 a b, Γ, .Call (.Name x _) [.Call (.Name z _) [u, y] [] _] [] _ => eqS x "list" && glB Γ.sc x && okName x && Γ.bs.contains x && eqS z "range" && glB Γ.sc z && okName z && Γ.bs.contains z && mE a Γ u && mE b Γ y
  | .dgt o e, Γ, .Call (.Attribute y name apos) [a] [] cpos => eqS name "get" && attrOk y && mE o Γ y && mE e Γ a && (apos.endLine == cpos.line)
  | .mbl e, Γ, .Call (.Name x _) [a] [] _ => eqS x "list" && glB Γ.sc x && okName x && Γ.bs.contains x && mE e Γ a
  | .isi e ts, Γ, .Call (.Name x _) [a, c] [] _ => eqS x "isinstance" && glB Γ.sc x && okName x && Γ.bs.contains x && mE e Γ a && mTyE Γ ts c && ts.all tyAsk.contains
  | .meth m o es, Γ, .Call (.Attribute y name apos) args [] cpos => eqS name (mtName m) && attrOk y && mE o Γ y && mL es Γ args && !args.isEmpty && (apos.endLine == cpos.line) && decide (args.length < 20)
  | .lc e t it c vs, Γ, .ListComp elt [⟨tg, iter, ifs, isas⟩] scope _ => decide (isas = 0) && mI it Γ tg iter && blkC Γ.N Γ.sc scope (ownOf Γ.N vs) && decide ((ownOf Γ.N vs).map (·.2) = vs) &&
      mT t (Γ.blk scope) tg && (tgS t).all vs.contains && mC c (Γ.blk scope) ifs && mE e (Γ.blk scope) elt
  | .lc2 e t it c t1 it1 c1 vs vs1, Γ, .ListComp elt [⟨tg, iter, ifs, isas⟩, ⟨tg1, iter1, ifs1, isas1⟩] scope _ => decide (isas = 0) && decide (isas1 = 0) && mI it Γ tg iter && blkC Γ.N Γ.sc scope (ownOf Γ.N vs) && decide ((ownOf Γ.N vs).map (·.2) = vs) &&
      mT t (Γ.blk scope) tg && (tgS t).all vs.contains && mC c (Γ.blk scope) ifs && mI it1 (Γ.blk scope) tg1 iter1 && mT t1 (Γ.blk scope) tg1 && (tgS t1).all vs1.contains && vs1.all vs.contains && mC c1 (Γ.blk scope) ifs1 && mE e (Γ.blk scope) elt
  | .frz i, Γ, .Name x _ => decide (Γ.N[i]? = some x) && visB Γ.sc x && okName x
  | _, _, _ => false
def mL : List Ex → Cn → List Expr → Bool
  | [], _, [] => true
  | e :: es, Γ, x :: xs => mE e Γ x && mL es Γ xs
  | _, _, _ => false
def mK : List (Str × Ex) → Cn → List Keyword → Bool
  | [], _, [] => true
  | (k, e) :: es, Γ, ⟨some x, v, _⟩ :: xs => eqS k x && mE e Γ v && mK es Γ xs
  | _, _, _ => false
def mO : Option Ex → Cn → Option Expr → Bool
  | none, _, none => true
  | some e, Γ, some x => mE e Γ x
  | _, _, _ => false
def mC : Option Ex → Cn → List Expr → Bool
  | none, _, [] => true
  | some e, Γ, [x] => mE e Γ x
  | _, _, _ => false
def mI : It → Cn → Expr → Expr → Bool
  | .seq e, Γ, _, x => mE e Γ x
  | .rng1 a, Γ, _, .Call (.Name x _) [u] [] _ => eqS x "range" && glB Γ.sc x && Γ.bs.contains x && mE a Γ u
  | .rng2 a b, Γ, _, .Call (.Name x _) [u, v] [] _ => eqS x "range" && glB Γ.sc x && Γ.bs.contains x && mE a Γ u && mE b Γ v
  | .rng3 a b c, Γ, _, .Call (.Name x _) [u, v, z] [] _ => eqS x "range" && glB Γ.sc x && Γ.bs.contains x && mE a Γ u && mE b Γ v && mE c Γ z
  | .enu e, Γ, .Tuple _ _ _, .Call (.Name x _) [a] [] _ => eqS x "enumerate" && glB Γ.sc x && Γ.bs.contains x && mE e Γ a
  | .zip e f, Γ, .Tuple _ _ _, .Call (.Name x _) [a, b] [] _ => eqS x "zip" && glB Γ.sc x && Γ.bs.contains x && mE e Γ a && mE f Γ b
  | .zip3 es, Γ, .Tuple _ _ _, .Call (.Name x _) args [] _ => eqS x "zip" && glB Γ.sc x && Γ.bs.contains x && mL es Γ args && decide (args.length = 3)
  | _, _, _, _ => false
def mT : Tg → Cn → Expr → Bool
  | .nm i, Γ, .Name x _ => decide (Γ.N[i]? = some x) && locB Γ.st x
  | .tp ts, Γ, .Tuple es _ _ => mTs ts Γ es
  | .sub a b, Γ, .Subscript o i _ => mE a Γ o && mE b Γ i
  | .fld a f, Γ, .Attribute x name _ => eqS name f && mE a Γ x && Γ.cs.all fun cf => cf.flds.contains f
  | _, _, _ => false
def mTs : List Tg → Cn → List Expr → Bool
  | [], _, [] => true
  | t :: ts, Γ, x :: xs => mT t Γ x && mTs ts Γ xs
  | _, _, _ => false
end
/-! ### what a matched text is not -/
def plainX : Expr → Bool
  | .Starred _ _ => false
  | .Set _ _ _ => false
  | .Slice _ _ _ _ => false
  | _ => true
theorem mE_plain {x : Ex} {Γ : Cn} {e : Expr} (h : mE x Γ e = true) : plainX e = true := by
  cases e with
  | Starred _ _ => cases x <;> simp [mE] at h
  | Set _ _ _ => cases x <;> simp [mE] at h
  | Slice _ _ _ _ => cases x <;> simp [mE] at h
  | _ => rfl
theorem star_of {e : Expr} (h : plainX e = true) (es : List Expr) (env : Env) : starEach (e :: es) env = (false, eval e env) :: starEach es env := by
  cases e <;> first
    | rfl
    | (simp [plainX] at h)
theorem marks_of {e : Expr} (h : plainX e = true) (op : CmpOp) : behindInMarks op e = false := by
  cases e <;> first
    | rfl
    | (simp [plainX] at h)
theorem ixPlain {e : Expr} (h : plainX e = true) : PlainIx e := by
  intro o i
  cases e <;> first
    | rfl
    | (simp [plainX] at h)
theorem folded_of {e : Expr} (h : plainX e = true) (env : Env) : ∀ x, foldedSetIterable e env x = pure x := by
  intro x
  cases e <;> first
    | rfl
    | (simp [plainX] at h)
theorem attr_base {o : Expr} (h : attrOk o = true) (f : Str) (env : Env) : attributeBase o f env (eval o env) = eval o env := by
  unfold attributeBase
  split
  · simp [attrOk] at h
  · rfl
theorem mL_star {es : List Ex} {Γ : Cn} : ∀ {xs : List Expr}, mL es Γ xs = true → ∀ (pos : Pos) (env : Env), (backTo pos (starEach xs env)).any (·.1) = false := by
  intro xs
  induction xs generalizing es with
  | nil => intro _ _ _; rfl
  | cons x xs ih =>
    intro h pos env
    cases es with
    | nil => simp [mL] at h
    | cons e es =>
      simp only [mL, Bool.and_eq_true] at h
      rw [star_of (mE_plain h.1)]
      show (false || (backTo pos (starEach xs env)).any (·.1)) = false
      rw [ih h.2 pos env]
      rfl
theorem mL_all {es : List Ex} {Γ : Cn} : ∀ {xs : List Expr}, mL es Γ xs = true → ∀ (pos : Pos) (env : Env), (backTo pos (starEach xs env)).all (fun x => !x.1) = true := by
  intro xs
  induction xs generalizing es with
  | nil => intro _ _ _; rfl
  | cons x xs ih =>
    intro h pos env
    cases es with
    | nil => simp [mL] at h
    | cons e es =>
      simp only [mL, Bool.and_eq_true] at h
      rw [star_of (mE_plain h.1)]
      show (true && (backTo pos (starEach xs env)).all (fun x => !x.1)) = true
      rw [ih h.2 pos env]
      rfl
theorem mK_names {ks : List (Str × Ex)} {Γ : Cn} : ∀ {kws : List Keyword}, mK ks Γ kws = true → ∀ (pos : Pos) (env : Env), (backToKw pos (keywordEach kws env)).all (·.1.isSome) = true ∧
    (backToKw pos (keywordEach kws env)).any (·.1.isNone) = false ∧ (backToKw pos (keywordEach kws env)).filterMap (·.1) = ks.map (·.1) := by
  intro kws
  induction kws generalizing ks with
  | nil =>
    intro h pos env
    cases ks with
    | nil => exact ⟨rfl, rfl, rfl⟩
    | cons _ _ => simp [mK] at h
  | cons x kws ih =>
    intro h pos env
    cases ks with
    | nil => simp [mK] at h
    | cons e ks =>
      obtain ⟨nm, v, p⟩ := x
      obtain ⟨k, e⟩ := e
      cases nm with
      | none => simp [mK] at h
      | some nm =>
        simp only [mK, Bool.and_eq_true, eqS, decide_eq_true_eq] at h
        obtain ⟨⟨rfl, _⟩, h2⟩ := h
        obtain ⟨i1, i2, i3⟩ := ih h2 pos env
        refine ⟨?_, ?_, ?_⟩
        · show (true && (backToKw pos (keywordEach kws env)).all (·.1.isSome)) = true
          rw [i1]; rfl
        · show (false || (backToKw pos (keywordEach kws env)).any (·.1.isNone)) = false
          rw [i2]; rfl
        · show k :: (backToKw pos (keywordEach kws env)).filterMap (·.1) = k :: ks.map (·.1)
          rw [i3]
end Ev
/-! EvK: the call of a sort's key: tuple([-1 if part is None else part for part in key]). -/
namespace Ev
open PySem PySem.W PyProof.Rows L2
/-- what a part is ranked -/
def Ranked (v : Value) (i : Int) : Prop := (v = .none ∧ i = -1) ∨ ∃ t, v = .int i t
/-- the def's text -/
def rankB : Scope → List Stmt → Bool
  | sc, [.Return (some (.Call (.Name t _) [.ListComp (.IfExp (.Compare (.Name x1 _) [.Is] [.Constant .none _ _] _) (.UnaryOp .USub (.Constant (.int i) _ _) _) (.Name x2 _) _) [⟨.Name x3 _, .Name y _, [], isas⟩] sc2 _] [] _)) _] =>
    eqS t "tuple" && eqS x1 "part" && eqS x2 "part" && eqS x3 "part" && eqS y "key" && decide (i = 1) && decide (isas = 0) && decide (sc.names.lookup (Str.ofString "key") = some .local) && decide (sc.names.lookup (Str.ofString "tuple") = some .globalImplicit) &&
      decide (sc2.kind = .function) && decide (sc2.names.lookup (Str.ofString "part") = some .local) && sc2.names.all fun y => decide (y.2 ≠ .cell) && decide (y.2 ≠ .free) && decide (sc2.names.lookup y.1 = some .local ∨ y.2 ≠ .local)
  | _, _ => false
def KeyFn (P : Program) (w : World) (K : Frag) (mg : Str → Option Value) (fa : Addr) : Prop :=
  ∀ (A : Around) (s : Shared) (base : Heap) (a : Addr) (us : Array Value) (is : List Int), Mod K mg base → (∀ b o, base.get? b = some o → s.heap.get? b = some o) → A.handled = none → A.depth < recursionLimit →
    s.heap.IsTuple a us → Paired Ranked us.toList is → us.size ≤ sizeLine →
    wpAny (model P w) A (call (.ref fa) [.ref a]) (KeyPure (.tuple (is.map .int)) s) (fun _ _ => False) s
section
variable {prog : Program} {w : World} {A : Around} {E : Value → Shared → Prop} {s : Shared} {env : Env}
/-- -1 if x is None else x -/
theorem wp_rankElt {x : Str} {m : Str → Option Value} {v : Value} {j j2 : Nat} {p2 p3 p4 p5 p6 p7 p8 : Pos} {i : Int} (hd : (x == ("__debug__" : Str)) = false) (hk : env.scope.kind = .function) (hl : env.kindOf x = some .local) (hn : s.heap.Ns env.locals m) (hv : m x = some v) (r : Ranked v i) :
    wpAny (model prog w) A (eval (.IfExp (.Compare (.Name x p2) [.Is] [.Constant .none j p3] p4) (.UnaryOp .USub (.Constant (.int 1) j2 p5) p6) (.Name x p7) p8) env) (fun y s' => (∃ t, y = Value.int i t) ∧ Keeps s s') E s := by
  have ld : ∀ {p : Pos} {Q : Value → Shared → Prop}, Q v s → wpAny (model prog w) A (eval (.Name x p) env) Q E s := fun {p Q} q => wpAny_Name (wpAny_loadName_local hk hl hn hv q) hd
  refine wpAny_IfExp (wpAny_isTrue_Compare1 (ld (Constant_none (is_none_gen (wpAny_truthy_bool ?_)))))
  rcases r with ⟨rfl, rfl⟩ | ⟨t, rfl⟩
  · exact wpAny_UnaryOp (wpAny_Constant_int (neg_int ⟨⟨_, rfl⟩, s.heap, s.toks + 1 + 1, rfl, fun _ _ e => e⟩))
  · exact ld ⟨⟨t, rfl⟩, s.heap, s.toks, rfl, fun _ _ e => e⟩
end
theorem paired_get {α β : Type} {F : α → β → Prop} : ∀ {as : List α} {bs : List β} {i : Nat} {a : α}, Paired F as bs → as[i]? = some a → ∃ b, bs[i]? = some b ∧ F a b
  | _, _, i, a, .nil, h => by simp at h
  | _, _, 0, a, .cons h t, e => by simp at e; subst e; exact ⟨_, rfl, h⟩
  | _, _, i + 1, a, .cons h t, e => by simpa using paired_get t (by simpa using e)
theorem reads_ints {h : Heap} {F : Value → Value → Prop} (hF : ∀ v y i, F v y → Ranked v i → ∃ t, y = Value.int i t) : ∀ {vs ys : List Value} {is : List Int}, Paired F vs ys → Paired Ranked vs is → ReadsAll h ys (is.map .int) []
  | _, _, _, .nil, .nil => .nil
  | _, _, _, .cons p t, .cons q u => by
    obtain ⟨tk, rfl⟩ := hF _ _ _ p q
    exact .cons (as := []) (bs := []) (.int _ _) (reads_ints hF t u)
theorem eqS_k {a b : Str} (h : eqS a b = true) : a = b := of_decide_eq_true h
theorem keyFn_of {P : Program} {w : World} {K : Frag} {mg : Str → Option Value} {f : Addr} {name qual : Str} {params : Arguments} {body : List Stmt} {scope : Scope} {dV kV doc pm cdv ct oc : Value} {an od : Option Addr} {osl : Array (Option Value)} {N : List Str}
    (lk : K.lookup f = some ⟨oc, od, .func (fnOf name qual params body scope dV kV doc pm an cdv ct), osl⟩) (hcd : codeIn K cdv qual = true) (S : FnScope N [Str.ofString "key"] scope) (hmg : mg "tuple" = none)
    (hb : ∀ (s : Shared) (u : Value), BindsTo s (fnOf name qual params body scope dV kV doc pm an cdv ct) ⟨[u], []⟩ [(Str.ofString "key", u)]) (ht : rankB scope body = true) : KeyFn P w K mg f := by
  intro A s base a us is M hbs hh hdep hT hR hsz
  unfold rankB at ht
  split at ht
  case h_2 => cases ht
  rename_i t p1 x1 p2 j1 p3 p4 i j2 p5 p6 x2 p7 p8 x3 p9 y p10 isas sc2 p11 p12 p13
  simp only [Bool.and_eq_true, decide_eq_true_eq, List.all_eq_true] at ht
  obtain ⟨⟨⟨⟨⟨⟨⟨⟨⟨⟨⟨h1, h2⟩, h3⟩, h4⟩, h5⟩, rfl⟩, rfl⟩, h6⟩, h7⟩, h8⟩, h9⟩, h10⟩ := ht
  cases eqS_k h1
  cases eqS_k h2
  cases eqS_k h3
  cases eqS_k h4
  cases eqS_k h5
  have inK : K.In s.heap := M.kin.keeps hbs
  have lim : s.heap.NoLimit := M.nolimit.keeps hbs
  refine wpAny_call (codeAny_call_function hdep (inK _ _ lk) rfl S.co S.gen rfl (codeRec_of inK hcd) (hb _ _ _ _ _ _ (wpAny_newFunctionEnv_cells S.kind (fun y hy => ?_) fun env he s1 x => ?_)))
  · simp only [List.mem_singleton] at hy
    subst hy
    exact .inl h6
  subst he
  refine ⟨lim.keeps x.toInCall.keep, codeAny_func ?_⟩
  obtain ⟨h1', tk1, rfl, keep1⟩ := x.done
  have ns1 := x.toInCall.ns
  obtain ⟨mb, hmb, hmb2⟩ := M.blt
  have old : ∀ b o, base.get? b = some o → h1'.get? b = some o := fun b o e => keep1 b o (hbs b o e)
  refine wpAny_execs_cons (wpAny_Return_some (Call_name1 (by rfl) (Calls.Name_function_global S.kind h7 (Calls.loadGlobal_builtin (M.glob.keeps old) hmg (hmb.keeps old) ((hmb2 "tuple" (by decide)).trans (by rfl)) (callWith_type1 ?_)))))
  have hta : h1'.IsTuple a us := hT.at fun o e => keep1 a o e
  have hne : a ≠ h1'.objs.size := by
    obtain ⟨o, ho, _⟩ := hta
    exact Nat.ne_of_lt (Heap.lt_size ho)
  have hfree : ∀ x ∈ sc2.names, x.2 ≠ .free := fun x hx => (h10 x hx).1.2
  refine wpAny_ListComp_free (cl := []) (fun _ => true) (fun v y => ∀ i, Ranked v i → ∃ t, y = Value.int i t) (closureFor_none hfree) (fun y hy => (h10 y hy).1.1) h8 (fun y hy e => ((h10 y hy).2).resolve_right fun z => z e) h9 ?_
  refine wpAny_Name (wpAny_loadName_local S.kind h6 ns1 (v := .ref a) (by simp [bindL, newEnv, Env.kindOf, h6]) ?_) (by decide)
  refine wpAny_pyIter_tuple hta ?_
  have hpush : ∀ b o, h1'.get? b = some o → (h1'.push { cls := .type "tuple_iterator", data := .fields #[.ref a, .int 0 0] }).get? b = some o := fun b o e => Heap.get?_push_of_some _ e
  have vall : ∀ (vs : List Value), vs.length = us.size → (∀ j v, vs[j]? = some v → us[j]? = some v) → vs = us.toList := fun vs hl hP => by
    refine List.ext_getElem? fun j => ?_
    cases e : vs[j]? with
    | none =>
      have : vs.length ≤ j := List.getElem?_eq_none_iff.mp e
      symm
      exact List.getElem?_eq_none_iff.mpr (by rw [Array.length_toList]; omega)
    | some v => rw [Array.getElem?_toList]; exact (hP j v e).symm
  refine ⟨h1'.objs.size, [h1'.objs.size, a], [h1'.objs.size], us.size, (fun i v => us[i]? = some v), (fun i h => h.IsTupleIter h1'.objs.size a i ∧ h.IsTuple a us), rfl, Walks.tuple (A := A.deeper _) hh _ a hne us, hsz, ⟨⟨_, Heap.get?_push_size _ rfl, rfl, rfl⟩, hta.at fun o e => hpush a o e⟩, fun b hb => ?_, ⟨fun C i v s₃ m₃ E' hC hP hn hm hk htk => ?_, fun C i v s₃ m₃ E' hC hP _ hn hm hk htk => ?_⟩, fun D h' tk ys vs hD hl hpl hlen hP hF hk => ?_⟩
  · simp only [List.mem_cons, List.not_mem_nil, or_false] at hb
    rcases hb with rfl | rfl
    · show _ < (h1'.push _).objs.size
      rw [Heap.size_push]
      omega
    · obtain ⟨o, ho, _⟩ := hta
      exact Heap.lt_size (hpush _ _ ho)
  · exact wpAny_pure ⟨rfl, s₃.heap, s₃.toks, rfl, fun _ _ e => e⟩
  · obtain ⟨j, _, hj⟩ := paired_get hR (i := i) (a := v) (by rw [Array.getElem?_toList]; exact hP)
    refine wpAny_mono (wp_rankElt (by decide) h8 (lookup_relabel_local h9) hn hm hj) (fun y s' ⟨⟨t, e⟩, k⟩ => ⟨fun i' hi' => ?_, k⟩) fun _ _ z => z
    refine ⟨t, ?_⟩
    rw [e]
    rcases hj with ⟨e1, e2⟩ | ⟨t1, e1⟩ <;> rcases hi' with ⟨e3, e4⟩ | ⟨t2, e3⟩
    · rw [e2, e4]
    · rw [e1] at e3; cases e3
    · rw [e1] at e3; cases e3
    · rw [e1] at e3; cases e3; rfl
  · cases vall vs hlen hP
    rw [List.filter_eq_self.mpr (fun _ _ => rfl)] at hF
    have hys : ys.size ≤ sizeLine := by
      have : us.toList.length = ys.toList.length := hF.length
      rw [Array.length_toList, Array.length_toList] at this
      rw [← this]
      exact hsz
    have kk : ∀ b o, s.heap.get? b = some o → h'.get? b = some o := fun b o e => hk b o (by
      simp only [List.mem_singleton]
      rintro rfl
      exact Nat.lt_irrefl _ (Heap.lt_size (keep1 _ _ e))) (hpush b o (keep1 b o e))
    refine call_tuple_list hl (fun h'' hk'' => ?_) hys
    refine ⟨_, _, rfl, fun b o e => Heap.get?_push_of_some _ (hk'' b o (kk b o e)), .tuple (Heap.get?_push_size _ rfl) rfl rfl ?_⟩
    exact reads_ints (fun v y i r hr => r i hr) hF hR
end Ev
/-! Ev6: contexts; expressions are worth what they say. -/
namespace Ev
open PySem L2
/-- what a def promises, where no guarded call is running -/
structure FnG (P : Program) (w : World) (K : PySem.W.Frag) (mg : Str → Option Value) (base : Heap) (k : Nat) (f : Addr) (fd : FuncData) (ps : List Str) (sp : Sp) : Prop where
  run : ∀ (A : Around) (outer : List Env) (s : Shared) (H : Hp) (args : Args) (us : List Value) (vs : List V) (Q : VK) (E : XK), Room k A → A.guards = some [] → Env0 P w K mg base A outer s H → BindsTo s fd args (ps.zip us) → Vals vs us → sp vs H Q E →
    codeAny (model P w) A (.call (.ref f) args) (CR (L2.CX P w) outer P w H s Q E) s
theorem FnG.mono {P : Program} {w : World} {K : PySem.W.Frag} {mg : Str → Option Value} {base : Heap} {j k : Nat} {f : Addr} {fd : FuncData} {ps : List Str} {sp : Sp} (F : FnG P w K mg base j f fd ps sp) (h : j ≤ k) :
    FnG P w K mg base k f fd ps sp := ⟨fun A outer s H args us vs Q E hr => F.run A outer s H args us vs Q E (hr.mono h)⟩
/-- the promise by data -/
def spF (G : Gb) (P : List Df) (k f : Nat) : Sp := fun vs H Q E => ∃ w ds, w.H = H ∧ WOk G w ∧ RepL G w ds vs ∧
  Post G (fun cls d _ H => E cls d H) [] w (evF P k f ds w.M) fun d w' => ∀ v, Rep G w' d v → Q v w'.H
/-- where each parameter's value comes from -/
def permV {α : Type} (d : α) (pm : List Nat) (xs : List α) : List α := pm.map fun i => (xs[i]?).getD d
/-- a class, as it stands: its facts, R: what is known of its defs -/
structure ClsR (G : Gb) (mg : Str → Option Value) (cf : Cf) (c : Nat) (R : Nat → Addr → Prop) : Prop where
  nm : mg cf.name = some (.ref (G.cls c))
  cl : Cls G.K (G.cls c)
  ty1 : PySem.W.findIn G.K (.ref (G.cls c)) "__class__" = some (some (.builtin "object.__class__"))
  ty2 : PySem.W.specialIn G.K (.builtin "object.__class__") "__get__" = some (some (.builtin "getset_descriptor.__get__"))
  ty3 : PySem.W.takesIn G.K (.builtin "object.__class__") = some true
  ty4 : PySem.W.mroIn G.K (G.cls c) (.type "object") = some true
  fld : ∀ f ∈ cf.flds, NoAttr G.K (G.cls c) f
  mth : ∀ m f, cf.meths.lookup m = some f → ∃ fa, Meth G.K (G.cls c) m fa ∧ R f fa
  ini : ∀ f, cf.init = some f → ∃ fa, Mk G.K (G.cls c) fa ∧ R f fa
  ask : ∀ x b, cf.asks.lookup x = some b → ∃ C, mg x = some (.ref C) ∧ PySem.W.kitOne G.K (.ref (G.cls c)) (.ref C) = some b
theorem ClsR.imp {G : Gb} {mg : Str → Option Value} {cf : Cf} {c : Nat} {R R' : Nat → Addr → Prop} (h : ClsR G mg cf c R) (k : ∀ f fa, R f fa → R' f fa) : ClsR G mg cf c R' :=
  ⟨h.nm, h.cl, h.ty1, h.ty2, h.ty3, h.ty4, h.fld, fun m f e => let ⟨fa, a, b⟩ := h.mth m f e; ⟨fa, a, k _ _ b⟩, fun f e => let ⟨fa, a, b⟩ := h.ini f e; ⟨fa, a, k _ _ b⟩, h.ask⟩
structure Ctx (G : Gb) (Γ : Cn) (k : Nat) (X : Cx) (W : WX) : Prop where
  N : X.N = Γ.N
  sc : X.env.scope = Γ.sc
  K : X.K = G.K
  prog : X.prog = G.prog
  wd : X.w = G.wd
  nd : Γ.N.Nodup
  store : ∀ x, Loc Γ.st x → Loc X.env.scope x ∧ (X.fn x = true ∨ X.env.scope.names.lookup x = some .local)
  calm : X.calm = true
  gd : X.A.guards = some []
  room : Room (2 * k + 1) X.A
  tk : Takes X W
  tab : ∀ f d, Γ.P[f]? = some d → ∃ fa fd, (topB d.name = true → X.mg d.name = some (.ref fa)) ∧ PySem.W.keepIn X.K (.ref fa) = true ∧ FnG X.prog X.w X.K X.mg X.base (2 * k) fa fd d.ps (spF G Γ.P k f) ∧
    ∀ sh ∈ d.shapes, ∀ (s : Shared) (us ws : List Value), us.length = sh.1 → ws.length = sh.2.1.length → BindsTo s fd ⟨us, sh.2.1.zip ws⟩ (d.ps.zip (permV .none sh.2.2 (us ++ ws)))
  blt : ∀ x ∈ Γ.bs, X.mg x = none
  glb : ∀ p ∈ Γ.gs, ∃ u v, X.mg p.1 = some u ∧ RelV v u ∧ GCok G.K p.2 v
  nc : G.nc = Γ.cs.length
  rnk : ∀ (f : Nat) (d : Df), Γ.P[f]? = some d → isRank d = true → ∃ fa, X.mg d.name = some (.ref fa) ∧ KeyFn X.prog X.w X.K X.mg fa
  cls : ∀ c cf, Γ.cs[c]? = some cf → ClsR G X.mg cf c fun f fa => ∃ d fd, Γ.P[f]? = some d ∧ FnG X.prog X.w X.K X.mg X.base (2 * k) fa fd d.ps (spF G Γ.P k f) ∧
    ∀ sh ∈ d.shapes, ∀ (s : Shared) (us ws : List Value), us.length = sh.1 → ws.length = sh.2.1.length → BindsTo s fd ⟨us, sh.2.1.zip ws⟩ (d.ps.zip (permV .none sh.2.2 (us ++ ws)))
def RepS (G : Gb) (w : Wd) (σd : Env') (σ : L2.St) : Prop := σd.length = σ.length ∧ ∀ (i : Nat) (d : D), σd[i]? = some (some d) → ∃ v, σ[i]? = some (some v) ∧ Rep G w d v
section
variable {G : Gb} {w w' : Wd} {σd : Env'} {σ : L2.St}
theorem RepS.ext (x : Ext w w') (h : RepS G w σd σ) : RepS G w' σd σ := ⟨h.1, fun i d e => by
  obtain ⟨v, h1, h2⟩ := h.2 i d e
  exact ⟨v, h1, Rep.ext x d v h2⟩⟩
theorem RepS.emb (x : Emb w w') (h : RepS G w σd σ) : RepS G w' σd σ := ⟨h.1, fun i d e => by
  obtain ⟨v, h1, h2⟩ := h.2 i d e
  exact ⟨v, h1, Rep.emb x d v h2⟩⟩
theorem RepS.set (h : RepS G w σd σ) (i : Nat) {d : D} {v : V} (r : Rep G w d v) : RepS G w (σd.set i (some d)) (σ.set i (some v)) := by
  refine ⟨by simp [h.1], fun j e hj => ?_⟩
  by_cases hij : i = j
  · subst hij
    by_cases hl : i < σd.length
    · rw [List.getElem?_set_self hl] at hj
      cases hj
      exact ⟨v, List.getElem?_set_self (by rw [← h.1]; exact hl), r⟩
    · rw [List.getElem?_eq_none (by simpa using hl)] at hj
      cases hj
  · rw [List.getElem?_set_ne hij] at hj
    obtain ⟨u, h1, h2⟩ := h.2 j e hj
    exact ⟨u, by rw [List.getElem?_set_ne hij]; exact h1, h2⟩
theorem RepS.none (h : RepS G w σd σ) (i : Nat) : RepS G w (σd.set i .none) (σ.set i .none) := by
  refine ⟨by simp [h.1], fun j e hj => ?_⟩
  by_cases hij : i = j
  · subst hij
    by_cases hl : i < σd.length
    · rw [List.getElem?_set_self hl] at hj
      cases hj
    · rw [List.getElem?_eq_none (by simpa using hl)] at hj
      cases hj
  · rw [List.getElem?_set_ne hij] at hj
    obtain ⟨u, h1, h2⟩ := h.2 j e hj
    exact ⟨u, by rw [List.getElem?_set_ne hij]; exact h1, h2⟩
theorem RepS.wipe (h : RepS G w σd σ) : ∀ vs : List Nat, RepS G w (wipeD σd vs) (wipe σ vs)
  | [] => h
  | v :: vs => by
    simp only [wipeD, L2.wipe]
    exact (RepS.wipe h vs).none v
end
/-! ### readings -/
section
variable (G : Gb) (Φ : Nat → List D → Mem → Res D) (W : WX)
def tE (x : Ex) : TE := fun σ H Q => ∃ w σd, w.H = H ∧ WOk G w ∧ RepS G w σd σ ∧ Post G W σ w (evE Φ x σd w.M) fun d w' => ∀ v, Rep G w' d v → Q v w'.H
def tL (xs : List Ex) : TA := fun σ H Q => ∃ w σd, w.H = H ∧ WOk G w ∧ RepS G w σd σ ∧ Post G W σ w (evL Φ xs σd w.M) fun ds w' => ∀ vs, RepL G w' ds vs → Q vs w'.H
def tK' (xs : List (Str × Ex)) : TA := fun σ H Q => ∃ w σd, w.H = H ∧ WOk G w ∧ RepS G w σd σ ∧ Post G W σ w (evK Φ xs σd w.M) fun ds w' => ∀ vs, RepL G w' ds vs → Q vs w'.H
/-- a test -/
def evB (x : Ex) (σ : Env') (M : Mem) : Res Bool := (evE Φ x σ M).bind fun d M1 => Res.of (truth M1 d) M1
def tB' (x : Ex) : TT := fun σ H Q => ∃ w σd, w.H = H ∧ WOk G w ∧ RepS G w σd σ ∧ Post G W σ w (evB Φ x σd w.M) fun b w' => Q b w'.H
def tO' (o : Option Ex) : TO := fun σ H Q => ∃ w σd, w.H = H ∧ WOk G w ∧ RepS G w σd σ ∧ Post G W σ w (evO Φ o σd w.M) fun d w' => Q d w'.H
end
theorem PE.imp {X : Cx} {e : Expr} {t t' : TE} (h : PE X e t) (k : ∀ σ H Q, t' σ H Q → t σ H Q) : PE X e t' := ⟨fun pins s σ H Q I q => h.run pins s σ H Q I (k σ H Q q)⟩
theorem PT.imp {X : Cx} {e : Expr} {t t' : TT} (h : PT X e t) (k : ∀ σ H Q, t' σ H Q → t σ H Q) : PT X e t' := ⟨fun pins s σ H Q I q => h.run pins s σ H Q I (k σ H Q q)⟩
theorem PW.imp {X : Cx} {e : Expr} {t t' : TT} (h : PW X e t) (k : ∀ σ H Q, t' σ H Q → t σ H Q) : PW X e t' := ⟨fun wh pins s σ H Q I q => h.run wh pins s σ H Q I (k σ H Q q)⟩
theorem PA.imp {X : Cx} {es : List Expr} {t t' : TA} (h : PA X es t) (k : ∀ σ H Q, t' σ H Q → t σ H Q) : PA X es t' := ⟨fun pos pins s σ H Q I q => h.run pos pins s σ H Q I (k σ H Q q)⟩
theorem PK.imp {X : Cx} {es : List Keyword} {t t' : TA} (h : PK X es t) (k : ∀ σ H Q, t' σ H Q → t σ H Q) : PK X es t' := ⟨fun pos pins s σ H Q I q => h.run pos pins s σ H Q I (k σ H Q q)⟩
theorem PO.imp {X : Cx} {e : Option Expr} {t t' : TO} (h : PO X e t) (k : ∀ σ H Q, t' σ H Q → t σ H Q) : PO X e t' := ⟨fun pins s σ H Q I q => h.run pins s σ H Q I (k σ H Q q)⟩
theorem PG.imp {X : Cx} {e : Expr} {t t' : TG} (h : PG X e t) (k : ∀ v σ H Q, t' v σ H Q → t v σ H Q) : PG X e t' := ⟨fun pins s σ H v u Q I r q => h.run pins s σ H v u Q I r (k v σ H Q q)⟩
theorem PS.imp {X : Cx} {st : Stmt} {t t' : TS} (h : PS X st t) (k : ∀ D σ H, t' D σ H → t D σ H) : PS X st t' := ⟨fun pins s σ H D I q => h.run pins s σ H D I (k D σ H q)⟩
theorem PSs.imp {X : Cx} {st : List Stmt} {t t' : TS} (h : PSs X st t) (k : ∀ D σ H, t' D σ H → t D σ H) : PSs X st t' := ⟨fun pins s σ H D I q => h.run pins s σ H D I (k D σ H q)⟩
/-! ### simple nodes -/
section
variable {G : Gb} {Φ : Nat → List D → Mem → Res D} {W : WX} {X : Cx} {k : Nat} {Γ : Cn}
/-- at once, in the same world -/
theorem post_ok {α : Type} {w : Wd} {σ : L2.St} {a : α} {Qr : α → Wd → Prop} (g : WOk G w) (h : Post G W σ w (.ok a w.M) Qr) : Qr a w := h w (Ext.refl w) g rfl
theorem var_pe (c : Ctx G Γ k X W) {i : Nat} {x : Str} {pos : Pos} (h : (decide (Γ.N[i]? = some x) && visB Γ.sc x && okName x) = true) : PE X (.Name x pos) (tVar i) := by
  simp only [Bool.and_eq_true, decide_eq_true_eq] at h
  obtain ⟨⟨h1, h2⟩, h3⟩ := h
  have hv : Vis X.env.scope x := by
    rw [c.sc]
    unfold visB at h2
    split at h2 <;> first
      | exact .inl (by assumption)
      | exact .inr (.inl (by assumption))
      | exact .inr (.inr (by assumption))
      | cases h2
  simp only [okName, Bool.and_eq_true, Bool.not_eq_true'] at h3
  exact pe_var (i := i) (by rw [c.N]; exact h1) hv h3.1.1 h3.1.2
theorem s_var (c : Ctx G Γ k X W) {i : Nat} {x : Str} {pos : Pos} (h : (decide (Γ.N[i]? = some x) && visB Γ.sc x && okName x) = true) : PE X (.Name x pos) (tE G Φ W (.var i)) := by
  refine PE.imp (var_pe c h) ?_
  rintro σ H Q ⟨w, σd, rfl, g, rs, hp⟩
  simp only [evE] at hp
  split at hp
  · rename_i d e
    obtain ⟨v, e1, r⟩ := rs.2 i d e
    exact ⟨v, e1, post_ok g hp v r⟩
  · exact hp.elim
/-- what an atom tells, whatever is laid beside -/
def tAt : Ex → TE
  | .var i => tVar i
  | .int n => tC (.int n)
  | _ => fun _ _ _ => False
theorem s_atom (c : Ctx G Γ k X W) {a : Ex} {x : Expr} (ha : atB a x = true) (h : mE a Γ x = true) : PE X x (tAt a) := by
  cases a with
  | var i =>
    cases x with
    | Name y p => simp only [mE] at h; exact var_pe c h
    | _ => simp [mE] at h
  | int n =>
    cases x with
    | Constant v j p => cases v with
      | int b =>
        have : n = b := by simpa [mE] using h
        subst this
        exact pe_int
      | _ => simp [mE] at h
    | _ => simp [atB] at ha
  | _ => simp [atB] at ha
theorem atom_at {a : Ex} {x : Expr} (ha : atB a x = true) {σd : Env'} {σ : L2.St} {w : Wd} (rs : RepS G w σd σ) {d : D} {M : Mem} (h : evE Φ a σd w.M = .ok d M) : M = w.M ∧ ∃ v, Rep G w d v ∧ ∀ H Q, Q v H → tAt a σ H Q := by
  cases a with
  | var i =>
    simp only [evE] at h
    split at h
    · rename_i e' e
      cases h
      obtain ⟨v, e1, r⟩ := rs.2 i _ e
      exact ⟨rfl, v, r, fun H Q q => ⟨v, e1, q⟩⟩
    · cases h
  | int n =>
    simp only [evE] at h
    cases h
    exact ⟨rfl, .int n, rep_int, fun H Q q => q⟩
  | _ => simp [atB] at ha
theorem atom_res {a : Ex} {x : Expr} (ha : atB a x = true) {σd : Env'} {M : Mem} : (∃ d, evE Φ a σd M = .ok d M) ∨ evE Φ a σd M = .no := by
  cases a with
  | var i =>
    simp only [evE]
    split
    · exact .inl ⟨_, rfl⟩
    · exact .inr rfl
  | int n => simp only [evE]; exact .inl ⟨_, rfl⟩
  | _ => simp [atB] at ha
theorem rep_dct {w : Wd} (g : WOk G w) {p : Addr} {ds : List (Key × D)} {vs : List (Key × V)} (hp : w.H p = none) (h : RepK G w ds vs) : Rep G { w with H := upd w.H p (.dK vs) } (.dct ds) (.ref p) := by
  simp only [Rep]
  exact ⟨p, vs, rfl, sat_new g hp, RepK.emb (ext_new g hp).emb _ _ h⟩
theorem s_dct0 {pos : Pos} : PE X (.Dict [] [] pos) (tE G Φ W .dct0) := by
  refine PE.imp pe_dnewK ?_
  rintro σ H Q ⟨w, σd, rfl, g, rs, hp⟩
  simp only [evE] at hp
  intro p hn
  exact hp _ (ext_new g hn) (wok_new g hn) rfl _ (rep_dct g hn (by simp only [RepK]))
theorem s_dct1 (c : Ctx G Γ k X W) {a b : Ex} {x y : Expr} {pos : Pos} (ha : atB a x = true) (hb : atB b y = true) (h1 : mE a Γ x = true) (h2 : mE b Γ y = true) : PE X (.Dict [some x] [y] pos) (tE G Φ W (.dct1 a b)) := by
  refine PE.imp (pe_disp (pps_cons (s_atom c ha h1) (s_atom c hb h2) pps_nil) rfl rfl (by simp) (by simp)) ?_
  rintro σ H Q ⟨w, σd, rfl, g, rs, hp⟩
  simp only [evE] at hp
  rcases atom_res (Φ := Φ) (σd := σd) (M := w.M) ha with ⟨d, e1⟩ | e1
  · rcases atom_res (Φ := Φ) (σd := σd) (M := w.M) hb with ⟨e, e2⟩ | e2
    · rw [e1, Res.bind_ok, e2, Res.bind_ok] at hp
      obtain ⟨_, v, r1, t1⟩ := atom_at ha rs e1
      obtain ⟨_, u, r2, t2⟩ := atom_at hb rs e2
      have fin : ∀ q : Key, kV q = v → Post G W σ w (.ok (.dct [(q, e)]) w.M) (fun d w' => ∀ v, Rep G w' d v → Q v w'.H) → tDisp [(tAt a, tAt b)] σ w.H Q := fun q hq hp => by
        intro p hn
        refine t1 _ _ (t2 _ _ ⟨upd_same, [(q, u)], by simp [hq], by simp, ?_⟩)
        rw [upd_upd]
        exact hp _ (ext_new g hn) (wok_new g hn) rfl _ (rep_dct g hn (by simp only [RepK]; exact ⟨u, [], rfl, r2, rfl⟩))
      cases d with
      | int i =>
        simp only [Rep] at r1
        subst r1
        exact fin (.inl i) rfl hp
      | str i =>
        simp only [Rep] at r1
        subst r1
        exact fin (.inr i) rfl hp
      | _ => exact hp.elim
    · rw [e1, Res.bind_ok, e2] at hp
      exact hp.elim
  · rw [e1] at hp
    exact hp.elim
theorem s_frz (c : Ctx G Γ k X W) {i : Nat} {x : Str} {pos : Pos} (h : (decide (Γ.N[i]? = some x) && visB Γ.sc x && okName x) = true) : PE X (.Name x pos) (tE G Φ W (.frz i)) := by
  refine PE.imp (var_pe c h) ?_
  rintro σ H Q ⟨w, σd, rfl, g, rs, hp⟩
  simp only [evE] at hp
  split at hp
  · rename_i j e
    obtain ⟨v, e1, r⟩ := rs.2 i _ e
    simp only [Rep] at r
    obtain ⟨a, rfl, ha⟩ := r
    have x1 : Ext w (w.frz j) := ext_frz
    split at hp
    · rename_i xs hm
      obtain ⟨vs, h1, h2⟩ := g.cell j a _ ha hm
      refine ⟨.ref a, e1, hp (w.frz j) x1 (wok_frz g) rfl (.ref a) ?_⟩
      simp only [Rep]
      exact ⟨a, vs, rfl, ⟨h1, not_live_frz g ha, g.ch j a ha⟩, RepL.ext x1 _ _ h2⟩
    · rename_i cc fs hm
      obtain ⟨hc, dx, vs, h1, h2⟩ := g.cell j a _ ha hm
      refine ⟨.ref a, e1, hp (w.frz j) x1 (wok_frz g) rfl (.ref a) ?_⟩
      simp only [Rep]
      exact ⟨hc, a, dx, vs, rfl, ⟨h1, not_live_frz g ha, g.ch j a ha⟩, RepF.ext x1 _ _ h2⟩
    · rename_i kvs hm
      obtain ⟨xs, h1, h2⟩ := g.cell j a _ ha hm
      refine ⟨.ref a, e1, hp (w.frz j) x1 (wok_frz g) rfl (.ref a) ?_⟩
      simp only [Rep]
      exact ⟨a, xs, rfl, ⟨h1, not_live_frz g ha, g.ch j a ha⟩, RepN.emb x1.emb _ _ h2⟩
    · exact absurd hp fun z => z
  · exact hp.elim
theorem s_con {e : Expr} {v : V} {d : D} {x : Ex} (h : PE X e (tC v)) (hr : ∀ w, Rep G w d v) (he : ∀ σ M, evE Φ x σ M = .ok d M) : PE X e (tE G Φ W x) := by
  refine PE.imp h ?_
  rintro σ H Q ⟨w, σd, rfl, g, rs, hp⟩
  rw [he] at hp
  exact post_ok g hp v (hr w)
theorem s_bin (c : Ctx G Γ k X W) {o : BO} {a b : Ex} {x y : Expr} {pos : Pos} (ha : PE X x (tE G Φ W a)) (hb : PE X y (tE G Φ W b)) : PE X (.BinOp x (toOp o) y pos) (tE G Φ W (.bin o a b)) := by
  refine PE.imp (pe_op (op_bin c.K o) ha hb) ?_
  rintro σ H Q ⟨w, σd, rfl, g, rs, hp⟩
  simp only [evE] at hp
  refine ⟨w, σd, rfl, g, rs, (Post.bind hp).mono fun d w1 x1 g1 h1 v1 r1 => ?_⟩
  refine ⟨w1, σd, rfl, g1, rs.ext x1, (Post.bind h1).mono fun e w2 x2 g2 h2 v2 r2 => ?_⟩
  obtain ⟨z, hz, h3⟩ := Post.of h2
  exact ⟨w2, d, e, z, rfl, g2, Rep.ext x2 _ _ r1, r2, hz, fun w3 v x3 g3 e3 r => h3 w3 x3 g3 e3 v r⟩
theorem units_of (c : Ctx G Γ k X W) : X.A.units + 100 < cLine := by have := c.room.un; omega
theorem s_cmp (c : Ctx G Γ k X W) {o : CO} {a b : Ex} {x y : Expr} {pos : Pos} (ha : PE X x (tE G Φ W a)) (hb : PE X y (tE G Φ W b)) (hy : plainX y = true) : PE X (.Compare x [toCmp o] [y] pos) (tE G Φ W (.cmp o a b)) := by
  refine PE.imp (pe_cmpR (op_cmp c.prog c.wd c.K (by have := units_of c; omega) o) ha hb (marks_of hy _)) ?_
  rintro σ H Q ⟨w, σd, rfl, g, rs, hp⟩
  simp only [evE] at hp
  refine ⟨w, σd, rfl, g, rs, (Post.bind hp).mono fun d w1 x1 g1 h1 v1 r1 => ?_⟩
  refine ⟨w1, σd, rfl, g1, rs.ext x1, (Post.bind h1).mono fun e w2 x2 g2 h2 v2 r2 => ?_⟩
  obtain ⟨z, hz, h3⟩ := Post.of h2
  exact ⟨w2, d, e, z, rfl, g2, Rep.ext x2 _ _ r1, r2, hz, fun w3 v x3 g3 e3 r => h3 w3 x3 g3 e3 v r⟩
theorem Post.ofB {α β : Type} {o : Option α} {M : Mem} {f : α → Mem → Res β} {w : Wd} {σ : L2.St} {Qr : β → Wd → Prop} (h : Post G W σ w ((Res.of o M).bind f) Qr) : ∃ a, o = some a ∧ Post G W σ w (f a M) Qr := by
  cases o with
  | some a => exact ⟨a, rfl, h⟩
  | none => exact absurd h fun z => z
theorem t_cmp (c : Ctx G Γ k X W) {o : CO} {a b : Ex} {x y : Expr} {pos : Pos} (ha : PE X x (tE G Φ W a)) (hb : PE X y (tE G Φ W b)) (hy : plainX y = true) : PT X (.Compare x [toCmp o] [y] pos) (tB' G Φ W (.cmp o a b)) := by
  refine PT.imp (pt_cmpR (op_cmp c.prog c.wd c.K (by have := units_of c; omega) o) ha hb (marks_of hy _)) ?_
  rintro σ H Q ⟨w, σd, rfl, g, rs, hp⟩
  simp only [evB, evE, Res.bind_assoc] at hp
  refine ⟨w, σd, rfl, g, rs, (Post.bind hp).mono fun d w1 x1 g1 h1 v1 r1 => ?_⟩
  refine ⟨w1, σd, rfl, g1, rs.ext x1, (Post.bind h1).mono fun e w2 x2 g2 h2 v2 r2 => ?_⟩
  obtain ⟨z, hz, h3⟩ := Post.ofB h2
  obtain ⟨b, hb, rfl⟩ := Option.map_eq_some_iff.mp hz
  refine ⟨w2, d, e, .bl b, rfl, g2, Rep.ext x2 _ _ r1, r2, hz, fun w3 v x3 g3 e3 r => ?_⟩
  simp only [Rep] at r
  exact ⟨b, r, h3 w3 x3 g3 e3⟩
theorem s_chn (c : Ctx G Γ k X W) {o p : CO} {a b d : Ex} {x y z : Expr} {pos : Pos} (ha : PE X x (tE G Φ W a)) (hb : PE X y (tE G Φ W b)) (hd : PE X z (tE G Φ W d)) (hz : plainX z = true) :
    PE X (.Compare x [toCmp o, toCmp p] [y, z] pos) (tE G Φ W (.chn o p a b d)) := by
  have hu := units_of c
  refine PE.imp (pe_chain (op_cmp c.prog c.wd c.K (by omega) o) (op_cmp c.prog c.wd c.K (by omega) p) ha hb hd (by exact marks_of hz _)) ?_
  rintro σ H Q ⟨w, σd, rfl, g, rs, hp⟩
  simp only [evE] at hp
  refine ⟨w, σd, rfl, g, rs, (Post.bind hp).mono fun d1 w1 x1 g1 h1 v1 r1 => ?_⟩
  refine ⟨w1, σd, rfl, g1, rs.ext x1, (Post.bind h1).mono fun d2 w2 x2 g2 h2 v2 r2 => ?_⟩
  cases q : cmpD o w2.M d1 d2 with
  | none => rw [q] at h2; exact absurd h2 fun z => z
  | some bb =>
    rw [q] at h2
    refine ⟨w2, d1, d2, .bl bb, rfl, g2, Rep.ext x2 _ _ r1, r2, by show Option.map D.bl (cmpD o w2.M d1 d2) = _; rw [q]; rfl, fun w3 v x3 g3 e3 r => ?_⟩
    simp only [Rep] at r
    refine ⟨bb, r, ?_⟩
    cases bb with
    | true =>
      rw [if_pos rfl]
      have h2' : Post G W σ w2 ((evE Φ d σd w2.M).bind fun z M3 => Res.of ((cmpD p M3 d2 z).map .bl) M3) (fun d w' => ∀ v, Rep G w' d v → Q v w'.H) := h2
      have h3 := Post.later x3 h2'
      rw [← e3] at h3
      refine ⟨w3, σd, rfl, g3, (rs.ext (x1.trans x2)).ext x3, (Post.bind h3).mono fun d3 w4 x4 g4 h4 v4 r4 => ?_⟩
      obtain ⟨zz, hzz, h5⟩ := Post.of h4
      exact ⟨w4, d2, d3, zz, rfl, g4, Rep.ext (x3.trans x4) _ _ r2, r4, hzz, fun w5 v5 x5 g5 e5 r5 => h5 w5 x5 g5 e5 v5 r5⟩
    | false =>
      rw [if_neg Bool.false_ne_true]
      exact h2 w3 x3 g3 e3 _ rep_bl
theorem t_chn (c : Ctx G Γ k X W) {o p : CO} {a b d : Ex} {x y z : Expr} {pos : Pos} (ha : PE X x (tE G Φ W a)) (hb : PE X y (tE G Φ W b)) (hd : PE X z (tE G Φ W d)) (hz : plainX z = true) :
    PT X (.Compare x [toCmp o, toCmp p] [y, z] pos) (tB' G Φ W (.chn o p a b d)) := by
  have hu := units_of c
  refine PT.imp (pt_chain (op_cmp c.prog c.wd c.K (by omega) o) (op_cmp c.prog c.wd c.K (by omega) p) ha hb hd (by exact marks_of hz _)) ?_
  rintro σ H Q ⟨w, σd, rfl, g, rs, hp⟩
  simp only [evB, evE, Res.bind_assoc] at hp
  refine ⟨w, σd, rfl, g, rs, (Post.bind hp).mono fun d1 w1 x1 g1 h1 v1 r1 => ?_⟩
  refine ⟨w1, σd, rfl, g1, rs.ext x1, (Post.bind h1).mono fun d2 w2 x2 g2 h2 v2 r2 => ?_⟩
  cases q : cmpD o w2.M d1 d2 with
  | none => rw [q] at h2; exact absurd h2 fun z => z
  | some bb =>
    rw [q] at h2
    refine ⟨w2, d1, d2, .bl bb, rfl, g2, Rep.ext x2 _ _ r1, r2, by show Option.map D.bl (cmpD o w2.M d1 d2) = _; rw [q]; rfl, fun w3 v x3 g3 e3 r => ?_⟩
    simp only [Rep] at r
    refine ⟨bb, r, ?_⟩
    cases bb with
    | true =>
      rw [if_pos rfl]
      have h2' : Post G W σ w2 (((evE Φ d σd w2.M).bind fun z M3 => Res.of ((cmpD p M3 d2 z).map .bl) M3).bind fun d M1 => Res.of (truth M1 d) M1) (fun b w' => Q b w'.H) := h2
      rw [Res.bind_assoc] at h2'
      have h3 := Post.later x3 h2'
      rw [← e3] at h3
      refine ⟨w3, σd, rfl, g3, (rs.ext (x1.trans x2)).ext x3, (Post.bind h3).mono fun d3 w4 x4 g4 h4 v4 r4 => ?_⟩
      obtain ⟨zz, hzz, h5⟩ := Post.ofB h4
      obtain ⟨b2, hb2, rfl⟩ := Option.map_eq_some_iff.mp hzz
      refine ⟨w4, d2, d3, .bl b2, rfl, g4, Rep.ext (x3.trans x4) _ _ r2, r4, hzz, fun w5 v5 x5 g5 e5 r5 => ?_⟩
      simp only [Rep] at r5
      exact ⟨b2, r5, h5 w5 x5 g5 e5⟩
    | false =>
      rw [if_neg Bool.false_ne_true]
      exact ⟨false, rfl, h2 w3 x3 g3 e3⟩
/-! ### truth -/
theorem t_plain (c : Ctx G Γ k X W) {x : Ex} {e : Expr} (h : PE X e (tE G Φ W x)) (he : ∀ whole, isTrue e X.env whole = (do let v ← whole; standAt e.pos; holding [v] (truthy v))) : PT X e (tB' G Φ W x) := by
  refine PT.imp (pt_truth h he) ?_
  rintro σ H Q ⟨w, σd, rfl, g, rs, hp⟩
  refine ⟨w, σd, rfl, g, rs, (Post.bind hp).mono fun d w1 x1 g1 h1 v1 r1 => ?_⟩
  obtain ⟨b, hb, h3⟩ := Post.of h1
  exact ⟨b, tru_D c.K g1 r1 hb, post_ok g1 h3⟩
theorem evB_and (a b : Ex) (σ : Env') (M : Mem) : evB Φ (.and a b) σ M = (evB Φ a σ M).bind fun t M1 => if t = true then evB Φ b σ M1 else .ok false M1 := by
  simp only [evB, evE, Res.bind_assoc]
  congr 1
  funext x M1
  cases e : truth M1 x with
  | none => rfl
  | some t => cases t with
    | true => rfl
    | false => simp [e]
theorem evB_or (a b : Ex) (σ : Env') (M : Mem) : evB Φ (.or a b) σ M = (evB Φ a σ M).bind fun t M1 => if t = true then .ok true M1 else evB Φ b σ M1 := by
  simp only [evB, evE, Res.bind_assoc]
  congr 1
  funext x M1
  cases e : truth M1 x with
  | none => rfl
  | some t => cases t with
    | true => simp [e]
    | false => rfl
theorem evB_not (a : Ex) (σ : Env') (M : Mem) : evB Φ (.not a) σ M = (evB Φ a σ M).bind fun t M1 => .ok (!t) M1 := by
  simp only [evB, evE, Res.bind_assoc]
  congr 1
  funext x M1
  cases e : truth M1 x with
  | none => rfl
  | some t => rfl
theorem evB_ite (c a b : Ex) (σ : Env') (M : Mem) : evB Φ (.ite c a b) σ M = (evB Φ c σ M).bind fun t M1 => if t = true then evB Φ a σ M1 else evB Φ b σ M1 := by
  simp only [evB, evE, Res.bind_assoc]
  congr 1
  funext x M1
  cases e : truth M1 x with
  | none => rfl
  | some t => cases t <;> rfl
theorem evE_ite (c a b : Ex) (σ : Env') (M : Mem) : evE Φ (.ite c a b) σ M = (evB Φ c σ M).bind fun t M1 => if t = true then evE Φ a σ M1 else evE Φ b σ M1 := by
  simp only [evB, evE, Res.bind_assoc]
  congr 1
  funext x M1
  cases e : truth M1 x with
  | none => rfl
  | some t => cases t <;> rfl
theorem t_not {a : Ex} {x : Expr} {pos : Pos} (ha : PT X x (tB' G Φ W a)) : PT X (.UnaryOp .Not x pos) (tB' G Φ W (.not a)) := by
  refine PT.imp (pt_not ha) ?_
  rintro σ H Q ⟨w, σd, rfl, g, rs, hp⟩
  rw [evB_not] at hp
  exact ⟨w, σd, rfl, g, rs, (Post.bind hp).mono fun b w1 x1 g1 h1 => post_ok g1 h1⟩
theorem w_and {a b : Ex} {x y : Expr} {rest : List Expr} {pos : Pos} (ha : PT X x (tB' G Φ W a)) (hb : PW X (.BoolOp .And (y :: rest) pos) (tB' G Φ W b)) : PW X (.BoolOp .And (x :: y :: rest) pos) (tB' G Φ W (.and a b)) := by
  refine PW.imp (pw_and ha hb) ?_
  rintro σ H Q ⟨w, σd, rfl, g, rs, hp⟩
  rw [evB_and] at hp
  refine ⟨w, σd, rfl, g, rs, (Post.bind hp).mono fun t w1 x1 g1 h1 => ?_⟩
  cases t with
  | true =>
    rw [if_pos rfl] at h1 ⊢
    exact ⟨w1, σd, rfl, g1, rs.ext x1, h1⟩
  | false =>
    rw [if_neg Bool.false_ne_true] at h1 ⊢
    exact post_ok g1 h1
theorem w_or {a b : Ex} {x y : Expr} {rest : List Expr} {pos : Pos} (ha : PT X x (tB' G Φ W a)) (hb : PW X (.BoolOp .Or (y :: rest) pos) (tB' G Φ W b)) : PW X (.BoolOp .Or (x :: y :: rest) pos) (tB' G Φ W (.or a b)) := by
  refine PW.imp (pw_or ha hb) ?_
  rintro σ H Q ⟨w, σd, rfl, g, rs, hp⟩
  rw [evB_or] at hp
  refine ⟨w, σd, rfl, g, rs, (Post.bind hp).mono fun t w1 x1 g1 h1 => ?_⟩
  cases t with
  | true =>
    rw [if_pos rfl] at h1 ⊢
    exact post_ok g1 h1
  | false =>
    rw [if_neg Bool.false_ne_true] at h1 ⊢
    exact ⟨w1, σd, rfl, g1, rs.ext x1, h1⟩
theorem pt_ifExp {z x y : Expr} {pos : Pos} {t ta tb : TT} (hc : PT X z t) (ha : PT X x ta) (hb : PT X y tb) : PT X (.IfExp z x y pos) (fun σ H Q => t σ H fun c H1 => if c = true then ta σ H1 Q else tb σ H1 Q) := by
  refine ⟨fun pins s σ H Q I h => ?_⟩
  refine PyProof.Rows.isTrue_IfExp (thn (hc.run pins s σ H _ I h) fun t s1 q => ?_)
  obtain ⟨H1, I1, q1⟩ := q
  cases t with
  | true => exact ha.run pins s1 σ H1 Q I1 q1
  | false => exact hb.run pins s1 σ H1 Q I1 q1
theorem t_ite {c a b : Ex} {z x y : Expr} {pos : Pos} (hc : PT X z (tB' G Φ W c)) (ha : PT X x (tB' G Φ W a)) (hb : PT X y (tB' G Φ W b)) : PT X (.IfExp z x y pos) (tB' G Φ W (.ite c a b)) := by
  refine PT.imp (pt_ifExp hc ha hb) ?_
  rintro σ H Q ⟨w, σd, rfl, g, rs, hp⟩
  rw [evB_ite] at hp
  refine ⟨w, σd, rfl, g, rs, (Post.bind hp).mono fun t w1 x1 g1 h1 => ?_⟩
  cases t with
  | true => rw [if_pos rfl] at h1 ⊢; exact ⟨w1, σd, rfl, g1, rs.ext x1, h1⟩
  | false => rw [if_neg Bool.false_ne_true] at h1 ⊢; exact ⟨w1, σd, rfl, g1, rs.ext x1, h1⟩
theorem s_not {a : Ex} {x : Expr} {pos : Pos} (ha : PT X x (tB' G Φ W a)) (c : Ctx G Γ k X W) (hx : PE X x (tE G Φ W a)) : PE X (.UnaryOp .Not x pos) (tE G Φ W (.not a)) := by
  refine PE.imp (pe_notT hx) ?_
  rintro σ H Q ⟨w, σd, rfl, g, rs, hp⟩
  simp only [evE] at hp
  refine ⟨w, σd, rfl, g, rs, (Post.bind hp).mono fun d w1 x1 g1 h1 v1 r1 => ?_⟩
  obtain ⟨z, hz, h3⟩ := Post.of h1
  obtain ⟨b, hb, rfl⟩ := Option.map_eq_some_iff.mp hz
  exact ⟨b, tru_D c.K g1 r1 hb, post_ok g1 h3 _ rep_bl⟩
theorem s_and (c : Ctx G Γ k X W) {a b : Ex} {x y : Expr} {rest : List Expr} {pos : Pos} (ha : PE X x (tE G Φ W a)) (hb : PE X (.BoolOp .And (y :: rest) pos) (tE G Φ W b)) : PE X (.BoolOp .And (x :: y :: rest) pos) (tE G Φ W (.and a b)) := by
  refine PE.imp (pe_andT ha hb) ?_
  rintro σ H Q ⟨w, σd, rfl, g, rs, hp⟩
  simp only [evE] at hp
  refine ⟨w, σd, rfl, g, rs, (Post.bind hp).mono fun d w1 x1 g1 h1 v1 r1 => ?_⟩
  cases q : truth w1.M d with
  | none => rw [q] at h1; exact absurd h1 fun z => z
  | some t =>
    rw [q] at h1
    refine ⟨t, tru_D c.K g1 r1 q, ?_⟩
    cases t with
    | true => rw [if_pos rfl]; exact ⟨w1, σd, rfl, g1, rs.ext x1, h1⟩
    | false => rw [if_neg Bool.false_ne_true]; exact post_ok g1 h1 _ r1
theorem s_or (c : Ctx G Γ k X W) {a b : Ex} {x y : Expr} {rest : List Expr} {pos : Pos} (ha : PE X x (tE G Φ W a)) (hb : PE X (.BoolOp .Or (y :: rest) pos) (tE G Φ W b)) : PE X (.BoolOp .Or (x :: y :: rest) pos) (tE G Φ W (.or a b)) := by
  refine PE.imp (pe_orT ha hb) ?_
  rintro σ H Q ⟨w, σd, rfl, g, rs, hp⟩
  simp only [evE] at hp
  refine ⟨w, σd, rfl, g, rs, (Post.bind hp).mono fun d w1 x1 g1 h1 v1 r1 => ?_⟩
  cases q : truth w1.M d with
  | none => rw [q] at h1; exact absurd h1 fun z => z
  | some t =>
    rw [q] at h1
    refine ⟨t, tru_D c.K g1 r1 q, ?_⟩
    cases t with
    | true => rw [if_pos rfl]; exact post_ok g1 h1 _ r1
    | false => rw [if_neg Bool.false_ne_true]; exact ⟨w1, σd, rfl, g1, rs.ext x1, h1⟩
theorem s_neg {a : Ex} {x : Expr} {pos : Pos} (ha : PE X x (tE G Φ W a)) : PE X (.UnaryOp .USub x pos) (tE G Φ W (.neg a)) := by
  refine PE.imp (pe_un un_neg ha) ?_
  rintro σ H Q ⟨w, σd, rfl, g, rs, hp⟩
  simp only [evE] at hp
  refine ⟨w, σd, rfl, g, rs, (Post.bind hp).mono fun d w1 x1 g1 h1 v1 r1 => ?_⟩
  cases d with
  | int i =>
    simp only [Rep] at r1
    exact ⟨i, r1, post_ok g1 h1 _ rep_int⟩
  | _ => exact absurd h1 fun z => z
theorem s_ite {c a b : Ex} {z x y : Expr} {pos : Pos} (hc : PT X z (tB' G Φ W c)) (ha : PE X x (tE G Φ W a)) (hb : PE X y (tE G Φ W b)) : PE X (.IfExp z x y pos) (tE G Φ W (.ite c a b)) := by
  refine PE.imp (pe_ifExp hc ha hb) ?_
  rintro σ H Q ⟨w, σd, rfl, g, rs, hp⟩
  rw [evE_ite] at hp
  refine ⟨w, σd, rfl, g, rs, (Post.bind hp).mono fun t w1 x1 g1 h1 => ?_⟩
  cases t with
  | true => rw [if_pos rfl] at h1 ⊢; exact ⟨w1, σd, rfl, g1, rs.ext x1, h1⟩
  | false => rw [if_neg Bool.false_ne_true] at h1 ⊢; exact ⟨w1, σd, rfl, g1, rs.ext x1, h1⟩
/-! ### displays -/
theorem s_nil : PA X [] (tL G Φ W []) := by
  refine PA.imp pa_nil ?_
  rintro σ H Q ⟨w, σd, rfl, g, rs, hp⟩
  simp only [evL] at hp
  exact post_ok g hp [] RepL.nil
theorem s_cons {e : Ex} {es : List Ex} {x : Expr} {xs : List Expr} (ha : PE X x (tE G Φ W e)) (hr : PA X xs (tL G Φ W es)) (hx : plainX x = true) : PA X (x :: xs) (tL G Φ W (e :: es)) := by
  refine PA.imp (pa_cons ha hr (star_of hx _ _)) ?_
  rintro σ H Q ⟨w, σd, rfl, g, rs, hp⟩
  simp only [evL] at hp
  refine ⟨w, σd, rfl, g, rs, (Post.bind hp).mono fun d w1 x1 g1 h1 v1 r1 => ?_⟩
  refine ⟨w1, σd, rfl, g1, rs.ext x1, (Post.bind h1).mono fun ds w2 x2 g2 h2 vs r2 => ?_⟩
  exact post_ok g2 h2 _ (RepL.cons (Rep.ext x2 _ _ r1) r2)
theorem k_nil : PK X [] (tK' G Φ W []) := by
  refine PK.imp pk_nil ?_
  rintro σ H Q ⟨w, σd, rfl, g, rs, hp⟩
  simp only [evK] at hp
  exact post_ok g hp [] RepL.nil
theorem k_cons {n : Str} {e : Ex} {es : List (Str × Ex)} {nm : Option Str} {x : Expr} {kp : Pos} {xs : List Keyword} (ha : PE X x (tE G Φ W e)) (hr : PK X xs (tK' G Φ W es)) : PK X (⟨nm, x, kp⟩ :: xs) (tK' G Φ W ((n, e) :: es)) := by
  refine PK.imp (pk_cons ha hr) ?_
  rintro σ H Q ⟨w, σd, rfl, g, rs, hp⟩
  simp only [evK] at hp
  refine ⟨w, σd, rfl, g, rs, (Post.bind hp).mono fun d w1 x1 g1 h1 v1 r1 => ?_⟩
  refine ⟨w1, σd, rfl, g1, rs.ext x1, (Post.bind h1).mono fun ds w2 x2 g2 h2 vs r2 => ?_⟩
  exact post_ok g2 h2 _ (RepL.cons (Rep.ext x2 _ _ r1) r2)
theorem s_tup {es : List Ex} {xs : List Expr} {n : Nat} {pos : Pos} (h : PA X xs (tL G Φ W es)) : PE X (.Tuple xs n pos) (tE G Φ W (.tup es)) := by
  refine PE.imp (pe_tup h) ?_
  rintro σ H Q ⟨w, σd, rfl, g, rs, hp⟩
  simp only [evE] at hp
  refine ⟨w, σd, rfl, g, rs, (Post.bind hp).mono fun ds w1 x1 g1 h1 vs r1 => ?_⟩
  split at h1
  · rename_i hl
    refine ⟨by rw [← r1.length]; exact hl, fun p hp => h1 _ (ext_new g1 hp) (wok_new g1 hp) rfl _ (rep_tup g1 hp r1)⟩
  · exact absurd h1 fun z => z
theorem s_stup (c : Ctx G Γ k X W) {a : Ex} {es : List Ex} {x : Expr} {xs : List Expr} {n : Nat} {p pos : Pos} (ha : PE X x (tE G Φ W a)) (h : PA X xs (tL G Φ W es)) : PE X (.Tuple (.Starred x p :: xs) n pos) (tE G Φ W (.stup a es)) := by
  refine PE.imp (pe_tup (StX.pa_star ha h)) ?_
  rintro σ H Q ⟨w, σd, rfl, g, rs, hp⟩
  simp only [evE] at hp
  refine ⟨w, σd, rfl, g, rs, (Post.bind hp).mono fun d w1 x1 g1 h1 v r1 => ?_⟩
  split at h1
  · rename_i ys hy
    have sq : ∃ q vs, v = V.ref q ∧ (SqT X.K w1.H q vs ∨ SqL X.K w1.H q vs) ∧ RepL G w1 ys vs := by
      rw [c.K]
      by_cases ht : ∃ zs, d = .tup zs
      · obtain ⟨zs, rfl⟩ := ht
        simp only [seqA, Option.some.injEq] at hy
        subst hy
        obtain ⟨b, vs, rfl, h2, h3⟩ := Rep.tup r1
        exact ⟨b, vs, rfl, .inl h2, h3⟩
      · have hy' : seqL w1.M d = some ys := by
          cases d <;> first | exact hy | exact absurd ⟨_, rfl⟩ ht
        obtain ⟨b, vs, rfl, h2, h3⟩ := Rep.lst g1 r1 hy'
        exact ⟨b, vs, rfl, .inr h2, h3⟩
    obtain ⟨q, vs, rfl, h2, h3⟩ := sq
    refine ⟨q, vs, rfl, h2, w1, σd, rfl, g1, rs.ext x1, (Post.bind h1).mono fun ds w2 x2 g2 h4 us r2 => ?_⟩
    split at h4
    · rename_i hl
      have r3 := (RepL.ext x2 _ _ h3).append r2
      refine ⟨by rw [List.length_append, ← h3.length, ← r2.length]; exact hl, fun p hp => h4 _ (ext_new g2 hp) (wok_new g2 hp) rfl _ (rep_tup g2 hp r3)⟩
    · exact absurd h4 fun z => z
  · exact absurd h1 fun z => z
theorem s_lst {es : List Ex} {xs : List Expr} {pos : Pos} (h : PA X xs (tL G Φ W es)) : PE X (.List xs pos) (tE G Φ W (.lst es)) := by
  refine PE.imp (pe_lst h) ?_
  rintro σ H Q ⟨w, σd, rfl, g, rs, hp⟩
  simp only [evE] at hp
  refine ⟨w, σd, rfl, g, rs, (Post.bind hp).mono fun ds w1 x1 g1 h1 vs r1 => ?_⟩
  split at h1
  · rename_i hl
    refine ⟨by rw [← r1.length]; exact hl, fun p hp => h1 _ (ext_new g1 hp) (wok_new g1 hp) rfl _ (rep_lst g1 hp r1)⟩
  · exact absurd h1 fun z => z
theorem s_mls {es : List Ex} {xs : List Expr} {pos : Pos} (h : PA X xs (tL G Φ W es)) : PE X (.List xs pos) (tE G Φ W (.mls es)) := by
  refine PE.imp (pe_lst h) ?_
  rintro σ H Q ⟨w, σd, rfl, g, rs, hp⟩
  simp only [evE] at hp
  refine ⟨w, σd, rfl, g, rs, (Post.bind hp).mono fun ds w1 x1 g1 h1 vs r1 => ?_⟩
  split at h1
  · rename_i hl
    refine ⟨by rw [← r1.length]; exact hl, fun p hp => ?_⟩
    have x2 := ext_alloc (m := .lst ds) (o := .lst vs) g1 hp
    refine h1 (w1.alloc p (.lst ds) (.lst vs)) x2 (wok_alloc g1 hp ⟨vs, upd_same, RepL.ext x2 _ _ r1⟩) rfl (.ref p) ?_
    simp only [Rep]
    refine ⟨p, rfl, ?_⟩
    show (w1.as ++ [p])[w1.M.length]? = some p
    rw [← g1.len, List.getElem?_append_right (Nat.le_refl _), Nat.sub_self]
    rfl
  · exact absurd h1 fun z => z
/-! ### places, cuts -/
theorem s_ix (c : Ctx G Γ k X W) {a b : Ex} {x y : Expr} {pos : Pos} (ha : PE X x (tE G Φ W a)) (hb : PE X y (tE G Φ W b)) (hy : plainX y = true) : PE X (.Subscript x y pos) (tE G Φ W (.ix a b)) := by
  refine PE.imp (pe_ix (ix_D c.K) ha hb (ixPlain hy)) ?_
  rintro σ H Q ⟨w, σd, rfl, g, rs, hp⟩
  simp only [evE] at hp
  refine ⟨w, σd, rfl, g, rs, (Post.bind hp).mono fun d w1 x1 g1 h1 v1 r1 => ?_⟩
  refine ⟨w1, σd, rfl, g1, rs.ext x1, (Post.bind h1).mono fun e w2 x2 g2 h2 v2 r2 => ?_⟩
  obtain ⟨z, hz, h3⟩ := Post.of h2
  exact ⟨w2, d, e, z, rfl, g2, Rep.ext x2 _ _ r1, r2, hz, fun w3 v x3 g3 e3 r => h3 w3 x3 g3 e3 v r⟩
end
end Ev
/-! Ev7: cuts, calls, methods, targets, what is walked, comprehensions. -/
namespace Ev
open PySem L2
section
variable {G : Gb} {Φ : Nat → List D → Mem → Res D} {W : WX} {X : Cx} {k : Nat} {Γ : Cn}
/-! ### cuts -/
theorem o_none : PO X none (tO' G Φ W none) := by
  refine PO.imp po_none ?_
  rintro σ H Q ⟨w, σd, rfl, g, rs, hp⟩
  simp only [evO] at hp
  exact post_ok g hp
theorem o_some {a : Ex} {x : Expr} (ha : PE X x (tE G Φ W a)) : PO X (some x) (tO' G Φ W (some a)) := by
  refine PO.imp (po_some ha) ?_
  rintro σ H Q ⟨w, σd, rfl, g, rs, hp⟩
  simp only [evO] at hp
  refine ⟨w, σd, rfl, g, rs, (Post.bind hp).mono fun d w1 x1 g1 h1 v1 r1 => ?_⟩
  cases d with
  | int j =>
    simp only [Rep] at r1
    exact ⟨j, r1, post_ok g1 h1⟩
  | _ => exact absurd h1 fun z => z
theorem s_slc (c : Ctx G Γ k X W) {a : Ex} {lo hi : Option Ex} {x : Expr} {l h : Option Expr} {pos p2 : Pos} (ha : PE X x (tE G Φ W a)) (hl : PO X l (tO' G Φ W lo)) (hh : PO X h (tO' G Φ W hi)) : PE X (.Subscript x (.Slice l h none p2) pos) (tE G Φ W (.slc a lo hi)) := by
  refine PE.imp (pe_slice (sl_D c.K) ha hl hh) ?_
  rintro σ H Q ⟨w, σd, rfl, g, rs, hp⟩
  simp only [evE] at hp
  refine ⟨w, σd, rfl, g, rs, (Post.bind hp).mono fun d w1 x1 g1 h1 v1 r1 => ?_⟩
  refine ⟨w1, σd, rfl, g1, rs.ext x1, (Post.bind h1).mono fun i w2 x2 g2 h2 => ?_⟩
  refine ⟨w2, σd, rfl, g2, (rs.ext x1).ext x2, (Post.bind h2).mono fun j w3 x3 g3 h3 => ?_⟩
  obtain ⟨z, hz, h4⟩ := Post.of h3
  exact ⟨w3, d, z, rfl, g3, Rep.ext (x2.trans x3) _ _ r1, hz, fun w4 v x4 g4 e4 r => h4 w4 x4 g4 e4 v r⟩
/-! ### from behind -/
theorem RepL.rev {w : Wd} : ∀ {ds : List D} {vs : List V}, RepL G w ds vs → RepL G w ds.reverse vs.reverse
  | [], _, h => by simp only [RepL] at h; subst h; exact RepL.nil
  | d :: ds, _, h => by
    simp only [RepL] at h
    obtain ⟨v, r, rfl, h1, h2⟩ := h
    rw [List.reverse_cons, List.reverse_cons]
    exact RepL.append (RepL.rev h2) (RepL.cons h1 RepL.nil)
theorem s_rev (c : Ctx G Γ k X W) {a : Ex} {x : Expr} {n : Nat} {p1 p2 p3 pos : Pos} (ha : PE X x (tE G Φ W a)) : PE X (.Subscript x (.Slice none none (some (.UnaryOp .USub (.Constant (.int 1) n p1) p2)) p3) pos) (tE G Φ W (.rev a)) := by
  refine ⟨fun pins s σ H Q I h => ?_⟩
  obtain ⟨w, σd, rfl, g, rs, hp⟩ := h
  simp only [evE] at hp
  by_cases ht : ∃ ys M, evE Φ a σd w.M = .ok (.tup ys) M
  · obtain ⟨ys, M, e⟩ := ht
    refine (pe_revT ha).run pins s σ w.H Q I ⟨w, σd, rfl, g, rs, (Post.bind hp).monoE fun d w1 ed x1 g1 h1 v1 r1 => ?_⟩
    rw [e] at ed
    cases ed
    obtain ⟨b, vs, rfl, h2, h3⟩ := Rep.tup r1
    exact ⟨b, vs, rfl, by rw [c.K]; exact h2, fun p hp => h1 _ (ext_new g1 hp) (wok_new g1 hp) rfl _ (rep_tup g1 hp h3.rev)⟩
  · refine (pe_revL ha).run pins s σ w.H Q I ⟨w, σd, rfl, g, rs, (Post.bind hp).monoE fun d w1 ed x1 g1 h1 v1 r1 => ?_⟩
    obtain ⟨z, hz, h4⟩ := Post.of h1
    have hz' : (seqL w1.M d).map (fun xs => D.lst xs.reverse) = some z := by
      cases d <;> first | exact hz | exact absurd ⟨_, _, ed⟩ ht
    obtain ⟨xs, hx, rfl⟩ := Option.map_eq_some_iff.mp hz'
    obtain ⟨b, vs, rfl, h2, h3⟩ := Rep.lst g1 r1 hx
    exact ⟨b, vs, rfl, by rw [c.K]; exact h2, fun p hp => h4 _ (ext_new g1 hp) (wok_new g1 hp) rfl _ (rep_lst g1 hp h3.rev)⟩
/-! ### calls -/
theorem vals_perm {vs : List V} {us : List Value} (r : Vals vs us) : ∀ pm : List Nat, Vals (permV .non pm vs) (permV .none pm us)
  | [] => .nil
  | i :: pm => by
    refine .cons ?_ (vals_perm r pm)
    show RelV ((vs[i]?).getD .non) ((us[i]?).getD .none)
    cases e : vs[i]? with
    | none =>
      rw [r.none_of e]
      rfl
    | some v =>
      obtain ⟨u, hu, ru⟩ := r.get e
      rw [hu]
      exact ru
theorem repL_perm {w : Wd} {ds : List D} {vs : List V} (r : RepL G w ds vs) : ∀ pm : List Nat, RepL G w (permV .non pm ds) (permV .non pm vs)
  | [] => RepL.nil
  | i :: pm => by
    refine RepL.cons ?_ (repL_perm r pm)
    show Rep G w ((ds[i]?).getD .non) ((vs[i]?).getD .non)
    cases e : ds[i]? with
    | none =>
      have : vs[i]? = none := by
        rw [List.getElem?_eq_none_iff] at e ⊢
        rw [← r.length]
        exact e
      rw [this]
      exact rep_non
    | some d =>
      obtain ⟨v, hv, rv⟩ := r.get e
      rw [hv]
      exact rv
theorem Post.wish {α : Type} {w : Wd} {σ : L2.St} {r : Res α} {Qr : α → Wd → Prop} (h : Post G W σ w r Qr) : Post G (fun cls d _ H => WE W σ cls d H) [] w r Qr := by
  cases r <;> exact h
theorem evL_len : ∀ {es : List Ex} {σ : Env'} {M M' : Mem} {ds : List D}, evL Φ es σ M = .ok ds M' → ds.length = es.length
  | [], _, _, _, _, h => by simp only [evL] at h; cases h; rfl
  | e :: es, σ, M, M', ds, h => by
    simp only [evL] at h
    cases q : evE Φ e σ M with
    | ok d M1 =>
      rw [q] at h
      simp only [Res.bind_ok] at h
      cases q2 : evL Φ es σ M1 with
      | ok ds2 M2 =>
        rw [q2] at h
        cases h
        simp [evL_len q2]
      | ex _ _ _ => rw [q2] at h; cases h
      | no => rw [q2] at h; cases h
    | ex _ _ _ => rw [q] at h; cases h
    | no => rw [q] at h; cases h
theorem evK_len : ∀ {es : List (Str × Ex)} {σ : Env'} {M M' : Mem} {ds : List D}, evK Φ es σ M = .ok ds M' → ds.length = es.length
  | [], _, _, _, _, h => by simp only [evK] at h; cases h; rfl
  | (n, e) :: es, σ, M, M', ds, h => by
    simp only [evK] at h
    cases q : evE Φ e σ M with
    | ok d M1 =>
      rw [q] at h
      simp only [Res.bind_ok] at h
      cases q2 : evK Φ es σ M1 with
      | ok ds2 M2 =>
        rw [q2] at h
        cases h
        simp [evK_len q2]
      | ex _ _ _ => rw [q2] at h; cases h
      | no => rw [q2] at h; cases h
    | ex _ _ _ => rw [q] at h; cases h
    | no => rw [q] at h; cases h
theorem s_call (c : Ctx G Γ k X W) {f : Nat} {d : Df} {pm : List Nat} {x : Str} {es : List Ex} {ks : List (Str × Ex)} {args : List Expr} {kws : List Keyword} {p pos : Pos} (hd : Γ.P[f]? = some d) (hx : d.name = x) (htop : topB d.name = true) (hgl : glB Γ.sc x = true) (hok : okName x = true)
    (hL : mL es Γ args = true) (hK : mK ks Γ kws = true) (hsh : (es.length, ks.map (·.1), pm) ∈ d.shapes) (ha : PA X args (tL G (evF Γ.P k) W es)) (hk : PK X kws (tK' G (evF Γ.P k) W ks)) :
    PE X (.Call (.Name x p) args kws pos) (tE G (evF Γ.P k) W (.call f es ks pm)) := by
  obtain ⟨fa, fd, gm, kp, F, sh⟩ := c.tab f d hd
  have gm := gm htop
  rw [hx] at gm
  have hgx : Gl X x := by
    show X.env.scope.names.lookup x = some .globalImplicit
    rw [c.sc]
    unfold glB at hgl
    split at hgl <;> first | assumption | cases hgl
  simp only [okName, Bool.and_eq_true, Bool.not_eq_true'] at hok
  refine ⟨fun pins s σ H Q I h => ?_⟩
  refine PySem.wpAny_Call_Name_kw (ld_glob I hgx gm ?_ hok.1.1)
  have run : ∀ (s2 : Shared) (H2 : Hp) (us ws : List Value) (vs zs : List V), Inv X pins σ H2 s2 → Vals vs us → Vals zs ws → vs.length = es.length → zs.length = ks.length → spF G Γ.P k f (permV .non pm (vs ++ zs)) H2 Q (WE W σ) →
      wpAny (model X.prog X.w) X.A (call (.ref fa) us ((ks.map (·.1)).zip ws)) (EP X pins σ Q) X.xe s2 := fun s2 H2 us ws vs zs I2 rv rz l1 l2 hsp => by
    have b := sh _ hsh s2 us ws (by rw [← rv.length]; exact l1) (by rw [← rz.length, l2, List.length_map])
    refine PySem.wpAny_call (codeAny_mono (F.run X.A X.stack s2 H2 ⟨us, (ks.map (·.1)).zip ws⟩ _ _ Q (WE W σ) (c.room.mono (Nat.le_succ _)) c.gd I2.env0 b (vals_perm (rv.append rz) pm) hsp) fun r s' hq => ?_)
    cases r with
    | error e => exact passAt c.tk σ pins H2 s2 e s' I2 hq
    | ok fl =>
      cases fl with
      | ret u => exact I2.after hq
      | next => exact False.elim hq
      | brk => exact False.elim hq
      | cont => exact False.elim hq
  obtain ⟨n1, n2, n3⟩ := mK_names hK pos X.env
  obtain ⟨w, σd, rfl, g, rs, hp⟩ := h
  simp only [evE] at hp
  -- behind the arguments: the keywords, then the call
  have kwp : ∀ (s1 : Shared) (w1 : Wd) (us : List Value) (ds : List D) (vs : List V), Inv X pins σ w1.H s1 → WOk G w1 → RepS G w1 σd σ → Vals vs us → RepL G w1 ds vs → ds.length = es.length →
      Post G W σ w1 ((evK (evF Γ.P k) ks σd w1.M).bind fun us M2 => evF Γ.P k f (pm.map fun i => ((ds ++ us)[i]?).getD .non) M2) (fun d w' => ∀ v, Rep G w' d v → Q v w'.H) →
      wpAny (model X.prog X.w) X.A (evalAll ((backToKw pos (keywordEach kws X.env)).map (·.2))) (fun ws s₂ => X.K.In s₂.heap ∧ wpAny (model X.prog X.w) X.A (call (.ref fa) us (((backToKw pos (keywordEach kws X.env)).filterMap (·.1)).zip ws)) (EP X pins σ Q) X.xe s₂) X.xe s1 := fun s1 w1 us ds vs I1 g1 rs1 rv rl hl h1 => by
    refine thn (hk.run pos pins s1 σ w1.H (fun zs H2 => zs.length = ks.length ∧ spF G Γ.P k f (permV .non pm (vs ++ zs)) H2 Q (WE W σ)) I1 ⟨w1, σd, rfl, g1, rs1, (Post.bind h1).monoE fun zs w2 ez x2 g2 h2 ys ry => ?_⟩) fun ws s2 ⟨zs, H2, I2, rz, lz, q2⟩ => ⟨I2.kIn, ?_⟩
    · refine ⟨by rw [← ry.length]; exact evK_len ez, w2, _, rfl, g2, repL_perm ((RepL.ext x2 _ _ rl).append ry) pm, Post.wish h2⟩
    · rw [n3]
      exact run s2 H2 us ws vs zs I2 rv rz (by rw [← rl.length]; exact hl) lz q2
  cases args with
  | nil =>
    cases es with
    | cons _ _ => simp [mL] at hL
    | nil =>
      refine PySem.W.callWith_KW0 (h₀ := X.base) I.ok.mod.kin kp n1 ?_ (by rw [n2]; rfl)
      exact kwp s w [] [] [] I g rs .nil RepL.nil rfl hp
  | cons e rest =>
    cases es with
    | nil => simp [mL] at hL
    | cons e' es' =>
      simp only [mL, Bool.and_eq_true] at hL
      have hst := star_of (mE_plain hL.1) rest X.env
      refine PySem.W.callWith_KW (h₀ := X.base) I.ok.mod.kin kp n1 (thn (ha.run pos pins s σ w.H (fun vs H1 => ∃ w1 ds, w1.H = H1 ∧ WOk G w1 ∧ RepS G w1 σd σ ∧ RepL G w1 ds vs ∧ ds.length = (e' :: es').length ∧
        Post G W σ w1 ((evK (evF Γ.P k) ks σd w1.M).bind fun us M2 => evF Γ.P k f (pm.map fun i => ((ds ++ us)[i]?).getD .non) M2) (fun d w' => ∀ v, Rep G w' d v → Q v w'.H)) I ⟨w, σd, rfl, g, rs, (Post.bind hp).monoE fun ds w1 ed x1 g1 h1 vs rv => ⟨w1, ds, rfl, g1, rs.ext x1, rv, evL_len ed, h1⟩⟩) fun us s1 ⟨vs, H1, I1, r1, w1, ds, e1, g1, rs1, rl, hl, h1⟩ => ?_) ?_ hst
      · subst e1
        exact kwp s1 w1 us ds vs I1 g1 rs1 r1 rl hl h1
      · rw [hst, n2]
        show ((false || (backTo pos (starEach rest X.env)).any (·.1)) || false) = false
        rw [mL_star hL.2]
        rfl
end
end Ev
/-! Ev8: built-in calls, methods, targets, what is walked, comprehensions. -/
namespace Ev
open PySem L2
section
variable {G : Gb} {Φ : Nat → List D → Mem → Res D} {W : WX} {X : Cx} {k : Nat} {Γ : Cn}
theorem gl_of (c : Ctx G Γ k X W) {x : Str} (hgl : glB Γ.sc x = true) : Gl X x := by
  show X.env.scope.names.lookup x = some .globalImplicit
  rw [c.sc]
  unfold glB at hgl
  split at hgl <;> first | assumption | cases hgl
/-- a constant of the module -/
theorem s_glb (c : Ctx G Γ k X W) {v : GC} {d : D} {ex : Ex} {x : Str} {pos : Pos} (h : (glB Γ.sc x && okName x && decide ((x, v) ∈ Γ.gs)) = true) (hr : ∀ w z, GCok G.K v z → Rep G w d z) (he : ∀ σ M, evE Φ ex σ M = .ok d M) : PE X (.Name x pos) (tE G Φ W ex) := by
  simp only [Bool.and_eq_true, decide_eq_true_eq] at h
  obtain ⟨u, z, hm, r, ok⟩ := c.glb _ h.2
  refine s_con (pe_glob (gl_of c h.1.1) hm r ?_) (fun w => hr w z ok) he
  have := h.1.2
  simp only [okName, Bool.and_eq_true, Bool.not_eq_true'] at this
  exact this.1.1
theorem rep_gint {i : Int} : ∀ (w : Wd) (z : V), GCok G.K (.int i) z → Rep G w (.int i) z := fun w z h => by
  have : z = .int i := h
  subst this
  exact rep_int
theorem rep_gstr {s : Str} : ∀ (w : Wd) (z : V), GCok G.K (.str s) z → Rep G w (.str s) z := fun w z h => by
  have : z = .str s := h
  subst this
  exact rep_str
theorem repL_ga (w : Wd) : ∀ as : List GA, RepL G w (as.map GA.d) (as.map GA.v)
  | [] => by simp only [List.map_nil, RepL]
  | .int i :: as => RepL.cons rep_int (repL_ga w as)
  | .str s :: as => RepL.cons rep_str (repL_ga w as)
theorem evL_ga : ∀ {es : List Ex} {as : List GA}, gasE es = some as → ∀ (σ : Env') (M : Mem), evL Φ es σ M = .ok (as.map GA.d) M
  | [], as, h, σ, M => by
    simp only [gasE, Option.some.injEq] at h
    subst h
    simp only [evL, List.map_nil]
  | e :: es, as, h, σ, M => by
    simp only [gasE] at h
    split at h
    · rename_i a bs h1 h2
      cases h
      have ih := evL_ga h2 σ M
      cases e <;> simp only [gaE, reduceCtorEq, Option.some.injEq] at h1 <;> (subst h1; simp only [evL, evE, ih, Res.bind_ok, List.map_cons, GA.d])
    · cases h
/-- a constant tuple of the module -/
theorem s_gtup (c : Ctx G Γ k X W) {es : List Ex} {x : Str} {pos : Pos} (h : (glB Γ.sc x && okName x && gtB Γ.gs es x) = true) : PE X (.Name x pos) (tE G Φ W (.tup es)) := by
  simp only [Bool.and_eq_true] at h
  have h2 := h.2
  unfold gtB at h2
  cases e : gasE es with
  | none => rw [e] at h2; cases h2
  | some as =>
    rw [e] at h2
    simp only [Bool.and_eq_true, decide_eq_true_eq] at h2
    refine s_glb c (v := .tup as) (d := .tup (as.map GA.d)) (by simp only [h.1.1, h.1.2, Bool.and_self, Bool.true_and]; exact decide_eq_true h2.1) (fun w z hz => ?_) fun σ M => ?_
    · obtain ⟨a, rfl, ks⟩ := hz
      simp only [Rep]
      exact ⟨a, _, rfl, .inr ks, repL_ga w as⟩
    · have sz : (as.map GA.d).length ≤ sizeLine := by rw [List.length_map, sizeLine_eq]; omega
      simp only [evE, evL_ga e, Res.bind_ok]
      rw [if_pos sz]
theorem mg_none (c : Ctx G Γ k X W) {x : Str} (h : Γ.bs.contains x = true) : X.mg x = none := c.blt x (by simpa using h)
theorem ok_parts {x : Str} (h : okName x = true) : (x == ("__debug__" : Str)) = false ∧ x ≠ ("__name__" : Str) := by
  simp only [okName, Bool.and_eq_true, Bool.not_eq_true'] at h
  exact ⟨h.1.1, by simpa using h.2⟩
/-! ### built-in calls -/
theorem bi_boot : ∀ b : Bi, bootBuiltins (biName b) = some (biVal b)
  | .int => PyProof.Rows.boot_int
  | .len => PySem.boot_len
  | .abs => PyProof.Rows.boot_abs
  | .repr => PyProof.Rows.boot_repr
  | .str => PyProof.Rows.boot_str
  | .tuple => PyProof.Rows.boot_tuple
  | .list => PyProof.Rows.boot_list
  | .all => by decide +kernel
  | .any => by decide +kernel
  | .bool => by decide +kernel
  | .min => by decide +kernel
  | .max => by decide +kernel
  | .sum => by decide +kernel
  | .sorted => by decide +kernel
/-- list(x), which may still change -/
theorem s_mbl (c : Ctx G Γ k X W) {x : Str} {e : Ex} {a : Expr} {p pos : Pos} (hx : x = "list") (hgl : glB Γ.sc x = true) (hok : okName x = true) (hbs : Γ.bs.contains x = true) (hm : mE e Γ a = true) (ha : PE X a (tE G Φ W e)) : PE X (.Call (.Name x p) [a] [] pos) (tE G Φ W (.mbl e)) := by
  subst hx
  obtain ⟨o1, o2⟩ := ok_parts hok
  have hst := star_of (mE_plain hm) [] X.env
  refine PE.imp (pe_callTy call_list_of (gl_of c hgl) (mg_none c hbs) PyProof.Rows.boot_list (pa_cons ha pa_nil hst) o2 o1 hst) ?_
  rintro σ H Q ⟨w, σd, rfl, g, rs, hp⟩
  simp only [evE] at hp
  refine ⟨w, σd, rfl, g, rs, (Post.bind hp).mono fun d w1 x1 g1 h1 v r1 => ?_⟩
  split at h1
  · rename_i ys hy
    have sq : ∃ q vs, v = V.ref q ∧ (SqL X.K w1.H q vs ∨ SqT X.K w1.H q vs) ∧ RepL G w1 ys vs := by
      rw [c.K]
      by_cases ht : ∃ zs, d = .tup zs
      · obtain ⟨zs, rfl⟩ := ht
        simp only [seqA, Option.some.injEq] at hy
        subst hy
        obtain ⟨b, vs, rfl, h2, h3⟩ := Rep.tup r1
        exact ⟨b, vs, rfl, .inr h2, h3⟩
      · have hy' : seqL w1.M d = some ys := by
          cases d <;> first | exact hy | exact absurd ⟨_, rfl⟩ ht
        obtain ⟨b, vs, rfl, h2, h3⟩ := Rep.lst g1 r1 hy'
        exact ⟨b, vs, rfl, .inl h2, h3⟩
    obtain ⟨q, vs, rfl, h2, h3⟩ := sq
    refine ⟨q, vs, rfl, h2, fun p hp => ?_⟩
    have x2 := ext_alloc (m := .lst ys) (o := .lst vs) g1 hp
    refine h1 (w1.alloc p (.lst ys) (.lst vs)) x2 (wok_alloc g1 hp ⟨vs, upd_same, RepL.ext x2 _ _ h3⟩) rfl (.ref p) ?_
    simp only [Rep]
    refine ⟨p, rfl, ?_⟩
    show (w1.as ++ [p])[w1.M.length]? = some p
    rw [← g1.len, List.getElem?_append_right (Nat.le_refl _), Nat.sub_self]
    rfl
  · exact absurd h1 fun z => z
theorem s_bi (c : Ctx G Γ k X W) {b : Bi} {x : Str} {es : List Ex} {args : List Expr} {p pos : Pos} (hx : x = biName b) (hgl : glB Γ.sc x = true) (hok : okName x = true) (hbs : Γ.bs.contains x = true) (hL : mL es Γ args = true) (hne : args ≠ [])
    (ha : PA X args (tL G Φ W es)) : PE X (.Call (.Name x p) args [] pos) (tE G Φ W (.bi b es)) := by
  subst hx
  obtain ⟨o1, o2⟩ := ok_parts hok
  cases args with
  | nil => exact absurd rfl hne
  | cons e rest =>
    cases es with
    | nil => simp [mL] at hL
    | cons e' es' =>
      simp only [mL, Bool.and_eq_true] at hL
      have hst := star_of (mE_plain hL.1) rest X.env
      have hpl := mL_star hL.2 pos X.env
      have cr := call_bi (X := X) (G := G) c.calm c.K (units_of c) c.gd b
      have base : PE X (.Call (.Name (biName b) p) (e :: rest) [] pos) (tCB (rCall G (evBi b)) (tL G Φ W (e' :: es'))) := by
        have bb := bi_boot b
        cases b with
        | int => exact pe_callTy cr (gl_of c hgl) (mg_none c hbs) bb ha o2 o1 hst hpl
        | str => exact pe_callTy cr (gl_of c hgl) (mg_none c hbs) bb ha o2 o1 hst hpl
        | tuple => exact pe_callTy cr (gl_of c hgl) (mg_none c hbs) bb ha o2 o1 hst hpl
        | list => exact pe_callTy cr (gl_of c hgl) (mg_none c hbs) bb ha o2 o1 hst hpl
        | len => exact pe_callB cr (gl_of c hgl) (mg_none c hbs) bb ha o2 o1 hst hpl
        | abs => exact pe_callB cr (gl_of c hgl) (mg_none c hbs) bb ha o2 o1 hst hpl
        | repr => exact pe_callB cr (gl_of c hgl) (mg_none c hbs) bb ha o2 o1 hst hpl
        | all => exact pe_callB cr (gl_of c hgl) (mg_none c hbs) bb ha o2 o1 hst hpl
        | any => exact pe_callB cr (gl_of c hgl) (mg_none c hbs) bb ha o2 o1 hst hpl
        | min => exact pe_callB cr (gl_of c hgl) (mg_none c hbs) bb ha o2 o1 hst hpl
        | sum => exact pe_callB cr (gl_of c hgl) (mg_none c hbs) bb ha o2 o1 hst hpl
        | sorted => exact pe_callB cr (gl_of c hgl) (mg_none c hbs) bb ha o2 o1 hst hpl
        | max => exact pe_callB cr (gl_of c hgl) (mg_none c hbs) bb ha o2 o1 hst hpl
        | bool => exact pe_callTy cr (gl_of c hgl) (mg_none c hbs) bb ha o2 o1 hst hpl
      refine PE.imp base ?_
      rintro σ H Q ⟨w, σd, rfl, g, rs, hp⟩
      simp only [evE] at hp
      refine ⟨w, σd, rfl, g, rs, (Post.bind hp).mono fun ds w1 x1 g1 h1 vs r1 => ?_⟩
      obtain ⟨z, hz, h2⟩ := Post.of h1
      exact ⟨w1, ds, z, rfl, g1, r1, hz, fun w2 v x2 g2 e2 r => h2 w2 x2 g2 e2 v r⟩
theorem ty_boot {t : String} (h : tyAsk.contains t = true) : bootBuiltins (Str.ofString t) = some (.type t) := by
  have hm : t ∈ tyAsk := by simpa using h
  simp only [tyAsk, List.mem_cons, List.mem_nil_iff, or_false] at hm
  rcases hm with rfl | rfl | rfl | rfl | rfl | rfl
  · exact PyProof.Rows.boot_int
  · exact PyProof.Rows.boot_bool
  · exact PyProof.Rows.boot_str
  · exact PyProof.Rows.boot_list
  · exact PyProof.Rows.boot_tuple
  · exact PyProof.Rows.boot_dict
theorem pe_ty (c : Ctx G Γ k X W) {t : String} {e : Expr} (h : mTy Γ t e = true) (ht : tyAsk.contains t = true) : PE X e (tC (.ty t)) := by
  cases e with
  | Name x p =>
    simp only [mTy, Bool.and_eq_true, eqS, decide_eq_true_eq] at h
    obtain ⟨⟨⟨rfl, h2⟩, h3⟩, h4⟩ := h
    obtain ⟨o1, o2⟩ := ok_parts h4
    exact pe_bltn (gl_of c h2) (mg_none c (by simpa using h3)) (ty_boot ht) rfl o2 o1
  | _ => simp [mTy] at h
theorem mTy_plain {t : String} {e : Expr} (h : mTy Γ t e = true) : plainX e = true := by
  cases e <;> first | rfl | simp [mTy] at h
def tTys (ts : List String) : TA := fun _ H Q => Q (tyVs ts) H
theorem pa_tys (c : Ctx G Γ k X W) : ∀ {ts : List String} {es : List Expr}, mTys Γ ts es = true → (∀ t ∈ ts, tyAsk.contains t = true) → PA X es (tTys ts)
  | [], [], _, _ => pa_nil
  | [], _ :: _, h, _ => by simp [mTys] at h
  | _ :: _, [], h, _ => by simp [mTys] at h
  | t :: ts, e :: es, h, ht => by
    simp only [mTys, Bool.and_eq_true] at h
    exact PA.imp (pa_cons (pe_ty c h.1 (ht t (List.mem_cons_self ..))) (pa_tys c h.2 fun t' h' => ht t' (List.mem_cons_of_mem _ h')) (star_of (mTy_plain h.1) _ _)) fun σ H Q q => q
theorem s_isi (c : Ctx G Γ k X W) {ts : List String} {x : Str} {e : Ex} {a cl : Expr} {p pos : Pos} (hx : x = "isinstance") (hgl : glB Γ.sc x = true) (hok : okName x = true) (hbs : Γ.bs.contains x = true) (ht : ∀ t ∈ ts, tyAsk.contains t = true) (hT : mTyE Γ ts cl = true)
    (hpa : plainX a = true) (ha : PE X a (tE G Φ W e)) : PE X (.Call (.Name x p) [a, cl] [] pos) (tE G Φ W (.isi e ts)) := by
  subst hx
  obtain ⟨o1, o2⟩ := ok_parts hok
  have fin : ∀ {σ : L2.St} {w : Wd} {d : D} {Q : VK}, WOk G w → Post G W σ w (Res.of ((isiD ts d).map .bl) w.M) (fun d w' => ∀ v, Rep G w' d v → Q v w'.H) → ∃ b, isiD ts d = some b ∧ Post G W σ w (.ok (.bl b) w.M) (fun d w' => ∀ v, Rep G w' d v → Q v w'.H) := fun {σ w d Q} g h => by
    obtain ⟨z, hz, h2⟩ := Post.of h
    obtain ⟨b, hb, rfl⟩ := Option.map_eq_some_iff.mp hz
    exact ⟨b, hb, h2⟩
  by_cases htp : ∃ xs n q, cl = .Tuple xs n q
  · obtain ⟨xs, n, q, rfl⟩ := htp
    simp only [mTyE, Bool.and_eq_true] at hT
    have pc := pe_tup (x1 := n) (pos := q) (pa_tys c hT.1 ht)
    refine PE.imp (pe_callB (isi_many (ts := ts) c.K c.prog c.wd) (gl_of c hgl) (mg_none c hbs) PyProof.Rows.boot_isinstance (pa_cons ha (pa_cons pc pa_nil (by rfl)) (star_of hpa _ _)) o2 o1 (star_of hpa _ _) (by rfl)) ?_
    rintro σ H Q ⟨w, σd, rfl, g, rs, hp⟩
    simp only [evE] at hp
    refine ⟨w, σd, rfl, g, rs, (Post.bind hp).mono fun d w1 x1 g1 h1 v1 r1 => ?_⟩
    obtain ⟨b, hb, h2⟩ := fin g1 h1
    refine ⟨?_, fun tp htp => ?_⟩
    · have hl : ts.length ≤ 100 := of_decide_eq_true hT.2
      show (tyVs ts).length ≤ sizeLine
      rw [tyVs, List.length_map, sizeLine_eq]
      omega
    · exact ⟨{ w1 with H := upd w1.H tp (.tup (tyVs ts)) }, d, b, v1, tp, rfl, wok_new g1 htp, rfl, upd_same, Rep.ext (ext_new g1 htp) _ _ r1, hb, h2 _ (ext_new g1 htp) (wok_new g1 htp) rfl _ rep_bl⟩
  · have hone : ∃ t, ts = [t] ∧ mTy Γ t cl = true := by
      unfold mTyE at hT
      split at hT
      · exact absurd ⟨_, _, _, rfl⟩ htp
      · split at hT
        · exact ⟨_, rfl, hT⟩
        · cases hT
    obtain ⟨t, rfl, h1⟩ := hone
    have pc := pe_ty c h1 (ht t (List.mem_cons_self ..))
    refine PE.imp (pe_callB (isi_one (t := t) c.K c.prog c.wd) (gl_of c hgl) (mg_none c hbs) PyProof.Rows.boot_isinstance (pa_cons ha (pa_cons pc pa_nil (star_of (mTy_plain h1) _ _)) (star_of hpa _ _)) o2 o1 (star_of hpa _ _) (by rw [star_of (mTy_plain h1)]; rfl)) ?_
    rintro σ H Q ⟨w, σd, rfl, g, rs, hp⟩
    simp only [evE] at hp
    refine ⟨w, σd, rfl, g, rs, (Post.bind hp).mono fun d w1 x1 g1 h2 v1 r1 => ?_⟩
    obtain ⟨b, hb, h3⟩ := fin g1 h2
    exact ⟨w1, d, b, v1, rfl, g1, rfl, r1, hb, post_ok g1 h3 _ rep_bl⟩
/-! ### methods -/
theorem mt_facts (m : Mt) : PlainAttrs (mtTy m) ∧ Slot (mtTy m) (mtName m) (mtId m) ∧ typeOf (.builtin (mtId m)) = pure (.type "method_descriptor") := by
  cases m with
  | append => exact ⟨PySem.F.plainAttrs_list, PySem.F.slot_list_append, PySem.F.type_list_append⟩
  | extend => exact ⟨PySem.F.plainAttrs_list, PySem.F.slot_list_extend, PySem.F.type_list_extend⟩
  | pop => exact ⟨PySem.F.plainAttrs_list, PySem.F.slot_list_pop, PySem.F.type_list_pop⟩
  | index => exact ⟨PySem.F.plainAttrs_list, PySem.F.slot_list_index, PySem.F.type_list_index⟩
  | join => exact ⟨PySem.F.plainAttrs_str, PySem.F.slot_str_join, PySem.F.type_str_join⟩
  | split => exact ⟨PySem.F.plainAttrs_str, PySem.F.slot_str_split, PySem.F.type_str_split⟩
  | startswith => exact ⟨PySem.F.plainAttrs_str, PySem.F.slot_str_startswith, PySem.F.type_str_startswith⟩
theorem mt_tyV (hK : X.K = G.K) {w : Wd} (g : WOk G w) {m : Mt} {o : D} {v : V} (r : Rep G w o v) (h : mtFit m o w.M = true) : tyV X.K (mtTy m) v w.H := by
  have lst : (seqL w.M o).isSome = true → tyV X.K "list" v w.H := fun h => by
    obtain ⟨xs, hx⟩ := Option.isSome_iff_exists.mp h
    obtain ⟨a, vs, rfl, h1, _⟩ := Rep.lst g r hx
    exact .inl ⟨rfl, vs, by rw [hK]; exact h1⟩
  have str : isStrD o = true → tyV X.K "str" v w.H := fun h => by
    cases o with
    | str s => simp only [Rep] at r; subst r; exact rfl
    | _ => cases h
  cases m with
  | append => exact lst h
  | extend => exact lst h
  | pop => exact lst h
  | index => exact lst h
  | join => exact str h
  | split => exact str h
  | startswith => exact str h
theorem s_meth (c : Ctx G Γ k X W) {m : Mt} {o : Ex} {es : List Ex} {y : Expr} {args : List Expr} {apos cpos : Pos} (hb : attrOk y = true) (hL : mL es Γ args = true) (hne : args ≠ []) (hline : (apos.endLine == cpos.line) = true) (hfew : args.length < 20)
    (ho : PE X y (tE G Φ W o)) (ha : PA X args (tL G Φ W es)) : PE X (.Call (.Attribute y (mtName m) apos) args [] cpos) (tE G Φ W (.meth m o es)) := by
  obtain ⟨f1, f2, f3⟩ := mt_facts m
  cases args with
  | nil => exact absurd rfl hne
  | cons e rest =>
    cases es with
    | nil => simp [mL] at hL
    | cons e' es' =>
      have hL' := hL
      simp only [mL, Bool.and_eq_true] at hL
      have hst := star_of (mE_plain hL.1) rest X.env
      have hpl := mL_star hL.2 cpos X.env
      refine PE.imp (pe_bm f1 f2 f3 (mt_D (G := G) c.K (by have := c.room.un; omega) m) ho ha (attr_base hb _ _) ?_ hline hst hpl) ?_
      · rw [mL_all hL' cpos X.env]
        simp only [List.length_cons] at hfew ⊢
        show (true && true && decide (rest.length + 1 + 0 + 0 < 30)) = true
        simp
        omega
      · rintro σ H Q ⟨w, σd, rfl, g, rs, hp⟩
        simp only [evE] at hp
        refine ⟨w, σd, rfl, g, rs, (Post.bind hp).mono fun d w1 x1 g1 h1 v1 r1 => ?_⟩
        split at h1
        · rename_i hf
          refine ⟨mt_tyV c.K g1 r1 hf, w1, σd, rfl, g1, rs.ext x1, (Post.bind h1).mono fun ds w2 x2 g2 h2 vs r2 => ?_⟩
          obtain ⟨z, M', hz, h3⟩ := Post.ofM h2
          exact ⟨w2, d, ds, z, M', rfl, g2, Rep.ext x2 _ _ r1, r2, hz, fun w3 v x3 g3 e3 r => h3 w3 x3 g3 e3 v r⟩
        · exact absurd h1 fun z => z
end
end Ev
/-! EvC: instances: fields, methods, new ones. -/
namespace Ev
open PySem L2
section
variable {G : Gb} {w : Wd}
theorem RepF.look : ∀ {fs : List (Str × D)} {vs : List (Str × V)}, RepF G w fs vs → ∀ f, (∀ d, fs.lookup f = some d → ∃ v, vs.lookup f = some v ∧ Rep G w d v) ∧ (fs.lookup f = none → vs.lookup f = none)
  | [], _, h, f => by
    simp only [RepF] at h; subst h
    exact ⟨fun d e => by simp at e, fun _ => rfl⟩
  | (g, x) :: fs, _, h, f => by
    simp only [RepF] at h
    obtain ⟨v, r, rfl, h1, h2⟩ := h
    have ih := RepF.look h2 f
    simp only [List.lookup_cons]
    by_cases e : (f == g) = true
    · rw [e]
      exact ⟨fun d ed => by cases ed; exact ⟨v, rfl, h1⟩, fun z => by cases z⟩
    · have e' : (f == g) = false := by simpa using e
      rw [e']
      exact ih
theorem RepF.put {f : Str} {d : D} {v : V} (r : Rep G w d v) : ∀ {fs : List (Str × D)} {vs : List (Str × V)}, RepF G w fs vs → RepF G w (putFD f d fs) (putF f v vs)
  | [], _, h => by
    simp only [RepF] at h; subst h
    simp only [putFD, putF, RepF]
    exact ⟨v, [], rfl, r, rfl⟩
  | (g, x) :: fs, _, h => by
    simp only [RepF] at h
    obtain ⟨u, rs, rfl, h1, h2⟩ := h
    simp only [putFD, putF]
    split
    · simp only [RepF]
      exact ⟨v, rs, rfl, r, h2⟩
    · simp only [RepF]
      exact ⟨u, _, rfl, h1, RepF.put r h2⟩
theorem RepF.len : ∀ {fs : List (Str × D)} {vs : List (Str × V)}, RepF G w fs vs → fs.length = vs.length
  | [], _, h => by simp only [RepF] at h; subst h; rfl
  | d :: fs, _, h => by
    simp only [RepF] at h
    obtain ⟨v, r, rfl, _, h2⟩ := h
    simp [RepF.len h2]
/-- an instance, as it stands -/
theorem ins_at (g : WOk G w) {x : D} {v : V} {c : Nat} {fs : List (Str × D)} (r : Rep G w x v) (h : insOf w.M x = some (c, fs)) : c < G.nc ∧ ∃ a dx vs, v = .ref a ∧ w.H a = some (.ins (G.cls c) dx vs) ∧ RepF G w fs vs := by
  cases x with
  | ins c' fs' =>
    simp only [insOf, Option.some.injEq, Prod.mk.injEq] at h
    obtain ⟨rfl, rfl⟩ := h
    simp only [Rep] at r
    obtain ⟨hc, a, dx, vs, rfl, h1, h2⟩ := r
    exact ⟨hc, a, dx, vs, rfl, h1.1, h2⟩
  | cell i =>
    simp only [insOf] at h
    split at h
    · rename_i c' fs' hm
      simp only [Option.some.injEq, Prod.mk.injEq] at h
      obtain ⟨rfl, rfl⟩ := h
      simp only [Rep] at r
      obtain ⟨a, rfl, ha⟩ := r
      obtain ⟨hc, dx, vs, h1, h2⟩ := g.cell i a _ ha hm
      exact ⟨hc, a, dx, vs, rfl, h1, h2⟩
    · cases h
  | _ => simp [insOf] at h
end
section
variable {G : Gb} {Φ : Nat → List D → Mem → Res D} {W : WX} {X : Cx} {k : Nat} {Γ : Cn}
theorem lookup_mem {α β : Type} [BEq α] [LawfulBEq α] {a : α} {b : β} : ∀ {l : List (α × β)}, l.lookup a = some b → (a, b) ∈ l
  | [], h => by simp at h
  | (x, y) :: l, h => by
    rw [List.lookup_cons] at h
    split at h
    · rename_i e
      cases h
      rw [eq_of_beq e]
      exact List.mem_cons_self ..
    · exact List.mem_cons_of_mem _ (lookup_mem h)
theorem cls_of (c : Ctx G Γ k X W) {n : Nat} (h : n < G.nc) : ∃ cf, Γ.cs[n]? = some cf := by
  rw [c.nc] at h
  exact ⟨_, List.getElem?_eq_getElem h⟩
theorem s_fldE (c : Ctx G Γ k X W) {a : Ex} {f : Str} {x : Expr} {pos : Pos} (ha : PE X x (tE G Φ W a)) (hx : attrOk x = true) (hf : (Γ.cs.all fun cf => cf.flds.contains f) = true) : PE X (.Attribute x f pos) (tE G Φ W (.fldE a f)) := by
  refine PE.imp (pe_fld ha (attr_base hx f X.env)) ?_
  rintro σ H Q ⟨w, σd, rfl, g, rs, hp⟩
  simp only [evE] at hp
  refine ⟨w, σd, rfl, g, rs, (Post.bind hp).mono fun d w1 x1 g1 h1 v1 r1 => ?_⟩
  split at h1
  · rename_i cn fs hi
    obtain ⟨z, hz, h2⟩ := Post.of h1
    obtain ⟨hc, a', dx, vs, rfl, e1, e2⟩ := ins_at g1 r1 hi
    obtain ⟨cf, hcf⟩ := cls_of c hc
    have R := c.cls cn cf hcf
    obtain ⟨v, hv, rv⟩ := (e2.look f).1 z hz
    have hm : f ∈ cf.flds := by
      have := List.all_eq_true.mp hf cf (List.mem_of_getElem? hcf)
      simpa using this
    exact ⟨a', _, dx, vs, v, rfl, e1, by rw [c.K]; exact R.cl, by rw [c.K]; exact R.fld f hm, hv, h2 w1 (Ext.refl _) g1 rfl v rv⟩
  · exact absurd h1 fun z => z
/-- isinstance(x, C), C an own class -/
theorem s_isc (c : Ctx G Γ k X W) {e : Ex} {y : Str} {subs : List Nat} {a : Expr} {p p2 pos : Pos} (hgl : glB Γ.sc "isinstance" = true) (hok : okName "isinstance" = true) (hbs : Γ.bs.contains "isinstance" = true) (hgy : glB Γ.sc y = true) (hoy : okName y = true) (hm : mE e Γ a = true) (ha : PE X a (tE G Φ W e))
    (hs : (Γ.cs.zipIdx.all fun p => decide (p.1.asks.lookup y = some (subs.contains p.2))) = true) (hne : Γ.cs ≠ []) : PE X (.Call (.Name "isinstance" p) [a, .Name y p2] [] pos) (tE G Φ W (.isc e y subs)) := by
  obtain ⟨o1, o2⟩ := ok_parts hok
  obtain ⟨q1, q2⟩ := ok_parts hoy
  have asks : ∀ n cf, Γ.cs[n]? = some cf → cf.asks.lookup y = some (subs.contains n) := fun n cf h => by
    have hm : (cf, n) ∈ Γ.cs.zipIdx := by rw [List.mk_mem_zipIdx_iff_getElem?]; exact h
    simpa using List.all_eq_true.mp hs (cf, n) hm
  obtain ⟨cf0, hcf0⟩ : ∃ cf0, Γ.cs[0]? = some cf0 := ⟨_, List.getElem?_eq_getElem (List.length_pos_iff.mpr hne)⟩
  obtain ⟨Cy, hy, _⟩ := (c.cls 0 cf0 hcf0).ask y _ (asks 0 cf0 hcf0)
  have ps := pa_cons ha (pa_cons (pe_glob (gl_of c hgy) hy (v := .ref Cy) rfl q1) pa_nil (star_of rfl _ _)) (star_of (mE_plain hm) [.Name y p2] X.env)
  refine PE.imp (pe_callB call_isi (gl_of c hgl) (mg_none c hbs) PyProof.Rows.boot_isinstance ps o2 o1 (star_of (mE_plain hm) [.Name y p2] X.env)) ?_
  rintro σ H Q ⟨w, σd, rfl, g, rs, hp⟩
  simp only [evE] at hp
  refine ⟨w, σd, rfl, g, rs, (Post.bind hp).mono fun d w1 x1 g1 h1 v1 r1 => ?_⟩
  cases d with
  | ins cn fs =>
    simp only [Rep] at r1
    obtain ⟨hc, a', dx, vs, rfl, e1, e2⟩ := r1
    obtain ⟨cf, hcf⟩ := cls_of c hc
    have R := c.cls cn cf hcf
    obtain ⟨C2, h2, hk⟩ := R.ask y _ (asks cn cf hcf)
    have : C2 = Cy := by
      have := h2.symm.trans hy
      cases this
      rfl
    subst this
    refine ⟨.ref a', .ref C2, .ref (G.cls cn), .ref C2, _, rfl, .own C2, .base (.ins e1.1 (by rw [c.K]; exact R.cl) (by rw [c.K]; exact R.ty1) (by rw [c.K]; exact R.ty2) (by rw [c.K]; exact R.ty3) (by rw [c.K]; exact R.ty4)), by rw [c.K]; exact hk, ?_⟩
    exact post_ok g1 h1 _ rep_bl
  | _ => exact absurd h1 fun z => z
theorem permV_range {α : Type} (d : α) (xs : List α) : permV d (List.range xs.length) xs = xs := by
  unfold permV
  refine List.ext_getElem (by simp) fun i h1 h2 => ?_
  simp [List.getElem?_eq_getElem h2]
/-- a def called with values that are there -/
theorem run_G (c : Ctx G Γ k X W) {f : Nat} {d : Df} {fa : Addr} {fd : FuncData} {pins : List (Addr × Obj)} {s : Shared} {σ : L2.St} {H : Hp} {us : List Value} {vs : List V} {Q : VK}
    (F : FnG X.prog X.w X.K X.mg X.base (2 * k) fa fd d.ps (spF G Γ.P k f)) (sh : ∀ sh ∈ d.shapes, ∀ (s : Shared) (us ws : List Value), us.length = sh.1 → ws.length = sh.2.1.length → BindsTo s fd ⟨us, sh.2.1.zip ws⟩ (d.ps.zip (permV .none sh.2.2 (us ++ ws))))
    (hm : (us.length, [], List.range us.length) ∈ d.shapes) (I : Inv X pins σ H s) (r : Vals vs us) (hsp : spF G Γ.P k f vs H Q (WE W σ)) : wpAny (model X.prog X.w) X.A (call (.ref fa) us) (EP X pins σ Q) X.xe s := by
  have b := sh _ hm s us [] rfl rfl
  have e1 : permV Value.none (List.range us.length) (us ++ []) = us := by rw [List.append_nil]; exact permV_range _ us
  simp only [List.zip_nil_left] at b
  rw [e1] at b
  refine PySem.wpAny_call (codeAny_mono (F.run X.A X.stack s H ⟨us, []⟩ _ _ Q (WE W σ) (c.room.mono (Nat.le_succ _)) c.gd I.env0 b r hsp) fun r s' hq => ?_)
  cases r with
  | error e => exact passAt c.tk σ pins H s e s' I hq
  | ok fl =>
    cases fl with
    | ret u => exact I.after hq
    | next => exact False.elim hq
    | brk => exact False.elim hq
    | cont => exact False.elim hq
theorem s_mcall (c : Ctx G Γ k X W) {m : Str} {tbl : List (Nat × Nat)} {o : Ex} {es : List Ex} {y : Expr} {args : List Expr} {apos cpos : Pos} (hb : attrOk y = true) (hL : mL es Γ args = true) (hne : args ≠ []) (hline : (apos.endLine == cpos.line) = true) (hfew : args.length < 20)
    (ht : ∀ p ∈ tbl, ∃ cf d, Γ.cs[p.1]? = some cf ∧ Γ.P[p.2]? = some d ∧ cf.meths.lookup m = some p.2 ∧ (es.length + 1, [], List.range (es.length + 1)) ∈ d.shapes)
    (ho : PE X y (tE G (evF Γ.P k) W o)) (ha : PA X args (tL G (evF Γ.P k) W es)) : PE X (.Call (.Attribute y m apos) args [] cpos) (tE G (evF Γ.P k) W (.mcall m tbl o es)) := by
  cases args with
  | nil => exact absurd rfl hne
  | cons e rest =>
    cases es with
    | nil => simp [mL] at hL
    | cons e' es' =>
      have hL' := hL
      simp only [mL, Bool.and_eq_true] at hL
      have hst := star_of (mE_plain hL.1) rest X.env
      have hpl := mL_star hL.2 cpos X.env
      refine ⟨fun pins s σ H Q I h => ?_⟩
      obtain ⟨w, σd, rfl, g, rs, hp⟩ := h
      simp only [evE] at hp
      have hform : methodCallForm ((e :: rest).length + ([] : List Keyword).length) (backTo cpos (starEach (e :: rest) X.env)) (backToKw cpos (keywordEach [] X.env)) = true := by
        unfold methodCallForm
        rw [mL_all hL' cpos X.env]
        simp only [List.length_cons] at hfew ⊢
        show (true && true && decide (rest.length + 1 + 0 + 0 < 30)) = true
        simp
        omega
      have hpos : methodCallPos true y X.env apos cpos = pure cpos := by unfold methodCallPos; simp [hline]
      rw [arm_eval_Call, attr_base hb]
      unfold methodCall
      rw [hform]
      refine wpAny_bind (thn (ho.run pins s σ w.H (fun v H1 => ∃ w1 d, w1.H = H1 ∧ WOk G w1 ∧ RepS G w1 σd σ ∧ Rep G w1 d v ∧ Post G W σ w1 (match insOf w1.M d with
          | some (c, fs) => if (fs.lookup m).isNone = true then match tbl.lookup c with
            | some i => (evL (evF Γ.P k) (e' :: es') σd w1.M).bind fun ds M2 => evF Γ.P k i (d :: ds) M2
            | none => .no
            else .no
          | none => .no) (fun d w' => ∀ v, Rep G w' d v → Q v w'.H)) I ⟨w, σd, rfl, g, rs, (Post.bind hp).mono fun d w1 x1 g1 h1 v1 r1 => ⟨w1, d, rfl, g1, rs.ext x1, r1, h1⟩⟩) fun u s1 ⟨v, H1, I1, ru, w1, d, e1, g1, rs1, r1, h1⟩ => ?_)
      subst e1
      split at h1
      · rename_i cn fs hi
        split at h1
        · rename_i hlk
          split at h1
          · rename_i i hti
            obtain ⟨hc, a', dx, vs, rfl, q1, q2⟩ := ins_at g1 r1 hi
            obtain ⟨cf, df, hcf, hdf, hme, hsh⟩ := ht (cn, i) (lookup_mem hti)
            have R := c.cls cn cf hcf
            obtain ⟨fa, hM, d2, fd, hd2, F, sh⟩ := R.mth m i hme
            have : d2 = df := by rw [hdf] at hd2; exact (Option.some.inj hd2).symm
            subst this
            cases ru
            have hl : vs.lookup m = none := (q2.look m).2 (by simpa using hlk)
            refine wpAny_bind (wpAny_standAt (wpAny_bind (wpAny_holding ?_)))
            unfold calleeOf
            rw [if_pos rfl]
            refine getmeth_ok I1 q1 (by rw [c.K]; exact R.cl) (by rw [c.K]; exact hM) hl (wpAny_bind ?_)
            rw [hpos]
            refine wpAny_pure ?_
            refine PySem.W.callWith_K (first := [.ref a']) (h₀ := X.base) I1.ok.mod.kin (by rw [c.K]; exact hM.kp) (thn (ha.run cpos pins s1 σ w1.H (fun vs H2 => vs.length = (e' :: es').length ∧ spF G Γ.P k i (.ref a' :: vs) H2 Q (WE W σ)) I1 ⟨w1, σd, rfl, g1, rs1, (Post.bind h1).monoE fun ds w2 ed x2 g2 h2 ys ry => ?_⟩) fun us s2 ⟨zs, H2, I2, rz, lz, hsp⟩ => ⟨I2.kIn, ?_⟩) hst hpl
            · exact ⟨by rw [← ry.length]; exact evL_len ed, w2, d :: ds, rfl, g2, RepL.cons (Rep.ext x2 _ _ r1) ry, Post.wish h2⟩
            · refine run_G c F sh ?_ I2 (us := .ref a' :: us) (vs := .ref a' :: zs) (.cons rfl rz) hsp
              have : (Value.ref a' :: us).length = (e' :: es').length + 1 := by rw [List.length_cons, ← rz.length, lz]
              rw [this]
              exact hsh
          · exact absurd h1 fun z => z
        · exact absurd h1 fun z => z
      · exact absurd h1 fun z => z
theorem s_new (c : Ctx G Γ k X W) {n f : Nat} {x : Str} {es : List Ex} {args : List Expr} {p pos : Pos} {cf : Cf} {d : Df} (hgl : glB Γ.sc x = true) (hok : okName x = true) (hL : mL es Γ args = true) (hne : args ≠ []) (hcf : Γ.cs[n]? = some cf) (hx : cf.name = x) (hini : cf.init = some f) (hd : Γ.P[f]? = some d)
    (hsh : (es.length + 1, [], List.range (es.length + 1)) ∈ d.shapes) (ha : PA X args (tL G (evF Γ.P k) W es)) : PE X (.Call (.Name x p) args [] pos) (tE G (evF Γ.P k) W (.new n f es)) := by
  obtain ⟨o1, o2⟩ := ok_parts hok
  have R := c.cls n cf hcf
  obtain ⟨fa, hM, d2, fd, hd2, F, sh⟩ := R.ini f hini
  have : d2 = d := by rw [hd] at hd2; exact (Option.some.inj hd2).symm
  subst this
  have hnm := R.nm
  rw [hx] at hnm
  have hn : n < G.nc := by rw [c.nc]; exact (List.getElem?_eq_some_iff.mp hcf).1
  cases args with
  | nil => exact absurd rfl hne
  | cons e rest =>
    cases es with
    | nil => simp [mL] at hL
    | cons e' es' =>
      simp only [mL, Bool.and_eq_true] at hL
      have hst := star_of (mE_plain hL.1) rest X.env
      have hpl := mL_star hL.2 pos X.env
      refine ⟨fun pins s σ H Q I h => ?_⟩
      obtain ⟨w, σd, rfl, g, rs, hp⟩ := h
      simp only [evE] at hp
      refine wpAny_Call_Name_kw (ld_glob I (gl_of c hgl) hnm ?_ o1)
      refine PySem.W.callWith_K (h₀ := X.base) I.ok.mod.kin (by rw [c.K]; exact hM.kp) (thn (ha.run pos pins s σ w.H (fun vs H1 => ∃ w1 ds, w1.H = H1 ∧ WOk G w1 ∧ RepL G w1 ds vs ∧ ds.length = (e' :: es').length ∧
          Post G W σ w1 ((evF Γ.P k f (.cell w1.M.length :: ds) (w1.M ++ [some (.ins n [])])).bind fun d M2 => match d, M2[w1.M.length]? with
            | .non, some (some (.ins c' fs)) => .ok (.ins c' fs) (M2.set w1.M.length none)
            | _, _ => .no) (fun d w' => ∀ v, Rep G w' d v → Q v w'.H)) I ⟨w, σd, rfl, g, rs, (Post.bind hp).monoE fun ds w1 ed x1 g1 h1 vs rv => ⟨w1, ds, rfl, g1, rv, evL_len ed, h1⟩⟩) fun us s1 ⟨vs, H1, I1, rv, w1, ds, e1, g1, rl, hl, h1⟩ => ⟨I1.kIn, ?_⟩) hst hpl
      subst e1
      -- the new object, its dict
      obtain ⟨xa, hxa⟩ : ∃ xa, xa = s1.heap.objs.size + 1 := ⟨_, rfl⟩
      obtain ⟨dxa, hdxa⟩ : ∃ dxa, dxa = s1.heap.objs.size := ⟨_, rfl⟩
      have nx : w1.H xa = none := by rw [hxa]; exact I1.hok.fresh (Nat.le_succ _)
      have nd : w1.H dxa = none := by rw [hdxa]; exact I1.hok.fresh (Nat.le_refl _)
      have ne : dxa ≠ xa := by rw [hxa, hdxa]; exact Nat.ne_of_lt (Nat.lt_succ_self _)
      have x2 : Ext w1 { w1 with H := upd w1.H dxa (.own xa) } := ext_new g1 nd
      have g2 : WOk G { w1 with H := upd w1.H dxa (.own xa) } := wok_new g1 nd
      have nx2 : ({ w1 with H := upd w1.H dxa (.own xa) } : Wd).H xa = none := by
        show upd w1.H dxa (.own xa) xa = none
        rw [upd_ne (Ne.symm ne)]
        exact nx
      have x3 := ext_alloc (m := .ins n []) (o := .ins (G.cls n) dxa []) g2 nx2
      have g3 := wok_alloc (m := .ins n []) (o := .ins (G.cls n) dxa []) g2 nx2 ⟨hn, dxa, [], upd_same, by simp only [RepF]⟩
      have hq : spF G Γ.P k f (.ref xa :: vs) (upd (upd w1.H dxa (.own xa)) xa (.ins (G.cls n) dxa [])) (fun v H2 => v = .non ∧ Q (.ref xa) H2) (WE W σ) := by
        refine ⟨Wd.alloc { w1 with H := upd w1.H dxa (.own xa) } xa (.ins n []) (.ins (G.cls n) dxa []), .cell w1.M.length :: ds, rfl, g3, RepL.cons ?_ (RepL.ext x3 _ _ (RepL.ext x2 _ _ rl)), ?_⟩
        · simp only [Rep]
          refine ⟨xa, rfl, ?_⟩
          show (w1.as ++ [xa])[w1.M.length]? = some xa
          rw [← g1.len, List.getElem?_append_right (Nat.le_refl _), Nat.sub_self]
          rfl
        · refine Post.wish ((Post.bind (Post.later (x2.trans x3) h1)).mono fun dd w4 x4 g4 h4 v rv4 => ?_)
          split at h4
          · rename_i c' fs hm
            simp only [Rep] at rv4
            refine ⟨rv4, ?_⟩
            have hat : w4.as[w1.M.length]? = some xa := by
              obtain ⟨ys, hy⟩ := x4.pre
              rw [hy]
              show (w1.as ++ [xa] ++ ys)[w1.M.length]? = some xa
              rw [List.append_assoc, ← g1.len, List.getElem?_append_right (Nat.le_refl _), Nat.sub_self]
              rfl
            obtain ⟨hc, dx, us', q1, q2⟩ := g4.cell _ xa _ hat hm
            have x5 : Ext w4 (w4.frz w1.M.length) := ext_frz
            refine h4 (w4.frz w1.M.length) x5 (wok_frz g4) rfl (.ref xa) ?_
            simp only [Rep]
            exact ⟨hc, xa, dx, us', rfl, ⟨q1, not_live_frz g4 hat, g4.ch _ xa hat⟩, RepF.ext x5 _ _ q2⟩
          · exact absurd h4 fun z => z
      have I2 := Inv.made (C := G.cls n) I1
      have r2 : Vals (V.ref xa :: vs) (Value.ref xa :: us) := .cons rfl rv
      have hlen : (Value.ref xa :: us).length = (e' :: es').length + 1 := by rw [List.length_cons, ← rv.length, ← rl.length, hl]
      have hM' : Mk X.K (G.cls n) fa := by rw [c.K]; exact hM
      subst hxa hdxa
      have ep : permV Value.none (List.range ((e' :: es').length + 1)) ((Value.ref (s1.heap.objs.size + 1) :: us) ++ []) = Value.ref (s1.heap.objs.size + 1) :: us := by
        rw [List.append_nil, ← hlen]
        exact permV_range _ _
      have b : ∀ s0 : Shared, BindsTo s0 fd ⟨Value.ref (s1.heap.objs.size + 1) :: us, []⟩ (d2.ps.zip (Value.ref (s1.heap.objs.size + 1) :: us)) := fun s0 => by
        have b := sh _ hsh s0 (Value.ref (s1.heap.objs.size + 1) :: us) [] hlen rfl
        rw [ep] at b
        exact b
      have gd : (X.A.under (.builtin "type.__call__" ⟨.ref (G.cls n) :: us, []⟩)).guards = some [] := by
        have hg : (Code.builtin "type.__call__" ⟨.ref (G.cls n) :: us, []⟩).isGuard = false := by
          show guardIds.contains "type.__call__" = false
          decide +kernel
        simp [Around.under, Code.guards, hg, c.gd, pushGuards]
      refine PySem.wpAny_call (make_map (f := fa) I1.kIn hM'.makes hM'.init (beq_iff_eq.mp hM'.fn) (codeAny_mono (F.run _ X.stack _ _ ⟨Value.ref (s1.heap.objs.size + 1) :: us, []⟩ (Value.ref (s1.heap.objs.size + 1) :: us) _ _ (WE W σ) (c.room.make (G.cls n) us []) gd
        (I2.env0.make (G.cls n) us []) (b _) r2 hq) fun r s' hq' => ?_))
      cases r with
      | error e => exact passAt c.tk σ pins _ _ e s' I2 hq'
      | ok fl =>
        cases fl with
        | ret u =>
          obtain ⟨v, H', I3, rv3, ev, q3⟩ := I2.after hq'
          subst ev
          exact ⟨rv3, ⟨V.ref (s1.heap.objs.size + 1), H', I3, rfl, q3⟩⟩
        | next => exact False.elim hq'
        | brk => exact False.elim hq'
        | cont => exact False.elim hq'
end
end Ev
/-! Ev9: targets, what is walked, comprehensions. -/
namespace Ev
open PySem L2
section
variable {G : Gb} {Φ : Nat → List D → Mem → Res D} {W : WX} {X : Cx} {k : Nat} {Γ : Cn}
theorem Res.bind_ok_iff {α β : Type} {r : Res α} {f : α → Mem → Res β} {b : β} {M : Mem} (h : r.bind f = .ok b M) : ∃ a M1, r = .ok a M1 ∧ f a M1 = .ok b M := by
  cases r with
  | ok a M1 => exact ⟨a, M1, rfl, h⟩
  | ex _ _ _ => cases h
  | no => cases h
theorem Post.sure {α β : Type} {w : Wd} {σ : L2.St} {r : Res α} {f : α → Mem → Res β} {Qr : β → Wd → Prop} (h : Post G W σ w (r.sure.bind f) Qr) : Post G W σ w (r.bind f) Qr := by
  cases r with
  | ok a M => exact h
  | ex _ _ _ => exact absurd h fun z => z
  | no => exact h
/-! ### targets -/
/-- the other slots stay -/
def Off (is : List Nat) (σ σ' : L2.St) : Prop := σ'.length = σ.length ∧ ∀ j, j ∉ is → σ'[j]? = σ[j]?
theorem Off.refl (is : List Nat) (σ : L2.St) : Off is σ σ := ⟨rfl, fun _ _ => rfl⟩
theorem Off.trans {is js : List Nat} {a b c : L2.St} (x : Off is a b) (y : Off js b c) : Off (is ++ js) a c :=
  ⟨y.1.trans x.1, fun j h => (y.2 j fun z => h (List.mem_append_right _ z)).trans (x.2 j fun z => h (List.mem_append_left _ z))⟩
section
variable (G Φ W)
def tTg (t : Tg) : TG := fun v σ H Q => ∃ w σd d, w.H = H ∧ WOk G w ∧ RepS G w σd σ ∧ Rep G w d v ∧ Post G W σ w (evT Φ t d σd w.M) fun σd' w' => ∀ σ', RepS G w' σd' σ' → Off (tgS t) σ σ' → Q σ' w'.H
def tTgs (ts : List Tg) : TGs := fun vs σ H Q => ∃ w σd ds, w.H = H ∧ WOk G w ∧ RepS G w σd σ ∧ RepL G w ds vs ∧ Post G W σ w (evTs Φ ts ds σd w.M) fun σd' w' => ∀ σ', RepS G w' σd' σ' → Off (tgSs ts) σ σ' → Q σ' w'.H
end
theorem PGs.imp {X : Cx} {es : List Expr} {t t' : TGs} (h : PGs X es t) (k : ∀ v σ H Q, t' v σ H Q → t v σ H Q) : PGs X es t' := ⟨fun pins s σ H v u Q I r q => h.run pins s σ H v u Q I r (k v σ H Q q)⟩
theorem loc_of {sc : Scope} {x : Str} (h : locB sc x = true) : Loc sc x := by
  unfold locB at h
  split at h <;> first
    | exact .inl (by assumption)
    | exact .inr (by assumption)
    | cases h
theorem g_nm (c : Ctx G Γ k X W) {i : Nat} {x : Str} {pos : Pos} (hi : Γ.N[i]? = some x) (hl : locB Γ.st x = true) : PG X (.Name x pos) (tTg G Φ W (.nm i)) := by
  obtain ⟨h1, h2⟩ := c.store x (loc_of hl)
  refine PG.imp (pg_name (i := i) (by rw [c.N]; exact c.nd) (by rw [c.N]; exact hi) h1 h2) ?_
  rintro v σ H Q ⟨w, σd, d, rfl, g, rs, r, hp⟩
  simp only [evT] at hp
  refine post_ok g hp _ (rs.set i r) ⟨by simp, fun j hj => ?_⟩
  simp only [tgS, List.mem_singleton] at hj
  exact List.getElem?_set_ne (fun z => hj z.symm)
theorem g_nil : PGs X [] (tTgs G Φ W []) := by
  refine PGs.imp pgs_nil ?_
  rintro v σ H Q ⟨w, σd, ds, rfl, g, rs, r, hp⟩
  cases ds with
  | nil =>
    simp only [evTs] at hp
    simp only [RepL] at r
    exact ⟨r, post_ok g hp _ rs (Off.refl _ _)⟩
  | cons _ _ => simp only [evTs] at hp; exact hp.elim
theorem assign_plain {e : Expr} (h : plainX e = true) (es : List Expr) (env : Env) : assignEach (e :: es) env = (false, assign e env) :: assignEach es env := by
  cases e <;> first
    | rfl
    | (simp [plainX] at h)
theorem Post.off {w : Wd} {σ σ1 : L2.St} {α : Type} {r : Res α} {Qr : α → Wd → Prop} (nx : ∀ c fs M, r ≠ .ex c fs M) (h : Post G W σ w r Qr) : Post G W σ1 w r Qr := by
  cases r with
  | ok a M => exact h
  | ex c fs M => exact absurd rfl (nx c fs M)
  | no => exact h
theorem Res.sure_nx {α β : Type} {r : Res α} {f : α → Mem → Res β} (hf : ∀ a M c fs M', f a M ≠ .ex c fs M') : ∀ c fs M, r.sure.bind f ≠ .ex c fs M := by
  intro c fs M h
  cases r with
  | ok a M1 => exact hf a M1 c fs M h
  | ex _ _ _ => cases h
  | no => cases h
mutual
theorem evT_nx : ∀ (t : Tg) (d : D) (σ : Env') (M : Mem) (c : Nat) (fs : List (Str × D)) (M' : Mem), evT Φ t d σ M ≠ .ex c fs M'
  | .nm i, d, σ, M, c, fs, M', h => by simp only [evT] at h; cases h
  | .tp ts, d, σ, M, c, fs, M', h => by
    simp only [evT] at h
    split at h
    · exact evTs_nx ts _ σ M c fs M' h
    · exact evTs_nx ts _ σ M c fs M' h
    · cases h
  | .sub a b, d, σ, M, c, fs, M', h => by
    simp only [evT] at h
    refine Res.sure_nx (fun x M1 => Res.sure_nx fun y M2 c fs M' h => ?_) c fs M' h
    split at h
    · split at h
      · split at h
        · cases h
        · cases h
      · cases h
    · split at h
      · split at h
        · cases h
        · cases h
      · cases h
    · cases h
  | .fld a f, d, σ, M, c, fs, M', h => by
    simp only [evT] at h
    refine Res.sure_nx (fun x M1 c fs M' h => ?_) c fs M' h
    split at h
    · split at h
      · split at h
        · cases h
        · cases h
      · cases h
    · cases h
theorem evTs_nx : ∀ (ts : List Tg) (ds : List D) (σ : Env') (M : Mem) (c : Nat) (fs : List (Str × D)) (M' : Mem), evTs Φ ts ds σ M ≠ .ex c fs M'
  | [], [], σ, M, c, fs, M', h => by simp only [evTs] at h; cases h
  | [], _ :: _, σ, M, c, fs, M', h => by simp only [evTs] at h; cases h
  | _ :: _, [], σ, M, c, fs, M', h => by simp only [evTs] at h; cases h
  | t :: ts, d :: ds, σ, M, c, fs, M', h => by
    simp only [evTs] at h
    cases q : evT Φ t d σ M with
    | ok σ1 M1 => rw [q] at h; exact evTs_nx ts ds σ1 M1 c fs M' h
    | ex c2 fs2 M2 => exact evT_nx t d σ M c2 fs2 M2 q
    | no => rw [q] at h; cases h
end
theorem g_cons {t : Tg} {ts : List Tg} {e : Expr} {es : List Expr} (h1 : PG X e (tTg G Φ W t)) (h2 : PGs X es (tTgs G Φ W ts)) (he : plainX e = true) : PGs X (e :: es) (tTgs G Φ W (t :: ts)) := by
  refine PGs.imp (pgs_cons h1 h2 (by rw [assign_plain he]; rfl)) ?_
  rintro v σ H Q ⟨w, σd, ds, rfl, g, rs, r, hp⟩
  cases ds with
  | nil => simp only [evTs] at hp; exact hp.elim
  | cons d ds =>
    simp only [RepL] at r
    obtain ⟨u, us, rfl, r1, r2⟩ := r
    simp only [evTs] at hp
    refine ⟨u, us, rfl, w, σd, d, rfl, g, rs, r1, (Post.bind hp).mono fun σd1 w1 x1 g1 h1 σ1 rs1 off1 => ?_⟩
    exact ⟨w1, σd1, ds, rfl, g1, rs1, RepL.ext x1 _ _ r2, (Post.off (fun c fs M => evTs_nx ts ds σd1 w1.M c fs M) h1).mono fun σd2 w2 x2 g2 h2 σ2 rs2 off2 => h2 σ2 rs2 (by simp only [tgSs]; exact off1.trans off2)⟩
theorem mT_plain {t : Tg} {e : Expr} (h : mT t Γ e = true) : plainX e = true := by
  cases e <;> first
    | rfl
    | (cases t <;> simp [mT] at h)
theorem mTs_len {ts : List Tg} : ∀ {es : List Expr}, mTs ts Γ es = true → ∀ env, (assignEach es env).length = ts.length ∧ (assignEach es env).findIdx? (·.1) = none := by
  induction ts with
  | nil =>
    intro es h env
    cases es with
    | nil => exact ⟨rfl, rfl⟩
    | cons _ _ => simp [mTs] at h
  | cons t ts ih =>
    intro es h env
    cases es with
    | nil => simp [mTs] at h
    | cons e es =>
      simp only [mTs, Bool.and_eq_true] at h
      obtain ⟨i1, i2⟩ := ih h.2 env
      rw [assign_plain (mT_plain h.1)]
      refine ⟨by simp [i1], ?_⟩
      rw [List.findIdx?_cons]
      simp [i2]
/-- (a, b, ..) = a tuple, a list, of that length -/
def gSeq (K : PySem.W.Frag) (n : Nat) (t : TGs) : TG := fun v σ H Q => ∃ a xs, v = .ref a ∧ (SqT K H a xs ∨ SqL K H a xs) ∧ xs.length = n ∧ t xs σ H Q
theorem pg_seq {es : List Expr} {k : Nat} {t : TGs} {n : Nat} {pos : Pos} (hc : X.calm = true) (h : PGs X es t) (hn : (assignEach es X.env).length = n) (hst : (assignEach es X.env).findIdx? (·.1) = none) : PG X (.Tuple es k pos) (gSeq X.K n t) := by
  refine ⟨fun pins s σ H v u Q I r hw => ?_⟩
  obtain ⟨a, xs, e1, hq, hl, hw⟩ := hw
  subst e1
  cases r
  rcases hq with hq | hq
  · obtain ⟨its, rv, ht, hz⟩ := I.tuple hq
    refine PyProof.Rows.assign_Tuple_tuple (I.ok.hd hc) ht (by simp [hn, ← hl, rv.length]) hst fun h' hx => ?_
    have I1 : Inv X pins σ H { s with heap := h' } := I.kept (t' := s.toks) fun b o e => hx b o (Nat.ne_of_lt (Heap.lt_size e)) e
    exact h.run pins _ σ H xs _ Q I1 (by simpa using rv) hw
  · obtain ⟨its, rv, pl, hz⟩ := I.list hq
    obtain ⟨o, n', ho, hc', hd, hdat⟩ := pl
    have hL : s.heap.IsList a its.toArray := ⟨o, ho, hc', n', hdat⟩
    rw [PyProof.Rows.assign_Tuple]
    refine wpAny_bind (wpAny_standAt ?_)
    unfold unpack
    have e2 : (assignEach es X.env).length = its.toArray.size := by simp [hn, ← hl, rv.length]
    rw [e2, hst]
    refine wpAny_bind (wpAny_holding (PySem.W.kun_itemsOf (I.ok.hd hc) hL fun h' hx => ?_))
    have I1 : Inv X pins σ H { s with heap := h' } := I.kept (t' := s.toks) fun b o e => hx b o (Nat.ne_of_lt (Heap.lt_size e)) e
    exact h.run pins _ σ H xs _ Q I1 (by simpa using rv) hw
theorem g_tup (c : Ctx G Γ k X W) {ts : List Tg} {es : List Expr} {n : Nat} {pos : Pos} (hm : mTs ts Γ es = true) (h : PGs X es (tTgs G Φ W ts)) : PG X (.Tuple es n pos) (tTg G Φ W (.tp ts)) := by
  obtain ⟨i1, i2⟩ := mTs_len hm X.env
  refine PG.imp (pg_seq c.calm h i1 i2) ?_
  rintro v σ H Q ⟨w, σd, d, rfl, g, rs, r, hp⟩
  have len : ∀ (ts : List Tg) (ds : List D) (σd : Env') (M : Mem) (Qr : Env' → Wd → Prop), Post G W σ w (evTs Φ ts ds σd M) Qr → ds.length = ts.length := by
    intro ts
    induction ts with
    | nil => intro ds σd M Qr h; cases ds with
      | nil => rfl
      | cons _ _ => simp only [evTs] at h; exact h.elim
    | cons t ts ih => intro ds σd M Qr h; cases ds with
      | nil => simp only [evTs] at h; exact h.elim
      | cons d ds =>
        simp only [evTs] at h
        cases q : evT Φ t d σd M with
        | ok σ1 M1 => rw [q] at h; simp [ih ds σ1 M1 Qr h]
        | ex c2 fs2 M2 => exact absurd q (evT_nx t d σd M c2 fs2 M2)
        | no => rw [q] at h; exact absurd h fun z => z
  simp only [evT] at hp
  split at hp
  · rename_i ds
    obtain ⟨a, vs, rfl, h1, h2⟩ := Rep.tup r
    have hl := len ts ds σd w.M _ hp
    exact ⟨a, vs, rfl, .inl (by rw [c.K]; exact h1), by rw [← h2.length]; exact hl, w, σd, ds, rfl, g, rs, h2, hp⟩
  · rename_i ds
    obtain ⟨a, vs, rfl, h1, h2⟩ := Rep.lst g r (xs := ds) rfl
    have hl := len ts ds σd w.M _ hp
    exact ⟨a, vs, rfl, .inr (by rw [c.K]; exact h1), by rw [← h2.length]; exact hl, w, σd, ds, rfl, g, rs, h2, hp⟩
  · exact absurd hp fun z => z
/-- o[i] = v, o a cell -/
def rSetD (G : Gb) : TSet := fun o i v H Q => ∃ w j ki xs d jj, w.H = H ∧ WOk G w ∧ Rep G w (.cell j) o ∧ i = .int ki ∧ Rep G w d v ∧ w.M[j]? = some (some (.lst xs)) ∧ ixN xs.length ki = some jj ∧ ∀ w', Ext w w' → WOk G w' → w'.M = w.M.set j (some (.lst (xs.set jj d))) → Q w'.H
theorem set_D : PSet X (rSetD G) := by
  intro pins s σ H o i v ov iv u Q I ro ri rv h
  obtain ⟨w, j, ki, xs, d, jj, rfl, g, r1, rfl, r2, hm, hj, q⟩ := h
  obtain ⟨a, vs, rfl, ha, h1, h2⟩ := cell_lst g r1 hm
  refine set_list pins s σ w.H _ _ v ov iv u Q I ro ri rv ⟨a, vs, ki, jj, rfl, rfl, h1, by rw [← h2.length]; exact hj, ?_⟩
  exact q (w.put j a (.lst (xs.set jj d)) (.lst (vs.set jj v))) (ext_put ha hm) (put_lst g ha hm (h2.set jj r2)) rfl
/-- o[k] = v, o a dict whose keys are tuples -/
def rSetT (G : Gb) : TSet := fun o i v H Q => ∃ w j di kk kvs d, w.H = H ∧ WOk G w ∧ Rep G w (.cell j) o ∧ Rep G w di i ∧ Rep G w d v ∧ w.M[j]? = some (some (.dcn kvs)) ∧ keyT di = some kk ∧ kvs.length < sizeLine ∧ ∀ w', Ext w w' → WOk G w' → w'.M = w.M.set j (some (.dcn (putKN kvs kk d))) → Q w'.H
theorem set_T (hK : X.K = G.K) (hP : X.prog = G.prog) (hw : X.w = G.wd) (hu : X.A.units + 10 < cLine) : PSet X (rSetT G) := by
  intro pins s σ H o i v ov iv u Q I ro ri rv h
  obtain ⟨w, j, di, kk, kvs, d, rfl, g, r1, r2, r3, hm, hk, hl, q⟩ := h
  simp only [Rep] at r1
  obtain ⟨a, rfl, ha⟩ := r1
  obtain ⟨xs, h1, h2⟩ := g.cell j a _ ha hm
  obtain ⟨b, rfl, k1, k2⟩ := keyT_rep hk r2
  cases (show ov = Value.ref a from ro)
  cases (show iv = Value.ref b from ri)
  have nk := h2.nks
  have ky : KyAt X.K w.H kk (.ref b) := ⟨by rw [hK]; exact ky_H k1, k2, b, rfl⟩
  refine n_put hu I (by rw [hP, hw]; exact h1) (by rw [hK]; exact nk) ky (by rw [← h2.len]; exact hl) fun s' I' => ⟨_, I', ?_⟩
  rw [hP, hw]
  have x := ext_put (m := .dcn (putKN kvs kk d)) (o := dnO G.prog G.wd a (storedH xs kk b u)) ha hm
  have p2 := RepN.put (q := u) k1 k2 rv r3 h2
  exact q _ x (wok_put g ha hm ⟨_, upd_same, RepN.emb x.emb _ _ p2⟩) rfl
theorem set_or {r1 r2 : TSet} (h1 : PSet X r1) (h2 : PSet X r2) : PSet X (fun o i v H Q => r1 o i v H Q ∨ r2 o i v H Q) := fun pins s σ H o i v ov iv u Q I ro ri rv h => h.elim (h1 pins s σ H o i v ov iv u Q I ro ri rv) (h2 pins s σ H o i v ov iv u Q I ro ri rv)
theorem g_sub (c : Ctx G Γ k X W) {a b : Ex} {x y : Expr} {pos : Pos} (ha : PE X x (tE G Φ W a)) (hb : PE X y (tE G Φ W b)) (hy : plainX y = true) : PG X (.Subscript x y pos) (tTg G Φ W (.sub a b)) := by
  refine PG.imp (pg_sub ha hb (set_or (set_D (G := G)) (set_T (G := G) c.K c.prog c.wd (by have := c.room.un; omega))) ?_) ?_
  · intro v
    cases y <;> first
      | rfl
      | (simp [plainX] at hy)
  · rintro v σ H Q ⟨w, σd, d, rfl, g, rs, r, hp⟩
    simp only [evT] at hp
    refine ⟨w, σd, rfl, g, rs, (Post.bind (Post.sure hp)).mono fun o w1 x1 g1 h1 v1 r1 => ?_⟩
    refine ⟨w1, σd, rfl, g1, rs.ext x1, (Post.bind (Post.sure h1)).mono fun i w2 x2 g2 h2 v2 r2 => ?_⟩
    split at h2
    · rename_i j ki
      split at h2
      · rename_i xs hm
        split at h2
        · rename_i jj hj
          simp only [Rep] at r2
          exact .inl ⟨w2, j, ki, xs, d, jj, rfl, g2, Rep.ext x2 _ _ r1, r2, Rep.ext (x1.trans x2) _ _ r, hm, hj, fun w3 x3 g3 e3 => h2 w3 x3 g3 e3 σ (rs.ext ((x1.trans x2).trans x3)) (Off.refl _ _)⟩
        · exact absurd h2 fun z => z
      · exact absurd h2 fun z => z
    · rename_i j ks
      split at h2
      · rename_i kvs kk hm hk
        split at h2
        · rename_i hl
          exact .inr ⟨w2, j, .tup ks, kk, kvs, d, rfl, g2, Rep.ext x2 _ _ r1, r2, Rep.ext (x1.trans x2) _ _ r, hm, hk, hl, fun w3 x3 g3 e3 => h2 w3 x3 g3 e3 σ (rs.ext ((x1.trans x2).trans x3)) (Off.refl _ _)⟩
        · exact absurd h2 fun z => z
      · exact absurd h2 fun z => z
    · exact absurd h2 fun z => z
/-- o.f = v, o a cell -/
theorem g_fld (c : Ctx G Γ k X W) {a : Ex} {f : Str} {x : Expr} {pos : Pos} (ha : PE X x (tE G Φ W a)) (hf : (Γ.cs.all fun cf => cf.flds.contains f) = true) : PG X (.Attribute x f pos) (tTg G Φ W (.fld a f)) := by
  refine ⟨fun pins s σ H v u Q I r h => ?_⟩
  obtain ⟨w, σd, d, rfl, g, rs, rd, hp⟩ := h
  simp only [evT] at hp
  rw [assign_Attribute]
  refine wpAny_bind (wpAny_holding (thn (ha.run pins s σ w.H (fun o H1 => ∃ w1 e, w1.H = H1 ∧ WOk G w1 ∧ Ext w w1 ∧ Rep G w1 e o ∧ Post G W σ w1 (match e with
      | .cell i => match w1.M[i]? with
        | some (some (.ins c fs)) => if fs.length < 1000 then .ok σd (w1.M.set i (some (.ins c (putFD f d fs)))) else .no
        | _ => .no
      | _ => .no) (fun σd' w' => ∀ σ', RepS G w' σd' σ' → Off (tgS (.fld a f)) σ σ' → Q σ' w'.H)) I ⟨w, σd, rfl, g, rs, (Post.bind (Post.sure hp)).mono fun e w1 x1 g1 h1 o r1 => ⟨w1, e, rfl, g1, x1, r1, h1⟩⟩) fun ov s1 ⟨o, H1, I1, ro, w1, e, e1, g1, x1, r1, h1⟩ => ?_))
  subst e1
  split at h1
  · rename_i i
    split at h1
    · rename_i cn fs hm
      split at h1
      · rename_i hl
        simp only [Rep] at r1
        obtain ⟨a', rfl, hat⟩ := r1
        obtain ⟨hc, dx, vs, q1, q2⟩ := g1.cell i a' _ hat hm
        obtain ⟨cf, hcf⟩ := cls_of c hc
        have R := c.cls cn cf hcf
        have hmf : f ∈ cf.flds := by
          have := List.all_eq_true.mp hf cf (List.mem_of_getElem? hcf)
          simpa using this
        cases ro
        refine wpAny_bind (wpAny_standAt (wpAny_bind (wpAny_holding (setattr_ok I1 q1 (by rw [c.K]; exact R.cl) (by rw [c.K]; exact R.fld f hmf) (by rw [← q2.len]; exact hl) r fun s2 I2 => ?_))))
        refine wpAny_release ⟨σ, _, I2, ?_⟩
        have x2 := ext_put (m := .ins cn (putFD f d fs)) (o := .ins (G.cls cn) dx (putF f v vs)) hat hm
        have g2 := wok_put (o := .ins (G.cls cn) dx (putF f v vs)) g1 hat hm (m := .ins cn (putFD f d fs)) ⟨hc, dx, _, upd_same, RepF.put (Rep.ext (x1.trans x2) _ _ rd) (RepF.ext x2 _ _ q2)⟩
        exact h1 _ x2 g2 rfl σ (rs.ext (x1.trans x2)) (Off.refl _ _)
      · exact absurd h1 fun z => z
    · exact absurd h1 fun z => z
  · exact absurd h1 fun z => z
end
end Ev
/-! N3: walks that give a new tuple at each turn: enumerate of a tuple, zip of three tuples. -/
namespace Ev
open PySem PySem.Spec PyProof.Rows L2
/-- what such a walk gives: ys i at the turn i, in a new tuple; Gp: what of the heap it rests on -/
def ItY (Gp : Hp → Prop) (n : Nat) (ys : Nat → List V) : L2.It := ⟨fun i H => i < n ∧ Gp H, fun i H v H' => ∃ T, v = .ref T ∧ H T = none ∧ H' = upd H T (.tup (ys i)), fun i H => i = n ∧ Gp H⟩
/-- by the library's own walk over objects: own: the walker's objects; src: what is walked -/
theorem turn_Y {α : Type} {P : Program} {w : World} {K : PySem.W.Frag} {elts : List Expr} {kk : Nat} {tpos : Pos} {Gp : Hp → Prop} {n : Nat} {ys : Nat → List V} {fp wr : List Addr} {e : Addr} (own : Nat → Heap → Prop) (src : α → Heap → Prop) {fpW : α → List Addr}
    {Pt : α → Nat → Array Value → Prop} {Mid : α → Nat → Addr → Heap → Prop} (mem : e ∈ fp) (hwr : ∀ b ∈ wr, b ∈ fp)
    (obj : ∀ i h, own i h → ∀ b ∈ fp, ∃ o, h.get? b = some o ∧ ∀ v, o.data ≠ .cell v) (keep : ∀ i h h', own i h → (∀ b ∈ fp, ∀ o, h.get? b = some o → h'.get? b = some o) → own i h')
    (self : ∀ (A : Around) (i : Nat) (s : Shared) (Q : Value → Shared → Prop) (E : Value → Shared → Prop), own i s.heap → Q (.ref e) s → wpAny (model P w) A (pyIter (.ref e)) Q E s)
    (wk : ∀ (A : Around) (x : α), A.handled = none → WalksT P w A e (fpW x) wr n (Pt x) (fun i h => own i h ∧ src x h) (Mid x))
    (find : ∀ (X : Cx), X.prog = P → X.w = w → X.K = K → ∀ (pins : List (Addr × Obj)) (σ : L2.St) (H : Hp) (s : Shared), Inv X pins σ H s → Gp H → ∃ x, src x s.heap ∧ ∀ i vals, i < n → Pt x i vals → Vals (ys i) vals.toList)
    (small : ∀ i, (ys i).length ≤ sizeLine) : Turn P w K (.Tuple elts kk tpos) (ItY Gp n ys) fp e own where
  mem := mem
  obj := obj
  keep := keep
  self := self
  item := fun X hP hw hK hc i pins s σ H E I hf st ⟨hi, hG⟩ => by
    have hA : X.A.handled = none := I.ok.hd hc
    obtain ⟨x, hx, hv⟩ := find X hP hw hK pins σ H s I hG
    subst hP hw hK
    refine (wk X.A x hA).item i s _ E hi ⟨st, hx⟩ fun T vals h1 tk hp hT ht hm k1 => ⟨.ref T, rfl, ?_⟩
    refine (wk X.A x hA).go elts kk tpos i T ⟨h1, s.gens, s.drawn, tk, s.os⟩ _ E hm fun h2 st2 k2 => ?_
    have nw : T ∉ wr := (wk X.A x hA).apart i T h1 hm
    have all : ∀ b o, b ∉ wr → s.heap.get? b = some o → h2.get? b = some o := fun b o hb q => k2 b o hb (k1 b o hb q)
    obtain ⟨o, q1, q2, m, q3⟩ := ht
    have good : ObjOk X.prog X.w (upd H T (.tup (ys i))) h2 T (.tup (ys i)) := ⟨small i, vals.toList, hv i vals hi hp, ⟨o, k2 T o nw q1, q2, m, by rw [q3]⟩⟩
    refine ⟨.ref T, upd H T (.tup (ys i)), I.turnedNew (ch := wr) (t' := tk) all (fun b hb => hf b (hwr b hb)) hT good, rfl, ⟨T, rfl, I.hok.fresh hT, rfl⟩, st2.1, fun b hb => ?_⟩
    obtain ⟨ob, hob, _⟩ := obj i s.heap st b hb
    rw [upd_ne (Nat.ne_of_lt (Nat.lt_of_lt_of_le (Heap.lt_size hob) hT))]
    exact (hf b hb).1
  done := fun X hP hw hK hc i pins s σ H E I hf st ⟨hi, hG⟩ => by
    have hA : X.A.handled = none := I.ok.hd hc
    obtain ⟨x, hx, _⟩ := find X hP hw hK pins σ H s I hG
    subst hP hw hK hi
    refine (wk X.A x hA).done s _ E ⟨st, hx⟩ fun h' tk k => ⟨rfl, ?_⟩
    have nt : ∀ b u, H b = some u → b ∉ wr := fun b u q z => by
      rw [(hf b (hwr b z)).1] at q
      cases q
    refine I.call' (s' := ⟨h', s.gens, s.drawn, tk, s.os⟩) (ch := wr) rfl ⟨fun b o q _ _ hb => k b o hb q, fun b o q _ _ hb => ⟨o.slots, k b o hb q⟩, fun b o _ q _ => q, fun b o q hb => ⟨o, k b o hb q⟩, fun b xs q => q, fun b o u q => q, fun b ps q => ⟨#[], by rw [q]; simp⟩⟩
      (fun b u q => (I.hok b u q).stay (fun d v hd y => k d v (hd.elim (fun z => by rw [z]; exact nt b u q) fun z => nt d _ z) y) (fun d z => z) fun d xs z => z) I.bare fun b hb => ⟨(hf b (hwr b hb)).2.2.2.1, (hf b (hwr b hb)).2.1, (hf b (hwr b hb)).2.2.2.2.1, (hf b (hwr b hb)).2.2.2.2.2⟩
/-! ### enumerate(a tuple) -/
theorem enum_made {v : Value} {o : Obj} {Hs : Heap → Prop} (B : Begins v o Hs) : Meets (Builtin.«enumerate.__new__» ⟨[.type "enumerate", v], []⟩) (fun _ R z => Hs z.heap ∧
    R (.ok (.ret (.ref (z.heap.push o).objs.size))) { z with heap := (z.heap.push o).push { cls := .type "enumerate", data := .fields #[.none, .bool false, .ref z.heap.objs.size, rawInt 0, .none, .none] } }) :=
  .of_wp fun prog w A R z hz => by
    obtain ⟨hp, gg, dd, tk, os⟩ := z
    obtain ⟨h1, h2⟩ := hz
    have hsub := sub_enumerate
    have go : ∀ {A' : Around} {E' : Value → Shared → Prop} {Q' : Value → Shared → Prop}, Q' (.ref hp.objs.size) ⟨hp.push o, gg, dd, tk, os⟩ → wpAny (model prog w) A' (pyIter v) Q' E' ⟨hp, gg, dd, tk, os⟩ := fun q => B.iter prog w _ _ ⟨hp, gg, dd, tk, os⟩ _ h1 q
    wp_walk using go
    refine wpAny_stack_any fun st => wpAny_pure ?_
    split
    · rename_i c _ _ _ _ _
      cases (c == Value.type "enumerate") <;> (wp_walk using go; exact ⟨_, rfl, h2⟩)
    · wp_walk using go
      exact ⟨_, rfl, h2⟩
theorem enum_of {prog : Program} {w : World} {A : Around} {E : Value → Shared → Prop} {s : Shared} {v : Value} {o : Obj} {Hs : Heap → Prop} {Q : Value → Shared → Prop} (B : Begins v o Hs) (h1 : Hs s.heap)
    (h : ∀ h', IsEnum h' (s.heap.objs.size + 1) s.heap.objs.size 0 .none → h'.get? s.heap.objs.size = some o → (∀ b u, s.heap.get? b = some u → h'.get? b = some u) → Q (.ref (s.heap.objs.size + 1)) { s with heap := h' }) :
    wpAny (model prog w) A (call (.type "enumerate") [v]) Q E s := by
  have size1 : (s.heap.push o).objs.size = s.heap.objs.size + 1 := by rw [Heap.size_push]
  refine callType_new F.called_enumerate (by decide) (F.typeCall_enumerate_1 _) (F.newCall_enumerate_1 _) (fun obj => F.args_object_init_2 obj _) F.entry_enumerate_new (enum_made B) ⟨h1, ?_⟩
  have isE : IsEnum ((s.heap.push o).push { cls := .type "enumerate", data := .fields #[.none, .bool false, .ref s.heap.objs.size, rawInt 0, .none, .none] }) (s.heap.objs.size + 1) s.heap.objs.size 0 .none := by
    have q := Heap.get?_push_size (s.heap.push o) (o := { cls := .type "enumerate", data := .fields #[.none, .bool false, .ref s.heap.objs.size, rawInt 0, .none, .none] }) rfl
    rwa [size1] at q
  show _ ∧ _
  rw [size1]
  exact ⟨⟨_, isE, rfl⟩, h _ isE (Heap.get?_push_of_some _ (Heap.get?_push_size _ B.free)) fun b u e => Heap.get?_push_of_some _ (Heap.get?_push_of_some _ e)⟩
def iEnumT (K : PySem.W.Frag) (ta : TA) : TI := fun σ H R => ta σ H fun vs H1 => ∃ a xs, vs = [.ref a] ∧ SqT K H1 a xs ∧ R (ItY (fun H' => SqT K H' a xs) xs.length fun i => [.int (i : Nat), (xs[i]?).getD .non]) H1
theorem turn_enumT {P : Program} {w : World} {K : PySem.W.Frag} {elts : List Expr} {kk : Nat} {tpos : Pos} (a e it : Addr) (xs : List V) (hz : e ≠ it) (hae : a ≠ e) (hai : a ≠ it) :
    Turn P w K (.Tuple elts kk tpos) (ItY (fun H' => SqT K H' a xs) xs.length fun i => [.int (i : Nat), (xs[i]?).getD .non]) [e, it] e (fun i h => (∃ old, IsEnum h e it ((i : Nat) : Int) old) ∧ h.IsTupleIter it a i) := by
  refine turn_Y (α := { its : List Value // its.length = xs.length }) (wr := [e, it]) (fpW := fun _ => [e, it, a]) (fun i h => (∃ old, IsEnum h e it ((i : Nat) : Int) old) ∧ h.IsTupleIter it a i) (fun x h => h.IsTuple a x.1.toArray)
    (Pt := fun x i vals => ∃ t y, x.1.toArray[i]? = some y ∧ vals = #[.int i t, y]) (Mid := fun x i T h => (∃ y, IsEnumOut h e it ((i : Int) + 1) y T) ∧ (h.IsTupleIter it a (i + 1) ∧ h.IsTuple a x.1.toArray) ∧ T ≠ e ∧ T ≠ it) (by simp) (fun b hb => hb) (fun i h st b hb => ?_) (fun i h h' st k => ?_) (fun A i s Q E st q => ?_) (fun A x hA => ?_)
    (fun X hP hw hK pins σ H s I hG => ?_) (fun i => by show 2 ≤ sizeLine; decide)
  · obtain ⟨⟨old, he⟩, o, ho, hc, hd⟩ := st
    rcases List.mem_cons.mp hb with z | z
    · rw [z]; exact ⟨_, he, fun v q => nomatch q⟩
    · rw [List.mem_singleton.mp z]; exact ⟨o, ho, fun v q => by rw [hd] at q; cases q⟩
  · obtain ⟨⟨old, he⟩, hi⟩ := st
    exact ⟨⟨old, k e (by simp) _ he⟩, hi.at fun o q => k it (by simp) o q⟩
  · obtain ⟨⟨old, he⟩, _⟩ := st
    exact wpAny_pyIter_enum he q
  · have D := Draws.tuple (prog := P) (w := w) (A := A.in1) hA it a hai x.1.toArray
    have W := WalksT.enumerateD D e hz (by simp [hz, Ne.symm hae]) (by simp)
    have ln : x.1.toArray.size = xs.length := by rw [List.size_toArray]; exact x.2
    rw [ln] at W
    refine ⟨W.sub, fun i h h' st k => ?_, fun i s Q E hi st q => W.item i s Q E hi ⟨st.1.1, st.1.2, st.2⟩ q, fun el k2 p2 i T s Q E hm q => W.go el k2 p2 i T s Q E hm fun h' st k => q h' ⟨⟨st.1, st.2.1⟩, st.2.2⟩ k, W.apart, fun s Q E st q => W.done s Q E ⟨st.1.1, st.1.2, st.2⟩ q, fun i s Q E st q => W.self i s Q E ⟨st.1.1, st.1.2, st.2⟩ q⟩
    have r := W.frame i h h' ⟨st.1.1, st.1.2, st.2⟩ k
    exact ⟨⟨r.1, r.2.1⟩, r.2.2⟩
  · subst hK
    obtain ⟨its, rv, p, _⟩ := I.tuple hG
    refine ⟨⟨its, rv.length.symm⟩, p, fun i vals hi ⟨t, y, hy, e2⟩ => ?_⟩
    have hx : xs[i]? = some (xs[i]'hi) := List.getElem?_eq_getElem hi
    obtain ⟨u, hu, ru⟩ := rv.get hx
    have : y = u := by
      rw [List.getElem?_toArray] at hy
      rw [hu] at hy
      exact (Option.some.inj hy).symm
    subst this e2
    rw [hx]
    exact .cons ⟨t, rfl⟩ (.cons ru .nil)
theorem pi_enumT {X : Cx} {e : Expr} {ta : TA} {p pos tpos : Pos} {elts : List Expr} {kk : Nat} (hg : Gl X "enumerate") (hm : X.mg "enumerate" = none) (ha : PA X [e] ta) (hs : starEach [e] X.env = [(false, eval e X.env)]) :
    PI X (.Tuple elts kk tpos) (.Call (.Name "enumerate" p) [e] [] pos) (iEnumT X.K ta) := by
  refine ⟨fun pins s σ H R I h => ?_⟩
  refine Call_ (ld_blt I hg hm boot_enumerate (PyProof.Rows.callWith_type1 (thn (ha.run pos pins s σ H _ I h) fun us s1 ⟨vs, H1, I1, r1, a, xs, ex, hq, q⟩ => ?_) hs rfl))
  subst ex
  obtain rfl := Vals.ref1 r1
  obtain ⟨its, rv, tp, hz⟩ := I1.tuple hq
  refine enum_of (begins_tuple a its.toArray) tp fun h' isE isI kp => wpAny_pyIter_enum isE ?_
  have I2 : Inv X pins σ H1 { s1 with heap := h' } := I1.kept (t' := s1.toks) kp
  have al : a < s1.heap.objs.size := by obtain ⟨o, q, _⟩ := tp; exact Heap.lt_size q
  refine ⟨s1.heap.objs.size + 1, [s1.heap.objs.size + 1, s1.heap.objs.size], _, _, H1, rfl, I2, turn_enumT a _ _ xs (Nat.succ_ne_self _) (Nat.ne_of_lt (Nat.lt_succ_of_lt al)) (Nat.ne_of_lt al), ⟨⟨.none, isE⟩, ⟨_, isI, rfl, rfl⟩⟩, fun b hb => ?_, q⟩
  rcases List.mem_cons.mp hb with z | z
  · rw [z]; exact I1.fpOk (Nat.le_succ _) (I1.hok.fresh (Nat.le_succ _))
  · rw [List.mem_singleton.mp z]; exact I1.fpOk (Nat.le_refl _) (I1.hok.fresh (Nat.le_refl _))
/-! ### zip of three tuples -/
def thr (xs ys zs : List V) (i : Nat) : List V := [(xs[i]?).getD .non, (ys[i]?).getD .non, (zs[i]?).getD .non]
def iZip3 (K : PySem.W.Frag) (ta : TA) : TI := fun σ H R => ta σ H fun vs H1 => ∃ a b c xs ys zs, vs = [.ref a, .ref b, .ref c] ∧ SqT K H1 a xs ∧ SqT K H1 b ys ∧ SqT K H1 c zs ∧
  R (ItY (fun H' => SqT K H' a xs ∧ SqT K H' b ys ∧ SqT K H' c zs) (min (min xs.length ys.length) zs.length) (thr xs ys zs)) H1
theorem turn_zip3 {P : Program} {w : World} {K : PySem.W.Frag} {elts : List Expr} {kk : Nat} {tpos : Pos} (a b c z TI TO i1 i2 i3 : Addr) (xs ys zs : List V) (S : ZipSep3 z TI TO i1 i2 i3 [i1, a] [i2, b] [i3, c]) (ha : a ≠ i1) (hb : b ≠ i2) (hc : c ≠ i3) :
    Turn P w K (.Tuple elts kk tpos) (ItY (fun H' => SqT K H' a xs ∧ SqT K H' b ys ∧ SqT K H' c zs) (min (min xs.length ys.length) zs.length) (thr xs ys zs)) [z, TI, TO, i1, i2, i3] z
      (fun i h => IsZip h z TI TO .none ∧ IsTupOf3 h TI (.ref i1) (.ref i2) (.ref i3) ∧ (∃ a1 a2 a3, IsTupOf3 h TO a1 a2 a3) ∧ h.IsTupleIter i1 a i ∧ h.IsTupleIter i2 b i ∧ h.IsTupleIter i3 c i) := by
  refine turn_Y (α := { q : List Value × List Value × List Value // q.1.length = xs.length ∧ q.2.1.length = ys.length ∧ q.2.2.length = zs.length }) (wr := [z, TO, i1, i2, i3]) (fpW := fun _ => z :: TI :: TO :: ([i1, a] ++ [i2, b] ++ [i3, c])) _
    (fun x h => h.IsTuple a x.1.1.toArray ∧ h.IsTuple b x.1.2.1.toArray ∧ h.IsTuple c x.1.2.2.toArray)
    (Pt := fun x i vals => ∃ u1 u2 u3, x.1.1.toArray[i]? = some u1 ∧ x.1.2.1.toArray[i]? = some u2 ∧ x.1.2.2.toArray[i]? = some u3 ∧ vals = #[u1, u2, u3])
    (Mid := fun x i T h => IsZip h z TI TO (rawInt T) ∧ IsTupOf3 h TI (.ref i1) (.ref i2) (.ref i3) ∧ (∃ a1 a2 a3, IsTupOf3 h TO a1 a2 a3) ∧ (h.IsTupleIter i1 a (i + 1) ∧ h.IsTuple a x.1.1.toArray) ∧ (h.IsTupleIter i2 b (i + 1) ∧ h.IsTuple b x.1.2.1.toArray) ∧ (h.IsTupleIter i3 c (i + 1) ∧ h.IsTuple c x.1.2.2.toArray) ∧ T ≠ z ∧ T ≠ TO ∧ T ≠ i1 ∧ T ≠ i2 ∧ T ≠ i3)
    (by simp) (fun p hp => ?_) (fun i h st p hp => ?_) (fun i h h' st k => ?_) (fun A i s Q E st q => ?_) (fun A x hA => ?_) (fun X hP hw hK pins σ H s I hG => ?_) (fun i => by show 3 ≤ sizeLine; decide)
  · simp only [List.mem_cons, List.not_mem_nil, or_false] at hp ⊢
    rcases hp with h | h | h | h | h <;> simp [h]
  · obtain ⟨q1, q2, ⟨a1, a2, a3, q3⟩, ⟨o4, q4, _, d4⟩, ⟨o5, q5, _, d5⟩, ⟨o6, q6, _, d6⟩⟩ := st
    simp only [List.mem_cons, List.not_mem_nil, or_false] at hp
    rcases hp with rfl | rfl | rfl | rfl | rfl | rfl
    · exact ⟨_, q1, fun v q => nomatch q⟩
    · exact ⟨_, q2, fun v q => nomatch q⟩
    · exact ⟨_, q3, fun v q => nomatch q⟩
    · exact ⟨o4, q4, fun v q => by rw [d4] at q; cases q⟩
    · exact ⟨o5, q5, fun v q => by rw [d5] at q; cases q⟩
    · exact ⟨o6, q6, fun v q => by rw [d6] at q; cases q⟩
  · obtain ⟨q1, q2, ⟨a1, a2, a3, q3⟩, q4, q5, q6⟩ := st
    exact ⟨k z (by simp) _ q1, k TI (by simp) _ q2, ⟨a1, a2, a3, k TO (by simp) _ q3⟩, q4.at fun o q => k i1 (by simp) o q, q5.at fun o q => k i2 (by simp) o q, q6.at fun o q => k i3 (by simp) o q⟩
  · exact wpAny_pyIter_zip st.1 q
  · have D1 := Draws.tuple (prog := P) (w := w) (A := A.in1) hA i1 a ha x.1.1.toArray
    have D2 := Draws.tuple (prog := P) (w := w) (A := A.in1) hA i2 b hb x.1.2.1.toArray
    have D3 := Draws.tuple (prog := P) (w := w) (A := A.in1) hA i3 c hc x.1.2.2.toArray
    have W := WalksT.zipD3 S D1 D2 D3
    have l1 : x.1.1.toArray.size = xs.length := by rw [List.size_toArray]; exact x.2.1
    have l2 : x.1.2.1.toArray.size = ys.length := by rw [List.size_toArray]; exact x.2.2.1
    have l3 : x.1.2.2.toArray.size = zs.length := by rw [List.size_toArray]; exact x.2.2.2
    rw [l1, l2, l3] at W
    refine ⟨W.sub, fun i h h' st k => ?_, fun i s Q E hi st q => W.item i s Q E hi ?_ q, fun el k2 p2 i T s Q E hm q => W.go el k2 p2 i T s Q E hm fun h' st k => q h' ?_ k, W.apart, fun s Q E st q => W.done s Q E ?_ q, fun i s Q E st q => W.self i s Q E ?_ q⟩
    · obtain ⟨⟨q1, q2, q3, q4, q5, q6⟩, r1, r2, r3⟩ := st
      obtain ⟨q1, q2, q3, ⟨q4, r1⟩, ⟨q5, r2⟩, ⟨q6, r3⟩⟩ := W.frame i h h' ⟨q1, q2, q3, ⟨q4, r1⟩, ⟨q5, r2⟩, ⟨q6, r3⟩⟩ k
      exact ⟨⟨q1, q2, q3, q4, q5, q6⟩, r1, r2, r3⟩
    · obtain ⟨⟨q1, q2, q3, q4, q5, q6⟩, r1, r2, r3⟩ := st
      exact ⟨q1, q2, q3, ⟨q4, r1⟩, ⟨q5, r2⟩, ⟨q6, r3⟩⟩
    · obtain ⟨q1, q2, q3, ⟨q4, r1⟩, ⟨q5, r2⟩, ⟨q6, r3⟩⟩ := st
      exact ⟨⟨q1, q2, q3, q4, q5, q6⟩, r1, r2, r3⟩
    · obtain ⟨⟨q1, q2, q3, q4, q5, q6⟩, r1, r2, r3⟩ := st
      exact ⟨q1, q2, q3, ⟨q4, r1⟩, ⟨q5, r2⟩, ⟨q6, r3⟩⟩
    · obtain ⟨⟨q1, q2, q3, q4, q5, q6⟩, r1, r2, r3⟩ := st
      exact ⟨q1, q2, q3, ⟨q4, r1⟩, ⟨q5, r2⟩, ⟨q6, r3⟩⟩
  · subst hK
    obtain ⟨g1, g2, g3⟩ := hG
    obtain ⟨is1, rv1, p1, _⟩ := I.tuple g1
    obtain ⟨is2, rv2, p2, _⟩ := I.tuple g2
    obtain ⟨is3, rv3, p3, _⟩ := I.tuple g3
    refine ⟨⟨(is1, is2, is3), rv1.length.symm, rv2.length.symm, rv3.length.symm⟩, ⟨p1, p2, p3⟩, fun i vals hi ⟨u1, u2, u3, e1, e2, e3, ev⟩ => ?_⟩
    have one : ∀ {vs : List V} {us : List Value} {u : Value}, Vals vs us → us.toArray[i]? = some u → i < vs.length → RelV ((vs[i]?).getD .non) u := fun {vs us u} rv hu hl => by
      have hx : vs[i]? = some (vs[i]'hl) := List.getElem?_eq_getElem hl
      obtain ⟨u', hu', ru⟩ := rv.get hx
      rw [List.getElem?_toArray, hu'] at hu
      cases hu
      rw [hx]
      exact ru
    subst ev
    exact .cons (one rv1 e1 (by omega)) (.cons (one rv2 e2 (by omega)) (.cons (one rv3 e3 (by omega)) .nil))
theorem pi_zip3 {X : Cx} {e e2 e3 : Expr} {ta : TA} {p pos tpos : Pos} {elts : List Expr} {kk : Nat} (hg : Gl X "zip") (hm : X.mg "zip" = none) (ha : PA X [e, e2, e3] ta) (hs : starEach [e, e2, e3] X.env = [(false, eval e X.env), (false, eval e2 X.env), (false, eval e3 X.env)]) :
    PI X (.Tuple elts kk tpos) (.Call (.Name "zip" p) [e, e2, e3] [] pos) (iZip3 X.K ta) := by
  have st : starEach (e :: [e2, e3]) X.env = (false, eval e X.env) :: starEach [e2, e3] X.env := by
    have q : starEach [e2, e3] X.env = [(false, eval e2 X.env), (false, eval e3 X.env)] := by
      have := congrArg List.tail hs
      cases e <;> simpa [starEach] using this
    rw [hs, q]
  have np : (backTo pos (starEach [e2, e3] X.env)).any (·.1) = false := by
    have q : starEach [e2, e3] X.env = [(false, eval e2 X.env), (false, eval e3 X.env)] := by
      rw [st] at hs
      exact (List.cons.inj hs).2
    rw [q]; rfl
  refine ⟨fun pins s σ H R I h => ?_⟩
  refine Call_ (ld_blt I hg hm boot_zip (PyProof.Rows.callWith_type1 (thn (ha.run pos pins s σ H _ I h) fun us s1 ⟨vs, H1, I1, r1, a, b, c, xs, ys, zs, ex, h1, h2, h3, q⟩ => ?_) st np))
  subst ex
  obtain ⟨u1, us, rfl, e1, r1⟩ : ∃ u1 us', us = u1 :: us' ∧ RelV (.ref a) u1 ∧ Vals [V.ref b, V.ref c] us' := by cases r1 with | cons x y => exact ⟨_, _, rfl, x, y⟩
  obtain ⟨u2, u3, rfl, e2', e3'⟩ := vals2 r1
  cases e1; cases e2'; cases e3'
  obtain ⟨is1, rv1, p1, _⟩ := I1.tuple h1
  obtain ⟨is2, rv2, p2, _⟩ := I1.tuple h2
  obtain ⟨is3, rv3, p3, _⟩ := I1.tuple h3
  have la : a < s1.heap.objs.size := by obtain ⟨o, q, _⟩ := p1; exact Heap.lt_size q
  have lb : b < s1.heap.objs.size := by obtain ⟨o, q, _⟩ := p2; exact Heap.lt_size q
  have lc : c < s1.heap.objs.size := by obtain ⟨o, q, _⟩ := p3; exact Heap.lt_size q
  refine zip_begins3 (begins_tuple a is1.toArray) (begins_tuple b is2.toArray) (begins_tuple c is3.toArray) p1 p2 p3 fun h' isZ isI isO i1 i2 i3 _ kp => wpAny_pyIter_zip isZ ?_
  have I2 : Inv X pins σ H1 { s1 with heap := h' } := I1.kept (t' := s1.toks) kp
  have up : ∀ {x y : Nat}, x < s1.heap.objs.size → s1.heap.objs.size ≤ y → x ≠ y := fun h1 h2 => Nat.ne_of_lt (Nat.lt_of_lt_of_le h1 h2)
  have ne : ∀ {x y : Nat}, x ≠ y → s1.heap.objs.size + x ≠ s1.heap.objs.size + y := fun h => fun z => h (Nat.add_left_cancel z)
  have le : ∀ k : Nat, s1.heap.objs.size ≤ s1.heap.objs.size + k := fun k => Nat.le_add_right _ _
  have n0 : ∀ {k : Nat}, 0 < k → s1.heap.objs.size + k ≠ s1.heap.objs.size := fun h => Nat.ne_of_gt (Nat.lt_add_of_pos_right h)
  have S : ZipSep3 (s1.heap.objs.size + 5) (s1.heap.objs.size + 3) (s1.heap.objs.size + 4) s1.heap.objs.size (s1.heap.objs.size + 1) (s1.heap.objs.size + 2) [s1.heap.objs.size, a] [s1.heap.objs.size + 1, b] [s1.heap.objs.size + 2, c] := by
    constructor
    · exact ne (by decide)
    · exact ne (by decide)
    · exact ne (by decide)
    · exact n0 (by decide)
    · simp
    · simp only [List.mem_cons, List.not_mem_nil, or_false, not_or]; exact ⟨n0 (by decide), Ne.symm (up la (le _))⟩
    · simp only [List.mem_cons, List.not_mem_nil, or_false, not_or]; exact ⟨n0 (by decide), Ne.symm (up la (le _))⟩
    · exact ne (by decide)
    · simp
    · simp only [List.mem_cons, List.not_mem_nil, or_false, not_or]; exact ⟨ne (by decide), Ne.symm (up lb (le _))⟩
    · simp only [List.mem_cons, List.not_mem_nil, or_false, not_or]; exact ⟨ne (by decide), Ne.symm (up lb (le _))⟩
    · exact ne (by decide)
    · simp
    · simp only [List.mem_cons, List.not_mem_nil, or_false, not_or]; exact ⟨ne (by decide), Ne.symm (up lc (le _))⟩
    · simp only [List.mem_cons, List.not_mem_nil, or_false, not_or]; exact ⟨ne (by decide), Ne.symm (up lc (le _))⟩
    · simp only [List.mem_cons, List.not_mem_nil, or_false, not_or]; exact ⟨Ne.symm (n0 (by decide)), Ne.symm (up lb (Nat.le_refl _))⟩
    · simp only [List.mem_cons, List.not_mem_nil, or_false, not_or]; exact ⟨Ne.symm (n0 (by decide)), Ne.symm (up lc (Nat.le_refl _))⟩
    · simp only [List.mem_cons, List.not_mem_nil, or_false, not_or]; exact ⟨n0 (by decide), Ne.symm (up la (le _))⟩
    · simp only [List.mem_cons, List.not_mem_nil, or_false, not_or]; exact ⟨ne (by decide), Ne.symm (up lc (le _))⟩
    · simp only [List.mem_cons, List.not_mem_nil, or_false, not_or]; exact ⟨n0 (by decide), Ne.symm (up la (le _))⟩
    · simp only [List.mem_cons, List.not_mem_nil, or_false, not_or]; exact ⟨ne (by decide), Ne.symm (up lb (le _))⟩
  refine ⟨s1.heap.objs.size + 5, [s1.heap.objs.size + 5, s1.heap.objs.size + 3, s1.heap.objs.size + 4, s1.heap.objs.size, s1.heap.objs.size + 1, s1.heap.objs.size + 2], _, _, H1, rfl, I2,
    turn_zip3 a b c _ _ _ _ _ _ xs ys zs S (up la (Nat.le_refl _)) (up lb (le _)) (up lc (le _)), ⟨isZ, isI, ⟨_, _, _, isO⟩, ⟨_, i1, rfl, rfl⟩, ⟨_, i2, rfl, rfl⟩, ⟨_, i3, rfl, rfl⟩⟩, fun q hq => ?_, q⟩
  have fp : s1.heap.objs.size ≤ q := by
    simp only [List.mem_cons, List.not_mem_nil, or_false] at hq
    rcases hq with rfl | rfl | rfl | rfl | rfl | rfl <;> first | exact le _ | exact Nat.le_refl _
  exact I1.fpOk fp (I1.hok.fresh fp)
end Ev
/-! Ev10: what is walked, comprehensions. -/
namespace Ev
open PySem L2
section
variable {G : Gb} {Φ : Nat → List D → Mem → Res D} {W : WX} {X : Cx} {k : Nat} {Γ : Cn}
/-- J hands out what stands for ds, one behind another, in every world that knows w0's values -/
def Walks (G : Gb) (w0 : Wd) (ds : List D) (J : L2.It) : Prop := ∀ w, Emb w0 w → WOk G w → (∀ i, i < ds.length → J.go i w.H) ∧ J.stop ds.length w.H ∧
  ∀ i x H', i < ds.length → J.yld i w.H x H' → ∃ w' d, w'.H = H' ∧ w'.as = w.as ∧ w'.M = w.M ∧ w'.hd = w.hd ∧ Ext w w' ∧ WOk G w' ∧ ds[i]? = some d ∧ Rep G w' d x
section
variable (G Φ W)
def tI (it : It) : TI := fun σ H R => ∃ w σd, w.H = H ∧ WOk G w ∧ RepS G w σd σ ∧ Post G W σ w (evI Φ it σd w.M) fun ds w' => ∀ J, Walks G w' ds J → R J w'.H
end
theorem PI.imp {X : Cx} {tg e : Expr} {t t' : TI} (h : PI X tg e t) (k : ∀ σ H R, t' σ H R → t σ H R) : PI X tg e t' := ⟨fun pins s σ H R I q => h.run pins s σ H R I (k σ H R q)⟩
theorem RepL.rget {w : Wd} : ∀ {ds : List D} {vs : List V} {i : Nat} {v : V}, RepL G w ds vs → vs[i]? = some v → ∃ d, ds[i]? = some d ∧ Rep G w d v
  | [], _, _, _, h, e => by simp only [RepL] at h; subst h; simp at e
  | d :: ds, _, i, v, h, e => by
    simp only [RepL] at h
    obtain ⟨u, r, rfl, h1, h2⟩ := h
    cases i with
    | zero => simp at e; subst e; exact ⟨d, rfl, h1⟩
    | succ i =>
      obtain ⟨d', e1, e2⟩ := RepL.rget (i := i) h2 (by simpa using e)
      exact ⟨d', by simpa using e1, e2⟩
theorem walks_at {w0 : Wd} {ds : List D} {vs : List V} {J : L2.It} {Gp : Hp → Prop} (wk : Walk J vs.length Gp (YAt vs)) (hG : ∀ w, Emb w0 w → Gp w.H) (r : RepL G w0 ds vs) : Walks G w0 ds J := by
  intro w e g
  rw [r.length]
  refine ⟨fun i hi => wk.goes i w.H hi (hG w e), wk.stops w.H (hG w e), fun i x H' hi y => ?_⟩
  obtain ⟨rfl, hx⟩ := wk.yields i w.H x H' hi (hG w e) y
  obtain ⟨d, hd, rd⟩ := RepL.rget (RepL.emb e _ _ r) hx
  exact ⟨w, d, rfl, rfl, rfl, rfl, Ext.refl w, g, hd, rd⟩
theorem Rep.lstE {w : Wd} {d : D} {xs : List D} {v : V} (hd : d = .lst xs ∨ d = .scr xs) (r : Rep G w d v) : ∃ a vs, v = .ref a ∧ (∀ w', Emb w w' → SqL G.K w'.H a vs) ∧ RepL G w xs vs := by
  rcases hd with rfl | rfl
  · simp only [Rep] at r
    obtain ⟨a, vs, rfl, h1, h2⟩ := r
    exact ⟨a, vs, rfl, fun w' e => .inl (.inl (h1.emb e).1), h2⟩
  · simp only [Rep] at r
    obtain ⟨a, vs, rfl, ⟨o, h1⟩ | h1, h2⟩ := r
    · exact ⟨a, vs, rfl, fun w' e => .inl (.inr ⟨o, (h1.emb e).1⟩), h2⟩
    · exact ⟨a, vs, rfl, fun w' e => kseqL h1, h2⟩
theorem Rep.tupE {w : Wd} {xs : List D} {v : V} (r : Rep G w (.tup xs) v) : ∃ a vs, v = .ref a ∧ (∀ w', Emb w w' → SqT G.K w'.H a vs) ∧ RepL G w xs vs := by
  simp only [Rep] at r
  obtain ⟨a, vs, rfl, h1 | h1, h2⟩ := r
  · exact ⟨a, vs, rfl, fun w' e => (h1.emb e).sqT, h2⟩
  · exact ⟨a, vs, rfl, fun w' e => kseqT h1, h2⟩
theorem pi_seq (c : Ctx G Γ k X W) {e : Ex} {tg x : Expr} (ha : PE X x (tE G Φ W e)) : PI X tg x (tI G Φ W (.seq e)) := by
  refine ⟨fun pins s σ H R I h => ?_⟩
  obtain ⟨w, σd, rfl, g, rs, hp⟩ := h
  simp only [evI] at hp
  have lst : (Post G W σ w (evE Φ e σd w.M) fun d w' => ∃ xs, (d = .lst xs ∨ d = .scr xs) ∧ ∀ J, Walks G w' xs J → R J w'.H) → wpAny (model X.prog X.w) X.A (eval x X.env) (fun v s1 => wpAny (model X.prog X.w) X.A (pyIter v) (PIE X pins σ tg R) X.xe s1) X.xe s := fun h => by
    refine (pi_list ha).run pins s σ w.H R I ⟨w, σd, rfl, g, rs, h.mono fun d w1 x1 g1 h1 v1 r1 => ?_⟩
    obtain ⟨xs, hd, q⟩ := h1
    obtain ⟨a, vs, rfl, h2, h3⟩ := Rep.lstE hd r1
    rw [c.K]
    exact ⟨a, rfl, ⟨vs, h2 w1 (Emb.refl w1)⟩, q _ (walks_at walk_list h2 h3)⟩
  have tup : (Post G W σ w (evE Φ e σd w.M) fun d w' => ∃ xs, d = .tup xs ∧ ∀ J, Walks G w' xs J → R J w'.H) → wpAny (model X.prog X.w) X.A (eval x X.env) (fun v s1 => wpAny (model X.prog X.w) X.A (pyIter v) (PIE X pins σ tg R) X.xe s1) X.xe s := fun h => by
    refine (pi_tup ha).run pins s σ w.H R I ⟨w, σd, rfl, g, rs, h.mono fun d w1 x1 g1 h1 v1 r1 => ?_⟩
    obtain ⟨xs, rfl, q⟩ := h1
    obtain ⟨a, vs, rfl, h2, h3⟩ := Rep.tupE r1
    rw [c.K]
    exact ⟨a, rfl, ⟨vs, h2 w1 (Emb.refl w1)⟩, q _ (walks_at walk_tup h2 h3)⟩
  cases q : evE Φ e σd w.M with
  | no => rw [q] at hp; exact absurd hp fun z => z
  | ex cc fs M =>
    refine lst ?_
    rw [q] at hp ⊢
    exact hp
  | ok d M =>
    rw [q] at hp
    cases d with
    | lst xs => exact lst (by rw [q]; exact fun w' x g e => ⟨xs, .inl rfl, fun J hJ => hp w' x g e J hJ⟩)
    | scr xs => exact lst (by rw [q]; exact fun w' x g e => ⟨xs, .inr rfl, fun J hJ => hp w' x g e J hJ⟩)
    | tup xs => exact tup (by rw [q]; exact fun w' x g e => ⟨xs, rfl, fun J hJ => hp w' x g e J hJ⟩)
    | _ => exact absurd hp fun z => z
theorem walks_rng {w0 : Wd} {lo : Int} {n : Nat} : Walks G w0 ((List.range n).map fun (k : Nat) => D.int (lo + (k : Int))) (Itr lo n) := by
  intro w e g
  rw [List.length_map, List.length_range]
  refine ⟨fun i hi => hi, Nat.le_refl _, fun i x H' hi y => ?_⟩
  obtain ⟨rfl, rfl⟩ := y
  exact ⟨w, .int (lo + i), rfl, rfl, rfl, rfl, Ext.refl w, g, by rw [List.getElem?_map, List.getElem?_range hi]; rfl, rep_int⟩
theorem rngD_ok {a b : Int} {ds : List D} (h : rngD a b = some ds) : (-(2 ^ 62) ≤ a ∧ a < 2 ^ 62 ∧ -(2 ^ 62) ≤ b ∧ b < 2 ^ 62) ∧ ds = (List.range (b - a).toNat).map fun (k : Nat) => D.int (a + (k : Int)) := by
  unfold rngD at h
  split at h
  · rename_i hb
    cases h
    exact ⟨hb, rfl⟩
  · cases h
theorem pi_rng1 (c : Ctx G Γ k X W) {x : Str} {a : Ex} {u tg : Expr} {p pos : Pos} (hx : x = "range") (hgl : glB Γ.sc x = true) (hbs : Γ.bs.contains x = true) (hu : plainX u = true) (ha : PE X u (tE G Φ W a)) : PI X tg (.Call (.Name x p) [u] [] pos) (tI G Φ W (.rng1 a)) := by
  subst hx
  refine PI.imp (pi_range1 (gl_of c hgl) (mg_none c hbs) (pa_cons ha pa_nil (star_of hu _ _)) (star_of hu _ _)) ?_
  rintro σ H R ⟨w, σd, rfl, g, rs, hp⟩
  simp only [evI] at hp
  refine ⟨w, σd, rfl, g, rs, (Post.bind hp).mono fun d w1 x1 g1 h1 v r => ?_⟩
  cases d with
  | int n =>
    obtain ⟨out, ho, h2⟩ := Post.of h1
    obtain ⟨hb, rfl⟩ := rngD_ok ho
    simp only [Rep] at r
    subst r
    have q := post_ok g1 h2 (Itr 0 n.toNat) (by have := walks_rng (G := G) (w0 := w1) (lo := 0) (n := n.toNat); simpa using this)
    exact ⟨n, rfl, hb.2.2.1, hb.2.2.2, q⟩
  | _ => exact absurd h1 fun z => z
theorem pi_rng2 (c : Ctx G Γ k X W) {x : Str} {a b : Ex} {u v tg : Expr} {p pos : Pos} (hx : x = "range") (hgl : glB Γ.sc x = true) (hbs : Γ.bs.contains x = true) (hu : plainX u = true) (hv : plainX v = true) (ha : PE X u (tE G Φ W a)) (hb : PE X v (tE G Φ W b)) : PI X tg (.Call (.Name x p) [u, v] [] pos) (tI G Φ W (.rng2 a b)) := by
  subst hx
  refine PI.imp (pi_range2 (gl_of c hgl) (mg_none c hbs) (pa_cons ha (pa_cons hb pa_nil (star_of hv _ _)) (star_of hu _ _)) (by rw [star_of hu, star_of hv]; rfl) (star_of hv _ _)) ?_
  rintro σ H R ⟨w, σd, rfl, g, rs, hp⟩
  simp only [evI] at hp
  refine ⟨w, σd, rfl, g, rs, (Post.bind hp).mono fun d w1 x1 g1 h1 v1 r1 => ?_⟩
  refine ⟨w1, σd, rfl, g1, rs.ext x1, (Post.bind h1).mono fun e w2 x2 g2 h2 v2 r2 => ?_⟩
  split at h2
  · rename_i m n
    obtain ⟨out, ho, h3⟩ := Post.of h2
    obtain ⟨hb, rfl⟩ := rngD_ok ho
    simp only [Rep] at r1 r2
    subst r1 r2
    exact ⟨m, n, rfl, hb, post_ok g2 h3 _ walks_rng⟩
  · exact absurd h2 fun z => z
theorem walks_dwn {w0 : Wd} {lo : Int} {n : Nat} : Walks G w0 ((List.range n).map fun (k : Nat) => D.int (lo - (k : Int))) (Itc lo (-1) n) := by
  intro w e g
  rw [List.length_map, List.length_range]
  refine ⟨fun i hi => hi, Nat.le_refl _, fun i x H' hi y => ?_⟩
  obtain ⟨rfl, rfl⟩ := y
  refine ⟨w, .int (lo + i * -1), rfl, rfl, rfl, rfl, Ext.refl w, g, ?_, rep_int⟩
  rw [List.getElem?_map, List.getElem?_range hi, show lo + (i : Int) * -1 = lo - i by omega]
  rfl
theorem dwnD_ok {a b : Int} {ds : List D} (h : dwnD a b = some ds) : (-(2 ^ 62) ≤ a ∧ a < 2 ^ 62 ∧ -(2 ^ 62) ≤ b ∧ b < 2 ^ 62) ∧ ds = (List.range (a - b).toNat).map fun (k : Nat) => D.int (a - (k : Int)) := by
  unfold dwnD at h
  split at h
  · rename_i hb
    cases h
    exact ⟨hb, rfl⟩
  · cases h
theorem pi_rng3 (c : Ctx G Γ k X W) {x : Str} {a b e : Ex} {u v z tg : Expr} {p pos : Pos} (hx : x = "range") (hgl : glB Γ.sc x = true) (hbs : Γ.bs.contains x = true) (hu : plainX u = true) (hv : plainX v = true) (hz : plainX z = true) (ha : PE X u (tE G Φ W a)) (hb : PE X v (tE G Φ W b)) (he : PE X z (tE G Φ W e)) : PI X tg (.Call (.Name x p) [u, v, z] [] pos) (tI G Φ W (.rng3 a b e)) := by
  subst hx
  refine PI.imp (pi_range3 (gl_of c hgl) (mg_none c hbs) (pa_cons ha (pa_cons hb (pa_cons he pa_nil (star_of hz _ _)) (star_of hv _ _)) (star_of hu _ _)) (by rw [star_of hu, star_of hv, star_of hz]; try rfl) (by rw [star_of hv, star_of hz]; try rfl)) ?_
  rintro σ H R ⟨w, σd, rfl, g, rs, hp⟩
  simp only [evI] at hp
  refine ⟨w, σd, rfl, g, rs, (Post.bind hp).mono fun d w1 x1 g1 h1 v1 r1 => ?_⟩
  refine ⟨w1, σd, rfl, g1, rs.ext x1, (Post.bind h1).mono fun e w2 x2 g2 h2 v2 r2 => ?_⟩
  refine ⟨w2, σd, rfl, g2, (rs.ext x1).ext x2, (Post.bind h2).mono fun f w3 x3 g3 h3 v3 r3 => ?_⟩
  split at h3
  · rename_i m n i
    split at h3
    · rename_i hi
      subst hi
      obtain ⟨out, ho, h4⟩ := Post.of h3
      obtain ⟨hb, rfl⟩ := dwnD_ok ho
      simp only [Rep] at r1 r2 r3
      subst r1 r2 r3
      exact ⟨m, n, -1, _, rfl, RgC.neg hb.1 hb.2.1 hb.2.2.1 hb.2.2.2, post_ok g3 h4 _ walks_dwn⟩
    · exact absurd h3 fun z => z
  · exact absurd h3 fun z => z
theorem walks_pair {w0 : Wd} {ds : List D} {n : Nat} {xs ys : Nat → Option V} {J : L2.It} {Gp : Hp → Prop} (wk : Walk J n Gp (YPair xs ys)) (hG : ∀ w, Emb w0 w → Gp w.H) (hn : ds.length = n)
    (hd : ∀ i x y, i < n → xs i = some x → ys i = some y → ∃ d e, ds[i]? = some (.tup [d, e]) ∧ ∀ w, Emb w0 w → Rep G w d x ∧ Rep G w e y) : Walks G w0 ds J := by
  intro w em g
  rw [hn]
  refine ⟨fun i hi => wk.goes i w.H hi (hG w em), wk.stops w.H (hG w em), fun i v H' hi q => ?_⟩
  obtain ⟨T, x, y, rfl, hT, rfl, e1, e2⟩ := wk.yields i w.H v H' hi (hG w em) q
  obtain ⟨d, e, h1, h2⟩ := hd i x y hi e1 e2
  obtain ⟨r1, r2⟩ := h2 w em
  exact ⟨{ w with H := upd w.H T (.tup [x, y]) }, _, rfl, rfl, rfl, rfl, ext_new g hT, wok_new g hT, h1, rep_tup g hT (.cons r1 (.cons r2 .nil))⟩
theorem PI.or {X : Cx} {tg e : Expr} {t t' : TI} (h : PI X tg e t) (h' : PI X tg e t') : PI X tg e (fun σ H R => t σ H R ∨ t' σ H R) := ⟨fun pins s σ H R I q => q.elim (h.run pins s σ H R I) (h'.run pins s σ H R I)⟩
theorem walks_Y {w0 : Wd} {ds : List D} {n : Nat} {ys : Nat → List V} {Gp : Hp → Prop} (hG : ∀ w, Emb w0 w → Gp w.H) (hn : ds.length = n) (hd : ∀ i, i < n → ∃ es, ds[i]? = some (.tup es) ∧ ∀ w, Emb w0 w → RepL G w es (ys i)) : Walks G w0 ds (ItY Gp n ys) := by
  intro w em g
  rw [hn]
  refine ⟨fun i hi => ⟨hi, hG w em⟩, ⟨rfl, hG w em⟩, fun i v H' hi ⟨T, ev, hT, eH⟩ => ?_⟩
  subst ev eH
  obtain ⟨es, h1, h2⟩ := hd i hi
  exact ⟨{ w with H := upd w.H T (.tup (ys i)) }, _, rfl, rfl, rfl, rfl, ext_new g hT, wok_new g hT, h1, rep_tup g hT (h2 w em)⟩
theorem pi_enu (c : Ctx G Γ k X W) {x : Str} {a : Ex} {u : Expr} {elts : List Expr} {n : Nat} {tp p pos : Pos} (hx : x = "enumerate") (hgl : glB Γ.sc x = true) (hbs : Γ.bs.contains x = true) (hu : plainX u = true) (ha : PE X u (tE G Φ W a)) : PI X (.Tuple elts n tp) (.Call (.Name x p) [u] [] pos) (tI G Φ W (.enu a)) := by
  subst hx
  refine PI.imp (PI.or (pi_enum (gl_of c hgl) (mg_none c hbs) (pa_cons ha pa_nil (star_of hu _ _)) (star_of hu _ _)) (pi_enumT (gl_of c hgl) (mg_none c hbs) (pa_cons ha pa_nil (star_of hu _ _)) (star_of hu _ _))) ?_
  rintro σ H R ⟨w, σd, rfl, g, rs, hp⟩
  simp only [evI] at hp
  have other : (∀ d M1, evE Φ a σd w.M = .ok d M1 → ∀ xs, d ≠ .tup xs) → tCons (tE G Φ W a) tNil σ w.H (fun vs H1 => ∃ b us, vs = [V.ref b] ∧ SqL X.K H1 b us ∧ R (Ite X.K b) H1) := fun nt => by
    refine ⟨w, σd, rfl, g, rs, (Post.bind hp).monoE fun d w1 ed x1 g1 h1 v r => ?_⟩
    have go : ∀ xs, (d = .lst xs ∨ d = .scr xs) → Post G W σ w1 (.ok ((xs.zipIdx).map fun p => D.tup [.int p.2, p.1]) w1.M) (fun ds w' => ∀ J, Walks G w' ds J → R J w'.H) → ∃ b us, [v] = [V.ref b] ∧ SqL X.K w1.H b us ∧ R (Ite X.K b) w1.H := fun xs hd h1 => by
      obtain ⟨b, vs, rfl, h2, h3⟩ := Rep.lstE hd r
      rw [c.K]
      refine ⟨b, vs, rfl, h2 w1 (Emb.refl w1), post_ok g1 h1 _ (walks_pair walk_enum h2 (by rw [List.length_map, List.length_zipIdx, h3.length]) fun i y z hi e1 e2 => ?_)⟩
      cases e1
      obtain ⟨d', e3, r3⟩ := RepL.rget h3 e2
      exact ⟨.int i, d', by simp [e3], fun w' em => ⟨rep_int, Rep.emb em _ _ r3⟩⟩
    cases d with
    | lst xs => exact go xs (.inl rfl) h1
    | scr xs => exact go xs (.inr rfl) h1
    | tup xs => exact absurd rfl (nt _ _ ed xs)
    | _ => exact absurd h1 fun z => z
  cases q : evE Φ a σd w.M with
  | ok d M1 =>
    cases d with
    | tup xs =>
      right
      refine ⟨w, σd, rfl, g, rs, (Post.bind hp).monoE fun d w1 ed x1 g1 h1 v r => ?_⟩
      rw [q] at ed
      cases ed
      obtain ⟨b, vs, rfl, h2, h3⟩ := Rep.tupE r
      rw [c.K]
      refine ⟨b, vs, rfl, h2 w1 (Emb.refl w1), post_ok g1 h1 _ (walks_Y h2 (by rw [List.length_map, List.length_zipIdx, h3.length]) fun i hi => ?_)⟩
      obtain ⟨d', e3, r3⟩ := RepL.rget h3 (List.getElem?_eq_getElem hi)
      refine ⟨[.int i, d'], by simp [e3], fun w' em => RepL.cons rep_int (RepL.cons ?_ RepL.nil)⟩
      rw [List.getElem?_eq_getElem hi]
      exact Rep.emb em _ _ r3
    | _ => exact .inl (other fun d M2 e xs z => by rw [q] at e; cases e; cases z)
  | ex _ _ _ => exact .inl (other fun d M2 e xs z => by rw [q] at e; cases e)
  | no => exact .inl (other fun d M2 e xs z => by rw [q] at e; cases e)
theorem pi_zip3D (c : Ctx G Γ k X W) {x : Str} {es : List Ex} {args : List Expr} {elts : List Expr} {n : Nat} {tp p pos : Pos} (hx : x = "zip") (hgl : glB Γ.sc x = true) (hbs : Γ.bs.contains x = true) (hL : mL es Γ args = true) (h3 : args.length = 3) (ha : PA X args (tL G Φ W es)) :
    PI X (.Tuple elts n tp) (.Call (.Name x p) args [] pos) (tI G Φ W (.zip3 es)) := by
  subst hx
  match args, h3, hL, ha with
  | [u, v, t], _, hL, ha =>
  have hs : starEach [u, v, t] X.env = [(false, eval u X.env), (false, eval v X.env), (false, eval t X.env)] := by
    match es, hL with
    | [a, b, e], hL =>
      simp only [mL, Bool.and_eq_true] at hL
      rw [star_of (mE_plain hL.1), star_of (mE_plain hL.2.1), star_of (mE_plain hL.2.2.1)]
      rfl
    | [], hL => simp [mL] at hL
    | [_], hL => simp [mL] at hL
    | [_, _], hL => simp [mL] at hL
    | _ :: _ :: _ :: _ :: _, hL => simp [mL] at hL
  refine PI.imp (pi_zip3 (gl_of c hgl) (mg_none c hbs) ha hs) ?_
  rintro σ H R ⟨w, σd, rfl, g, rs, hp⟩
  simp only [evI] at hp
  refine ⟨w, σd, rfl, g, rs, (Post.bind hp).mono fun ds w1 x1 g1 h1 vs r => ?_⟩
  split at h1
  · rename_i xs ys zs
    simp only [RepL] at r
    obtain ⟨v1, _, rfl, r1, v2, _, rfl, r2, v3, _, rfl, r3, rfl⟩ := r
    obtain ⟨p1, vs1, rfl, s1, l1⟩ := Rep.tupE r1
    obtain ⟨p2, vs2, rfl, s2, l2⟩ := Rep.tupE r2
    obtain ⟨p3, vs3, rfl, s3, l3⟩ := Rep.tupE r3
    rw [c.K]
    refine ⟨p1, p2, p3, vs1, vs2, vs3, rfl, s1 w1 (Emb.refl w1), s2 w1 (Emb.refl w1), s3 w1 (Emb.refl w1), post_ok g1 h1 _ (walks_Y (fun w' em => ⟨s1 w' em, s2 w' em, s3 w' em⟩) (by rw [List.length_map, List.length_zip, List.length_zip, l1.length, l2.length, l3.length]; omega) fun i hi => ?_)⟩
    have i1 : i < vs1.length := by omega
    have i2 : i < vs2.length := by omega
    have i3 : i < vs3.length := by omega
    obtain ⟨d1, e1, q1⟩ := RepL.rget l1 (List.getElem?_eq_getElem i1)
    obtain ⟨d2, e2, q2⟩ := RepL.rget l2 (List.getElem?_eq_getElem i2)
    obtain ⟨d3, e3, q3⟩ := RepL.rget l3 (List.getElem?_eq_getElem i3)
    refine ⟨[d1, d2, d3], by rw [List.getElem?_map, (show (xs.zip (ys.zip zs))[i]? = some (d1, d2, d3) from List.getElem?_zip_eq_some.mpr ⟨e1, List.getElem?_zip_eq_some.mpr ⟨e2, e3⟩⟩)]; rfl, fun w' em => ?_⟩
    unfold thr
    rw [List.getElem?_eq_getElem i1, List.getElem?_eq_getElem i2, List.getElem?_eq_getElem i3]
    exact RepL.cons (Rep.emb em _ _ q1) (RepL.cons (Rep.emb em _ _ q2) (RepL.cons (Rep.emb em _ _ q3) RepL.nil))
  · exact absurd h1 fun z => z
theorem pi_zipD (c : Ctx G Γ k X W) {x : Str} {a b : Ex} {u v : Expr} {elts : List Expr} {n : Nat} {tp p pos : Pos} (hx : x = "zip") (hgl : glB Γ.sc x = true) (hbs : Γ.bs.contains x = true) (hu : plainX u = true) (hv : plainX v = true) (ha : PE X u (tE G Φ W a)) (hb : PE X v (tE G Φ W b)) :
    PI X (.Tuple elts n tp) (.Call (.Name x p) [u, v] [] pos) (tI G Φ W (.zip a b)) := by
  subst hx
  refine PI.imp (pi_zip (gl_of c hgl) (mg_none c hbs) (pa_cons ha (pa_cons hb pa_nil (star_of hv _ _)) (star_of hu _ _)) (star_of hu _ _) (by rw [star_of hv]; rfl)) ?_
  rintro σ H R ⟨w, σd, rfl, g, rs, hp⟩
  simp only [evI] at hp
  refine ⟨w, σd, rfl, g, rs, (Post.bind hp).mono fun d w1 x1 g1 h1 v1 r1 => ?_⟩
  refine ⟨w1, σd, rfl, g1, rs.ext x1, (Post.bind h1).mono fun e w2 x2 g2 h2 v2 r2 => ?_⟩
  split at h2
  · rename_i xs ys
    obtain ⟨p1, vs, rfl, s1, l1⟩ := Rep.lstE (.inl rfl) (Rep.ext x2 _ _ r1)
    obtain ⟨p2, us, rfl, s2, l2⟩ := Rep.lstE (.inl rfl) r2
    rw [c.K]
    refine ⟨p1, p2, vs, us, rfl, s1 w2 (Emb.refl w2), s2 w2 (Emb.refl w2), post_ok g2 h2 _ (walks_pair (walk_zip rfl) (fun w' em => ⟨s1 w' em, s2 w' em⟩) (by rw [List.length_map, List.length_zip, l1.length, l2.length]) fun i y z hi e1 e2 => ?_)⟩
    obtain ⟨d1, e3, r3⟩ := RepL.rget l1 e1
    obtain ⟨d2, e4, r4⟩ := RepL.rget l2 e2
    exact ⟨d1, d2, by rw [List.getElem?_map, (show (xs.zip ys)[i]? = some (d1, d2) from List.getElem?_zip_eq_some.mpr ⟨e3, e4⟩)]; rfl, fun w' em => ⟨Rep.emb em _ _ r3, Rep.emb em _ _ r4⟩⟩
  · exact absurd h2 fun z => z
end
end Ev
/-! Ev11: comprehensions. -/
namespace Ev
open PySem L2
section
variable {G : Gb} {Φ : Nat → List D → Mem → Res D} {W : WX} {X : Cx} {k : Nat} {Γ : Cn}
theorem takes_none {X : Cx} : Takes X (fun _ _ _ _ => False) := fun _ _ x => by
  obtain ⟨_, _, _, _, _, _, _, _, _, _, _, _, _, _, _, _, z⟩ := x
  exact z.elim
theorem Ctx.blk (c : Ctx G Γ k X W) {scope : Scope} {s : Shared} {H : Hp} {C : Addr} {cl : List (Str × Addr)} {fp : List Addr} : Ctx G (Γ.blk scope) k (X.blk s H scope (compEnvC scope cl C X.env) fp) (fun _ _ _ _ => False) := by
  refine ⟨c.N, ?_, c.K, c.prog, c.wd, c.nd, fun x h => ?_, c.calm, c.gd, c.room, takes_none, c.tab, c.blt, c.glb, c.nc, c.rnk, c.cls⟩
  · show relS scope X.env.scope = relS scope Γ.sc
    rw [c.sc]
  · have h : Loc scope x := h
    rcases h with h | h
    · have e : (relS scope X.env.scope).names.lookup x = some .local := lookup_relS_keep (by decide) h
      exact ⟨.inl e, .inr e⟩
    · have e : (relS scope X.env.scope).names.lookup x = some .cell := lookup_relS_keep (by decide) h
      refine ⟨.inr e, .inl ?_⟩
      show (scope.names.lookup x == some .cell) = true
      rw [h]
      rfl
theorem wipe_get (σ : L2.St) : ∀ (vs : List Nat) (j : Nat), (wipe σ vs)[j]? = if j ∈ vs then (if j < σ.length then some none else none) else σ[j]?
  | [], j => by simp [wipe]
  | v :: vs, j => by
    unfold wipe
    by_cases hj : v = j
    · subst hj
      rw [if_pos (List.mem_cons_self ..)]
      by_cases hl : v < σ.length
      · rw [if_pos hl, List.getElem?_set_self (by rw [wipe_length]; exact hl)]
      · rw [if_neg hl, List.getElem?_eq_none (by rw [List.length_set, wipe_length]; omega)]
    · rw [List.getElem?_set_ne hj, wipe_get σ vs j]
      have : (j ∈ v :: vs) ↔ j ∈ vs := by
        simp only [List.mem_cons]
        exact ⟨fun h => h.elim (fun e => absurd e.symm hj) id, .inr⟩
      simp only [this]
theorem wipe_off {σ σ2 : L2.St} {vs is : List Nat} (h : Off is (wipe σ vs) σ2) (hs : ∀ j ∈ is, j ∈ vs) : wipe σ2 vs = wipe σ vs := by
  apply List.ext_getElem?
  intro j
  have hl : σ2.length = σ.length := by rw [h.1, wipe_length]
  rw [wipe_get σ2, wipe_get σ, hl]
  by_cases hj : j ∈ vs
  · rw [if_pos hj, if_pos hj]
  · rw [if_neg hj, if_neg hj, h.2 j fun z => hj (hs j z), wipe_get, if_neg hj]
section
variable (G Φ W)
def tC' (c : Option Ex) : TT := fun σ H Q => ∃ w σd, w.H = H ∧ WOk G w ∧ RepS G w σd σ ∧ Post G W σ w (evC Φ c σd w.M) fun b w' => Q b w'.H
end
theorem PTs.imp {X : Cx} {es : List Expr} {t t' : TT} (h : PTs X es t) (k : ∀ σ H Q, t' σ H Q → t σ H Q) : PTs X es t' := ⟨fun pins s σ H Q I q => h.run pins s σ H Q I (k σ H Q q)⟩
theorem c_none : PTs X [] (tC' G Φ W none) := by
  refine PTs.imp pts_nil ?_
  rintro σ H Q ⟨w, σd, rfl, g, rs, hp⟩
  simp only [evC] at hp
  exact post_ok g hp
theorem c_some {e : Ex} {x : Expr} (h : PT X x (tB' G Φ W e)) : PTs X [x] (tC' G Φ W (some e)) := by
  refine PTs.imp (pts_one h) ?_
  rintro σ H Q ⟨w, σd, rfl, g, rs, hp⟩
  simp only [evC] at hp
  exact ⟨w, σd, rfl, g, rs, hp⟩
theorem lcGo_nx (f : D → Mem → Res (Option D)) : ∀ (xs acc : List D) (M : Mem) (c : Nat) (fs : List (Str × D)) (M' : Mem), lcGo f xs acc M ≠ .ex c fs M'
  | [], acc, M, c, fs, M', h => by simp only [lcGo] at h; cases h
  | x :: xs, acc, M, c, fs, M', h => by
    simp only [lcGo] at h
    split at h
    · split at h
      · exact lcGo_nx f xs _ _ c fs M' h
      · cases h
    · exact lcGo_nx f xs _ _ c fs M' h
    · cases h
/-- from w1 on, with a list being built at Dd -/
structure Build (w1 w2 : Wd) (Dd : Addr) (accV : List V) : Prop where
  emb : Emb w1 w2
  keep : ∀ a o, w1.H a = some o → ¬ Live w1 a → w2.H a = some o ∧ ¬ Live w2 a
  ex : ∀ a, w1.H a ≠ none → w2.H a ≠ none
  hd : w2.hd = fun a => a = Dd ∨ w1.hd a
  at_ : w2.H Dd = some (.lst accV)
  nl : ¬ Live w2 Dd
theorem Build.ext {w1 w2 w3 : Wd} {Dd : Addr} {accV : List V} (b : Build w1 w2 Dd accV) (x : Ext w2 w3) : Build w1 w3 Dd accV where
  emb := b.emb.trans x.emb
  keep := fun a o h n => by
    obtain ⟨h1, n1⟩ := b.keep a o h n
    exact x.keep a o h1 n1
  ex := fun a h => x.ex a (b.ex a h)
  hd := x.hid.trans b.hd
  at_ := (x.keep Dd _ b.at_ b.nl).1
  nl := (x.keep Dd _ b.at_ b.nl).2
theorem Build.start {w1 : Wd} (g : WOk G w1) {Dd : Addr} (hD : w1.H Dd = none) : Build w1 (w1.hide Dd (.lst [])) Dd [] where
  emb := emb_hide g hD
  keep := fun a o h n => ⟨(upd_ne (ne_of_none h hD)).trans h, n⟩
  ex := fun a h => upd_ex a h
  hd := rfl
  at_ := upd_same
  nl := fun l => live_none g hD l
theorem Build.hide {w1 w2 : Wd} {Dd : Addr} {accV : List V} (b : Build w1 w2 Dd accV) : w2.hd Dd := by rw [b.hd]; exact .inl rfl
theorem Build.grow {w1 w2 : Wd} {Dd : Addr} {accV accV' : List V} (b : Build w1 w2 Dd accV) (hD : w1.H Dd = none) : Build w1 (w2.grow Dd (.lst accV')) Dd accV' where
  emb := b.emb.trans (emb_grow b.hide)
  keep := fun a o h n => by
    obtain ⟨h1, n1⟩ := b.keep a o h n
    exact ⟨(upd_ne (ne_of_none h hD)).trans h1, n1⟩
  ex := fun a h => upd_ex a (b.ex a h)
  hd := b.hd
  at_ := upd_same
  nl := b.nl
theorem Build.done {w1 w2 : Wd} {Dd : Addr} {accV : List V} (b : Build w1 w2 Dd accV) : Ext w1 (w2.bare w1.hd) := ⟨b.emb.pre, b.keep, rfl, b.ex⟩
theorem Build.sub {w1 w2 : Wd} {Dd : Addr} {accV : List V} (b : Build w1 w2 Dd accV) : ∀ a, w1.hd a → w2.hd a := fun a h => by rw [b.hd]; exact .inr h
theorem lc_read {e : Ex} {t : Tg} {it : It} {cc : Option Ex} {vs : List Nat} (hs : (tgS t).all vs.contains = true) :
    ∀ σ H Q, tE G Φ W (.lc e t it cc vs) σ H Q → tLc (tI G Φ W it) (tTg G Φ (fun _ _ _ _ => False) t) (tC' G Φ (fun _ _ _ _ => False) cc) (tE G Φ (fun _ _ _ _ => False) e) vs σ H Q := by
  rintro σ H Q ⟨w, σd, rfl, g, rs, hp⟩
  simp only [evE] at hp
  refine ⟨w, σd, rfl, g, rs, (Post.bind hp).mono fun ds w1 x1 g1 h1 J hJ Dd hD => ?_⟩
  generalize hF : (fun x M2 => (evT Φ t x (wipeD σd vs) M2).bind fun σ3 M3 => (evC Φ cc σ3 M3).bind fun b M4 => if b = true then (evE Φ e σ3 M4).bind fun d M5 => Res.ok (some d) M5 else Res.ok none M4) = F at h1
  cases q : lcGo F ds [] w1.M with
  | no => rw [q] at h1; exact absurd h1 fun z => z
  | ex _ _ _ => exact absurd q (lcGo_nx F ds [] w1.M _ _ _)
  | ok out M6 =>
    rw [q] at h1
    have rs1 : RepS G w1 σd σ := rs.ext x1
    refine ⟨fun i m H => ∃ w2 acc accV, w2.H = H ∧ i ≤ ds.length ∧ m = ds.length - i ∧ WOk G w2 ∧ Build w1 w2 Dd accV ∧ lcGo F (ds.drop i) acc w2.M = .ok out M6 ∧ RepL G w2 acc accV,
      ⟨ds.length, w1.hide Dd (.lst []), [], [], rfl, Nat.zero_le _, by simp, wok_hide g1 hD, Build.start g1 hD, by rw [List.drop_zero]; exact q, RepL.nil⟩, ?_⟩
    rintro i m H ⟨w2, acc, accV, rfl, hi, rfl, g2, b2, go, ra⟩
    obtain ⟨j1, j2, j3⟩ := hJ w2 b2.emb g2
    by_cases hl : i < ds.length
    · right
      refine ⟨j1 i hl, fun H' => ∃ m' , m' < ds.length - i ∧ ∃ w2 acc accV, w2.H = H' ∧ i + 1 ≤ ds.length ∧ m' = ds.length - (i + 1) ∧ WOk G w2 ∧ Build w1 w2 Dd accV ∧ lcGo F (ds.drop (i + 1)) acc w2.M = .ok out M6 ∧ RepL G w2 acc accV, fun H' h => h, fun x H' y => ?_⟩
      obtain ⟨w3, d, rfl, _, m3, _, x3, g3, hd, rd⟩ := j3 i x H' hl y
      have b3 := b2.ext x3
      have hdrop : ds.drop i = d :: ds.drop (i + 1) := by
        obtain ⟨h', e'⟩ := List.getElem?_eq_some_iff.mp hd
        rw [List.drop_eq_getElem_cons h', e']
      rw [hdrop] at go
      simp only [lcGo] at go
      rw [← m3] at go
      -- what the turn does
      have turn : ∃ o M', F d w3.M = .ok o M' ∧ (match o with
          | some z => acc.length < sizeLine ∧ lcGo F (ds.drop (i + 1)) (acc ++ [z]) M' = .ok out M6
          | none => lcGo F (ds.drop (i + 1)) acc M' = .ok out M6) := by
        split at go
        · rename_i z M' hz
          split at go
          · rename_i hl
            exact ⟨some z, M', hz, hl, go⟩
          · cases go
        · rename_i M' hz
          exact ⟨none, M', hz, go⟩
        · cases go
      obtain ⟨o, M', hF1, hrest⟩ := turn
      rw [← hF] at hF1
      obtain ⟨σ3, M3, hT, hF2⟩ := Res.bind_ok_iff hF1
      obtain ⟨bb, M4, hC, hF3⟩ := Res.bind_ok_iff hF2
      refine ⟨w3, wipeD σd vs, d, rfl, g3, ((RepS.wipe rs1 vs).emb b3.emb), rd, ?_⟩
      rw [hT]
      intro w4 x4 g4 e4 σv rs4 off
      refine ⟨wipe_off off fun j hj => by simpa using List.all_eq_true.mp hs j hj, w4, σ3, rfl, g4, rs4, ?_⟩
      rw [e4, hC]
      intro w5 x5 g5 e5
      have b5 := (b3.ext x4).ext x5
      have ra5 : RepL G w5 acc accV := RepL.ext ((x3.trans x4).trans x5) _ _ ra
      cases bb with
      | true =>
        rw [if_pos rfl] at hF3
        refine iteT ?_
        obtain ⟨z, M5, hE, hF4⟩ := Res.bind_ok_iff hF3
        cases hF4
        refine ⟨w5, σ3, rfl, g5, rs4.ext x5, ?_⟩
        rw [e5, hE]
        intro w6 x6 g6 e6 v rv
        have b6 := b5.ext x6
        have ra6 : RepL G w6 (acc ++ [z]) (accV ++ [v]) := (RepL.ext x6 _ _ ra5).append (.cons rv .nil)
        refine ⟨accV, b6.at_, by rw [← ra.length]; exact hrest.1, ds.length - (i + 1), by omega, w6.grow Dd (.lst (accV ++ [v])), acc ++ [z], accV ++ [v], rfl, hl, rfl, wok_grow g6 b6.hide b6.nl, b6.grow hD, ?_, RepL.emb (emb_grow b6.hide) _ _ ra6⟩
        show lcGo F (ds.drop (i + 1)) (acc ++ [z]) w6.M = _
        rw [e6]
        exact hrest.2
      | false =>
        rw [if_neg Bool.false_ne_true] at hF3
        refine iteF ?_
        cases hF3
        exact ⟨ds.length - (i + 1), by omega, w5, acc, accV, rfl, hl, rfl, g5, b5, by rw [e5]; exact hrest, ra5⟩
    · left
      have hi' : i = ds.length := by omega
      subst hi'
      refine ⟨j2, ?_⟩
      rw [List.drop_length] at go
      simp only [lcGo] at go
      cases go
      refine h1 (w2.bare w1.hd) b2.done (wok_bare g2 b2.sub) rfl (.ref Dd) ?_
      simp only [Rep]
      refine ⟨Dd, accV, rfl, ⟨b2.at_, b2.nl, fun z => g1.hid Dd z hD⟩, RepL.emb (emb_bare b2.sub) _ _ ra⟩
theorem lc2Go_nx (f : D → List D → Mem → Res (List D)) : ∀ (xs acc : List D) (M : Mem) (c : Nat) (fs : List (Str × D)) (M' : Mem), lc2Go f xs acc M ≠ .ex c fs M'
  | [], acc, M, c, fs, M', h => by simp only [lc2Go] at h; cases h
  | x :: xs, acc, M, c, fs, M', h => by
    simp only [lc2Go] at h
    split at h
    · exact lc2Go_nx f xs _ _ c fs M' h
    · cases h
theorem lc2_read {e : Ex} {t t1 : Tg} {it it1 : It} {cc cc1 : Option Ex} {vs vs1 : List Nat} (hs : (tgS t).all vs.contains = true) (hs1 : (tgS t1).all vs1.contains = true) :
    ∀ σ H Q, tE G Φ W (.lc2 e t it cc t1 it1 cc1 vs vs1) σ H Q → tLc2 (tI G Φ W it) (tTg G Φ (fun _ _ _ _ => False) t) (tC' G Φ (fun _ _ _ _ => False) cc) (tI G Φ (fun _ _ _ _ => False) it1) (tTg G Φ (fun _ _ _ _ => False) t1) (tC' G Φ (fun _ _ _ _ => False) cc1) (tE G Φ (fun _ _ _ _ => False) e) vs vs1 σ H Q := by
  rintro σ H Q ⟨w, σd, rfl, g, rs, hp⟩
  simp only [evE] at hp
  refine ⟨w, σd, rfl, g, rs, (Post.bind hp).mono fun ds w1 x1 g1 h1 J hJ Dd hD => ?_⟩
  generalize hF : (fun x acc M2 => (evT Φ t x (wipeD σd vs) M2).bind fun σ3 M3 => (evC Φ cc σ3 M3).bind fun b M4 => if b = true then (evI Φ it1 σ3 M4).bind fun ds1 M5 => lcGo (fun x1 M6 => (evT Φ t1 x1 (wipeD σ3 vs1) M6).bind fun σ4 M7 => (evC Φ cc1 σ4 M7).bind fun b1 M8 => if b1 = true then (evE Φ e σ4 M8).bind fun d M9 => Res.ok (some d) M9 else Res.ok none M8) ds1 acc M5 else Res.ok acc M4) = F at h1
  cases q : lc2Go F ds [] w1.M with
  | no => rw [q] at h1; exact absurd h1 fun z => z
  | ex _ _ _ => exact absurd q (lc2Go_nx F ds [] w1.M _ _ _)
  | ok out M6 =>
    rw [q] at h1
    have rs1 : RepS G w1 σd σ := rs.ext x1
    refine ⟨fun i m H => ∃ w2 acc accV, w2.H = H ∧ i ≤ ds.length ∧ m = ds.length - i ∧ WOk G w2 ∧ Build w1 w2 Dd accV ∧ lc2Go F (ds.drop i) acc w2.M = .ok out M6 ∧ RepL G w2 acc accV,
      ⟨ds.length, w1.hide Dd (.lst []), [], [], rfl, Nat.zero_le _, by simp, wok_hide g1 hD, Build.start g1 hD, by rw [List.drop_zero]; exact q, RepL.nil⟩, ?_⟩
    rintro i m H ⟨w2, acc, accV, rfl, hi, rfl, g2, b2, go, ra⟩
    obtain ⟨j1, j2, j3⟩ := hJ w2 b2.emb g2
    by_cases hl : i < ds.length
    · right
      refine ⟨j1 i hl, fun H' => ∃ m' , m' < ds.length - i ∧ ∃ w2 acc accV, w2.H = H' ∧ i + 1 ≤ ds.length ∧ m' = ds.length - (i + 1) ∧ WOk G w2 ∧ Build w1 w2 Dd accV ∧ lc2Go F (ds.drop (i + 1)) acc w2.M = .ok out M6 ∧ RepL G w2 acc accV, fun H' h => h, fun x H' y => ?_⟩
      obtain ⟨w3, d, rfl, _, m3, _, x3, g3, hd, rd⟩ := j3 i x H' hl y
      have b3 := b2.ext x3
      have hdrop : ds.drop i = d :: ds.drop (i + 1) := by
        obtain ⟨h', e'⟩ := List.getElem?_eq_some_iff.mp hd
        rw [List.drop_eq_getElem_cons h', e']
      rw [hdrop] at go
      simp only [lc2Go] at go
      rw [← m3] at go
      obtain ⟨acc', M', hF1, hrest⟩ : ∃ acc' M', F d acc w3.M = .ok acc' M' ∧ lc2Go F (ds.drop (i + 1)) acc' M' = .ok out M6 := by
        split at go
        · rename_i a M' hz
          exact ⟨a, M', hz, go⟩
        · cases go
      rw [← hF] at hF1
      obtain ⟨σ3, M3, hT, hF2⟩ := Res.bind_ok_iff hF1
      obtain ⟨bb, M4, hC, hF3⟩ := Res.bind_ok_iff hF2
      refine ⟨w3, wipeD σd vs, d, rfl, g3, ((RepS.wipe rs1 vs).emb b3.emb), rd, ?_⟩
      rw [hT]
      intro w4 x4 g4 e4 σv rs4 off
      refine ⟨wipe_off off fun j hj => by simpa using List.all_eq_true.mp hs j hj, w4, σ3, rfl, g4, rs4, ?_⟩
      rw [e4, hC]
      intro w5 x5 g5 e5
      have b5 := (b3.ext x4).ext x5
      have ra5 : RepL G w5 acc accV := RepL.ext ((x3.trans x4).trans x5) _ _ ra
      cases bb with
      | false =>
        rw [if_neg Bool.false_ne_true] at hF3
        refine iteF ?_
        cases hF3
        exact ⟨ds.length - (i + 1), by omega, w5, acc, accV, rfl, hl, rfl, g5, b5, by rw [e5]; exact hrest, ra5⟩
      | true =>
        rw [if_pos rfl] at hF3
        refine iteT ?_
        obtain ⟨ds1, M5, hI, hG⟩ := Res.bind_ok_iff hF3
        refine ⟨w5, σ3, rfl, g5, rs4.ext x5, ?_⟩
        rw [e5, hI]
        intro w6 x6 g6 e6 J1 hJ1
        have b6 := b5.ext x6
        have rs6 := (rs4.ext x5).ext x6
        generalize hF1 : (fun x1 M6 => (evT Φ t1 x1 (wipeD σ3 vs1) M6).bind fun σ4 M7 => (evC Φ cc1 σ4 M7).bind fun b1 M8 => if b1 = true then (evE Φ e σ4 M8).bind fun d M9 => Res.ok (some d) M9 else Res.ok none M8) = F1 at hG
        refine ⟨fun j k H => ∃ w7 ac7 acV7, w7.H = H ∧ j ≤ ds1.length ∧ k = ds1.length - j ∧ WOk G w7 ∧ Build w1 w7 Dd acV7 ∧ Emb w6 w7 ∧ lcGo F1 (ds1.drop j) ac7 w7.M = .ok acc' M' ∧ RepL G w7 ac7 acV7,
          ⟨ds1.length, w6, acc, accV, rfl, Nat.zero_le _, by simp, g6, b6, Emb.refl _, by rw [List.drop_zero, e6]; exact hG, RepL.ext x6 _ _ ra5⟩, ?_⟩
        rintro j k H ⟨w7, ac7, acV7, rfl, hj, rfl, g7, b7, em7, go7, ra7⟩
        obtain ⟨j1, j2, j3⟩ := hJ1 w7 em7 g7
        by_cases hl1 : j < ds1.length
        · right
          refine ⟨j1 j hl1, fun H' => ∃ k', k' < ds1.length - j ∧ ∃ w7 ac7 acV7, w7.H = H' ∧ j + 1 ≤ ds1.length ∧ k' = ds1.length - (j + 1) ∧ WOk G w7 ∧ Build w1 w7 Dd acV7 ∧ Emb w6 w7 ∧ lcGo F1 (ds1.drop (j + 1)) ac7 w7.M = .ok acc' M' ∧ RepL G w7 ac7 acV7, fun H' h => h, fun x H' y => ?_⟩
          obtain ⟨w8, d8, rfl, _, m8, _, x8, g8, hd8, rd8⟩ := j3 j x H' hl1 y
          have b8 := b7.ext x8
          have hdrop8 : ds1.drop j = d8 :: ds1.drop (j + 1) := by
            obtain ⟨h', e'⟩ := List.getElem?_eq_some_iff.mp hd8
            rw [List.drop_eq_getElem_cons h', e']
          rw [hdrop8] at go7
          simp only [lcGo] at go7
          rw [← m8] at go7
          obtain ⟨o, N', hG1, hrest1⟩ : ∃ o N', F1 d8 w8.M = .ok o N' ∧ (match o with
              | some z => ac7.length < sizeLine ∧ lcGo F1 (ds1.drop (j + 1)) (ac7 ++ [z]) N' = .ok acc' M'
              | none => lcGo F1 (ds1.drop (j + 1)) ac7 N' = .ok acc' M') := by
            split at go7
            · rename_i z N' hz
              split at go7
              · rename_i hl
                exact ⟨some z, N', hz, hl, go7⟩
              · cases go7
            · rename_i N' hz
              exact ⟨none, N', hz, go7⟩
            · cases go7
          rw [← hF1] at hG1
          obtain ⟨σ4, N3, hT1, hG2⟩ := Res.bind_ok_iff hG1
          obtain ⟨bb1, N4, hC1, hG3⟩ := Res.bind_ok_iff hG2
          have em8 : Emb w6 w8 := em7.trans x8.emb
          refine ⟨w8, wipeD σ3 vs1, d8, rfl, g8, ((RepS.wipe rs6 vs1).emb em8), rd8, ?_⟩
          rw [hT1]
          intro w9 x9 g9 e9 σw rs9 off9
          refine ⟨wipe_off off9 fun j hj => by simpa using List.all_eq_true.mp hs1 j hj, w9, σ4, rfl, g9, rs9, ?_⟩
          rw [e9, hC1]
          intro w10 x10 g10 e10
          have b10 := (b8.ext x9).ext x10
          have em10 : Emb w6 w10 := (em8.trans x9.emb).trans x10.emb
          have ra10 : RepL G w10 ac7 acV7 := RepL.ext ((x8.trans x9).trans x10) _ _ ra7
          cases bb1 with
          | true =>
            rw [if_pos rfl] at hG3
            refine iteT ?_
            obtain ⟨z, N5, hE, hG4⟩ := Res.bind_ok_iff hG3
            cases hG4
            refine ⟨w10, σ4, rfl, g10, rs9.ext x10, ?_⟩
            rw [e10, hE]
            intro w11 x11 g11 e11 v rv
            have b11 := b10.ext x11
            have ra11 : RepL G w11 (ac7 ++ [z]) (acV7 ++ [v]) := (RepL.ext x11 _ _ ra10).append (.cons rv .nil)
            refine ⟨acV7, b11.at_, by rw [← ra7.length]; exact hrest1.1, ds1.length - (j + 1), by omega, w11.grow Dd (.lst (acV7 ++ [v])), ac7 ++ [z], acV7 ++ [v], rfl, hl1, rfl, wok_grow g11 b11.hide b11.nl, b11.grow hD, (em10.trans x11.emb).trans (emb_grow b11.hide), ?_, RepL.emb (emb_grow b11.hide) _ _ ra11⟩
            show lcGo F1 (ds1.drop (j + 1)) (ac7 ++ [z]) w11.M = _
            rw [e11]
            exact hrest1.2
          | false =>
            rw [if_neg Bool.false_ne_true] at hG3
            refine iteF ?_
            cases hG3
            exact ⟨ds1.length - (j + 1), by omega, w10, ac7, acV7, rfl, hl1, rfl, g10, b10, em10, by rw [e10]; exact hrest1, ra10⟩
        · left
          have hj' : j = ds1.length := by omega
          subst hj'
          rw [List.drop_length] at go7
          simp only [lcGo] at go7
          cases go7
          exact ⟨j2, ds.length - (i + 1), by omega, w7, acc', acV7, rfl, hl, rfl, g7, b7, hrest, ra7⟩
    · left
      have hi' : i = ds.length := by omega
      subst hi'
      refine ⟨j2, ?_⟩
      rw [List.drop_length] at go
      simp only [lc2Go] at go
      cases go
      refine h1 (w2.bare w1.hd) b2.done (wok_bare g2 b2.sub) rfl (.ref Dd) ?_
      simp only [Rep]
      refine ⟨Dd, accV, rfl, ⟨b2.at_, b2.nl, fun z => g1.hid Dd z hD⟩, RepL.emb (emb_bare b2.sub) _ _ ra⟩
theorem s_lc2 (c : Ctx G Γ k X W) {e : Ex} {t t1 : Tg} {it it1 : It} {cc cc1 : Option Ex} {vs vs1 : List Nat} {elt tg iter tg1 iter1 : Expr} {ifs ifs1 : List Expr} {scope : Scope} {pos : Pos}
    (hb : blkC Γ.N Γ.sc scope (ownOf Γ.N vs) = true) (ho : (ownOf Γ.N vs).map (·.2) = vs) (hs : (tgS t).all vs.contains = true) (hs1 : (tgS t1).all vs1.contains = true) (hv : vs1.all vs.contains = true) (hit : ∀ x, foldedSetIterable iter X.env x = pure x) (hit1 : ∀ env x, foldedSetIterable iter1 env x = pure x)
    (hi : PI X tg iter (tI G Φ W it))
    (hg : ∀ (s : Shared) (H : Hp) (C : Addr) (cl : List (Str × Addr)) (fp : List Addr), PG (X.blk s H scope (compEnvC scope cl C X.env) fp) tg (tTg G Φ (fun _ _ _ _ => False) t))
    (hc : ∀ (s : Shared) (H : Hp) (C : Addr) (cl : List (Str × Addr)) (fp : List Addr), PTs (X.blk s H scope (compEnvC scope cl C X.env) fp) ifs (tC' G Φ (fun _ _ _ _ => False) cc))
    (hi1 : ∀ (s : Shared) (H : Hp) (C : Addr) (cl : List (Str × Addr)) (fp : List Addr), PI (X.blk s H scope (compEnvC scope cl C X.env) fp) tg1 iter1 (tI G Φ (fun _ _ _ _ => False) it1))
    (hg1 : ∀ (s : Shared) (H : Hp) (C : Addr) (cl : List (Str × Addr)) (fp : List Addr), PG (X.blk s H scope (compEnvC scope cl C X.env) fp) tg1 (tTg G Φ (fun _ _ _ _ => False) t1))
    (hc1 : ∀ (s : Shared) (H : Hp) (C : Addr) (cl : List (Str × Addr)) (fp : List Addr), PTs (X.blk s H scope (compEnvC scope cl C X.env) fp) ifs1 (tC' G Φ (fun _ _ _ _ => False) cc1))
    (he : ∀ (s : Shared) (H : Hp) (C : Addr) (cl : List (Str × Addr)) (fp : List Addr), PE (X.blk s H scope (compEnvC scope cl C X.env) fp) elt (tE G Φ (fun _ _ _ _ => False) e)) :
    PE X (.ListComp elt [⟨tg, iter, ifs, 0⟩, ⟨tg1, iter1, ifs1, 0⟩] scope pos) (tE G Φ W (.lc2 e t it cc t1 it1 cc1 vs vs1)) := by
  have ok : BlkOk X.N X.env.scope scope (ownOf Γ.N vs) := by rw [c.N, c.sc]; exact blkOk_by hb
  refine PE.imp (pe_lc2 (vs1 := vs1) c.calm (by rw [c.N]; exact c.nd) hi ok (fun i hi => by rw [ho]; simpa using List.all_eq_true.mp hv i hi) hg hc hi1 hg1 hc1 he hit hit1) ?_
  intro σ H Q h
  rw [ho]
  exact lc2_read hs hs1 σ H Q h
theorem s_setLc2 (c : Ctx G Γ k X W) {i : Nat} {y : Str} {py spos : Pos} {e : Ex} {t t1 : Tg} {it it1 : It} {cc cc1 : Option Ex} {vs vs1 : List Nat} {elt tg iter tg1 iter1 : Expr} {ifs ifs1 : List Expr} {scope : Scope} {pos : Pos}
    (hy : Γ.N[i]? = some y) (hyl : Γ.sc.names.lookup y = some .local) (hsw : swapsWith (.ListComp elt [⟨tg, iter, ifs, 0⟩, ⟨tg1, iter1, ifs1, 0⟩] scope pos) (some (.Name y py)) spos.line X.env = pure true)
    (hb : blkC Γ.N Γ.sc scope (ownOf Γ.N vs) = true) (ho : (ownOf Γ.N vs).map (·.2) = vs) (hs : (tgS t).all vs.contains = true) (hs1 : (tgS t1).all vs1.contains = true) (hv : vs1.all vs.contains = true) (hit : ∀ x, foldedSetIterable iter X.env x = pure x) (hit1 : ∀ env x, foldedSetIterable iter1 env x = pure x)
    (hi : PI X tg iter (tI G Φ W it))
    (hg : ∀ (s : Shared) (H : Hp) (C : Addr) (cl : List (Str × Addr)) (fp : List Addr), PG (X.blk s H scope (compEnvC scope cl C X.env) fp) tg (tTg G Φ (fun _ _ _ _ => False) t))
    (hc : ∀ (s : Shared) (H : Hp) (C : Addr) (cl : List (Str × Addr)) (fp : List Addr), PTs (X.blk s H scope (compEnvC scope cl C X.env) fp) ifs (tC' G Φ (fun _ _ _ _ => False) cc))
    (hi1 : ∀ (s : Shared) (H : Hp) (C : Addr) (cl : List (Str × Addr)) (fp : List Addr), PI (X.blk s H scope (compEnvC scope cl C X.env) fp) tg1 iter1 (tI G Φ (fun _ _ _ _ => False) it1))
    (hg1 : ∀ (s : Shared) (H : Hp) (C : Addr) (cl : List (Str × Addr)) (fp : List Addr), PG (X.blk s H scope (compEnvC scope cl C X.env) fp) tg1 (tTg G Φ (fun _ _ _ _ => False) t1))
    (hc1 : ∀ (s : Shared) (H : Hp) (C : Addr) (cl : List (Str × Addr)) (fp : List Addr), PTs (X.blk s H scope (compEnvC scope cl C X.env) fp) ifs1 (tC' G Φ (fun _ _ _ _ => False) cc1))
    (he : ∀ (s : Shared) (H : Hp) (C : Addr) (cl : List (Str × Addr)) (fp : List Addr), PE (X.blk s H scope (compEnvC scope cl C X.env) fp) elt (tE G Φ (fun _ _ _ _ => False) e)) :
    PS X (.Assign [.Name y py] (.ListComp elt [⟨tg, iter, ifs, 0⟩, ⟨tg1, iter1, ifs1, 0⟩] scope pos) spos) (tAsg (tE G Φ W (.lc2 e t it cc t1 it1 cc1 vs vs1)) (gName i)) := by
  have ok : BlkOk X.N X.env.scope scope (ownOf Γ.N vs) := by rw [c.N, c.sc]; exact blkOk_by hb
  refine PS.imp (ps_setLc2 (i := i) (vs1 := vs1) c.calm (by rw [c.N]; exact c.nd) (by rw [c.N]; exact hy) (by rw [c.sc]; exact hyl) hsw hi ok (fun i hi => by rw [ho]; simpa using List.all_eq_true.mp hv i hi) hg hc hi1 hg1 hc1 he hit hit1) ?_
  intro D σ H h
  rw [ho]
  exact lc2_read (G := G) (Φ := Φ) (W := W) (e := e) (t := t) (it := it) (cc := cc) (vs := vs) hs hs1 σ H _ h
theorem s_lc (c : Ctx G Γ k X W) {e : Ex} {t : Tg} {it : It} {cc : Option Ex} {vs : List Nat} {elt tg iter : Expr} {ifs : List Expr} {scope : Scope} {pos : Pos}
    (hb : blkC Γ.N Γ.sc scope (ownOf Γ.N vs) = true) (ho : (ownOf Γ.N vs).map (·.2) = vs) (hs : (tgS t).all vs.contains = true) (hit : ∀ x, foldedSetIterable iter X.env x = pure x)
    (hi : PI X tg iter (tI G Φ W it))
    (hg : ∀ (s : Shared) (H : Hp) (C : Addr) (cl : List (Str × Addr)) (fp : List Addr), PG (X.blk s H scope (compEnvC scope cl C X.env) fp) tg (tTg G Φ (fun _ _ _ _ => False) t))
    (hc : ∀ (s : Shared) (H : Hp) (C : Addr) (cl : List (Str × Addr)) (fp : List Addr), PTs (X.blk s H scope (compEnvC scope cl C X.env) fp) ifs (tC' G Φ (fun _ _ _ _ => False) cc))
    (he : ∀ (s : Shared) (H : Hp) (C : Addr) (cl : List (Str × Addr)) (fp : List Addr), PE (X.blk s H scope (compEnvC scope cl C X.env) fp) elt (tE G Φ (fun _ _ _ _ => False) e)) :
    PE X (.ListComp elt [⟨tg, iter, ifs, 0⟩] scope pos) (tE G Φ W (.lc e t it cc vs)) := by
  have ok : BlkOk X.N X.env.scope scope (ownOf Γ.N vs) := by rw [c.N, c.sc]; exact blkOk_by hb
  refine PE.imp (pe_lc c.calm (by rw [c.N]; exact c.nd) hi ok hg hc he hit) ?_
  rw [ho]
  exact lc_read hs
/-- name = [..] where the name takes the list at once -/
theorem s_setLc (c : Ctx G Γ k X W) {i : Nat} {y : Str} {py spos : Pos} {e : Ex} {t : Tg} {it : It} {cc : Option Ex} {vs : List Nat} {elt tg iter : Expr} {ifs : List Expr} {scope : Scope} {pos : Pos} (hy : Γ.N[i]? = some y) (hyl : Γ.sc.names.lookup y = some .local)
    (hsw : swapsWith (.ListComp elt [⟨tg, iter, ifs, 0⟩] scope pos) (some (.Name y py)) spos.line X.env = pure true)
    (hb : blkC Γ.N Γ.sc scope (ownOf Γ.N vs) = true) (ho : (ownOf Γ.N vs).map (·.2) = vs) (hs : (tgS t).all vs.contains = true) (hit : ∀ x, foldedSetIterable iter X.env x = pure x)
    (hi : PI X tg iter (tI G Φ W it))
    (hg : ∀ (s : Shared) (H : Hp) (C : Addr) (cl : List (Str × Addr)) (fp : List Addr), PG (X.blk s H scope (compEnvC scope cl C X.env) fp) tg (tTg G Φ (fun _ _ _ _ => False) t))
    (hc : ∀ (s : Shared) (H : Hp) (C : Addr) (cl : List (Str × Addr)) (fp : List Addr), PTs (X.blk s H scope (compEnvC scope cl C X.env) fp) ifs (tC' G Φ (fun _ _ _ _ => False) cc))
    (he : ∀ (s : Shared) (H : Hp) (C : Addr) (cl : List (Str × Addr)) (fp : List Addr), PE (X.blk s H scope (compEnvC scope cl C X.env) fp) elt (tE G Φ (fun _ _ _ _ => False) e)) :
    PS X (.Assign [.Name y py] (.ListComp elt [⟨tg, iter, ifs, 0⟩] scope pos) spos) (tAsg (tE G Φ W (.lc e t it cc vs)) (gName i)) := by
  have ok : BlkOk X.N X.env.scope scope (ownOf Γ.N vs) := by rw [c.N, c.sc]; exact blkOk_by hb
  refine PS.imp (ps_setLc (i := i) c.calm (by rw [c.N]; exact c.nd) (by rw [c.N]; exact hy) (by rw [c.sc]; exact hyl) hsw hi ok hg hc he hit) ?_
  intro D σ H h
  have r := lc_read (G := G) (Φ := Φ) (W := W) (e := e) (t := t) (it := it) (cc := cc) (vs := vs) hs σ H _ h
  rw [ho]
  exact r
end
end Ev
/-! EvD: dicts: comprehensions, what stands at a key. -/
namespace Ev
open PySem L2
section
variable {G : Gb} {w : Wd}
theorem RepK.any {kvs : List (Key × D)} {vs : List (Key × V)} (h : RepK G w kvs vs) (k : Key) : (kvs.any fun kv => decide (kv.1 = k)) = vs.any fun kv => decide (kv.1 = k) := by
  induction kvs generalizing vs with
  | nil => simp only [RepK] at h; subst h; rfl
  | cons d kvs ih =>
    simp only [RepK] at h
    obtain ⟨v, r, rfl, _, h2⟩ := h
    simp only [List.any_cons, ih h2]
theorem RepK.val {kvs : List (Key × D)} {vs : List (Key × V)} (h : RepK G w kvs vs) (k : Key) : (∀ d, valD kvs k = some d → ∃ v, valV vs k = some v ∧ Rep G w d v) ∧ (valD kvs k = none → valV vs k = none) := by
  induction kvs generalizing vs with
  | nil =>
    simp only [RepK] at h; subst h
    exact ⟨fun d e => by simp [valD] at e, fun _ => rfl⟩
  | cons d kvs ih =>
    simp only [RepK] at h
    obtain ⟨v, r, rfl, h1, h2⟩ := h
    by_cases e : d.1 = k
    · have e1 : valD (d :: kvs) k = some d.2 := by simp [valD, List.find?_cons, e]
      have e2 : valV ((d.1, v) :: r) k = some v := valV_pos e
      rw [e1, e2]
      exact ⟨fun x hx => by cases hx; exact ⟨v, rfl, h1⟩, fun z => by cases z⟩
    · have e1 : valD (d :: kvs) k = valD kvs k := by simp [valD, List.find?_cons, e]
      have e2 : valV ((d.1, v) :: r) k = valV r k := valV_neg e
      rw [e1, e2]
      exact ih h2
theorem RepK.len : ∀ {kvs : List (Key × D)} {vs : List (Key × V)}, RepK G w kvs vs → kvs.length = vs.length
  | [], _, h => by simp only [RepK] at h; subst h; rfl
  | d :: fs, _, h => by
    simp only [RepK] at h
    obtain ⟨v, r, rfl, _, h2⟩ := h
    simp [RepK.len h2]
theorem RepK.app : ∀ {kvs es : List (Key × D)} {vs us : List (Key × V)}, RepK G w kvs vs → RepK G w es us → RepK G w (kvs ++ es) (vs ++ us)
  | [], _, _, _, h, t => by simp only [RepK] at h; subst h; exact t
  | d :: ds, _, _, _, h, t => by
    simp only [RepK] at h
    obtain ⟨v, r, rfl, h1, h2⟩ := h
    simp only [List.cons_append, RepK]
    exact ⟨v, _, rfl, h1, RepK.app h2 t⟩
theorem RepK.map (k : Key) {d : D} {v : V} (r : Rep G w d v) : ∀ {kvs : List (Key × D)} {vs : List (Key × V)}, RepK G w kvs vs → RepK G w (kvs.map fun kv => if kv.1 = k then (kv.1, d) else kv) (vs.map fun kv => if kv.1 = k then (kv.1, v) else kv)
  | [], _, h => by simp only [RepK] at h; subst h; simp only [List.map_nil, RepK]
  | x :: kvs, _, h => by
    simp only [RepK] at h
    obtain ⟨u, rs, rfl, h1, h2⟩ := h
    simp only [List.map_cons, RepK]
    by_cases e : x.1 = k
    · rw [if_pos e, if_pos e]
      exact ⟨v, _, rfl, r, RepK.map k r h2⟩
    · rw [if_neg e, if_neg e]
      exact ⟨u, _, rfl, h1, RepK.map k r h2⟩
theorem RepK.put {k : Key} {d : D} {v : V} (r : Rep G w d v) {kvs : List (Key × D)} {vs : List (Key × V)} (h : RepK G w kvs vs) : RepK G w (putKD kvs k d) (putK vs k v) := by
  unfold putKD putK
  rw [h.any k]
  split
  · exact RepK.map k r h
  · exact RepK.app h (by simp only [RepK]; exact ⟨v, [], rfl, r, rfl⟩)
theorem keyD_rep {d : D} {v : V} {k : Key} (h : keyD d = some k) (r : Rep G w d v) : v = kV k := by
  cases d with
  | int i => simp only [keyD, Option.some.injEq] at h; subst h; simp only [Rep] at r; exact r
  | str s => simp only [keyD, Option.some.injEq] at h; subst h; simp only [Rep] at r; exact r
  | _ => simp [keyD] at h
end
/-- from w1 on, with an object being built at Dd -/
structure BuildO (w1 w2 : Wd) (Dd : Addr) (o : HO) : Prop where
  emb : Emb w1 w2
  keep : ∀ a o, w1.H a = some o → ¬ Live w1 a → w2.H a = some o ∧ ¬ Live w2 a
  ex : ∀ a, w1.H a ≠ none → w2.H a ≠ none
  hd : w2.hd = fun a => a = Dd ∨ w1.hd a
  at_ : w2.H Dd = some o
  nl : ¬ Live w2 Dd
theorem BuildO.ext {w1 w2 w3 : Wd} {Dd : Addr} {o : HO} (b : BuildO w1 w2 Dd o) (x : Ext w2 w3) : BuildO w1 w3 Dd o where
  emb := b.emb.trans x.emb
  keep := fun a o h n => let q := b.keep a o h n; x.keep a o q.1 q.2
  ex := fun a h => x.ex a (b.ex a h)
  hd := x.hid.trans b.hd
  at_ := (x.keep Dd _ b.at_ b.nl).1
  nl := (x.keep Dd _ b.at_ b.nl).2
theorem BuildO.start {G : Gb} {w1 : Wd} {o : HO} (g : WOk G w1) {Dd : Addr} (hD : w1.H Dd = none) : BuildO w1 (w1.hide Dd o) Dd o where
  emb := emb_hide g hD
  keep := fun a _ h n => ⟨(upd_ne (ne_of_none h hD)).trans h, n⟩
  ex := fun a h => upd_ex a h
  hd := rfl
  at_ := upd_same
  nl := fun l => live_none g hD l
theorem BuildO.hide {w1 w2 : Wd} {Dd : Addr} {o : HO} (b : BuildO w1 w2 Dd o) : w2.hd Dd := by rw [b.hd]; exact .inl rfl
theorem BuildO.grow {w1 w2 : Wd} {Dd : Addr} {o o' : HO} (b : BuildO w1 w2 Dd o) (hD : w1.H Dd = none) : BuildO w1 (w2.grow Dd o') Dd o' where
  emb := b.emb.trans (emb_grow b.hide)
  keep := fun a o h n => let q := b.keep a o h n; ⟨(upd_ne (ne_of_none h hD)).trans q.1, q.2⟩
  ex := fun a h => upd_ex a (b.ex a h)
  hd := b.hd
  at_ := upd_same
  nl := b.nl
theorem BuildO.done {w1 w2 : Wd} {Dd : Addr} {o : HO} (b : BuildO w1 w2 Dd o) : Ext w1 (w2.bare w1.hd) := ⟨b.emb.pre, b.keep, rfl, b.ex⟩
theorem BuildO.sub {w1 w2 : Wd} {Dd : Addr} {o : HO} (b : BuildO w1 w2 Dd o) : ∀ a, w1.hd a → w2.hd a := fun a h => by rw [b.hd]; exact .inr h
theorem dcGo_nx (f : D → Mem → Res (Option (Key × D))) : ∀ (xs : List D) (acc : List (Key × D)) (M : Mem) (c : Nat) (fs : List (Str × D)) (M' : Mem), dcGo f xs acc M ≠ .ex c fs M'
  | [], acc, M, c, fs, M', h => by simp only [dcGo] at h; cases h
  | x :: xs, acc, M, c, fs, M', h => by
    simp only [dcGo] at h
    split at h
    · split at h
      · exact dcGo_nx f xs _ _ c fs M' h
      · cases h
    · exact dcGo_nx f xs _ _ c fs M' h
    · cases h
section
variable {G : Gb} {Φ : Nat → List D → Mem → Res D} {W : WX} {X : Cx} {k : Nat} {Γ : Cn}
theorem dc_read {a b : Ex} {t : Tg} {it : It} {cc : Option Ex} {vs : List Nat} (hs : (tgS t).all vs.contains = true) :
    ∀ σ H Q, tE G Φ W (.dc a b t it cc vs) σ H Q → tDc (tI G Φ W it) (tTg G Φ (fun _ _ _ _ => False) t) (tC' G Φ (fun _ _ _ _ => False) cc) (tE G Φ (fun _ _ _ _ => False) a) (tE G Φ (fun _ _ _ _ => False) b) vs σ H Q := by
  rintro σ H Q ⟨w, σd, rfl, g, rs, hp⟩
  simp only [evE] at hp
  refine ⟨w, σd, rfl, g, rs, (Post.bind hp).mono fun ds w1 x1 g1 h1 J hJ Dd hD => ?_⟩
  generalize hF : (fun x M2 => (evT Φ t x (wipeD σd vs) M2).bind fun σ3 M3 => (evC Φ cc σ3 M3).bind fun q M4 => if q = true then (evE Φ a σ3 M4).bind fun kd M5 => (evE Φ b σ3 M5).bind fun d M6 => match keyD kd with
      | some k => Res.ok (some (k, d)) M6
      | none => Res.no
    else Res.ok none M4) = F at h1
  cases q : dcGo F ds [] w1.M with
  | no => rw [q] at h1; exact absurd h1 fun z => z
  | ex _ _ _ => exact absurd q (dcGo_nx F ds [] w1.M _ _ _)
  | ok out M6 =>
    rw [q] at h1
    have rs1 : RepS G w1 σd σ := rs.ext x1
    refine ⟨fun i m H => ∃ w2 acc accV, w2.H = H ∧ i ≤ ds.length ∧ m = ds.length - i ∧ WOk G w2 ∧ BuildO w1 w2 Dd (.dK accV) ∧ dcGo F (ds.drop i) acc w2.M = .ok out M6 ∧ RepK G w2 acc accV,
      ⟨ds.length, w1.hide Dd (.dK []), [], [], rfl, Nat.zero_le _, by simp, wok_hide g1 hD, BuildO.start g1 hD, by rw [List.drop_zero]; exact q, by simp only [RepK]⟩, ?_⟩
    rintro i m H ⟨w2, acc, accV, rfl, hi, rfl, g2, b2, go, ra⟩
    obtain ⟨j1, j2, j3⟩ := hJ w2 b2.emb g2
    by_cases hl : i < ds.length
    · right
      refine ⟨j1 i hl, fun H' => ∃ m' , m' < ds.length - i ∧ ∃ w2 acc accV, w2.H = H' ∧ i + 1 ≤ ds.length ∧ m' = ds.length - (i + 1) ∧ WOk G w2 ∧ BuildO w1 w2 Dd (.dK accV) ∧ dcGo F (ds.drop (i + 1)) acc w2.M = .ok out M6 ∧ RepK G w2 acc accV, fun H' h => h, fun x H' y => ?_⟩
      obtain ⟨w3, d, rfl, _, m3, _, x3, g3, hd, rd⟩ := j3 i x H' hl y
      have b3 := b2.ext x3
      have hdrop : ds.drop i = d :: ds.drop (i + 1) := by
        obtain ⟨h', e'⟩ := List.getElem?_eq_some_iff.mp hd
        rw [List.drop_eq_getElem_cons h', e']
      rw [hdrop] at go
      simp only [dcGo] at go
      rw [← m3] at go
      -- what the turn does
      have turn : ∃ o M', F d w3.M = .ok o M' ∧ (match o with
          | some z => acc.length < sizeLine ∧ dcGo F (ds.drop (i + 1)) (putKD acc z.1 z.2) M' = .ok out M6
          | none => dcGo F (ds.drop (i + 1)) acc M' = .ok out M6) := by
        split at go
        · rename_i kk z M' hz
          split at go
          · rename_i hl
            exact ⟨some (kk, z), M', hz, hl, go⟩
          · cases go
        · rename_i M' hz
          exact ⟨none, M', hz, go⟩
        · cases go
      obtain ⟨o, M', hF1, hrest⟩ := turn
      rw [← hF] at hF1
      obtain ⟨σ3, M3, hT, hF2⟩ := Res.bind_ok_iff hF1
      obtain ⟨bb, M4, hC, hF3⟩ := Res.bind_ok_iff hF2
      refine ⟨w3, wipeD σd vs, d, rfl, g3, ((RepS.wipe rs1 vs).emb b3.emb), rd, ?_⟩
      rw [hT]
      intro w4 x4 g4 e4 σv rs4 off
      refine ⟨wipe_off off fun j hj => by simpa using List.all_eq_true.mp hs j hj, w4, σ3, rfl, g4, rs4, ?_⟩
      rw [e4, hC]
      intro w5 x5 g5 e5
      have b5 := (b3.ext x4).ext x5
      have x345 := (x3.trans x4).trans x5
      cases bb with
      | true =>
        rw [if_pos rfl] at hF3
        refine iteT ?_
        obtain ⟨kd, M7, hA, hF4⟩ := Res.bind_ok_iff hF3
        obtain ⟨z, M8, hB, hF5⟩ := Res.bind_ok_iff hF4
        split at hF5
        · rename_i kk hkk
          cases hF5
          refine ⟨w5, σ3, rfl, g5, rs4.ext x5, ?_⟩
          rw [e5, hA]
          intro w6 x6 g6 e6 yk ryk
          refine ⟨w6, σ3, rfl, g6, (rs4.ext x5).ext x6, ?_⟩
          rw [e6, hB]
          intro w7 x7 g7 e7 v rv
          have b7 := (b5.ext x6).ext x7
          have ra7 : RepK G w7 acc accV := RepK.emb (x345.trans (x6.trans x7)).emb _ _ ra
          refine ⟨accV, kk, keyD_rep hkk ryk, b7.at_, by rw [← ra.len]; exact hrest.1, ds.length - (i + 1), by omega, w7.grow Dd (.dK (putK accV kk v)), putKD acc kk z, putK accV kk v, rfl, hl, rfl, wok_grow g7 b7.hide b7.nl, b7.grow hD, ?_, RepK.emb (emb_grow b7.hide) _ _ (RepK.put rv ra7)⟩
          show dcGo F (ds.drop (i + 1)) (putKD acc kk z) w7.M = _
          rw [e7]
          exact hrest.2
        · cases hF5
      | false =>
        rw [if_neg Bool.false_ne_true] at hF3
        refine iteF ?_
        cases hF3
        exact ⟨ds.length - (i + 1), by omega, w5, acc, accV, rfl, hl, rfl, g5, b5, by rw [e5]; exact hrest, RepK.emb x345.emb _ _ ra⟩
    · left
      have hi' : i = ds.length := by omega
      subst hi'
      refine ⟨j2, ?_⟩
      rw [List.drop_length] at go
      simp only [dcGo] at go
      cases go
      refine h1 (w2.bare w1.hd) b2.done (wok_bare g2 b2.sub) rfl (.ref Dd) ?_
      simp only [Rep]
      refine ⟨Dd, accV, rfl, ⟨b2.at_, b2.nl, fun z => g1.hid Dd z hD⟩, RepK.emb (emb_bare b2.sub) _ _ ra⟩
theorem s_dc (c : Ctx G Γ k X W) {a b : Ex} {t : Tg} {it : It} {cc : Option Ex} {vs : List Nat} {kx vx tg iter : Expr} {ifs : List Expr} {scope : Scope} {pos : Pos}
    (hb : blkC Γ.N Γ.sc scope (ownOf Γ.N vs) = true) (ho : (ownOf Γ.N vs).map (·.2) = vs) (hs : (tgS t).all vs.contains = true) (hit : ∀ x, foldedSetIterable iter X.env x = pure x)
    (hi : PI X tg iter (tI G Φ W it))
    (hg : ∀ (s : Shared) (H : Hp) (C : Addr) (cl : List (Str × Addr)) (fp : List Addr), PG (X.blk s H scope (compEnvC scope cl C X.env) fp) tg (tTg G Φ (fun _ _ _ _ => False) t))
    (hc : ∀ (s : Shared) (H : Hp) (C : Addr) (cl : List (Str × Addr)) (fp : List Addr), PTs (X.blk s H scope (compEnvC scope cl C X.env) fp) ifs (tC' G Φ (fun _ _ _ _ => False) cc))
    (hk : ∀ (s : Shared) (H : Hp) (C : Addr) (cl : List (Str × Addr)) (fp : List Addr), PE (X.blk s H scope (compEnvC scope cl C X.env) fp) kx (tE G Φ (fun _ _ _ _ => False) a))
    (he : ∀ (s : Shared) (H : Hp) (C : Addr) (cl : List (Str × Addr)) (fp : List Addr), PE (X.blk s H scope (compEnvC scope cl C X.env) fp) vx (tE G Φ (fun _ _ _ _ => False) b)) :
    PE X (.DictComp kx vx [⟨tg, iter, ifs, 0⟩] scope pos) (tE G Φ W (.dc a b t it cc vs)) := by
  have ok : BlkOk X.N X.env.scope scope (ownOf Γ.N vs) := by rw [c.N, c.sc]; exact blkOk_by hb
  refine PE.imp (pe_dc c.calm (by rw [c.N]; exact c.nd) hi ok hg hc hk he hit) ?_
  rw [ho]
  exact dc_read hs
theorem s_dix (c : Ctx G Γ k X W) {o e : Ex} {x y : Expr} {pos : Pos} (ho : PE X x (tE G Φ W o)) (he : PE X y (tE G Φ W e)) (hy : plainX y = true) : PE X (.Subscript x y pos) (tE G Φ W (.dix o e)) := by
  have hu : X.A.units + 1 < cLine := by have := c.room.un; omega
  refine PE.imp (pe_dget hu ho he (by cases y <;> first | (exact fun _ _ => rfl) | (simp [plainX] at hy))) ?_
  rintro σ H Q ⟨w, σd, rfl, g, rs, hp⟩
  simp only [evE] at hp
  refine ⟨w, σd, rfl, g, rs, (Post.bind hp).mono fun d w1 x1 g1 h1 v1 r1 => ?_⟩
  refine ⟨w1, σd, rfl, g1, rs.ext x1, (Post.bind h1).mono fun kd w2 x2 g2 h2 v2 r2 => ?_⟩
  split at h2
  · rename_i kvs kk hk
    obtain ⟨z, hz, h3⟩ := Post.of h2
    have r1' := Rep.ext x2 _ _ r1
    simp only [Rep] at r1'
    obtain ⟨a, us, rfl, q1, q2⟩ := r1'
    obtain ⟨v, hv, rv⟩ := (q2.val kk).1 z hz
    refine ⟨a, v, rfl, ?_, h3 w2 (Ext.refl _) g2 rfl v rv⟩
    rw [keyD_rep hk r2, ← hv]
    exact DGet.k q1.1
  · exact absurd h2 fun z => z
theorem s_dgt (c : Ctx G Γ k X W) {o e : Ex} {y a : Expr} {apos cpos : Pos} (hb : attrOk y = true) (hm : mE e Γ a = true) (hline : (apos.endLine == cpos.line) = true) (ho : PE X y (tE G Φ W o)) (he : PE X a (tE G Φ W e)) : PE X (.Call (.Attribute y "get" apos) [a] [] cpos) (tE G Φ W (.dgt o e)) := by
  have hu : X.A.units + 1 < cLine := by have := c.room.un; omega
  have hL : mL [e] Γ [a] = true := by simp [mL, hm]
  have hst := star_of (mE_plain hm) [] X.env
  refine PE.imp (pe_dget1 hu ho he ⟨attr_base hb _ _, ?_, hline, ?_⟩) ?_
  · rw [mL_all hL cpos X.env]
    rfl
  · rw [hst]
    rfl
  · rintro σ H Q ⟨w, σd, rfl, g, rs, hp⟩
    simp only [evE] at hp
    refine ⟨w, σd, rfl, g, rs, (Post.bind hp).mono fun d w1 x1 g1 h1 v1 r1 => ?_⟩
    split at h1
    · rename_i kvs
      have r0 := r1
      simp only [Rep] at r0
      obtain ⟨a0, us0, rfl, q0, _⟩ := r0
      refine ⟨a0, rfl, .inl ⟨us0, .inl q0.1⟩, w1, σd, rfl, g1, rs.ext x1, (Post.bind h1).mono fun kd w2 x2 g2 h2 v2 r2 => ?_⟩
      split at h2
      · rename_i kk hk
        have r1' := Rep.ext x2 _ _ r1
        simp only [Rep] at r1'
        obtain ⟨a, us, e1, q1, q2⟩ := r1'
        cases e1
        refine ⟨valV us kk, by rw [keyD_rep hk r2]; exact DGet.k q1.1, ?_⟩
        cases hv : valD kvs kk with
        | some z =>
          obtain ⟨v, e2, rv⟩ := (q2.val kk).1 z hv
          rw [hv] at h2
          rw [e2]
          exact post_ok g2 h2 v rv
        | none =>
          rw [(q2.val kk).2 hv]
          rw [hv] at h2
          exact post_ok g2 h2 .non rep_non
      · exact absurd h2 fun z => z
    · exact absurd h1 fun z => z
/-- a name gets a dict comprehension's dict, on one line -/
theorem sets_dc {dl : Nat} {y : Str} {yp p0 sp : Pos} {kx vx tg iter : Expr} {ifs : List Expr} {sc0 : Scope} {own : List (Str × Nat)} {wi : TI} {g : TG} {tt : TT} {tk tv : TE}
    (hc : X.calm = true) (hN : X.N.Nodup) (hy : X.N[dl]? = some y) (loc : X.env.scope.names.lookup y = some .local) (sw : swapsWith (.DictComp kx vx [⟨tg, iter, ifs, 0⟩] sc0 p0) (some (.Name y yp)) sp.line X.env = pure true)
    (hi : PI X tg iter wi) (ok : BlkOk X.N X.env.scope sc0 own) (hg : ∀ (s0 : Shared) (H0 : Hp) (C0 : Addr) (l0 : List (Str × Addr)) (q0 : List Addr), PG (X.blk s0 H0 sc0 (compEnvC sc0 l0 C0 X.env) q0) tg g)
    (ht : ∀ (s0 : Shared) (H0 : Hp) (C0 : Addr) (l0 : List (Str × Addr)) (q0 : List Addr), PTs (X.blk s0 H0 sc0 (compEnvC sc0 l0 C0 X.env) q0) ifs tt)
    (hk : ∀ (s0 : Shared) (H0 : Hp) (C0 : Addr) (l0 : List (Str × Addr)) (q0 : List Addr), PE (X.blk s0 H0 sc0 (compEnvC sc0 l0 C0 X.env) q0) kx tk)
    (hv : ∀ (s0 : Shared) (H0 : Hp) (C0 : Addr) (l0 : List (Str × Addr)) (q0 : List Addr), PE (X.blk s0 H0 sc0 (compEnvC sc0 l0 C0 X.env) q0) vx tv) (hs : ∀ z, foldedSetIterable iter X.env z = pure z) :
    PS X (.Assign [.Name y yp] (.DictComp kx vx [⟨tg, iter, ifs, 0⟩] sc0 p0) sp) (tAsg (tDc wi g tt tk tv (own.map (·.2))) (gName dl)) := by
  refine ⟨fun pins s0 σ0 H0 D0 I0 hw => ?_⟩
  rw [exec_Assign_Name_used _ _ _ _ sw]
  refine wpAny_bind (wpAny_standAt (wpAny_bind ?_))
  show wpAny _ X.A (do let _ ← comprehension (.DictComp kx vx [⟨tg, iter, ifs, 0⟩] sc0 p0) sc0 X.env (firstIterPos [⟨tg, iter, ifs, 0⟩] p0) newDict false (eval iter X.env) (some (assign (.Name y yp) X.env))) _ _ s0
  have hw' : tDc wi g tt tk tv (own.map (·.2)) σ0 H0 (fun z Hz => gName dl z σ0 Hz D0.nx) := hw
  refine wpAny_bind (thn (dc_core (Qf := fun _ sz => SP X pins D0 .next sz) hc hN I0 hi ok hg ht hk hv hs hw' fun L0 C0 s1 m1 H1 J1 qq ns fo => ?_) fun _ sz hz => wpAny_pure (wpAny_pure hz))
  show wpAny _ _ (assign (.Name y yp) X.env (.ref L0)) _ _ _
  refine wpAny_assign_Name (store_ok2 (v := V.ref L0) J1 hN hy (.inl loc) rfl (fun s2 J2 ⟨at0, sb, ha⟩ => ?_) (.inr loc))
  obtain ⟨e0, e1, e2, e3, e4, e5⟩ := fo
  have apart : C0 ≠ at0 := by
    rcases ha with z | z
    · rw [z]
      exact e1
    · exact fun eq => e4 y at0 z eq.symm
  exact ⟨m1, ns.sameBut sb apart, fun h3 sb3 => ⟨_, H1, J2.turned (t' := s2.toks) (fun b0 o0 hb0 eq => (sb3.2 b0 hb0).trans eq) e0 e1 e3 e4 e5, qq⟩⟩
theorem s_setDc (c : Ctx G Γ k X W) {i : Nat} {y : Str} {py spos : Pos} {a b : Ex} {t : Tg} {it : It} {cc : Option Ex} {vs : List Nat} {kx vx tg iter : Expr} {ifs : List Expr} {scope : Scope} {pos : Pos} (hy : Γ.N[i]? = some y) (hyl : Γ.sc.names.lookup y = some .local)
    (hsw : swapsWith (.DictComp kx vx [⟨tg, iter, ifs, 0⟩] scope pos) (some (.Name y py)) spos.line X.env = pure true)
    (hb : blkC Γ.N Γ.sc scope (ownOf Γ.N vs) = true) (ho : (ownOf Γ.N vs).map (·.2) = vs) (hs : (tgS t).all vs.contains = true) (hit : ∀ x, foldedSetIterable iter X.env x = pure x)
    (hi : PI X tg iter (tI G Φ W it))
    (hg : ∀ (s : Shared) (H : Hp) (C : Addr) (cl : List (Str × Addr)) (fp : List Addr), PG (X.blk s H scope (compEnvC scope cl C X.env) fp) tg (tTg G Φ (fun _ _ _ _ => False) t))
    (hc : ∀ (s : Shared) (H : Hp) (C : Addr) (cl : List (Str × Addr)) (fp : List Addr), PTs (X.blk s H scope (compEnvC scope cl C X.env) fp) ifs (tC' G Φ (fun _ _ _ _ => False) cc))
    (hk : ∀ (s : Shared) (H : Hp) (C : Addr) (cl : List (Str × Addr)) (fp : List Addr), PE (X.blk s H scope (compEnvC scope cl C X.env) fp) kx (tE G Φ (fun _ _ _ _ => False) a))
    (he : ∀ (s : Shared) (H : Hp) (C : Addr) (cl : List (Str × Addr)) (fp : List Addr), PE (X.blk s H scope (compEnvC scope cl C X.env) fp) vx (tE G Φ (fun _ _ _ _ => False) b)) :
    PS X (.Assign [.Name y py] (.DictComp kx vx [⟨tg, iter, ifs, 0⟩] scope pos) spos) (tAsg (tE G Φ W (.dc a b t it cc vs)) (gName i)) := by
  have ok : BlkOk X.N X.env.scope scope (ownOf Γ.N vs) := by rw [c.N, c.sc]; exact blkOk_by hb
  refine PS.imp (sets_dc (dl := i) c.calm (by rw [c.N]; exact c.nd) (by rw [c.N]; exact hy) (by rw [c.sc]; exact hyl) hsw hi ok hg hc hk he hit) ?_
  intro D σ H h
  have r := dc_read (G := G) (Φ := Φ) (W := W) (a := a) (b := b) (t := t) (it := it) (cc := cc) (vs := vs) hs σ H _ h
  rw [ho]
  exact r
theorem sw_trueD {kx vx : Expr} {gs : List Comprehension} {scope : Scope} {pos py : Pos} {y : Str} {l : Nat} {env : Env} (hk : env.scope.kind = .function) (hy : env.scope.names.lookup y = some .local) (hl : (py.line == pos.line) = true)
    (ha : (scope.names.any fun (n, k) => n == y && (k == .local || k == .cell)) = false) : swapsWith (.DictComp kx vx gs scope pos) (some (.Name y py)) l env = pure true := by
  have ky : env.kindOf y = some .local := hy
  have hb : env.blockKind = .function := by
    unfold Env.blockKind
    rw [hk]
    rfl
  unfold swapsWith
  simp only [hb, ky, ha, Expr.pos, hl]
  rfl
/-! list(range(..)) -/
theorem rg_rep {w : Wd} {i j : Int} {ds : List D} (h : rngD i j = some ds) : (-(2 ^ 62) ≤ i ∧ i < 2 ^ 62 ∧ -(2 ^ 62) ≤ j ∧ j < 2 ^ 62) ∧ ds.length = (j - i).toNat ∧ RepL G w ds (rgV i j) := by
  unfold rngD at h
  split at h
  · rename_i hb
    cases h
    refine ⟨hb, by simp, ?_⟩
    unfold rgV
    generalize (j - i).toNat = n
    have : ∀ l : List Nat, RepL G w (l.map fun k : Nat => D.int (i + (k : Int))) (l.map fun k : Nat => V.int (i + (k : Int))) := fun l => by
      induction l with
      | nil => exact RepL.nil
      | cons x l ih => exact RepL.cons rep_int ih
    exact this _
  · cases h
theorem s_lrg2 (c : Ctx G Γ k X W) {a b : Ex} {u y : Expr} {p p2 pos2 pos : Pos} (g1 : glB Γ.sc "list" = true) (b1 : Γ.bs.contains "list" = true) (g2 : glB Γ.sc "range" = true) (b2 : Γ.bs.contains "range" = true) (h1 : mE a Γ u = true) (h2 : mE b Γ y = true)
    (ha : PE X u (tE G Φ W a)) (hb : PE X y (tE G Φ W b)) : PE X (.Call (.Name "list" p) [.Call (.Name "range" p2) [u, y] [] pos2] [] pos) (tE G Φ W (.lrg2 a b)) := by
  refine PE.imp (pe_listRg c.calm (gl_of c g1) (mg_none c b1) (prg_2 (gl_of c g2) (mg_none c b2) ha hb (na := star_of (mE_plain h1) [y] _) (nb := star_of (mE_plain h2) [] _) (hp := mL_star (es := [b]) (Γ := Γ) (by simp [mL, h2]) pos2 X.env)) (star_of rfl [] _)) ?_
  rintro σ H Q ⟨w, σd, rfl, g, rs, hp⟩
  simp only [evE] at hp
  refine ⟨w, σd, rfl, g, rs, (Post.bind hp).mono fun d w1 x1 gg1 hh1 v1 r1 => ?_⟩
  refine ⟨w1, σd, rfl, gg1, rs.ext x1, (Post.bind hh1).mono fun e w2 x2 gg2 hh2 v2 r2 => ?_⟩
  split at hh2
  · rename_i i j
    split at hh2
    · rename_i ds hd
      split at hh2
      · rename_i hl
        simp only [Rep] at r1 r2
        obtain ⟨⟨q1, q2, q3, q4⟩, q5, q6⟩ := rg_rep (G := G) (w := w2) hd
        refine ⟨i, j, r1, r2, ⟨q1, q2, q3, q4, by rw [← q5]; rw [sizeLine_eq] at hl; omega⟩, fun q hq => ?_⟩
        exact hh2 _ (ext_new gg2 hq) (wok_new gg2 hq) rfl _ (rep_lst gg2 hq q6)
      · exact absurd hh2 fun z => z
    · exact absurd hh2 fun z => z
  · exact absurd hh2 fun z => z
theorem s_lrg1 (c : Ctx G Γ k X W) {b : Ex} {y : Expr} {p p2 pos2 pos : Pos} (g1 : glB Γ.sc "list" = true) (b1 : Γ.bs.contains "list" = true) (g2 : glB Γ.sc "range" = true) (b2 : Γ.bs.contains "range" = true) (h2 : mE b Γ y = true)
    (hb : PE X y (tE G Φ W b)) : PE X (.Call (.Name "list" p) [.Call (.Name "range" p2) [y] [] pos2] [] pos) (tE G Φ W (.lrg1 b)) := by
  refine PE.imp (pe_listRg c.calm (gl_of c g1) (mg_none c b1) (prg_1 (gl_of c g2) (mg_none c b2) hb (star_of (mE_plain h2) [] _)) (star_of rfl [] _)) ?_
  rintro σ H Q ⟨w, σd, rfl, g, rs, hp⟩
  simp only [evE] at hp
  refine ⟨w, σd, rfl, g, rs, (Post.bind hp).mono fun e w2 x2 gg2 hh2 v2 r2 => ?_⟩
  split at hh2
  · rename_i j
    split at hh2
    · rename_i ds hd
      split at hh2
      · rename_i hl
        simp only [Rep] at r2
        obtain ⟨⟨q1, q2, q3, q4⟩, q5, q6⟩ := rg_rep (G := G) (w := w2) hd
        refine ⟨j, r2, ⟨q1, q2, q3, q4, by rw [← q5]; rw [sizeLine_eq] at hl; omega⟩, fun q hq => ?_⟩
        exact hh2 _ (ext_new gg2 hq) (wok_new gg2 hq) rfl _ (rep_lst gg2 hq q6)
      · exact absurd hh2 fun z => z
    · exact absurd hh2 fun z => z
  · exact absurd hh2 fun z => z
theorem s_mrg1 (c : Ctx G Γ k X W) {b : Ex} {y : Expr} {p p2 pos2 pos : Pos} (g1 : glB Γ.sc "list" = true) (b1 : Γ.bs.contains "list" = true) (g2 : glB Γ.sc "range" = true) (b2 : Γ.bs.contains "range" = true) (h2 : mE b Γ y = true)
    (hb : PE X y (tE G Φ W b)) : PE X (.Call (.Name "list" p) [.Call (.Name "range" p2) [y] [] pos2] [] pos) (tE G Φ W (.mrg1 b)) := by
  refine PE.imp (pe_listRg c.calm (gl_of c g1) (mg_none c b1) (prg_1 (gl_of c g2) (mg_none c b2) hb (star_of (mE_plain h2) [] _)) (star_of rfl [] _)) ?_
  rintro σ H Q ⟨w, σd, rfl, g, rs, hp⟩
  simp only [evE] at hp
  refine ⟨w, σd, rfl, g, rs, (Post.bind hp).mono fun e w2 x2 gg2 hh2 v2 r2 => ?_⟩
  split at hh2
  · rename_i j
    split at hh2
    · rename_i ds hd
      split at hh2
      · rename_i hl
        simp only [Rep] at r2
        obtain ⟨⟨q1, q2, q3, q4⟩, q5, q6⟩ := rg_rep (G := G) (w := w2) hd
        refine ⟨j, r2, ⟨q1, q2, q3, q4, by rw [← q5]; rw [sizeLine_eq] at hl; omega⟩, fun q hq => ?_⟩
        have x2 := ext_alloc (m := .lst ds) (o := .lst (rgV 0 j)) gg2 hq
        refine hh2 (w2.alloc q (.lst ds) (.lst (rgV 0 j))) x2 (wok_alloc gg2 hq ⟨_, upd_same, RepL.ext x2 _ _ q6⟩) rfl (.ref q) ?_
        simp only [Rep]
        refine ⟨q, rfl, ?_⟩
        show (w2.as ++ [q])[w2.M.length]? = some q
        rw [← gg2.len, List.getElem?_append_right (Nat.le_refl _), Nat.sub_self]
        rfl
      · exact absurd hh2 fun z => z
    · exact absurd hh2 fun z => z
  · exact absurd hh2 fun z => z
theorem s_madd (c : Ctx G Γ k X W) {a b : Ex} {x y : Expr} {pos : Pos} (ha : PE X x (tE G Φ W a)) (hb : PE X y (tE G Φ W b)) : PE X (.BinOp x (toOp .add) y pos) (tE G Φ W (.madd a b)) := by
  refine PE.imp (pe_op op_cat ha hb) ?_
  rintro σ H Q ⟨w, σd, rfl, g, rs, hp⟩
  simp only [evE] at hp
  refine ⟨w, σd, rfl, g, rs, (Post.bind hp).mono fun d w1 x1 g1 h1 v1 r1 => ?_⟩
  refine ⟨w1, σd, rfl, g1, rs.ext x1, (Post.bind h1).mono fun e w2 x2 g2 h2 v2 r2 => ?_⟩
  split at h2
  · rename_i xs ys e1 e2
    split at h2
    · rename_i hl
      obtain ⟨a, vs, rfl, h3, h4⟩ := Rep.lstC g2 (Rep.ext x2 _ _ r1) e1
      obtain ⟨b, us, rfl, h5, h6⟩ := Rep.lstC g2 r2 e2
      refine ⟨a, b, vs, us, rfl, rfl, h3, h5, by rw [← h4.length, ← h6.length]; exact hl, fun q hq => ?_⟩
      have x3 := ext_alloc (m := .lst (xs ++ ys)) (o := .lst (vs ++ us)) g2 hq
      refine h2 (w2.alloc q (.lst (xs ++ ys)) (.lst (vs ++ us))) x3 (wok_alloc g2 hq ⟨_, upd_same, RepL.ext x3 _ _ (h4.append h6)⟩) rfl (.ref q) ?_
      simp only [Rep]
      refine ⟨q, rfl, ?_⟩
      show (w2.as ++ [q])[w2.M.length]? = some q
      rw [← g2.len, List.getElem?_append_right (Nat.le_refl _), Nat.sub_self]
      rfl
    · exact absurd h2 fun z => z
  · exact absurd h2 fun z => z
theorem s_mmul (c : Ctx G Γ k X W) {a b : Ex} {x y : Expr} {pos : Pos} (ha : PE X x (tE G Φ W a)) (hb : PE X y (tE G Φ W b)) : PE X (.BinOp x (toOp .mul) y pos) (tE G Φ W (.mmul a b)) := by
  refine PE.imp (pe_op op_rep ha hb) ?_
  rintro σ H Q ⟨w, σd, rfl, g, rs, hp⟩
  simp only [evE] at hp
  refine ⟨w, σd, rfl, g, rs, (Post.bind hp).mono fun d w1 x1 g1 h1 v1 r1 => ?_⟩
  refine ⟨w1, σd, rfl, g1, rs.ext x1, (Post.bind h1).mono fun e w2 x2 g2 h2 v2 r2 => ?_⟩
  split at h2
  · rename_i xs n
    split at h2
    · rename_i hc
      obtain ⟨k1, k2, hl⟩ := hc
      have r1 := Rep.ext x2 _ _ r1
      simp only [Rep] at r1 r2
      obtain ⟨a, vs, rfl, h3, h4⟩ := r1
      subst r2
      refine ⟨a, n, vs, rfl, rfl, h3.1, k1, k2, by rw [← h4.length]; exact hl, fun q hq => ?_⟩
      have x3 := ext_alloc (m := .lst (List.replicate n.toNat xs).flatten) (o := .lst (List.replicate n.toNat vs).flatten) g2 hq
      refine h2 (w2.alloc q (.lst (List.replicate n.toNat xs).flatten) (.lst (List.replicate n.toNat vs).flatten)) x3 (wok_alloc g2 hq ⟨_, upd_same, RepL.ext x3 _ _ (h4.repl n.toNat)⟩) rfl (.ref q) ?_
      simp only [Rep]
      refine ⟨q, rfl, ?_⟩
      show (w2.as ++ [q])[w2.M.length]? = some q
      rw [← g2.len, List.getElem?_append_right (Nat.le_refl _), Nat.sub_self]
      rfl
    · exact absurd h2 fun z => z
  · exact absurd h2 fun z => z
end
end Ev
/-! N4: dict(a list of pairs), keys tuples. -/
namespace Ev
open PySem L2
/-- a key, where it stands, its value -/
abbrev KAV := NestedKey × Addr × V
/-- a pair as it stands -/
def PairV (K : PySem.W.Frag) (H : Hp) (p : Addr) (q : KAV) : Prop := SqT K H p [V.ref q.2.1, q.2.2] ∧ KyAt K H q.1 (.ref q.2.1)
/-- its entry -/
def EntV (x : NE) (q : KAV) : Prop := x.1 = q.1 ∧ x.2.1 = q.2.1 ∧ RelV q.2.2 x.2.2
def rDictN (X : Cx) : List V → Hp → VK → Prop := fun us H Q => ∃ (a : Addr) (ps : List Addr) (kvs : List KAV), us = [V.ref a] ∧ SqL X.K H a (ps.map V.ref) ∧ Paired (PairV X.K H) ps kvs ∧
  ∀ (p : Addr) (xs : List NE), H p = none → Paired EntV xs kvs → Q (.ref p) (upd H p (dnO X.prog X.w p (storedAllH [] xs)))
theorem ents_of {X : Cx} {pins : List (Addr × Obj)} {σ : L2.St} {H : Hp} {s : Shared} (I : Inv X pins σ H s) : ∀ {ps : List Addr} {kvs : List KAV}, Paired (PairV X.K H) ps kvs →
    ∃ xs : List NE, Paired EntV xs kvs ∧ xs.length = ps.length ∧ (∀ x ∈ xs, KyH X.K H x.1 (.ref x.2.1) ∧ x.1.depth ≤ 8) ∧ ∀ (j : Nat) (x : NE), xs[j]? = some x → ∃ p, ps[j]? = some p ∧ PairAt s.heap p (.ref x.2.1) x.2.2
  | _, _, .nil => ⟨[], .nil, rfl, (fun x hx => nomatch hx), fun j x e => by simp at e⟩
  | _, _, .cons (a := p) (b := q) h t => by
    obtain ⟨xs, r, hl, hn, hp⟩ := ents_of I t
    obtain ⟨h1, h2⟩ := h
    obtain ⟨its, rv, ht, _⟩ := I.tuple h1
    obtain ⟨u, y, ei, ru, ry⟩ := vals2 rv
    subst ei
    cases (show u = Value.ref q.2.1 from ru)
    refine ⟨(q.1, q.2.1, y) :: xs, .cons ⟨rfl, rfl, ry⟩ r, by rw [List.length_cons, List.length_cons, hl], fun x hx => ?_, fun j x e => ?_⟩
    · rcases List.mem_cons.mp hx with rfl | hx
      · exact ⟨h2.is, h2.dp⟩
      · exact hn x hx
    cases j with
    | zero =>
      have e' : (q.1, q.2.1, y) = x := Option.some.inj e
      subst e'
      exact ⟨p, rfl, .inl ht⟩
    | succ j =>
      obtain ⟨p', e1, e2⟩ := hp j x (by simpa using e)
      exact ⟨p', by simpa using e1, e2⟩
theorem call_dict_n {X : Cx} (hcalm : X.calm = true) (hu : X.A.units + 10 < cLine) : CallR X (.type "dict") (rDictN X) := by
  intro pins s σ H us vs Q I r h
  obtain ⟨a, ps, kvs, rfl, hq, hp, q⟩ := h
  obtain ⟨u, rfl, rx⟩ := vals1 r
  cases (show u = Value.ref a from rx)
  obtain ⟨its, rv, pl, hz⟩ := I.list hq
  have ei := refs_at rv
  subst ei
  rw [List.length_map] at hz
  obtain ⟨xs, rel, hl, ents, hx⟩ := ents_of I hp
  have hps : ∀ (j : Nat) (k v : Value), (xs.map fun x : NE => (Value.ref x.2.1, x.2.2))[j]? = some (k, v) → ∃ p, ps[j]? = some p ∧ PairAt s.heap p k v := fun j k v e => by
    rw [List.getElem?_map] at e
    obtain ⟨x, e1, e2⟩ := Option.map_eq_some_iff.mp e
    cases e2
    exact hx j x e1
  have P := PairArg.list (prog := X.prog) (w := X.w) a (ps.map Value.ref).toArray (fun j => ps.getD j 0) (xs.map fun x : NE => (Value.ref x.2.1, x.2.2))
  refine call_dict_pairsH (knd := nestedKind X.prog X.w) (ps := xs) P (I.ok.hd hcalm) (show X.A.units + 1 + 1 + 8 < cLine by omega) ⟨pl, by simp [hl], fun j k v e => ?_⟩ ⟨by simp, fun i key v e => ?_⟩ (fun h' hk x hx' => ?_) (by rw [List.length_map, hl]; exact hz) fun h' tk hd' hk => ?_
  · obtain ⟨p, e1, e2⟩ := hps j k v e
    have e3 : ps.getD j 0 = p := by rw [List.getD_eq_getElem?_getD, e1]; rfl
    refine ⟨by simp [e1], ?_⟩
    show PairAt s.heap (ps.getD j 0) k v
    rw [e3]
    exact e2
  · have e' : (xs.map fun x : NE => (Value.ref x.2.1, x.2.2))[i]? = some (key, v) := e
    rw [List.getElem?_map] at e'
    obtain ⟨x, e1, e2⟩ := Option.map_eq_some_iff.mp e'
    cases e2
    exact ⟨x.1, x.2.1, e1, rfl⟩
  · refine nestedKind_stays.stays (fun b o vs' n e _ => hk b o (Nat.ne_of_lt (Heap.lt_size e)) (fun z => nomatch z) e) ?_
    exact ⟨nested_of I.hok I.kIn _ _ _ (ents x hx').1 rfl, (ents x hx').2⟩
  · have hm : (s.heap.objs.size == sysModules) = false := beq_eq_false_iff_ne.mpr (Nat.ne_of_gt I.big)
    obtain ⟨o, es, ep, hq', h2, h3, h4, _, h5⟩ := hd'
    have hlen : (storedAllH [] xs).length ≤ sizeLine := by
      have := storedAllH_length xs []
      rw [List.length_nil, Nat.zero_add, hl] at this
      omega
    exact ⟨.ref s.heap.objs.size, _, I.laid (t' := tk) (fun b o e => hk b o (fun z => nomatch z) e) (Nat.le_refl _) (dn_ok ⟨hlen, hm, o, es, ep, hq', h2, h3, h4, h5⟩), rfl, q _ xs (I.hok.fresh (Nat.le_refl _)) rel⟩
end Ev
/-! EvN: dicts whose keys are tuples, in expressions; methods called with keywords. -/
namespace Ev
open PySem L2
section
variable {G : Gb} {w w' : Wd}
theorem RepN.keys : ∀ {kvs : List (NestedKey × D)} {xs : List NE}, RepN G w kvs xs → RepL G w (kvs.map fun kv => kD kv.1) (xs.map fun x => V.ref x.2.1)
  | [], _, h => by simp only [RepN] at h; subst h; exact RepL.nil
  | d :: ds, _, h => by
    simp only [RepN] at h
    obtain ⟨ka, u, v, r, rfl, h1, _, _, _, h5⟩ := h
    exact RepL.cons (rep_kD _ _ h1) (RepN.keys h5)
/-- objects more -/
theorem ext_more (g : WOk G w) {H' : Hp} (k : ∀ b o, w.H b = some o → H' b = some o) : Ext w { w with H := H' } := by
  refine ⟨⟨[], (List.append_nil _).symm⟩, fun a o e n => ⟨k a o e, n⟩, rfl, fun a h => ?_⟩
  cases q : w.H a with
  | none => exact absurd q h
  | some o => rw [show ({ w with H := H' } : Wd).H a = some o from k a o q]; exact fun z => nomatch z
theorem wok_more (g : WOk G w) {H' : Hp} (k : ∀ b o, w.H b = some o → H' b = some o) : WOk G { w with H := H' } := by
  have x := ext_more g k
  refine ⟨g.len, g.nd, fun i a e => x.ex a (g.there i a e), fun i a o e m => ?_, fun a h => x.ex a (g.hid a h), g.ch⟩
  have q := g.cell i a o e m
  cases o with
  | lst xs =>
    obtain ⟨vs, e1, e2⟩ := q
    exact ⟨vs, k _ _ e1, RepL.ext x _ _ e2⟩
  | ins cn fs =>
    obtain ⟨hc, dx, vs, e1, e2⟩ := q
    exact ⟨hc, dx, vs, k _ _ e1, RepF.ext x _ _ e2⟩
  | dcn kvs =>
    obtain ⟨xs, e1, e2⟩ := q
    exact ⟨xs, k _ _ e1, RepN.emb x.emb _ _ e2⟩
/-- its entries' values -/
theorem RepN.vals : ∀ {kvs : List (NestedKey × D)} {xs : List NE}, RepN G w kvs xs → ∃ ps : List (Addr × V), NVs ps xs ∧ ps.length = kvs.length ∧ ∀ (i : Nat) (kv : NestedKey × D), kvs[i]? = some kv → ∃ p : Addr × V, ps[i]? = some p ∧ RepKyG (KySat G w) kv.1 (.ref p.1) ∧ Rep G w kv.2 p.2
  | [], _, h => by simp only [RepN] at h; subst h; exact ⟨[], .nil, rfl, fun i kv e => by simp at e⟩
  | d :: ds, _, h => by
    simp only [RepN] at h
    obtain ⟨ka, u, v, r, rfl, h1, _, h3, h4, h5⟩ := h
    obtain ⟨ps, a1, a2, a3⟩ := RepN.vals h5
    refine ⟨(ka, v) :: ps, .cons ⟨rfl, h3⟩ a1, by simp [a2], fun i kv e => ?_⟩
    cases i with
    | zero => simp at e; subst e; exact ⟨_, rfl, h1, h4⟩
    | succ i => obtain ⟨p, b1, b2⟩ := a3 i kv (by simpa using e); exact ⟨p, by simpa using b1, b2⟩
theorem repL_ix : ∀ {ds : List D} {vs : List V}, ds.length = vs.length → (∀ (i : Nat) (d : D) (v : V), ds[i]? = some d → vs[i]? = some v → Rep G w d v) → RepL G w ds vs
  | [], [], _, _ => RepL.nil
  | d :: ds, v :: vs, hl, h => RepL.cons (h 0 d v rfl rfl) (repL_ix (by simpa using hl) fun i d v e1 e2 => h (i + 1) d v (by simpa using e1) (by simpa using e2))
  | [], _ :: _, hl, _ => by simp at hl
  | _ :: _, [], hl, _ => by simp at hl
end
section
variable {G : Gb} {Φ : Nat → List D → Mem → Res D} {W : WX} {X : Cx} {k : Nat} {Γ : Cn}
theorem dn_hu (c : Ctx G Γ k X W) : X.A.units + 10 < cLine := by have := c.room.un; omega
theorem s_mdn0 (c : Ctx G Γ k X W) {pos : Pos} : PE X (.Dict [] [] pos) (tE G Φ W .mdn0) := by
  refine PE.imp pe_nnew ?_
  rintro σ H Q ⟨w, σd, rfl, g, rs, hp⟩
  simp only [evE] at hp
  intro p hn
  rw [c.prog, c.wd]
  have x2 := ext_alloc (m := .dcn []) (o := dnO G.prog G.wd p []) g hn
  refine hp (w.alloc p (.dcn []) (dnO G.prog G.wd p [])) x2 (wok_alloc g hn ⟨[], upd_same, by simp only [RepN]⟩) rfl (.ref p) ?_
  simp only [Rep]
  refine ⟨p, rfl, ?_⟩
  show (w.as ++ [p])[w.M.length]? = some p
  rw [← g.len, List.getElem?_append_right (Nat.le_refl _), Nat.sub_self]
  rfl
/-- a look-up, where the dict stands -/
theorem dn_got (c : Ctx G Γ k X W) {w : Wd} {kvs : List (NestedKey × D)} {xs : List NE} {kk : NestedKey} (r : RepN G w kvs xs) {d : D} {z : V} (rz : Rep G w d z) : ∃ v, RGot xs kk z v ∧ Rep G w ((valN kvs kk).getD d) v := by
  unfold RGot
  cases hv : valN kvs kk with
  | none =>
    rw [(r.val kk).2 hv]
    exact ⟨z, rfl, rz⟩
  | some d' =>
    obtain ⟨ua, v, e1, e2, e3⟩ := (r.val kk).1 d' hv
    rw [e1]
    exact ⟨v, e2, e3⟩
theorem s_dnix (c : Ctx G Γ k X W) {o e : Ex} {x y : Expr} {pos : Pos} (ho : PE X x (tE G Φ W o)) (he : PE X y (tE G Φ W e)) (hy : plainX y = true) : PE X (.Subscript x y pos) (tE G Φ W (.dnix o e)) := by
  refine PE.imp (pe_nget (dn_hu c) ho he (by cases y <;> first | (exact fun _ _ => rfl) | (simp [plainX] at hy))) ?_
  rintro σ H Q ⟨w, σd, rfl, g, rs, hp⟩
  simp only [evE] at hp
  refine ⟨w, σd, rfl, g, rs, (Post.bind hp).mono fun d w1 x1 g1 h1 v1 r1 => ?_⟩
  refine ⟨w1, σd, rfl, g1, rs.ext x1, (Post.bind h1).mono fun kd w2 x2 g2 h2 v2 r2 => ?_⟩
  split at h2
  · rename_i kvs kk hd hk
    obtain ⟨z, hz, h3⟩ := Post.of h2
    obtain ⟨a, xs, rfl, q1, q2⟩ := dcn_at g2 (Rep.ext x2 _ _ r1) hd
    obtain ⟨b, rfl, k1, k2⟩ := keyT_rep hk r2
    obtain ⟨ua, v, e1, e2, e3⟩ := (q2.val kk).1 z hz
    exact ⟨a, xs, kk, v, ua, rfl, by rw [c.prog, c.wd]; exact q1, by rw [c.K]; exact q2.nks, ⟨by rw [c.K]; exact ky_H k1, k2, b, rfl⟩, e1, e2, h3 w2 (Ext.refl _) g2 rfl v e3⟩
  · exact absurd h2 fun z => z
theorem s_dng1 (c : Ctx G Γ k X W) {o e : Ex} {y a : Expr} {apos cpos : Pos} (hb : attrOk y = true) (hm : mE e Γ a = true) (hline : (apos.endLine == cpos.line) = true) (ho : PE X y (tE G Φ W o)) (he : PE X a (tE G Φ W e)) : PE X (.Call (.Attribute y "get" apos) [a] [] cpos) (tE G Φ W (.dng1 o e)) := by
  have hL : mL [e] Γ [a] = true := by simp [mL, hm]
  have hst := star_of (mE_plain hm) [] X.env
  refine PE.imp (pe_nget1 (dn_hu c) ho he ⟨attr_base hb _ _, ?_, hline, ?_⟩) ?_
  · rw [mL_all hL cpos X.env]
    rfl
  · rw [hst]
    rfl
  · rintro σ H Q ⟨w, σd, rfl, g, rs, hp⟩
    simp only [evE] at hp
    refine ⟨w, σd, rfl, g, rs, (Post.bind hp).mono fun d w1 x1 g1 h1 v1 r1 => ?_⟩
    split at h1
    · rename_i kvs0 hd0
      obtain ⟨a0, xs0, rfl, q0, _⟩ := dcn_at g1 r1 hd0
      refine ⟨a0, rfl, ⟨xs0, by rw [c.prog, c.wd]; exact q0⟩, w1, σd, rfl, g1, rs.ext x1, (Post.bind h1).mono fun kd w2 x2 g2 h2 v2 r2 => ?_⟩
      split at h2
      · rename_i kvs kk hd hk
        obtain ⟨a1, xs, e0, q1, q2⟩ := dcn_at g2 (Rep.ext x2 _ _ r1) hd
        cases e0
        obtain ⟨b, rfl, k1, k2⟩ := keyT_rep hk r2
        obtain ⟨v, e1, e2⟩ := dn_got c (kk := kk) q2 (d := .non) (z := .non) rep_non
        exact ⟨xs, kk, v, by rw [c.prog, c.wd]; exact q1, by rw [c.K]; exact q2.nks, ⟨by rw [c.K]; exact ky_H k1, k2, b, rfl⟩, e1, post_ok g2 h2 v e2⟩
      · exact absurd h2 fun z => z
    · exact absurd h1 fun z => z
theorem s_dng2 (c : Ctx G Γ k X W) {o e f : Ex} {y a b : Expr} {apos cpos : Pos} (hb : attrOk y = true) (hm : mE e Γ a = true) (hm2 : mE f Γ b = true) (hline : (apos.endLine == cpos.line) = true) (ho : PE X y (tE G Φ W o)) (he : PE X a (tE G Φ W e)) (hf : PE X b (tE G Φ W f)) :
    PE X (.Call (.Attribute y "get" apos) [a, b] [] cpos) (tE G Φ W (.dng2 o e f)) := by
  have hL : mL [e, f] Γ [a, b] = true := by simp [mL, hm, hm2]
  have hst := star_of (mE_plain hm) [b] X.env
  have hst2 := star_of (mE_plain hm2) [] X.env
  refine PE.imp (pe_nget2 (dn_hu c) ho he hf ⟨attr_base hb _ _, ?_, hline, ?_⟩) ?_
  · rw [mL_all hL cpos X.env]
    rfl
  · rw [hst, hst2]
    rfl
  · rintro σ H Q ⟨w, σd, rfl, g, rs, hp⟩
    simp only [evE] at hp
    refine ⟨w, σd, rfl, g, rs, (Post.bind hp).mono fun d w1 x1 g1 h1 v1 r1 => ?_⟩
    split at h1
    · rename_i kvs0 hd0
      obtain ⟨a0, xs0, rfl, q0, _⟩ := dcn_at g1 r1 hd0
      refine ⟨a0, rfl, ⟨xs0, by rw [c.prog, c.wd]; exact q0⟩, w1, σd, rfl, g1, rs.ext x1, (Post.bind h1).mono fun kd w2 x2 g2 h2 v2 r2 => ?_⟩
      refine ⟨w2, σd, rfl, g2, (rs.ext x1).ext x2, (Post.bind h2).mono fun zd w3 x3 g3 h3 v3 r3 => ?_⟩
      split at h3
      · rename_i kvs kk hd hk
        obtain ⟨a1, xs, e0, q1, q2⟩ := dcn_at g3 (Rep.ext (x2.trans x3) _ _ r1) hd
        cases e0
        obtain ⟨b', rfl, k1, k2⟩ := keyT_rep hk (Rep.ext x3 _ _ r2)
        obtain ⟨v, e1, e2⟩ := dn_got c (kk := kk) q2 r3
        exact ⟨xs, kk, v, by rw [c.prog, c.wd]; exact q1, by rw [c.K]; exact q2.nks, ⟨by rw [c.K]; exact ky_H k1, k2, b', rfl⟩, e1, post_ok g3 h3 v e2⟩
      · exact absurd h3 fun z => z
    · exact absurd h1 fun z => z
theorem s_dnl (c : Ctx G Γ k X W) {x : Str} {o : Ex} {a : Expr} {p pos : Pos} (hx : x = "list") (hgl : glB Γ.sc x = true) (hok : okName x = true) (hbs : Γ.bs.contains x = true) (hm : mE o Γ a = true) (ha : PE X a (tE G Φ W o)) : PE X (.Call (.Name x p) [a] [] pos) (tE G Φ W (.dnl o)) := by
  subst hx
  obtain ⟨o1, o2⟩ := ok_parts hok
  have hst := star_of (mE_plain hm) [] X.env
  refine PE.imp (pe_callTy (call_list_n c.calm) (gl_of c hgl) (mg_none c hbs) PyProof.Rows.boot_list (pa_cons ha pa_nil hst) o2 o1 hst) ?_
  rintro σ H Q ⟨w, σd, rfl, g, rs, hp⟩
  simp only [evE] at hp
  refine ⟨w, σd, rfl, g, rs, (Post.bind hp).mono fun d w1 x1 g1 h1 v r1 => ?_⟩
  split at h1
  · rename_i kvs hd
    obtain ⟨q, xs, rfl, q1, q2⟩ := dcn_at g1 r1 hd
    refine ⟨q, xs, rfl, by rw [c.prog, c.wd]; exact q1, fun pp hn => ?_⟩
    exact h1 _ (ext_new g1 hn) (wok_new g1 hn) rfl _ (rep_lst g1 hn q2.keys)
  · exact absurd h1 fun z => z
theorem s_dnn (c : Ctx G Γ k X W) {x : Str} {o : Ex} {a : Expr} {p pos : Pos} (hx : x = "len") (hgl : glB Γ.sc x = true) (hok : okName x = true) (hbs : Γ.bs.contains x = true) (hm : mE o Γ a = true) (ha : PE X a (tE G Φ W o)) : PE X (.Call (.Name x p) [a] [] pos) (tE G Φ W (.dnn o)) := by
  subst hx
  obtain ⟨o1, o2⟩ := ok_parts hok
  have hst := star_of (mE_plain hm) [] X.env
  refine PE.imp (pe_callB call_len_n (gl_of c hgl) (mg_none c hbs) PySem.boot_len (pa_cons ha pa_nil hst) o2 o1 hst) ?_
  rintro σ H Q ⟨w, σd, rfl, g, rs, hp⟩
  simp only [evE] at hp
  refine ⟨w, σd, rfl, g, rs, (Post.bind hp).mono fun d w1 x1 g1 h1 v r1 => ?_⟩
  split at h1
  · rename_i kvs hd
    obtain ⟨q, xs, rfl, q1, q2⟩ := dcn_at g1 r1 hd
    refine ⟨q, xs, rfl, by rw [c.prog, c.wd]; exact q1, ?_⟩
    rw [← q2.len]
    exact post_ok g1 h1 _ rep_int
  · exact absurd h1 fun z => z
theorem s_dni (c : Ctx G Γ k X W) {o : Ex} {y : Expr} {p apos cpos pos : Pos} (hgl : glB Γ.sc "list" = true) (hbs : Γ.bs.contains "list" = true) (hb : attrOk y = true) (hline : (apos.endLine == cpos.line) = true) (ho : PE X y (tE G Φ W o)) :
    PE X (.Call (.Name "list" p) [.Call (.Attribute y "items" apos) [] [] cpos] [] pos) (tE G Φ W (.dni o)) := by
  refine PE.imp (pe_nlistItems c.calm ho (gl_of c hgl) (mg_none c hbs) PyProof.Rows.boot_list (attr_base hb _ _) hline (star_of (by rfl) _ _)) ?_
  rintro σ H Q ⟨w, σd, rfl, g, rs, hp⟩
  simp only [evE] at hp
  refine ⟨w, σd, rfl, g, rs, (Post.bind hp).mono fun d w1 x1 g1 h1 v r1 => ?_⟩
  split at h1
  · rename_i kvs hd
    obtain ⟨q, xs, rfl, q1, q2⟩ := dcn_at g1 r1 hd
    obtain ⟨ps, a1, a2, a3⟩ := q2.vals
    refine ⟨q, xs, ps, rfl, by rw [c.prog, c.wd]; exact q1, a1, fun H' pl ts kp hn hts hni hl pr => ?_⟩
    have x2 := ext_more g1 kp
    have g2 := wok_more g1 kp
    refine h1 _ x2 g2 rfl (.ref pl) ?_
    simp only [Rep]
    have new : ∀ t, w1.H t = none → ¬ Live ({ w1 with H := H' } : Wd) t ∧ ¬ w1.hd t := fun t ht => ⟨fun l => live_none g1 ht l, fun z => g1.hid t z ht⟩
    refine ⟨pl, ts.map V.ref, rfl, ⟨hl, (new pl hn).1, (new pl hn).2⟩, repL_ix (by rw [List.length_map, List.length_map, Paired.length pr, a2]) fun i d' v' e1 e2 => ?_⟩
    rw [List.getElem?_map] at e1 e2
    obtain ⟨kv, ek, rfl⟩ := Option.map_eq_some_iff.mp e1
    obtain ⟨t, et, rfl⟩ := Option.map_eq_some_iff.mp e2
    obtain ⟨pp, b1, b2, b3⟩ := a3 i kv ek
    obtain ⟨pp', c1, c2⟩ := LiI.paired_get pr et
    rw [b1] at c1
    cases c1
    have nt := new t (hts t (List.mem_of_getElem? et))
    simp only [Rep]
    exact ⟨t, _, rfl, .inl ⟨c2, nt.1, nt.2⟩, RepL.cons (Rep.ext x2 _ _ (rep_kD _ _ b2)) (RepL.cons (Rep.ext x2 _ _ b3) RepL.nil)⟩
  · exact absurd h1 fun z => z
theorem s_lset (c : Ctx G Γ k X W) {e : Ex} {a : Expr} {p p2 q pos : Pos} (g1 : glB Γ.sc "len" = true) (b1 : Γ.bs.contains "len" = true) (g2 : glB Γ.sc "set" = true) (b2 : Γ.bs.contains "set" = true) (hm : mE e Γ a = true) (ha : PE X a (tE G Φ W e)) :
    PE X (.Call (.Name "len" p) [.Call (.Name "set" p2) [a] [] q] [] pos) (tE G Φ W (.lset e)) := by
  refine PE.imp (RZ.pe_lenSetI (gl_of c g1) (mg_none c b1) (gl_of c g2) (mg_none c b2) ha c.calm (star_of (mE_plain hm) _ _)) ?_
  rintro σ H Q ⟨w, σd, rfl, g, rs, hp⟩
  simp only [evE] at hp
  refine ⟨w, σd, rfl, g, rs, (Post.bind hp).mono fun d w1 x1 g1 h1 v r1 => ?_⟩
  split at h1
  · rename_i ns hn
    split at h1
    · rename_i hq
      obtain ⟨ys, hy, hn⟩ := Option.bind_eq_some_iff.mp hn
      obtain ⟨l, vs, rfl, h2, h3⟩ := Rep.lst g1 r1 hy
      rw [rep_ints h3 hn] at h2
      exact ⟨l, ns, rfl, by rw [c.K]; exact h2, hq.2, by omega, post_ok g1 h1 _ rep_int⟩
    · exact absurd h1 fun z => z
  · exact absurd h1 fun z => z
/-- a def called with values and keywords that are there -/
theorem run_GK (c : Ctx G Γ k X W) {f : Nat} {d : Df} {fa : Addr} {fd : FuncData} {pins : List (Addr × Obj)} {s : Shared} {σ : L2.St} {H : Hp} {us ws : List Value} {vs zs : List V} {Q : VK} {nm : List Str} {pm : List Nat}
    (F : FnG X.prog X.w X.K X.mg X.base (2 * k) fa fd d.ps (spF G Γ.P k f)) (sh : ∀ sh ∈ d.shapes, ∀ (s : Shared) (us ws : List Value), us.length = sh.1 → ws.length = sh.2.1.length → BindsTo s fd ⟨us, sh.2.1.zip ws⟩ (d.ps.zip (permV .none sh.2.2 (us ++ ws))))
    (hm : (us.length, nm, pm) ∈ d.shapes) (hl : ws.length = nm.length) (I : Inv X pins σ H s) (r : Vals vs us) (rz : Vals zs ws) (hsp : spF G Γ.P k f (permV .non pm (vs ++ zs)) H Q (WE W σ)) : wpAny (model X.prog X.w) X.A (call (.ref fa) us (nm.zip ws)) (EP X pins σ Q) X.xe s := by
  have b := sh _ hm s us ws rfl hl
  refine PySem.wpAny_call (codeAny_mono (F.run X.A X.stack s H ⟨us, nm.zip ws⟩ _ _ Q (WE W σ) (c.room.mono (Nat.le_succ _)) c.gd I.env0 b (vals_perm (r.append rz) pm) hsp) fun r s' hq => ?_)
  match r, hq with
  | .error e, hq => exact passAt c.tk σ pins H s e s' I hq
  | .ok (.ret u), hq => exact I.after hq
  | .ok .next, hq => exact False.elim hq
  | .ok .brk, hq => exact False.elim hq
  | .ok .cont, hq => exact False.elim hq
theorem s_mck (c : Ctx G Γ k X W) {m : Str} {tbl : List (Nat × Nat)} {o : Ex} {es : List Ex} {ks : List (Str × Ex)} {pm : List Nat} {y : Expr} {args : List Expr} {kws : List Keyword} {apos cpos : Pos} (hb : attrOk y = true) (hL : mL es Γ args = true) (hK : mK ks Γ kws = true) (hline : (apos.endLine == cpos.line) = true) (hfew : args.length + kws.length < 12)
    (ht : ∀ p ∈ tbl, ∃ cf d, Γ.cs[p.1]? = some cf ∧ Γ.P[p.2]? = some d ∧ cf.meths.lookup m = some p.2 ∧ (es.length + 1, ks.map (·.1), pm) ∈ d.shapes)
    (ho : PE X y (tE G (evF Γ.P k) W o)) (ha : PA X args (tL G (evF Γ.P k) W es)) (hk : PK X kws (tK' G (evF Γ.P k) W ks)) : PE X (.Call (.Attribute y m apos) args kws cpos) (tE G (evF Γ.P k) W (.mck m tbl o es ks pm)) := by
  obtain ⟨n1, n2, n3⟩ := mK_names hK cpos X.env
  refine ⟨fun pins s σ H Q I h => ?_⟩
  obtain ⟨w, σd, rfl, g, rs, hp⟩ := h
  simp only [evE] at hp
  have hform : methodCallForm (args.length + kws.length) (backTo cpos (starEach args X.env)) (backToKw cpos (keywordEach kws X.env)) = true := by
    unfold methodCallForm
    rw [mL_all hL cpos X.env, n1]
    simp only [Bool.true_and, Bool.and_true, decide_eq_true_eq]
    split <;> omega
  have hpos : methodCallPos true y X.env apos cpos = pure cpos := by unfold methodCallPos; simp [hline]
  rw [arm_eval_Call, attr_base hb]
  unfold methodCall
  rw [hform]
  refine wpAny_bind (thn (ho.run pins s σ w.H (fun v H1 => ∃ w1 d, w1.H = H1 ∧ WOk G w1 ∧ RepS G w1 σd σ ∧ Rep G w1 d v ∧ Post G W σ w1 (match insOf w1.M d with
      | some (c, fs) => if (fs.lookup m).isNone = true then match tbl.lookup c with
        | some i => (evL (evF Γ.P k) es σd w1.M).bind fun ds M2 => (evK (evF Γ.P k) ks σd M2).bind fun us M3 => evF Γ.P k i (pm.map fun j => ((d :: (ds ++ us))[j]?).getD .non) M3
        | none => .no
        else .no
      | none => .no) (fun d w' => ∀ v, Rep G w' d v → Q v w'.H)) I ⟨w, σd, rfl, g, rs, (Post.bind hp).mono fun d w1 x1 g1 h1 v1 r1 => ⟨w1, d, rfl, g1, rs.ext x1, r1, h1⟩⟩) fun u s1 ⟨v, H1, I1, ru, w1, d, e1, g1, rs1, r1, h1⟩ => ?_)
  subst e1
  split at h1
  · rename_i cn fs hi
    split at h1
    · rename_i hlk
      split at h1
      · rename_i i hti
        obtain ⟨hc, a', dx, vs, rfl, q1, q2⟩ := ins_at g1 r1 hi
        obtain ⟨cf, df, hcf, hdf, hme, hsh⟩ := ht (cn, i) (lookup_mem hti)
        have R := c.cls cn cf hcf
        obtain ⟨fa, hM, d2, fd, hd2, F, sh⟩ := R.mth m i hme
        have : d2 = df := by rw [hdf] at hd2; exact (Option.some.inj hd2).symm
        subst this
        cases ru
        have hl : vs.lookup m = none := (q2.look m).2 (by simpa using hlk)
        refine wpAny_bind (wpAny_standAt (wpAny_bind (wpAny_holding ?_)))
        unfold calleeOf
        rw [if_pos rfl]
        refine getmeth_ok I1 q1 (by rw [c.K]; exact R.cl) (by rw [c.K]; exact hM) hl (wpAny_bind ?_)
        rw [hpos]
        refine wpAny_pure ?_
        have kwp : ∀ (s2 : Shared) (w2 : Wd) (us : List Value) (ds : List D) (vs : List V), Inv X pins σ w2.H s2 → WOk G w2 → RepS G w2 σd σ → Vals vs us → RepL G w2 ds vs → ds.length = es.length → Rep G w2 d (.ref a') →
            Post G W σ w2 ((evK (evF Γ.P k) ks σd w2.M).bind fun us M3 => evF Γ.P k i (pm.map fun j => ((d :: (ds ++ us))[j]?).getD .non) M3) (fun d w' => ∀ v, Rep G w' d v → Q v w'.H) →
            wpAny (model X.prog X.w) X.A (evalAll ((backToKw cpos (keywordEach kws X.env)).map (·.2))) (fun ws s₂ => X.K.In s₂.heap ∧ wpAny (model X.prog X.w) X.A (call (.ref fa) ([.ref a'] ++ us) (((backToKw cpos (keywordEach kws X.env)).filterMap (·.1)).zip ws)) (EP X pins σ Q) X.xe s₂) X.xe s2 := fun s2 w2 us ds vs I2 g2 rs2 rv rl hl2 rd h2 => by
          refine thn (hk.run cpos pins s2 σ w2.H (fun zs H3 => zs.length = ks.length ∧ spF G Γ.P k i (permV .non pm ((.ref a' :: vs) ++ zs)) H3 Q (WE W σ)) I2 ⟨w2, σd, rfl, g2, rs2, (Post.bind h2).monoE fun zs w3 ez x3 g3 h3 ys ry => ?_⟩) fun ws s3 ⟨zs, H3, I3, rz, lz, q3⟩ => ⟨I3.kIn, ?_⟩
          · exact ⟨by rw [← ry.length]; exact evK_len ez, w3, _, rfl, g3, repL_perm ((RepL.cons (Rep.ext x3 _ _ rd) (RepL.ext x3 _ _ rl)).append ry) pm, Post.wish h3⟩
          · rw [n3]
            refine run_GK c F sh (us := .ref a' :: us) (vs := .ref a' :: vs) ?_ (by rw [← rz.length, lz, List.length_map]) I3 (.cons rfl rv) rz q3
            rw [List.length_cons, ← rv.length, ← rl.length, hl2]
            exact hsh
        cases args with
        | nil =>
          cases es with
          | cons _ _ => simp [mL] at hL
          | nil =>
            refine PySem.W.callWith_KW0 (first := [.ref a']) (h₀ := X.base) I1.ok.mod.kin (by rw [c.K]; exact hM.kp) n1 ?_ (by rw [n2]; rfl)
            simp only [evL, Res.bind_ok] at h1
            exact kwp s1 w1 [] [] [] I1 g1 rs1 .nil RepL.nil rfl r1 h1
        | cons e rest =>
          cases es with
          | nil => simp [mL] at hL
          | cons e' es' =>
            simp only [mL, Bool.and_eq_true] at hL
            have hst := star_of (mE_plain hL.1) rest X.env
            refine PySem.W.callWith_KW (first := [.ref a']) (h₀ := X.base) I1.ok.mod.kin (by rw [c.K]; exact hM.kp) n1 (thn (ha.run cpos pins s1 σ w1.H (fun vs H2 => ∃ w2 ds, w2.H = H2 ∧ WOk G w2 ∧ RepS G w2 σd σ ∧ RepL G w2 ds vs ∧ ds.length = (e' :: es').length ∧ Rep G w2 d (.ref a') ∧
              Post G W σ w2 ((evK (evF Γ.P k) ks σd w2.M).bind fun us M3 => evF Γ.P k i (pm.map fun j => ((d :: (ds ++ us))[j]?).getD .non) M3) (fun d w' => ∀ v, Rep G w' d v → Q v w'.H)) I1
              ⟨w1, σd, rfl, g1, rs1, (Post.bind h1).monoE fun ds w2 ed x2 g2 h2 vs rv => ⟨w2, ds, rfl, g2, rs1.ext x2, rv, evL_len ed, Rep.ext x2 _ _ r1, h2⟩⟩) fun us s2 ⟨vs, H2, I2, r2, w2, ds, e2, g2, rs2, rl, hl2, rd, h2⟩ => ?_) ?_ hst
            · subst e2
              exact kwp s2 w2 us ds vs I2 g2 rs2 r2 rl hl2 rd h2
            · rw [hst, n2]
              show ((false || (backTo cpos (starEach rest X.env)).any (·.1)) || false) = false
              rw [mL_star hL.2]
              rfl
      · exact absurd h1 fun z => z
    · exact absurd h1 fun z => z
  · exact absurd h1 fun z => z
theorem repN_new {w : Wd} (g : WOk G w) {p : Addr} {kvs : List (NestedKey × D)} {xs : List NE} (hn : w.H p = none) (r : RepN G w kvs xs) : Rep G { w with H := upd w.H p (dnO G.prog G.wd p xs) } (.dcn kvs) (.ref p) := by
  have x := ext_new (o := dnO G.prog G.wd p xs) g hn
  simp only [Rep]
  exact ⟨p, xs, rfl, ⟨upd_same, fun l => live_none g hn l, fun z => g.hid p z hn⟩, RepN.emb x.emb _ _ r⟩
theorem pairs_rep {w : Wd} : ∀ {ps : List D} {acc kvs : List (NestedKey × D)} {vs : List V}, RepL G w ps vs → pairsN ps acc = some kvs → ∃ (as : List Addr) (qs : List KAV), vs = as.map V.ref ∧ Paired (PairV G.K w.H) as qs ∧
    ∀ (xs0 xs : List NE), RepN G w acc xs0 → Paired EntV xs qs → RepN G w kvs (storedAllH xs0 xs)
  | [], acc, kvs, vs, r, h => by
    simp only [RepL] at r
    subst r
    simp only [pairsN] at h
    cases h
    exact ⟨[], [], rfl, .nil, fun xs0 xs r0 p => by cases p; exact r0⟩
  | d :: ps, acc, kvs, vs, r, h => by
    simp only [RepL] at r
    obtain ⟨v, rest, rfl, r1, r2⟩ := r
    unfold pairsN at h
    split at h
    · rename_i e; cases e
    · rename_i k v' ps' acc' e
      cases e
      split at h
      · rename_i kk hk
        obtain ⟨a, ws, rfl, h1, h2⟩ := Rep.tup r1
        simp only [RepL] at h2
        obtain ⟨u1, q1, rfl, s1, u2, q2, rfl, s2, rfl⟩ := h2
        obtain ⟨b, rfl, k1, k2⟩ := keyT_rep hk s1
        obtain ⟨as, qs, rfl, z1, z2⟩ := pairs_rep r2 h
        refine ⟨a :: as, (kk, b, u2) :: qs, rfl, .cons ⟨h1, ⟨ky_H k1, k2, b, rfl⟩⟩ z1, fun xs0 xs r0 p => ?_⟩
        cases p with
        | cons e1 e2 =>
          rename_i x xs'
          obtain ⟨x1, x2, x3⟩ := x
          obtain ⟨f1, f2, f3⟩ := e1
          simp only at f1 f2 f3
          subst f1 f2
          exact z2 (storedH xs0 x1 x2 x3) xs' (RepN.put k1 k2 f3 s2 r0) e2
      · cases h
    · cases h
theorem s_dctN (c : Ctx G Γ k X W) {x : Str} {o : Ex} {a : Expr} {p pos : Pos} (hx : x = "dict") (hgl : glB Γ.sc x = true) (hok : okName x = true) (hbs : Γ.bs.contains x = true) (hm : mE o Γ a = true) (ha : PE X a (tE G Φ W o)) : PE X (.Call (.Name x p) [a] [] pos) (tE G Φ W (.dctN o)) := by
  subst hx
  obtain ⟨o1, o2⟩ := ok_parts hok
  have hst := star_of (mE_plain hm) [] X.env
  refine PE.imp (pe_callTy (call_dict_n c.calm (dn_hu c)) (gl_of c hgl) (mg_none c hbs) PyProof.Rows.boot_dict (pa_cons ha pa_nil hst) o2 o1 hst) ?_
  rintro σ H Q ⟨w, σd, rfl, g, rs, hp⟩
  simp only [evE] at hp
  refine ⟨w, σd, rfl, g, rs, (Post.bind hp).mono fun d w1 x1 g1 h1 v r1 => ?_⟩
  split at h1
  · rename_i ps
    split at h1
    · rename_i kvs hk
      obtain ⟨l, vs, rfl, h2, h3⟩ := Rep.lst g1 r1 (xs := ps) rfl
      obtain ⟨as, qs, rfl, z1, z2⟩ := pairs_rep h3 hk
      refine ⟨l, as, qs, rfl, by rw [c.K]; exact h2, by rw [c.K]; exact z1, fun pp xs hn hx => ?_⟩
      rw [c.prog, c.wd]
      exact h1 _ (ext_new g1 hn) (wok_new g1 hn) rfl _ (repN_new g1 hn (z2 [] xs (by simp only [RepN]) hx))
    · exact absurd h1 fun z => z
  · exact absurd h1 fun z => z
theorem s_mnk (c : Ctx G Γ k X W) {n f : Nat} {x : Str} {ks : List (Str × Ex)} {pm : List Nat} {kws : List Keyword} {p pos : Pos} {cf : Cf} {d : Df} (hgl : glB Γ.sc x = true) (hok : okName x = true) (hK : mK ks Γ kws = true) (hcf : Γ.cs[n]? = some cf) (hx : cf.name = x) (hini : cf.init = some f) (hd : Γ.P[f]? = some d)
    (hsh : (1, ks.map (·.1), pm) ∈ d.shapes) (hk : PK X kws (tK' G (evF Γ.P k) W ks)) : PE X (.Call (.Name x p) [] kws pos) (tE G (evF Γ.P k) W (.mnk n f ks pm)) := by
  obtain ⟨o1, o2⟩ := ok_parts hok
  obtain ⟨n1, n2, n3⟩ := mK_names hK pos X.env
  have R := c.cls n cf hcf
  obtain ⟨fa, hM, d2, fd, hd2, F, sh⟩ := R.ini f hini
  have : d2 = d := by rw [hd] at hd2; exact (Option.some.inj hd2).symm
  subst this
  have hnm := R.nm
  rw [hx] at hnm
  have hn : n < G.nc := by rw [c.nc]; exact (List.getElem?_eq_some_iff.mp hcf).1
  refine ⟨fun pins s σ H Q I h => ?_⟩
  obtain ⟨w, σd, rfl, g, rs, hp⟩ := h
  simp only [evE] at hp
  refine wpAny_Call_Name_kw (ld_glob I (gl_of c hgl) hnm ?_ o1)
  refine PySem.W.callWith_KW0 (h₀ := X.base) I.ok.mod.kin (by rw [c.K]; exact hM.kp) n1 ?_ (by rw [n2]; rfl)
  refine thn (hk.run pos pins s σ w.H (fun vs H1 => ∃ w1 ds, w1.H = H1 ∧ WOk G w1 ∧ RepL G w1 ds vs ∧ ds.length = ks.length ∧
      Post G W σ w1 ((evF Γ.P k f (pm.map fun j => ((.cell w1.M.length :: ds)[j]?).getD .non) (w1.M ++ [some (.ins n [])])).bind fun d M2 => match d, M2[w1.M.length]? with
        | .non, some (some (.ins c' fs)) => .ok (.ins c' fs) (M2.set w1.M.length none)
        | _, _ => .no) (fun d w' => ∀ v, Rep G w' d v → Q v w'.H)) I ⟨w, σd, rfl, g, rs, (Post.bind hp).monoE fun ds w1 ed x1 g1 h1 vs rv => ⟨w1, ds, rfl, g1, rv, evK_len ed, h1⟩⟩) fun us s1 ⟨vs, H1, I1, rv, w1, ds, e1, g1, rl, hl, h1⟩ => ⟨I1.kIn, ?_⟩
  subst e1
  rw [n3]
  -- the new object, its dict
  obtain ⟨xa, hxa⟩ : ∃ xa, xa = s1.heap.objs.size + 1 := ⟨_, rfl⟩
  obtain ⟨dxa, hdxa⟩ : ∃ dxa, dxa = s1.heap.objs.size := ⟨_, rfl⟩
  have nx : w1.H xa = none := by rw [hxa]; exact I1.hok.fresh (Nat.le_succ _)
  have nd : w1.H dxa = none := by rw [hdxa]; exact I1.hok.fresh (Nat.le_refl _)
  have ne : dxa ≠ xa := by rw [hxa, hdxa]; exact Nat.ne_of_lt (Nat.lt_succ_self _)
  have x2 : Ext w1 { w1 with H := upd w1.H dxa (.own xa) } := ext_new g1 nd
  have g2 : WOk G { w1 with H := upd w1.H dxa (.own xa) } := wok_new g1 nd
  have nx2 : ({ w1 with H := upd w1.H dxa (.own xa) } : Wd).H xa = none := by
    show upd w1.H dxa (.own xa) xa = none
    rw [upd_ne (Ne.symm ne)]
    exact nx
  have x3 := ext_alloc (m := .ins n []) (o := .ins (G.cls n) dxa []) g2 nx2
  have g3 := wok_alloc (m := .ins n []) (o := .ins (G.cls n) dxa []) g2 nx2 ⟨hn, dxa, [], upd_same, by simp only [RepF]⟩
  have hq : spF G Γ.P k f (permV .non pm (.ref xa :: vs)) (upd (upd w1.H dxa (.own xa)) xa (.ins (G.cls n) dxa [])) (fun v H2 => v = .non ∧ Q (.ref xa) H2) (WE W σ) := by
    refine ⟨Wd.alloc { w1 with H := upd w1.H dxa (.own xa) } xa (.ins n []) (.ins (G.cls n) dxa []), _, rfl, g3, repL_perm (ds := .cell w1.M.length :: ds) (RepL.cons ?_ (RepL.ext x3 _ _ (RepL.ext x2 _ _ rl))) pm, ?_⟩
    · simp only [Rep]
      refine ⟨xa, rfl, ?_⟩
      show (w1.as ++ [xa])[w1.M.length]? = some xa
      rw [← g1.len, List.getElem?_append_right (Nat.le_refl _), Nat.sub_self]
      rfl
    · refine Post.wish ((Post.bind (Post.later (x2.trans x3) h1)).mono fun dd w4 x4 g4 h4 v rv4 => ?_)
      split at h4
      · rename_i c' fs hm
        simp only [Rep] at rv4
        refine ⟨rv4, ?_⟩
        have hat : w4.as[w1.M.length]? = some xa := by
          obtain ⟨ys, hy⟩ := x4.pre
          rw [hy]
          show (w1.as ++ [xa] ++ ys)[w1.M.length]? = some xa
          rw [List.append_assoc, ← g1.len, List.getElem?_append_right (Nat.le_refl _), Nat.sub_self]
          rfl
        obtain ⟨hc, dx, us', q1, q2⟩ := g4.cell _ xa _ hat hm
        have x5 : Ext w4 (w4.frz w1.M.length) := ext_frz
        refine h4 (w4.frz w1.M.length) x5 (wok_frz g4) rfl (.ref xa) ?_
        simp only [Rep]
        exact ⟨hc, xa, dx, us', rfl, ⟨q1, not_live_frz g4 hat, g4.ch _ xa hat⟩, RepF.ext x5 _ _ q2⟩
      · exact absurd h4 fun z => z
  have I2 := Inv.made (C := G.cls n) I1
  have r2 : Vals (permV .non pm (V.ref xa :: vs)) (permV .none pm (Value.ref xa :: us)) := vals_perm (.cons (show RelV (V.ref xa) (Value.ref xa) from rfl) rv) pm
  have hlen : us.length = (ks.map (·.1)).length := by rw [List.length_map, ← rv.length, ← rl.length, hl]
  have hM' : Mk X.K (G.cls n) fa := by rw [c.K]; exact hM
  subst hxa hdxa
  have b : ∀ s0 : Shared, BindsTo s0 fd ⟨[Value.ref (s1.heap.objs.size + 1)], (ks.map (·.1)).zip us⟩ (d2.ps.zip (permV .none pm (Value.ref (s1.heap.objs.size + 1) :: us))) := fun s0 => sh _ hsh s0 [Value.ref (s1.heap.objs.size + 1)] us rfl hlen
  have gd : (X.A.under (.builtin "type.__call__" ⟨[.ref (G.cls n)], (ks.map (·.1)).zip us⟩)).guards = some [] := by
    have hg : (Code.builtin "type.__call__" ⟨[.ref (G.cls n)], (ks.map (·.1)).zip us⟩).isGuard = false := by
      show guardIds.contains "type.__call__" = false
      decide +kernel
    simp [Around.under, Code.guards, hg, c.gd, pushGuards]
  refine PySem.wpAny_call (make_map (f := fa) I1.kIn hM'.makes hM'.init (beq_iff_eq.mp hM'.fn) (codeAny_mono (F.run _ X.stack _ _ ⟨[Value.ref (s1.heap.objs.size + 1)], (ks.map (·.1)).zip us⟩ (permV .none pm (Value.ref (s1.heap.objs.size + 1) :: us)) _ _ (WE W σ) (c.room.make (G.cls n) [] ((ks.map (·.1)).zip us)) gd
    (I2.env0.make (G.cls n) [] ((ks.map (·.1)).zip us)) (b _) r2 hq) fun r s' hq' => ?_))
  cases r with
  | error e => exact passAt c.tk σ pins _ _ e s' I2 hq'
  | ok fl =>
    cases fl with
    | ret u =>
      obtain ⟨v, H', I3, rv3, ev, q3⟩ := I2.after hq'
      subst ev
      exact ⟨rv3, ⟨V.ref (s1.heap.objs.size + 1), H', I3, rfl, q3⟩⟩
    | next => exact False.elim hq'
    | brk => exact False.elim hq'
    | cont => exact False.elim hq'
end
end Ev
/-! EvS: sorted(xs, key=f), f the def of EvK. -/
namespace Ev
open PySem PySem.W PyProof.Rows L2
section
variable {G : Gb} {w : Wd}
theorem ranks_paired : ∀ {ds : List D} {vs : List V} {us : List Value} {is : List Int}, ranksD ds = some is → RepL G w ds vs → Vals vs us → Paired Ranked us is
  | [], _, _, _, h, r, v => by
    simp only [ranksD, Option.some.injEq] at h
    subst h
    simp only [RepL] at r
    subst r
    cases v
    exact .nil
  | d :: ds, _, _, _, h, r, v => by
    simp only [ranksD] at h
    split at h
    · rename_i i is' h1 h2
      cases h
      simp only [RepL] at r
      obtain ⟨x, q, rfl, r1, r2⟩ := r
      cases v with
      | cons e t =>
        refine .cons ?_ (ranks_paired h2 r2 t)
        cases d <;> simp only [rankD, Option.some.injEq, reduceCtorEq] at h1
        · subst h1
          simp only [Rep] at r1
          subst r1
          exact .inl ⟨e, rfl⟩
        · subst h1
          simp only [Rep] at r1
          subst r1
          exact .inr e
    · cases h
theorem each_back : ∀ {ds : List D} {out : List Value}, EachIs (fun v d => ∃ u : V, RelV u v ∧ Rep G w d u) out ds → ∃ zs, Vals zs out ∧ RepL G w ds zs
  | _, _, .nil => ⟨[], .nil, RepL.nil⟩
  | _, _, .cons ⟨u, e, r⟩ t => by
    obtain ⟨zs, v, q⟩ := each_back t
    exact ⟨u :: zs, .cons e v, RepL.cons r q⟩
theorem each_to : ∀ {ds : List D} {vs : List V} {us : List Value}, RepL G w ds vs → Vals vs us → EachIs (fun v d => ∃ u : V, RelV u v ∧ Rep G w d u) us ds
  | [], _, _, r, v => by
    simp only [RepL] at r
    subst r
    cases v
    exact .nil
  | d :: ds, _, _, r, v => by
    simp only [RepL] at r
    obtain ⟨x, q, rfl, r1, r2⟩ := r
    cases v with
    | cons e t => exact .cons ⟨x, e, r1⟩ (each_to r2 t)
end
section
variable {G : Gb} {Φ : Nat → List D → Mem → Res D} {W : WX} {X : Cx} {k : Nat} {Γ : Cn}
def rSK (X : Cx) (G : Gb) : List V → List V → Hp → VK → Prop := fun vs zs H Q => ∃ (a fa : Addr) (w : Wd) (ds ds' : List D) (ys : List V) (n : Nat), vs = [V.ref a] ∧ zs = [V.ref fa] ∧ w.H = H ∧ SqL X.K H a ys ∧ RepL G w ds ys ∧ KeyFn X.prog X.w X.K X.mg fa ∧ srtD n ds = some ds' ∧
  ∀ (p : Addr) (zs' : List V), H p = none → RepL G w ds' zs' → Q (.ref p) (upd H p (.lst zs'))
theorem cr_srt (c : Ctx G Γ k X W) : CallRK X (.builtin "sorted") [Str.ofString "key"] (rSK X G) := by
  intro pins s σ H vs zs us ws Q I r rz h
  obtain ⟨a, fa, w, ds, ds', ys, n, rfl, rfl, rfl, hs, rl, kf, hd, q⟩ := h
  obtain rfl := Vals.ref1 r
  obtain ⟨w1, rfl, e1⟩ := vals1 rz
  obtain rfl : w1 = Value.ref fa := e1
  obtain ⟨its, rv, hl, hz⟩ := I.list hs
  unfold srtD at hd
  split at hd
  case isFalse => cases hd
  rename_i hall
  cases hd
  have fit : ∀ d ∈ ds, ∃ xs is, d = .tup xs ∧ ranksD xs = some is ∧ rankP d = .tuple (is.map .int) ∧ 0 < is.length ∧ is.length < 100 := fun d hm => by
    have h1 := List.all_eq_true.mp hall d hm
    split at h1
    · rename_i is e
      simp only [Bool.and_eq_true, beq_iff_eq, decide_eq_true_eq] at h1
      cases d <;> simp only [rankT, reduceCtorEq] at e
      exact ⟨_, is, rfl, e, by simp [rankP, rankT, e], by omega, by omega⟩
    · cases h1
  have hh : X.A.handled = none := c.room.hd
  refine sorted_key_data (R := fun v d => ∃ u : V, RelV u v ∧ Rep G w d u) (b := false) (bs := ds) rankP hl.isList (each_to rl rv) (fun d hd d' hd' => ?_) (.inl fun d hd => ?_) (by rw [← rl.length] at hz; exact hz) (fun d hm => ?_) (ksk_s1 _ _) (fun _ => ksk_l1 _ _) (fun _ => ksk_t1 _ _)
    (fun v d hR hm h tk kp => ?_) fun out c' h' tk kp hn hD hlen eo => ?_
  · obtain ⟨b, hb, rfl⟩ := List.mem_map.mp hd
    obtain ⟨b', hb', rfl⟩ := List.mem_map.mp hd'
    obtain ⟨_, is, _, _, e, _⟩ := fit b hb
    obtain ⟨_, is', _, _, e', _⟩ := fit b' hb'
    rw [e, e']
    simp [alike, alike_ints]
  · obtain ⟨b, hb, rfl⟩ := List.mem_map.mp hd
    obtain ⟨_, is, _, _, e, h0, _⟩ := fit b hb
    cases is with
    | nil => simp at h0
    | cons i is => exact ⟨_, _, e⟩
  · obtain ⟨_, is, _, _, e, _⟩ := fit d hm
    rw [e]
    have := c.room.un
    have hdp : (PyData.tuple (is.map .int)).depth = 1 := by simp [PyData.depth, depth_ints]
    rw [hdp]
    omega
  · obtain ⟨u, ru, rd⟩ := hR
    obtain ⟨xs, is, rfl, h1, e, _, h2⟩ := fit d hm
    obtain ⟨ta, tvs, rfl, h3, h4⟩ := Rep.tup rd
    obtain rfl : v = Value.ref ta := ru
    obtain ⟨tits, o, m, tv, ho, hc, hdt⟩ := sqT_at I.hok I.kIn (show SqT X.K w.H ta tvs from by rw [c.K]; exact h3)
    have pr := ranks_paired h1 h4 tv
    rw [e]
    exact kf X.A.in1.in1 { s with heap := h, toks := tk } X.base ta tits.toArray is I.mod (fun b o z => kp b o (I.bk b o z)) hh (by have := c.room.dp; show X.A.depth < _; omega) ⟨o, kp _ _ ho, hc, m, hdt⟩ pr
      (by have := pr.length; rw [List.size_toArray, sizeLine_eq]; omega)
  · obtain ⟨zs', v', r'⟩ := each_back eo
    have hl2 : zs'.length ≤ sizeLine := by
      rw [v'.length, hlen, rl.length]
      exact hz
    exact ⟨.ref _, upd w.H (s.heap.objs.size + 1) (.lst zs'), I.laid (t' := tk) kp (Nat.le_succ _) ⟨hl2, out, c', v', hD⟩, rfl, q _ _ (I.hok.fresh (Nat.le_succ _)) r'⟩
theorem s_srt (c : Ctx G Γ k X W) {f : Nat} {e : Ex} {a : Expr} {kws : List Keyword} {p pos : Pos} (hgl : glB Γ.sc "sorted" = true) (hok : okName "sorted" = true) (hbs : Γ.bs.contains "sorted" = true) (hm : mE e Γ a = true) (hk : srtK Γ f kws = true) (ha : PE X a (tE G Φ W e)) :
    PE X (.Call (.Name "sorted" p) [a] kws pos) (tE G Φ W (.srt f e)) := by
  unfold srtK at hk
  split at hk
  case h_2 => cases hk
  rename_i nm z zp kp
  simp only [Bool.and_eq_true] at hk
  obtain ⟨⟨⟨h1, h2⟩, h3⟩, h4⟩ := hk
  cases eqS_k h1
  split at h4
  case h_2 => cases h4
  rename_i d hd
  simp only [Bool.and_eq_true] at h4
  obtain ⟨⟨h5, h6⟩, h7⟩ := h4
  cases eqS_k h5
  obtain ⟨fa, hf1, hf2⟩ := c.rnk f d hd h7
  obtain ⟨o1, o2⟩ := ok_parts hok
  obtain ⟨o3, o4⟩ := ok_parts h3
  have hst := star_of (mE_plain hm) [] X.env
  have hL : mL [e] Γ [a] = true := by simp [mL, hm]
  refine PE.imp (pe_callBK (cr_srt c) (gl_of c hgl) (mg_none c hbs) (by rfl) (pa_cons ha pa_nil hst) (pk_cons (pe_glob (v := .ref fa) (gl_of c h2) hf1 rfl o3) pk_nil) o2 o1 ?_ ?_ rfl rfl rfl) ?_
  · rw [hst]; rfl
  · rw [hst]; rfl
  rintro σ H Q ⟨w, σd, rfl, g, rs, hp⟩
  simp only [evE] at hp
  refine ⟨w, σd, rfl, g, rs, (Post.bind hp).mono fun d w1 x1 g1 hq v r1 => ?_⟩
  split at hq
  · rename_i xs hx
    obtain ⟨l, vs, rfl, q2, q3⟩ := Rep.lst g1 r1 hx
    cases e1 : srtD (lenT (xs.headD .non)) xs with
    | none => rw [e1] at hq; exact absurd hq fun z => z
    | some ds' =>
      rw [e1] at hq
      refine ⟨l, fa, w1, xs, ds', vs, _, rfl, rfl, rfl, by rw [c.K]; exact q2, q3, hf2, e1, fun p zs' hn rz => ?_⟩
      exact hq _ (ext_new g1 hn) (wok_new g1 hn) rfl _ (rep_lst g1 hn rz)
  · exact absurd hq fun z => z
end
end Ev
/-! Ev12: a matched text is worth what its expression is. -/
namespace Ev
open PySem L2
section
variable {G : Gb} {k : Nat}
theorem mI_plain {it : It} {Γ : Cn} {tg x : Expr} (h : mI it Γ tg x = true) : plainX x = true := by
  cases it with
  | seq e => exact mE_plain (by simpa only [mI] using h)
  | rng1 _ => cases x <;> first | rfl | (simp [mI] at h)
  | rng2 _ _ => cases x <;> first | rfl | (simp [mI] at h)
  | rng3 _ _ _ => cases x <;> first | rfl | (simp [mI] at h)
  | enu _ => cases x <;> first | rfl | (cases tg <;> simp [mI] at h)
  | zip _ _ => cases x <;> first | rfl | (cases tg <;> simp [mI] at h)
  | zip3 _ => cases x <;> first | rfl | (cases tg <;> simp [mI] at h)
theorem eqS_eq {a b : Str} (h : eqS a b = true) : a = b := of_decide_eq_true h
theorem i_mdn0 {Γ : Cn} {e : Expr} (h : mE .mdn0 Γ e = true) : ∃ p, e = .Dict [] [] p := by
  cases e with
  | Dict ks vs p =>
    cases ks with
    | nil => cases vs with
      | nil => exact ⟨p, rfl⟩
      | cons _ _ => simp [mE] at h
    | cons _ _ => simp [mE] at h
  | _ => simp [mE] at h
theorem i_dnix {Γ : Cn} {o f : Ex} {e : Expr} (h : mE (.dnix o f) Γ e = true) : ∃ x y p, e = .Subscript x y p ∧ mE o Γ x = true ∧ mE f Γ y = true := by
  cases e with
  | Subscript x y p => simp only [mE, Bool.and_eq_true] at h; exact ⟨x, y, p, rfl, h.1, h.2⟩
  | _ => simp [mE] at h
theorem i_dng1 {Γ : Cn} {o f : Ex} {e : Expr} (h : mE (.dng1 o f) Γ e = true) : ∃ y a q p, e = .Call (.Attribute y "get" q) [a] [] p ∧ attrOk y = true ∧ mE o Γ y = true ∧ mE f Γ a = true ∧ (q.endLine == p.line) = true := by
  cases e with
  | Call fn args kws p => cases fn with
    | Attribute y name q =>
      match args, kws, h with
      | [a], [], h =>
        simp only [mE, Bool.and_eq_true] at h
        obtain ⟨⟨⟨⟨h1, h2⟩, h3⟩, h4⟩, h5⟩ := h
        have e1 := eqS_eq h1
        subst e1
        exact ⟨y, a, q, p, rfl, h2, h3, h4, h5⟩
      | [], _, h => simp [mE] at h
      | _ :: _ :: _, _, h => simp [mE] at h
      | [_], _ :: _, h => simp [mE] at h
    | _ => simp [mE] at h
  | _ => simp [mE] at h
theorem i_dng2 {Γ : Cn} {o f g : Ex} {e : Expr} (h : mE (.dng2 o f g) Γ e = true) : ∃ y a b q p, e = .Call (.Attribute y "get" q) [a, b] [] p ∧ attrOk y = true ∧ mE o Γ y = true ∧ mE f Γ a = true ∧ mE g Γ b = true ∧ (q.endLine == p.line) = true := by
  cases e with
  | Call fn args kws p => cases fn with
    | Attribute y name q =>
      match args, kws, h with
      | [a, b], [], h =>
        simp only [mE, Bool.and_eq_true] at h
        obtain ⟨⟨⟨⟨⟨h1, h2⟩, h3⟩, h4⟩, h6⟩, h5⟩ := h
        have e1 := eqS_eq h1
        subst e1
        exact ⟨y, a, b, q, p, rfl, h2, h3, h4, h6, h5⟩
      | [], _, h => simp [mE] at h
      | [_], _, h => simp [mE] at h
      | _ :: _ :: _ :: _, _, h => simp [mE] at h
      | [_, _], _ :: _, h => simp [mE] at h
    | _ => simp [mE] at h
  | _ => simp [mE] at h
theorem i_dnl {Γ : Cn} {o : Ex} {e : Expr} (h : mE (.dnl o) Γ e = true) : ∃ a q p, e = .Call (.Name "list" q) [a] [] p ∧ glB Γ.sc "list" = true ∧ okName "list" = true ∧ Γ.bs.contains "list" = true ∧ mE o Γ a = true := by
  cases e with
  | Call fn args kws p => cases fn with
    | Name x q =>
      match args, kws, h with
      | [a], [], h =>
        simp only [mE, Bool.and_eq_true] at h
        obtain ⟨⟨⟨⟨h1, h2⟩, h3⟩, h4⟩, h5⟩ := h
        have e1 := eqS_eq h1
        subst e1
        exact ⟨a, q, p, rfl, h2, h3, h4, h5⟩
      | [], _, h => simp [mE] at h
      | _ :: _ :: _, _, h => simp [mE] at h
      | [_], _ :: _, h => simp [mE] at h
    | _ => simp [mE] at h
  | _ => simp [mE] at h
theorem i_dnn {Γ : Cn} {o : Ex} {e : Expr} (h : mE (.dnn o) Γ e = true) : ∃ a q p, e = .Call (.Name "len" q) [a] [] p ∧ glB Γ.sc "len" = true ∧ okName "len" = true ∧ Γ.bs.contains "len" = true ∧ mE o Γ a = true := by
  cases e with
  | Call fn args kws p => cases fn with
    | Name x q =>
      match args, kws, h with
      | [a], [], h =>
        simp only [mE, Bool.and_eq_true] at h
        obtain ⟨⟨⟨⟨h1, h2⟩, h3⟩, h4⟩, h5⟩ := h
        have e1 := eqS_eq h1
        subst e1
        exact ⟨a, q, p, rfl, h2, h3, h4, h5⟩
      | [], _, h => simp [mE] at h
      | _ :: _ :: _, _, h => simp [mE] at h
      | [_], _ :: _, h => simp [mE] at h
    | _ => simp [mE] at h
  | _ => simp [mE] at h
theorem i_dni {Γ : Cn} {o : Ex} {e : Expr} (h : mE (.dni o) Γ e = true) : ∃ y q2 q p2 p, e = .Call (.Name "list" q2) [.Call (.Attribute y "items" q) [] [] p2] [] p ∧ glB Γ.sc "list" = true ∧ Γ.bs.contains "list" = true ∧ attrOk y = true ∧ (q.endLine == p2.line) = true ∧ mE o Γ y = true := by
  cases e with
  | Call fn args kws p => cases fn with
    | Name x q2 =>
      match args, kws, h with
      | [a], [], h =>
        cases a with
        | Call fn2 args2 kws2 p2 => cases fn2 with
          | Attribute y name q =>
            match args2, kws2, h with
            | [], [], h =>
              simp only [mE, Bool.and_eq_true] at h
              obtain ⟨⟨⟨⟨⟨⟨⟨h1, h2⟩, h3⟩, h4⟩, h5⟩, h6⟩, h7⟩, h8⟩ := h
              have e1 := eqS_eq h1
              subst e1
              have e2 := eqS_eq h5
              subst e2
              exact ⟨y, q2, q, p2, p, rfl, h2, h4, h6, h8, h7⟩
            | _ :: _, _, h => simp [mE] at h
            | [], _ :: _, h => simp [mE] at h
          | _ => simp [mE] at h
        | _ => simp [mE] at h
      | [], _, h => simp [mE] at h
      | _ :: _ :: _, _, h => simp [mE] at h
      | [_], _ :: _, h => simp [mE] at h
    | _ => simp [mE] at h
  | _ => simp [mE] at h
theorem i_lset {Γ : Cn} {o : Ex} {e : Expr} (h : mE (.lset o) Γ e = true) : ∃ a q2 q p2 p, e = .Call (.Name "len" q2) [.Call (.Name "set" q) [a] [] p2] [] p ∧ glB Γ.sc "len" = true ∧ Γ.bs.contains "len" = true ∧ glB Γ.sc "set" = true ∧ Γ.bs.contains "set" = true ∧ mE o Γ a = true := by
  cases e with
  | Call fn args kws p => cases fn with
    | Name x q2 =>
      match args, kws, h with
      | [a], [], h =>
        cases a with
        | Call fn2 args2 kws2 p2 => cases fn2 with
          | Name z q =>
            match args2, kws2, h with
            | [y], [], h =>
              simp only [mE, Bool.and_eq_true] at h
              obtain ⟨⟨⟨⟨⟨⟨⟨⟨h1, h2⟩, h3⟩, h4⟩, h5⟩, h6⟩, h7⟩, h8⟩, h9⟩ := h
              have e1 := eqS_eq h1
              subst e1
              have e2 := eqS_eq h5
              subst e2
              exact ⟨y, q2, q, p2, p, rfl, h2, h4, h6, h8, h9⟩
            | [], _, h => simp [mE] at h
            | _ :: _ :: _, _, h => simp [mE] at h
            | [_], _ :: _, h => simp [mE] at h
          | _ => simp [mE] at h
        | _ => simp [mE] at h
      | [], _, h => simp [mE] at h
      | _ :: _ :: _, _, h => simp [mE] at h
      | [_], _ :: _, h => simp [mE] at h
    | _ => simp [mE] at h
  | _ => simp [mE] at h
theorem i_srt {Γ : Cn} {f : Nat} {o : Ex} {e : Expr} (h : mE (.srt f o) Γ e = true) : ∃ a q kws p, e = .Call (.Name "sorted" q) [a] kws p ∧ glB Γ.sc "sorted" = true ∧ okName "sorted" = true ∧ Γ.bs.contains "sorted" = true ∧ mE o Γ a = true ∧ srtK Γ f kws = true := by
  cases e with
  | Call fn args kws p => cases fn with
    | Name x q =>
      match args, h with
      | [a], h =>
        simp only [mE, Bool.and_eq_true] at h
        obtain ⟨⟨⟨⟨⟨h1, h2⟩, h3⟩, h4⟩, h5⟩, h6⟩ := h
        have e1 := eqS_eq h1
        subst e1
        exact ⟨a, q, kws, p, rfl, h2, h3, h4, h5, h6⟩
      | [], h => simp [mE] at h
      | _ :: _ :: _, h => simp [mE] at h
    | _ => simp [mE] at h
  | _ => simp [mE] at h
theorem i_mck {Γ : Cn} {m : Str} {tbl : List (Nat × Nat)} {o : Ex} {es : List Ex} {ks : List (Str × Ex)} {pm : List Nat} {e : Expr} (h : mE (.mck m tbl o es ks pm) Γ e = true) :
    ∃ y q args kws p, e = .Call (.Attribute y m q) args kws p ∧ attrOk y = true ∧ mE o Γ y = true ∧ mL es Γ args = true ∧ mK ks Γ kws = true ∧ (q.endLine == p.line) = true ∧ args.length + kws.length < 12 ∧
      ∀ p ∈ tbl, ∃ cf d, Γ.cs[p.1]? = some cf ∧ Γ.P[p.2]? = some d ∧ cf.meths.lookup m = some p.2 ∧ (es.length + 1, ks.map (·.1), pm) ∈ d.shapes := by
  cases e with
  | Call fn args kws p => cases fn with
    | Attribute y name q =>
      simp only [mE, Bool.and_eq_true, decide_eq_true_eq] at h
      obtain ⟨⟨⟨⟨⟨⟨⟨h1, h2⟩, h3⟩, h4⟩, h5⟩, h6⟩, h7⟩, h8⟩ := h
      have e1 := eqS_eq h1
      subst e1
      refine ⟨y, q, args, kws, p, rfl, h2, h3, h4, h5, h6, h7, fun pr hpr => ?_⟩
      have h9 := List.all_eq_true.mp h8 pr hpr
      split at h9
      · rename_i cf d hc hd
        simp only [Bool.and_eq_true, decide_eq_true_eq] at h9
        exact ⟨cf, d, hc, hd, h9.1, h9.2⟩
      · cases h9
    | _ => simp [mE] at h
  | _ => simp [mE] at h
theorem i_mnk {Γ : Cn} {n f : Nat} {ks : List (Str × Ex)} {pm : List Nat} {e : Expr} (h : mE (.mnk n f ks pm) Γ e = true) :
    ∃ x q kws p cf d, e = .Call (.Name x q) [] kws p ∧ glB Γ.sc x = true ∧ okName x = true ∧ mK ks Γ kws = true ∧ Γ.cs[n]? = some cf ∧ cf.name = x ∧ cf.init = some f ∧ Γ.P[f]? = some d ∧ (1, ks.map (·.1), pm) ∈ d.shapes := by
  cases e with
  | Call fn args kws p => cases fn with
    | Name x q => cases args with
      | nil =>
        simp only [mE, Bool.and_eq_true] at h
        obtain ⟨⟨⟨h1, h2⟩, h3⟩, h4⟩ := h
        split at h4
        · rename_i cf d hc hd
          simp only [Bool.and_eq_true, decide_eq_true_eq] at h4
          obtain ⟨⟨h6, h7⟩, h8⟩ := h4
          exact ⟨x, q, kws, p, cf, d, rfl, h1, h2, h3, hc, eqS_eq h6, h7, hd, h8⟩
        · cases h4
      | cons _ _ => simp [mE] at h
    | _ => simp [mE] at h
  | _ => simp [mE] at h
theorem i_dctN {Γ : Cn} {o : Ex} {e : Expr} (h : mE (.dctN o) Γ e = true) : ∃ a q p, e = .Call (.Name "dict" q) [a] [] p ∧ glB Γ.sc "dict" = true ∧ okName "dict" = true ∧ Γ.bs.contains "dict" = true ∧ mE o Γ a = true := by
  cases e with
  | Call fn args kws p => cases fn with
    | Name x q => cases kws with
      | nil => match args, h with
        | [a], h =>
          simp only [mE, Bool.and_eq_true] at h
          obtain ⟨⟨⟨⟨h1, h2⟩, h3⟩, h4⟩, h5⟩ := h
          have e1 := eqS_eq h1
          subst e1
          exact ⟨a, q, p, rfl, h2, h3, h4, h5⟩
        | [], h => simp [mE] at h
        | _ :: _ :: _, h => simp [mE] at h
      | cons _ _ => simp [mE] at h
    | _ => simp [mE] at h
  | _ => simp [mE] at h
set_option maxHeartbeats 0 in
mutual
theorem sE : ∀ (x : Ex) (Γ : Cn) (X : Cx) (W : WX) (e : Expr), Ctx G Γ k X W → mE x Γ e = true → PE X e (tE G (evF Γ.P k) W x)
  | .var i, Γ, X, W, e, c, h => by
    cases e with
    | Name y p => simp only [mE] at h; exact s_var c h
    | _ => simp [mE] at h
  | .non, Γ, X, W, e, c, h => by
    cases e with
    | Constant v j p => cases v with
      | none => exact s_con pe_non (fun w => rep_non) fun σ M => by simp only [evE]
      | _ => simp [mE] at h
    | _ => simp [mE] at h
  | .bl b, Γ, X, W, e, c, h => by
    cases e with
    | Constant v j p => cases v with
      | bool b' =>
        have : b = b' := by simpa [mE] using h
        subst this
        exact s_con pe_bl (fun w => rep_bl) fun σ M => by simp only [evE]
      | _ => simp [mE] at h
    | _ => simp [mE] at h
  | .int i, Γ, X, W, e, c, h => by
    cases e with
    | Constant v j p => cases v with
      | int b' =>
        have : i = b' := by simpa [mE] using h
        subst this
        exact s_con pe_int (fun w => rep_int) fun σ M => by simp only [evE]
      | _ => simp [mE] at h
    | Name y q =>
        simp only [mE] at h
        exact s_glb c (v := GC.int _) h rep_gint fun σ M => by simp only [evE]
    | _ => simp [mE] at h
  | .str s, Γ, X, W, e, c, h => by
    cases e with
    | Constant v j p => cases v with
      | str b' =>
        have : s = b' := eqS_eq (by simpa only [mE] using h)
        subst this
        exact s_con pe_str (fun w => rep_str) fun σ M => by simp only [evE]
      | _ => simp [mE] at h
    | Name y q =>
        simp only [mE] at h
        exact s_glb c (v := GC.str _) h rep_gstr fun σ M => by simp only [evE]
    | _ => simp [mE] at h
  | .bin o a b, Γ, X, W, e, c, h => by
    cases e with
    | BinOp x op y p =>
      simp only [mE, Bool.and_eq_true, decide_eq_true_eq] at h
      obtain ⟨⟨rfl, h1⟩, h2⟩ := h
      exact s_bin c (sE a Γ X W x c h1) (sE b Γ X W y c h2)
    | _ => simp [mE] at h
  | .cmp o a b, Γ, X, W, e, c, h => by
    cases e with
    | Compare x ops ys p =>
      match ops, ys, h with
      | [op], [y], h =>
        simp only [mE, Bool.and_eq_true, decide_eq_true_eq] at h
        obtain ⟨⟨rfl, h1⟩, h2⟩ := h
        exact s_cmp c (sE a Γ X W x c h1) (sE b Γ X W y c h2) (mE_plain h2)
      | [], _, h => simp [mE] at h
      | [_], [], h => simp [mE] at h
      | [_], _ :: _ :: _, h => simp [mE] at h
      | _ :: _ :: _, _, h => simp [mE] at h
    | _ => simp [mE] at h
  | .chn o q a b d, Γ, X, W, e, c, h => by
    cases e with
    | Compare x ops ys p =>
      match ops, ys, h with
      | [op, oq], [y, z], h =>
        simp only [mE, Bool.and_eq_true, decide_eq_true_eq] at h
        obtain ⟨⟨⟨⟨rfl, rfl⟩, h1⟩, h2⟩, h3⟩ := h
        exact s_chn c (sE a Γ X W x c h1) (sE b Γ X W y c h2) (sE d Γ X W z c h3) (mE_plain h3)
      | [], _, h => simp [mE] at h
      | [_], _, h => simp [mE] at h
      | [_, _], [], h => simp [mE] at h
      | [_, _], [_], h => simp [mE] at h
      | [_, _], _ :: _ :: _ :: _, h => simp [mE] at h
      | _ :: _ :: _ :: _, _, h => simp [mE] at h
    | _ => simp [mE] at h
  | .and a b, Γ, X, W, e, c, h => by
    cases e with
    | BoolOp op vs p =>
      match op, vs, h with
      | .And, [x, y], h =>
        simp only [mE, Bool.and_eq_true] at h
        exact s_and c (sE a Γ X W x c h.1) (pe_one (sE b Γ X W y c h.2))
      | .And, x :: y :: z :: rest, h =>
        simp only [mE, Bool.and_eq_true] at h
        exact s_and c (sE a Γ X W x c h.1) (sE b Γ X W _ c h.2)
      | .And, [], h => simp [mE] at h
      | .And, [_], h => simp [mE] at h
      | .Or, _, h => simp [mE] at h
    | _ => simp [mE] at h
  | .or a b, Γ, X, W, e, c, h => by
    cases e with
    | BoolOp op vs p =>
      match op, vs, h with
      | .Or, [x, y], h =>
        simp only [mE, Bool.and_eq_true] at h
        exact s_or c (sE a Γ X W x c h.1) (pe_one (sE b Γ X W y c h.2))
      | .Or, x :: y :: z :: rest, h =>
        simp only [mE, Bool.and_eq_true] at h
        exact s_or c (sE a Γ X W x c h.1) (sE b Γ X W _ c h.2)
      | .Or, [], h => simp [mE] at h
      | .Or, [_], h => simp [mE] at h
      | .And, _, h => simp [mE] at h
    | _ => simp [mE] at h
  | .not a, Γ, X, W, e, c, h => by
    cases e with
    | UnaryOp op x p => cases op with
      | Not => simp only [mE] at h; exact s_not (sB a Γ X W x c h).1 c (sE a Γ X W x c h)
      | _ => simp [mE] at h
    | _ => simp [mE] at h
  | .neg a, Γ, X, W, e, c, h => by
    cases e with
    | UnaryOp op x p => cases op with
      | USub => simp only [mE] at h; exact s_neg (sE a Γ X W x c h)
      | _ => simp [mE] at h
    | _ => simp [mE] at h
  | .ite t a b, Γ, X, W, e, c, h => by
    cases e with
    | IfExp z x y p =>
      simp only [mE, Bool.and_eq_true] at h
      exact s_ite (sB t Γ X W z c h.1.1).1 (sE a Γ X W x c h.1.2) (sE b Γ X W y c h.2)
    | _ => simp [mE] at h
  | .tup es, Γ, X, W, e, c, h => by
    cases e with
    | Name y q =>
      simp only [mE] at h
      exact s_gtup c h
    | Tuple xs n p => simp only [mE] at h; exact s_tup (sL es Γ X W xs c h)
    | _ => simp [mE] at h
  | .stup a es, Γ, X, W, e, c, h => by
    cases e with
    | Tuple ys n p =>
      simp only [mE] at h
      split at h
      · simp only [Bool.and_eq_true] at h
        exact s_stup c (sE a Γ X W _ c h.1) (sL es Γ X W _ c h.2)
      · cases h
    | _ => simp [mE] at h
  | .lst es, Γ, X, W, e, c, h => by
    cases e with
    | List xs p => simp only [mE] at h; exact s_lst (sL es Γ X W xs c h)
    | _ => simp [mE] at h
  | .mls es, Γ, X, W, e, c, h => by
    cases e with
    | List xs p => simp only [mE] at h; exact s_mls (sL es Γ X W xs c h)
    | _ => simp [mE] at h
  | .ix a b, Γ, X, W, e, c, h => by
    cases e with
    | Subscript x y p =>
      have h' : mE a Γ x = true ∧ mE b Γ y = true := by
        cases y <;> simpa [mE] using h
      exact s_ix c (sE a Γ X W x c h'.1) (sE b Γ X W y c h'.2) (mE_plain h'.2)
    | _ => simp [mE] at h
  | .slc a lo hi, Γ, X, W, e, c, h => by
    cases e with
    | Subscript x y p => cases y with
      | Slice l u st p2 => cases st with
        | none =>
          simp only [mE, Bool.and_eq_true] at h
          exact s_slc c (sE a Γ X W x c h.1.1) (sO lo Γ X W l c h.1.2) (sO hi Γ X W u c h.2)
        | some _ => simp [mE] at h
      | _ => simp [mE] at h
    | _ => simp [mE] at h
  | .rev a, Γ, X, W, e, c, h => by
    cases e with
    | Subscript x y p =>
      simp only [mE, Bool.and_eq_true] at h
      obtain ⟨n, p1, p2, p3, rfl⟩ := isRev_of h.1
      exact s_rev c (sE a Γ X W x c h.2)
    | _ => simp [mE] at h
  | .call f es ks pm, Γ, X, W, e, c, h => by
    cases e with
    | Call fn args kws p => cases fn with
      | Name x q =>
        simp only [mE] at h
        split at h
        · rename_i d hd
          simp only [Bool.and_eq_true, decide_eq_true_eq] at h
          obtain ⟨⟨⟨⟨⟨⟨h1, h0⟩, h2⟩, h3⟩, h4⟩, h5⟩, h6⟩ := h
          exact s_call c hd (eqS_eq h1) h0 h2 h3 h4 h5 h6 (sL es Γ X W args c h4) (sK ks Γ X W kws c h5)
        · cases h
      | _ => simp [mE] at h
    | _ => simp [mE] at h
  | .bi b es, Γ, X, W, e, c, h => by
    cases e with
    | Call fn args kws p => cases fn with
      | Name x q => cases kws with
        | nil =>
          simp only [mE, Bool.and_eq_true] at h
          obtain ⟨⟨⟨⟨⟨h1, h2⟩, h3⟩, h4⟩, h5⟩, h6⟩ := h
          exact s_bi c (eqS_eq h1) h2 h3 h4 h5 (fun z => by rw [z] at h6; cases h6) (sL es Γ X W args c h5)
        | cons _ _ => simp [mE] at h
      | _ => simp [mE] at h
    | _ => simp [mE] at h
  | .fldE a f, Γ, X, W, e, c, h => by
    cases e with
    | Attribute x name p =>
      simp only [mE, Bool.and_eq_true] at h
      obtain ⟨⟨⟨h1, h2⟩, h3⟩, h4⟩ := h
      have e1 := eqS_eq h1
      subst e1
      exact s_fldE c (sE a Γ X W x c h3) h2 h4
    | _ => simp [mE] at h
  | .mcall m tbl o es, Γ, X, W, e, c, h => by
    cases e with
    | Call fn args kws p => cases fn with
      | Attribute y name q => cases kws with
        | nil =>
          simp only [mE, Bool.and_eq_true, decide_eq_true_eq] at h
          obtain ⟨⟨⟨⟨⟨⟨⟨h1, h2⟩, h3⟩, h4⟩, h5⟩, h6⟩, h7⟩, h8⟩ := h
          have e1 := eqS_eq h1
          subst e1
          refine s_mcall c h2 h4 (fun z => by rw [z] at h7; cases h7) h5 h6 (fun pr hpr => ?_) (sE o Γ X W y c h3) (sL es Γ X W args c h4)
          have h9 := List.all_eq_true.mp h8 pr hpr
          split at h9
          · rename_i cf d hc hd
            simp only [Bool.and_eq_true, decide_eq_true_eq] at h9
            exact ⟨cf, d, hc, hd, h9.1, h9.2⟩
          · cases h9
        | cons _ _ => simp [mE] at h
      | _ => simp [mE] at h
    | _ => simp [mE] at h
  | .new n f es, Γ, X, W, e, c, h => by
    cases e with
    | Call fn args kws p => cases fn with
      | Name x q => cases kws with
        | nil =>
          simp only [mE, Bool.and_eq_true] at h
          obtain ⟨⟨⟨⟨h1, h2⟩, h3⟩, h4⟩, h5⟩ := h
          split at h5
          · rename_i cf d hc hd
            simp only [Bool.and_eq_true, decide_eq_true_eq] at h5
            obtain ⟨⟨h6, h7⟩, h8⟩ := h5
            exact s_new c h1 h2 h3 (fun z => by rw [z] at h4; cases h4) hc (eqS_eq h6) h7 hd h8 (sL es Γ X W args c h3)
          · cases h5
        | cons _ _ => simp [mE] at h
      | _ => simp [mE] at h
    | _ => simp [mE] at h
  | .isc e' y subs, Γ, X, W, e, c, h => by
    cases e with
    | Call fn args kws p => cases fn with
      | Name x q =>
        match args, kws, h with
        | [a, b], [], h =>
          cases b with
          | Name z p2 =>
            simp only [mE, Bool.and_eq_true] at h
            obtain ⟨⟨⟨⟨⟨⟨⟨⟨⟨h1, h2⟩, h3⟩, h4⟩, h5⟩, h6⟩, h7⟩, h8⟩, h9⟩, h10⟩ := h
            have e1 := eqS_eq h1
            subst e1
            have e2 := eqS_eq h5
            subst e2
            exact s_isc c h2 h3 h4 h6 h7 h8 (sE e' Γ X W a c h8) h10 (fun z => by rw [z] at h9; cases h9)
          | _ => simp [mE] at h
        | [], _, h => simp [mE] at h
        | [_], _, h => simp [mE] at h
        | _ :: _ :: _ :: _, _, h => simp [mE] at h
        | [_, _], _ :: _, h => simp [mE] at h
      | _ => simp [mE] at h
    | _ => simp [mE] at h
  | .dc a b t it cc vs, Γ, X, W, e, c, h => by
    cases e with
    | DictComp kx vx gs scope p =>
      match gs, h with
      | [⟨tg, iter, ifs, as⟩], h =>
        simp only [mE, Bool.and_eq_true, decide_eq_true_eq] at h
        obtain ⟨⟨⟨⟨⟨⟨⟨⟨rfl, h1⟩, h2⟩, h3⟩, h4⟩, h5⟩, h6⟩, h7⟩, h8⟩ := h
        have hit : ∀ x, foldedSetIterable iter X.env x = pure x := folded_of (mI_plain h1) X.env
        exact s_dc c h2 h3 h5 hit (sI it Γ X W tg iter c h1) (fun s H C cl fp => sT t (Γ.blk scope) _ _ tg c.blk h4) (fun s H C cl fp => sC cc (Γ.blk scope) _ _ ifs c.blk h6)
          (fun s H C cl fp => sE a (Γ.blk scope) _ _ kx c.blk h7) (fun s H C cl fp => sE b (Γ.blk scope) _ _ vx c.blk h8)
      | [], h => simp [mE] at h
      | _ :: _ :: _, h => simp [mE] at h
    | _ => simp [mE] at h
  | .dix o e', Γ, X, W, e, c, h => by
    cases e with
    | Subscript x y p =>
      simp only [mE, Bool.and_eq_true] at h
      exact s_dix c (sE o Γ X W x c h.1) (sE e' Γ X W y c h.2) (mE_plain h.2)
    | _ => simp [mE] at h
  | .dgt o e', Γ, X, W, e, c, h => by
    cases e with
    | Call fn args kws p => cases fn with
      | Attribute y name q =>
        match args, kws, h with
        | [a], [], h =>
          simp only [mE, Bool.and_eq_true] at h
          obtain ⟨⟨⟨⟨h1, h2⟩, h3⟩, h4⟩, h5⟩ := h
          have e1 := eqS_eq h1
          subst e1
          exact s_dgt c h2 h4 h5 (sE o Γ X W y c h3) (sE e' Γ X W a c h4)
        | [], _, h => simp [mE] at h
        | _ :: _ :: _, _, h => simp [mE] at h
        | [_], _ :: _, h => simp [mE] at h
      | _ => simp [mE] at h
    | _ => simp [mE] at h
  | .lrg1 b, Γ, X, W, e, c, h => by
    cases e with
    | Call fn args kws p => cases fn with
      | Name x q =>
        match args, kws, h with
        | [a], [], h =>
          cases a with
          | Call fn2 args2 kws2 p2 => cases fn2 with
            | Name z q2 =>
              match args2, kws2, h with
              | [y], [], h =>
                simp only [mE, Bool.and_eq_true] at h
                obtain ⟨⟨⟨⟨⟨⟨⟨⟨h1, h2⟩, h3⟩, h4⟩, h5⟩, h6⟩, h7⟩, h8⟩, h9⟩ := h
                have e1 := eqS_eq h1
                subst e1
                have e2 := eqS_eq h5
                subst e2
                exact s_lrg1 c h2 h4 h6 h8 h9 (sE b Γ X W y c h9)
              | [], _, h => simp [mE] at h
              | _ :: _ :: _, _, h => simp [mE] at h
              | [_], _ :: _, h => simp [mE] at h
            | _ => simp [mE] at h
          | _ => simp [mE] at h
        | [], _, h => simp [mE] at h
        | _ :: _ :: _, _, h => simp [mE] at h
        | [_], _ :: _, h => simp [mE] at h
      | _ => simp [mE] at h
    | _ => simp [mE] at h
  | .mmul a b, Γ, X, W, e, c, h => by
    cases e with
    | BinOp x op y p =>
      simp only [mE, Bool.and_eq_true, decide_eq_true_eq] at h
      obtain ⟨⟨rfl, h1⟩, h2⟩ := h
      exact s_mmul c (sE a Γ X W x c h1) (sE b Γ X W y c h2)
    | _ => simp [mE] at h
  | .madd a b, Γ, X, W, e, c, h => by
    cases e with
    | BinOp x op y p =>
      simp only [mE, Bool.and_eq_true, decide_eq_true_eq] at h
      obtain ⟨⟨rfl, h1⟩, h2⟩ := h
      exact s_madd c (sE a Γ X W x c h1) (sE b Γ X W y c h2)
    | _ => simp [mE] at h
  | .mrg1 b, Γ, X, W, e, c, h => by
    cases e with
    | Call fn args kws p => cases fn with
      | Name x q =>
        match args, kws, h with
        | [a], [], h =>
          cases a with
          | Call fn2 args2 kws2 p2 => cases fn2 with
            | Name z q2 =>
              match args2, kws2, h with
              | [y], [], h =>
                simp only [mE, Bool.and_eq_true] at h
                obtain ⟨⟨⟨⟨⟨⟨⟨⟨h1, h2⟩, h3⟩, h4⟩, h5⟩, h6⟩, h7⟩, h8⟩, h9⟩ := h
                have e1 := eqS_eq h1
                subst e1
                have e2 := eqS_eq h5
                subst e2
                exact s_mrg1 c h2 h4 h6 h8 h9 (sE b Γ X W y c h9)
              | [], _, h => simp [mE] at h
              | _ :: _ :: _, _, h => simp [mE] at h
              | [_], _ :: _, h => simp [mE] at h
            | _ => simp [mE] at h
          | _ => simp [mE] at h
        | [], _, h => simp [mE] at h
        | _ :: _ :: _, _, h => simp [mE] at h
        | [_], _ :: _, h => simp [mE] at h
      | _ => simp [mE] at h
    | _ => simp [mE] at h
  | .lrg2 a b, Γ, X, W, e, c, h => by
    cases e with
    | Call fn args kws p => cases fn with
      | Name x q =>
        match args, kws, h with
        | [a'], [], h =>
          cases a' with
          | Call fn2 args2 kws2 p2 => cases fn2 with
            | Name z q2 =>
              match args2, kws2, h with
              | [u, y], [], h =>
                simp only [mE, Bool.and_eq_true] at h
                obtain ⟨⟨⟨⟨⟨⟨⟨⟨⟨h1, h2⟩, h3⟩, h4⟩, h5⟩, h6⟩, h7⟩, h8⟩, h9⟩, h10⟩ := h
                have e1 := eqS_eq h1
                subst e1
                have e2 := eqS_eq h5
                subst e2
                exact s_lrg2 c h2 h4 h6 h8 h9 h10 (sE a Γ X W u c h9) (sE b Γ X W y c h10)
              | [], _, h => simp [mE] at h
              | [_], _, h => simp [mE] at h
              | _ :: _ :: _ :: _, _, h => simp [mE] at h
              | [_, _], _ :: _, h => simp [mE] at h
            | _ => simp [mE] at h
          | _ => simp [mE] at h
        | [], _, h => simp [mE] at h
        | _ :: _ :: _, _, h => simp [mE] at h
        | [_], _ :: _, h => simp [mE] at h
      | _ => simp [mE] at h
    | _ => simp [mE] at h
  | .dct0, Γ, X, W, e, c, h => by
    cases e with
    | Dict ks vs p =>
      cases ks with
      | nil => cases vs with
        | nil => exact s_dct0
        | cons _ _ => simp [mE] at h
      | cons _ _ => simp [mE] at h
    | _ => simp [mE] at h
  | .dct1 a b, Γ, X, W, e, c, h => by
    cases e with
    | Dict ks vs p =>
      match ks, vs, h with
      | [some x], [y], h =>
        simp only [mE, Bool.and_eq_true] at h
        obtain ⟨⟨⟨h1, h2⟩, h3⟩, h4⟩ := h
        exact (s_dct1 c h1 h2 h3 h4)
      | [], _, h => simp [mE] at h
      | none :: _, _, h => simp [mE] at h
      | some _ :: _ :: _, _, h => simp [mE] at h
      | [some _], [], h => simp [mE] at h
      | [some _], _ :: _ :: _, h => simp [mE] at h
    | _ => simp [mE] at h
  | .mbl e', Γ, X, W, e, c, h => by
    cases e with
    | Call fn args kws p => cases fn with
      | Name x q =>
        match args, kws, h with
        | [a], [], h =>
          simp only [mE, Bool.and_eq_true] at h
          obtain ⟨⟨⟨⟨h1, h2⟩, h3⟩, h4⟩, h5⟩ := h
          exact s_mbl c (eqS_eq h1) h2 h3 h4 h5 (sE e' Γ X W a c h5)
        | [], _, h => simp [mE] at h
        | _ :: _ :: _, _, h => simp [mE] at h
        | [_], _ :: _, h => simp [mE] at h
      | _ => simp [mE] at h
    | _ => simp [mE] at h
  | .isi a ts, Γ, X, W, e, c, h => by
    cases e with
    | Call fn args kws p => cases fn with
      | Name x q =>
        match args, kws, h with
        | [y, cl], [], h =>
          simp only [mE, Bool.and_eq_true] at h
          obtain ⟨⟨⟨⟨⟨⟨h1, h2⟩, h3⟩, h4⟩, h5⟩, h6⟩, h7⟩ := h
          exact s_isi c (eqS_eq h1) h2 h3 h4 (fun t ht => List.all_eq_true.mp h7 t ht) h6 (mE_plain h5) (sE a Γ X W y c h5)
        | [], _, h => simp [mE] at h
        | [_], _, h => simp [mE] at h
        | _ :: _ :: _ :: _, _, h => simp [mE] at h
        | [_, _], _ :: _, h => simp [mE] at h
      | _ => simp [mE] at h
    | _ => simp [mE] at h
  | .meth m o es, Γ, X, W, e, c, h => by
    cases e with
    | Call fn args kws p => cases fn with
      | Attribute y name q => cases kws with
        | nil =>
          simp only [mE, Bool.and_eq_true, decide_eq_true_eq] at h
          obtain ⟨⟨⟨⟨⟨⟨h1, h2⟩, h3⟩, h4⟩, h5⟩, h6⟩, h7⟩ := h
          rw [eqS_eq h1]
          exact s_meth c h2 h4 (fun z => by rw [z] at h5; cases h5) h6 h7 (sE o Γ X W y c h3) (sL es Γ X W args c h4)
        | cons _ _ => simp [mE] at h
      | _ => simp [mE] at h
    | _ => simp [mE] at h
  | .lc a t it cc vs, Γ, X, W, e, c, h => by
    cases e with
    | ListComp elt gs scope p =>
      match gs, h with
      | [⟨tg, iter, ifs, as⟩], h =>
        simp only [mE, Bool.and_eq_true, decide_eq_true_eq] at h
        obtain ⟨⟨⟨⟨⟨⟨⟨rfl, h1⟩, h2⟩, h3⟩, h4⟩, h5⟩, h6⟩, h7⟩ := h
        have hit : ∀ x, foldedSetIterable iter X.env x = pure x := folded_of (mI_plain h1) X.env
        exact s_lc c h2 h3 h5 hit (sI it Γ X W tg iter c h1) (fun s H C cl fp => sT t (Γ.blk scope) _ _ tg c.blk h4) (fun s H C cl fp => sC cc (Γ.blk scope) _ _ ifs c.blk h6)
          (fun s H C cl fp => sE a (Γ.blk scope) _ _ elt c.blk h7)
      | [], h => simp [mE] at h
      | _ :: _ :: _, h => simp [mE] at h
    | _ => simp [mE] at h
  | .lc2 a t it cc t1 it1 cc1 vs vs1, Γ, X, W, e, c, h => by
    cases e with
    | ListComp elt gs scope p =>
      match gs, h with
      | [⟨tg, iter, ifs, as⟩, ⟨tg1, iter1, ifs1, as1⟩], h =>
        simp only [mE, Bool.and_eq_true, decide_eq_true_eq] at h
        obtain ⟨⟨⟨⟨⟨⟨⟨⟨⟨⟨⟨⟨⟨rfl, rfl⟩, h1⟩, h2⟩, h3⟩, h4⟩, h5⟩, h6⟩, h7⟩, h8⟩, h9⟩, h10⟩, h11⟩, h12⟩ := h
        have hit : ∀ x, foldedSetIterable iter X.env x = pure x := folded_of (mI_plain h1) X.env
        exact s_lc2 c h2 h3 h5 h9 h10 hit (fun env => folded_of (mI_plain h7) env) (sI it Γ X W tg iter c h1) (fun s H C cl fp => sT t (Γ.blk scope) _ _ tg c.blk h4) (fun s H C cl fp => sC cc (Γ.blk scope) _ _ ifs c.blk h6)
          (fun s H C cl fp => sI it1 (Γ.blk scope) _ _ tg1 iter1 c.blk h7) (fun s H C cl fp => sT t1 (Γ.blk scope) _ _ tg1 c.blk h8) (fun s H C cl fp => sC cc1 (Γ.blk scope) _ _ ifs1 c.blk h11) (fun s H C cl fp => sE a (Γ.blk scope) _ _ elt c.blk h12)
      | [], h => simp [mE] at h
      | [_], h => simp [mE] at h
      | _ :: _ :: _ :: _, h => simp [mE] at h
    | _ => simp [mE] at h
  | .frz i, Γ, X, W, e, c, h => by
    cases e with
    | Name y p => simp only [mE] at h; exact s_frz c h
    | _ => simp [mE] at h
  | .mdn0, Γ, X, W, e, c, h => by
    obtain ⟨_, rfl⟩ := i_mdn0 h
    exact s_mdn0 c
  | .dnix o f, Γ, X, W, e, c, h => by
    obtain ⟨x, y, p, rfl, h1, h2⟩ := i_dnix h
    exact s_dnix c (sE o Γ X W x c h1) (sE f Γ X W y c h2) (mE_plain h2)
  | .dng1 o f, Γ, X, W, e, c, h => by
    obtain ⟨y, a, q, p, rfl, h2, h3, h4, h5⟩ := i_dng1 h
    exact s_dng1 c h2 h4 h5 (sE o Γ X W y c h3) (sE f Γ X W a c h4)
  | .dng2 o f g, Γ, X, W, e, c, h => by
    obtain ⟨y, a, b, q, p, rfl, h2, h3, h4, h6, h5⟩ := i_dng2 h
    exact s_dng2 c h2 h4 h6 h5 (sE o Γ X W y c h3) (sE f Γ X W a c h4) (sE g Γ X W b c h6)
  | .dnl o, Γ, X, W, e, c, h => by
    obtain ⟨a, q, p, rfl, h2, h3, h4, h5⟩ := i_dnl h
    exact s_dnl c rfl h2 h3 h4 h5 (sE o Γ X W a c h5)
  | .dnn o, Γ, X, W, e, c, h => by
    obtain ⟨a, q, p, rfl, h2, h3, h4, h5⟩ := i_dnn h
    exact s_dnn c rfl h2 h3 h4 h5 (sE o Γ X W a c h5)
  | .dni o, Γ, X, W, e, c, h => by
    obtain ⟨y, q2, q, p2, p, rfl, h2, h4, h6, h8, h7⟩ := i_dni h
    exact s_dni c h2 h4 h6 h8 (sE o Γ X W y c h7)
  | .lset o, Γ, X, W, e, c, h => by
    obtain ⟨y, q2, q, p2, p, rfl, h2, h4, h6, h8, h9⟩ := i_lset h
    exact s_lset c h2 h4 h6 h8 h9 (sE o Γ X W y c h9)
  | .mnk n f ks pm, Γ, X, W, e, c, h => by
    obtain ⟨x, q, kws, p, cf, d, rfl, h1, h2, h3, h4, h5, h6, h7, h8⟩ := i_mnk h
    exact s_mnk c h1 h2 h3 h4 h5 h6 h7 h8 (sK ks Γ X W kws c h3)
  | .dctN o, Γ, X, W, e, c, h => by
    obtain ⟨a, q, p, rfl, h2, h3, h4, h5⟩ := i_dctN h
    exact s_dctN c rfl h2 h3 h4 h5 (sE o Γ X W a c h5)
  | .mck m tbl o es ks pm, Γ, X, W, e, c, h => by
    obtain ⟨y, q, args, kws, p, rfl, h2, h3, h4, h5, h6, h7, h8⟩ := i_mck h
    exact s_mck c h2 h4 h5 h6 h7 h8 (sE o Γ X W y c h3) (sL es Γ X W args c h4) (sK ks Γ X W kws c h5)
  | .srt f o, Γ, X, W, e, c, h => by
    obtain ⟨a, q, kws, p, rfl, h2, h3, h4, h5, h6⟩ := i_srt h
    exact s_srt c h2 h3 h4 h5 h6 (sE o Γ X W a c h5)
theorem sB : ∀ (x : Ex) (Γ : Cn) (X : Cx) (W : WX) (e : Expr), Ctx G Γ k X W → mE x Γ e = true → PT X e (tB' G (evF Γ.P k) W x) ∧ ∀ op vs p, e = .BoolOp op vs p → PW X e (tB' G (evF Γ.P k) W x)
  | .and a b, Γ, X, W, e, c, h => by
    cases e with
    | BoolOp op vs p =>
      match op, vs, h with
      | .And, [x, y], h =>
        simp only [mE, Bool.and_eq_true] at h
        have r := w_and (pos := p) (sB a Γ X W x c h.1).1 (pw_and1 (pos := p) (sB b Γ X W y c h.2).1)
        exact ⟨r.pt, fun _ _ _ _ => r⟩
      | .And, x :: y :: z :: rest, h =>
        simp only [mE, Bool.and_eq_true] at h
        have r := w_and (pos := p) (sB a Γ X W x c h.1).1 ((sB b Γ X W _ c h.2).2 _ _ _ rfl)
        exact ⟨r.pt, fun _ _ _ _ => r⟩
      | .And, [], h => simp [mE] at h
      | .And, [_], h => simp [mE] at h
      | .Or, _, h => simp [mE] at h
    | _ => simp [mE] at h
  | .or a b, Γ, X, W, e, c, h => by
    cases e with
    | BoolOp op vs p =>
      match op, vs, h with
      | .Or, [x, y], h =>
        simp only [mE, Bool.and_eq_true] at h
        have r := w_or (pos := p) (sB a Γ X W x c h.1).1 (pw_or1 (pos := p) (sB b Γ X W y c h.2).1)
        exact ⟨r.pt, fun _ _ _ _ => r⟩
      | .Or, x :: y :: z :: rest, h =>
        simp only [mE, Bool.and_eq_true] at h
        have r := w_or (pos := p) (sB a Γ X W x c h.1).1 ((sB b Γ X W _ c h.2).2 _ _ _ rfl)
        exact ⟨r.pt, fun _ _ _ _ => r⟩
      | .Or, [], h => simp [mE] at h
      | .Or, [_], h => simp [mE] at h
      | .And, _, h => simp [mE] at h
    | _ => simp [mE] at h
  | .not a, Γ, X, W, e, c, h => by
    cases e with
    | UnaryOp op x p => cases op with
      | Not => simp only [mE] at h; exact ⟨t_not (sB a Γ X W x c h).1, fun _ _ _ z => by cases z⟩
      | _ => simp [mE] at h
    | _ => simp [mE] at h
  | .ite t a b, Γ, X, W, e, c, h => by
    cases e with
    | IfExp z x y p =>
      simp only [mE, Bool.and_eq_true] at h
      exact ⟨t_ite (sB t Γ X W z c h.1.1).1 (sB a Γ X W x c h.1.2).1 (sB b Γ X W y c h.2).1, fun _ _ _ z => by cases z⟩
    | _ => simp [mE] at h
  | .cmp o a b, Γ, X, W, e, c, h => by
    cases e with
    | Compare x ops ys p =>
      match ops, ys, h with
      | [op], [y], h =>
        simp only [mE, Bool.and_eq_true, decide_eq_true_eq] at h
        obtain ⟨⟨rfl, h1⟩, h2⟩ := h
        exact ⟨t_cmp c (sE a Γ X W x c h1) (sE b Γ X W y c h2) (mE_plain h2), fun _ _ _ z => by cases z⟩
      | [], _, h => simp [mE] at h
      | [_], [], h => simp [mE] at h
      | [_], _ :: _ :: _, h => simp [mE] at h
      | _ :: _ :: _, _, h => simp [mE] at h
    | _ => simp [mE] at h
  | .chn o q a b d, Γ, X, W, e, c, h => by
    cases e with
    | Compare x ops ys p =>
      match ops, ys, h with
      | [op, oq], [y, z], h =>
        simp only [mE, Bool.and_eq_true, decide_eq_true_eq] at h
        obtain ⟨⟨⟨⟨rfl, rfl⟩, h1⟩, h2⟩, h3⟩ := h
        exact ⟨t_chn c (sE a Γ X W x c h1) (sE b Γ X W y c h2) (sE d Γ X W z c h3) (mE_plain h3), fun _ _ _ z => by cases z⟩
      | [], _, h => simp [mE] at h
      | [_], _, h => simp [mE] at h
      | [_, _], [], h => simp [mE] at h
      | [_, _], [_], h => simp [mE] at h
      | [_, _], _ :: _ :: _ :: _, h => simp [mE] at h
      | _ :: _ :: _ :: _, _, h => simp [mE] at h
    | _ => simp [mE] at h
  | .var i, Γ, X, W, e, c, h => by
    cases e with
    | Name y p => simp only [mE] at h; exact ⟨t_plain c (s_var c h) fun _ => rfl, fun _ _ _ z => by cases z⟩
    | _ => simp [mE] at h
  | .lc2 a t it cc t1 it1 cc1 vs vs1, Γ, X, W, e, c, h => by
    cases e with
    | ListComp elt gs scope p =>
      match gs, h with
      | [⟨tg, iter, ifs, as⟩, ⟨tg1, iter1, ifs1, as1⟩], h =>
        simp only [mE, Bool.and_eq_true, decide_eq_true_eq] at h
        obtain ⟨⟨⟨⟨⟨⟨⟨⟨⟨⟨⟨⟨⟨rfl, rfl⟩, h1⟩, h2⟩, h3⟩, h4⟩, h5⟩, h6⟩, h7⟩, h8⟩, h9⟩, h10⟩, h11⟩, h12⟩ := h
        have hit : ∀ x, foldedSetIterable iter X.env x = pure x := folded_of (mI_plain h1) X.env
        exact ⟨t_plain c (s_lc2 c h2 h3 h5 h9 h10 hit (fun env => folded_of (mI_plain h7) env) (sI it Γ X W tg iter c h1) (fun s H C cl fp => sT t (Γ.blk scope) _ _ tg c.blk h4) (fun s H C cl fp => sC cc (Γ.blk scope) _ _ ifs c.blk h6)
          (fun s H C cl fp => sI it1 (Γ.blk scope) _ _ tg1 iter1 c.blk h7) (fun s H C cl fp => sT t1 (Γ.blk scope) _ _ tg1 c.blk h8) (fun s H C cl fp => sC cc1 (Γ.blk scope) _ _ ifs1 c.blk h11) (fun s H C cl fp => sE a (Γ.blk scope) _ _ elt c.blk h12)) fun _ => rfl, fun _ _ _ z => by cases z⟩
      | [], h => simp [mE] at h
      | [_], h => simp [mE] at h
      | _ :: _ :: _ :: _, h => simp [mE] at h
    | _ => simp [mE] at h
  | .frz i, Γ, X, W, e, c, h => by
    cases e with
    | Name y p => simp only [mE] at h; exact ⟨t_plain c (s_frz c h) fun _ => rfl, fun _ _ _ z => by cases z⟩
    | _ => simp [mE] at h
  | .non, Γ, X, W, e, c, h => by
    cases e with
    | Constant v j p => cases v with
      | none => exact ⟨t_plain c (s_con pe_non (fun w => rep_non) fun σ M => by simp only [evE]) fun _ => rfl, fun _ _ _ z => by cases z⟩
      | _ => simp [mE] at h
    | _ => simp [mE] at h
  | .bl b, Γ, X, W, e, c, h => by
    cases e with
    | Constant v j p => cases v with
      | bool b' =>
        have : b = b' := by simpa [mE] using h
        subst this
        exact ⟨t_plain c (s_con pe_bl (fun w => rep_bl) fun σ M => by simp only [evE]) fun _ => rfl, fun _ _ _ z => by cases z⟩
      | _ => simp [mE] at h
    | _ => simp [mE] at h
  | .int i, Γ, X, W, e, c, h => by
    cases e with
    | Constant v j p => cases v with
      | int b' =>
        have : i = b' := by simpa [mE] using h
        subst this
        exact ⟨t_plain c (s_con pe_int (fun w => rep_int) fun σ M => by simp only [evE]) fun _ => rfl, fun _ _ _ z => by cases z⟩
      | _ => simp [mE] at h
    | Name y q =>
        simp only [mE] at h
        exact ⟨t_plain c (s_glb c (v := GC.int _) h rep_gint fun σ M => by simp only [evE]) fun _ => rfl, fun _ _ _ z => by cases z⟩
    | _ => simp [mE] at h
  | .str s, Γ, X, W, e, c, h => by
    cases e with
    | Constant v j p => cases v with
      | str b' =>
        have : s = b' := eqS_eq (by simpa only [mE] using h)
        subst this
        exact ⟨t_plain c (s_con pe_str (fun w => rep_str) fun σ M => by simp only [evE]) fun _ => rfl, fun _ _ _ z => by cases z⟩
      | _ => simp [mE] at h
    | Name y q =>
        simp only [mE] at h
        exact ⟨t_plain c (s_glb c (v := GC.str _) h rep_gstr fun σ M => by simp only [evE]) fun _ => rfl, fun _ _ _ z => by cases z⟩
    | _ => simp [mE] at h
  | .bin o a b, Γ, X, W, e, c, h => by
    cases e with
    | BinOp x op y p =>
      simp only [mE, Bool.and_eq_true, decide_eq_true_eq] at h
      obtain ⟨⟨rfl, h1⟩, h2⟩ := h
      exact ⟨t_plain c (s_bin c (sE a Γ X W x c h1) (sE b Γ X W y c h2)) fun _ => rfl, fun _ _ _ z => by cases z⟩
    | _ => simp [mE] at h
  | .neg a, Γ, X, W, e, c, h => by
    cases e with
    | UnaryOp op x p => cases op with
      | USub => simp only [mE] at h; exact ⟨t_plain c (s_neg (sE a Γ X W x c h)) fun _ => rfl, fun _ _ _ z => by cases z⟩
      | _ => simp [mE] at h
    | _ => simp [mE] at h
  | .tup es, Γ, X, W, e, c, h => by
    cases e with
    | Name y q =>
      simp only [mE] at h
      exact ⟨t_plain c (s_gtup c h) fun _ => rfl, fun _ _ _ z => by cases z⟩
    | Tuple xs n p => simp only [mE] at h; exact ⟨t_plain c (s_tup (sL es Γ X W xs c h)) fun _ => rfl, fun _ _ _ z => by cases z⟩
    | _ => simp [mE] at h
  | .stup a es, Γ, X, W, e, c, h => by
    cases e with
    | Tuple ys n p =>
      simp only [mE] at h
      split at h
      · simp only [Bool.and_eq_true] at h
        exact ⟨t_plain c (s_stup c (sE a Γ X W _ c h.1) (sL es Γ X W _ c h.2)) fun _ => rfl, fun _ _ _ z => by cases z⟩
      · cases h
    | _ => simp [mE] at h
  | .lst es, Γ, X, W, e, c, h => by
    cases e with
    | List xs p => simp only [mE] at h; exact ⟨t_plain c (s_lst (sL es Γ X W xs c h)) fun _ => rfl, fun _ _ _ z => by cases z⟩
    | _ => simp [mE] at h
  | .mls es, Γ, X, W, e, c, h => by
    cases e with
    | List xs p => simp only [mE] at h; exact ⟨t_plain c (s_mls (sL es Γ X W xs c h)) fun _ => rfl, fun _ _ _ z => by cases z⟩
    | _ => simp [mE] at h
  | .ix a b, Γ, X, W, e, c, h => by
    cases e with
    | Subscript x y p =>
      have h' : mE a Γ x = true ∧ mE b Γ y = true := by
        cases y <;> simpa [mE] using h
      exact ⟨t_plain c (s_ix c (sE a Γ X W x c h'.1) (sE b Γ X W y c h'.2) (mE_plain h'.2)) fun _ => rfl, fun _ _ _ z => by cases z⟩
    | _ => simp [mE] at h
  | .slc a lo hi, Γ, X, W, e, c, h => by
    cases e with
    | Subscript x y p => cases y with
      | Slice l u st p2 => cases st with
        | none =>
          simp only [mE, Bool.and_eq_true] at h
          exact ⟨t_plain c (s_slc c (sE a Γ X W x c h.1.1) (sO lo Γ X W l c h.1.2) (sO hi Γ X W u c h.2)) fun _ => rfl, fun _ _ _ z => by cases z⟩
        | some _ => simp [mE] at h
      | _ => simp [mE] at h
    | _ => simp [mE] at h
  | .rev a, Γ, X, W, e, c, h => by
    cases e with
    | Subscript x y p =>
      simp only [mE, Bool.and_eq_true] at h
      obtain ⟨n, p1, p2, p3, rfl⟩ := isRev_of h.1
      exact ⟨t_plain c (s_rev c (sE a Γ X W x c h.2)) fun _ => rfl, fun _ _ _ z => by cases z⟩
    | _ => simp [mE] at h
  | .call f es ks pm, Γ, X, W, e, c, h => by
    cases e with
    | Call fn args kws p => cases fn with
      | Name x q =>
        simp only [mE] at h
        split at h
        · rename_i d hd
          simp only [Bool.and_eq_true, decide_eq_true_eq] at h
          obtain ⟨⟨⟨⟨⟨⟨h1, h0⟩, h2⟩, h3⟩, h4⟩, h5⟩, h6⟩ := h
          exact ⟨t_plain c (s_call c hd (eqS_eq h1) h0 h2 h3 h4 h5 h6 (sL es Γ X W args c h4) (sK ks Γ X W kws c h5)) fun _ => rfl, fun _ _ _ z => by cases z⟩
        · cases h
      | _ => simp [mE] at h
    | _ => simp [mE] at h
  | .bi b es, Γ, X, W, e, c, h => by
    cases e with
    | Call fn args kws p => cases fn with
      | Name x q => cases kws with
        | nil =>
          simp only [mE, Bool.and_eq_true] at h
          obtain ⟨⟨⟨⟨⟨h1, h2⟩, h3⟩, h4⟩, h5⟩, h6⟩ := h
          exact ⟨t_plain c (s_bi c (eqS_eq h1) h2 h3 h4 h5 (fun z => by rw [z] at h6; cases h6) (sL es Γ X W args c h5)) fun _ => rfl, fun _ _ _ z => by cases z⟩
        | cons _ _ => simp [mE] at h
      | _ => simp [mE] at h
    | _ => simp [mE] at h
  | .fldE a f, Γ, X, W, e, c, h => by
    cases e with
    | Attribute x name p =>
      simp only [mE, Bool.and_eq_true] at h
      obtain ⟨⟨⟨h1, h2⟩, h3⟩, h4⟩ := h
      have e1 := eqS_eq h1
      subst e1
      exact ⟨t_plain c (s_fldE c (sE a Γ X W x c h3) h2 h4) fun _ => rfl, fun _ _ _ z => by cases z⟩
    | _ => simp [mE] at h
  | .mcall m tbl o es, Γ, X, W, e, c, h => by
    cases e with
    | Call fn args kws p => cases fn with
      | Attribute y name q => cases kws with
        | nil =>
          simp only [mE, Bool.and_eq_true, decide_eq_true_eq] at h
          obtain ⟨⟨⟨⟨⟨⟨⟨h1, h2⟩, h3⟩, h4⟩, h5⟩, h6⟩, h7⟩, h8⟩ := h
          have e1 := eqS_eq h1
          subst e1
          refine ⟨t_plain c (s_mcall c h2 h4 (fun z => by rw [z] at h7; cases h7) h5 h6 (fun pr hpr => ?_) (sE o Γ X W y c h3) (sL es Γ X W args c h4)) fun _ => rfl, fun _ _ _ z => by cases z⟩
          have h9 := List.all_eq_true.mp h8 pr hpr
          split at h9
          · rename_i cf d hc hd
            simp only [Bool.and_eq_true, decide_eq_true_eq] at h9
            exact ⟨cf, d, hc, hd, h9.1, h9.2⟩
          · cases h9
        | cons _ _ => simp [mE] at h
      | _ => simp [mE] at h
    | _ => simp [mE] at h
  | .new n f es, Γ, X, W, e, c, h => by
    cases e with
    | Call fn args kws p => cases fn with
      | Name x q => cases kws with
        | nil =>
          simp only [mE, Bool.and_eq_true] at h
          obtain ⟨⟨⟨⟨h1, h2⟩, h3⟩, h4⟩, h5⟩ := h
          split at h5
          · rename_i cf d hc hd
            simp only [Bool.and_eq_true, decide_eq_true_eq] at h5
            obtain ⟨⟨h6, h7⟩, h8⟩ := h5
            exact ⟨t_plain c (s_new c h1 h2 h3 (fun z => by rw [z] at h4; cases h4) hc (eqS_eq h6) h7 hd h8 (sL es Γ X W args c h3)) fun _ => rfl, fun _ _ _ z => by cases z⟩
          · cases h5
        | cons _ _ => simp [mE] at h
      | _ => simp [mE] at h
    | _ => simp [mE] at h
  | .isc e' y subs, Γ, X, W, e, c, h => by
    cases e with
    | Call fn args kws p => cases fn with
      | Name x q =>
        match args, kws, h with
        | [a, b], [], h =>
          cases b with
          | Name z p2 =>
            simp only [mE, Bool.and_eq_true] at h
            obtain ⟨⟨⟨⟨⟨⟨⟨⟨⟨h1, h2⟩, h3⟩, h4⟩, h5⟩, h6⟩, h7⟩, h8⟩, h9⟩, h10⟩ := h
            have e1 := eqS_eq h1
            subst e1
            have e2 := eqS_eq h5
            subst e2
            exact ⟨t_plain c (s_isc c h2 h3 h4 h6 h7 h8 (sE e' Γ X W a c h8) h10 (fun z => by rw [z] at h9; cases h9)) fun _ => rfl, fun _ _ _ z => by cases z⟩
          | _ => simp [mE] at h
        | [], _, h => simp [mE] at h
        | [_], _, h => simp [mE] at h
        | _ :: _ :: _ :: _, _, h => simp [mE] at h
        | [_, _], _ :: _, h => simp [mE] at h
      | _ => simp [mE] at h
    | _ => simp [mE] at h
  | .dc a b t it cc vs, Γ, X, W, e, c, h => by
    cases e with
    | DictComp kx vx gs scope p =>
      match gs, h with
      | [⟨tg, iter, ifs, as⟩], h =>
        simp only [mE, Bool.and_eq_true, decide_eq_true_eq] at h
        obtain ⟨⟨⟨⟨⟨⟨⟨⟨rfl, h1⟩, h2⟩, h3⟩, h4⟩, h5⟩, h6⟩, h7⟩, h8⟩ := h
        have hit : ∀ x, foldedSetIterable iter X.env x = pure x := folded_of (mI_plain h1) X.env
        exact ⟨t_plain c (s_dc c h2 h3 h5 hit (sI it Γ X W tg iter c h1) (fun s H C cl fp => sT t (Γ.blk scope) _ _ tg c.blk h4) (fun s H C cl fp => sC cc (Γ.blk scope) _ _ ifs c.blk h6)
          (fun s H C cl fp => sE a (Γ.blk scope) _ _ kx c.blk h7) (fun s H C cl fp => sE b (Γ.blk scope) _ _ vx c.blk h8)) fun _ => rfl, fun _ _ _ z => by cases z⟩
      | [], h => simp [mE] at h
      | _ :: _ :: _, h => simp [mE] at h
    | _ => simp [mE] at h
  | .dix o e', Γ, X, W, e, c, h => by
    cases e with
    | Subscript x y p =>
      simp only [mE, Bool.and_eq_true] at h
      exact ⟨t_plain c (s_dix c (sE o Γ X W x c h.1) (sE e' Γ X W y c h.2) (mE_plain h.2)) fun _ => rfl, fun _ _ _ z => by cases z⟩
    | _ => simp [mE] at h
  | .dgt o e', Γ, X, W, e, c, h => by
    cases e with
    | Call fn args kws p => cases fn with
      | Attribute y name q =>
        match args, kws, h with
        | [a], [], h =>
          simp only [mE, Bool.and_eq_true] at h
          obtain ⟨⟨⟨⟨h1, h2⟩, h3⟩, h4⟩, h5⟩ := h
          have e1 := eqS_eq h1
          subst e1
          exact ⟨t_plain c (s_dgt c h2 h4 h5 (sE o Γ X W y c h3) (sE e' Γ X W a c h4)) fun _ => rfl, fun _ _ _ z => by cases z⟩
        | [], _, h => simp [mE] at h
        | _ :: _ :: _, _, h => simp [mE] at h
        | [_], _ :: _, h => simp [mE] at h
      | _ => simp [mE] at h
    | _ => simp [mE] at h
  | .lrg1 b, Γ, X, W, e, c, h => by
    cases e with
    | Call fn args kws p => cases fn with
      | Name x q =>
        match args, kws, h with
        | [a], [], h =>
          cases a with
          | Call fn2 args2 kws2 p2 => cases fn2 with
            | Name z q2 =>
              match args2, kws2, h with
              | [y], [], h =>
                simp only [mE, Bool.and_eq_true] at h
                obtain ⟨⟨⟨⟨⟨⟨⟨⟨h1, h2⟩, h3⟩, h4⟩, h5⟩, h6⟩, h7⟩, h8⟩, h9⟩ := h
                have e1 := eqS_eq h1
                subst e1
                have e2 := eqS_eq h5
                subst e2
                exact ⟨t_plain c (s_lrg1 c h2 h4 h6 h8 h9 (sE b Γ X W y c h9)) fun _ => rfl, fun _ _ _ z => by cases z⟩
              | [], _, h => simp [mE] at h
              | _ :: _ :: _, _, h => simp [mE] at h
              | [_], _ :: _, h => simp [mE] at h
            | _ => simp [mE] at h
          | _ => simp [mE] at h
        | [], _, h => simp [mE] at h
        | _ :: _ :: _, _, h => simp [mE] at h
        | [_], _ :: _, h => simp [mE] at h
      | _ => simp [mE] at h
    | _ => simp [mE] at h
  | .mmul a b, Γ, X, W, e, c, h => by
    cases e with
    | BinOp x op y p =>
      simp only [mE, Bool.and_eq_true, decide_eq_true_eq] at h
      obtain ⟨⟨rfl, h1⟩, h2⟩ := h
      exact ⟨t_plain c (s_mmul c (sE a Γ X W x c h1) (sE b Γ X W y c h2)) fun _ => rfl, fun _ _ _ z => by cases z⟩
    | _ => simp [mE] at h
  | .madd a b, Γ, X, W, e, c, h => by
    cases e with
    | BinOp x op y p =>
      simp only [mE, Bool.and_eq_true, decide_eq_true_eq] at h
      obtain ⟨⟨rfl, h1⟩, h2⟩ := h
      exact ⟨t_plain c (s_madd c (sE a Γ X W x c h1) (sE b Γ X W y c h2)) fun _ => rfl, fun _ _ _ z => by cases z⟩
    | _ => simp [mE] at h
  | .mrg1 b, Γ, X, W, e, c, h => by
    cases e with
    | Call fn args kws p => cases fn with
      | Name x q =>
        match args, kws, h with
        | [a], [], h =>
          cases a with
          | Call fn2 args2 kws2 p2 => cases fn2 with
            | Name z q2 =>
              match args2, kws2, h with
              | [y], [], h =>
                simp only [mE, Bool.and_eq_true] at h
                obtain ⟨⟨⟨⟨⟨⟨⟨⟨h1, h2⟩, h3⟩, h4⟩, h5⟩, h6⟩, h7⟩, h8⟩, h9⟩ := h
                have e1 := eqS_eq h1
                subst e1
                have e2 := eqS_eq h5
                subst e2
                exact ⟨t_plain c (s_mrg1 c h2 h4 h6 h8 h9 (sE b Γ X W y c h9)) fun _ => rfl, fun _ _ _ z => by cases z⟩
              | [], _, h => simp [mE] at h
              | _ :: _ :: _, _, h => simp [mE] at h
              | [_], _ :: _, h => simp [mE] at h
            | _ => simp [mE] at h
          | _ => simp [mE] at h
        | [], _, h => simp [mE] at h
        | _ :: _ :: _, _, h => simp [mE] at h
        | [_], _ :: _, h => simp [mE] at h
      | _ => simp [mE] at h
    | _ => simp [mE] at h
  | .lrg2 a b, Γ, X, W, e, c, h => by
    cases e with
    | Call fn args kws p => cases fn with
      | Name x q =>
        match args, kws, h with
        | [a'], [], h =>
          cases a' with
          | Call fn2 args2 kws2 p2 => cases fn2 with
            | Name z q2 =>
              match args2, kws2, h with
              | [u, y], [], h =>
                simp only [mE, Bool.and_eq_true] at h
                obtain ⟨⟨⟨⟨⟨⟨⟨⟨⟨h1, h2⟩, h3⟩, h4⟩, h5⟩, h6⟩, h7⟩, h8⟩, h9⟩, h10⟩ := h
                have e1 := eqS_eq h1
                subst e1
                have e2 := eqS_eq h5
                subst e2
                exact ⟨t_plain c (s_lrg2 c h2 h4 h6 h8 h9 h10 (sE a Γ X W u c h9) (sE b Γ X W y c h10)) fun _ => rfl, fun _ _ _ z => by cases z⟩
              | [], _, h => simp [mE] at h
              | [_], _, h => simp [mE] at h
              | _ :: _ :: _ :: _, _, h => simp [mE] at h
              | [_, _], _ :: _, h => simp [mE] at h
            | _ => simp [mE] at h
          | _ => simp [mE] at h
        | [], _, h => simp [mE] at h
        | _ :: _ :: _, _, h => simp [mE] at h
        | [_], _ :: _, h => simp [mE] at h
      | _ => simp [mE] at h
    | _ => simp [mE] at h
  | .dct0, Γ, X, W, e, c, h => by
    cases e with
    | Dict ks vs p =>
      cases ks with
      | nil => cases vs with
        | nil => exact ⟨t_plain c (s_dct0) fun _ => rfl, fun _ _ _ z => by cases z⟩
        | cons _ _ => simp [mE] at h
      | cons _ _ => simp [mE] at h
    | _ => simp [mE] at h
  | .dct1 a b, Γ, X, W, e, c, h => by
    cases e with
    | Dict ks vs p =>
      match ks, vs, h with
      | [some x], [y], h =>
        simp only [mE, Bool.and_eq_true] at h
        obtain ⟨⟨⟨h1, h2⟩, h3⟩, h4⟩ := h
        exact ⟨t_plain c (s_dct1 c h1 h2 h3 h4) fun _ => rfl, fun _ _ _ z => by cases z⟩
      | [], _, h => simp [mE] at h
      | none :: _, _, h => simp [mE] at h
      | some _ :: _ :: _, _, h => simp [mE] at h
      | [some _], [], h => simp [mE] at h
      | [some _], _ :: _ :: _, h => simp [mE] at h
    | _ => simp [mE] at h
  | .mbl e', Γ, X, W, e, c, h => by
    cases e with
    | Call fn args kws p => cases fn with
      | Name x q =>
        match args, kws, h with
        | [a], [], h =>
          simp only [mE, Bool.and_eq_true] at h
          obtain ⟨⟨⟨⟨h1, h2⟩, h3⟩, h4⟩, h5⟩ := h
          exact ⟨t_plain c (s_mbl c (eqS_eq h1) h2 h3 h4 h5 (sE e' Γ X W a c h5)) fun _ => rfl, fun _ _ _ z => by cases z⟩
        | [], _, h => simp [mE] at h
        | _ :: _ :: _, _, h => simp [mE] at h
        | [_], _ :: _, h => simp [mE] at h
      | _ => simp [mE] at h
    | _ => simp [mE] at h
  | .isi a ts, Γ, X, W, e, c, h => by
    cases e with
    | Call fn args kws p => cases fn with
      | Name x q =>
        match args, kws, h with
        | [y, cl], [], h =>
          simp only [mE, Bool.and_eq_true] at h
          obtain ⟨⟨⟨⟨⟨⟨h1, h2⟩, h3⟩, h4⟩, h5⟩, h6⟩, h7⟩ := h
          exact ⟨t_plain c (s_isi c (eqS_eq h1) h2 h3 h4 (fun t ht => List.all_eq_true.mp h7 t ht) h6 (mE_plain h5) (sE a Γ X W y c h5)) fun _ => rfl, fun _ _ _ z => by cases z⟩
        | [], _, h => simp [mE] at h
        | [_], _, h => simp [mE] at h
        | _ :: _ :: _ :: _, _, h => simp [mE] at h
        | [_, _], _ :: _, h => simp [mE] at h
      | _ => simp [mE] at h
    | _ => simp [mE] at h
  | .meth m o es, Γ, X, W, e, c, h => by
    cases e with
    | Call fn args kws p => cases fn with
      | Attribute y name q => cases kws with
        | nil =>
          simp only [mE, Bool.and_eq_true, decide_eq_true_eq] at h
          obtain ⟨⟨⟨⟨⟨⟨h1, h2⟩, h3⟩, h4⟩, h5⟩, h6⟩, h7⟩ := h
          rw [eqS_eq h1]
          exact ⟨t_plain c (s_meth c h2 h4 (fun z => by rw [z] at h5; cases h5) h6 h7 (sE o Γ X W y c h3) (sL es Γ X W args c h4)) fun _ => rfl, fun _ _ _ z => by cases z⟩
        | cons _ _ => simp [mE] at h
      | _ => simp [mE] at h
    | _ => simp [mE] at h
  | .lc a t it cc vs, Γ, X, W, e, c, h => by
    cases e with
    | ListComp elt gs scope p =>
      match gs, h with
      | [⟨tg, iter, ifs, as⟩], h =>
        simp only [mE, Bool.and_eq_true, decide_eq_true_eq] at h
        obtain ⟨⟨⟨⟨⟨⟨⟨rfl, h1⟩, h2⟩, h3⟩, h4⟩, h5⟩, h6⟩, h7⟩ := h
        have hit : ∀ x, foldedSetIterable iter X.env x = pure x := folded_of (mI_plain h1) X.env
        exact ⟨t_plain c (s_lc c h2 h3 h5 hit (sI it Γ X W tg iter c h1) (fun s H C cl fp => sT t (Γ.blk scope) _ _ tg c.blk h4) (fun s H C cl fp => sC cc (Γ.blk scope) _ _ ifs c.blk h6)
          (fun s H C cl fp => sE a (Γ.blk scope) _ _ elt c.blk h7)) fun _ => rfl, fun _ _ _ z => by cases z⟩
      | [], h => simp [mE] at h
      | _ :: _ :: _, h => simp [mE] at h
    | _ => simp [mE] at h
  | .mdn0, Γ, X, W, e, c, h => by
    obtain ⟨_, rfl⟩ := i_mdn0 h
    exact ⟨t_plain c (s_mdn0 c) fun _ => rfl, fun _ _ _ z => by cases z⟩
  | .dnix o f, Γ, X, W, e, c, h => by
    obtain ⟨x, y, p, rfl, h1, h2⟩ := i_dnix h
    exact ⟨t_plain c (s_dnix c (sE o Γ X W x c h1) (sE f Γ X W y c h2) (mE_plain h2)) fun _ => rfl, fun _ _ _ z => by cases z⟩
  | .dng1 o f, Γ, X, W, e, c, h => by
    obtain ⟨y, a, q, p, rfl, h2, h3, h4, h5⟩ := i_dng1 h
    exact ⟨t_plain c (s_dng1 c h2 h4 h5 (sE o Γ X W y c h3) (sE f Γ X W a c h4)) fun _ => rfl, fun _ _ _ z => by cases z⟩
  | .dng2 o f g, Γ, X, W, e, c, h => by
    obtain ⟨y, a, b, q, p, rfl, h2, h3, h4, h6, h5⟩ := i_dng2 h
    exact ⟨t_plain c (s_dng2 c h2 h4 h6 h5 (sE o Γ X W y c h3) (sE f Γ X W a c h4) (sE g Γ X W b c h6)) fun _ => rfl, fun _ _ _ z => by cases z⟩
  | .dnl o, Γ, X, W, e, c, h => by
    obtain ⟨a, q, p, rfl, h2, h3, h4, h5⟩ := i_dnl h
    exact ⟨t_plain c (s_dnl c rfl h2 h3 h4 h5 (sE o Γ X W a c h5)) fun _ => rfl, fun _ _ _ z => by cases z⟩
  | .dnn o, Γ, X, W, e, c, h => by
    obtain ⟨a, q, p, rfl, h2, h3, h4, h5⟩ := i_dnn h
    exact ⟨t_plain c (s_dnn c rfl h2 h3 h4 h5 (sE o Γ X W a c h5)) fun _ => rfl, fun _ _ _ z => by cases z⟩
  | .dni o, Γ, X, W, e, c, h => by
    obtain ⟨y, q2, q, p2, p, rfl, h2, h4, h6, h8, h7⟩ := i_dni h
    exact ⟨t_plain c (s_dni c h2 h4 h6 h8 (sE o Γ X W y c h7)) fun _ => rfl, fun _ _ _ z => by cases z⟩
  | .lset o, Γ, X, W, e, c, h => by
    obtain ⟨y, q2, q, p2, p, rfl, h2, h4, h6, h8, h9⟩ := i_lset h
    exact ⟨t_plain c (s_lset c h2 h4 h6 h8 h9 (sE o Γ X W y c h9)) fun _ => rfl, fun _ _ _ z => by cases z⟩
  | .mnk n f ks pm, Γ, X, W, e, c, h => by
    obtain ⟨x, q, kws, p, cf, d, rfl, h1, h2, h3, h4, h5, h6, h7, h8⟩ := i_mnk h
    exact ⟨t_plain c (s_mnk c h1 h2 h3 h4 h5 h6 h7 h8 (sK ks Γ X W kws c h3)) fun _ => rfl, fun _ _ _ z => by cases z⟩
  | .dctN o, Γ, X, W, e, c, h => by
    obtain ⟨a, q, p, rfl, h2, h3, h4, h5⟩ := i_dctN h
    exact ⟨t_plain c (s_dctN c rfl h2 h3 h4 h5 (sE o Γ X W a c h5)) fun _ => rfl, fun _ _ _ z => by cases z⟩
  | .mck m tbl o es ks pm, Γ, X, W, e, c, h => by
    obtain ⟨y, q, args, kws, p, rfl, h2, h3, h4, h5, h6, h7, h8⟩ := i_mck h
    exact ⟨t_plain c (s_mck c h2 h4 h5 h6 h7 h8 (sE o Γ X W y c h3) (sL es Γ X W args c h4) (sK ks Γ X W kws c h5)) fun _ => rfl, fun _ _ _ z => by cases z⟩
  | .srt f o, Γ, X, W, e, c, h => by
    obtain ⟨a, q, kws, p, rfl, h2, h3, h4, h5, h6⟩ := i_srt h
    exact ⟨t_plain c (s_srt c h2 h3 h4 h5 h6 (sE o Γ X W a c h5)) fun _ => rfl, fun _ _ _ z => by cases z⟩
theorem sL : ∀ (xs : List Ex) (Γ : Cn) (X : Cx) (W : WX) (es : List Expr), Ctx G Γ k X W → mL xs Γ es = true → PA X es (tL G (evF Γ.P k) W xs)
  | [], Γ, X, W, es, c, h => by
    cases es with
    | nil => exact s_nil
    | cons _ _ => simp [mL] at h
  | x :: xs, Γ, X, W, es, c, h => by
    cases es with
    | nil => simp [mL] at h
    | cons e es =>
      simp only [mL, Bool.and_eq_true] at h
      exact s_cons (sE x Γ X W e c h.1) (sL xs Γ X W es c h.2) (mE_plain h.1)
theorem sK : ∀ (xs : List (Str × Ex)) (Γ : Cn) (X : Cx) (W : WX) (es : List Keyword), Ctx G Γ k X W → mK xs Γ es = true → PK X es (tK' G (evF Γ.P k) W xs)
  | [], Γ, X, W, es, c, h => by
    cases es with
    | nil => exact k_nil
    | cons _ _ => simp [mK] at h
  | (n, x) :: xs, Γ, X, W, es, c, h => by
    cases es with
    | nil => simp [mK] at h
    | cons e es =>
      obtain ⟨nm, v, p⟩ := e
      cases nm with
      | none => simp [mK] at h
      | some nm =>
        simp only [mK, Bool.and_eq_true] at h
        exact k_cons (sE x Γ X W v c h.1.2) (sK xs Γ X W es c h.2)
theorem sO : ∀ (x : Option Ex) (Γ : Cn) (X : Cx) (W : WX) (e : Option Expr), Ctx G Γ k X W → mO x Γ e = true → PO X e (tO' G (evF Γ.P k) W x)
  | none, Γ, X, W, e, c, h => by
    cases e with
    | none => exact o_none
    | some _ => simp [mO] at h
  | some x, Γ, X, W, e, c, h => by
    cases e with
    | none => simp [mO] at h
    | some e => simp only [mO] at h; exact o_some (sE x Γ X W e c h)
theorem sC : ∀ (x : Option Ex) (Γ : Cn) (X : Cx) (W : WX) (es : List Expr), Ctx G Γ k X W → mC x Γ es = true → PTs X es (tC' G (evF Γ.P k) W x)
  | none, Γ, X, W, es, c, h => by
    cases es with
    | nil => exact c_none
    | cons _ _ => simp [mC] at h
  | some x, Γ, X, W, es, c, h => by
    match es, h with
    | [], h => simp [mC] at h
    | [e], h => simp only [mC] at h; exact c_some (sB x Γ X W e c h).1
    | _ :: _ :: _, h => simp [mC] at h
theorem sI : ∀ (x : It) (Γ : Cn) (X : Cx) (W : WX) (tg e : Expr), Ctx G Γ k X W → mI x Γ tg e = true → PI X tg e (tI G (evF Γ.P k) W x)
  | .seq x, Γ, X, W, tg, e, c, h => by
    have h' : mE x Γ e = true := by simpa only [mI] using h
    exact pi_seq c (sE x Γ X W e c h')
  | .rng1 a, Γ, X, W, tg, e, c, h => by
    cases e with
    | Call fn args kws p => cases fn with
      | Name x q =>
        match args, kws, h with
        | [u], [], h =>
          simp only [mI, Bool.and_eq_true] at h
          obtain ⟨⟨⟨h1, h2⟩, h3⟩, h4⟩ := h
          exact pi_rng1 c (eqS_eq h1) h2 h3 (mE_plain h4) (sE a Γ X W u c h4)
        | [], _, h => simp [mI] at h
        | _ :: _ :: _, _, h => simp [mI] at h
        | [_], _ :: _, h => simp [mI] at h
      | _ => simp [mI] at h
    | _ => simp [mI] at h
  | .rng2 a b, Γ, X, W, tg, e, c, h => by
    cases e with
    | Call fn args kws p => cases fn with
      | Name x q =>
        match args, kws, h with
        | [u, v], [], h =>
          simp only [mI, Bool.and_eq_true] at h
          obtain ⟨⟨⟨⟨h1, h2⟩, h3⟩, h4⟩, h5⟩ := h
          exact pi_rng2 c (eqS_eq h1) h2 h3 (mE_plain h4) (mE_plain h5) (sE a Γ X W u c h4) (sE b Γ X W v c h5)
        | [], _, h => simp [mI] at h
        | [_], _, h => simp [mI] at h
        | _ :: _ :: _ :: _, _, h => simp [mI] at h
        | [_, _], _ :: _, h => simp [mI] at h
      | _ => simp [mI] at h
    | _ => simp [mI] at h
  | .rng3 a b d, Γ, X, W, tg, e, c, h => by
    cases e with
    | Call fn args kws p => cases fn with
      | Name x q =>
        match args, kws, h with
        | [u, v, z], [], h =>
          simp only [mI, Bool.and_eq_true] at h
          obtain ⟨⟨⟨⟨⟨h1, h2⟩, h3⟩, h4⟩, h5⟩, h6⟩ := h
          exact pi_rng3 c (eqS_eq h1) h2 h3 (mE_plain h4) (mE_plain h5) (mE_plain h6) (sE a Γ X W u c h4) (sE b Γ X W v c h5) (sE d Γ X W z c h6)
        | [], _, h => simp [mI] at h
        | [_], _, h => simp [mI] at h
        | [_, _], _, h => simp [mI] at h
        | _ :: _ :: _ :: _ :: _, _, h => simp [mI] at h
        | [_, _, _], _ :: _, h => simp [mI] at h
      | _ => simp [mI] at h
    | _ => simp [mI] at h
  | .enu a, Γ, X, W, tg, e, c, h => by
    cases tg with
    | Tuple ts n tp =>
      cases e with
      | Call fn args kws p => cases fn with
        | Name x q =>
          match args, kws, h with
          | [u], [], h =>
            simp only [mI, Bool.and_eq_true] at h
            obtain ⟨⟨⟨h1, h2⟩, h3⟩, h4⟩ := h
            exact pi_enu c (eqS_eq h1) h2 h3 (mE_plain h4) (sE a Γ X W u c h4)
          | [], _, h => simp [mI] at h
          | _ :: _ :: _, _, h => simp [mI] at h
          | [_], _ :: _, h => simp [mI] at h
        | _ => simp [mI] at h
      | _ => simp [mI] at h
    | _ => simp [mI] at h
  | .zip a b, Γ, X, W, tg, e, c, h => by
    cases tg with
    | Tuple ts n tp =>
      cases e with
      | Call fn args kws p => cases fn with
        | Name x q =>
          match args, kws, h with
          | [u, v], [], h =>
            simp only [mI, Bool.and_eq_true] at h
            obtain ⟨⟨⟨⟨h1, h2⟩, h3⟩, h4⟩, h5⟩ := h
            exact pi_zipD c (eqS_eq h1) h2 h3 (mE_plain h4) (mE_plain h5) (sE a Γ X W u c h4) (sE b Γ X W v c h5)
          | [], _, h => simp [mI] at h
          | [_], _, h => simp [mI] at h
          | _ :: _ :: _ :: _, _, h => simp [mI] at h
          | [_, _], _ :: _, h => simp [mI] at h
        | _ => simp [mI] at h
      | _ => simp [mI] at h
    | _ => simp [mI] at h
  | .zip3 es, Γ, X, W, tg, e, c, h => by
    cases tg with
    | Tuple ts n tp =>
      cases e with
      | Call fn args kws p => cases fn with
        | Name x q =>
          cases kws with
          | nil =>
            simp only [mI, Bool.and_eq_true, decide_eq_true_eq] at h
            obtain ⟨⟨⟨⟨h1, h2⟩, h3⟩, h4⟩, h5⟩ := h
            exact pi_zip3D c (eqS_eq h1) h2 h3 h4 h5 (sL es Γ X W args c h4)
          | cons _ _ => simp [mI] at h
        | _ => simp [mI] at h
      | _ => simp [mI] at h
    | _ => simp [mI] at h
theorem sT : ∀ (t : Tg) (Γ : Cn) (X : Cx) (W : WX) (e : Expr), Ctx G Γ k X W → mT t Γ e = true → PG X e (tTg G (evF Γ.P k) W t)
  | .nm i, Γ, X, W, e, c, h => by
    cases e with
    | Name y p =>
      simp only [mT, Bool.and_eq_true, decide_eq_true_eq] at h
      exact g_nm c h.1 h.2
    | _ => simp [mT] at h
  | .tp ts, Γ, X, W, e, c, h => by
    cases e with
    | Tuple es n p => simp only [mT] at h; exact g_tup c h (sTs ts Γ X W es c h)
    | _ => simp [mT] at h
  | .sub a b, Γ, X, W, e, c, h => by
    cases e with
    | Subscript x y p =>
      simp only [mT, Bool.and_eq_true] at h
      exact g_sub c (sE a Γ X W x c h.1) (sE b Γ X W y c h.2) (mE_plain h.2)
    | _ => simp [mT] at h
  | .fld a f, Γ, X, W, e, c, h => by
    cases e with
    | Attribute x name p =>
      simp only [mT, Bool.and_eq_true] at h
      obtain ⟨⟨h1, h2⟩, h3⟩ := h
      have e1 := eqS_eq h1
      subst e1
      exact g_fld c (sE a Γ X W x c h2) h3
    | _ => simp [mT] at h
theorem sTs : ∀ (ts : List Tg) (Γ : Cn) (X : Cx) (W : WX) (es : List Expr), Ctx G Γ k X W → mTs ts Γ es = true → PGs X es (tTgs G (evF Γ.P k) W ts)
  | [], Γ, X, W, es, c, h => by
    cases es with
    | nil => exact g_nil
    | cons _ _ => simp [mTs] at h
  | t :: ts, Γ, X, W, es, c, h => by
    cases es with
    | nil => simp [mTs] at h
    | cons e es =>
      simp only [mTs, Bool.and_eq_true] at h
      exact g_cons (sT t Γ X W e c h.1) (sTs ts Γ X W es c h.2) (mT_plain h.1)
end
end
end Ev
/-! Ev13: statements. -/
namespace Ev
open PySem L2
/-! ### which text a statement stands for -/
/-- the names that a, b = x, y stores, where the pair itself is not made -/
def swNames (sc : Scope) (ts : List Expr) : List Str :=
  let line := (ts.head?.map (·.pos.line)).getD 0
  ts.filterMap fun
    | .Name id pos => if sc.names.lookup id == some .local && pos.line == line then some id else none
    | _ => none
def notComp : Expr → Bool
  | .ListComp _ _ _ _ => false
  | .SetComp _ _ _ _ => false
  | .DictComp _ _ _ _ _ => false
  | _ => true
/-- whether a comprehension's list goes to its name at once -/
def atOnce (sc : Scope) : Expr → Expr → Bool
  | .Name t pos, .ListComp _ _ scope p => (match sc.names.lookup t with | some .local => true | _ => false) && (pos.line == p.line) && !(scope.names.any fun (n, k) => n == t && (k == .local || k == .cell))
  | .Name t pos, .DictComp _ _ _ scope p => (match sc.names.lookup t with | some .local => true | _ => false) && (pos.line == p.line) && !(scope.names.any fun (n, k) => n == t && (k == .local || k == .cell))
  | _, _ => false
/-- no stores are swapped -/
def notSwapped (sc : Scope) : Expr → Expr → Bool
  | .Tuple ts _ _, .Tuple vs _ _ => !(ts.length == 2 || ts.length == 3) || vs.length != ts.length || (swNames sc ts).length != ts.length || (swNames sc ts).eraseDups.length != (swNames sc ts).length || vs.all (foldedForSure 8)
  | .List _ _, _ => false
  | _, _ => true
mutual
def mS : Sx → Cn → Stmt → Bool
  | .asg t e, Γ, .Assign [x] y pos => mE e Γ y && (if atOnce Γ.sc x y then (match t, x with
      | .nm i, .Name n _ => decide (Γ.N[i]? = some n) && decide (Γ.sc.names.lookup n = some .local)
      | _, _ => false) else mT t Γ x && notSwapped Γ.sc x y)
  | .par is es, Γ, .Assign xs y _ => (match xs, y with
    | [.Tuple ts _ _], .Tuple vs _ _ => mL es Γ vs && decide ((is.map fun i => Γ.N[i]?) = (swNames Γ.sc ts).map some) && (is.length == 2 || is.length == 3) && (swNames Γ.sc ts).length == ts.length &&
      (swNames Γ.sc ts).eraseDups.length == (swNames Γ.sc ts).length && vs.length == ts.length && !(vs.all (constantsAlone 8)) && !(vs.all (foldedForSure 8))
    | _, _ => false)
  | .aug i o e, Γ, .AugAssign (.Name x _) op y _ => decide (Γ.N[i]? = some x) && locB Γ.st x && decide (op = toOp o) && mE e Γ y
  | .expr e, Γ, .Expr y _ => notComp y && mE e Γ y
  | .ret e, Γ, .Return (some y) _ => mE e Γ y
  | .retN, _, .Return none _ => true
  | .ifs c a b, Γ, .If x xs ys _ => mE c Γ x && mSs a Γ xs && mSs b Γ ys
  | .fors t it body, Γ, .For tg iter xs [] _ => mI it Γ tg iter && mT t Γ tg && mSs body Γ xs
  | .whl _ c body, Γ, .While x xs [] _ => mE c Γ x && mSs body Γ xs
  | .brk, _, .Break _ => true
  | .cnt, _, .Continue _ => true
  | .pass, _, .Pass _ => true
  | .nev, _, _ => true
  | .frzs v s, Γ, st => decide (v < Γ.N.length) && mS s Γ st
  | _, _, _ => false
def mSs : List Sx → Cn → List Stmt → Bool
  | [], _, [] => true
  | s :: ss, Γ, x :: xs => mS s Γ x && mSs ss Γ xs
  | _, _, _ => false
end
section
variable {G : Gb} {Φ : Nat → List D → Mem → Res D} {W : WX} {X : Cx} {k : Nat} {Γ : Cn}
theorem bk_of {env : Env} (h : env.scope.kind = .function) : env.blockKind = .function := by unfold Env.blockKind; rw [h]; rfl
def starAny (vs : List Expr) : Bool := vs.any fun | .Starred .. => true | _ => false
theorem sw_eq {env : Env} {ts vs : List Expr} {n m : Nat} {p q : Pos} (hk : env.scope.kind = .function) : swappedStores [.Tuple ts n p] (.Tuple vs m q) env =
    (if (!(ts.length == 2 || ts.length == 3) || vs.length != ts.length || ScopeKind.function != .function) = true then pure none else if starAny vs = true then pure none
      else if ((swNames env.scope ts).length != ts.length || (swNames env.scope ts).eraseDups.length != (swNames env.scope ts).length) = true then pure none
      else if vs.all (foldedForSure 8) = true then pure none
      else if vs.all (constantsAlone 8) = true then (do unsupported "assign.tuple-of-constant-expressions:order-of-the-stores"; pure (some (swNames env.scope ts))) else pure (some (swNames env.scope ts))) := by
  unfold swappedStores
  simp only [bk_of hk, Env.kindOf]
  rfl
theorem starAny_of {vs : List Expr} (h : ∀ v ∈ vs, plainX v = true) : starAny vs = false := by
  cases e : starAny vs with
  | false => rfl
  | true =>
    obtain ⟨v, hv, hm⟩ := List.any_eq_true.mp e
    have := h v hv
    cases v with
    | Starred _ _ => cases this
    | _ => cases hm
theorem sw_none {env : Env} {t v : Expr} (hk : env.scope.kind = .function) (h : notSwapped env.scope t v = true) : swappedStores [t] v env = pure none := by
  cases t with
  | Tuple ts n p =>
    cases v with
    | Tuple vs m q =>
      rw [sw_eq hk]
      simp only [notSwapped, Bool.or_eq_true] at h
      by_cases h1 : (!(ts.length == 2 || ts.length == 3) || vs.length != ts.length || ScopeKind.function != ScopeKind.function) = true
      · rw [if_pos h1]
      · rw [if_neg h1]
        split
        · rfl
        · by_cases h2 : ((swNames env.scope ts).length != ts.length || (swNames env.scope ts).eraseDups.length != (swNames env.scope ts).length) = true
          · rw [if_pos h2]
          · rw [if_neg h2]
            by_cases h3 : vs.all (foldedForSure 8) = true
            · rw [if_pos h3]
            · exfalso
              have e : (ScopeKind.function != ScopeKind.function) = false := rfl
              rw [e, Bool.or_false] at h1
              simp only [Bool.or_eq_true] at h1 h2
              rcases h with (((h | h) | h) | h) | h
              · exact h1 (.inl h)
              · exact h1 (.inr h)
              · exact h2 (.inl h)
              · exact h2 (.inr h)
              · exact h3 h
    | _ => rfl
  | List ts p => simp [notSwapped] at h
  | _ => rfl
/-! ### readings -/
def PostS (G : Gb) (W : WX) (Dn : Ends) (w : Wd) (r : RS) : Prop :=
  match r with
  | .nx σd M => ∀ w' σ', Ext w w' → WOk G w' → w'.M = M → RepS G w' σd σ' → Dn.nx σ' w'.H
  | .bk σd M => ∀ w' σ', Ext w w' → WOk G w' → w'.M = M → RepS G w' σd σ' → Dn.bk σ' w'.H
  | .ct σd M => ∀ w' σ', Ext w w' → WOk G w' → w'.M = M → RepS G w' σd σ' → Dn.ct σ' w'.H
  | .rt d M => ∀ w' v, Ext w w' → WOk G w' → w'.M = M → Rep G w' d v → Dn.rt v w'.H
  | .ex c fs σd M => ∀ w' σ' d, Ext w w' → WOk G w' → w'.M = M → RepS G w' σd σ' → XRep G w' d fs → W (.ref (G.cls c)) d σ' w'.H
  | .no => False
theorem PostS.later {Dn : Ends} {w w' : Wd} {r : RS} (x : Ext w w') (h : PostS G W Dn w r) : PostS G W Dn w' r := by
  cases r with
  | nx σd M => exact fun w2 s2 x2 g e q => h w2 s2 (x.trans x2) g e q
  | bk σd M => exact fun w2 s2 x2 g e q => h w2 s2 (x.trans x2) g e q
  | ct σd M => exact fun w2 s2 x2 g e q => h w2 s2 (x.trans x2) g e q
  | rt d M => exact fun w2 v x2 g e q => h w2 v (x.trans x2) g e q
  | ex c fs σd M => exact fun w2 s2 d x2 g e q q2 => h w2 s2 d (x.trans x2) g e q q2
  | no => exact h
theorem PostS.of {α : Type} {Dn : Ends} {w : Wd} {σd : Env'} {σ : L2.St} {r : Res α} {f : α → Mem → RS} (rs : RepS G w σd σ) (h : PostS G W Dn w (RS.of r σd f)) : Post G W σ w r fun a w' => PostS G W Dn w' (f a w'.M) := by
  cases r with
  | ok a M =>
    intro w' x g e
    subst e
    exact PostS.later x h
  | ex c fs M => exact fun w' d x g e q => h w' σ d x g e (rs.ext x) q
  | no => exact h
theorem PostS.then {Dn : Ends} {w : Wd} {r : RS} {f : Env' → Mem → RS} (h : PostS G W Dn w (r.then f)) : PostS G W { Dn with nx := fun σ H => ∃ w' σd, w'.H = H ∧ WOk G w' ∧ RepS G w' σd σ ∧ PostS G W Dn w' (f σd w'.M) } w r := by
  cases r with
  | nx σd M =>
    intro w' σ' x g e q
    subst e
    exact ⟨w', σd, rfl, g, q, PostS.later x h⟩
  | _ => exact h
section
variable (G Φ W)
def tS (s : Sx) : TS := fun Dn σ H => ∃ w σd, w.H = H ∧ WOk G w ∧ RepS G w σd σ ∧ PostS G W Dn w (evS Φ s σd w.M)
def tSs (ss : List Sx) : TS := fun Dn σ H => ∃ w σd, w.H = H ∧ WOk G w ∧ RepS G w σd σ ∧ PostS G W Dn w (evSs Φ ss σd w.M)
end
theorem ss_nil : PSs X [] (tSs G Φ W []) := by
  refine PSs.imp pss_nil ?_
  rintro Dn σ H ⟨w, σd, rfl, g, rs, hp⟩
  simp only [evSs] at hp
  exact hp w σ (Ext.refl w) g rfl rs
theorem ss_cons {s : Sx} {ss : List Sx} {x : Stmt} {xs : List Stmt} (h1 : PS X x (tS G Φ W s)) (h2 : PSs X xs (tSs G Φ W ss)) : PSs X (x :: xs) (tSs G Φ W (s :: ss)) := by
  refine PSs.imp (pss_cons h1 h2) ?_
  rintro Dn σ H ⟨w, σd, rfl, g, rs, hp⟩
  simp only [evSs] at hp
  exact ⟨w, σd, rfl, g, rs, PostS.then hp⟩
theorem swaps_plain {e : Expr} (h : notComp e = true) (t : Option Expr) (l : Nat) (env : Env) : swapsWith e t l env = pure false := by
  cases e <;> first
    | rfl
    | (simp [notComp] at h)
theorem x_ret {e : Ex} {x : Expr} {pos : Pos} (h : PE X x (tE G Φ W e)) : PS X (.Return (some x) pos) (tS G Φ W (.ret e)) := by
  refine PS.imp (ps_ret h) ?_
  rintro Dn σ H ⟨w, σd, rfl, g, rs, hp⟩
  simp only [evS] at hp
  refine ⟨w, σd, rfl, g, rs, (PostS.of rs hp).mono fun d w1 x1 g1 h1 v r => h1 w1 v (Ext.refl w1) g1 rfl r⟩
theorem x_retN {pos : Pos} : PS X (.Return none pos) (tS G Φ W .retN) := by
  refine PS.imp ps_retN ?_
  rintro Dn σ H ⟨w, σd, rfl, g, rs, hp⟩
  simp only [evS] at hp
  exact hp w .non (Ext.refl w) g rfl rep_non
theorem x_expr {e : Ex} {x : Expr} {pos : Pos} (h : PE X x (tE G Φ W e)) (hn : notComp x = true) : PS X (.Expr x pos) (tS G Φ W (.expr e)) := by
  refine PS.imp (ps_expr h (swaps_plain hn _ _ _)) ?_
  rintro Dn σ H ⟨w, σd, rfl, g, rs, hp⟩
  simp only [evS] at hp
  refine ⟨w, σd, rfl, g, rs, (PostS.of rs hp).mono fun d w1 x1 g1 h1 v r => h1 w1 σ (Ext.refl w1) g1 rfl (rs.ext x1)⟩
theorem x_if {e : Ex} {a b : List Sx} {x : Expr} {xs ys : List Stmt} {pos : Pos} (h : PT X x (tB' G Φ W e)) (ha : PSs X xs (tSs G Φ W a)) (hb : PSs X ys (tSs G Φ W b)) : PS X (.If x xs ys pos) (tS G Φ W (.ifs e a b)) := by
  refine PS.imp (ps_if h ha hb) ?_
  rintro Dn σ H ⟨w, σd, rfl, g, rs, hp⟩
  simp only [evS] at hp
  refine ⟨w, σd, rfl, g, rs, (PostS.of rs hp).mono fun t w1 x1 g1 h1 => ?_⟩
  cases t with
  | true => exact iteT ⟨w1, σd, rfl, g1, rs.ext x1, h1⟩
  | false => exact iteF ⟨w1, σd, rfl, g1, rs.ext x1, h1⟩
theorem x_asg (c : Ctx G Γ k X W) {t : Tg} {e : Ex} {x y : Expr} {pos : Pos} (hk : X.env.scope.kind = .function) (he : PE X y (tE G Φ W e)) (hg : PG X x (tTg G Φ W t)) (hx : plainX x = true) (hsw : notSwapped Γ.sc x y = true) (hs : swapsWith y (some x) pos.line X.env = pure false) :
    PS X (.Assign [x] y pos) (tS G Φ W (.asg t e)) := by
  refine PS.imp (ps_asg he hg hs (sw_none hk (by rw [c.sc]; exact hsw)) (by rw [assign_plain hx]; rfl)) ?_
  rintro Dn σ H ⟨w, σd, rfl, g, rs, hp⟩
  simp only [evS] at hp
  refine ⟨w, σd, rfl, g, rs, (PostS.of rs hp).mono fun d w1 x1 g1 h1 v r => ?_⟩
  exact ⟨w1, σd, d, rfl, g1, rs.ext x1, r, (PostS.of (rs.ext x1) h1).mono fun σ1 w2 x2 g2 h2 σ' rs' off => h2 w2 σ' (Ext.refl w2) g2 rfl rs'⟩
theorem x_setLc (c : Ctx G Γ k X W) {i : Nat} {e : Ex} {s : Stmt} (h : PS X s (tAsg (tE G Φ W e) (gName i))) : PS X s (tS G Φ W (.asg (.nm i) e)) := by
  refine PS.imp h ?_
  rintro Dn σ H ⟨w, σd, rfl, g, rs, hp⟩
  simp only [evS, evT] at hp
  refine ⟨w, σd, rfl, g, rs, (PostS.of rs hp).mono fun d w1 x1 g1 h1 v r => ?_⟩
  exact h1 w1 _ (Ext.refl w1) g1 rfl ((rs.ext x1).set i r)
theorem iop_D (o : BO) : PIp X (toOp o) (fun x y H Q => ∃ w d e z, w.H = H ∧ WOk G w ∧ Rep G w d x ∧ Rep G w e y ∧ evAug o d e = some z ∧ ∀ v, Rep G w z v → Q v w.H) := by
  intro pins s σ H x y v u Q I rx ry h
  obtain ⟨w, d, e, z, rfl, g, r1, r2, hz, q⟩ := h
  unfold evAug at hz
  split at hz
  · rename_i i j
    simp only [Rep] at r1 r2
    subst r1 r2
    split at hz
    · cases hz
    · rename_i ho
      obtain ⟨n, hn, rfl⟩ := Option.map_eq_some_iff.mp hz
      have q := q _ rep_int
      cases o with
      | add =>
        simp only [binI, Option.some.injEq] at hn; subst hn
        exact iop_add pins s σ w.H _ _ v u Q I rx ry ⟨i, j, rfl, rfl, q⟩
      | sub =>
        simp only [binI, Option.some.injEq] at hn; subst hn
        exact iop_sub pins s σ w.H _ _ v u Q I rx ry ⟨i, j, rfl, rfl, q⟩
      | mul =>
        simp only [binI] at hn
        split at hn
        · rename_i hm
          cases hn
          obtain ⟨t, rfl⟩ := rx
          obtain ⟨t', rfl⟩ := ry
          exact PyProof.Rows.imul_int ⟨.int _, w.H, I.tok _, ⟨_, rfl⟩, q⟩ (by rcases mulOk_ok hm with z | z; exact z.ok; exact z.ok)
        · cases hn
      | fdiv =>
        simp only [binI] at hn
        split at hn
        · rename_i hm
          cases hn
          exact iop_fdivW pins s σ w.H _ _ v u Q I rx ry ⟨i, j, rfl, rfl, hm, q⟩
        · cases hn
      | mod =>
        simp only [binI] at hn
        split at hn
        · rename_i hm
          cases hn
          exact iop_mod pins s σ w.H _ _ v u Q I rx ry ⟨i, j, rfl, rfl, hm, q⟩
        · cases hn
      | pow => exact absurd rfl ho
  · rename_i a b
    simp only [Rep] at r1 r2
    subst r1 r2
    split at hz
    · rename_i hc
      cases hz
      obtain ⟨rfl, hl⟩ := hc
      exact iop_add_str pins s σ w.H _ _ v u Q I rx ry ⟨a, b, rfl, rfl, hl, q _ rep_str⟩
    · cases hz
  · cases hz
theorem x_aug (c : Ctx G Γ k X W) {i : Nat} {o : BO} {e : Ex} {n : Str} {y : Expr} {p pos : Pos} (hi : Γ.N[i]? = some n) (hl : locB Γ.st n = true) (he : PE X y (tE G Φ W e)) : PS X (.AugAssign (.Name n p) (toOp o) y pos) (tS G Φ W (.aug i o e)) := by
  obtain ⟨h1, h2⟩ := c.store n (loc_of hl)
  refine PS.imp (ps_aug (i := i) (by rw [c.N]; exact c.nd) (by rw [c.N]; exact hi) h1 he (iop_D (G := G) o) h2) ?_
  rintro Dn σ H ⟨w, σd, rfl, g, rs, hp⟩
  simp only [evS] at hp
  split at hp
  · rename_i d ed
    obtain ⟨v, e1, r⟩ := rs.2 i d ed
    refine ⟨v, e1, w, σd, rfl, g, rs, (PostS.of rs hp).mono fun d2 w1 x1 g1 h1 v2 r2 => ?_⟩
    split at h1
    · rename_i z hz
      exact ⟨w1, d, d2, z, rfl, g1, Rep.ext x1 _ _ r, r2, hz, fun u ru => h1 w1 _ (Ext.refl w1) g1 rfl ((rs.ext x1).set i ru)⟩
    · exact h1.elim
  · exact hp.elim
/-- inside a loop -/
theorem PostS.loop {Dn : Ends} {w w0 : Wd} {r : RS} {f : Env' → Mem → RS} (em : Emb w0 w) (h : PostS G W Dn w (match r with | .nx σ1 M1 => f σ1 M1 | .ct σ1 M1 => f σ1 M1 | .bk σ1 M1 => .nx σ1 M1 | r => r)) :
    PostS G W { Dn with nx := fun σ H => ∃ w' σd, w'.H = H ∧ Emb w0 w' ∧ WOk G w' ∧ RepS G w' σd σ ∧ PostS G W Dn w' (f σd w'.M), ct := fun σ H => ∃ w' σd, w'.H = H ∧ Emb w0 w' ∧ WOk G w' ∧ RepS G w' σd σ ∧ PostS G W Dn w' (f σd w'.M), bk := Dn.nx } w r := by
  cases r with
  | nx σd M =>
    intro w' σ' x g e q
    subst e
    exact ⟨w', σd, rfl, em.trans x.emb, g, q, PostS.later x h⟩
  | ct σd M =>
    intro w' σ' x g e q
    subst e
    exact ⟨w', σd, rfl, em.trans x.emb, g, q, PostS.later x h⟩
  | bk σd M => exact h
  | rt d M => exact h
  | ex c fs σd M => exact h
  | no => exact h
theorem PostS.of2 {α : Type} {Dn : Ends} {w : Wd} {σd : Env'} {σ : L2.St} {r : Res α} {f : α → Mem → RS} {g : RS → RS} (hg : ∀ c fs s M, g (.ex c fs s M) = .ex c fs s M) (hno : g .no = .no) (rs : RepS G w σd σ) (h : PostS G W Dn w (g (RS.of r σd f))) : Post G W σ w r fun a w' => PostS G W Dn w' (g (f a w'.M)) := by
  cases r with
  | ok a M =>
    intro w' x gg e
    subst e
    exact PostS.later x h
  | ex c fs M =>
    have h' : PostS G W Dn w (g (.ex c fs σd M)) := h
    rw [hg] at h'
    exact fun w' d x gg e q => h' w' σ d x gg e (rs.ext x) q
  | no =>
    have h' : PostS G W Dn w (g .no) := h
    rw [hno] at h'
    exact h'
theorem x_for (c : Ctx G Γ k X W) {t : Tg} {it : It} {body : List Sx} {tg iter : Expr} {xs : List Stmt} {pos : Pos} (po : PassesOwn (model X.prog X.w) X.A X.env X.xe) (hi : PI X tg iter (tI G Φ W it)) (hg : PG X tg (tTg G Φ W t)) (hb : PSs X xs (tSs G Φ W body)) (hit : ∀ x, foldedSetIterable iter X.env x = pure x) :
    PS X (.For tg iter xs [] pos) (tS G Φ W (.fors t it body)) := by
  refine PS.imp (ps_for po c.calm hi hg hb hit) ?_
  rintro Dn σ H ⟨w, σd, rfl, g, rs, hp⟩
  simp only [evS] at hp
  refine ⟨w, σd, rfl, g, rs, (PostS.of rs hp).mono fun ds w1 x1 g1 h1 J hJ => ?_⟩
  generalize hF : (fun x σ1 M2 => RS.of (evT Φ t x σ1 M2) σ1 fun σ2 M3 => evSs Φ body σ2 M3) = F at h1
  refine ⟨fun i m σ H => ∃ w2 σd2, w2.H = H ∧ i ≤ ds.length ∧ m = ds.length - i ∧ Emb w1 w2 ∧ WOk G w2 ∧ RepS G w2 σd2 σ ∧ PostS G W Dn w2 (forGo F (ds.drop i) σd2 w2.M),
    ⟨ds.length, w1, σd, rfl, Nat.zero_le _, by simp, Emb.refl w1, g1, rs.ext x1, by rw [List.drop_zero]; exact h1⟩, ?_⟩
  rintro i m σ2 H ⟨w2, σd2, rfl, hi, rfl, em, g2, rs2, h2⟩
  obtain ⟨j1, j2, j3⟩ := hJ w2 em g2
  by_cases hl : i < ds.length
  · right
    refine ⟨j1 i hl, fun σ' H' => ∃ w' σd', w'.H = H' ∧ Emb w1 w' ∧ WOk G w' ∧ RepS G w' σd' σ' ∧ PostS G W Dn w' (forGo F (ds.drop (i + 1)) σd' w'.M), fun σ' H' ⟨w', σd', e1, e2, e3, e4, e5⟩ => ⟨ds.length - (i + 1), by omega, w', σd', e1, hl, rfl, e2, e3, e4, e5⟩, fun x H' y => ?_⟩
    obtain ⟨w3, d, rfl, _, m3, _, x3, g3, hd, rd⟩ := j3 i x H' hl y
    have hdrop : ds.drop i = d :: ds.drop (i + 1) := by
      obtain ⟨h', e'⟩ := List.getElem?_eq_some_iff.mp hd
      rw [List.drop_eq_getElem_cons h', e']
    rw [hdrop] at h2
    simp only [forGo] at h2
    have h3 := PostS.later x3 h2
    rw [← m3, ← hF] at h3
    refine ⟨w3, σd2, d, rfl, g3, rs2.ext x3, rd, ?_⟩
    refine Post.mono (PostS.of2 (g := fun r => match r with | .nx σ1 M1 => forGo F (ds.drop (i + 1)) σ1 M1 | .ct σ1 M1 => forGo F (ds.drop (i + 1)) σ1 M1 | .bk σ1 M1 => .nx σ1 M1 | r => r) (fun _ _ _ _ => rfl) rfl (rs2.ext x3) (by rw [← hF]; exact h3)) fun σd4 w4 x4 g4 h4 σ4 rs4 off => ?_
    exact ⟨w4, σd4, rfl, g4, rs4, PostS.loop ((em.trans x3.emb).trans x4.emb) h4⟩
  · left
    have hi' : i = ds.length := by omega
    subst hi'
    refine ⟨j2, ?_⟩
    rw [List.drop_length] at h2
    simp only [forGo] at h2
    exact h2 w2 σ2 (Ext.refl w2) g2 rfl rs2
theorem x_while {n : Nat} {e : Ex} {body : List Sx} {x : Expr} {xs : List Stmt} {pos : Pos} (po : PassesOwn (model X.prog X.w) X.A X.env X.xe) (hc : PT X x (tB' G Φ W e)) (hb : PSs X xs (tSs G Φ W body)) : PS X (.While x xs [] pos) (tS G Φ W (.whl n e body)) := by
  refine PS.imp (ps_while po hc hb) ?_
  rintro Dn σ H ⟨w, σd, rfl, g, rs, hp⟩
  simp only [evS] at hp
  generalize hF : (fun σ1 M1 => evSs Φ body σ1 M1) = F at hp
  refine ⟨fun m σ H => ∃ w2 σd2, w2.H = H ∧ WOk G w2 ∧ RepS G w2 σd2 σ ∧ PostS G W Dn w2 (whlGo (fun σ1 M1 => (evE Φ e σ1 M1).bind fun d M2 => Res.of (truth M2 d) M2) F m σd2 w2.M), ⟨n, w, σd, rfl, g, rs, hp⟩, ?_⟩
  rintro m σ2 H ⟨w2, σd2, rfl, g2, rs2, h2⟩
  cases m with
  | zero => exact h2.elim
  | succ m =>
    simp only [whlGo] at h2
    refine ⟨w2, σd2, rfl, g2, rs2, (PostS.of rs2 h2).mono fun b w3 x3 g3 h3 => ?_⟩
    cases b with
    | true =>
      refine iteT ⟨fun σ' H' => ∃ w' σd', w'.H = H' ∧ Emb w3 w' ∧ WOk G w' ∧ RepS G w' σd' σ' ∧ PostS G W Dn w' (whlGo (fun σ1 M1 => (evE Φ e σ1 M1).bind fun d M2 => Res.of (truth M2 d) M2) F m σd' w'.M), fun σ' H' ⟨w', σd', e1, _, e3, e4, e5⟩ => ⟨m, Nat.lt_succ_self m, w', σd', e1, e3, e4, e5⟩, w3, σd2, rfl, g3, rs2.ext x3, ?_⟩
      have h4 : PostS G W Dn w3 (match F σd2 w3.M with | .nx σ1 M1 => whlGo (fun σ1 M1 => (evE Φ e σ1 M1).bind fun d M2 => Res.of (truth M2 d) M2) F m σ1 M1 | .ct σ1 M1 => whlGo (fun σ1 M1 => (evE Φ e σ1 M1).bind fun d M2 => Res.of (truth M2 d) M2) F m σ1 M1 | .bk σ1 M1 => .nx σ1 M1 | r => r) := h3
      rw [← hF] at h4 ⊢
      exact PostS.loop (Emb.refl w3) h4
    | false => exact iteF (h3 w3 σ2 (Ext.refl w3) g3 rfl (rs2.ext x3))
end
end Ev
/-! Ev14: pairs stored at once; blocks; defs. -/
namespace Ev
open PySem L2
section
variable {G : Gb} {Φ : Nat → List D → Mem → Res D} {W : WX} {X : Cx} {k : Nat} {Γ : Cn}
def setAllV (σ : L2.St) : List Nat → List V → L2.St
  | i :: is, v :: vs => setAllV (σ.set i (some v)) is vs
  | _, _ => σ
theorem RepS.setAll {w : Wd} : ∀ {is : List Nat} {ds : List D} {vs : List V} {σd : Env'} {σ : L2.St}, RepS G w σd σ → RepL G w ds vs → RepS G w (setAll σd is ds) (setAllV σ is vs)
  | [], _, _, _, _, h, _ => by simp only [setAll, setAllV]; exact h
  | i :: is, [], _, _, _, h, r => by simp only [RepL] at r; subst r; simp only [setAll, setAllV]; exact h
  | i :: is, d :: ds, _, _, _, h, r => by
    simp only [RepL] at r
    obtain ⟨v, vs, rfl, r1, r2⟩ := r
    simp only [setAll, setAllV]
    exact RepS.setAll (h.set i r1) r2
theorem store_all {pins : List (Addr × Obj)} {H : Hp} {M : Model} {A : Around} {E : Value → Shared → Prop} (hN : X.N.Nodup) : ∀ {ns : List Str} {is : List Nat} {us : List Value} {vs : List V} {σ : L2.St} {s : Shared} {Q : Unit → Shared → Prop},
    (is.map fun i => X.N[i]?) = ns.map some → (∀ n ∈ ns, X.env.scope.names.lookup n = some .local) → Vals vs us → ns.length = us.length → Inv X pins σ H s → (∀ s', Inv X pins (setAllV σ is vs) H s' → Q () s') → wpAny M A (assignInOrder (ns.map fun n => fun v => bindName X.env n v) us) Q E s
  | [], [], [], _, _, _, _, _, _, r, _, I, q => by
    cases r
    exact PyProof.Rows.assignInOrder_nil (q _ I)
  | [], [], _ :: _, _, _, _, _, _, _, _, hl, _, _ => by simp at hl
  | [], _ :: _, _, _, _, _, _, h, _, _, _, _, _ => by simp at h
  | _ :: _, [], _, _, _, _, _, h, _, _, _, _, _ => by simp at h
  | _ :: _, _ :: _, [], _, _, _, _, _, _, _, hl, _, _ => by simp at hl
  | n :: ns, i :: is, u :: us, vs, σ, s, Q, h, hloc, r, hl, I, q => by
    cases r with
    | cons r1 r2 =>
      rename_i v vs
      simp only [List.map_cons, List.cons.injEq] at h
      have hn := hloc n (List.mem_cons_self ..)
      refine PyProof.Rows.assignInOrder_cons (PySem.wpAny_bindName (store_ok I hN h.1 (.inl hn) r1 (fun s2 I2 => ?_) (.inr hn)))
      exact store_all hN h.2 (fun m hm => hloc m (List.mem_cons_of_mem _ hm)) r2 (by simpa using hl) I2 fun s' I' => q s' (by simpa only [setAllV] using I')
theorem Vals.reverse' {xs : List V} {us : List Value} (h : Vals xs us) : Vals xs.reverse us.reverse := by
  induction h with
  | nil => exact .nil
  | cons r t ih =>
    rw [List.reverse_cons, List.reverse_cons]
    exact ih.append (.cons r .nil)
theorem RepL.reverse' {w : Wd} : ∀ {ds : List D} {vs : List V}, RepL G w ds vs → RepL G w ds.reverse vs.reverse
  | [], _, h => by simp only [RepL] at h; subst h; exact RepL.nil
  | d :: ds, _, h => by
    simp only [RepL] at h
    obtain ⟨v, r, rfl, h1, h2⟩ := h
    rw [List.reverse_cons, List.reverse_cons]
    exact (RepL.reverse' h2).append (.cons h1 .nil)
theorem x_par (c : Ctx G Γ k X W) {is : List Nat} {es : List Ex} {ts vs : List Expr} {n m : Nat} {p q pos : Pos} (hk : X.env.scope.kind = .function) (ha : PA X vs (tL G Φ W es)) (hL : mL es Γ vs = true)
    (h1 : (is.map fun i => Γ.N[i]?) = (swNames Γ.sc ts).map some) (h2 : (is.length == 2 || is.length == 3) = true) (h3 : ((swNames Γ.sc ts).length == ts.length) = true) (h4 : ((swNames Γ.sc ts).eraseDups.length == (swNames Γ.sc ts).length) = true) (h5 : (vs.length == ts.length) = true)
    (h6 : vs.all (constantsAlone 8) = false) (h7 : vs.all (foldedForSure 8) = false) : PS X (.Assign [.Tuple ts n p] (.Tuple vs m q) pos) (tS G Φ W (.par is es)) := by
  have hsw : swappedStores [.Tuple ts n p] (.Tuple vs m q) X.env = pure (some (swNames Γ.sc ts)) := by
    rw [sw_eq hk, c.sc]
    have hl : is.length = (swNames Γ.sc ts).length := by
      have := congrArg List.length h1
      simpa using this
    have e3 := beq_iff_eq.mp h3
    have e4 := beq_iff_eq.mp h4
    have e5 := beq_iff_eq.mp h5
    rw [hl, e3] at h2
    have hpl : ∀ v ∈ vs, plainX v = true := by
      have : ∀ (es : List Ex) (vs : List Expr), mL es Γ vs = true → ∀ v ∈ vs, plainX v = true := fun es => by
        induction es with
        | nil => intro vs h v hv; cases vs with
          | nil => cases hv
          | cons _ _ => simp [mL] at h
        | cons e es ih => intro vs h v hv; cases vs with
          | nil => cases hv
          | cons x xs =>
            simp only [mL, Bool.and_eq_true] at h
            rcases List.mem_cons.mp hv with rfl | hv
            · exact mE_plain h.1
            · exact ih xs h.2 v hv
      exact this es vs hL
    have k1 : (!(ts.length == 2 || ts.length == 3) || vs.length != ts.length || ScopeKind.function != ScopeKind.function) = false := by
      rw [h2, e5]; simp
    have k2 : ((swNames Γ.sc ts).length != ts.length || (swNames Γ.sc ts).eraseDups.length != (swNames Γ.sc ts).length) = false := by
      rw [e4, e3]; simp
    rw [k1, if_neg Bool.false_ne_true, starAny_of hpl, if_neg Bool.false_ne_true, k2, if_neg Bool.false_ne_true, h7, if_neg Bool.false_ne_true, h6, if_neg Bool.false_ne_true]
  have hloc : ∀ x ∈ swNames Γ.sc ts, X.env.scope.names.lookup x = some .local := by
    intro x hx
    rw [c.sc]
    unfold swNames at hx
    obtain ⟨e, _, he⟩ := List.mem_filterMap.mp hx
    cases e with
    | Name id pos =>
      simp only at he
      split at he
      · rename_i hc
        cases he
        simp only [Bool.and_eq_true, beq_iff_eq] at hc
        exact hc.1
      · cases he
    | _ => cases he
  refine ⟨fun pins s σ H Dn I h => ?_⟩
  obtain ⟨w, σd, rfl, g, rs, hp⟩ := h
  simp only [evS] at hp
  rw [PySem.exec_Assign_arm]
  refine wpAny_bind (wpAny_standAt ?_)
  show wpAny (model X.prog X.w) X.A (do
    if ← (pure false : Sem Bool) then do
      evalThenUse (.Tuple vs m q) X.env fun v => assignAll v ((assignEach [.Tuple ts n p] X.env).map (·.2))
      pure .next
    else do
      let v ← eval (.Tuple vs m q) X.env
      assignStores X.env v (← swappedStores [.Tuple ts n p] (.Tuple vs m q) X.env) ((assignEach [.Tuple ts n p] X.env).map (·.2))) (SP X pins Dn) X.xe s
  refine wpAny_bind (wpAny_pure ?_)
  rw [if_neg (by decide)]
  refine wpAny_bind (PyProof.Rows.Tuple_ (thn (ha.run _ pins s σ w.H (fun zs H1 => zs.length = es.length ∧ ∃ w1 ds, w1.H = H1 ∧ WOk G w1 ∧ RepS G w1 σd σ ∧ RepL G w1 ds zs ∧ PostS G W Dn w1 (if ds.length = is.length then .nx (setAll σd is.reverse ds.reverse) w1.M else .no)) I
    ⟨w, σd, rfl, g, rs, (PostS.of rs hp).monoE fun ds w1 ed x1 g1 h1 zs rz => ⟨by rw [← rz.length]; exact evL_len ed, w1, ds, rfl, g1, rs.ext x1, rz, h1⟩⟩) fun us s1 ⟨zs, H1, I1, r1, hz, w1, ds, e1, g1, rs1, rz, hq⟩ => ?_))
  subst e1
  split at hq
  · rename_i hl
    have hlen : us.length = (swNames Γ.sc ts).length := by
      rw [← r1.length, ← rz.length, hl]
      have := congrArg List.length h1
      simpa using this
    have hsz : us.length ≤ sizeLine := by
      rw [← r1.length, ← rz.length, hl, sizeLine_eq]
      simp only [Bool.or_eq_true, beq_iff_eq] at h2
      omega
    refine PySem.wpAny_newObj_type ?_ (by show us.toArray.size ≤ sizeLine; simpa using hsz)
    have I2 : Inv X pins σ w1.H { s1 with heap := s1.heap.push { cls := .type "tuple", data := .seq us.toArray } } := I1.kept (t' := s1.toks) fun b o e => Heap.get?_push_of_some _ e
    rw [hsw]
    refine wpAny_bind (wpAny_pure ?_)
    show wpAny (model X.prog X.w) X.A (do rule "assign.swapped-stores"; let items ← unpackItems (.ref s1.heap.objs.size) (swNames Γ.sc ts).length none; assignInOrder ((swNames Γ.sc ts).reverse.map fun n => bindName X.env n) items.reverse; pure Flow.next) _ _ _
    rw [← hlen, show us.length = us.toArray.size from by simp]
    refine wpAny_bind (wpAny_rule (wpAny_bind (PyProof.Rows.unpackItems_tuple (items := us.toArray) (I.ok.hd c.calm) (PyProof.Rows.IsTup.new s1.heap _) fun h' hx' => ?_)))
    have I3 := I2.kept (h' := h') (t' := s1.toks) fun b o e => hx' b o (Nat.ne_of_lt (Heap.lt_size e)) e
    have rev : ((is.reverse).map fun i => X.N[i]?) = (swNames Γ.sc ts).reverse.map some := by
      rw [List.map_reverse, List.map_reverse, c.N, h1]
    refine wpAny_bind (store_all (by rw [c.N]; exact c.nd) rev (fun x hx => hloc x (List.mem_reverse.mp hx)) (Vals.reverse' r1) (by simp [hlen]) I3 fun s' I' => wpAny_pure ?_)
    exact ⟨_, w1.H, I', hq w1 _ (Ext.refl w1) g1 rfl (rs1.setAll (RepL.reverse' rz))⟩
  · exact hq.elim
theorem swaps_ok {sc : Scope} {env : Env} {x y : Expr} {l : Nat} (he : env.scope = sc) (hk : env.scope.kind = .function) (h : atOnce sc x y = false) {e : Ex} (hm : mE e Γ y = true) : swapsWith y (some x) l env = pure false := by
  cases y with
  | ListComp elt gs scope p =>
    cases x with
    | Name t pos =>
      subst he
      unfold swapsWith
      simp only [atOnce] at h
      have hb := bk_of hk
      simp only [hb, Env.kindOf, Expr.pos]
      show pure _ = pure false
      congr 1
      cases e : env.scope.names.lookup t with
      | none => rfl
      | some kd =>
        rw [e] at h
        cases kd with
        | «local» =>
          simp only [Bool.true_and] at h
          exact h
        | _ => rfl
    | _ => rfl
  | DictComp kx vx gs scope p =>
    cases x with
    | Name t pos =>
      subst he
      unfold swapsWith
      simp only [atOnce] at h
      have hb := bk_of hk
      simp only [hb, Env.kindOf, Expr.pos]
      show pure _ = pure false
      congr 1
      cases e : env.scope.names.lookup t with
      | none => rfl
      | some kd =>
        rw [e] at h
        cases kd with
        | «local» =>
          simp only [Bool.true_and] at h
          exact h
        | _ => rfl
    | _ => rfl
  | SetComp _ _ _ _ => cases e <;> simp [mE] at hm
  | _ => rfl
end
end Ev
/-! Ev15: matched statements are sound. -/
namespace Ev
open PySem L2
section
variable {G : Gb} {k : Nat}
theorem sAsg {t : Tg} {e : Ex} {Γ : Cn} {X : Cx} {W : WX} {x y : Expr} {pos : Pos} (c : Ctx G Γ k X W) (hk : X.env.scope.kind = .function) (h : mS (.asg t e) Γ (.Assign [x] y pos) = true) : PS X (.Assign [x] y pos) (tS G (evF Γ.P k) W (.asg t e)) := by
  simp only [mS, Bool.and_eq_true] at h
  obtain ⟨h1, h2⟩ := h
  cases ha : atOnce Γ.sc x y with
  | false =>
    rw [ha] at h2
    simp only [Bool.false_eq_true, if_false, Bool.and_eq_true] at h2
    exact x_asg c hk (sE e Γ X W y c h1) (sT t Γ X W x c h2.1) (mT_plain h2.1) h2.2 (swaps_ok c.sc hk ha h1)
  | true =>
    rw [ha] at h2
    simp only [if_true] at h2
    cases x with
    | Name n py => cases y with
      | ListComp elt gs scope p =>
        cases t with
        | nm i =>
          simp only [Bool.and_eq_true, decide_eq_true_eq] at h2
          cases e with
          | lc a t it cc vs =>
            match gs, h1, ha with
            | [⟨tg, iter, ifs, as⟩], h, ha =>
              simp only [mE, Bool.and_eq_true, decide_eq_true_eq] at h
              obtain ⟨⟨⟨⟨⟨⟨⟨rfl, h1⟩, hb2⟩, h3⟩, h4⟩, h5⟩, h6⟩, h7⟩ := h
              have hit : ∀ x, foldedSetIterable iter X.env x = pure x := folded_of (mI_plain h1) X.env
              have hsw : swapsWith (.ListComp elt [⟨tg, iter, ifs, 0⟩] scope p) (some (.Name n py)) pos.line X.env = pure true := by
                simp only [atOnce, Bool.and_eq_true, Bool.not_eq_true'] at ha
                exact sw_true hk (by rw [c.sc]; exact h2.2) ha.1.2 ha.2
              exact x_setLc c (s_setLc c h2.1 h2.2 hsw hb2 h3 h5 hit (sI it Γ X W tg iter c h1) (fun s H C cl fp => sT t (Γ.blk scope) _ _ tg c.blk h4) (fun s H C cl fp => sC cc (Γ.blk scope) _ _ ifs c.blk h6)
                (fun s H C cl fp => sE a (Γ.blk scope) _ _ elt c.blk h7))
            | [], h, _ => simp [mE] at h
            | _ :: _ :: _, h, _ => simp [mE] at h
          | lc2 a t it cc t1 it1 cc1 vs vs1 =>
            match gs, h1, ha with
            | [⟨tg, iter, ifs, as⟩, ⟨tg1, iter1, ifs1, as1⟩], h, ha =>
              simp only [mE, Bool.and_eq_true, decide_eq_true_eq] at h
              obtain ⟨⟨⟨⟨⟨⟨⟨⟨⟨⟨⟨⟨⟨rfl, rfl⟩, h1⟩, hb2⟩, h3⟩, h4⟩, h5⟩, h6⟩, h7⟩, h8⟩, h9⟩, h10⟩, h11⟩, h12⟩ := h
              have hit : ∀ x, foldedSetIterable iter X.env x = pure x := folded_of (mI_plain h1) X.env
              have hsw : swapsWith (.ListComp elt [⟨tg, iter, ifs, 0⟩, ⟨tg1, iter1, ifs1, 0⟩] scope p) (some (.Name n py)) pos.line X.env = pure true := by
                simp only [atOnce, Bool.and_eq_true, Bool.not_eq_true'] at ha
                exact sw_true hk (by rw [c.sc]; exact h2.2) ha.1.2 ha.2
              exact x_setLc c (s_setLc2 c h2.1 h2.2 hsw hb2 h3 h5 h9 h10 hit (fun env => folded_of (mI_plain h7) env) (sI it Γ X W tg iter c h1) (fun s H C cl fp => sT t (Γ.blk scope) _ _ tg c.blk h4) (fun s H C cl fp => sC cc (Γ.blk scope) _ _ ifs c.blk h6)
                (fun s H C cl fp => sI it1 (Γ.blk scope) _ _ tg1 iter1 c.blk h7) (fun s H C cl fp => sT t1 (Γ.blk scope) _ _ tg1 c.blk h8) (fun s H C cl fp => sC cc1 (Γ.blk scope) _ _ ifs1 c.blk h11) (fun s H C cl fp => sE a (Γ.blk scope) _ _ elt c.blk h12))
            | [], h, _ => simp [mE] at h
            | [_], h, _ => simp [mE] at h
            | _ :: _ :: _ :: _, h, _ => simp [mE] at h
          | _ => simp [mE] at h1
        | _ => simp at h2
      | DictComp kx vx gs scope p =>
        cases t with
        | nm i =>
          simp only [Bool.and_eq_true, decide_eq_true_eq] at h2
          cases e with
          | dc a b t it cc vs =>
            match gs, h1, ha with
            | [⟨tg, iter, ifs, as⟩], h, ha =>
              simp only [mE, Bool.and_eq_true, decide_eq_true_eq] at h
              obtain ⟨⟨⟨⟨⟨⟨⟨⟨rfl, h1⟩, hb2⟩, h3⟩, h4⟩, h5⟩, h6⟩, h7⟩, h8⟩ := h
              have hit : ∀ x, foldedSetIterable iter X.env x = pure x := folded_of (mI_plain h1) X.env
              have hsw : swapsWith (.DictComp kx vx [⟨tg, iter, ifs, 0⟩] scope p) (some (.Name n py)) pos.line X.env = pure true := by
                simp only [atOnce, Bool.and_eq_true, Bool.not_eq_true'] at ha
                exact sw_trueD hk (by rw [c.sc]; exact h2.2) ha.1.2 ha.2
              exact x_setLc c (s_setDc c h2.1 h2.2 hsw hb2 h3 h5 hit (sI it Γ X W tg iter c h1) (fun s H C cl fp => sT t (Γ.blk scope) _ _ tg c.blk h4) (fun s H C cl fp => sC cc (Γ.blk scope) _ _ ifs c.blk h6)
                (fun s H C cl fp => sE a (Γ.blk scope) _ _ kx c.blk h7) (fun s H C cl fp => sE b (Γ.blk scope) _ _ vx c.blk h8))
            | [], h, _ => simp [mE] at h
            | _ :: _ :: _, h, _ => simp [mE] at h
          | _ => simp [mE] at h1
        | _ => simp at h2
      | _ => simp [atOnce] at ha
    | _ => simp [atOnce] at ha
theorem sAsgs {t : Tg} {e : Ex} {Γ : Cn} {X : Cx} {W : WX} {xs : List Expr} {y : Expr} {pos : Pos} (c : Ctx G Γ k X W) (hk : X.env.scope.kind = .function) (h : mS (.asg t e) Γ (.Assign xs y pos) = true) : PS X (.Assign xs y pos) (tS G (evF Γ.P k) W (.asg t e)) := by
  match xs, h with
  | [x], h => exact sAsg c hk h
  | [], h => simp [mS] at h
  | _ :: _ :: _, h => simp [mS] at h
theorem sPar {is : List Nat} {es : List Ex} {Γ : Cn} {X : Cx} {W : WX} {xs : List Expr} {y : Expr} {pos : Pos} (c : Ctx G Γ k X W) (hk : X.env.scope.kind = .function) (h : mS (.par is es) Γ (.Assign xs y pos) = true) : PS X (.Assign xs y pos) (tS G (evF Γ.P k) W (.par is es)) := by
  simp only [mS] at h
  split at h
  · simp only [Bool.and_eq_true, decide_eq_true_eq, Bool.not_eq_true'] at h
    obtain ⟨⟨⟨⟨⟨⟨⟨h1, h2⟩, h3⟩, h4⟩, h5⟩, h6⟩, h7⟩, h8⟩ := h
    exact x_par c hk (sL es _ X W _ c h1) h1 h2 h3 h4 h5 h6 h7 h8
  · cases h
mutual
theorem sS : ∀ (s : Sx) (Γ : Cn) (X : Cx) (W : WX) (st : Stmt), Ctx G Γ k X W → X.env.scope.kind = .function → PassesOwn (model X.prog X.w) X.A X.env X.xe → mS s Γ st = true → PS X st (tS G (evF Γ.P k) W s)
  | .asg t e, Γ, X, W, st, c, hk, po, h => by
    cases st with
    | Assign xs y pos =>
      exact sAsgs c hk h
    | _ => simp [mS] at h
  | .par is es, Γ, X, W, st, c, hk, po, h => by
    cases st with
    | Assign xs y pos =>
      exact sPar c hk h
    | _ => simp [mS] at h
  | .aug i o e, Γ, X, W, st, c, hk, po, h => by
    cases st with
    | AugAssign x op y pos => cases x with
      | Name n p =>
        simp only [mS, Bool.and_eq_true, decide_eq_true_eq] at h
        obtain ⟨⟨⟨h1, h2⟩, rfl⟩, h4⟩ := h
        exact x_aug c h1 h2 (sE e Γ X W y c h4)
      | _ => simp [mS] at h
    | _ => simp [mS] at h
  | .expr e, Γ, X, W, st, c, hk, po, h => by
    cases st with
    | Expr y pos => simp only [mS, Bool.and_eq_true] at h; exact x_expr (sE e Γ X W y c h.2) h.1
    | _ => simp [mS] at h
  | .ret e, Γ, X, W, st, c, hk, po, h => by
    cases st with
    | Return v pos => cases v with
      | none => simp [mS] at h
      | some y => simp only [mS] at h; exact x_ret (sE e Γ X W y c h)
    | _ => simp [mS] at h
  | .retN, Γ, X, W, st, c, hk, po, h => by
    cases st with
    | Return v pos => cases v with
      | none => exact x_retN
      | some y => simp [mS] at h
    | _ => simp [mS] at h
  | .ifs e a b, Γ, X, W, st, c, hk, po, h => by
    cases st with
    | If x xs ys pos =>
      simp only [mS, Bool.and_eq_true] at h
      exact x_if (sB e Γ X W x c h.1.1).1 (sSs a Γ X W xs c hk po h.1.2) (sSs b Γ X W ys c hk po h.2)
    | _ => simp [mS] at h
  | .fors t it body, Γ, X, W, st, c, hk, po, h => by
    cases st with
    | For tg iter xs els pos => cases els with
      | nil =>
        simp only [mS, Bool.and_eq_true] at h
        exact x_for c po (sI it Γ X W tg iter c h.1.1) (sT t Γ X W tg c h.1.2) (sSs body Γ X W xs c hk po h.2) (folded_of (mI_plain h.1.1) X.env)
      | cons _ _ => simp [mS] at h
    | _ => simp [mS] at h
  | .whl n e body, Γ, X, W, st, c, hk, po, h => by
    cases st with
    | While x xs els pos => cases els with
      | nil =>
        simp only [mS, Bool.and_eq_true] at h
        exact x_while po (sB e Γ X W x c h.1).1 (sSs body Γ X W xs c hk po h.2)
      | cons _ _ => simp [mS] at h
    | _ => simp [mS] at h
  | .brk, Γ, X, W, st, c, hk, po, h => by
    cases st with
    | Break pos => exact PS.imp ps_break (by rintro Dn σ H ⟨w, σd, rfl, g, rs, hp⟩; simp only [evS] at hp; exact hp w σ (Ext.refl w) g rfl rs)
    | _ => simp [mS] at h
  | .cnt, Γ, X, W, st, c, hk, po, h => by
    cases st with
    | Continue pos => exact PS.imp ps_continue (by rintro Dn σ H ⟨w, σd, rfl, g, rs, hp⟩; simp only [evS] at hp; exact hp w σ (Ext.refl w) g rfl rs)
    | _ => simp [mS] at h
  | .pass, Γ, X, W, st, c, hk, po, h => by
    cases st with
    | Pass pos => exact PS.imp ps_pass (by rintro Dn σ H ⟨w, σd, rfl, g, rs, hp⟩; simp only [evS] at hp; exact hp w σ (Ext.refl w) g rfl rs)
    | _ => simp [mS] at h
  | .nev, Γ, X, W, st, c, hk, po, h => by
    refine PS.imp ps_never ?_
    rintro Dn σ H ⟨w, σd, rfl, g, rs, hp⟩
    simp only [evS] at hp
    exact hp.elim
  | .frzs v s, Γ, X, W, st, c, hk, po, h => by
    simp only [mS, Bool.and_eq_true] at h
    refine PS.imp (sS s Γ X W st c hk po h.2) ?_
    rintro Dn σ H ⟨w, σd, rfl, g, rs, hp⟩
    simp only [evS] at hp
    split at hp
    · rename_i j e
      obtain ⟨u, e1, r⟩ := rs.2 v _ e
      simp only [Rep] at r
      obtain ⟨a, rfl, ha⟩ := r
      have x1 : Ext w (w.frz j) := ext_frz
      have fin : ∀ d : D, Rep G (w.frz j) d (.ref a) → RepS G (w.frz j) (σd.set v (some d)) σ := fun d rd => by
        refine ⟨by rw [List.length_set]; exact rs.1, fun i d' ed => ?_⟩
        by_cases hi : v = i
        · subst hi
          rw [List.getElem?_set_self (List.getElem?_eq_some_iff.mp e).1] at ed
          cases ed
          exact ⟨_, e1, rd⟩
        · rw [List.getElem?_set_ne hi] at ed
          exact (rs.ext x1).2 i d' ed
      split at hp
      · rename_i xs hm
        obtain ⟨vs, h1, h2⟩ := g.cell j a _ ha hm
        refine ⟨w.frz j, σd.set v (some (.lst xs)), rfl, wok_frz g, fin _ ?_, hp.later x1⟩
        simp only [Rep]
        exact ⟨a, vs, rfl, ⟨h1, not_live_frz g ha, g.ch j a ha⟩, RepL.ext x1 _ _ h2⟩
      · rename_i cc fs hm
        obtain ⟨hc, dx, vs, h1, h2⟩ := g.cell j a _ ha hm
        refine ⟨w.frz j, σd.set v (some (.ins cc fs)), rfl, wok_frz g, fin _ ?_, hp.later x1⟩
        simp only [Rep]
        exact ⟨hc, a, dx, vs, rfl, ⟨h1, not_live_frz g ha, g.ch j a ha⟩, RepF.ext x1 _ _ h2⟩
      · rename_i kvs hm
        obtain ⟨vs, h1, h2⟩ := g.cell j a _ ha hm
        refine ⟨w.frz j, σd.set v (some (.dcn kvs)), rfl, wok_frz g, fin _ ?_, hp.later x1⟩
        simp only [Rep]
        exact ⟨a, vs, rfl, ⟨h1, not_live_frz g ha, g.ch j a ha⟩, RepN.emb x1.emb _ _ h2⟩
      · exact hp.elim
    · exact hp.elim
theorem sSs : ∀ (ss : List Sx) (Γ : Cn) (X : Cx) (W : WX) (sts : List Stmt), Ctx G Γ k X W → X.env.scope.kind = .function → PassesOwn (model X.prog X.w) X.A X.env X.xe → mSs ss Γ sts = true → PSs X sts (tSs G (evF Γ.P k) W ss)
  | [], Γ, X, W, sts, c, hk, po, h => by
    cases sts with
    | nil => exact ss_nil
    | cons _ _ => simp [mSs] at h
  | s :: ss, Γ, X, W, sts, c, hk, po, h => by
    cases sts with
    | nil => simp [mSs] at h
    | cons x xs =>
      simp only [mSs, Bool.and_eq_true] at h
      exact ss_cons (sS s Γ X W x c hk po h.1) (sSs ss Γ X W xs c hk po h.2)
end
end
end Ev
/-! Ev16: defs: the promise of each by its matched body. -/
namespace Ev
open PySem L2
section
variable {G : Gb} {w w' : Wd}
/-! ### cells that are forgotten -/
mutual
theorem Rep.cut (x : ∀ a u, Sat w a u → Sat w' a u) : ∀ (d : D) (v : V), noCell d = true → Rep G w d v → Rep G w' d v
  | .non, _, _, h => by simp only [Rep] at h ⊢; exact h
  | .bl b, _, _, h => by simp only [Rep] at h ⊢; exact h
  | .int i, _, _, h => by simp only [Rep] at h ⊢; exact h
  | .str s, _, _, h => by simp only [Rep] at h ⊢; exact h
  | .tup xs, _, n, h => by
    simp only [Rep] at h ⊢
    obtain ⟨a, vs, e, h1 | h1, h2⟩ := h
    · exact ⟨a, vs, e, .inl (x a _ h1), RepL.cut x xs vs (by simpa only [noCell] using n) h2⟩
    · exact ⟨a, vs, e, .inr h1, RepL.cut x xs vs (by simpa only [noCell] using n) h2⟩
  | .lst xs, _, n, h => by
    simp only [Rep] at h ⊢
    obtain ⟨a, vs, e, h1, h2⟩ := h
    exact ⟨a, vs, e, x a _ h1, RepL.cut x xs vs (by simpa only [noCell] using n) h2⟩
  | .scr xs, _, n, h => by
    simp only [Rep] at h ⊢
    obtain ⟨a, vs, e, ⟨o, h1⟩ | h1, h2⟩ := h
    · exact ⟨a, vs, e, .inl ⟨o, x a _ h1⟩, RepL.cut x xs vs (by simpa only [noCell] using n) h2⟩
    · exact ⟨a, vs, e, .inr h1, RepL.cut x xs vs (by simpa only [noCell] using n) h2⟩
  | .ins c fs, _, n, h => by
    simp only [Rep] at h ⊢
    obtain ⟨hc, a, dx, vs, e, h1, h2⟩ := h
    exact ⟨hc, a, dx, vs, e, x a _ h1, RepF.cut x fs vs (by simpa only [noCell] using n) h2⟩
  | .dct kvs, _, n, h => by
    simp only [Rep] at h ⊢
    obtain ⟨a, vs, e, h1, h2⟩ := h
    exact ⟨a, vs, e, x a _ h1, RepK.cut x kvs vs (by simpa only [noCell] using n) h2⟩
  | .dcn kvs, _, n, h => by
    simp only [Rep] at h ⊢
    obtain ⟨a, vs, e, h1, h2⟩ := h
    exact ⟨a, vs, e, x a _ h1, RepN.cut x kvs vs (by simpa only [noCell] using n) h2⟩
  | .cell i, _, n, h => by simp [noCell] at n
theorem RepL.cut (x : ∀ a u, Sat w a u → Sat w' a u) : ∀ (ds : List D) (vs : List V), noCells ds = true → RepL G w ds vs → RepL G w' ds vs
  | [], _, _, h => by simp only [RepL] at h ⊢; exact h
  | d :: ds, _, n, h => by
    simp only [noCells, Bool.and_eq_true] at n
    simp only [RepL] at h ⊢
    obtain ⟨v, r, e, h1, h2⟩ := h
    exact ⟨v, r, e, Rep.cut x d v n.1 h1, RepL.cut x ds r n.2 h2⟩
theorem RepF.cut (x : ∀ a u, Sat w a u → Sat w' a u) : ∀ (ds : List (Str × D)) (vs : List (Str × V)), noCellF ds = true → RepF G w ds vs → RepF G w' ds vs
  | [], _, _, h => by simp only [RepF] at h ⊢; exact h
  | d :: ds, _, n, h => by
    simp only [noCellF, Bool.and_eq_true] at n
    simp only [RepF] at h ⊢
    obtain ⟨v, r, e, h1, h2⟩ := h
    exact ⟨v, r, e, Rep.cut x d.2 v n.1 h1, RepF.cut x ds r n.2 h2⟩
theorem RepK.cut (x : ∀ a u, Sat w a u → Sat w' a u) : ∀ (ds : List (Key × D)) (vs : List (Key × V)), noCellK ds = true → RepK G w ds vs → RepK G w' ds vs
  | [], _, _, h => by simp only [RepK] at h ⊢; exact h
  | d :: ds, _, n, h => by
    simp only [noCellK, Bool.and_eq_true] at n
    simp only [RepK] at h ⊢
    obtain ⟨v, r, e, h1, h2⟩ := h
    exact ⟨v, r, e, Rep.cut x d.2 v n.1 h1, RepK.cut x ds r n.2 h2⟩
theorem RepN.cut (x : ∀ a u, Sat w a u → Sat w' a u) : ∀ (ds : List (NestedKey × D)) (vs : List NE), noCellN ds = true → RepN G w ds vs → RepN G w' ds vs
  | [], _, _, h => by simp only [RepN] at h ⊢; exact h
  | d :: ds, _, n, h => by
    simp only [noCellN, Bool.and_eq_true] at n
    simp only [RepN] at h ⊢
    obtain ⟨ka, u, v, r, e, h0, h1, h2, h3, h4⟩ := h
    exact ⟨ka, u, v, r, e, RepKyG.imp (fun a us q => q.imp (fun z => x a _ z) id) _ _ h0, h1, h2, Rep.cut x d.2 v n.1 h3, RepN.cut x ds r n.2 h4⟩
end
def Wd.cut (w : Wd) (n : Nat) : Wd := ⟨w.as.take n, w.M.take n, w.H, w.hd⟩
theorem take_get {α : Type} {xs : List α} {n i : Nat} {a : α} (h : (xs.take n)[i]? = some a) : xs[i]? = some a := by
  rw [List.getElem?_take] at h
  split at h
  · exact h
  · cases h
theorem live_cut {n : Nat} {a : Addr} (h : Live (w.cut n) a) : Live w a := by
  obtain ⟨i, o, h1, h2⟩ := h
  exact ⟨i, o, take_get h1, take_get h2⟩
theorem sat_cut {n : Nat} {a : Addr} {u : HO} (h : Sat w a u) : Sat (w.cut n) a u := ⟨h.1, fun z => h.2.1 (live_cut z), h.2.2⟩
theorem ext_cut (g : WOk G w) (x : Ext w w') : Ext w (w'.cut w.M.length) := by
  obtain ⟨ys, e⟩ := x.pre
  refine ⟨⟨[], ?_⟩, fun a o h n => ⟨(x.keep a o h n).1, fun z => (x.keep a o h n).2 (live_cut z)⟩, x.hid, x.ex⟩
  show w'.as.take w.M.length = w.as ++ []
  rw [e, ← g.len, List.append_nil, List.take_left']
  rfl
theorem wok_cut (g : WOk G w') {n : Nat} (h : ((w'.M.take n).all quiet) = true) : WOk G (w'.cut n) := by
  refine ⟨?_, g.nd.sublist (List.take_sublist _ _), fun i a e => g.there i a (take_get e), fun i a o h1 h2 => ?_, g.hid, fun i a e => g.ch i a (take_get e)⟩
  · show (w'.as.take n).length = (w'.M.take n).length
    rw [List.length_take, List.length_take, g.len]
  · have q := List.all_eq_true.mp h _ (List.mem_of_getElem? h2)
    have r := g.cell i a o (take_get h1) (take_get h2)
    cases o with
    | lst xs =>
      obtain ⟨vs, e, r⟩ := r
      exact ⟨vs, e, RepL.cut (fun a u z => sat_cut z) xs vs q r⟩
    | ins c fs =>
      obtain ⟨hc, dx, vs, e, r⟩ := r
      exact ⟨hc, dx, vs, e, RepF.cut (fun a u z => sat_cut z) fs vs q r⟩
    | dcn kvs =>
      obtain ⟨xs, e, r⟩ := r
      exact ⟨xs, e, RepN.cut (fun a u z => sat_cut z) kvs xs q r⟩
/-- a body's ends, by what the call is worth -/
theorem body_ends {Qv : VK} {r : RS} {E : XK} (g : WOk G w)
    (h : Post G (fun cls d _ H => E cls d H) [] w (tidy w.M.length (bodyRes r)) fun d w' => ∀ v, Rep G w' d v → Qv v w'.H) :
    PostS G (fun cls d _ H => E cls d H) { nx := fun _ H' => Qv .non H', rt := Qv } w r := by
  cases r with
  | nx σd M =>
    intro w' σ' x g' e rs
    simp only [bodyRes, tidy, noCell, Bool.and_true] at h
    split at h
    · exact h w' x g' e .non (by simp only [Rep])
    split at h
    · rename_i hs
      subst e
      simp only [spare, Bool.and_eq_true] at hs
      exact h (w'.cut w.M.length) (ext_cut g x) (wok_cut g' hs.2) rfl .non (by simp only [Rep])
    · exact h w' x g' e .non (by simp only [Rep])
  | rt d M =>
    intro w' v x g' e r
    simp only [bodyRes, tidy] at h
    split at h
    · exact h w' x g' e v r
    split at h
    · rename_i hs
      subst e
      simp only [spare, Bool.and_eq_true] at hs
      exact h (w'.cut w.M.length) (ext_cut g x) (wok_cut g' hs.1.2) rfl v (Rep.cut (fun a u z => sat_cut z) d v hs.2 r)
    · exact h w' x g' e v r
  | ex c fs σd M =>
    intro w' σ' d x g' e rs xr
    simp only [bodyRes, tidy] at h
    split at h
    · exact h w' d x g' e xr
    split at h
    · rename_i hs
      subst e
      simp only [spare, Bool.and_eq_true] at hs
      refine h (w'.cut w.M.length) d (ext_cut g x) (wok_cut g' hs.1.2) rfl ?_
      rcases xr with xr | ⟨dx, vs, e1, e2, e3⟩
      · exact .inl xr
      · exact .inr ⟨dx, vs, e1, e2, RepF.cut (fun a u z => sat_cut z) fs vs hs.2 e3⟩
    · exact h w' d x g' e xr
  | bk σd M => exact h.elim
  | ct σd M => exact h.elim
  | no => exact h.elim
end
/-! ### defs -/
/-- where a def stands in the module, and that its body is what is told -/
structure DefAt (G : Gb) (mg : Str → Option Value) (Pd : List Df) (bs : List Str) (gs : List (Str × GC)) (cs : List Cf) (d : Df) (f : Addr) (fd : FuncData) : Prop where
  mg : topB d.name = true → mg d.name = some (.ref f)
  keep : PySem.W.keepIn G.K (.ref f) = true
  at_ : ∃ (name qual : Str) (params : Arguments) (body : List Stmt) (scope : Scope) (dV kV doc pm cdv ct oc : Value) (an od : Option Addr) (osl : Array (Option Value)),
    fd = PySem.W.fnOf name qual params body scope dV kV doc pm an cdv ct ∧ G.K.lookup f = some ⟨oc, od, .func fd, osl⟩ ∧ PySem.W.codeIn G.K cdv qual = true ∧ FnScope d.N d.ps scope ∧ mSs d.body ⟨d.N, scope, scope, Pd, bs, gs, cs⟩ body = true ∧ (!isRank d || (rankB scope body && decide (d.ps = [Str.ofString "key"]) && topB d.name && bs.contains "tuple" && decide ((1, [], [0]) ∈ d.shapes))) = true
  shapes : ∀ sh ∈ d.shapes, ∀ (s : Shared) (us ws : List Value), us.length = sh.1 → ws.length = sh.2.1.length → BindsTo s fd ⟨us, sh.2.1.zip ws⟩ (d.ps.zip (permV .none sh.2.2 (us ++ ws)))
structure Tab (G : Gb) (mg : Str → Option Value) (Pd : List Df) (bs : List Str) (gs : List (Str × GC)) (cs : List Cf) : Prop where
  df : ∀ (i : Nat) (d : Df), Pd[i]? = some d → ∃ f fd, DefAt G mg Pd bs gs cs d f fd
  blt : ∀ x ∈ bs, mg x = none
  glb : ∀ p ∈ gs, ∃ u v, mg p.1 = some u ∧ RelV v u ∧ GCok G.K p.2 v
  nc : G.nc = cs.length
  cls : ∀ c cf, cs[c]? = some cf → ClsR G mg cf c fun i fa => ∃ d fd, Pd[i]? = some d ∧ DefAt G mg Pd bs gs cs d fa fd
/-- a sort's key def -/
theorem Tab.rank {G : Gb} {P : Program} {w : World} {mg : Str → Option Value} {Pd : List Df} {bs : List Str} {gs : List (Str × GC)} {cs : List Cf} (T : Tab G mg Pd bs gs cs) (j : Nat) (d : Df) (hj : Pd[j]? = some d) (hr : isRank d = true) :
    ∃ fa, mg d.name = some (.ref fa) ∧ KeyFn P w G.K mg fa := by
  obtain ⟨f, fd, A⟩ := T.df j d hj
  obtain ⟨name, qual, params, body, scope, dV, kV, doc, pm, cdv, ct, oc, an, od, osl, rfl, lk, hcd, S, hm, hk⟩ := A.at_
  rw [hr] at hk
  simp only [Bool.not_true, Bool.false_or, Bool.and_eq_true, decide_eq_true_eq] at hk
  obtain ⟨⟨⟨⟨h1, h2⟩, h3⟩, h4⟩, h5⟩ := hk
  rw [h2] at S
  refine ⟨f, A.mg h3, keyFn_of lk hcd S (T.blt _ (List.contains_iff_mem.mp h4)) (fun s u => ?_) h1⟩
  have := A.shapes _ h5 s [u] [] rfl rfl
  rw [h2] at this
  exact this
/-- THE RULE for a def (of HandS' fn_of), with the guards -/
theorem fn_ofG {P : Program} {w : World} {K : PySem.W.Frag} {mg : Str → Option Value} {base : Heap} {k : Nat} {f : Addr} {name qual : Str} {params : Arguments} {body : List Stmt} {scope : Scope} {dV kV doc pm cdv ct oc : Value} {an od : Option Addr}
    {osl : Array (Option Value)} {N ps : List Str} {sp : Sp} (lk : K.lookup f = some ⟨oc, od, .func (PySem.W.fnOf name qual params body scope dV kV doc pm an cdv ct), osl⟩) (hcd : PySem.W.codeIn K cdv qual = true) (S : FnScope N ps scope)
    (len : ∀ vs H Q E, sp vs H Q E → vs.length = ps.length)
    (hbody : ∀ (A : Around) (outer : List Env) (s : Shared) (H : Hp) (vs : List V) (Q : VK) (E : XK), Room k (A.deeper (PyProof.Rows.envOfC qual scope s.heap.objs.size f cdv)) → (A.deeper (PyProof.Rows.envOfC qual scope s.heap.objs.size f cdv)).guards = some [] → sp vs H Q E →
      ∃ t, PSs (cxOf (L2.CX P w) P w K mg base N qual scope f cdv A outer s H E) body t ∧ t { nx := fun _ H' => Q .non H', rt := Q } (start N vs) H) :
    FnG P w K mg base (k + 1) f (PySem.W.fnOf name qual params body scope dV kV doc pm an cdv ct) ps sp := by
  refine ⟨fun A outer s H args us vs Q E hr hgd e0 hb r hsp => ?_⟩
  have hl := len _ _ _ _ hsp
  have inK : K.In s.heap := e0.mod.kin.keeps fun b o e => (e0.bs b o e).1
  have lim : s.heap.NoLimit := e0.mod.nolimit.keeps fun b o e => (e0.bs b o e).1
  have kinds : ∀ y ∈ ps.zip us, scope.names.lookup y.1 = some .local ∨ (scope.names.lookup y.1 = some .cell ∧ ((cellsFrom (s.heap.objs.size + 1) scope.names []).lookup y.1).isSome = true) := by
    intro y hy
    have := S.par y.1 (List.of_mem_zip (a := y.1) (b := y.2) hy).1
    exact this.imp id fun q => ⟨q, PySem.W.cellsFrom_some _ _ _ (.inl q)⟩
  refine codeAny_call_function hr.depth (inK _ _ lk) rfl S.co S.gen rfl (PySem.W.codeRec_of inK hcd) (hb _ _ _ _ (wpAny_newFunctionEnv_cells S.kind kinds fun env he s1 x => ?_))
  subst he
  refine ⟨lim.keeps x.toInCall.keep, codeAny_func ?_⟩
  obtain ⟨t, ht, hq⟩ := hbody A outer s H vs Q E (hr.deeper _) hgd hsp
  refine wpAny_mono (ht.run [] s1 (start N vs) H _ (inv_start S hr.hd e0 hl r x) hq) (fun fl s' hs => ?_) fun e s' hs => hs
  match fl, hs with
  | .ret u, ⟨v, _, H', J, rv, q⟩ => exact ⟨v, H', J.os, J.bare, J.base, J.hok, rv, q⟩
  | .next, ⟨_, H', J, q⟩ => exact ⟨V.non, H', J.os, J.bare, J.base, J.hok, rfl, q⟩
  | .brk, ⟨_, _, _, q⟩ => exact False.elim q
  | .cont, ⟨_, _, _, q⟩ => exact False.elim q
theorem RepS.start {G : Gb} {w : Wd} {ds : List D} {vs : List V} (r : RepL G w ds vs) (N : List Str) : RepS G w (ds.map some ++ List.replicate (N.length - ds.length) Option.none) (start N vs) := by
  have hl := r.length
  refine ⟨by simp [L2.start, hl], fun i d h => ?_⟩
  by_cases hi : i < ds.length
  · rw [List.getElem?_append_left (by simpa using hi), List.getElem?_map] at h
    cases e : ds[i]? with
    | none => rw [e] at h; cases h
    | some a =>
      rw [e] at h
      cases h
      obtain ⟨v, h1, h2⟩ := r.get e
      refine ⟨v, ?_, h2⟩
      unfold L2.start
      rw [List.getElem?_append_left (by simpa [← hl] using hi), List.getElem?_map, h1]
      rfl
  · rw [List.getElem?_append_right (by simpa using hi), List.getElem?_replicate] at h
    split at h <;> cases h
theorem fn_D {G : Gb} {P : Program} {w : World} (eP : P = G.prog) (ew : w = G.wd) {mg : Str → Option Value} {base : Heap} {k i : Nat} {f : Addr} {fd : FuncData} {Pd : List Df} {bs : List Str} {gs : List (Str × GC)} {cs : List Cf} {d : Df} (T : Tab G mg Pd bs gs cs) (hd : Pd[i]? = some d) (h : DefAt G mg Pd bs gs cs d f fd)
    (ih : ∀ (i : Nat) (d : Df) (f : Addr) (fd : FuncData), Pd[i]? = some d → DefAt G mg Pd bs gs cs d f fd → FnG P w G.K mg base (2 * k) f fd d.ps (spF G Pd k i)) : FnG P w G.K mg base (2 * (k + 1)) f fd d.ps (spF G Pd (k + 1) i) := by
  obtain ⟨name, qual, params, body, scope, dV, kV, doc, pm, cdv, ct, oc, an, od, osl, rfl, lk, hcd, S, hm, _⟩ := h.at_
  have len : ∀ vs H Q E, spF G Pd (k + 1) i vs H Q E → vs.length = d.ps.length := by
    rintro vs H Q E ⟨w0, ds, rfl, g, r, hp⟩
    rw [evF, hd] at hp
    simp only at hp
    split at hp
    · rename_i hl; rw [← r.length, hl]
    · exact hp.elim
  show FnG P w G.K mg base (2 * k + 1 + 1) f _ d.ps (spF G Pd (k + 1) i)
  refine fn_ofG lk hcd S len fun A outer s H vs Q E hr hg hsp => ?_
  obtain ⟨w0, ds, rfl, g, r, hp⟩ := hsp
  rw [evF, hd] at hp
  simp only at hp
  split at hp
  · have c : Ctx G ⟨d.N, scope, scope, Pd, bs, gs, cs⟩ k (cxOf (L2.CX P w) P w G.K mg base d.N qual scope f cdv A outer s w0.H E) (fun cls d _ H => E cls d H) := {
      N := rfl
      sc := rfl
      K := rfl
      nd := S.nd
      store := fun x hx => ⟨hx, .inl rfl⟩
      calm := rfl
      gd := hg
      room := hr
      tk := takes_of rfl rfl rfl rfl
      tab := fun j e hj => by
        obtain ⟨fa, fe, h1⟩ := T.df j e hj
        exact ⟨fa, fe, h1.mg, h1.keep, ih j e fa fe hj h1, h1.shapes⟩
      blt := T.blt
      glb := T.glb
      nc := T.nc
      rnk := fun j e hj hr => T.rank j e hj hr
      prog := eP
      wd := ew
      cls := fun n cf hcf => (T.cls n cf hcf).imp fun j fa ⟨e, fe, h1, h2⟩ => ⟨e, fe, h1, ih j e fa fe h1 h2, h2.shapes⟩ }
    exact ⟨_, sSs d.body _ _ _ body c S.kind (passes_of rfl) hm, w0, _, rfl, g, RepS.start r d.N, body_ends g hp⟩
  · exact hp.elim
theorem fn_all {G : Gb} {P : Program} {w : World} (eP : P = G.prog) (ew : w = G.wd) {mg : Str → Option Value} {base : Heap} {Pd : List Df} {bs : List Str} {gs : List (Str × GC)} {cs : List Cf} (T : Tab G mg Pd bs gs cs) : ∀ (k i : Nat) (d : Df) (f : Addr) (fd : FuncData), Pd[i]? = some d → DefAt G mg Pd bs gs cs d f fd → FnG P w G.K mg base (2 * k) f fd d.ps (spF G Pd k i)
  | 0, i, d, f, fd, h, a => by
    refine ⟨fun A outer s H args us vs Q E hr hg e0 hb r hsp => ?_⟩
    obtain ⟨w0, ds, rfl, g, r, hp⟩ := hsp
    rw [evF] at hp
    exact hp.elim
  | k + 1, i, d, f, fd, h, a => fn_D eP ew T h a (fn_all eP ew T k)
end Ev
/-! Ev17: the law's own call. -/
namespace Ev
open PySem PySem.Spec PyProof.Rows L2
/-- the law's end: True -/
abbrev LawEnd (s₁ : Shared) (r : Result) (s' : Shared) : Prop := r = .ok (.ret (.bool true)) ∧ OldK s₁.heap s'.heap ∧ s'.os = s₁.os ∧ AllBare s'.gens
section
variable {P : Program} {w : World} {K : PySem.W.Frag} {mg mb : Str → Option Value} {k : Nat} {fa a : Addr} {fd : FuncData} {x : Str} {sp : Sp} {s₁ : Shared}
/-- from an abstract heap H that tracks the script at most -/
theorem law_core (KX : K.In s₁.heap) (hns : s₁.heap.Ns mainGlobals mg) (hb : s₁.heap.Ns builtinsNs mb) (hbb : ∀ x : Str, x ≠ "__name__" → mb x = bootBuiltins x) (hlim : s₁.heap.NoLimit) (hg : s₁.gens = #[]) (hr : Room k callerA)
    (F : ∀ base : Heap, K.In base → base.Ns mainGlobals mg → FnG P w K mg base k fa fd [x] sp) (hbind : ∀ (s : Shared) (u : Value), BindsTo s fd ⟨[u], []⟩ [(x, u)])
    {H : Hp} (hO : Only H) (hS : sp [.ref a] H (fun v _ => v = .bl true) fun _ _ _ => False) (hok : HOk P w H s₁.heap) (nod : ∀ b o, H b ≠ none → s₁.heap.get? b = some o → ∀ es ep, o.data ≠ .dict es ep) (hK : ∀ b, H b ≠ none → K.lookup b = none) :
    codeAny (model P w) callerA (.call (.ref fa) ⟨[.ref a], []⟩) (LawEnd s₁) s₁ := by
  have free : ∀ {b : Addr}, ¬ (H b ≠ none) → H b = none := fun h => Classical.not_not.mp h
  have nsK : ∀ {b : Addr} {m : Str → Option Value}, s₁.heap.Ns b m → (hidT s₁.heap H).Ns b m := fun {b m} ⟨o, es, ep, e, d, r⟩ => ⟨o, es, ep, hidT_get e (free fun n => nod b o n e es ep d), d, r⟩
  have inK : K.In (hidT s₁.heap H) := fun b o e => hidT_get (KX b o e) (free fun n => by rw [hK b n] at e; cases e)
  have hM : Mod K mg (hidT s₁.heap H) := ⟨inK, nsK hns, ⟨mb, nsK hb, hbb⟩, let ⟨mc, h1, h2⟩ := hlim; ⟨mc, nsK h1, h2⟩⟩
  have e0 : Env0 P w K mg (hidT s₁.heap H) callerA [] s₁ H := ⟨rfl, hM, fun b o e => of_hidT e, Nat.le_of_eq (hidT_size _ _), trivial, fun b hb => absurd (show b ∈ ([] : List Addr) from hb) (by simp), hok, .of_eq hg⟩
  refine codeAny_mono ((F _ inK (nsK hns)).run callerA [] s₁ H ⟨[.ref a], []⟩ [.ref a] [.ref a] _ _ hr rfl e0 (hbind s₁ (.ref a)) (.cons rfl .nil) hS) fun r s' h => ?_
  match r, h with
  | .ok (.ret u), ⟨v, H', os, bare, un, hok', r', q⟩ =>
    cases (show v = .bl true from q)
    obtain rfl : u = Value.bool true := r'
    refine ⟨rfl, OldK.of_keep fun b o e => ?_, os, bare⟩
    rcases hO b with z | ⟨ob, xs, z⟩
    · exact un.keep b o e z (fun z => absurd (show b ∈ ([] : List Addr) from z) (by simp)) (by simp)
    · obtain ⟨e1, _⟩ := hok b _ z
      obtain ⟨e2, _⟩ := hok' b _ (un.frzs b ob _ z)
      rw [e] at e1
      cases e1
      exact e2
  | .ok .next, h => exact False.elim h
  | .ok .brk, h => exact False.elim h
  | .ok .cont, h => exact False.elim h
  | .error e, ⟨_, _, _, _, _, _, _, _, _, _, _, _, z⟩ => exact False.elim z
theorem law_callG {vs : List Value} {ns : List Int} (KX : K.In s₁.heap) (hns : s₁.heap.Ns mainGlobals mg) (hb : s₁.heap.Ns builtinsNs mb) (hbb : ∀ x : Str, x ≠ "__name__" → mb x = bootBuiltins x) (hlim : s₁.heap.NoLimit) (hg : s₁.gens = #[])
    (ha : s₁.heap.get? a = some { cls := .type "list", data := .seq vs.toArray }) (hi : IntsAre vs ns) (hl : ns.length ≤ sizeLine) (hr : Room k callerA)
    (F : ∀ base : Heap, K.In base → base.Ns mainGlobals mg → FnG P w K mg base k fa fd [x] sp) (hbind : ∀ (s : Shared) (u : Value), BindsTo s fd ⟨[u], []⟩ [(x, u)])
    (hsp : ∀ H : Hp, Only H → SqL K H a (ns.map V.int) → sp [.ref a] H (fun v _ => v = .bl true) fun _ _ _ => False) :
    codeAny (model P w) callerA (.call (.ref fa) ⟨[.ref a], []⟩) (LawEnd s₁) s₁ := by
  have rv := vals_ints hi
  cases hk : K.lookup a with
  | some o =>
    have e := KX a o hk
    rw [ha] at e
    cases e
    have hO : Only (fun _ => none) := fun _ => .inl rfl
    refine law_core KX hns hb hbb hlim hg hr F hbind hO (hsp _ hO (.inr ⟨_, vs.toArray, _, hk, rfl, rfl, rfl, by rw [List.size_toArray, hi.length]; exact hl, by simpa using rv⟩)) (fun b u z => ?_) (fun b o n => absurd rfl n) fun b n => absurd rfl n
    cases (show (none : Option HO) = some u from z)
  | none =>
    have hO : Only (fun b => if b = a then some (.frz { cls := .type "list", data := .seq vs.toArray } (.lst (ns.map V.int))) else none) := fun b => by
      by_cases hb : b = a
      · exact .inr ⟨_, _, if_pos hb⟩
      · exact .inl (if_neg hb)
    have at_a : ∀ b, (if b = a then some (HO.frz { cls := .type "list", data := .seq vs.toArray } (.lst (ns.map V.int))) else none) ≠ none → b = a := fun b n => Classical.byContradiction fun z => n (if_neg z)
    refine law_core KX hns hb hbb hlim hg hr F hbind hO (hsp _ hO (.inl (.inr ⟨_, if_pos rfl⟩))) (fun b u z => ?_) (fun b o n e es ep d => ?_) fun b n => by rw [at_a b n]; exact hk
    · by_cases hb : b = a
      · cases (if_pos hb).symm.trans z
        subst hb
        exact ⟨ha, by rw [List.length_map]; exact hl, vs, _, rv, ha⟩
      · cases (if_neg hb).symm.trans z
    · rw [at_a b n, ha] at e
      cases e
      cases (show Data.seq vs.toArray _ = Data.dict es ep from d)
end
/-- the script in a world of its own -/
theorem rep_script {G : Gb} {H : Hp} {a : Addr} {ns : List Int} (hO : Only H) (hS : SqL G.K H a (ns.map V.int)) : Rep G ⟨[], [], H, fun _ => False⟩ (.scr (ns.map D.int)) (.ref a) := by
  simp only [Rep]
  refine ⟨a, _, rfl, ?_, RepL.ints ns⟩
  rcases hS with (h | ⟨o, h⟩) | h
  · rcases hO a with z | ⟨o, xs, z⟩
    · rw [h] at z; cases z
    · rw [h] at z; cases z
  · exact .inl ⟨o, h, fun ⟨i, o, z, _⟩ => by simp at z, fun z => z⟩
  · exact .inr h
theorem wok_nil {G : Gb} {H : Hp} : WOk G ⟨[], [], H, fun _ => False⟩ := ⟨rfl, List.nodup_nil, fun i a e => by simp at e, fun i a o e _ => by simp at e, fun a z => z.elim, fun i a e => by simp at e⟩
end Ev
/-! Ev29: the law's own call, its classes told as a list. -/
namespace Ev
open PySem L2
end Ev
namespace Ev
open PySem PySem.Spec PyProof.Rows L2
/-- THE END, where the fragment is what a hook found -/
theorem law_endsH {l : PySem.W.OpenLaw} {n k i : Nat} {q : Program} {loose : List Str} {XP : (Str → Option Value) → Heap → Prop} {YP : World → Heap → Prop} {d : DefRec} {nc : Nat} {Pd : List Df} {bs : List Str} {gs : List (Str × GC)} {cs : List Cf} {D0 : Df} {x : Str}
    (hn : l.most = some n) (hn2 : n ≤ sizeLine) (hdf : d.params.defaults = []) (hr : Room (2 * k) callerA)
    (hD : Pd[i]? = some D0) (hname : D0.name = d.name) (htop : topB D0.name = true) (hps : D0.ps = [x]) (hsh : (1, [], [0]) ∈ D0.shapes)
    (T : ∀ (w : World) (mg : Str → Option Value) (h : Heap), YP w h → h.Ns mainGlobals mg → ∃ (K : PySem.W.Frag) (cls : Nat → Addr), K.In h ∧ Tab ⟨K, cls, nc, l.prog, w⟩ mg Pd bs gs cs)
    (main : ∀ ns : List Int, ns.length ≤ n → ∃ M, evF Pd k i [.scr (ns.map D.int)] [] = .ok (.bl true) M) :
    PySem.W.WalkO q loose XP YP l.row.toRowW d [] (fun f vs => PySem.call f vs) := by
  refine Att.attach_call hn hdf fun w s₀ s₁ mg mb fa o pm cd doc a vs ns G Y ho hd hcd hmg hobj hints hlen hg => ?_
  obtain ⟨K, cls, KX, TT⟩ := T w mg _ Y G.T.g
  obtain ⟨f, fd, A⟩ := TT.df i D0 hD
  have ef : f = fa := by
    have := (A.mg htop).symm.trans ((congrArg mg hname).trans hmg)
    cases this
    rfl
  subst ef
  refine law_callG (x := x) (fd := fd) (sp := spF ⟨K, cls, nc, l.prog, w⟩ Pd k i) KX G.T.g G.T.b G.T.builtins G.T.nolimit hg hobj hints (Nat.le_trans hlen hn2) hr (fun base _ _ => ?_) (fun s u => ?_) fun H hO hS => ?_
  · have F := fn_all (P := l.prog) (w := w) (base := base) rfl rfl TT k i D0 f fd hD A
    rw [hps] at F
    exact F
  · have := A.shapes _ hsh s [u] [] rfl rfl
    rw [hps] at this
    exact this
  · obtain ⟨M, hm⟩ := main ns hlen
    refine ⟨⟨[], [], H, fun _ => False⟩, [.scr (ns.map D.int)], rfl, wok_nil, RepL.cons (rep_script hO hS) RepL.nil, ?_⟩
    show Post _ _ _ _ (evF Pd k i [.scr (ns.map D.int)] []) _
    rw [hm]
    intro w' x g e v r
    simpa only [Rep] using r
end Ev
/-! Ev60: a hook that also says what any Bool of the fragment says. -/
namespace Ev
open PySem PySem.Spec PyProof.Rows L2
end Ev
/-! Ev61: a law's table of defs, out of what a hook says. -/
namespace Ev
open PySem PySem.Spec PyProof.Rows L2
open HandSHeadRun (frNat frNat_eq)
/-- the objects that these names of a dict stand for -/
def pickN (g : Addr → Option Obj) (xs : List Str) (ns : Addr) : List Addr := match g ns with
  | some ⟨_, _, .dict es _, _⟩ => es.toList.flatMap fun e => match e.key with
    | .str x _ => (match xs.contains x with
      | true => He.refV e.val
      | false => [])
    | _ => []
  | _ => []
def codeN (g : Addr → Option Obj) (a : Addr) : List Addr := match g a with
  | some ⟨_, _, .func fd, _⟩ => He.refV fd.code
  | _ => []
def nsN (g : Addr → Option Obj) (a : Addr) : List Addr := match g a with
  | some ⟨_, _, .cls cd, _⟩ => [cd.ns]
  | _ => []
def mroN (g : Addr → Option Obj) (a : Addr) : List Addr := match g a with
  | some ⟨_, _, .cls cd, _⟩ => cd.mro.flatMap He.refV
  | _ => []
def frL {α : Type} : List Addr → (List Addr → α) → α
  | [], k => k []
  | a :: r, k => frNat a fun a => frL r fun r => k (a :: r)
theorem frL_eq {α : Type} : ∀ (l : List Addr) (k : List Addr → α), frL l k = k l
  | [], _ => rfl
  | a :: r, k => by rw [frL, frNat_eq, frL_eq r]
/-- the part of the heap that is looked at -/
def partN {α : Type} (xs ms : List Str) (g : Addr → Option Obj) (k : PySem.W.Frag → α) : α :=
  frL (pickN g xs mainGlobals) fun A => frL (A.flatMap (mroN g)).eraseDups fun C => frL (C.flatMap (nsN g)) fun N => frL (N.flatMap (pickN g ms)) fun F => frL ((A ++ F).flatMap (codeN g)) fun Z =>
    k (He.frG g (mainGlobals :: (N ++ (C ++ (A ++ (F ++ Z))))))
def partL (xs ms : List Str) (g : Addr → Option Obj) : List Addr :=
  let A := pickN g xs mainGlobals
  let C := (A.flatMap (mroN g)).eraseDups
  let N := C.flatMap (nsN g)
  let F := N.flatMap (pickN g ms)
  mainGlobals :: (N ++ (C ++ (A ++ (F ++ (A ++ F).flatMap (codeN g)))))
theorem partN_eq {α : Type} {xs ms : List Str} {g : Addr → Option Obj} {k : PySem.W.Frag → α} : partN xs ms g k = k (He.frG g (partL xs ms g)) := by
  unfold partN
  rw [frL_eq, frL_eq, frL_eq, frL_eq, frL_eq]
  rfl
def noDfl : Value → Bool
  | .none => true
  | _ => false
/-- a def at its address -/
def lookF (K : PySem.W.Frag) (e : He.DefD) : He.FnW × Bool := frNat (He.fAd K e.at_) fun f => match K.lookup f with
  | some ⟨_, _, .func fd, _⟩ => (some (fd.name, fd.qualname, fd.params, fd.body, fd.scope, fd.globals, fd.closure, fd.builtins), PySem.W.codeIn K fd.code e.qual && noDfl fd.defaults)
  | _ => (none, false)
abbrev AlN : Type := List (He.FnW × Bool) × Bool
def lookN (fn : List He.DefD) (ex : PySem.W.Frag → Bool) (K : PySem.W.Frag) : AlN := (fn.map (lookF K), ex K)
def valN' (fn : List He.DefD) : AlN := (fn.map fun e => (e.val, true), true)
structure SaysN (fn : List He.DefD) (ex : PySem.W.Frag → Bool) (K : PySem.W.Frag) : Prop where
  fn : fn.map (lookF K) = fn.map fun e => (e.val, true)
  ex : ex K = true
def hookN (xs ms : List Str) (fn : List He.DefD) (ex : PySem.W.Frag → Bool) : PySem.W.Hook where
  α := AlN
  obs := fun s => partN xs ms s.heap.get? (lookN fn ex)
  val := fun _ => valN' fn
  says := fun _ h => ∃ K : PySem.W.Frag, K.In h ∧ SaysN fn ex K
  of := fun w s h => ⟨_, He.frG_in (as := partL xs ms s.heap.get?), by
    rw [partN_eq] at h
    exact ⟨(Prod.mk.inj h).1, (Prod.mk.inj h).2⟩⟩
  keeps := fun w h h' hs k => by
    obtain ⟨K, h1, h2⟩ := hs
    exact ⟨K, fun a o e => k _ _ (h1 a o e), h2⟩
def obN (xs ms : List Str) (fn : List He.DefD) (ex : PySem.W.Frag → Bool) (s : PySem.W.SharedT) : AlN := partN xs ms (HandSHeadRun.getT s) (lookN fn ex)
theorem obN_eq {xs ms : List Str} {fn : List He.DefD} {ex : PySem.W.Frag → Bool} (s : PySem.W.SharedT) : obN xs ms fn ex s = (hookN xs ms fn ex).obs s.abs := by
  have e : HandSHeadRun.getT s = s.abs.heap.get? := funext (HandSHeadRun.getT_eq s)
  show partN _ _ _ _ = partN _ _ _ _
  rw [e]
theorem lookF_ok {K : PySem.W.Frag} {e : He.DefD} (h : lookF K e = (e.val, true)) : ∃ (oc : Value) (od : Option Addr) (kV doc pm : Value) (an : Option Addr) (cdv ct : Value) (osl : Array (Option Value)),
    K.lookup (He.fAd K e.at_) = some ⟨oc, od, .func (PySem.W.fnOf e.name e.qual e.params e.body e.scope .none kV doc pm an cdv ct), osl⟩ ∧ PySem.W.codeIn K cdv e.qual = true ∧ PySem.W.keepIn K (.ref (He.fAd K e.at_)) = true := by
  unfold lookF at h
  rw [frNat_eq] at h
  cases q : K.lookup (He.fAd K e.at_) with
  | none =>
    rw [q] at h
    cases (Prod.mk.inj h).2
  | some o =>
    obtain ⟨oc, od, dt, osl⟩ := o
    rw [q] at h
    cases dt with
    | func fd =>
      obtain ⟨n1, n2, n3, n4, n5, n6, n7, n8, n9, n10, n11, n12, n13, n14, n15⟩ := fd
      obtain ⟨h1, h2⟩ := Prod.mk.inj h
      have e2 : (some (n1, n2, n3, n4, n5, n6, n7, n15) : He.FnW) = some (e.name, e.qual, e.params, .stmts e.body, e.scope, mainGlobals, [], builtinsNs) := h1
      simp only [Option.some.injEq, Prod.mk.injEq] at e2
      obtain ⟨r1, r2, r3, r4, r5, r6, r7, r8⟩ := e2
      have h3 : (PySem.W.codeIn K n13 e.qual && noDfl n8) = true := h2
      obtain ⟨h4, h5⟩ := He.ba h3
      have e8 : n8 = .none := by
        cases n8 with
        | none => rfl
        | _ => cases h5
      subst r1 r2 r3 r4 r5 r6 r7 r8 e8
      refine ⟨oc, od, n9, n10, n11, n12, n13, n14, osl, rfl, h4, ?_⟩
      show (match K.lookup (He.fAd K e.at_) with
        | some ⟨_, _, .func _, _⟩ => true
        | some ⟨_, _, .cls _, _⟩ => PySem.W.specialIn K (.ref (He.fAd K e.at_)) "__call__" == some (some (.builtin "type.__call__"))
        | _ => false) = true
      rw [q]
    | _ => cases (Prod.mk.inj h).2
/-! ### the facts as one Bool -/
def refIs : Option (Option Value) → Bool
  | some (some (.ref _)) => true
  | _ => false
def noneIs : Option (Option Value) → Bool
  | some none => true
  | _ => false
def biIs (b : String) : Option (Option Value) → Bool
  | some (some (.builtin c)) => decide (c = b)
  | _ => false
theorem noneIs_ok {x : Option (Option Value)} (h : noneIs x = true) : x = some none := by
  cases x with
  | none => cases h
  | some y => cases y with
    | none => rfl
    | some v => cases h
theorem biIs_ok {b : String} {x : Option (Option Value)} (h : biIs b x = true) : x = some (some (.builtin b)) := by
  cases x with
  | none => cases h
  | some y => cases y with
    | none => cases h
    | some v => cases v with
      | builtin c => rw [of_decide_eq_true (show decide (c = b) = true from h)]
      | _ => cases h
theorem ga_ok {K : PySem.W.Frag} {x : Str} (h : refIs (PySem.W.nsIn K mainGlobals x) = true) : PySem.W.nsIn K mainGlobals x = some (some (.ref (He.ga K x))) := by
  unfold He.ga
  cases e : PySem.W.nsIn K mainGlobals x with
  | none => rw [e] at h; cases h
  | some y => cases y with
    | none => rw [e] at h; cases h
    | some v => cases v with
      | ref a => rfl
      | _ => rw [e] at h; cases h
def methB (K : PySem.W.Frag) (C : Addr) (m : Str) : Bool := match PySem.W.findIn K (.ref C) m with
  | some (some (.ref f)) => PySem.W.isFn K (.ref f) && PySem.W.keepIn K (.ref f)
  | _ => false
theorem methB_ok {K : PySem.W.Frag} {C : Addr} {m : Str} (h : methB K C m = true) : Meth K C m (He.ma K C m) := by
  unfold methB at h
  cases e : PySem.W.findIn K (.ref C) m with
  | none => rw [e] at h; cases h
  | some y => cases y with
    | none => rw [e] at h; cases h
    | some v => cases v with
      | ref f =>
        rw [e] at h
        obtain ⟨h1, h2⟩ := He.ba h
        have : He.ma K C m = f := by unfold He.ma; rw [e]
        rw [this]
        exact ⟨e, h1, h2⟩
      | _ => rw [e] at h; cases h
def gcB (K : PySem.W.Frag) (x : Str) : GC → Bool
  | .int i => (He.Fa.int x i).ok K
  | .str z => (He.Fa.str x z).ok K
  | .tup xs => refIs (PySem.W.nsIn K mainGlobals x) && (match K.lookup (He.ga K x) with
    | some ⟨.type c, none, .seq its _, _⟩ => decide (c = "tuple") && (decide (its.size ≤ sizeLine) && He.relAll (xs.map GA.v) its.toList)
    | _ => false)
def clsB (K : PySem.W.Frag) (cf : Cf) : Bool := refIs (PySem.W.nsIn K mainGlobals cf.name) && frNat (He.ga K cf.name) fun C =>
  (PySem.W.plainGet K C Str.empty && (PySem.W.hasDictIn K C && (PySem.W.plainOver K C && biIs "object.__setattr__" (PySem.W.findIn K (.ref C) "__setattr__")))) &&
  (biIs "object.__class__" (PySem.W.findIn K (.ref C) "__class__") && (biIs "getset_descriptor.__get__" (PySem.W.specialIn K (.builtin "object.__class__") "__get__") &&
  ((match PySem.W.takesIn K (.builtin "object.__class__") with
    | some true => true
    | _ => false) && ((match PySem.W.mroIn K C (.type "object") with
    | some true => true
    | _ => false) && ((cf.flds.all fun f => noneIs (PySem.W.findIn K (.ref C) f)) && ((cf.meths.all fun p => methB K C p.1) &&
  ((match cf.init with
    | none => true
    | some _ => PySem.W.makesIn K C && (methB K C "__init__" && PySem.W.keepIn K (.ref C))) &&
  cf.asks.all fun p => refIs (PySem.W.nsIn K mainGlobals p.1) && (match PySem.W.kitOne K (.ref C) (.ref (He.ga K p.1)) with
    | some b => b == p.2
    | none => false))))))))
def tabB (bs : List Str) (gs : List (Str × GC)) (cs : List Cf) (tops : List Str) (K : PySem.W.Frag) : Bool :=
  (tops.all fun x => refIs (PySem.W.nsIn K mainGlobals x)) && ((bs.all fun x => noneIs (PySem.W.nsIn K mainGlobals x)) && ((gs.all fun p => gcB K p.1 p.2) && cs.all fun cf => clsB K cf))
/-- the places of defs and methods fit -/
def linkB (Pd : List Df) (fn : List He.DefD) (cs : List Cf) (tops : List Str) : Bool :=
  decide (Pd.length = fn.length) && (((Pd.zip fn).all fun p => !topB p.1.name || (decide (p.2.at_ = (p.1.name, none)) && tops.contains p.1.name)) &&
    cs.all fun cf => (cf.meths.all fun p => match fn[p.2]? with
      | some e => decide (e.at_ = (cf.name, some p.1))
      | none => false) && (match cf.init with
      | none => true
      | some k => (match fn[k]? with
        | some e => decide (e.at_ = (cf.name, some ("__init__" : Str)))
        | none => false)))
section
variable {P : Program} {w : World} {K : PySem.W.Frag} {h : Heap} {mg : Str → Option Value}
theorem gcB_ok (X : K.In h) (G : h.Ns mainGlobals mg) {x : Str} {c : GC} (e : gcB K x c = true) : ∃ u v, mg x = some u ∧ RelV v u ∧ GCok K c v := by
  cases c with
  | int i =>
    obtain ⟨t, ht⟩ := He.int_ok X G (x := x) (i := i) e
    exact ⟨_, .int i, ht, ⟨_, rfl⟩, rfl⟩
  | str z =>
    obtain ⟨t, ht⟩ := He.str_ok X G (x := x) (z := z) e
    exact ⟨_, .str z, ht, ⟨_, rfl⟩, rfl⟩
  | tup xs =>
    obtain ⟨h1, h2⟩ := He.ba e
    refine ⟨_, .ref (He.ga K x), PySem.W.mg_of X G (ga_ok h1), rfl, He.ga K x, rfl, ?_⟩
    cases q : K.lookup (He.ga K x) with
    | none =>
      rw [q] at h2
      cases h2
    | some o =>
      obtain ⟨oc, od, dt, osl⟩ := o
      rw [q] at h2
      cases oc with
      | type c =>
        cases od with
        | none =>
          cases dt with
          | seq its n =>
            obtain ⟨h3, h4⟩ := He.ba h2
            obtain ⟨h5, h6⟩ := He.ba h4
            exact ⟨_, its, n, q, congrArg Value.type (of_decide_eq_true h3), rfl, rfl, of_decide_eq_true h5, He.relAll_ok h6⟩
          | _ => cases h2
        | some a => cases dt <;> cases h2
      | _ => cases od <;> cases dt <;> cases h2
theorem clsB_ok (X : K.In h) (G : h.Ns mainGlobals mg) {cls : Nat → Addr} {nc c : Nat} {cf : Cf} {R : Nat → Addr → Prop} (hc : cls c = He.ga K cf.name) (e : clsB K cf = true)
    (hm : ∀ m f, cf.meths.lookup m = some f → R f (He.ma K (He.ga K cf.name) m)) (hi : ∀ f, cf.init = some f → R f (He.ma K (He.ga K cf.name) "__init__")) : ClsR ⟨K, cls, nc, P, w⟩ mg cf c R := by
  obtain ⟨e1, e⟩ := He.ba e
  rw [frNat_eq] at e
  obtain ⟨e2, e⟩ := He.ba e
  obtain ⟨f1, e2⟩ := He.ba e2
  obtain ⟨f2, e2⟩ := He.ba e2
  obtain ⟨f3, f4⟩ := He.ba e2
  obtain ⟨e3, e⟩ := He.ba e
  obtain ⟨e4, e⟩ := He.ba e
  obtain ⟨e5, e⟩ := He.ba e
  obtain ⟨e6, e⟩ := He.ba e
  obtain ⟨e7, e⟩ := He.ba e
  obtain ⟨e8, e⟩ := He.ba e
  obtain ⟨e9, e10⟩ := He.ba e
  have hc' : (Gb.mk K cls nc P w).cls c = He.ga K cf.name := hc
  refine ⟨?_, ?_, ?_, biIs_ok e4, ?_, ?_, fun f hf => ?_, fun m f hf => ?_, fun f hf => ?_, fun x b hx => ?_⟩
  · rw [hc']; exact PySem.W.mg_of X G (ga_ok e1)
  · rw [hc']; exact ⟨f1, f2, f3, biIs_ok f4⟩
  · rw [hc']; exact biIs_ok e3
  · show PySem.W.takesIn K (.builtin "object.__class__") = some true
    cases q : PySem.W.takesIn K (.builtin "object.__class__") with
    | none => rw [q] at e5; cases e5
    | some b => cases b with
      | true => rfl
      | false => rw [q] at e5; cases e5
  · rw [hc']
    show PySem.W.mroIn K (He.ga K cf.name) (.type "object") = some true
    cases q : PySem.W.mroIn K (He.ga K cf.name) (.type "object") with
    | none => rw [q] at e6; cases e6
    | some b => cases b with
      | true => rfl
      | false => rw [q] at e6; cases e6
  · rw [hc']; exact noneIs_ok (List.all_eq_true.mp e7 f hf)
  · rw [hc']
    exact ⟨_, methB_ok (List.all_eq_true.mp e8 (m, f) (lookup_mem hf)), hm m f hf⟩
  · rw [hc']
    rw [hf] at e9
    obtain ⟨z1, z2⟩ := He.ba (show (PySem.W.makesIn K (He.ga K cf.name) && (methB K (He.ga K cf.name) "__init__" && PySem.W.keepIn K (.ref (He.ga K cf.name)))) = true from e9)
    obtain ⟨z2, z3⟩ := He.ba z2
    have M := methB_ok z2
    exact ⟨_, ⟨z1, M.at_, M.fn, z3⟩, hi f hf⟩
  · rw [hc']
    obtain ⟨z1, z2⟩ := He.ba (List.all_eq_true.mp e10 (x, b) (lookup_mem hx))
    refine ⟨_, PySem.W.mg_of X G (ga_ok z1), ?_⟩
    show PySem.W.kitOne K (.ref (He.ga K cf.name)) (.ref (He.ga K x)) = some b
    cases q : PySem.W.kitOne K (.ref (He.ga K cf.name)) (.ref (He.ga K x)) with
    | none => rw [show PySem.W.kitOne K (.ref (He.ga K cf.name)) (.ref (He.ga K (x, b).1)) = none from q] at z2; cases z2
    | some b' =>
      rw [show PySem.W.kitOne K (.ref (He.ga K cf.name)) (.ref (He.ga K (x, b).1)) = some b' from q] at z2
      rw [beq_iff_eq.mp (show (b' == b) = true from z2)]
def clsAt (K : PySem.W.Frag) (cs : List Cf) (n : Nat) : Addr := He.ga K (((cs[n]?).map Cf.name).getD Str.empty)
/-- what a def's facts say -/
abbrev FnAt (K : PySem.W.Frag) (e : He.DefD) (f : Addr) (fd : FuncData) : Prop := ∃ (oc : Value) (od : Option Addr) (kV doc pm : Value) (an : Option Addr) (cdv ct : Value) (osl : Array (Option Value)),
    fd = PySem.W.fnOf e.name e.qual e.params e.body e.scope .none kV doc pm an cdv ct ∧ K.lookup f = some ⟨oc, od, .func fd, osl⟩ ∧ PySem.W.codeIn K cdv e.qual = true ∧ PySem.W.keepIn K (.ref f) = true
theorem SaysN.at_ {fn : List He.DefD} {ex : PySem.W.Frag → Bool} (S : SaysN fn ex K) {k : Nat} {e : He.DefD} (h : fn[k]? = some e) : ∃ fd, FnAt K e (He.fAd K e.at_) fd := by
  have e2 : (fn.map (lookF K))[k]? = (fn.map fun e => (e.val, true))[k]? := by rw [S.fn]
  rw [List.getElem?_map, List.getElem?_map, h] at e2
  obtain ⟨oc, od, kV, doc, pm, an, cdv, ct, osl, h1, h2, h3⟩ := lookF_ok (Option.some.inj e2)
  exact ⟨_, oc, od, kV, doc, pm, an, cdv, ct, osl, rfl, h1, h2, h3⟩
theorem tab_of {Pd : List Df} {bs : List Str} {gs : List (Str × GC)} {cs : List Cf} {tops : List Str} {fn : List He.DefD} {nc : Nat} (hn : nc = cs.length) (X : K.In h) (G : h.Ns mainGlobals mg) (S : SaysN fn (tabB bs gs cs tops) K) (hl : linkB Pd fn cs tops = true)
    (hD : ∀ (k : Nat) (d : Df) (e : He.DefD), Pd[k]? = some d → fn[k]? = some e → ∀ f fd, FnAt K e f fd → (topB d.name = true → mg d.name = some (.ref f)) → DefAt ⟨K, clsAt K cs, nc, P, w⟩ mg Pd bs gs cs d f fd) :
    Tab ⟨K, clsAt K cs, nc, P, w⟩ mg Pd bs gs cs := by
  obtain ⟨c1, c⟩ := He.ba S.ex
  obtain ⟨c2, c⟩ := He.ba c
  obtain ⟨c3, c4⟩ := He.ba c
  obtain ⟨l1, l⟩ := He.ba hl
  obtain ⟨l2, l3⟩ := He.ba l
  have len : Pd.length = fn.length := of_decide_eq_true l1
  have key : ∀ (k : Nat) (d : Df) (e : He.DefD), Pd[k]? = some d → fn[k]? = some e → ∃ fd, DefAt ⟨K, clsAt K cs, nc, P, w⟩ mg Pd bs gs cs d (He.fAd K e.at_) fd := fun k d e h1 h2 => by
    obtain ⟨fd, F⟩ := S.at_ h2
    refine ⟨fd, hD k d e h1 h2 _ fd F fun ht => ?_⟩
    have hz : (d, e) ∈ Pd.zip fn := by
      refine List.mem_of_getElem? (i := k) ?_
      rw [List.getElem?_zip_eq_some]
      exact ⟨h1, h2⟩
    have := List.all_eq_true.mp l2 _ hz
    rw [ht] at this
    obtain ⟨t1, t2⟩ := He.ba (show (decide (e.at_ = (d.name, none)) && tops.contains d.name) = true from this)
    rw [of_decide_eq_true t1]
    exact PySem.W.mg_of X G (ga_ok (List.all_eq_true.mp c1 _ (List.contains_iff_mem.mp t2)))
  refine ⟨fun i d hd => ?_, fun x hx => PySem.W.mg_none_of X G (noneIs_ok (List.all_eq_true.mp c2 x hx)), fun p hp => gcB_ok X G (List.all_eq_true.mp c3 p hp), hn, fun i cf hcf => ?_⟩
  · have hi : i < Pd.length := (List.getElem?_eq_some_iff.mp hd).1
    have hi2 : i < fn.length := len ▸ hi
    obtain ⟨fd, A⟩ := key i d fn[i] hd (List.getElem?_eq_getElem hi2)
    exact ⟨_, fd, A⟩
  · have hm := List.mem_of_getElem? hcf
    obtain ⟨m1, m2⟩ := He.ba (List.all_eq_true.mp l3 cf hm)
    have at_ : ∀ (k : Nat) (e : He.DefD) (m : Str), fn[k]? = some e → e.at_ = (cf.name, some m) → ∃ d fd, Pd[k]? = some d ∧ DefAt ⟨K, clsAt K cs, nc, P, w⟩ mg Pd bs gs cs d (He.ma K (He.ga K cf.name) m) fd := fun k e m h1 h2 => by
      have hi2 : k < fn.length := (List.getElem?_eq_some_iff.mp h1).1
      have hi : k < Pd.length := len ▸ hi2
      obtain ⟨fd, A⟩ := key k Pd[k] e (List.getElem?_eq_getElem hi) h1
      refine ⟨_, fd, List.getElem?_eq_getElem hi, ?_⟩
      have e2 : He.fAd K e.at_ = He.ma K (He.ga K cf.name) m := by rw [h2]; rfl
      rw [← e2]
      exact A
    refine clsB_ok X G ?_ (List.all_eq_true.mp c4 cf hm) (fun m f hf => ?_) fun f hf => ?_
    · unfold clsAt
      rw [hcf]
      rfl
    · have := List.all_eq_true.mp m1 (m, f) (lookup_mem hf)
      cases q : fn[f]? with
      | none =>
        rw [show fn[(m, f).2]? = none from q] at this
        cases this
      | some e =>
        rw [show fn[(m, f).2]? = some e from q] at this
        exact at_ f e m q (of_decide_eq_true this)
    · rw [hf] at m2
      have m3 : (match fn[f]? with
        | some e => decide (e.at_ = (cf.name, some ("__init__" : Str)))
        | none => false) = true := m2
      cases q : fn[f]? with
      | none =>
        rw [q] at m3
        cases m3
      | some e =>
        rw [q] at m3
        exact at_ f e _ q (of_decide_eq_true m3)
end
end Ev
namespace K50
open PySem PySem.Spec PyProof.Rows L2 Ev
def topS (i : Nat) : Stmt := PySem.Challenge.pw_backwardrow_k50_whole_sped_rows_stand_fo.main.body.getD i (.Pass ⟨0, 0, 0, 0⟩)
abbrev s0 : Stmt := topS 1
/-- is_integer -/
def d0 : Df := ⟨"is_integer", ["value"], ["value"], [.ret (.and (.isi (.var 0) ["int"]) (.not (.isi (.var 0) ["bool"])))], [(1, [], [0])]⟩
abbrev s1 : Stmt := topS 2
def b1_0 : Sx := .ifs (.not (.call 0 [(.var 0)] [] [0])) [.ret (.bl false)] []
def b1_1 : Sx := .ret (.and (.or (.cmp .is (.var 1) .non) (.cmp .ge (.var 0) (.var 1))) (.or (.cmp .is (.var 2) .non) (.cmp .le (.var 0) (.var 2))))
/-- is_within -/
def d1 : Df := ⟨"is_within", ["value", "least", "most"], ["value", "least", "most"], [b1_0, b1_1], [(3, [], [0, 1, 2])]⟩
abbrev s2 : Stmt := topS 13
/-- demand_number -/
def d2 : Df := ⟨"demand_number", ["value", "least", "most", "part"], ["value", "least", "most", "part"], [.ifs (.not (.call 1 [(.var 0), (.var 1), (.var 2)] [] [0, 1, 2])) [.nev] []], [(4, [], [0, 1, 2, 3])]⟩
abbrev s3 : Stmt := topS 14
/-- demand_row -/
def d3 : Df := ⟨"demand_row", ["value", "part"], ["value", "part"], [.ifs (.not (.isc (.var 0) "Row" [0, 1])) [.nev] []], [(2, [], [0, 1])]⟩
abbrev s4 : Stmt := topS 19
/-- lay -/
def d4 : Df := ⟨"lay", ["known", "trails", "first", "latest"], ["known", "trails", "first", "latest", "at", "trail", "age", "worth"], [.fors (.tp [(.nm 4), (.nm 5)]) (.enu (.var 1)) [.fors (.tp [(.nm 6), (.nm 7)]) (.enu (.var 5)) [.asg (.sub (.var 0) (.tup [(.bin .add (.var 2) (.var 4)), (.bin .sub (.var 3) (.var 6))])) (.var 7)]]], [(4, [], [0, 1, 2, 3])]⟩
abbrev s5 : Stmt := topS 21
def b5_0 : Sx := .ifs (.isi (.var 0) ["dict"]) [.ret (.dni (.var 0))] []
def b5_1 : Sx := .ifs (.not (.isi (.var 0) ["list", "tuple"])) [.ret .non] []
def b5_2 : Sx := .ifs (.not (.bi .all [(.lc (.and (.isi (.var 1) ["list", "tuple"]) (.cmp .eq (.bi .len [(.var 1)]) (.int 2))) (.nm 1) (.seq (.var 0)) none [1])])) [.ret .non] []
def b5_3 : Sx := .ret (.bi .list [(.var 0)])
/-- pairs_told -/
def d5 : Df := ⟨"pairs_told", ["value"], ["value", "pair"], [b5_0, b5_1, b5_2, b5_3], [(1, [], [0])]⟩
abbrev s6 : Stmt := topS 22
def b6_0 : Sx := .ifs (.not (.isi (.var 0) ["list", "tuple"])) [.ret (.bl false)] []
def b6_1 : Sx := .ifs (.not (.bi .all [(.lc (.call 1 [(.var 2), (.int 0), (.bin .sub (.var 1) (.int 1))] [] [0, 1, 2]) (.nm 2) (.seq (.var 0)) none [2])])) [.ret (.bl false)] []
def b6_2 : Sx := .ret (.cmp .eq (.lset (.var 0)) (.bi .len [(.var 0)]))
/-- is_lot -/
def d6 : Df := ⟨"is_lot", ["value", "many"], ["value", "many", "number"], [b6_0, b6_1, b6_2], [(2, [], [0, 1])]⟩
abbrev s7 : Stmt := topS 23
/-- key_rank -/
def d7 : Df := ⟨"key_rank", ["key"], ["key", "part"], [.ret (.bi .tuple [(.lc (.ite (.cmp .is (.var 1) .non) (.neg (.int 1)) (.var 1)) (.nm 1) (.seq (.var 0)) none [1])])], [(1, [], [0])]⟩
abbrev s8 : Stmt := topS 47
def b8_0 : Sx := .asg (.nm 3) (.call 5 [(.var 0)] [] [0])
def b8_1 : Sx := .ifs (.cmp .is (.var 3) .non) [.ret .non] []
def b8_2 : Sx := .asg (.nm 4) .mdn0
def b8_3 : Sx := .fors (.tp [(.nm 5), (.nm 6)]) (.seq (.var 3)) [.ifs (.or (.not (.call 9 [(.var 5), (.var 1), (.var 2)] [] [0, 1, 2])) (.not (.call 1 [(.var 6), (.int 0), (.bin .sub (.var 2) (.int 1))] [] [0, 1, 2]))) [.ret .non] [], .asg (.sub (.var 4) (.bi .tuple [(.var 5)])) (.var 6)]
def b8_4 : Sx := .ret (.ite (.cmp .eq (.dnn (.var 4)) (.bi .len [(.var 3)])) (.frz 4) .non)
/-- steps_told -/
def d8 : Df := ⟨"steps_told", ["rules", "ways", "worths"], ["rules", "ways", "worths", "pairs", "steps", "key", "worth"], [b8_0, b8_1, b8_2, b8_3, b8_4], [(3, [], [0, 1, 2])]⟩
abbrev s9 : Stmt := topS 48
def b9_0 : Sx := .ifs (.or (.not (.isi (.var 0) ["list", "tuple"])) (.cmp .ne (.bi .len [(.var 0)]) (.bin .add (.var 1) (.int 1)))) [.ret (.bl false)] []
def b9_1 : Sx := .ret (.bi .all [(.lc (.or (.and (.cmp .is (.var 4) .non) (.cmp .ne (.var 3) (.int 1))) (.call 1 [(.var 4), (.int 0), (.bin .sub (.var 2) (.int 1))] [] [0, 1, 2])) (.tp [(.nm 3), (.nm 4)]) (.enu (.var 0)) none [3, 4])])
/-- is_key -/
def d9 : Df := ⟨"is_key", ["value", "ways", "worths"], ["value", "ways", "worths", "at", "worth"], [b9_0, b9_1], [(3, [], [0, 1, 2])]⟩
abbrev s10 : Stmt := topS 50
/-- _law_press -/
def d10 : Df := ⟨"_law_press", ["script"], ["script", "cell"], [.ret (.mls [(.lc (.bi .int [(.var 1)]) (.nm 1) (.seq (.slc (.var 0) none (some (.int 60)))) none [1]), (.int 0), (.int 0)])], [(1, [], [0])]⟩
abbrev s11 : Stmt := topS 51
def b11_0 : Sx := .ifs (.cmp .gt (.ix (.var 0) (.int 2)) (.int 0)) [.asg (.nm 2) (.bi .int [(.ix (.var 0) (.int 2))]), .asg (.sub (.var 0) (.int 2)) (.bin .fdiv (.var 2) (.var 1)), .ret (.bin .mod (.bi .int [(.var 2)]) (.var 1))] []
def b11_1 : Sx := .asg (.nm 3) (.ix (.var 0) (.int 1))
def b11_2 : Sx := .asg (.sub (.var 0) (.int 1)) (.bin .add (.var 3) (.int 1))
def b11_3 : Sx := .asg (.nm 4) (.bin .add (.bin .mul (.int 73079) (.var 3)) (.int 9733))
def b11_4 : Sx := .ifs (.cmp .ne (.ix (.var 0) (.int 0)) (.lst [])) [.asg (.nm 4) (.ix (.ix (.var 0) (.int 0)) (.bin .mod (.bi .int [(.var 3)]) (.bi .len [(.ix (.var 0) (.int 0))])))] []
def b11_5 : Sx := .ifs (.and (.cmp .lt (.var 3) (.bi .len [(.ix (.var 0) (.int 0))])) (.cmp .ge (.bi .abs [(.var 4)]) (.bin .pow (.int 10) (.int 18)))) [.asg (.nm 2) (.bin .add (.bin .mul (.int 2) (.bin .sub (.bi .abs [(.var 4)]) (.bin .pow (.int 10) (.int 18)))) (.bi .int [(.cmp .lt (.var 4) (.int 0))])), .asg (.sub (.var 0) (.int 2)) (.bin .fdiv (.var 2) (.var 1)), .ret (.bin .mod (.bi .int [(.var 2)]) (.var 1))] []
def b11_6 : Sx := .asg (.nm 5) (.bin .mod (.bi .int [(.bin .pow (.bin .add (.bin .add (.bin .mod (.bi .int [(.var 4)]) (.int 2147483423)) (.bin .mul (.int 43067) (.var 3))) (.int 9733)) (.int 5))]) (.int 2147483399))
def b11_7 : Sx := .asg (.nm 5) (.bin .mod (.bi .int [(.bin .pow (.bin .add (.bin .add (.bin .mul (.var 5) (.bin .add (.bin .mul (.int 2) (.var 3)) (.int 4373))) (.bin .mul (.bin .mul (.int 73079) (.var 3)) (.var 3))) (.int 43067)) (.int 3))]) (.int 2147483353))
def b11_8 : Sx := .ret (.bin .mod (.bi .int [(.bin .fdiv (.var 5) (.int 32))]) (.var 1))
/-- _law_turn -/
def d11 : Df := ⟨"_law_turn", ["press", "many"], ["press", "many", "rest", "lap", "cell", "mixed"], [b11_0, b11_1, b11_2, b11_3, b11_4, b11_5, b11_6, b11_7, b11_8], [(2, [], [0, 1])]⟩
abbrev s12 : Stmt := topS 52
/-- _law_of -/
def d12 : Df := ⟨"_law_of", ["press", "some"], ["press", "some"], [.ret (.ix (.var 1) (.call 11 [(.var 0), (.bi .len [(.var 1)])] [] [0, 1]))], [(2, [], [0, 1])]⟩
abbrev s13 : Stmt := topS 53
def b13_0 : Sx := .asg (.nm 3) (.bin .add (.int 2) (.call 11 [(.var 0), (.bin .sub (.var 2) (.int 1))] [] [0, 1]))
def b13_1 : Sx := .asg (.tp [(.nm 4), (.nm 5)]) (.tup [(.bin .add (.int 1) (.call 11 [(.var 0), (.bi .min [(.var 3), (.int 3)])] [] [0, 1])), (.call 12 [(.var 0), (.lst [(.int 1), (.int 1), (.int 2), (.int 4)])] [] [0, 1])])
def b13_2 : Sx := .par [6, 7] [(.bin .add (.lst [.non]) (.lrg1 (.var 3))), (.mls [])]
def b13_3 : Sx := .fors (.nm 8) (.seq (.var 6)) [.fors (.nm 9) (.rng1 (.var 3)) [.ifs (.cmp .eq (.var 1) (.int 1)) [.ifs (.cmp .eq (.call 11 [(.var 0), (.var 5)] [] [0, 1]) (.int 0)) [.expr (.meth .append (.var 7) [(.tup [(.tup [(.var 8), (.var 9)]), (.call 11 [(.var 0), (.var 3)] [] [0, 1])])])] []] [.expr (.meth .extend (.var 7) [(.lc (.tup [(.tup [(.var 8), (.var 9), (.var 11)]), (.call 11 [(.var 0), (.var 3)] [] [0, 1])]) (.nm 11) (.seq (.var 6)) (some (.or (.cmp .eq (.var 5) (.int 1)) (.cmp .eq (.call 11 [(.var 0), (.var 5)] [] [0, 1]) (.int 0)))) [11])])]]]
def b13_4 : Sx := .frzs 7 (.ret (.tup [(.var 4), (.var 3), (.var 7), (.lc (.var 10) (.nm 10) (.rng1 (.var 3)) (some (.cmp .eq (.call 11 [(.var 0), (.int 2)] [] [0, 1]) (.int 0))) [10])]))
/-- _law_table -/
def d13 : Df := ⟨"_law_table", ["press", "ways", "most"], ["press", "ways", "most", "worths", "letters", "full", "sides", "rules", "left", "own", "worth", "right"], [b13_0, b13_1, b13_2, b13_3, b13_4], [(3, [], [0, 1, 2])]⟩
abbrev s14 : Stmt := topS 54
/-- _law_next -/
def d14 : Df := ⟨"_law_next", ["rules", "left", "own", "right"], ["rules", "left", "own", "right"], [.ret (.dng2 (.var 0) (.tup [(.var 1), (.var 2), (.var 3)]) (.var 2))], [(4, [], [0, 1, 2, 3])]⟩
abbrev s15 : Stmt := topS 55
def b15_0 : Sx := .asg (.nm 3) (.mls [(.bi .list [(.var 1)])])
def b15_1 : Sx := .fors (.nm 4) (.rng1 (.var 2)) [.asg (.nm 5) (.bin .add (.bin .add (.lst [.non]) (.ix (.var 3) (.neg (.int 1)))) (.lst [.non])), .expr (.meth .append (.var 3) [(.lc (.call 14 [(.var 0), (.ix (.var 5) (.var 6)), (.ix (.var 5) (.bin .add (.var 6) (.int 1))), (.ix (.var 5) (.bin .add (.var 6) (.int 2)))] [] [0, 1, 2, 3]) (.nm 6) (.rng1 (.bi .len [(.var 1)])) none [6])])]
def b15_2 : Sx := .ret (.frz 3)
/-- _law_strip -/
def d15 : Df := ⟨"_law_strip", ["rules", "word", "ticks"], ["rules", "word", "ticks", "found", "tick", "cells", "at"], [b15_0, b15_1, b15_2], [(3, [], [0, 1, 2])]⟩
abbrev s16 : Stmt := topS 56
def b16_0 : Sx := .asg (.nm 3) (.mls [(.lc (.mcall "begin" [(0, 29), (1, 21)] (.var 0) [(.var 6)]) (.nm 6) (.seq (.var 1)) none [6])])
def b16_1 : Sx := .fors (.nm 4) (.rng1 (.var 2)) [.asg (.nm 5) (.bin .add (.bin .add (.lst [.non]) (.ix (.var 3) (.neg (.int 1)))) (.lst [.non])), .expr (.meth .append (.var 3) [(.lc (.mcall "next" [(0, 30), (1, 22)] (.var 0) [(.ix (.var 5) (.var 7)), (.ix (.var 5) (.bin .add (.var 7) (.int 1))), (.ix (.var 5) (.bin .add (.var 7) (.int 2)))]) (.nm 7) (.rng1 (.bi .len [(.var 1)])) none [7])])]
def b16_2 : Sx := .ret (.frz 3)
/-- _law_run -/
def d16 : Df := ⟨"_law_run", ["row", "word", "ticks"], ["row", "word", "ticks", "found", "tick", "cells", "letter", "at"], [b16_0, b16_1, b16_2], [(3, [], [0, 1, 2])]⟩
abbrev s17 : Stmt := topS 57
/-- _law_word -/
def d17 : Df := ⟨"_law_word", ["press", "letters", "many"], ["press", "letters", "many", "at"], [.ret (.lc (.call 11 [(.var 0), (.var 1)] [] [0, 1]) (.nm 3) (.rng1 (.var 2)) none [3])], [(3, [], [0, 1, 2])]⟩
abbrev s18 : Stmt := topS 58
def b18_0 : Sx := .asg (.tp [(.nm 1), (.nm 2), (.nm 3), (.nm 4)]) (.call 13 [(.var 0), (.int 2), (.int 4)] [] [0, 1, 2])
def b18_1 : Sx := .asg (.tp [(.nm 5), (.nm 6)]) (.tup [(.bin .add (.int 2) (.call 11 [(.var 0), (.int 3)] [] [0, 1])), (.bin .add (.int 1) (.call 11 [(.var 0), (.int 4)] [] [0, 1]))])
def b18_2 : Sx := .asg (.nm 7) (.call 12 [(.var 0), (.lst [(.bin .add (.int 1) (.call 11 [(.var 0), (.var 5)] [] [0, 1])), (.bin .add (.var 5) (.int 1)), (.bin .mul (.int 2) (.var 5)), (.bin .add (.bin .mul (.int 2) (.var 5)) (.int 1)), (.bin .add (.int 1) (.call 11 [(.var 0), (.int 12)] [] [0, 1])), (.bin .add (.int 1) (.call 11 [(.var 0), (.var 5)] [] [0, 1]))])] [] [0, 1])
def b18_3 : Sx := .asg (.tp [(.nm 8), (.nm 9)]) (.tup [(.call 17 [(.var 0), (.var 1), (.var 7)] [] [0, 1, 2]), (.mnk 1 20 [("by", (.var 5)), ("row", (.new 0 28 [(.int 2), (.var 1), (.var 2), (.var 3), (.var 4)]))] [0, 2, 1])])
def b18_4 : Sx := .asg (.tp [(.nm 10), (.nm 11)]) (.tup [(.call 15 [(.dctN (.var 3)), (.var 8), (.bin .add (.bin .sub (.var 7) (.int 1)) (.bin .mul (.var 5) (.var 6)))] [] [0, 1, 2]), (.call 16 [(.var 9), (.var 8), (.bin .add (.bin .sub (.var 7) (.int 1)) (.var 6))] [] [0, 1, 2])])
def b18_5 : Sx := .asg (.nm 12) (.bin .add (.lc (.ix (.ix (.var 10) (.var 13)) (.int 0)) (.nm 13) (.rng1 (.var 7)) none [13]) (.lc (.ix (.ix (.var 10) (.bin .add (.bin .sub (.var 7) (.int 1)) (.bin .mul (.var 5) (.var 14)))) (.int 0)) (.nm 14) (.rng2 (.int 1) (.bin .add (.var 6) (.int 1))) none [14]))
def b18_6 : Sx := .ifs (.cmp .ne (.bi .repr [(.lc (.mcall "inner" [(1, 24)] (.var 9) [(.ix (.var 15) (.int 0))]) (.nm 15) (.seq (.var 11)) none [15])]) (.bi .repr [(.var 12)])) [.ret (.bl false)] []
def b18_7 : Sx := .ret (.and (.cmp .eq (.lc (.mcall "says" [(0, 31), (1, 23)] (.var 9) [(.ix (.var 15) (.int 0))]) (.nm 15) (.seq (.var 11)) none [15]) (.lc (.cmp .inn (.var 16) (.var 4)) (.nm 16) (.seq (.var 12)) none [16])) (.cmp .eq (.mck "inner" [(1, 24)] (.var 9) [] [("worth", (.ix (.ix (.var 11) (.int 0)) (.int 0)))] [0, 1]) (.ix (.var 8) (.int 0))))
/-- _law_right -/
def d18 : Df := ⟨"_law_right", ["press"], ["press", "letters", "worths", "rules", "yes", "by", "further", "many", "word", "row", "due", "made", "wanted", "tick", "more", "cells", "worth"], [b18_0, b18_1, b18_2, b18_3, b18_4, b18_5, b18_6, b18_7], [(1, [], [0])]⟩
abbrev s19 : Stmt := topS 59
def b19_0 : Sx := .asg (.nm 1) (.call 10 [(.var 0)] [] [0])
def b19_1 : Sx := .fors (.nm 2) (.rng1 (.int 2)) [.ifs (.not (.call 18 [(.var 1)] [] [0])) [.ret (.bl false)] []]
def b19_2 : Sx := .ret (.bl true)
/-- law -/
def d19 : Df := ⟨"law", ["script"], ["script", "press", "turn"], [b19_0, b19_1, b19_2], [(1, [], [0])]⟩
abbrev s20 : Stmt := (inClass (topS 18) 0)
def b20_0 : Sx := .expr (.call 3 [(.var 1), (.str "row")] [] [0, 1])
def b20_1 : Sx := .expr (.call 2 [(.var 2), (.int 2), (.int 4), (.str "by")] [] [0, 1, 2, 3])
def b20_2 : Sx := .ifs (.cmp .ne (.fldE (.var 1) "ways") (.int 2)) [.nev] []
def b20_3 : Sx := .asg (.fld (.var 0) "row") (.var 1)
def b20_4 : Sx := .asg (.fld (.var 0) "by") (.var 2)
def b20_5 : Sx := .asg (.fld (.var 0) "letters") (.fldE (.var 1) "letters")
def b20_6 : Sx := .asg (.fld (.var 0) "ways") (.int 2)
/-- .Sped.__init__ -/
def d20 : Df := ⟨".Sped.__init__", ["self", "row", "by"], ["self", "row", "by"], [b20_0, b20_1, b20_2, b20_3, b20_4, b20_5, b20_6], [(1, ["by", "row"], [0, 2, 1])]⟩
abbrev s21 : Stmt := (inClass (topS 18) 1)
/-- .Sped.begin -/
def d21 : Df := ⟨".Sped.begin", ["self", "letter"], ["self", "letter"], [.ret (.tup [(.var 1), (.tup [])])], [(2, [], [0, 1])]⟩
abbrev s22 : Stmt := (inClass (topS 18) 2)
def b22_0 : Sx := .asg (.nm 4) (.ite (.cmp .is (.var 3) .non) .non (.ix (.var 3) (.int 0)))
def b22_1 : Sx := .asg (.nm 5) (.mcall "_pack_heard" [(1, 25)] (.var 0) [(.var 1), (.var 2)])
def b22_2 : Sx := .ifs (.cmp .eq (.var 5) (.tup [])) [.ret (.tup [(.var 4), (.tup [])])] []
def b22_3 : Sx := .asg (.nm 6) (.ite (.cmp .is (.var 4) .non) (.fldE (.var 0) "by") (.int 1))
def b22_4 : Sx := .asg (.nm 7) (.bi .len [(.var 5)])
def b22_5 : Sx := .asg (.nm 8) (.ite (.cmp .is (.ix (.var 2) (.int 0)) .non) (.neg (.fldE (.var 0) "by")) (.neg (.int 1)))
def b22_6 : Sx := .asg (.nm 9) .mdn0
def b22_7 : Sx := .expr (.call 4 [(.var 9), (.var 5), (.int 0), (.int 0)] [] [0, 1, 2, 3])
def b22_8 : Sx := .ifs (.cmp .isn (.var 1) .non) [.expr (.call 4 [(.var 9), (.ix (.var 1) (.int 1)), (.neg (.fldE (.var 0) "by")), (.var 8)] [] [0, 1, 2, 3])] []
def b22_9 : Sx := .ifs (.and (.cmp .isn (.var 4) .non) (.or (.cmp .lt (.var 7) (.fldE (.var 0) "by")) (.cmp .eq (.ix (.var 3) (.int 1)) (.tup [])))) [.asg (.sub (.var 9) (.tup [(.var 7), (.int 1)])) (.mcall "begin" [(0, 29), (1, 21)] (.fldE (.var 0) "row") [(.var 4)])] [.ifs (.cmp .isn (.var 3) .non) [.expr (.call 4 [(.var 9), (.slc (.ix (.var 3) (.int 1)) none (some (.int 1))), (.fldE (.var 0) "by"), (.var 6)] [] [0, 1, 2, 3])] []]
def b22_10 : Sx := .expr (.mcall "_reckon" [(1, 26)] (.var 0) [(.var 9), (.var 7), (.var 8), (.var 6)])
def b22_11 : Sx := .ifs (.cmp .isn (.var 4) .non) [.asg (.nm 7) (.bi .min [(.bin .add (.var 7) (.int 1)), (.fldE (.var 0) "by")])] []
def b22_12 : Sx := .frzs 9 (.ret (.tup [(.var 4), (.bi .tuple [(.lc (.mcall "_trail" [(1, 27)] (.var 0) [(.var 9), (.var 10), (.var 6)]) (.nm 10) (.rng1 (.var 7)) none [10])])]))
/-- .Sped.next -/
def d22 : Df := ⟨".Sped.next", ["self", "left", "own", "right"], ["self", "left", "own", "right", "letter", "pack", "steps", "many", "latest", "known", "at"], [b22_0, b22_1, b22_2, b22_3, b22_4, b22_5, b22_6, b22_7, b22_8, b22_9, b22_10, b22_11, b22_12], [(4, [], [0, 1, 2, 3])]⟩
abbrev s23 : Stmt := (inClass (topS 18) 3)
def b23_0 : Sx := .asg (.nm 2) (.mcall "inner" [(1, 24)] (.var 0) [(.var 1)])
def b23_1 : Sx := .ret (.and (.cmp .isn (.var 2) .non) (.bi .bool [(.mcall "says" [(0, 31), (1, 23)] (.fldE (.var 0) "row") [(.var 2)])]))
/-- .Sped.says -/
def d23 : Df := ⟨".Sped.says", ["self", "worth"], ["self", "worth", "inner_worth"], [b23_0, b23_1], [(2, [], [0, 1])]⟩
abbrev s24 : Stmt := (inClass (topS 18) 4)
def b24_0 : Sx := .asg (.tp [(.nm 2), (.nm 3)]) (.var 1)
def b24_1 : Sx := .ifs (.cmp .ne (.var 3) (.tup [])) [.ret (.ix (.ix (.var 3) (.int 0)) (.int 0))] []
def b24_2 : Sx := .ret (.ite (.cmp .is (.var 2) .non) .non (.mcall "begin" [(0, 29), (1, 21)] (.fldE (.var 0) "row") [(.var 2)]))
/-- .Sped.inner -/
def d24 : Df := ⟨".Sped.inner", ["self", "worth"], ["self", "worth", "letter", "pack"], [b24_0, b24_1, b24_2], [(2, [], [0, 1]), (1, ["worth"], [0, 1])]⟩
abbrev s25 : Stmt := (inClass (topS 18) 5)
def b25_0 : Sx := .asg (.tp [(.nm 3), (.nm 4)]) (.var 2)
def b25_1 : Sx := .ifs (.or (.cmp .ne (.var 4) (.tup [])) (.cmp .is (.var 3) .non)) [.ret (.var 4)] []
def b25_2 : Sx := .ifs (.or (.cmp .is (.var 1) .non) (.cmp .eq (.bi .len [(.ix (.var 1) (.int 1))]) (.fldE (.var 0) "by"))) [.ret (.tup [(.tup [(.mcall "begin" [(0, 29), (1, 21)] (.fldE (.var 0) "row") [(.var 3)])])])] []
def b25_3 : Sx := .ret (.tup [])
/-- .Sped._pack_heard -/
def d25 : Df := ⟨".Sped._pack_heard", ["self", "left", "own"], ["self", "left", "own", "letter", "pack"], [b25_0, b25_1, b25_2, b25_3], [(3, [], [0, 1, 2])]⟩
abbrev s26 : Stmt := (inClass (topS 18) 6)
/-- .Sped._reckon -/
def d26 : Df := ⟨".Sped._reckon", ["self", "known", "many", "latest", "steps"], ["self", "known", "many", "latest", "steps", "diagonal", "top", "at", "own", "left"], [.fors (.nm 5) (.rng2 (.bin .add (.var 3) (.int 1)) (.bin .add (.var 4) (.int 1))) [.asg (.nm 6) (.ite (.cmp .gt (.var 5) (.int 0)) (.bin .sub (.var 2) (.int 1)) (.neg (.int 1))), .fors (.nm 7) (.rng3 (.var 6) (.bin .sub (.neg (.bin .fdiv (.bin .sub (.var 4) (.var 5)) (.int 2))) (.int 1)) (.neg (.int 1))) [.asg (.nm 8) (.dng1 (.var 1) (.tup [(.var 7), (.bin .sub (.var 5) (.int 1))])), .ifs (.cmp .isn (.var 8) .non) [.asg (.nm 9) (.dng1 (.var 1) (.tup [(.bin .sub (.var 7) (.int 1)), (.bin .sub (.var 5) (.int 2))])), .asg (.sub (.var 1) (.tup [(.var 7), (.var 5)])) (.mcall "next" [(0, 30), (1, 22)] (.fldE (.var 0) "row") [(.var 9), (.var 8), (.dng1 (.var 1) (.tup [(.bin .add (.var 7) (.int 1)), (.var 5)]))])] []]]], [(5, [], [0, 1, 2, 3, 4])]⟩
abbrev s27 : Stmt := (inClass (topS 18) 7)
def b27_0 : Sx := .asg (.nm 4) (.bin .sub (.var 3) (.ite (.cmp .eq (.var 2) (.int 0)) (.fldE (.var 0) "by") (.int 2)))
def b27_1 : Sx := .asg (.nm 5) (.lc (.tup [(.var 2), (.var 6)]) (.nm 6) (.rng3 (.var 3) (.var 4) (.neg (.int 1))) none [6])
def b27_2 : Sx := .ret (.bi .tuple [(.lc (.dnix (.var 1) (.var 7)) (.nm 7) (.seq (.var 5)) (some (.cmp .din (.var 7) (.var 1))) [7])])
/-- .Sped._trail -/
def d27 : Df := ⟨".Sped._trail", ["self", "known", "at", "steps"], ["self", "known", "at", "steps", "last", "places", "diagonal", "place"], [b27_0, b27_1, b27_2], [(4, [], [0, 1, 2, 3])]⟩
abbrev s28 : Stmt := (inClass (topS 46) 0)
def b28_0 : Sx := .ifs (.not (.call 1 [(.var 1), (.int 1), (.int 2)] [] [0, 1, 2])) [.nev] []
def b28_1 : Sx := .ifs (.not (.call 1 [(.var 2), (.int 1), (.int 6)] [] [0, 1, 2])) [.nev] []
def b28_2 : Sx := .ifs (.not (.call 1 [(.var 3), (.var 2), (.int 12)] [] [0, 1, 2])) [.nev] []
def b28_3 : Sx := .asg (.nm 6) (.call 8 [(.var 4), (.var 1), (.var 3)] [] [0, 1, 2])
def b28_4 : Sx := .ifs (.cmp .is (.var 6) .non) [.nev] []
def b28_5 : Sx := .ifs (.not (.call 6 [(.var 5), (.var 3)] [] [0, 1])) [.nev] []
def b28_6 : Sx := .asg (.fld (.var 0) "ways") (.var 1)
def b28_7 : Sx := .asg (.fld (.var 0) "letters") (.var 2)
def b28_8 : Sx := .asg (.fld (.var 0) "worths") (.var 3)
def b28_9 : Sx := .asg (.fld (.var 0) "rules") (.bi .tuple [(.lc (.tup [(.var 7), (.dnix (.var 6) (.var 7))]) (.nm 7) (.seq (.srt 7 (.dnl (.var 6)))) none [7])])
def b28_10 : Sx := .asg (.fld (.var 0) "yes") (.bi .tuple [(.bi .sorted [(.var 5)])])
def b28_11 : Sx := .asg (.fld (.var 0) "_steps") (.var 6)
/-- .Table.__init__ -/
def d28 : Df := ⟨".Table.__init__", ["self", "ways", "letters", "worths", "rules", "yes"], ["self", "ways", "letters", "worths", "rules", "yes", "steps", "key"], [b28_0, b28_1, b28_2, b28_3, b28_4, b28_5, b28_6, b28_7, b28_8, b28_9, b28_10, b28_11], [(6, [], [0, 1, 2, 3, 4, 5])]⟩
abbrev s29 : Stmt := (inClass (topS 46) 1)
/-- .Table.begin -/
def d29 : Df := ⟨".Table.begin", ["self", "letter"], ["self", "letter"], [.ret (.var 1)], [(2, [], [0, 1])]⟩
abbrev s30 : Stmt := (inClass (topS 46) 2)
def b30_0 : Sx := .asg (.nm 4) (.ite (.cmp .eq (.fldE (.var 0) "ways") (.int 1)) (.tup [(.var 1), (.var 2)]) (.tup [(.var 1), (.var 2), (.var 3)]))
def b30_1 : Sx := .ret (.dng2 (.fldE (.var 0) "_steps") (.var 4) (.var 2))
/-- .Table.next -/
def d30 : Df := ⟨".Table.next", ["self", "left", "own", "right"], ["self", "left", "own", "right", "key"], [b30_0, b30_1], [(4, [], [0, 1, 2, 3])]⟩
abbrev s31 : Stmt := (inClass (topS 46) 3)
/-- .Table.says -/
def d31 : Df := ⟨".Table.says", ["self", "worth"], ["self", "worth"], [.ret (.cmp .inn (.var 1) (.fldE (.var 0) "yes"))], [(2, [], [0, 1])]⟩
def Pd : List Df := [d0, d1, d2, d3, d4, d5, d6, d7, d8, d9, d10, d11, d12, d13, d14, d15, d16, d17, d18, d19, d20, d21, d22, d23, d24, d25, d26, d27, d28, d29, d30, d31]
def gs : List (Str × GC) := [("LEAST_BY", .int 2), ("MOST_BY", .int 4)]
def bs : List Str := ["abs", "all", "bool", "dict", "enumerate", "int", "isinstance", "len", "list", "min", "range", "repr", "set", "sorted", "tuple"]
def cs : List Cf := [⟨"Table", some 28, [("begin", 29), ("next", 30), ("says", 31)], ["ways", "letters", "worths", "rules", "yes", "_steps", "row", "by"], [("Row", true)]⟩, ⟨"Sped", some 20, [("begin", 21), ("next", 22), ("says", 23), ("inner", 24), ("_pack_heard", 25), ("_reckon", 26), ("_trail", 27)], ["ways", "letters", "worths", "rules", "yes", "_steps", "row", "by"], [("Row", true)]⟩]
theorem sc0 : FnScope d0.N d0.ps (defScope s0) := ⟨rfl, rfl, rfl, by decide +kernel, rfl, by decide +kernel, by decide +kernel⟩
theorem mt0 : mSs d0.body ⟨d0.N, defScope s0, defScope s0, Pd, bs, gs, cs⟩ (defBody s0) = true := by decide +kernel
theorem rk0 : (!isRank d0 || (rankB (defScope s0) (defBody s0) && decide (d0.ps = [Str.ofString "key"]) && topB d0.name && bs.contains "tuple" && decide ((1, [], [0]) ∈ d0.shapes))) = true := by decide +kernel
theorem sc1 : FnScope d1.N d1.ps (defScope s1) := ⟨rfl, rfl, rfl, by decide +kernel, rfl, by decide +kernel, by decide +kernel⟩
theorem mt1 : mSs d1.body ⟨d1.N, defScope s1, defScope s1, Pd, bs, gs, cs⟩ (defBody s1) = true := by decide +kernel
theorem rk1 : (!isRank d1 || (rankB (defScope s1) (defBody s1) && decide (d1.ps = [Str.ofString "key"]) && topB d1.name && bs.contains "tuple" && decide ((1, [], [0]) ∈ d1.shapes))) = true := by decide +kernel
theorem sc2 : FnScope d2.N d2.ps (defScope s2) := ⟨rfl, rfl, rfl, by decide +kernel, rfl, by decide +kernel, by decide +kernel⟩
theorem mt2 : mSs d2.body ⟨d2.N, defScope s2, defScope s2, Pd, bs, gs, cs⟩ (defBody s2) = true := by decide +kernel
theorem rk2 : (!isRank d2 || (rankB (defScope s2) (defBody s2) && decide (d2.ps = [Str.ofString "key"]) && topB d2.name && bs.contains "tuple" && decide ((1, [], [0]) ∈ d2.shapes))) = true := by decide +kernel
theorem sc3 : FnScope d3.N d3.ps (defScope s3) := ⟨rfl, rfl, rfl, by decide +kernel, rfl, by decide +kernel, by decide +kernel⟩
theorem mt3 : mSs d3.body ⟨d3.N, defScope s3, defScope s3, Pd, bs, gs, cs⟩ (defBody s3) = true := by decide +kernel
theorem rk3 : (!isRank d3 || (rankB (defScope s3) (defBody s3) && decide (d3.ps = [Str.ofString "key"]) && topB d3.name && bs.contains "tuple" && decide ((1, [], [0]) ∈ d3.shapes))) = true := by decide +kernel
theorem sc4 : FnScope d4.N d4.ps (defScope s4) := ⟨rfl, rfl, rfl, by decide +kernel, rfl, by decide +kernel, by decide +kernel⟩
theorem mt4 : mSs d4.body ⟨d4.N, defScope s4, defScope s4, Pd, bs, gs, cs⟩ (defBody s4) = true := by decide +kernel
theorem rk4 : (!isRank d4 || (rankB (defScope s4) (defBody s4) && decide (d4.ps = [Str.ofString "key"]) && topB d4.name && bs.contains "tuple" && decide ((1, [], [0]) ∈ d4.shapes))) = true := by decide +kernel
theorem sc5 : FnScope d5.N d5.ps (defScope s5) := ⟨rfl, rfl, rfl, by decide +kernel, rfl, by decide +kernel, by decide +kernel⟩
theorem mt5 : mSs d5.body ⟨d5.N, defScope s5, defScope s5, Pd, bs, gs, cs⟩ (defBody s5) = true := by decide +kernel
theorem rk5 : (!isRank d5 || (rankB (defScope s5) (defBody s5) && decide (d5.ps = [Str.ofString "key"]) && topB d5.name && bs.contains "tuple" && decide ((1, [], [0]) ∈ d5.shapes))) = true := by decide +kernel
theorem sc6 : FnScope d6.N d6.ps (defScope s6) := ⟨rfl, rfl, rfl, by decide +kernel, rfl, by decide +kernel, by decide +kernel⟩
theorem mt6 : mSs d6.body ⟨d6.N, defScope s6, defScope s6, Pd, bs, gs, cs⟩ (defBody s6) = true := by decide +kernel
theorem rk6 : (!isRank d6 || (rankB (defScope s6) (defBody s6) && decide (d6.ps = [Str.ofString "key"]) && topB d6.name && bs.contains "tuple" && decide ((1, [], [0]) ∈ d6.shapes))) = true := by decide +kernel
theorem sc7 : FnScope d7.N d7.ps (defScope s7) := ⟨rfl, rfl, rfl, by decide +kernel, rfl, by decide +kernel, by decide +kernel⟩
theorem mt7 : mSs d7.body ⟨d7.N, defScope s7, defScope s7, Pd, bs, gs, cs⟩ (defBody s7) = true := by decide +kernel
theorem rk7 : (!isRank d7 || (rankB (defScope s7) (defBody s7) && decide (d7.ps = [Str.ofString "key"]) && topB d7.name && bs.contains "tuple" && decide ((1, [], [0]) ∈ d7.shapes))) = true := by decide +kernel
theorem sc8 : FnScope d8.N d8.ps (defScope s8) := ⟨rfl, rfl, rfl, by decide +kernel, rfl, by decide +kernel, by decide +kernel⟩
theorem mt8 : mSs d8.body ⟨d8.N, defScope s8, defScope s8, Pd, bs, gs, cs⟩ (defBody s8) = true := by decide +kernel
theorem rk8 : (!isRank d8 || (rankB (defScope s8) (defBody s8) && decide (d8.ps = [Str.ofString "key"]) && topB d8.name && bs.contains "tuple" && decide ((1, [], [0]) ∈ d8.shapes))) = true := by decide +kernel
theorem sc9 : FnScope d9.N d9.ps (defScope s9) := ⟨rfl, rfl, rfl, by decide +kernel, rfl, by decide +kernel, by decide +kernel⟩
theorem mt9 : mSs d9.body ⟨d9.N, defScope s9, defScope s9, Pd, bs, gs, cs⟩ (defBody s9) = true := by decide +kernel
theorem rk9 : (!isRank d9 || (rankB (defScope s9) (defBody s9) && decide (d9.ps = [Str.ofString "key"]) && topB d9.name && bs.contains "tuple" && decide ((1, [], [0]) ∈ d9.shapes))) = true := by decide +kernel
theorem sc10 : FnScope d10.N d10.ps (defScope s10) := ⟨rfl, rfl, rfl, by decide +kernel, rfl, by decide +kernel, by decide +kernel⟩
theorem mt10 : mSs d10.body ⟨d10.N, defScope s10, defScope s10, Pd, bs, gs, cs⟩ (defBody s10) = true := by decide +kernel
theorem rk10 : (!isRank d10 || (rankB (defScope s10) (defBody s10) && decide (d10.ps = [Str.ofString "key"]) && topB d10.name && bs.contains "tuple" && decide ((1, [], [0]) ∈ d10.shapes))) = true := by decide +kernel
theorem sc11 : FnScope d11.N d11.ps (defScope s11) := ⟨rfl, rfl, rfl, by decide +kernel, rfl, by decide +kernel, by decide +kernel⟩
theorem mt11 : mSs d11.body ⟨d11.N, defScope s11, defScope s11, Pd, bs, gs, cs⟩ (defBody s11) = true := by decide +kernel
theorem rk11 : (!isRank d11 || (rankB (defScope s11) (defBody s11) && decide (d11.ps = [Str.ofString "key"]) && topB d11.name && bs.contains "tuple" && decide ((1, [], [0]) ∈ d11.shapes))) = true := by decide +kernel
theorem sc12 : FnScope d12.N d12.ps (defScope s12) := ⟨rfl, rfl, rfl, by decide +kernel, rfl, by decide +kernel, by decide +kernel⟩
theorem mt12 : mSs d12.body ⟨d12.N, defScope s12, defScope s12, Pd, bs, gs, cs⟩ (defBody s12) = true := by decide +kernel
theorem rk12 : (!isRank d12 || (rankB (defScope s12) (defBody s12) && decide (d12.ps = [Str.ofString "key"]) && topB d12.name && bs.contains "tuple" && decide ((1, [], [0]) ∈ d12.shapes))) = true := by decide +kernel
theorem sc13 : FnScope d13.N d13.ps (defScope s13) := ⟨rfl, rfl, rfl, by decide +kernel, rfl, by decide +kernel, by decide +kernel⟩
theorem mt13 : mSs d13.body ⟨d13.N, defScope s13, defScope s13, Pd, bs, gs, cs⟩ (defBody s13) = true := by decide +kernel
theorem rk13 : (!isRank d13 || (rankB (defScope s13) (defBody s13) && decide (d13.ps = [Str.ofString "key"]) && topB d13.name && bs.contains "tuple" && decide ((1, [], [0]) ∈ d13.shapes))) = true := by decide +kernel
theorem sc14 : FnScope d14.N d14.ps (defScope s14) := ⟨rfl, rfl, rfl, by decide +kernel, rfl, by decide +kernel, by decide +kernel⟩
theorem mt14 : mSs d14.body ⟨d14.N, defScope s14, defScope s14, Pd, bs, gs, cs⟩ (defBody s14) = true := by decide +kernel
theorem rk14 : (!isRank d14 || (rankB (defScope s14) (defBody s14) && decide (d14.ps = [Str.ofString "key"]) && topB d14.name && bs.contains "tuple" && decide ((1, [], [0]) ∈ d14.shapes))) = true := by decide +kernel
theorem sc15 : FnScope d15.N d15.ps (defScope s15) := ⟨rfl, rfl, rfl, by decide +kernel, rfl, by decide +kernel, by decide +kernel⟩
theorem mt15 : mSs d15.body ⟨d15.N, defScope s15, defScope s15, Pd, bs, gs, cs⟩ (defBody s15) = true := by decide +kernel
theorem rk15 : (!isRank d15 || (rankB (defScope s15) (defBody s15) && decide (d15.ps = [Str.ofString "key"]) && topB d15.name && bs.contains "tuple" && decide ((1, [], [0]) ∈ d15.shapes))) = true := by decide +kernel
theorem sc16 : FnScope d16.N d16.ps (defScope s16) := ⟨rfl, rfl, rfl, by decide +kernel, rfl, by decide +kernel, by decide +kernel⟩
theorem mt16 : mSs d16.body ⟨d16.N, defScope s16, defScope s16, Pd, bs, gs, cs⟩ (defBody s16) = true := by decide +kernel
theorem rk16 : (!isRank d16 || (rankB (defScope s16) (defBody s16) && decide (d16.ps = [Str.ofString "key"]) && topB d16.name && bs.contains "tuple" && decide ((1, [], [0]) ∈ d16.shapes))) = true := by decide +kernel
theorem sc17 : FnScope d17.N d17.ps (defScope s17) := ⟨rfl, rfl, rfl, by decide +kernel, rfl, by decide +kernel, by decide +kernel⟩
theorem mt17 : mSs d17.body ⟨d17.N, defScope s17, defScope s17, Pd, bs, gs, cs⟩ (defBody s17) = true := by decide +kernel
theorem rk17 : (!isRank d17 || (rankB (defScope s17) (defBody s17) && decide (d17.ps = [Str.ofString "key"]) && topB d17.name && bs.contains "tuple" && decide ((1, [], [0]) ∈ d17.shapes))) = true := by decide +kernel
theorem sc18 : FnScope d18.N d18.ps (defScope s18) := ⟨rfl, rfl, rfl, by decide +kernel, rfl, by decide +kernel, by decide +kernel⟩
theorem mt18 : mSs d18.body ⟨d18.N, defScope s18, defScope s18, Pd, bs, gs, cs⟩ (defBody s18) = true := by decide +kernel
theorem rk18 : (!isRank d18 || (rankB (defScope s18) (defBody s18) && decide (d18.ps = [Str.ofString "key"]) && topB d18.name && bs.contains "tuple" && decide ((1, [], [0]) ∈ d18.shapes))) = true := by decide +kernel
theorem sc19 : FnScope d19.N d19.ps (defScope s19) := ⟨rfl, rfl, rfl, by decide +kernel, rfl, by decide +kernel, by decide +kernel⟩
theorem mt19 : mSs d19.body ⟨d19.N, defScope s19, defScope s19, Pd, bs, gs, cs⟩ (defBody s19) = true := by decide +kernel
theorem rk19 : (!isRank d19 || (rankB (defScope s19) (defBody s19) && decide (d19.ps = [Str.ofString "key"]) && topB d19.name && bs.contains "tuple" && decide ((1, [], [0]) ∈ d19.shapes))) = true := by decide +kernel
theorem sc20 : FnScope d20.N d20.ps (defScope s20) := ⟨rfl, rfl, rfl, by decide +kernel, rfl, by decide +kernel, by decide +kernel⟩
theorem mt20 : mSs d20.body ⟨d20.N, defScope s20, defScope s20, Pd, bs, gs, cs⟩ (defBody s20) = true := by decide +kernel
theorem rk20 : (!isRank d20 || (rankB (defScope s20) (defBody s20) && decide (d20.ps = [Str.ofString "key"]) && topB d20.name && bs.contains "tuple" && decide ((1, [], [0]) ∈ d20.shapes))) = true := by decide +kernel
theorem sc21 : FnScope d21.N d21.ps (defScope s21) := ⟨rfl, rfl, rfl, by decide +kernel, rfl, by decide +kernel, by decide +kernel⟩
theorem mt21 : mSs d21.body ⟨d21.N, defScope s21, defScope s21, Pd, bs, gs, cs⟩ (defBody s21) = true := by decide +kernel
theorem rk21 : (!isRank d21 || (rankB (defScope s21) (defBody s21) && decide (d21.ps = [Str.ofString "key"]) && topB d21.name && bs.contains "tuple" && decide ((1, [], [0]) ∈ d21.shapes))) = true := by decide +kernel
theorem sc22 : FnScope d22.N d22.ps (defScope s22) := ⟨rfl, rfl, rfl, by decide +kernel, rfl, by decide +kernel, by decide +kernel⟩
theorem mt22 : mSs d22.body ⟨d22.N, defScope s22, defScope s22, Pd, bs, gs, cs⟩ (defBody s22) = true := by decide +kernel
theorem rk22 : (!isRank d22 || (rankB (defScope s22) (defBody s22) && decide (d22.ps = [Str.ofString "key"]) && topB d22.name && bs.contains "tuple" && decide ((1, [], [0]) ∈ d22.shapes))) = true := by decide +kernel
theorem sc23 : FnScope d23.N d23.ps (defScope s23) := ⟨rfl, rfl, rfl, by decide +kernel, rfl, by decide +kernel, by decide +kernel⟩
theorem mt23 : mSs d23.body ⟨d23.N, defScope s23, defScope s23, Pd, bs, gs, cs⟩ (defBody s23) = true := by decide +kernel
theorem rk23 : (!isRank d23 || (rankB (defScope s23) (defBody s23) && decide (d23.ps = [Str.ofString "key"]) && topB d23.name && bs.contains "tuple" && decide ((1, [], [0]) ∈ d23.shapes))) = true := by decide +kernel
theorem sc24 : FnScope d24.N d24.ps (defScope s24) := ⟨rfl, rfl, rfl, by decide +kernel, rfl, by decide +kernel, by decide +kernel⟩
theorem mt24 : mSs d24.body ⟨d24.N, defScope s24, defScope s24, Pd, bs, gs, cs⟩ (defBody s24) = true := by decide +kernel
theorem rk24 : (!isRank d24 || (rankB (defScope s24) (defBody s24) && decide (d24.ps = [Str.ofString "key"]) && topB d24.name && bs.contains "tuple" && decide ((1, [], [0]) ∈ d24.shapes))) = true := by decide +kernel
theorem sc25 : FnScope d25.N d25.ps (defScope s25) := ⟨rfl, rfl, rfl, by decide +kernel, rfl, by decide +kernel, by decide +kernel⟩
theorem mt25 : mSs d25.body ⟨d25.N, defScope s25, defScope s25, Pd, bs, gs, cs⟩ (defBody s25) = true := by decide +kernel
theorem rk25 : (!isRank d25 || (rankB (defScope s25) (defBody s25) && decide (d25.ps = [Str.ofString "key"]) && topB d25.name && bs.contains "tuple" && decide ((1, [], [0]) ∈ d25.shapes))) = true := by decide +kernel
theorem sc26 : FnScope d26.N d26.ps (defScope s26) := ⟨rfl, rfl, rfl, by decide +kernel, rfl, by decide +kernel, by decide +kernel⟩
theorem mt26 : mSs d26.body ⟨d26.N, defScope s26, defScope s26, Pd, bs, gs, cs⟩ (defBody s26) = true := by decide +kernel
theorem rk26 : (!isRank d26 || (rankB (defScope s26) (defBody s26) && decide (d26.ps = [Str.ofString "key"]) && topB d26.name && bs.contains "tuple" && decide ((1, [], [0]) ∈ d26.shapes))) = true := by decide +kernel
theorem sc27 : FnScope d27.N d27.ps (defScope s27) := ⟨rfl, rfl, rfl, by decide +kernel, rfl, by decide +kernel, by decide +kernel⟩
theorem mt27 : mSs d27.body ⟨d27.N, defScope s27, defScope s27, Pd, bs, gs, cs⟩ (defBody s27) = true := by decide +kernel
theorem rk27 : (!isRank d27 || (rankB (defScope s27) (defBody s27) && decide (d27.ps = [Str.ofString "key"]) && topB d27.name && bs.contains "tuple" && decide ((1, [], [0]) ∈ d27.shapes))) = true := by decide +kernel
theorem sc28 : FnScope d28.N d28.ps (defScope s28) := ⟨rfl, rfl, rfl, by decide +kernel, rfl, by decide +kernel, by decide +kernel⟩
theorem mt28 : mSs d28.body ⟨d28.N, defScope s28, defScope s28, Pd, bs, gs, cs⟩ (defBody s28) = true := by decide +kernel
theorem rk28 : (!isRank d28 || (rankB (defScope s28) (defBody s28) && decide (d28.ps = [Str.ofString "key"]) && topB d28.name && bs.contains "tuple" && decide ((1, [], [0]) ∈ d28.shapes))) = true := by decide +kernel
theorem sc29 : FnScope d29.N d29.ps (defScope s29) := ⟨rfl, rfl, rfl, by decide +kernel, rfl, by decide +kernel, by decide +kernel⟩
theorem mt29 : mSs d29.body ⟨d29.N, defScope s29, defScope s29, Pd, bs, gs, cs⟩ (defBody s29) = true := by decide +kernel
theorem rk29 : (!isRank d29 || (rankB (defScope s29) (defBody s29) && decide (d29.ps = [Str.ofString "key"]) && topB d29.name && bs.contains "tuple" && decide ((1, [], [0]) ∈ d29.shapes))) = true := by decide +kernel
theorem sc30 : FnScope d30.N d30.ps (defScope s30) := ⟨rfl, rfl, rfl, by decide +kernel, rfl, by decide +kernel, by decide +kernel⟩
theorem mt30 : mSs d30.body ⟨d30.N, defScope s30, defScope s30, Pd, bs, gs, cs⟩ (defBody s30) = true := by decide +kernel
theorem rk30 : (!isRank d30 || (rankB (defScope s30) (defBody s30) && decide (d30.ps = [Str.ofString "key"]) && topB d30.name && bs.contains "tuple" && decide ((1, [], [0]) ∈ d30.shapes))) = true := by decide +kernel
theorem sc31 : FnScope d31.N d31.ps (defScope s31) := ⟨rfl, rfl, rfl, by decide +kernel, rfl, by decide +kernel, by decide +kernel⟩
theorem mt31 : mSs d31.body ⟨d31.N, defScope s31, defScope s31, Pd, bs, gs, cs⟩ (defBody s31) = true := by decide +kernel
theorem rk31 : (!isRank d31 || (rankB (defScope s31) (defBody s31) && decide (d31.ps = [Str.ofString "key"]) && topB d31.name && bs.contains "tuple" && decide ((1, [], [0]) ∈ d31.shapes))) = true := by decide +kernel
def e0 : He.DefD := ⟨("is_integer", none), "is_integer", "is_integer", defArgs s0, defBody s0, defScope s0, [], []⟩
theorem at0 {P : Program} {w : World} {K : PySem.W.Frag} {cls : Nat → Addr} {mg : Str → Option Value} {f : Addr} {fd : FuncData} (F : FnAt K e0 f fd)
    (a : topB d0.name = true → mg d0.name = some (.ref f)) : DefAt ⟨K, cls, 2, P, w⟩ mg Pd bs gs cs d0 f fd := by
  obtain ⟨oc, od, kV, doc, pm, an, cd, ct, sl, rfl, l, c, k⟩ := F
  refine ⟨a, k, ⟨"is_integer", "is_integer", defArgs s0, defBody s0, defScope s0, .none, kV, doc, pm, cd, ct, oc, an, od, sl, rfl, l, c, sc0, mt0, rk0⟩, fun sh hs s us ws h1 h2 => ?_⟩
  rcases List.mem_cons.mp hs with rfl | hs
  · match us, ws, h1, h2 with
    | [_], [], _, _ => exact .of_eq rfl
  cases hs
def e1 : He.DefD := ⟨("is_within", none), "is_within", "is_within", defArgs s1, defBody s1, defScope s1, [], []⟩
theorem at1 {P : Program} {w : World} {K : PySem.W.Frag} {cls : Nat → Addr} {mg : Str → Option Value} {f : Addr} {fd : FuncData} (F : FnAt K e1 f fd)
    (a : topB d1.name = true → mg d1.name = some (.ref f)) : DefAt ⟨K, cls, 2, P, w⟩ mg Pd bs gs cs d1 f fd := by
  obtain ⟨oc, od, kV, doc, pm, an, cd, ct, sl, rfl, l, c, k⟩ := F
  refine ⟨a, k, ⟨"is_within", "is_within", defArgs s1, defBody s1, defScope s1, .none, kV, doc, pm, cd, ct, oc, an, od, sl, rfl, l, c, sc1, mt1, rk1⟩, fun sh hs s us ws h1 h2 => ?_⟩
  rcases List.mem_cons.mp hs with rfl | hs
  · match us, ws, h1, h2 with
    | [_, _, _], [], _, _ => exact .of_eq rfl
  cases hs
def e2 : He.DefD := ⟨("demand_number", none), "demand_number", "demand_number", defArgs s2, defBody s2, defScope s2, [], []⟩
theorem at2 {P : Program} {w : World} {K : PySem.W.Frag} {cls : Nat → Addr} {mg : Str → Option Value} {f : Addr} {fd : FuncData} (F : FnAt K e2 f fd)
    (a : topB d2.name = true → mg d2.name = some (.ref f)) : DefAt ⟨K, cls, 2, P, w⟩ mg Pd bs gs cs d2 f fd := by
  obtain ⟨oc, od, kV, doc, pm, an, cd, ct, sl, rfl, l, c, k⟩ := F
  refine ⟨a, k, ⟨"demand_number", "demand_number", defArgs s2, defBody s2, defScope s2, .none, kV, doc, pm, cd, ct, oc, an, od, sl, rfl, l, c, sc2, mt2, rk2⟩, fun sh hs s us ws h1 h2 => ?_⟩
  rcases List.mem_cons.mp hs with rfl | hs
  · match us, ws, h1, h2 with
    | [_, _, _, _], [], _, _ => exact .of_eq rfl
  cases hs
def e3 : He.DefD := ⟨("demand_row", none), "demand_row", "demand_row", defArgs s3, defBody s3, defScope s3, [], []⟩
theorem at3 {P : Program} {w : World} {K : PySem.W.Frag} {cls : Nat → Addr} {mg : Str → Option Value} {f : Addr} {fd : FuncData} (F : FnAt K e3 f fd)
    (a : topB d3.name = true → mg d3.name = some (.ref f)) : DefAt ⟨K, cls, 2, P, w⟩ mg Pd bs gs cs d3 f fd := by
  obtain ⟨oc, od, kV, doc, pm, an, cd, ct, sl, rfl, l, c, k⟩ := F
  refine ⟨a, k, ⟨"demand_row", "demand_row", defArgs s3, defBody s3, defScope s3, .none, kV, doc, pm, cd, ct, oc, an, od, sl, rfl, l, c, sc3, mt3, rk3⟩, fun sh hs s us ws h1 h2 => ?_⟩
  rcases List.mem_cons.mp hs with rfl | hs
  · match us, ws, h1, h2 with
    | [_, _], [], _, _ => exact .of_eq rfl
  cases hs
def e4 : He.DefD := ⟨("lay", none), "lay", "lay", defArgs s4, defBody s4, defScope s4, [], []⟩
theorem at4 {P : Program} {w : World} {K : PySem.W.Frag} {cls : Nat → Addr} {mg : Str → Option Value} {f : Addr} {fd : FuncData} (F : FnAt K e4 f fd)
    (a : topB d4.name = true → mg d4.name = some (.ref f)) : DefAt ⟨K, cls, 2, P, w⟩ mg Pd bs gs cs d4 f fd := by
  obtain ⟨oc, od, kV, doc, pm, an, cd, ct, sl, rfl, l, c, k⟩ := F
  refine ⟨a, k, ⟨"lay", "lay", defArgs s4, defBody s4, defScope s4, .none, kV, doc, pm, cd, ct, oc, an, od, sl, rfl, l, c, sc4, mt4, rk4⟩, fun sh hs s us ws h1 h2 => ?_⟩
  rcases List.mem_cons.mp hs with rfl | hs
  · match us, ws, h1, h2 with
    | [_, _, _, _], [], _, _ => exact .of_eq rfl
  cases hs
def e5 : He.DefD := ⟨("pairs_told", none), "pairs_told", "pairs_told", defArgs s5, defBody s5, defScope s5, [], []⟩
theorem at5 {P : Program} {w : World} {K : PySem.W.Frag} {cls : Nat → Addr} {mg : Str → Option Value} {f : Addr} {fd : FuncData} (F : FnAt K e5 f fd)
    (a : topB d5.name = true → mg d5.name = some (.ref f)) : DefAt ⟨K, cls, 2, P, w⟩ mg Pd bs gs cs d5 f fd := by
  obtain ⟨oc, od, kV, doc, pm, an, cd, ct, sl, rfl, l, c, k⟩ := F
  refine ⟨a, k, ⟨"pairs_told", "pairs_told", defArgs s5, defBody s5, defScope s5, .none, kV, doc, pm, cd, ct, oc, an, od, sl, rfl, l, c, sc5, mt5, rk5⟩, fun sh hs s us ws h1 h2 => ?_⟩
  rcases List.mem_cons.mp hs with rfl | hs
  · match us, ws, h1, h2 with
    | [_], [], _, _ => exact .of_eq rfl
  cases hs
def e6 : He.DefD := ⟨("is_lot", none), "is_lot", "is_lot", defArgs s6, defBody s6, defScope s6, [], []⟩
theorem at6 {P : Program} {w : World} {K : PySem.W.Frag} {cls : Nat → Addr} {mg : Str → Option Value} {f : Addr} {fd : FuncData} (F : FnAt K e6 f fd)
    (a : topB d6.name = true → mg d6.name = some (.ref f)) : DefAt ⟨K, cls, 2, P, w⟩ mg Pd bs gs cs d6 f fd := by
  obtain ⟨oc, od, kV, doc, pm, an, cd, ct, sl, rfl, l, c, k⟩ := F
  refine ⟨a, k, ⟨"is_lot", "is_lot", defArgs s6, defBody s6, defScope s6, .none, kV, doc, pm, cd, ct, oc, an, od, sl, rfl, l, c, sc6, mt6, rk6⟩, fun sh hs s us ws h1 h2 => ?_⟩
  rcases List.mem_cons.mp hs with rfl | hs
  · match us, ws, h1, h2 with
    | [_, _], [], _, _ => exact .of_eq rfl
  cases hs
def e7 : He.DefD := ⟨("key_rank", none), "key_rank", "key_rank", defArgs s7, defBody s7, defScope s7, [], []⟩
theorem at7 {P : Program} {w : World} {K : PySem.W.Frag} {cls : Nat → Addr} {mg : Str → Option Value} {f : Addr} {fd : FuncData} (F : FnAt K e7 f fd)
    (a : topB d7.name = true → mg d7.name = some (.ref f)) : DefAt ⟨K, cls, 2, P, w⟩ mg Pd bs gs cs d7 f fd := by
  obtain ⟨oc, od, kV, doc, pm, an, cd, ct, sl, rfl, l, c, k⟩ := F
  refine ⟨a, k, ⟨"key_rank", "key_rank", defArgs s7, defBody s7, defScope s7, .none, kV, doc, pm, cd, ct, oc, an, od, sl, rfl, l, c, sc7, mt7, rk7⟩, fun sh hs s us ws h1 h2 => ?_⟩
  rcases List.mem_cons.mp hs with rfl | hs
  · match us, ws, h1, h2 with
    | [_], [], _, _ => exact .of_eq rfl
  cases hs
def e8 : He.DefD := ⟨("steps_told", none), "steps_told", "steps_told", defArgs s8, defBody s8, defScope s8, [], []⟩
theorem at8 {P : Program} {w : World} {K : PySem.W.Frag} {cls : Nat → Addr} {mg : Str → Option Value} {f : Addr} {fd : FuncData} (F : FnAt K e8 f fd)
    (a : topB d8.name = true → mg d8.name = some (.ref f)) : DefAt ⟨K, cls, 2, P, w⟩ mg Pd bs gs cs d8 f fd := by
  obtain ⟨oc, od, kV, doc, pm, an, cd, ct, sl, rfl, l, c, k⟩ := F
  refine ⟨a, k, ⟨"steps_told", "steps_told", defArgs s8, defBody s8, defScope s8, .none, kV, doc, pm, cd, ct, oc, an, od, sl, rfl, l, c, sc8, mt8, rk8⟩, fun sh hs s us ws h1 h2 => ?_⟩
  rcases List.mem_cons.mp hs with rfl | hs
  · match us, ws, h1, h2 with
    | [_, _, _], [], _, _ => exact .of_eq rfl
  cases hs
def e9 : He.DefD := ⟨("is_key", none), "is_key", "is_key", defArgs s9, defBody s9, defScope s9, [], []⟩
theorem at9 {P : Program} {w : World} {K : PySem.W.Frag} {cls : Nat → Addr} {mg : Str → Option Value} {f : Addr} {fd : FuncData} (F : FnAt K e9 f fd)
    (a : topB d9.name = true → mg d9.name = some (.ref f)) : DefAt ⟨K, cls, 2, P, w⟩ mg Pd bs gs cs d9 f fd := by
  obtain ⟨oc, od, kV, doc, pm, an, cd, ct, sl, rfl, l, c, k⟩ := F
  refine ⟨a, k, ⟨"is_key", "is_key", defArgs s9, defBody s9, defScope s9, .none, kV, doc, pm, cd, ct, oc, an, od, sl, rfl, l, c, sc9, mt9, rk9⟩, fun sh hs s us ws h1 h2 => ?_⟩
  rcases List.mem_cons.mp hs with rfl | hs
  · match us, ws, h1, h2 with
    | [_, _, _], [], _, _ => exact .of_eq rfl
  cases hs
def e10 : He.DefD := ⟨("_law_press", none), "_law_press", "_law_press", defArgs s10, defBody s10, defScope s10, [], []⟩
theorem at10 {P : Program} {w : World} {K : PySem.W.Frag} {cls : Nat → Addr} {mg : Str → Option Value} {f : Addr} {fd : FuncData} (F : FnAt K e10 f fd)
    (a : topB d10.name = true → mg d10.name = some (.ref f)) : DefAt ⟨K, cls, 2, P, w⟩ mg Pd bs gs cs d10 f fd := by
  obtain ⟨oc, od, kV, doc, pm, an, cd, ct, sl, rfl, l, c, k⟩ := F
  refine ⟨a, k, ⟨"_law_press", "_law_press", defArgs s10, defBody s10, defScope s10, .none, kV, doc, pm, cd, ct, oc, an, od, sl, rfl, l, c, sc10, mt10, rk10⟩, fun sh hs s us ws h1 h2 => ?_⟩
  rcases List.mem_cons.mp hs with rfl | hs
  · match us, ws, h1, h2 with
    | [_], [], _, _ => exact .of_eq rfl
  cases hs
def e11 : He.DefD := ⟨("_law_turn", none), "_law_turn", "_law_turn", defArgs s11, defBody s11, defScope s11, [], []⟩
theorem at11 {P : Program} {w : World} {K : PySem.W.Frag} {cls : Nat → Addr} {mg : Str → Option Value} {f : Addr} {fd : FuncData} (F : FnAt K e11 f fd)
    (a : topB d11.name = true → mg d11.name = some (.ref f)) : DefAt ⟨K, cls, 2, P, w⟩ mg Pd bs gs cs d11 f fd := by
  obtain ⟨oc, od, kV, doc, pm, an, cd, ct, sl, rfl, l, c, k⟩ := F
  refine ⟨a, k, ⟨"_law_turn", "_law_turn", defArgs s11, defBody s11, defScope s11, .none, kV, doc, pm, cd, ct, oc, an, od, sl, rfl, l, c, sc11, mt11, rk11⟩, fun sh hs s us ws h1 h2 => ?_⟩
  rcases List.mem_cons.mp hs with rfl | hs
  · match us, ws, h1, h2 with
    | [_, _], [], _, _ => exact .of_eq rfl
  cases hs
def e12 : He.DefD := ⟨("_law_of", none), "_law_of", "_law_of", defArgs s12, defBody s12, defScope s12, [], []⟩
theorem at12 {P : Program} {w : World} {K : PySem.W.Frag} {cls : Nat → Addr} {mg : Str → Option Value} {f : Addr} {fd : FuncData} (F : FnAt K e12 f fd)
    (a : topB d12.name = true → mg d12.name = some (.ref f)) : DefAt ⟨K, cls, 2, P, w⟩ mg Pd bs gs cs d12 f fd := by
  obtain ⟨oc, od, kV, doc, pm, an, cd, ct, sl, rfl, l, c, k⟩ := F
  refine ⟨a, k, ⟨"_law_of", "_law_of", defArgs s12, defBody s12, defScope s12, .none, kV, doc, pm, cd, ct, oc, an, od, sl, rfl, l, c, sc12, mt12, rk12⟩, fun sh hs s us ws h1 h2 => ?_⟩
  rcases List.mem_cons.mp hs with rfl | hs
  · match us, ws, h1, h2 with
    | [_, _], [], _, _ => exact .of_eq rfl
  cases hs
def e13 : He.DefD := ⟨("_law_table", none), "_law_table", "_law_table", defArgs s13, defBody s13, defScope s13, [], []⟩
theorem at13 {P : Program} {w : World} {K : PySem.W.Frag} {cls : Nat → Addr} {mg : Str → Option Value} {f : Addr} {fd : FuncData} (F : FnAt K e13 f fd)
    (a : topB d13.name = true → mg d13.name = some (.ref f)) : DefAt ⟨K, cls, 2, P, w⟩ mg Pd bs gs cs d13 f fd := by
  obtain ⟨oc, od, kV, doc, pm, an, cd, ct, sl, rfl, l, c, k⟩ := F
  refine ⟨a, k, ⟨"_law_table", "_law_table", defArgs s13, defBody s13, defScope s13, .none, kV, doc, pm, cd, ct, oc, an, od, sl, rfl, l, c, sc13, mt13, rk13⟩, fun sh hs s us ws h1 h2 => ?_⟩
  rcases List.mem_cons.mp hs with rfl | hs
  · match us, ws, h1, h2 with
    | [_, _, _], [], _, _ => exact .of_eq rfl
  cases hs
def e14 : He.DefD := ⟨("_law_next", none), "_law_next", "_law_next", defArgs s14, defBody s14, defScope s14, [], []⟩
theorem at14 {P : Program} {w : World} {K : PySem.W.Frag} {cls : Nat → Addr} {mg : Str → Option Value} {f : Addr} {fd : FuncData} (F : FnAt K e14 f fd)
    (a : topB d14.name = true → mg d14.name = some (.ref f)) : DefAt ⟨K, cls, 2, P, w⟩ mg Pd bs gs cs d14 f fd := by
  obtain ⟨oc, od, kV, doc, pm, an, cd, ct, sl, rfl, l, c, k⟩ := F
  refine ⟨a, k, ⟨"_law_next", "_law_next", defArgs s14, defBody s14, defScope s14, .none, kV, doc, pm, cd, ct, oc, an, od, sl, rfl, l, c, sc14, mt14, rk14⟩, fun sh hs s us ws h1 h2 => ?_⟩
  rcases List.mem_cons.mp hs with rfl | hs
  · match us, ws, h1, h2 with
    | [_, _, _, _], [], _, _ => exact .of_eq rfl
  cases hs
def e15 : He.DefD := ⟨("_law_strip", none), "_law_strip", "_law_strip", defArgs s15, defBody s15, defScope s15, [], []⟩
theorem at15 {P : Program} {w : World} {K : PySem.W.Frag} {cls : Nat → Addr} {mg : Str → Option Value} {f : Addr} {fd : FuncData} (F : FnAt K e15 f fd)
    (a : topB d15.name = true → mg d15.name = some (.ref f)) : DefAt ⟨K, cls, 2, P, w⟩ mg Pd bs gs cs d15 f fd := by
  obtain ⟨oc, od, kV, doc, pm, an, cd, ct, sl, rfl, l, c, k⟩ := F
  refine ⟨a, k, ⟨"_law_strip", "_law_strip", defArgs s15, defBody s15, defScope s15, .none, kV, doc, pm, cd, ct, oc, an, od, sl, rfl, l, c, sc15, mt15, rk15⟩, fun sh hs s us ws h1 h2 => ?_⟩
  rcases List.mem_cons.mp hs with rfl | hs
  · match us, ws, h1, h2 with
    | [_, _, _], [], _, _ => exact .of_eq rfl
  cases hs
def e16 : He.DefD := ⟨("_law_run", none), "_law_run", "_law_run", defArgs s16, defBody s16, defScope s16, [], []⟩
theorem at16 {P : Program} {w : World} {K : PySem.W.Frag} {cls : Nat → Addr} {mg : Str → Option Value} {f : Addr} {fd : FuncData} (F : FnAt K e16 f fd)
    (a : topB d16.name = true → mg d16.name = some (.ref f)) : DefAt ⟨K, cls, 2, P, w⟩ mg Pd bs gs cs d16 f fd := by
  obtain ⟨oc, od, kV, doc, pm, an, cd, ct, sl, rfl, l, c, k⟩ := F
  refine ⟨a, k, ⟨"_law_run", "_law_run", defArgs s16, defBody s16, defScope s16, .none, kV, doc, pm, cd, ct, oc, an, od, sl, rfl, l, c, sc16, mt16, rk16⟩, fun sh hs s us ws h1 h2 => ?_⟩
  rcases List.mem_cons.mp hs with rfl | hs
  · match us, ws, h1, h2 with
    | [_, _, _], [], _, _ => exact .of_eq rfl
  cases hs
def e17 : He.DefD := ⟨("_law_word", none), "_law_word", "_law_word", defArgs s17, defBody s17, defScope s17, [], []⟩
theorem at17 {P : Program} {w : World} {K : PySem.W.Frag} {cls : Nat → Addr} {mg : Str → Option Value} {f : Addr} {fd : FuncData} (F : FnAt K e17 f fd)
    (a : topB d17.name = true → mg d17.name = some (.ref f)) : DefAt ⟨K, cls, 2, P, w⟩ mg Pd bs gs cs d17 f fd := by
  obtain ⟨oc, od, kV, doc, pm, an, cd, ct, sl, rfl, l, c, k⟩ := F
  refine ⟨a, k, ⟨"_law_word", "_law_word", defArgs s17, defBody s17, defScope s17, .none, kV, doc, pm, cd, ct, oc, an, od, sl, rfl, l, c, sc17, mt17, rk17⟩, fun sh hs s us ws h1 h2 => ?_⟩
  rcases List.mem_cons.mp hs with rfl | hs
  · match us, ws, h1, h2 with
    | [_, _, _], [], _, _ => exact .of_eq rfl
  cases hs
def e18 : He.DefD := ⟨("_law_right", none), "_law_right", "_law_right", defArgs s18, defBody s18, defScope s18, [], []⟩
theorem at18 {P : Program} {w : World} {K : PySem.W.Frag} {cls : Nat → Addr} {mg : Str → Option Value} {f : Addr} {fd : FuncData} (F : FnAt K e18 f fd)
    (a : topB d18.name = true → mg d18.name = some (.ref f)) : DefAt ⟨K, cls, 2, P, w⟩ mg Pd bs gs cs d18 f fd := by
  obtain ⟨oc, od, kV, doc, pm, an, cd, ct, sl, rfl, l, c, k⟩ := F
  refine ⟨a, k, ⟨"_law_right", "_law_right", defArgs s18, defBody s18, defScope s18, .none, kV, doc, pm, cd, ct, oc, an, od, sl, rfl, l, c, sc18, mt18, rk18⟩, fun sh hs s us ws h1 h2 => ?_⟩
  rcases List.mem_cons.mp hs with rfl | hs
  · match us, ws, h1, h2 with
    | [_], [], _, _ => exact .of_eq rfl
  cases hs
def e19 : He.DefD := ⟨("law", none), "law", "law", defArgs s19, defBody s19, defScope s19, [], []⟩
theorem at19 {P : Program} {w : World} {K : PySem.W.Frag} {cls : Nat → Addr} {mg : Str → Option Value} {f : Addr} {fd : FuncData} (F : FnAt K e19 f fd)
    (a : topB d19.name = true → mg d19.name = some (.ref f)) : DefAt ⟨K, cls, 2, P, w⟩ mg Pd bs gs cs d19 f fd := by
  obtain ⟨oc, od, kV, doc, pm, an, cd, ct, sl, rfl, l, c, k⟩ := F
  refine ⟨a, k, ⟨"law", "law", defArgs s19, defBody s19, defScope s19, .none, kV, doc, pm, cd, ct, oc, an, od, sl, rfl, l, c, sc19, mt19, rk19⟩, fun sh hs s us ws h1 h2 => ?_⟩
  rcases List.mem_cons.mp hs with rfl | hs
  · match us, ws, h1, h2 with
    | [_], [], _, _ => exact .of_eq rfl
  cases hs
def e20 : He.DefD := ⟨("Sped", some "__init__"), "__init__", "Sped.__init__", defArgs s20, defBody s20, defScope s20, [], []⟩
theorem at20 {P : Program} {w : World} {K : PySem.W.Frag} {cls : Nat → Addr} {mg : Str → Option Value} {f : Addr} {fd : FuncData} (F : FnAt K e20 f fd)
    (a : topB d20.name = true → mg d20.name = some (.ref f)) : DefAt ⟨K, cls, 2, P, w⟩ mg Pd bs gs cs d20 f fd := by
  obtain ⟨oc, od, kV, doc, pm, an, cd, ct, sl, rfl, l, c, k⟩ := F
  refine ⟨a, k, ⟨"__init__", "Sped.__init__", defArgs s20, defBody s20, defScope s20, .none, kV, doc, pm, cd, ct, oc, an, od, sl, rfl, l, c, sc20, mt20, rk20⟩, fun sh hs s us ws h1 h2 => ?_⟩
  rcases List.mem_cons.mp hs with rfl | hs
  · match us, ws, h1, h2 with
    | [_], [_, _], _, _ => exact .of_eq rfl
  cases hs
def e21 : He.DefD := ⟨("Sped", some "begin"), "begin", "Sped.begin", defArgs s21, defBody s21, defScope s21, [], []⟩
theorem at21 {P : Program} {w : World} {K : PySem.W.Frag} {cls : Nat → Addr} {mg : Str → Option Value} {f : Addr} {fd : FuncData} (F : FnAt K e21 f fd)
    (a : topB d21.name = true → mg d21.name = some (.ref f)) : DefAt ⟨K, cls, 2, P, w⟩ mg Pd bs gs cs d21 f fd := by
  obtain ⟨oc, od, kV, doc, pm, an, cd, ct, sl, rfl, l, c, k⟩ := F
  refine ⟨a, k, ⟨"begin", "Sped.begin", defArgs s21, defBody s21, defScope s21, .none, kV, doc, pm, cd, ct, oc, an, od, sl, rfl, l, c, sc21, mt21, rk21⟩, fun sh hs s us ws h1 h2 => ?_⟩
  rcases List.mem_cons.mp hs with rfl | hs
  · match us, ws, h1, h2 with
    | [_, _], [], _, _ => exact .of_eq rfl
  cases hs
def e22 : He.DefD := ⟨("Sped", some "next"), "next", "Sped.next", defArgs s22, defBody s22, defScope s22, [], []⟩
theorem at22 {P : Program} {w : World} {K : PySem.W.Frag} {cls : Nat → Addr} {mg : Str → Option Value} {f : Addr} {fd : FuncData} (F : FnAt K e22 f fd)
    (a : topB d22.name = true → mg d22.name = some (.ref f)) : DefAt ⟨K, cls, 2, P, w⟩ mg Pd bs gs cs d22 f fd := by
  obtain ⟨oc, od, kV, doc, pm, an, cd, ct, sl, rfl, l, c, k⟩ := F
  refine ⟨a, k, ⟨"next", "Sped.next", defArgs s22, defBody s22, defScope s22, .none, kV, doc, pm, cd, ct, oc, an, od, sl, rfl, l, c, sc22, mt22, rk22⟩, fun sh hs s us ws h1 h2 => ?_⟩
  rcases List.mem_cons.mp hs with rfl | hs
  · match us, ws, h1, h2 with
    | [_, _, _, _], [], _, _ => exact .of_eq rfl
  cases hs
def e23 : He.DefD := ⟨("Sped", some "says"), "says", "Sped.says", defArgs s23, defBody s23, defScope s23, [], []⟩
theorem at23 {P : Program} {w : World} {K : PySem.W.Frag} {cls : Nat → Addr} {mg : Str → Option Value} {f : Addr} {fd : FuncData} (F : FnAt K e23 f fd)
    (a : topB d23.name = true → mg d23.name = some (.ref f)) : DefAt ⟨K, cls, 2, P, w⟩ mg Pd bs gs cs d23 f fd := by
  obtain ⟨oc, od, kV, doc, pm, an, cd, ct, sl, rfl, l, c, k⟩ := F
  refine ⟨a, k, ⟨"says", "Sped.says", defArgs s23, defBody s23, defScope s23, .none, kV, doc, pm, cd, ct, oc, an, od, sl, rfl, l, c, sc23, mt23, rk23⟩, fun sh hs s us ws h1 h2 => ?_⟩
  rcases List.mem_cons.mp hs with rfl | hs
  · match us, ws, h1, h2 with
    | [_, _], [], _, _ => exact .of_eq rfl
  cases hs
def e24 : He.DefD := ⟨("Sped", some "inner"), "inner", "Sped.inner", defArgs s24, defBody s24, defScope s24, [], []⟩
theorem at24 {P : Program} {w : World} {K : PySem.W.Frag} {cls : Nat → Addr} {mg : Str → Option Value} {f : Addr} {fd : FuncData} (F : FnAt K e24 f fd)
    (a : topB d24.name = true → mg d24.name = some (.ref f)) : DefAt ⟨K, cls, 2, P, w⟩ mg Pd bs gs cs d24 f fd := by
  obtain ⟨oc, od, kV, doc, pm, an, cd, ct, sl, rfl, l, c, k⟩ := F
  refine ⟨a, k, ⟨"inner", "Sped.inner", defArgs s24, defBody s24, defScope s24, .none, kV, doc, pm, cd, ct, oc, an, od, sl, rfl, l, c, sc24, mt24, rk24⟩, fun sh hs s us ws h1 h2 => ?_⟩
  rcases List.mem_cons.mp hs with rfl | hs
  · match us, ws, h1, h2 with
    | [_, _], [], _, _ => exact .of_eq rfl
  rcases List.mem_cons.mp hs with rfl | hs
  · match us, ws, h1, h2 with
    | [_], [_], _, _ => exact .of_eq rfl
  cases hs
def e25 : He.DefD := ⟨("Sped", some "_pack_heard"), "_pack_heard", "Sped._pack_heard", defArgs s25, defBody s25, defScope s25, [], []⟩
theorem at25 {P : Program} {w : World} {K : PySem.W.Frag} {cls : Nat → Addr} {mg : Str → Option Value} {f : Addr} {fd : FuncData} (F : FnAt K e25 f fd)
    (a : topB d25.name = true → mg d25.name = some (.ref f)) : DefAt ⟨K, cls, 2, P, w⟩ mg Pd bs gs cs d25 f fd := by
  obtain ⟨oc, od, kV, doc, pm, an, cd, ct, sl, rfl, l, c, k⟩ := F
  refine ⟨a, k, ⟨"_pack_heard", "Sped._pack_heard", defArgs s25, defBody s25, defScope s25, .none, kV, doc, pm, cd, ct, oc, an, od, sl, rfl, l, c, sc25, mt25, rk25⟩, fun sh hs s us ws h1 h2 => ?_⟩
  rcases List.mem_cons.mp hs with rfl | hs
  · match us, ws, h1, h2 with
    | [_, _, _], [], _, _ => exact .of_eq rfl
  cases hs
def e26 : He.DefD := ⟨("Sped", some "_reckon"), "_reckon", "Sped._reckon", defArgs s26, defBody s26, defScope s26, [], []⟩
theorem at26 {P : Program} {w : World} {K : PySem.W.Frag} {cls : Nat → Addr} {mg : Str → Option Value} {f : Addr} {fd : FuncData} (F : FnAt K e26 f fd)
    (a : topB d26.name = true → mg d26.name = some (.ref f)) : DefAt ⟨K, cls, 2, P, w⟩ mg Pd bs gs cs d26 f fd := by
  obtain ⟨oc, od, kV, doc, pm, an, cd, ct, sl, rfl, l, c, k⟩ := F
  refine ⟨a, k, ⟨"_reckon", "Sped._reckon", defArgs s26, defBody s26, defScope s26, .none, kV, doc, pm, cd, ct, oc, an, od, sl, rfl, l, c, sc26, mt26, rk26⟩, fun sh hs s us ws h1 h2 => ?_⟩
  rcases List.mem_cons.mp hs with rfl | hs
  · match us, ws, h1, h2 with
    | [_, _, _, _, _], [], _, _ => exact .of_eq rfl
  cases hs
def e27 : He.DefD := ⟨("Sped", some "_trail"), "_trail", "Sped._trail", defArgs s27, defBody s27, defScope s27, [], []⟩
theorem at27 {P : Program} {w : World} {K : PySem.W.Frag} {cls : Nat → Addr} {mg : Str → Option Value} {f : Addr} {fd : FuncData} (F : FnAt K e27 f fd)
    (a : topB d27.name = true → mg d27.name = some (.ref f)) : DefAt ⟨K, cls, 2, P, w⟩ mg Pd bs gs cs d27 f fd := by
  obtain ⟨oc, od, kV, doc, pm, an, cd, ct, sl, rfl, l, c, k⟩ := F
  refine ⟨a, k, ⟨"_trail", "Sped._trail", defArgs s27, defBody s27, defScope s27, .none, kV, doc, pm, cd, ct, oc, an, od, sl, rfl, l, c, sc27, mt27, rk27⟩, fun sh hs s us ws h1 h2 => ?_⟩
  rcases List.mem_cons.mp hs with rfl | hs
  · match us, ws, h1, h2 with
    | [_, _, _, _], [], _, _ => exact .of_eq rfl
  cases hs
def e28 : He.DefD := ⟨("Table", some "__init__"), "__init__", "Table.__init__", defArgs s28, defBody s28, defScope s28, [], []⟩
theorem at28 {P : Program} {w : World} {K : PySem.W.Frag} {cls : Nat → Addr} {mg : Str → Option Value} {f : Addr} {fd : FuncData} (F : FnAt K e28 f fd)
    (a : topB d28.name = true → mg d28.name = some (.ref f)) : DefAt ⟨K, cls, 2, P, w⟩ mg Pd bs gs cs d28 f fd := by
  obtain ⟨oc, od, kV, doc, pm, an, cd, ct, sl, rfl, l, c, k⟩ := F
  refine ⟨a, k, ⟨"__init__", "Table.__init__", defArgs s28, defBody s28, defScope s28, .none, kV, doc, pm, cd, ct, oc, an, od, sl, rfl, l, c, sc28, mt28, rk28⟩, fun sh hs s us ws h1 h2 => ?_⟩
  rcases List.mem_cons.mp hs with rfl | hs
  · match us, ws, h1, h2 with
    | [_, _, _, _, _, _], [], _, _ => exact .of_eq rfl
  cases hs
def e29 : He.DefD := ⟨("Table", some "begin"), "begin", "Table.begin", defArgs s29, defBody s29, defScope s29, [], []⟩
theorem at29 {P : Program} {w : World} {K : PySem.W.Frag} {cls : Nat → Addr} {mg : Str → Option Value} {f : Addr} {fd : FuncData} (F : FnAt K e29 f fd)
    (a : topB d29.name = true → mg d29.name = some (.ref f)) : DefAt ⟨K, cls, 2, P, w⟩ mg Pd bs gs cs d29 f fd := by
  obtain ⟨oc, od, kV, doc, pm, an, cd, ct, sl, rfl, l, c, k⟩ := F
  refine ⟨a, k, ⟨"begin", "Table.begin", defArgs s29, defBody s29, defScope s29, .none, kV, doc, pm, cd, ct, oc, an, od, sl, rfl, l, c, sc29, mt29, rk29⟩, fun sh hs s us ws h1 h2 => ?_⟩
  rcases List.mem_cons.mp hs with rfl | hs
  · match us, ws, h1, h2 with
    | [_, _], [], _, _ => exact .of_eq rfl
  cases hs
def e30 : He.DefD := ⟨("Table", some "next"), "next", "Table.next", defArgs s30, defBody s30, defScope s30, [], []⟩
theorem at30 {P : Program} {w : World} {K : PySem.W.Frag} {cls : Nat → Addr} {mg : Str → Option Value} {f : Addr} {fd : FuncData} (F : FnAt K e30 f fd)
    (a : topB d30.name = true → mg d30.name = some (.ref f)) : DefAt ⟨K, cls, 2, P, w⟩ mg Pd bs gs cs d30 f fd := by
  obtain ⟨oc, od, kV, doc, pm, an, cd, ct, sl, rfl, l, c, k⟩ := F
  refine ⟨a, k, ⟨"next", "Table.next", defArgs s30, defBody s30, defScope s30, .none, kV, doc, pm, cd, ct, oc, an, od, sl, rfl, l, c, sc30, mt30, rk30⟩, fun sh hs s us ws h1 h2 => ?_⟩
  rcases List.mem_cons.mp hs with rfl | hs
  · match us, ws, h1, h2 with
    | [_, _, _, _], [], _, _ => exact .of_eq rfl
  cases hs
def e31 : He.DefD := ⟨("Table", some "says"), "says", "Table.says", defArgs s31, defBody s31, defScope s31, [], []⟩
theorem at31 {P : Program} {w : World} {K : PySem.W.Frag} {cls : Nat → Addr} {mg : Str → Option Value} {f : Addr} {fd : FuncData} (F : FnAt K e31 f fd)
    (a : topB d31.name = true → mg d31.name = some (.ref f)) : DefAt ⟨K, cls, 2, P, w⟩ mg Pd bs gs cs d31 f fd := by
  obtain ⟨oc, od, kV, doc, pm, an, cd, ct, sl, rfl, l, c, k⟩ := F
  refine ⟨a, k, ⟨"says", "Table.says", defArgs s31, defBody s31, defScope s31, .none, kV, doc, pm, cd, ct, oc, an, od, sl, rfl, l, c, sc31, mt31, rk31⟩, fun sh hs s us ws h1 h2 => ?_⟩
  rcases List.mem_cons.mp hs with rfl | hs
  · match us, ws, h1, h2 with
    | [_, _], [], _, _ => exact .of_eq rfl
  cases hs
def fn : List He.DefD := [e0, e1, e2, e3, e4, e5, e6, e7, e8, e9, e10, e11, e12, e13, e14, e15, e16, e17, e18, e19, e20, e21, e22, e23, e24, e25, e26, e27, e28, e29, e30, e31]
def tops0 : List Str := ["is_integer", "is_within", "demand_number", "demand_row", "lay", "pairs_told", "is_lot", "key_rank", "steps_told", "is_key", "_law_press", "_law_turn", "_law_of", "_law_table", "_law_next"]
def tops1 : List Str := ["_law_strip", "_law_run", "_law_word", "_law_right", "law"]
def tops : List Str := tops0 ++ tops1
def xs0 : List Str := ["is_integer", "is_within", "demand_number", "demand_row", "lay", "pairs_told", "is_lot", "key_rank", "steps_told", "is_key", "_law_press", "_law_turn", "_law_of", "_law_table", "_law_next"]
def xs1 : List Str := ["_law_strip", "_law_run", "_law_word", "_law_right", "law", "Table", "Sped", "Row"]
def xs : List Str := xs0 ++ xs1
def ms0 : List Str := ["__init__", "begin", "next", "says", "inner", "_pack_heard", "_reckon", "_trail"]
def ms : List Str := ms0
def ex : PySem.W.Frag → Bool := tabB bs gs cs tops
theorem lkd : linkB Pd fn cs tops = true := by decide +kernel
theorem tab {P : Program} {w : World} {K : PySem.W.Frag} {h : Heap} {mg : Str → Option Value} (X : K.In h) (G : h.Ns mainGlobals mg) (S : SaysN fn ex K) : Tab ⟨K, clsAt K cs, 2, P, w⟩ mg Pd bs gs cs := by
  refine tab_of (nc := 2) rfl X G S lkd fun k d e h1 h2 f fd F a => ?_
  match k, h1, h2 with
  | 0, h1, h2 => cases h1; cases h2; exact at0 F a
  | 1, h1, h2 => cases h1; cases h2; exact at1 F a
  | 2, h1, h2 => cases h1; cases h2; exact at2 F a
  | 3, h1, h2 => cases h1; cases h2; exact at3 F a
  | 4, h1, h2 => cases h1; cases h2; exact at4 F a
  | 5, h1, h2 => cases h1; cases h2; exact at5 F a
  | 6, h1, h2 => cases h1; cases h2; exact at6 F a
  | 7, h1, h2 => cases h1; cases h2; exact at7 F a
  | 8, h1, h2 => cases h1; cases h2; exact at8 F a
  | 9, h1, h2 => cases h1; cases h2; exact at9 F a
  | 10, h1, h2 => cases h1; cases h2; exact at10 F a
  | 11, h1, h2 => cases h1; cases h2; exact at11 F a
  | 12, h1, h2 => cases h1; cases h2; exact at12 F a
  | 13, h1, h2 => cases h1; cases h2; exact at13 F a
  | 14, h1, h2 => cases h1; cases h2; exact at14 F a
  | 15, h1, h2 => cases h1; cases h2; exact at15 F a
  | 16, h1, h2 => cases h1; cases h2; exact at16 F a
  | 17, h1, h2 => cases h1; cases h2; exact at17 F a
  | 18, h1, h2 => cases h1; cases h2; exact at18 F a
  | 19, h1, h2 => cases h1; cases h2; exact at19 F a
  | 20, h1, h2 => cases h1; cases h2; exact at20 F a
  | 21, h1, h2 => cases h1; cases h2; exact at21 F a
  | 22, h1, h2 => cases h1; cases h2; exact at22 F a
  | 23, h1, h2 => cases h1; cases h2; exact at23 F a
  | 24, h1, h2 => cases h1; cases h2; exact at24 F a
  | 25, h1, h2 => cases h1; cases h2; exact at25 F a
  | 26, h1, h2 => cases h1; cases h2; exact at26 F a
  | 27, h1, h2 => cases h1; cases h2; exact at27 F a
  | 28, h1, h2 => cases h1; cases h2; exact at28 F a
  | 29, h1, h2 => cases h1; cases h2; exact at29 F a
  | 30, h1, h2 => cases h1; cases h2; exact at30 F a
  | 31, h1, h2 => cases h1; cases h2; exact at31 F a
  | n + 32, h1, h2 => cases h1
abbrev R : PySem.W.OpenRow := PySem.W.OpenLaw.row PySem.Challenge.rw_backwardrow_k50_whole_sped_rows_stand_fo
abbrev qv : Program := PySem.W.view R.prog [59]
def names0 : List PySem.Str := ["__name__", "is_integer", "is_within", "RowError", "BadNumber", "BadRow", "BadTable", "Misfit", "BadText", "Row", "demand_number", "demand_row", "LEAST_BY", "MOST_BY", "Sped"]
def names1 : List PySem.Str := ["lay", "pairs_told", "is_lot", "key_rank", "DIGITS", "MOST_DIGITS", "text_lines", "line_items", "integer_told", "want_word", "want_number", "want_end", "want_lot", "want_yes", "want_behind"]
def names2 : List PySem.Str := ["table_lines", "rule_line", "table_told", "told_by_lines", "first_told", "key_told", "key_part_told", "worth_told", "Table", "steps_told", "is_key", "_law_press", "_law_turn", "_law_of", "_law_table"]
def names3 : List PySem.Str := ["_law_next", "_law_strip", "_law_run", "_law_word", "_law_right"]
def names : List PySem.Str := names0 ++ names1 ++ names2 ++ names3
end K50
set_option maxHeartbeats 0 in
theorem K50.run (w : PySem.World) : HandSHeadRun.RunEq K50.R K50.qv (Ev.hookN K50.xs K50.ms K50.fn K50.ex) (Ev.obN K50.xs K50.ms K50.fn K50.ex) 20000 K50.names w := by
  intro os
  kernel_rfl
/-! Ev18: reckoning with evF. -/
namespace Ev
open PySem L2
theorem evF_at {P : List Df} {f : Nat} {d : Df} (k : Nat) (ds : List D) (M : Mem) (h : P[f]? = some d) (hl : ds.length = d.ps.length) :
    evF P (k + 1) f ds M = tidy M.length (bodyRes (evSs (evF P k) d.body (ds.map some ++ List.replicate (d.N.length - ds.length) none) M)) := by
  rw [evF, h]
  simp only
  rw [if_pos hl]
@[simp] theorem tidy_ok {n : Nat} {d : D} {M : Mem} (h : M.length ≤ n) : tidy n (.ok d M) = .ok d M := if_pos h
@[simp] theorem tidy_self {d : D} {M : Mem} : tidy M.length (.ok d M) = .ok d M := if_pos (Nat.le_refl _)
@[simp] theorem tidy_set {d : D} {M : Mem} {i : Nat} {o : Option MO} : tidy M.length (.ok d (M.set i o)) = .ok d (M.set i o) := if_pos (by simp)
@[simp] theorem tidy_no {n : Nat} : tidy n .no = .no := rfl
@[simp] theorem bodyRes_rt {d : D} {M : Mem} : bodyRes (.rt d M) = .ok d M := by simp only [bodyRes]
@[simp] theorem bodyRes_nx {σ : Env'} {M : Mem} : bodyRes (.nx σ M) = .ok .non M := by simp only [bodyRes]
@[simp] theorem sure_ok' {α : Type} (a : α) (M : Mem) : (Res.ok a M).sure = .ok a M := by simp only [Res.sure]
theorem lcGo_filterMap {f : D → Mem → Res (Option D)} {g : D → Option D} {M : Mem} : ∀ {xs acc : List D}, (∀ x ∈ xs, f x M = .ok (g x) M) → acc.length + xs.length ≤ sizeLine → lcGo f xs acc M = .ok (acc ++ xs.filterMap g) M
  | [], acc, _, _ => by simp [lcGo]
  | x :: xs, acc, h, hl => by
    have hx := h x (List.mem_cons_self ..)
    simp only [List.length_cons] at hl
    rw [lcGo, hx]
    cases e : g x with
    | none =>
      simp only [List.filterMap_cons, e]
      exact lcGo_filterMap (fun y hy => h y (List.mem_cons_of_mem _ hy)) (by omega)
    | some d =>
      simp only [List.filterMap_cons, e]
      rw [if_pos (by omega), lcGo_filterMap (fun y hy => h y (List.mem_cons_of_mem _ hy)) (by simp only [List.length_append, List.length_singleton]; omega)]
      simp
/-- a comprehension's turn -/
def lcF (Φ : Nat → List D → Mem → Res D) (e : Ex) (t : Tg) (c : Option Ex) (vs : List Nat) (σ : Env') (x : D) (M : Mem) : Res (Option D) :=
  (evT Φ t x (wipeD σ vs) M).bind fun σ3 M3 => (evC Φ c σ3 M3).bind fun b M4 => if b = true then (evE Φ e σ3 M4).bind fun d M5 => .ok (some d) M5 else .ok none M4
theorem evE_lc {Φ : Nat → List D → Mem → Res D} {e : Ex} {t : Tg} {it : It} {c : Option Ex} {vs : List Nat} {σ : Env'} {M M1 : Mem} {ds : List D} {g : D → Option D} (hi : evI Φ it σ M = .ok ds M1) (h : ∀ x ∈ ds, lcF Φ e t c vs σ x M1 = .ok (g x) M1) (hl : ds.length ≤ sizeLine) :
    evE Φ (.lc e t it c vs) σ M = .ok (.lst (ds.filterMap g)) M1 := by
  have q := lcGo_filterMap (acc := []) h (by simpa using hl)
  simp only [evE, hi, Res.bind_ok]
  show (lcGo (lcF Φ e t c vs σ) ds [] M1).bind _ = _
  rw [q]
  simp
theorem evE_lcm {Φ : Nat → List D → Mem → Res D} {e : Ex} {t : Tg} {it : It} {c : Option Ex} {vs : List Nat} {σ : Env'} {M M1 : Mem} {ds : List D} {g : D → D} (hi : evI Φ it σ M = .ok ds M1) (h : ∀ x ∈ ds, lcF Φ e t c vs σ x M1 = .ok (some (g x)) M1) (hl : ds.length ≤ sizeLine) :
    evE Φ (.lc e t it c vs) σ M = .ok (.lst (ds.map g)) M1 := by
  rw [evE_lc (g := fun x => some (g x)) hi h hl]
  simp
section
variable {M : Mem} {i j : Int} {s t : Str} {xs ys : List D} {d : D}
@[simp] theorem truth_bl {b : Bool} : truth M (.bl b) = some b := rfl
@[simp] theorem truth_int : truth M (.int i) = some (i != 0) := rfl
@[simp] theorem truth_non : truth M .non = some false := rfl
@[simp] theorem truth_tup : truth M (.tup xs) = some (!xs.isEmpty) := rfl
@[simp] theorem truth_lst : truth M (.lst xs) = some (!xs.isEmpty) := rfl
@[simp] theorem truth_scr : truth M (.scr xs) = some (!xs.isEmpty) := rfl
@[simp] theorem cmp_lt : cmpD .lt M (.int i) (.int j) = some (decide (i < j)) := rfl
@[simp] theorem cmp_le : cmpD .le M (.int i) (.int j) = some (decide (i ≤ j)) := rfl
@[simp] theorem cmp_gt : cmpD .gt M (.int i) (.int j) = some (decide (j < i)) := rfl
@[simp] theorem cmp_ge : cmpD .ge M (.int i) (.int j) = some (decide (j ≤ i)) := rfl
@[simp] theorem cmp_eq {x y : D} : cmpD .eq M x y = eqM M x y := rfl
@[simp] theorem cmp_ne {x y : D} : cmpD .ne M x y = (eqM M x y).map (!·) := rfl
@[simp] theorem cmp_is {x y : D} : cmpD .is M x y = isD x y := rfl
@[simp] theorem cmp_isn {x y : D} : cmpD .isn M x y = (isD x y).map (!·) := rfl
@[simp] theorem cmp_inn {x y : D} : cmpD .inn M x y = inD M x y := rfl
@[simp] theorem cmp_nin {x y : D} : cmpD .nin M x y = (inD M x y).map (!·) := rfl
@[simp] theorem eqM_int : eqM M (.int i) (.int j) = some (decide (i = j)) := rfl
@[simp] theorem eqM_str : eqM M (.str s) (.str t) = some (decide (s = t)) := rfl
@[simp] theorem is_nn : isD .non .non = some true := rfl
@[simp] theorem is_in : isD (.int i) .non = some false := rfl
@[simp] theorem is_sn : isD (.str s) .non = some false := rfl
@[simp] theorem is_tn : isD (.tup xs) .non = some false := rfl
@[simp] theorem is_ln : isD (.lst xs) .non = some false := rfl
@[simp] theorem is_cn {n : Nat} : isD (.cell n) .non = some false := rfl
@[simp] theorem is_bn {b : Bool} : isD (.bl b) .non = some false := rfl
@[simp] theorem is_bb {a b : Bool} : isD (.bl a) (.bl b) = some (a == b) := rfl
@[simp] theorem bin_add : evBin .add (.int i) (.int j) M = some (.int (i + j)) := rfl
@[simp] theorem bin_sub : evBin .sub (.int i) (.int j) M = some (.int (i - j)) := rfl
theorem bin_mul (h : mulOk i j = true) : evBin .mul (.int i) (.int j) M = some (.int (i * j)) := by simp [evBin, binI, h]
theorem bin_mulL (h : -(2 ^ 64) < i ∧ i < 2 ^ 64) : evBin .mul (.int i) (.int j) M = some (.int (i * j)) := bin_mul (decide_eq_true (.inl h))
theorem bin_mulR (h : -(2 ^ 64) < j ∧ j < 2 ^ 64) : evBin .mul (.int i) (.int j) M = some (.int (i * j)) := bin_mul (decide_eq_true (.inr (.inl h)))
theorem bin_fdiv (h : 0 < j) (hl : j.natAbs.log2 < 9000) : evBin .fdiv (.int i) (.int j) M = some (.int (i / j)) := by simp [evBin, binI, h, hl]
theorem bin_mod (h : 0 < j) : evBin .mod (.int i) (.int j) M = some (.int (i % j)) := by simp [evBin, binI, h]
theorem bin_pow (h : 0 ≤ j ∧ j ≤ 1000000 ∧ i.natAbs < 2 ^ 64) : evBin .pow (.int i) (.int j) M = some (.int (i ^ j.toNat)) := by simp [evBin, binI, h]
@[simp] theorem bi_int : evBi .int [.int i] M = some (.int i) := rfl
@[simp] theorem bi_intb {b : Bool} : evBi .int [.bl b] M = some (.int (if b then 1 else 0)) := rfl
@[simp] theorem bi_abs : evBi .abs [.int i] M = some (.int (if i < 0 then -i else i)) := rfl
@[simp] theorem bi_len {d : D} : evBi .len [d] M = match seqA M d with
    | some xs => some (.int xs.length)
    | none => match d with
      | .str s => if s.length ≤ sizeLine then some (.int s.length) else none
      | _ => none := rfl
@[simp] theorem seqA_tup : seqA M (.tup xs) = some xs := rfl
@[simp] theorem seqA_lst : seqA M (.lst xs) = some xs := rfl
@[simp] theorem seqA_scr : seqA M (.scr xs) = some xs := rfl
theorem seqA_cell {n : Nat} (h : M[n]? = some (some (.lst xs))) : seqA M (.cell n) = some xs := by simp [seqA, seqL, h]
@[simp] theorem ix_tup : ixD M (.tup xs) (.int i) = atI xs i := rfl
@[simp] theorem ix_lst : ixD M (.lst xs) (.int i) = atI xs i := rfl
@[simp] theorem ix_scr : ixD M (.scr xs) (.int i) = atI xs i := rfl
theorem ix_cell {n : Nat} (h : M[n]? = some (some (.lst xs))) : ixD M (.cell n) (.int i) = atI xs i := by simp [ixD, seqA_cell h]
theorem evT_sub {Φ : Nat → List D → Mem → Res D} {a b : Ex} {σ : Env'} {n : Nat} {k : Int} {m : Nat} (ha : evE Φ a σ M = .ok (.cell n) M) (hb : evE Φ b σ M = .ok (.int k) M) (h : M[n]? = some (some (.lst xs))) (hk : ixN xs.length k = some m) :
    evT Φ (.sub a b) d σ M = .ok σ (M.set n (some (.lst (xs.set m d)))) := by
  simp [evT, ha, hb, h, hk]
end
theorem evE_meth {Φ : Nat → List D → Mem → Res D} {m : Mt} {o : Ex} {es : List Ex} {σ : Env'} {M M1 M2 M3 : Mem} {x r : D} {ds : List D} (ho : evE Φ o σ M = .ok x M1) (hf : mtFit m x M1 = true) (he : evL Φ es σ M1 = .ok ds M2) (hm : evMt m x ds M2 = some (r, M3)) :
    evE Φ (.meth m o es) σ M = .ok r M3 := by
  rw [evE, ho]
  simp [hf, he, hm]
theorem evL_one {Φ : Nat → List D → Mem → Res D} {e : Ex} {σ : Env'} {M M1 : Mem} {x : D} (h : evE Φ e σ M = .ok x M1) : evL Φ [e] σ M = .ok [x] M1 := by simp [evL, h]
theorem evMt_extend {M : Mem} {i : Nat} {xs ys : List D} (h : M[i]? = some (some (.lst xs))) (hs : xs.length + ys.length ≤ sizeLine) : evMt .extend (.cell i) [.lst ys] M = some (.non, M.set i (some (.lst (xs ++ ys)))) := by
  simp [evMt, h, hs]
theorem evMt_append {M : Mem} {i : Nat} {xs : List D} {y : D} (h : M[i]? = some (some (.lst xs))) (hs : xs.length < sizeLine) : evMt .append (.cell i) [y] M = some (.non, M.set i (some (.lst (xs ++ [y])))) := by
  simp [evMt, h, hs]
theorem evE_cmp {Φ : Nat → List D → Mem → Res D} {o : CO} {a b : Ex} {σ : Env'} {M M1 M2 : Mem} {x y : D} {r : Bool} (ha : evE Φ a σ M = .ok x M1) (hb : evE Φ b σ M1 = .ok y M2) (hc : cmpD o M2 x y = some r) : evE Φ (.cmp o a b) σ M = .ok (.bl r) M2 := by
  rw [evE, ha]
  simp [hb, hc]
theorem evSs_ret {Φ : Nat → List D → Mem → Res D} {e : Ex} {σ : Env'} {M M1 : Mem} {x : D} (h : evE Φ e σ M = .ok x M1) : evSs Φ [.ret e] σ M = .rt x M1 := by simp [evSs, evS, h]
theorem evSs_cons {Φ : Nat → List D → Mem → Res D} {s : Sx} {ss : List Sx} {σ σ1 : Env'} {M M1 : Mem} (h : evS Φ s σ M = .nx σ1 M1) : evSs Φ (s :: ss) σ M = evSs Φ ss σ1 M1 := by simp [evSs, h]
theorem evS_for {Φ : Nat → List D → Mem → Res D} {t : Tg} {it : It} {b : List Sx} {σ : Env'} {M M1 : Mem} {ds : List D} (h : evI Φ it σ M = .ok ds M1) : evS Φ (.fors t it b) σ M = forGo (fun x σ1 M2 => RS.of (evT Φ t x σ1 M2) σ1 fun σ2 M3 => evSs Φ b σ2 M3) ds σ M1 := by simp [evS, h]
theorem evI_rng1 {Φ : Nat → List D → Mem → Res D} {a : Ex} {σ : Env'} {M M1 : Mem} {n : Int} {ds : List D} (ha : evE Φ a σ M = .ok (.int n) M1) (hr : rngD 0 n = some ds) : evI Φ (.rng1 a) σ M = .ok ds M1 := by
  rw [evI, ha, Res.bind_ok]
  show Res.of (rngD 0 n) M1 = _
  rw [hr]
  rfl
theorem evI_rng2 {Φ : Nat → List D → Mem → Res D} {a b : Ex} {σ : Env'} {M M1 M2 : Mem} {m n : Int} {ds : List D} (ha : evE Φ a σ M = .ok (.int m) M1) (hb : evE Φ b σ M1 = .ok (.int n) M2) (hr : rngD m n = some ds) : evI Φ (.rng2 a b) σ M = .ok ds M2 := by
  rw [evI, ha, Res.bind_ok, hb, Res.bind_ok]
  show Res.of (rngD m n) M2 = _
  rw [hr]
  rfl
theorem evI_rng3 {Φ : Nat → List D → Mem → Res D} {a b c : Ex} {σ : Env'} {M M1 M2 M3 : Mem} {m n : Int} {ds : List D} (ha : evE Φ a σ M = .ok (.int m) M1) (hb : evE Φ b σ M1 = .ok (.int n) M2) (hc : evE Φ c σ M2 = .ok (.int (-1)) M3) (hr : dwnD m n = some ds) : evI Φ (.rng3 a b c) σ M = .ok ds M3 := by
  rw [evI, ha, Res.bind_ok, hb, Res.bind_ok, hc, Res.bind_ok]
  show Res.of (dwnD m n) M3 = _
  rw [hr]
  rfl
theorem then_assoc (r : RS) (f g : Env' → Mem → RS) : (r.then f).then g = r.then fun σ M => (f σ M).then g := by cases r <;> rfl
theorem evSs_append (Φ : Nat → List D → Mem → Res D) : ∀ (xs ys : List Sx) (σ : Env') (M : Mem), evSs Φ (xs ++ ys) σ M = (evSs Φ xs σ M).then fun σ1 M1 => evSs Φ ys σ1 M1
  | [], ys, σ, M => by simp [evSs]
  | x :: xs, ys, σ, M => by
    simp only [List.cons_append, evSs, then_assoc]
    congr 1
    funext σ1 M1
    exact evSs_append Φ xs ys σ1 M1
/-- the first statements, then the others -/
theorem evSs_split {Φ : Nat → List D → Mem → Res D} {xs ys : List Sx} {σ σ1 : Env'} {M M1 : Mem} (h : evSs Φ xs σ M = .nx σ1 M1) : evSs Φ (xs ++ ys) σ M = evSs Φ ys σ1 M1 := by rw [evSs_append, h]; rfl
end Ev
/-! Ev20: reckoning node by node: comprehensions and loops stay closed. -/
namespace Ev
open PySem L2
section
variable {Φ : Nat → List D → Mem → Res D} {σ : Env'} {M : Mem}
@[simp] theorem q_var {i : Nat} : evE Φ (.var i) σ M = match σ[i]? with | some (some d) => .ok d M | _ => .no := by rw [evE]; try rfl
@[simp] theorem q_non : evE Φ .non σ M = .ok .non M := by rw [evE]
@[simp] theorem q_bl {b : Bool} : evE Φ (.bl b) σ M = .ok (.bl b) M := by rw [evE]
@[simp] theorem q_int {i : Int} : evE Φ (.int i) σ M = .ok (.int i) M := by rw [evE]
@[simp] theorem q_str {s : Str} : evE Φ (.str s) σ M = .ok (.str s) M := by rw [evE]
@[simp] theorem q_bin {o : BO} {a b : Ex} : evE Φ (.bin o a b) σ M = (evE Φ a σ M).bind fun x M1 => (evE Φ b σ M1).bind fun y M2 => Res.of (evBin o x y M2) M2 := by rw [evE]
@[simp] theorem q_cmp {o : CO} {a b : Ex} : evE Φ (.cmp o a b) σ M = (evE Φ a σ M).bind fun x M1 => (evE Φ b σ M1).bind fun y M2 => Res.of ((cmpD o M2 x y).map .bl) M2 := by rw [evE]
@[simp] theorem q_chn {o p : CO} {a b c : Ex} : evE Φ (.chn o p a b c) σ M = (evE Φ a σ M).bind fun x M1 => (evE Φ b σ M1).bind fun y M2 => match cmpD o M2 x y with
    | some true => (evE Φ c σ M2).bind fun z M3 => Res.of ((cmpD p M3 y z).map .bl) M3
    | some false => .ok (.bl false) M2
    | none => .no := by rw [evE]; try rfl
@[simp] theorem q_and {a b : Ex} : evE Φ (.and a b) σ M = (evE Φ a σ M).bind fun x M1 => match truth M1 x with
    | some true => evE Φ b σ M1
    | some false => .ok x M1
    | none => .no := by rw [evE]; try rfl
@[simp] theorem q_or {a b : Ex} : evE Φ (.or a b) σ M = (evE Φ a σ M).bind fun x M1 => match truth M1 x with
    | some true => .ok x M1
    | some false => evE Φ b σ M1
    | none => .no := by rw [evE]; try rfl
@[simp] theorem q_not {a : Ex} : evE Φ (.not a) σ M = (evE Φ a σ M).bind fun x M1 => Res.of ((truth M1 x).map fun b => .bl (!b)) M1 := by rw [evE]
@[simp] theorem q_neg {a : Ex} : evE Φ (.neg a) σ M = (evE Φ a σ M).bind fun x M1 => match x with | .int i => .ok (.int (-i)) M1 | _ => .no := by rw [evE]; try rfl
@[simp] theorem q_ite {c a b : Ex} : evE Φ (.ite c a b) σ M = (evE Φ c σ M).bind fun x M1 => match truth M1 x with
    | some true => evE Φ a σ M1
    | some false => evE Φ b σ M1
    | none => .no := by rw [evE]; try rfl
@[simp] theorem q_tup {es : List Ex} : evE Φ (.tup es) σ M = (evL Φ es σ M).bind fun ds M1 => if ds.length ≤ sizeLine then .ok (.tup ds) M1 else .no := by rw [evE]
@[simp] theorem q_stup {a : Ex} {es : List Ex} : evE Φ (.stup a es) σ M = (evE Φ a σ M).bind fun d M1 => match seqA M1 d with
    | some xs => (evL Φ es σ M1).bind fun ds M2 => if xs.length + ds.length ≤ sizeLine then .ok (.tup (xs ++ ds)) M2 else .no
    | none => .no := by rw [evE]; try rfl
@[simp] theorem q_lst {es : List Ex} : evE Φ (.lst es) σ M = (evL Φ es σ M).bind fun ds M1 => if ds.length ≤ sizeLine then .ok (.lst ds) M1 else .no := by rw [evE]
@[simp] theorem q_mls {es : List Ex} : evE Φ (.mls es) σ M = (evL Φ es σ M).bind fun ds M1 => if ds.length ≤ sizeLine then .ok (.cell M1.length) (M1 ++ [some (.lst ds)]) else .no := by rw [evE]
@[simp] theorem q_ix {a b : Ex} : evE Φ (.ix a b) σ M = (evE Φ a σ M).bind fun x M1 => (evE Φ b σ M1).bind fun y M2 => Res.of (ixD M2 x y) M2 := by rw [evE]
@[simp] theorem q_slc {a : Ex} {lo hi : Option Ex} : evE Φ (.slc a lo hi) σ M = (evE Φ a σ M).bind fun x M1 => (evO Φ lo σ M1).bind fun l M2 => (evO Φ hi σ M2).bind fun h M3 => Res.of (slcD M3 x l h) M3 := by rw [evE]
@[simp] theorem q_rev {a : Ex} : evE Φ (.rev a) σ M = (evE Φ a σ M).bind fun x M1 => Res.of (revD M1 x) M1 := by rw [evE]
@[simp] theorem q_call {f : Nat} {es : List Ex} {ks : List (Str × Ex)} {pm : List Nat} : evE Φ (.call f es ks pm) σ M = (evL Φ es σ M).bind fun ds M1 => (evK Φ ks σ M1).bind fun us M2 => Φ f (pm.map fun i => ((ds ++ us)[i]?).getD .non) M2 := by rw [evE]
@[simp] theorem q_bi {b : Bi} {es : List Ex} : evE Φ (.bi b es) σ M = (evL Φ es σ M).bind fun ds M1 => Res.of (evBi b ds M1) M1 := by rw [evE]
@[simp] theorem q_mbl {e : Ex} : evE Φ (.mbl e) σ M = (evE Φ e σ M).bind fun d M1 => match seqA M1 d with
    | some xs => .ok (.cell M1.length) (M1 ++ [some (.lst xs)])
    | none => .no := by rw [evE]; try rfl
@[simp] theorem q_isi {e : Ex} {ts : List String} : evE Φ (.isi e ts) σ M = (evE Φ e σ M).bind fun x M1 => Res.of ((isiD ts x).map .bl) M1 := by rw [evE]
@[simp] theorem q_meth {m : Mt} {o : Ex} {es : List Ex} : evE Φ (.meth m o es) σ M = (evE Φ o σ M).bind fun x M1 => if mtFit m x M1 then (evL Φ es σ M1).bind fun ds M2 => Res.ofM (evMt m x ds M2) else .no := by rw [evE]
@[simp] theorem q_mdn0 : evE Φ .mdn0 σ M = .ok (.cell M.length) (M ++ [some (.dcn [])]) := by rw [evE]
@[simp] theorem q_dnix {o e : Ex} : evE Φ (.dnix o e) σ M = (evE Φ o σ M).bind fun x M1 => (evE Φ e σ M1).bind fun y M2 => match dcnOf M2 x, keyT y with
    | some kvs, some k => Res.of (valN kvs k) M2
    | _, _ => .no := by rw [evE]; try rfl
@[simp] theorem q_dng1 {o e : Ex} : evE Φ (.dng1 o e) σ M = (evE Φ o σ M).bind fun x M1 => match dcnOf M1 x with
    | some _ => (evE Φ e σ M1).bind fun y M2 => match dcnOf M2 x, keyT y with
      | some kvs, some k => .ok ((valN kvs k).getD .non) M2
      | _, _ => .no
    | none => .no := by rw [evE]; try rfl
@[simp] theorem q_dng2 {o e f : Ex} : evE Φ (.dng2 o e f) σ M = (evE Φ o σ M).bind fun x M1 => match dcnOf M1 x with
    | some _ => (evE Φ e σ M1).bind fun y M2 => (evE Φ f σ M2).bind fun z M3 => match dcnOf M3 x, keyT y with
      | some kvs, some k => .ok ((valN kvs k).getD z) M3
      | _, _ => .no
    | none => .no := by rw [evE]; try rfl
@[simp] theorem q_dnl {o : Ex} : evE Φ (.dnl o) σ M = (evE Φ o σ M).bind fun x M1 => match dcnOf M1 x with
    | some kvs => .ok (.lst (kvs.map fun kv => kD kv.1)) M1
    | none => .no := by rw [evE]; try rfl
@[simp] theorem q_dni {o : Ex} : evE Φ (.dni o) σ M = (evE Φ o σ M).bind fun x M1 => match dcnOf M1 x with
    | some kvs => .ok (.lst (kvs.map fun kv => .tup [kD kv.1, kv.2])) M1
    | none => .no := by rw [evE]; try rfl
@[simp] theorem q_dnn {o : Ex} : evE Φ (.dnn o) σ M = (evE Φ o σ M).bind fun x M1 => match dcnOf M1 x with
    | some kvs => .ok (.int kvs.length) M1
    | none => .no := by rw [evE]; try rfl
@[simp] theorem q_lset {e : Ex} : evE Φ (.lset e) σ M = (evE Φ e σ M).bind fun x M1 => match (seqL M1 x).bind intsD with
    | some ns => if ns.length < 64 ∧ ns.Nodup then .ok (.int ns.length) M1 else .no
    | none => .no := by rw [evE]; try rfl
@[simp] theorem q_srt {f : Nat} {e : Ex} : evE Φ (.srt f e) σ M = (evE Φ e σ M).bind fun x M1 => match seqL M1 x with
    | some xs => Res.of ((srtD (lenT (xs.headD .non)) xs).map .lst) M1
    | none => .no := by rw [evE]; try rfl
@[simp] theorem q_nil : evL Φ [] σ M = .ok [] M := by rw [evL]
@[simp] theorem q_cons {e : Ex} {es : List Ex} : evL Φ (e :: es) σ M = (evE Φ e σ M).bind fun d M1 => (evL Φ es σ M1).bind fun ds M2 => .ok (d :: ds) M2 := by rw [evL]
@[simp] theorem q_knil : evK Φ [] σ M = .ok [] M := by rw [evK]
@[simp] theorem q_kcons {n : Str} {e : Ex} {es : List (Str × Ex)} : evK Φ ((n, e) :: es) σ M = (evE Φ e σ M).bind fun d M1 => (evK Φ es σ M1).bind fun ds M2 => .ok (d :: ds) M2 := by rw [evK]
@[simp] theorem q_onone : evO Φ none σ M = .ok none M := by rw [evO]
@[simp] theorem q_osome {e : Ex} : evO Φ (some e) σ M = (evE Φ e σ M).bind fun d M1 => match d with | .int i => .ok (some i) M1 | _ => .no := by rw [evO]; try rfl
@[simp] theorem q_cnone : evC Φ none σ M = .ok true M := by rw [evC]
@[simp] theorem q_csome {e : Ex} : evC Φ (some e) σ M = (evE Φ e σ M).bind fun d M1 => Res.of (truth M1 d) M1 := by rw [evC]
@[simp] theorem q_seq {e : Ex} : evI Φ (.seq e) σ M = (evE Φ e σ M).bind fun d M1 => match d with | .lst xs => .ok xs M1 | .scr xs => .ok xs M1 | .tup xs => .ok xs M1 | _ => .no := by rw [evI]; try rfl
@[simp] theorem q_enu {e : Ex} : evI Φ (.enu e) σ M = (evE Φ e σ M).bind fun d M1 => match d with
    | .lst xs => .ok ((xs.zipIdx).map fun p => .tup [.int p.2, p.1]) M1
    | .scr xs => .ok ((xs.zipIdx).map fun p => .tup [.int p.2, p.1]) M1
    | .tup xs => .ok ((xs.zipIdx).map fun p => .tup [.int p.2, p.1]) M1
    | _ => .no := by rw [evI]; try rfl
@[simp] theorem q_zip3 {es : List Ex} : evI Φ (.zip3 es) σ M = (evL Φ es σ M).bind fun ds M1 => match ds with
    | [.tup xs, .tup ys, .tup zs] => .ok ((xs.zip (ys.zip zs)).map fun p => .tup [p.1, p.2.1, p.2.2]) M1
    | _ => .no := by rw [evI]; try rfl
@[simp] theorem q_zip {a b : Ex} : evI Φ (.zip a b) σ M = (evE Φ a σ M).bind fun x M1 => (evE Φ b σ M1).bind fun y M2 => match x, y with
    | .lst xs, .lst ys => .ok ((xs.zip ys).map fun p => .tup [p.1, p.2]) M2
    | _, _ => .no := by rw [evI]; try rfl
@[simp] theorem q_nm {i : Nat} {d : D} : evT Φ (.nm i) d σ M = .ok (σ.set i (some d)) M := by rw [evT]
@[simp] theorem q_tp {ts : List Tg} {d : D} : evT Φ (.tp ts) d σ M = match d with | .tup ds => evTs Φ ts ds σ M | .lst ds => evTs Φ ts ds σ M | _ => .no := by cases d <;> simp only [evT]
@[simp] theorem q_tnil : evTs Φ [] [] σ M = .ok σ M := by rw [evTs]
@[simp] theorem q_tcons {t : Tg} {ts : List Tg} {d : D} {ds : List D} : evTs Φ (t :: ts) (d :: ds) σ M = (evT Φ t d σ M).bind fun σ1 M1 => evTs Φ ts ds σ1 M1 := by rw [evTs]
@[simp] theorem q_sub {a b : Ex} {d : D} : evT Φ (.sub a b) d σ M = (evE Φ a σ M).sure.bind fun x M1 => (evE Φ b σ M1).sure.bind fun y M2 => match x, y with
    | .cell i, .int k => match M2[i]? with
      | some (some (.lst xs)) => match ixN xs.length k with
        | some j => .ok σ (M2.set i (some (.lst (xs.set j d))))
        | none => .no
      | _ => .no
    | .cell i, .tup ks => match M2[i]?, keyT (.tup ks) with
      | some (some (.dcn kvs)), some k => if kvs.length < sizeLine then .ok σ (M2.set i (some (.dcn (putKN kvs k d)))) else .no
      | _, _ => .no
    | _, _ => .no := by rw [evT]; try rfl
@[simp] theorem q_asg {t : Tg} {e : Ex} : evS Φ (.asg t e) σ M = RS.of (evE Φ e σ M) σ fun d M1 => RS.of (evT Φ t d σ M1) σ fun σ1 M2 => .nx σ1 M2 := by rw [evS]
@[simp] theorem q_par {is : List Nat} {es : List Ex} : evS Φ (.par is es) σ M = RS.of (evL Φ es σ M) σ fun ds M1 => if ds.length = is.length then .nx (setAll σ is.reverse ds.reverse) M1 else .no := by rw [evS]
@[simp] theorem q_aug {i : Nat} {o : BO} {e : Ex} : evS Φ (.aug i o e) σ M = match σ[i]? with
    | some (some x) => RS.of (evE Φ e σ M) σ fun y M1 => match evAug o x y with
      | some z => .nx (σ.set i (some z)) M1
      | none => .no
    | _ => .no := by rw [evS]; try rfl
@[simp] theorem q_expr {e : Ex} : evS Φ (.expr e) σ M = RS.of (evE Φ e σ M) σ fun _ M1 => .nx σ M1 := by rw [evS]
@[simp] theorem q_ret {e : Ex} : evS Φ (.ret e) σ M = RS.of (evE Φ e σ M) σ fun d M1 => .rt d M1 := by rw [evS]
@[simp] theorem q_retN : evS Φ .retN σ M = .rt .non M := by rw [evS]
@[simp] theorem q_ifs {c : Ex} {a b : List Sx} : evS Φ (.ifs c a b) σ M = RS.of ((evE Φ c σ M).bind fun d M1 => Res.of (truth M1 d) M1) σ fun t M1 => if t then evSs Φ a σ M1 else evSs Φ b σ M1 := by rw [evS]
@[simp] theorem q_brk : evS Φ .brk σ M = .bk σ M := by rw [evS]
@[simp] theorem q_cnt : evS Φ .cnt σ M = .ct σ M := by rw [evS]
@[simp] theorem q_pass : evS Φ .pass σ M = .nx σ M := by rw [evS]
@[simp] theorem q_nev : evS Φ .nev σ M = .no := by rw [evS]
@[simp] theorem q_frzs {v : Nat} {s : Sx} : evS Φ (.frzs v s) σ M = match σ[v]? with
    | some (some (.cell i)) => match M[i]? with
      | some (some (.lst xs)) => evS Φ s (σ.set v (some (.lst xs))) (M.set i none)
      | some (some (.ins c fs)) => evS Φ s (σ.set v (some (.ins c fs))) (M.set i none)
      | some (some (.dcn kvs)) => evS Φ s (σ.set v (some (.dcn kvs))) (M.set i none)
      | _ => .no
    | _ => .no := by rw [evS]; try rfl
@[simp] theorem q_snil : evSs Φ [] σ M = .nx σ M := by rw [evSs]
@[simp] theorem q_scons {s : Sx} {ss : List Sx} : evSs Φ (s :: ss) σ M = (evS Φ s σ M).then fun σ1 M1 => evSs Φ ss σ1 M1 := by rw [evSs]
@[simp] theorem setAll_nil {ds : List D} : setAll σ [] ds = σ := by rw [setAll] <;> simp
@[simp] theorem setAll_cons {i : Nat} {is : List Nat} {d : D} {ds : List D} : setAll σ (i :: is) (d :: ds) = setAll (σ.set i (some d)) is ds := by rw [setAll]
@[simp] theorem wipeD_nil : wipeD σ [] = σ := rfl
@[simp] theorem wipeD_cons {v : Nat} {vs : List Nat} : wipeD σ (v :: vs) = (wipeD σ vs).set v none := rfl
@[simp] theorem then_bk {f : Env' → Mem → RS} : (RS.bk σ M).then f = .bk σ M := by simp only [RS.then]
@[simp] theorem then_ct {f : Env' → Mem → RS} : (RS.ct σ M).then f = .ct σ M := by simp only [RS.then]
@[simp] theorem then_no {f : Env' → Mem → RS} : RS.no.then f = .no := by simp only [RS.then]
@[simp] theorem of_no {α : Type} {f : α → Mem → RS} : RS.of (Res.no : Res α) σ f = .no := by simp only [RS.of]
end
end Ev
/-! Ev19: the draws that all laws share, once for all of them. -/
namespace Ev
open PySem L2
/-- what a law draws from: the script's cells, how often it was drawn, what is left of a great cell -/
def stairO (ns : List Int) (lap rest : Int) : MO := .lst [.lst (ns.map D.int), .int lap, .int rest]
theorem toPds_ints : ∀ ns : List Int, toPds (ns.map D.int) = some (ns.map PyData.int)
  | [] => rfl
  | n :: ns => by simp [toPds, toPd, toPds_ints ns]
theorem canLay_ints : ∀ ns : List Int, PyData.canLayAll0 (ns.map PyData.int) = true
  | [] => rfl
  | n :: ns => by simp [PyData.canLayAll0, PyData.canLay0, canLay_ints ns]
theorem depth_ints : ∀ ns : List Int, PyData.depthAll (ns.map PyData.int) = 0
  | [] => rfl
  | n :: ns => by simp [PyData.depthAll, PyData.depth, depth_ints ns]
theorem eq_nil (M : Mem) (ns : List Int) : eqM M (.lst (ns.map D.int)) (.lst []) = some ns.isEmpty := by
  have h1 : shapedB (.list (ns.map PyData.int)) = true := by simp [shapedB, SeqAt.shaped, PyData.canLay0, canLay_ints, PyData.depth, depth_ints]
  have h2 : shapedB (.list []) = true := rfl
  have h3 : PyData.eqv (.list (ns.map PyData.int)) (.list []) = ns.isEmpty := by cases ns <;> simp [PyData.eqv, PyData.eqvAll]
  simp [eqM, eqD, now, seqL, toPd, toPds_ints, toPds, h1, h2, h3]
theorem eq_nn (M : Mem) : eqM M (.lst []) (.lst []) = some true := eq_nil M []
theorem cut_front (xs : List D) (n : Nat) : cutD xs none (some (n : Int)) = xs.take n := by
  unfold cutD
  rw [HT.sIx_none, HT.sIx_nat, List.drop_zero, Nat.sub_zero, Nat.min_comm, ← List.take_take]
  exact List.take_of_length_le (by simp; omega)
/-- an integer, as it is or by int(..) -/
def vr (b : Bool) (i : Nat) : Ex := if b then .bi .int [.var i] else .var i
structure DrC where
  (c1 c2 m1 c3 c2' m2 c4 c1' c3' m3 dv : Int)
  (f1 f2 f3 f4 : Bool)
def dr0 (p : DrC) : Sx := .ifs (.cmp .gt (.ix (.var 0) (.int 2)) (.int 0)) [.asg (.nm 2) (if p.f1 then .bi .int [.ix (.var 0) (.int 2)] else .ix (.var 0) (.int 2)), .asg (.sub (.var 0) (.int 2)) (.bin .fdiv (vr p.f2 2) (.var 1)), .ret (.bin .mod (.bi .int [.var 2]) (.var 1))] []
def dr1 : Sx := .asg (.nm 3) (.ix (.var 0) (.int 1))
def dr2 : Sx := .asg (.sub (.var 0) (.int 1)) (.bin .add (.var 3) (.int 1))
def dr3 (p : DrC) : Sx := .asg (.nm 4) (.bin .add (.bin .mul (.int p.c1) (.var 3)) (.int p.c2))
def dr4 : Sx := .ifs (.cmp .ne (.ix (.var 0) (.int 0)) (.lst [])) [.asg (.nm 4) (.ix (.ix (.var 0) (.int 0)) (.bin .mod (.bi .int [.var 3]) (.bi .len [.ix (.var 0) (.int 0)])))] []
def dr5 (p : DrC) : Sx := .ifs (.and (.cmp .lt (.var 3) (.bi .len [.ix (.var 0) (.int 0)])) (.cmp .ge (.bi .abs [.var 4]) (.bin .pow (.int 10) (.int 18)))) [.asg (.nm 2) (.bin .add (.bin .mul (.int 2) (.bin .sub (.bi .abs [vr p.f3 4]) (.bin .pow (.int 10) (.int 18)))) (.bi .int [.cmp .lt (.var 4) (.int 0)])), .asg (.sub (.var 0) (.int 2)) (.bin .fdiv (vr p.f4 2) (.var 1)), .ret (.bin .mod (.bi .int [.var 2]) (.var 1))] []
def dr6 (p : DrC) : Sx := .asg (.nm 5) (.bin .mod (.bi .int [.bin .pow (.bin .add (.bin .add (.bin .mod (.bi .int [.var 4]) (.int p.m1)) (.bin .mul (.int p.c3) (.var 3))) (.int p.c2')) (.int 5)]) (.int p.m2))
def dr7 (p : DrC) : Sx := .asg (.nm 5) (.bin .mod (.bi .int [.bin .pow (.bin .add (.bin .add (.bin .mul (.var 5) (.bin .add (.bin .mul (.int 2) (.var 3)) (.int p.c4))) (.bin .mul (.bin .mul (.int p.c1') (.var 3)) (.var 3))) (.int p.c3')) (.int 3)]) (.int p.m3))
def dr8 (p : DrC) : Sx := .ret (.bin .mod (.bi .int [.bin .fdiv (.var 5) (.int p.dv)]) (.var 1))
def drB (p : DrC) : List Sx := [dr0 p, dr1, dr2, dr3 p, dr4, dr5 p, dr6 p, dr7 p, dr8 p]
def sml (n : Int) : Bool := decide (0 < n ∧ n < 2147483648)
def DrC.ok (p : DrC) : Bool := [p.c1, p.c2, p.m1, p.c3, p.c2', p.m2, p.c4, p.c1', p.c3', p.m3, p.dv].all sml
theorem log_small {j : Int} (h0 : 0 < j) (h : j < 2147483648) : j.natAbs.log2 < 9000 := Nat.lt_of_lt_of_le (Nat.log2_lt (by omega) |>.mpr (by omega : j.natAbs < 2 ^ 31)) (by omega)
section
variable {Φ : Nat → List D → Mem → Res D} {ns : List Int} {lap rest many : Int} {i : Nat} {M : Mem} {p : DrC}
theorem dr_head (h : M[i]? = some (some (stairO ns lap rest))) (hr : ¬ 0 < rest) (h0 : 0 ≤ lap) (hc1 : -(2 ^ 64) < p.c1 ∧ p.c1 < 2 ^ 64) : ∃ c, evSs Φ [dr0 p, dr1, dr2, dr3 p, dr4] [some (.cell i), some (.int many), none, none, none, none] M =
    .nx [some (.cell i), some (.int many), none, some (.int lap), some (.int c), none] (M.set i (some (stairO ns (lap + 1) rest))) := by
  have h' : M[i]? = some (some (.lst [.lst (ns.map D.int), .int lap, .int rest])) := h
  have hi : i < M.length := (List.getElem?_eq_some_iff.mp h).1
  have h2 : (M.set i (some (.lst [.lst (ns.map D.int), .int (lap + 1), .int rest])))[i]? = some (some (.lst [.lst (ns.map D.int), .int (lap + 1), .int rest])) := List.getElem?_set_self hi
  have g1 : ∀ a b c : D, atI [a, b, c] 0 = some a := fun _ _ _ => rfl
  have g2 : ∀ a b c : D, atI [a, b, c] 1 = some b := fun _ _ _ => rfl
  have g3 : ∀ a b c : D, atI [a, b, c] 2 = some c := fun _ _ _ => rfl
  have x1 : ixN 3 1 = some 1 := rfl
  by_cases hn : ns = []
  · subst hn
    refine ⟨p.c1 * lap + p.c2, ?_⟩
    simp only [List.map_nil] at h' h2
    simp [dr0, dr1, dr2, dr3, dr4, evSs, evS, evE, evL, evT, ix_cell h', ix_cell h2, g1, g2, g3, hr, h', x1, stairO, bin_mulL hc1, eq_nn]
  · have hl : 0 < ns.length := List.length_pos_iff.mpr hn
    obtain ⟨c, hc⟩ : ∃ c, atI (ns.map D.int) (lap % (ns.length : Int)) = some (.int c) := by
      have p1 : 0 ≤ lap % (ns.length : Int) := Int.emod_nonneg _ (by omega)
      have p2 : lap % (ns.length : Int) < ns.length := Int.emod_lt_of_pos _ (by omega)
      obtain ⟨m, hm⟩ : ∃ m : Nat, lap % (ns.length : Int) = m := ⟨(lap % (ns.length : Int)).toNat, by omega⟩
      rw [hm] at p2 ⊢
      exact ⟨ns[m]'(by omega), atI_nat (j := m) (by simp)⟩
    refine ⟨c, ?_⟩
    have hm : (0 : Int) < ns.length := by omega
    simp [dr0, dr1, dr2, dr3, dr4, evSs, evS, evE, evL, evT, ix_cell h', ix_cell h2, g1, g2, g3, hr, h', x1, stairO, bin_mulL hc1, eq_nil, hn, hc, bin_mod hm]
theorem dr_tail (h : M[i]? = some (some (stairO ns lap rest))) (hm : 0 < many) (hlog : many.natAbs.log2 < 9000) (h0 : 0 ≤ lap) (h1 : lap ≤ 60000) (hp : p.ok = true) (c : Int) : ∃ r rest', evSs Φ [dr5 p, dr6 p, dr7 p, dr8 p] [some (.cell i), some (.int many), none, some (.int lap), some (.int c), none] (M.set i (some (stairO ns (lap + 1) rest))) =
    .rt (.int r) (M.set i (some (stairO ns (lap + 1) rest'))) ∧ 0 ≤ r ∧ r < many := by
  have hi : i < M.length := (List.getElem?_eq_some_iff.mp h).1
  have h2 : (M.set i (some (.lst [.lst (ns.map D.int), .int (lap + 1), .int rest])))[i]? = some (some (.lst [.lst (ns.map D.int), .int (lap + 1), .int rest])) := List.getElem?_set_self hi
  have g1 : ∀ a b c : D, atI [a, b, c] 0 = some a := fun _ _ _ => rfl
  have x2 : ixN 3 2 = some 2 := rfl
  simp only [DrC.ok, List.all_cons, List.all_nil, Bool.and_true, Bool.and_eq_true, sml, decide_eq_true_eq] at hp
  obtain ⟨k1, k2, k3, k4, k5, k6, k7, k8, k9, k10, k11⟩ := hp
  obtain ⟨c1, c2, m1, c3, c2', m2, c4, c1', c3', m3, dv, f1, f2, f3, f4⟩ := p
  simp only at k1 k2 k3 k4 k5 k6 k7 k8 k9 k10 k11
  by_cases hb : lap < ns.length ∧ 10 ^ 18 ≤ (if c < 0 then -c else c)
  · obtain ⟨hb1, hb2⟩ := hb
    refine ⟨(2 * ((if c < 0 then -c else c) - 10 ^ 18) + (if decide (c < 0) then 1 else 0)) % many, (2 * ((if c < 0 then -c else c) - 10 ^ 18) + (if decide (c < 0) then 1 else 0)) / many, ?_, Int.emod_nonneg _ (by omega), Int.emod_lt_of_pos _ hm⟩
    have hb3 : (1000000000000000000 : Int) ≤ (if c < 0 then -c else c) := hb2
    cases f3 <;> cases f4 <;> simp [dr5, vr, evSs, evS, evE, evL, evT, ix_cell h2, g1, h2, x2, stairO, bin_mulL, bin_pow, hb1, hb3, bin_fdiv hm hlog, bin_mod hm]
  · refine ⟨((((c % m1 + c3 * lap + c2') ^ 5 % m2 * (2 * lap + c4) + c1' * lap * lap + c3') ^ 3 % m3) / dv) % many, rest, ?_, Int.emod_nonneg _ (by omega), Int.emod_lt_of_pos _ hm⟩
    have p1 : 0 ≤ c % m1 := Int.emod_nonneg _ (by omega)
    have p2 : c % m1 < m1 := Int.emod_lt_of_pos _ (by omega)
    have q0 : 0 ≤ c3 * lap := Int.mul_nonneg (by omega) h0
    have q0' : c3 * lap ≤ 2147483648 * 60000 := Int.mul_le_mul (by omega) h1 h0 (by omega)
    have q1 : (c % m1 + c3 * lap + c2').natAbs < 2 ^ 64 := by omega
    generalize hx : c % m1 + c3 * lap + c2' = x at q1
    have p3 : 0 ≤ x ^ 5 % m2 := Int.emod_nonneg _ (by omega)
    have p4 : x ^ 5 % m2 < m2 := Int.emod_lt_of_pos _ (by omega)
    generalize hy : x ^ 5 % m2 = y at p3 p4
    have e3 : 0 ≤ c1' * lap := Int.mul_nonneg (by omega) h0
    have e4 : c1' * lap ≤ 2147483648 * 60000 := Int.mul_le_mul (by omega) h1 h0 (by omega)
    have q2 : (y * (2 * lap + c4) + c1' * lap * lap + c3').natAbs < 2 ^ 64 := by
      have e1 : 0 ≤ y * (2 * lap + c4) := Int.mul_nonneg p3 (by omega)
      have e2 : y * (2 * lap + c4) ≤ 2147483648 * (2147483648 + 120000) := Int.mul_le_mul (by omega) (by omega) (by omega) (by omega)
      have e5 : 0 ≤ c1' * lap * lap := Int.mul_nonneg e3 h0
      have e6 : c1' * lap * lap ≤ 2147483648 * 60000 * 60000 := Int.mul_le_mul e4 h1 h0 (by omega)
      omega
    generalize hz : y * (2 * lap + c4) + c1' * lap * lap + c3' = z at q2
    have r1 : -(2 ^ 64) < lap ∧ lap < 2 ^ 64 := by omega
    have r2 : -(2 ^ 64) < 2 * lap + c4 ∧ 2 * lap + c4 < 2 ^ 64 := by omega
    have r3 : -(2 ^ 64) < c3 ∧ c3 < 2 ^ 64 := by omega
    have r4 : -(2 ^ 64) < c1' ∧ c1' < 2 ^ 64 := by omega
    have t5 : evS Φ (dr5 ⟨c1, c2, m1, c3, c2', m2, c4, c1', c3', m3, dv, f1, f2, f3, f4⟩) [some (.cell i), some (.int many), none, some (.int lap), some (.int c), none] (M.set i (some (stairO ns (lap + 1) rest))) = .nx [some (.cell i), some (.int many), none, some (.int lap), some (.int c), none] (M.set i (some (stairO ns (lap + 1) rest))) := by
      by_cases hb1 : lap < ns.length
      · have hb3 : ¬ (1000000000000000000 : Int) ≤ (if c < 0 then -c else c) := fun z => hb ⟨hb1, z⟩
        simp [dr5, evSs, evS, evE, evL, evT, ix_cell h2, g1, stairO, bin_pow, hb1, hb3]
      · simp [dr5, evSs, evS, evE, evL, evT, ix_cell h2, g1, stairO, hb1]
    simp only [evSs]
    rw [t5]
    simp [dr6, dr7, dr8, evS, evE, evL, evT, bin_mod k3.1, bin_mod k6.1, bin_mod k10.1, bin_mulL r3, bin_mulL r4, bin_mulL, bin_mulR r1, bin_mulR r2, bin_pow, bin_fdiv k11.1 (log_small k11.1 k11.2), hx, q1, hy, hz, q2, bin_mod hm]
/-- a draw -/
theorem draw {P : List Df} {f : Nat} {d : Df} {k : Nat} {ns : List Int} {lap rest many : Int} {i : Nat} {M : Mem} (p : DrC) (hd : P[f]? = some d) (hb : d.body = drB p) (hps : d.ps.length = 2) (hN : d.N.length = 6) (hp : p.ok = true) (h : M[i]? = some (some (stairO ns lap rest)))
    (hm : 0 < many) (hlog : many.natAbs.log2 < 9000) (h0 : 0 ≤ lap) (h1 : lap ≤ 60000) :
    ∃ r lap' rest', evF P (k + 1) f [.cell i, .int many] M = .ok (.int r) (M.set i (some (stairO ns lap' rest'))) ∧ 0 ≤ r ∧ r < many ∧ 0 ≤ lap' ∧ lap' ≤ lap + 1 := by
  rw [evF_at (d := d) k _ _ hd (by simp [hps]), hb, hN]
  have g1 : ∀ a b c : D, atI [a, b, c] 0 = some a := fun _ _ _ => rfl
  have g2 : ∀ a b c : D, atI [a, b, c] 1 = some b := fun _ _ _ => rfl
  have g3 : ∀ a b c : D, atI [a, b, c] 2 = some c := fun _ _ _ => rfl
  have x2 : ixN 3 2 = some 2 := rfl
  by_cases hr : 0 < rest
  · refine ⟨rest % many, lap, rest / many, ?_, Int.emod_nonneg _ (by omega), Int.emod_lt_of_pos _ hm, h0, by omega⟩
    have h' : M[i]? = some (some (.lst [.lst (ns.map D.int), .int lap, .int rest])) := h
    cases e1 : p.f1 <;> cases e2 : p.f2 <;> simp [drB, dr0, e1, e2, vr, evSs, evS, evE, evL, evT, ix_cell h', g3, hr, bin_fdiv hm hlog, bin_mod hm, h', x2, stairO]
  · have hc1 : -(2 ^ 64) < p.c1 ∧ p.c1 < 2 ^ 64 := by
      simp only [DrC.ok, List.all_cons, Bool.and_eq_true, sml, decide_eq_true_eq] at hp
      omega
    obtain ⟨c, hc⟩ := dr_head (Φ := evF P k) (many := many) (p := p) h hr h0 hc1
    obtain ⟨r, rest', ht, b1, b2⟩ := dr_tail (Φ := evF P k) h hm hlog h0 h1 hp c
    refine ⟨r, lap + 1, rest', ?_, b1, b2, by omega, by omega⟩
    have e := (evSs_split (ys := [dr5 p, dr6 p, dr7 p, dr8 p]) hc).trans ht
    show tidy _ (bodyRes (evSs (evF P k) ([dr0 p, dr1, dr2, dr3 p, dr4] ++ [dr5 p, dr6 p, dr7 p, dr8 p]) [some (.cell i), some (.int many), none, none, none, none] M)) = _
    rw [e]
    simp
/-- one of a list -/
theorem drawOf {P : List Df} {f g : Nat} {d e : Df} {k : Nat} {ns : List Int} {lap rest : Int} {i : Nat} {M : Mem} (p : DrC) (hd : P[f]? = some d) (hb : d.body = drB p) (hps : d.ps.length = 2) (hN : d.N.length = 6) (hp : p.ok = true)
    (he : P[g]? = some e) (heb : e.body = [.ret (.ix (.var 1) (.call f [.var 0, .bi .len [.var 1]] [] [0, 1]))]) (heps : e.ps.length = 2) (heN : e.N.length = 2) (h : M[i]? = some (some (stairO ns lap rest)))
    (xs : List D) (hx : xs ≠ []) (hx2 : xs.length < 2147483648) (h0 : 0 ≤ lap) (h1 : lap ≤ 60000) :
    ∃ x lap' rest', evF P (k + 2) g [.cell i, .lst xs] M = .ok x (M.set i (some (stairO ns lap' rest'))) ∧ x ∈ xs ∧ 0 ≤ lap' ∧ lap' ≤ lap + 1 := by
  have hl : 0 < xs.length := List.length_pos_iff.mpr hx
  obtain ⟨r, lap', rest', q, b1, b2, b3, b4⟩ := draw (k := k) (many := xs.length) p hd hb hps hN hp h (by omega) (log_small (by omega) (by omega)) h0 h1
  obtain ⟨m, rfl⟩ : ∃ m : Nat, r = m := ⟨r.toNat, by omega⟩
  refine ⟨xs[m]'(by omega), lap', rest', ?_, List.getElem_mem _, b3, b4⟩
  rw [evF_at (d := e) (k + 1) _ _ he (by simp [heps]), heb, heN]
  have ha : atI xs (m : Int) = some (xs[m]'(by omega)) := atI_nat (j := m) (List.getElem?_eq_getElem (by omega))
  simp [evSs, evS, evE, evL, evK, q, ha]
/-- the start -/
theorem drawStart {P : List Df} {f : Nat} {d : Df} {k : Nat} (ns : List Int) (hd : P[f]? = some d) (hb : d.body = [.ret (.mls [.lc (.bi .int [.var 1]) (.nm 1) (.seq (.slc (.var 0) none (some (.int 60)))) none [1], .int 0, .int 0])]) (hps : d.ps.length = 1) (hN : d.N.length = 2) :
    evF P (k + 1) f [.scr (ns.map D.int)] [] = .ok (.cell 0) [some (stairO (ns.take 60) 0 0)] := by
  rw [evF_at (d := d) k _ _ hd (by simp [hps]), hb, hN]
  have h60 : cutD (ns.map D.int) none (some 60) = (ns.take 60).map D.int := by
    rw [show (60 : Int) = ((60 : Nat) : Int) from rfl, cut_front, List.map_take]
  have hl := evE_lcm (Φ := evF P k) (e := .bi .int [.var 1]) (t := .nm 1) (it := .seq (.slc (.var 0) none (some (.int 60)))) (c := none) (vs := [1]) (σ := [some (.scr (ns.map D.int)), none]) (M := []) (M1 := []) (ds := (ns.take 60).map D.int) (g := fun x => x)
    (by simp [evI, evE, evO, slcD, seqL, h60]) (fun x hx => by
      obtain ⟨i, _, rfl⟩ := List.mem_map.mp hx
      simp [lcF, evT, evC, evE, evL, wipeD, evBi]) (by simp [sizeLine_eq]; omega)
  show tidy _ (bodyRes (evSs (evF P k) _ [some (.scr (ns.map D.int)), none] [])) = _
  simp [hl, sizeLine_eq, stairO, tidy, spare, Function.comp_def]
end
end Ev
/-! Ev21: what repr writes of small data; == of equal data. -/
namespace Ev
open PySem L2
/-! small data, and how much of it there may be -/
def sgnOk (s : Str) : Bool := s.cps.toList.all fun c => decide (c < 16 ^ 8)
mutual
def small : PyData → Bool
  | .none => true
  | .bool _ => true
  | .int i => decide (-(10 ^ 45) < i ∧ i < 10 ^ 45)
  | .str s => sgnOk s
  | .list xs => smalls xs
  | .tuple xs => smalls xs
  | .dict kvs => smallK kvs
def smalls : List PyData → Bool
  | [] => true
  | x :: xs => small x && smalls xs
def smallK : List (PyData × PyData) → Bool
  | [] => true
  | (k, v) :: r => small k && small v && smallK r
end
mutual
def wt : PyData → Nat
  | .none => 4
  | .bool _ => 5
  | .int _ => 46
  | .str s => 10 * s.length + 2
  | .list xs => wts xs + 2
  | .tuple xs => wts xs + 3
  | .dict kvs => wtK kvs + 2
def wts : List PyData → Nat
  | [] => 0
  | x :: xs => wt x + 2 + wts xs
def wtK : List (PyData × PyData) → Nat
  | [] => 0
  | (k, v) :: r => wt k + wt v + 4 + wtK r
end
theorem textFrom_le : ∀ (ts : List Str) (k : Nat) (acc : Str), (textFrom k acc ts).length ≤ acc.length + piled ts
  | [], k, acc => Nat.le_add_right _ _
  | u :: ts, k, acc => by
    have ih := textFrom_le ts (k + 1) (acc ++ (if k > 0 then ", " else "" : String) ++ u)
    have e : ((if k > 0 then ", " else "" : String) : Str).length ≤ 2 := by split <;> decide
    rw [Str.length_append, Str.length_append] at ih
    rw [piled_cons]
    show (textFrom (k + 1) _ ts).length ≤ _
    omega
theorem join_le (ts : List Str) : (Str.join ", " ts).length ≤ piled ts := by
  cases ts with
  | nil => exact Nat.zero_le _
  | cons u ts =>
    have := join_length_add (u :: ts) (by simp)
    omega
theorem intText_le {i : Int} (h : -(10 ^ 45) < i ∧ i < 10 ^ 45) : (((toString i : String)) : Str).length ≤ 46 := by
  by_cases h0 : 0 ≤ i
  · exact Nat.le_trans (PyProof.Rows.toString_length_le h0 (k := 45) (by decide) h.2) (by decide)
  · have e : ((toString i : String) : Str).length = ((toString (-i) : String) : Str).length + 1 := by
      have e1 := PyProof.Rows.toString_neg (n := i) (by omega)
      rw [e1, show (0 - i) = -i by omega]
      show (Str.ofString ("-" ++ toString (-i))).length = (Str.ofString (toString (-i))).length + 1
      rw [PyProof.Rows.ofString_length, PyProof.Rows.ofString_length, String.toList_append, List.length_append]
      exact Nat.add_comm _ _
    have := PyProof.Rows.toString_length_le (v := -i) (by omega) (k := 45) (by decide) (by omega)
    rw [e]
    exact Nat.succ_le_succ this
mutual
theorem shown_le : ∀ p : PyData, small p = true → p.shown.length ≤ wt p
  | .none, _ => by simp only [PyData.shown, wt]; decide
  | .bool b, _ => by simp only [PyData.shown, wt]; cases b <;> decide
  | .int i, h => by
    simp only [small, decide_eq_true_eq] at h
    simp only [PyData.shown, wt]
    exact intText_le h
  | .str s, h => by
    simp only [small, sgnOk, List.all_eq_true, decide_eq_true_eq] at h
    simp only [PyData.shown, wt]
    exact PySem.StrLaws.reprText_len s h
  | .list xs, h => by
    simp only [small] at h
    simp only [PyData.shown, wt]
    have h1 := shownAll_le xs h
    have h2 := textFrom_le (PyData.shownAll xs) 0 "["
    have h3 : (("[" : String) : Str).length = 1 := rfl
    have h4 : (("]" : String) : Str).length = 1 := rfl
    unfold listText
    rw [Str.length_append]
    omega
  | .tuple xs, h => by
    simp only [small] at h
    simp only [PyData.shown, wt]
    have h1 := shownAll_le xs h
    have h2 := join_le (PyData.shownAll xs)
    unfold tupleText
    rw [Str.length_append, Str.length_append, show (("(" : String) : Str).length = 1 from rfl]
    have h5 : ((if (PyData.shownAll xs).length == 1 then ",)" else ")" : String) : Str).length ≤ 2 := by split <;> decide
    omega
  | .dict kvs, h => by
    simp only [small] at h
    simp only [PyData.shown, wt]
    have h1 := shownKv_le kvs h
    have h2 := join_le (PyData.shownKv kvs)
    unfold dictText
    rw [Str.length_append, Str.length_append, show (("{" : String) : Str).length = 1 from rfl, show (("}" : String) : Str).length = 1 from rfl]
    omega
theorem shownKv_le : ∀ kvs : List (PyData × PyData), smallK kvs = true → piled (PyData.shownKv kvs) ≤ wtK kvs
  | [], _ => Nat.le_refl _
  | (k, v) :: r, h => by
    simp only [smallK, Bool.and_eq_true] at h
    simp only [PyData.shownKv, wtK, piled_cons]
    have h1 := shown_le k h.1.1
    have h2 := shown_le v h.1.2
    have h3 := shownKv_le r h.2
    rw [Str.length_append, Str.length_append, show ((": " : String) : Str).length = 2 from rfl]
    omega
theorem shownAll_le : ∀ ps : List PyData, smalls ps = true → piled (PyData.shownAll ps) ≤ wts ps
  | [], _ => Nat.le_refl _
  | p :: ps, h => by
    simp only [smalls, Bool.and_eq_true] at h
    simp only [PyData.shownAll, wts, piled_cons]
    have h1 := shown_le p h.1
    have h2 := shownAll_le ps h.2
    omega
end
set_option exponentiation.threshold 3000 in
theorem log45 {i : Int} (h : -(10 ^ 45) < i ∧ i < 10 ^ 45) : i.natAbs.log2 < 1920 := by
  by_cases z : i.natAbs = 0
  · rw [z]; decide
  · refine (Nat.log2_lt z).mpr ?_
    have e : (10 : Int) ^ 45 = ((10 ^ 45 : Nat) : Int) := by decide
    have : i.natAbs < 10 ^ 45 := by omega
    exact Nat.lt_of_lt_of_le this (by decide)
mutual
theorem showable_small : ∀ p : PyData, small p = true → p.showable = true
  | .none, _ => by simp only [PyData.showable]
  | .bool b, _ => by simp only [PyData.showable]
  | .int i, h => by
    simp only [small, decide_eq_true_eq] at h
    simp only [PyData.showable, decide_eq_true_eq]
    exact log45 h
  | .str s, _ => by simp only [PyData.showable]
  | .list xs, h => by
    simp only [small] at h
    simp only [PyData.showable]
    exact showables_small xs h
  | .tuple xs, h => by
    simp only [small] at h
    simp only [PyData.showable]
    exact showables_small xs h
  | .dict kvs, h => by
    simp only [small] at h
    simp only [PyData.showable]
    exact showableKv_small kvs h
theorem showableKv_small : ∀ kvs : List (PyData × PyData), smallK kvs = true → PyData.showableKv kvs = true
  | [], _ => by simp only [PyData.showableKv]
  | (k, v) :: r, h => by
    simp only [smallK, Bool.and_eq_true] at h
    simp only [PyData.showableKv, Bool.and_eq_true]
    exact ⟨⟨showable_small k h.1.1, showable_small v h.1.2⟩, showableKv_small r h.2⟩
theorem showables_small : ∀ ps : List PyData, smalls ps = true → PyData.showableAll ps = true
  | [], _ => by simp only [PyData.showableAll]
  | p :: ps, h => by
    simp only [smalls, Bool.and_eq_true] at h
    simp only [PyData.showableAll, Bool.and_eq_true]
    exact ⟨showable_small p h.1, showables_small ps h.2⟩
end
/-- repr of small data -/
theorem repr_small {M : Mem} {d : D} {p : PyData} (h : toPd (now M d) = some p) (hs : small p = true) (hd : p.depth ≤ 40) (hw : wt p ≤ 16777216) : evBi .repr [d] M = some (.str p.shown) := by
  simp only [evBi, h]
  rw [if_pos ⟨showable_small p hs, hd, by rw [sizeLine_eq]; exact Nat.le_trans (shown_le p hs) hw⟩]
/-- equal data are equal -/
theorem eqD_same {M : Mem} {x y : D} {p : PyData} (h1 : toPd (now M x) = some p) (h2 : toPd (now M y) = some p) (hs : shapedB p = true) : eqD M x y = some true := by
  unfold eqD
  rw [h1, h2]
  simp only [hs, Bool.and_self, if_true]
  rw [SeqAt.eqv_refl p (SeqAt.canLay_of_shaped hs)]
theorem eqM_same {M : Mem} {x y : D} {p : PyData} (h1 : toPd (now M x) = some p) (h2 : toPd (now M y) = some p) (hs : shapedB p = true) : eqM M x y = some true := by
  unfold eqM
  split
  · simp only [now, seqL, toPd, Option.some.injEq] at h1 h2
    subst h1
    cases h2
    simp
  · simp only [now, seqL, toPd, Option.some.injEq] at h1 h2
    subst h1
    cases h2
    simp
  · exact eqD_same h1 h2 hs
end Ev
/-! Ev22: the program's checks and words, whatever the law. -/
namespace Ev
open PySem L2
/-- a def with this body, so many parameters, so many names -/
def At (P : List Df) (f : Nat) (b : List Sx) (n m : Nat) : Prop := ∃ d, P[f]? = some d ∧ d.body = b ∧ d.ps.length = n ∧ d.N.length = m
section
variable {P : List Df} {k : Nat} {M : Mem}
theorem At.ev {f n m : Nat} {b : List Sx} (h : At P f b n m) (ds : List D) (hl : ds.length = n) : evF P (k + 1) f ds M = tidy M.length (bodyRes (evSs (evF P k) b (ds.map some ++ List.replicate (m - n) none) M)) := by
  obtain ⟨d, h1, h2, h3, h4⟩ := h
  rw [evF_at (d := d) k ds M h1 (by rw [hl, h3]), h2, h4, hl]
theorem At.ev1 {f m : Nat} {b : List Sx} (h : At P f b 1 m) (x : D) : evF P (k + 1) f [x] M = tidy M.length (bodyRes (evSs (evF P k) b (some x :: List.replicate (m - 1) none) M)) := h.ev [x] rfl
theorem At.ev2 {f m : Nat} {b : List Sx} (h : At P f b 2 m) (x y : D) : evF P (k + 1) f [x, y] M = tidy M.length (bodyRes (evSs (evF P k) b (some x :: some y :: List.replicate (m - 2) none) M)) := h.ev [x, y] rfl
theorem At.ev3 {f m : Nat} {b : List Sx} (h : At P f b 3 m) (x y z : D) : evF P (k + 1) f [x, y, z] M = tidy M.length (bodyRes (evSs (evF P k) b (some x :: some y :: some z :: List.replicate (m - 3) none) M)) := h.ev [x, y, z] rfl
theorem At.ev4 {f m : Nat} {b : List Sx} (h : At P f b 4 m) (x y z u : D) : evF P (k + 1) f [x, y, z, u] M = tidy M.length (bodyRes (evSs (evF P k) b (some x :: some y :: some z :: some u :: List.replicate (m - 4) none) M)) := h.ev [x, y, z, u] rfl
/-! ### checks -/
def isIntB : List Sx := [.ret (.and (.isi (.var 0) ["int"]) (.not (.isi (.var 0) ["bool"])))]
def withinB (f : Nat) : List Sx := [.ifs (.not (.call f [.var 0] [] [0])) [.ret (.bl false)] [], .ret (.and (.or (.cmp .is (.var 1) .non) (.cmp .ge (.var 0) (.var 1))) (.or (.cmp .is (.var 2) .non) (.cmp .le (.var 0) (.var 2))))]
def letterB (f : Nat) : List Sx := [.ret (.call f [.var 0, .int 0, .bin .sub (.var 1) (.int 1)] [] [0, 1, 2])]
def wordB (f g : Nat) : List Sx := [.ifs (.or (.not (.isi (.var 0) ["list", "tuple"])) (.not (.call f [.bi .len [.var 0], .int 1, .int 200] [] [0, 1, 2]))) [.ret (.bl false)] [], .ret (.bi .all [.lc (.call g [.var 2, .var 1] [] [0, 1]) (.nm 2) (.seq (.var 0)) none [2]])]
@[simp] theorem isi_int_int {i : Int} : isiD ["int"] (.int i) = some true := rfl
@[simp] theorem isi_int_bool {i : Int} : isiD ["bool"] (.int i) = some false := rfl
@[simp] theorem isi_lt_lst {xs : List D} : isiD ["list", "tuple"] (.lst xs) = some true := rfl
@[simp] theorem isi_lt_tup {xs : List D} : isiD ["list", "tuple"] (.tup xs) = some true := rfl
@[simp] theorem isi_lt_scr {xs : List D} : isiD ["list", "tuple"] (.scr xs) = some true := rfl
theorem isInt_ok {f : Nat} (h : At P f isIntB 1 1) (i : Int) : evF P (k + 1) f [.int i] M = .ok (.bl true) M := by
  rw [h.ev1]
  simp [isIntB]
/-- a bound -/
def bdD : Option Int → D
  | none => .non
  | some i => .int i
theorem within_ok {f g : Nat} (h : At P f (withinB g) 3 3) (hg : At P g isIntB 1 1) (i : Int) (lo hi : Option Int) : evF P (k + 2) f [.int i, bdD lo, bdD hi] M = .ok (.bl ((lo.all fun a => decide (a ≤ i)) && (hi.all fun a => decide (i ≤ a)))) M := by
  rw [h.ev3]
  cases lo with
  | none => cases hi <;> simp [withinB, isInt_ok hg, bdD]
  | some a => by_cases z : a ≤ i <;> cases hi <;> simp [withinB, isInt_ok hg, bdD, z]
theorem within_iff {f g : Nat} (h : At P f (withinB g) 3 3) (hg : At P g isIntB 1 1) (i a b : Int) : evF P (k + 2) f [.int i, .int a, .int b] M = .ok (.bl (decide (a ≤ i) && decide (i ≤ b))) M := within_ok h hg i (some a) (some b)
/-! words, as data -/
def ltD (n : Nat) : D := .int n
def wdL (w : List Nat) : D := .lst (w.map ltD)
def wdT (w : List Nat) : D := .tup (w.map ltD)
/-! demands -/
def demNumB (f : Nat) : List Sx := [.ifs (.not (.call f [.var 0, .var 1, .var 2] [] [0, 1, 2])) [.nev] []]
def demWordB (f : Nat) : List Sx := [.ifs (.not (.call f [.var 0, .var 1] [] [0, 1])) [.nev] []]
theorem demNum_ok {f g e : Nat} (h : At P f (demNumB g) 4 4) (hg : At P g (withinB e) 3 3) (he : At P e isIntB 1 1) (i a b : Int) (x : D) (h1 : a ≤ i) (h2 : i ≤ b) : evF P (k + 3) f [.int i, .int a, .int b, x] M = .ok .non M := by
  rw [h.ev4]
  simp [demNumB, within_iff hg he, h1, h2]
end
end Ev
/-! Ev23: all words, the next word, words from behind. -/
namespace Ev
open PySem L2
/-! ### the mathematics -/
/-- how many of the greatest letters stand last -/
def trail (m : Nat) (w : List Nat) : Nat := (w.reverse.takeWhile fun x => x == m).length
/-- the next word -/
def nxt (L : Nat) (w : List Nat) : List Nat :=
  if trail (L - 1) w < w.length then w.take (w.length - 1 - trail (L - 1) w) ++ [(w.getD (w.length - 1 - trail (L - 1) w) 0) + 1] ++ List.replicate (trail (L - 1) w) 0
  else List.replicate (w.length + 1) 0
end Ev
/-! Ev24: words in the program: all of a length, the next one, from behind. -/
namespace Ev
open PySem L2
theorem rng_nat (n : Nat) (h : n < 1000000) : rngD 0 (n : Int) = some ((List.range n).map ltD) := by
  unfold rngD
  rw [if_pos (by omega)]
  congr 1
  rw [show ((n : Int) - 0).toNat = n by omega]
  refine List.map_congr_left fun k _ => ?_
  show D.int (0 + (k : Int)) = .int k
  rw [Int.zero_add]
end Ev
/-! Ev25: the next word, words from behind. -/
namespace Ev
open PySem L2
end Ev
/-! Ev26: drawn lists; texts of words. -/
namespace Ev
open PySem L2
section
variable {M : Mem}
theorem bin_addL {xs ys : List D} (h : xs.length + ys.length ≤ 16777216) : evBin .add (.lst xs) (.lst ys) M = some (.lst (xs ++ ys)) := by
  simp only [evBin, seqC, seqL]
  rw [if_pos trivial, if_pos (by rw [sizeLine_eq]; exact h)]
end
/-! data of words -/
def ltP (n : Nat) : PyData := .int n
def wlP (w : List Nat) : PyData := .list (w.map ltP)
theorem toPds_lt : ∀ w : List Nat, toPds (w.map ltD) = some (w.map ltP)
  | [] => rfl
  | n :: w => by simp [toPds, toPd, ltD, ltP, toPds_lt w]
theorem small_lt : ∀ {w : List Nat}, (∀ n ∈ w, n < 1000000) → smalls (w.map ltP) = true ∧ wts (w.map ltP) = 48 * w.length ∧ PyData.canLayAll0 (w.map ltP) = true ∧ PyData.depthAll (w.map ltP) = 0
  | [], _ => ⟨rfl, rfl, rfl, rfl⟩
  | n :: w, h => by
    obtain ⟨h1, h2, h3, h4⟩ := small_lt (w := w) fun x hx => h x (List.mem_cons_of_mem _ hx)
    have hn := h n (List.mem_cons_self ..)
    have e : -(10 ^ 45) < (n : Int) ∧ (n : Int) < 10 ^ 45 := by omega
    refine ⟨?_, ?_, ?_, ?_⟩
    · simp only [List.map_cons, ltP, smalls, small, h1, Bool.and_true, decide_eq_true e]
    · simp only [List.map_cons, ltP, wts, wt, h2, List.length_cons]; omega
    · simp only [List.map_cons, ltP, PyData.canLayAll0, PyData.canLay0, h3, Bool.and_true]
    · simp only [List.map_cons, ltP, PyData.depthAll, PyData.depth, h4]; rfl
theorem ok_wlP {w : List Nat} (h : ∀ n ∈ w, n < 1000000) : small (wlP w) = true ∧ wt (wlP w) = 48 * w.length + 2 ∧ (wlP w).canLay0 = true ∧ (wlP w).depth = 1 := by
  obtain ⟨h1, h2, h3, h4⟩ := small_lt h
  exact ⟨by simp only [wlP, small, h1], by simp only [wlP, wt, h2], by simp only [wlP, PyData.canLay0, h3], by simp only [wlP, PyData.depth, h4]⟩
theorem shaped_of {p : PyData} (h : p.canLay0 = true) (hd : p.depth ≤ 64) : shapedB p = true := by
  unfold shapedB SeqAt.shaped
  rw [h, decide_eq_true hd]
  rfl
/-! ### draws in a comprehension -/
end Ev
/-! Ev27: checks of any plain value. -/
namespace Ev
open PySem L2
section
variable {Φ : Nat → List D → Mem → Res D} {σ : Env'} {M : Mem}
@[simp] theorem q_dct0 : evE Φ .dct0 σ M = .ok (.dct []) M := by rw [evE]
@[simp] theorem q_dct1 {a b : Ex} : evE Φ (.dct1 a b) σ M = (evE Φ a σ M).bind fun x M1 => (evE Φ b σ M1).bind fun y M2 => match x with
    | .int i => .ok (.dct [(.inl i, y)]) M2
    | .str s => .ok (.dct [(.inr s, y)]) M2
    | _ => .no := by rw [evE]; try rfl
end
def isI : D → Bool
  | .int _ => true
  | _ => false
section
variable {P : List Df} {k : Nat} {M : Mem} {d : D}
theorem blsD_map {α : Type} (g : α → Bool) : ∀ xs : List α, blsD (xs.map fun x => D.bl (g x)) = some (xs.map g)
  | [] => rfl
  | x :: xs => by simp only [List.map_cons, blsD, blsD_map g xs, Option.map_some]
end
/-! == with the empty list -/
end Ev
/-! Ev28: reckoning with instances, dicts, list(range). -/
namespace Ev
open PySem L2
section
variable {Φ : Nat → List D → Mem → Res D} {σ : Env'} {M : Mem}
@[simp] theorem q_fldE {a : Ex} {f : Str} : evE Φ (.fldE a f) σ M = (evE Φ a σ M).bind fun x M1 => match insOf M1 x with
    | some (_, fs) => Res.of (fs.lookup f) M1
    | none => .no := by rw [evE]; try rfl
@[simp] theorem q_mcall {m : Str} {tbl : List (Nat × Nat)} {o : Ex} {es : List Ex} : evE Φ (.mcall m tbl o es) σ M = (evE Φ o σ M).bind fun x M1 => match insOf M1 x with
    | some (c, fs) => if (fs.lookup m).isNone = true then match tbl.lookup c with
      | some i => (evL Φ es σ M1).bind fun ds M2 => Φ i (x :: ds) M2
      | none => .no
      else .no
    | none => .no := by rw [evE]; try rfl
@[simp] theorem q_isc {e : Ex} {x : Str} {subs : List Nat} : evE Φ (.isc e x subs) σ M = (evE Φ e σ M).bind fun d M1 => match d with
    | .ins c _ => .ok (.bl (subs.contains c)) M1
    | _ => .no := by rw [evE]; try rfl
@[simp] theorem q_new {c f : Nat} {es : List Ex} : evE Φ (.new c f es) σ M = (evL Φ es σ M).bind fun ds M1 => (Φ f (.cell M1.length :: ds) (M1 ++ [some (.ins c [])])).bind fun d M2 => match d, M2[M1.length]? with
    | .non, some (some (.ins c' fs)) => .ok (.ins c' fs) (M2.set M1.length none)
    | _, _ => .no := by rw [evE]; try rfl
@[simp] theorem q_dix {o e : Ex} : evE Φ (.dix o e) σ M = (evE Φ o σ M).bind fun x M1 => (evE Φ e σ M1).bind fun y M2 => match x, keyD y with
    | .dct kvs, some k => Res.of (valD kvs k) M2
    | _, _ => .no := by rw [evE]; try rfl
@[simp] theorem q_dgt {o e : Ex} : evE Φ (.dgt o e) σ M = (evE Φ o σ M).bind fun x M1 => match x with
    | .dct kvs => (evE Φ e σ M1).bind fun y M2 => match keyD y with
      | some k => .ok ((valD kvs k).getD .non) M2
      | none => .no
    | _ => .no := by rw [evE]; try rfl
@[simp] theorem q_lrg1 {b : Ex} : evE Φ (.lrg1 b) σ M = (evE Φ b σ M).bind fun y M2 => match y with
    | .int j => match rngD 0 j with
      | some ds => if ds.length ≤ sizeLine then .ok (.lst ds) M2 else .no
      | none => .no
    | _ => .no := by rw [evE]; try rfl
@[simp] theorem q_mrg1 {b : Ex} : evE Φ (.mrg1 b) σ M = (evE Φ b σ M).bind fun y M2 => match y with
    | .int j => match rngD 0 j with
      | some ds => if ds.length ≤ sizeLine then .ok (.cell M2.length) (M2 ++ [some (.lst ds)]) else .no
      | none => .no
    | _ => .no := by rw [evE]; try rfl
@[simp] theorem q_mmul {a b : Ex} : evE Φ (.mmul a b) σ M = (evE Φ a σ M).bind fun x M1 => (evE Φ b σ M1).bind fun y M2 => match x, y with
    | .lst xs, .int k => if -(2 ^ 63) ≤ k ∧ k < 2 ^ 63 ∧ xs.length * k.toNat ≤ sizeLine then .ok (.cell M2.length) (M2 ++ [some (.lst (List.replicate k.toNat xs).flatten)]) else .no
    | _, _ => .no := by rw [evE]; try rfl
@[simp] theorem q_madd {a b : Ex} : evE Φ (.madd a b) σ M = (evE Φ a σ M).bind fun x M1 => (evE Φ b σ M1).bind fun y M2 => match seqC M2 x, seqC M2 y with
    | some xs, some ys => if xs.length + ys.length ≤ sizeLine then .ok (.cell M2.length) (M2 ++ [some (.lst (xs ++ ys))]) else .no
    | _, _ => .no := by rw [evE]; try rfl
@[simp] theorem q_lrg2 {a b : Ex} : evE Φ (.lrg2 a b) σ M = (evE Φ a σ M).bind fun x M1 => (evE Φ b σ M1).bind fun y M2 => match x, y with
    | .int i, .int j => match rngD i j with
      | some ds => if ds.length ≤ sizeLine then .ok (.lst ds) M2 else .no
      | none => .no
    | _, _ => .no := by rw [evE]; try rfl
@[simp] theorem q_fld {a : Ex} {f : Str} {d : D} : evT Φ (.fld a f) d σ M = (evE Φ a σ M).sure.bind fun x M1 => match x with
    | .cell i => match M1[i]? with
      | some (some (.ins c fs)) => if fs.length < 1000 then .ok σ (M1.set i (some (.ins c (putFD f d fs)))) else .no
      | _ => .no
    | _ => .no := by rw [evT]; try rfl
end
/-! dicts over the first numbers -/
/-- a statement that returns -/
theorem evSs_rt {Φ : Nat → List D → Mem → Res D} {s : Sx} {ss : List Sx} {σ : Env'} {M M1 : Mem} {d : D} (h : evS Φ s σ M = .rt d M1) : evSs Φ (s :: ss) σ M = .rt d M1 := by simp [evSs, h, RS.then]
end Ev
/-! Ev30: tables of rules: keys of letters and None, as data. -/
namespace Ev
open PySem L2
def onD : Option Nat → D
  | none => .non
  | some n => .int n
def onN : Option Nat → NestedKey
  | none => .none
  | some n => .num n
def kyD (ks : List (Option Nat)) : D := .tup (ks.map onD)
def kyN (ks : List (Option Nat)) : NestedKey := .tup (ks.map onN)
theorem nk_on (o : Option Nat) : nkD (onD o) = some (onN o) := by cases o <;> simp [onD, onN, nkD]
theorem nks_on : ∀ ks : List (Option Nat), nkDs (ks.map onD) = some (ks.map onN)
  | [] => by simp [nkDs]
  | k :: ks => by simp [nkDs, nk_on, nks_on ks]
theorem kD_on (o : Option Nat) : kD (onN o) = onD o := by cases o <;> simp [onD, onN, kD]
theorem kDs_on : ∀ ks : List (Option Nat), kDs (ks.map onN) = ks.map onD
  | [] => by simp [kDs]
  | k :: ks => by simp [kDs, kD_on, kDs_on ks]
theorem kD_ky (ks : List (Option Nat)) : kD (kyN ks) = kyD ks := by simp [kyN, kyD, kD, kDs_on]
theorem onN_inj {a b : Option Nat} (h : onN a = onN b) : a = b := by
  cases a <;> cases b <;> simp [onN] at h
  · rfl
  · exact congrArg some (by omega)
structure KyOk (W m : Nat) (ks : List (Option Nat)) : Prop where
  len : ks.length = W + 1
  own : ∃ n : Nat, ks[1]? = some (some n)
  lt : ∀ n : Nat, some n ∈ ks → n < m
def GoodR (W m : Nat) (kvs : List (NestedKey × D)) : Prop := (kvs.map (·.1)).Nodup ∧ ∀ p ∈ kvs, ∃ (ks : List (Option Nat)) (n : Nat), p = (kyN ks, D.int (n : Int)) ∧ KyOk W m ks ∧ n < m
theorem valN_none {kvs : List (NestedKey × D)} {k : NestedKey} : valN kvs k = none ↔ k ∉ kvs.map (·.1) := by
  unfold valN
  rw [Option.map_eq_none_iff, List.find?_eq_none]
  simp only [decide_eq_true_eq, List.mem_map, not_exists, not_and]
theorem putKN_new {kvs : List (NestedKey × D)} {k : NestedKey} {d : D} (h : k ∉ kvs.map (·.1)) : putKN kvs k d = kvs ++ [(k, d)] := by
  unfold putKN
  rw [valN_none.mpr h]
  simp
theorem putKN_keys {kvs : List (NestedKey × D)} {k : NestedKey} {d : D} (h : k ∈ kvs.map (·.1)) : putKN kvs k d = kvs.map (fun kv => if kv.1 = k then (kv.1, d) else kv) := by
  unfold putKN
  cases e : valN kvs k with
  | none => exact absurd h (valN_none.mp e)
  | some x => simp
theorem putKN_len {kvs : List (NestedKey × D)} {k : NestedKey} {d : D} : (putKN kvs k d).length ≤ kvs.length + 1 := by
  by_cases h : k ∈ kvs.map (·.1)
  · rw [putKN_keys h]; simp
  · rw [putKN_new h]; simp
theorem good_nil {W m : Nat} : GoodR W m [] := ⟨by simp, fun p hp => by cases hp⟩
theorem good_put {W m : Nat} {kvs : List (NestedKey × D)} {ks : List (Option Nat)} {n : Nat} (g : GoodR W m kvs) (hk : KyOk W m ks) (hn : n < m) : GoodR W m (putKN kvs (kyN ks) (.int n)) := by
  by_cases h : kyN ks ∈ kvs.map (·.1)
  · rw [putKN_keys h]
    refine ⟨?_, fun p hp => ?_⟩
    · have e : (kvs.map (fun kv => if kv.1 = kyN ks then (kv.1, D.int n) else kv)).map (·.1) = kvs.map (·.1) := by
        rw [List.map_map]
        refine List.map_congr_left fun kv _ => ?_
        simp only [Function.comp]
        split <;> rfl
      rw [e]
      exact g.1
    · obtain ⟨q, hq, rfl⟩ := List.mem_map.mp hp
      obtain ⟨ks', n', rfl, h1, h2⟩ := g.2 q hq
      simp only
      split
      · exact ⟨ks', n, rfl, h1, hn⟩
      · exact ⟨ks', n', rfl, h1, h2⟩
  · rw [putKN_new h]
    refine ⟨?_, fun p hp => ?_⟩
    · rw [List.map_append, List.nodup_append]
      refine ⟨g.1, by simp, fun a ha b hb => ?_⟩
      simp only [List.map_cons, List.map_nil, List.mem_singleton] at hb
      subst hb
      rintro rfl
      exact h ha
    · rcases List.mem_append.mp hp with z | z
      · exact g.2 p z
      · rw [List.mem_singleton.mp z]; exact ⟨ks, n, rfl, hk, hn⟩
theorem valN_mem {kvs : List (NestedKey × D)} (hn : (kvs.map (·.1)).Nodup) {p : NestedKey × D} (hp : p ∈ kvs) : valN kvs p.1 = some p.2 := by
  induction kvs with
  | nil => cases hp
  | cons q kvs ih =>
    simp only [List.map_cons, List.nodup_cons] at hn
    rcases List.mem_cons.mp hp with rfl | hp
    · simp [valN]
    · have ne : q.1 ≠ p.1 := fun e => hn.1 (e ▸ List.mem_map_of_mem hp)
      have := ih hn.2 hp
      unfold valN at this ⊢
      rw [List.find?_cons]
      simp only [ne, decide_false]
      exact this
theorem noCell_good {W m : Nat} {kvs : List (NestedKey × D)} (g : GoodR W m kvs) : noCellN kvs = true := by
  have h : ∀ l : List (NestedKey × D), (∀ p ∈ l, ∃ n : Int, p.2 = .int n) → noCellN l = true := fun l => by
    induction l with
    | nil => intro _; simp [noCellN]
    | cons q l ih =>
      intro h
      obtain ⟨n, e⟩ := h q (List.mem_cons_self ..)
      simp [noCellN, e, noCell, ih fun p hp => h p (List.mem_cons_of_mem _ hp)]
  refine h kvs fun p hp => ?_
  obtain ⟨ks, n, rfl, _⟩ := g.2 p hp
  exact ⟨n, rfl⟩
theorem mem_at {M : Mem} {o : Option MO} : (M ++ [o])[M.length]? = some o := by simp
theorem mem_put {M : Mem} {o o' : Option MO} : (M ++ [o]).set M.length o' = M ++ [o'] := by simp
theorem depth_on : ∀ ks : List (Option Nat), NestedKey.depthAll (ks.map onN) = 0
  | [] => by simp [NestedKey.depthAll]
  | k :: ks => by cases k <;> simp [NestedKey.depthAll, NestedKey.depth, onN, depth_on ks]
theorem keyT_ky (ks : List (Option Nat)) : keyT (kyD ks) = some (kyN ks) := by
  simp [keyT, kyD, nks_on, NestedKey.depth, depth_on, kyN]
/-! ### the program's checks of tables -/
section
variable {P : List Df} {k : Nat} {M : Mem}
@[simp] theorem isi_dict {kvs : List (NestedKey × D)} : isiD ["dict"] (.dcn kvs) = some true := rfl
def pairs1 : Sx := .ifs (.isi (.var 0) ["dict"]) [.ret (.dni (.var 0))] []
theorem pairs_ok {f n : Nat} {rest : List Sx} {kvs : List (NestedKey × D)} (h : At P f (pairs1 :: rest) 1 n) : evF P (k + 1) f [.dcn kvs] M = .ok (.lst (kvs.map fun kv => .tup [kD kv.1, kv.2])) M := by
  rw [h.ev1]
  simp [pairs1, dcnOf]
def isKey0 : Sx := .ifs (.or (.not (.isi (.var 0) ["list", "tuple"])) (.cmp .ne (.bi .len [(.var 0)]) (.bin .add (.var 1) (.int 1)))) [.ret (.bl false)] []
def isKeyE (f : Nat) : Ex := .lc (.or (.and (.cmp .is (.var 4) .non) (.cmp .ne (.var 3) (.int 1))) (.call f [(.var 4), (.int 0), (.bin .sub (.var 2) (.int 1))] [] [0, 1, 2])) (.tp [(.nm 3), (.nm 4)]) (.enu (.var 0)) none [3, 4]
def isKeyB (f : Nat) : List Sx := [isKey0, .ret (.bi .all [isKeyE f])]
theorem all_true {ds : List D} : evBi .all [.lst (ds.map fun _ => .bl true)] M = some (.bl true) := by
  have := blsD_map (fun _ : D => true) ds
  simp only [evBi, seqL, Option.bind_some, this, Option.map_some]
  congr 2
  simp
theorem isKey_ok {f g e W m : Nat} {ks : List (Option Nat)} (h : At P f (isKeyB g) 3 5) (hg : At P g (withinB e) 3 3) (he : At P e isIntB 1 1) (hk : KyOk W m ks) (hl : W < 100) : evF P (k + 3) f [kyD ks, .int W, .int m] M = .ok (.bl true) M := by
  rw [h.ev3]
  have s0 : evS (evF P (k + 2)) isKey0 [some (kyD ks), some (.int W), some (.int m), none, none] M = .nx [some (kyD ks), some (.int W), some (.int m), none, none] M := by
    simp [isKey0, kyD, hk.len]
  have lc : evE (evF P (k + 2)) (isKeyE g) [some (kyD ks), some (.int W), some (.int m), none, none] M = .ok (.lst (((ks.map onD).zipIdx.map fun p => D.tup [.int p.2, p.1]).map fun _ => .bl true)) M := by
    refine evE_lcm (by simp [kyD]) (fun x hx => ?_) (by simp [hk.len, sizeLine_eq]; omega)
    obtain ⟨⟨d, j⟩, hj, rfl⟩ := List.mem_map.mp hx
    have hd := List.mem_zipIdx hj
    have hget : (ks.map onD)[j]? = some d := by
      rw [List.mem_zipIdx_iff_getElem?] at hj
      exact hj
    rw [List.getElem?_map] at hget
    obtain ⟨o, ho, rfl⟩ := Option.map_eq_some_iff.mp hget
    obtain ⟨n1, hn1⟩ := hk.own
    cases o with
    | none =>
      have j1 : j ≠ 1 := by
        rintro rfl
        rw [hn1] at ho
        cases ho
      have : ¬ ((j : Int) = 1) := by omega
      simp [lcF, onD, this]
    | some n =>
      have hn := hk.lt n (List.mem_of_getElem? ho)
      have w := within_iff (k := k) (M := M) hg he (n : Int) 0 ((m : Int) - 1)
      have c1 : decide ((0 : Int) ≤ n) = true := by simp
      have c2 : decide ((n : Int) ≤ m - 1) = true := by simp; omega
      rw [c1, c2] at w
      simp [lcF, onD, w]
  show tidy _ (bodyRes (evSs (evF P (k + 2)) [isKey0, .ret (.bi .all [isKeyE g])] [some (kyD ks), some (.int W), some (.int m), none, none] M)) = _
  rw [evSs_cons s0]
  simp only [q_scons, q_ret, q_bi, q_cons, q_nil, lc, Res.bind_ok, all_true, Res.of_some, RS.of_ok]
  simp
/-- steps_told -/
def stepsBd (fk fw : Nat) : List Sx := [.ifs (.or (.not (.call fk [(.var 5), (.var 1), (.var 2)] [] [0, 1, 2])) (.not (.call fw [(.var 6), (.int 0), (.bin .sub (.var 2) (.int 1))] [] [0, 1, 2]))) [.ret .non] [], .asg (.sub (.var 4) (.bi .tuple [(.var 5)])) (.var 6)]
def stepsFor (fk fw : Nat) : Sx := .fors (.tp [(.nm 5), (.nm 6)]) (.seq (.var 3)) (stepsBd fk fw)
def stepsEnd : Sx := .ret (.ite (.cmp .eq (.dnn (.var 4)) (.bi .len [(.var 3)])) (.frz 4) .non)
def stepsB (fp fk fw : Nat) : List Sx := [.asg (.nm 3) (.call fp [(.var 0)] [] [0]), .ifs (.cmp .is (.var 3) .non) [.ret .non] [], .asg (.nm 4) .mdn0, stepsFor fk fw, stepsEnd]
def prD (kvs : List (NestedKey × D)) : List D := kvs.map fun kv => .tup [kD kv.1, kv.2]
theorem take_next {α : Type} {xs : List α} {i : Nat} {x : α} (h : xs[i]? = some x) : xs.take (i + 1) = xs.take i ++ [x] := by
  rw [List.take_add_one, h]; rfl
end
end Ev
/-! Ev31: a table is made, asked. -/
namespace Ev
open PySem L2
section
variable {P : List Df} {k : Nat} {M : Mem}
theorem ints_lt : ∀ ys : List Nat, intsD (ys.map ltD) = some (ys.map fun n : Nat => (n : Int))
  | [] => rfl
  | y :: ys => by simp [intsD, ltD, ints_lt ys]
def lot0 : Sx := .ifs (.not (.isi (.var 0) ["list", "tuple"])) [.ret (.bl false)] []
def lotE (f : Nat) : Ex := .lc (.call f [(.var 2), (.int 0), (.bin .sub (.var 1) (.int 1))] [] [0, 1, 2]) (.nm 2) (.seq (.var 0)) none [2]
def lotB (f : Nat) : List Sx := [lot0, .ifs (.not (.bi .all [lotE f])) [.ret (.bl false)] [], .ret (.cmp .eq (.lset (.var 0)) (.bi .len [(.var 0)]))]
theorem lot_ok {f g e m : Nat} {ys : List Nat} (h : At P f (lotB g) 2 3) (hg : At P g (withinB e) 3 3) (he : At P e isIntB 1 1) (hn : ys.Nodup) (hm : ∀ y ∈ ys, y < m) (hl : ys.length < 64) : evF P (k + 3) f [.lst (ys.map ltD), .int m] M = .ok (.bl true) M := by
  rw [h.ev2]
  have lc : evE (evF P (k + 2)) (lotE g) [some (.lst (ys.map ltD)), some (.int m), none] M = .ok (.lst ((ys.map ltD).map fun _ => .bl true)) M := by
    refine evE_lcm (by simp) (fun x hx => ?_) (by simp [sizeLine_eq]; omega)
    obtain ⟨n, hn, rfl⟩ := List.mem_map.mp hx
    have h2 := hm n hn
    have w := within_iff (k := k) (M := M) hg he (n : Int) 0 ((m : Int) - 1)
    have c1 : decide ((0 : Int) ≤ n) = true := by simp
    have c2 : decide ((n : Int) ≤ m - 1) = true := by simp; omega
    rw [c1, c2] at w
    simp [lcF, ltD, w]
  have nd : (ys.map fun n : Nat => (n : Int)).Nodup := List.pairwise_map.mpr (List.Pairwise.imp (fun h => by omega) hn)
  have s0 : evS (evF P (k + 2)) lot0 [some (.lst (ys.map ltD)), some (.int m), none] M = .nx [some (.lst (ys.map ltD)), some (.int m), none] M := by simp [lot0]
  have s1 : evS (evF P (k + 2)) (.ifs (.not (.bi .all [lotE g])) [.ret (.bl false)] []) [some (.lst (ys.map ltD)), some (.int m), none] M = .nx [some (.lst (ys.map ltD)), some (.int m), none] M := by
    simp only [q_ifs, q_not, q_bi, q_cons, q_nil, lc, Res.bind_ok, all_true, Res.of_some]
    simp
  have s2 : evSs (evF P (k + 2)) [.ret (.cmp .eq (.lset (.var 0)) (.bi .len [(.var 0)]))] [some (.lst (ys.map ltD)), some (.int m), none] M = .rt (.bl true) M := by
    simp [seqL, ints_lt, nd, hl]
  show tidy _ (bodyRes (evSs (evF P (k + 2)) [lot0, .ifs (.not (.bi .all [lotE g])) [.ret (.bl false)] [], .ret (.cmp .eq (.lset (.var 0)) (.bi .len [(.var 0)]))] [some (.lst (ys.map ltD)), some (.int m), none] M)) = _
  rw [evSs_cons s0, evSs_cons s1, s2]
  simp
/-! ### what a table bears -/
def rkI : Option Nat → Int
  | none => -1
  | some n => n
theorem ranks_on : ∀ ks : List (Option Nat), ranksD (ks.map onD) = some (ks.map rkI)
  | [] => rfl
  | k :: ks => by cases k <;> simp [ranksD, ranks_on ks, onD, rankD, rkI]
def keysD (kvs : List (NestedKey × D)) : List D := kvs.map fun kv => kD kv.1
def sortK (kvs : List (NestedKey × D)) : List D := (keysD kvs).mergeSort (PySem.W.dataLe false rankP)
def valOf (kvs : List (NestedKey × D)) (x : D) : D := ((keyT x).bind (valN kvs)).getD .non
def rulesD (kvs : List (NestedKey × D)) : List D := (sortK kvs).map fun x => .tup [x, valOf kvs x]
def tabF (W L m : Nat) (kvs : List (NestedKey × D)) (ys : List Nat) : List (Str × D) := [("ways", .int W), ("letters", .int L), ("worths", .int m), ("rules", .tup (rulesD kvs)), ("yes", .tup (ys.map ltD)), ("_steps", .dcn kvs)]
theorem keysD_mem {W m : Nat} {kvs : List (NestedKey × D)} (g : GoodR W m kvs) {x : D} (hx : x ∈ keysD kvs) : ∃ (ks : List (Option Nat)) (n : Nat), x = kyD ks ∧ KyOk W m ks ∧ valN kvs (kyN ks) = some (.int n) := by
  obtain ⟨kv, hkv, rfl⟩ := List.mem_map.mp hx
  obtain ⟨ks, n, rfl, h1, _⟩ := g.2 kv hkv
  exact ⟨ks, n, kD_ky ks, h1, valN_mem g.1 hkv⟩
theorem srt_keys {W m : Nat} {kvs : List (NestedKey × D)} (g : GoodR W m kvs) (hW : W < 90) (hm : m ≤ 999) : srtD (lenT ((keysD kvs).headD .non)) (keysD kvs) = some (sortK kvs) := by
  unfold srtD
  rw [if_pos, sortK]
  refine List.all_eq_true.mpr fun x hx => ?_
  have hn : lenT ((keysD kvs).headD .non) = W + 1 := by
    cases e : keysD kvs with
    | nil => rw [e] at hx; cases hx
    | cons y l =>
      obtain ⟨ks, _, rfl, h1, _⟩ := keysD_mem g (x := y) (by rw [e]; exact List.mem_cons_self ..)
      simp [lenT, kyD, h1.len]
  rw [hn]
  obtain ⟨ks, _, rfl, h1, _⟩ := keysD_mem g hx
  simp only [rankT, kyD, ranks_on]
  simp only [List.length_map, h1.len, beq_self_eq_true, Bool.true_and, Bool.and_eq_true, decide_eq_true_eq, List.all_eq_true, List.mem_map]
  refine ⟨by omega, fun i hi => ?_⟩
  obtain ⟨o, ho, rfl⟩ := hi
  cases o with
  | none => simp [rkI]
  | some n =>
    have := h1.lt n ho
    simp only [rkI]
    omega
/-- Table.__init__ -/
def ini9 (fr : Nat) : Sx := .asg (.fld (.var 0) "rules") (.bi .tuple [(.lc (.tup [(.var 7), (.dnix (.var 6) (.var 7))]) (.nm 7) (.seq (.srt fr (.dnl (.var 6)))) none [7])])
def iniA (fw fs fl : Nat) : List Sx := [.ifs (.not (.call fw [(.var 1), (.int 1), (.int 2)] [] [0, 1, 2])) [.nev] [], .ifs (.not (.call fw [(.var 2), (.int 1), (.int 6)] [] [0, 1, 2])) [.nev] [], .ifs (.not (.call fw [(.var 3), (.var 2), (.int 12)] [] [0, 1, 2])) [.nev] [],
  .asg (.nm 6) (.call fs [(.var 4), (.var 1), (.var 3)] [] [0, 1, 2]), .ifs (.cmp .is (.var 6) .non) [.nev] [], .ifs (.not (.call fl [(.var 5), (.var 3)] [] [0, 1])) [.nev] []]
def iniC (fr : Nat) : List Sx := [.asg (.fld (.var 0) "ways") (.var 1), .asg (.fld (.var 0) "letters") (.var 2), .asg (.fld (.var 0) "worths") (.var 3), ini9 fr,
  .asg (.fld (.var 0) "yes") (.bi .tuple [(.bi .sorted [(.var 5)])]), .asg (.fld (.var 0) "_steps") (.var 6)]
def iniB (fw fs fl fr : Nat) : List Sx := iniA fw fs fl ++ iniC fr
theorem rules_lc {Φ : Nat → List D → Mem → Res D} {fr W m : Nat} {kvs : List (NestedKey × D)} {σ : Env'} (g : GoodR W m kvs) (hW : W ≤ 2) (hm : m ≤ 12) (hn : kvs.length ≤ 1000) (hl : σ.length = 8) (h6 : σ[6]? = some (some (.dcn kvs))) :
    evE Φ (.lc (.tup [(.var 7), (.dnix (.var 6) (.var 7))]) (.nm 7) (.seq (.srt fr (.dnl (.var 6)))) none [7]) σ M = .ok (.lst (rulesD kvs)) M := by
  refine evE_lcm ?_ (fun x hx => ?_) ?_
  · have := srt_keys g (by omega) (by omega)
    unfold keysD at this
    simp only [q_seq, q_srt, q_dnl, q_var, h6, dcnOf, Res.bind_ok, seqL, this, Option.map_some, Res.of_some]
  · have hx' : x ∈ keysD kvs := (List.mergeSort_perm _ _).mem_iff.mp hx
    obtain ⟨ks, n, rfl, h1, h2⟩ := keysD_mem g hx'
    have kt := keyT_ky ks
    have e6 : ((σ.set 7 none).set 7 (some (kyD ks)))[6]? = some (some (.dcn kvs)) := by
      rw [List.getElem?_set_ne (by omega), List.getElem?_set_ne (by omega), h6]
    have e7 : ((σ.set 7 none).set 7 (some (kyD ks)))[7]? = some (some (kyD ks)) := by
      rw [List.getElem?_set_self (by simp; omega)]
    have sz : ([kyD ks, D.int n] : List D).length ≤ sizeLine := by rw [sizeLine_eq]; simp
    simp only [lcF, wipeD_cons, wipeD_nil, q_nm, Res.bind_ok, q_cnone, if_true, q_tup, q_cons, q_nil, q_dnix, q_var, e6, e7, dcnOf, kt, h2, Res.of_some, sz, valOf, Option.bind_some, Option.getD_some]
  · have : (sortK kvs).length = kvs.length := by rw [sortK, List.length_mergeSort, keysD, List.length_map]
    rw [this, sizeLine_eq]
    omega
end
end Ev
/-! Ev32: a table is asked. -/
namespace Ev
open PySem L2
section
variable {P : List Df} {k : Nat} {M : Mem} {W L m c : Nat} {kvs : List (NestedKey × D)} {ys : List Nat}
def tabO (c W L m : Nat) (kvs : List (NestedKey × D)) (ys : List Nat) : D := .ins c (tabF W L m kvs ys)
theorem begin_ok {f : Nat} (h : At P f [.ret (.var 1)] 2 2) (x y : D) : evF P (k + 1) f [x, y] M = .ok y M := by
  rw [h.ev2]
  simp
def tnextB : List Sx := [.asg (.nm 4) (.ite (.cmp .eq (.fldE (.var 0) "ways") (.int 1)) (.tup [(.var 1), (.var 2)]) (.tup [(.var 1), (.var 2), (.var 3)])), .ret (.dng2 (.fldE (.var 0) "_steps") (.var 4) (.var 2))]
theorem q_dng2f {Φ : Nat → List D → Mem → Res D} {σ : Env'} {o e f : Ex} {kvs : List (NestedKey × D)} {y z : D} {key : NestedKey} (ho : evE Φ o σ M = .ok (.dcn kvs) M) (he : evE Φ e σ M = .ok y M) (hk : keyT y = some key) (hf : evE Φ f σ M = .ok z M) :
    evE Φ (.dng2 o e f) σ M = .ok ((valN kvs key).getD z) M := by
  simp only [q_dng2, ho, he, hf, Res.bind_ok, dcnOf, hk]
theorem fld_tab {Φ : Nat → List D → Mem → Res D} {σ : Env'} {i : Nat} {f : Str} {d : D} (h : σ[i]? = some (some (tabO c W L m kvs ys))) (hf : (tabF W L m kvs ys).lookup f = some d) : evE Φ (.fldE (.var i) f) σ M = .ok d M := by
  simp only [q_fldE, q_var, h, Res.bind_ok, tabO, insOf, hf, Res.of_some]
theorem tnext_ok {f : Nat} {x y z : D} {key : NestedKey} (h : At P f tnextB 4 5) (hk : keyT (if W = 1 then .tup [x, y] else .tup [x, y, z]) = some key) : evF P (k + 1) f [tabO c W L m kvs ys, x, y, z] M = .ok ((valN kvs key).getD y) M := by
  rw [h.ev4]
  have e1 : ∀ σ : Env', σ[0]? = some (some (tabO c W L m kvs ys)) → evE (evF P k) (.fldE (.var 0) "ways") σ M = .ok (.int W) M := fun σ hs => fld_tab hs rfl
  have e2 : ∀ σ : Env', σ[0]? = some (some (tabO c W L m kvs ys)) → evE (evF P k) (.fldE (.var 0) "_steps") σ M = .ok (.dcn kvs) M := fun σ hs => fld_tab hs rfl
  have s0 : evS (evF P k) (.asg (.nm 4) (.ite (.cmp .eq (.fldE (.var 0) "ways") (.int 1)) (.tup [(.var 1), (.var 2)]) (.tup [(.var 1), (.var 2), (.var 3)]))) [some (tabO c W L m kvs ys), some x, some y, some z, none] M = .nx [some (tabO c W L m kvs ys), some x, some y, some z, some (if W = 1 then .tup [x, y] else .tup [x, y, z])] M := by
    by_cases hw : W = 1
    · subst hw
      simp [e1, sizeLine_eq]
    · have : ¬ ((W : Int) = 1) := by omega
      simp [e1, this, hw, sizeLine_eq]
  have s1 : evSs (evF P k) [.ret (.dng2 (.fldE (.var 0) "_steps") (.var 4) (.var 2))] [some (tabO c W L m kvs ys), some x, some y, some z, some (if W = 1 then .tup [x, y] else .tup [x, y, z])] M = .rt ((valN kvs key).getD y) M := by
    refine evSs_ret (q_dng2f (e2 _ rfl) (y := if W = 1 then .tup [x, y] else .tup [x, y, z]) ?_ hk ?_)
    · simp only [q_var, List.getElem?_cons_succ, List.getElem?_cons_zero]
    · simp only [q_var, List.getElem?_cons_succ, List.getElem?_cons_zero]
  show tidy _ (bodyRes (evSs (evF P k) [.asg (.nm 4) (.ite (.cmp .eq (.fldE (.var 0) "ways") (.int 1)) (.tup [(.var 1), (.var 2)]) (.tup [(.var 1), (.var 2), (.var 3)])), .ret (.dng2 (.fldE (.var 0) "_steps") (.var 4) (.var 2))] [some (tabO c W L m kvs ys), some x, some y, some z, none] M)) = _
  rw [evSs_cons s0, s1, bodyRes_rt, tidy_self]
theorem in_ys (w : Nat) : inD M (.int w) (.tup (ys.map ltD)) = some (decide (w ∈ ys)) := by
  have f : (ys.map ltD).all flatE = true := List.all_eq_true.mpr fun x hx => by
    obtain ⟨n, _, rfl⟩ := List.mem_map.mp hx
    rfl
  have t : toPd (now M (.tup (ys.map ltD))) = some (.tuple (ys.map ltP)) := by simp [now, seqL, toPd, toPds_lt]
  have a : ((ys.map ltD).any fun z => eqF z (.int w)) = decide (w ∈ ys) := by
    rw [Bool.eq_iff_iff]
    simp only [List.any_eq_true, List.mem_map, decide_eq_true_eq]
    constructor
    · rintro ⟨_, ⟨n, hn, rfl⟩, h⟩
      simp only [ltD, eqF, decide_eq_true_eq] at h
      have : n = w := by omega
      exact this ▸ hn
    · intro h
      exact ⟨_, ⟨w, h, rfl⟩, by simp [ltD, eqF]⟩
  simp only [inD, now, seqL, toPd, toPds_lt, Option.map_some]
  simp only [flatE, f, Bool.and_self, if_true, a]
theorem in_yl (w : Nat) (hl : ys.length < 1000) (hm : ∀ y ∈ ys, y < 1000000) : inD M (.int w) (.lst (ys.map ltD)) = some (decide (w ∈ ys)) := by
  have t : toPd (now M (.lst (ys.map ltD))) = some (.list (ys.map ltP)) := by simp [now, seqL, toPd, toPds_lt]
  have sh : shapedB (.list (ys.map ltP)) = true := by
    obtain ⟨_, _, h3, h4⟩ := ok_wlP hm
    exact shaped_of h3 (by unfold wlP at h4; omega)
  have a : ((ys.map ltP).any fun z => PyData.eqv z (.int w)) = decide (w ∈ ys) := by
    rw [Bool.eq_iff_iff]
    simp only [List.any_eq_true, List.mem_map, decide_eq_true_eq]
    constructor
    · rintro ⟨_, ⟨n, hn, rfl⟩, h⟩
      have h1 : (n : Int) = w := by simpa [ltP, PyData.eqv] using h
      have : n = w := by omega
      exact this ▸ hn
    · intro h
      exact ⟨_, ⟨w, h, rfl⟩, by simp [ltP, PyData.eqv]⟩
  have s2 : shapedB (.int w) = true := rfl
  simp only [inD, now, seqL, toPd, toPds_lt, Option.map_some, sh, s2, Bool.and_self, if_true, a]
theorem says_ok {f : Nat} (h : At P f [.ret (.cmp .inn (.var 1) (.fldE (.var 0) "yes"))] 2 2) (w : Nat) : evF P (k + 1) f [tabO c W L m kvs ys, .int w] M = .ok (.bl (decide (w ∈ ys))) M := by
  rw [h.ev2]
  have e1 : evE (evF P k) (.fldE (.var 0) "yes") [some (tabO c W L m kvs ys), some (.int w)] M = .ok (.tup (ys.map ltD)) M := fld_tab rfl rfl
  have e2 : evE (evF P k) (.cmp .inn (.var 1) (.fldE (.var 0) "yes")) [some (tabO c W L m kvs ys), some (.int w)] M = .ok (.bl (decide (w ∈ ys))) M := evE_cmp (x := .int w) (by simp) e1 (by rw [cmp_inn, in_ys])
  show tidy _ (bodyRes (evSs (evF P k) [.ret (.cmp .inn (.var 1) (.fldE (.var 0) "yes"))] [some (tabO c W L m kvs ys), some (.int w)] M)) = _
  rw [evSs_ret e2, bodyRes_rt, tidy_self]
end
end Ev
/-! Ev33: strips of tables: the mathematics, the program's own. -/
namespace Ev
open PySem L2
section
variable {P : List Df} {k : Nat} {M : Mem} {W L m c : Nat} {kvs : List (NestedKey × D)} {ys : List Nat}
def tk (W : Nat) (l : Option Nat) (o : Nat) (r : Option Nat) : List (Option Nat) := if W = 1 then [l, some o] else [l, some o, r]
def wv (W : Nat) (kvs : List (NestedKey × D)) (l : Option Nat) (o : Nat) (r : Option Nat) : Nat := match valN kvs (kyN (tk W l o r)) with
  | some (.int i) => i.toNat
  | _ => o
theorem wv_val (g : GoodR W m kvs) (l : Option Nat) (o : Nat) (r : Option Nat) : (valN kvs (kyN (tk W l o r))).getD (.int o) = .int (wv W kvs l o r : Nat) := by
  unfold wv
  cases e : valN kvs (kyN (tk W l o r)) with
  | none => rfl
  | some d =>
    unfold valN at e
    obtain ⟨kv, hkv, rfl⟩ := Option.map_eq_some_iff.mp e
    obtain ⟨ks', n, rfl, _, hn⟩ := g.2 kv (List.mem_of_find?_eq_some hkv)
    simp
theorem wv_lt (g : GoodR W m kvs) {l : Option Nat} {o : Nat} {r : Option Nat} (ho : o < m) : wv W kvs l o r < m := by
  unfold wv
  cases e : valN kvs (kyN (tk W l o r)) with
  | none => exact ho
  | some d =>
    unfold valN at e
    obtain ⟨kv, hkv, rfl⟩ := Option.map_eq_some_iff.mp e
    obtain ⟨ks', n, rfl, _, hn⟩ := g.2 kv (List.mem_of_find?_eq_some hkv)
    simpa using hn
theorem tk_key (W : Nat) (l : Option Nat) (o : Nat) (r : Option Nat) : keyT (if W = 1 then .tup [onD l, .int o] else .tup [onD l, .int o, onD r]) = some (kyN (tk W l o r)) := by
  unfold tk
  split
  · exact keyT_ky [l, some o]
  · exact keyT_ky [l, some o, r]
/-! a step of all cells -/
theorem lcGo_mapM {α : Type} {F : D → Mem → Res (Option D)} {mk g : α → D} : ∀ (l : List α) (acc : List D), (∀ p ∈ l, F (mk p) M = .ok (some (g p)) M) → acc.length + l.length ≤ sizeLine → lcGo F (l.map mk) acc M = .ok (acc ++ l.map g) M
  | [], acc, _, _ => by simp [lcGo]
  | x :: l, acc, h, hl => by
    simp only [List.length_cons] at hl
    rw [List.map_cons, lcGo, h x (List.mem_cons_self ..)]
    simp only
    rw [if_pos (by omega), lcGo_mapM l (acc ++ [g x]) (fun p hp => h p (List.mem_cons_of_mem _ hp)) (by simp only [List.length_append, List.length_singleton]; omega)]
    simp
theorem evE_lcM {α : Type} {Φ : Nat → List D → Mem → Res D} {e : Ex} {t : Tg} {it : It} {c : Option Ex} {vs : List Nat} {σ : Env'} {M1 : Mem} {l : List α} {mk g : α → D} (hi : evI Φ it σ M = .ok (l.map mk) M1) (h : ∀ p ∈ l, lcF Φ e t c vs σ (mk p) M1 = .ok (some (g p)) M1) (hl : l.length ≤ sizeLine) :
    evE Φ (.lc e t it c vs) σ M = .ok (.lst (l.map g)) M1 := by
  simp only [evE, hi, Res.bind_ok]
  show (lcGo (lcF Φ e t c vs σ) (l.map mk) [] M1).bind _ = _
  rw [lcGo_mapM l [] h (by simpa using hl)]
  simp
end
end Ev
/-! Ev34: the program's strip of a table. -/
namespace Ev
open PySem L2
section
variable {P : List Df} {k : Nat} {M : Mem} {W L m c : Nat} {kvs : List (NestedKey × D)} {ys : List Nat}
def demRowB (subs : List Nat) : List Sx := [.ifs (.not (.isc (.var 0) "Row" subs)) [.nev] []]
end
end Ev
/-! Ev35: reckoning step by step: what is left to show, behind each step. -/
namespace Ev
open PySem L2
section
variable {Φ : Nat → List D → Mem → Res D} {σ : Env'} {M : Mem}
structure GE (Φ : Nat → List D → Mem → Res D) (e : Ex) (σ : Env') (M : Mem) (Q : D → Mem → Prop) : Prop where
  r : ∃ d M1, evE Φ e σ M = .ok d M1 ∧ Q d M1
structure GL (Φ : Nat → List D → Mem → Res D) (es : List Ex) (σ : Env') (M : Mem) (Q : List D → Mem → Prop) : Prop where
  r : ∃ d M1, evL Φ es σ M = .ok d M1 ∧ d.length = es.length ∧ Q d M1
structure GK (Φ : Nat → List D → Mem → Res D) (es : List (Str × Ex)) (σ : Env') (M : Mem) (Q : List D → Mem → Prop) : Prop where
  r : ∃ d M1, evK Φ es σ M = .ok d M1 ∧ Q d M1
structure GO (Φ : Nat → List D → Mem → Res D) (e : Option Ex) (σ : Env') (M : Mem) (Q : Option Int → Mem → Prop) : Prop where
  r : ∃ d M1, evO Φ e σ M = .ok d M1 ∧ Q d M1
structure GCo (Φ : Nat → List D → Mem → Res D) (e : Option Ex) (σ : Env') (M : Mem) (Q : Bool → Mem → Prop) : Prop where
  r : ∃ d M1, evC Φ e σ M = .ok d M1 ∧ Q d M1
structure GI (Φ : Nat → List D → Mem → Res D) (e : It) (σ : Env') (M : Mem) (Q : List D → Mem → Prop) : Prop where
  r : ∃ d M1, evI Φ e σ M = .ok d M1 ∧ Q d M1
structure GT (Φ : Nat → List D → Mem → Res D) (t : Tg) (x : D) (σ : Env') (M : Mem) (Q : Env' → Mem → Prop) : Prop where
  r : ∃ d M1, evT Φ t x σ M = .ok d M1 ∧ Q d M1
structure GTs (Φ : Nat → List D → Mem → Res D) (t : List Tg) (x : List D) (σ : Env') (M : Mem) (Q : Env' → Mem → Prop) : Prop where
  r : ∃ d M1, evTs Φ t x σ M = .ok d M1 ∧ Q d M1
/-- a call -/
structure GF (Φ : Nat → List D → Mem → Res D) (f : Nat) (ds : List D) (M : Mem) (Q : D → Mem → Prop) : Prop where
  r : ∃ d M1, Φ f ds M = .ok d M1 ∧ Q d M1
structure GV {α : Type} (o : Option α) (Q : α → Prop) : Prop where
  r : ∃ a, o = some a ∧ Q a
structure GB (b : Bool) (p q : Prop) : Prop where
  t : b = true → p
  f : b = false → q
structure GS (Φ : Nat → List D → Mem → Res D) (ss : List Sx) (σ : Env') (M : Mem) (Q : RS → Prop) : Prop where
  r : Q (evSs Φ ss σ M)
/-- behind a body -/
structure GR (n : Nat) (r : RS) (Q : D → Mem → Prop) : Prop where
  r : ∃ d M1, tidy n (bodyRes r) = .ok d M1 ∧ Q d M1
variable {Q : D → Mem → Prop} {d : D}
theorem GV.of {α : Type} {o : Option α} {Q : α → Prop} {a : α} (h : o = some a) (q : Q a) : GV o Q := ⟨a, h, q⟩
theorem GB.tt {b : Bool} {p q : Prop} (h : b = true) (x : p) : GB b p q := ⟨fun _ => x, fun z => by rw [h] at z; exact absurd z (by decide)⟩
theorem GB.ff {b : Bool} {p q : Prop} (h : b = false) (x : q) : GB b p q := ⟨fun z => by rw [h] at z; exact absurd z (by decide), fun _ => x⟩
theorem GB.dt {P p q : Prop} [Decidable P] (h : P) (x : p) : GB (decide P) p q := .tt (decide_eq_true h) x
theorem GB.df {P p q : Prop} [Decidable P] (h : ¬ P) (x : q) : GB (decide P) p q := .ff (decide_eq_false h) x
theorem GB.dd {P p q : Prop} [Decidable P] (x : P → p) (y : ¬ P → q) : GB (decide P) p q := ⟨fun h => x (of_decide_eq_true h), fun h => y (of_decide_eq_false h)⟩
theorem GB.same {α : Type} [DecidableEq α] {a b : α} {p q : Prop} (h : a = b) (y : q) : GB (!decide (a = b)) p q := .ff (by simp [h]) y
theorem GE.eq {e : Ex} {M1 : Mem} (h : evE Φ e σ M = .ok d M1) (q : Q d M1) : GE Φ e σ M Q := ⟨d, M1, h, q⟩
theorem GE.imp {e : Ex} {Q' : D → Mem → Prop} (h : GE Φ e σ M Q') (q : ∀ d M1, Q' d M1 → Q d M1) : GE Φ e σ M Q := by
  obtain ⟨d, M1, a, b⟩ := h.r
  exact ⟨d, M1, a, q d M1 b⟩
theorem GF.eq {f : Nat} {ds : List D} {M1 : Mem} (h : Φ f ds M = .ok d M1) (q : Q d M1) : GF Φ f ds M Q := ⟨d, M1, h, q⟩
theorem GF.to {f : Nat} {ds : List D} {M1 : Mem} (h : GF Φ f ds M fun x M' => x = d ∧ M' = M1) : Φ f ds M = .ok d M1 := by
  obtain ⟨x, M', a, rfl, rfl⟩ := h.r
  exact a
theorem GE.to {e : Ex} {M1 : Mem} (h : GE Φ e σ M fun x M' => x = d ∧ M' = M1) : evE Φ e σ M = .ok d M1 := by
  obtain ⟨x, M', a, rfl, rfl⟩ := h.r
  exact a
theorem GF.imp {f : Nat} {ds : List D} {Q' : D → Mem → Prop} (h : GF Φ f ds M Q') (q : ∀ d M1, Q' d M1 → Q d M1) : GF Φ f ds M Q := by
  obtain ⟨d, M1, a, b⟩ := h.r
  exact ⟨d, M1, a, q d M1 b⟩
/-! expressions -/
theorem GE.var {i : Nat} (h : σ[i]? = some (some d)) (q : Q d M) : GE Φ (.var i) σ M Q := ⟨d, M, by rw [q_var, h], q⟩
theorem GE.int {i : Int} (q : Q (.int i) M) : GE Φ (.int i) σ M Q := ⟨_, _, q_int, q⟩
theorem GE.str {s : Str} (q : Q (.str s) M) : GE Φ (.str s) σ M Q := ⟨_, _, q_str, q⟩
theorem GE.bl {b : Bool} (q : Q (.bl b) M) : GE Φ (.bl b) σ M Q := ⟨_, _, q_bl, q⟩
theorem GE.non (q : Q .non M) : GE Φ .non σ M Q := ⟨_, _, q_non, q⟩
theorem GE.bin {o : BO} {a b : Ex} (h : GE Φ a σ M fun x M1 => GE Φ b σ M1 fun y M2 => GV (evBin o x y M2) fun z => Q z M2) : GE Φ (.bin o a b) σ M Q := by
  obtain ⟨x, M1, ea, h⟩ := h.r
  obtain ⟨y, M2, eb, h⟩ := h.r
  obtain ⟨z, ez, h⟩ := h.r
  exact ⟨z, M2, by simp only [q_bin, ea, eb, Res.bind_ok, ez, Res.of_some], h⟩
theorem GE.cmp {o : CO} {a b : Ex} (h : GE Φ a σ M fun x M1 => GE Φ b σ M1 fun y M2 => GV (cmpD o M2 x y) fun z => Q (.bl z) M2) : GE Φ (.cmp o a b) σ M Q := by
  obtain ⟨x, M1, ea, h⟩ := h.r
  obtain ⟨y, M2, eb, h⟩ := h.r
  obtain ⟨z, ez, h⟩ := h.r
  exact ⟨.bl z, M2, by simp only [q_cmp, ea, eb, Res.bind_ok, ez, Option.map_some, Res.of_some], h⟩
theorem GE.chn {o p : CO} {a b c : Ex} (h : GE Φ a σ M fun x M1 => GE Φ b σ M1 fun y M2 => GV (cmpD o M2 x y) fun r => GB r (GE Φ c σ M2 fun z M3 => GV (cmpD p M3 y z) fun u => Q (.bl u) M3) (Q (.bl false) M2)) : GE Φ (.chn o p a b c) σ M Q := by
  obtain ⟨x, M1, ea, h⟩ := h.r
  obtain ⟨y, M2, eb, h⟩ := h.r
  obtain ⟨r, er, h⟩ := h.r
  cases r with
  | true =>
    obtain ⟨z, M3, ec, h⟩ := (h.t rfl).r
    obtain ⟨u, eu, h⟩ := h.r
    exact ⟨.bl u, M3, by simp only [q_chn, ea, eb, Res.bind_ok, er, ec, eu, Option.map_some, Res.of_some], h⟩
  | false => exact ⟨.bl false, M2, by simp only [q_chn, ea, eb, Res.bind_ok, er], h.f rfl⟩
theorem GE.and {a b : Ex} (h : GE Φ a σ M fun x M1 => GV (truth M1 x) fun t => GB t (GE Φ b σ M1 Q) (Q x M1)) : GE Φ (.and a b) σ M Q := by
  obtain ⟨x, M1, ea, h⟩ := h.r
  obtain ⟨t, et, h⟩ := h.r
  cases t with
  | true =>
    obtain ⟨y, M2, eb, h⟩ := (h.t rfl).r
    exact ⟨y, M2, by simp only [q_and, ea, eb, Res.bind_ok, et], h⟩
  | false => exact ⟨x, M1, by simp only [q_and, ea, Res.bind_ok, et], h.f rfl⟩
theorem GE.or {a b : Ex} (h : GE Φ a σ M fun x M1 => GV (truth M1 x) fun t => GB t (Q x M1) (GE Φ b σ M1 Q)) : GE Φ (.or a b) σ M Q := by
  obtain ⟨x, M1, ea, h⟩ := h.r
  obtain ⟨t, et, h⟩ := h.r
  cases t with
  | false =>
    obtain ⟨y, M2, eb, h⟩ := (h.f rfl).r
    exact ⟨y, M2, by simp only [q_or, ea, eb, Res.bind_ok, et], h⟩
  | true => exact ⟨x, M1, by simp only [q_or, ea, Res.bind_ok, et], h.t rfl⟩
theorem GE.not {a : Ex} (h : GE Φ a σ M fun x M1 => GV (truth M1 x) fun t => Q (.bl (!t)) M1) : GE Φ (.not a) σ M Q := by
  obtain ⟨x, M1, ea, h⟩ := h.r
  obtain ⟨t, et, h⟩ := h.r
  exact ⟨.bl (!t), M1, by simp only [q_not, ea, Res.bind_ok, et, Option.map_some, Res.of_some], h⟩
def intOf : D → Option Int
  | .int i => some i
  | _ => none
theorem intOf_some {x : D} {i : Int} (h : intOf x = some i) : x = .int i := by
  cases x <;> simp only [intOf, reduceCtorEq, Option.some.injEq] at h
  rw [h]
theorem GE.neg {a : Ex} (h : GE Φ a σ M fun x M1 => GV (intOf x) fun i => Q (.int (-i)) M1) : GE Φ (.neg a) σ M Q := by
  obtain ⟨x, M1, ea, h⟩ := h.r
  obtain ⟨i, ei, h⟩ := h.r
  rw [intOf_some ei] at ea
  exact ⟨_, M1, by simp only [q_neg, ea, Res.bind_ok], h⟩
theorem GE.ite {c a b : Ex} (h : GE Φ c σ M fun x M1 => GV (truth M1 x) fun t => GB t (GE Φ a σ M1 Q) (GE Φ b σ M1 Q)) : GE Φ (.ite c a b) σ M Q := by
  obtain ⟨x, M1, ea, h⟩ := h.r
  obtain ⟨t, et, h⟩ := h.r
  cases t with
  | true =>
    obtain ⟨y, M2, eb, h⟩ := (h.t rfl).r
    exact ⟨y, M2, by simp only [q_ite, ea, eb, Res.bind_ok, et], h⟩
  | false =>
    obtain ⟨y, M2, eb, h⟩ := (h.f rfl).r
    exact ⟨y, M2, by simp only [q_ite, ea, eb, Res.bind_ok, et], h⟩
def few9 (n : Nat) : Bool := decide (n ≤ 1000)
theorem few9_ok {n : Nat} (h : few9 n = true) : n ≤ sizeLine := by rw [sizeLine_eq]; have := of_decide_eq_true h; omega
theorem GE.tup {es : List Ex} (n : few9 es.length = true) (h : GL Φ es σ M fun ds M1 => Q (.tup ds) M1) : GE Φ (.tup es) σ M Q := by
  obtain ⟨ds, M1, ea, el, h⟩ := h.r
  have := few9_ok n
  exact ⟨.tup ds, M1, by simp only [q_tup, ea, Res.bind_ok, el, this, if_true], h⟩
theorem GE.stup {a : Ex} {es : List Ex} (h : GE Φ a σ M fun x M1 => GV (seqA M1 x) fun xs => GL Φ es σ M1 fun ds M2 => xs.length + es.length ≤ 16777216 ∧ Q (.tup (xs ++ ds)) M2) : GE Φ (.stup a es) σ M Q := by
  obtain ⟨x, M1, ea, h⟩ := h.r
  obtain ⟨xs, ex, h⟩ := h.r
  obtain ⟨ds, M2, eb, el, n, h⟩ := h.r
  have : xs.length + ds.length ≤ sizeLine := by rw [sizeLine_eq, el]; exact n
  exact ⟨_, M2, by simp only [q_stup, ea, Res.bind_ok, ex, eb, this, if_true], h⟩
theorem GE.lst {es : List Ex} (n : few9 es.length = true) (h : GL Φ es σ M fun ds M1 => Q (.lst ds) M1) : GE Φ (.lst es) σ M Q := by
  obtain ⟨ds, M1, ea, el, h⟩ := h.r
  have := few9_ok n
  exact ⟨.lst ds, M1, by simp only [q_lst, ea, Res.bind_ok, el, this, if_true], h⟩
theorem GE.mls {es : List Ex} (n : few9 es.length = true) (h : GL Φ es σ M fun ds M1 => Q (.cell M1.length) (M1 ++ [some (.lst ds)])) : GE Φ (.mls es) σ M Q := by
  obtain ⟨ds, M1, ea, el, h⟩ := h.r
  have := few9_ok n
  exact ⟨_, _, by simp only [q_mls, ea, Res.bind_ok, el, this, if_true], h⟩
theorem GE.ix {a b : Ex} (h : GE Φ a σ M fun x M1 => GE Φ b σ M1 fun y M2 => GV (ixD M2 x y) fun z => Q z M2) : GE Φ (.ix a b) σ M Q := by
  obtain ⟨x, M1, ea, h⟩ := h.r
  obtain ⟨y, M2, eb, h⟩ := h.r
  obtain ⟨z, ez, h⟩ := h.r
  exact ⟨z, M2, by simp only [q_ix, ea, eb, Res.bind_ok, ez, Res.of_some], h⟩
theorem GE.slc {a : Ex} {lo hi : Option Ex} (h : GE Φ a σ M fun x M1 => GO Φ lo σ M1 fun l M2 => GO Φ hi σ M2 fun u M3 => GV (slcD M3 x l u) fun z => Q z M3) : GE Φ (.slc a lo hi) σ M Q := by
  obtain ⟨x, M1, ea, h⟩ := h.r
  obtain ⟨y, M2, eb, h⟩ := h.r
  obtain ⟨y', M3, ec, h⟩ := h.r
  obtain ⟨z, ez, h⟩ := h.r
  exact ⟨z, M3, by simp only [q_slc, ea, eb, ec, Res.bind_ok, ez, Res.of_some], h⟩
theorem GE.rev {a : Ex} (h : GE Φ a σ M fun x M1 => GV (revD M1 x) fun z => Q z M1) : GE Φ (.rev a) σ M Q := by
  obtain ⟨x, M1, ea, h⟩ := h.r
  obtain ⟨z, ez, h⟩ := h.r
  exact ⟨z, M1, by simp only [q_rev, ea, Res.bind_ok, ez, Res.of_some], h⟩
theorem GO.none {Q : Option Int → Mem → Prop} (q : Q none M) : GO Φ none σ M Q := ⟨_, _, q_onone, q⟩
theorem GO.some {e : Ex} {Q : Option Int → Mem → Prop} (h : GE Φ e σ M fun x M1 => GV (intOf x) fun i => Q (some i) M1) : GO Φ (some e) σ M Q := by
  obtain ⟨x, M1, ea, h⟩ := h.r
  obtain ⟨i, ei, h⟩ := h.r
  rw [intOf_some ei] at ea
  exact ⟨_, M1, by simp only [q_osome, ea, Res.bind_ok], h⟩
/-- a call's values, as the def takes them -/
def picks (pm : List Nat) (ds : List D) : List D := pm.map fun i => (ds[i]?).getD .non
theorem picks_nil {ds : List D} : picks [] ds = [] := rfl
theorem picks_cons {i : Nat} {pm : List Nat} {ds : List D} : picks (i :: pm) ds = (ds[i]?).getD .non :: picks pm ds := rfl
theorem picks_id : ∀ (ds : List D), picks (List.range ds.length) ds = ds := fun ds => by
  refine List.ext_getElem? fun i => ?_
  unfold picks
  rw [List.getElem?_map]
  by_cases h : i < ds.length
  · rw [List.getElem?_range h, List.getElem?_eq_getElem h]
    simp [h]
  · rw [List.getElem?_eq_none (by simpa using h), List.getElem?_eq_none (by simpa using h)]
    rfl
theorem GE.call0 {f : Nat} {es : List Ex} {pm : List Nat} (hp : pm = List.range es.length) (h : GL Φ es σ M fun ds M1 => GF Φ f ds M1 Q) : GE Φ (.call f es [] pm) σ M Q := by
  obtain ⟨ds, M1, ea, el, h⟩ := h.r
  obtain ⟨z, M2, ez, h⟩ := h.r
  refine ⟨z, M2, ?_, h⟩
  simp only [q_call, ea, q_knil, Res.bind_ok, List.append_nil]
  rw [hp, ← el]
  have := picks_id ds
  unfold picks at this
  rw [this, ez]
theorem GE.call {f : Nat} {es : List Ex} {ks : List (Str × Ex)} {pm : List Nat} (h : GL Φ es σ M fun ds M1 => GK Φ ks σ M1 fun us M2 => GF Φ f (picks pm (ds ++ us)) M2 Q) : GE Φ (.call f es ks pm) σ M Q := by
  obtain ⟨ds, M1, ea, el, h⟩ := h.r
  obtain ⟨us, M2, eb, h⟩ := h.r
  obtain ⟨z, M3, ez, h⟩ := h.r
  refine ⟨z, M3, ?_, h⟩
  simp only [q_call, ea, eb, Res.bind_ok]
  exact ez
theorem GE.bi {b : Bi} {es : List Ex} (h : GL Φ es σ M fun ds M1 => GV (evBi b ds M1) fun z => Q z M1) : GE Φ (.bi b es) σ M Q := by
  obtain ⟨x, M1, ea, _, h⟩ := h.r
  obtain ⟨z, ez, h⟩ := h.r
  exact ⟨z, M1, by simp only [q_bi, ea, Res.bind_ok, ez, Res.of_some], h⟩
def fldOf (M : Mem) (x : D) (f : Str) : Option D := match insOf M x with
  | some (_, fs) => fs.lookup f
  | none => none
theorem GE.fldE {a : Ex} {f : Str} (h : GE Φ a σ M fun x M1 => GV (fldOf M1 x f) fun z => Q z M1) : GE Φ (.fldE a f) σ M Q := by
  obtain ⟨x, M1, ea, h⟩ := h.r
  obtain ⟨z, ez, h⟩ := h.r
  refine ⟨z, M1, ?_, h⟩
  rw [q_fldE, ea, Res.bind_ok]
  unfold fldOf at ez
  cases ei : insOf M1 x with
  | none => rw [ei] at ez; cases ez
  | some p => rw [ei] at ez; simp only [ez, Res.of_some]
def methOf (M : Mem) (x : D) (m : Str) (tbl : List (Nat × Nat)) : Option Nat := match insOf M x with
  | some (c, fs) => if (fs.lookup m).isNone = true then tbl.lookup c else none
  | none => none
theorem GE.mcall {m : Str} {tbl : List (Nat × Nat)} {o : Ex} {es : List Ex} (h : GE Φ o σ M fun x M1 => GV (methOf M1 x m tbl) fun i => GL Φ es σ M1 fun ds M2 => GF Φ i (x :: ds) M2 Q) : GE Φ (.mcall m tbl o es) σ M Q := by
  obtain ⟨x, M1, ea, h⟩ := h.r
  obtain ⟨i, ei, h⟩ := h.r
  obtain ⟨ds, M2, eb, _, h⟩ := h.r
  obtain ⟨z, M3, ez, h⟩ := h.r
  refine ⟨z, M3, ?_, h⟩
  rw [q_mcall, ea, Res.bind_ok]
  unfold methOf at ei
  cases eo : insOf M1 x with
  | none => rw [eo] at ei; cases ei
  | some p =>
    rw [eo] at ei
    simp only at ei ⊢
    split at ei
    · rename_i hn
      rw [if_pos hn, ei]
      simp only [eb, Res.bind_ok, ez]
    · cases ei
theorem GE.mck {m : Str} {tbl : List (Nat × Nat)} {o : Ex} {es : List Ex} {ks : List (Str × Ex)} {pm : List Nat} (h : GE Φ o σ M fun x M1 => GV (methOf M1 x m tbl) fun i => GL Φ es σ M1 fun ds M2 => GK Φ ks σ M2 fun us M3 => GF Φ i (picks pm (x :: (ds ++ us))) M3 Q) : GE Φ (.mck m tbl o es ks pm) σ M Q := by
  obtain ⟨x, M1, ea, h⟩ := h.r
  obtain ⟨i, ei, h⟩ := h.r
  obtain ⟨ds, M2, eb, _, h⟩ := h.r
  obtain ⟨us, M3, ec, h⟩ := h.r
  obtain ⟨z, M4, ez, h⟩ := h.r
  refine ⟨z, M4, ?_, h⟩
  simp only [evE, ea, Res.bind_ok]
  unfold methOf at ei
  cases eo : insOf M1 x with
  | none => rw [eo] at ei; cases ei
  | some p =>
    rw [eo] at ei
    simp only at ei ⊢
    split at ei
    · rename_i hn
      rw [if_pos hn, ei]
      simp only [eb, ec, Res.bind_ok]
      exact ez
    · cases ei
def clsOf : D → Option Nat
  | .ins c _ => some c
  | _ => none
theorem GE.isc {e : Ex} {x : Str} {subs : List Nat} (h : GE Φ e σ M fun x M1 => GV (clsOf x) fun c => Q (.bl (subs.contains c)) M1) : GE Φ (.isc e x subs) σ M Q := by
  obtain ⟨x, M1, ea, h⟩ := h.r
  obtain ⟨i, ei, h⟩ := h.r
  cases x <;> simp only [clsOf, reduceCtorEq, Option.some.injEq] at ei
  subst ei
  exact ⟨_, M1, by simp only [q_isc, ea, Res.bind_ok], h⟩
theorem GE.isi {e : Ex} {ts : List String} (h : GE Φ e σ M fun x M1 => GV (isiD ts x) fun b => Q (.bl b) M1) : GE Φ (.isi e ts) σ M Q := by
  obtain ⟨x, M1, ea, h⟩ := h.r
  obtain ⟨z, ez, h⟩ := h.r
  exact ⟨_, M1, by simp only [q_isi, ea, Res.bind_ok, ez, Option.map_some, Res.of_some], h⟩
/-- `new`: the fields behind __init__ -/
theorem GE.new {c f : Nat} {es : List Ex} (h : GL Φ es σ M fun ds M1 => GF Φ f (.cell M1.length :: ds) (M1 ++ [some (.ins c [])]) fun x M2 => x = .non ∧ ∃ c' fs, M2[M1.length]? = some (some (.ins c' fs)) ∧ Q (.ins c' fs) (M2.set M1.length none)) : GE Φ (.new c f es) σ M Q := by
  obtain ⟨ds, M1, ea, _, h⟩ := h.r
  obtain ⟨z, M2, ez, rfl, c', fs, em, h⟩ := h.r
  exact ⟨_, _, by simp only [q_new, ea, Res.bind_ok, ez, em], h⟩
/-- a new cell of this class whose __init__ leaves these fields -/
theorem GE.new1 {c f : Nat} {es : List Ex} {fs : List (Str × D)} (h : GL Φ es σ M fun ds M1 => Φ f (.cell M1.length :: ds) (M1 ++ [some (.ins c [])]) = .ok .non (M1 ++ [some (.ins c fs)]) ∧ Q (.ins c fs) (M1 ++ [none])) : GE Φ (.new c f es) σ M Q := by
  obtain ⟨ds, M1, ea, _, e, q⟩ := h.r
  exact ⟨_, _, by simp only [q_new, ea, Res.bind_ok, e, mem_at, mem_put], q⟩
/-- likewise, by keywords alone -/
theorem GE.mnk1 {c f : Nat} {ks : List (Str × Ex)} {pm : List Nat} {fs : List (Str × D)} (h : GK Φ ks σ M fun us M1 => Φ f (picks pm (.cell M1.length :: us)) (M1 ++ [some (.ins c [])]) = .ok .non (M1 ++ [some (.ins c fs)]) ∧ Q (.ins c fs) (M1 ++ [none])) : GE Φ (.mnk c f ks pm) σ M Q := by
  obtain ⟨us, M1, ea, e, q⟩ := h.r
  refine ⟨_, _, ?_, q⟩
  simp only [evE, ea, Res.bind_ok]
  unfold picks at e
  simp only [e, Res.bind_ok, mem_at, mem_put]
/-- dict(a list of pairs) -/
theorem GE.dctN {e : Ex} (h : GE Φ e σ M fun d M1 => ∃ ps kvs, d = .lst ps ∧ pairsN ps [] = some kvs ∧ Q (.dcn kvs) M1) : GE Φ (.dctN e) σ M Q := by
  obtain ⟨d, M1, ea, ps, kvs, rfl, ek, q⟩ := h.r
  exact ⟨_, M1, by simp only [evE, ea, Res.bind_ok, ek], q⟩
/-- append to a name's cell -/
def lstAt (M : Mem) (i : Nat) : Option (List D) := match M[i]? with
  | some (some (.lst xs)) => some xs
  | _ => none
theorem lstAt_of {i : Nat} {xs : List D} (h : lstAt M i = some xs) : M[i]? = some (some (.lst xs)) := by
  unfold lstAt at h
  split at h
  · rename_i e; rw [e]; cases h; rfl
  · cases h
theorem GE.append {v i : Nat} {e : Ex} (hv : σ[v]? = some (some (.cell i))) {ys : List D} (hy : M[i]? = some (some (.lst ys))) (h : GE Φ e σ M fun d M1 => GV (lstAt M1 i) fun xs => xs.length < 16777216 ∧ Q .non (M1.set i (some (.lst (xs ++ [d]))))) : GE Φ (.meth .append (.var v) [e]) σ M Q := by
  obtain ⟨x, M1, ea, h⟩ := h.r
  obtain ⟨xs, ex, n, h⟩ := h.r
  refine ⟨_, _, evE_meth (x := .cell i) (M1 := M) (by rw [q_var, hv]) (by simp [mtFit, seqL, hy]) (evL_one ea) (evMt_append (lstAt_of ex) (by rw [sizeLine_eq]; exact n)), h⟩
def lstD : D → Option (List D)
  | .lst xs => some xs
  | _ => none
theorem GE.extend {v i : Nat} {e : Ex} (hv : σ[v]? = some (some (.cell i))) {ys : List D} (hy : M[i]? = some (some (.lst ys))) (h : GE Φ e σ M fun d M1 => GV (lstD d) fun us => GV (lstAt M1 i) fun xs => xs.length + us.length ≤ 16777216 ∧ Q .non (M1.set i (some (.lst (xs ++ us))))) : GE Φ (.meth .extend (.var v) [e]) σ M Q := by
  obtain ⟨x, M1, ea, h⟩ := h.r
  obtain ⟨us, eu, h⟩ := h.r
  obtain ⟨xs, ex, n, h⟩ := h.r
  cases x <;> simp only [lstD, reduceCtorEq, Option.some.injEq] at eu
  subst eu
  refine ⟨_, _, evE_meth (x := .cell i) (M1 := M) (by rw [q_var, hv]) (by simp [mtFit, seqL, hy]) (evL_one ea) (evMt_extend (lstAt_of ex) (by rw [sizeLine_eq]; exact n)), h⟩
/-- a cell let go -/
theorem GE.frz {v i : Nat} {xs : List D} (hv : σ[v]? = some (some (.cell i))) (hm : M[i]? = some (some (.lst xs))) (q : Q (.lst xs) (M.set i Option.none)) : GE Φ (.frz v) σ M Q := ⟨_, _, by simp only [evE, hv, hm], q⟩
theorem GE.frzN {v i : Nat} {kvs : List (NestedKey × D)} (hv : σ[v]? = some (some (.cell i))) (hm : M[i]? = some (some (.dcn kvs))) (q : Q (.dcn kvs) (M.set i Option.none)) : GE Φ (.frz v) σ M Q := ⟨_, _, by simp only [evE, hv, hm], q⟩
theorem GE.dng2 {o e f : Ex} (h : GE Φ o σ M fun x M1 => GV (dcnOf M1 x) fun _ => GE Φ e σ M1 fun y M2 => GE Φ f σ M2 fun z M3 => GV (dcnOf M3 x) fun kvs => GV (keyT y) fun k => Q ((valN kvs k).getD z) M3) : GE Φ (.dng2 o e f) σ M Q := by
  obtain ⟨x, M1, ea, h⟩ := h.r
  obtain ⟨kv, ek, h⟩ := h.r
  obtain ⟨y, M2, eb, h⟩ := h.r
  obtain ⟨z, M3, ec, h⟩ := h.r
  obtain ⟨kvs, ed, h⟩ := h.r
  obtain ⟨k, ey, h⟩ := h.r
  exact ⟨_, _, by simp only [q_dng2, ea, Res.bind_ok, ek, eb, ec, ed, ey], h⟩
theorem GE.lrg1 {b : Ex} (h : GE Φ b σ M fun y M1 => GV (intOf y) fun j => GV (rngD 0 j) fun ds => ds.length ≤ 16777216 ∧ Q (.lst ds) M1) : GE Φ (.lrg1 b) σ M Q := by
  obtain ⟨x, M1, ea, h⟩ := h.r
  obtain ⟨i, ei, h⟩ := h.r
  obtain ⟨ds, ed, n, h⟩ := h.r
  rw [intOf_some ei] at ea
  exact ⟨_, M1, by
    simp only [q_lrg1, ea, Res.bind_ok, ed]
    rw [if_pos (by rw [sizeLine_eq]; exact n)], h⟩
theorem GE.lrg2 {a b : Ex} (h : GE Φ a σ M fun x M1 => GE Φ b σ M1 fun y M2 => GV (intOf x) fun i => GV (intOf y) fun j => GV (rngD i j) fun ds => ds.length ≤ 16777216 ∧ Q (.lst ds) M2) : GE Φ (.lrg2 a b) σ M Q := by
  obtain ⟨x, M1, ea, h⟩ := h.r
  obtain ⟨y, M2, eb, h⟩ := h.r
  obtain ⟨i, ei, h⟩ := h.r
  obtain ⟨j, ej, h⟩ := h.r
  obtain ⟨ds, ed, n, h⟩ := h.r
  rw [intOf_some ei] at ea
  rw [intOf_some ej] at eb
  exact ⟨_, M2, by
    simp only [q_lrg2, ea, eb, Res.bind_ok, ed]
    rw [if_pos (by rw [sizeLine_eq]; exact n)], h⟩
theorem GE.dct0 (q : Q (.dct []) M) : GE Φ .dct0 σ M Q := ⟨_, _, by rw [evE], q⟩
theorem GE.mdn0 (q : Q (.cell M.length) (M ++ [some (.dcn [])])) : GE Φ .mdn0 σ M Q := ⟨_, _, q_mdn0, q⟩
/-! lists of them -/
theorem GL.nil {Q : List D → Mem → Prop} (q : Q [] M) : GL Φ [] σ M Q := ⟨_, _, q_nil, rfl, q⟩
theorem GL.cons {e : Ex} {es : List Ex} {Q : List D → Mem → Prop} (h : GE Φ e σ M fun d M1 => GL Φ es σ M1 fun ds M2 => Q (d :: ds) M2) : GL Φ (e :: es) σ M Q := by
  obtain ⟨x, M1, ea, h⟩ := h.r
  obtain ⟨ds, M2, eb, el, h⟩ := h.r
  exact ⟨x :: ds, M2, by simp only [q_cons, ea, eb, Res.bind_ok], by simp [el], h⟩
theorem GK.nil {Q : List D → Mem → Prop} (q : Q [] M) : GK Φ [] σ M Q := ⟨_, _, q_knil, q⟩
theorem GK.cons {n : Str} {e : Ex} {es : List (Str × Ex)} {Q : List D → Mem → Prop} (h : GE Φ e σ M fun d M1 => GK Φ es σ M1 fun ds M2 => Q (d :: ds) M2) : GK Φ ((n, e) :: es) σ M Q := by
  obtain ⟨x, M1, ea, h⟩ := h.r
  obtain ⟨ds, M2, eb, h⟩ := h.r
  exact ⟨x :: ds, M2, by simp only [q_kcons, ea, eb, Res.bind_ok], h⟩
theorem GCo.none {Q : Bool → Mem → Prop} (q : Q true M) : GCo Φ none σ M Q := ⟨_, _, q_cnone, q⟩
theorem GCo.some {e : Ex} {Q : Bool → Mem → Prop} (h : GE Φ e σ M fun d M1 => GV (truth M1 d) fun b => Q b M1) : GCo Φ (some e) σ M Q := by
  obtain ⟨x, M1, ea, h⟩ := h.r
  obtain ⟨z, ez, h⟩ := h.r
  exact ⟨_, M1, by simp only [q_csome, ea, Res.bind_ok, ez, Res.of_some], h⟩
/-! what is walked -/
def seqI : D → Option (List D)
  | .lst xs => some xs
  | .scr xs => some xs
  | .tup xs => some xs
  | _ => none
theorem GI.seq {e : Ex} {Q : List D → Mem → Prop} (h : GE Φ e σ M fun d M1 => GV (seqI d) fun xs => Q xs M1) : GI Φ (.seq e) σ M Q := by
  obtain ⟨x, M1, ea, h⟩ := h.r
  obtain ⟨z, ez, h⟩ := h.r
  refine ⟨z, M1, ?_, h⟩
  cases x <;> simp only [seqI, reduceCtorEq, Option.some.injEq] at ez <;> (subst ez; simp only [q_seq, ea, Res.bind_ok])
theorem GI.rng1 {e : Ex} {Q : List D → Mem → Prop} (h : GE Φ e σ M fun d M1 => GV (intOf d) fun i => GV (rngD 0 i) fun xs => Q xs M1) : GI Φ (.rng1 e) σ M Q := by
  obtain ⟨x, M1, ea, h⟩ := h.r
  obtain ⟨i, ei, h⟩ := h.r
  obtain ⟨z, ez, h⟩ := h.r
  rw [intOf_some ei] at ea
  exact ⟨z, M1, evI_rng1 ea ez, h⟩
theorem GI.rng2 {e f : Ex} {Q : List D → Mem → Prop} (h : GE Φ e σ M fun d M1 => GE Φ f σ M1 fun d2 M2 => GV (intOf d) fun i => GV (intOf d2) fun j => GV (rngD i j) fun xs => Q xs M2) : GI Φ (.rng2 e f) σ M Q := by
  obtain ⟨x, M1, ea, h⟩ := h.r
  obtain ⟨y, M2, eb, h⟩ := h.r
  obtain ⟨i, ei, h⟩ := h.r
  obtain ⟨j, ej, h⟩ := h.r
  obtain ⟨z, ez, h⟩ := h.r
  rw [intOf_some ei] at ea
  rw [intOf_some ej] at eb
  exact ⟨z, M2, evI_rng2 ea eb ez, h⟩
theorem GI.rng3 {e f g : Ex} {Q : List D → Mem → Prop} (h : GE Φ e σ M fun d M1 => GE Φ f σ M1 fun d2 M2 => GE Φ g σ M2 fun d3 M3 => GV (intOf d) fun i => GV (intOf d2) fun j => GV (intOf d3) fun c => c = -1 ∧ GV (dwnD i j) fun xs => Q xs M3) : GI Φ (.rng3 e f g) σ M Q := by
  obtain ⟨x, M1, ea, h⟩ := h.r
  obtain ⟨y, M2, eb, h⟩ := h.r
  obtain ⟨z, M3, ec, h⟩ := h.r
  obtain ⟨i, ei, h⟩ := h.r
  obtain ⟨j, ej, h⟩ := h.r
  obtain ⟨c, eg, rfl, h⟩ := h.r
  obtain ⟨z, ez, h⟩ := h.r
  rw [intOf_some ei] at ea
  rw [intOf_some ej] at eb
  rw [intOf_some eg] at ec
  exact ⟨z, M3, evI_rng3 ea eb ec ez, h⟩
def enuL (xs : List D) : List D := xs.zipIdx.map fun p => .tup [.int p.2, p.1]
theorem GI.enu {e : Ex} {Q : List D → Mem → Prop} (h : GE Φ e σ M fun d M1 => GV (seqI d) fun xs => Q (enuL xs) M1) : GI Φ (.enu e) σ M Q := by
  obtain ⟨x, M1, ea, h⟩ := h.r
  obtain ⟨z, ez, h⟩ := h.r
  refine ⟨_, M1, ?_, h⟩
  cases x <;> simp only [seqI, reduceCtorEq, Option.some.injEq] at ez <;> (subst ez; simp only [q_enu, ea, Res.bind_ok]; rfl)
def zip3L (xs ys zs : List D) : List D := (xs.zip (ys.zip zs)).map fun p => .tup [p.1, p.2.1, p.2.2]
theorem GI.zip3 {a b c : Ex} {Q : List D → Mem → Prop} (h : GL Φ [a, b, c] σ M fun ds M1 => ∃ xs ys zs, ds = [.tup xs, .tup ys, .tup zs] ∧ Q (zip3L xs ys zs) M1) : GI Φ (.zip3 [a, b, c]) σ M Q := by
  obtain ⟨ds, M1, ea, _, xs, ys, zs, rfl, h⟩ := h.r
  refine ⟨_, M1, ?_, h⟩
  rw [q_zip3, ea]
  rfl
/-! targets -/
variable {QT : Env' → Mem → Prop}
theorem GT.nm {i : Nat} (q : QT (σ.set i (some d)) M) : GT Φ (.nm i) d σ M QT := ⟨_, _, q_nm, q⟩
theorem GT.tp {ts : List Tg} {ds : List D} (h : GTs Φ ts ds σ M QT) : GT Φ (.tp ts) (.tup ds) σ M QT := by
  obtain ⟨x, M1, e, q⟩ := h.r
  exact ⟨x, M1, by rw [q_tp]; exact e, q⟩
/-- a list, taken apart -/
theorem GT.tpL {ts : List Tg} {ds : List D} (h : GTs Φ ts ds σ M QT) : GT Φ (.tp ts) (.lst ds) σ M QT := by
  obtain ⟨x, M1, e, q⟩ := h.r
  exact ⟨x, M1, by rw [q_tp]; exact e, q⟩
theorem GTs.nil (q : QT σ M) : GTs Φ [] [] σ M QT := ⟨_, _, q_tnil, q⟩
theorem GTs.cons {t : Tg} {ts : List Tg} {ds : List D} (h : GT Φ t d σ M fun σ1 M1 => GTs Φ ts ds σ1 M1 QT) : GTs Φ (t :: ts) (d :: ds) σ M QT := by
  obtain ⟨x, M1, e, h⟩ := h.r
  obtain ⟨y, M2, e2, q⟩ := h.r
  exact ⟨y, M2, by simp only [q_tcons, e, Res.bind_ok, e2], q⟩
theorem GT.fld {v n c : Nat} {f : Str} {fs : List (Str × D)} (hv : σ[v]? = some (some (.cell n))) (hm : M[n]? = some (some (.ins c fs))) (hl : decide (fs.length < 1000) = true) (q : QT σ (M.set n (some (.ins c (putFD f d fs))))) : GT Φ (.fld (.var v) f) d σ M QT := by
  have := of_decide_eq_true hl
  exact ⟨σ, _, by simp only [q_fld, q_var, hv, sure_ok', Res.bind_ok, hm, this, if_true], q⟩
/-- a list's item -/
theorem GT.sub {a b : Ex} {n : Nat} {k : Int} {m : Nat} {xs : List D} (ha : evE Φ a σ M = .ok (.cell n) M) (hb : evE Φ b σ M = .ok (.int k) M) (h : M[n]? = some (some (.lst xs))) (hk : ixN xs.length k = some m) (q : QT σ (M.set n (some (.lst (xs.set m d))))) : GT Φ (.sub a b) d σ M QT := ⟨_, _, evT_sub ha hb h hk, q⟩
theorem GT.subN {a b : Ex} (h : GE Φ a σ M fun x M1 => GE Φ b σ M1 fun y M2 => ∃ n ks kvs key, x = .cell n ∧ y = .tup ks ∧ M2[n]? = some (some (.dcn kvs)) ∧ keyT (.tup ks) = some key ∧ kvs.length < 16777216 ∧ QT σ (M2.set n (some (.dcn (putKN kvs key d))))) : GT Φ (.sub a b) d σ M QT := by
  obtain ⟨x, M1, ea, h⟩ := h.r
  obtain ⟨y, M2, eb, n, ks, kvs, key, rfl, rfl, h1, h2, h3, q⟩ := h.r
  have h3' : kvs.length < sizeLine := by rw [sizeLine_eq]; exact h3
  exact ⟨_, _, by simp only [q_sub, ea, eb, sure_ok', Res.bind_ok, h1, h2, h3', if_true], q⟩
/-! statements -/
variable {QS : RS → Prop} {ss : List Sx}
theorem GS.nil (q : QS (.nx σ M)) : GS Φ [] σ M QS := ⟨by rw [q_snil]; exact q⟩
theorem GS.asg {t : Tg} {e : Ex} (h : GE Φ e σ M fun d M1 => GT Φ t d σ M1 fun σ1 M2 => GS Φ ss σ1 M2 QS) : GS Φ (.asg t e :: ss) σ M QS := by
  obtain ⟨x, M1, ea, h⟩ := h.r
  obtain ⟨σ1, M2, eb, h⟩ := h.r
  exact ⟨by rw [evSs_cons (σ1 := σ1) (M1 := M2) (by simp only [q_asg, ea, RS.of_ok, eb])]; exact h.r⟩
theorem GS.par {is : List Nat} {es : List Ex} (hl : es.length = is.length) (h : GL Φ es σ M fun ds M1 => GS Φ ss (setAll σ is.reverse ds.reverse) M1 QS) : GS Φ (.par is es :: ss) σ M QS := by
  obtain ⟨ds, M1, ea, el, h⟩ := h.r
  exact ⟨by rw [evSs_cons (σ1 := setAll σ is.reverse ds.reverse) (M1 := M1) (by simp only [q_par, ea, RS.of_ok, el, hl, if_true])]; exact h.r⟩
theorem GS.par2 {i j : Nat} {a b : Ex} (h : GE Φ a σ M fun d1 M1 => GE Φ b σ M1 fun d2 M2 => GS Φ ss ((σ.set j (some d2)).set i (some d1)) M2 QS) : GS Φ (.par [i, j] [a, b] :: ss) σ M QS := by
  obtain ⟨d1, M1, ea, h⟩ := h.r
  obtain ⟨d2, M2, eb, h⟩ := h.r
  exact .par rfl ⟨[d1, d2], M2, by simp only [q_cons, ea, eb, q_nil, Res.bind_ok], rfl, h⟩
theorem GS.par3 {i j k : Nat} {a b c : Ex} (h : GE Φ a σ M fun d1 M1 => GE Φ b σ M1 fun d2 M2 => GE Φ c σ M2 fun d3 M3 => GS Φ ss (((σ.set k (some d3)).set j (some d2)).set i (some d1)) M3 QS) : GS Φ (.par [i, j, k] [a, b, c] :: ss) σ M QS := by
  obtain ⟨d1, M1, ea, h⟩ := h.r
  obtain ⟨d2, M2, eb, h⟩ := h.r
  obtain ⟨d3, M3, ec, h⟩ := h.r
  exact .par rfl ⟨[d1, d2, d3], M3, by simp only [q_cons, ea, eb, ec, q_nil, Res.bind_ok], rfl, h⟩
theorem GS.aug {i : Nat} {o : BO} {e : Ex} {x : D} (hx : σ[i]? = some (some x)) (h : GE Φ e σ M fun y M1 => GV (evAug o x y) fun z => GS Φ ss (σ.set i (some z)) M1 QS) : GS Φ (.aug i o e :: ss) σ M QS := by
  obtain ⟨y, M1, ea, h⟩ := h.r
  obtain ⟨z, ez, h⟩ := h.r
  exact ⟨by rw [evSs_cons (σ1 := σ.set i (some z)) (M1 := M1) (by simp only [q_aug, hx, ea, RS.of_ok, ez])]; exact h.r⟩
theorem GS.expr {e : Ex} (h : GE Φ e σ M fun _ M1 => GS Φ ss σ M1 QS) : GS Φ (.expr e :: ss) σ M QS := by
  obtain ⟨x, M1, ea, h⟩ := h.r
  exact ⟨by rw [evSs_cons (σ1 := σ) (M1 := M1) (by simp only [q_expr, ea, RS.of_ok])]; exact h.r⟩
theorem GS.ret {e : Ex} (h : GE Φ e σ M fun d M1 => QS (.rt d M1)) : GS Φ (.ret e :: ss) σ M QS := by
  obtain ⟨x, M1, ea, h⟩ := h.r
  exact ⟨by rw [evSs_rt (d := x) (M1 := M1) (by simp only [q_ret, ea, RS.of_ok])]; exact h⟩
theorem GS.retN (h : QS (.rt .non M)) : GS Φ (.retN :: ss) σ M QS := ⟨by rw [evSs_rt (d := .non) (M1 := M) q_retN]; exact h⟩
theorem GS.ifs {c : Ex} {a b : List Sx} (h : GE Φ c σ M fun d M1 => GV (truth M1 d) fun t => GB t (GS Φ (a ++ ss) σ M1 QS) (GS Φ (b ++ ss) σ M1 QS)) : GS Φ (.ifs c a b :: ss) σ M QS := by
  obtain ⟨x, M1, ea, h⟩ := h.r
  obtain ⟨t, et, h⟩ := h.r
  refine ⟨?_⟩
  rw [q_scons, q_ifs, ea, Res.bind_ok, et, Res.of_some, RS.of_ok]
  cases t with
  | true =>
    have := (h.t rfl).r
    rw [evSs_append] at this
    exact this
  | false =>
    have := (h.f rfl).r
    rw [evSs_append] at this
    exact this
/-- both ways lead on alike -/
theorem GS.ifsJ {c : Ex} {a b : List Sx} (I : Env' → Mem → Prop) (h : GS Φ [.ifs c a b] σ M fun r => ∃ σ' M', r = .nx σ' M' ∧ I σ' M') (k : ∀ σ' M', I σ' M' → GS Φ ss σ' M' QS) : GS Φ (.ifs c a b :: ss) σ M QS := by
  obtain ⟨σ', M', e, hi⟩ := h.r
  refine ⟨?_⟩
  have e2 : evS Φ (.ifs c a b) σ M = .nx σ' M' := by
    rw [q_scons] at e
    cases z : evS Φ (.ifs c a b) σ M with
    | nx σ1 M1 => rw [z, RS.then_nx, q_snil] at e; exact e
    | rt d M1 => rw [z, RS.then_rt] at e; cases e
    | bk σ1 M1 => rw [z, then_bk] at e; cases e
    | ct σ1 M1 => rw [z, then_ct] at e; cases e
    | no => rw [z, then_no] at e; cases e
    | ex c fs σ1 M1 => rw [z] at e; simp only [RS.then] at e; cases e
  rw [evSs_cons e2]
  exact (k σ' M' hi).r
theorem GS.cnt (q : QS (.ct σ M)) : GS Φ (.cnt :: ss) σ M QS := ⟨by rw [q_scons, q_cnt, then_ct]; exact q⟩
theorem GS.brk (q : QS (.bk σ M)) : GS Φ (.brk :: ss) σ M QS := ⟨by rw [q_scons, q_brk, then_bk]; exact q⟩
theorem GS.pass (h : GS Φ ss σ M QS) : GS Φ (.pass :: ss) σ M QS := ⟨by rw [q_scons, q_pass, RS.then_nx]; exact h.r⟩
theorem GS.frzs {v i : Nat} {s : Sx} {xs : List D} (hv : σ[v]? = some (some (.cell i))) (hm : M[i]? = some (some (.lst xs))) (h : GS Φ (s :: ss) (σ.set v (some (.lst xs))) (M.set i none) QS) : GS Φ (.frzs v s :: ss) σ M QS := by
  refine ⟨?_⟩
  have := h.r
  rw [q_scons] at this ⊢
  rw [q_frzs]
  simp only [hv, hm]
  exact this
/-- known beforehand -/
theorem GS.eq {s : Sx} {σ1 : Env'} {M1 : Mem} (e : evS Φ s σ M = .nx σ1 M1) (h : GS Φ ss σ1 M1 QS) : GS Φ (s :: ss) σ M QS := ⟨by rw [evSs_cons e]; exact h.r⟩
theorem GS.imp {QS' : RS → Prop} (h : GS Φ ss σ M QS') (q : ∀ r, QS' r → QS r) : GS Φ ss σ M QS := ⟨q _ h.r⟩
/-- a turn's end -/
def Turn (I : Env' → Mem → Prop) (r : RS) : Prop := match r with
  | .nx σ M => I σ M
  | .ct σ M => I σ M
  | _ => False
theorem Turn.nx {I : Env' → Mem → Prop} (h : I σ M) : Turn I (.nx σ M) := h
theorem Turn.ct {I : Env' → Mem → Prop} (h : I σ M) : Turn I (.ct σ M) := h
theorem forGo_ix {f : D → Env' → Mem → RS} (I : Nat → Env' → Mem → Prop) {all : List D} (h : ∀ i x σ M, all[i]? = some x → I i σ M → Turn (I (i + 1)) (f x σ M)) : ∀ (xs : List D) (i : Nat) (σ : Env') (M : Mem), all.drop i = xs → i ≤ all.length → I i σ M → ∃ σ' M', forGo f xs σ M = .nx σ' M' ∧ I all.length σ' M'
  | [], i, σ, M, e, hi, h0 => by
    have : all.length ≤ i := List.drop_eq_nil_iff.mp e
    exact ⟨σ, M, by simp [forGo], by rw [show all.length = i by omega]; exact h0⟩
  | x :: xs, i, σ, M, e, hi, h0 => by
    have hx : all[i]? = some x := by
      have := congrArg (fun l => l[0]?) e
      simpa using this
    have hl := (List.getElem?_eq_some_iff.mp hx).1
    have e2 : all.drop (i + 1) = xs := by
      have := congrArg (fun l => l.drop 1) e
      simpa using this
    have t := h i x σ M hx h0
    rw [forGo]
    cases z : f x σ M with
    | nx σ1 M1 => rw [z] at t; exact forGo_ix I h xs (i + 1) σ1 M1 e2 hl t
    | ct σ1 M1 => rw [z] at t; exact forGo_ix I h xs (i + 1) σ1 M1 e2 hl t
    | bk σ1 M1 => rw [z] at t; exact t.elim
    | rt d M1 => rw [z] at t; exact t.elim
    | ex c fs σ1 M1 => rw [z] at t; exact t.elim
    | no => rw [z] at t; exact t.elim
/-- a loop, by what stands behind i turns -/
theorem GS.fors {t : Tg} {it : It} {b : List Sx} (I : List D → Nat → Env' → Mem → Prop) (hi : GI Φ it σ M fun ds M1 => I ds 0 σ M1 ∧ (∀ i x σ' M', ds[i]? = some x → I ds i σ' M' → GT Φ t x σ' M' fun σ2 M2 => GS Φ b σ2 M2 (Turn (I ds (i + 1)))) ∧ (∀ σ' M', I ds ds.length σ' M' → GS Φ ss σ' M' QS)) : GS Φ (.fors t it b :: ss) σ M QS := by
  obtain ⟨ds, M1, ei, h0, hs, he⟩ := hi.r
  obtain ⟨σ', M', e, q⟩ := forGo_ix (f := fun x σ1 M2 => RS.of (evT Φ t x σ1 M2) σ1 fun σ2 M3 => evSs Φ b σ2 M3) (I ds) (all := ds) (fun i x σ M hx hI => by
    obtain ⟨σ2, M2, et, g⟩ := (hs i x σ M hx hI).r
    rw [et, RS.of_ok]
    exact g.r) ds 0 σ M1 rfl (Nat.zero_le _) h0
  exact .eq ((evS_for ei).trans e) (he σ' M' q)
/-- over what is known -/
theorem GS.forL {t : Tg} {it : It} {b : List Sx} {M1 : Mem} {ds : List D} (hi : evI Φ it σ M = .ok ds M1) (I : Nat → Env' → Mem → Prop) (h0 : I 0 σ M1) (hs : ∀ i x σ' M', ds[i]? = some x → I i σ' M' → GT Φ t x σ' M' fun σ2 M2 => GS Φ b σ2 M2 (Turn (I (i + 1)))) (he : ∀ σ' M', I ds.length σ' M' → GS Φ ss σ' M' QS) : GS Φ (.fors t it b :: ss) σ M QS :=
  .fors (fun _ => I) ⟨ds, M1, hi, h0, hs, he⟩
/-- range(n) -/
theorem GS.forN {v n : Nat} {e : Ex} {b : List Sx} {M1 : Mem} (hi : evE Φ e σ M = .ok (.int (n : Nat)) M1) (hn : n < 1000000) (I : Nat → Env' → Mem → Prop) (h0 : I 0 σ M1) (hs : ∀ i σ' M', i < n → I i σ' M' → GS Φ b (σ'.set v (some (.int (i : Nat)))) M' (Turn (I (i + 1)))) (he : ∀ σ' M', I n σ' M' → GS Φ ss σ' M' QS) : GS Φ (.fors (.nm v) (.rng1 e) b :: ss) σ M QS := by
  refine .forL (evI_rng1 hi (rng_nat n hn)) I h0 (fun i x σ' M' hx hI => ?_) (by simpa using he)
  rw [List.getElem?_map] at hx
  obtain ⟨j, hj, rfl⟩ := Option.map_eq_some_iff.mp hx
  obtain ⟨h1, h2⟩ := List.getElem?_eq_some_iff.mp hj
  simp only [List.getElem_range] at h2
  subst h2
  exact .nm (hs i σ' M' (by simpa using h1) hI)
/-! a def's body -/
theorem GF.enter {P : List Df} {k f n m : Nat} {b : List Sx} {ds : List D} (h : At P f b n m) (hl : ds.length = n) (g : GS (evF P k) b (ds.map some ++ List.replicate (m - n) none) M fun r => GR M.length r Q) : GF (evF P (k + 1)) f ds M Q := by
  obtain ⟨d, M1, e, q⟩ := g.r.r
  exact ⟨d, M1, (h.ev ds hl).trans e, q⟩
theorem GR.rt {n : Nat} (h : M.length ≤ n) (q : Q d M) : GR n (.rt d M) Q := ⟨d, M, by rw [bodyRes_rt]; exact tidy_ok h, q⟩
theorem GR.nx {n : Nat} (h : M.length ≤ n) (q : Q .non M) : GR n (.nx σ M) Q := ⟨.non, M, by rw [bodyRes_nx]; exact tidy_ok h, q⟩
/-- own cells, let go, are forgotten -/
theorem GR.cut {n : Nat} {M0 X : Mem} (hn : n = M0.length) (hX : X.all Option.isNone = true) (hq : M0.all quiet = true) (hd : noCell d = true) (q : Q d M0) : GR n (.rt d (M0 ++ X)) Q := by
  refine ⟨d, M0, ?_, q⟩
  subst hn
  rw [bodyRes_rt]
  cases X with
  | nil => rw [List.append_nil]; exact tidy_self
  | cons x X =>
    have h1 : ¬ (M0 ++ x :: X).length ≤ M0.length := by simp
    simp only [List.all_cons, Bool.and_eq_true] at hX
    have hX2 : ∀ y ∈ X, y = none := fun y hy => by
      have := List.all_eq_true.mp hX.2 y hy
      simpa using this
    have h2 : ((M0 ++ x :: X).drop M0.length).all Option.isNone = true := by simp [hX.1, hX.2]
    have h3 : ((M0 ++ x :: X).take M0.length).all quiet = true := by simpa using hq
    unfold tidy spare
    simp only
    rw [if_neg h1, if_pos (by rw [h2, h3, hd]; rfl)]
    simp
/-! comprehensions -/
/-- one turn, by data -/
theorem GE.lcm {e : Ex} {t : Tg} {it : It} {vs : List Nat} (g : D → D) (h : GI Φ it σ M fun ds M1 => ds.length ≤ 16777216 ∧ (∀ x ∈ ds, GT Φ t x (wipeD σ vs) M1 fun σ3 M3 => GE Φ e σ3 M3 fun d M4 => d = g x ∧ M4 = M1) ∧ Q (.lst (ds.map g)) M1) : GE Φ (.lc e t it none vs) σ M Q := by
  obtain ⟨ds, M1, ei, hl, hx, q⟩ := h.r
  refine ⟨_, M1, evE_lcm ei (fun x hx' => ?_) (by rw [sizeLine_eq]; exact hl), q⟩
  obtain ⟨σ3, M3, et, h⟩ := (hx x hx').r
  obtain ⟨d, M4, ee, rfl, rfl⟩ := h.r
  simp only [lcF, et, Res.bind_ok, q_cnone, if_true, ee]
/-- over data of one kind -/
theorem GE.lcM {α : Type} {e : Ex} {t : Tg} {it : It} {vs : List Nat} {M1 : Mem} (l : List α) (mk g : α → D) (hi : GI Φ it σ M fun ds M2 => ds = l.map mk ∧ M2 = M1) (hl : l.length ≤ 16777216) (h : ∀ p ∈ l, GT Φ t (mk p) (wipeD σ vs) M1 fun σ3 M3 => GE Φ e σ3 M3 fun d M4 => d = g p ∧ M4 = M1) (q : Q (.lst (l.map g)) M1) : GE Φ (.lc e t it none vs) σ M Q := by
  obtain ⟨ds, M2, ei, rfl, rfl⟩ := hi.r
  refine ⟨_, M2, evE_lcM ei (fun p hp => ?_) (by rw [sizeLine_eq]; exact hl), q⟩
  obtain ⟨σ3, M3, et, h⟩ := (h p hp).r
  obtain ⟨d, M4, ee, rfl, rfl⟩ := h.r
  simp only [lcF, et, Res.bind_ok, q_cnone, if_true, ee]
theorem lcGo_filterM {α : Type} {F : D → Mem → Res (Option D)} {mk g : α → D} {p : α → Bool} : ∀ (l : List α) (acc : List D), (∀ a ∈ l, F (mk a) M = .ok (if p a then some (g a) else none) M) → acc.length + l.length ≤ sizeLine → lcGo F (l.map mk) acc M = .ok (acc ++ (l.filter p).map g) M
  | [], acc, _, _ => by simp [lcGo]
  | x :: l, acc, h, hl => by
    simp only [List.length_cons] at hl
    rw [List.map_cons, lcGo, h x (List.mem_cons_self ..)]
    cases e : p x with
    | true =>
      simp only [if_true]
      rw [if_pos (by omega), lcGo_filterM l (acc ++ [g x]) (fun p hp => h p (List.mem_cons_of_mem _ hp)) (by simp only [List.length_append, List.length_singleton]; omega)]
      simp [e]
    | false =>
      simp only [Bool.false_eq_true, if_false]
      rw [lcGo_filterM l acc (fun p hp => h p (List.mem_cons_of_mem _ hp)) (by omega)]
      simp [e]
/-- with a test -/
theorem GE.lcP {α : Type} {e c : Ex} {t : Tg} {it : It} {vs : List Nat} {M1 : Mem} (l : List α) (mk g : α → D) (p : α → Bool) (hi : GI Φ it σ M fun ds M2 => ds = l.map mk ∧ M2 = M1) (hl : l.length ≤ 16777216) (h : ∀ a ∈ l, GT Φ t (mk a) (wipeD σ vs) M1 fun σ3 M3 => GE Φ c σ3 M3 fun d M4 => GV (truth M4 d) fun b => b = p a ∧ M4 = M1 ∧ (p a = true → GE Φ e σ3 M1 fun d M5 => d = g a ∧ M5 = M1)) (q : Q (.lst ((l.filter p).map g)) M1) : GE Φ (.lc e t it (some c) vs) σ M Q := by
  obtain ⟨ds, M2, ei, rfl, rfl⟩ := hi.r
  have := lcGo_filterM (F := lcF Φ e t (some c) vs σ) (M := M2) (mk := mk) (g := g) (p := p) l [] (fun a ha => by
    obtain ⟨σ3, M3, et, h⟩ := (h a ha).r
    obtain ⟨d, M4, ee, h⟩ := h.r
    obtain ⟨b, eb, rfl, rfl, h⟩ := h.r
    simp only [lcF, et, Res.bind_ok, q_csome, ee, eb, Res.of_some]
    cases hp : p a with
    | true =>
      obtain ⟨d, M5, ex, rfl, rfl⟩ := (h hp).r
      simp only [if_true, ex, Res.bind_ok]
    | false => simp only [Bool.false_eq_true, if_false]) (by rw [sizeLine_eq]; simpa using hl)
  refine ⟨_, M2, ?_, q⟩
  rw [evE, ei, Res.bind_ok]
  show (lcGo (lcF Φ e t (some c) vs σ) (l.map mk) [] M2).bind _ = _
  rw [this]
  simp
/-- turns that change something: what is found behind i turns -/
theorem GE.lcI {e : Ex} {t : Tg} {it : It} {c : Option Ex} {vs : List Nat} (I : List D → Nat → List D → Mem → Prop) (hi : GI Φ it σ M fun ds M1 => ds.length ≤ 16777215 ∧ I ds 0 [] M1 ∧ (∀ i x acc M', ds[i]? = some x → I ds i acc M' → GT Φ t x (wipeD σ vs) M' fun σ3 M3 => GCo Φ c σ3 M3 fun b M4 => GB b (GE Φ e σ3 M4 fun d M5 => I ds (i + 1) (acc ++ [d]) M5) (I ds (i + 1) acc M4)) ∧ (∀ acc M', I ds ds.length acc M' → Q (.lst acc) M')) : GE Φ (.lc e t it c vs) σ M Q := by
  obtain ⟨ds, M1, ei, hl, h0, hs, he⟩ := hi.r
  have go : ∀ (xs : List D) (i : Nat) (acc : List D) (M' : Mem), ds.drop i = xs → i ≤ ds.length → acc.length ≤ i → I ds i acc M' → ∃ out M'', lcGo (lcF Φ e t c vs σ) xs acc M' = .ok out M'' ∧ I ds ds.length out M'' := fun xs => by
    induction xs with
    | nil =>
      intro i acc M' e hi' _ h
      have : ds.length ≤ i := List.drop_eq_nil_iff.mp e
      exact ⟨acc, M', by simp [lcGo], by rw [show ds.length = i by omega]; exact h⟩
    | cons x xs ih =>
      intro i acc M' eq hi' ha h
      have hx : ds[i]? = some x := by
        have := congrArg (fun l => l[0]?) eq
        simpa using this
      have hlt := (List.getElem?_eq_some_iff.mp hx).1
      have e2 : ds.drop (i + 1) = xs := by
        have := congrArg (fun l => l.drop 1) eq
        simpa using this
      obtain ⟨σ3, M3, et, g⟩ := (hs i x acc M' hx h).r
      obtain ⟨b, M4, ec, g⟩ := g.r
      cases b with
      | true =>
        obtain ⟨d, M5, ee, g⟩ := (g.t rfl).r
        obtain ⟨out, M'', e3, q⟩ := ih (i + 1) (acc ++ [d]) M5 e2 hlt (by simp; omega) g
        refine ⟨out, M'', ?_, q⟩
        have : lcF Φ e t c vs σ x M' = .ok (some d) M5 := by simp only [lcF, et, Res.bind_ok, ec, if_true, ee]
        rw [lcGo, this]
        simp only
        rw [if_pos (by rw [sizeLine_eq]; omega)]
        exact e3
      | false =>
        obtain ⟨out, M'', e3, q⟩ := ih (i + 1) acc M4 e2 hlt (by omega) (g.f rfl)
        refine ⟨out, M'', ?_, q⟩
        have : lcF Φ e t c vs σ x M' = .ok none M4 := by simp only [lcF, et, Res.bind_ok, ec, Bool.false_eq_true, if_false]
        rw [lcGo, this]
        exact e3
  obtain ⟨out, M'', e3, q⟩ := go ds 0 [] M1 rfl (Nat.zero_le _) (Nat.zero_le _) h0
  refine ⟨.lst out, M'', ?_, he out M'' q⟩
  rw [evE, ei, Res.bind_ok]
  show (lcGo (lcF Φ e t c vs σ) ds [] M1).bind _ = _
  rw [e3]
  rfl
end
/-! values -/
section
variable {M : Mem} {Q : D → Prop} {B : Bool → Prop} {i j : Int} {xs ys : List D} {d : D} {s t : Str}
theorem GV.add (q : Q (.int (i + j))) : GV (evBin .add (.int i) (.int j) M) Q := .of rfl q
theorem GV.sub (q : Q (.int (i - j))) : GV (evBin .sub (.int i) (.int j) M) Q := .of rfl q
theorem GV.mulL (h : -(2 ^ 64) < i ∧ i < 2 ^ 64) (q : Q (.int (i * j))) : GV (evBin .mul (.int i) (.int j) M) Q := .of (bin_mulL h) q
theorem GV.mulR (h : -(2 ^ 64) < j ∧ j < 2 ^ 64) (q : Q (.int (i * j))) : GV (evBin .mul (.int i) (.int j) M) Q := .of (bin_mulR h) q
theorem GV.mod (h : 0 < j) (q : Q (.int (i % j))) : GV (evBin .mod (.int i) (.int j) M) Q := .of (bin_mod h) q
theorem GV.fdiv (h : 0 < j ∧ j < 2147483648) (q : Q (.int (i / j))) : GV (evBin .fdiv (.int i) (.int j) M) Q := .of (bin_fdiv h.1 (log_small h.1 h.2)) q
theorem GV.addL (h : xs.length + ys.length ≤ 16777216) (q : Q (.lst (xs ++ ys))) : GV (evBin .add (.lst xs) (.lst ys) M) Q := .of (bin_addL h) q
theorem GV.lt (q : B (decide (i < j))) : GV (cmpD .lt M (.int i) (.int j)) B := .of rfl q
theorem GV.le (q : B (decide (i ≤ j))) : GV (cmpD .le M (.int i) (.int j)) B := .of rfl q
theorem GV.gt (q : B (decide (j < i))) : GV (cmpD .gt M (.int i) (.int j)) B := .of rfl q
theorem GV.ge (q : B (decide (j ≤ i))) : GV (cmpD .ge M (.int i) (.int j)) B := .of rfl q
theorem GV.eqI (q : B (decide (i = j))) : GV (cmpD .eq M (.int i) (.int j)) B := .of rfl q
theorem GV.neI (q : B (!decide (i = j))) : GV (cmpD .ne M (.int i) (.int j)) B := .of rfl q
theorem GV.eqS (q : B (decide (s = t))) : GV (cmpD .eq M (.str s) (.str t)) B := .of rfl q
theorem GV.neS (q : B (!decide (s = t))) : GV (cmpD .ne M (.str s) (.str t)) B := .of rfl q
theorem GV.neSS (q : B false) : GV (cmpD .ne M (.str s) (.str s)) B := .of (by simp) q
theorem GV.eqSS (q : B true) : GV (cmpD .eq M (.str s) (.str s)) B := .of (by simp) q
theorem GV.eqO {x y : D} {b : Bool} (h : eqM M x y = some b) (q : B b) : GV (cmpD .eq M x y) B := .of h q
theorem GV.neO {x y : D} {b : Bool} (h : eqM M x y = some b) (q : B (!b)) : GV (cmpD .ne M x y) B := .of (by rw [cmp_ne, h]; rfl) q
theorem GV.isO {x y : D} {b : Bool} (h : isD x y = some b) (q : B b) : GV (cmpD .is M x y) B := .of h q
theorem GV.isnO {x y : D} {b : Bool} (h : isD x y = some b) (q : B (!b)) : GV (cmpD .isn M x y) B := .of (by rw [cmp_isn, h]; rfl) q
theorem GV.tbl {b : Bool} (q : B b) : GV (truth M (.bl b)) B := .of rfl q
theorem GV.ixT (h : GV (atI xs i) Q) : GV (ixD M (.tup xs) (.int i)) Q := h
theorem GV.ixL (h : GV (atI xs i) Q) : GV (ixD M (.lst xs) (.int i)) Q := h
theorem GV.lenT (q : Q (.int xs.length)) : GV (evBi .len [.tup xs] M) Q := .of rfl q
theorem GV.lenL (q : Q (.int xs.length)) : GV (evBi .len [.lst xs] M) Q := .of rfl q
theorem GV.min (q : Q (.int (if j < i then j else i))) : GV (evBi .min [.int i, .int j] M) Q := .of rfl q
theorem GV.max (q : Q (.int (if j > i then j else i))) : GV (evBi .max [.int i, .int j] M) Q := .of rfl q
theorem GV.tupL (q : Q (.tup xs)) : GV (evBi .tuple [.lst xs] M) Q := .of rfl q
theorem GV.tupT (q : Q (.tup xs)) : GV (evBi .tuple [.tup xs] M) Q := .of rfl q
theorem GV.tupS (q : Q (.tup xs)) : GV (evBi .tuple [.scr xs] M) Q := .of rfl q
theorem GV.listL (q : Q (.lst xs)) : GV (evBi .list [.lst xs] M) Q := .of rfl q
theorem GV.listT (q : Q (.lst xs)) : GV (evBi .list [.tup xs] M) Q := .of rfl q
theorem GV.boolB {b : Bool} (q : Q (.bl b)) : GV (evBi .bool [.bl b] M) Q := .of rfl q
theorem GV.intI (q : Q (.int i)) : GV (evBi .int [.int i] M) Q := .of rfl q
theorem GV.intf {I : Int → Prop} (q : I i) : GV (intOf (.int i)) I := .of rfl q
theorem GV.seqL {I : List D → Prop} (q : I xs) : GV (seqI (.lst xs)) I := .of rfl q
theorem GV.seqT {I : List D → Prop} (q : I xs) : GV (seqI (.tup xs)) I := .of rfl q
theorem GV.rng {I : List D → Prop} {n : Nat} (hi : i = n) (hn : n < 1000000) (q : I ((List.range n).map ltD)) : GV (rngD 0 i) I := by
  subst hi
  exact .of (rng_nat n hn) q
theorem GV.isi {ts : List String} {b : Bool} (h : isiD ts d = some b) (q : B b) : GV (isiD ts d) B := .of h q
end
section
/-! [None] + list(range(m)) -/
def optE (j : Nat) : Ex := .bin .add (.lst [.non]) (.lrg1 (.var j))
def optL (m : Nat) : List (Option Nat) := none :: (List.range m).map some
theorem optL_lt {m : Nat} {o : Option Nat} (h : o ∈ optL m) : ∀ n, o = some n → n < m := fun n e => by
  subst e
  simp only [optL, List.mem_cons, reduceCtorEq, List.mem_map, List.mem_range, Option.some.injEq, false_or] at h
  obtain ⟨a, ha, rfl⟩ := h
  exact ha
theorem GE.opt {σ : Env'} {M : Mem} {Q : D → Mem → Prop} {j m : Nat} {Φ : Nat → List D → Mem → Res D} (h : σ[j]? = some (some (.int (m : Nat)))) (hm : m < 1000) (q : Q (.lst ((optL m).map onD)) M) : GE Φ (optE j) σ M Q := by
  have e : (optL m).map onD = [D.non] ++ (List.range m).map ltD := by
    rw [optL, List.map_cons, List.map_map]
    rfl
  rw [e] at q
  exact .bin (.lst rfl (.cons (.non (.nil (.lrg1 (.var h (.intf (.rng rfl (by omega) ⟨by simp; omega, .addL (by simp; omega) q⟩))))))))
end
theorem memc_at {a : Option MO} {R : Mem} {o : Option MO} : (a :: (R ++ [o]))[R.length + 1]? = some o := by simp
theorem memc_put {a : Option MO} {R : Mem} {o o' : Option MO} : (a :: (R ++ [o])).set (R.length + 1) o' = a :: (R ++ [o']) := by simp
theorem lstAt_0 {M : Mem} {xs : List D} : lstAt (M ++ [some (.lst xs)]) M.length = some xs := by simp [lstAt]
theorem lstAt_c {a : Option MO} {M : Mem} {xs : List D} : lstAt (a :: (M ++ [some (.lst xs)])) (M.length + 1) = some xs := by simp [lstAt]
end Ev
local macro_rules | `(tactic| walk_at "goE") => `(tactic| first
  | refine Ev.GE.var rfl ?_
  | refine Ev.GE.int ?_
  | refine Ev.GE.call0 rfl ?_
  | refine Ev.GE.ix ?_
  | refine Ev.GE.opt rfl (by omega) ?_
  | refine Ev.GE.bin ?_
  | refine Ev.GE.cmp ?_
  | refine Ev.GE.fldE ?_
  | refine Ev.GE.bi ?_
  | refine Ev.GE.tup rfl ?_
  | refine Ev.GE.lst rfl ?_
  | refine Ev.GE.not ?_
  | refine Ev.GE.and ?_
  | refine Ev.GE.or ?_
  | refine Ev.GE.mcall ?_
  | refine Ev.GE.call ?_
  | refine Ev.GE.str ?_
  | refine Ev.GE.bl ?_
  | refine Ev.GE.non ?_
  | refine Ev.GE.neg ?_
  | refine Ev.GE.chn ?_
  | refine Ev.GE.slc ?_
  | refine Ev.GE.isc ?_
  | refine Ev.GE.isi ?_
  | refine Ev.GE.rev ?_
  | refine Ev.GE.stup ?_
  | refine Ev.GE.lrg1 ?_
  | refine Ev.GE.lrg2 ?_
  | refine Ev.GE.dng2 ?_
  | refine Ev.GE.mck ?_
  | refine Ev.GE.dct0 ?_
  | (refine Ev.GE.mdn0 ?_; try dsimp only [List.cons_append, List.length_cons])
  | refine Ev.GE.mls rfl ?_
  | refine Ev.GE.append rfl Ev.mem_at ?_
  | refine Ev.GE.append rfl Ev.memc_at ?_
  | refine Ev.GE.extend rfl Ev.mem_at ?_
  | refine Ev.GE.extend rfl Ev.memc_at ?_
  | refine Ev.GE.frz rfl Ev.mem_at ?_
  | refine Ev.GE.frz rfl Ev.memc_at ?_
  | refine Ev.GE.frzN rfl Ev.mem_at ?_
  | refine Ev.GE.frzN rfl Ev.memc_at ?_)
local macro_rules | `(tactic| walk_at "goV") => `(tactic| first
  | ((with_reducible show Ev.GV (Ev.evBin _ _ _ _) _); first | refine Ev.GV.add ?_ | refine Ev.GV.sub ?_ | refine Ev.GV.mulL (by decide) ?_ | refine Ev.GV.mulR (by decide) ?_ | refine Ev.GV.mulL (by omega) ?_ | refine Ev.GV.mulR (by omega) ?_ | refine Ev.GV.mod (by omega) ?_ | refine Ev.GV.fdiv (by omega) ?_)
  | ((with_reducible show Ev.GV (Ev.cmpD _ _ _ _) _); first | (with_reducible refine Ev.GV.neSS ?_) | (with_reducible refine Ev.GV.eqSS ?_) | refine Ev.GV.eqI ?_ | refine Ev.GV.neI ?_ | refine Ev.GV.lt ?_ | refine Ev.GV.le ?_ | refine Ev.GV.gt ?_ | refine Ev.GV.ge ?_ | refine Ev.GV.eqS ?_ | refine Ev.GV.neS ?_ | refine Ev.GV.isO rfl ?_ | refine Ev.GV.isnO rfl ?_)
  | ((with_reducible show Ev.GV (Ev.truth _ _) _); first | refine Ev.GV.tbl ?_ | refine Ev.GV.of rfl ?_)
  | ((with_reducible show Ev.GV (Ev.evBi _ _ _) _); first | refine Ev.GV.lenT ?_ | refine Ev.GV.lenL ?_ | refine Ev.GV.tupL ?_ | refine Ev.GV.tupT ?_ | refine Ev.GV.tupS ?_ | refine Ev.GV.listL ?_ | refine Ev.GV.listT ?_ | refine Ev.GV.boolB ?_ | refine Ev.GV.intI ?_ | refine Ev.GV.min ?_ | refine Ev.GV.max ?_)
  | ((with_reducible show Ev.GV (Ev.intOf _) _); refine Ev.GV.intf ?_)
  | ((with_reducible show Ev.GV (Ev.seqI _) _); first | refine Ev.GV.seqL ?_ | refine Ev.GV.seqT ?_)
  | ((with_reducible show Ev.GV (Ev.ixD _ _ _) _); first | refine Ev.GV.ixT ?_ | refine Ev.GV.ixL ?_)
  | ((with_reducible show Ev.GV (L2.atI _ _) _); refine Ev.GV.of rfl ?_)
  | ((with_reducible show Ev.GV (Ev.fldOf _ _ _) _); refine Ev.GV.of rfl ?_)
  | ((with_reducible show Ev.GV (Ev.methOf _ _ _ _) _); refine Ev.GV.of rfl ?_)
  | ((with_reducible show Ev.GV (Ev.clsOf _) _); refine Ev.GV.of rfl ?_)
  | ((with_reducible show Ev.GV (Ev.isiD _ _) _); refine Ev.GV.of rfl ?_)
  | ((with_reducible show Ev.GV (Ev.dcnOf _ _) _); refine Ev.GV.of rfl ?_)
  | ((with_reducible show Ev.GV (Ev.lstD _) _); refine Ev.GV.of rfl ?_)
  | ((with_reducible show Ev.GV (Ev.lstAt _ _) _); first | refine Ev.GV.of Ev.lstAt_0 ?_ | refine Ev.GV.of Ev.lstAt_c ?_))
local macro_rules | `(tactic| walk_at "goS") => `(tactic| first
  | refine Ev.GS.asg ?_
  | ((with_reducible show Ev.GS _ _ (List.set _ _ _) _ _); dsimp only [List.set_cons_succ, List.set_cons_zero])
  | refine Ev.GS.par2 ?_
  | refine Ev.GS.par3 ?_
  | refine Ev.GS.expr ?_
  | refine Ev.GS.ret ?_
  | refine Ev.GS.retN ?_
  | refine Ev.GS.cnt ?_
  | refine Ev.GS.brk ?_
  | refine Ev.GS.pass ?_
  | refine Ev.GS.frzs rfl Ev.mem_at ?_
  | refine Ev.GS.frzs rfl Ev.memc_at ?_
  | refine Ev.GS.nil ?_)
local macro_rules | `(tactic| walk_at "gn1") => `(tactic| first
  | ((with_reducible show Ev.GE _ _ _ _ _); walk_at "goE")
  | ((with_reducible show Ev.GV _ _); walk_at "goV")
  | ((with_reducible show Ev.GL _ _ _ _ _); first | refine Ev.GL.cons ?_ | refine Ev.GL.nil ?_)
  | ((with_reducible show Ev.GB _ _ _); first | refine Ev.GB.tt rfl ?_ | refine Ev.GB.ff rfl ?_ | refine Ev.GB.dt (by omega) ?_ | refine Ev.GB.df (by omega) ?_; try dsimp only [List.cons_append, List.nil_append])
  | ((with_reducible show Ev.GS _ _ _ _ _); walk_at "goS")
  | ((with_reducible show Ev.GT _ _ _ _ _ _); first
    | (refine Ev.GT.nm ?_; try dsimp only [List.set_cons_succ, List.set_cons_zero, Ev.wipeD_cons, Ev.wipeD_nil])
    | refine Ev.GT.tp ?_
    | refine Ev.GT.tpL ?_
    | (refine Ev.GT.fld rfl Ev.mem_at rfl ?_; rw [Ev.mem_put]))
  | ((with_reducible show Ev.GTs _ _ _ _ _ _); first | refine Ev.GTs.cons ?_ | refine Ev.GTs.nil ?_)
  | ((with_reducible show Ev.GI _ _ _ _ _); first | refine Ev.GI.seq ?_ | refine Ev.GI.rng1 ?_ | refine Ev.GI.rng2 ?_ | refine Ev.GI.enu ?_)
  | ((with_reducible show Ev.GK _ _ _ _ _); first | refine Ev.GK.cons ?_ | refine Ev.GK.nil ?_)
  | ((with_reducible show Ev.GO _ _ _ _ _); first | refine Ev.GO.some ?_ | refine Ev.GO.none ?_)
  | ((with_reducible show Ev.GCo _ _ _ _ _); first | refine Ev.GCo.some ?_ | refine Ev.GCo.none ?_)
  | ((with_reducible show Ev.GF _ _ (Ev.picks _ _) _ _); dsimp only [Ev.picks_cons, Ev.picks_nil, List.cons_append, List.nil_append, List.getElem?_cons_zero, List.getElem?_cons_succ, Option.getD_some]))
local macro_rules | `(tactic| walk_at "go1") => `(tactic| first
  | ((with_reducible show Ev.GE _ _ _ _ _); first | walk_at "goE" | refine Ev.GE.ite ?_)
  | ((with_reducible show Ev.GV _ _); walk_at "goV")
  | ((with_reducible show Ev.GL _ _ _ _ _); first | refine Ev.GL.cons ?_ | refine Ev.GL.nil ?_)
  | ((with_reducible show Ev.GB _ _ _); first | refine Ev.GB.tt rfl ?_ | refine Ev.GB.ff rfl ?_ | refine Ev.GB.dt (by omega) ?_ | refine Ev.GB.df (by omega) ?_; try dsimp only [List.cons_append, List.nil_append])
  | ((with_reducible show Ev.GS _ _ _ _ _); first | walk_at "goS" | refine Ev.GS.ifs ?_)
  | ((with_reducible show Ev.GT _ _ _ _ _ _); first
    | (refine Ev.GT.nm ?_; try dsimp only [List.set_cons_succ, List.set_cons_zero, Ev.wipeD_cons, Ev.wipeD_nil])
    | refine Ev.GT.tp ?_
    | refine Ev.GT.tpL ?_
    | (refine Ev.GT.fld rfl Ev.mem_at rfl ?_; rw [Ev.mem_put]))
  | ((with_reducible show Ev.GTs _ _ _ _ _ _); first | refine Ev.GTs.cons ?_ | refine Ev.GTs.nil ?_)
  | ((with_reducible show Ev.GI _ _ _ _ _); first | refine Ev.GI.seq ?_ | refine Ev.GI.rng1 ?_ | refine Ev.GI.rng2 ?_ | refine Ev.GI.enu ?_)
  | ((with_reducible show Ev.GK _ _ _ _ _); first | refine Ev.GK.cons ?_ | refine Ev.GK.nil ?_)
  | ((with_reducible show Ev.GO _ _ _ _ _); first | refine Ev.GO.some ?_ | refine Ev.GO.none ?_)
  | ((with_reducible show Ev.GCo _ _ _ _ _); first | refine Ev.GCo.some ?_ | refine Ev.GCo.none ?_)
  | ((with_reducible show Ev.GF _ _ (Ev.picks _ _) _ _); dsimp only [Ev.picks_cons, Ev.picks_nil, List.cons_append, List.nil_append, List.getElem?_cons_zero, List.getElem?_cons_succ, Option.getD_some]))
local macro_rules | `(tactic| walk_at "go") => `(tactic| repeat walk_at "go1")
local macro_rules | `(tactic| walk_at "in") => `(tactic| ((try simp only [List.map_cons, List.map_nil, List.cons_append, List.nil_append, Nat.reduceSub, List.reduceReplicate]); walk_at "go"))
local macro_rules | `(tactic| walk_at "gn") => `(tactic| repeat walk_at "gn1")
/-! Ev36: what laws draw, step by step. -/
namespace Ev
open PySem L2
/-- how far it was drawn, what is left of a great cell -/
structure DrS where
  lap : Int
  rest : Int
def stM (ns : List Int) (s : DrS) : Option MO := some (stairO ns s.lap s.rest)
def Lp (s : DrS) (n : Nat) : Prop := 0 ≤ s.lap ∧ s.lap ≤ n
theorem Lp.mono {s : DrS} {n m : Nat} (h : Lp s n) (l : n ≤ m) : Lp s m := ⟨h.1, by have := h.2; omega⟩
theorem noCells_int : ∀ ns : List Int, noCells (ns.map D.int) = true
  | [] => rfl
  | n :: ns => by simp [noCells, noCell, noCells_int ns]
theorem quiet_st {ns : List Int} {s : DrS} : quiet (stM ns s) = true := by simp [stM, quiet, stairO, noCells, noCell, noCells_int]
theorem quiet_c {ns : List Int} {s : DrS} {R : Mem} (h : R.all quiet = true) : (stM ns s :: R).all quiet = true := by rw [List.all_cons, quiet_st, h]; rfl
theorem quiet_none {R : Mem} (h : R.all quiet = true) : (R ++ [none]).all quiet = true := by simp [quiet]; simpa [quiet] using h
/-- the def that draws -/
def Drw (P : List Df) (f : Nat) : Prop := ∃ (d : Df) (p : DrC), P[f]? = some d ∧ d.body = drB p ∧ d.ps.length = 2 ∧ d.N.length = 6 ∧ p.ok = true
/-- the def that takes one of some -/
def Onee (P : List Df) (g f : Nat) : Prop := ∃ e : Df, P[g]? = some e ∧ e.body = [.ret (.ix (.var 1) (.call f [.var 0, .bi .len [.var 1]] [] [0, 1]))] ∧ e.ps.length = 2 ∧ e.N.length = 2
section
variable {P : List Df} {f g k : Nat} {ns : List Int} {s : DrS} {R : Mem} {n : Nat} {Q : D → Mem → Prop}
theorem GF.draw {many : Int} (hd : Drw P f) (hs : Lp s n) (hn : n ≤ 60000) (h0 : 0 < many) (h1 : many < 2147483648) (q : ∀ (r : Nat) (s' : DrS), (r : Int) < many → Lp s' (n + 1) → Q (.int (r : Nat)) (stM ns s' :: R)) : GF (evF P (k + 1)) f [.cell 0, .int many] (stM ns s :: R) Q := by
  obtain ⟨d, p, a1, a2, a3, a4, a5⟩ := hd
  have := hs.1
  have := hs.2
  obtain ⟨r, l, u, e, b1, b2, b3, b4⟩ := Ev.draw (P := P) (f := f) (d := d) (k := k) (ns := ns) (lap := s.lap) (rest := s.rest) (many := many) (i := 0) (M := stM ns s :: R) p a1 a2 a3 a4 a5 rfl h0 (log_small h0 h1) (by omega) (by omega)
  refine ⟨.int r, _, e, ?_⟩
  have := q r.toNat ⟨l, u⟩ (by omega) ⟨b3, by show l ≤ _; omega⟩
  rw [Int.toNat_of_nonneg b1] at this
  exact this
theorem GF.one {xs : List D} (hg : Onee P g f) (hd : Drw P f) (hs : Lp s n) (hn : n ≤ 60000) (hx : decide (0 < xs.length ∧ xs.length < 2147483648) = true) (q : ∀ (x : D) (s' : DrS), x ∈ xs → Lp s' (n + 1) → Q x (stM ns s' :: R)) : GF (evF P (k + 2)) g [.cell 0, .lst xs] (stM ns s :: R) Q := by
  obtain ⟨d, p, a1, a2, a3, a4, a5⟩ := hd
  obtain ⟨e, c1, c2, c3, c4⟩ := hg
  have hx := of_decide_eq_true hx
  have := hs.1
  have := hs.2
  obtain ⟨x, l, u, e, b2, b3, b4⟩ := Ev.drawOf (P := P) (f := f) (d := d) (g := g) (e := e) (k := k) (ns := ns) (lap := s.lap) (rest := s.rest) (i := 0) (M := stM ns s :: R) p a1 a2 a3 a4 a5 c1 c2 c3 c4 rfl xs (fun z => by rw [z] at hx; exact absurd hx.1 (by simp)) (by omega) (by omega) (by omega)
  exact ⟨x, _, e, q x ⟨l, u⟩ b2 ⟨b3, by show l ≤ _; omega⟩⟩
/-- one of some data -/
theorem GF.oneM {α : Type} (xs : List α) (mk : α → D) {ys : List D} (hy : ys = xs.map mk) (hg : Onee P g f) (hd : Drw P f) (hs : Lp s n) (hn : n ≤ 60000) (hx : decide (0 < xs.length ∧ xs.length < 2147483648) = true) (q : ∀ (x : α) (s' : DrS), x ∈ xs → Lp s' (n + 1) → Q (mk x) (stM ns s' :: R)) : GF (evF P (k + 2)) g [.cell 0, .lst ys] (stM ns s :: R) Q := by
  subst hy
  refine .one hg hd hs hn (by rw [List.length_map]; exact hx) fun x s' h h' => ?_
  obtain ⟨a, ha, rfl⟩ := List.mem_map.mp h
  exact q a s' ha h'
/-- the start -/
theorem GF.start {d : Df} (ns : List Int) (hd : P[f]? = some d) (hb : d.body = [.ret (.mls [.lc (.bi .int [.var 1]) (.nm 1) (.seq (.slc (.var 0) none (some (.int 60)))) none [1], .int 0, .int 0])]) (hps : d.ps.length = 1) (hN : d.N.length = 2) (q : Lp ⟨0, 0⟩ 0 → Q (.cell 0) [stM (ns.take 60) ⟨0, 0⟩]) : GF (evF P (k + 1)) f [.scr (ns.map D.int)] [] Q :=
  ⟨_, _, drawStart (P := P) (f := f) (d := d) (k := k) ns hd hb hps hN, q ⟨Int.le_refl _, Int.le_refl _⟩⟩
end
theorem quiet_dcn {R : Mem} {kvs : List (NestedKey × D)} (hq : R.all quiet = true) (h : noCellN kvs = true) : List.all (R ++ [some (MO.dcn kvs)]) quiet = true := by
  rw [List.all_append, hq]
  simp [quiet, h]
/-- True at every script -/
theorem ends_true {P : List Df} {k i : Nat} {ds : List D} (h : GF (evF P k) i ds [] fun d _ => d = .bl true) : ∃ M, evF P k i ds [] = .ok (.bl true) M := by
  obtain ⟨d, M, e, rfl⟩ := h.r
  exact ⟨M, e⟩
theorem GR.any {n : Nat} {d : D} {M : Mem} {Q : D → Mem → Prop} (q : ∀ M', Q d M') : GR n (.rt d M) Q := by
  refine ⟨?_⟩
  rw [bodyRes_rt]
  unfold tidy
  simp only
  split
  · exact ⟨_, _, rfl, q _⟩
  · split
    · exact ⟨_, _, rfl, q _⟩
    · exact ⟨_, _, rfl, q _⟩
end Ev
/-! Ev37: any row: what it is worth, and its strips as mathematics. -/
namespace Ev
open PySem L2
/-- an abstract row -/
structure Rw where
  W : Nat
  L : Nat
  beg : Nat → D
  nxt : D → D → D → D
  say : D → Bool
  ok : D → Prop
  dp : Nat
  wt : Nat
def Rw.okn (R : Rw) (d : D) : Prop := d = .non ∨ R.ok d
/-- what is plain, and not too large -/
def Plain (d : D) (dp w : Nat) : Prop := ∃ p, toPd d = some p ∧ small p = true ∧ p.canLay0 = true ∧ p.depth ≤ dp ∧ Ev.wt p ≤ w
/-- the methods' tables, the classes that are rows -/
structure Tbs where
  b : List (Nat × Nat)
  n : List (Nat × Nat)
  s : List (Nat × Nat)
  rs : List Nat
  /-- whether begin is there, whether says is -/
  hb : Bool
  hs : Bool
structure RowAt (P : List Df) (T : Tbs) (lv : Nat) (o : D) (R : Rw) : Prop where
  isrow : ∃ c fs, o = .ins c fs ∧ T.rs.contains c = true ∧ noCell o = true
  ways : ∀ M, fldOf M o "ways" = some (.int R.W)
  letters : ∀ M, fldOf M o "letters" = some (.int R.L)
  beg : T.hb = true → ∃ i, (∀ M, methOf M o "begin" T.b = some i) ∧ ∀ K M n, lv ≤ K → M.all quiet = true → n < R.L → evF P K i [o, .int (n : Nat)] M = .ok (R.beg n) M
  nxt : ∃ i, (∀ M, methOf M o "next" T.n = some i) ∧ ∀ K M l w r, lv ≤ K → M.all quiet = true → R.okn l → R.ok w → (R.W = 1 ∨ R.okn r) → evF P K i [o, l, w, r] M = .ok (R.nxt l w r) M
  say : T.hs = true → ∃ i, (∀ M, methOf M o "says" T.s = some i) ∧ ∀ K M w, lv ≤ K → M.all quiet = true → R.ok w → evF P K i [o, w] M = .ok (.bl (R.say w)) M
  wl : (R.W = 1 ∨ R.W = 2) ∧ 1 ≤ R.L ∧ R.L ≤ 6
  okb : ∀ n, n < R.L → R.ok (R.beg n)
  okx : ∀ l w r, R.okn l → R.ok w → (R.W = 1 ∨ R.okn r) → R.ok (R.nxt l w r)
  okq : ∀ d, R.ok d → noCell d = true
  nn : ∀ d, R.ok d → d ≠ .non
  nb : ∀ d, R.ok d → d ≠ .tup []
  one : R.W = 1 → ∀ l w r r', R.nxt l w r = R.nxt l w r'
  pl : ∀ d, R.ok d → Plain d R.dp R.wt
section
variable {P : List Df} {T : Tbs} {lv : Nat} {o : D} {R : Rw}
/-! a step of all cells -/
def LD (ws : List D) : List D := .non :: ws.dropLast
def RD (ws : List D) : List D := ws.drop 1 ++ [.non]
def stepR (R : Rw) (ws : List D) : List D := ((LD ws).zip (ws.zip (RD ws))).map fun p => R.nxt p.1 p.2.1 p.2.2
def itR (R : Rw) : Nat → List D → List D
  | 0, ws => ws
  | j + 1, ws => stepR R (itR R j ws)
theorem LD_len {ws : List D} (h : ws ≠ []) : (LD ws).length = ws.length := by
  cases ws with
  | nil => exact absurd rfl h
  | cons a l => simp [LD]
theorem RD_len {ws : List D} (h : ws ≠ []) : (RD ws).length = ws.length := by
  cases ws with
  | nil => exact absurd rfl h
  | cons a l => simp [RD]
theorem stepR_len {ws : List D} (h : ws ≠ []) : (stepR R ws).length = ws.length := by
  simp [stepR, LD_len h, RD_len h]
theorem stepR_nil : stepR R [] = [] := rfl
theorem itR_len {ws : List D} (h : ws ≠ []) : ∀ j, (itR R j ws).length = ws.length
  | 0 => rfl
  | j + 1 => by
    have e := itR_len h j
    rw [itR, stepR_len (fun z => by rw [z] at e; cases ws <;> simp_all), e]
/-- a cell's worth; none beyond -/
def gvR (R : Rw) (j : Nat) (ws : List D) (a : Nat) : D := (itR R j ws).getD a .non
theorem LD_at {ws : List D} {a : Nat} (h : a < ws.length) : (LD ws)[a]? = some (if a = 0 then .non else ws.getD (a - 1) .non) := by
  cases a with
  | zero => rfl
  | succ b =>
    rw [LD, List.getElem?_cons_succ, List.getElem?_dropLast, if_pos (by omega), if_neg (by omega), List.getD_eq_getElem?_getD, Nat.add_sub_cancel, List.getElem?_eq_getElem (by omega)]
    rfl
theorem RD_at {ws : List D} {a : Nat} (h : a < ws.length) : (RD ws)[a]? = some (ws.getD (a + 1) .non) := by
  rw [RD, List.getD_eq_getElem?_getD]
  by_cases hh : a + 1 < ws.length
  · rw [List.getElem?_append_left (by simp; omega), List.getElem?_drop, Nat.add_comm 1 a, List.getElem?_eq_getElem hh]
    rfl
  · rw [List.getElem?_append_right (by simp; omega), List.getElem?_eq_none (by omega : ws.length ≤ a + 1)]
    have : a - (ws.drop 1).length = 0 := by simp; omega
    rw [this]
    rfl
theorem getD_at {ws : List D} {a : Nat} (h : a < ws.length) : ws[a]? = some (ws.getD a .non) := by
  rw [List.getD_eq_getElem?_getD, List.getElem?_eq_getElem h]
  rfl
theorem stepR_at {ws : List D} {a : Nat} (h : a < ws.length) : (stepR R ws)[a]? = some (R.nxt (if a = 0 then .non else ws.getD (a - 1) .non) (ws.getD a .non) (ws.getD (a + 1) .non)) := by
  rw [stepR, List.getElem?_map]
  have e : ((LD ws).zip (ws.zip (RD ws)))[a]? = some (if a = 0 then .non else ws.getD (a - 1) .non, ws.getD a .non, ws.getD (a + 1) .non) := by
    rw [List.getElem?_zip_eq_some]
    refine ⟨LD_at h, ?_⟩
    rw [List.getElem?_zip_eq_some]
    exact ⟨getD_at h, RD_at h⟩
  rw [e]
  rfl
theorem gvR_get {ws : List D} {j a : Nat} (h : a < ws.length) : (itR R j ws)[a]? = some (gvR R j ws a) :=
  getD_at (by rw [itR_len (fun z => by rw [z] at h; simp at h)]; exact h)
theorem gvR_out {ws : List D} {j a : Nat} (h0 : ws ≠ []) (h : ws.length ≤ a) : gvR R j ws a = .non := by
  rw [gvR, List.getD_eq_getElem?_getD, List.getElem?_eq_none (by rw [itR_len h0]; exact h)]
  rfl
theorem gvR_zero {ws : List D} {a : Nat} : gvR R 0 ws a = ws.getD a .non := rfl
theorem gvR_step {ws : List D} {j a : Nat} (h : a < ws.length) : gvR R (j + 1) ws a = R.nxt (if a = 0 then .non else gvR R j ws (a - 1)) (gvR R j ws a) (gvR R j ws (a + 1)) := by
  have h' : a < (itR R j ws).length := by rw [itR_len (fun z => by rw [z] at h; simp at h)]; exact h
  have e := gvR_get (R := R) (j := j + 1) h
  rw [itR, stepR_at h'] at e
  exact (Option.some.inj e).symm
/-- all cells can be had -/
def AllOk (R : Rw) (ws : List D) : Prop := ∀ d ∈ ws, R.ok d
theorem AllOk.getD {ws : List D} (h : AllOk R ws) {a : Nat} (ha : a < ws.length) : R.ok (ws.getD a .non) := by
  rw [List.getD_eq_getElem?_getD, List.getElem?_eq_getElem ha]
  exact h _ (List.getElem_mem ha)
theorem AllOk.getDn {ws : List D} (h : AllOk R ws) (a : Nat) : R.okn (ws.getD a .non) := by
  by_cases ha : a < ws.length
  · exact .inr (h.getD ha)
  · rw [List.getD_eq_getElem?_getD, List.getElem?_eq_none (by omega)]
    exact .inl rfl
theorem AllOk.left {ws : List D} (h : AllOk R ws) (a : Nat) : R.okn (if a = 0 then .non else ws.getD (a - 1) .non) := by
  split
  · exact .inl rfl
  · exact h.getDn _
theorem RowAt.step (r : RowAt P T lv o R) {ws : List D} (h : AllOk R ws) : AllOk R (stepR R ws) := fun d hd => by
  obtain ⟨a, ha⟩ := List.getElem?_of_mem hd
  have h0 : ws ≠ [] := fun z => by rw [z, stepR_nil] at hd; cases hd
  have hl : a < ws.length := by
    have := (List.getElem?_eq_some_iff.mp ha).1
    rw [stepR_len h0] at this
    exact this
  rw [stepR_at hl] at ha
  rw [← Option.some.inj ha]
  exact r.okx _ _ _ (h.left a) (h.getD hl) (.inr (h.getDn _))
theorem RowAt.it (r : RowAt P T lv o R) {ws : List D} (h : AllOk R ws) : ∀ j, AllOk R (itR R j ws)
  | 0 => h
  | j + 1 => r.step (RowAt.it r h j)
def begs (R : Rw) (w : List Nat) : List D := w.map R.beg
theorem begs_len {w : List Nat} : (begs R w).length = w.length := by simp [begs]
theorem begs_ne {w : List Nat} (h : w ≠ []) : begs R w ≠ [] := by simpa [begs] using h
theorem RowAt.begs (r : RowAt P T lv o R) {w : List Nat} (h : ∀ n ∈ w, n < R.L) : AllOk R (begs R w) := fun d hd => by
  obtain ⟨n, hn, rfl⟩ := List.mem_map.mp hd
  exact r.okb n (h n hn)
theorem RowAt.gv_ok (r : RowAt P T lv o R) {w : List Nat} (h : ∀ n ∈ w, n < R.L) {j a : Nat} (ha : a < w.length) : R.ok (gvR R j (Ev.begs R w) a) :=
  (r.it (r.begs h) j).getD (by rw [itR_len (begs_ne fun z => by rw [z] at ha; simp at ha), begs_len]; exact ha)
theorem RowAt.gv_okn (r : RowAt P T lv o R) {w : List Nat} (h : ∀ n ∈ w, n < R.L) {j a : Nat} : R.okn (gvR R j (Ev.begs R w) a) := (r.it (r.begs h) j).getDn a
/-! which letters a worth hangs on -/
/-! seats -/
/-! plain data -/
theorem Plain.mono {d : D} {a b a' b' : Nat} (h : Plain d a b) (h1 : a ≤ a') (h2 : b ≤ b') : Plain d a' b' := by
  obtain ⟨p, e1, e2, e3, e4, e5⟩ := h
  exact ⟨p, e1, e2, e3, by omega, by omega⟩
theorem Plain.pds : ∀ {ds : List D} {dp w : Nat}, (∀ d ∈ ds, Plain d dp w) → ∃ ps, toPds ds = some ps ∧ smalls ps = true ∧ PyData.canLayAll0 ps = true ∧ PyData.depthAll ps ≤ dp ∧ Ev.wts ps ≤ (w + 2) * ds.length
  | [], dp, w, _ => ⟨[], rfl, rfl, rfl, Nat.zero_le _, Nat.le_refl _⟩
  | d :: ds, dp, w, h => by
    obtain ⟨p, e1, e2, e3, e4, e5⟩ := h d (List.mem_cons_self ..)
    obtain ⟨ps, f1, f2, f3, f4, f5⟩ := Plain.pds (ds := ds) fun x hx => h x (List.mem_cons_of_mem _ hx)
    refine ⟨p :: ps, by simp [toPds, e1, f1], by simp [smalls, e2, f2], by simp [PyData.canLayAll0, e3, f3], by simp only [PyData.depthAll]; omega, ?_⟩
    simp only [Ev.wts, List.length_cons, Nat.mul_add]
    omega
theorem Plain.tup {ds : List D} {dp w : Nat} (h : ∀ d ∈ ds, Plain d dp w) : Plain (.tup ds) (dp + 1) ((w + 2) * ds.length + 3) := by
  obtain ⟨ps, f1, f2, f3, f4, f5⟩ := Plain.pds h
  exact ⟨.tuple ps, by simp [toPd, f1], by simp [small, f2], by simp [PyData.canLay0, f3], by simp only [PyData.depth]; omega, by simp only [Ev.wt]; omega⟩
theorem Plain.lst {ds : List D} {dp w : Nat} (h : ∀ d ∈ ds, Plain d dp w) : Plain (.lst ds) (dp + 1) ((w + 2) * ds.length + 3) := by
  obtain ⟨ps, f1, f2, f3, f4, f5⟩ := Plain.pds h
  exact ⟨.list ps, by simp [toPd, f1], by simp [small, f2], by simp [PyData.canLay0, f3], by simp only [PyData.depth]; omega, by simp only [Ev.wt]; omega⟩
theorem Plain.int {i : Int} (h : -1000000000 < i ∧ i < 1000000000) : Plain (.int i) 0 48 := by
  refine ⟨.int i, rfl, ?_, rfl, Nat.le_refl _, by simp [Ev.wt]⟩
  simp only [small]
  exact decide_eq_true (by omega)
theorem Plain.nat {n : Nat} (h : n < 1000000000) : Plain (.int (n : Nat)) 0 48 := Plain.int (by omega)
theorem Plain.non : Plain .non 0 48 := ⟨.none, rfl, rfl, rfl, Nat.le_refl _, by simp [Ev.wt]⟩
theorem Plain.bl (b : Bool) : Plain (.bl b) 0 48 := ⟨.bool b, rfl, rfl, rfl, Nat.le_refl _, by simp [Ev.wt]⟩
/-- what repr writes -/
def shw (d : D) : Str := match toPd d with
  | some p => p.shown
  | none => ""
theorem now_pd {d : D} {p : PyData} {M : Mem} (h : toPd d = some p) : toPd (now M d) = some p := by
  cases d <;> simp_all [now, seqL, toPd]
theorem Plain.repr {d : D} {dp w : Nat} {M : Mem} (h : Plain d dp w) (h1 : dp ≤ 40) (h2 : w ≤ 16000000) : evBi .repr [d] M = some (.str (shw d)) := by
  obtain ⟨p, e1, e2, e3, e4, e5⟩ := h
  have := repr_small (M := M) (now_pd e1) e2 (by omega) (by omega)
  rw [this, shw, e1]
theorem Plain.eq {d : D} {dp w : Nat} {M : Mem} (h : Plain d dp w) (h1 : dp ≤ 60) : eqM M d d = some true := by
  obtain ⟨p, e1, e2, e3, e4, e5⟩ := h
  exact eqM_same (now_pd e1) (now_pd e1) (shaped_of e3 (by omega))
theorem GV.repr {d : D} {M : Mem} {Q : D → Prop} {dp w : Nat} (h : Plain d dp w) (h1 : dp ≤ 40) (h2 : w ≤ 16000000) (q : Q (.str (shw d))) : GV (evBi .repr [d] M) Q := .of (h.repr h1 h2) q
end
end Ev
/-! Ev38: the program's runs, for any row. -/
namespace Ev
open PySem L2
/-- where the checks and demands stand -/
structure Ck where
  i : Nat
  w : Nat
  l : Nat
  wd : Nat
  dn : Nat
  dw : Nat
  dr : Nat
structure ChkAt (P : List Df) (T : Tbs) (c : Ck) : Prop where
  i : At P c.i isIntB 1 1
  w : At P c.w (withinB c.i) 3 3
  l : At P c.l (letterB c.w) 2 2
  wd : At P c.wd (wordB c.w c.l) 2 3
  dn : c.dn ≠ 999 → At P c.dn (demNumB c.w) 4 4
  dw : At P c.dw (demWordB c.wd) 3 3
  dr : At P c.dr (demRowB T.rs) 2 2
section
variable {P : List Df} {T : Tbs} {lv : Nat} {o : D} {R : Rw} {c : Ck} {K : Nat} {M : Mem} {w : List Nat} {x : D} {t : Nat}
theorem ChkAt.num (h : ChkAt P T c) (hd : c.dn ≠ 999) (hK : 3 ≤ K) {i a b : Int} {x : D} (h1 : a ≤ i) (h2 : i ≤ b) : evF P K c.dn [.int i, .int a, .int b, x] M = .ok .non M := by
  obtain ⟨k, rfl⟩ : ∃ k, K = k + 3 := ⟨K - 3, by omega⟩
  exact demNum_ok (h.dn hd) h.w h.i i a b x h1 h2
theorem ChkAt.row (h : ChkAt P T c) (hK : 1 ≤ K) {y : D} (r : RowAt P T lv o R) : evF P K c.dr [o, y] M = .ok .non M := by
  obtain ⟨k, rfl⟩ : ∃ k, K = k + 1 := ⟨K - 1, by omega⟩
  obtain ⟨c', fs, rfl, e, _⟩ := r.isrow
  refine (GF.enter h.dr rfl ?_).to
  walk_at "go"
  rw [e]
  walk_at "go"
  exact .nx (Nat.le_refl _) ⟨rfl, rfl⟩
theorem word_seq {ds : List D} (hx : x = wdL w ∨ x = wdT w) (h : ds = w.map ltD) {Q : List D → Prop} (q : Q (w.map ltD)) : GV (seqI x) Q := by
  rcases hx with rfl | rfl <;> exact .of rfl q
theorem word_len (hx : x = wdL w ∨ x = wdT w) {Q : D → Prop} (q : Q (.int (w.length : Nat))) : GV (evBi .len [x] M) Q := by
  rcases hx with rfl | rfl <;> exact .of (by simp [wdL, wdT]) q
/-! strips -/
theorem noCells_of {ds : List D} (h : ∀ d ∈ ds, noCell d = true) : noCells ds = true := by
  induction ds with
  | nil => rfl
  | cons a l ih => simp [noCells, h a (List.mem_cons_self ..), ih fun d hd => h d (List.mem_cons_of_mem _ hd)]
end
end Ev
/-! Ev39: single worths of any row, its seat, its due tick, what it tells. -/
namespace Ev
open PySem L2
section
variable {P : List Df} {T : Tbs} {lv : Nat} {o : D} {R : Rw} {c : Ck} {K : Nat} {M : Mem} {w : List Nat} {x : D} {t : Nat}
/-! dicts of cells -/
def dctD : D → Option (List (Key × D))
  | .dct kvs => some kvs
  | _ => none
theorem dctD_some {x : D} {kvs : List (Key × D)} (h : dctD x = some kvs) : x = .dct kvs := by
  cases x <;> simp only [dctD, reduceCtorEq, Option.some.injEq] at h
  rw [h]
theorem GE.dix {Φ : Nat → List D → Mem → Res D} {σ : Env'} {Q : D → Mem → Prop} {a b : Ex} (h : GE Φ a σ M fun x M1 => GE Φ b σ M1 fun y M2 => GV (dctD x) fun kvs => GV (keyD y) fun k => GV (valD kvs k) fun d => Q d M2) : GE Φ (.dix a b) σ M Q := by
  obtain ⟨x, M1, ea, h⟩ := h.r
  obtain ⟨y, M2, eb, h⟩ := h.r
  obtain ⟨kvs, ek, h⟩ := h.r
  obtain ⟨k, ey, h⟩ := h.r
  obtain ⟨d, ed, h⟩ := h.r
  rw [dctD_some ek] at ea
  exact ⟨d, M2, by simp only [q_dix, ea, eb, Res.bind_ok, ey, ed, Res.of_some], h⟩
theorem GE.dgt {Φ : Nat → List D → Mem → Res D} {σ : Env'} {Q : D → Mem → Prop} {a b : Ex} (h : GE Φ a σ M fun x M1 => GV (dctD x) fun kvs => GE Φ b σ M1 fun y M2 => GV (keyD y) fun k => Q ((valD kvs k).getD .non) M2) : GE Φ (.dgt a b) σ M Q := by
  obtain ⟨x, M1, ea, h⟩ := h.r
  obtain ⟨kvs, ek, h⟩ := h.r
  obtain ⟨y, M2, eb, h⟩ := h.r
  obtain ⟨k, ey, h⟩ := h.r
  rw [dctD_some ek] at ea
  exact ⟨_, M2, by simp only [q_dgt, ea, eb, Res.bind_ok, ey], h⟩
/-! cells near -/
/-! single worths -/
end
end Ev
/-! Ev40: seats, due ticks, what any row tells. -/
namespace Ev
open PySem L2
end Ev
/-! Ev41: tables, as rows; made of lists or dicts. -/
namespace Ev
open PySem L2
def sortY (ys : List Nat) : List Nat := ((ys.map fun n : Nat => (n : Int)).mergeSort fun a b => decide (a ≤ b)).map Int.toNat
theorem sortY_asc {ys : List Nat} (h : ys.Pairwise (· < ·)) : sortY ys = ys := by
  unfold sortY
  rw [List.mergeSort_of_pairwise]
  · rw [List.map_map]
    conv => rhs; rw [← List.map_id ys]
    exact List.map_congr_left fun n _ => by simp
  · rw [List.pairwise_map]
    exact h.imp fun h => by simp; omega
section
variable {P : List Df} {T : Tbs} {c : Ck} {K : Nat} {M : Mem} {W L m cl : Nat} {kvs : List (NestedKey × D)} {ys : List Nat}
theorem sorted_any : evBi .sorted [.lst (ys.map ltD)] M = some (.lst ((sortY ys).map ltD)) := by
  simp only [evBi, seqL, Option.bind_some, ints_lt, Option.map_some]
  congr 2
  rw [sortY, List.map_map]
  refine List.map_congr_left fun i hi => ?_
  have := (List.mergeSort_perm _ _).mem_iff.mp hi
  obtain ⟨n, _, rfl⟩ := List.mem_map.mp this
  simp [ltD]
/-- where tables stand -/
structure TabIx where
  ini : Nat
  steps : Nat
  pairs : Nat
  key : Nat
  lot : Nat
  rank : Nat
  beg : Nat
  nxt : Nat
  say : Nat
def pairsB : List Sx := [pairs1, .ifs (.not (.isi (.var 0) ["list", "tuple"])) [.ret .non] [], .ifs (.not (.bi .all [(.lc (.and (.isi (.var 1) ["list", "tuple"]) (.cmp .eq (.bi .len [(.var 1)]) (.int 2))) (.nm 1) (.seq (.var 0)) none [1])])) [.ret .non] [], .ret (.bi .list [(.var 0)])]
def tsaysB : List Sx := [.ret (.cmp .inn (.var 1) (.fldE (.var 0) "yes"))]
structure TabAt (P : List Df) (T : Tbs) (c : Ck) (x : TabIx) (cl : Nat) : Prop where
  i : At P c.i isIntB 1 1
  w : At P c.w (withinB c.i) 3 3
  ini : At P x.ini (iniB c.w x.steps x.lot x.rank) 6 8
  steps : At P x.steps (stepsB x.pairs x.key c.w) 3 7
  pairs : At P x.pairs pairsB 1 2
  key : At P x.key (isKeyB c.w) 3 5
  lot : At P x.lot (lotB c.w) 2 3
  beg : T.hb = true → At P x.beg [.ret (.var 1)] 2 2 ∧ T.b.lookup cl = some x.beg
  nxt : At P x.nxt tnextB 4 5
  say : T.hs = true → At P x.say tsaysB 2 2 ∧ T.s.lookup cl = some x.say
  tn : T.n.lookup cl = some x.nxt
  tr : T.rs.contains cl = true
/-- rules, as a dict or as a list -/
def RulesD (kvs : List (NestedKey × D)) (x : D) : Prop := x = .dcn kvs ∨ x = .lst (prD kvs)
theorem pairs_row {x : D} {f : Nat} (h : At P f pairsB 1 2) (hx : RulesD kvs x) (hl : kvs.length ≤ 1000) (hK : 1 ≤ K) : evF P K f [x] M = .ok (.lst (prD kvs)) M := by
  obtain ⟨k, rfl⟩ : ∃ k, K = k + 1 := ⟨K - 1, by omega⟩
  rcases hx with rfl | rfl
  · exact pairs_ok (rest := [_, _, _]) h
  · refine (GF.enter h rfl ?_).to
    unfold pairsB pairs1
    walk_at "in"
    refine .lcm (fun _ => .bl true) ?_
    walk_at "go"
    refine ⟨by simp [prD]; omega, fun x hx => ?_, ?_⟩
    · obtain ⟨kv, _, rfl⟩ := List.mem_map.mp hx
      walk_at "go"
      exact ⟨rfl, rfl⟩
    · walk_at "go"
      refine .of all_true ?_
      walk_at "go"
      exact .rt (Nat.le_refl _) ⟨rfl, rfl⟩
theorem steps_row {x : D} {ix : TabIx} (h : TabAt P T c ix cl) (hx : RulesD kvs x) (g : GoodR W m kvs) (hW : W < 100) (hl : kvs.length ≤ 1000) (hq : M.all quiet = true) (hK : 4 ≤ K) : evF P K ix.steps [x, .int W, .int m] M = .ok (.dcn kvs) M := by
  obtain ⟨k, rfl⟩ : ∃ k, K = k + 4 := ⟨K - 4, by omega⟩
  refine (GF.enter h.steps rfl ?_).to
  unfold stepsB
  walk_at "in"
  refine .eq (pairs_row h.pairs hx hl (by omega)) ?_
  walk_at "go"
  unfold stepsFor
  refine .forL (M1 := M ++ [some (.dcn [])]) (ds := prD kvs) (by rw [q_seq, q_var]; rfl) (fun i σ M' => ∃ a b, σ = [some x, some (.int W), some (.int m), some (.lst (prD kvs)), some (.cell M.length), a, b] ∧ M' = M ++ [some (.dcn (kvs.take i))]) ⟨none, none, rfl, by simp⟩ ?_ ?_
  · rintro i z σ M' hz ⟨a, b, rfl, rfl⟩
    unfold prD at hz
    rw [List.getElem?_map] at hz
    obtain ⟨kv, hkv, rfl⟩ := Option.map_eq_some_iff.mp hz
    obtain ⟨ks, v, rfl, h1, h2⟩ := g.2 kv (List.mem_of_getElem? hkv)
    have hi := (List.getElem?_eq_some_iff.mp hkv).1
    have nk : kyN ks ∉ (kvs.take i).map (·.1) := fun hm => by
      obtain ⟨q, hq, e⟩ := List.mem_map.mp hm
      obtain ⟨j, hj, hjq⟩ := List.getElem_of_mem hq
      have hj2 : j < i := by simp at hj; omega
      have n := g.1
      have i1 : (kvs.map (·.1))[j]? = some (kyN ks) := by
        rw [List.getElem?_map]
        have : kvs[j]? = some q := by
          rw [← hjq, List.getElem_take]
          exact List.getElem?_eq_getElem _
        rw [this]
        exact congrArg some e
      have i2 : (kvs.map (·.1))[i]? = some (kyN ks) := by rw [List.getElem?_map, hkv]; rfl
      have := (List.getElem?_inj (List.getElem?_eq_some_iff.mp i1).1 n).mp (i1.trans i2.symm)
      omega
    rw [kD_ky]
    walk_at "go"
    refine .eq (isKey_ok (k := k) h.key h.w h.i h1 hW) ?_
    walk_at "go"
    refine .eq (within_iff (k := k + 1) h.w h.i _ _ _) ?_
    have c1 : decide ((0 : Int) ≤ v) = true := by simp
    have c2 : decide ((v : Int) ≤ m - 1) = true := by simp; omega
    rw [c1, c2]
    walk_at "go"
    have kt : keyT (kyD ks) = some (kyN ks) := keyT_ky ks
    refine .subN ?_
    walk_at "go"
    refine ⟨_, _, _, _, rfl, rfl, mem_at, kt, by simp; omega, ?_⟩
    rw [mem_put, putKN_new nk, ← take_next hkv]
    walk_at "go"
    exact .nx ⟨_, _, rfl, rfl⟩
  · rintro σ M' ⟨a, b, rfl, rfl⟩
    have : kvs.take (prD kvs).length = kvs := by simp [prD]
    rw [this]
    unfold stepsEnd
    refine .ret (.ite (.cmp (.eq (d := .int kvs.length) (M1 := M ++ [some (.dcn kvs)]) (by simp [dcnOf]) ?_)))
    walk_at "go"
    refine .dt (by simp [prD]) ?_
    walk_at "go"
    rw [mem_put]
    exact .cut rfl rfl hq (by simpa only [noCell] using noCell_good g) ⟨rfl, rfl⟩
theorem lot_row {ix : TabIx} (h : TabAt P T c ix cl) (hn : ys.Nodup) (hm : ∀ y ∈ ys, y < m) (hl : ys.length < 64) (hK : 3 ≤ K) : evF P K ix.lot [.lst (ys.map ltD), .int m] M = .ok (.bl true) M := by
  obtain ⟨k, rfl⟩ : ∃ k, K = k + 3 := ⟨K - 3, by omega⟩
  exact lot_ok h.lot h.w h.i hn hm hl
theorem nodup_lt_len {ys : List Nat} {m : Nat} (hn : ys.Nodup) (hm : ∀ y ∈ ys, y < m) : ys.length ≤ m := by
  have := hn.length_le_of_subset (l₂ := List.range m) (fun y hy => List.mem_range.mpr (hm y hy))
  simpa using this
theorem ini_row {x : D} {ix : TabIx} (h : TabAt P T c ix cl) (hx : RulesD kvs x) (g : GoodR W m kvs) (hl : kvs.length ≤ 1000) (hW : 1 ≤ W ∧ W ≤ 2) (hL : 1 ≤ L ∧ L ≤ 6) (hm : L ≤ m ∧ m ≤ 12) (hy : ys.Nodup) (hy2 : ∀ y ∈ ys, y < m) (hq : M.all quiet = true) (hK : 5 ≤ K) :
    evF P K ix.ini [.cell M.length, .int W, .int L, .int m, x, .lst (ys.map ltD)] (M ++ [some (.ins cl [])]) = .ok .non (M ++ [some (.ins cl (tabF W L m kvs (sortY ys)))]) := by
  obtain ⟨k, rfl⟩ : ∃ k, K = k + 5 := ⟨K - 5, by omega⟩
  refine (GF.enter h.ini rfl ?_).to
  have q1 : List.all (M ++ [some (MO.ins cl [])]) quiet = true := by
    rw [List.all_append, hq]; rfl
  have wi := fun (i a b : Int) => within_iff (k := k + 2) (M := M ++ [some (.ins cl [])]) h.w h.i i a b
  have yl := nodup_lt_len hy hy2
  show GS _ ([_, _, _, _, _, _] ++ iniC ix.rank) _ _ _
  walk_at "in"
  refine .eq (wi _ _ _) ?_
  rw [show decide ((1 : Int) ≤ W) = true by simp; omega, show decide ((W : Int) ≤ 2) = true by simp; omega]
  walk_at "go"
  refine .eq (wi _ _ _) ?_
  rw [show decide ((1 : Int) ≤ L) = true by simp; omega, show decide ((L : Int) ≤ 6) = true by simp; omega]
  walk_at "go"
  refine .eq (wi _ _ _) ?_
  rw [show decide ((L : Int) ≤ m) = true by simp; omega, show decide ((m : Int) ≤ 12) = true by simp; omega]
  walk_at "go"
  refine .eq (steps_row h hx g (by omega) hl q1 (by omega)) ?_
  walk_at "go"
  refine .eq (lot_row h hy hy2 (by omega) (by omega)) ?_
  walk_at "go"
  refine .eq (rules_lc g hW.2 hm.2 hl rfl rfl) ?_
  walk_at "go"
  refine .of sorted_any ?_
  walk_at "go"
  exact .nx (by simp) ⟨rfl, rfl⟩
end
end Ev
/-! Ev42: a table is a row; ends of bodies. -/
namespace Ev
open PySem L2
section
variable {P : List Df} {T : Tbs} {c : Ck} {K : Nat} {M : Mem} {W L m cl : Nat} {kvs : List (NestedKey × D)} {ys : List Nat}
def tnx (W : Nat) (kvs : List (NestedKey × D)) (l w r : D) : D := match keyT (if W = 1 then .tup [l, w] else .tup [l, w, r]) with
  | some key => (valN kvs key).getD w
  | none => w
def numOk (m : Nat) (d : D) : Prop := ∃ n, n < m ∧ d = ltD n
def tabR (W L m : Nat) (kvs : List (NestedKey × D)) (ys : List Nat) : Rw where
  W := W
  L := L
  beg := ltD
  nxt := tnx W kvs
  say := fun d => match d with
    | .int i => decide (i.toNat ∈ ys)
    | _ => false
  ok := numOk m
  dp := 0
  wt := 48
theorem okn_on {d : D} (h : d = .non ∨ numOk m d) : ∃ o : Option Nat, d = onD o ∧ ∀ n, o = some n → n < m := by
  rcases h with rfl | ⟨n, hn, rfl⟩
  · exact ⟨none, rfl, fun _ z => nomatch z⟩
  · exact ⟨some n, rfl, fun k z => by cases z; exact hn⟩
theorem tnx_wv (g : GoodR W m kvs) (l : Option Nat) (o : Nat) (r : Option Nat) : tnx W kvs (onD l) (.int o) (onD r) = .int (wv W kvs l o r : Nat) := by
  unfold tnx
  rw [tk_key, ← wv_val g]
theorem tnx_one (g : GoodR 1 m kvs) (l : Option Nat) (o : Nat) (r : D) : tnx 1 kvs (onD l) (.int o) r = .int (wv 1 kvs l o none : Nat) := tnx_wv g l o none
theorem tab_row {ix : TabIx} (h : TabAt P T c ix cl) (g : GoodR W m kvs) (hW : W = 1 ∨ W = 2) (hL : 1 ≤ L ∧ L ≤ 6) (hm : L ≤ m ∧ m ≤ 12) (hy : ys.length < 1000) : RowAt P T 1 (tabO cl W L m kvs ys) (tabR W L m kvs ys) where
  isrow := ⟨cl, _, rfl, h.tr, by
    have n1 : ∀ v : List Nat, noCells (v.map ltD) = true := fun v => noCells_of fun d hd => by
      obtain ⟨n, _, rfl⟩ := List.mem_map.mp hd
      rfl
    have n2 : noCells (rulesD kvs) = true := noCells_of fun d hd => by
      obtain ⟨x, hx, rfl⟩ := List.mem_map.mp hd
      have hx' : x ∈ keysD kvs := (List.mergeSort_perm _ _).mem_iff.mp hx
      obtain ⟨ks, n, rfl, h1, h2⟩ := keysD_mem g hx'
      have n3 : noCells (ks.map onD) = true := noCells_of fun d hd => by
        obtain ⟨o, _, rfl⟩ := List.mem_map.mp hd
        cases o <;> rfl
      have kt : keyT (.tup (ks.map onD)) = some (kyN ks) := keyT_ky ks
      simp [noCell, noCells, valOf, kt, h2, kyD, n3]
    simp [tabO, tabF, noCell, noCellF, n1, n2, noCell_good g]⟩
  ways := fun _ => rfl
  letters := fun _ => rfl
  beg := fun hb => ⟨ix.beg, fun _ => (h.beg hb).2, fun K M n hK _ _ => by
    obtain ⟨k, rfl⟩ : ∃ k, K = k + 1 := ⟨K - 1, by omega⟩
    exact begin_ok (h.beg hb).1 _ _⟩
  nxt := ⟨ix.nxt, fun _ => h.tn, fun K M l w r hK _ h1 h2 h3 => by
    obtain ⟨k, rfl⟩ : ∃ k, K = k + 1 := ⟨K - 1, by omega⟩
    obtain ⟨l', rfl, _⟩ := okn_on h1
    obtain ⟨n, hn, rfl⟩ := h2
    by_cases hW1 : W = 1
    · subst hW1
      have := tnext_ok (k := k) (M := M) (L := L) (m := m) (ys := ys) (c := cl) (kvs := kvs) (W := 1) (x := onD l') (y := .int n) (z := r) h.nxt (tk_key 1 l' n none)
      refine this.trans ?_
      have e : tnx 1 kvs (onD l') (.int n) r = _ := tnx_one g l' n r
      have e2 := tnx_wv g l' n none
      show _ = Res.ok (tnx 1 kvs (onD l') (.int n) r) M
      rw [e, ← e2, tnx, tk_key]
    · rcases h3 with z | h3
      · exact absurd z hW1
      obtain ⟨r', rfl, _⟩ := okn_on h3
      have := tnext_ok (k := k) (M := M) (L := L) (m := m) (ys := ys) (c := cl) (kvs := kvs) h.nxt (tk_key W l' n r')
      refine this.trans ?_
      show _ = Res.ok (tnx W kvs (onD l') (.int n) (onD r')) M
      rw [tnx, tk_key]⟩
  say := fun hs => ⟨ix.say, fun _ => (h.say hs).2, fun K M w hK _ h2 => by
    obtain ⟨k, rfl⟩ : ∃ k, K = k + 1 := ⟨K - 1, by omega⟩
    obtain ⟨n, hn, rfl⟩ := h2
    exact says_ok (h.say hs).1 n⟩
  wl := ⟨hW, hL⟩
  okb := fun n hn => ⟨n, Nat.lt_of_lt_of_le hn hm.1, rfl⟩
  okx := fun l w r h1 h2 h3 => by
    obtain ⟨l', rfl, _⟩ := okn_on h1
    obtain ⟨n, hn, rfl⟩ := h2
    by_cases hW1 : W = 1
    · subst hW1
      exact ⟨_, wv_lt g hn, tnx_one g l' n r⟩
    · rcases h3 with z | h3
      · exact absurd z hW1
      obtain ⟨r', rfl, _⟩ := okn_on h3
      exact ⟨_, wv_lt g hn, tnx_wv g l' n r'⟩
  okq := fun d hd => by
    obtain ⟨n, _, rfl⟩ := hd
    rfl
  nn := fun d hd => by
    obtain ⟨n, _, rfl⟩ := hd
    exact fun z => nomatch z
  nb := fun d hd => by
    obtain ⟨n, _, rfl⟩ := hd
    exact fun z => nomatch z
  one := fun hW1 l w r r' => by
    have : W = 1 := hW1
    subst this
    rfl
  pl := fun d hd => by
    obtain ⟨n, hn, rfl⟩ := hd
    exact Plain.nat (by omega)
/-- a table is made -/
theorem GE.tab {σ : Env'} {Q : D → Mem → Prop} {ix : TabIx} {es : List Ex} (h : TabAt P T c ix cl) (hK : 5 ≤ K)
    (hs : GL (evF P K) es σ M fun ds M1 => ∃ (W L m : Nat) (kvs : List (NestedKey × D)) (x : D) (ys : List Nat), ds = [.int (W : Nat), .int (L : Nat), .int (m : Nat), x, .lst (ys.map ltD)] ∧ RulesD kvs x ∧ GoodR W m kvs ∧ kvs.length ≤ 1000 ∧ (1 ≤ W ∧ W ≤ 2) ∧ (1 ≤ L ∧ L ≤ 6) ∧ (L ≤ m ∧ m ≤ 12) ∧ ys.Nodup ∧ (∀ y ∈ ys, y < m) ∧ M1.all quiet = true ∧ Q (tabO cl W L m kvs (sortY ys)) (M1 ++ [none])) :
    GE (evF P K) (.new cl ix.ini es) σ M Q := by
  obtain ⟨ds, M1, es, el, W, L, m, kvs, x, ys, rfl, hx, g, hl, hW, hL, hm, hy, hy2, hq, q⟩ := hs.r
  exact .new1 ⟨_, M1, es, el, ini_row h hx g hl hW hL hm hy hy2 hq hK, q⟩
end
end Ev
/-! Ev43: what laws have of their own, some of them alike: all words. -/
namespace Ev
open PySem L2
end Ev
/-! Ev44: drawn rules, as dicts. -/
namespace Ev
open PySem L2
section
variable {P : List Df} {dr on : Nat} {K : Nat} {ns : List Int} {s : DrS} {R : Mem} {b : Nat} {Q : D → Mem → Prop}
/-- K levels -/
theorem GF.drawK {f : Nat} {many : Int} (hd : Drw P f) (hK : 1 ≤ K) (hs : Lp s b) (hn : b ≤ 60000) (h0 : 0 < many) (h1 : many < 2147483648) (q : ∀ (r : Nat) (s' : DrS), (r : Int) < many → Lp s' (b + 1) → Q (.int (r : Nat)) (stM ns s' :: R)) : GF (evF P K) f [.cell 0, .int many] (stM ns s :: R) Q := by
  obtain ⟨k, rfl⟩ : ∃ k, K = k + 1 := ⟨K - 1, by omega⟩
  exact .draw hd hs hn h0 h1 q
theorem GF.oneK {α : Type} (xs : List α) (mk : α → D) {ys : List D} {f g : Nat} (hy : ys = xs.map mk) (hg : Onee P g f) (hd : Drw P f) (hK : 2 ≤ K) (hs : Lp s b) (hn : b ≤ 60000) (hx : 0 < xs.length ∧ xs.length < 2147483648) (q : ∀ (x : α) (s' : DrS), x ∈ xs → Lp s' (b + 1) → Q (mk x) (stM ns s' :: R)) : GF (evF P K) g [.cell 0, .lst ys] (stM ns s :: R) Q := by
  obtain ⟨k, rfl⟩ : ∃ k, K = k + 2 := ⟨K - 2, by omega⟩
  exact .oneM xs mk hy hg hd hs hn (decide_eq_true hx) q
/-- a drawn word -/
theorem GE.wordK {σ : Env'} {it : It} {bE : Ex} {v c f : Nat} (L : Nat) (hd : Drw P f) (hK : 1 ≤ K) (hL : 0 < L ∧ L < 2147483648) (hc : ∀ x, ((wipeD σ [v]).set v (some x))[c]? = some (some (.cell 0))) (hb : ∀ x M', evE (evF P K) bE ((wipeD σ [v]).set v (some x)) M' = .ok (.int (L : Nat)) M')
    (hi : GI (evF P K) it σ (stM ns s :: R) fun ds M1 => ∃ (s1 : DrS) (n j : Nat), M1 = stM ns s1 :: R ∧ Lp s1 n ∧ n + j ≤ 60000 ∧ ds.length = j ∧ (∀ (w : List Nat) (s' : DrS), w.length = j → (∀ x ∈ w, x < L) → Lp s' (n + j) → Q (wdL w) (stM ns s' :: R))) :
    GE (evF P K) (.lc (.call f [.var c, bE] [] [0, 1]) (.nm v) it none [v]) σ (stM ns s :: R) Q := by
  obtain ⟨k, rfl⟩ : ∃ k, K = k + 1 := ⟨K - 1, by omega⟩
  obtain ⟨ds, M1, ei, s1, m, j, rfl, hm, h2, hj, q⟩ := hi.r
  refine GE.lcI (fun ds i acc M' => ∃ (w : List Nat) (s' : DrS), acc = w.map ltD ∧ w.length = i ∧ (∀ x ∈ w, x < L) ∧ M' = stM ns s' :: R ∧ Lp s' (m + i)) ⟨ds, _, ei, by omega, ⟨[], s1, rfl, rfl, by simp, rfl, hm⟩, ?_, ?_⟩
  · intro i x acc M' hxi ⟨w, s', e1, e2, e3, e4, e5⟩
    subst e1 e4
    have := (List.getElem?_eq_some_iff.mp hxi).1
    refine GT.nm (GCo.none (GB.tt rfl (GE.call0 rfl (GL.cons (GE.var (hc x) (GL.cons (GE.eq (hb x _) (GL.nil (GF.draw hd e5 (by omega) (by omega) (by omega) fun r s2 hr hs2 => ?_)))))))))
    exact ⟨w ++ [r], s2, by simp [ltD], by simp [e2], fun y hy => by
      rcases List.mem_append.mp hy with z | z
      · exact e3 y z
      · rw [List.mem_singleton.mp z]; omega, rfl, hs2⟩
  · intro acc M' ⟨w, s', e1, e2, e3, e4, e5⟩
    subst e1 e4
    rw [hj] at e2 e5
    exact q w s' e2 e3 e5
/-- some of the first numbers, drawn -/
theorem GE.yesK {σ : Env'} {it : It} {v c f : Nat} {bb : Int} (m : Nat) (hd : Drw P f) (hK : 1 ≤ K) (hs : Lp s b) (hm : m ≤ 1000) (hn : b + m ≤ 60000) (hb : 0 < bb ∧ bb < 1000) (hv : ∀ x, ((wipeD σ [v]).set v (some x))[c]? = some (some (.cell 0)) ∧ ((wipeD σ [v]).set v (some x))[v]? = some (some x))
    (hi : GI (evF P K) it σ (stM ns s :: R) fun ds M1 => ds = (List.range m).map ltD ∧ M1 = stM ns s :: R)
    (q : ∀ (ys : List Nat) (s' : DrS), ys.Pairwise (· < ·) → (∀ y ∈ ys, y < m) → Lp s' (b + m) → Q (wdL ys) (stM ns s' :: R)) :
    GE (evF P K) (.lc (.var v) (.nm v) it (some (.cmp .eq (.call f [.var c, .int bb] [] [0, 1]) (.int 0))) [v]) σ (stM ns s :: R) Q := by
  obtain ⟨k, rfl⟩ : ∃ k, K = k + 1 := ⟨K - 1, by omega⟩
  obtain ⟨ds, M1, ei, rfl, rfl⟩ := hi.r
  refine GE.lcI (fun ds i acc M' => ∃ (w : List Nat) (s' : DrS), acc = w.map ltD ∧ w.Pairwise (· < ·) ∧ (∀ x ∈ w, x < i) ∧ M' = stM ns s' :: R ∧ Lp s' (b + i)) ⟨_, _, ei, by simp; omega, ⟨[], s, rfl, .nil, by simp, rfl, hs⟩, ?_, ?_⟩
  · intro i x acc M' hxi ⟨w, s', e1, e2, e3, e4, e5⟩
    subst e1 e4
    rw [List.getElem?_map] at hxi
    obtain ⟨j, hj, rfl⟩ := Option.map_eq_some_iff.mp hxi
    obtain ⟨h1, h2⟩ := List.getElem?_eq_some_iff.mp hj
    simp only [List.getElem_range] at h2
    subst h2
    have h1' : i < m := by simpa using h1
    obtain ⟨x1, x2⟩ := hv (ltD i)
    refine GT.nm (GCo.some (GE.cmp (GE.call0 rfl (GL.cons (GE.var x1 (GL.cons (GE.int (GL.nil (GF.draw hd e5 (by omega) (by omega) (by omega) fun r s2 hr hs2 => GE.int (GV.eqI (GV.tbl ⟨fun _ => GE.var x2 ?_, fun _ => ?_⟩)))))))))))
    · exact ⟨w ++ [i], s2, by simp, List.pairwise_append.mpr ⟨e2, by simp, fun a ha b hb => by rw [List.mem_singleton.mp hb]; exact e3 a ha⟩, fun y hy => by
        rcases List.mem_append.mp hy with z | z
        · have := e3 y z; omega
        · rw [List.mem_singleton.mp z]; omega, rfl, hs2⟩
    · exact ⟨w, s2, rfl, e2, fun y hy => by have := e3 y hy; omega, rfl, hs2⟩
  · intro acc M' ⟨w, s', e1, e2, e3, e4, e5⟩
    subst e1 e4
    rw [List.length_map, List.length_range] at e3 e5
    exact q w s' e2 e3 e5
end
end Ev
/-! Ev45: strips of tables, as numbers. -/
namespace Ev
open PySem L2
end Ev
/-! Ev46: the row of two ways that is made of a row of one way. -/
namespace Ev
open PySem L2
def isBey : D → Bool
  | .tup [] => true
  | _ => false
theorem toPds_nil {ds : List D} (h : toPds ds = some []) : ds = [] := by
  cases ds with
  | nil => rfl
  | cons d ds =>
    simp only [toPds] at h
    split at h <;> cases h
theorem eq_bey {d : D} {a b : Nat} {M : Mem} (h : Plain d a b) (ha : a ≤ 60) : eqM M d (.tup []) = some (isBey d) := by
  obtain ⟨p, e1, e2, e3, e4, e5⟩ := h
  have sh : shapedB p = true := shaped_of e3 (by omega)
  have sh2 : shapedB (.tuple []) = true := rfl
  have np : toPd (now M d) = some p := now_pd e1
  have n0 : toPd (now M (.tup [])) = some (.tuple []) := rfl
  have key : eqD M d (.tup []) = some (PyData.eqv p (.tuple [])) := by
    simp only [eqD, np, n0, sh, sh2, Bool.and_self, if_true]
  have fin : PyData.eqv p (.tuple []) = isBey d := by
    cases d <;> simp only [toPd, reduceCtorEq, Option.some.injEq, Option.map_eq_some_iff] at e1
    · subst e1; rfl
    · subst e1; rfl
    · subst e1; rfl
    · subst e1; rfl
    · rename_i xs
      obtain ⟨ps, h1, rfl⟩ := e1
      cases xs with
      | nil =>
        simp only [toPds, Option.some.injEq] at h1
        subst h1; rfl
      | cons x xs =>
        cases ps with
        | nil => exact absurd (toPds_nil h1) (by simp)
        | cons p ps => rfl
    · obtain ⟨ps, h1, rfl⟩ := e1; rfl
    · obtain ⟨ps, h1, rfl⟩ := e1; rfl
  rw [fin] at key
  cases d <;> exact key
def okF (S : Rw) (d : D) : Prop := d = .non ∨ d = .tup [] ∨ S.ok d
section
variable {P : List Df} {T : Tbs} {lv : Nat} {o : D} {S : Rw} {K : Nat} {M : Mem}
theorem is_non {d : D} : d ≠ .non → isD d .non = some false := fun h => by cases d <;> first | exact absurd rfl h | rfl
end
end Ev
/-! Ev47: folded rows have what the row of one way has at twice the tick. -/
namespace Ev
open PySem L2
end Ev
/-! Ev48: what the laws of folds have of their own: drawn rows of one way, their strips. -/
namespace Ev
open PySem L2
section
variable {P : List Df} {T : Tbs} {c : Ck} {dr on : Nat} {K : Nat} {M : Mem} {ns : List Int} {s : DrS} {R : Mem} {b : Nat} {Q : D → Mem → Prop} {L m : Nat} {kvs : List (NestedKey × D)} {ys : List Nat}
def rowsR (S : Rw) (w : List Nat) (t : Nat) : List D := (List.range (t + 1)).map fun j => .lst (itR S j (begs S w))
theorem rowsR_succ {S : Rw} {w : List Nat} {t : Nat} : rowsR S w (t + 1) = rowsR S w t ++ [.lst (itR S (t + 1) (begs S w))] := by simp [rowsR, List.range_succ]
theorem rowsR_at {S : Rw} {w : List Nat} {t j : Nat} (h : j ≤ t) : (rowsR S w t)[j]? = some (.lst (itR S j (begs S w))) := by
  rw [rowsR, List.getElem?_map, List.getElem?_range (by omega)]
  rfl
theorem rowsR_len {S : Rw} {w : List Nat} {t : Nat} : (rowsR S w t).length = t + 1 := by simp [rowsR]
theorem atI_last {xs : List D} {n : Nat} {v : D} (hl : xs.length = n + 1) (h : xs[n]? = some v) : atI xs (-1) = some v := by
  have e : ixN xs.length (-1) = some n := by
    unfold ixN
    rw [hl]
    simp
    omega
  unfold atI
  rw [e]
  exact h
end
end Ev
/-! Ev49: a drawn row of one way; words in lists. -/
namespace Ev
open PySem L2
section
variable {P : List Df} {dr on : Nat} {K : Nat} {M : Mem} {ns : List Int} {s : DrS} {R : Mem} {b : Nat} {Q : D → Mem → Prop}
/-- range(i, j) -/
theorem GV.rng2 {I : List D → Prop} {i j : Nat} {x y : Int} (hx : x = i) (hy : y = j) (hi : i < 1000000) (hj : j < 1000000) (q : I ((List.range (j - i)).map fun k => ltD (i + k))) : GV (rngD x y) I := by
  subst hx hy
  refine .of ?_ q
  unfold rngD
  rw [if_pos (by omega)]
  congr 1
  rw [show ((j : Int) - i).toNat = j - i by omega]
  refine List.map_congr_left fun k _ => ?_
  simp [ltD]
/-- a drawn word -/
def wordFB (dr : Nat) : List Sx := [.ret (.lc (.call dr [(.var 0), (.var 1)] [] [0, 1]) (.nm 3) (.rng1 (.var 2)) none [3])]
theorem wordF_go {f L n : Nat} (h : At P f (wordFB dr) 3 4) (hd : Drw P dr) (hL : 0 < L ∧ L < 1000) (hn : n ≤ 1000) (hs : Lp s b) (hb : b + n ≤ 60000) (hK : 2 ≤ K)
    (q : ∀ (w : List Nat) (s' : DrS), w.length = n → (∀ x ∈ w, x < L) → Lp s' (b + n) → Q (wdL w) (stM ns s' :: R)) : GF (evF P K) f [.cell 0, .int L, .int n] (stM ns s :: R) Q := by
  obtain ⟨k, rfl⟩ : ∃ k, K = k + 1 := ⟨K - 1, by omega⟩
  refine .enter h rfl ?_
  unfold wordFB
  walk_at "in"
  refine .wordK L hd (by omega) (by omega) (fun x => rfl) (fun x M' => by rw [q_var]; rfl) ?_
  walk_at "go"
  refine .rng rfl (by omega) ⟨s, b, n, rfl, hs, hb, by simp, fun w s' hl hw hs' => ?_⟩
  exact .rt (Nat.le_refl _) (q w s' hl hw hs')
end
end Ev
/-! Ev50: the row of one way that is made of a row of two ways. -/
namespace Ev
open PySem L2
section
variable {P : List Df} {T : Tbs} {lv : Nat} {o : D} {S : Rw} {K : Nat} {M : Mem}
structure OneIx where
  ini : Nat
  beg : Nat
  nxt : Nat
  say : Nat
def onIniB (dr : Nat) : List Sx := [.expr (.call dr [(.var 1), (.str "row")] [] [0, 1]), .ifs (.cmp .ne (.fldE (.var 1) "ways") (.int 2)) [.nev] [], .asg (.fld (.var 0) "row") (.var 1), .asg (.fld (.var 0) "letters") (.fldE (.var 1) "letters"), .asg (.fld (.var 0) "ways") (.int 1)]
def onBegB (T : Tbs) : List Sx := [.ret (.tup [(.int 0), (.mcall "begin" T.b (.fldE (.var 0) "row") [(.var 1)])])]
def onNxtB (T : Tbs) : List Sx := [.asg (.nm 4) (.and (.cmp .isn (.var 1) .non) (.cmp .eq (.ix (.var 1) (.int 0)) (.int 1))),
  .ifs (.cmp .eq (.ix (.var 2) (.int 0)) (.int 0)) [.ifs (.and (.cmp .isn (.var 1) .non) (.not (.var 4))) [.ret (.tup [(.int 0), (.ix (.var 2) (.int 1))])] [], .ret (.tup [(.int 1), (.ix (.var 2) (.int 1)), .non, (.ite (.var 4) (.ix (.var 1) (.int 2)) .non)])] [],
  .asg (.nm 5) (.ix (.var 2) (.int 1)), .ifs (.or (.not (.var 4)) (.cmp .is (.ix (.var 1) (.int 2)) .non)) [.ret (.tup [(.int 1), .non, (.var 5), .non])] [],
  .ret (.tup [(.int 1), (.mcall "next" T.n (.fldE (.var 0) "row") [(.ix (.var 1) (.int 3)), (.ix (.var 1) (.int 2)), (.var 5)]), (.var 5), (.ix (.var 1) (.int 2))])]
def onSayB (T : Tbs) : List Sx := [.ret (.and (.cmp .eq (.ix (.var 1) (.int 0)) (.int 1)) (.and (.cmp .isn (.ix (.var 1) (.int 1)) .non) (.bi .bool [(.mcall "says" T.s (.fldE (.var 0) "row") [(.ix (.var 1) (.int 1))])])))]
structure OneAt (P : List Df) (T : Tbs) (dr : Nat) (x : OneIx) (cl : Nat) : Prop where
  ini : At P x.ini (onIniB dr) 2 2
  beg : T.hb = true → At P x.beg (onBegB T) 2 2 ∧ T.b.lookup cl = some x.beg
  nxt : At P x.nxt (onNxtB T) 4 6
  say : T.hs = true → At P x.say (onSayB T) 2 2 ∧ T.s.lookup cl = some x.say
  tn : T.n.lookup cl = some x.nxt
  tr : T.rs.contains cl = true
def oneO (cl L : Nat) (o : D) : D := .ins cl [("row", o), ("letters", .int L), ("ways", .int (1 : Nat))]
/-- a OneWay is made -/
theorem GE.one {σ : Env'} {Q : D → Mem → Prop} {ix : OneIx} {cl : Nat} {c : Ck} {es : List Ex} (h : OneAt P T c.dr ix cl) (hc : ChkAt P T c) (hK : 3 ≤ K)
    (hs : GL (evF P K) es σ M fun ds M1 => ∃ (lv : Nat) (o : D) (S : Rw), ds = [o] ∧ RowAt P T lv o S ∧ S.W = 2 ∧ Q (oneO cl S.L o) (M1 ++ [none])) : GE (evF P K) (.new cl ix.ini es) σ M Q := by
  obtain ⟨ds, M1, es, el, lv, o, S, rfl, r, h1, q⟩ := hs.r
  refine .new1 ⟨_, M1, es, el, ?_, q⟩
  obtain ⟨k, rfl⟩ : ∃ k, K = k + 1 := ⟨K - 1, by omega⟩
  refine (GF.enter h.ini rfl ?_).to
  unfold onIniB
  walk_at "in"
  refine .eq (hc.row (by omega) r) ?_
  walk_at "go"
  refine .of (r.ways _) ?_
  walk_at "go"
  refine .same (by omega) ?_
  walk_at "go"
  refine .of (r.letters _) ?_
  walk_at "go"
  exact .nx (by simp) ⟨rfl, rfl⟩
end
end Ev
/-! Ev51: what cells have by both ways stands along a slant by one. -/
namespace Ev
open PySem L2
end Ev
/-! Ev52: drawn rules of two ways; own running of rules of two ways. -/
namespace Ev
open PySem L2
section
variable {P : List Df} {T : Tbs} {c : Ck} {dr on : Nat} {K : Nat} {M : Mem} {ns : List Int} {s : DrS} {R : Mem} {b : Nat} {Q : D → Mem → Prop} {L m : Nat} {kvs : List (NestedKey × D)} {ys : List Nat}
theorem bes_at {ws : List D} {a : Nat} : a < ws.length + 2 → (([D.non] ++ ws) ++ [D.non])[a]? = some (if a = 0 then .non else ws.getD (a - 1) .non) := fun h => by
  cases a with
  | zero => rfl
  | succ b =>
    rw [if_neg (by omega), Nat.add_sub_cancel, List.singleton_append, List.cons_append, List.getElem?_cons_succ, List.getD_eq_getElem?_getD]
    by_cases hb : b < ws.length
    · rw [List.getElem?_append_left hb, List.getElem?_eq_getElem hb]; rfl
    · rw [List.getElem?_append_right (by omega), List.getElem?_eq_none (by omega : ws.length ≤ b), show b - ws.length = 0 by omega]; rfl
theorem step_all {S : Rw} {ws : List D} : stepR S ws = (List.range ws.length).map fun a => S.nxt (if a = 0 then .non else ws.getD (a - 1) .non) (ws.getD a .non) (ws.getD (a + 1) .non) := by
  by_cases h0 : ws = []
  · subst h0; rfl
  refine List.ext_getElem? fun a => ?_
  rw [List.getElem?_map]
  by_cases h : a < ws.length
  · rw [stepR_at h, List.getElem?_range h]
    rfl
  · rw [List.getElem?_eq_none (by rw [stepR_len h0]; omega), List.getElem?_eq_none (by simp; omega)]
    rfl
end
end Ev
/-! Ev53: rows that are made of rows: not, both, either. -/
namespace Ev
open PySem L2
section
variable {P : List Df} {T : Tbs} {lv lv1 lv2 : Nat} {o o1 o2 : D} {S S1 S2 : Rw} {K : Nat} {M : Mem}
/-! both, either -/
structure JoinIx where
  ali : Nat
  npa : Nat
  par : Nat
  ini : Nat
  beg : Nat
  nxt : Nat
  say : Nat
def aliB (dr : Nat) : List Sx := [.expr (.call dr [(.var 0), (.str "one")] [] [0, 1]), .expr (.call dr [(.var 1), (.str "other")] [] [0, 1]), .ifs (.cmp .ne (.fldE (.var 0) "ways") (.fldE (.var 1) "ways")) [.nev] [], .ifs (.cmp .ne (.fldE (.var 0) "letters") (.fldE (.var 1) "letters")) [.nev] []]
def npaB (T : Tbs) (pa : Nat) : List Sx := [.asg (.nm 5) (.ite (.cmp .eq (.fldE (.var 0) "ways") (.int 2)) (.var 4) .non), .asg (.nm 6) (.mcall "next" T.n (.var 0) [(.call pa [(.var 2), (.int 0)] [] [0, 1]), (.ix (.var 3) (.int 0)), (.call pa [(.var 5), (.int 0)] [] [0, 1])]),
  .ret (.tup [(.var 6), (.mcall "next" T.n (.var 1) [(.call pa [(.var 2), (.int 1)] [] [0, 1]), (.ix (.var 3) (.int 1)), (.call pa [(.var 5), (.int 1)] [] [0, 1])])])]
def parB : List Sx := [.ret (.ite (.cmp .is (.var 0) .non) .non (.ix (.var 0) (.var 1)))]
def jnIniB (al : Nat) : List Sx := [.expr (.call al [(.var 1), (.var 2)] [] [0, 1]), .asg (.fld (.var 0) "one") (.var 1), .asg (.fld (.var 0) "other") (.var 2), .asg (.fld (.var 0) "letters") (.fldE (.var 1) "letters"), .asg (.fld (.var 0) "ways") (.fldE (.var 1) "ways")]
def jnBegB (T : Tbs) : List Sx := [.ret (.tup [(.mcall "begin" T.b (.fldE (.var 0) "one") [(.var 1)]), (.mcall "begin" T.b (.fldE (.var 0) "other") [(.var 1)])])]
def jnNxtB (np : Nat) : List Sx := [.ret (.call np [(.fldE (.var 0) "one"), (.fldE (.var 0) "other"), (.var 1), (.var 2), (.var 3)] [] [0, 1, 2, 3, 4])]
def jnSayB (T : Tbs) (b : Bool) : List Sx := if b then [.ret (.and (.bi .bool [(.mcall "says" T.s (.fldE (.var 0) "one") [(.ix (.var 1) (.int 0))])]) (.bi .bool [(.mcall "says" T.s (.fldE (.var 0) "other") [(.ix (.var 1) (.int 1))])]))]
  else [.ret (.or (.bi .bool [(.mcall "says" T.s (.fldE (.var 0) "one") [(.ix (.var 1) (.int 0))])]) (.bi .bool [(.mcall "says" T.s (.fldE (.var 0) "other") [(.ix (.var 1) (.int 1))])]))]
structure JoinAt (P : List Df) (T : Tbs) (dr : Nat) (b : Bool) (x : JoinIx) (cl : Nat) : Prop where
  ali : At P x.ali (aliB dr) 2 2
  npa : At P x.npa (npaB T x.par) 5 7
  par : At P x.par parB 2 2
  ini : At P x.ini (jnIniB x.ali) 3 3
  beg : T.hb = true → At P x.beg (jnBegB T) 2 2 ∧ T.b.lookup cl = some x.beg
  nxt : At P x.nxt (jnNxtB x.npa) 4 4
  say : T.hs = true → At P x.say (jnSayB T b) 2 2 ∧ T.s.lookup cl = some x.say
  tn : T.n.lookup cl = some x.nxt
  tr : T.rs.contains cl = true
def joinO (cl W L : Nat) (o1 o2 : D) : D := .ins cl [("one", o1), ("other", o2), ("letters", .int L), ("ways", .int W)]
/-- a Both or an Either is made -/
theorem GE.join {σ : Env'} {Q : D → Mem → Prop} {b : Bool} {ix : JoinIx} {cl : Nat} {c : Ck} {es : List Ex} (h : JoinAt P T c.dr b ix cl) (hc : ChkAt P T c) (hK : 4 ≤ K)
    (hs : GL (evF P K) es σ M fun ds M1 => ∃ (lv1 lv2 : Nat) (o1 o2 : D) (S1 S2 : Rw), ds = [o1, o2] ∧ RowAt P T lv1 o1 S1 ∧ RowAt P T lv2 o2 S2 ∧ S2.W = S1.W ∧ S2.L = S1.L ∧ Q (joinO cl S1.W S1.L o1 o2) (M1 ++ [none])) : GE (evF P K) (.new cl ix.ini es) σ M Q := by
  obtain ⟨ds, M1, es, el, lv1, lv2, o1, o2, S1, S2, rfl, r1, r2, eW, eL, q⟩ := hs.r
  refine .new1 ⟨_, M1, es, el, ?_, q⟩
  obtain ⟨k, rfl⟩ : ∃ k, K = k + 2 := ⟨K - 2, by omega⟩
  refine (GF.enter h.ini rfl ?_).to
  unfold jnIniB
  walk_at "in"
  refine .enter h.ali rfl ?_
  unfold aliB
  walk_at "in"
  refine .eq (hc.row (by omega) r1) ?_
  walk_at "go"
  refine .eq (hc.row (by omega) r2) ?_
  walk_at "go"
  refine .of (r1.ways _) ?_
  walk_at "go"
  refine .of (r2.ways _) ?_
  walk_at "go"
  rw [eW]
  refine .same (by omega) ?_
  walk_at "go"
  refine .of (r1.letters _) ?_
  walk_at "go"
  refine .of (r2.letters _) ?_
  walk_at "go"
  rw [eL]
  refine .same (by omega) ?_
  walk_at "go"
  refine .nx (by simp) ?_
  walk_at "go"
  refine .of (r1.letters _) ?_
  walk_at "go"
  refine .of (r1.ways _) ?_
  walk_at "go"
  exact .nx (by simp) ⟨rfl, rfl⟩
end
end Ev
/-! Ev54: a law's own running of any row; a drawn table of either way. -/
namespace Ev
open PySem L2
theorem GS.frzsN {Φ : Nat → List D → Mem → Res D} {σ : Env'} {M : Mem} {ss : List Sx} {QS : RS → Prop} {v i : Nat} {s : Sx} {kvs : List (NestedKey × D)} (hv : σ[v]? = some (some (.cell i))) (hm : M[i]? = some (some (.dcn kvs))) (h : GS Φ (s :: ss) (σ.set v (some (.dcn kvs))) (M.set i none) QS) : GS Φ (.frzs v s :: ss) σ M QS := by
  refine ⟨?_⟩
  have := h.r
  rw [q_scons] at this ⊢
  rw [q_frzs]
  simp only [hv, hm]
  exact this
section
variable {P : List Df} {T : Tbs} {lv : Nat} {o : D} {S : Rw} {c : Ck} {dr on : Nat} {K : Nat} {M : Mem} {ns : List Int} {s : DrS} {R : Mem} {b : Nat} {Q : D → Mem → Prop} {w : List Nat} {ws : List D}
/-- what a row's first worths are, in a comprehension -/
theorem GE.begs {σ : Env'} {v j : Nat} {it : It} {Q : D → Mem → Prop} {M1 : Mem} {P : List Df} {K : Nat} (r : RowAt P T lv o S) (hb : T.hb = true) (hw : ∀ n ∈ w, n < S.L) (hl : w.length ≤ 1000) (hq : M1.all quiet = true) (hK : lv ≤ K) (hσ : ∀ x : D, ((wipeD σ [v]).set v (some x))[j]? = some (some o) ∧ ((wipeD σ [v]).set v (some x))[v]? = some (some x))
    (hi : GI (evF P K) it σ M fun ds M2 => ds = w.map ltD ∧ M2 = M1) (q : Q (.lst (begs S w)) M1) : GE (evF P K) (.lc (.mcall "begin" T.b (.var j) [(.var v)]) (.nm v) it none [v]) σ M Q := by
  obtain ⟨ib, hb1, hb2⟩ := r.beg hb
  refine .lcM (M1 := M1) w ltD S.beg hi (by omega) (fun n hn => ?_) q
  obtain ⟨h1, h2⟩ := hσ (ltD n)
  refine GT.nm (GE.mcall (GE.var h1 ?_))
  refine .of (hb1 _) ?_
  refine GL.cons (GE.var h2 (GL.nil ?_))
  exact .eq (hb2 _ _ n (by omega) hq (hw n hn)) ⟨rfl, rfl⟩
end
end Ev
/-! Ev55: drawn rules of either way. -/
namespace Ev
open PySem L2
end Ev
/-! Ev56: sums of lists as cells; all words; own running of drawn rules of either way. -/
namespace Ev
open PySem L2
theorem GE.madd {Φ : Nat → List D → Mem → Res D} {σ : Env'} {M : Mem} {Q : D → Mem → Prop} {a b : Ex} (h : GE Φ a σ M fun x M1 => GE Φ b σ M1 fun y M2 => ∃ xs ys, seqC M2 x = some xs ∧ seqC M2 y = some ys ∧ xs.length + ys.length ≤ 16777216 ∧ Q (.cell M2.length) (M2 ++ [some (.lst (xs ++ ys))])) : GE Φ (.madd a b) σ M Q := by
  obtain ⟨x, M1, ea, h⟩ := h.r
  obtain ⟨y, M2, eb, xs, ys, e1, e2, hl, q⟩ := h.r
  refine ⟨_, _, ?_, q⟩
  rw [q_madd, ea, Res.bind_ok, eb, Res.bind_ok, e1, e2]
  have : xs.length + ys.length ≤ sizeLine := by rw [sizeLine_eq]; exact hl
  simp only [this, if_true]
theorem GR.keep {n i : Nat} {M : Mem} {Q : D → Mem → Prop} (q : Q (.cell i) M) : GR n (.rt (.cell i) M) Q := by
  refine ⟨.cell i, M, ?_, q⟩
  rw [bodyRes_rt]
  simp only [tidy, noCell, Bool.and_false, Bool.false_eq_true, if_false, ite_self]
end Ev
/-! Ev57: what joined and renamed rows tell. -/
namespace Ev
open PySem L2
theorem GI.zip {Φ : Nat → List D → Mem → Res D} {σ : Env'} {M : Mem} {Q : List D → Mem → Prop} {a b : Ex} (h : GE Φ a σ M fun x M1 => GE Φ b σ M1 fun y M2 => ∃ xs ys, x = .lst xs ∧ y = .lst ys ∧ Q ((xs.zip ys).map fun p => .tup [p.1, p.2]) M2) : GI Φ (.zip a b) σ M Q := by
  obtain ⟨x, M1, ea, h⟩ := h.r
  obtain ⟨y, M2, eb, xs, ys, rfl, rfl, q⟩ := h.r
  exact ⟨_, _, by rw [q_zip, ea, Res.bind_ok, eb, Res.bind_ok], q⟩
end Ev
/-! Ev62: TwoWays made by keyword; what it becomes beside worths that never stand so. -/
namespace Ev
open PySem L2
section
variable {P : List Df} {T : Tbs} {lv : Nat} {o : D} {S : Rw} {K : Nat} {M : Mem}
/-- a worth that may stand nowhere -/
def wk (S : Rw) (d : D) : Prop := ∃ a b, d = .tup [a, b] ∧ okF S a ∧ okF S b
end
end Ev
/-! Ev58: while; pop; cells reckoned in any order. -/
namespace Ev
open PySem L2
section
variable {Φ : Nat → List D → Mem → Res D} {σ : Env'} {M : Mem} {ss : List Sx} {QS : RS → Prop} {Q : D → Mem → Prop}
theorem q_whl {n : Nat} {c : Ex} {b : List Sx} : evS Φ (.whl n c b) σ M = whlGo (fun σ1 M1 => (evE Φ c σ1 M1).bind fun d M2 => Res.of (truth M2 d) M2) (fun σ1 M1 => evSs Φ b σ1 M1) n σ M := by rw [evS]; try rfl
theorem GS.whl {n : Nat} {c : Ex} {b : List Sx} (m : Nat) (hm : m < n) (I : Nat → Env' → Mem → Prop) (h0 : I m σ M)
    (hs : ∀ j σ M, I (j + 1) σ M → GE Φ c σ M fun d M1 => GV (truth M1 d) fun t => t = true ∧ GS Φ b σ M1 (Turn (I j)))
    (he : ∀ σ M, I 0 σ M → GE Φ c σ M fun d M1 => GV (truth M1 d) fun t => t = false ∧ GS Φ ss σ M1 QS) : GS Φ (.whl n c b :: ss) σ M QS := by
  have key : ∀ m n σ M, m < n → I m σ M → ∃ σ' M', whlGo (fun σ1 M1 => (evE Φ c σ1 M1).bind fun d M2 => Res.of (truth M2 d) M2) (fun σ1 M1 => evSs Φ b σ1 M1) n σ M = .nx σ' M' ∧ GS Φ ss σ' M' QS := by
    intro m
    induction m with
    | zero =>
      intro n σ M hn h
      obtain ⟨d, M1, e1, h⟩ := (he σ M h).r
      obtain ⟨t, e2, rfl, g⟩ := h.r
      obtain ⟨n, rfl⟩ : ∃ k, n = k + 1 := ⟨n - 1, by omega⟩
      refine ⟨σ, M1, ?_, g⟩
      rw [whlGo]
      simp only [e1, Res.bind_ok, e2, Res.of_some, RS.of_ok, Bool.false_eq_true, if_false]
    | succ m ih =>
      intro n σ M hn h
      obtain ⟨d, M1, e1, h⟩ := (hs m σ M h).r
      obtain ⟨t, e2, rfl, g⟩ := h.r
      obtain ⟨n, rfl⟩ : ∃ k, n = k + 1 := ⟨n - 1, by omega⟩
      have g := g.r
      rw [whlGo]
      simp only [e1, Res.bind_ok, e2, Res.of_some, RS.of_ok, if_true]
      cases hr : evSs Φ b σ M1 with
      | nx σ1 M2 =>
        rw [hr] at g
        exact ih n σ1 M2 (by omega) g
      | ct σ1 M2 =>
        rw [hr] at g
        exact ih n σ1 M2 (by omega) g
      | _ => rw [hr] at g; exact g.elim
  obtain ⟨σ', M', e, g⟩ := key m n σ M hm h0
  exact ⟨by rw [evSs_cons (σ1 := σ') (M1 := M') (by rw [q_whl]; exact e)]; exact g.r⟩
theorem ixN_nat {n j : Nat} (h : j < n) : ixN n (j : Int) = some j := by
  unfold ixN
  simp
  omega
theorem GE.pop {v i : Nat} {e : Ex} (hv : σ[v]? = some (some (.cell i))) {ys : List D} (hy : M[i]? = some (some (.lst ys))) (h : GE Φ e σ M fun d M1 => ∃ (j : Nat) (xs : List D) (y : D), d = .int (j : Nat) ∧ M1[i]? = some (some (.lst xs)) ∧ xs[j]? = some y ∧ j < 1000000 ∧ Q y (M1.set i (some (.lst (xs.eraseIdx j))))) : GE Φ (.meth .pop (.var v) [e]) σ M Q := by
  obtain ⟨x, M1, ea, j, xs, y, rfl, h1, h2, h3, q⟩ := h.r
  have hj := (List.getElem?_eq_some_iff.mp h2).1
  refine ⟨_, _, evE_meth (x := .cell i) (M1 := M) (by rw [q_var, hv]) (by simp [mtFit, seqL, hy]) (evL_one ea) ?_, q⟩
  simp only [evMt, h1, ixN_nat hj, h2]
  rw [if_pos (by omega)]
theorem GE.mmul {a b : Ex} (h : GE Φ a σ M fun x M1 => GE Φ b σ M1 fun y M2 => ∃ (d : D) (n : Nat), x = .lst [d] ∧ y = .int (n : Nat) ∧ n ≤ 16777216 ∧ Q (.cell M2.length) (M2 ++ [some (.lst (List.replicate n d))])) : GE Φ (.mmul a b) σ M Q := by
  obtain ⟨x, M1, ea, h⟩ := h.r
  obtain ⟨y, M2, eb, d, n, rfl, rfl, hl, q⟩ := h.r
  refine ⟨_, _, ?_, q⟩
  rw [q_mmul, ea, Res.bind_ok, eb, Res.bind_ok]
  have e : ∀ n, (List.replicate n [d]).flatten = List.replicate n d := fun n => by
    induction n with
    | zero => rfl
    | succ n ih => rw [List.replicate_succ, List.flatten_cons, ih]; rfl
  have : -(2 ^ 63) ≤ (n : Int) ∧ (n : Int) < 2 ^ 63 ∧ [d].length * (n : Int).toNat ≤ sizeLine := by
    rw [sizeLine_eq]
    simp
    omega
  simp only [Int.toNat_natCast] at this ⊢
  rw [if_pos this, e n]
end
section
variable {a : Option MO} {A : Mem} {f l x : Option MO}
theorem at1 : (a :: ((A ++ [f]) ++ [l]))[A.length + 1]? = some f := by simp
theorem at2 : (a :: ((A ++ [f]) ++ [l]))[A.length + 2]? = some l := by simp
end
end Ev
/-! Ev63: laws whose drawn rules are a list of pairs: the table drawn, its dict, own running, any row run. -/
namespace Ev
open PySem L2
section
variable {P : List Df} {T : Tbs} {c : Ck} {dr on : Nat} {K : Nat} {M : Mem} {ns : List Int} {s : DrS} {R : Mem} {b : Nat} {Q : D → Mem → Prop} {L m : Nat} {kvs : List (NestedKey × D)} {ys : List Nat}
/-- the place of a border, a worth -/
def ordk : Option Nat → Nat
  | none => 0
  | some n => n + 1
theorem ord_optL {m i : Nat} {o : Option Nat} (h : (optL m)[i]? = some o) : ordk o = i := by
  unfold optL at h
  cases i with
  | zero => simp at h; subst h; rfl
  | succ i =>
    rw [List.getElem?_cons_succ, List.getElem?_map] at h
    obtain ⟨n, hn, rfl⟩ := Option.map_eq_some_iff.mp h
    obtain ⟨h1, h2⟩ := List.getElem?_eq_some_iff.mp hn
    simp at h2
    simp [ordk, h2]
/-- rules in their order, all before bd -/
def Befo (m bd : Nat) (kvs : List (NestedKey × D)) : Prop := GoodR 2 m kvs ∧ ∀ p ∈ kvs, ∃ (o1 : Option Nat) (j : Nat) (o2 : Option Nat), p.1 = kyN [o1, some j, o2] ∧ j < m ∧ ordk o2 < m + 1 ∧ (ordk o1 * m + j) * (m + 1) + ordk o2 < bd
theorem Befo.mono {bd bd' : Nat} (h : Befo m bd kvs) (l : bd ≤ bd') : Befo m bd' kvs := ⟨h.1, fun p hp => by
  obtain ⟨o1, j, o2, e, h1, h2, h3⟩ := h.2 p hp
  exact ⟨o1, j, o2, e, h1, h2, by omega⟩⟩
theorem Befo.nil {bd : Nat} : Befo m bd [] := ⟨good_nil, fun p hp => nomatch hp⟩
theorem Befo.add {bd : Nat} {o1 o2 : Option Nat} {j v : Nat} (h : Befo m bd kvs) (hb : (ordk o1 * m + j) * (m + 1) + ordk o2 = bd) (h1 : ∀ x, o1 = some x → x < m) (hj : j < m) (h2 : ∀ x, o2 = some x → x < m) (hv : v < m) :
    Befo m (bd + 1) (kvs ++ [(kyN [o1, some j, o2], .int (v : Nat))]) := by
  have h2' : ordk o2 < m + 1 := by
    cases o2 with
    | none => exact Nat.succ_pos _
    | some x => have := h2 x rfl; simp only [ordk]; omega
  have new : kyN [o1, some j, o2] ∉ kvs.map (·.1) := fun z => by
    obtain ⟨p, hp, e⟩ := List.mem_map.mp z
    obtain ⟨p1, j', p2, e', q1, q2, q3⟩ := h.2 p hp
    rw [e'] at e
    simp only [kyN, List.map_cons, List.map_nil, NestedKey.tup.injEq, List.cons.injEq, and_true] at e
    obtain ⟨e1, e2, e3⟩ := e
    have f1 := onN_inj e1
    have f2 := onN_inj e2
    have f3 := onN_inj e3
    cases f2
    subst f1 f3
    omega
  refine ⟨?_, fun p hp => ?_⟩
  · have := good_put (W := 2) (m := m) (ks := [o1, some j, o2]) (n := v) h.1 ⟨rfl, ⟨j, rfl⟩, fun x hx => ?_⟩ hv
    · rw [putKN_new new] at this
      exact this
    · simp only [List.mem_cons, List.not_mem_nil, or_false, Option.some.injEq] at hx
      rcases hx with e | rfl | e
      · exact h1 x e.symm
      · exact hj
      · exact h2 x e.symm
  · rcases List.mem_append.mp hp with hp | hp
    · obtain ⟨p1, j', p2, e', q1, q2, q3⟩ := h.2 p hp
      exact ⟨p1, j', p2, e', q1, q2, by omega⟩
    · rw [List.mem_singleton.mp hp]
      exact ⟨o1, j, o2, rfl, hj, h2', by omega⟩
theorem prD_app {k2 : List (NestedKey × D)} : prD (kvs ++ k2) = prD kvs ++ prD k2 := by simp [prD]
theorem prD_add {k : NestedKey} {d : D} : prD (kvs ++ [(k, d)]) = prD kvs ++ [.tup [kD k, d]] := by simp [prD]
/-- dict of the rules' pairs -/
theorem pairs_nodup : ∀ {kvs acc : List (NestedKey × D)}, (∀ p ∈ kvs, ∃ ks : List (Option Nat), p.1 = kyN ks) → ((acc ++ kvs).map (·.1)).Nodup → pairsN (prD kvs) acc = some (acc ++ kvs)
  | [], acc, _, _ => by simp [prD, pairsN]
  | p :: kvs, acc, hk, hn => by
    obtain ⟨ks, e⟩ := hk p List.mem_cons_self
    have new : p.1 ∉ acc.map (·.1) := fun z => by
      rw [List.map_append, List.map_cons, List.nodup_append] at hn
      exact hn.2.2 _ z _ List.mem_cons_self rfl
    have ek : keyT (kD p.1) = some p.1 := by rw [e, kD_ky, keyT_ky]
    have ih := pairs_nodup (kvs := kvs) (acc := acc ++ [p]) (fun q hq => hk q (List.mem_cons_of_mem _ hq)) (by simpa using hn)
    show pairsN (.tup [kD p.1, p.2] :: prD kvs) acc = _
    rw [pairsN, ek]
    show pairsN (prD kvs) (putKN acc p.1 p.2) = _
    rw [putKN_new new]
    simpa using ih
theorem dict_good {W : Nat} (g : GoodR W m kvs) : pairsN (prD kvs) [] = some kvs := by
  have := pairs_nodup (acc := []) (kvs := kvs) (fun p hp => by
    obtain ⟨ks, n, e, _⟩ := g.2 p hp
    exact ⟨ks, by rw [e]⟩) (by simpa using g.1)
  simpa using this
theorem noCell_pairs {W : Nat} (g : GoodR W m kvs) : noCells (prD kvs) = true := noCells_of fun d hd => by
  obtain ⟨p, hp, rfl⟩ := List.mem_map.mp hd
  obtain ⟨ks, n, rfl, _⟩ := g.2 p hp
  have : noCells (ks.map onD) = true := noCells_of fun d hd => by
    obtain ⟨o, _, rfl⟩ := List.mem_map.mp hd
    cases o <;> rfl
  rw [kD_ky]
  simp [noCell, noCells, kyD, this]
/-- a drawn table of two ways -/
def tablePB (dr on : Nat) : List Sx := [.asg (.nm 3) (.bin .add (.int 2) (.call dr [(.var 0), (.bin .sub (.var 2) (.int 1))] [] [0, 1])),
  .asg (.tp [(.nm 4), (.nm 5)]) (.tup [(.bin .add (.int 1) (.call dr [(.var 0), (.bi .min [(.var 3), (.int 3)])] [] [0, 1])), (.call on [(.var 0), (.lst [(.int 1), (.int 1), (.int 2), (.int 4)])] [] [0, 1])]),
  .par [6, 7] [(.bin .add (.lst [.non]) (.lrg1 (.var 3))), (.mls [])],
  .fors (.nm 8) (.seq (.var 6)) [.fors (.nm 9) (.rng1 (.var 3)) [.ifs (.cmp .eq (.var 1) (.int 1)) [.ifs (.cmp .eq (.call dr [(.var 0), (.var 5)] [] [0, 1]) (.int 0)) [.expr (.meth .append (.var 7) [(.tup [(.tup [(.var 8), (.var 9)]), (.call dr [(.var 0), (.var 3)] [] [0, 1])])])] []] [.expr (.meth .extend (.var 7) [(.lc (.tup [(.tup [(.var 8), (.var 9), (.var 11)]), (.call dr [(.var 0), (.var 3)] [] [0, 1])]) (.nm 11) (.seq (.var 6)) (some (.or (.cmp .eq (.var 5) (.int 1)) (.cmp .eq (.call dr [(.var 0), (.var 5)] [] [0, 1]) (.int 0)))) [11])])]]],
  .frzs 7 (.ret (.tup [(.var 4), (.var 3), (.var 7), (.lc (.var 10) (.nm 10) (.rng1 (.var 3)) (some (.cmp .eq (.call dr [(.var 0), (.int 2)] [] [0, 1]) (.int 0))) [10])]))]
def drP (L m : Nat) (kvs : List (NestedKey × D)) (ys : List Nat) : D := .tup [.int L, .int m, .lst (prD kvs), wdL ys]
theorem tableP_go {f most : Nat} {x : Int} (hx : x = (most : Nat)) (h : At P f (tablePB dr on) 3 12) (hd : Drw P dr) (ho : Onee P on dr) (hR : R.all quiet = true) (hmo : 2 ≤ most ∧ most ≤ 5) (hs : Lp s b) (hb : b ≤ 40000) (hK : 4 ≤ K)
    (q : ∀ (L m : Nat) (kvs : List (NestedKey × D)) (ys : List Nat) (s' : DrS), (1 ≤ L ∧ L ≤ 3) → (L ≤ m ∧ 2 ≤ m ∧ m ≤ most) → GoodR 2 m kvs → kvs.length ≤ 300 → ys.Pairwise (· < ·) → (∀ y ∈ ys, y < m) → Lp s' (b + 600) → Q (drP L m kvs ys) (stM ns s' :: R)) : GF (evF P K) f [.cell 0, .int 2, .int x] (stM ns s :: R) Q := by
  subst hx
  obtain ⟨k, rfl⟩ : ∃ k, K = k + 1 := ⟨K - 1, by omega⟩
  refine .enter h rfl ?_
  unfold tablePB
  walk_at "in"
  refine .drawK hd (by omega) hs (by omega) (by omega) (by omega) fun a s1 ha h1 => ?_
  obtain ⟨m, hm, em⟩ : ∃ m : Nat, (2 ≤ m ∧ m ≤ most) ∧ (2 : Int) + a = m := ⟨2 + a, by omega, by omega⟩
  walk_at "go"
  rw [em]
  walk_at "go"
  refine .drawK hd (by omega) h1 (by omega) (by split <;> omega) (by split <;> omega) fun l s2 hl h2 => ?_
  obtain ⟨L, hL, eL⟩ : ∃ L : Nat, (1 ≤ L ∧ L ≤ 3 ∧ L ≤ m) ∧ (1 : Int) + l = L := ⟨1 + l, by split at hl <;> omega, by omega⟩
  walk_at "go"
  rw [eL]
  refine .oneK [1, 1, 2, 4] ltD rfl ho hd (by omega) h2 (by omega) (by decide) fun full s3 hf h3 => ?_
  have hf' : 1 ≤ full ∧ full ≤ 4 := by
    simp only [List.mem_cons, List.not_mem_nil, or_false] at hf
    omega
  have ol : ((optL m).map onD).length = m + 1 := by simp [optL]
  walk_at "go"
  refine .fors (fun ds i σ M' => ∃ (a8 a9 : Option D) (kvs : List (NestedKey × D)) (s' : DrS), σ = [some (.cell 0), some (.int 2), some (.int most), some (.int m), some (.int L), some (.int full), some (.lst ((optL m).map onD)), some (.cell (R.length + 1)), a8, a9, none, none] ∧ M' = stM ns s' :: (R ++ [some (.lst (prD kvs))]) ∧ Befo m ((i * m) * (m + 1)) kvs ∧ kvs.length ≤ 30 * i ∧ Lp s' (b + 3 + 60 * i)) ?_
  refine .seq (.var rfl (.seqL ⟨⟨none, none, [], s3, rfl, rfl, .nil, by simp, h3⟩, ?_, ?_⟩))
  · rintro i x σ M' hx ⟨a8, a9, kvs, s4, rfl, rfl, hB, hkl, h4⟩
    rw [List.getElem?_map] at hx
    obtain ⟨o, ho', rfl⟩ := Option.map_eq_some_iff.mp hx
    have hi : i < m + 1 := by have := (List.getElem?_eq_some_iff.mp ho').1; simpa [optL] using this
    walk_at "go"
    refine .forN (n := m) (M1 := stM ns s4 :: (R ++ [some (.lst (prD kvs))])) (by rw [q_var]; rfl) (by omega) (fun j σ M' => ∃ (a9 : Option D) (kvs : List (NestedKey × D)) (s' : DrS), σ = [some (.cell 0), some (.int 2), some (.int most), some (.int m), some (.int L), some (.int full), some (.lst ((optL m).map onD)), some (.cell (R.length + 1)), some (onD o), a9, none, none] ∧ M' = stM ns s' :: (R ++ [some (.lst (prD kvs))]) ∧ Befo m ((i * m + j) * (m + 1)) kvs ∧ kvs.length ≤ 30 * i + 6 * j ∧ Lp s' (b + 3 + 60 * i + 12 * j)) ⟨_, _, _, rfl, rfl, hB, hkl, h4⟩ ?_ ?_
    · rintro j σ M' hj ⟨a9, kvs, s5, rfl, rfl, hB, hkl, h5⟩
      walk_at "go"
      refine .lcI (fun ds l acc M' => ∃ (k2 : List (NestedKey × D)) (s' : DrS), acc = prD k2 ∧ M' = stM ns s' :: (R ++ [some (.lst (prD kvs))]) ∧ Befo m ((i * m + j) * (m + 1) + l) (kvs ++ k2) ∧ k2.length ≤ l ∧ Lp s' (b + 3 + 60 * i + 12 * j + 2 * l)) ?_
      refine .seq (.var rfl (.seqL ⟨by rw [ol]; omega, ⟨[], s5, rfl, rfl, by simpa using hB, by simp, h5⟩, ?_, ?_⟩))
      · rintro l x acc M' hx ⟨k2, s6, rfl, rfl, hB, hl2, h6⟩
        rw [List.getElem?_map] at hx
        obtain ⟨o2, ho2, rfl⟩ := Option.map_eq_some_iff.mp hx
        have hl' : l < m + 1 := by have := (List.getElem?_eq_some_iff.mp ho2).1; simpa [optL] using this
        have add : ∀ v : Nat, v < m → Befo m ((i * m + j) * (m + 1) + (l + 1)) (kvs ++ (k2 ++ [(kyN [o, some j, o2], .int (v : Nat))])) := fun v hv => by
          rw [← List.append_assoc]
          exact hB.add (by rw [ord_optL ho', ord_optL ho2]) (optL_lt (List.mem_of_getElem? ho')) hj (optL_lt (List.mem_of_getElem? ho2)) hv
        walk_at "go"
        refine .dd (fun hf => ?_) (fun hf => ?_)
        · walk_at "go"
          refine .drawK hd (by omega) h6 (by omega) (by omega) (by omega) fun v s7 hv h7 => ?_
          walk_at "go"
          exact ⟨_, s7, by rw [prD_add, kD_ky]; rfl, rfl, add v (by omega), by simp; omega, h7.mono (by omega)⟩
        · walk_at "go"
          refine .drawK hd (by omega) h6 (by omega) (by omega) (by omega) fun r s7 hr h7 => ?_
          walk_at "go"
          refine .dd (fun h0 => ?_) (fun h0 => ?_)
          · walk_at "go"
            refine .drawK hd (by omega) h7 (by omega) (by omega) (by omega) fun v s8 hv h8 => ?_
            walk_at "go"
            exact ⟨_, s8, by rw [prD_add, kD_ky]; rfl, rfl, add v (by omega), by simp; omega, h8.mono (by omega)⟩
          · walk_at "go"
            exact ⟨k2, s7, rfl, rfl, hB.mono (by omega), by omega, h7.mono (by omega)⟩
      rintro acc M' ⟨k2, s6, rfl, rfl, hB, hl2, h6⟩
      rw [ol] at hl2 h6 hB
      walk_at "go"
      refine ⟨by simp [prD]; omega, ?_⟩
      rw [memc_put, ← prD_app]
      walk_at "go"
      exact .nx ⟨_, _, _, rfl, rfl, by rw [show i * m + (j + 1) = (i * m + j) + 1 by omega, Nat.succ_mul]; exact hB, by simp; omega, h6.mono (by omega)⟩
    · rintro σ M' ⟨a9, kvs, s5, rfl, rfl, hB, hkl, h5⟩
      walk_at "go"
      exact .nx ⟨_, _, _, _, rfl, rfl, by rw [Nat.succ_mul]; exact hB, by omega, h5.mono (by omega)⟩
  · rintro σ M' ⟨a8, a9, kvs, s4, rfl, rfl, hB, hkl, h4⟩
    rw [ol] at hkl h4
    walk_at "go"
    rw [mem_put]
    walk_at "go"
    refine .yesK (R := R ++ [none]) m hd (by omega) h4 (by omega) (by omega) (by decide) (fun x => ⟨rfl, rfl⟩) ?_ fun ys s5 hy hy2 h5 => ?_
    · walk_at "go"
      exact .rng rfl (by omega) ⟨rfl, rfl⟩
    walk_at "go"
    refine .cut (M0 := stM ns s5 :: R) rfl rfl (quiet_c hR) ?_ (q L m kvs ys s5 (by omega) (by omega) hB.1 (by omega) hy hy2 (h5.mono (by omega)))
    have n1 : noCells (ys.map ltD) = true := noCells_of fun d hd => by
      obtain ⟨n, _, rfl⟩ := List.mem_map.mp hd
      rfl
    simp [noCell, noCells, noCell_pairs hB.1, n1, wdL]
/-- own looking up -/
def nextPB : List Sx := [.ret (.dng2 (.var 0) (.tup [(.var 1), (.var 2), (.var 3)]) (.var 2))]
theorem nextP_ok {f : Nat} (h : At P f nextPB 4 4) {l w r : D} (hl : (tabR 2 L m kvs ys).okn l) (hw : (tabR 2 L m kvs ys).ok w) (hr : (tabR 2 L m kvs ys).okn r) (hK : 1 ≤ K) : evF P K f [.dcn kvs, l, w, r] M = .ok ((tabR 2 L m kvs ys).nxt l w r) M := by
  obtain ⟨k, rfl⟩ : ∃ k, K = k + 1 := ⟨K - 1, by omega⟩
  obtain ⟨l', rfl, _⟩ := okn_on hl
  obtain ⟨n, hn, rfl⟩ := hw
  obtain ⟨r', rfl, _⟩ := okn_on hr
  refine (GF.enter h rfl ?_).to
  unfold nextPB
  walk_at "in"
  have kt : keyT (.tup [onD l', ltD n, onD r']) = some (kyN (tk 2 l' n r')) := tk_key 2 l' n r'
  refine .of kt ?_
  refine .rt (Nat.le_refl _) ⟨?_, rfl⟩
  show _ = tnx 2 kvs (onD l') (ltD n) (onD r')
  have : keyT (if 2 = 1 then D.tup [onD l', ltD n] else .tup [onD l', ltD n, onD r']) = some (kyN (tk 2 l' n r')) := kt
  rw [tnx, this]
/-- own strip, rules of two ways -/
def stripPB (nx : Nat) : List Sx := [.asg (.nm 3) (.mls [(.bi .list [(.var 1)])]), .fors (.nm 4) (.rng1 (.var 2)) [.asg (.nm 5) (.bin .add (.bin .add (.lst [.non]) (.ix (.var 3) (.neg (.int 1)))) (.lst [.non])), .expr (.meth .append (.var 3) [(.lc (.call nx [(.var 0), (.ix (.var 5) (.var 6)), (.ix (.var 5) (.bin .add (.var 6) (.int 1))), (.ix (.var 5) (.bin .add (.var 6) (.int 2)))] [] [0, 1, 2, 3]) (.nm 6) (.rng1 (.bi .len [(.var 1)])) none [6])])], .ret (.frz 3)]
theorem stripP_ok {f nx : Nat} {w : List Nat} {x : D} {t : Nat} {tt : Int} (htt : tt = (t : Nat)) (h : At P f (stripPB nx) 3 7) (hn : At P nx nextPB 4 4) (r : RowAt P T 1 (tabO 0 2 L m kvs ys) (tabR 2 L m kvs ys)) (hx : x = wdL w ∨ x = wdT w) (hw : ∀ n ∈ w, n < L) (h0 : w ≠ []) (hl : w.length ≤ 1000) (ht : t ≤ 10000) (hq : M.all quiet = true) (hK : 2 ≤ K) :
    evF P K f [.dcn kvs, x, .int tt] M = .ok (.lst (rowsR (tabR 2 L m kvs ys) w t)) M := by
  subst htt
  obtain ⟨k, rfl⟩ : ∃ k, K = k + 1 := ⟨K - 1, by omega⟩
  have ok0 := r.begs hw
  have ne0 : begs (tabR 2 L m kvs ys) w ≠ [] := begs_ne h0
  have nc : ∀ t, noCells (rowsR (tabR 2 L m kvs ys) w t) = true := fun t => noCells_of fun d hd => by
    obtain ⟨j, _, rfl⟩ := List.mem_map.mp hd
    exact noCells_of fun d hd => r.okq d (r.it ok0 j d hd)
  refine (GF.enter h rfl ?_).to
  unfold stripPB
  walk_at "in"
  have l0 : evBi .list [x] M = some (.lst (begs (tabR 2 L m kvs ys) w)) := by rcases hx with rfl | rfl <;> rfl
  refine .of l0 ?_
  walk_at "go"
  refine .forN (n := t) (M1 := M ++ [some (.lst (rowsR (tabR 2 L m kvs ys) w 0))]) (by rw [q_var]; rfl) (by omega) (fun i σ M' => ∃ a4 a5, σ = [some (.dcn kvs), some x, some (.int t), some (.cell M.length), a4, a5, none] ∧ M' = M ++ [some (.lst (rowsR (tabR 2 L m kvs ys) w i))]) ⟨none, none, rfl, rfl⟩ ?_ ?_
  · rintro i σ M' hi ⟨a4, a5, rfl, rfl⟩
    walk_at "go"
    refine .of (a := .lst (itR (tabR 2 L m kvs ys) i (begs (tabR 2 L m kvs ys) w))) ?_ ?_
    · rw [ix_cell mem_at]
      exact atI_last rowsR_len (rowsR_at (Nat.le_refl _))
    have li : (itR (tabR 2 L m kvs ys) i (begs (tabR 2 L m kvs ys) w)).length = w.length := by rw [itR_len ne0, begs_len]
    have oki := r.it ok0 i
    generalize hws : itR (tabR 2 L m kvs ys) i (begs (tabR 2 L m kvs ys) w) = ws at li oki
    walk_at "go"
    refine .addL (by simp; omega) ?_
    walk_at "go"
    refine .addL (by simp; omega) ?_
    walk_at "go"
    refine .lcM (M1 := M ++ [some (.lst (rowsR (tabR 2 L m kvs ys) w i))]) (List.range ws.length) ltD (fun a => (tabR 2 L m kvs ys).nxt (if a = 0 then .non else ws.getD (a - 1) .non) (ws.getD a .non) (ws.getD (a + 1) .non)) ?_ (by simp; omega) (fun a ha => ?_) ?_
    · walk_at "go"
      refine word_len hx ?_
      walk_at "go"
      exact .rng (n := w.length) rfl (by omega) ⟨by rw [li], rfl⟩
    · have ha' := List.mem_range.mp ha
      have e0 := bes_at (ws := ws) (a := a) (by omega)
      have e1 := bes_at (ws := ws) (a := a + 1) (by omega)
      have e2 := bes_at (ws := ws) (a := a + 2) (by omega)
      rw [if_neg (by omega), Nat.add_sub_cancel] at e1
      rw [if_neg (by omega), show a + 2 - 1 = a + 1 by omega] at e2
      walk_at "go"
      refine .of (atI_nat e0) ?_
      walk_at "go"
      rw [show (a : Int) + 1 = ((a + 1 : Nat) : Int) by omega]
      refine .of (atI_nat e1) ?_
      walk_at "go"
      rw [show (a : Int) + 2 = ((a + 2 : Nat) : Int) by omega]
      refine .of (atI_nat e2) ?_
      walk_at "go"
      exact .eq (nextP_ok hn (oki.left a) (oki.getD ha') (oki.getDn (a + 1)) (by omega)) ⟨rfl, rfl⟩
    · walk_at "go"
      refine ⟨by simp [rowsR]; omega, ?_⟩
      rw [mem_put]
      walk_at "go"
      refine .nx ⟨_, _, rfl, ?_⟩
      rw [rowsR_succ, itR, hws, step_all]
  · rintro σ M' ⟨a4, a5, rfl, rfl⟩
    walk_at "go"
    rw [mem_put]
    exact .cut rfl rfl hq (by simpa only [noCell] using nc t) ⟨rfl, rfl⟩
/-- any row, run by the law -/
def runPB (T : Tbs) : List Sx := [.asg (.nm 3) (.mls [(.lc (.mcall "begin" T.b (.var 0) [(.var 6)]) (.nm 6) (.seq (.var 1)) none [6])]), .fors (.nm 4) (.rng1 (.var 2)) [.asg (.nm 5) (.bin .add (.bin .add (.lst [.non]) (.ix (.var 3) (.neg (.int 1)))) (.lst [.non])), .expr (.meth .append (.var 3) [(.lc (.mcall "next" T.n (.var 0) [(.ix (.var 5) (.var 7)), (.ix (.var 5) (.bin .add (.var 7) (.int 1))), (.ix (.var 5) (.bin .add (.var 7) (.int 2)))]) (.nm 7) (.rng1 (.bi .len [(.var 1)])) none [7])])], .ret (.frz 3)]
end
end Ev
/-! Ev64: dicts of pairs of numbers; what a sped row lays and reckons. -/
namespace Ev
open PySem L2
section
variable {Φ : Nat → List D → Mem → Res D} {σ : Env'} {M : Mem} {Q : D → Mem → Prop}
theorem GE.dng1 {o e : Ex} (h : GE Φ o σ M fun x M1 => GV (dcnOf M1 x) fun _ => GE Φ e σ M1 fun y M2 => GV (dcnOf M2 x) fun kvs => GV (keyT y) fun k => Q ((valN kvs k).getD .non) M2) : GE Φ (.dng1 o e) σ M Q := by
  obtain ⟨x, M1, ea, h⟩ := h.r
  obtain ⟨kv, ek, h⟩ := h.r
  obtain ⟨y, M2, eb, h⟩ := h.r
  obtain ⟨kvs, e1, h⟩ := h.r
  obtain ⟨k, e2, h⟩ := h.r
  exact ⟨_, M2, by simp only [q_dng1, ea, Res.bind_ok, ek, eb, e1, e2], h⟩
theorem GE.dnix {o e : Ex} (h : GE Φ o σ M fun x M1 => GE Φ e σ M1 fun y M2 => GV (dcnOf M2 x) fun kvs => GV (keyT y) fun k => GV (valN kvs k) fun z => Q z M2) : GE Φ (.dnix o e) σ M Q := by
  obtain ⟨x, M1, ea, h⟩ := h.r
  obtain ⟨y, M2, eb, h⟩ := h.r
  obtain ⟨kvs, e1, h⟩ := h.r
  obtain ⟨k, e2, h⟩ := h.r
  obtain ⟨z, e3, h⟩ := h.r
  exact ⟨z, M2, by simp only [q_dnix, ea, Res.bind_ok, eb, e1, e2, e3, Res.of_some], h⟩
end
section
variable {kvs : List (NestedKey × D)} {N : Nat} {tv : Int → Int → D} {S : Int → Int → Prop}
def pk (a d : Int) : NestedKey := .tup [.num a, .num d]
theorem pk_key (a d : Int) : keyT (.tup [.int a, .int d]) = some (pk a d) := rfl
theorem pk_inj {a d a' d' : Int} (h : pk a d = pk a' d') : a = a' ∧ d = d' := by
  simp only [pk, NestedKey.tup.injEq, List.cons.injEq, NestedKey.num.injEq, and_true] at h
  exact h
theorem valN_map {k k' : NestedKey} {v : D} : ∀ {kvs : List (NestedKey × D)}, valN (kvs.map fun kv => if kv.1 = k then (kv.1, v) else kv) k' = if k' = k then (valN kvs k').map fun _ => v else valN kvs k'
  | [] => by split <;> rfl
  | x :: kvs => by
    have ih := valN_map (k := k) (k' := k') (v := v) (kvs := kvs)
    rw [List.map_cons, valN_cons, valN_cons, ih]
    by_cases e : x.1 = k
    · simp only [e, if_true]
      by_cases e2 : k' = k
      · simp [e2]
      · have : ¬ k = k' := fun z => e2 z.symm
        simp [e2, this]
    · simp only [e, if_false]
      by_cases e2 : k' = k
      · subst e2
        simp [e]
      · simp only [e2, if_false]
theorem valN_app {k k' : NestedKey} {v : D} : ∀ {kvs : List (NestedKey × D)}, valN kvs k = none → valN (kvs ++ [(k, v)]) k' = if k' = k then some v else valN kvs k'
  | [], _ => by
    rw [List.nil_append, valN_cons]
    by_cases e : k' = k
    · simp [e]
    · have : ¬ k = k' := fun z => e z.symm
      simp [e, this]
  | x :: kvs, h => by
    rw [valN_cons] at h
    split at h
    · cases h
    · rename_i hx
      rw [List.cons_append, valN_cons, valN_cons, valN_app (kvs := kvs) h]
      by_cases e : k' = k
      · subst e; simp [hx]
      · simp only [e, if_false]
theorem valN_put {k k' : NestedKey} {v : D} : valN (putKN kvs k v) k' = if k' = k then some v else valN kvs k' := by
  unfold putKN
  split
  · rename_i h
    rw [valN_map]
    by_cases e : k' = k
    · subst e
      obtain ⟨z, hz⟩ := Option.isSome_iff_exists.mp h
      simp [hz]
    · simp only [e, if_false]
  · rename_i h
    exact valN_app (by simpa using h)
theorem noCellN_map {k : NestedKey} {v : D} (hv : noCell v = true) : ∀ {kvs : List (NestedKey × D)}, noCellN kvs = true → noCellN (kvs.map fun kv => if kv.1 = k then (kv.1, v) else kv) = true
  | [], _ => rfl
  | x :: kvs, h => by
    simp only [noCellN, Bool.and_eq_true] at h
    simp only [List.map_cons, noCellN, Bool.and_eq_true]
    exact ⟨by split <;> first | exact hv | exact h.1, noCellN_map hv h.2⟩
theorem noCellN_app {k : NestedKey} {v : D} (hv : noCell v = true) : ∀ {kvs : List (NestedKey × D)}, noCellN kvs = true → noCellN (kvs ++ [(k, v)]) = true
  | [], _ => by simp [noCellN, hv]
  | x :: kvs, h => by
    simp only [noCellN, Bool.and_eq_true] at h
    simp only [List.cons_append, noCellN, Bool.and_eq_true]
    exact ⟨h.1, noCellN_app hv h.2⟩
theorem noCellN_put {k : NestedKey} {v : D} (h : noCellN kvs = true) (hv : noCell v = true) : noCellN (putKN kvs k v) = true := by
  unfold putKN
  split
  · exact noCellN_map hv h
  · exact noCellN_app hv h
theorem set_self {M : Mem} {i : Nat} {o : Option MO} (h : M[i]? = some o) : M.set i o = M := by
  obtain ⟨h1, h2⟩ := List.getElem?_eq_some_iff.mp h
  rw [← h2]
  exact List.set_getElem_self h1
/-- what is known: at the places of S its truth, elsewhere nothing -/
structure KD (kvs : List (NestedKey × D)) (N : Nat) (tv : Int → Int → D) (S : Int → Int → Prop) : Prop where
  len : kvs.length ≤ N
  nc : noCellN kvs = true
  ins : ∀ a d, S a d → valN kvs (pk a d) = some (tv a d)
  out : ∀ a d, ¬ S a d → valN kvs (pk a d) = none
theorem KD.nil : KD [] 0 tv fun _ _ => False := ⟨Nat.le_refl _, rfl, fun _ _ h => h.elim, fun _ _ _ => rfl⟩
theorem KD.put {a d : Int} {x : D} (h : KD kvs N tv S) (e : x = tv a d) (hx : noCell x = true) : KD (putKN kvs (pk a d) x) (N + 1) tv fun a' d' => S a' d' ∨ (a' = a ∧ d' = d) := by
  refine ⟨Nat.le_trans putKN_len (Nat.succ_le_succ h.len), noCellN_put h.nc hx, fun a' d' hs => ?_, fun a' d' hs => ?_⟩
  · rw [valN_put]
    split
    · rename_i e2
      obtain ⟨rfl, rfl⟩ := pk_inj e2
      rw [e]
    · rename_i e2
      exact h.ins _ _ (hs.elim id fun z => absurd (by rw [z.1, z.2]) e2)
  · rw [valN_put]
    have : pk a' d' ≠ pk a d := fun z => hs (.inr (pk_inj z))
    rw [if_neg this]
    exact h.out _ _ fun z => hs (.inl z)
theorem KD.congr {S' : Int → Int → Prop} (h : KD kvs N tv S) (e : ∀ a d, S a d ↔ S' a d) : KD kvs N tv S' :=
  ⟨h.len, h.nc, fun a d z => h.ins a d ((e a d).mpr z), fun a d z => h.out a d fun y => z ((e a d).mp y)⟩
theorem KD.mono {N' : Nat} (h : KD kvs N tv S) (l : N ≤ N') : KD kvs N' tv S := ⟨Nat.le_trans h.len l, h.nc, h.ins, h.out⟩
theorem dcn_set {M : Mem} {i : Nat} {o : Option MO} (h : M[i]? = some o) (kvs : List (NestedKey × D)) : (M.set i (some (.dcn kvs)))[i]? = some (some (.dcn kvs)) := by
  rw [List.getElem?_set_self (List.getElem?_eq_some_iff.mp h).1]
theorem dcnOf_set {M : Mem} {i : Nat} {o : Option MO} (h : M[i]? = some o) (kvs : List (NestedKey × D)) : dcnOf (M.set i (some (.dcn kvs))) (.cell i) = some kvs := by
  simp only [dcnOf, dcn_set h]
theorem GV.rngI {lo hi : Int} {I : List D → Prop} (h : -1000000 < lo ∧ lo < 1000000 ∧ -1000000 < hi ∧ hi < 1000000) (q : I ((List.range (hi - lo).toNat).map fun (k : Nat) => D.int (lo + (k : Int)))) : GV (rngD lo hi) I :=
  .of (by unfold rngD; rw [if_pos (by omega)]) q
theorem GV.dwn {hi lo : Int} {I : List D → Prop} (h : -1000000 < lo ∧ lo < 1000000 ∧ -1000000 < hi ∧ hi < 1000000) (q : I ((List.range (hi - lo).toNat).map fun (k : Nat) => D.int (hi - (k : Int)))) : GV (dwnD hi lo) I :=
  .of (by unfold dwnD; rw [if_pos (by omega)]) q
theorem rng_at {n i : Nat} {f : Nat → D} {x : D} (h : ((List.range n).map f)[i]? = some x) : i < n ∧ x = f i := by
  rw [List.getElem?_map] at h
  obtain ⟨j, hj, rfl⟩ := Option.map_eq_some_iff.mp h
  obtain ⟨h1, h2⟩ := List.getElem?_eq_some_iff.mp hj
  rw [List.length_range] at h1
  rw [List.getElem_range] at h2
  exact ⟨h1, by rw [h2]⟩
end
section
variable {P : List Df} {K : Nat} {M : Mem} {kvs : List (NestedKey × D)} {N i : Nat} {tv : Int → Int → D} {S : Int → Int → Prop}
def layB : List Sx := [.fors (.tp [(.nm 4), (.nm 5)]) (.enu (.var 1)) [.fors (.tp [(.nm 6), (.nm 7)]) (.enu (.var 5)) [.asg (.sub (.var 0) (.tup [(.bin .add (.var 2) (.var 4)), (.bin .sub (.var 3) (.var 6))])) (.var 7)]]]
theorem enu_at {xs : List D} {i : Nat} {x : D} (h : (enuL xs)[i]? = some x) : ∃ y, xs[i]? = some y ∧ x = .tup [.int (i : Nat), y] := by
  rw [enuL, List.getElem?_map, List.getElem?_zipIdx] at h
  obtain ⟨p, hp, rfl⟩ := Option.map_eq_some_iff.mp h
  obtain ⟨y, hy, rfl⟩ := Option.map_eq_some_iff.mp hp
  exact ⟨y, hy, by simp⟩
theorem enu_len {xs : List D} : (enuL xs).length = xs.length := by simp [enuL]
/-- trails laid: each is its truth -/
theorem lay_ok {f m : Nat} {len : Nat → Nat} {first latest : Int} (h : At P f layB 4 8) (hm : M[i]? = some (some (.dcn kvs))) (kd : KD kvs N tv S)
    (hl : ∀ a, len a ≤ 4) (hm4 : m ≤ 4) (hN : N ≤ 1000)
    (nc : ∀ a e, a < m → e < len a → noCell (tv (first + (a : Nat)) (latest - (e : Nat))) = true) (hK : 1 ≤ K) :
    ∃ kvs', evF P K f [.cell i, .tup ((List.range m).map fun (a : Nat) => .tup ((List.range (len a)).map fun (e : Nat) => tv (first + (a : Nat)) (latest - (e : Nat)))), .int first, .int latest] M = .ok .non (M.set i (some (.dcn kvs'))) ∧
      KD kvs' (N + 16) tv fun a d => S a d ∨ ∃ (b : Nat), b < m ∧ a = first + (b : Int) ∧ ∃ e : Nat, e < len b ∧ d = latest - (e : Int) := by
  obtain ⟨k, rfl⟩ : ∃ k, K = k + 1 := ⟨K - 1, by omega⟩
  suffices H : GF (evF P (k + 1)) f [.cell i, .tup ((List.range m).map fun (a : Nat) => .tup ((List.range (len a)).map fun (e : Nat) => tv (first + (a : Nat)) (latest - (e : Nat)))), .int first, .int latest] M fun x M' => ∃ kvs', x = .non ∧ M' = M.set i (some (.dcn kvs')) ∧
      KD kvs' (N + 16) tv fun a d => S a d ∨ ∃ (b : Nat), b < m ∧ a = first + (b : Int) ∧ ∃ e : Nat, e < len b ∧ d = latest - (e : Int) by
    obtain ⟨x, M', e, kvs', rfl, rfl, q⟩ := H.r
    exact ⟨kvs', e, q⟩
  refine .enter h rfl ?_
  unfold layB
  simp only [List.map_cons, List.map_nil, List.cons_append, List.nil_append, Nat.reduceSub, List.reduceReplicate]
  generalize htr : ((List.range m).map fun (a : Nat) => D.tup ((List.range (len a)).map fun (e : Nat) => tv (first + (a : Nat)) (latest - (e : Nat)))) = trs
  have trl : trs.length = m := by rw [← htr]; simp
  have tra : ∀ {j x}, trs[j]? = some x → j < m ∧ x = D.tup ((List.range (len j)).map fun (e : Nat) => tv (first + (j : Nat)) (latest - (e : Nat))) := fun {j x} hx => rng_at (by rw [htr]; exact hx)
  refine .fors (fun ds j σ M' => ∃ kvs' a4 a5 a6 a7, σ = [some (.cell i), some (.tup trs), some (.int first), some (.int latest), a4, a5, a6, a7] ∧ M' = M.set i (some (.dcn kvs')) ∧
      KD kvs' (N + 4 * j) tv fun a d => S a d ∨ ∃ (b : Nat), b < j ∧ a = first + (b : Int) ∧ ∃ e : Nat, e < len b ∧ d = latest - (e : Int)) ?_
  refine .enu (.var rfl (.seqT ⟨⟨kvs, none, none, none, none, rfl, ?_, ?_⟩, ?_, ?_⟩))
  · rw [set_self hm]
  · exact (kd.mono (by omega)).congr fun a d => ⟨.inl, fun z => z.elim id fun ⟨b, hb, _⟩ => absurd hb (Nat.not_lt_zero _)⟩
  · rintro j x σ M' hx ⟨kvs1, a4, a5, a6, a7, rfl, rfl, kd1⟩
    obtain ⟨y, hy, rfl⟩ := enu_at hx
    obtain ⟨hj, rfl⟩ := tra hy
    walk_at "go"
    refine .fors (fun ds e σ M' => ∃ kvs' a6 a7, σ = [some (.cell i), some (.tup trs), some (.int first), some (.int latest), some (.int (j : Nat)), some (D.tup ((List.range (len j)).map fun (e : Nat) => tv (first + (j : Nat)) (latest - (e : Nat)))), a6, a7] ∧ M' = M.set i (some (.dcn kvs')) ∧
      KD kvs' (N + 4 * j + e) tv fun a d => (S a d ∨ ∃ (b : Nat), b < j ∧ a = first + (b : Int) ∧ ∃ e : Nat, e < len b ∧ d = latest - (e : Int)) ∨ (a = first + (j : Int) ∧ ∃ e' : Nat, e' < e ∧ d = latest - (e' : Int))) ?_
    refine .enu (.var rfl (.seqT ⟨⟨kvs1, a6, a7, rfl, rfl, ?_⟩, ?_, ?_⟩))
    · exact kd1.congr fun a d => ⟨.inl, fun z => z.elim id fun ⟨_, e', he, _⟩ => absurd he (Nat.not_lt_zero _)⟩
    · rintro e x σ M' hx ⟨kvs2, a6, a7, rfl, rfl, kd2⟩
      obtain ⟨y, hy, rfl⟩ := enu_at hx
      obtain ⟨he, rfl⟩ := rng_at hy
      have := hl j
      walk_at "go"
      refine .subN ?_
      walk_at "go"
      refine ⟨i, _, kvs2, _, rfl, rfl, dcn_set hm _, pk_key _ _, by have := kd2.len; omega, ?_⟩
      rw [List.set_set]
      refine .nil ⟨_, _, _, rfl, rfl, ?_⟩
      refine (kd2.put (a := first + (j : Nat)) (d := latest - (e : Nat)) rfl (nc j e hj he)).congr fun a d => ?_
      constructor
      · rintro ((z | ⟨z1, e', z2, z3⟩) | ⟨z1, z2⟩)
        · exact .inl z
        · exact .inr ⟨z1, e', by omega, z3⟩
        · exact .inr ⟨z1, e, by omega, z2⟩
      · rintro (z | ⟨z1, e', z2, z3⟩)
        · exact .inl (.inl z)
        · by_cases q : e' = e
          · subst q; exact .inr ⟨z1, z3⟩
          · exact .inl (.inr ⟨z1, e', by omega, z3⟩)
    · rintro σ M' ⟨kvs2, a6, a7, rfl, rfl, kd2⟩
      rw [enu_len, List.length_map, List.length_range] at kd2
      have := hl j
      refine .nil ⟨_, _, _, _, _, rfl, rfl, ?_⟩
      refine (kd2.mono (by omega)).congr fun a d => ?_
      constructor
      · rintro ((z | ⟨b, z1, z2, z3⟩) | ⟨z1, e', z2, z3⟩)
        · exact .inl z
        · exact .inr ⟨b, by omega, z2, z3⟩
        · exact .inr ⟨j, by omega, z1, e', z2, z3⟩
      · rintro (z | ⟨b, z1, z2, e', z3, z4⟩)
        · exact .inl (.inl z)
        · by_cases q : b = j
          · subst q; exact .inr ⟨z2, e', z3, z4⟩
          · exact .inl (.inr ⟨b, by omega, z2, e', z3, z4⟩)
  · rintro σ M' ⟨kvs1, a4, a5, a6, a7, rfl, rfl, kd1⟩
    rw [enu_len, trl] at kd1
    exact .nil (.nx (by simp) ⟨kvs1, rfl, rfl, kd1.mono (by omega)⟩)
end
end Ev
/-! Ev65: a row run on one word; what a sped row reckons. -/
namespace Ev
open PySem L2
/-- beside a cell, at a tick -/
def lfG (g : Nat → Nat → D) (t p : Nat) : D := if p = 0 then .non else g t (p - 1)
def rtG (n : Nat) (g : Nat → Nat → D) (t p : Nat) : D := if p + 1 < n then g t (p + 1) else .non
/-- a row of two ways, along its run on one word -/
structure RunAt (P : List Df) (T : Tbs) (lv : Nat) (o : D) (n : Nat) (w : Nat → Nat) (L : Nat) (g : Nat → Nat → D) (sy : Nat → Nat → Bool) (dp wt : Nat) : Prop where
  isrow : ∃ c fs, o = .ins c fs ∧ T.rs.contains c = true ∧ noCell o = true
  ways : ∀ M, fldOf M o "ways" = some (.int (2 : Nat))
  letters : ∀ M, fldOf M o "letters" = some (.int L)
  beg : ∃ i, (∀ M, methOf M o "begin" T.b = some i) ∧ ∀ K M p, lv ≤ K → M.all quiet = true → p < n → evF P K i [o, .int (w p : Nat)] M = .ok (g 0 p) M
  nxt : ∃ i, (∀ M, methOf M o "next" T.n = some i) ∧ ∀ K M t p, lv ≤ K → M.all quiet = true → p < n → evF P K i [o, lfG g t p, g t p, rtG n g t p] M = .ok (g (t + 1) p) M
  say : ∃ i, (∀ M, methOf M o "says" T.s = some i) ∧ ∀ K M t p, lv ≤ K → M.all quiet = true → p < n → evF P K i [o, g t p] M = .ok (.bl (sy t p)) M
  nc : ∀ t p, p < n → noCell (g t p) = true
  nn : ∀ t p, p < n → g t p ≠ .non
  pl : ∀ t p, p < n → Plain (g t p) dp wt
/-- an inner cell, on a diagonal -/
def tvG (g : Nat → Nat → D) (B c : Int) (a d : Int) : D := g (B + d - (c + a)).toNat (c + a).toNat
def DomG (n : Nat) (B c : Int) (a d : Int) : Prop := 0 ≤ c + a ∧ c + a < n ∧ c + a ≤ B + d
def spO (cl L by' : Nat) (o : D) : D := .ins cl [("row", o), ("by", .int (by' : Nat)), ("letters", .int L), ("ways", .int (2 : Nat))]
def rckB (T : Tbs) : List Sx := [.fors (.nm 5) (.rng2 (.bin .add (.var 3) (.int 1)) (.bin .add (.var 4) (.int 1))) [.asg (.nm 6) (.ite (.cmp .gt (.var 5) (.int 0)) (.bin .sub (.var 2) (.int 1)) (.neg (.int 1))), .fors (.nm 7) (.rng3 (.var 6) (.bin .sub (.neg (.bin .fdiv (.bin .sub (.var 4) (.var 5)) (.int 2))) (.int 1)) (.neg (.int 1))) [.asg (.nm 8) (.dng1 (.var 1) (.tup [(.var 7), (.bin .sub (.var 5) (.int 1))])), .ifs (.cmp .isn (.var 8) .non) [.asg (.nm 9) (.dng1 (.var 1) (.tup [(.bin .sub (.var 7) (.int 1)), (.bin .sub (.var 5) (.int 2))])), .asg (.sub (.var 1) (.tup [(.var 7), (.var 5)])) (.mcall "next" T.n (.fldE (.var 0) "row") [(.var 9), (.var 8), (.dng1 (.var 1) (.tup [(.bin .add (.var 7) (.int 1)), (.var 5)]))])] []]]]
section
variable {P : List Df} {T : Tbs} {lv K : Nat} {M : Mem} {kvs : List (NestedKey × D)} {N i n L : Nat} {S : Int → Int → Prop} {g : Nat → Nat → D} {o : D} {w : Nat → Nat} {sy : Nat → Nat → Bool} {dp wt : Nat}
theorem quiet_set {M : Mem} {i : Nat} {kvs kv' : List (NestedKey × D)} (hq : (M.set i none).all quiet = true) (h : noCellN kvs = true) : (M.set i (some (.dcn kvs))).all quiet = true := by
  rw [List.all_eq_true] at hq ⊢
  intro x hx
  obtain ⟨j, hj, rfl⟩ := List.mem_iff_getElem.mp hx
  rw [List.getElem_set]
  split
  · exact h
  · rename_i hne
    have hj' : j < M.length := by simpa using hj
    refine hq _ (List.mem_iff_getElem.mpr ⟨j, by simpa using hj', ?_⟩)
    rw [List.getElem_set_ne hne]
/-- what is in the dict, or nothing -/
theorem KD.get {tv : Int → Int → D} (kd : KD kvs N tv S) (a d : Int) : (S a d ∧ (valN kvs (pk a d)).getD .non = tv a d) ∨ (¬ S a d ∧ (valN kvs (pk a d)).getD .non = .non) := by
  by_cases h : S a d
  · exact .inl ⟨h, by rw [kd.ins _ _ h]; rfl⟩
  · exact .inr ⟨h, by rw [kd.out _ _ h]; rfl⟩
theorem rck_ok {f cl m y : Nat} {B c lat st : Int} (h : At P f (rckB T) 5 10) (r : RunAt P T lv o n w L g sy dp wt) (hm : M[i]? = some (some (.dcn kvs))) (kd : KD kvs N (tvG g B c) S) (hN : N ≤ 1000)
    (hq : (M.set i none).all quiet = true) (sd : ∀ a d, S a d → DomG n B c a d)
    (ar : (2 ≤ y ∧ y ≤ 4) ∧ (1 ≤ m ∧ m ≤ y) ∧ (0 ≤ c ∧ c + m ≤ B + 1) ∧ (1 ≤ st ∧ st ≤ y) ∧ (lat = -1 ∨ (lat = -(y : Int) ∧ st = y ∧ (n : Int) - 1 ≤ B - y)))
    (own : ∀ a d : Int, 0 ≤ a → a < m → (-2 < d ∨ (a = 0 ∧ -(y : Int) < d)) → d ≤ 0 → DomG n B c a d → S a d)
    (lef : ∀ a d : Int, -(y : Int) ≤ a → a < 0 → lat - 2 < d → d ≤ lat → DomG n B c a d → S a d)
    (rig : ∀ d : Int, 1 ≤ d → d ≤ st → DomG n B c m d → S m d) (hK : lv + 1 ≤ K) :
    ∃ kvs' N' S', evF P K f [spO cl L y o, .cell i, .int m, .int lat, .int st] M = .ok .non (M.set i (some (.dcn kvs'))) ∧ KD kvs' N' (tvG g B c) S' ∧ N' ≤ N + 100 ∧ (∀ a d, S' a d → DomG n B c a d) ∧ (∀ a d, S a d → S' a d) ∧
      ∀ a d : Int, 0 ≤ a → a < m → 1 ≤ d → d ≤ st → DomG n B c a d → S' a d := by
  obtain ⟨k, rfl⟩ : ∃ k, K = k + 1 := ⟨K - 1, by omega⟩
  obtain ⟨⟨y2, y4⟩, ⟨m1, m2⟩, ⟨c0, cB⟩, ⟨s1, s2⟩, hlat⟩ := ar
  suffices H : GF (evF P (k + 1)) f [spO cl L y o, .cell i, .int m, .int lat, .int st] M fun x M' => ∃ kvs' N' S', x = .non ∧ M' = M.set i (some (.dcn kvs')) ∧ KD kvs' N' (tvG g B c) S' ∧ N' ≤ N + 100 ∧ (∀ a d, S' a d → DomG n B c a d) ∧ (∀ a d, S a d → S' a d) ∧
      ∀ a d : Int, 0 ≤ a → a < m → 1 ≤ d → d ≤ st → DomG n B c a d → S' a d by
    obtain ⟨x, M', e, kvs', N', S', rfl, rfl, q⟩ := H.r
    exact ⟨kvs', N', S', e, q⟩
  obtain ⟨jx, hx1, hx2⟩ := r.nxt
  refine .enter h rfl ?_
  unfold rckB
  simp only [List.map_cons, List.map_nil, List.cons_append, List.nil_append, Nat.reduceSub, List.reduceReplicate]
  refine .fors (fun ds j σ M' => ∃ kvs' S' a5 a6 a7 a8 a9, σ = [some (spO cl L y o), some (.cell i), some (.int m), some (.int lat), some (.int st), a5, a6, a7, a8, a9] ∧ M' = M.set i (some (.dcn kvs')) ∧ KD kvs' (N + 10 * j) (tvG g B c) S' ∧ (∀ a d, S' a d → DomG n B c a d) ∧ (∀ a d, S a d → S' a d) ∧
    ∀ a d, lat < d → d < lat + 1 + j → -((st - d) / 2) ≤ a → a < (if 0 < d then (m : Int) else 0) → DomG n B c a d → S' a d) ?_
  refine .rng2 ?_
  walk_at "go"
  refine .rngI (by omega) ⟨⟨kvs, S, none, none, none, none, none, rfl, by rw [set_self hm], kd.mono (by omega), sd, fun _ _ z => z, fun a d z1 z2 => by omega⟩, ?_, ?_⟩
  · rintro j x σ M' hx ⟨kvs1, S1, a5, a6, a7, a8, a9, rfl, rfl, kd1, sd1, mo1, iv1⟩
    obtain ⟨hj, rfl⟩ := rng_at hx
    obtain ⟨d, hd⟩ : ∃ d : Int, lat + 1 + (j : Nat) = d := ⟨_, rfl⟩
    rw [hd]
    have dl : lat < d ∧ d ≤ st := by omega
    obtain ⟨tp, htp⟩ : ∃ tp : Int, tp = if 0 < d then (m : Int) - 1 else -1 := ⟨_, rfl⟩
    walk_at "gn"
    refine .imp (Q' := fun x M' => x = .int tp ∧ M' = M.set i (some (.dcn kvs1))) ?_ ?_
    · refine .ite ?_
      walk_at "go"
      refine .dd (fun z => ?_) (fun z => ?_)
      · walk_at "go"
        exact ⟨by rw [htp, if_pos z], rfl⟩
      · walk_at "go"
        exact ⟨by rw [htp, if_neg z], rfl⟩
    rintro _ _ ⟨rfl, rfl⟩
    walk_at "go"
    have htb : -1 ≤ tp ∧ tp ≤ m - 1 ∧ (0 < d → tp = m - 1) ∧ (d ≤ 0 → tp = -1) := by
      rw [htp]; split <;> omega
    obtain ⟨lo, hlo⟩ : ∃ lo : Int, lo = -((st - d) / 2) := ⟨_, rfl⟩
    have hlb : -(y : Int) < lo ∧ lo ≤ 0 := by omega
    refine .fors (fun ds l σ M' => ∃ kvs' S' a7 a8 a9, σ = [some (spO cl L y o), some (.cell i), some (.int m), some (.int lat), some (.int st), some (.int d), some (.int tp), a7, a8, a9] ∧ M' = M.set i (some (.dcn kvs')) ∧ KD kvs' (N + 10 * j + l) (tvG g B c) S' ∧ (∀ a d, S' a d → DomG n B c a d) ∧ (∀ a d, S1 a d → S' a d) ∧
      ∀ a, tp - l < a → a ≤ tp → DomG n B c a d → S' a d) ?_
    refine .rng3 ?_
    walk_at "go"
    refine ⟨rfl, .dwn (by omega) ⟨⟨kvs1, S1, a7, a8, a9, rfl, rfl, kd1, sd1, fun _ _ z => z, fun a z1 z2 => by omega⟩, ?_, ?_⟩⟩
    · rintro l x σ M' hx ⟨kvs2, S2, a7, a8, a9, rfl, rfl, kd2, sd2, mo2, iv2⟩
      obtain ⟨hl, rfl⟩ := rng_at hx
      obtain ⟨a, ha⟩ : ∃ a : Int, tp - (l : Nat) = a := ⟨_, rfl⟩
      rw [ha]
      have al : lo ≤ a ∧ a ≤ tp := by omega
      walk_at "go"
      refine .dng1 ?_
      walk_at "go"
      refine .of (dcnOf_set hm _) ?_
      walk_at "go"
      refine .of (dcnOf_set hm _) (.of (pk_key _ _) ?_)
      rcases kd2.get a (d - 1) with ⟨so, eo⟩ | ⟨so, eo⟩
      · rw [eo]
        have dm := sd2 _ _ so
        obtain ⟨p, hp⟩ : ∃ p : Nat, c + a = (p : Int) := ⟨(c + a).toNat, by have := dm.1; omega⟩
        obtain ⟨t, ht⟩ : ∃ t : Nat, B + (d - 1) - (c + a) = (t : Int) := ⟨(B + (d - 1) - (c + a)).toNat, by have := dm.2.2; omega⟩
        have hpn : p < n := by have := dm.2.1; omega
        have e0 : tvG g B c a (d - 1) = g t p := by rw [tvG, hp, ← hp, ht, hp]; simp
        have e1 : tvG g B c a d = g (t + 1) p := by rw [tvG, show B + d - (c + a) = ((t + 1 : Nat) : Int) by omega, hp]; simp
        walk_at "go"
        refine .isnO (is_non (by rw [e0]; exact r.nn _ _ hpn)) ?_
        walk_at "go"
        refine .dng1 ?_
        walk_at "go"
        refine .of (dcnOf_set hm _) ?_
        walk_at "go"
        refine .of (dcnOf_set hm _) (.of (pk_key _ _) ?_)
        walk_at "go"
        refine .of (hx1 _) ?_
        walk_at "go"
        refine .dng1 ?_
        walk_at "go"
        refine .of (dcnOf_set hm _) ?_
        walk_at "go"
        refine .of (dcnOf_set hm _) (.of (pk_key _ _) ?_)
        have eL : (valN kvs2 (pk (a - 1) (d - 2))).getD .non = lfG g t p := by
          rcases kd2.get (a - 1) (d - 2) with ⟨sl, el⟩ | ⟨sl, el⟩
          · have dml := sd2 _ _ sl
            rw [el, lfG, if_neg (by have := dml.1; omega), tvG, show B + (d - 2) - (c + (a - 1)) = (t : Nat) by omega, show c + (a - 1) = ((p - 1 : Nat) : Int) by have := dml.1; omega]
            simp
          · rw [el, lfG]
            split
            · rfl
            · rename_i hp0
              refine absurd ?_ sl
              have dml : DomG n B c (a - 1) (d - 2) := ⟨by omega, by omega, by omega⟩
              by_cases h1 : 1 ≤ a
              · by_cases h2 : 1 ≤ d - 2
                · exact mo2 _ _ (iv1 _ _ (by omega) (by omega) (by omega) (by rw [if_pos (by omega)]; omega) dml)
                · exact mo2 _ _ (mo1 _ _ (own _ _ (by omega) (by omega) (.inl (by omega)) (by omega) dml))
              · by_cases h2 : lat < d - 2
                · refine mo2 _ _ (iv1 _ _ (by omega) (by omega) (by omega) ?_ dml)
                  split <;> omega
                · exact mo2 _ _ (mo1 _ _ (lef _ _ (by omega) (by omega) (by omega) (by omega) dml))
        have eR : (valN kvs2 (pk (a + 1) d)).getD .non = rtG n g t p := by
          rcases kd2.get (a + 1) d with ⟨sl, el⟩ | ⟨sl, el⟩
          · have dml := sd2 _ _ sl
            rw [el, rtG, if_pos (by have := dml.2.1; omega), tvG, show B + d - (c + (a + 1)) = (t : Nat) by omega, show c + (a + 1) = ((p + 1 : Nat) : Int) by omega]
            simp
          · rw [el, rtG]
            split
            · rename_i hp0
              refine absurd ?_ sl
              have dml : DomG n B c (a + 1) d := ⟨by omega, by omega, by omega⟩
              by_cases h1 : a + 1 ≤ tp
              · exact iv2 _ (by omega) h1 dml
              · by_cases h2 : 0 < d
                · have : a + 1 = m := by omega
                  rw [this] at dml ⊢
                  exact mo2 _ _ (mo1 _ _ (rig _ (by omega) (by omega) dml))
                · have : a + 1 = 0 := by omega
                  rw [this] at dml ⊢
                  exact mo2 _ _ (mo1 _ _ (own _ _ (by omega) (by omega) (.inr ⟨rfl, by omega⟩) (by omega) dml))
            · rfl
        rw [eL, eR, e0]
        walk_at "go"
        refine .eq (hx2 _ _ t p (by omega) (quiet_set (kv' := kvs) hq kd2.nc) hpn) ?_
        refine .subN ?_
        walk_at "go"
        refine ⟨i, _, kvs2, _, rfl, rfl, dcn_set hm _, pk_key _ _, by have := kd2.len; omega, ?_⟩
        rw [List.set_set]
        refine .nil ⟨_, _, _, _, _, rfl, rfl, kd2.put e1.symm (r.nc _ _ hpn), ?_, fun a' d' z => .inl (mo2 _ _ z), ?_⟩
        · rintro a' d' (z | ⟨rfl, rfl⟩)
          · exact sd2 _ _ z
          · exact ⟨by omega, by omega, by omega⟩
        · intro a' z1 z2 dm'
          by_cases q : a' = a
          · exact .inr ⟨q, rfl⟩
          · exact .inl (iv2 _ (by omega) z2 dm')
      · rw [eo]
        walk_at "go"
        refine ⟨_, _, _, _, _, rfl, rfl, kd2.mono (by omega), sd2, mo2, ?_⟩
        intro a' z1 z2 dm'
        by_cases q : a' = a
        · subst q
          refine absurd ?_ so
          obtain ⟨q1, q2, q3⟩ := dm'
          have dml : DomG n B c a' (d - 1) := ⟨q1, q2, by omega⟩
          by_cases h1 : 0 ≤ a'
          · by_cases h2 : 1 ≤ d - 1
            · exact mo2 _ _ (iv1 _ _ (by omega) (by omega) (by omega) (by rw [if_pos (by omega)]; omega) dml)
            · exact mo2 _ _ (mo1 _ _ (own _ _ h1 (by omega) (.inl (by omega)) (by omega) dml))
          · by_cases h2 : lat < d - 1
            · refine mo2 _ _ (iv1 _ _ (by omega) (by omega) (by omega) ?_ dml)
              split <;> omega
            · exact mo2 _ _ (mo1 _ _ (lef _ _ (by omega) (by omega) (by omega) (by omega) dml))
        · exact iv2 _ (by omega) z2 dm'
    · rintro σ M' ⟨kvs2, S2, a7, a8, a9, rfl, rfl, kd2, sd2, mo2, iv2⟩
      rw [List.length_map, List.length_range] at kd2 iv2
      refine .nil ⟨_, _, _, _, _, _, _, rfl, rfl, kd2.mono (by omega), sd2, fun a d z => mo2 _ _ (mo1 _ _ z), ?_⟩
      intro a' d' z1 z2 z3 z4 dm'
      by_cases q : d' = d
      · subst q
        refine iv2 _ (by omega) ?_ dm'
        split at z4 <;> omega
      · exact mo2 _ _ (iv1 _ _ z1 (by omega) z3 z4 dm')
  · rintro σ M' ⟨kvs1, S1, a5, a6, a7, a8, a9, rfl, rfl, kd1, sd1, mo1, iv1⟩
    rw [List.length_map, List.length_range] at kd1 iv1
    refine .nil (.nx (by simp) ⟨kvs1, _, S1, rfl, rfl, kd1, by omega, sd1, mo1, fun a d z1 z2 z3 z4 dm => ?_⟩)
    exact iv1 _ _ (by omega) (by omega) (by omega) (by rw [if_pos (by omega)]; omega) dm
end
end Ev
/-! Ev66: a sped row's run. -/
namespace Ev
open PySem L2
/-! which diagonal -/
def fxS (n y x : Nat) : Nat := if x < n then x else n - 1 + y * (x - (n - 1))
theorem fxS_lt {n y x : Nat} (h : x < n) : fxS n y x = x := if_pos h
theorem fxS_step {n y x : Nat} (hn : 0 < n) : fxS n y (x + 1) = fxS n y x + (if x + 1 < n then 1 else y) := by
  unfold fxS
  by_cases h : x + 1 < n
  · rw [if_pos h, if_pos (by omega), if_pos h]
  · rw [if_neg h, if_neg h]
    by_cases h2 : x < n
    · rw [if_pos h2, show x + 1 - (n - 1) = 1 by omega]
      omega
    · rw [if_neg h2, show x + 1 - (n - 1) = (x - (n - 1)) + 1 by omega, Nat.mul_succ]
      omega
theorem fxS_ge {n y x : Nat} (h : n ≤ x) (hn : 0 < n) : n - 1 + y ≤ fxS n y x := by
  unfold fxS
  rw [if_neg (by omega)]
  have : y * 1 ≤ y * (x - (n - 1)) := Nat.mul_le_mul_left _ (by omega)
  omega
section
variable {g : Nat → Nat → D} {y n : Nat}
/-- trails of m inner cells from p0 on, on the diagonal B -/
def tlS (y k q : Nat) : Nat := min (if k = 0 then y else 2) (q + 1)
def trS (g : Nat → Nat → D) (y B p0 k : Nat) : D := .tup ((List.range (tlS y k (B - (p0 + k)))).map fun e => g (B - e - (p0 + k)) (p0 + k))
def trsS (g : Nat → Nat → D) (y B p0 m : Nat) : List D := (List.range m).map (trS g y B p0)
theorem trs_tv {B B' c p0 m : Nat} {first latest : Int} (h1 : (p0 : Int) = c + first) (h2 : (B' : Int) = B + latest) (h : p0 + m ≤ B' + 1) : trsS g y B' p0 m = (List.range m).map fun (a : Nat) => .tup ((List.range (tlS y a (B' - (p0 + a)))).map fun (e : Nat) => tvG g B c (first + (a : Nat)) (latest - (e : Nat))) := by
  refine List.map_congr_left fun a ha => ?_
  have ha := List.mem_range.mp ha
  rw [trS]
  congr 1
  refine List.map_congr_left fun e he => ?_
  have he := List.mem_range.mp he
  have : e ≤ B' - (p0 + a) := by unfold tlS at he; omega
  rw [tvG, show (B : Int) + (latest - (e : Nat)) - (c + (first + (a : Nat))) = ((B' - e - (p0 + a) : Nat) : Int) by omega, show (c : Int) + (first + (a : Nat)) = ((p0 + a : Nat) : Int) by omega, Int.toNat_natCast, Int.toNat_natCast]
/-- whether a cell has heard; how many inner cells are in its pack -/
def hdS (n y c t : Nat) : Bool := decide (c * y < t + c ∧ c * y < n)
def mnS (n y c t : Nat) : Nat := min y (min (t + c) (n - 1) - c * y + 1)
def pkS (g : Nat → Nat → D) (n y c t : Nat) : List D := if hdS n y c t = true then trsS g y (fxS n y (t + c)) (c * y) (mnS n y c t) else []
def ltS (w : Nat → Nat) (n x : Nat) : D := if x < n then .int (w x : Nat) else .non
def wGS (g : Nat → Nat → D) (w : Nat → Nat) (n y t c : Nat) : D := .tup [ltS w n (c + t), .tup (pkS g n y c t)]
theorem fil_range {len q : Nat} {p : Nat → Bool} (h : ∀ e, e < len → (p e = true ↔ e ≤ q)) : (List.range len).filter p = List.range (min len (q + 1)) := by
  induction len with
  | zero => simp
  | succ len ih =>
    rw [List.range_succ, List.filter_append, ih fun e he => h e (by omega)]
    by_cases hp : len ≤ q
    · have e1 : p len = true := (h len (by omega)).mpr hp
      simp only [List.filter_cons, e1, if_true, List.filter_nil]
      rw [show min len (q + 1) = len by omega, show min (len + 1) (q + 1) = len + 1 by omega, List.range_succ]
    · have e1 : p len = false := by
        cases e : p len with
        | true => exact absurd ((h len (by omega)).mp e) hp
        | false => rfl
      simp only [List.filter_cons, e1, Bool.false_eq_true, if_false, List.filter_nil, List.append_nil]
      rw [show min (len + 1) (q + 1) = min len (q + 1) by omega]
end
def trlB : List Sx := [.asg (.nm 4) (.bin .sub (.var 3) (.ite (.cmp .eq (.var 2) (.int 0)) (.fldE (.var 0) "by") (.int 2))), .asg (.nm 5) (.lc (.tup [(.var 2), (.var 6)]) (.nm 6) (.rng3 (.var 3) (.var 4) (.neg (.int 1))) none [6]), .ret (.bi .tuple [(.lc (.dnix (.var 1) (.var 7)) (.nm 7) (.seq (.var 5)) (some (.cmp .din (.var 7) (.var 1))) [7])])]
section
variable {P : List Df} {T : Tbs} {lv K : Nat} {M : Mem} {kvs : List (NestedKey × D)} {N i n L y : Nat} {S : Int → Int → Prop} {g : Nat → Nat → D} {o : D} {w : Nat → Nat} {sy : Nat → Nat → Bool} {dp wt : Nat}
theorem GV.din {M : Mem} {x z : D} {b : Bool} {I : Bool → Prop} (h : dinD M x z = some b) (q : I b) : GV (cmpD .din M x z) I := .of h q
theorem trl_ok {f cl a B' p q : Nat} {B c st : Int} (h : At P f trlB 4 8) (kd : KD kvs N (tvG g B c) S) (hy : 2 ≤ y ∧ y ≤ 4) (ha : a ≤ 8) (hs : 0 < st ∧ st ≤ 8) (hp : c + a = (p : Int)) (hB : B + st = (B' : Int)) (hq : B' - p = q) (hpB : p ≤ B')
    (hS : ∀ e : Nat, e < (if a = 0 then y else 2) → (S a (st - (e : Nat)) ↔ e ≤ q)) (hK : 1 ≤ K) :
    evF P K f [spO cl L y o, .dcn kvs, .int (a : Nat), .int st] M = .ok (.tup ((List.range (tlS y a q)).map fun e => g (B' - e - p) p)) M := by
  obtain ⟨k, rfl⟩ : ∃ k, K = k + 1 := ⟨K - 1, by omega⟩
  refine (GF.enter h rfl ?_).to
  unfold trlB
  obtain ⟨ln, hln⟩ : ∃ ln : Nat, ln = if a = 0 then y else 2 := ⟨_, rfl⟩
  have l4 : 2 ≤ ln ∧ ln ≤ 4 := by rw [hln]; split <;> omega
  simp only [List.map_cons, List.map_nil, List.cons_append, List.nil_append, Nat.reduceSub, List.reduceReplicate]
  walk_at "gn"
  refine .imp (Q' := fun x M' => x = .int (ln : Nat) ∧ M' = M) ?_ ?_
  · refine .ite ?_
    walk_at "go"
    refine .dd (fun z => ?_) (fun z => ?_)
    · walk_at "go"
      exact ⟨by rw [hln, if_pos (by omega)], rfl⟩
    · walk_at "go"
      exact ⟨by rw [hln, if_neg (by omega)]; rfl, rfl⟩
  rintro _ M' ⟨rfl, hM⟩
  rw [hM]
  walk_at "go"
  refine .lcM (M1 := M) (List.range ln) (fun e => .int (st - (e : Nat))) (fun e => .tup [.int (a : Nat), .int (st - (e : Nat))]) ?_ (by simp; omega) (fun e he => ?_) ?_
  · refine .rng3 ?_
    walk_at "go"
    refine ⟨rfl, .dwn (by omega) ⟨?_, rfl⟩⟩
    rw [show (st - (st - (ln : Nat))).toNat = ln by omega]
  · walk_at "go"
    exact ⟨rfl, rfl⟩
  walk_at "go"
  refine .lcP (M1 := M) (List.range ln) (fun e => .tup [.int (a : Nat), .int (st - (e : Nat))]) (fun e => g (B' - e - p) p) (fun e => (valN kvs (pk a (st - (e : Nat)))).isSome) ?_ (by simp; omega) (fun e he => ?_) ?_
  · exact .seq (.var rfl (.seqL ⟨rfl, rfl⟩))
  · walk_at "go"
    refine .din (b := (valN kvs (pk a (st - (e : Nat)))).isSome) rfl ?_
    refine .tbl ⟨rfl, rfl, fun hs => ?_⟩
    have hsome : S a (st - (e : Nat)) := by
      rcases kd.get a (st - (e : Nat)) with z | z
      · exact z.1
      · rw [kd.out _ _ z.1] at hs; cases hs
    have he' := List.mem_range.mp he
    have hq' := (hS e (by rw [← hln]; exact he')).mp hsome
    refine .dnix ?_
    walk_at "go"
    refine .of (pk_key _ _) (.of (kd.ins _ _ hsome) ⟨?_, rfl⟩)
    rw [tvG, show B + (st - (e : Nat)) - (c + (a : Nat)) = ((B' - e - p : Nat) : Int) by omega, hp]
    simp
  walk_at "go"
  refine .rt (Nat.le_refl _) ⟨?_, rfl⟩
  rw [fil_range (q := q) fun e he => ?_]
  · rw [tlS, ← hln]
  · rw [← hS e (by rw [← hln]; exact he)]
    rcases kd.get a (st - (e : Nat)) with z | z
    · rw [kd.ins _ _ z.1]; simp [z.1]
    · rw [kd.out _ _ z.1]; simp [z.1]
end
end Ev
/-! Ev67: a sped row's methods, along a run. -/
namespace Ev
open PySem L2
structure SpIx where
  ini : Nat
  beg : Nat
  nxt : Nat
  say : Nat
  inn : Nat
  hrd : Nat
  rck : Nat
  trl : Nat
  lay : Nat
def spIniB (dr dn : Nat) : List Sx := [.expr (.call dr [(.var 1), (.str "row")] [] [0, 1]), .expr (.call dn [(.var 2), (.int 2), (.int 4), (.str "by")] [] [0, 1, 2, 3]), .ifs (.cmp .ne (.fldE (.var 1) "ways") (.int 2)) [.nev] [], .asg (.fld (.var 0) "row") (.var 1), .asg (.fld (.var 0) "by") (.var 2), .asg (.fld (.var 0) "letters") (.fldE (.var 1) "letters"), .asg (.fld (.var 0) "ways") (.int 2)]
def spBegB : List Sx := [.ret (.tup [(.var 1), (.tup [])])]
def spHrdB (T : Tbs) : List Sx := [.asg (.tp [(.nm 3), (.nm 4)]) (.var 2), .ifs (.or (.cmp .ne (.var 4) (.tup [])) (.cmp .is (.var 3) .non)) [.ret (.var 4)] [],
  .ifs (.or (.cmp .is (.var 1) .non) (.cmp .eq (.bi .len [(.ix (.var 1) (.int 1))]) (.fldE (.var 0) "by"))) [.ret (.tup [(.tup [(.mcall "begin" T.b (.fldE (.var 0) "row") [(.var 3)])])])] [], .ret (.tup [])]
def spInnB (T : Tbs) : List Sx := [.asg (.tp [(.nm 2), (.nm 3)]) (.var 1), .ifs (.cmp .ne (.var 3) (.tup [])) [.ret (.ix (.ix (.var 3) (.int 0)) (.int 0))] [], .ret (.ite (.cmp .is (.var 2) .non) .non (.mcall "begin" T.b (.fldE (.var 0) "row") [(.var 2)]))]
def spSayB (T : Tbs) (cl : Nat) (x : SpIx) : List Sx := [.asg (.nm 2) (.mcall "inner" [(cl, x.inn)] (.var 0) [(.var 1)]), .ret (.and (.cmp .isn (.var 2) .non) (.bi .bool [(.mcall "says" T.s (.fldE (.var 0) "row") [(.var 2)])]))]
def spNxtB (T : Tbs) (cl : Nat) (x : SpIx) : List Sx := [.asg (.nm 4) (.ite (.cmp .is (.var 3) .non) .non (.ix (.var 3) (.int 0))),
  .asg (.nm 5) (.mcall "_pack_heard" [(cl, x.hrd)] (.var 0) [(.var 1), (.var 2)]),
  .ifs (.cmp .eq (.var 5) (.tup [])) [.ret (.tup [(.var 4), (.tup [])])] [],
  .asg (.nm 6) (.ite (.cmp .is (.var 4) .non) (.fldE (.var 0) "by") (.int 1)),
  .asg (.nm 7) (.bi .len [(.var 5)]),
  .asg (.nm 8) (.ite (.cmp .is (.ix (.var 2) (.int 0)) .non) (.neg (.fldE (.var 0) "by")) (.neg (.int 1))),
  .asg (.nm 9) .mdn0,
  .expr (.call x.lay [(.var 9), (.var 5), (.int 0), (.int 0)] [] [0, 1, 2, 3]),
  .ifs (.cmp .isn (.var 1) .non) [.expr (.call x.lay [(.var 9), (.ix (.var 1) (.int 1)), (.neg (.fldE (.var 0) "by")), (.var 8)] [] [0, 1, 2, 3])] [],
  .ifs (.and (.cmp .isn (.var 4) .non) (.or (.cmp .lt (.var 7) (.fldE (.var 0) "by")) (.cmp .eq (.ix (.var 3) (.int 1)) (.tup [])))) [.asg (.sub (.var 9) (.tup [(.var 7), (.int 1)])) (.mcall "begin" T.b (.fldE (.var 0) "row") [(.var 4)])] [.ifs (.cmp .isn (.var 3) .non) [.expr (.call x.lay [(.var 9), (.slc (.ix (.var 3) (.int 1)) none (some (.int 1))), (.fldE (.var 0) "by"), (.var 6)] [] [0, 1, 2, 3])] []],
  .expr (.mcall "_reckon" [(cl, x.rck)] (.var 0) [(.var 9), (.var 7), (.var 8), (.var 6)]),
  .ifs (.cmp .isn (.var 4) .non) [.asg (.nm 7) (.bi .min [(.bin .add (.var 7) (.int 1)), (.fldE (.var 0) "by")])] [],
  .frzs 9 (.ret (.tup [(.var 4), (.bi .tuple [(.lc (.mcall "_trail" [(cl, x.trl)] (.var 0) [(.var 9), (.var 10), (.var 6)]) (.nm 10) (.rng1 (.var 7)) none [10])])]))]
structure SpAt (P : List Df) (T : Tbs) (dr dn : Nat) (x : SpIx) (cl : Nat) : Prop where
  ini : At P x.ini (spIniB dr dn) 3 3
  beg : At P x.beg spBegB 2 2
  nxt : At P x.nxt (spNxtB T cl x) 4 11
  say : At P x.say (spSayB T cl x) 2 3
  inn : At P x.inn (spInnB T) 2 4
  hrd : At P x.hrd (spHrdB T) 3 5
  rck : At P x.rck (rckB T) 5 10
  trl : At P x.trl trlB 4 8
  lay : At P x.lay layB 4 8
  tb : T.b.lookup cl = some x.beg
  tn : T.n.lookup cl = some x.nxt
  ts : T.s.lookup cl = some x.say
  tr : T.rs.contains cl = true
section
variable {P : List Df} {T : Tbs} {lv K dr dn cl : Nat} {M : Mem} {n L y : Nat} {g : Nat → Nat → D} {o : D} {w : Nat → Nat} {sy : Nat → Nat → Bool} {dp wt : Nat} {ix : SpIx}
theorem sp_meth {nm : Str} {j : Nat} (h : (nm ≠ "row" ∧ nm ≠ "by") ∧ nm ≠ "letters" ∧ nm ≠ "ways") : methOf M (spO cl L y o) nm [(cl, j)] = some j := by
  simp [methOf, spO, insOf]
  exact ⟨h.1.1, h.1.2, h.2.1, h.2.2⟩
theorem mn_pos {c t : Nat} (hy : 2 ≤ y) : 1 ≤ mnS n y c t ∧ mnS n y c t ≤ y := by unfold mnS; omega
theorem trs_len {B p m : Nat} : (trsS g y B p m).length = m := by simp [trsS]
theorem trs_ne {B p m : Nat} (h : 1 ≤ m) : trsS g y B p m ≠ [] := fun z => by
  have := congrArg List.length z
  rw [trs_len] at this
  simp at this
  omega
/-- as it is heard -/
def hpS (g : Nat → Nat → D) (n y c t : Nat) : List D := if c * y ≤ t + c ∧ c * y < n then trsS g y (fxS n y (t + c)) (c * y) (mnS n y c t) else []
theorem trs_plain (r : RunAt P T lv o n w L g sy dp wt) {B p m : Nat} (hm : m ≤ 4) (hy : y ≤ 4) (hp : p + m ≤ n) : ∀ d ∈ trsS g y B p m, Plain d (dp + 1) (4 * wt + 11) := by
  intro d hd
  obtain ⟨k, hk, rfl⟩ := List.mem_map.mp hd
  have hk := List.mem_range.mp hk
  refine (Plain.tup (dp := dp) (w := wt) fun x hx => ?_).mono (Nat.le_refl _) ?_
  · obtain ⟨e, _, rfl⟩ := List.mem_map.mp hx
    exact r.pl _ _ (by omega)
  · rw [List.length_map, List.length_range]
    have : tlS y k (B - (p + k)) ≤ 4 := by unfold tlS; split <;> omega
    have := Nat.mul_le_mul_left (wt + 2) this
    omega
theorem pk_plain (r : RunAt P T lv o n w L g sy dp wt) {c t : Nat} (hy : 2 ≤ y ∧ y ≤ 4) : Plain (.tup (pkS g n y c t)) (dp + 2) (16 * wt + 55) := by
  unfold pkS
  have mn := mn_pos (n := n) (c := c) (t := t) hy.1
  split
  · rename_i h
    have h := of_decide_eq_true h
    have : c * y + mnS n y c t ≤ n := by unfold mnS; omega
    refine (Plain.tup (trs_plain r (by omega) hy.2 this)).mono (Nat.le_refl _) ?_
    rw [trs_len]
    have := Nat.mul_le_mul_left (4 * wt + 11 + 2) (show mnS n y c t ≤ 4 by omega)
    omega
  · exact (Plain.tup (dp := 0) (w := 0) (ds := []) (fun d hd => by cases hd)).mono (by omega) (by simp)
theorem hp_plain (r : RunAt P T lv o n w L g sy dp wt) {c t : Nat} (hy : 2 ≤ y ∧ y ≤ 4) : Plain (.tup (hpS g n y c t)) (dp + 2) (16 * wt + 55) := by
  unfold hpS
  have mn := mn_pos (n := n) (c := c) (t := t) hy.1
  split
  · rename_i h
    have : c * y + mnS n y c t ≤ n := by unfold mnS; omega
    refine (Plain.tup (trs_plain r (by omega) hy.2 this)).mono (Nat.le_refl _) ?_
    rw [trs_len]
    have := Nat.mul_le_mul_left (4 * wt + 11 + 2) (show mnS n y c t ≤ 4 by omega)
    omega
  · exact (Plain.tup (dp := 0) (w := 0) (ds := []) (fun d hd => by cases hd)).mono (by omega) (by simp)
theorem isBey_tup {ds : List D} : isBey (.tup ds) = ds.isEmpty := by cases ds <;> rfl
theorem lt_plain {x : Nat} (hw : ∀ p, p < n → w p < 1000000) : Plain (ltS w n x) 0 48 := by
  unfold ltS
  split
  · rename_i h
    exact Plain.nat (by have := hw x h; omega)
  · exact Plain.non
theorem wG_plain (r : RunAt P T lv o n w L g sy dp wt) (hw : ∀ p, p < n → w p < 1000000) {c t : Nat} (hy : 2 ≤ y ∧ y ≤ 4) : Plain (wGS g w n y t c) (dp + 3) (32 * wt + 130) := by
  unfold wGS
  refine (Plain.tup (dp := dp + 2) (w := 16 * wt + 55) fun d hd => ?_).mono (Nat.le_refl _) (by simp only [List.length_cons, List.length_nil]; omega)
  simp only [List.mem_cons, List.not_mem_nil, or_false] at hd
  rcases hd with rfl | rfl
  · exact (lt_plain hw).mono (by omega) (by omega)
  · exact pk_plain r hy
theorem hrd_ok (h : SpAt P T dr dn ix cl) (r : RunAt P T lv o n w L g sy dp wt) (hy : 2 ≤ y ∧ y ≤ 4) (hdp : dp ≤ 50) {c t : Nat} (hc : c < n) (hq : M.all quiet = true) (hK : lv + 1 ≤ K) :
    evF P K ix.hrd [spO cl L y o, lfG (wGS g w n y) t c, wGS g w n y t c] M = .ok (.tup (hpS g n y c t)) M := by
  obtain ⟨k, rfl⟩ : ∃ k, K = k + 1 := ⟨K - 1, by omega⟩
  obtain ⟨ib, hb1, hb2⟩ := r.beg
  refine (GF.enter h.hrd rfl ?_).to
  unfold spHrdB wGS
  walk_at "in"
  refine .neO (eq_bey (pk_plain r hy) (by omega)) ?_
  rw [isBey_tup]
  walk_at "go"
  have hcy : 1 ≤ c → (c - 1) * y + y = c * y := fun z => by
    obtain ⟨b, rfl⟩ : ∃ b, c = b + 1 := ⟨c - 1, by omega⟩
    rw [Nat.add_sub_cancel, Nat.succ_mul]
  have mn := mn_pos (n := n) (c := c) (t := t) hy.1
  by_cases hh : c * y < t + c ∧ c * y < n
  · have e1 : pkS g n y c t = trsS g y (fxS n y (t + c)) (c * y) (mnS n y c t) := by rw [pkS, if_pos (show hdS n y c t = true from decide_eq_true hh)]
    have e2 : hpS g n y c t = trsS g y (fxS n y (t + c)) (c * y) (mnS n y c t) := by rw [hpS, if_pos ⟨by omega, hh.2⟩]
    rw [e1, e2]
    have ne : (trsS g y (fxS n y (t + c)) (c * y) (mnS n y c t)).isEmpty = false := by
      cases e : trsS g y (fxS n y (t + c)) (c * y) (mnS n y c t) with
      | nil => exact absurd e (trs_ne mn.1)
      | cons _ _ => rfl
    refine .tt (by rw [ne]; rfl) ?_
    refine .tbl (.tt (by rw [ne]; rfl) ?_)
    walk_at "go"
    exact .rt (Nat.le_refl _) ⟨rfl, rfl⟩
  · have e1 : pkS g n y c t = [] := by rw [pkS, if_neg (by rw [hdS, decide_eq_true_iff]; exact hh)]
    rw [e1]
    refine .ff rfl ?_
    walk_at "go"
    by_cases hl : c + t < n
    · rw [ltS, if_pos hl]
      walk_at "go"
      by_cases c0 : c = 0
      · subst c0
        rw [lfG, if_pos rfl]
        walk_at "go"
        refine .of (hb1 _) ?_
        walk_at "go"
        refine .eq (hb2 _ _ (0 + t) (by omega) hq (by omega)) ?_
        walk_at "go"
        refine .rt (Nat.le_refl _) ⟨?_, rfl⟩
        have t0 : t = 0 := by simp only [Nat.zero_mul] at hh; omega
        subst t0
        rw [hpS, if_pos ⟨by omega, by omega⟩, mnS, fxS_lt (by omega)]
        simp only [Nat.zero_mul, Nat.zero_add, Nat.zero_min, Nat.sub_zero]
        rw [show min y 1 = 1 by omega]
        simp only [trsS, List.range_one, List.map_cons, List.map_nil, trS, tlS, if_true, Nat.zero_sub, Nat.add_zero, Nat.zero_add]
        rw [show min y 1 = 1 by omega]
        rfl
      · have hcy := hcy (by omega)
        rw [lfG, if_neg c0]
        try dsimp only
        try simp only [wGS]
        walk_at "go"
        have el : (pkS g n y (c - 1) t).length = (if (c - 1) * y < t + (c - 1) ∧ (c - 1) * y < n then mnS n y (c - 1) t else 0) := by
          unfold pkS
          by_cases q : (c - 1) * y < t + (c - 1) ∧ (c - 1) * y < n
          · rw [if_pos (show hdS n y (c - 1) t = true from decide_eq_true q), if_pos q, trs_len]
          · rw [if_neg (by rw [hdS, decide_eq_true_iff]; exact q), if_neg q]; rfl
        rw [el]
        by_cases ht : t + c = c * y
        · rw [if_pos ⟨by omega, by omega⟩, show mnS n y (c - 1) t = y by unfold mnS; omega]
          refine .tt (by simp) ?_
          walk_at "go"
          refine .of (hb1 _) ?_
          walk_at "go"
          refine .eq (hb2 _ _ (c + t) (by omega) hq (by omega)) ?_
          walk_at "go"
          refine .rt (Nat.le_refl _) ⟨?_, rfl⟩
          rw [hpS, if_pos ⟨by omega, by omega⟩, show mnS n y c t = 1 by unfold mnS; omega, fxS_lt (by omega), ht, show c + t = c * y by omega]
          simp only [trsS, List.range_one, List.map_cons, List.map_nil, trS, tlS, if_true, Nat.add_zero, Nat.sub_self, Nat.zero_add]
          rw [show min y 1 = 1 by omega]
          simp
        · have nf : ¬ (if (c - 1) * y < t + (c - 1) ∧ (c - 1) * y < n then mnS n y (c - 1) t else 0) = y := by
            split
            · unfold mnS; omega
            · omega
          refine .ff (decide_eq_false fun z => nf (by exact_mod_cast z)) ?_
          walk_at "go"
          refine .rt (Nat.le_refl _) ⟨?_, rfl⟩
          rw [hpS, if_neg (by omega)]
    · rw [ltS, if_neg hl]
      walk_at "go"
      refine .rt (Nat.le_refl _) ⟨?_, rfl⟩
      rw [hpS, if_neg (by omega)]
end
end Ev
/-! Ev68: a sped row's next worth. -/
namespace Ev
open PySem L2
section
variable {P : List Df} {T : Tbs} {lv K dr dn cl : Nat} {M : Mem} {n L y : Nat} {g : Nat → Nat → D} {o : D} {w : Nat → Nat} {sy : Nat → Nat → Bool} {dp wt : Nat} {ix : SpIx}
theorem slc_one {xs : List D} {M : Mem} : slcD M (.tup xs) none (some 1) = some (.tup (xs.take 1)) := by
  simp only [slcD, cutD, HT.sIx]
  congr 2
  cases xs with
  | nil => simp
  | cons x xs => simp [HT.sIx]
theorem trs_take {B p m : Nat} (h : 1 ≤ m) : (trsS g y B p m).take 1 = trsS g y B p 1 := by
  obtain ⟨k, rfl⟩ : ∃ k, m = k + 1 := ⟨m - 1, by omega⟩
  simp [trsS, List.range_succ_eq_map]
/-- the places of trails that are laid -/
def layS (y : Nat) (first latest : Int) (p0 B m : Nat) (a d : Int) : Prop := ∃ (b : Nat), b < m ∧ a = first + (b : Int) ∧ ∃ e : Nat, e < tlS y b (B - (p0 + b)) ∧ d = latest - (e : Int)
theorem layS_dom {B B' c p0 m : Nat} {first latest : Int} (h1 : (p0 : Int) = c + first) (h2 : (B' : Int) = B + latest) (h : p0 + m ≤ B' + 1) (hn : p0 + m ≤ n) {a d : Int} (z : layS y first latest p0 B' m a d) : DomG n B c a d := by
  obtain ⟨b, hb, rfl, e, he, rfl⟩ := z
  have : e ≤ B' - (p0 + b) := by unfold tlS at he; omega
  exact ⟨by omega, by omega, by omega⟩
theorem layS_in {B B' c p0 m : Nat} {first latest : Int} (h1 : (p0 : Int) = c + first) (h2 : (B' : Int) = B + latest) (hy : 2 ≤ y) {a d : Int} (ha : first ≤ a ∧ a < first + m) (hd : d ≤ latest) (hl : latest - 2 < d ∨ (a = first ∧ latest - (y : Int) < d)) (dm : DomG n B c a d) : layS y first latest p0 B' m a d := by
  obtain ⟨q1, q2, q3⟩ := dm
  refine ⟨(a - first).toNat, by omega, by omega, (latest - d).toNat, ?_, by omega⟩
  unfold tlS
  split <;> omega
theorem tl_four {k q : Nat} (hy : y ≤ 4) : tlS y k q ≤ 4 := by unfold tlS; split <;> omega
theorem tv_nc (r : RunAt P T lv o n w L g sy dp wt) {B c a d : Int} (h : 0 ≤ c + a) (h2 : c + a < n) : noCell (tvG g B c a d) = true := r.nc _ _ (by omega)
/-- trails laid into a dict -/
theorem lay_trs (h : SpAt P T dr dn ix cl) (r : RunAt P T lv o n w L g sy dp wt) (hy : 2 ≤ y ∧ y ≤ 4) {kvs : List (NestedKey × D)} {N : Nat} {S : Int → Int → Prop} {B B' c p0 m : Nat} {first latest : Int} (kd : KD kvs N (tvG g B c) S) (hN : N ≤ 1000) (h1 : (p0 : Int) = c + first) (h2 : (B' : Int) = B + latest) (hB : p0 + m ≤ B' + 1) (hn : p0 + m ≤ n) (hm : m ≤ 4) (hK : 1 ≤ K) :
    ∃ kvs', evF P K ix.lay [.cell M.length, .tup (trsS g y B' p0 m), .int first, .int latest] (M ++ [some (.dcn kvs)]) = .ok .non (M ++ [some (.dcn kvs')]) ∧ KD kvs' (N + 16) (tvG g B c) fun a d => S a d ∨ layS y first latest p0 B' m a d := by
  obtain ⟨kv, e1, e2⟩ := lay_ok (K := K) (tv := tvG g B c) (M := M ++ [some (.dcn kvs)]) (i := M.length) (first := first) (latest := latest) (m := m) (len := fun a => tlS y a (B' - (p0 + a))) h.lay mem_at kd (fun a => tl_four hy.2) hm hN (fun a e ha _ => tv_nc r (by omega) (by omega)) hK
  refine ⟨kv, ?_, e2⟩
  rw [trs_tv h1 h2 hB]
  rw [mem_put] at e1
  exact e1
theorem wG_nc (r : RunAt P T lv o n w L g sy dp wt) {t c : Nat} : noCell (wGS g w n y t c) = true := by
  have e1 : noCells (pkS g n y c t) = true := noCells_of fun d hd => by
    unfold pkS at hd
    split at hd
    · rename_i hh
      have hh := of_decide_eq_true hh
      obtain ⟨k, hk, rfl⟩ := List.mem_map.mp hd
      have hk := List.mem_range.mp hk
      have : c * y + mnS n y c t ≤ n := by unfold mnS; omega
      have : noCells ((List.range (tlS y k (fxS n y (t + c) - (c * y + k)))).map fun e => g (fxS n y (t + c) - e - (c * y + k)) (c * y + k)) = true := noCells_of fun d hd => by
        obtain ⟨e, _, rfl⟩ := List.mem_map.mp hd
        exact r.nc _ _ (by omega)
      simpa [trS, noCell] using this
    · cases hd
  have e2 : noCell (ltS w n (c + t)) = true := by unfold ltS; split <;> rfl
  simp [wGS, noCell, noCells, e1, e2]
theorem sp_nxt (h : SpAt P T dr dn ix cl) (r : RunAt P T lv o n w L g sy dp wt) (hy : 2 ≤ y ∧ y ≤ 4) (hdp : dp ≤ 50) {c t : Nat} (hc : c < n) (hq : M.all quiet = true) (hK : lv + 2 ≤ K) :
    evF P K ix.nxt [spO cl L y o, lfG (wGS g w n y) t c, wGS g w n y t c, rtG n (wGS g w n y) t c] M = .ok (wGS g w n y (t + 1) c) M := by
  obtain ⟨k, rfl⟩ : ∃ k, K = k + 1 := ⟨K - 1, by omega⟩
  obtain ⟨ib, hb1, hb2⟩ := r.beg
  have mn := mn_pos (n := n) (c := c) (t := t) hy.1
  have hcy : 1 ≤ c → (c - 1) * y + y = c * y := fun z => by
    obtain ⟨b, rfl⟩ : ∃ b, c = b + 1 := ⟨c - 1, by omega⟩
    rw [Nat.add_sub_cancel, Nat.succ_mul]
  have hcy2 : (c + 1) * y = c * y + y := Nat.succ_mul ..
  have hB1 := fxS_step (n := n) (y := y) (x := t + c) (by omega)
  have hB2 : t + c < n → fxS n y (t + c) = t + c := fun z => fxS_lt z
  have hB3 : n ≤ t + c → n - 1 + y ≤ fxS n y (t + c) := fun z => fxS_ge z (by omega)
  have hB4 : 1 ≤ c → fxS n y (t + c) = fxS n y (t + (c - 1)) + (if t + c < n then 1 else y) := fun z => by
    have := fxS_step (n := n) (y := y) (x := t + (c - 1)) (by omega)
    rw [show t + (c - 1) + 1 = t + c by omega] at this
    exact this
  have hR1 : c + 1 < n → rtG n (wGS g w n y) t c = .tup [ltS w n (c + 1 + t), .tup (pkS g n y (c + 1) t)] := fun z => by rw [rtG, if_pos z]; rfl
  have hR2 : ¬ c + 1 < n → rtG n (wGS g w n y) t c = .non := fun z => by rw [rtG, if_neg z]
  have hlt : c + 1 + t = c + t + 1 := by omega
  refine (GF.enter h.nxt rfl ?_).to
  unfold spNxtB
  simp only [List.map_cons, List.map_nil, List.cons_append, List.nil_append, Nat.reduceSub, List.reduceReplicate]
  walk_at "gn"
  refine .imp (Q' := fun x M' => x = ltS w n (c + t + 1) ∧ M' = M) ?_ ?_
  · refine .ite ?_
    walk_at "go"
    by_cases z : c + 1 < n
    · rw [hR1 z]
      walk_at "go"
      exact ⟨by rw [hlt], rfl⟩
    · rw [hR2 z]
      walk_at "go"
      exact ⟨by rw [ltS, if_neg (by omega)], rfl⟩
  rintro _ M' ⟨rfl, hM⟩
  rw [hM]
  walk_at "gn"
  refine .of (sp_meth (by decide)) ?_
  walk_at "gn"
  refine .eq (hrd_ok h r hy hdp hc hq (by omega)) ?_
  walk_at "gn"
  refine .ifs ?_
  walk_at "gn"
  refine .eqO (eq_bey (hp_plain r hy) (by omega)) ?_
  rw [isBey_tup]
  by_cases hh : c * y ≤ t + c ∧ c * y < n
  rotate_left
  · have e2 : hpS g n y c t = [] := by rw [hpS, if_neg hh]
    rw [e2]
    walk_at "go"
    refine .rt (Nat.le_refl _) ⟨?_, rfl⟩
    rw [wGS, pkS, if_neg (by rw [hdS, decide_eq_true_iff]; omega), show c + (t + 1) = c + t + 1 by omega]
  have e2 : hpS g n y c t = trsS g y (fxS n y (t + c)) (c * y) (mnS n y c t) := by rw [hpS, if_pos hh]
  obtain ⟨B, hB⟩ : ∃ B, fxS n y (t + c) = B := ⟨_, rfl⟩
  obtain ⟨m, hm⟩ : ∃ m, mnS n y c t = m := ⟨_, rfl⟩
  obtain ⟨cy, hcyE⟩ : ∃ cy, c * y = cy := ⟨_, rfl⟩
  obtain ⟨st, hst⟩ : ∃ st : Nat, (if t + c + 1 < n then 1 else y) = st := ⟨_, rfl⟩
  obtain ⟨la, hla⟩ : ∃ la : Int, (if t + c < n then -1 else -(y : Int)) = la := ⟨_, rfl⟩
  have hm' : m = min y (min (t + c) (n - 1) - cy + 1) := by rw [← hm, mnS, hcyE]
  rw [hB, hst] at hB1
  rw [hB] at hB2 hB3 hB4
  rw [hcyE] at hh hcy hcy2
  rw [e2, hB, hm, hcyE]
  rw [hm] at mn
  have ne : (trsS g y B cy m).isEmpty = false := by
    cases e : trsS g y B cy m with
    | nil => exact absurd e (trs_ne mn.1)
    | cons _ _ => rfl
  rw [ne]
  walk_at "gn"
  have hst' : 1 ≤ st ∧ st ≤ y := by rw [← hst]; split <;> omega
  refine .imp (Q' := fun x M' => x = .int (st : Nat) ∧ M' = M) ?_ ?_
  · refine .ite ?_
    walk_at "go"
    by_cases z : c + t + 1 < n
    · rw [ltS, if_pos z]
      walk_at "go"
      exact ⟨by rw [← hst, if_pos (by omega)]; rfl, rfl⟩
    · rw [ltS, if_neg z]
      walk_at "go"
      exact ⟨by rw [← hst, if_neg (by omega)], rfl⟩
  rintro _ M' ⟨rfl, hM⟩
  rw [hM]
  walk_at "gn"
  rw [trs_len]
  refine .imp (Q' := fun x M' => x = .int la ∧ M' = M) ?_ ?_
  · refine .ite ?_
    rw [wGS]
    walk_at "go"
    by_cases z : c + t < n
    · rw [ltS, if_pos z]
      walk_at "go"
      exact ⟨by rw [← hla, if_pos (by omega)], rfl⟩
    · rw [ltS, if_neg z]
      walk_at "go"
      exact ⟨by rw [← hla, if_neg (by omega)], rfl⟩
  rintro _ M' ⟨rfl, hM⟩
  rw [hM]
  have hc2 : 2 * c ≤ cy := by rw [← hcyE, Nat.mul_comm]; exact Nat.mul_le_mul_left c hy.1
  have cyB : cy + m ≤ B + 1 ∧ cy + m ≤ n := by omega
  have qd : ∀ {kv : List (NestedKey × D)}, noCellN kv = true → (M ++ [some (MO.dcn kv)]).all quiet = true := fun z => quiet_dcn hq z
  obtain ⟨kv1, l1, kd1⟩ := lay_trs (K := k) (M := M) (B := B) (B' := B) (c := cy) (p0 := cy) (m := m) (first := 0) (latest := 0) h r hy (KD.nil (tv := tvG g B cy)) (by omega) (by omega) (by omega) (by omega) (by omega) (by omega) (by omega)
  walk_at "gn"
  refine .eq l1 ?_
  walk_at "gn"
  refine .ifsJ (fun σ' M' => ∃ kv2 S2, σ' = [some (spO cl L y o), some (lfG (wGS g w n y) t c), some (wGS g w n y t c), some (rtG n (wGS g w n y) t c), some (ltS w n (c + t + 1)), some (.tup (trsS g y B cy m)), some (.int (st : Nat)), some (.int (m : Nat)), some (.int la), some (.cell M.length), none] ∧ M' = M ++ [some (.dcn kv2)] ∧ KD kv2 32 (tvG g B cy) S2 ∧
    (∀ a d, S2 a d → DomG n B cy a d) ∧ (∀ a d, layS y 0 0 cy B m a d → S2 a d) ∧ ∀ a d : Int, -(y : Int) ≤ a → a < 0 → la - 2 < d → d ≤ la → DomG n B cy a d → S2 a d) ?_ ?_
  · have dom1 : ∀ a d, (False ∨ layS y 0 0 cy B m a d) → DomG n B cy a d := fun a d z => layS_dom (c := cy) (by omega) (by omega) (by omega) (by omega) (z.elim False.elim id)
    by_cases c0 : c = 0
    · rw [lfG, if_pos c0]
      refine .ifs ?_
      walk_at "go"
      refine ⟨_, _, rfl, kv1, _, rfl, rfl, kd1.mono (by omega), dom1, fun a d z => .inr z, fun a d z1 z2 z3 z4 dm => ?_⟩
      obtain ⟨q1, q2, q3⟩ := dm
      have : cy = 0 := by rw [← hcyE, c0, Nat.zero_mul]
      omega
    · have hcy := hcy (by omega)
      have hB4 := hB4 (by omega)
      obtain ⟨BL, hBL⟩ : ∃ BL, fxS n y (t + (c - 1)) = BL := ⟨_, rfl⟩
      obtain ⟨p0, hp0⟩ : ∃ p0, (c - 1) * y = p0 := ⟨_, rfl⟩
      rw [hBL] at hB4
      rw [hp0] at hcy
      have epk : pkS g n y (c - 1) t = trsS g y BL p0 y := by
        rw [pkS, if_pos (show hdS n y (c - 1) t = true from decide_eq_true (by rw [hp0]; omega)), hBL, hp0, show mnS n y (c - 1) t = y by unfold mnS; rw [hp0]; omega]
      have hla2 : (BL : Int) = B + la := by
        rw [← hla]
        split at hB4 <;> split <;> omega
      have hBL2 : p0 + y ≤ BL + 1 := by
        split at hB4 <;> omega
      have eL : lfG (wGS g w n y) t c = .tup [ltS w n (c - 1 + t), .tup (trsS g y BL p0 y)] := by rw [lfG, if_neg c0, ← epk]; rfl
      obtain ⟨kv2, l2, kd2⟩ := lay_trs (K := k) (M := M) (B := B) (B' := BL) (c := cy) (p0 := p0) (m := y) (first := -(y : Int)) (latest := la) h r hy kd1 (by omega) (by omega) hla2 hBL2 (by omega) (by omega) (by omega)
      refine .ifs ?_
      rw [eL]
      walk_at "go"
      refine .eq l2 ?_
      walk_at "go"
      refine ⟨_, _, rfl, kv2, _, rfl, rfl, kd2.mono (by omega), fun a d z => z.elim (dom1 a d) (layS_dom (by omega) hla2 hBL2 (by omega)), fun a d z => .inl (.inr z), fun a d z1 z2 z3 z4 dm => .inr (layS_in (by omega) hla2 hy.1 ⟨by omega, by omega⟩ z4 (.inl z3) dm)⟩
  rintro _ _ ⟨kv2, S2, rfl, rfl, kd2, dom2, own2, lef2⟩
  obtain ⟨zb, hzb⟩ : ∃ zb : Bool, (decide (c + t + 1 < n) && (decide (m < y) || (pkS g n y (c + 1) t).isEmpty)) = zb := ⟨_, rfl⟩
  refine .ifsJ (fun σ' M' => ∃ kv3 S3, σ' = [some (spO cl L y o), some (lfG (wGS g w n y) t c), some (wGS g w n y t c), some (rtG n (wGS g w n y) t c), some (ltS w n (c + t + 1)), some (.tup (trsS g y B cy m)), some (.int (st : Nat)), some (.int (m : Nat)), some (.int la), some (.cell M.length), none] ∧ M' = M ++ [some (.dcn kv3)] ∧ KD kv3 50 (tvG g B cy) S3 ∧
    (∀ a d, S3 a d → DomG n B cy a d) ∧ (∀ a d, S2 a d → S3 a d) ∧ ∀ d : Int, 1 ≤ d → d ≤ st → DomG n B cy m d → S3 m d) ?_ ?_
  · refine .ifs (.imp (Q' := fun x M' => x = .bl zb ∧ M' = M ++ [some (.dcn kv2)]) ?_ ?_)
    · by_cases z : c + t + 1 < n
      · rw [ltS, if_pos z, hR1 (by omega)]
        walk_at "go"
        refine .dd (fun z2 => ?_) (fun z2 => ?_)
        · exact ⟨by rw [← hzb]; simp [z]; omega, rfl⟩
        · walk_at "go"
          refine .eqO (eq_bey (pk_plain r hy) (by omega)) ?_
          rw [isBey_tup]
          exact ⟨by rw [← hzb]; simp [z]; intro z3; omega, rfl⟩
      · rw [ltS, if_neg z]
        walk_at "go"
        exact ⟨by rw [← hzb]; simp [z], rfl⟩
    rintro _ M' ⟨rfl, hM⟩
    rw [hM]
    have hpe : (pkS g n y (c + 1) t).isEmpty = !decide (cy + y < t + (c + 1) ∧ cy + y < n) := by
      unfold pkS
      by_cases q : cy + y < t + (c + 1) ∧ cy + y < n
      · rw [if_pos (show hdS n y (c + 1) t = true from decide_eq_true (by rw [hcy2]; exact q)), decide_eq_true q]
        cases e : trsS g y (fxS n y (t + (c + 1))) ((c + 1) * y) (mnS n y (c + 1) t) with
        | nil => exact absurd e (trs_ne (mn_pos hy.1).1)
        | cons _ _ => rfl
      · rw [if_neg (by rw [hdS, decide_eq_true_iff, hcy2]; exact q), decide_eq_false q]; rfl
    cases zb with
    | true =>
      rw [hpe] at hzb
      simp only [Bool.and_eq_true, Bool.or_eq_true, decide_eq_true_eq, Bool.not_eq_true', decide_eq_false_iff_not] at hzb
      obtain ⟨z, z2⟩ := hzb
      have ep : cy + m = c + t + 1 := by omega
      have hBt := hB2 (by omega)
      rw [ltS, if_pos z]
      walk_at "go"
      refine .of (hb1 _) ?_
      walk_at "go"
      refine .eq (hb2 _ _ (c + t + 1) (by omega) (qd kd2.nc) z) ?_
      refine .subN ?_
      walk_at "go"
      refine ⟨M.length, _, kv2, _, rfl, rfl, mem_at, pk_key _ _, by have := kd2.len; omega, ?_⟩
      rw [mem_put]
      have ev : g 0 (c + t + 1) = tvG g B cy m 1 := by
        rw [tvG, show (B : Int) + 1 - ((cy : Int) + (m : Nat)) = ((0 : Nat) : Int) by omega, show (cy : Int) + (m : Nat) = ((c + t + 1 : Nat) : Int) by omega, Int.toNat_natCast, Int.toNat_natCast]
      have s1 : st = 1 := by rw [← hst, if_pos (by omega)]
      walk_at "go"
      refine ⟨_, _, rfl, _, _, rfl, rfl, (kd2.put (a := (m : Nat)) (d := 1) ev (r.nc _ _ z)).mono (by omega), ?_, fun a d q => .inl q, fun d z1 z2 dm => .inr ⟨rfl, by omega⟩⟩
      rintro a d (q | ⟨rfl, rfl⟩)
      · exact dom2 _ _ q
      · exact ⟨by omega, by omega, by omega⟩
    | false =>
      walk_at "go"
      have nodom : ¬ (m = y ∧ cy + y < t + (c + 1) ∧ cy + y < n) → ∀ d, ¬ DomG n B cy m d := by
        rintro q d ⟨q1, q2, q3⟩
        rw [hpe] at hzb
        by_cases z : c + t + 1 < n
        · simp only [z, decide_true, Bool.true_and, Bool.or_eq_false_iff, decide_eq_false_iff_not, Bool.not_eq_false', decide_eq_true_eq] at hzb
          exact q ⟨by omega, hzb.2⟩
        · omega
      by_cases z : c + 1 < n
      · rw [hR1 z]
        walk_at "go"
        refine .of slc_one ?_
        by_cases q : cy + y < t + (c + 1) ∧ cy + y < n
        · have epk : (pkS g n y (c + 1) t).take 1 = trsS g y (B + st) (cy + y) 1 := by
            rw [pkS, if_pos (show hdS n y (c + 1) t = true from decide_eq_true (by rw [hcy2]; exact q)), trs_take (mn_pos hy.1).1, show t + (c + 1) = t + c + 1 by omega, hB1, hcy2]
          rw [epk]
          have hBR : cy + y + 1 ≤ B + st + 1 := by
            have := hst
            split at this <;> omega
          obtain ⟨kv3, l3, kd3⟩ := lay_trs (K := k) (M := M) (B := B) (B' := B + st) (c := cy) (p0 := cy + y) (m := 1) (first := (y : Int)) (latest := (st : Nat)) h r hy kd2 (by omega) (by omega) (by omega) hBR (by omega) (by omega) (by omega)
          walk_at "go"
          refine .eq l3 ?_
          walk_at "go"
          refine ⟨_, _, rfl, kv3, _, rfl, rfl, kd3.mono (by omega), fun a d z => z.elim (dom2 a d) (layS_dom (c := cy) (by omega) (by omega) hBR (by omega)), fun a d z => .inl z, fun d z1 z2 dm => .inr ?_⟩
          have : m = y := by
            refine Decidable.byContradiction fun q2 => nodom (fun z => q2 z.1) d dm
          exact layS_in (c := cy) (by omega) (by omega) hy.1 ⟨by omega, by omega⟩ z2 (.inr ⟨by omega, by omega⟩) dm
        · have epk : (pkS g n y (c + 1) t).take 1 = [] := by
            rw [pkS, if_neg (by rw [hdS, decide_eq_true_iff, hcy2]; exact q)]; rfl
          rw [epk]
          obtain ⟨kv3, l3, kd3⟩ := lay_ok (K := k) (tv := tvG g B cy) (M := M ++ [some (.dcn kv2)]) (i := M.length) (first := (y : Int)) (latest := (st : Nat)) (m := 0) (len := fun _ => 0) h.lay mem_at kd2 (fun a => by omega) (by omega) (by omega) (fun a e z => absurd z (Nat.not_lt_zero _)) (by omega)
          rw [mem_put] at l3
          simp only [List.range_zero, List.map_nil] at l3
          walk_at "go"
          refine .eq l3 ?_
          walk_at "go"
          refine ⟨_, _, rfl, kv3, _, rfl, rfl, kd3.mono (by omega), fun a d z => z.elim (dom2 a d) fun ⟨b, hb, _⟩ => absurd hb (Nat.not_lt_zero _), fun a d z => .inl z, fun d z1 z2 dm => absurd dm (nodom (fun z => q z.2) d)⟩
      · rw [hR2 z]
        walk_at "go"
        exact ⟨_, _, rfl, kv2, S2, rfl, rfl, kd2.mono (by omega), dom2, fun a d z => z, fun d z1 z2 dm => absurd dm (nodom (by omega) d)⟩
  rintro _ _ ⟨kv3, S3, rfl, rfl, kd3, dom3, up3, rig3⟩
  walk_at "gn"
  refine .of (sp_meth (by decide)) ?_
  walk_at "gn"
  obtain ⟨kv4, N4, S4, l4, kd4, n4, dom4, up4, ned4⟩ := rck_ok (K := k) (cl := cl) (L := L) (M := M ++ [some (.dcn kv3)]) (i := M.length) (m := m) (y := y) (lat := la) (st := (st : Nat)) h.rck r mem_at kd3 (by omega) (by rw [mem_put, List.all_append, hq]; rfl) dom3
    ⟨hy, mn, ⟨by omega, by omega⟩, ⟨by omega, by omega⟩, by rw [← hla, ← hst]; split <;> split <;> omega⟩
    (fun a d z1 z2 z3 z4 dm => up3 _ _ (own2 _ _ (layS_in (c := cy) (by omega) (by omega) hy.1 ⟨by omega, by omega⟩ z4 (z3.elim (fun q => .inl (by omega)) fun q => .inr ⟨q.1, by omega⟩) dm)))
    (fun a d z1 z2 z3 z4 dm => up3 _ _ (lef2 a d z1 z2 z3 z4 dm)) rig3 (by omega)
  rw [mem_put] at l4
  refine .eq l4 ?_
  obtain ⟨m2, hm2⟩ : ∃ m2, mnS n y c (t + 1) = m2 := ⟨_, rfl⟩
  have hm2' : m2 = if c + t + 1 < n then min (m + 1) y else m := by
    rw [← hm2, mnS, hcyE]
    split <;> omega
  walk_at "gn"
  refine .ifsJ (fun σ' M' => σ' = [some (spO cl L y o), some (lfG (wGS g w n y) t c), some (wGS g w n y t c), some (rtG n (wGS g w n y) t c), some (ltS w n (c + t + 1)), some (.tup (trsS g y B cy m)), some (.int (st : Nat)), some (.int (m2 : Nat)), some (.int la), some (.cell M.length), none] ∧ M' = M ++ [some (.dcn kv4)]) ?_ ?_
  · refine .ifs ?_
    by_cases z : c + t + 1 < n
    · rw [ltS, if_pos z]
      walk_at "go"
      refine ⟨_, _, rfl, ?_, rfl⟩
      rw [show (if (y : Int) < (m : Int) + 1 then (y : Int) else (m : Int) + 1) = ((m2 : Nat) : Int) by rw [hm2', if_pos z]; split <;> omega]
    · rw [ltS, if_neg z]
      walk_at "go"
      refine ⟨_, _, rfl, ?_, rfl⟩
      rw [show m2 = m by rw [hm2', if_neg z]]
  rintro _ _ ⟨rfl, rfl⟩
  refine .frzsN rfl mem_at ?_
  rw [mem_put]
  walk_at "go"
  have hm2n : cy + m2 ≤ n ∧ m2 ≤ 4 := by rw [hm2']; split <;> omega
  refine .lcM (M1 := M ++ [none]) (List.range m2) (fun a => .int (a : Nat)) (trS g y (B + st) cy) ?_ (by simp; omega) (fun a ha => ?_) ?_
  · refine .rng1 ?_
    walk_at "go"
    exact .of (rng_nat m2 (by omega)) ⟨rfl, rfl⟩
  · have ha := List.mem_range.mp ha
    walk_at "go"
    refine .of (sp_meth (by decide)) ?_
    walk_at "go"
    refine .eq (trl_ok (p := cy + a) (q := B + st - (cy + a)) (B' := B + st) (B := (B : Nat)) (c := (cy : Nat)) h.trl kd4 hy (by omega) (by omega) (by omega) (by omega) rfl (by split at hm2' <;> omega) (fun e he => ?_) (by omega)) ⟨rfl, rfl⟩
    constructor
    · intro s4
      obtain ⟨q1, q2, q3⟩ := dom4 _ _ s4
      omega
    · intro hq2
      have hpB : cy + a ≤ B + st := by split at hm2' <;> omega
      have dm : DomG n B cy a ((st : Int) - (e : Nat)) := ⟨by omega, by omega, by omega⟩
      by_cases am : a < m
      · by_cases h1 : 1 ≤ (st : Int) - (e : Nat)
        · exact ned4 _ _ (by omega) (by omega) h1 (by omega) dm
        · refine up4 _ _ (up3 _ _ (own2 _ _ (layS_in (c := cy) (by omega) (by omega) hy.1 ⟨by omega, by omega⟩ (by omega) ?_ dm)))
          split at he
          · exact .inr ⟨by omega, by omega⟩
          · exact .inl (by omega)
      · have z : c + t + 1 < n := Decidable.byContradiction fun z => by rw [if_neg z] at hm2'; omega
        rw [if_pos z] at hm2'
        have s1 : st = 1 := by rw [← hst, if_pos (by omega)]
        have := hB2 (by omega)
        have em : a = m := by omega
        have e0 : e = 0 := by omega
        subst em e0
        exact up4 _ _ (rig3 _ (by omega) (by omega) dm)
  walk_at "go"
  have fin : D.tup [ltS w n (c + t + 1), .tup ((List.range m2).map (trS g y (B + st) cy))] = wGS g w n y (t + 1) c := by
    rw [wGS, pkS, if_pos (show hdS n y c (t + 1) = true from decide_eq_true (by rw [hcyE]; omega)), hm2, hcyE, show t + 1 + c = t + c + 1 by omega, hB1, show c + (t + 1) = c + t + 1 by omega]
    rfl
  rw [fin]
  exact .cut rfl rfl hq (wG_nc r) ⟨rfl, rfl⟩
end
end Ev
/-! Ev69: a sped row runs. -/
namespace Ev
open PySem L2
section
variable {P : List Df} {T : Tbs} {lv K dr dn cl : Nat} {M : Mem} {n L y : Nat} {g : Nat → Nat → D} {o : D} {w : Nat → Nat} {sy : Nat → Nat → Bool} {dp wt : Nat} {ix : SpIx} {S : Rw}
/-- any row of two ways runs -/
theorem rowRun (r : RowAt P T lv o S) (h2 : S.W = 2) (hb : T.hb = true) (hs : T.hs = true) {ws : List Nat} (hw : ∀ x ∈ ws, x < S.L) :
    RunAt P T lv o ws.length (fun p => ws.getD p 0) S.L (fun t p => gvR S t (begs S ws) p) (fun t p => S.say (gvR S t (begs S ws) p)) S.dp S.wt where
  isrow := r.isrow
  ways := fun M => by rw [r.ways, h2]
  letters := r.letters
  beg := by
    obtain ⟨i, h1, h2⟩ := r.beg hb
    refine ⟨i, h1, fun K M p hK hq hp => ?_⟩
    have e : ws.getD p 0 = ws[p] := by rw [List.getD_eq_getElem?_getD, List.getElem?_eq_getElem hp]; rfl
    have e2 : gvR S 0 (begs S ws) p = S.beg (ws.getD p 0) := by
      rw [gvR_zero, begs, List.getD_eq_getElem?_getD, List.getElem?_map, List.getElem?_eq_getElem hp, e]; rfl
    rw [e2]
    exact h2 K M _ hK hq (by rw [e]; exact hw _ (List.getElem_mem hp))
  nxt := by
    obtain ⟨i, h1, h3⟩ := r.nxt
    refine ⟨i, h1, fun K M t p hK hq hp => ?_⟩
    have h0 : begs S ws ≠ [] := begs_ne fun z => by rw [z] at hp; simp at hp
    rw [gvR_step (by rw [begs_len]; exact hp)]
    have eR : rtG ws.length (fun t p => gvR S t (begs S ws) p) t p = gvR S t (begs S ws) (p + 1) := by
      rw [rtG]
      split
      · rfl
      · rw [gvR_out h0 (by rw [begs_len]; omega)]
    rw [eR]
    refine h3 K M _ _ _ hK hq ?_ (r.gv_ok hw hp) (.inr (r.gv_okn hw))
    rw [lfG]
    split
    · exact .inl rfl
    · exact r.gv_okn hw
  say := by
    obtain ⟨i, h1, h3⟩ := r.say hs
    exact ⟨i, h1, fun K M t p hK hq hp => h3 K M _ hK hq (r.gv_ok hw hp)⟩
  nc := fun t p hp => r.okq _ (r.gv_ok hw hp)
  nn := fun t p hp => r.nn _ (r.gv_ok hw hp)
  pl := fun t p hp => r.pl _ (r.gv_ok hw hp)
/-- the inner worth that stands there -/
def innS (g : Nat → Nat → D) (n y t c : Nat) : D := if hdS n y c t = true then g (fxS n y (t + c) - c * y) (c * y) else if c + t < n then g 0 (c + t) else .non
def sayS (sy : Nat → Nat → Bool) (n y t c : Nat) : Bool := if hdS n y c t = true then sy (fxS n y (t + c) - c * y) (c * y) else if c + t < n then sy 0 (c + t) else false
theorem inn_ok (h : SpAt P T dr dn ix cl) (r : RunAt P T lv o n w L g sy dp wt) (hy : 2 ≤ y ∧ y ≤ 4) (hdp : dp ≤ 50) {c t : Nat} (hc : c < n) (hq : M.all quiet = true) (hK : lv + 1 ≤ K) :
    evF P K ix.inn [spO cl L y o, wGS g w n y t c] M = .ok (innS g n y t c) M := by
  obtain ⟨k, rfl⟩ : ∃ k, K = k + 1 := ⟨K - 1, by omega⟩
  obtain ⟨ib, hb1, hb2⟩ := r.beg
  have mn := mn_pos (n := n) (c := c) (t := t) hy.1
  refine (GF.enter h.inn rfl ?_).to
  unfold spInnB
  rw [show wGS g w n y t c = .tup [ltS w n (c + t), .tup (pkS g n y c t)] from rfl]
  walk_at "in"
  refine .neO (eq_bey (pk_plain r hy) (by omega)) ?_
  rw [isBey_tup]
  by_cases hh : c * y < t + c ∧ c * y < n
  · have hd : hdS n y c t = true := decide_eq_true hh
    have e1 : pkS g n y c t = trsS g y (fxS n y (t + c)) (c * y) (mnS n y c t) := by rw [pkS, if_pos hd]
    obtain ⟨m, hm⟩ : ∃ m, mnS n y c t = m + 1 := ⟨mnS n y c t - 1, by omega⟩
    have e3 : trsS g y (fxS n y (t + c)) (c * y) (m + 1) = trS g y (fxS n y (t + c)) (c * y) 0 :: (List.range m).map fun k => trS g y (fxS n y (t + c)) (c * y) (k + 1) := by
      simp [trsS, List.range_succ_eq_map]
    obtain ⟨q, hq2⟩ : ∃ q, tlS y 0 (fxS n y (t + c) - (c * y + 0)) = q + 1 := ⟨tlS y 0 (fxS n y (t + c) - (c * y + 0)) - 1, by unfold tlS; rw [if_pos rfl]; omega⟩
    have e4 : trS g y (fxS n y (t + c)) (c * y) 0 = .tup (g (fxS n y (t + c) - c * y) (c * y) :: (List.range q).map fun e => g (fxS n y (t + c) - (e + 1) - c * y) (c * y)) := by
      rw [trS, hq2, List.range_succ_eq_map]
      simp
    rw [e1, hm, e3, e4]
    walk_at "go"
    refine .of (atI_nat (j := 0) rfl) ?_
    walk_at "go"
    refine .of (atI_nat (j := 0) rfl) ?_
    walk_at "go"
    refine .rt (Nat.le_refl _) ⟨?_, rfl⟩
    rw [innS, if_pos hd]
  · have hd : ¬ hdS n y c t = true := by rw [hdS, decide_eq_true_iff]; exact hh
    rw [pkS, if_neg hd]
    walk_at "go"
    by_cases hl : c + t < n
    · rw [ltS, if_pos hl]
      walk_at "go"
      refine .of (hb1 _) ?_
      walk_at "go"
      refine .eq (hb2 _ _ (c + t) (by omega) hq hl) ?_
      walk_at "go"
      refine .rt (Nat.le_refl _) ⟨?_, rfl⟩
      rw [innS, if_neg hd, if_pos hl]
    · rw [ltS, if_neg hl]
      walk_at "go"
      refine .rt (Nat.le_refl _) ⟨?_, rfl⟩
      rw [innS, if_neg hd, if_neg hl]
theorem sp_say (h : SpAt P T dr dn ix cl) (r : RunAt P T lv o n w L g sy dp wt) (hy : 2 ≤ y ∧ y ≤ 4) (hdp : dp ≤ 50) {c t : Nat} (hc : c < n) (hq : M.all quiet = true) (hK : lv + 2 ≤ K) :
    evF P K ix.say [spO cl L y o, wGS g w n y t c] M = .ok (.bl (sayS sy n y t c)) M := by
  obtain ⟨k, rfl⟩ : ∃ k, K = k + 1 := ⟨K - 1, by omega⟩
  obtain ⟨is, hs1, hs2⟩ := r.say
  refine (GF.enter h.say rfl ?_).to
  unfold spSayB
  walk_at "in"
  refine .of (sp_meth (by decide)) ?_
  walk_at "go"
  refine .eq (inn_ok h r hy hdp hc hq (by omega)) ?_
  walk_at "go"
  by_cases hd : hdS n y c t = true
  · have hh := of_decide_eq_true hd
    have e1 : innS g n y t c = g (fxS n y (t + c) - c * y) (c * y) := by rw [innS, if_pos hd]
    rw [e1]
    refine .isnO (is_non (r.nn _ _ hh.2)) ?_
    walk_at "go"
    refine .of (hs1 _) ?_
    walk_at "go"
    refine .eq (hs2 _ _ _ _ (by omega) hq hh.2) ?_
    walk_at "go"
    refine .rt (Nat.le_refl _) ⟨?_, rfl⟩
    rw [sayS, if_pos hd]
  · by_cases hl : c + t < n
    · have e1 : innS g n y t c = g 0 (c + t) := by rw [innS, if_neg hd, if_pos hl]
      rw [e1]
      refine .isnO (is_non (r.nn _ _ hl)) ?_
      walk_at "go"
      refine .of (hs1 _) ?_
      walk_at "go"
      refine .eq (hs2 _ _ _ _ (by omega) hq hl) ?_
      walk_at "go"
      refine .rt (Nat.le_refl _) ⟨?_, rfl⟩
      rw [sayS, if_neg hd, if_pos hl]
    · have e1 : innS g n y t c = .non := by rw [innS, if_neg hd, if_neg hl]
      rw [e1]
      walk_at "go"
      refine .rt (Nat.le_refl _) ⟨?_, rfl⟩
      rw [sayS, if_neg hd, if_neg hl]
      rfl
/-- the row that is sped runs -/
theorem spRun (h : SpAt P T dr dn ix cl) (r : RunAt P T lv o n w L g sy dp wt) (hy : 2 ≤ y ∧ y ≤ 4) (hdp : dp ≤ 50) (hw : ∀ p, p < n → w p < 1000000) :
    RunAt P T (lv + 2) (spO cl L y o) n w L (wGS g w n y) (sayS sy n y) (dp + 3) (32 * wt + 130) where
  isrow := ⟨cl, _, rfl, h.tr, by
    obtain ⟨c, fs, e, _, hn⟩ := r.isrow
    simp [spO, noCell, noCellF, hn]⟩
  ways := fun _ => rfl
  letters := fun _ => rfl
  beg := ⟨ix.beg, fun _ => h.tb, fun K M p hK hq hp => by
    obtain ⟨k, rfl⟩ : ∃ k, K = k + 1 := ⟨K - 1, by omega⟩
    refine (GF.enter h.beg rfl ?_).to
    unfold spBegB
    walk_at "in"
    refine .rt (Nat.le_refl _) ⟨?_, rfl⟩
    have : p * 1 ≤ p * y := Nat.mul_le_mul_left _ (by omega)
    rw [wGS, pkS, if_neg (by rw [hdS, decide_eq_true_iff]; omega), ltS, if_pos (by omega)]
    rfl⟩
  nxt := ⟨ix.nxt, fun _ => h.tn, fun K M t p hK hq hp => sp_nxt h r hy hdp hp hq (by omega)⟩
  say := ⟨ix.say, fun _ => h.ts, fun K M t p hK hq hp => sp_say h r hy hdp hp hq (by omega)⟩
  nc := fun t p hp => wG_nc r
  nn := fun t p hp => fun z => by rw [wGS] at z; cases z
  pl := fun t p hp => wG_plain r hw hy
/-- it is made -/
theorem sp_ini {iw ii : Nat} (h : SpAt P T dr dn ix cl) (h1 : At P dr (demRowB T.rs) 2 2) (h2 : At P dn (demNumB iw) 4 4) (h3 : At P iw (withinB ii) 3 3) (h4 : At P ii isIntB 1 1) (r : RunAt P T lv o n w L g sy dp wt) (hy : 2 ≤ y ∧ y ≤ 4) (hK : 4 ≤ K) :
    evF P K ix.ini [.cell M.length, o, .int (y : Nat)] (M ++ [some (.ins cl [])]) = .ok .non (M ++ [some (.ins cl [("row", o), ("by", .int (y : Nat)), ("letters", .int L), ("ways", .int (2 : Nat))])]) := by
  obtain ⟨k, rfl⟩ : ∃ k, K = k + 1 := ⟨K - 1, by omega⟩
  have e1 : ∀ {M : Mem} {x : D}, evF P k dr [o, x] M = .ok .non M := fun {M x} => by
    obtain ⟨k, rfl⟩ : ∃ j, k = j + 1 := ⟨k - 1, by omega⟩
    obtain ⟨c', fs, rfl, e, _⟩ := r.isrow
    refine (GF.enter h1 rfl ?_).to
    walk_at "go"
    rw [e]
    walk_at "go"
    exact .nx (Nat.le_refl _) ⟨rfl, rfl⟩
  have e2 : ∀ {M : Mem} {x : D}, evF P k dn [.int (y : Nat), .int 2, .int 4, x] M = .ok .non M := fun {M x} => by
    obtain ⟨k, rfl⟩ : ∃ j, k = j + 3 := ⟨k - 3, by omega⟩
    exact demNum_ok h2 h3 h4 _ _ _ _ (by omega) (by omega)
  refine (GF.enter h.ini rfl ?_).to
  unfold spIniB
  walk_at "in"
  refine .eq e1 ?_
  walk_at "go"
  refine .eq e2 ?_
  walk_at "go"
  refine .of (r.ways _) ?_
  walk_at "go"
  refine .of (r.letters _) ?_
  walk_at "go"
  exact .nx (by simp) ⟨rfl, rfl⟩
/-- rows of a run -/
def rowsG (g : Nat → Nat → D) (n t : Nat) : List D := (List.range (t + 1)).map fun j => .lst ((List.range n).map (g j))
theorem rowsG_at {t j : Nat} (h : j ≤ t) : (rowsG g n t)[j]? = some (.lst ((List.range n).map (g j))) := by
  rw [rowsG, List.getElem?_map, List.getElem?_range (by omega)]; rfl
theorem runS_ok {f t : Nat} {ws : List Nat} {x : D} {tt : Int} (htt : tt = (t : Nat)) (h : At P f (runPB T) 3 8) (r : RunAt P T lv o ws.length (fun p => ws.getD p 0) L g sy dp wt) (hx : x = wdL ws ∨ x = wdT ws) (h0 : ws ≠ []) (hl : ws.length ≤ 1000) (ht : t ≤ 10000) (hq : M.all quiet = true) (hK : lv + 1 ≤ K) :
    evF P K f [o, x, .int tt] M = .ok (.lst (rowsG g ws.length t)) M := by
  subst htt
  obtain ⟨k, rfl⟩ : ∃ k, K = k + 1 := ⟨K - 1, by omega⟩
  have nc : ∀ t, noCells (rowsG g ws.length t) = true := fun t => noCells_of fun d hd => by
    obtain ⟨j, _, rfl⟩ := List.mem_map.mp hd
    exact noCells_of fun d hd => by
      obtain ⟨p, hp, rfl⟩ := List.mem_map.mp hd
      exact r.nc _ _ (List.mem_range.mp hp)
  obtain ⟨ib, hb1, hb2⟩ := r.beg
  obtain ⟨jx, hx1, hx2⟩ := r.nxt
  have ew : ws.map ltD = (List.range ws.length).map fun p => ltD (ws.getD p 0) := by
    refine List.ext_getElem? fun a => ?_
    rw [List.getElem?_map, List.getElem?_map]
    by_cases ha : a < ws.length
    · rw [List.getElem?_range ha, List.getElem?_eq_getElem ha, Option.map_some, Option.map_some, List.getD_eq_getElem?_getD, List.getElem?_eq_getElem ha]; rfl
    · rw [List.getElem?_eq_none (by omega), List.getElem?_eq_none (by simp; omega)]; rfl
  refine (GF.enter h rfl ?_).to
  unfold runPB
  walk_at "in"
  refine .lcM (M1 := M) (List.range ws.length) (fun p => ltD (ws.getD p 0)) (g 0) ?_ (by simp; omega) (fun p hp => ?_) ?_
  · refine .seq (.var rfl (word_seq hx rfl ⟨ew, rfl⟩))
  · walk_at "go"
    refine .of (hb1 _) ?_
    walk_at "go"
    exact .eq (hb2 _ _ p (by omega) hq (List.mem_range.mp hp)) ⟨rfl, rfl⟩
  walk_at "go"
  refine .forN (n := t) (M1 := M ++ [some (.lst (rowsG g ws.length 0))]) (by rw [q_var]; rfl) (by omega) (fun i σ M' => ∃ a4 a5, σ = [some o, some x, some (.int t), some (.cell M.length), a4, a5, none, none] ∧ M' = M ++ [some (.lst (rowsG g ws.length i))]) ⟨none, none, rfl, rfl⟩ ?_ ?_
  · rintro i σ M' hi ⟨a4, a5, rfl, rfl⟩
    have hqm : (M ++ [some (MO.lst (rowsG g ws.length i))]).all quiet = true := by
      rw [List.all_append, hq]
      simp [quiet, nc i]
    walk_at "go"
    refine .of (a := .lst ((List.range ws.length).map (g i))) ?_ ?_
    · rw [ix_cell mem_at]
      exact atI_last (by simp [rowsG]) (rowsG_at (Nat.le_refl _))
    obtain ⟨cs, hcs⟩ : ∃ cs, (List.range ws.length).map (g i) = cs := ⟨_, rfl⟩
    have cl : cs.length = ws.length := by rw [← hcs]; simp
    have cg : ∀ a, a < ws.length → cs.getD a .non = g i a := fun a ha => by
      rw [← hcs, List.getD_eq_getElem?_getD, List.getElem?_map, List.getElem?_range ha]; rfl
    rw [hcs]
    walk_at "go"
    refine .addL (by simp; omega) ?_
    walk_at "go"
    refine .addL (by simp; omega) ?_
    walk_at "go"
    refine .lcM (M1 := M ++ [some (.lst (rowsG g ws.length i))]) (List.range ws.length) ltD (g (i + 1)) ?_ (by simp; omega) (fun a ha => ?_) ?_
    · walk_at "go"
      refine word_len hx ?_
      walk_at "go"
      exact .rng (n := ws.length) rfl (by omega) ⟨rfl, rfl⟩
    · have ha' := List.mem_range.mp ha
      have e0 := bes_at (ws := cs) (a := a) (by omega)
      have e1 := bes_at (ws := cs) (a := a + 1) (by omega)
      have e2 := bes_at (ws := cs) (a := a + 2) (by omega)
      rw [if_neg (by omega), Nat.add_sub_cancel, cg a ha'] at e1
      rw [if_neg (by omega), show a + 2 - 1 = a + 1 by omega] at e2
      have f0 : (if a = 0 then D.non else cs.getD (a - 1) .non) = lfG g i a := by
        rw [lfG]; split
        · rfl
        · exact cg _ (by omega)
      have f2 : cs.getD (a + 1) .non = rtG ws.length g i a := by
        rw [rtG]; split
        · exact cg _ (by omega)
        · rw [List.getD_eq_getElem?_getD, List.getElem?_eq_none (by omega)]; rfl
      rw [f0] at e0
      rw [f2] at e2
      walk_at "go"
      refine .of (hx1 _) ?_
      walk_at "go"
      refine .of (atI_nat e0) ?_
      walk_at "go"
      rw [show (a : Int) + 1 = ((a + 1 : Nat) : Int) by omega]
      refine .of (atI_nat e1) ?_
      walk_at "go"
      rw [show (a : Int) + 2 = ((a + 2 : Nat) : Int) by omega]
      refine .of (atI_nat e2) ?_
      walk_at "go"
      exact .eq (hx2 _ _ i a (by omega) hqm ha') ⟨rfl, rfl⟩
    · walk_at "go"
      refine ⟨by simp [rowsG]; omega, ?_⟩
      rw [mem_put]
      walk_at "go"
      refine .nx ⟨_, _, rfl, ?_⟩
      rw [show rowsG g ws.length (i + 1) = rowsG g ws.length i ++ [.lst ((List.range ws.length).map (g (i + 1)))] by simp [rowsG, List.range_succ]]
  · rintro σ M' ⟨a4, a5, rfl, rfl⟩
    walk_at "go"
    rw [mem_put]
    exact .cut rfl rfl hq (by simpa only [noCell] using nc t) ⟨rfl, rfl⟩
end
end Ev
namespace K50
open PySem Ev L2
def dc : DrC := ⟨73079, 9733, 2147483423, 43067, 9733, 2147483399, 4373, 73079, 43067, 2147483353, 32, true, false, false, false⟩
def T : Tbs := ⟨[(0, 29), (1, 21)], [(0, 30), (1, 22)], [(0, 31), (1, 23)], [0, 1], true, true⟩
def ck : Ck := ⟨0, 1, 999, 999, 2, 999, 3⟩
def tx : TabIx := ⟨28, 8, 5, 9, 6, 7, 29, 30, 31⟩
theorem tab0 : TabAt Pd T ck tx 0 := ⟨⟨d0, rfl, rfl, rfl, rfl⟩, ⟨d1, rfl, rfl, rfl, rfl⟩, ⟨d28, rfl, rfl, rfl, rfl⟩, ⟨d8, rfl, rfl, rfl, rfl⟩, ⟨d5, rfl, rfl, rfl, rfl⟩, ⟨d9, rfl, rfl, rfl, rfl⟩, ⟨d6, rfl, rfl, rfl, rfl⟩, fun _ => ⟨⟨d29, rfl, rfl, rfl, rfl⟩, rfl⟩, ⟨d30, rfl, rfl, rfl, rfl⟩, fun _ => ⟨⟨d31, rfl, rfl, rfl, rfl⟩, rfl⟩, rfl, rfl⟩
theorem horn : Drw Pd 11 := ⟨d11, dc, rfl, rfl, rfl, rfl, by decide⟩
theorem onee : Onee Pd 12 11 := ⟨d12, rfl, rfl, rfl, rfl⟩
theorem tableA : At Pd 13 (tablePB 11 12) 3 12 := ⟨d13, rfl, rfl, rfl, rfl⟩
theorem nextA : At Pd 14 nextPB 4 4 := ⟨d14, rfl, rfl, rfl, rfl⟩
theorem lstripA : At Pd 15 (stripPB 14) 3 7 := ⟨d15, rfl, rfl, rfl, rfl⟩
theorem runA : At Pd 16 (runPB T) 3 8 := ⟨d16, rfl, rfl, rfl, rfl⟩
theorem wordA : At Pd 17 (wordFB 11) 3 4 := ⟨d17, rfl, rfl, rfl, rfl⟩
theorem rightA : At Pd 18 ([b18_0, b18_1, b18_2, b18_3, b18_4, b18_5, b18_6, b18_7]) 1 17 := ⟨d18, rfl, rfl, rfl, rfl⟩
theorem lawA : At Pd 19 [b19_0, b19_1, b19_2] 1 3 := ⟨d19, rfl, rfl, rfl, rfl⟩
theorem startA : Pd[10]? = some d10 := rfl
def sx : SpIx := ⟨20, 21, 22, 23, 24, 25, 26, 27, 4⟩
theorem spA : SpAt Pd T 3 2 sx 1 := ⟨⟨d20, rfl, rfl, rfl, rfl⟩, ⟨d21, rfl, rfl, rfl, rfl⟩, ⟨d22, rfl, rfl, rfl, rfl⟩, ⟨d23, rfl, rfl, rfl, rfl⟩, ⟨d24, rfl, rfl, rfl, rfl⟩, ⟨d25, rfl, rfl, rfl, rfl⟩, ⟨d26, rfl, rfl, rfl, rfl⟩, ⟨d27, rfl, rfl, rfl, rfl⟩, ⟨d4, rfl, rfl, rfl, rfl⟩, rfl, rfl, rfl, rfl⟩
theorem drA : At Pd 3 (demRowB T.rs) 2 2 := ⟨d3, rfl, rfl, rfl, rfl⟩
theorem dnA : At Pd 2 (demNumB 1) 4 4 := ⟨d2, rfl, rfl, rfl, rfl⟩
theorem wiA : At Pd 1 (withinB 0) 3 3 := ⟨d1, rfl, rfl, rfl, rfl⟩
theorem iiA : At Pd 0 isIntB 1 1 := ⟨d0, rfl, rfl, rfl, rfl⟩
end K50
namespace K50
open PySem Ev L2
section
variable {g : Nat → Nat → D} {sy : Nat → Nat → Bool} {n y : Nat}
theorem inn0 {t : Nat} (hn : 0 < n) : innS g n y t 0 = g (fxS n y t) 0 := by
  unfold innS
  rw [Nat.zero_mul, Nat.add_zero, Nat.zero_add, Nat.sub_zero]
  by_cases h : 0 < t
  · rw [if_pos (show hdS n y 0 t = true from decide_eq_true (by omega))]
  · have t0 : t = 0 := by omega
    subst t0
    rw [if_neg (by rw [hdS, decide_eq_true_iff]; omega), if_pos hn, fxS_lt hn]
theorem say0 {t : Nat} (hn : 0 < n) : sayS sy n y t 0 = sy (fxS n y t) 0 := by
  unfold sayS
  rw [Nat.zero_mul, Nat.add_zero, Nat.zero_add, Nat.sub_zero]
  by_cases h : 0 < t
  · rw [if_pos (show hdS n y 0 t = true from decide_eq_true (by omega))]
  · have t0 : t = 0 := by omega
    subst t0
    rw [if_neg (by rw [hdS, decide_eq_true_iff]; omega), if_pos hn, fxS_lt hn]
/-- what is wanted -/
def wanG (g : Nat → Nat → D) (n y f : Nat) : List D := (List.range (n + f)).map fun t => g (fxS n y t) 0
theorem wan_eq {f : Nat} (hn : 0 < n) : (List.range n).map (fun t => g t 0) ++ (List.range f).map (fun j => g (n - 1 + y * (1 + j)) 0) = wanG g n y f := by
  rw [wanG, List.range_add, List.map_append, List.map_map]
  congr 1
  · refine List.map_congr_left fun t ht => ?_
    rw [fxS_lt (List.mem_range.mp ht)]
  · refine List.map_congr_left fun j _ => ?_
    show _ = g (fxS n y (n + j)) 0
    rw [fxS, if_neg (by omega), show n + j - (n - 1) = 1 + j by omega]
end
theorem rows_at {S : Rw} {w : List Nat} {t j : Nat} {i : Int} (hi : i = (j : Nat)) (hj : j ≤ t) : atI (rowsR S w t) i = some (.lst (itR S j (begs S w))) := by
  subst hi
  exact atI_nat (rowsR_at hj)
theorem cell_at {S : Rw} {w : List Nat} {j c : Nat} {i : Int} (hi : i = (c : Int)) (hc : c < w.length) : atI (itR S j (begs S w)) i = some (gvR S j (begs S w) c) := by
  subst hi
  exact atI_nat (gvR_get (by rw [begs_len]; exact hc))
theorem first_at {n : Nat} {h : Nat → D} (hn : 0 < n) : atI ((List.range n).map h) 0 = some (h 0) := by
  have : ((List.range n).map h)[0]? = some (h 0) := by rw [List.getElem?_map, List.getElem?_range hn]; rfl
  exact atI_nat (j := 0) this
theorem mul_ok {Φ : Nat → List D → Mem → Res D} {σ : Env'} {M : Mem} {i j a b : Nat} (h1 : σ[i]? = some (some (.int (a : Nat)))) (h2 : σ[j]? = some (some (.int (b : Nat)))) (ha : a ≤ 4) : evE Φ (.bin .mul (.var i) (.var j)) σ M = .ok (.int ((a * b : Nat) : Int)) M :=
  Ev.GE.to (.bin (.var h1 (.var h2 (.mulL (by omega) ⟨by rw [Int.natCast_mul], rfl⟩))))
theorem GE.spK {P : List Df} {T : Tbs} {K dr dn cl iw ii : Nat} {M : Mem} {σ : Env'} {ix : SpIx} {Q : D → Mem → Prop} {nm1 nm2 : Str} {e1 e2 : Ex} (h : SpAt P T dr dn ix cl) (h1 : At P dr (demRowB T.rs) 2 2) (h2 : At P dn (demNumB iw) 4 4) (h3 : At P iw (withinB ii) 3 3) (h4 : At P ii isIntB 1 1) (hK : 4 ≤ K)
    (hs : Ev.GE (evF P K) e1 σ M fun d M1 => Ev.GE (evF P K) e2 σ M1 fun o M2 => ∃ (y lv n : Nat) (w : Nat → Nat) (L : Nat) (g : Nat → Nat → D) (sy : Nat → Nat → Bool) (dp wt : Nat), d = .int (y : Nat) ∧ RunAt P T lv o n w L g sy dp wt ∧ (2 ≤ y ∧ y ≤ 4) ∧ Q (spO cl L y o) (M2 ++ [none])) : Ev.GE (evF P K) (.mnk cl ix.ini [(nm1, e1), (nm2, e2)] [0, 2, 1]) σ M Q := by
  obtain ⟨d, M1, ea, h5⟩ := hs.r
  obtain ⟨o, M2, eb, y, lv, n, w, L, g, sy, dp, wt, rfl, r, hy, q⟩ := h5.r
  exact .mnk1 (.cons ⟨_, M1, ea, .cons ⟨_, M2, eb, .nil ⟨sp_ini h h1 h2 h3 h4 r hy hK, q⟩⟩⟩)
section
variable {K L m b : Nat} {R : Mem} {ns : List Int} {s : DrS} {Q : D → Mem → Prop}
theorem right_go (hR : R.all quiet = true) (hs : Lp s b) (hb : b ≤ 20000) (hK : 14 ≤ K) (q : ∀ s' : DrS, Lp s' (b + 700) → Q (.bl true) (Ev.stM ns s' :: R)) : GF (evF Pd K) 18 [.cell 0] (Ev.stM ns s :: R) Q := by
  obtain ⟨k, rfl⟩ : ∃ k, K = k + 1 := ⟨K - 1, by omega⟩
  refine .enter rightA rfl ?_
  walk_at "in"
  refine tableP_go (most := 4) rfl tableA horn onee hR (by omega) hs (by omega) (by omega) fun L m kvs ys s1 hL hm gd hl hy hy2 h1 => ?_
  have yl : ys.length < 1000 := by have := nodup_lt_len (hy.imp fun h => by omega) hy2; omega
  have r1 := tab_row (ys := ys) (L := L) (m := m) tab0 gd (.inr rfl) (by omega) (by omega) yl
  walk_at "go"
  refine .drawK horn (by omega) h1 (by omega) (by omega) (by omega) fun a s2 ha h2 => ?_
  obtain ⟨y, hya, ey⟩ : ∃ y : Nat, (2 ≤ y ∧ y ≤ 4) ∧ (2 : Int) + a = y := ⟨2 + a, by omega, by omega⟩
  walk_at "go"
  rw [ey]
  refine .drawK horn (by omega) h2 (by omega) (by omega) (by omega) fun a s3 ha h3 => ?_
  obtain ⟨f, hf, ef⟩ : ∃ f : Nat, (1 ≤ f ∧ f ≤ 4) ∧ (1 : Int) + a = f := ⟨1 + a, by omega, by omega⟩
  walk_at "go"
  rw [ef]
  refine .drawK horn (by omega) h3 (by omega) (by omega) (by omega) fun c1 s4 hc1 h4 => ?_
  walk_at "go"
  refine .drawK horn (by omega) h4 (by omega) (by omega) (by omega) fun c2 s5 hc2 h5 => ?_
  walk_at "go"
  refine .drawK horn (by omega) h5 (by omega) (by omega) (by omega) fun c3 s6 hc3 h6 => ?_
  walk_at "go"
  refine .oneK [1 + c1, y + 1, 2 * y, 2 * y + 1, 1 + c2, 1 + c3] ltD ?_ onee horn (by omega) h6 (by omega) (by simp) fun n s7 hn h7 => ?_
  · simp [ltD]
  have hn' : 1 ≤ n ∧ n ≤ 12 := by
    simp only [List.mem_cons, List.not_mem_nil, or_false] at hn
    omega
  walk_at "go"
  refine wordF_go wordA horn (by omega) (by omega) h7 (by omega) (by omega) fun w s8 wl w2 h8 => ?_
  have w0 : w ≠ [] := fun z => by rw [z] at wl; simp at wl; omega
  have hq0 : List.all (Ev.stM ns s8 :: R) quiet = true := quiet_c hR
  have ru := rowRun r1 rfl rfl rfl w2
  have wl2 : ∀ p, p < w.length → w.getD p 0 < 1000000 := fun p hp => by
    rw [List.getD_eq_getElem?_getD, List.getElem?_eq_getElem hp]
    have := w2 _ (List.getElem_mem hp)
    show w[p] < _
    omega
  have sr := spRun spA ru hya (Nat.zero_le _) wl2
  walk_at "go"
  refine GE.spK (ix := sx) spA drA dnA wiA iiA (by omega) ?_
  walk_at "go"
  refine .tab tab0 (by omega) ?_
  walk_at "go"
  refine ⟨2, L, m, kvs, .lst (prD kvs), ys, rfl, .inr rfl, gd, by omega, by omega, by omega, by omega, hy.imp (fun h => by omega), hy2, hq0, ?_⟩
  rw [sortY_asc hy]
  refine ⟨y, _, _, _, _, _, _, _, _, rfl, ru, hya, ?_⟩
  dsimp only [List.cons_append]
  have hq2 : List.all (Ev.stM ns s8 :: ((R ++ [none]) ++ [none])) quiet = true := quiet_c (quiet_none (quiet_none hR))
  walk_at "go"
  refine .dctN ?_
  walk_at "go"
  refine ⟨_, kvs, rfl, dict_good gd, ?_⟩
  refine .cons (.var rfl (.cons (.bin ?_)))
  refine .imp (Q' := fun d M' => d = .int ((n : Int) - 1) ∧ M' = Ev.stM ns s8 :: ((R ++ [none]) ++ [none])) (by walk_at "go"; exact ⟨rfl, rfl⟩) ?_
  rintro _ _ ⟨rfl, rfl⟩
  refine .eq (mul_ok rfl rfl hya.2) ?_
  walk_at "go"
  refine .eq (stripP_ok (t := n - 1 + y * f) (by omega) lstripA nextA r1 (.inl rfl) w2 w0 (by omega) ?_ hq2 (by omega)) ?_
  · have : y * f ≤ 4 * 4 := Nat.mul_le_mul hya.2 hf.2
    omega
  walk_at "go"
  refine .eq (runS_ok (t := n - 1 + f) (by omega) runA sr (.inl rfl) w0 (by omega) (by omega) hq2 (by omega)) ?_
  obtain ⟨g, hg⟩ : ∃ g : Nat → Nat → D, (fun t p => gvR (tabR 2 L m kvs ys) t (begs (tabR 2 L m kvs ys) w) p) = g := ⟨_, rfl⟩
  have hgt : ∀ t p, gvR (tabR 2 L m kvs ys) t (begs (tabR 2 L m kvs ys) w) p = g t p := fun t p => by rw [← hg]
  rw [hg, wl] at sr ru
  rw [hg, wl]
  have n0 : 0 < n := by omega
  have gk : ∀ t, ∃ k, k < m ∧ g t 0 = ltD k := fun t => by
    rw [← hgt]
    exact r1.gv_ok (w := w) w2 (by omega)
  obtain ⟨G, hG⟩ : ∃ G, wGS g (fun p => w.getD p 0) n y = G := ⟨_, rfl⟩
  rw [hG]
  walk_at "go"
  refine .lcM (M1 := Ev.stM ns s8 :: ((R ++ [none]) ++ [none])) (List.range n) ltD (fun t => g t 0) ?_ (by simp; omega) (fun t ht => ?_) ?_
  · walk_at "go"
    exact .rng (n := n) rfl (by omega) ⟨rfl, rfl⟩
  · have ht := List.mem_range.mp ht
    walk_at "go"
    refine .of (rows_at (j := t) rfl (by omega)) ?_
    walk_at "go"
    refine .of (cell_at (c := 0) rfl (by omega)) ⟨hgt t 0, rfl⟩
  walk_at "go"
  have yf : y * f ≤ 4 * 4 := Nat.mul_le_mul hya.2 hf.2
  refine .lcM (M1 := Ev.stM ns s8 :: ((R ++ [none]) ++ [none])) (List.range f) (fun j => ltD (1 + j)) (fun j => g (n - 1 + y * (1 + j)) 0) ?_ (by simp; omega) (fun j hj => ?_) ?_
  · walk_at "go"
    exact .rng2 (i := 1) (j := f + 1) rfl (by omega) (by omega) (by omega) ⟨by rw [Nat.add_sub_cancel], rfl⟩
  · have hj := List.mem_range.mp hj
    have hle : y * (1 + j) ≤ y * f := Nat.mul_le_mul_left _ (by omega)
    obtain ⟨j', hj'⟩ : ∃ j', 1 + j = j' := ⟨_, rfl⟩
    rw [hj'] at hle ⊢
    refine .nm ?_
    dsimp only [List.set_cons_succ, List.set_cons_zero, Ev.wipeD_cons, Ev.wipeD_nil]
    refine .ix (.ix (.var rfl (.bin ?_)))
    refine .imp (Q' := fun d M' => d = .int ((n : Int) - 1) ∧ M' = Ev.stM ns s8 :: ((R ++ [none]) ++ [none])) (by walk_at "go"; exact ⟨rfl, rfl⟩) ?_
    rintro _ _ ⟨rfl, rfl⟩
    refine .eq (mul_ok rfl rfl hya.2) ?_
    walk_at "go"
    refine .of (rows_at (j := n - 1 + y * j') (by omega) (by omega)) ?_
    walk_at "go"
    refine .of (cell_at (c := 0) rfl (by omega)) ⟨hgt _ 0, rfl⟩
  walk_at "go"
  refine .addL (by simp; omega) ?_
  rw [wan_eq n0]
  have wle : (wanG g n y f).length = n + f := by simp [wanG]
  have wkd : ∀ d ∈ wanG g n y f, ∃ k, k < m ∧ d = ltD k := fun d hd => by
    obtain ⟨t, _, rfl⟩ := List.mem_map.mp hd
    exact gk _
  have wpl : Plain (.lst (wanG g n y f)) 1 3000 := by
    have := Plain.lst (dp := 0) (w := 48) (ds := wanG g n y f) fun d hd => by
      obtain ⟨k, hk, rfl⟩ := wkd d hd
      exact Plain.nat (by omega)
    exact this.mono (by omega) (by rw [wle]; omega)
  have eD : (List.range (n - 1 + f + 1)).map (fun t => innS g n y t 0) = wanG g n y f := by
    rw [show n - 1 + f + 1 = n + f by omega]
    exact List.map_congr_left fun t _ => inn0 n0
  walk_at "go"
  refine .lcM (M1 := Ev.stM ns s8 :: ((R ++ [none]) ++ [none])) (List.range (n - 1 + f + 1)) (fun t => .lst ((List.range n).map (G t))) (fun t => innS g n y t 0) ?_ (by simp; omega) (fun t ht => ?_) ?_
  · exact .seq (.var rfl (.seqL ⟨rfl, rfl⟩))
  · walk_at "go"
    refine .of (first_at n0) ?_
    walk_at "go"
    rw [← hG]
    exact .eq (inn_ok spA ru hya (Nat.zero_le _) n0 hq2 (by omega)) ⟨rfl, rfl⟩
  rw [eD]
  walk_at "go"
  refine .repr wpl (by omega) (by omega) ?_
  walk_at "go"
  refine .repr wpl (by omega) (by omega) ?_
  walk_at "go"
  refine .lcM (M1 := Ev.stM ns s8 :: ((R ++ [none]) ++ [none])) (List.range (n - 1 + f + 1)) (fun t => .lst ((List.range n).map (G t))) (fun t => .bl (sayS (fun t p => (tabR 2 L m kvs ys).say (g t p)) n y t 0)) ?_ (by simp; omega) (fun t ht => ?_) ?_
  · exact .seq (.var rfl (.seqL ⟨rfl, rfl⟩))
  · walk_at "go"
    refine .of (first_at n0) ?_
    walk_at "go"
    rw [← hG]
    exact .eq (sp_say spA ru hya (Nat.zero_le _) n0 hq2 (by omega)) ⟨by simp only [hgt], rfl⟩
  walk_at "go"
  refine .lcM (M1 := Ev.stM ns s8 :: ((R ++ [none]) ++ [none])) (wanG g n y f) id (fun d => .bl ((tabR 2 L m kvs ys).say d)) ?_ (by omega) (fun d hd => ?_) ?_
  · exact .seq (.var rfl (.seqL ⟨by rw [List.map_id], rfl⟩))
  · obtain ⟨kk, hk, rfl⟩ := wkd d hd
    walk_at "go"
    refine .of (in_yl kk yl (fun y hy' => by have := hy2 y hy'; omega)) ?_
    exact ⟨by simp [tabR, ltD], rfl⟩
  have eS : (List.range (n - 1 + f + 1)).map (fun t => D.bl (sayS (fun t p => (tabR 2 L m kvs ys).say (g t p)) n y t 0)) = (wanG g n y f).map fun d => .bl ((tabR 2 L m kvs ys).say d) := by
    rw [show n - 1 + f + 1 = n + f by omega, wanG, List.map_map]
    exact List.map_congr_left fun t _ => by rw [say0 n0]; rfl
  rw [eS]
  refine .eqO (b := true) ((Plain.lst (dp := 0) (w := 48) fun d hd => ?_).eq (by omega)) ?_
  · obtain ⟨z, _, rfl⟩ := List.mem_map.mp hd
    exact Plain.bl _
  walk_at "go"
  refine .of (a := .lst ((List.range n).map (G 0))) ?_ ?_
  · have : (rowsG G n (n - 1 + f))[0]? = _ := rowsG_at (Nat.zero_le _)
    exact atI_nat (j := 0) this
  walk_at "go"
  refine .of (first_at n0) ?_
  walk_at "go"
  rw [← hG]
  refine .eq (inn_ok spA ru hya (Nat.zero_le _) n0 hq2 (by omega)) ?_
  rw [inn0 n0, fxS_lt n0, ← hgt]
  obtain ⟨w1, wr, rfl⟩ : ∃ w1 wr, w = w1 :: wr := by
    cases w with
    | nil => exact absurd rfl w0
    | cons a l => exact ⟨a, l, rfl⟩
  walk_at "go"
  refine .of (a := ltD w1) (atI_nat (j := 0) rfl) ?_
  refine .eqO (b := true) ((Plain.nat (n := w1) (by have := w2 w1 (List.mem_cons_self ..); omega)).eq (by omega)) ?_
  rw [show Ev.stM ns s8 :: ((R ++ [none]) ++ [none]) = (Ev.stM ns s8 :: R) ++ [none, none] by simp]
  exact .cut rfl rfl (quiet_c hR) rfl (q s8 (h8.mono (by omega)))
end
/-- the law's def is True at every script -/
theorem main (ns : List Int) : ∃ M, evF Pd 17 19 [.scr (ns.map D.int)] [] = .ok (.bl true) M := by
  refine ends_true ?_
  refine .enter lawA rfl ?_
  walk_at "in"
  refine .start ns startA rfl rfl rfl fun h0 => ?_
  generalize ns.take 60 = us
  walk_at "go"
  refine .forN (n := 2) (M1 := [Ev.stM us ⟨0, 0⟩]) (by rw [q_int]; rfl) (by omega) (fun i σ M' => ∃ (a2 : Option D) (s' : DrS), σ = [some (.scr (ns.map D.int)), some (.cell 0), a2] ∧ M' = [Ev.stM us s'] ∧ Lp s' (700 * i)) ⟨_, _, rfl, rfl, h0⟩ ?_ ?_
  · rintro i σ M' hi ⟨a2, s0, rfl, rfl, h⟩
    walk_at "go"
    refine right_go (R := []) rfl h (by omega) (by omega) fun s1 h1 => ?_
    walk_at "go"
    exact .nx ⟨_, _, rfl, rfl, h1.mono (by omega)⟩
  · rintro σ M' ⟨a2, s0, rfl, rfl, h⟩
    walk_at "go"
    exact .any fun _ => rfl
end K50
set_option maxHeartbeats 0 in
open PySem PySem.W PySem.Calls PyProof.Rows in
theorem PySem.Challenge.cw_backwardrow_k50_whole_sped_rows_stand_fo_holds : PySem.Challenge.rw_backwardrow_k50_whole_sped_rows_stand_fo.Holds := by
  w_on; o_law
  refine HandSHeadRun.head_any (r := OpenLaw.row PySem.Challenge.rw_backwardrow_k50_whole_sped_rows_stand_fo) (q := view (OpenLaw.row PySem.Challenge.rw_backwardrow_k50_whole_sped_rows_stand_fo).prog [59]) (H := Ev.hookN K50.xs K50.ms K50.fn K50.ex) (ob := Ev.obN K50.xs K50.ms K50.fn K50.ex) (M := 20000) (loose := K50.names) (d := HandSHeadRun.topDef (OpenLaw.row PySem.Challenge.rw_backwardrow_k50_whole_sped_rows_stand_fo).prog 59) (kwd := []) Ev.obN_eq
    (by kernel_rfl) (fun s => by kernel_rfl) K50.run (by kernel_rfl) (by kernel_rfl) (by kernel_rfl) (by rfl) (by first | assumption | decide +kernel) (by decide +kernel) ⟨rfl, rfl, rfl, rfl, rfl, by decide +kernel⟩ ?hw ?hc
  case hw => w_witness2
  case hc =>
    refine Ev.law_endsH (l := PySem.Challenge.rw_backwardrow_k50_whole_sped_rows_stand_fo) (n := 63) (k := 17) (i := 19) (x := "script") (nc := 2) (Pd := K50.Pd) (bs := K50.bs) (gs := K50.gs) (cs := K50.cs) (D0 := K50.d19) rfl (by decide) (by kernel_rfl) ⟨rfl, by decide, by decide⟩ rfl (by kernel_rfl) (by decide +kernel) rfl (List.Mem.head _) ?T (fun ns _ => K50.main ns)
    intro w mg h Y G
    obtain ⟨K, KX, S⟩ := Y
    exact ⟨K, _, KX, K50.tab KX G S⟩
