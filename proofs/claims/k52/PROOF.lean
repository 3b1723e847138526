import PyProof.Rows.All
import Wide.All
import OpenK.AllK
import Wide.FinOn
import HandS.ForMost
import HandS.ExcOwn
import HandS.TupMul
import HandS.TupAny
import HandS.Style
import HandS.Wide
import HandS.Deep
import PyProof.ReprReads
import PyProof.ReprRoads
import HandS.IsInst
import PyProof.RowDictHeap
import HandS.List
import PyProof.SumWalk
import PyProof.ListOps
import PyProof.WalkInts
import HandS.Small
import HandS.RaiseMore
import HandS.SortInts
import HandS.Star
import HandS.Flow
import HandS.Walk
import HandS.DictComp
import HandS.Conv
import HandS.WideMore
import PyProof.StrLawsRepr
import PyProof.Rows.StrDigitsNeg
import PySem.Challenge.RW_backwardrow_k52_ticks_of_sped_rows
set_option Elab.async false
set_option linter.all false
set_option autoImplicit false
set_option maxRecDepth 100000
/-! Ev0: plain data D, the memory of cells, worlds, how a value stands for a datum. -/
namespace Ev
open PySem L2

/-- plain data; a cell is an object that may still change; scr: a list that was handed in -/
inductive D where
  | non
  | bl (b : Bool)
  | int (i : Int)
  | str (s : Str)
  | tup (xs : List D)
  | lst (xs : List D)
  | scr (xs : List D)
  | ins (c : Nat) (fs : List (Str × D))
  | dct (kvs : List (Key × D))
  | cell (i : Nat)

/-- what a cell holds -/
inductive MO where
  | lst (xs : List D)
  | ins (c : Nat) (fs : List (Str × D))
abbrev Mem := List (Option MO)

/-- a world: the cells' addresses, what they hold, the abstract heap -/
structure Wd where
  as : List Addr
  M : Mem
  H : Hp
  /-- what is still being built: no value knows it -/
  hd : Addr → Prop

def Live (w : Wd) (a : Addr) : Prop := ∃ (i : Nat) (o : MO), w.as[i]? = some a ∧ w.M[i]? = some (some o)
/-- what stands at a and will not change -/
def Sat (w : Wd) (a : Addr) (u : HO) : Prop := w.H a = some u ∧ ¬ Live w a ∧ ¬ w.hd a

structure Gb where
  K : PySem.W.Frag
  cls : Nat → Addr
  /-- how many classes are told -/
  nc : Nat

def KSeq (K : PySem.W.Frag) (T : String) (a : Addr) (vs : List V) : Prop :=
  ∃ (o : Obj) (its : Array Value) (n : Nat), K.lookup a = some o ∧ o.cls = .type T ∧ o.dict = none ∧ o.data = .seq its n ∧ its.size ≤ sizeLine ∧ Vals vs its.toList

mutual
def Rep (G : Gb) (w : Wd) : D → V → Prop
  | .non, v => v = .non
  | .bl b, v => v = .bl b
  | .int i, v => v = .int i
  | .str s, v => v = .str s
  | .tup xs, v => ∃ a vs, v = .ref a ∧ (Sat w a (.tup vs) ∨ KSeq G.K "tuple" a vs) ∧ RepL G w xs vs
  | .lst xs, v => ∃ a vs, v = .ref a ∧ Sat w a (.lst vs) ∧ RepL G w xs vs
  | .scr xs, v => ∃ a vs, v = .ref a ∧ ((∃ o, Sat w a (.frz o (.lst vs))) ∨ KSeq G.K "list" a vs) ∧ RepL G w xs vs
  | .ins c fs, v => c < G.nc ∧ ∃ a dx vs, v = .ref a ∧ Sat w a (.ins (G.cls c) dx vs) ∧ RepF G w fs vs
  | .dct kvs, v => ∃ a vs, v = .ref a ∧ Sat w a (.dK vs) ∧ RepK G w kvs vs
  | .cell i, v => ∃ a, v = .ref a ∧ w.as[i]? = some a
def RepL (G : Gb) (w : Wd) : List D → List V → Prop
  | [], vs => vs = []
  | d :: ds, vs => ∃ v r, vs = v :: r ∧ Rep G w d v ∧ RepL G w ds r
def RepF (G : Gb) (w : Wd) : List (Str × D) → List (Str × V) → Prop
  | [], vs => vs = []
  | d :: ds, vs => ∃ v r, vs = (d.1, v) :: r ∧ Rep G w d.2 v ∧ RepF G w ds r
def RepK (G : Gb) (w : Wd) : List (Key × D) → List (Key × V) → Prop
  | [], vs => vs = []
  | d :: ds, vs => ∃ v r, vs = (d.1, v) :: r ∧ Rep G w d.2 v ∧ RepK G w ds r
end

/-- a cell's object -/
def MRep (G : Gb) (w : Wd) (a : Addr) : MO → Prop
  | .lst xs => ∃ vs, w.H a = some (.lst vs) ∧ RepL G w xs vs
  | .ins c fs => c < G.nc ∧ ∃ dx vs, w.H a = some (.ins (G.cls c) dx vs) ∧ RepF G w fs vs

structure WOk (G : Gb) (w : Wd) : Prop where
  len : w.as.length = w.M.length
  nd : w.as.Nodup
  there : ∀ (i : Nat) (a : Addr), w.as[i]? = some a → w.H a ≠ none
  cell : ∀ (i : Nat) (a : Addr) (o : MO), w.as[i]? = some a → w.M[i]? = some (some o) → MRep G w a o
  hid : ∀ a, w.hd a → w.H a ≠ none
  ch : ∀ (i : Nat) (a : Addr), w.as[i]? = some a → ¬ w.hd a

structure Ext (w w' : Wd) : Prop where
  pre : ∃ ys, w'.as = w.as ++ ys
  keep : ∀ a o, w.H a = some o → ¬ Live w a → w'.H a = some o ∧ ¬ Live w' a
  hid : w'.hd = w.hd
  ex : ∀ a, w.H a ≠ none → w'.H a ≠ none
/-- what stands stays to be told -/
structure Emb (w w' : Wd) : Prop where
  pre : ∃ ys, w'.as = w.as ++ ys
  sat : ∀ a u, Sat w a u → Sat w' a u

theorem Ext.refl (w : Wd) : Ext w w := ⟨⟨[], (List.append_nil _).symm⟩, fun _ _ h n => ⟨h, n⟩, rfl, fun _ h => h⟩
theorem Emb.refl (w : Wd) : Emb w w := ⟨⟨[], (List.append_nil _).symm⟩, fun _ _ h => h⟩
theorem pre_trans {a b c : List Addr} (x : ∃ ys, b = a ++ ys) (y : ∃ ys, c = b ++ ys) : ∃ ys, c = a ++ ys := by
  obtain ⟨p, hp⟩ := x
  obtain ⟨q, hq⟩ := y
  exact ⟨p ++ q, by rw [hq, hp, List.append_assoc]⟩
theorem Ext.trans {a b c : Wd} (x : Ext a b) (y : Ext b c) : Ext a c := ⟨pre_trans x.pre y.pre, fun d o h n => by
  obtain ⟨h1, n1⟩ := x.keep d o h n
  exact y.keep d o h1 n1, y.hid.trans x.hid, fun d h => y.ex d (x.ex d h)⟩
theorem Emb.trans {a b c : Wd} (x : Emb a b) (y : Emb b c) : Emb a c := ⟨pre_trans x.pre y.pre, fun a u h => y.sat a u (x.sat a u h)⟩
theorem Ext.emb {w w' : Wd} (x : Ext w w') : Emb w w' := ⟨x.pre, fun a u h => by
  obtain ⟨h1, n1, n2⟩ := h
  obtain ⟨h2, n3⟩ := x.keep a u h1 n1
  exact ⟨h2, n3, fun z => n2 (by rw [← x.hid]; exact z)⟩⟩
theorem upd_ex {H : Hp} {p : Addr} {o : HO} : ∀ a, H a ≠ none → upd H p o a ≠ none := fun a h => by
  by_cases z : a = p
  · rw [z, upd_same]
    exact fun z => nomatch z
  · rw [upd_ne z]
    exact h
theorem Emb.at {w w' : Wd} (x : Emb w w') {i : Nat} {a : Addr} (h : w.as[i]? = some a) : w'.as[i]? = some a := by
  obtain ⟨p, hp⟩ := x.pre
  rw [hp, List.getElem?_append_left (List.getElem?_eq_some_iff.mp h).1]
  exact h
theorem Sat.emb {w w' : Wd} (x : Emb w w') {a : Addr} {u : HO} (h : Sat w a u) : Sat w' a u := x.sat a u h
section
variable {G : Gb} {w w' : Wd}
mutual
theorem Rep.emb (x : Emb w w') : ∀ (d : D) (v : V), Rep G w d v → Rep G w' d v
  | .non, _, h => by simp only [Rep] at h ⊢; exact h
  | .bl b, _, h => by simp only [Rep] at h ⊢; exact h
  | .int i, _, h => by simp only [Rep] at h ⊢; exact h
  | .str s, _, h => by simp only [Rep] at h ⊢; exact h
  | .tup xs, _, h => by
    simp only [Rep] at h ⊢
    obtain ⟨a, vs, e, h1 | h1, h2⟩ := h
    · exact ⟨a, vs, e, .inl (h1.emb x), RepL.emb x xs vs h2⟩
    · exact ⟨a, vs, e, .inr h1, RepL.emb x xs vs h2⟩
  | .lst xs, _, h => by
    simp only [Rep] at h ⊢
    obtain ⟨a, vs, e, h1, h2⟩ := h
    exact ⟨a, vs, e, h1.emb x, RepL.emb x xs vs h2⟩
  | .scr xs, _, h => by
    simp only [Rep] at h ⊢
    obtain ⟨a, vs, e, ⟨o, h1⟩ | h1, h2⟩ := h
    · exact ⟨a, vs, e, .inl ⟨o, h1.emb x⟩, RepL.emb x xs vs h2⟩
    · exact ⟨a, vs, e, .inr h1, RepL.emb x xs vs h2⟩
  | .ins c fs, _, h => by
    simp only [Rep] at h ⊢
    obtain ⟨hc, a, dx, vs, e, h1, h2⟩ := h
    exact ⟨hc, a, dx, vs, e, h1.emb x, RepF.emb x fs vs h2⟩
  | .dct kvs, _, h => by
    simp only [Rep] at h ⊢
    obtain ⟨a, vs, e, h1, h2⟩ := h
    exact ⟨a, vs, e, h1.emb x, RepK.emb x kvs vs h2⟩
  | .cell i, _, h => by
    simp only [Rep] at h ⊢
    obtain ⟨a, e, h1⟩ := h
    exact ⟨a, e, x.at h1⟩
theorem RepL.emb (x : Emb w w') : ∀ (ds : List D) (vs : List V), RepL G w ds vs → RepL G w' ds vs
  | [], _, h => by simp only [RepL] at h ⊢; exact h
  | d :: ds, _, h => by
    simp only [RepL] at h ⊢
    obtain ⟨v, r, e, h1, h2⟩ := h
    exact ⟨v, r, e, Rep.emb x d v h1, RepL.emb x ds r h2⟩
theorem RepF.emb (x : Emb w w') : ∀ (ds : List (Str × D)) (vs : List (Str × V)), RepF G w ds vs → RepF G w' ds vs
  | [], _, h => by simp only [RepF] at h ⊢; exact h
  | (n, d) :: ds, _, h => by
    simp only [RepF] at h ⊢
    obtain ⟨v, r, e, h1, h2⟩ := h
    exact ⟨v, r, e, Rep.emb x d v h1, RepF.emb x ds r h2⟩
theorem RepK.emb (x : Emb w w') : ∀ (ds : List (Key × D)) (vs : List (Key × V)), RepK G w ds vs → RepK G w' ds vs
  | [], _, h => by simp only [RepK] at h ⊢; exact h
  | (n, d) :: ds, _, h => by
    simp only [RepK] at h ⊢
    obtain ⟨v, r, e, h1, h2⟩ := h
    exact ⟨v, r, e, Rep.emb x d v h1, RepK.emb x ds r h2⟩
end
theorem Rep.ext (x : Ext w w') (d : D) (v : V) (h : Rep G w d v) : Rep G w' d v := Rep.emb x.emb d v h
theorem RepL.ext (x : Ext w w') (ds : List D) (vs : List V) (h : RepL G w ds vs) : RepL G w' ds vs := RepL.emb x.emb ds vs h
theorem RepF.ext (x : Ext w w') (ds : List (Str × D)) (vs : List (Str × V)) (h : RepF G w ds vs) : RepF G w' ds vs := RepF.emb x.emb ds vs h
theorem RepL.length : ∀ {ds : List D} {vs : List V}, RepL G w ds vs → ds.length = vs.length
  | [], _, h => by simp only [RepL] at h; subst h; rfl
  | d :: ds, _, h => by
    simp only [RepL] at h
    obtain ⟨v, r, rfl, _, h2⟩ := h
    simp [RepL.length h2]
theorem RepL.get : ∀ {ds : List D} {vs : List V} {i : Nat} {d : D}, RepL G w ds vs → ds[i]? = some d → ∃ v, vs[i]? = some v ∧ Rep G w d v
  | [], _, _, _, _, e => by simp at e
  | d :: ds, _, i, _, h, e => by
    simp only [RepL] at h
    obtain ⟨v, r, rfl, h1, h2⟩ := h
    cases i with
    | zero => simp at e; subst e; exact ⟨v, rfl, h1⟩
    | succ i =>
      obtain ⟨u, e1, e2⟩ := RepL.get (i := i) h2 (by simpa using e)
      exact ⟨u, by simpa using e1, e2⟩
theorem RepL.nil : RepL G w [] [] := by simp only [RepL]
theorem RepL.cons {d : D} {v : V} {ds : List D} {vs : List V} (h : Rep G w d v) (t : RepL G w ds vs) : RepL G w (d :: ds) (v :: vs) := by
  simp only [RepL]; exact ⟨v, vs, rfl, h, t⟩
theorem RepL.append : ∀ {ds es : List D} {vs us : List V}, RepL G w ds vs → RepL G w es us → RepL G w (ds ++ es) (vs ++ us)
  | [], _, _, _, h, t => by simp only [RepL] at h; subst h; exact t
  | d :: ds, _, _, _, h, t => by
    simp only [RepL] at h
    obtain ⟨v, r, rfl, h1, h2⟩ := h
    exact RepL.cons h1 (RepL.append h2 t)
theorem RepL.set : ∀ {ds : List D} {vs : List V} {d : D} {v : V} (i : Nat), RepL G w ds vs → Rep G w d v → RepL G w (ds.set i d) (vs.set i v)
  | [], _, _, _, _, h, _ => by simp only [RepL] at h; subst h; simp only [List.set_nil, RepL]
  | d :: ds, _, _, _, i, h, t => by
    simp only [RepL] at h
    obtain ⟨v, r, rfl, h1, h2⟩ := h
    cases i with
    | zero => exact RepL.cons t h2
    | succ i => exact RepL.cons h1 (RepL.set i h2 t)
theorem RepL.take : ∀ {ds : List D} {vs : List V} (n : Nat), RepL G w ds vs → RepL G w (ds.take n) (vs.take n)
  | _, _, 0, _ => by simp only [List.take_zero, RepL]
  | [], _, n + 1, h => by simp only [RepL] at h; subst h; simp only [List.take_nil, RepL]
  | d :: ds, _, n + 1, h => by
    simp only [RepL] at h
    obtain ⟨v, r, rfl, h1, h2⟩ := h
    exact RepL.cons h1 (RepL.take n h2)
theorem RepL.drop : ∀ {ds : List D} {vs : List V} (n : Nat), RepL G w ds vs → RepL G w (ds.drop n) (vs.drop n)
  | _, _, 0, h => h
  | [], _, n + 1, h => by simp only [RepL] at h; subst h; simp only [List.drop_nil, RepL]
  | d :: ds, _, n + 1, h => by
    simp only [RepL] at h
    obtain ⟨v, r, rfl, h1, h2⟩ := h
    exact RepL.drop n h2
theorem RepL.ints : ∀ (ns : List Int), RepL G w (ns.map D.int) (ns.map V.int)
  | [] => RepL.nil
  | n :: ns => RepL.cons (by simp only [Rep]) (RepL.ints ns)

/-! ### how worlds grow -/
theorem WOk.nolive (g : WOk G w) {p : Addr} (hp : w.H p = none) : ∀ i : Nat, w.as[i]? ≠ some p := fun i e => g.there i p e hp
theorem live_none {p : Addr} (g : WOk G w) (hp : w.H p = none) : ¬ Live w p := fun ⟨i, _, e, _⟩ => g.nolive hp i e
/-- a new object that will not change -/
theorem ext_new (g : WOk G w) {p : Addr} {o : HO} (hp : w.H p = none) : Ext w { w with H := upd w.H p o } := by
  refine ⟨⟨[], (List.append_nil _).symm⟩, fun a u h n => ?_, rfl, upd_ex⟩
  refine ⟨?_, n⟩
  show upd w.H p o a = some u
  rw [upd_ne (ne_of_none h hp)]
  exact h
theorem hid_upd (g : WOk G w) {p : Addr} {o : HO} : ∀ a, w.hd a → upd w.H p o a ≠ none := fun a h => upd_ex a (g.hid a h)
theorem MRep.emb {a : Addr} {o : MO} (x : Emb w w') (k : w'.H a = w.H a) (h : MRep G w a o) : MRep G w' a o := by
  cases o with
  | lst xs =>
    obtain ⟨vs, e, h2⟩ := h
    exact ⟨vs, by rw [k]; exact e, RepL.emb x _ _ h2⟩
  | ins c fs =>
    obtain ⟨hc, dx, vs, e, h2⟩ := h
    exact ⟨hc, dx, vs, by rw [k]; exact e, RepF.emb x _ _ h2⟩
theorem MRep.ext {a : Addr} {o : MO} (x : Ext w w') (k : w'.H a = w.H a) (h : MRep G w a o) : MRep G w' a o := h.emb x.emb k
theorem wok_new (g : WOk G w) {p : Addr} {o : HO} (hp : w.H p = none) : WOk G { w with H := upd w.H p o } := by
  have x := ext_new (o := o) g hp
  have ne : ∀ (i : Nat) (a : Addr), w.as[i]? = some a → a ≠ p := fun i a e z => g.nolive hp i (z ▸ e)
  refine ⟨g.len, g.nd, fun i a e => ?_, fun i a u e m => ?_, hid_upd g, g.ch⟩
  · show upd w.H p o a ≠ none
    rw [upd_ne (ne i a e)]
    exact g.there i a e
  · exact (g.cell i a u e m).ext x (upd_ne (ne i a e))
theorem sat_new (g : WOk G w) {p : Addr} {o : HO} (hp : w.H p = none) : Sat { w with H := upd w.H p o } p o :=
  ⟨upd_same, fun l => live_none g hp l, fun z => g.hid p z hp⟩
/-- a new cell -/
def Wd.alloc (w : Wd) (p : Addr) (m : MO) (o : HO) : Wd := ⟨w.as ++ [p], w.M ++ [some m], upd w.H p o, w.hd⟩
theorem live_alloc (g : WOk G w) {p a : Addr} {m : MO} {o : HO} (hp : w.H p = none) (h : Live (w.alloc p m o) a) : a = p ∨ Live w a := by
  obtain ⟨i, u, e, q⟩ := h
  have e' : (w.as ++ [p])[i]? = some a := e
  have q' : (w.M ++ [some m])[i]? = some (some u) := q
  by_cases hi : i < w.as.length
  · rw [List.getElem?_append_left hi] at e'
    rw [List.getElem?_append_left (by rw [← g.len]; exact hi)] at q'
    exact .inr ⟨i, u, e', q'⟩
  · rw [List.getElem?_append_right (by omega)] at e'
    have : i - w.as.length = 0 := by
      by_cases z : i - w.as.length = 0
      · exact z
      · rw [List.getElem?_eq_none (by simp; omega)] at e'
        cases e'
    rw [this] at e'
    exact .inl (Option.some.inj e').symm
theorem ext_alloc (g : WOk G w) {p : Addr} {m : MO} {o : HO} (hp : w.H p = none) : Ext w (w.alloc p m o) := by
  refine ⟨⟨[p], rfl⟩, fun a u h n => ?_, rfl, upd_ex⟩
  have ne := ne_of_none h hp
  refine ⟨(upd_ne ne).trans h, fun l => ?_⟩
  rcases live_alloc g hp l with z | z
  · exact ne z
  · exact n z
theorem wok_alloc (g : WOk G w) {p : Addr} {m : MO} {o : HO} (hp : w.H p = none) (hm : MRep G (w.alloc p m o) p m) : WOk G (w.alloc p m o) := by
  have x := ext_alloc (m := m) (o := o) g hp
  have ne : ∀ (i : Nat) (a : Addr), w.as[i]? = some a → a ≠ p := fun i a e z => g.nolive hp i (z ▸ e)
  have sp : ∀ (i : Nat) (a : Addr), (w.as ++ [p])[i]? = some a → (i < w.as.length ∧ w.as[i]? = some a) ∨ (i = w.as.length ∧ a = p) := fun i a e => by
    by_cases hi : i < w.as.length
    · rw [List.getElem?_append_left hi] at e
      exact .inl ⟨hi, e⟩
    · rw [List.getElem?_append_right (by omega)] at e
      by_cases z : i - w.as.length = 0
      · rw [z] at e
        exact .inr ⟨by omega, (Option.some.inj e).symm⟩
      · rw [List.getElem?_eq_none (by simp; omega)] at e
        cases e
  refine ⟨?_, ?_, fun i a e => ?_, fun i a u e q => ?_, hid_upd g, fun i a e z => (sp i a e).elim (fun h => g.ch i a h.2 z) fun h => g.hid a z (h.2 ▸ hp)⟩
  · show (w.as ++ [p]).length = (w.M ++ [some m]).length
    simp [g.len]
  · show (w.as ++ [p]).Nodup
    refine List.nodup_append.mpr ⟨g.nd, by simp, fun a ha b hb => ?_⟩
    have hb' : b = p := by simpa using hb
    obtain ⟨i, hi⟩ := List.getElem?_of_mem ha
    rw [hb']
    exact ne i a hi
  · show upd w.H p o a ≠ none
    rcases sp i a e with ⟨_, e1⟩ | ⟨_, rfl⟩
    · rw [upd_ne (ne i a e1)]
      exact g.there i a e1
    · rw [upd_same]
      exact fun z => nomatch z
  · have q' : (w.M ++ [some m])[i]? = some (some u) := q
    rcases sp i a e with ⟨hi, e1⟩ | ⟨rfl, rfl⟩
    · rw [List.getElem?_append_left (by rw [← g.len]; exact hi)] at q'
      exact (g.cell i a u e1 q').ext x (upd_ne (ne i a e1))
    · rw [g.len, List.getElem?_append_right (Nat.le_refl _), Nat.sub_self] at q'
      have : m = u := Option.some.inj (Option.some.inj q')
      rw [← this]
      exact hm
/-- a cell is written -/
def Wd.put (w : Wd) (i : Nat) (a : Addr) (m : MO) (o : HO) : Wd := ⟨w.as, w.M.set i (some m), upd w.H a o, w.hd⟩
theorem live_put {i : Nat} {a b : Addr} {m m0 : MO} {o : HO} (ha : w.as[i]? = some a) (hm : w.M[i]? = some (some m0)) (h : Live (w.put i a m o) b) : Live w b := by
  obtain ⟨j, u, e, q⟩ := h
  have q' : (w.M.set i (some m))[j]? = some (some u) := q
  by_cases hj : i = j
  · subst hj
    exact ⟨i, m0, e, hm⟩
  · rw [List.getElem?_set_ne hj] at q'
    exact ⟨j, u, e, q'⟩
theorem nd_ix {as : List Addr} (nd : as.Nodup) {i j : Nat} {a : Addr} (h1 : as[i]? = some a) (h2 : as[j]? = some a) : i = j := by
  obtain ⟨hi, e1⟩ := List.getElem?_eq_some_iff.mp h1
  exact (List.getElem?_inj hi nd).mp (h1.trans h2.symm)
theorem ext_put {i : Nat} {a : Addr} {m m0 : MO} {o : HO} (ha : w.as[i]? = some a) (hm : w.M[i]? = some (some m0)) : Ext w (w.put i a m o) := by
  refine ⟨⟨[], (List.append_nil _).symm⟩, fun b u h n => ?_, rfl, upd_ex⟩
  have ne : b ≠ a := fun z => n ⟨i, m0, z ▸ ha, hm⟩
  exact ⟨(upd_ne ne).trans h, fun l => n (live_put ha hm l)⟩
theorem wok_put (g : WOk G w) {i : Nat} {a : Addr} {m m0 : MO} {o : HO} (ha : w.as[i]? = some a) (hm : w.M[i]? = some (some m0)) (hn : MRep G (w.put i a m o) a m) : WOk G (w.put i a m o) := by
  have x := ext_put (m := m) (o := o) ha hm
  refine ⟨?_, g.nd, fun j b e => ?_, fun j b u e q => ?_, hid_upd g, g.ch⟩
  · show w.as.length = (w.M.set i (some m)).length
    rw [List.length_set]
    exact g.len
  · show upd w.H a o b ≠ none
    by_cases z : b = a
    · rw [z, upd_same]
      exact fun z => nomatch z
    · rw [upd_ne z]
      exact g.there j b e
  · have q' : (w.M.set i (some m))[j]? = some (some u) := q
    by_cases hj : i = j
    · subst hj
      have e' : w.as[i]? = some b := e
      rw [ha] at e'
      cases e'
      rw [List.getElem?_set_self (List.getElem?_eq_some_iff.mp hm).1] at q'
      have : m = u := Option.some.inj (Option.some.inj q')
      rw [← this]
      exact hn
    · rw [List.getElem?_set_ne hj] at q'
      have ne : b ≠ a := fun z => hj (nd_ix g.nd ha (z ▸ e))
      exact (g.cell j b u e q').ext x (upd_ne ne)
/-- a cell is let go: what it held will not change any more -/
def Wd.frz (w : Wd) (i : Nat) : Wd := ⟨w.as, w.M.set i none, w.H, w.hd⟩
theorem live_frz {i : Nat} {b : Addr} (h : Live (w.frz i) b) : Live w b := by
  obtain ⟨j, u, e, q⟩ := h
  have q' : (w.M.set i none)[j]? = some (some u) := q
  by_cases hj : i = j
  · subst hj
    by_cases hi : i < w.M.length
    · rw [List.getElem?_set_self hi] at q'
      cases q'
    · rw [List.getElem?_eq_none (by simpa using hi)] at q'
      cases q'
  · rw [List.getElem?_set_ne hj] at q'
    exact ⟨j, u, e, q'⟩
theorem ext_frz {i : Nat} : Ext w (w.frz i) := ⟨⟨[], (List.append_nil _).symm⟩, fun b u h n => ⟨h, fun l => n (live_frz l)⟩, rfl, fun _ z => z⟩
theorem wok_frz (g : WOk G w) {i : Nat} : WOk G (w.frz i) := by
  refine ⟨?_, g.nd, g.there, fun j b u e q => ?_, g.hid, g.ch⟩
  · show w.as.length = (w.M.set i none).length
    rw [List.length_set]
    exact g.len
  · have q' : (w.M.set i none)[j]? = some (some u) := q
    by_cases hj : i = j
    · subst hj
      by_cases hi : i < w.M.length
      · rw [List.getElem?_set_self hi] at q'
        cases q'
      · rw [List.getElem?_eq_none (by simpa using hi)] at q'
        cases q'
    · rw [List.getElem?_set_ne hj] at q'
      exact (g.cell j b u e q').ext ext_frz rfl
theorem not_live_frz (g : WOk G w) {i : Nat} {a : Addr} (ha : w.as[i]? = some a) : ¬ Live (w.frz i) a := fun ⟨j, u, e, q⟩ => by
  have ej : i = j := nd_ix g.nd ha e
  subst ej
  have q' : (w.M.set i none)[i]? = some (some u) := q
  by_cases hi : i < w.M.length
  · rw [List.getElem?_set_self hi] at q'
    cases q'
  · rw [List.getElem?_eq_none (by simpa using hi)] at q'
    cases q'

/-! ### an object that is being built -/
def Wd.hide (w : Wd) (p : Addr) (o : HO) : Wd := ⟨w.as, w.M, upd w.H p o, fun a => a = p ∨ w.hd a⟩
theorem emb_hide (g : WOk G w) {p : Addr} {o : HO} (hp : w.H p = none) : Emb w (w.hide p o) := ⟨⟨[], (List.append_nil _).symm⟩, fun a u h => by
  have ne := ne_of_none h.1 hp
  exact ⟨(upd_ne ne).trans h.1, h.2.1, fun z => z.elim ne h.2.2⟩⟩
theorem wok_hide (g : WOk G w) {p : Addr} {o : HO} (hp : w.H p = none) : WOk G (w.hide p o) := by
  have g1 := wok_new (o := o) g hp
  refine ⟨g1.len, g1.nd, g1.there, fun i a u e m => ?_, fun a h => ?_, fun i a e z => z.elim (fun q => g.nolive hp i (q ▸ e)) (g.ch i a e)⟩
  · have ne : a ≠ p := fun z => g.nolive hp i (z ▸ e)
    exact (g.cell i a u e m).emb (emb_hide g hp) (upd_ne ne)
  · rcases h with rfl | h
    · show upd w.H a o a ≠ none
      rw [upd_same]
      exact fun z => nomatch z
    · exact upd_ex a (g.hid a h)
/-- what is being built is written -/
def Wd.grow (w : Wd) (p : Addr) (o : HO) : Wd := ⟨w.as, w.M, upd w.H p o, w.hd⟩
theorem emb_grow {p : Addr} {o : HO} (hp : w.hd p) : Emb w (w.grow p o) := ⟨⟨[], (List.append_nil _).symm⟩, fun a u h => by
  have ne : a ≠ p := fun z => h.2.2 (z ▸ hp)
  exact ⟨(upd_ne ne).trans h.1, h.2.1, h.2.2⟩⟩
theorem wok_grow (g : WOk G w) {p : Addr} {o : HO} (hp : w.hd p) (nl : ¬ Live w p) : WOk G (w.grow p o) := by
  refine ⟨g.len, g.nd, fun i a e => upd_ex a (g.there i a e), fun i a u e m => ?_, hid_upd g, g.ch⟩
  have ne : a ≠ p := fun z => nl ⟨i, u, z ▸ e, m⟩
  exact (g.cell i a u e m).emb (emb_grow hp) (upd_ne ne)
/-- it is done: it will not change any more -/
def Wd.bare (w : Wd) (hd : Addr → Prop) : Wd := ⟨w.as, w.M, w.H, hd⟩
theorem emb_bare {hd : Addr → Prop} (h : ∀ a, hd a → w.hd a) : Emb w (w.bare hd) := ⟨⟨[], (List.append_nil _).symm⟩, fun a u q => ⟨q.1, q.2.1, fun z => q.2.2 (h a z)⟩⟩
theorem wok_bare (g : WOk G w) {hd : Addr → Prop} (h : ∀ a, hd a → w.hd a) : WOk G (w.bare hd) :=
  ⟨g.len, g.nd, g.there, fun i a u e m => (g.cell i a u e m).emb (emb_bare h) rfl, fun a z => g.hid a (h a z), fun i a e z => g.ch i a e (h a z)⟩
end
end Ev
/-! Ev1: a small language of expressions and statements over plain data, and what they are worth. -/
namespace Ev
open PySem L2

inductive Res (α : Type) where
  | ok (a : α) (M : Mem)
  | ex (c : Nat) (fs : List (Str × D)) (M : Mem)
  | no
def Res.bind {α β : Type} (r : Res α) (f : α → Mem → Res β) : Res β :=
  match r with
  | .ok a M => f a M
  | .ex c fs M => .ex c fs M
  | .no => .no
@[simp] theorem Res.bind_ok {α β : Type} (a : α) (M : Mem) (f : α → Mem → Res β) : (Res.ok a M).bind f = f a M := by simp only [Res.bind]
@[simp] theorem Res.bind_ex {α β : Type} (c : Nat) (fs : List (Str × D)) (M : Mem) (f : α → Mem → Res β) : (Res.ex c fs M).bind f = .ex c fs M := by simp only [Res.bind]
theorem Res.bind_assoc {α β γ : Type} (r : Res α) (f : α → Mem → Res β) (g : β → Mem → Res γ) : (r.bind f).bind g = r.bind fun a M => (f a M).bind g := by cases r <;> rfl
@[simp] theorem Res.bind_no {α β : Type} (f : α → Mem → Res β) : (Res.no : Res α).bind f = .no := by simp only [Res.bind]
/-- what may raise stands for nothing here -/
def Res.sure {α : Type} (r : Res α) : Res α := match r with
  | .ok a M => .ok a M
  | _ => .no
@[simp] theorem Res.sure_ok {α : Type} (a : α) (M : Mem) : (Res.ok a M).sure = .ok a M := by simp only [Res.sure]
/-- where it stands, else nothing -/
def Res.of {α : Type} (o : Option α) (M : Mem) : Res α := match o with | some a => .ok a M | none => .no
@[simp] theorem Res.of_some {α : Type} (a : α) (M : Mem) : Res.of (some a) M = .ok a M := by simp only [Res.of]
@[simp] theorem Res.of_none {α : Type} (M : Mem) : (Res.of none M : Res α) = .no := by simp only [Res.of]

abbrev Env' := List (Option D)

inductive BO where | add | sub | mul | fdiv | mod | pow
  deriving DecidableEq
inductive CO where | eq | ne | lt | le | gt | ge | is | isn | inn | nin
  deriving DecidableEq
/-- built-in functions, called by their names -/
inductive Bi where
  | int | len | abs | repr | str | tuple | list | all | any | bool | min | max | sum | sorted
  deriving DecidableEq
/-- methods of built-in values -/
inductive Mt where
  | append | extend | pop | join | split | startswith | index
  deriving DecidableEq

mutual
inductive Ex where
  | var (i : Nat)
  | non | bl (b : Bool) | int (i : Int) | str (s : Str)
  | bin (o : BO) (a b : Ex)
  | cmp (o : CO) (a b : Ex)
  | chn (o p : CO) (a b c : Ex)
  | and (a b : Ex) | or (a b : Ex) | not (a : Ex) | neg (a : Ex)
  | ite (c a b : Ex)
  | tup (es : List Ex) | stup (a : Ex) (es : List Ex) | lst (es : List Ex) | mls (es : List Ex)
  | ix (a b : Ex) | slc (a : Ex) (lo hi : Option Ex) | rev (a : Ex)
  | call (f : Nat) (es : List Ex) (ks : List (Str × Ex)) (pm : List Nat)
  | bi (b : Bi) (es : List Ex)
  | mbl (e : Ex)
  | dct0
  | dct1 (k v : Ex)
  | fldE (a : Ex) (f : Str)
  | mcall (m : Str) (tbl : List (Nat × Nat)) (o : Ex) (es : List Ex)
  | new (c f : Nat) (es : List Ex)
  | isc (e : Ex) (x : Str) (subs : List Nat)
  | dc (a b : Ex) (t : Tg) (it : It) (c : Option Ex) (vs : List Nat)
  | dix (o e : Ex)
  | dgt (o e : Ex)
  | lrg1 (b : Ex)
  | mrg1 (b : Ex)
  | lrg2 (a b : Ex)
  | isi (e : Ex) (ts : List String)
  | meth (m : Mt) (o : Ex) (es : List Ex)
  | lc (e : Ex) (t : Tg) (it : It) (c : Option Ex) (vs : List Nat)
  | lc2 (e : Ex) (t : Tg) (it : It) (c : Option Ex) (t1 : Tg) (it1 : It) (c1 : Option Ex) (vs vs1 : List Nat)
  | frz (i : Nat)
inductive It where
  | seq (e : Ex)
  | rng1 (a : Ex)
  | rng2 (a b : Ex)
  | enu (e : Ex)
  | zip (a b : Ex)
inductive Tg where
  | nm (i : Nat)
  | tp (ts : List Tg)
  | sub (a b : Ex)
  | fld (a : Ex) (f : Str)
end

/-! the slots that a target stores -/
mutual
def tgS : Tg → List Nat
  | .nm i => [i]
  | .tp ts => tgSs ts
  | _ => []
def tgSs : List Tg → List Nat
  | [] => []
  | t :: ts => tgS t ++ tgSs ts
end

inductive Sx where
  | asg (t : Tg) (e : Ex)
  | par (is : List Nat) (es : List Ex)
  | aug (i : Nat) (o : BO) (e : Ex)
  | expr (e : Ex)
  | ret (e : Ex)
  | retN
  | ifs (c : Ex) (a b : List Sx)
  | fors (t : Tg) (it : It) (body : List Sx)
  | whl (n : Nat) (c : Ex) (body : List Sx)
  | brk | cnt | pass | nev
  /-- a name's cell is let go ahead of a statement -/
  | frzs (v : Nat) (s : Sx)

/-! ### what operations are worth -/
/-- a list's items: as it will stay, or a cell's as they are -/
def seqL (M : Mem) : D → Option (List D)
  | .lst xs => some xs
  | .scr xs => some xs
  | .cell i => match M[i]? with
    | some (some (.lst xs)) => some xs
    | _ => none
  | _ => none
/-- one that was made here -/
def seqC (M : Mem) : D → Option (List D)
  | .scr _ => none
  | d => seqL M d
def seqT : D → Option (List D)
  | .tup xs => some xs
  | _ => none
def seqA (M : Mem) (d : D) : Option (List D) := match d with
  | .tup xs => some xs
  | d => seqL M d

/-! plain data as the library tells it -/
mutual
def toPd : D → Option PyData
  | .non => some .none
  | .bl b => some (.bool b)
  | .int i => some (.int i)
  | .str s => some (.str s)
  | .tup xs => (toPds xs).map .tuple
  | .lst xs => (toPds xs).map .list
  | .scr xs => (toPds xs).map .list
  | .ins _ _ => none
  | .dct _ => none
  | .cell _ => none
def toPds : List D → Option (List PyData)
  | [] => some []
  | d :: ds => match toPd d, toPds ds with
    | some p, some ps => some (p :: ps)
    | _, _ => none
end
/-! dicts of plain values, and lists of such, as repr writes them -/
def leafPd : D → Option PyData
  | .non => some .none
  | .bl b => some (.bool b)
  | .int i => some (.int i)
  | .str s => some (.str s)
  | _ => none
def kPd : Key → PyData
  | .inl i => .int i
  | .inr x => .str x
def dctPd : List (Key × D) → Option (List (PyData × PyData))
  | [] => some []
  | (k, d) :: r => match leafPd d, dctPd r with
    | some p, some ps => some ((kPd k, p) :: ps)
    | _, _ => none
def toPr1 : D → Option PyData
  | .dct kvs => (dctPd kvs).map .dict
  | d => toPd d
def toPrs : List D → Option (List PyData)
  | [] => some []
  | d :: ds => match toPr1 d, toPrs ds with
    | some p, some ps => some (p :: ps)
    | _, _ => none
def toPr : D → Option PyData
  | .tup xs => (toPrs xs).map .tuple
  | .lst xs => (toPrs xs).map .list
  | .dct kvs => (dctPd kvs).map .dict
  | _ => none
/-- an instance: its class, its fields -/
def insOf (M : Mem) : D → Option (Nat × List (Str × D))
  | .ins c fs => some (c, fs)
  | .cell i => match M[i]? with
    | some (some (.ins c fs)) => some (c, fs)
    | _ => none
  | _ => none
def putFD (f : Str) (d : D) : List (Str × D) → List (Str × D)
  | [] => [(f, d)]
  | (g, x) :: r => if g = f then (g, d) :: r else (g, x) :: putFD f d r
/-! dicts: what stands at a key, what is put -/
def valD (kvs : List (Key × D)) (k : Key) : Option D := (kvs.find? fun kv => decide (kv.1 = k)).map (·.2)
def putKD (kvs : List (Key × D)) (k : Key) (d : D) : List (Key × D) :=
  if (kvs.any fun kv => decide (kv.1 = k)) = true then kvs.map (fun kv => if kv.1 = k then (kv.1, d) else kv) else kvs ++ [(k, d)]
def keyD : D → Option Key
  | .int i => some (.inl i)
  | .str s => some (.inr s)
  | _ => none
/-- a cell as the list that it is now -/
def now (M : Mem) (d : D) : D := match seqL M d with
  | some xs => .lst xs
  | none => d
def truth (M : Mem) : D → Option Bool
  | .non => some false
  | .bl b => some b
  | .int i => some (i != 0)
  | .str s => if s.length ≤ sizeLine then some (s.length != 0) else none
  | .tup xs => some (!xs.isEmpty)
  | .ins _ _ => none
  | d => (seqL M d).map fun xs => !xs.isEmpty

def mulOk (i j : Int) : Bool := decide ((-(2 ^ 64) < i ∧ i < 2 ^ 64) ∨ (-(2 ^ 64) < j ∧ j < 2 ^ 64) ∨ i.natAbs.log2 + j.natAbs.log2 < 1000000)
def binI : BO → Int → Int → Option Int
  | .add, i, j => some (i + j)
  | .sub, i, j => some (i - j)
  | .mul, i, j => if mulOk i j then some (i * j) else none
  | .fdiv, i, j => if 0 < j ∧ j.natAbs.log2 < 9000 then some (i / j) else none
  | .mod, i, j => if 0 < j then some (i % j) else none
  | .pow, i, j => if 0 ≤ j ∧ j ≤ 1000000 ∧ i.natAbs < 2 ^ 64 then some (i ^ j.toNat) else none
def evBin (o : BO) (x y : D) (M : Mem) : Option D :=
  match x, y with
  | .int i, .int j => (binI o i j).map .int
  | .str s, .str t => if o = .add ∧ s.length + t.length ≤ sizeLine then some (.str (s ++ t)) else none
  | .tup xs, .tup ys => if o = .add ∧ xs.length + ys.length ≤ sizeLine then some (.tup (xs ++ ys)) else none
  | .tup xs, .int k => if o = .mul ∧ xs ≠ [] ∧ -(2 ^ 63) ≤ k ∧ k ≤ 1000 ∧ xs.length ≤ 1000 then some (.tup (List.replicate k.toNat xs).flatten) else none
  | .lst xs, .int k => if o = .mul ∧ -(2 ^ 63) ≤ k ∧ k < 2 ^ 63 ∧ xs.length * k.toNat ≤ sizeLine then some (.lst (List.replicate k.toNat xs).flatten) else none
  | x, y => if o = .add then match seqC M x, seqC M y with
    | some xs, some ys => if xs.length + ys.length ≤ sizeLine then some (.lst (xs ++ ys)) else none
    | _, _ => none
    else none

/-- in place -/
def evAug (o : BO) (x y : D) : Option D :=
  match x, y with
  | .int i, .int j => if o = .pow then none else (binI o i j).map .int
  | .str s, .str t => if o = .add ∧ s.length + t.length ≤ sizeLine then some (.str (s ++ t)) else none
  | _, _ => none
def shapedB (p : PyData) : Bool := SeqAt.shaped p
/-- == -/
def eqD (M : Mem) (x y : D) : Option Bool :=
  match toPd (now M x), toPd (now M y) with
  | some p, some q => if shapedB p && shapedB q then some (PyData.eqv p q) else none
  | _, _ => match seqL M x, seqL M y with
    | some xs, some ys => if xs.length = ys.length then none else some false
    | _, _ => none
/-- strings and integers as they are -/
def eqM (M : Mem) (x y : D) : Option Bool := match x, y with
  | .str s, .str t => some (decide (s = t))
  | .int i, .int j => some (decide (i = j))
  | x, y => eqD M x y
/-- numbers, texts, None -/
def flatE : D → Bool
  | .non => true
  | .int _ => true
  | .str _ => true
  | _ => false
def eqF : D → D → Bool
  | .non, .non => true
  | .int a, .int b => decide (a = b)
  | .str a, .str b => decide (a = b)
  | _, _ => false
def inD (M : Mem) (x y : D) : Option Bool :=
  match toPd (now M x), toPd (now M y) with
  | some p, some (.list qs) => if shapedB p && shapedB (.list qs) then some (qs.any fun z => PyData.eqv z p) else none
  | _, _ => match y with
    | .tup xs => if flatE x && xs.all flatE then some (xs.any fun z => eqF z x) else none
    | _ => none
def isD (x y : D) : Option Bool := match x, y with
  | .bl a, .bl b => some (a == b)
  | .non, .non => some true
  | _, .non => some false
  | .non, .bl _ | .int _, .bl _ | .str _, .bl _ | .tup _, .bl _ | .lst _, .bl _ | .scr _, .bl _ | .ins _ _, .bl _ | .cell _, .bl _ => some false
  | _, _ => none
def cmpI : CO → Int → Int → Option Bool
  | .lt, i, j => some (decide (i < j))
  | .le, i, j => some (decide (i ≤ j))
  | .gt, i, j => some (decide (j < i))
  | .ge, i, j => some (decide (j ≤ i))
  | _, _, _ => none
def ordD (o : CO) : D → D → Option Bool
  | .int i, .int j => cmpI o i j
  | _, _ => none
def cmpD (o : CO) (M : Mem) (x y : D) : Option Bool :=
  match o with
  | .eq => eqM M x y
  | .ne => (eqM M x y).map (!·)
  | .is => isD x y
  | .isn => (isD x y).map (!·)
  | .inn => inD M x y
  | .nin => (inD M x y).map (!·)
  | o => ordD o x y
def ixD (M : Mem) (x y : D) : Option D :=
  match y with
  | .int i => match seqA M x with
    | some xs => atI xs i
    | none => none
  | _ => none
def cutD (xs : List D) (lo hi : Option Int) : List D := (xs.drop (HT.sIx xs.length 0 lo)).take (HT.sIx xs.length xs.length hi - HT.sIx xs.length 0 lo)
def slcD (M : Mem) (x : D) (a b : Option Int) : Option D := match x with
  | .tup xs => some (.tup (cutD xs a b))
  | x => (seqL M x).map fun xs => .lst (cutD xs a b)
def revD (M : Mem) (x : D) : Option D := match x with
  | .tup xs => some (.tup xs.reverse)
  | x => (seqL M x).map fun xs => .lst xs.reverse
def tyOf : D → Option (String × List String)
  | .non => some ("NoneType", ["NoneType"])
  | .bl _ => some ("bool", ["bool", "int"])
  | .int _ => some ("int", ["int"])
  | .str _ => some ("str", ["str"])
  | .tup _ => some ("tuple", ["tuple"])
  | .lst _ => some ("list", ["list"])
  | .scr _ => some ("list", ["list"])
  | .cell _ => none
  | .dct _ => some ("dict", ["dict"])
  | .ins _ _ => none
/-- the built-in classes that may be asked for -/
def tyAsk : List String := ["int", "bool", "str", "list", "tuple", "dict"]
def isiD (ts : List String) (d : D) : Option Bool := match tyOf d with
  | some (_, l) => if ts.all tyAsk.contains then some (ts.any l.contains) else none
  | none => none
/-- truth values alone -/
def blsD : List D → Option (List Bool)
  | [] => some []
  | .bl b :: ds => (blsD ds).map (b :: ·)
  | _ => none
def intsD : List D → Option (List Int)
  | [] => some []
  | .int i :: ds => (intsD ds).map (i :: ·)
  | _ => none
def lstsD : List D → Option (List (List D))
  | [] => some []
  | .lst xs :: ds => (lstsD ds).map (xs :: ·)
  | _ => none
def evBi (b : Bi) (ds : List D) (M : Mem) : Option D :=
  match b, ds with
  | .int, [.int i] => some (.int i)
  | .int, [.bl b] => some (.int (if b then 1 else 0))
  | .abs, [.int i] => some (.int (if i < 0 then -i else i))
  | .len, [d] => match seqA M d with
    | some xs => some (.int xs.length)
    | none => match d with
      | .str s => if s.length ≤ sizeLine then some (.int s.length) else none
      | _ => none
  | .repr, [d] => match toPd (now M d) with
    | some p => if p.showable ∧ p.depth ≤ 40 ∧ p.shown.length ≤ sizeLine then some (.str p.shown) else none
    | none => match toPr (now M d) with
      | some p => if p.showable ∧ p.depth ≤ 40 ∧ p.shown.length ≤ sizeLine then some (.str p.shown) else none
      | none => none
  | .tuple, [.tup xs] => some (.tup xs)
  | .tuple, [d] => (seqL M d).map .tup
  | .list, [d] => (seqA M d).map .lst
  | .all, [d] => ((seqL M d).bind blsD).map fun bs => .bl (bs.all id)
  | .any, [d] => ((seqL M d).bind blsD).map fun bs => .bl (bs.any id)
  | .bool, [.int i] => some (.bl (i != 0))
  | .bool, [.bl b] => some (.bl b)
  | .bool, [d] => (seqL M d).map fun xs => .bl (!xs.isEmpty)
  | .min, [.int i, .int j] => some (.int (if j < i then j else i))
  | .max, [.int i, .int j] => some (.int (if j > i then j else i))
  | .str, [.int i] => if i.natAbs.log2 < 1920 then some (.str (toString i)) else none
  | .str, [.str s] => some (.str s)
  | .str, [.lst xs] => match toPds xs with
    | some ps => if (PyData.list ps).showable ∧ (PyData.list ps).depth ≤ 40 ∧ (PyData.list ps).shown.length ≤ sizeLine then some (.str (PyData.list ps).shown) else none
    | none => none
  | .sum, [d] => ((seqL M d).bind intsD).map fun ns => .int ns.sum
  | .sum, [d, .lst []] => ((seqL M d).bind lstsD).bind fun xss => if xss.flatten.length ≤ sizeLine then some (.lst xss.flatten) else none
  | .sorted, [d] => ((seqL M d).bind intsD).map fun ns => .lst ((ns.mergeSort fun a b => decide (a ≤ b)).map .int)
  | _, _ => none
def rngD (a b : Int) : Option (List D) :=
  if -(2 ^ 62) ≤ a ∧ a < 2 ^ 62 ∧ -(2 ^ 62) ≤ b ∧ b < 2 ^ 62 then some ((List.range (b - a).toNat).map fun (k : Nat) => .int (a + (k : Int))) else none
def isStrD : D → Bool
  | .str _ => true
  | _ => false
/-- whether a method is one of this value -/
def mtFit (m : Mt) (o : D) (M : Mem) : Bool := match m with
  | .append | .extend | .pop | .index => (seqL M o).isSome
  | .join | .split | .startswith => isStrD o
def evMt (m : Mt) (o : D) (ds : List D) (M : Mem) : Option (D × Mem) :=
  match m, o, ds with
  | .append, .cell i, [d] => match M[i]? with
    | some (some (.lst xs)) => if xs.length < sizeLine then some (.non, M.set i (some (.lst (xs ++ [d])))) else none
    | _ => none
  | .extend, .cell i, [d] => match M[i]? with
    | some (some (.lst xs)) => match d with
      | .lst ys => if xs.length + ys.length ≤ sizeLine then some (.non, M.set i (some (.lst (xs ++ ys)))) else none
      | _ => none
    | _ => none
  | .index, o, [d] => match toPd (now M o), toPd (now M d) with
    | some (.list qs), some p => if shapedB (.list qs) && shapedB p then (qs.findIdx? fun z => PyData.eqv z p).map fun (j : Nat) => (D.int (j : Int), M) else none
    | _, _ => none
  | _, _, _ => none
def Res.ofM {α : Type} (o : Option (α × Mem)) : Res α := match o with | some (a, M) => .ok a M | none => .no
@[simp] theorem Res.ofM_some {α : Type} (a : α) (M : Mem) : Res.ofM (some (a, M)) = .ok a M := by simp only [Res.ofM]

/-! ### expressions -/
/-- a comprehension's turns: f hands back what is added, if anything is -/
def lcGo (f : D → Mem → Res (Option D)) : List D → List D → Mem → Res (List D)
  | [], acc, M => .ok acc M
  | x :: xs, acc, M => match f x M with
    | .ok (some d) M1 => if acc.length < sizeLine then lcGo f xs (acc ++ [d]) M1 else .no
    | .ok none M1 => lcGo f xs acc M1
    | _ => .no
/-- a dict comprehension's turns -/
def dcGo (f : D → Mem → Res (Option (Key × D))) : List D → List (Key × D) → Mem → Res (List (Key × D))
  | [], acc, M => .ok acc M
  | x :: xs, acc, M => match f x M with
    | .ok (some (k, d)) M1 => if acc.length < sizeLine then dcGo f xs (putKD acc k d) M1 else .no
    | .ok none M1 => dcGo f xs acc M1
    | _ => .no
/-- a two-fold comprehension's outer turns -/
def lc2Go (f : D → List D → Mem → Res (List D)) : List D → List D → Mem → Res (List D)
  | [], acc, M => .ok acc M
  | x :: xs, acc, M => match f x acc M with
    | .ok acc1 M1 => lc2Go f xs acc1 M1
    | _ => .no
def wipeD (σ : Env') : List Nat → Env'
  | [] => σ
  | v :: vs => (wipeD σ vs).set v none
section
variable (Φ : Nat → List D → Mem → Res D)
mutual
def evE : Ex → Env' → Mem → Res D
  | .var i, σ, M => match σ[i]? with
    | some (some d) => .ok d M
    | _ => .no
  | .non, _, M => .ok .non M
  | .bl b, _, M => .ok (.bl b) M
  | .int i, _, M => .ok (.int i) M
  | .str s, _, M => .ok (.str s) M
  | .bin o a b, σ, M => (evE a σ M).bind fun x M1 => (evE b σ M1).bind fun y M2 => Res.of (evBin o x y M2) M2
  | .cmp o a b, σ, M => (evE a σ M).bind fun x M1 => (evE b σ M1).bind fun y M2 => Res.of ((cmpD o M2 x y).map .bl) M2
  | .chn o p a b c, σ, M => (evE a σ M).bind fun x M1 => (evE b σ M1).bind fun y M2 => match cmpD o M2 x y with
    | some true => (evE c σ M2).bind fun z M3 => Res.of ((cmpD p M3 y z).map .bl) M3
    | some false => .ok (.bl false) M2
    | none => .no
  | .and a b, σ, M => (evE a σ M).bind fun x M1 => match truth M1 x with
    | some true => evE b σ M1
    | some false => .ok x M1
    | none => .no
  | .or a b, σ, M => (evE a σ M).bind fun x M1 => match truth M1 x with
    | some true => .ok x M1
    | some false => evE b σ M1
    | none => .no
  | .not a, σ, M => (evE a σ M).bind fun x M1 => Res.of ((truth M1 x).map fun b => .bl (!b)) M1
  | .neg a, σ, M => (evE a σ M).bind fun x M1 => match x with
    | .int i => .ok (.int (-i)) M1
    | _ => .no
  | .ite c a b, σ, M => (evE c σ M).bind fun x M1 => match truth M1 x with
    | some true => evE a σ M1
    | some false => evE b σ M1
    | none => .no
  | .tup es, σ, M => (evL es σ M).bind fun ds M1 => if ds.length ≤ sizeLine then .ok (.tup ds) M1 else .no
  | .stup a es, σ, M => (evE a σ M).bind fun d M1 => match seqA M1 d with
    | some xs => (evL es σ M1).bind fun ds M2 => if xs.length + ds.length ≤ sizeLine then .ok (.tup (xs ++ ds)) M2 else .no
    | none => .no
  | .lst es, σ, M => (evL es σ M).bind fun ds M1 => if ds.length ≤ sizeLine then .ok (.lst ds) M1 else .no
  | .mls es, σ, M => (evL es σ M).bind fun ds M1 => if ds.length ≤ sizeLine then .ok (.cell M1.length) (M1 ++ [some (.lst ds)]) else .no
  | .ix a b, σ, M => (evE a σ M).bind fun x M1 => (evE b σ M1).bind fun y M2 => Res.of (ixD M2 x y) M2
  | .slc a lo hi, σ, M => (evE a σ M).bind fun x M1 => (evO lo σ M1).bind fun l M2 => (evO hi σ M2).bind fun h M3 => Res.of (slcD M3 x l h) M3
  | .rev a, σ, M => (evE a σ M).bind fun x M1 => Res.of (revD M1 x) M1
  | .call f es ks pm, σ, M => (evL es σ M).bind fun ds M1 => (evK ks σ M1).bind fun us M2 => Φ f (pm.map fun i => ((ds ++ us)[i]?).getD .non) M2
  | .bi b es, σ, M => (evL es σ M).bind fun ds M1 => Res.of (evBi b ds M1) M1
  | .dct0, _, M => .ok (.dct []) M
  | .dct1 a b, σ, M => (evE a σ M).bind fun x M1 => (evE b σ M1).bind fun y M2 => match x with
    | .int i => .ok (.dct [(.inl i, y)]) M2
    | .str s => .ok (.dct [(.inr s, y)]) M2
    | _ => .no
  | .fldE a f, σ, M => (evE a σ M).bind fun x M1 => match insOf M1 x with
    | some (_, fs) => Res.of (fs.lookup f) M1
    | none => .no
  | .mcall m tbl o es, σ, M => (evE o σ M).bind fun x M1 => match insOf M1 x with
    | some (c, fs) => if (fs.lookup m).isNone = true then match tbl.lookup c with
      | some i => (evL es σ M1).bind fun ds M2 => Φ i (x :: ds) M2
      | none => .no
      else .no
    | none => .no
  | .new c f es, σ, M => (evL es σ M).bind fun ds M1 => (Φ f (.cell M1.length :: ds) (M1 ++ [some (.ins c [])])).bind fun d M2 => match d, M2[M1.length]? with
    | .non, some (some (.ins c' fs)) => .ok (.ins c' fs) (M2.set M1.length none)
    | _, _ => .no
  | .isc e x subs, σ, M => (evE e σ M).bind fun d M1 => match d with
    | .ins c _ => .ok (.bl (subs.contains c)) M1
    | _ => .no
  | .dc a b t it c vs, σ, M => (evI it σ M).bind fun ds M1 => (dcGo (fun x M2 => (evT t x (wipeD σ vs) M2).bind fun σ3 M3 => (evC c σ3 M3).bind fun q M4 => if q = true then (evE a σ3 M4).bind fun kd M5 => (evE b σ3 M5).bind fun d M6 => match keyD kd with
      | some k => .ok (some (k, d)) M6
      | none => .no
    else .ok none M4) ds [] M1).bind fun kvs M6 => .ok (.dct kvs) M6
  | .dix o e, σ, M => (evE o σ M).bind fun x M1 => (evE e σ M1).bind fun y M2 => match x, keyD y with
    | .dct kvs, some k => Res.of (valD kvs k) M2
    | _, _ => .no
  | .lrg1 b, σ, M => (evE b σ M).bind fun y M2 => match y with
    | .int j => match rngD 0 j with
      | some ds => if ds.length ≤ sizeLine then .ok (.lst ds) M2 else .no
      | none => .no
    | _ => .no
  | .mrg1 b, σ, M => (evE b σ M).bind fun y M2 => match y with
    | .int j => match rngD 0 j with
      | some ds => if ds.length ≤ sizeLine then .ok (.cell M2.length) (M2 ++ [some (.lst ds)]) else .no
      | none => .no
    | _ => .no
  | .lrg2 a b, σ, M => (evE a σ M).bind fun x M1 => (evE b σ M1).bind fun y M2 => match x, y with
    | .int i, .int j => match rngD i j with
      | some ds => if ds.length ≤ sizeLine then .ok (.lst ds) M2 else .no
      | none => .no
    | _, _ => .no
  | .dgt o e, σ, M => (evE o σ M).bind fun x M1 => match x with
    | .dct kvs => (evE e σ M1).bind fun y M2 => match keyD y with
      | some k => .ok ((valD kvs k).getD .non) M2
      | none => .no
    | _ => .no
  | .mbl e, σ, M => (evE e σ M).bind fun d M1 => match seqA M1 d with
    | some xs => .ok (.cell M1.length) (M1 ++ [some (.lst xs)])
    | none => .no
  | .isi e ts, σ, M => (evE e σ M).bind fun x M1 => Res.of ((isiD ts x).map .bl) M1
  | .meth m o es, σ, M => (evE o σ M).bind fun x M1 => if mtFit m x M1 then (evL es σ M1).bind fun ds M2 => Res.ofM (evMt m x ds M2) else .no
  | .lc e t it c vs, σ, M => (evI it σ M).bind fun ds M1 => (lcGo (fun x M2 => (evT t x (wipeD σ vs) M2).bind fun σ3 M3 => (evC c σ3 M3).bind fun b M4 => if b = true then (evE e σ3 M4).bind fun d M5 => .ok (some d) M5 else .ok none M4) ds [] M1).bind fun ds M6 => .ok (.lst ds) M6
  | .lc2 e t it c t1 it1 c1 vs vs1, σ, M => (evI it σ M).bind fun ds M1 => (lc2Go (fun x acc M2 => (evT t x (wipeD σ vs) M2).bind fun σ3 M3 => (evC c σ3 M3).bind fun b M4 => if b = true then (evI it1 σ3 M4).bind fun ds1 M5 => lcGo (fun x1 M6 => (evT t1 x1 (wipeD σ3 vs1) M6).bind fun σ4 M7 => (evC c1 σ4 M7).bind fun b1 M8 => if b1 = true then (evE e σ4 M8).bind fun d M9 => .ok (some d) M9 else .ok none M8) ds1 acc M5 else .ok acc M4) ds [] M1).bind fun ds M6 => .ok (.lst ds) M6
  | .frz v, σ, M => match σ[v]? with
    | some (some (.cell i)) => match M[i]? with
      | some (some (.lst xs)) => .ok (.lst xs) (M.set i none)
      | some (some (.ins c fs)) => .ok (.ins c fs) (M.set i none)
      | _ => .no
    | _ => .no
def evL : List Ex → Env' → Mem → Res (List D)
  | [], _, M => .ok [] M
  | e :: es, σ, M => (evE e σ M).bind fun d M1 => (evL es σ M1).bind fun ds M2 => .ok (d :: ds) M2
def evK : List (Str × Ex) → Env' → Mem → Res (List D)
  | [], _, M => .ok [] M
  | (_, e) :: es, σ, M => (evE e σ M).bind fun d M1 => (evK es σ M1).bind fun ds M2 => .ok (d :: ds) M2
def evO : Option Ex → Env' → Mem → Res (Option Int)
  | none, _, M => .ok none M
  | some e, σ, M => (evE e σ M).bind fun d M1 => match d with
    | .int i => .ok (some i) M1
    | _ => .no
def evC : Option Ex → Env' → Mem → Res Bool
  | none, _, M => .ok true M
  | some e, σ, M => (evE e σ M).bind fun d M1 => Res.of (truth M1 d) M1
def evI : It → Env' → Mem → Res (List D)
  | .seq e, σ, M => (evE e σ M).bind fun d M1 => match d with
    | .lst xs => .ok xs M1
    | .scr xs => .ok xs M1
    | .tup xs => .ok xs M1
    | _ => .no
  | .rng1 a, σ, M => (evE a σ M).bind fun d M1 => match d with
    | .int n => Res.of (rngD 0 n) M1
    | _ => .no
  | .rng2 a b, σ, M => (evE a σ M).bind fun x M1 => (evE b σ M1).bind fun y M2 => match x, y with
    | .int m, .int n => Res.of (rngD m n) M2
    | _, _ => .no
  | .enu e, σ, M => (evE e σ M).bind fun d M1 => match d with
    | .lst xs => .ok ((xs.zipIdx).map fun p => .tup [.int p.2, p.1]) M1
    | .scr xs => .ok ((xs.zipIdx).map fun p => .tup [.int p.2, p.1]) M1
    | _ => .no
  | .zip a b, σ, M => (evE a σ M).bind fun x M1 => (evE b σ M1).bind fun y M2 => match x, y with
    | .lst xs, .lst ys => .ok ((xs.zip ys).map fun p => .tup [p.1, p.2]) M2
    | _, _ => .no
def evT : Tg → D → Env' → Mem → Res Env'
  | .nm i, d, σ, M => .ok (σ.set i (some d)) M
  | .tp ts, d, σ, M => match d with
    | .tup ds => evTs ts ds σ M
    | _ => .no
  | .sub a b, d, σ, M => (evE a σ M).sure.bind fun x M1 => (evE b σ M1).sure.bind fun y M2 => match x, y with
    | .cell i, .int k => match M2[i]? with
      | some (some (.lst xs)) => match ixN xs.length k with
        | some j => .ok σ (M2.set i (some (.lst (xs.set j d))))
        | none => .no
      | _ => .no
    | _, _ => .no
  | .fld a f, d, σ, M => (evE a σ M).sure.bind fun x M1 => match x with
    | .cell i => match M1[i]? with
      | some (some (.ins c fs)) => if fs.length < 1000 then .ok σ (M1.set i (some (.ins c (putFD f d fs)))) else .no
      | _ => .no
    | _ => .no
def evTs : List Tg → List D → Env' → Mem → Res Env'
  | [], [], σ, M => .ok σ M
  | t :: ts, d :: ds, σ, M => (evT t d σ M).bind fun σ1 M1 => evTs ts ds σ1 M1
  | _, _, _, _ => .no
end

/-! ### statements -/
inductive RS where
  | nx (σ : Env') (M : Mem) | bk (σ : Env') (M : Mem) | ct (σ : Env') (M : Mem)
  | rt (d : D) (M : Mem)
  | ex (c : Nat) (fs : List (Str × D)) (σ : Env') (M : Mem)
  | no
def RS.of {α : Type} (r : Res α) (σ : Env') (f : α → Mem → RS) : RS := match r with
  | .ok a M => f a M
  | .ex c fs M => .ex c fs σ M
  | .no => .no
@[simp] theorem RS.of_ok {α : Type} (a : α) (M : Mem) (σ : Env') (f : α → Mem → RS) : RS.of (.ok a M) σ f = f a M := by simp only [RS.of]
def RS.then (r : RS) (f : Env' → Mem → RS) : RS := match r with
  | .nx σ M => f σ M
  | r => r
@[simp] theorem RS.then_nx (σ : Env') (M : Mem) (f : Env' → Mem → RS) : (RS.nx σ M).then f = f σ M := by simp only [RS.then]
@[simp] theorem RS.then_rt (d : D) (M : Mem) (f : Env' → Mem → RS) : (RS.rt d M).then f = .rt d M := by simp only [RS.then]
def forGo (f : D → Env' → Mem → RS) : List D → Env' → Mem → RS
  | [], σ, M => .nx σ M
  | x :: xs, σ, M => match f x σ M with
    | .nx σ1 M1 => forGo f xs σ1 M1
    | .ct σ1 M1 => forGo f xs σ1 M1
    | .bk σ1 M1 => .nx σ1 M1
    | r => r
def whlGo (c : Env' → Mem → Res Bool) (f : Env' → Mem → RS) : Nat → Env' → Mem → RS
  | 0, _, _ => .no
  | n + 1, σ, M => RS.of (c σ M) σ fun b M1 => if b then match f σ M1 with
      | .nx σ1 M2 => whlGo c f n σ1 M2
      | .ct σ1 M2 => whlGo c f n σ1 M2
      | .bk σ1 M2 => .nx σ1 M2
      | r => r
    else .nx σ M1
def setAll (σ : Env') : List Nat → List D → Env'
  | i :: is, d :: ds => setAll (σ.set i (some d)) is ds
  | _, _ => σ
mutual
def evS : Sx → Env' → Mem → RS
  | .asg t e, σ, M => RS.of (evE Φ e σ M) σ fun d M1 => RS.of (evT Φ t d σ M1) σ fun σ1 M2 => .nx σ1 M2
  | .par is es, σ, M => RS.of (evL Φ es σ M) σ fun ds M1 => if ds.length = is.length then .nx (setAll σ is.reverse ds.reverse) M1 else .no
  | .aug i o e, σ, M => match σ[i]? with
    | some (some x) => RS.of (evE Φ e σ M) σ fun y M1 => match evAug o x y with
      | some z => .nx (σ.set i (some z)) M1
      | none => .no
    | _ => .no
  | .expr e, σ, M => RS.of (evE Φ e σ M) σ fun _ M1 => .nx σ M1
  | .ret e, σ, M => RS.of (evE Φ e σ M) σ fun d M1 => .rt d M1
  | .retN, _, M => .rt .non M
  | .ifs c a b, σ, M => RS.of ((evE Φ c σ M).bind fun d M1 => Res.of (truth M1 d) M1) σ fun t M1 => if t then evSs a σ M1 else evSs b σ M1
  | .fors t it body, σ, M => RS.of (evI Φ it σ M) σ fun ds M1 => forGo (fun x σ1 M2 => RS.of (evT Φ t x σ1 M2) σ1 fun σ2 M3 => evSs body σ2 M3) ds σ M1
  | .whl n c body, σ, M => whlGo (fun σ1 M1 => (evE Φ c σ1 M1).bind fun d M2 => Res.of (truth M2 d) M2) (fun σ1 M1 => evSs body σ1 M1) n σ M
  | .brk, σ, M => .bk σ M
  | .cnt, σ, M => .ct σ M
  | .pass, σ, M => .nx σ M
  | .nev, _, _ => .no
  | .frzs v s, σ, M => match σ[v]? with
    | some (some (.cell i)) => match M[i]? with
      | some (some (.lst xs)) => evS s (σ.set v (some (.lst xs))) (M.set i none)
      | some (some (.ins c fs)) => evS s (σ.set v (some (.ins c fs))) (M.set i none)
      | _ => .no
    | _ => .no
def evSs : List Sx → Env' → Mem → RS
  | [], σ, M => .nx σ M
  | s :: ss, σ, M => (evS s σ M).then fun σ1 M1 => evSs ss σ1 M1
end
end

/-- a class: its __init__ as a def, its methods as defs -/
structure Cf where
  name : Str
  init : Option Nat
  meths : List (Str × Nat)
  /-- fields that no class of it has by name -/
  flds : List Str
  /-- which classes it is asked for, by name: and the answer -/
  asks : List (Str × Bool)
/-- a def: its parameters, its names by slot, its body -/
structure Df where
  name : Str
  ps : List Str
  N : List Str
  body : List Sx
  /-- how it may be called: positional values, keywords, where each parameter's value stands -/
  shapes : List (Nat × List Str × List Nat)
def bodyRes (r : RS) : Res D := match r with
  | .nx _ M => .ok .non M
  | .rt d M => .ok d M
  | .ex c fs _ M => .ex c fs M
  | _ => .no
/-! whether no cell is told -/
mutual
def noCell : D → Bool
  | .tup xs => noCells xs
  | .lst xs => noCells xs
  | .scr xs => noCells xs
  | .ins _ fs => noCellF fs
  | .dct kvs => noCellK kvs
  | .cell _ => false
  | _ => true
def noCells : List D → Bool
  | [] => true
  | d :: ds => noCell d && noCells ds
def noCellF : List (Str × D) → Bool
  | [] => true
  | d :: ds => noCell d.2 && noCellF ds
def noCellK : List (Key × D) → Bool
  | [] => true
  | d :: ds => noCell d.2 && noCellK ds
end
/-- behind a call: its own cells are forgotten where nothing of them is left -/
def quiet : Option MO → Bool
  | none => true
  | some (.lst xs) => noCells xs
  | some (.ins _ fs) => noCellF fs
def spare (n : Nat) (M : Mem) : Bool := (M.drop n).all Option.isNone && (M.take n).all quiet
def tidy (n : Nat) (r : Res D) : Res D := match r with
  | .ok d M => if M.length ≤ n then .ok d M else if (spare n M && noCell d) = true then .ok d (M.take n) else .ok d M
  | .ex c fs M => if M.length ≤ n then .ex c fs M else if (spare n M && noCellF fs) = true then .ex c fs (M.take n) else .ex c fs M
  | .no => .no
def evF (P : List Df) : Nat → Nat → List D → Mem → Res D
  | 0, _, _, _ => .no
  | k + 1, f, ds, M => match P[f]? with
    | some d => if ds.length = d.ps.length then tidy M.length (bodyRes (evSs (evF P k) d.body (ds.map some ++ List.replicate (d.N.length - ds.length) none) M)) else .no
    | none => .no
end Ev
/-! EvA: a tuple once, or no times; a tuple from behind. -/
namespace Ev
open PySem PySem.Spec PyProof.Rows L2
def tupO (dd : Option Addr) (its : Array Value) (n : Nat) (sl : Array (Option Value)) : Obj := ⟨.type "tuple", dd, .seq its n, sl⟩
theorem mulOnce (p : Addr) (ys : Array Value) (m : Nat) (dd : Option Addr) (sl : Array (Option Value)) (u : Tok) (hne : ys.isEmpty = false) :
    Meets (Builtin.«tuple.__mul__» ⟨[.ref p, .int 1 u], []⟩) (fun _ R s => s.heap.get? p = some (tupO dd ys m sl) ∧ R (.ok (.ret (Value.ref p))) s) :=
  .of_wp fun _ _ _ _ st q => by
    obtain ⟨hp, g, d, tk, os⟩ := st
    have f1 := AutoSeq1.idx_int
    have q1 : hp.get? p = some { cls := Value.type "tuple", dict := dd, data := Data.seq ys m, slots := sl } := q.1
    wp_walk using wpAny_loadPart' q1
    exact ⟨_, rfl, q.2⟩
theorem mulNone (p : Addr) (ys : Array Value) (m : Nat) (dd : Option Addr) (sl : Array (Option Value)) (x : Int) (u : Tok) (e0 : (decide (x < -(2 ^ 63)) || decide (x ≥ 2 ^ 63)) = false) (e1 : (ys.isEmpty || x == 1) = false) (e2 : (decide (x ≤ 0) || ys.isEmpty) = true) :
    Meets (Builtin.«tuple.__mul__» ⟨[.ref p, .int x u], []⟩) (fun _ R s => s.heap.get? p = some (tupO dd ys m sl) ∧
      R (.ok (.ret (Value.ref s.heap.objs.size))) { s with heap := s.heap.push { cls := Value.type "tuple", data := Data.seq #[] }, toks := s.toks }) :=
  .of_wp fun _ _ _ _ st q => by
    obtain ⟨hp, g, d, tk, os⟩ := st
    have f1 := AutoSeq1.idx_int
    have q1 : hp.get? p = some { cls := Value.type "tuple", dict := dd, data := Data.seq ys m, slots := sl } := q.1
    wp_walk using wpAny_loadPart' q1
    repeat (first
      | (refine wpAny_ite_false (decide_eq_false (fun z => by rw [e0] at z; cases z)) ?_; wp_walk using wpAny_loadPart' q1)
      | (refine wpAny_ite_false (decide_eq_false (fun z => by rw [e1] at z; cases z)) ?_; wp_walk using wpAny_loadPart' q1)
      | (refine wpAny_ite_true (decide_eq_true e2) ?_; wp_walk using wpAny_loadPart' q1))
    exact ⟨_, rfl, q.2⟩
def rRep01 (K : PySem.W.Frag) : R2 := fun x y H Q => ∃ p k zs, x = .ref p ∧ y = .int k ∧ SqT K H p zs ∧ zs ≠ [] ∧ -(2 ^ 63) ≤ k ∧ k ≤ 1 ∧ (k = 1 → Q (.ref p) H) ∧ (k ≤ 0 → ∀ q, H q = none → Q (.ref q) (upd H q (.tup [])))
section
variable {X : Cx}
theorem op_rep01 : OpR X (binaryOp .Mult) (rRep01 X.K) := by
  intro pins s σ H x y v u Q I rx ry ⟨p, k, zs, ex, ey, hT, hne, h1, h2, q1, q0⟩
  subst ex ey
  cases rx
  obtain ⟨t, rfl⟩ := ry
  obtain ⟨ys, r, ⟨ob, ho, hc, m, hd⟩, hs⟩ := I.tuple hT
  obtain ⟨cls, dd, data, sl⟩ := ob
  simp only at hc hd
  subst hc hd
  have hi : ys.toArray.isEmpty = false := by
    cases ys with
    | nil => exact absurd (List.eq_nil_of_length_eq_zero r.length) hne
    | cons a b => rfl
  by_cases hk : k = 1
  · subst hk
    exact wpAny_binaryOp_repeat_ref (T := "tuple") (U := "int") (by decide) ⟨_, ho, rfl⟩ (fun s' => typeIs_int s' 1 t) noFill_tuple_mul F.fills_int_mul F.slot_int_rmul repeat_tuple F.slot_int_index.lookup
      (call_meets F.slot_int_rmul (typeIs_int s 1 t) F.entry_int_rmul (F.args_int_rmul_2 _ _) (int_rmul_tuple 1 t p ys.toArray m dd sl)
        ⟨ho, rfl, ⟨_, ho, rfl⟩, call_meets F.slot_tuple_mul ⟨_, ho, rfl⟩ F.entry_tuple_mul (F.args_tuple_mul_2 _ _) (mulOnce p ys.toArray m dd sl t hi) ⟨ho, ⟨.ref p, H, I, rfl, q1 rfl⟩⟩⟩)
  · have e0 : (decide (k < -(2 ^ 63)) || decide (k ≥ 2 ^ 63)) = false := by
      rw [Bool.or_eq_false_iff]
      exact ⟨decide_eq_false (by omega), decide_eq_false (by omega)⟩
    have e1 : (ys.toArray.isEmpty || k == 1) = false := by
      rw [Bool.or_eq_false_iff]
      exact ⟨hi, beq_eq_false_iff_ne.mpr hk⟩
    have e2 : (decide (k ≤ 0) || ys.toArray.isEmpty) = true := by rw [decide_eq_true (by omega), Bool.true_or]
    refine wpAny_binaryOp_repeat_ref (T := "tuple") (U := "int") (by decide) ⟨_, ho, rfl⟩ (fun s' => typeIs_int s' k t) noFill_tuple_mul F.fills_int_mul F.slot_int_rmul repeat_tuple F.slot_int_index.lookup
      (call_meets F.slot_int_rmul (typeIs_int s k t) F.entry_int_rmul (F.args_int_rmul_2 _ _) (int_rmul_tuple k t p ys.toArray m dd sl)
        ⟨ho, rfl, ⟨_, ho, rfl⟩, call_meets F.slot_tuple_mul ⟨_, ho, rfl⟩ F.entry_tuple_mul (F.args_tuple_mul_2 _ _) (mulNone p ys.toArray m dd sl k t e0 e1 e2) ⟨ho, ?_⟩⟩)
    refine ⟨.ref s.heap.objs.size, _, I.laid (t' := s.toks) (o := .tup []) (fun b ob q => Heap.get?_push_of_some _ q) (Nat.le_refl _) ?_, rfl, q0 (by omega) _ (I.hok.fresh (Nat.le_refl _))⟩
    exact ⟨by rw [sizeLine_eq]; decide, _, .nil, IsTup.new _ _⟩
end
/-! ### from behind -/
theorem rev_places (n : Nat) : Builtin.Slice.slicePlaces ((n : Int) - 1) (-1) (-1) = n := by
  have h1 : ¬ ((-1 : Int) > 0) := by decide
  unfold Builtin.Slice.slicePlaces
  rw [if_neg h1]
  by_cases h : (n : Int) - 1 > -1
  · rw [if_pos h, show (-(-1 : Int)) = 1 from rfl, Int.ediv_one]
    omega
  · rw [if_neg h]
    omega
theorem rev_pick (ys : Array Value) : ((List.range ys.size).filterMap fun (m : Nat) => ys[(((ys.size : Int) - 1) + (m : Int) * -1).toNat]?).toArray = ys.toList.reverse.toArray := by
  have e : ((List.range ys.size).filterMap fun (m : Nat) => ys[(((ys.size : Int) - 1) + (m : Int) * -1).toNat]?) = ((List.range ys.size).map fun k => ys.size - 1 - k).filterMap fun i => ys[i]? := by
    rw [List.filterMap_map]
    have all : ∀ l : List Nat, (∀ m ∈ l, m < ys.size) → (l.filterMap fun (m : Nat) => ys[(((ys.size : Int) - 1) + (m : Int) * -1).toNat]?) = l.filterMap ((fun i => ys[i]?) ∘ fun k => ys.size - 1 - k) := fun l => by
      induction l with
      | nil => intro _; rfl
      | cons m l ih =>
        intro hl
        have hm := hl m (List.mem_cons_self ..)
        have e2 : (((ys.size : Int) - 1) + (m : Int) * -1).toNat = ys.size - 1 - m := by omega
        simp only [List.filterMap_cons, Function.comp_apply, e2]
        rw [ih fun k hk => hl k (List.mem_cons_of_mem _ hk)]
    exact all _ fun m hm => List.mem_range.mp hm
  rw [e, PySem.W.krv_range, List.filterMap_reverse, PySem.W.krv_all]
section
variable {P : Program} {w : World} {A : Around} {E : Value → Shared → Prop} {s : Shared}
theorem rev_applied {sl : Addr} {vs : Value} {n : Nat} {Q : Int × Int × Nat → Shared → Prop} (hs : s.heap.IsSliceOf sl .none .none vs) (ps : IsPart vs (some (-1))) (h : Q ((n : Int) - 1, -1, n) s) : wpAny (model P w) A (Builtin.Slice.sliceApplied (.ref sl) (pure (n : Int))) Q E s := by
  have ⟨ob, ho, _, hd⟩ := hs
  unfold Builtin.Slice.sliceApplied Builtin.Slice.sliceFields
  refine wpAny_bind (wpAny_bind (wpAny_field ho hd (x := .none) rfl (wpAny_bind (wpAny_field ho hd (x := .none) rfl (wpAny_bind (wpAny_field ho hd (x := vs) rfl (wpAny_pure ?_)))))))
  refine wpAny_bind (HT.slicePart_ ps ?_)
  show wpAny _ _ (if ((-1 : Int) == 0) = true then _ else _) _ _ s
  rw [if_neg (by decide)]
  refine wpAny_bind (HT.slicePart_ .none (wpAny_bind (HT.slicePart_ .none (wpAny_bind (wpAny_pure (wpAny_pure ?_))))))
  show Q ((n : Int) - 1, -1, Builtin.Slice.slicePlaces ((n : Int) - 1) (-1) (-1)) s
  rw [rev_places]
  exact h
theorem getItem_tup_rev {t sl : Addr} {ys : Array Value} {vs : Value} {Q : Value → Shared → Prop} (ht : IsTup s.heap t ys) (hs : s.heap.IsSliceOf sl .none .none vs) (ps : IsPart vs (some (-1)))
    (hz : ys.size ≤ sizeLine) (h : Q (.ref s.heap.objs.size) { s with heap := s.heap.push { cls := .type "tuple", data := .seq ys.toList.reverse.toArray } }) : wpAny (model P w) A (getItem (.ref t) (.ref sl)) Q E s := by
  have hsz : sizeOk (.seq ys.toList.reverse.toArray) := by
    show ys.toList.reverse.toArray.size ≤ sizeLine
    simpa using hz
  have hTs : s.TypeIs (.ref sl) "slice" := by
    obtain ⟨o, h1, h2, _⟩ := hs
    exact ⟨o, h1, h2⟩
  unfold getItem
  try with_reducible refine wpAny_holding ?_
  first | refine wpAny_bind (wpAny_pure ?_) | skip
  refine wpAny_bind (wpAny_sequenceKey ht.typeIs (by decide) (wpAny_bind (wpAny_callSpecial?_slot (name := Str.ofString "__getitem__") ht.typeIs PyProof.Rows.slot_tuple_getitem (wpAny_call_entry PyProof.Rows.slot_tuple_getitem ht.typeIs entry_tuple_getitem ?_ (args_tuple_getitem _ _)))))
  show wpAny _ _ (do let xs ← Builtin.Tuple.tupleItemsOf (.ref t); _) _ _ s
  refine wpAny_bind (tupleItemsOf_ ht (wpAny_bind (wpAny_typeOf hTs ?_)))
  rw [if_pos (by decide)]
  refine wpAny_bind (rev_applied hs ps ?_)
  have hno : ¬ ((((ys.size : Int) - 1) == 0 && (-1 : Int) == 1 && ys.size == ys.size) = true) := by simp
  show wpAny _ _ (if (((ys.size : Int) - 1) == 0 && (-1 : Int) == 1 && ys.size == ys.size) = true then _ else _) _ _ s
  rw [if_neg hno, rev_pick]
  have fin := wpAny_pure (M := model P w) (A := A) (E := E) h
  first
    | exact wpAny_bind (m := Builtin.Tuple.tupleExact _) (wpAny_newObj_type (wpAny_pure ⟨_, rfl, fin⟩) hsz)
    | exact wpAny_bind (m := Builtin.Tuple.tupleExact _) (wpAny_newObj_type (wpAny_bind (wpAny_pure (wpAny_pure ⟨_, rfl, fin⟩))) hsz)
    | exact wpAny_bind (wpAny_bind (m := Builtin.Tuple.tupleExact _) (wpAny_newObj_type (wpAny_pure (wpAny_pure ⟨_, rfl, fin⟩)) hsz))
    | exact wpAny_bind (wpAny_bind (m := Builtin.Tuple.tupleExact _) (wpAny_newObj_type (wpAny_pure ⟨_, rfl, fin⟩) hsz))
end
section
variable {X : Cx}
def tRevT (K : PySem.W.Frag) (te : TE) : TE := fun σ H Q => te σ H fun x H1 => ∃ q ys, x = .ref q ∧ SqT K H1 q ys ∧ ∀ p, H1 p = none → Q (.ref p) (upd H1 p (.tup ys.reverse))
theorem pe_revT {b : Expr} {tb : TE} {k : Nat} {q1 q2 q3 qos : Pos} (hb : PE X b tb) : PE X (.Subscript b (.Slice none none (some (.UnaryOp .USub (.Constant (.int 1) k q1) q2)) q3) qos) (tRevT X.K tb) := by
  refine ⟨fun pins s σ H Q I h => Subscript_ (thn (hb.run pins s σ H _ I h) ?_)⟩
  rintro v s1 ⟨x, H1, I1, r1, t, ys, rfl, hy, fin⟩
  cases r1
  have step : PO X (some (.UnaryOp .USub (.Constant (.int 1) k q1) q2)) (tPart (tUn (rU fun i => .int (-i)) (tC (.int 1)))) := po_some (pe_un un_neg pe_int)
  refine wpAny_Slice (thn (po_none.run pins s1 σ H1 (fun o H2 => o = none ∧ H2 = H1) I1 ⟨rfl, rfl⟩) ?_)
  rintro vl s2 ⟨_, H2, I2, pl, rfl, rfl⟩
  refine thn (po_none.run pins s2 σ H2 (fun o H3 => o = none ∧ H3 = H2) I2 ⟨rfl, rfl⟩) ?_
  rintro vu s3 ⟨_, H3, I3, pu, rfl, rfl⟩
  refine thn (step.run pins s3 σ H3 (fun o H4 => o = some (-1) ∧ H4 = H3) I3 ⟨1, rfl, -1, rfl, rfl, rfl⟩) ?_
  rintro vs s4 ⟨_, H4, I4, ps, rfl, rfl⟩
  cases pl
  cases pu
  have J : Inv X pins σ H4 { s4 with heap := s4.heap.push { cls := .type "slice", data := .fields #[Value.none, Value.none, vs] } } := I4.kept (t' := s4.toks) fun b ob q => Heap.get?_push_of_some _ q
  obtain ⟨its, r, ht, hz⟩ := J.tuple hy
  have hlen := r.length
  show wpAny (model X.prog X.w) X.A (subscriptTail b (.Slice none none (some (.UnaryOp .USub (.Constant (.int 1) k q1) q2)) q3) (.ref t) (.ref s4.heap.objs.size)) (EP X pins σ Q) X.xe { s4 with heap := s4.heap.push { cls := .type "slice", data := .fields #[Value.none, Value.none, vs] } }
  refine tail_any (ops := [.ref t, .ref s4.heap.objs.size]) ht.typeIs (PyProof.Rows.slot_tuple_getitem.lookup) ?_ (by with_unfolding_all rfl)
  refine getItem_tup_rev ht (Heap.IsSliceOf.new _ Value.none Value.none vs) ps (by rw [List.size_toArray, ← hlen]; exact hz) ?_
  refine ⟨.ref _, _, J.laid (t' := s4.toks) (o := .tup ys.reverse) (fun b ob q => Heap.get?_push_of_some _ q) (Nat.le_refl _) ?_, rfl, fin _ (J.hok.fresh (Nat.le_refl _))⟩
  exact ⟨by rw [List.length_reverse]; exact hz, _, r.reverse, IsTup.new _ _⟩
end
end Ev
/-! Ev2: what the operations do with the values that stand for data. -/
namespace Ev
open PySem L2

/-! ### what an end is worth -/
/-- an exception's own dict -/
def XRep (G : Gb) (w : Wd) (d : Option Addr) (fs : List (Str × D)) : Prop := (fs = [] ∧ d = none) ∨ ∃ dx vs, d = some dx ∧ w.H dx = some (.xd vs) ∧ RepF G w fs vs
def Post {α : Type} (G : Gb) (W : WX) (σ : L2.St) (w : Wd) (r : Res α) (Qr : α → Wd → Prop) : Prop :=
  match r with
  | .ok a M => ∀ w', Ext w w' → WOk G w' → w'.M = M → Qr a w'
  | .ex c fs M => ∀ w' d, Ext w w' → WOk G w' → w'.M = M → XRep G w' d fs → W (.ref (G.cls c)) d σ w'.H
  | .no => False
section
variable {G : Gb} {W : WX} {σ : L2.St} {w w' : Wd} {α β : Type} {r : Res α} {f : α → Mem → Res β}
theorem Post.later {Qr : α → Wd → Prop} (x : Ext w w') (h : Post G W σ w r Qr) : Post G W σ w' r Qr := by
  cases r with
  | ok a M => exact fun w2 x2 g e => h w2 (x.trans x2) g e
  | ex c fs M => exact fun w2 d x2 g e q => h w2 d (x.trans x2) g e q
  | no => exact h
theorem Post.mono {Qr Qr' : α → Wd → Prop} (h : Post G W σ w r Qr) (k : ∀ a w', Ext w w' → WOk G w' → Qr a w' → Qr' a w') : Post G W σ w r Qr' := by
  cases r with
  | ok a M => exact fun w2 x2 g e => k a w2 x2 g (h w2 x2 g e)
  | ex c fs M => exact h
  | no => exact h
theorem Post.monoE {Qr Qr' : α → Wd → Prop} (h : Post G W σ w r Qr) (k : ∀ a w', r = .ok a w'.M → Ext w w' → WOk G w' → Qr a w' → Qr' a w') : Post G W σ w r Qr' := by
  cases r with
  | ok a M => exact fun w2 x2 g e => k a w2 (by rw [e]) x2 g (h w2 x2 g e)
  | ex c fs M => exact h
  | no => exact h
theorem Post.bind {Qr : β → Wd → Prop} (h : Post G W σ w (r.bind f) Qr) : Post G W σ w r fun a w' => Post G W σ w' (f a w'.M) Qr := by
  cases r with
  | ok a M =>
    intro w2 x2 g e
    subst e
    exact Post.later x2 h
  | ex c fs M => exact h
  | no => exact h
/-- at once -/
theorem Post.now {a : α} {Qr : α → Wd → Prop} (g : WOk G w) (h : Post G W σ w (.ok a w.M) Qr) : Qr a w := h w (Ext.refl w) g rfl
theorem Post.of {o : Option α} {M : Mem} {Qr : α → Wd → Prop} (h : Post G W σ w (Res.of o M) Qr) : ∃ a, o = some a ∧ Post G W σ w (.ok a M) Qr := by
  cases o with
  | some a => exact ⟨a, rfl, h⟩
  | none => exact h.elim
theorem Post.ofM {o : Option (α × Mem)} {Qr : α → Wd → Prop} (h : Post G W σ w (Res.ofM o) Qr) : ∃ a M, o = some (a, M) ∧ Post G W σ w (.ok a M) Qr := by
  cases o with
  | some a => exact ⟨a.1, a.2, rfl, h⟩
  | none => exact h.elim
end

/-! ### what a value is told by -/
section
variable {G : Gb} {w : Wd}
theorem Sat.sqT {a : Addr} {vs : List V} (h : Sat w a (.tup vs)) : SqT G.K w.H a vs := .inl (.inl h.1)
theorem kseqT {a : Addr} {vs : List V} (h : KSeq G.K "tuple" a vs) : SqT G.K w.H a vs := by
  obtain ⟨o, its, n, h1, h2, h3, h4, h5, h6⟩ := h
  exact .inr ⟨o, its, n, h1, h2, h4, h5, h6⟩
theorem kseqL {a : Addr} {vs : List V} (h : KSeq G.K "list" a vs) : SqL G.K w.H a vs := by
  obtain ⟨o, its, n, h1, h2, h3, h4, h5, h6⟩ := h
  exact .inr ⟨o, its, n, h1, h2, h3, h4, h5, h6⟩
theorem Rep.tup {xs : List D} {v : V} (h : Rep G w (.tup xs) v) : ∃ a vs, v = .ref a ∧ SqT G.K w.H a vs ∧ RepL G w xs vs := by
  simp only [Rep] at h
  obtain ⟨a, vs, e, h1 | h1, h2⟩ := h
  · exact ⟨a, vs, e, h1.sqT, h2⟩
  · exact ⟨a, vs, e, kseqT h1, h2⟩
theorem Rep.lstC (g : WOk G w) {d : D} {xs : List D} {v : V} (h : Rep G w d v) (e : seqC w.M d = some xs) : ∃ a vs, v = .ref a ∧ w.H a = some (.lst vs) ∧ RepL G w xs vs := by
  cases d with
  | lst ys =>
    simp only [seqC, seqL, Option.some.injEq] at e
    subst e
    simp only [Rep] at h
    obtain ⟨a, vs, e1, h1, h2⟩ := h
    exact ⟨a, vs, e1, h1.1, h2⟩
  | cell i =>
    simp only [Rep] at h
    obtain ⟨a, e1, h1⟩ := h
    simp only [seqC, seqL] at e
    split at e
    · rename_i zs hz
      obtain ⟨vs, h2, h3⟩ := g.cell i a _ h1 hz
      cases e
      exact ⟨a, vs, e1, h2, h3⟩
    · cases e
  | _ => simp [seqC, seqL] at e
theorem Rep.lst (g : WOk G w) {d : D} {xs : List D} {v : V} (h : Rep G w d v) (e : seqL w.M d = some xs) : ∃ a vs, v = .ref a ∧ SqL G.K w.H a vs ∧ RepL G w xs vs := by
  by_cases hs : ∃ ys, d = .scr ys
  · obtain ⟨ys, rfl⟩ := hs
    simp only [seqL, Option.some.injEq] at e
    subst e
    simp only [Rep] at h
    obtain ⟨a, vs, e1, ⟨o, h1⟩ | h1, h2⟩ := h
    · exact ⟨a, vs, e1, .inl (.inr ⟨o, h1.1⟩), h2⟩
    · exact ⟨a, vs, e1, kseqL h1, h2⟩
  · have e' : seqC w.M d = some xs := by
      cases d <;> first | exact e | exact absurd ⟨_, rfl⟩ hs
    obtain ⟨a, vs, e1, h1, h2⟩ := Rep.lstC g h e'
    exact ⟨a, vs, e1, .inl (.inl h1), h2⟩
theorem Rep.now (g : WOk G w) {d : D} {v : V} (h : Rep G w d v) : ∃ q, Ev.now w.M d = q ∧ (q = d ∨ ∃ xs, q = .lst xs ∧ seqL w.M d = some xs) := by
  refine ⟨_, rfl, ?_⟩
  unfold Ev.now
  cases e : seqL w.M d with
  | none => exact .inl rfl
  | some xs => exact .inr ⟨xs, rfl, rfl⟩
/-- new objects -/
theorem rep_tup (g : WOk G w) {p : Addr} {ds : List D} {vs : List V} (hp : w.H p = none) (h : RepL G w ds vs) : Rep G { w with H := upd w.H p (.tup vs) } (.tup ds) (.ref p) := by
  simp only [Rep]
  exact ⟨p, vs, rfl, .inl (sat_new g hp), RepL.ext (ext_new g hp) _ _ h⟩
theorem rep_lst (g : WOk G w) {p : Addr} {ds : List D} {vs : List V} (hp : w.H p = none) (h : RepL G w ds vs) : Rep G { w with H := upd w.H p (.lst vs) } (.lst ds) (.ref p) := by
  simp only [Rep]
  exact ⟨p, vs, rfl, sat_new g hp, RepL.ext (ext_new g hp) _ _ h⟩
mutual
theorem Rep.dp : ∀ (d : D) (v : V) (p : PyData), Rep G w d v → toPd d = some p → Dp G.K w.H v p
  | .non, v, p, h, e => by simp only [Rep] at h; simp only [toPd, Option.some.injEq] at e; subst h e; exact .non
  | .bl b, v, p, h, e => by simp only [Rep] at h; simp only [toPd, Option.some.injEq] at e; subst h e; exact .bl b
  | .int i, v, p, h, e => by simp only [Rep] at h; simp only [toPd, Option.some.injEq] at e; subst h e; exact .int i
  | .str s, v, p, h, e => by simp only [Rep] at h; simp only [toPd, Option.some.injEq] at e; subst h e; exact .str s
  | .tup xs, v, p, h, e => by
    obtain ⟨a, vs, rfl, h1, h2⟩ := Rep.tup h
    simp only [toPd, Option.map_eq_some_iff] at e
    obtain ⟨ps, e1, rfl⟩ := e
    exact .tup h1 (RepL.dp xs vs ps h2 e1)
  | .lst xs, v, p, h, e => by
    simp only [Rep] at h
    obtain ⟨a, vs, rfl, h1, h2⟩ := h
    simp only [toPd, Option.map_eq_some_iff] at e
    obtain ⟨ps, e1, rfl⟩ := e
    exact .lst (.inl (.inl h1.1)) (RepL.dp xs vs ps h2 e1)
  | .scr xs, v, p, h, e => by
    simp only [Rep] at h
    simp only [toPd, Option.map_eq_some_iff] at e
    obtain ⟨ps, e1, rfl⟩ := e
    obtain ⟨a, vs, rfl, ⟨o, h1⟩ | h1, h2⟩ := h
    · exact .lst (.inl (.inr ⟨o, h1.1⟩)) (RepL.dp xs vs ps h2 e1)
    · exact .lst (kseqL h1) (RepL.dp xs vs ps h2 e1)
  | .ins _ _, v, p, h, e => by simp [toPd] at e
  | .cell _, v, p, h, e => by simp [toPd] at e
theorem RepL.dp : ∀ (ds : List D) (vs : List V) (ps : List PyData), RepL G w ds vs → toPds ds = some ps → DpAll G.K w.H vs ps
  | [], vs, ps, h, e => by simp only [RepL] at h; simp only [toPds, Option.some.injEq] at e; subst h e; exact .nil
  | d :: ds, vs, ps, h, e => by
    simp only [RepL] at h
    obtain ⟨v, r, rfl, h1, h2⟩ := h
    simp only [toPds] at e
    split at e
    · rename_i p qs e1 e2
      cases e
      exact .cons (Rep.dp d v p h1 e1) (RepL.dp ds r qs h2 e2)
    · cases e
end
theorem Rep.dpNow (g : WOk G w) {d : D} {v : V} {p : PyData} (h : Rep G w d v) (e : toPd (Ev.now w.M d) = some p) : Dp G.K w.H v p := by
  obtain ⟨q, e1, e2 | ⟨xs, e2, e3⟩⟩ := Rep.now g h
  · rw [e1, e2] at e
    exact Rep.dp d v p h e
  · rw [e1, e2] at e
    obtain ⟨a, vs, rfl, h1, h2⟩ := Rep.lst g h e3
    simp only [toPd, Option.map_eq_some_iff] at e
    obtain ⟨ps, e4, rfl⟩ := e
    exact .lst h1 (RepL.dp xs vs ps h2 e4)
theorem RepL.nil_iff {xs : List D} {vs : List V} (h : RepL G w xs vs) : xs = [] ↔ vs = [] := by
  cases xs with
  | nil => simp only [RepL] at h; simp [h]
  | cons d ds =>
    simp only [RepL] at h
    obtain ⟨v, r, rfl, _⟩ := h
    simp
end

/-! ### readings by data -/
def Gives (G : Gb) (w : Wd) (z : D) (Q : VK) : Prop := ∀ w' v, Ext w w' → WOk G w' → w'.M = w.M → Rep G w' z v → Q v w'.H
section
variable {G : Gb} {w : Wd} {Q : VK}
theorem Gives.same {z : D} {v : V} (h : Gives G w z Q) (g : WOk G w) (r : Rep G w z v) : Q v w.H := h w v (Ext.refl w) g rfl r
theorem Gives.tup {ds : List D} {vs : List V} (h : Gives G w (.tup ds) Q) (g : WOk G w) (r : RepL G w ds vs) : ∀ p, w.H p = none → Q (.ref p) (upd w.H p (.tup vs)) :=
  fun p hp => h { w with H := upd w.H p (.tup vs) } (.ref p) (ext_new g hp) (wok_new g hp) rfl (rep_tup g hp r)
theorem Gives.lst {ds : List D} {vs : List V} (h : Gives G w (.lst ds) Q) (g : WOk G w) (r : RepL G w ds vs) : ∀ p, w.H p = none → Q (.ref p) (upd w.H p (.lst vs)) :=
  fun p hp => h { w with H := upd w.H p (.lst vs) } (.ref p) (ext_new g hp) (wok_new g hp) rfl (rep_lst g hp r)
end
def rOp (G : Gb) (f : D → D → Mem → Option D) : R2 := fun x y H Q => ∃ w d e z, w.H = H ∧ WOk G w ∧ Rep G w d x ∧ Rep G w e y ∧ f d e w.M = some z ∧ Gives G w z Q
def rCall (G : Gb) (f : List D → Mem → Option D) : List V → Hp → VK → Prop := fun xs H Q => ∃ w ds z, w.H = H ∧ WOk G w ∧ RepL G w ds xs ∧ f ds w.M = some z ∧ Gives G w z Q
def toOp : BO → Operator
  | .add => .Add | .sub => .Sub | .mul => .Mult | .fdiv => .FloorDiv | .mod => .Mod | .pow => .Pow
def toCmp : CO → CmpOp
  | .eq => .Eq | .ne => .NotEq | .lt => .Lt | .le => .LtE | .gt => .Gt | .ge => .GtE | .is => .Is | .isn => .IsNot | .inn => .In | .nin => .NotIn
section
variable {X : Cx} {G : Gb}
theorem mulOk_ok {i j : Int} (h : mulOk i j = true) : CMul i j ∨ CMulW i j := by
  unfold mulOk at h
  rcases of_decide_eq_true h with z | z | z
  · exact .inl (.inl z)
  · exact .inl (.inr z)
  · exact .inr z
theorem rep_int {w : Wd} {i : Int} : Rep G w (.int i) (.int i) := by simp only [Rep]
theorem rep_bl {w : Wd} {b : Bool} : Rep G w (.bl b) (.bl b) := by simp only [Rep]
theorem rep_str {w : Wd} {s : Str} : Rep G w (.str s) (.str s) := by simp only [Rep]
theorem rep_non {w : Wd} : Rep G w .non .non := by simp only [Rep]
theorem op_binI (o : BO) {i j k : Int} (h : binI o i j = some k) {pins : List (Addr × Obj)} {s : Shared} {σ : L2.St} {H : Hp} {v u : Value} {Q : VK} (I : Inv X pins σ H s) (rx : RelV (.int i) v) (ry : RelV (.int j) u) (q : Q (.int k) H) :
    wpAny (model X.prog X.w) X.A (binaryOp (toOp o) v u) (EP X pins σ Q) X.xe s := by
  cases o with
  | add =>
    simp only [binI, Option.some.injEq] at h; subst h
    exact op_add pins s σ H _ _ v u Q I rx ry ⟨i, j, rfl, rfl, q⟩
  | sub =>
    simp only [binI, Option.some.injEq] at h; subst h
    exact op_sub pins s σ H _ _ v u Q I rx ry ⟨i, j, rfl, rfl, q⟩
  | mul =>
    simp only [binI] at h
    split at h
    · rename_i hm
      cases h
      rcases mulOk_ok hm with z | z
      · exact op_mul pins s σ H _ _ v u Q I rx ry ⟨i, j, rfl, rfl, z, q⟩
      · exact op_mulW pins s σ H _ _ v u Q I rx ry ⟨i, j, rfl, rfl, z, q⟩
    · cases h
  | fdiv =>
    simp only [binI] at h
    split at h
    · rename_i hm
      cases h
      exact op_fdivW pins s σ H _ _ v u Q I rx ry ⟨i, j, rfl, rfl, hm, q⟩
    · cases h
  | mod =>
    simp only [binI] at h
    split at h
    · rename_i hm
      cases h
      exact op_mod pins s σ H _ _ v u Q I rx ry ⟨i, j, rfl, rfl, hm, q⟩
    · cases h
  | pow =>
    simp only [binI] at h
    split at h
    · rename_i hm
      cases h
      exact op_pow pins s σ H _ _ v u Q I rx ry ⟨i, j, rfl, rfl, hm, q⟩
    · cases h
theorem RepL.repl {w : Wd} {ds : List D} {vs : List V} (h : RepL G w ds vs) : ∀ n : Nat, RepL G w (List.replicate n ds).flatten (List.replicate n vs).flatten
  | 0 => RepL.nil
  | n + 1 => by
    rw [List.replicate_succ, List.replicate_succ, List.flatten_cons, List.flatten_cons]
    exact h.append (RepL.repl h n)
theorem op_bin (hK : X.K = G.K) (o : BO) : OpR X (binaryOp (toOp o)) (rOp G (evBin o)) := by
  intro pins s σ H x y v u Q I rx ry h
  obtain ⟨w, d, e, z, rfl, g, r1, r2, hz, q⟩ := h
  have other : ∀ {d e : D}, (if o = .add then match seqC w.M d, seqC w.M e with
      | some xs, some ys => if xs.length + ys.length ≤ sizeLine then some (D.lst (xs ++ ys)) else none
      | _, _ => none else none) = some z → Rep G w d x → Rep G w e y → wpAny (model X.prog X.w) X.A (binaryOp (toOp o) v u) (EP X pins σ Q) X.xe s := by
    intro d e hq r1 r2
    split at hq
    · rename_i ho
      subst ho
      split at hq
      · rename_i xs ys e1 e2
        split at hq
        · rename_i hl
          cases hq
          obtain ⟨a, vs, rfl, h1, h2⟩ := Rep.lstC g r1 e1
          obtain ⟨b, us, rfl, h3, h4⟩ := Rep.lstC g r2 e2
          exact op_cat pins s σ w.H _ _ v u Q I rx ry ⟨a, b, vs, us, rfl, rfl, h1, h3, by rw [← h2.length, ← h4.length]; exact hl, q.lst g (h2.append h4)⟩
        · cases hq
      · cases hq
    · cases hq
  unfold evBin at hz
  split at hz
  · rename_i i j
    simp only [Rep] at r1 r2
    subst r1 r2
    obtain ⟨k, hk, rfl⟩ := Option.map_eq_some_iff.mp hz
    exact op_binI o hk I rx ry (q.same g rep_int)
  · rename_i a b
    simp only [Rep] at r1 r2
    subst r1 r2
    split at hz
    · rename_i hc
      cases hz
      obtain ⟨rfl, hl⟩ := hc
      exact op_add_str pins s σ w.H _ _ v u Q I rx ry ⟨a, b, rfl, rfl, hl, q.same g rep_str⟩
    · cases hz
  · rename_i xs ys
    split at hz
    · rename_i hc
      cases hz
      obtain ⟨rfl, hl⟩ := hc
      have q1 := r1
      have q2 := r2
      obtain ⟨a, vs, rfl, h1, h2⟩ := Rep.tup r1
      obtain ⟨b, us, rfl, h3, h4⟩ := Rep.tup r2
      rw [← hK] at h1 h3
      refine op_catA pins s σ w.H _ _ v u Q I rx ry ⟨a, b, vs, us, rfl, rfl, h1, h3, by rw [← h2.length, ← h4.length]; exact hl, fun z => ?_, fun _ z => ?_, fun _ _ => q.tup g (h2.append h4)⟩
      · have e : xs = [] := h2.nil_iff.mpr z
        subst e
        exact q.same g q2
      · have e : ys = [] := h4.nil_iff.mpr z
        subst e
        rw [List.append_nil] at q
        exact q.same g q1
    · cases hz
  · rename_i xs k
    split at hz
    · rename_i hc
      cases hz
      obtain ⟨rfl, hx, k1, k2, hl⟩ := hc
      have q1 := r1
      obtain ⟨a, vs, rfl, h1, h2⟩ := Rep.tup r1
      simp only [Rep] at r2
      subst r2
      rw [← hK] at h1
      by_cases k3 : 2 ≤ k
      · exact op_repT pins s σ w.H _ _ v u Q I rx ry ⟨a, k, vs, rfl, rfl, h1, fun z => hx (h2.nil_iff.mpr z), k3, k2, by rw [← h2.length]; exact hl, q.tup g (h2.repl k.toNat)⟩
      · refine op_rep01 pins s σ w.H _ _ v u Q I rx ry ⟨a, k, vs, rfl, rfl, h1, fun z => hx (h2.nil_iff.mpr z), k1, by omega, fun z => ?_, fun z => ?_⟩
        · subst z
          have e : (List.replicate (Int.toNat 1) xs).flatten = xs := by simp
          rw [e] at q
          exact q.same g q1
        · have e : (List.replicate k.toNat xs).flatten = [] := by rw [show k.toNat = 0 by omega]; rfl
          rw [e] at q
          exact q.tup g RepL.nil
    · cases hz
  · rename_i xs k
    split at hz
    · rename_i hc
      cases hz
      obtain ⟨rfl, k1, k2, hl⟩ := hc
      simp only [Rep] at r1 r2
      obtain ⟨a, vs, rfl, h1, h2⟩ := r1
      subst r2
      exact op_rep pins s σ w.H _ _ v u Q I rx ry ⟨a, k, vs, rfl, rfl, h1.1, k1, k2, by rw [← h2.length]; exact hl, q.lst g (h2.repl k.toNat)⟩
    · cases hz
  · exact other hz r1 r2
end
end Ev
/-! Ev3: comparisons, places, cuts, built-in calls and methods over data. -/
namespace Ev
open PySem L2
section
variable {X : Cx} {G : Gb}
theorem rep_same {w : Wd} {d : D} {v : V} (h : Rep G w d v) : (d = .non ↔ v = .non) := by
  cases d with
  | non => simp only [Rep] at h; simp [h]
  | bl _ => simp only [Rep] at h; simp [h]
  | int _ => simp only [Rep] at h; simp [h]
  | str _ => simp only [Rep] at h; simp [h]
  | tup _ => simp only [Rep] at h; obtain ⟨a, vs, rfl, _⟩ := h; simp
  | lst _ => simp only [Rep] at h; obtain ⟨a, vs, rfl, _⟩ := h; simp
  | scr _ => simp only [Rep] at h; obtain ⟨a, vs, rfl, _⟩ := h; simp
  | ins _ _ => simp only [Rep] at h; obtain ⟨_, a, vs, _, rfl, _⟩ := h; simp
  | dct _ => simp only [Rep] at h; obtain ⟨a, vs, rfl, _⟩ := h; simp
  | cell _ => simp only [Rep] at h; obtain ⟨a, rfl, _⟩ := h; simp
theorem is_notbool {M : Model} {A : Around} {E : Value → Shared → Prop} {s : Shared} {Q : Value → Shared → Prop} {v : Value} {b : Bool} (hv : ∀ c, v ≠ .bool c) (hb : ∀ i, v ≠ .builtin i) (h : Q (.bool false) s) : wpAny M A (compareOp .Is v (.bool b)) Q E s := by
  cases v <;> first
    | exact absurd rfl (hv _)
    | exact absurd rfl (hb _)
    | exact wpAny_pure h
theorem isnot_notbool {M : Model} {A : Around} {E : Value → Shared → Prop} {s : Shared} {Q : Value → Shared → Prop} {v : Value} {b : Bool} (hv : ∀ c, v ≠ .bool c) (hb : ∀ i, v ≠ .builtin i) (h : Q (.bool true) s) : wpAny M A (compareOp .IsNot v (.bool b)) Q E s := by
  cases v <;> first
    | exact absurd rfl (hv _)
    | exact absurd rfl (hb _)
    | exact wpAny_pure h
theorem relV_notbool {w : Wd} {d : D} {x : V} {v : Value} (h : Rep G w d x) (r : RelV x v) (nb : ∀ b, d ≠ .bl b) : ∀ c, v ≠ .bool c := by
  intro c e
  subst e
  cases x with
  | bl b =>
    cases d with
    | bl b' => exact nb _ rfl
    | tup _ => simp only [Rep] at h; obtain ⟨a, vs, e, _⟩ := h; cases e
    | lst _ => simp only [Rep] at h; obtain ⟨a, vs, e, _⟩ := h; cases e
    | scr _ => simp only [Rep] at h; obtain ⟨a, vs, e, _⟩ := h; cases e
    | ins _ _ => simp only [Rep] at h; obtain ⟨_, a, vs, _, e, _⟩ := h; cases e
    | dct _ => simp only [Rep] at h; obtain ⟨a, vs, e, _⟩ := h; cases e
    | cell _ => simp only [Rep] at h; obtain ⟨a, e, _⟩ := h; cases e
    | _ => simp only [Rep] at h; cases h
  | non => cases r
  | int _ => obtain ⟨t, e⟩ := r; cases e
  | str _ => obtain ⟨t, e⟩ := r; cases e
  | byt _ => obtain ⟨t, e⟩ := r; cases e
  | flt _ => obtain ⟨t, e⟩ := r; cases e
  | ref _ => cases r
  | ty _ => cases r
theorem relV_notblt {x : V} {v : Value} (r : RelV x v) : ∀ i, v ≠ .builtin i := by
  intro c e
  subst e
  cases x with
  | bl _ => cases r
  | non => cases r
  | int _ => obtain ⟨t, e⟩ := r; cases e
  | str _ => obtain ⟨t, e⟩ := r; cases e
  | byt _ => obtain ⟨t, e⟩ := r; cases e
  | flt _ => obtain ⟨t, e⟩ := r; cases e
  | ref _ => cases r
  | ty _ => cases r
theorem op_isD {neg : Bool} {pins : List (Addr × Obj)} {s : Shared} {σ : L2.St} {w : Wd} {x y : V} {v u : Value} {Q : VK} {d e : D} {b : Bool} (I : Inv X pins σ w.H s) (rx : RelV x v) (ry : RelV y u) (r1 : Rep G w d x) (r2 : Rep G w e y) (h : isD d e = some b) (q : Q (.bl (if neg then !b else b)) w.H) :
    wpAny (model X.prog X.w) X.A (compareOp (if neg then .IsNot else .Is) v u) (EP X pins σ Q) X.xe s := by
  have toN : e = .non → b = decide (x = .non) → wpAny (model X.prog X.w) X.A (compareOp (if neg then .IsNot else .Is) v u) (EP X pins σ Q) X.xe s := fun he hb => by
    subst he hb
    simp only [Rep] at r2
    subst r2
    cases neg
    · exact op_isN pins s σ w.H _ _ v u Q I rx ry ⟨rfl, q⟩
    · exact op_notN pins s σ w.H _ _ v u Q I rx ry ⟨rfl, q⟩
  have toB : ∀ c, e = .bl c → (∀ b, d ≠ .bl b) → b = false → wpAny (model X.prog X.w) X.A (compareOp (if neg then .IsNot else .Is) v u) (EP X pins σ Q) X.xe s := fun c he hd hb => by
    subst he hb
    simp only [Rep] at r2
    subst r2
    cases ry
    have nb := relV_notbool r1 rx hd
    cases neg
    · exact is_notbool nb (relV_notblt rx) ⟨.bl _, _, I, rfl, q⟩
    · exact isnot_notbool nb (relV_notblt rx) ⟨.bl _, _, I, rfl, q⟩
  unfold isD at h
  split at h
  · rename_i a c
    simp only [Rep] at r1 r2
    subst r1 r2
    cases rx
    cases ry
    cases h
    cases neg
    · exact PyProof.Rows.is_bool ⟨.bl _, _, I, rfl, q⟩
    · exact PyProof.Rows.isnot_bool ⟨.bl _, _, I, rfl, q⟩
  · cases h
    exact toN rfl (by rw [decide_eq_true ((rep_same r1).mp rfl)])
  · cases h
    rename_i hx
    exact toN rfl (by rw [decide_eq_false fun z => hx ((rep_same r1).mpr z)])
  all_goals first
    | (cases h; exact toB _ rfl (by intro b z; cases z) rfl)
    | cases h
theorem cmpI_ok (o : CO) {i j : Int} {b : Bool} (h : cmpI o i j = some b) {pins : List (Addr × Obj)} {s : Shared} {σ : L2.St} {H : Hp} {v u : Value} {Q : VK} (I : Inv X pins σ H s) (rx : RelV (.int i) v) (ry : RelV (.int j) u) (q : Q (.bl b) H) :
    wpAny (model X.prog X.w) X.A (compareOp (toCmp o) v u) (EP X pins σ Q) X.xe s := by
  cases o with
  | lt => simp only [cmpI, Option.some.injEq] at h; subst h; exact op_lt pins s σ H _ _ v u Q I rx ry ⟨i, j, rfl, rfl, q⟩
  | le => simp only [cmpI, Option.some.injEq] at h; subst h; exact op_le pins s σ H _ _ v u Q I rx ry ⟨i, j, rfl, rfl, q⟩
  | gt => simp only [cmpI, Option.some.injEq] at h; subst h; exact op_gt pins s σ H _ _ v u Q I rx ry ⟨i, j, rfl, rfl, q⟩
  | ge => simp only [cmpI, Option.some.injEq] at h; subst h; exact op_ge pins s σ H _ _ v u Q I rx ry ⟨i, j, rfl, rfl, q⟩
  | _ => simp [cmpI] at h
theorem eqD_ok {w : Wd} {d e : D} {b : Bool} (h : eqD w.M d e = some b) : (∃ p q, toPd (now w.M d) = some p ∧ toPd (now w.M e) = some q ∧ SeqAt.shaped p = true ∧ SeqAt.shaped q = true ∧ b = PyData.eqv p q) ∨ ∃ xs ys, seqL w.M d = some xs ∧ seqL w.M e = some ys ∧ xs.length ≠ ys.length ∧ b = false := by
  unfold eqD at h
  split at h
  · rename_i p q e1 e2
    split at h
    · rename_i hs
      simp only [Bool.and_eq_true, shapedB] at hs
      cases h
      exact .inl ⟨p, q, e1, e2, hs.1, hs.2, rfl⟩
    · cases h
  · split at h
    · rename_i xs ys e1 e2
      split at h
      · cases h
      · rename_i hl
        cases h
        exact .inr ⟨xs, ys, e1, e2, hl, rfl⟩
    · cases h
/-- lists of other lengths -/
theorem op_len (hu : X.A.units < cLine) {pins : List (Addr × Obj)} {s : Shared} {σ : L2.St} {H : Hp} {a b : Addr} {vs us : List V} {v u : Value} {Q : VK} (I : Inv X pins σ H s) (h1 : SqL X.K H a vs) (h2 : SqL X.K H b us) (rx : RelV (.ref a) v) (ry : RelV (.ref b) u) (hl : vs.length ≠ us.length) :
    (Q (.bl false) H → wpAny (model X.prog X.w) X.A (compareOp .Eq v u) (EP X pins σ Q) X.xe s) ∧ (Q (.bl true) H → wpAny (model X.prog X.w) X.A (compareOp .NotEq v u) (EP X pins σ Q) X.xe s) := by
  cases rx
  cases ry
  obtain ⟨xs, r1, p1, _⟩ := I.list h1
  obtain ⟨ys, r2, p2, _⟩ := I.list h2
  have e1 := r1.length
  have e2 := r2.length
  have hs : (xs.toArray.size != ys.toArray.size) = true := by
    simp only [List.size_toArray, bne_iff_ne, ne_eq]
    omega
  exact ⟨fun q => SeqAt.RcAt.lists_lengths p1.isList p2.isList hs hu _ _ _ _ ⟨.bl false, H, I, rfl, q⟩, fun q => SeqAt.RcNeAt.lists_lengths p1.isList p2.isList hs hu _ _ _ _ ⟨.bl true, H, I, rfl, q⟩⟩
theorem eqM_or {M : Mem} {d e : D} {b : Bool} (h : eqM M d e = some b) : (∃ s t, d = .str s ∧ e = .str t ∧ b = decide (s = t)) ∨ (∃ s t, d = .int s ∧ e = .int t ∧ b = decide (s = t)) ∨ eqD M d e = some b := by
  unfold eqM at h
  split at h
  · exact .inl ⟨_, _, rfl, rfl, (Option.some.inj h).symm⟩
  · exact .inr (.inl ⟨_, _, rfl, rfl, (Option.some.inj h).symm⟩)
  · exact .inr (.inr h)
theorem dec_str' {s t : Str} : decide (V.str s = V.str t) = decide (s = t) := decide_eq_decide.mpr (by simp)
theorem dec_int' {s t : Int} : decide (V.int s = V.int t) = decide (s = t) := decide_eq_decide.mpr (by simp)
theorem inD_ok {w : Wd} {d e : D} {b : Bool} (h : inD w.M d e = some b) : (∃ p qs, toPd (now w.M d) = some p ∧ toPd (now w.M e) = some (.list qs) ∧ SeqAt.shaped p = true ∧ SeqAt.shaped (.list qs) = true ∧ b = qs.any fun z => PyData.eqv z p) ∨
    ∃ xs, e = .tup xs ∧ flatE d = true ∧ xs.all flatE = true ∧ b = xs.any fun z => eqF z d := by
  unfold inD at h
  split at h
  · rename_i p q e1 e2
    split at h
    · rename_i hs
      simp only [Bool.and_eq_true, shapedB] at hs
      cases h
      exact .inl ⟨p, q, e1, e2, hs.1, hs.2, rfl⟩
    · cases h
  · split at h
    · rename_i xs _
      split at h
      · rename_i hs
        simp only [Bool.and_eq_true] at hs
        cases h
        exact .inr ⟨xs, rfl, hs.1, hs.2, rfl⟩
      · cases h
    · cases h
theorem flat_rep {w : Wd} {d : D} {v : V} (r : Rep G w d v) (h : flatE d = true) : flatV v = true := by
  cases d <;> first | (simp only [Rep] at r; subst r; rfl) | (simp [flatE] at h)
theorem flats_rep {w : Wd} : ∀ {ds : List D} {vs : List V}, RepL G w ds vs → ds.all flatE = true → vs.all flatV = true
  | [], _, r, _ => by simp only [RepL] at r; subst r; rfl
  | d :: ds, _, r, h => by
    simp only [RepL] at r
    obtain ⟨v, q, rfl, r1, r2⟩ := r
    simp only [List.all_cons, Bool.and_eq_true] at h ⊢
    exact ⟨flat_rep r1 h.1, flats_rep r2 h.2⟩
theorem eqF_rep {w : Wd} {d e : D} {v u : V} (r1 : Rep G w d v) (r2 : Rep G w e u) (h1 : flatE d = true) (h2 : flatE e = true) : eqV v u = eqF d e := by
  cases d <;> first | (simp [flatE] at h1; done) | (cases e <;> first | (simp [flatE] at h2; done) | (simp only [Rep] at r1 r2; subst r1 r2; first | (simp [eqV, eqF]; done) | (rename_i a b; by_cases e : a = b <;> simp [eqV, eqF, e])))
theorem inV_rep {w : Wd} {d : D} {v : V} (r : Rep G w d v) (h : flatE d = true) : ∀ {ds : List D} {vs : List V}, RepL G w ds vs → ds.all flatE = true → inV v vs = ds.any fun z => eqF z d
  | [], _, q, _ => by simp only [RepL] at q; subst q; rfl
  | e :: ds, _, q, hs => by
    simp only [RepL] at q
    obtain ⟨u, q', rfl, q1, q2⟩ := q
    simp only [List.all_cons, Bool.and_eq_true] at hs
    have ih := inV_rep r h q2 hs.2
    unfold inV at ih ⊢
    rw [List.any_cons, List.any_cons, ih, eqF_rep q1 r hs.1 h]
theorem op_cmp (hK : X.K = G.K) (hu : X.A.units + 65 < cLine) (o : CO) : OpR X (compareOp (toCmp o)) (rOp G fun x y M => (cmpD o M x y).map .bl) := by
  intro pins s σ H x y v u Q I rx ry h
  obtain ⟨w, d, e, z, rfl, g, r1, r2, hz, q⟩ := h
  obtain ⟨b, hb, rfl⟩ := Option.map_eq_some_iff.mp hz
  have q := q.same g rep_bl
  have hu' : X.A.units + 64 < cLine := by omega
  have ord : ordD o d e = some b → wpAny (model X.prog X.w) X.A (compareOp (toCmp o) v u) (EP X pins σ Q) X.xe s := fun h => by
    unfold ordD at h
    split at h
    · rename_i i j
      simp only [Rep] at r1 r2
      subst r1 r2
      exact cmpI_ok o h I rx ry q
    · cases h
  cases o with
  | eq =>
    rcases eqM_or hb with ⟨s, t, rfl, rfl, rfl⟩ | ⟨s, t, rfl, rfl, rfl⟩ | hb
    · simp only [Rep] at r1 r2
      subst r1 r2
      exact op_eq pins _ σ w.H _ _ v u Q I rx ry ⟨rfl, by rw [dec_str'] ; exact q⟩
    · simp only [Rep] at r1 r2
      subst r1 r2
      exact op_eq pins _ σ w.H _ _ v u Q I rx ry ⟨rfl, by rw [dec_int'] ; exact q⟩
    rcases eqD_ok (w := w) hb with ⟨p, p2, e1, e2, s1, s2, rfl⟩ | ⟨xs, ys, e1, e2, hl, rfl⟩
    rotate_left
    · obtain ⟨a1, vs, rfl, h1, h2⟩ := Rep.lst g r1 e1
      obtain ⟨a2, us, rfl, h3, h4⟩ := Rep.lst g r2 e2
      exact (op_len (by omega) I (by rw [hK]; exact h1) (by rw [hK]; exact h3) rx ry (by rw [← h2.length, ← h4.length]; exact hl)).1 q
    exact op_eqD hu' pins s σ w.H x y v u Q I rx ry ⟨p, p2, by rw [hK]; exact Rep.dpNow g r1 e1, by rw [hK]; exact Rep.dpNow g r2 e2, s1, s2, q⟩
  | ne =>
    obtain ⟨c, hc, rfl⟩ := Option.map_eq_some_iff.mp hb
    rcases eqM_or hc with ⟨s, t, rfl, rfl, rfl⟩ | ⟨s, t, rfl, rfl, rfl⟩ | hc
    · simp only [Rep] at r1 r2
      subst r1 r2
      exact op_ne pins _ σ w.H _ _ v u Q I rx ry ⟨rfl, by rw [dec_str'] ; exact q⟩
    · simp only [Rep] at r1 r2
      subst r1 r2
      exact op_ne pins _ σ w.H _ _ v u Q I rx ry ⟨rfl, by rw [dec_int'] ; exact q⟩
    rcases eqD_ok (w := w) hc with ⟨p, p2, e1, e2, s1, s2, rfl⟩ | ⟨xs, ys, e1, e2, hl, rfl⟩
    rotate_left
    · obtain ⟨a1, vs, rfl, h1, h2⟩ := Rep.lst g r1 e1
      obtain ⟨a2, us, rfl, h3, h4⟩ := Rep.lst g r2 e2
      exact (op_len (by omega) I (by rw [hK]; exact h1) (by rw [hK]; exact h3) rx ry (by rw [← h2.length, ← h4.length]; exact hl)).2 q
    exact op_neD hu' pins s σ w.H x y v u Q I rx ry ⟨p, p2, by rw [hK]; exact Rep.dpNow g r1 e1, by rw [hK]; exact Rep.dpNow g r2 e2, s1, s2, q⟩
  | inn =>
    rcases inD_ok (w := w) hb with ⟨p, p2, e1, e2, s1, s2, rfl⟩ | ⟨xs, rfl, f1, f2, rfl⟩
    · exact op_inD hu pins s σ w.H x y v u Q I rx ry ⟨p, p2, by rw [hK]; exact Rep.dpNow g r1 e1, by rw [hK]; exact Rep.dpNow g r2 e2, s1, s2, q⟩
    · obtain ⟨a, vs, rfl, h1, h2⟩ := Rep.tup r2
      exact op_in_seq pins s σ w.H x _ v u Q I rx ry ⟨a, vs, rfl, .inr (by rw [hK]; exact h1), flat_rep r1 f1, flats_rep h2 f2, by rw [if_neg Bool.false_ne_true, inV_rep r1 f1 h2 f2]; exact q⟩
  | nin =>
    obtain ⟨c, hc, rfl⟩ := Option.map_eq_some_iff.mp hb
    rcases inD_ok (w := w) hc with ⟨p, p2, e1, e2, s1, s2, rfl⟩ | ⟨xs, rfl, f1, f2, rfl⟩
    · exact op_notInD hu pins s σ w.H x y v u Q I rx ry ⟨p, p2, by rw [hK]; exact Rep.dpNow g r1 e1, by rw [hK]; exact Rep.dpNow g r2 e2, s1, s2, q⟩
    · obtain ⟨a, vs, rfl, h1, h2⟩ := Rep.tup r2
      exact op_notIn_seq pins s σ w.H x _ v u Q I rx ry ⟨a, vs, rfl, .inr (by rw [hK]; exact h1), flat_rep r1 f1, flats_rep h2 f2, by rw [if_pos rfl, inV_rep r1 f1 h2 f2]; exact q⟩
  | is => exact op_isD (neg := false) I rx ry r1 r2 hb q
  | isn =>
    obtain ⟨c, hc, rfl⟩ := Option.map_eq_some_iff.mp hb
    exact op_isD (neg := true) I rx ry r1 r2 hc q
  | lt => exact ord hb
  | le => exact ord hb
  | gt => exact ord hb
  | ge => exact ord hb

/-! ### places and cuts -/
theorem atI_rep {w : Wd} {xs : List D} {vs : List V} {i : Int} {z : D} (h : RepL G w xs vs) (e : atI xs i = some z) : ∃ v, atI vs i = some v ∧ Rep G w z v := by
  unfold atI at e ⊢
  rw [← h.length]
  cases k : ixN xs.length i with
  | none => rw [k] at e; cases e
  | some j =>
    rw [k] at e
    exact h.get e
theorem ix_D (hK : X.K = G.K) : IxR X (rOp G fun x y M => ixD M x y) := by
  intro value slice pins s σ H x y v u Q I rx ry h hs
  obtain ⟨w, d, e, z, rfl, g, r1, r2, hz, q⟩ := h
  simp only [ixD] at hz
  split at hz
  · rename_i i
    simp only [Rep] at r2
    subst r2
    split at hz
    · rename_i xs hx
      by_cases ht : ∃ ys, d = .tup ys
      · obtain ⟨ys, rfl⟩ := ht
        simp only [seqA, Option.some.injEq] at hx
        subst hx
        obtain ⟨a, vs, rfl, h1, h2⟩ := Rep.tup r1
        obtain ⟨v2, h3, h4⟩ := atI_rep h2 hz
        exact ix_tup value slice pins s σ w.H _ _ v u Q I rx ry ⟨a, vs, i, v2, rfl, rfl, by rw [hK]; exact h1, h3, q.same g h4⟩ hs
      · have hx' : seqL w.M d = some xs := by
          cases d <;> first | exact hx | exact absurd ⟨_, rfl⟩ ht
        obtain ⟨a, vs, rfl, h1, h2⟩ := Rep.lst g r1 hx'
        obtain ⟨v2, h3, h4⟩ := atI_rep h2 hz
        exact ix_list value slice pins s σ w.H _ _ v u Q I rx ry ⟨a, vs, i, v2, rfl, rfl, by rw [hK]; exact h1, h3, q.same g h4⟩ hs
    · cases hz
  · cases hz
theorem cut_rep {w : Wd} {xs : List D} {vs : List V} (h : RepL G w xs vs) (lo hi : Option Int) : RepL G w (cutD xs lo hi) (cutV vs lo hi) := by
  unfold cutD cutV
  rw [h.length]
  exact (h.drop _).take _
def rSlD (G : Gb) : V → Option Int → Option Int → Hp → VK → Prop := fun x lo hi H Q => ∃ w d z, w.H = H ∧ WOk G w ∧ Rep G w d x ∧ slcD w.M d lo hi = some z ∧ Gives G w z Q
theorem sl_D (hK : X.K = G.K) : SlR X (rSlD G) := by
  intro pins s σ H x v vl vu lo hi sl Q I rx hs pl pu h
  obtain ⟨w, d, z, rfl, g, r1, hz, q⟩ := h
  simp only [slcD] at hz
  split at hz
  · rename_i xs
    cases hz
    have q1 := r1
    obtain ⟨a, vs, rfl, h1, h2⟩ := Rep.tup r1
    refine sl_tupA pins s σ w.H _ v vl vu lo hi sl Q I rx hs pl pu ⟨a, vs, rfl, by rw [hK]; exact h1, fun z => ?_, fun _ => q.tup g (cut_rep h2 lo hi)⟩
    have e : cutD xs lo hi = xs := by
      rw [← h2.length] at z
      unfold cutD
      rw [z.1, z.2, List.drop_zero, Nat.sub_zero, List.take_length]
    rw [e] at q
    exact q.same g q1
  · obtain ⟨xs, hx, rfl⟩ := Option.map_eq_some_iff.mp hz
    obtain ⟨a, vs, rfl, h1, h2⟩ := Rep.lst g r1 hx
    exact sl_list pins s σ w.H _ v vl vu lo hi sl Q I rx hs pl pu ⟨a, vs, rfl, by rw [hK]; exact h1, q.lst g (cut_rep h2 lo hi)⟩

/-! ### truth -/
theorem tru_D (hK : X.K = G.K) {w : Wd} {d : D} {x : V} {b : Bool} (g : WOk G w) (r : Rep G w d x) (h : truth w.M d = some b) : TruV X.K x w.H b := by
  have lst : ∀ xs, seqL w.M d = some xs → b = !xs.isEmpty → TruV X.K x w.H b := fun xs hx hb => by
    obtain ⟨a, vs, rfl, h1, h2⟩ := Rep.lst g r hx
    refine .inl ⟨vs, by rw [hK]; exact h1, ?_⟩
    rw [hb]
    have := h2.nil_iff
    cases xs <;> cases vs <;> simp_all
  cases d with
  | non => simp only [Rep] at r; subst r; simp only [truth, Option.some.injEq] at h; exact h.symm
  | bl c => simp only [Rep] at r; subst r; simp only [truth, Option.some.injEq] at h; exact h.symm
  | int i => simp only [Rep] at r; subst r; simp only [truth, Option.some.injEq] at h; exact h.symm
  | str z =>
    simp only [Rep] at r; subst r
    simp only [truth] at h
    split at h
    · rename_i hl
      cases h
      refine ⟨hl, ?_⟩
      cases hz : z.length with
      | zero => rfl
      | succ n =>
        have e1 : (((n + 1 : Nat) : Int) != 0) = true := by simp; omega
        rw [e1]
        rfl
    · cases h
  | tup xs =>
    obtain ⟨a, vs, rfl, h1, h2⟩ := Rep.tup r
    simp only [truth, Option.some.injEq] at h
    refine .inr (.inl ⟨vs, by rw [hK]; exact h1, ?_⟩)
    rw [← h]
    have := h2.nil_iff
    cases xs <;> cases vs <;> simp_all
  | lst xs => exact lst xs rfl (by simpa [truth, seqL] using h.symm)
  | scr xs => exact lst xs rfl (by simpa [truth, seqL] using h.symm)
  | ins _ _ => simp [truth] at h
  | dct _ => simp [truth, seqL] at h
  | cell i =>
    simp only [truth] at h
    obtain ⟨xs, hx, e⟩ := Option.map_eq_some_iff.mp h
    exact lst xs hx e.symm
end
end Ev
/-! EvB: repr of dicts, and of lists and tuples in which dicts stand. -/
namespace Ev
open PySem L2
section
variable {X : Cx} {G : Gb} {w : Wd} {pins : List (Addr × Obj)} {s : Shared} {σ : L2.St}
theorem leaf_reads {h : Heap} {d : D} {v : V} {u : Value} {p : PyData} (r : Rep G w d v) (ru : RelV v u) (e : leafPd d = some p) : Reads h u p [] := by
  cases d with
  | non =>
    simp only [Rep] at r; subst r
    cases ru
    simp only [leafPd, Option.some.injEq] at e; subst e
    exact Reads.none
  | bl b =>
    simp only [Rep] at r; subst r
    cases ru
    simp only [leafPd, Option.some.injEq] at e; subst e
    exact Reads.bool b
  | int i =>
    simp only [Rep] at r; subst r
    obtain ⟨t, rfl⟩ := ru
    simp only [leafPd, Option.some.injEq] at e; subst e
    exact Reads.int i t
  | str x =>
    simp only [Rep] at r; subst r
    obtain ⟨t, rfl⟩ := ru
    simp only [leafPd, Option.some.injEq] at e; subst e
    exact Reads.str x t
  | _ => simp [leafPd] at e
theorem pairs_reads {h : Heap} : ∀ {kvs : List (Key × D)} {vs : List (Key × V)} {us : List (Key × Value)} {ps : List (PyData × PyData)}, RepK G w kvs vs → KV vs us → dctPd kvs = some ps → PyProof.V.PairsRead h kPd us ps []
  | [], _, _, _, r, q, e => by
    simp only [RepK] at r; subst r
    cases q
    simp only [dctPd, Option.some.injEq] at e; subst e
    exact .nil
  | (k, d) :: kvs, _, _, _, r, q, e => by
    simp only [RepK] at r
    obtain ⟨v, rs, rfl, r1, r2⟩ := r
    cases q with
    | @cons _ b _ _ q1 q2 =>
      obtain ⟨b1, b2⟩ := b
      obtain ⟨e1, e2⟩ := q1
      simp only at e1 e2
      subst e1
      simp only [dctPd] at e
      split at e
      · rename_i p ps' e3 e4
        cases e
        exact .cons (leaf_reads r1 e2 e3) (pairs_reads r2 q2 e4)
      · cases e
theorem dct_reads (I : Inv X pins σ w.H s) {a : Addr} {vs : List (Key × V)} {kvs : List (Key × D)} {ps : List (PyData × PyData)} (e : w.H a = some (.dK vs)) (r : RepK G w kvs vs) (h : dctPd kvs = some ps) : Reads s.heap (.ref a) (.dict ps) [a] ∧ a ≠ sysModules := by
  obtain ⟨_, ne, us, q, dd⟩ := dk_rd I.hok (.inl e)
  refine ⟨PyProof.V.reads_dictOf (fun k v hk => ?_) dd (pairs_reads r q h), fun z => by rw [z] at ne; simp at ne⟩
  rcases keyIs_shape hk with ⟨i, t, rfl, rfl⟩ | ⟨x, t, rfl, rfl⟩
  · exact Reads.int i t
  · exact Reads.str x t
end
end Ev
/-! N2: sum(lists, []). -/
namespace Ev
open PySem L2
/-- the first lists, joined -/
def preA (its : Nat → Array Value) : Nat → Array Value
  | 0 => #[]
  | j + 1 => preA its j ++ its j
section
variable {prog : Program} {w : World} {A : Around} {R : Result → Shared → Prop} {I : Addr} {fp wr : List Addr} {n : Nat} {P : Nat → Value → Prop} {St : Nat → Heap → Prop}
theorem codeAny_sum_lists (W : Walks prog w A.in1 I fp wr n P St) (ls : Nat → Addr) (its : Nat → Array Value) (hP : ∀ i v, P i v → v = .ref (ls i)) (S : Addr) (hSf : S ∉ fp) (hl : ∀ i, i < n → ls i ∉ wr ∧ ls i ≠ S) (hz : ∀ i, i ≤ n → (preA its i).size ≤ sizeLine) (hSt : ∀ i h, St i h → ∀ b ∈ fp, b < h.objs.size) :
    ∀ (k i : Nat) (s : Shared) (T : Addr) (c cT : Nat), n - i = k → i ≤ n → St i s.heap → s.heap.get? S = some { cls := .type "list", dict := none, data := .seq #[.ref T] c, slots := #[] } → IsL s.heap T (preA its i) cT → T ∉ wr → T ≠ S →
    (∀ j, j < n → ∃ m, IsL s.heap (ls j) (its j) m) →
    (∀ h' tk T' cT', (∀ b o, b ∉ wr → b ≠ S → s.heap.get? b = some o → h'.get? b = some o) → IsL h' T' (preA its n) cT' → ((i = n ∧ T' = T) ∨ (i < n ∧ S < T')) → R (.ok (.ret (.ref T'))) { s with heap := h', toks := tk }) →
    codeAny (model prog w) A (.builtin "sum.loop" ⟨[.ref I, .ref S, rawInt 2, rawInt 0], []⟩) R s := by
  have hSw : S ∉ wr := fun h => hSf (W.sub _ h)
  intro k
  induction k with
  | zero =>
    intro i s T c cT hk hi hst hS hT hTw hTS hls hR
    have hin : i = n := by omega
    subst hin
    refine codeAny_builtin F.entry_sum_loop ?_
    rw [Around.under_plainId F.plain_sum_loop _]
    show wpAny _ A.in1 (seqItems? (.ref S) >>= _) _ _ s
    refine wpAny_bind (wpAny_seqItems hS rfl ?_)
    show wpAny _ A.in1 (tryCatch (pyNext (.ref I)) _ >>= _) _ _ s
    refine wpAny_bind (wpAny_tryCatch (W.done s _ _ hst fun h' tk hk' => ?_))
    exact wpAny_pure (hR h' tk T cT (fun b o hbw _ e => hk' b o hbw e) (hk' T _ hTw hT) (.inl ⟨rfl, rfl⟩))
  | succ k ih =>
    intro i s T c cT hk hi hst hS hT hTw hTS hls hR
    have hlt : i < n := by omega
    refine codeAny_builtin F.entry_sum_loop ?_
    rw [Around.under_plainId F.plain_sum_loop _]
    show wpAny _ A.in1 (seqItems? (.ref S) >>= _) _ _ s
    refine wpAny_bind (wpAny_seqItems hS rfl ?_)
    show wpAny _ A.in1 (tryCatch (pyNext (.ref I)) _ >>= _) _ _ s
    refine wpAny_bind (wpAny_tryCatch (W.item i s _ _ hlt hst fun v h' tk hPv hst' hk' => ?_))
    obtain rfl := hP i v hPv
    obtain ⟨m, hm⟩ := hls i hlt
    have hS' := hk' S _ hSw hS
    have hT' : IsL h' T (preA its i) cT := hk' T _ hTw hT
    have hm' : IsL h' (ls i) (its i) m := hk' _ _ (hl i hlt).1 hm
    have hz1 := hz (i + 1) hlt
    simp only [preA, Array.size_append] at hz1
    show wpAny _ A.in1 ((holding [Value.ref (ls i)] (binaryOp .Add (.ref T) (.ref (ls i)))).attempt >>= _) _ _ _
    refine wpAny_bind (wpAny_attempt (wpAny_holding (PySem.P.add_list hT' hm' ?_ hz1)))
    have up : ∀ b o, h'.get? b = some o → (h'.push { cls := .type "list", data := .seq (preA its i ++ its i) }).get? b = some o := fun b o e => Heap.get?_push_of_some _ e
    have hS1 := up _ _ hS'
    show wpAny _ A.in1 (updateSeq S (fun _ => #[Value.ref h'.objs.size]) >>= _) _ _ _
    refine wpAny_bind (wpAny_updateSeq hS1 rfl ?_)
    have hS2 := Heap.get?_update_self (Obj.mapSeq fun _ => #[Value.ref h'.objs.size]) hS1 rfl
    refine wpAny_bind (wpAny_letGo ?_)
    have hSn : S ≠ h'.objs.size := Nat.ne_of_lt (Heap.lt_size hS')
    have off : ∀ b o, b ≠ S → h'.get? b = some o → (((h'.push { cls := .type "list", data := .seq (preA its i ++ its i) }).update S (Obj.mapSeq fun _ => #[Value.ref h'.objs.size])).update S (Obj.mapSeq fun _ => #[Value.ref h'.objs.size])).get? b = some o := fun b o hb e =>
      (Heap.get?_update_other _ _ (Ne.symm hb)).trans ((Heap.get?_update_other _ _ (Ne.symm hb)).trans (up b o e))
    have hI : ∀ b ∈ fp, ∀ o, h'.get? b = some o → (((h'.push { cls := .type "list", data := .seq (preA its i ++ its i) }).update S (Obj.mapSeq fun _ => #[Value.ref h'.objs.size])).update S (Obj.mapSeq fun _ => #[Value.ref h'.objs.size])).get? b = some o := fun b hb o e => off b o (fun z => hSf (by rw [← z]; exact hb)) e
    have hnew : (((h'.push { cls := .type "list", data := .seq (preA its i ++ its i) }).update S (Obj.mapSeq fun _ => #[Value.ref h'.objs.size])).update S (Obj.mapSeq fun _ => #[Value.ref h'.objs.size])).get? h'.objs.size = some { cls := .type "list", data := .seq (preA its i ++ its i) } :=
      (Heap.get?_update_other _ _ hSn).trans ((Heap.get?_update_other _ _ hSn).trans (Heap.get?_push_size _ rfl))
    have nw : h'.objs.size ∉ wr := fun z => Nat.lt_irrefl _ (hSt _ _ hst' _ (W.sub _ z))
    refine wpAny_bind (wpAny_updateSeq hS2 rfl (wpAny_pure ⟨plainId_quiet F.plain_sum_loop _, ?_⟩))
    refine ih (i + 1) _ h'.objs.size _ 0 (by omega) hlt (W.frame _ _ _ hst' hI) (Heap.get?_update_self _ hS2 rfl) hnew nw (Ne.symm hSn) (fun j hj => ?_) fun h2 tk2 T2 c2 k2 t2 d2 => ?_
    · obtain ⟨m2, e2⟩ := hls j hj
      exact ⟨m2, off _ _ (hl j hj).2 (hk' _ _ (hl j hj).1 e2)⟩
    · refine hR h2 tk2 T2 c2 (fun b o hbw hbS e => k2 b o hbw hbS (off b o hbS (hk' b o hbw e))) t2 (.inr ⟨hlt, ?_⟩)
      rcases d2 with ⟨_, rfl⟩ | ⟨_, z⟩
      · exact Heap.lt_size hS'
      · exact z
end
theorem args_sum2 (a b : Value) : argsOk "sum" ⟨[a, b], []⟩ := by unfold argsOk; kernel_rfl
theorem sub_list_str : isSubtype (.type "list") (.type "str") = pure false := by rw [isSubtype_type]; kernel_rfl
theorem sub_list_bytes : isSubtype (.type "list") (.type "bytes") = pure false := by rw [isSubtype_type]; kernel_rfl
theorem sub_list_bytearray : isSubtype (.type "list") (.type "bytearray") = pure false := by rw [isSubtype_type]; kernel_rfl
section
variable {prog : Program} {w : World} {A : Around} {E : Value → Shared → Prop} {s : Shared}
theorem sum_lists {a b cT : Addr} {items : Array Value} {ls : Nat → Addr} {its : Nat → Array Value} {Q : Value → Shared → Prop} (hh : A.handled = none) (hl : s.heap.IsList a items) (hi : ∀ (i : Nat) (v : Value), items[i]? = some v → v = .ref (ls i)) (hb : IsL s.heap b #[] cT) (hits : ∀ j, j < items.size → ∃ m, IsL s.heap (ls j) (its j) m) (hz : ∀ i, i ≤ items.size → (preA its i).size ≤ sizeLine)
    (h : ∀ h' tk T' cT', (∀ c o, s.heap.get? c = some o → h'.get? c = some o) → IsL h' T' (preA its items.size) cT' → ((items.size = 0 ∧ T' = b) ∨ (0 < items.size ∧ s.heap.objs.size ≤ T')) → Q (.ref T') { s with heap := h', toks := tk }) :
    wpAny (model prog w) A (call (.builtin "sum") [.ref a, .ref b]) Q E s := by
  refine call_function_tree F.kind_sum F.plain_sum F.entry_sum (args_sum2 _ _) ?_
  unfold Builtin.«sum»
  simp only [List.length_cons, List.length_nil]
  rw [if_neg (by decide)]
  refine wpAny_bind (wpAny_of_eq (show Builtin.Builtins.bindParams "sum" ["start"] 0 { pos := [.ref b] } = pure [some (.ref b)] from rfl) ?_)
  refine wpAny_bind (wpAny_pyIter_list hl ?_)
  refine wpAny_bind (wpAny_pure ?_)
  have hb1 : IsL (s.heap.push { cls := .type "list_iterator", data := .fields #[.ref a, .int 0 0] }) b #[] cT := Heap.get?_push_of_some _ hb
  have tb : ∀ s1 : Shared, s1.heap = s.heap.push { cls := .type "list_iterator", data := .fields #[.ref a, .int 0 0] } → s1.TypeIs (.ref b) "list" := fun s1 e => ⟨_, by rw [e]; exact hb1, rfl⟩
  simp only [List.forIn_cons, List.forIn_nil]
  refine wpAny_bind (wpAny_bind (wpAny_bind (wpAny_isInstance (T := "list") (b := false) (tb _ rfl) sub_list_str ?_)))
  simp only [Bool.false_eq_true, if_false]
  refine wpAny_pure (wpAny_bind (wpAny_bind (wpAny_isInstance (T := "list") (b := false) (tb _ rfl) sub_list_bytes ?_)))
  simp only [Bool.false_eq_true, if_false]
  refine wpAny_pure (wpAny_bind (wpAny_bind (wpAny_isInstance (T := "list") (b := false) (tb _ rfl) sub_list_bytearray ?_)))
  simp only [Bool.false_eq_true, if_false]
  refine wpAny_pure (wpAny_pure ?_)
  refine wpAny_bind (wpAny_newObj_type ?_)
  have ha : a < s.heap.objs.size := let ⟨_, ho, _⟩ := hl; Heap.lt_size ho
  have W := Walks.list (prog := prog) (w := w) (A := A.in1) hh s.heap.objs.size a (Nat.ne_of_lt ha) items
  have sz : (s.heap.push { cls := .type "list_iterator", data := .fields #[.ref a, .int 0 0] }).objs.size = s.heap.objs.size + 1 := Heap.size_push ..
  have low : ∀ {c : Addr} {o : Obj}, s.heap.get? c = some o → c ∉ [s.heap.objs.size] ∧ c ≠ (s.heap.push { cls := .type "list_iterator", data := .fields #[.ref a, .int 0 0] }).objs.size := fun {c o} e => by
    have := Heap.lt_size e
    rw [sz]
    refine ⟨fun z => ?_, fun z => ?_⟩
    · rw [List.mem_singleton.mp z] at this
      exact Nat.lt_irrefl _ this
    · rw [z] at this
      exact Nat.lt_irrefl _ (Nat.lt_of_succ_lt this)
  refine wpAny_pure ⟨plainId_quiet F.plain_sum_loop _, codeAny_sum_lists W ls its (fun i v hv => hi i v hv) _ ?_ (fun i hi' => ?_) hz ?_ items.size 0 _ b _ cT rfl (Nat.zero_le _) ?_ (Heap.get?_push_size _ rfl) (Heap.get?_push_of_some _ hb1) (low hb).1 (low hb).2 (fun j hj => ?_) fun h' tk T' cT' hk hT' hd => ?_⟩
  · intro z
    rw [sz] at z
    rcases List.mem_cons.mp z with e | e
    · exact absurd e (Nat.succ_ne_self _)
    · have q : s.heap.objs.size + 1 < s.heap.objs.size := by
        rw [List.mem_singleton.mp e]
        exact ha
      exact Nat.lt_irrefl _ (Nat.lt_of_succ_lt q)
  · obtain ⟨m, e⟩ := hits i hi'
    exact low e
  · intro i h st c hc
    obtain ⟨⟨o, ho, _⟩, o2, ho2, _⟩ := st
    rcases List.mem_cons.mp hc with rfl | hc
    · exact Heap.lt_size ho
    · rw [List.mem_singleton.mp hc]
      exact Heap.lt_size ho2
  · exact ⟨⟨_, Heap.get?_push_of_some _ (Heap.get?_push_size _ rfl), rfl, rfl⟩, (hl.push _).push _⟩
  · obtain ⟨m, e⟩ := hits j hj
    exact ⟨m, Heap.get?_push_of_some _ (Heap.get?_push_of_some _ e)⟩
  · refine h h' tk T' cT' (fun c o e => hk c o (low e).1 (low e).2 (Heap.get?_push_of_some _ (Heap.get?_push_of_some _ e))) hT' ?_
    rcases hd with ⟨e1, e2⟩ | ⟨e1, e2⟩
    · exact .inl ⟨e1.symm, e2⟩
    · refine .inr ⟨e1, ?_⟩
      rw [sz] at e2
      exact Nat.le_of_lt (Nat.lt_of_succ_lt e2)
end
/-- sum(xs, []) -/
def rSumL (K : PySem.W.Frag) : List V → Hp → VK → Prop := fun vs H Q => ∃ (a b : Addr) (ls : List Addr) (xss : List (List V)), vs = [.ref a, .ref b] ∧ SqL K H a (ls.map V.ref) ∧ H b = some (.lst []) ∧ Paired (fun l xs => H l = some (.lst xs)) ls xss ∧ xss.flatten.length ≤ sizeLine ∧
  (ls = [] → Q (.ref b) H) ∧ ∀ p, H p = none → Q (.ref p) (upd H p (.lst xss.flatten))
theorem pre_flat {xss : List (List Value)} {its : Nat → Array Value} (h : ∀ (i : Nat) (xs : List Value), xss[i]? = some xs → its i = xs.toArray) : ∀ i, i ≤ xss.length → preA its i = ((xss.take i).flatten).toArray
  | 0, _ => by simp [preA]
  | i + 1, hi => by
    have hx : xss[i]? = some (xss[i]'(by omega)) := List.getElem?_eq_getElem (by omega)
    rw [preA, pre_flat h i (by omega), h i _ hx, List.take_add_one, hx, List.flatten_append]
    simp only [Option.toList_some, List.flatten_cons, List.flatten_nil, List.append_nil, List.append_toArray]
theorem paired_all {X : Cx} {pins : List (Addr × Obj)} {σ : L2.St} {H : Hp} {s : Shared} (I : Inv X pins σ H s) : ∀ {ls : List Addr} {xss : List (List V)}, Paired (fun l xs => H l = some (HO.lst xs)) ls xss → ∃ uss : List (List Value), Paired (fun xs us => Vals xs us) xss uss ∧ Paired (fun l us => ∃ n, IsL s.heap l us.toArray n) ls uss
  | _, _, .nil => ⟨[], .nil, .nil⟩
  | l :: _, xs :: _, .cons h t => by
    obtain ⟨uss, h1, h2⟩ := paired_all I t
    obtain ⟨_, us, n, rv, e⟩ := (show ObjOk X.prog X.w H s.heap l (.lst xs) from I.hok l _ h)
    exact ⟨us :: uss, .cons rv h1, .cons ⟨n, e⟩ h2⟩
theorem paired_nth {α β : Type} {F : α → β → Prop} : ∀ {xs : List α} {ys : List β} {j : Nat}, Paired F xs ys → j < ys.length → ∃ x y, xs[j]? = some x ∧ ys[j]? = some y ∧ F x y
  | _, _, _, .nil, h => by simp at h
  | _, _, 0, .cons r _, _ => ⟨_, _, rfl, rfl, r⟩
  | _, _, j + 1, .cons _ t, h => by
    obtain ⟨x, y, e1, e2, e3⟩ := paired_nth (j := j) t (by simpa using h)
    exact ⟨x, y, e1, e2, e3⟩
theorem vals_refs_nth : ∀ {ls : List Addr} {us : List Value} {i : Nat} {v : Value}, Vals (ls.map V.ref) us → us[i]? = some v → v = .ref (ls.getD i 0)
  | [], us, i, v, r, h => by
    rw [List.map_nil] at r
    cases r
    simp at h
  | l :: ls, us, i, v, r, h => by
    rw [List.map_cons] at r
    cases r with
    | @cons a b as bs x t =>
      cases i with
      | zero =>
        simp only [List.getElem?_cons_zero, Option.some.injEq] at h
        subst h
        exact x
      | succ i =>
        rw [List.getElem?_cons_succ] at h
        have := vals_refs_nth t h
        rw [this]
        simp
theorem vals_flat : ∀ {xss : List (List V)} {uss : List (List Value)}, Paired (fun xs us => Vals xs us) xss uss → Vals xss.flatten uss.flatten
  | _, _, .nil => .nil
  | _, _, .cons h t => by
    rw [List.flatten_cons, List.flatten_cons]
    have : ∀ {a : List V} {b : List Value} {c : List V} {d : List Value}, Vals a b → Vals c d → Vals (a ++ c) (b ++ d) := fun {a b c d} h1 h2 => by
      induction h1 with
      | nil => exact h2
      | cons x _ ih => exact .cons x ih
    exact this h (vals_flat t)
theorem call_sumL {X : Cx} (hc : X.calm = true) : CallR X (.builtin "sum") (rSumL X.K) := by
  intro pins s σ H vs us Q I r h
  obtain ⟨a, b, ls, xss, rfl, ha, hb, hp, hz, q0, q⟩ := h
  obtain ⟨u1, u2, rfl, r1, r2⟩ := vals2 r
  cases (show u1 = Value.ref a from r1)
  cases (show u2 = Value.ref b from r2)
  obtain ⟨its, rv, pl, _⟩ := I.list ha
  obtain ⟨uss, v1, v2⟩ := paired_all I hp
  obtain ⟨_, its0, n0, rv0, hb0⟩ := (show ObjOk X.prog X.w H s.heap b (.lst []) from I.hok b _ hb)
  cases rv0
  have hlen : its.length = uss.length := by
    have h1 := rv.length
    rw [List.length_map] at h1
    have h2 := Paired.length v2
    omega
  have hvf := vals_flat v1
  have hpre := pre_flat (xss := uss) (its := fun i => (uss.getD i []).toArray) (fun i xs hx => by simp [List.getD_eq_getElem?_getD, hx])
  refine sum_lists (ls := fun i => ls.getD i 0) (its := fun i => (uss.getD i []).toArray) (I.ok.hd hc) pl.isList (fun i v hv => ?_) hb0 (fun j hj => ?_) (fun i hi => ?_) fun h' tk T' cT' hk hT' hd => ?_
  · exact vals_refs_nth rv (by simpa using hv)
  · obtain ⟨l, us, e1, e2, n, e3⟩ := paired_nth v2 (j := j) (by simp at hj; omega)
    refine ⟨n, ?_⟩
    simp only [List.getD_eq_getElem?_getD, e1, e2, Option.getD_some]
    exact e3
  · have hi' : i ≤ uss.length := by simp at hi; omega
    rw [hpre i hi', List.size_toArray]
    have h1 : (uss.take i).flatten.length ≤ uss.flatten.length := by
      have e : uss.flatten = (uss.take i).flatten ++ (uss.drop i).flatten := by rw [← List.flatten_append, List.take_append_drop]
      rw [e, List.length_append]
      omega
    have h2 := hvf.length
    omega
  · have e0 : its.toArray.size = uss.length := by simp [hlen]
    rw [e0] at hT' hd
    rw [hpre _ (Nat.le_refl _), List.take_length] at hT'
    rcases hd with ⟨d1, rfl⟩ | ⟨d1, d2⟩
    · have : uss = [] := List.length_eq_zero_iff.mp d1
      subst this
      have hls : ls = [] := by
        have := Paired.length v2
        exact List.length_eq_zero_iff.mp this
      exact ⟨.ref _, H, I.kept (t' := tk) hk, rfl, q0 hls⟩
    · exact ⟨.ref T', _, I.laid (t' := tk) hk d2 (show ObjOk X.prog X.w _ h' T' (.lst xss.flatten) from ⟨hz, uss.flatten, cT', hvf, hT'⟩), rfl, q T' (I.hok.fresh d2)⟩
end Ev
/-! Ev4: built-in calls and methods over data. -/
namespace Ev
open PySem L2
section
variable {X : Cx} {G : Gb}
mutual
theorem noDict : ∀ (d : D) (p : PyData), toPd d = some p → p.hasDict = false
  | .non, p, e => by simp only [toPd, Option.some.injEq] at e; subst e; simp only [PyData.hasDict]
  | .bl b, p, e => by simp only [toPd, Option.some.injEq] at e; subst e; simp only [PyData.hasDict]
  | .int i, p, e => by simp only [toPd, Option.some.injEq] at e; subst e; simp only [PyData.hasDict]
  | .str s, p, e => by simp only [toPd, Option.some.injEq] at e; subst e; simp only [PyData.hasDict]
  | .tup xs, p, e => by
    simp only [toPd, Option.map_eq_some_iff] at e
    obtain ⟨ps, e1, rfl⟩ := e
    simp only [PyData.hasDict]
    exact noDicts xs ps e1
  | .lst xs, p, e => by
    simp only [toPd, Option.map_eq_some_iff] at e
    obtain ⟨ps, e1, rfl⟩ := e
    simp only [PyData.hasDict]
    exact noDicts xs ps e1
  | .scr xs, p, e => by
    simp only [toPd, Option.map_eq_some_iff] at e
    obtain ⟨ps, e1, rfl⟩ := e
    simp only [PyData.hasDict]
    exact noDicts xs ps e1
  | .ins _ _, p, e => by simp [toPd] at e
  | .cell _, p, e => by simp [toPd] at e
theorem noDicts : ∀ (ds : List D) (ps : List PyData), toPds ds = some ps → PyData.hasDictAll ps = false
  | [], ps, e => by simp only [toPds, Option.some.injEq] at e; subst e; simp only [PyData.hasDictAll]
  | d :: ds, ps, e => by
    simp only [toPds] at e
    split at e
    · rename_i p qs e1 e2
      cases e
      simp only [PyData.hasDictAll, noDict d p e1, noDicts ds qs e2, Bool.or_false]
    · cases e
end
theorem noDict_now {M : Mem} {d : D} {p : PyData} (e : toPd (now M d) = some p) : p.hasDict = false := noDict _ _ e
theorem rep1 {w : Wd} {d : D} {xs : List V} (h : RepL G w [d] xs) : ∃ v, xs = [v] ∧ Rep G w d v := by
  simp only [RepL] at h
  obtain ⟨v, r, rfl, h1, rfl⟩ := h
  exact ⟨v, rfl, h1⟩

def biVal : Bi → Value
  | .int => .type "int" | .len => .builtin "len" | .abs => .builtin "abs" | .repr => .builtin "repr" | .str => .type "str" | .tuple => .type "tuple" | .list => .type "list" | .all => .builtin "all" | .any => .builtin "any" | .bool => .type "bool" | .min => .builtin "min" | .max => .builtin "max" | .sum => .builtin "sum" | .sorted => .builtin "sorted"

theorem call_repr (hK : X.K = G.K) (hu : X.A.units + 100 < cLine) (hg : X.A.guards = some []) {pins : List (Addr × Obj)} {s : Shared} {σ : L2.St} {w : Wd} {v : V} {u : Value} {Q : VK} {d : D} {p : PyData} (I : Inv X pins σ w.H s) (g : WOk G w) (r : Rep G w d v) (ru : RelV v u)
    (e : toPd (now w.M d) = some p) (hs : p.showable = true) (hd : p.depth ≤ 40) (hz : p.shown.length ≤ sizeLine) (q : Q (.str p.shown) w.H) : wpAny (model X.prog X.w) X.A (call (.builtin "repr") [u]) (EP X pins σ Q) X.xe s := by
  have hp := Rep.dpNow g r e
  rw [← hK] at hp
  obtain ⟨as, rd⟩ := Dp.reads I p v u hp ru
  have nd := noDict_now e
  cases rd with
  | none =>
    have q' : Q (.str "None") w.H := by simpa [PyData.shown] using q
    exact PySem.P.repr_of_none ⟨.str _, w.H, I.tok _, ⟨_, rfl⟩, q'⟩
  | bool b =>
    have q' : Q (.str (if b then "True" else "False")) w.H := by
      cases b <;> simpa [PyData.shown] using q
    exact PySem.P.repr_of_bool ⟨.str _, w.H, I.tok _, ⟨_, rfl⟩, q'⟩
  | int i t =>
    have q' : Q (.str (toString i)) w.H := by simpa [PyData.shown] using q
    have hi : i.natAbs.log2 < 1920 := by simpa [PyData.showable] using hs
    exact PySem.P.repr_of_int hi ⟨.str _, w.H, I.tok _, ⟨_, rfl⟩, q'⟩
  | str x t =>
    have q' : Q (.str (reprText x)) w.H := by simpa [PyData.shown] using q
    exact PySem.P.repr_of_str ⟨.str _, w.H, I.tok _, ⟨_, rfl⟩, q'⟩ (by simpa [PyData.shown] using hz)
  | list h1 h2 h3 h4 =>
    refine PySem.repr_of_reads' (Reads.list h1 h2 h3 h4) hs (PyData.noDict_hsm nd) hg (by omega) (fun _ _ x => x) (fun h' tu tk hk => ?_) hz
    exact ⟨.str _, w.H, I.kept (t' := tk) hk, ⟨_, rfl⟩, q⟩
  | tuple h1 h2 h3 h4 =>
    refine PySem.repr_of_reads' (Reads.tuple h1 h2 h3 h4) hs (PyData.noDict_hsm nd) hg (by omega) (fun _ _ x => x) (fun h' tu tk hk => ?_) hz
    exact ⟨.str _, w.H, I.kept (t' := tk) hk, ⟨_, rfl⟩, q⟩
  | dict _ _ _ _ _ => simp [PyData.hasDict] at nd

theorem reads_pr1 (hK : X.K = G.K) {pins : List (Addr × Obj)} {s : Shared} {σ : L2.St} {w : Wd} {d : D} {v : V} {u : Value} {p : PyData} (I : Inv X pins σ w.H s) (r : Rep G w d v) (ru : RelV v u) (e : toPr1 d = some p) : ∃ as, Reads s.heap u p as ∧ (p.hasDict = true → sysModules ∉ as) := by
  by_cases hd : ∃ kvs, d = .dct kvs
  · obtain ⟨kvs, rfl⟩ := hd
    simp only [toPr1] at e
    obtain ⟨ps, h, rfl⟩ := Option.map_eq_some_iff.mp e
    simp only [Rep] at r
    obtain ⟨a, vs, rfl, q, rk⟩ := r
    cases ru
    obtain ⟨h1, h2⟩ := dct_reads I q.1 rk h
    exact ⟨[a], h1, fun _ z => h2 (List.mem_singleton.mp z).symm⟩
  · have e' : toPd d = some p := by
      cases d <;> first | exact e | exact absurd ⟨_, rfl⟩ hd
    have hp := Rep.dp d v p r e'
    rw [← hK] at hp
    obtain ⟨as, rd⟩ := Dp.reads I p v u hp ru
    exact ⟨as, rd, fun z => by rw [noDict d p e'] at z; cases z⟩
theorem all_pr (hK : X.K = G.K) {pins : List (Addr × Obj)} {s : Shared} {σ : L2.St} {w : Wd} (I : Inv X pins σ w.H s) : ∀ {ds : List D} {vs : List V} {us : List Value} {ps : List PyData}, RepL G w ds vs → Vals vs us → toPrs ds = some ps →
    PyData.showableAll ps = true → (∀ t ∈ PyData.shownAll ps, t.length ≤ sizeLine) →
    (∃ as, ReadsAll s.heap us ps as) ∧ ∃ bs, ReadAtMost s.heap (PyData.depthAll ps) bs ∧ ReprAllK X.prog X.w bs s.heap (PyData.depthAll ps) us (PyData.shownAll ps)
  | [], _, _, _, r, q, e, _, _ => by
    simp only [RepL] at r; subst r
    cases q
    simp only [toPrs, Option.some.injEq] at e; subst e
    refine ⟨⟨[], .nil⟩, [], fun _ z => (nomatch z), ?_⟩
    simp only [PyData.shownAll]
    exact ReprAllK.nil
  | d :: ds, _, _, _, r, q, e, hs, hz => by
    simp only [RepL] at r
    obtain ⟨v, rs, rfl, r1, r2⟩ := r
    cases q with
    | cons q1 q2 =>
      simp only [toPrs] at e
      split at e
      · rename_i p ps' e1 e2
        cases e
        simp only [PyData.showableAll, Bool.and_eq_true] at hs
        simp only [PyData.shownAll, List.mem_cons] at hz
        obtain ⟨as, a1, a2⟩ := reads_pr1 hK I r1 q1 e1
        obtain ⟨⟨cs, c1⟩, bs, b1, b2⟩ := all_pr hK I r2 q2 e2 hs.2 fun t ht => hz t (.inr ht)
        obtain ⟨ks, k1, k2⟩ := ReprK.of_reads (prog := X.prog) (w := X.w) a1 hs.1 a2 (hz _ (.inl rfl))
        have m1 : p.depth ≤ PyData.depthAll (p :: ps') := by simp only [PyData.depthAll]; exact Nat.le_max_left _ _
        have m2 : PyData.depthAll ps' ≤ PyData.depthAll (p :: ps') := by simp only [PyData.depthAll]; exact Nat.le_max_right _ _
        refine ⟨⟨_, ReadsAll.cons a1 c1⟩, ks ++ bs, (k1.mono m1).append (b1.mono m2), ?_⟩
        have t1 := (k2.more (as' := ks ++ bs) fun z hz => List.mem_append.mpr (.inl hz)).level_le m1
        have t2 := b2.more_le (as' := ks ++ bs) (fun z hz => List.mem_append.mpr (.inr hz)) m2
        simp only [PyData.shownAll]
        exact ReprAllK.cons t1 t2
      · cases e
theorem repr_of_shows {A : Around} {E : Value → Shared → Prop} {s : Shared} {Q : Value → Shared → Prop} {a : Addr} {d : PyData} {T idr : String} (S : ShowsBy X.prog X.w s.heap a d T idr) (hg : A.guards = some []) (hu : A.units + (d.depth + 1) < cLine)
    (hQ : ∀ h' u tk, (∀ b o, s.heap.get? b = some o → h'.get? b = some o) → Q (.str d.shown u) { s with heap := h', toks := tk }) : wpAny (model X.prog X.w) A (call (.builtin "repr") [.ref a]) Q E s := by
  have hu1 : A.units + 1 + d.depth < cLine := by omega
  refine call_repr_slot (by omega) (S.typeIs s fun _ _ z => z) S.slotRepr (S.call A.in1 E s _ hg hu1 (fun _ _ z => z) fun h' u tk hk => ?_)
  exact ⟨_, _, rfl, hQ h' u tk hk⟩
theorem call_repr2 (hK : X.K = G.K) (hu : X.A.units + 100 < cLine) (hg : X.A.guards = some []) {pins : List (Addr × Obj)} {s : Shared} {σ : L2.St} {w : Wd} {v : V} {u : Value} {Q : VK} {d : D} {p : PyData} (I : Inv X pins σ w.H s) (g : WOk G w) (r : Rep G w d v) (ru : RelV v u)
    (e : toPr (now w.M d) = some p) (hs : p.showable = true) (hd : p.depth ≤ 40) (hz : p.shown.length ≤ sizeLine) (q : Q (.str p.shown) w.H) : wpAny (model X.prog X.w) X.A (call (.builtin "repr") [u]) (EP X pins σ Q) X.xe s := by
  have fin : ∀ {a : Addr} {T idr : String}, ShowsBy X.prog X.w s.heap a p T idr → wpAny (model X.prog X.w) X.A (call (.builtin "repr") [.ref a]) (EP X pins σ Q) X.xe s := fun S =>
    repr_of_shows S hg (by omega) fun h' tu tk hk => ⟨.str _, w.H, I.kept (t' := tk) hk, ⟨_, rfl⟩, q⟩
  have lst : ∀ xs, seqL w.M d = some xs → wpAny (model X.prog X.w) X.A (call (.builtin "repr") [u]) (EP X pins σ Q) X.xe s := fun xs hx => by
    have en : now w.M d = .lst xs := by unfold now; rw [hx]
    rw [en] at e
    simp only [toPr] at e
    obtain ⟨ps, h, rfl⟩ := Option.map_eq_some_iff.mp e
    obtain ⟨a, vs, rfl, h1, h2⟩ := Rep.lst g r hx
    cases ru
    rw [← hK] at h1
    obtain ⟨its, rv, ⟨o, n, ho, hc, _, hd'⟩, _⟩ := I.list h1
    have hz' : (listText (PyData.shownAll ps)).length ≤ sizeLine := by simpa only [PyData.shown] using hz
    obtain ⟨⟨as, ra⟩, bs, hb, hk⟩ := all_pr hK I h2 rv h (by simpa only [PyData.showable] using hs) fun t ht => Nat.le_trans (listText_mem_le ht) hz'
    have deep : PyData.depthAll ps < (PyData.list ps).depth := by simp only [PyData.depth]; omega
    have hna : a ∉ bs := not_mem_of_deeper (Reads.list ho hc hd' ra) deep hb
    refine fin (T := "list") (idr := "list.__repr__") ⟨F.slot_list_repr.toG, F.slot_list_str, F.slot_list_format, fun s2 hk0 => ⟨o, hk0 _ _ ho, hc⟩, fun A E s2 Q2 hg2 hu2 hk0 hQ => ?_⟩
    simp only [PyData.depth] at hu2
    simp only [PyData.shown] at hQ
    cases its with
    | nil =>
      cases ra
      simp only [PyData.shownAll, listText_nil] at hQ
      exact call_list_repr_empty ⟨o, hk0 _ _ ho, hc⟩ (hk0 _ _ ho) hd' (hQ s2.heap _ _ fun _ _ z => z)
    | cons y ys =>
      refine call_list_reprK ho hc hd' hna (by simpa using hk.length_eq) (fun i z ez => ?_) hg2 (fun b _ => Clear.nil b) hu2 hk0 hQ hz'
      exact hk.item i z (by simpa using ez)
  cases d with
  | tup xs =>
    have en : now w.M (.tup xs) = .tup xs := rfl
    rw [en] at e
    simp only [toPr] at e
    obtain ⟨ps, h, rfl⟩ := Option.map_eq_some_iff.mp e
    obtain ⟨a, vs, rfl, h1, h2⟩ := Rep.tup r
    cases ru
    rw [← hK] at h1
    obtain ⟨its, rv, ⟨o, ho, hc, n, hd'⟩, _⟩ := I.tuple h1
    have hz' : (tupleText (PyData.shownAll ps)).length ≤ sizeLine := by simpa only [PyData.shown] using hz
    obtain ⟨⟨as, ra⟩, bs, hb, hk⟩ := all_pr hK I h2 rv h (by simpa only [PyData.showable] using hs) fun t ht => Nat.le_trans (tupleText_mem_le ht) hz'
    have deep : PyData.depthAll ps < (PyData.tuple ps).depth := by simp only [PyData.depth]; omega
    have hna : a ∉ bs := not_mem_of_deeper (Reads.tuple ho hc hd' ra) deep hb
    refine fin (T := "tuple") (idr := "tuple.__repr__") ⟨F.slot_tuple_repr, F.slot_tuple_str, F.slot_tuple_format, fun s2 hk0 => ⟨o, hk0 _ _ ho, hc⟩, fun A E s2 Q2 hg2 hu2 hk0 hQ => ?_⟩
    simp only [PyData.depth] at hu2
    simp only [PyData.shown] at hQ
    exact call_tuple_reprK ho hc hd' hna hk hg2 (fun b _ => Clear.nil b) hu2 hk0 hQ hz'
  | lst xs => exact lst xs rfl
  | scr xs => exact lst xs rfl
  | cell i =>
    cases hx : seqL w.M (.cell i) with
    | some xs => exact lst xs hx
    | none => simp [now, hx, toPr] at e
  | dct kvs =>
    have en : now w.M (.dct kvs) = .dct kvs := rfl
    rw [en] at e
    simp only [toPr] at e
    obtain ⟨ps, h, rfl⟩ := Option.map_eq_some_iff.mp e
    simp only [Rep] at r
    obtain ⟨a, vs, rfl, qa, rk⟩ := r
    cases ru
    obtain ⟨h1, h2⟩ := dct_reads I qa.1 rk h
    refine PySem.repr_of_reads' h1 hs (fun _ z => h2 (List.mem_singleton.mp z).symm) hg (by omega) (fun _ _ z => z) (fun h' tu tk hk => ?_) hz
    exact ⟨.str _, w.H, I.kept (t' := tk) hk, ⟨_, rfl⟩, q⟩
  | _ => simp [now, seqL, toPr] at e
/-- str of a list -/
theorem call_strL (hK : X.K = G.K) (hu : X.A.units + 100 < cLine) (hg : X.A.guards = some []) {pins : List (Addr × Obj)} {s : Shared} {σ : L2.St} {w : Wd} {v : V} {u : Value} {Q : VK} {xs : List D} {ps : List PyData} (I : Inv X pins σ w.H s) (g : WOk G w) (r : Rep G w (.lst xs) v) (ru : RelV v u)
    (e : toPds xs = some ps) (hs : (PyData.list ps).showable = true) (hd : (PyData.list ps).depth ≤ 40) (hz : (PyData.list ps).shown.length ≤ sizeLine) (q : Q (.str (PyData.list ps).shown) w.H) : wpAny (model X.prog X.w) X.A (call (.type "str") [u]) (EP X pins σ Q) X.xe s := by
  have e' : toPd (.lst xs) = some (.list ps) := by simp only [toPd, e, Option.map_some]
  have hp := Rep.dp _ v _ r e'
  rw [← hK] at hp
  obtain ⟨as, rd⟩ := Dp.reads I _ v u hp ru
  simp only [Rep] at r
  obtain ⟨a, vs, rfl, _⟩ := r
  cases ru
  refine PySem.str_of_reads rd hs (PyData.noDict_hsm (noDict _ _ e')) hg (by omega) (fun _ _ z => z) (fun h' tu tk hk => ?_) hz
  exact ⟨.str _, w.H, I.kept (t' := tk) hk, ⟨_, rfl⟩, q⟩

theorem rep2 {w : Wd} {d e : D} {xs : List V} (h : RepL G w [d, e] xs) : ∃ v u, xs = [v, u] ∧ Rep G w d v ∧ Rep G w e u := by
  simp only [RepL] at h
  obtain ⟨v, r, rfl, h1, u, r2, rfl, h2, rfl⟩ := h
  exact ⟨v, u, rfl, h1, h2⟩
theorem rep_bls {w : Wd} : ∀ {ds : List D} {vs : List V} {bs : List Bool}, RepL G w ds vs → blsD ds = some bs → vs = bs.map V.bl
  | [], _, bs, h, e => by
    simp only [RepL] at h
    simp only [blsD, Option.some.injEq] at e
    subst h e
    rfl
  | .bl b :: ds, _, bs, h, e => by
    simp only [RepL] at h
    obtain ⟨v, r, rfl, h1, h2⟩ := h
    simp only [Rep] at h1
    subst h1
    simp only [blsD] at e
    obtain ⟨cs, hc, rfl⟩ := Option.map_eq_some_iff.mp e
    rw [rep_bls h2 hc]
    rfl
  | .non :: _, _, _, _, e => by simp [blsD] at e
  | .int _ :: _, _, _, _, e => by simp [blsD] at e
  | .str _ :: _, _, _, _, e => by simp [blsD] at e
  | .tup _ :: _, _, _, _, e => by simp [blsD] at e
  | .lst _ :: _, _, _, _, e => by simp [blsD] at e
  | .scr _ :: _, _, _, _, e => by simp [blsD] at e
  | .ins _ _ :: _, _, _, _, e => by simp [blsD] at e
  | .cell _ :: _, _, _, _, e => by simp [blsD] at e
theorem rep_ints {w : Wd} : ∀ {ds : List D} {vs : List V} {ns : List Int}, RepL G w ds vs → intsD ds = some ns → vs = ns.map V.int
  | [], _, _, r, e => by
    simp only [RepL] at r; subst r
    simp only [intsD, Option.some.injEq] at e; subst e
    rfl
  | .int i :: ds, _, _, r, e => by
    simp only [RepL] at r
    obtain ⟨v, q, rfl, r1, r2⟩ := r
    simp only [intsD] at e
    obtain ⟨ns, e1, rfl⟩ := Option.map_eq_some_iff.mp e
    simp only [Rep] at r1; subst r1
    rw [rep_ints r2 e1]
    rfl
  | .non :: _, _, _, _, e => by simp [intsD] at e
  | .bl _ :: _, _, _, _, e => by simp [intsD] at e
  | .str _ :: _, _, _, _, e => by simp [intsD] at e
  | .tup _ :: _, _, _, _, e => by simp [intsD] at e
  | .lst _ :: _, _, _, _, e => by simp [intsD] at e
  | .scr _ :: _, _, _, _, e => by simp [intsD] at e
  | .ins _ _ :: _, _, _, _, e => by simp [intsD] at e
  | .dct _ :: _, _, _, _, e => by simp [intsD] at e
  | .cell _ :: _, _, _, _, e => by simp [intsD] at e
theorem rep_lsts {w : Wd} : ∀ {ds : List D} {vs : List V} {xss : List (List D)}, RepL G w ds vs → lstsD ds = some xss → ∃ (ls : List Addr) (vss : List (List V)), vs = ls.map V.ref ∧ Paired (fun l xs => w.H l = some (.lst xs)) ls vss ∧ RepL G w xss.flatten vss.flatten ∧ (ls = [] → xss = [])
  | [], _, _, r, e => by
    simp only [RepL] at r; subst r
    simp only [lstsD, Option.some.injEq] at e; subst e
    exact ⟨[], [], rfl, .nil, RepL.nil, fun _ => rfl⟩
  | .lst xs :: ds, _, _, r, e => by
    simp only [RepL] at r
    obtain ⟨v, q, rfl, r1, r2⟩ := r
    simp only [lstsD] at e
    obtain ⟨xss, e1, rfl⟩ := Option.map_eq_some_iff.mp e
    obtain ⟨ls, vss, rfl, h1, h2, _⟩ := rep_lsts r2 e1
    simp only [Rep] at r1
    obtain ⟨a, us, rfl, q1, q2⟩ := r1
    exact ⟨a :: ls, us :: vss, rfl, .cons q1.1 h1, by rw [List.flatten_cons, List.flatten_cons]; exact q2.append h2, fun z => by cases z⟩
  | .non :: _, _, _, _, e => by simp [lstsD] at e
  | .bl _ :: _, _, _, _, e => by simp [lstsD] at e
  | .int _ :: _, _, _, _, e => by simp [lstsD] at e
  | .str _ :: _, _, _, _, e => by simp [lstsD] at e
  | .tup _ :: _, _, _, _, e => by simp [lstsD] at e
  | .scr _ :: _, _, _, _, e => by simp [lstsD] at e
  | .ins _ _ :: _, _, _, _, e => by simp [lstsD] at e
  | .dct _ :: _, _, _, _, e => by simp [lstsD] at e
  | .cell _ :: _, _, _, _, e => by simp [lstsD] at e
theorem sorted_one {ns ms : List Int} (h : ms.Perm ns) (hs : ms.Pairwise (· ≤ ·)) : ms = ns.mergeSort fun a b => decide (a ≤ b) := by
  refine List.Perm.eq_of_pairwise (le := fun a b : Int => a ≤ b) (fun a b _ _ h1 h2 => Int.le_antisymm h1 h2) hs ?_ (h.trans (List.mergeSort_perm ns _).symm)
  have := List.pairwise_mergeSort (le := fun a b : Int => decide (a ≤ b)) (fun a b c h1 h2 => by simp only [decide_eq_true_eq] at *; omega) (fun a b => by simp only [Bool.or_eq_true, decide_eq_true_eq]; omega) ns
  exact this.imp fun h => of_decide_eq_true h
theorem call_bi (hc : X.calm = true) (hK : X.K = G.K) (hu : X.A.units + 100 < cLine) (hg : X.A.guards = some []) (b : Bi) : CallR X (biVal b) (rCall G (evBi b)) := by
  intro pins s σ H xs us Q I r h
  obtain ⟨w, ds, z, rfl, g, rl, hz, q⟩ := h
  unfold evBi at hz
  split at hz
  · obtain ⟨v, rfl, r1⟩ := rep1 rl
    simp only [Rep] at r1; subst r1; cases hz
    exact call_int1 pins s σ w.H _ us Q I r (.inl ⟨_, rfl, q.same g rep_int⟩)
  · obtain ⟨v, rfl, r1⟩ := rep1 rl
    simp only [Rep] at r1; subst r1; cases hz
    exact call_int1 pins s σ w.H _ us Q I r (.inr ⟨_, rfl, q.same g rep_int⟩)
  · obtain ⟨v, rfl, r1⟩ := rep1 rl
    simp only [Rep] at r1; subst r1; cases hz
    exact call_abs pins s σ w.H _ us Q I r ⟨_, rfl, q.same g rep_int⟩
  · rename_i d
    obtain ⟨v, rfl, r1⟩ := rep1 rl
    split at hz
    rotate_left
    · split at hz
      · simp only [Rep] at r1; subst r1
        split at hz
        · rename_i hl
          cases hz
          exact call_len_str pins s σ w.H _ us Q I r ⟨_, rfl, hl, q.same g rep_int⟩
        · cases hz
      · cases hz
    rename_i ys hy
    cases hz
    by_cases ht : ∃ ys, d = .tup ys
    · obtain ⟨zs, rfl⟩ := ht
      simp only [seqA, Option.some.injEq] at hy
      subst hy
      obtain ⟨a, vs, rfl, h1, h2⟩ := Rep.tup r1
      exact call_len_seq pins s σ w.H _ us Q I r ⟨a, vs, rfl, .inr (by rw [hK]; exact h1), by rw [← h2.length]; exact q.same g rep_int⟩
    · have hy' : seqL w.M d = some ys := by
        cases d <;> first | exact hy | exact absurd ⟨_, rfl⟩ ht
      obtain ⟨a, vs, rfl, h1, h2⟩ := Rep.lst g r1 hy'
      exact call_len_seq pins s σ w.H _ us Q I r ⟨a, vs, rfl, .inl (by rw [hK]; exact h1), by rw [← h2.length]; exact q.same g rep_int⟩
  · rename_i d
    obtain ⟨v, rfl, r1⟩ := rep1 rl
    split at hz
    · rename_i p hp
      split at hz
      · rename_i hc
        cases hz
        obtain ⟨u, rfl, ru⟩ := vals1 r
        exact call_repr hK hu hg I g r1 ru hp hc.1 hc.2.1 hc.2.2 (q.same g rep_str)
      · cases hz
    · split at hz
      · rename_i p hp
        split at hz
        · rename_i hc
          cases hz
          obtain ⟨u, rfl, ru⟩ := vals1 r
          exact call_repr2 hK hu hg I g r1 ru hp hc.1 hc.2.1 hc.2.2 (q.same g rep_str)
        · cases hz
      · cases hz
  · rename_i ys
    obtain ⟨v, rfl, r1⟩ := rep1 rl
    cases hz
    have r1' := r1
    obtain ⟨a, vs, rfl, h1, h2⟩ := Rep.tup r1
    exact call_tuple_of pins s σ w.H _ us Q I r ⟨a, vs, rfl, .inr ⟨by rw [hK]; exact h1, q.same g r1'⟩⟩
  · rename_i d _
    obtain ⟨v, rfl, r1⟩ := rep1 rl
    obtain ⟨ys, hy, rfl⟩ := Option.map_eq_some_iff.mp hz
    obtain ⟨a, vs, rfl, h1, h2⟩ := Rep.lst g r1 hy
    exact call_tuple_of pins s σ w.H _ us Q I r ⟨a, vs, rfl, .inl ⟨by rw [hK]; exact h1, q.tup g h2⟩⟩
  · rename_i d
    obtain ⟨v, rfl, r1⟩ := rep1 rl
    obtain ⟨ys, hy, rfl⟩ := Option.map_eq_some_iff.mp hz
    by_cases ht : ∃ ys, d = .tup ys
    · obtain ⟨zs, rfl⟩ := ht
      simp only [seqA, Option.some.injEq] at hy
      subst hy
      obtain ⟨a, vs, rfl, h1, h2⟩ := Rep.tup r1
      exact call_list_of pins s σ w.H _ us Q I r ⟨a, vs, rfl, .inr (by rw [hK]; exact h1), q.lst g h2⟩
    · have hy' : seqL w.M d = some ys := by
        cases d <;> first | exact hy | exact absurd ⟨_, rfl⟩ ht
      obtain ⟨a, vs, rfl, h1, h2⟩ := Rep.lst g r1 hy'
      exact call_list_of pins s σ w.H _ us Q I r ⟨a, vs, rfl, .inl (by rw [hK]; exact h1), q.lst g h2⟩
  · obtain ⟨v, rfl, r1⟩ := rep1 rl
    obtain ⟨bs, hb, rfl⟩ := Option.map_eq_some_iff.mp hz
    obtain ⟨ys, hy, hb⟩ := Option.bind_eq_some_iff.mp hb
    obtain ⟨a, vs, rfl, h1, h2⟩ := Rep.lst g r1 hy
    rw [rep_bls h2 hb] at h1
    exact cr_all hc pins s σ w.H _ us Q I r ⟨a, bs, rfl, by rw [hK]; exact h1, q.same g rep_bl⟩
  · obtain ⟨v, rfl, r1⟩ := rep1 rl
    obtain ⟨bs, hb, rfl⟩ := Option.map_eq_some_iff.mp hz
    obtain ⟨ys, hy, hb⟩ := Option.bind_eq_some_iff.mp hb
    obtain ⟨a, vs, rfl, h1, h2⟩ := Rep.lst g r1 hy
    rw [rep_bls h2 hb] at h1
    exact cr_any hc pins s σ w.H _ us Q I r ⟨a, bs, rfl, by rw [hK]; exact h1, q.same g rep_bl⟩
  · obtain ⟨v, rfl, r1⟩ := rep1 rl
    simp only [Rep] at r1; subst r1; cases hz
    exact call_bool1 pins s σ w.H _ us Q I r (.inl ⟨_, rfl, q.same g rep_bl⟩)
  · obtain ⟨v, rfl, r1⟩ := rep1 rl
    simp only [Rep] at r1; subst r1; cases hz
    exact call_bool1 pins s σ w.H _ us Q I r (.inr ⟨_, rfl, q.same g rep_bl⟩)
  · obtain ⟨v, rfl, r1⟩ := rep1 rl
    obtain ⟨ys, hy, rfl⟩ := Option.map_eq_some_iff.mp hz
    obtain ⟨a, vs, rfl, h1, h2⟩ := Rep.lst g r1 hy
    have e : ys.isEmpty = vs.isEmpty := by
      have := h2.length
      cases ys <;> cases vs <;> first | rfl | (simp at this)
    exact call_boolL pins s σ w.H _ us Q I r ⟨a, vs, rfl, by rw [hK]; exact h1, by rw [← e]; exact q.same g rep_bl⟩
  · obtain ⟨v, v2, rfl, r1, r2⟩ := rep2 rl
    simp only [Rep] at r1 r2; subst r1 r2; cases hz
    exact call_min2 hc pins s σ w.H _ us Q I r ⟨_, _, rfl, q.same g rep_int⟩
  · obtain ⟨v, v2, rfl, r1, r2⟩ := rep2 rl
    simp only [Rep] at r1 r2; subst r1 r2; cases hz
    exact call_max2 hc pins s σ w.H _ us Q I r ⟨_, _, rfl, q.same g rep_int⟩
  · obtain ⟨v, rfl, r1⟩ := rep1 rl
    simp only [Rep] at r1; subst r1
    split at hz
    · rename_i hl
      cases hz
      exact call_str_int pins s σ w.H _ us Q I r ⟨_, rfl, hl, q.same g rep_str⟩
    · cases hz
  · obtain ⟨v, rfl, r1⟩ := rep1 rl
    simp only [Rep] at r1; subst r1; cases hz
    exact SkE.call_str_str pins s σ w.H _ us Q I r ⟨_, rfl, q.same g rep_str⟩
  · obtain ⟨v, rfl, r1⟩ := rep1 rl
    split at hz
    · rename_i ps hp
      split at hz
      · rename_i hc
        cases hz
        obtain ⟨u, rfl, ru⟩ := vals1 r
        exact call_strL hK hu hg I g r1 ru hp hc.1 hc.2.1 hc.2.2 (q.same g rep_str)
      · cases hz
    · cases hz
  · obtain ⟨v, rfl, r1⟩ := rep1 rl
    obtain ⟨ns, hn, rfl⟩ := Option.map_eq_some_iff.mp hz
    obtain ⟨ys, hy, hn⟩ := Option.bind_eq_some_iff.mp hn
    obtain ⟨a, vs, rfl, h1, h2⟩ := Rep.lst g r1 hy
    rw [rep_ints h2 hn] at h1
    exact cr_sum hc pins s σ w.H _ us Q I r ⟨a, ns, rfl, by rw [hK]; exact h1, q.same g rep_int⟩
  · obtain ⟨v, v2, rfl, r1, r2⟩ := rep2 rl
    obtain ⟨xss, hn, hz⟩ := Option.bind_eq_some_iff.mp hz
    obtain ⟨ys, hy, hn⟩ := Option.bind_eq_some_iff.mp hn
    split at hz
    · rename_i hl
      cases hz
      obtain ⟨a, vs, rfl, h1, h2⟩ := Rep.lst g r1 hy
      obtain ⟨ls, vss, rfl, p1, p2, p3⟩ := rep_lsts h2 hn
      have r2' := r2
      simp only [Rep, RepL] at r2
      obtain ⟨b, us', rfl, q1, rfl⟩ := r2
      refine call_sumL hc pins s σ w.H _ us Q I r ⟨a, b, ls, vss, rfl, by rw [hK]; exact h1, q1.1, p1, by rw [← p2.length]; exact hl, fun z => ?_, q.lst g p2⟩
      rw [p3 z] at q
      exact q.same g r2'
    · cases hz
  · obtain ⟨v, rfl, r1⟩ := rep1 rl
    obtain ⟨ns, hn, rfl⟩ := Option.map_eq_some_iff.mp hz
    obtain ⟨ys, hy, hn⟩ := Option.bind_eq_some_iff.mp hn
    obtain ⟨a, vs, rfl, h1, h2⟩ := Rep.lst g r1 hy
    rw [rep_ints h2 hn] at h1
    refine cr_sortedI pins s σ w.H _ us Q I r ⟨a, ns, rfl, by rw [hK]; exact h1, fun ms p hp hs hn => ?_⟩
    rw [sorted_one hp hs]
    exact q.lst g (RepL.ints _) p hn
  · cases hz

/-! ### isinstance -/
theorem tyx_D {w : Wd} {d : D} {v : V} (g : WOk G w) (r : Rep G w d v) {T : String} {l : List String} (h : tyOf d = some (T, l)) : TyX G.K w.H v (.type T) := by
  cases d with
  | non => simp only [Rep] at r; subst r; simp only [tyOf, Option.some.injEq, Prod.mk.injEq] at h; rw [← h.1]; exact .base .non
  | bl _ => simp only [Rep] at r; subst r; simp only [tyOf, Option.some.injEq, Prod.mk.injEq] at h; rw [← h.1]; exact .base (.bl _)
  | int _ => simp only [Rep] at r; subst r; simp only [tyOf, Option.some.injEq, Prod.mk.injEq] at h; rw [← h.1]; exact .base (.int _)
  | str _ => simp only [Rep] at r; subst r; simp only [tyOf, Option.some.injEq, Prod.mk.injEq] at h; rw [← h.1]; exact .base (.str _)
  | tup xs =>
    simp only [Rep] at r; simp only [tyOf, Option.some.injEq, Prod.mk.injEq] at h; rw [← h.1]
    obtain ⟨a, vs, rfl, h1 | ⟨o, its, n, h1, h2, _⟩, _⟩ := r
    · exact .base (.tup h1.1)
    · exact .kTuple h1 h2
  | lst xs =>
    simp only [Rep] at r; simp only [tyOf, Option.some.injEq, Prod.mk.injEq] at h; rw [← h.1]
    obtain ⟨a, vs, rfl, h1, _⟩ := r
    exact .base (.lst h1.1)
  | scr xs =>
    simp only [Rep] at r; simp only [tyOf, Option.some.injEq, Prod.mk.injEq] at h; rw [← h.1]
    obtain ⟨a, vs, rfl, ⟨o, h1⟩ | ⟨o, its, n, h1, h2, _⟩, _⟩ := r
    · exact .base (.frz h1.1)
    · exact .kList h1 h2
  | ins _ _ => simp [tyOf] at h
  | dct _ =>
    simp only [Rep] at r; simp only [tyOf, Option.some.injEq, Prod.mk.injEq] at h; rw [← h.1]
    obtain ⟨a, vs, rfl, h1, _⟩ := r
    exact .base (.dK h1.1)
  | cell _ => simp [tyOf] at h
theorem kit_all : (["NoneType", "bool", "int", "str", "tuple", "list", "dict"].all fun a => tyAsk.all fun b => kitB a b == some ((match a with | "NoneType" => ["NoneType"] | "bool" => ["bool", "int"] | "int" => ["int"] | "str" => ["str"] | "tuple" => ["tuple"] | "list" => ["list"] | _ => ["dict"]).contains b)) = true := by decide +kernel
theorem kit_D {d : D} {T t : String} {l : List String} (h : tyOf d = some (T, l)) (ht : tyAsk.contains t = true) : kitB T t = some (l.contains t) := by
  have k := kit_all
  simp only [List.all_cons, List.all_nil, Bool.and_eq_true, Bool.and_true] at k
  obtain ⟨k1, k2, k3, k4, k5, k6, k7⟩ := k
  have hm : t ∈ tyAsk := by simpa using ht
  have use : ∀ {a : String} {m : List String}, (tyAsk.all fun b => kitB a b == some (m.contains b)) = true → kitB a t = some (m.contains t) := fun h => by
    have := List.all_eq_true.mp h t hm
    simpa using this
  cases d with
  | non => simp only [tyOf, Option.some.injEq, Prod.mk.injEq] at h; rw [← h.1, ← h.2]; exact use k1
  | bl _ => simp only [tyOf, Option.some.injEq, Prod.mk.injEq] at h; rw [← h.1, ← h.2]; exact use k2
  | int _ => simp only [tyOf, Option.some.injEq, Prod.mk.injEq] at h; rw [← h.1, ← h.2]; exact use k3
  | str _ => simp only [tyOf, Option.some.injEq, Prod.mk.injEq] at h; rw [← h.1, ← h.2]; exact use k4
  | tup _ => simp only [tyOf, Option.some.injEq, Prod.mk.injEq] at h; rw [← h.1, ← h.2]; exact use k5
  | lst _ => simp only [tyOf, Option.some.injEq, Prod.mk.injEq] at h; rw [← h.1, ← h.2]; exact use k6
  | scr _ => simp only [tyOf, Option.some.injEq, Prod.mk.injEq] at h; rw [← h.1, ← h.2]; exact use k6
  | dct _ => simp only [tyOf, Option.some.injEq, Prod.mk.injEq] at h; rw [← h.1, ← h.2]; exact use k7
  | ins _ _ => simp [tyOf] at h
  | cell _ => simp [tyOf] at h
theorem isiD_ok {ts : List String} {d : D} {b : Bool} (h : isiD ts d = some b) : ∃ T l, tyOf d = some (T, l) ∧ (∀ t ∈ ts, tyAsk.contains t = true) ∧ b = ts.any l.contains := by
  unfold isiD at h
  split at h
  · rename_i T l e
    split at h
    · rename_i ha
      cases h
      exact ⟨T, l, e, fun t ht => List.all_eq_true.mp ha t ht, rfl⟩
    · cases h
  · cases h
theorem kitAny_D {K : PySem.W.Frag} {T : String} {l : List String} : ∀ {ts : List String}, (∀ t ∈ ts, kitB T t = some (l.contains t)) → PySem.W.kitAny K (.type T) (ts.map Value.type) = some (ts.any l.contains)
  | [], _ => rfl
  | t :: ts, h => by
    have h1 := kit_ty (K := K) (h t (List.mem_cons_self ..))
    have ih := kitAny_D (K := K) (T := T) (l := l) (ts := ts) fun x hx => h x (List.mem_cons_of_mem _ hx)
    refine kitAny_cons h1 (fun e => ?_) (fun e => ?_)
    · rw [ih, List.any_cons, e, Bool.false_or]
    · rw [List.any_cons, e, Bool.true_or]
def tyVs (ts : List String) : List V := ts.map V.ty
theorem paired_ty : ∀ (ts : List String), Paired ClsV (tyVs ts) (ts.map Value.type)
  | [] => .nil
  | t :: ts => .cons (.ty t) (paired_ty ts)
/-- isinstance(x, T) -/
theorem isi_one (hK : X.K = G.K) {t : String} : CallR X (.builtin "isinstance") (fun xs H Q => ∃ w d b x, w.H = H ∧ WOk G w ∧ xs = [x, .ty t] ∧ Rep G w d x ∧ isiD [t] d = some b ∧ Q (.bl b) H) := by
  intro pins s σ H xs us Q I r h
  obtain ⟨w, d, b, x, rfl, g, rfl, r1, hb, q⟩ := h
  obtain ⟨T, l, e, ha, rfl⟩ := isiD_ok hb
  refine call_isi pins s σ w.H _ us Q I r ⟨x, .ty t, .type T, .type t, _, rfl, .ty t, by rw [hK]; exact tyx_D g r1 e, kit_ty (kit_D e (ha t (List.mem_cons_self ..))), ?_⟩
  simpa using q
/-- isinstance(x, (T, ..)) -/
theorem isi_many (hK : X.K = G.K) {ts : List String} : CallR X (.builtin "isinstance") (fun xs H Q => ∃ w d b x tp, w.H = H ∧ WOk G w ∧ xs = [x, .ref tp] ∧ H tp = some (.tup (tyVs ts)) ∧ Rep G w d x ∧ isiD ts d = some b ∧ Q (.bl b) H) := by
  intro pins s σ H xs us Q I r h
  obtain ⟨w, d, b, x, tp, rfl, g, rfl, htp, r1, hb, q⟩ := h
  obtain ⟨T, l, e, ha, rfl⟩ := isiD_ok hb
  exact call_isiT pins s σ w.H _ us Q I r ⟨x, tp, tyVs ts, .type T, ts.map Value.type, _, rfl, htp, paired_ty ts, by rw [hK]; exact tyx_D g r1 e, kitAny_D fun t ht => kit_D e (ha t ht), q⟩

/-! ### methods -/
def mtTy : Mt → String
  | .append | .extend | .pop | .index => "list"
  | .join | .split | .startswith => "str"
def mtName : Mt → Str
  | .append => "append" | .extend => "extend" | .pop => "pop" | .index => "index" | .join => "join" | .split => "split" | .startswith => "startswith"
def mtId : Mt → String
  | .append => "list.append" | .extend => "list.extend" | .pop => "list.pop" | .index => "list.index" | .join => "str.join" | .split => "str.split" | .startswith => "str.startswith"
/-- what a method does -/
def rMeth (G : Gb) (m : Mt) : V → List V → Hp → VK → Prop := fun x xs H Q => ∃ w o ds z M', w.H = H ∧ WOk G w ∧ Rep G w o x ∧ RepL G w ds xs ∧ evMt m o ds w.M = some (z, M') ∧ ∀ w' v, Ext w w' → WOk G w' → w'.M = M' → Rep G w' z v → Q v w'.H
theorem put_lst {w : Wd} (g : WOk G w) {i : Nat} {a : Addr} {xs ys : List D} {vs : List V} (ha : w.as[i]? = some a) (hm : w.M[i]? = some (some (.lst xs))) (r : RepL G w ys vs) :
    WOk G (w.put i a (.lst ys) (.lst vs)) := by
  have x := ext_put (m := .lst ys) (o := .lst vs) ha hm
  exact wok_put g ha hm ⟨vs, upd_same, RepL.ext x _ _ r⟩
theorem cell_lst {w : Wd} (g : WOk G w) {i : Nat} {v : V} {xs : List D} (r : Rep G w (.cell i) v) (hm : w.M[i]? = some (some (.lst xs))) : ∃ a vs, v = .ref a ∧ w.as[i]? = some a ∧ w.H a = some (.lst vs) ∧ RepL G w xs vs := by
  simp only [Rep] at r
  obtain ⟨a, rfl, ha⟩ := r
  obtain ⟨vs, h1, h2⟩ := g.cell i a _ ha hm
  exact ⟨a, vs, rfl, ha, h1, h2⟩
theorem mt_D (hK : X.K = G.K) (hu : X.A.units + 65 < cLine) (m : Mt) : MtR X (mtId m) (rMeth G m) := by
  intro pins s σ H x xs v us Q I rx rxs h
  obtain ⟨w, o, ds, z, M', rfl, g, r1, rl, hz, q⟩ := h
  unfold evMt at hz
  split at hz
  · rename_i i d
    split at hz
    · rename_i ys hm
      split at hz
      · rename_i hl
        cases hz
        obtain ⟨a, vs, rfl, ha, h1, h2⟩ := cell_lst g r1 hm
        obtain ⟨y, rfl, r2⟩ := rep1 rl
        refine mt_append pins s σ w.H _ _ v us Q I rx rxs ⟨a, vs, y, rfl, rfl, h1, by rw [← h2.length]; exact hl, ?_⟩
        exact q (w.put i a (.lst (ys ++ [d])) (.lst (vs ++ [y]))) .non (ext_put ha hm) (put_lst g ha hm (h2.append (.cons r2 .nil))) rfl rep_non
      · cases hz
    · cases hz
  · rename_i i d
    split at hz
    · rename_i ys hm
      split at hz
      · rename_i zs
        split at hz
        · rename_i hl
          cases hz
          obtain ⟨a, vs, rfl, ha, h1, h2⟩ := cell_lst g r1 hm
          obtain ⟨y, rfl, r2⟩ := rep1 rl
          simp only [Rep] at r2
          obtain ⟨b, ws, rfl, h3, h4⟩ := r2
          refine mt_extend pins s σ w.H _ _ v us Q I rx rxs ⟨a, b, vs, ws, rfl, rfl, h1, h3.1, by rw [← h2.length, ← h4.length]; exact hl, ?_⟩
          exact q (w.put i a (.lst (ys ++ zs)) (.lst (vs ++ ws))) .non (ext_put ha hm) (put_lst g ha hm (h2.append h4)) rfl rep_non
        · cases hz
      · cases hz
    · cases hz
  · rename_i d
    split at hz
    · rename_i qs p e1 e2
      split at hz
      · rename_i hs
        simp only [Bool.and_eq_true, shapedB] at hs
        obtain ⟨j, hj, e⟩ := Option.map_eq_some_iff.mp hz
        cases e
        obtain ⟨y, rfl, r2⟩ := rep1 rl
        obtain ⟨hlt, hp, hno⟩ := List.findIdx?_eq_some_iff_getElem.mp hj
        have hd := Rep.dpNow g r1 e1
        have hx : ∃ a, x = V.ref a := by
          cases o <;> first | (simp [now, seqL, toPd] at e1; done) | (simp only [Rep] at r1; obtain ⟨a, r1⟩ := r1; first | exact ⟨a, r1.1⟩ | (obtain ⟨vs, e, _⟩ := r1; exact ⟨a, e⟩))
        obtain ⟨a, rfl⟩ := hx
        refine mt_indexD hu pins s σ w.H _ _ v us Q I rx rxs ⟨a, y, p, qs, j, qs[j], rfl, rfl, by rw [hK]; exact hd, by rw [hK]; exact Rep.dpNow g r2 e2, hs.1, hs.2, List.getElem?_eq_getElem hlt, hp, fun m z hm hz => ?_, ?_⟩
        · obtain ⟨hm', rfl⟩ := List.getElem?_eq_some_iff.mp hz
          have := hno m hm
          simpa using this
        · exact q w (.int j) (Ext.refl w) g rfl rep_int
      · cases hz
    · cases hz
  · cases hz
end
end Ev
/-! Ev5: which text an expression stands for; a text is worth what its expression is. -/
namespace Ev
open PySem L2

/-- a constant of the module -/
inductive GC where | int (i : Int) | str (s : Str)
  deriving DecidableEq
def GC.v : GC → V
  | .int i => .int i
  | .str s => .str s
structure Cn where
  N : List Str
  sc : Scope
  /-- the names that may be stored -/
  st : Scope
  P : List Df
  /-- built-in names that the module does not store -/
  bs : List Str
  /-- its constants -/
  gs : List (Str × GC)
  /-- its classes -/
  cs : List Cf

def visB (sc : Scope) (x : Str) : Bool := match sc.names.lookup x with | some .local => true | some .cell => true | some .free => true | _ => false
def locB (sc : Scope) (x : Str) : Bool := match sc.names.lookup x with | some .local => true | some .cell => true | _ => false
def glB (sc : Scope) (x : Str) : Bool := match sc.names.lookup x with | some .globalImplicit => true | _ => false
def okName (x : Str) : Bool := !(x == ("__debug__" : Str)) && !(x == ("__classdict__" : Str)) && !(x == ("__name__" : Str))
def eqS (a b : Str) : Bool := decide (a = b)
def biName : Bi → Str
  | .int => "int" | .len => "len" | .abs => "abs" | .repr => "repr" | .str => "str" | .tuple => "tuple" | .list => "list" | .all => "all" | .any => "any" | .bool => "bool" | .min => "min" | .max => "max" | .sum => "sum" | .sorted => "sorted"
def attrOk : Expr → Bool
  | .Call (.Name _ _) [] [] _ => false
  | _ => true
def Cn.blk (Γ : Cn) (scope : Scope) : Cn := { Γ with sc := relS scope Γ.sc, st := scope }
def ownOf (N : List Str) (vs : List Nat) : List (Str × Nat) := vs.filterMap fun i => (N[i]?).map fun x => (x, i)
def mTy (Γ : Cn) (t : String) : Expr → Bool
  | .Name x _ => eqS x (Str.ofString t) && glB Γ.sc x && Γ.bs.contains x && okName x
  | _ => false
def mTys (Γ : Cn) : List String → List Expr → Bool
  | [], [] => true
  | t :: ts, e :: es => mTy Γ t e && mTys Γ ts es
  | _, _ => false
def mTyE (Γ : Cn) (ts : List String) : Expr → Bool
  | .Tuple es _ _ => mTys Γ ts es && decide (ts.length ≤ 100)
  | e => match ts with
    | [t] => mTy Γ t e
    | _ => false
/-- [::-1] -/
def isRev : Expr → Bool
  | .Slice none none (some (.UnaryOp .USub (.Constant (.int i) _ _) _)) _ => decide (i = 1)
  | _ => false
theorem isRev_of {e : Expr} (h : isRev e = true) : ∃ n p1 p2 p3, e = .Slice none none (some (.UnaryOp .USub (.Constant (.int 1) n p1) p2)) p3 := by
  unfold isRev at h
  split at h
  · have := of_decide_eq_true h
    subst this
    exact ⟨_, _, _, _, rfl⟩
  · cases h
/-- a name, or an integer that is written out -/
def atB : Ex → Expr → Bool
  | .var _, _ => true
  | .int _, .Constant _ _ _ => true
  | _, _ => false
/-- a def that stands at the module's top: its name begins with no dot -/
def topB (x : Str) : Bool := !decide (x.cps[0]? = some 46)
mutual
def mE : Ex → Cn → Expr → Bool
  | .var i, Γ, .Name x _ => decide (Γ.N[i]? = some x) && visB Γ.sc x && okName x
  | .non, _, .Constant .none _ _ => true
  | .bl b, _, .Constant (.bool c) _ _ => b == c
  | .int i, Γ, e => (match e with
    | .Constant (.int j) _ _ => decide (i = j)
    | .Name x _ => glB Γ.sc x && okName x && decide ((x, GC.int i) ∈ Γ.gs)
    | _ => false)
  | .str s, Γ, e => (match e with
    | .Constant (.str t) _ _ => eqS s t
    | .Name x _ => glB Γ.sc x && okName x && decide ((x, GC.str s) ∈ Γ.gs)
    | _ => false)
  | .bin o a b, Γ, .BinOp x op y _ => decide (op = toOp o) && mE a Γ x && mE b Γ y
  | .cmp o a b, Γ, .Compare x [op] [y] _ => decide (op = toCmp o) && mE a Γ x && mE b Γ y
  | .chn o p a b c, Γ, .Compare x [op, oq] [y, z] _ => decide (op = toCmp o) && decide (oq = toCmp p) && mE a Γ x && mE b Γ y && mE c Γ z
  | .and a b, Γ, .BoolOp .And (x :: y :: rest) pos => mE a Γ x && (match rest with | [] => mE b Γ y | _ => mE b Γ (.BoolOp .And (y :: rest) pos))
  | .or a b, Γ, .BoolOp .Or (x :: y :: rest) pos => mE a Γ x && (match rest with | [] => mE b Γ y | _ => mE b Γ (.BoolOp .Or (y :: rest) pos))
  | .not a, Γ, .UnaryOp .Not x _ => mE a Γ x
  | .neg a, Γ, .UnaryOp .USub x _ => mE a Γ x
  | .ite c a b, Γ, .IfExp t x y _ => mE c Γ t && mE a Γ x && mE b Γ y
  | .tup es, Γ, .Tuple xs _ _ => mL es Γ xs
  | .stup a es, Γ, .Tuple ys _ _ => (match ys with
    | .Starred x _ :: xs => mE a Γ x && mL es Γ xs
    | _ => false)
  | .lst es, Γ, .List xs _ => mL es Γ xs
  | .mls es, Γ, .List xs _ => mL es Γ xs
  | .ix a b, Γ, .Subscript x y _ => mE a Γ x && mE b Γ y
  | .slc a lo hi, Γ, .Subscript x (.Slice l h none _) _ => mE a Γ x && mO lo Γ l && mO hi Γ h
  | .rev a, Γ, .Subscript x sl _ => isRev sl && mE a Γ x
  | .call f es ks pm, Γ, .Call (.Name x _) args kws _ => match Γ.P[f]? with
    | some d => eqS d.name x && topB d.name && glB Γ.sc x && okName x && mL es Γ args && mK ks Γ kws && decide ((es.length, ks.map (·.1), pm) ∈ d.shapes)
    | none => false
  | .bi b es, Γ, .Call (.Name x _) args [] _ => eqS x (biName b) && glB Γ.sc x && okName x && Γ.bs.contains x && mL es Γ args && !args.isEmpty
  | .dct0, Γ, .Dict [] [] _ => true
  | .dct1 a b, Γ, .Dict [some x] [y] _ => atB a x && atB b y && mE a Γ x && mE b Γ y
  | .fldE a f, Γ, .Attribute x name _ => eqS name f && attrOk x && mE a Γ x && Γ.cs.all fun cf => cf.flds.contains f
  | .mcall m tbl o es, Γ, .Call (.Attribute y name apos) args [] cpos => eqS name m && attrOk y && mE o Γ y && mL es Γ args && (apos.endLine == cpos.line) && decide (args.length < 20) && !args.isEmpty &&
      tbl.all fun p => match Γ.cs[p.1]?, Γ.P[p.2]? with
        | some cf, some d => decide (cf.meths.lookup m = some p.2) && decide ((es.length + 1, [], List.range (es.length + 1)) ∈ d.shapes)
        | _, _ => false
  | .new c f es, Γ, .Call (.Name x _) args [] _ => glB Γ.sc x && okName x && mL es Γ args && !args.isEmpty && match Γ.cs[c]?, Γ.P[f]? with
    | some cf, some d => eqS cf.name x && decide (cf.init = some f) && decide ((es.length + 1, [], List.range (es.length + 1)) ∈ d.shapes)
    | _, _ => false
  | .isc e y subs, Γ, .Call (.Name x _) [a, .Name z _] [] _ => eqS x "isinstance" && glB Γ.sc x && okName x && Γ.bs.contains x && eqS z y && glB Γ.sc z && okName z && mE e Γ a && !Γ.cs.isEmpty &&
      Γ.cs.zipIdx.all fun p => decide (p.1.asks.lookup y = some (subs.contains p.2))
  | .dc a b t it c vs, Γ, .DictComp kx vx [⟨tg, iter, ifs, isas⟩] scope _ => decide (isas = 0) && mI it Γ tg iter && blkC Γ.N Γ.sc scope (ownOf Γ.N vs) && decide ((ownOf Γ.N vs).map (·.2) = vs) &&
      mT t (Γ.blk scope) tg && (tgS t).all vs.contains && mC c (Γ.blk scope) ifs && mE a (Γ.blk scope) kx && mE b (Γ.blk scope) vx
  | .dix o e, Γ, .Subscript x y _ => mE o Γ x && mE e Γ y
  | .lrg1 b, Γ, .Call (.Name x _) [.Call (.Name z _) [y] [] _] [] _ => eqS x "list" && glB Γ.sc x && okName x && Γ.bs.contains x && eqS z "range" && glB Γ.sc z && okName z && Γ.bs.contains z && mE b Γ y
  | .mrg1 b, Γ, .Call (.Name x _) [.Call (.Name z _) [y] [] _] [] _ => eqS x "list" && glB Γ.sc x && okName x && Γ.bs.contains x && eqS z "range" && glB Γ.sc z && okName z && Γ.bs.contains z && mE b Γ y
  | .lrg2 a b, Γ, .Call (.Name x _) [.Call (.Name z _) [u, y] [] _] [] _ => eqS x "list" && glB Γ.sc x && okName x && Γ.bs.contains x && eqS z "range" && glB Γ.sc z && okName z && Γ.bs.contains z && mE a Γ u && mE b Γ y
  | .dgt o e, Γ, .Call (.Attribute y name apos) [a] [] cpos => eqS name "get" && attrOk y && mE o Γ y && mE e Γ a && (apos.endLine == cpos.line)
  | .mbl e, Γ, .Call (.Name x _) [a] [] _ => eqS x "list" && glB Γ.sc x && okName x && Γ.bs.contains x && mE e Γ a
  | .isi e ts, Γ, .Call (.Name x _) [a, c] [] _ => eqS x "isinstance" && glB Γ.sc x && okName x && Γ.bs.contains x && mE e Γ a && mTyE Γ ts c && ts.all tyAsk.contains
  | .meth m o es, Γ, .Call (.Attribute y name apos) args [] cpos => eqS name (mtName m) && attrOk y && mE o Γ y && mL es Γ args && !args.isEmpty && (apos.endLine == cpos.line) && decide (args.length < 20)
  | .lc e t it c vs, Γ, .ListComp elt [⟨tg, iter, ifs, isas⟩] scope _ => decide (isas = 0) && mI it Γ tg iter && blkC Γ.N Γ.sc scope (ownOf Γ.N vs) && decide ((ownOf Γ.N vs).map (·.2) = vs) &&
      mT t (Γ.blk scope) tg && (tgS t).all vs.contains && mC c (Γ.blk scope) ifs && mE e (Γ.blk scope) elt
  | .lc2 e t it c t1 it1 c1 vs vs1, Γ, .ListComp elt [⟨tg, iter, ifs, isas⟩, ⟨tg1, iter1, ifs1, isas1⟩] scope _ => decide (isas = 0) && decide (isas1 = 0) && mI it Γ tg iter && blkC Γ.N Γ.sc scope (ownOf Γ.N vs) && decide ((ownOf Γ.N vs).map (·.2) = vs) &&
      mT t (Γ.blk scope) tg && (tgS t).all vs.contains && mC c (Γ.blk scope) ifs && mI it1 (Γ.blk scope) tg1 iter1 && mT t1 (Γ.blk scope) tg1 && (tgS t1).all vs1.contains && vs1.all vs.contains && mC c1 (Γ.blk scope) ifs1 && mE e (Γ.blk scope) elt
  | .frz i, Γ, .Name x _ => decide (Γ.N[i]? = some x) && visB Γ.sc x && okName x
  | _, _, _ => false
def mL : List Ex → Cn → List Expr → Bool
  | [], _, [] => true
  | e :: es, Γ, x :: xs => mE e Γ x && mL es Γ xs
  | _, _, _ => false
def mK : List (Str × Ex) → Cn → List Keyword → Bool
  | [], _, [] => true
  | (k, e) :: es, Γ, ⟨some x, v, _⟩ :: xs => eqS k x && mE e Γ v && mK es Γ xs
  | _, _, _ => false
def mO : Option Ex → Cn → Option Expr → Bool
  | none, _, none => true
  | some e, Γ, some x => mE e Γ x
  | _, _, _ => false
def mC : Option Ex → Cn → List Expr → Bool
  | none, _, [] => true
  | some e, Γ, [x] => mE e Γ x
  | _, _, _ => false
def mI : It → Cn → Expr → Expr → Bool
  | .seq e, Γ, _, x => mE e Γ x
  | .rng1 a, Γ, _, .Call (.Name x _) [u] [] _ => eqS x "range" && glB Γ.sc x && Γ.bs.contains x && mE a Γ u
  | .rng2 a b, Γ, _, .Call (.Name x _) [u, v] [] _ => eqS x "range" && glB Γ.sc x && Γ.bs.contains x && mE a Γ u && mE b Γ v
  | .enu e, Γ, .Tuple _ _ _, .Call (.Name x _) [a] [] _ => eqS x "enumerate" && glB Γ.sc x && Γ.bs.contains x && mE e Γ a
  | .zip e f, Γ, .Tuple _ _ _, .Call (.Name x _) [a, b] [] _ => eqS x "zip" && glB Γ.sc x && Γ.bs.contains x && mE e Γ a && mE f Γ b
  | _, _, _, _ => false
def mT : Tg → Cn → Expr → Bool
  | .nm i, Γ, .Name x _ => decide (Γ.N[i]? = some x) && locB Γ.st x
  | .tp ts, Γ, .Tuple es _ _ => mTs ts Γ es
  | .sub a b, Γ, .Subscript o i _ => mE a Γ o && mE b Γ i
  | .fld a f, Γ, .Attribute x name _ => eqS name f && mE a Γ x && Γ.cs.all fun cf => cf.flds.contains f
  | _, _, _ => false
def mTs : List Tg → Cn → List Expr → Bool
  | [], _, [] => true
  | t :: ts, Γ, x :: xs => mT t Γ x && mTs ts Γ xs
  | _, _, _ => false
end

/-! ### what a matched text is not -/
def plainX : Expr → Bool
  | .Starred _ _ => false
  | .Set _ _ _ => false
  | .Slice _ _ _ _ => false
  | _ => true
theorem mE_plain {x : Ex} {Γ : Cn} {e : Expr} (h : mE x Γ e = true) : plainX e = true := by
  cases e with
  | Starred _ _ => cases x <;> simp [mE] at h
  | Set _ _ _ => cases x <;> simp [mE] at h
  | Slice _ _ _ _ => cases x <;> simp [mE] at h
  | _ => rfl
theorem star_of {e : Expr} (h : plainX e = true) (es : List Expr) (env : Env) : starEach (e :: es) env = (false, eval e env) :: starEach es env := by
  cases e <;> first
    | rfl
    | (simp [plainX] at h)
theorem marks_of {e : Expr} (h : plainX e = true) (op : CmpOp) : behindInMarks op e = false := by
  cases e <;> first
    | rfl
    | (simp [plainX] at h)
theorem ixPlain {e : Expr} (h : plainX e = true) : PlainIx e := by
  intro o i
  cases e <;> first
    | rfl
    | (simp [plainX] at h)
theorem folded_of {e : Expr} (h : plainX e = true) (env : Env) : ∀ x, foldedSetIterable e env x = pure x := by
  intro x
  cases e <;> first
    | rfl
    | (simp [plainX] at h)
theorem attr_base {o : Expr} (h : attrOk o = true) (f : Str) (env : Env) : attributeBase o f env (eval o env) = eval o env := by
  unfold attributeBase
  split
  · simp [attrOk] at h
  · rfl
theorem mL_star {es : List Ex} {Γ : Cn} : ∀ {xs : List Expr}, mL es Γ xs = true → ∀ (pos : Pos) (env : Env), (backTo pos (starEach xs env)).any (·.1) = false := by
  intro xs
  induction xs generalizing es with
  | nil => intro _ _ _; rfl
  | cons x xs ih =>
    intro h pos env
    cases es with
    | nil => simp [mL] at h
    | cons e es =>
      simp only [mL, Bool.and_eq_true] at h
      rw [star_of (mE_plain h.1)]
      show (false || (backTo pos (starEach xs env)).any (·.1)) = false
      rw [ih h.2 pos env]
      rfl
theorem mL_len {es : List Ex} {Γ : Cn} : ∀ {xs : List Expr}, mL es Γ xs = true → es.length = xs.length := by
  intro xs
  induction xs generalizing es with
  | nil => intro h; cases es with
    | nil => rfl
    | cons _ _ => simp [mL] at h
  | cons x xs ih => intro h; cases es with
    | nil => simp [mL] at h
    | cons e es => simp only [mL, Bool.and_eq_true] at h; simp [ih h.2]
theorem mL_all {es : List Ex} {Γ : Cn} : ∀ {xs : List Expr}, mL es Γ xs = true → ∀ (pos : Pos) (env : Env), (backTo pos (starEach xs env)).all (fun x => !x.1) = true := by
  intro xs
  induction xs generalizing es with
  | nil => intro _ _ _; rfl
  | cons x xs ih =>
    intro h pos env
    cases es with
    | nil => simp [mL] at h
    | cons e es =>
      simp only [mL, Bool.and_eq_true] at h
      rw [star_of (mE_plain h.1)]
      show (true && (backTo pos (starEach xs env)).all (fun x => !x.1)) = true
      rw [ih h.2 pos env]
      rfl
theorem bt_len (pos : Pos) (env : Env) : ∀ (xs : List Expr), (backTo pos (starEach xs env)).length = xs.length
  | [] => rfl
  | x :: xs => by
    have := bt_len pos env xs
    cases x <;> simp_all [starEach, backTo]
theorem mK_names {ks : List (Str × Ex)} {Γ : Cn} : ∀ {kws : List Keyword}, mK ks Γ kws = true → ∀ (pos : Pos) (env : Env), (backToKw pos (keywordEach kws env)).all (·.1.isSome) = true ∧
    (backToKw pos (keywordEach kws env)).any (·.1.isNone) = false ∧ (backToKw pos (keywordEach kws env)).filterMap (·.1) = ks.map (·.1) := by
  intro kws
  induction kws generalizing ks with
  | nil =>
    intro h pos env
    cases ks with
    | nil => exact ⟨rfl, rfl, rfl⟩
    | cons _ _ => simp [mK] at h
  | cons x kws ih =>
    intro h pos env
    cases ks with
    | nil => simp [mK] at h
    | cons e ks =>
      obtain ⟨nm, v, p⟩ := x
      obtain ⟨k, e⟩ := e
      cases nm with
      | none => simp [mK] at h
      | some nm =>
        simp only [mK, Bool.and_eq_true, eqS, decide_eq_true_eq] at h
        obtain ⟨⟨rfl, _⟩, h2⟩ := h
        obtain ⟨i1, i2, i3⟩ := ih h2 pos env
        refine ⟨?_, ?_, ?_⟩
        · show (true && (backToKw pos (keywordEach kws env)).all (·.1.isSome)) = true
          rw [i1]; rfl
        · show (false || (backToKw pos (keywordEach kws env)).any (·.1.isNone)) = false
          rw [i2]; rfl
        · show k :: (backToKw pos (keywordEach kws env)).filterMap (·.1) = k :: ks.map (·.1)
          rw [i3]
end Ev
/-! Ev6: contexts; expressions are worth what they say. -/
namespace Ev
open PySem L2

/-- what a def promises, where no guarded call is running -/
structure FnG (P : Program) (w : World) (K : PySem.W.Frag) (mg : Str → Option Value) (base : Heap) (k : Nat) (f : Addr) (fd : FuncData) (ps : List Str) (sp : Sp) : Prop where
  run : ∀ (A : Around) (outer : List Env) (s : Shared) (H : Hp) (args : Args) (us : List Value) (vs : List V) (Q : VK) (E : XK), Room k A → A.guards = some [] → Env0 P w K mg base A outer s H → BindsTo s fd args (ps.zip us) → Vals vs us → sp vs H Q E →
    codeAny (model P w) A (.call (.ref f) args) (CR (L2.CX P w) outer P w H s Q E) s
theorem FnG.mono {P : Program} {w : World} {K : PySem.W.Frag} {mg : Str → Option Value} {base : Heap} {j k : Nat} {f : Addr} {fd : FuncData} {ps : List Str} {sp : Sp} (F : FnG P w K mg base j f fd ps sp) (h : j ≤ k) :
    FnG P w K mg base k f fd ps sp := ⟨fun A outer s H args us vs Q E hr => F.run A outer s H args us vs Q E (hr.mono h)⟩
/-- the promise by data -/
def spF (G : Gb) (P : List Df) (k f : Nat) : Sp := fun vs H Q E => ∃ w ds, w.H = H ∧ WOk G w ∧ RepL G w ds vs ∧
  Post G (fun cls d _ H => E cls d H) [] w (evF P k f ds w.M) fun d w' => ∀ v, Rep G w' d v → Q v w'.H
/-- where each parameter's value comes from -/
def permV {α : Type} (d : α) (pm : List Nat) (xs : List α) : List α := pm.map fun i => (xs[i]?).getD d
/-- a class, as it stands: its facts, R: what is known of its defs -/
structure ClsR (G : Gb) (mg : Str → Option Value) (cf : Cf) (c : Nat) (R : Nat → Addr → Prop) : Prop where
  nm : mg cf.name = some (.ref (G.cls c))
  cl : Cls G.K (G.cls c)
  ty1 : PySem.W.findIn G.K (.ref (G.cls c)) "__class__" = some (some (.builtin "object.__class__"))
  ty2 : PySem.W.specialIn G.K (.builtin "object.__class__") "__get__" = some (some (.builtin "getset_descriptor.__get__"))
  ty3 : PySem.W.takesIn G.K (.builtin "object.__class__") = some true
  ty4 : PySem.W.mroIn G.K (G.cls c) (.type "object") = some true
  fld : ∀ f ∈ cf.flds, NoAttr G.K (G.cls c) f
  mth : ∀ m f, cf.meths.lookup m = some f → ∃ fa, Meth G.K (G.cls c) m fa ∧ R f fa
  ini : ∀ f, cf.init = some f → ∃ fa, Mk G.K (G.cls c) fa ∧ R f fa
  ask : ∀ x b, cf.asks.lookup x = some b → ∃ C, mg x = some (.ref C) ∧ PySem.W.kitOne G.K (.ref (G.cls c)) (.ref C) = some b
theorem ClsR.imp {G : Gb} {mg : Str → Option Value} {cf : Cf} {c : Nat} {R R' : Nat → Addr → Prop} (h : ClsR G mg cf c R) (k : ∀ f fa, R f fa → R' f fa) : ClsR G mg cf c R' :=
  ⟨h.nm, h.cl, h.ty1, h.ty2, h.ty3, h.ty4, h.fld, fun m f e => let ⟨fa, a, b⟩ := h.mth m f e; ⟨fa, a, k _ _ b⟩, fun f e => let ⟨fa, a, b⟩ := h.ini f e; ⟨fa, a, k _ _ b⟩, h.ask⟩
structure Ctx (G : Gb) (Γ : Cn) (k : Nat) (X : Cx) (W : WX) : Prop where
  N : X.N = Γ.N
  sc : X.env.scope = Γ.sc
  K : X.K = G.K
  nd : Γ.N.Nodup
  store : ∀ x, Loc Γ.st x → Loc X.env.scope x ∧ (X.fn x = true ∨ X.env.scope.names.lookup x = some .local)
  calm : X.calm = true
  gd : X.A.guards = some []
  room : Room (2 * k + 1) X.A
  tk : Takes X W
  tab : ∀ f d, Γ.P[f]? = some d → ∃ fa fd, (topB d.name = true → X.mg d.name = some (.ref fa)) ∧ PySem.W.keepIn X.K (.ref fa) = true ∧ FnG X.prog X.w X.K X.mg X.base (2 * k) fa fd d.ps (spF G Γ.P k f) ∧
    ∀ sh ∈ d.shapes, ∀ (s : Shared) (us ws : List Value), us.length = sh.1 → ws.length = sh.2.1.length → BindsTo s fd ⟨us, sh.2.1.zip ws⟩ (d.ps.zip (permV .none sh.2.2 (us ++ ws)))
  blt : ∀ x ∈ Γ.bs, X.mg x = none
  glb : ∀ p ∈ Γ.gs, ∃ u, X.mg p.1 = some u ∧ RelV p.2.v u
  nc : G.nc = Γ.cs.length
  cls : ∀ c cf, Γ.cs[c]? = some cf → ClsR G X.mg cf c fun f fa => ∃ d fd, Γ.P[f]? = some d ∧ FnG X.prog X.w X.K X.mg X.base (2 * k) fa fd d.ps (spF G Γ.P k f) ∧
    ∀ sh ∈ d.shapes, ∀ (s : Shared) (us ws : List Value), us.length = sh.1 → ws.length = sh.2.1.length → BindsTo s fd ⟨us, sh.2.1.zip ws⟩ (d.ps.zip (permV .none sh.2.2 (us ++ ws)))

def RepS (G : Gb) (w : Wd) (σd : Env') (σ : L2.St) : Prop := σd.length = σ.length ∧ ∀ (i : Nat) (d : D), σd[i]? = some (some d) → ∃ v, σ[i]? = some (some v) ∧ Rep G w d v
section
variable {G : Gb} {w w' : Wd} {σd : Env'} {σ : L2.St}
theorem RepS.ext (x : Ext w w') (h : RepS G w σd σ) : RepS G w' σd σ := ⟨h.1, fun i d e => by
  obtain ⟨v, h1, h2⟩ := h.2 i d e
  exact ⟨v, h1, Rep.ext x d v h2⟩⟩
theorem RepS.emb (x : Emb w w') (h : RepS G w σd σ) : RepS G w' σd σ := ⟨h.1, fun i d e => by
  obtain ⟨v, h1, h2⟩ := h.2 i d e
  exact ⟨v, h1, Rep.emb x d v h2⟩⟩
theorem RepS.set (h : RepS G w σd σ) (i : Nat) {d : D} {v : V} (r : Rep G w d v) : RepS G w (σd.set i (some d)) (σ.set i (some v)) := by
  refine ⟨by simp [h.1], fun j e hj => ?_⟩
  by_cases hij : i = j
  · subst hij
    by_cases hl : i < σd.length
    · rw [List.getElem?_set_self hl] at hj
      cases hj
      exact ⟨v, List.getElem?_set_self (by rw [← h.1]; exact hl), r⟩
    · rw [List.getElem?_eq_none (by simpa using hl)] at hj
      cases hj
  · rw [List.getElem?_set_ne hij] at hj
    obtain ⟨u, h1, h2⟩ := h.2 j e hj
    exact ⟨u, by rw [List.getElem?_set_ne hij]; exact h1, h2⟩
theorem RepS.none (h : RepS G w σd σ) (i : Nat) : RepS G w (σd.set i .none) (σ.set i .none) := by
  refine ⟨by simp [h.1], fun j e hj => ?_⟩
  by_cases hij : i = j
  · subst hij
    by_cases hl : i < σd.length
    · rw [List.getElem?_set_self hl] at hj
      cases hj
    · rw [List.getElem?_eq_none (by simpa using hl)] at hj
      cases hj
  · rw [List.getElem?_set_ne hij] at hj
    obtain ⟨u, h1, h2⟩ := h.2 j e hj
    exact ⟨u, by rw [List.getElem?_set_ne hij]; exact h1, h2⟩
theorem RepS.wipe (h : RepS G w σd σ) : ∀ vs : List Nat, RepS G w (wipeD σd vs) (wipe σ vs)
  | [] => h
  | v :: vs => by
    simp only [wipeD, L2.wipe]
    exact (RepS.wipe h vs).none v
end

/-! ### readings -/
section
variable (G : Gb) (Φ : Nat → List D → Mem → Res D) (W : WX)
def tE (x : Ex) : TE := fun σ H Q => ∃ w σd, w.H = H ∧ WOk G w ∧ RepS G w σd σ ∧ Post G W σ w (evE Φ x σd w.M) fun d w' => ∀ v, Rep G w' d v → Q v w'.H
def tL (xs : List Ex) : TA := fun σ H Q => ∃ w σd, w.H = H ∧ WOk G w ∧ RepS G w σd σ ∧ Post G W σ w (evL Φ xs σd w.M) fun ds w' => ∀ vs, RepL G w' ds vs → Q vs w'.H
def tK' (xs : List (Str × Ex)) : TA := fun σ H Q => ∃ w σd, w.H = H ∧ WOk G w ∧ RepS G w σd σ ∧ Post G W σ w (evK Φ xs σd w.M) fun ds w' => ∀ vs, RepL G w' ds vs → Q vs w'.H
/-- a test -/
def evB (x : Ex) (σ : Env') (M : Mem) : Res Bool := (evE Φ x σ M).bind fun d M1 => Res.of (truth M1 d) M1
def tB' (x : Ex) : TT := fun σ H Q => ∃ w σd, w.H = H ∧ WOk G w ∧ RepS G w σd σ ∧ Post G W σ w (evB Φ x σd w.M) fun b w' => Q b w'.H
def tO' (o : Option Ex) : TO := fun σ H Q => ∃ w σd, w.H = H ∧ WOk G w ∧ RepS G w σd σ ∧ Post G W σ w (evO Φ o σd w.M) fun d w' => Q d w'.H
end
theorem PE.imp {X : Cx} {e : Expr} {t t' : TE} (h : PE X e t) (k : ∀ σ H Q, t' σ H Q → t σ H Q) : PE X e t' := ⟨fun pins s σ H Q I q => h.run pins s σ H Q I (k σ H Q q)⟩
theorem PT.imp {X : Cx} {e : Expr} {t t' : TT} (h : PT X e t) (k : ∀ σ H Q, t' σ H Q → t σ H Q) : PT X e t' := ⟨fun pins s σ H Q I q => h.run pins s σ H Q I (k σ H Q q)⟩
theorem PW.imp {X : Cx} {e : Expr} {t t' : TT} (h : PW X e t) (k : ∀ σ H Q, t' σ H Q → t σ H Q) : PW X e t' := ⟨fun wh pins s σ H Q I q => h.run wh pins s σ H Q I (k σ H Q q)⟩
theorem PA.imp {X : Cx} {es : List Expr} {t t' : TA} (h : PA X es t) (k : ∀ σ H Q, t' σ H Q → t σ H Q) : PA X es t' := ⟨fun pos pins s σ H Q I q => h.run pos pins s σ H Q I (k σ H Q q)⟩
theorem PK.imp {X : Cx} {es : List Keyword} {t t' : TA} (h : PK X es t) (k : ∀ σ H Q, t' σ H Q → t σ H Q) : PK X es t' := ⟨fun pos pins s σ H Q I q => h.run pos pins s σ H Q I (k σ H Q q)⟩
theorem PO.imp {X : Cx} {e : Option Expr} {t t' : TO} (h : PO X e t) (k : ∀ σ H Q, t' σ H Q → t σ H Q) : PO X e t' := ⟨fun pins s σ H Q I q => h.run pins s σ H Q I (k σ H Q q)⟩
theorem PG.imp {X : Cx} {e : Expr} {t t' : TG} (h : PG X e t) (k : ∀ v σ H Q, t' v σ H Q → t v σ H Q) : PG X e t' := ⟨fun pins s σ H v u Q I r q => h.run pins s σ H v u Q I r (k v σ H Q q)⟩
theorem PS.imp {X : Cx} {st : Stmt} {t t' : TS} (h : PS X st t) (k : ∀ D σ H, t' D σ H → t D σ H) : PS X st t' := ⟨fun pins s σ H D I q => h.run pins s σ H D I (k D σ H q)⟩
theorem PSs.imp {X : Cx} {st : List Stmt} {t t' : TS} (h : PSs X st t) (k : ∀ D σ H, t' D σ H → t D σ H) : PSs X st t' := ⟨fun pins s σ H D I q => h.run pins s σ H D I (k D σ H q)⟩

/-! ### simple nodes -/
section
variable {G : Gb} {Φ : Nat → List D → Mem → Res D} {W : WX} {X : Cx} {k : Nat} {Γ : Cn}
/-- at once, in the same world -/
theorem post_ok {α : Type} {w : Wd} {σ : L2.St} {a : α} {Qr : α → Wd → Prop} (g : WOk G w) (h : Post G W σ w (.ok a w.M) Qr) : Qr a w := h w (Ext.refl w) g rfl
theorem var_pe (c : Ctx G Γ k X W) {i : Nat} {x : Str} {pos : Pos} (h : (decide (Γ.N[i]? = some x) && visB Γ.sc x && okName x) = true) : PE X (.Name x pos) (tVar i) := by
  simp only [Bool.and_eq_true, decide_eq_true_eq] at h
  obtain ⟨⟨h1, h2⟩, h3⟩ := h
  have hv : Vis X.env.scope x := by
    rw [c.sc]
    unfold visB at h2
    split at h2 <;> first
      | exact .inl (by assumption)
      | exact .inr (.inl (by assumption))
      | exact .inr (.inr (by assumption))
      | cases h2
  simp only [okName, Bool.and_eq_true, Bool.not_eq_true'] at h3
  exact pe_var (i := i) (by rw [c.N]; exact h1) hv h3.1.1 h3.1.2
theorem s_var (c : Ctx G Γ k X W) {i : Nat} {x : Str} {pos : Pos} (h : (decide (Γ.N[i]? = some x) && visB Γ.sc x && okName x) = true) : PE X (.Name x pos) (tE G Φ W (.var i)) := by
  refine PE.imp (var_pe c h) ?_
  rintro σ H Q ⟨w, σd, rfl, g, rs, hp⟩
  simp only [evE] at hp
  split at hp
  · rename_i d e
    obtain ⟨v, e1, r⟩ := rs.2 i d e
    exact ⟨v, e1, post_ok g hp v r⟩
  · exact hp.elim
/-- what an atom tells, whatever is laid beside -/
def tAt : Ex → TE
  | .var i => tVar i
  | .int n => tC (.int n)
  | _ => fun _ _ _ => False
theorem s_atom (c : Ctx G Γ k X W) {a : Ex} {x : Expr} (ha : atB a x = true) (h : mE a Γ x = true) : PE X x (tAt a) := by
  cases a with
  | var i =>
    cases x with
    | Name y p => simp only [mE] at h; exact var_pe c h
    | _ => simp [mE] at h
  | int n =>
    cases x with
    | Constant v j p => cases v with
      | int b =>
        have : n = b := by simpa [mE] using h
        subst this
        exact pe_int
      | _ => simp [mE] at h
    | _ => simp [atB] at ha
  | _ => simp [atB] at ha
theorem atom_at {a : Ex} {x : Expr} (ha : atB a x = true) {σd : Env'} {σ : L2.St} {w : Wd} (rs : RepS G w σd σ) {d : D} {M : Mem} (h : evE Φ a σd w.M = .ok d M) : M = w.M ∧ ∃ v, Rep G w d v ∧ ∀ H Q, Q v H → tAt a σ H Q := by
  cases a with
  | var i =>
    simp only [evE] at h
    split at h
    · rename_i e' e
      cases h
      obtain ⟨v, e1, r⟩ := rs.2 i _ e
      exact ⟨rfl, v, r, fun H Q q => ⟨v, e1, q⟩⟩
    · cases h
  | int n =>
    simp only [evE] at h
    cases h
    exact ⟨rfl, .int n, rep_int, fun H Q q => q⟩
  | _ => simp [atB] at ha
theorem atom_res {a : Ex} {x : Expr} (ha : atB a x = true) {σd : Env'} {M : Mem} : (∃ d, evE Φ a σd M = .ok d M) ∨ evE Φ a σd M = .no := by
  cases a with
  | var i =>
    simp only [evE]
    split
    · exact .inl ⟨_, rfl⟩
    · exact .inr rfl
  | int n => simp only [evE]; exact .inl ⟨_, rfl⟩
  | _ => simp [atB] at ha
theorem rep_dct {w : Wd} (g : WOk G w) {p : Addr} {ds : List (Key × D)} {vs : List (Key × V)} (hp : w.H p = none) (h : RepK G w ds vs) : Rep G { w with H := upd w.H p (.dK vs) } (.dct ds) (.ref p) := by
  simp only [Rep]
  exact ⟨p, vs, rfl, sat_new g hp, RepK.emb (ext_new g hp).emb _ _ h⟩
theorem s_dct0 {pos : Pos} : PE X (.Dict [] [] pos) (tE G Φ W .dct0) := by
  refine PE.imp pe_dnewK ?_
  rintro σ H Q ⟨w, σd, rfl, g, rs, hp⟩
  simp only [evE] at hp
  intro p hn
  exact hp _ (ext_new g hn) (wok_new g hn) rfl _ (rep_dct g hn (by simp only [RepK]))
theorem s_dct1 (c : Ctx G Γ k X W) {a b : Ex} {x y : Expr} {pos : Pos} (ha : atB a x = true) (hb : atB b y = true) (h1 : mE a Γ x = true) (h2 : mE b Γ y = true) : PE X (.Dict [some x] [y] pos) (tE G Φ W (.dct1 a b)) := by
  refine PE.imp (pe_disp (pps_cons (s_atom c ha h1) (s_atom c hb h2) pps_nil) rfl rfl (by simp) (by simp)) ?_
  rintro σ H Q ⟨w, σd, rfl, g, rs, hp⟩
  simp only [evE] at hp
  rcases atom_res (Φ := Φ) (σd := σd) (M := w.M) ha with ⟨d, e1⟩ | e1
  · rcases atom_res (Φ := Φ) (σd := σd) (M := w.M) hb with ⟨e, e2⟩ | e2
    · rw [e1, Res.bind_ok, e2, Res.bind_ok] at hp
      obtain ⟨_, v, r1, t1⟩ := atom_at ha rs e1
      obtain ⟨_, u, r2, t2⟩ := atom_at hb rs e2
      have fin : ∀ q : Key, kV q = v → Post G W σ w (.ok (.dct [(q, e)]) w.M) (fun d w' => ∀ v, Rep G w' d v → Q v w'.H) → tDisp [(tAt a, tAt b)] σ w.H Q := fun q hq hp => by
        intro p hn
        refine t1 _ _ (t2 _ _ ⟨upd_same, [(q, u)], by simp [hq], by simp, ?_⟩)
        rw [upd_upd]
        exact hp _ (ext_new g hn) (wok_new g hn) rfl _ (rep_dct g hn (by simp only [RepK]; exact ⟨u, [], rfl, r2, rfl⟩))
      cases d with
      | int i =>
        simp only [Rep] at r1
        subst r1
        exact fin (.inl i) rfl hp
      | str i =>
        simp only [Rep] at r1
        subst r1
        exact fin (.inr i) rfl hp
      | _ => exact hp.elim
    · rw [e1, Res.bind_ok, e2] at hp
      exact hp.elim
  · rw [e1] at hp
    exact hp.elim
theorem s_frz (c : Ctx G Γ k X W) {i : Nat} {x : Str} {pos : Pos} (h : (decide (Γ.N[i]? = some x) && visB Γ.sc x && okName x) = true) : PE X (.Name x pos) (tE G Φ W (.frz i)) := by
  refine PE.imp (var_pe c h) ?_
  rintro σ H Q ⟨w, σd, rfl, g, rs, hp⟩
  simp only [evE] at hp
  split at hp
  · rename_i j e
    obtain ⟨v, e1, r⟩ := rs.2 i _ e
    simp only [Rep] at r
    obtain ⟨a, rfl, ha⟩ := r
    have x1 : Ext w (w.frz j) := ext_frz
    split at hp
    · rename_i xs hm
      obtain ⟨vs, h1, h2⟩ := g.cell j a _ ha hm
      refine ⟨.ref a, e1, hp (w.frz j) x1 (wok_frz g) rfl (.ref a) ?_⟩
      simp only [Rep]
      exact ⟨a, vs, rfl, ⟨h1, not_live_frz g ha, g.ch j a ha⟩, RepL.ext x1 _ _ h2⟩
    · rename_i cc fs hm
      obtain ⟨hc, dx, vs, h1, h2⟩ := g.cell j a _ ha hm
      refine ⟨.ref a, e1, hp (w.frz j) x1 (wok_frz g) rfl (.ref a) ?_⟩
      simp only [Rep]
      exact ⟨hc, a, dx, vs, rfl, ⟨h1, not_live_frz g ha, g.ch j a ha⟩, RepF.ext x1 _ _ h2⟩
    · exact absurd hp fun z => z
  · exact hp.elim
theorem s_con {e : Expr} {v : V} {d : D} {x : Ex} (h : PE X e (tC v)) (hr : ∀ w, Rep G w d v) (he : ∀ σ M, evE Φ x σ M = .ok d M) : PE X e (tE G Φ W x) := by
  refine PE.imp h ?_
  rintro σ H Q ⟨w, σd, rfl, g, rs, hp⟩
  rw [he] at hp
  exact post_ok g hp v (hr w)
theorem s_bin (c : Ctx G Γ k X W) {o : BO} {a b : Ex} {x y : Expr} {pos : Pos} (ha : PE X x (tE G Φ W a)) (hb : PE X y (tE G Φ W b)) : PE X (.BinOp x (toOp o) y pos) (tE G Φ W (.bin o a b)) := by
  refine PE.imp (pe_op (op_bin c.K o) ha hb) ?_
  rintro σ H Q ⟨w, σd, rfl, g, rs, hp⟩
  simp only [evE] at hp
  refine ⟨w, σd, rfl, g, rs, (Post.bind hp).mono fun d w1 x1 g1 h1 v1 r1 => ?_⟩
  refine ⟨w1, σd, rfl, g1, rs.ext x1, (Post.bind h1).mono fun e w2 x2 g2 h2 v2 r2 => ?_⟩
  obtain ⟨z, hz, h3⟩ := Post.of h2
  exact ⟨w2, d, e, z, rfl, g2, Rep.ext x2 _ _ r1, r2, hz, fun w3 v x3 g3 e3 r => h3 w3 x3 g3 e3 v r⟩
theorem units_of (c : Ctx G Γ k X W) : X.A.units + 100 < cLine := by have := c.room.un; omega
theorem s_cmp (c : Ctx G Γ k X W) {o : CO} {a b : Ex} {x y : Expr} {pos : Pos} (ha : PE X x (tE G Φ W a)) (hb : PE X y (tE G Φ W b)) (hy : plainX y = true) : PE X (.Compare x [toCmp o] [y] pos) (tE G Φ W (.cmp o a b)) := by
  refine PE.imp (pe_cmpR (op_cmp c.K (by have := units_of c; omega) o) ha hb (marks_of hy _)) ?_
  rintro σ H Q ⟨w, σd, rfl, g, rs, hp⟩
  simp only [evE] at hp
  refine ⟨w, σd, rfl, g, rs, (Post.bind hp).mono fun d w1 x1 g1 h1 v1 r1 => ?_⟩
  refine ⟨w1, σd, rfl, g1, rs.ext x1, (Post.bind h1).mono fun e w2 x2 g2 h2 v2 r2 => ?_⟩
  obtain ⟨z, hz, h3⟩ := Post.of h2
  exact ⟨w2, d, e, z, rfl, g2, Rep.ext x2 _ _ r1, r2, hz, fun w3 v x3 g3 e3 r => h3 w3 x3 g3 e3 v r⟩
theorem Post.ofB {α β : Type} {o : Option α} {M : Mem} {f : α → Mem → Res β} {w : Wd} {σ : L2.St} {Qr : β → Wd → Prop} (h : Post G W σ w ((Res.of o M).bind f) Qr) : ∃ a, o = some a ∧ Post G W σ w (f a M) Qr := by
  cases o with
  | some a => exact ⟨a, rfl, h⟩
  | none => exact absurd h fun z => z
theorem t_cmp (c : Ctx G Γ k X W) {o : CO} {a b : Ex} {x y : Expr} {pos : Pos} (ha : PE X x (tE G Φ W a)) (hb : PE X y (tE G Φ W b)) (hy : plainX y = true) : PT X (.Compare x [toCmp o] [y] pos) (tB' G Φ W (.cmp o a b)) := by
  refine PT.imp (pt_cmpR (op_cmp c.K (by have := units_of c; omega) o) ha hb (marks_of hy _)) ?_
  rintro σ H Q ⟨w, σd, rfl, g, rs, hp⟩
  simp only [evB, evE, Res.bind_assoc] at hp
  refine ⟨w, σd, rfl, g, rs, (Post.bind hp).mono fun d w1 x1 g1 h1 v1 r1 => ?_⟩
  refine ⟨w1, σd, rfl, g1, rs.ext x1, (Post.bind h1).mono fun e w2 x2 g2 h2 v2 r2 => ?_⟩
  obtain ⟨z, hz, h3⟩ := Post.ofB h2
  obtain ⟨b, hb, rfl⟩ := Option.map_eq_some_iff.mp hz
  refine ⟨w2, d, e, .bl b, rfl, g2, Rep.ext x2 _ _ r1, r2, hz, fun w3 v x3 g3 e3 r => ?_⟩
  simp only [Rep] at r
  exact ⟨b, r, h3 w3 x3 g3 e3⟩
theorem s_chn (c : Ctx G Γ k X W) {o p : CO} {a b d : Ex} {x y z : Expr} {pos : Pos} (ha : PE X x (tE G Φ W a)) (hb : PE X y (tE G Φ W b)) (hd : PE X z (tE G Φ W d)) (hz : plainX z = true) :
    PE X (.Compare x [toCmp o, toCmp p] [y, z] pos) (tE G Φ W (.chn o p a b d)) := by
  have hu := units_of c
  refine PE.imp (pe_chain (op_cmp c.K (by omega) o) (op_cmp c.K (by omega) p) ha hb hd (by exact marks_of hz _)) ?_
  rintro σ H Q ⟨w, σd, rfl, g, rs, hp⟩
  simp only [evE] at hp
  refine ⟨w, σd, rfl, g, rs, (Post.bind hp).mono fun d1 w1 x1 g1 h1 v1 r1 => ?_⟩
  refine ⟨w1, σd, rfl, g1, rs.ext x1, (Post.bind h1).mono fun d2 w2 x2 g2 h2 v2 r2 => ?_⟩
  cases q : cmpD o w2.M d1 d2 with
  | none => rw [q] at h2; exact absurd h2 fun z => z
  | some bb =>
    rw [q] at h2
    refine ⟨w2, d1, d2, .bl bb, rfl, g2, Rep.ext x2 _ _ r1, r2, by show Option.map D.bl (cmpD o w2.M d1 d2) = _; rw [q]; rfl, fun w3 v x3 g3 e3 r => ?_⟩
    simp only [Rep] at r
    refine ⟨bb, r, ?_⟩
    cases bb with
    | true =>
      rw [if_pos rfl]
      have h2' : Post G W σ w2 ((evE Φ d σd w2.M).bind fun z M3 => Res.of ((cmpD p M3 d2 z).map .bl) M3) (fun d w' => ∀ v, Rep G w' d v → Q v w'.H) := h2
      have h3 := Post.later x3 h2'
      rw [← e3] at h3
      refine ⟨w3, σd, rfl, g3, (rs.ext (x1.trans x2)).ext x3, (Post.bind h3).mono fun d3 w4 x4 g4 h4 v4 r4 => ?_⟩
      obtain ⟨zz, hzz, h5⟩ := Post.of h4
      exact ⟨w4, d2, d3, zz, rfl, g4, Rep.ext (x3.trans x4) _ _ r2, r4, hzz, fun w5 v5 x5 g5 e5 r5 => h5 w5 x5 g5 e5 v5 r5⟩
    | false =>
      rw [if_neg Bool.false_ne_true]
      exact h2 w3 x3 g3 e3 _ rep_bl

theorem t_chn (c : Ctx G Γ k X W) {o p : CO} {a b d : Ex} {x y z : Expr} {pos : Pos} (ha : PE X x (tE G Φ W a)) (hb : PE X y (tE G Φ W b)) (hd : PE X z (tE G Φ W d)) (hz : plainX z = true) :
    PT X (.Compare x [toCmp o, toCmp p] [y, z] pos) (tB' G Φ W (.chn o p a b d)) := by
  have hu := units_of c
  refine PT.imp (pt_chain (op_cmp c.K (by omega) o) (op_cmp c.K (by omega) p) ha hb hd (by exact marks_of hz _)) ?_
  rintro σ H Q ⟨w, σd, rfl, g, rs, hp⟩
  simp only [evB, evE, Res.bind_assoc] at hp
  refine ⟨w, σd, rfl, g, rs, (Post.bind hp).mono fun d1 w1 x1 g1 h1 v1 r1 => ?_⟩
  refine ⟨w1, σd, rfl, g1, rs.ext x1, (Post.bind h1).mono fun d2 w2 x2 g2 h2 v2 r2 => ?_⟩
  cases q : cmpD o w2.M d1 d2 with
  | none => rw [q] at h2; exact absurd h2 fun z => z
  | some bb =>
    rw [q] at h2
    refine ⟨w2, d1, d2, .bl bb, rfl, g2, Rep.ext x2 _ _ r1, r2, by show Option.map D.bl (cmpD o w2.M d1 d2) = _; rw [q]; rfl, fun w3 v x3 g3 e3 r => ?_⟩
    simp only [Rep] at r
    refine ⟨bb, r, ?_⟩
    cases bb with
    | true =>
      rw [if_pos rfl]
      have h2' : Post G W σ w2 (((evE Φ d σd w2.M).bind fun z M3 => Res.of ((cmpD p M3 d2 z).map .bl) M3).bind fun d M1 => Res.of (truth M1 d) M1) (fun b w' => Q b w'.H) := h2
      rw [Res.bind_assoc] at h2'
      have h3 := Post.later x3 h2'
      rw [← e3] at h3
      refine ⟨w3, σd, rfl, g3, (rs.ext (x1.trans x2)).ext x3, (Post.bind h3).mono fun d3 w4 x4 g4 h4 v4 r4 => ?_⟩
      obtain ⟨zz, hzz, h5⟩ := Post.ofB h4
      obtain ⟨b2, hb2, rfl⟩ := Option.map_eq_some_iff.mp hzz
      refine ⟨w4, d2, d3, .bl b2, rfl, g4, Rep.ext (x3.trans x4) _ _ r2, r4, hzz, fun w5 v5 x5 g5 e5 r5 => ?_⟩
      simp only [Rep] at r5
      exact ⟨b2, r5, h5 w5 x5 g5 e5⟩
    | false =>
      rw [if_neg Bool.false_ne_true]
      exact ⟨false, rfl, h2 w3 x3 g3 e3⟩

/-! ### truth -/
theorem t_plain (c : Ctx G Γ k X W) {x : Ex} {e : Expr} (h : PE X e (tE G Φ W x)) (he : ∀ whole, isTrue e X.env whole = (do let v ← whole; standAt e.pos; holding [v] (truthy v))) : PT X e (tB' G Φ W x) := by
  refine PT.imp (pt_truth h he) ?_
  rintro σ H Q ⟨w, σd, rfl, g, rs, hp⟩
  refine ⟨w, σd, rfl, g, rs, (Post.bind hp).mono fun d w1 x1 g1 h1 v1 r1 => ?_⟩
  obtain ⟨b, hb, h3⟩ := Post.of h1
  exact ⟨b, tru_D c.K g1 r1 hb, post_ok g1 h3⟩
theorem evB_and (a b : Ex) (σ : Env') (M : Mem) : evB Φ (.and a b) σ M = (evB Φ a σ M).bind fun t M1 => if t = true then evB Φ b σ M1 else .ok false M1 := by
  simp only [evB, evE, Res.bind_assoc]
  congr 1
  funext x M1
  cases e : truth M1 x with
  | none => rfl
  | some t => cases t with
    | true => rfl
    | false => simp [e]
theorem evB_or (a b : Ex) (σ : Env') (M : Mem) : evB Φ (.or a b) σ M = (evB Φ a σ M).bind fun t M1 => if t = true then .ok true M1 else evB Φ b σ M1 := by
  simp only [evB, evE, Res.bind_assoc]
  congr 1
  funext x M1
  cases e : truth M1 x with
  | none => rfl
  | some t => cases t with
    | true => simp [e]
    | false => rfl
theorem evB_not (a : Ex) (σ : Env') (M : Mem) : evB Φ (.not a) σ M = (evB Φ a σ M).bind fun t M1 => .ok (!t) M1 := by
  simp only [evB, evE, Res.bind_assoc]
  congr 1
  funext x M1
  cases e : truth M1 x with
  | none => rfl
  | some t => rfl
theorem evB_ite (c a b : Ex) (σ : Env') (M : Mem) : evB Φ (.ite c a b) σ M = (evB Φ c σ M).bind fun t M1 => if t = true then evB Φ a σ M1 else evB Φ b σ M1 := by
  simp only [evB, evE, Res.bind_assoc]
  congr 1
  funext x M1
  cases e : truth M1 x with
  | none => rfl
  | some t => cases t <;> rfl
theorem evE_not (a : Ex) (σ : Env') (M : Mem) : evE Φ (.not a) σ M = (evB Φ a σ M).bind fun t M1 => .ok (.bl (!t)) M1 := by
  simp only [evB, evE, Res.bind_assoc]
  congr 1
  funext x M1
  cases e : truth M1 x with
  | none => rfl
  | some t => rfl
theorem evE_ite (c a b : Ex) (σ : Env') (M : Mem) : evE Φ (.ite c a b) σ M = (evB Φ c σ M).bind fun t M1 => if t = true then evE Φ a σ M1 else evE Φ b σ M1 := by
  simp only [evB, evE, Res.bind_assoc]
  congr 1
  funext x M1
  cases e : truth M1 x with
  | none => rfl
  | some t => cases t <;> rfl
theorem t_not {a : Ex} {x : Expr} {pos : Pos} (ha : PT X x (tB' G Φ W a)) : PT X (.UnaryOp .Not x pos) (tB' G Φ W (.not a)) := by
  refine PT.imp (pt_not ha) ?_
  rintro σ H Q ⟨w, σd, rfl, g, rs, hp⟩
  rw [evB_not] at hp
  exact ⟨w, σd, rfl, g, rs, (Post.bind hp).mono fun b w1 x1 g1 h1 => post_ok g1 h1⟩
theorem w_and {a b : Ex} {x y : Expr} {rest : List Expr} {pos : Pos} (ha : PT X x (tB' G Φ W a)) (hb : PW X (.BoolOp .And (y :: rest) pos) (tB' G Φ W b)) : PW X (.BoolOp .And (x :: y :: rest) pos) (tB' G Φ W (.and a b)) := by
  refine PW.imp (pw_and ha hb) ?_
  rintro σ H Q ⟨w, σd, rfl, g, rs, hp⟩
  rw [evB_and] at hp
  refine ⟨w, σd, rfl, g, rs, (Post.bind hp).mono fun t w1 x1 g1 h1 => ?_⟩
  cases t with
  | true =>
    rw [if_pos rfl] at h1 ⊢
    exact ⟨w1, σd, rfl, g1, rs.ext x1, h1⟩
  | false =>
    rw [if_neg Bool.false_ne_true] at h1 ⊢
    exact post_ok g1 h1
theorem w_or {a b : Ex} {x y : Expr} {rest : List Expr} {pos : Pos} (ha : PT X x (tB' G Φ W a)) (hb : PW X (.BoolOp .Or (y :: rest) pos) (tB' G Φ W b)) : PW X (.BoolOp .Or (x :: y :: rest) pos) (tB' G Φ W (.or a b)) := by
  refine PW.imp (pw_or ha hb) ?_
  rintro σ H Q ⟨w, σd, rfl, g, rs, hp⟩
  rw [evB_or] at hp
  refine ⟨w, σd, rfl, g, rs, (Post.bind hp).mono fun t w1 x1 g1 h1 => ?_⟩
  cases t with
  | true =>
    rw [if_pos rfl] at h1 ⊢
    exact post_ok g1 h1
  | false =>
    rw [if_neg Bool.false_ne_true] at h1 ⊢
    exact ⟨w1, σd, rfl, g1, rs.ext x1, h1⟩
theorem pt_ifExp {z x y : Expr} {pos : Pos} {t ta tb : TT} (hc : PT X z t) (ha : PT X x ta) (hb : PT X y tb) : PT X (.IfExp z x y pos) (fun σ H Q => t σ H fun c H1 => if c = true then ta σ H1 Q else tb σ H1 Q) := by
  refine ⟨fun pins s σ H Q I h => ?_⟩
  refine PyProof.Rows.isTrue_IfExp (thn (hc.run pins s σ H _ I h) fun t s1 q => ?_)
  obtain ⟨H1, I1, q1⟩ := q
  cases t with
  | true => exact ha.run pins s1 σ H1 Q I1 q1
  | false => exact hb.run pins s1 σ H1 Q I1 q1
theorem t_ite {c a b : Ex} {z x y : Expr} {pos : Pos} (hc : PT X z (tB' G Φ W c)) (ha : PT X x (tB' G Φ W a)) (hb : PT X y (tB' G Φ W b)) : PT X (.IfExp z x y pos) (tB' G Φ W (.ite c a b)) := by
  refine PT.imp (pt_ifExp hc ha hb) ?_
  rintro σ H Q ⟨w, σd, rfl, g, rs, hp⟩
  rw [evB_ite] at hp
  refine ⟨w, σd, rfl, g, rs, (Post.bind hp).mono fun t w1 x1 g1 h1 => ?_⟩
  cases t with
  | true => rw [if_pos rfl] at h1 ⊢; exact ⟨w1, σd, rfl, g1, rs.ext x1, h1⟩
  | false => rw [if_neg Bool.false_ne_true] at h1 ⊢; exact ⟨w1, σd, rfl, g1, rs.ext x1, h1⟩
theorem s_not {a : Ex} {x : Expr} {pos : Pos} (ha : PT X x (tB' G Φ W a)) (c : Ctx G Γ k X W) (hx : PE X x (tE G Φ W a)) : PE X (.UnaryOp .Not x pos) (tE G Φ W (.not a)) := by
  refine PE.imp (pe_notT hx) ?_
  rintro σ H Q ⟨w, σd, rfl, g, rs, hp⟩
  simp only [evE] at hp
  refine ⟨w, σd, rfl, g, rs, (Post.bind hp).mono fun d w1 x1 g1 h1 v1 r1 => ?_⟩
  obtain ⟨z, hz, h3⟩ := Post.of h1
  obtain ⟨b, hb, rfl⟩ := Option.map_eq_some_iff.mp hz
  exact ⟨b, tru_D c.K g1 r1 hb, post_ok g1 h3 _ rep_bl⟩
theorem s_and (c : Ctx G Γ k X W) {a b : Ex} {x y : Expr} {rest : List Expr} {pos : Pos} (ha : PE X x (tE G Φ W a)) (hb : PE X (.BoolOp .And (y :: rest) pos) (tE G Φ W b)) : PE X (.BoolOp .And (x :: y :: rest) pos) (tE G Φ W (.and a b)) := by
  refine PE.imp (pe_andT ha hb) ?_
  rintro σ H Q ⟨w, σd, rfl, g, rs, hp⟩
  simp only [evE] at hp
  refine ⟨w, σd, rfl, g, rs, (Post.bind hp).mono fun d w1 x1 g1 h1 v1 r1 => ?_⟩
  cases q : truth w1.M d with
  | none => rw [q] at h1; exact absurd h1 fun z => z
  | some t =>
    rw [q] at h1
    refine ⟨t, tru_D c.K g1 r1 q, ?_⟩
    cases t with
    | true => rw [if_pos rfl]; exact ⟨w1, σd, rfl, g1, rs.ext x1, h1⟩
    | false => rw [if_neg Bool.false_ne_true]; exact post_ok g1 h1 _ r1
theorem s_or (c : Ctx G Γ k X W) {a b : Ex} {x y : Expr} {rest : List Expr} {pos : Pos} (ha : PE X x (tE G Φ W a)) (hb : PE X (.BoolOp .Or (y :: rest) pos) (tE G Φ W b)) : PE X (.BoolOp .Or (x :: y :: rest) pos) (tE G Φ W (.or a b)) := by
  refine PE.imp (pe_orT ha hb) ?_
  rintro σ H Q ⟨w, σd, rfl, g, rs, hp⟩
  simp only [evE] at hp
  refine ⟨w, σd, rfl, g, rs, (Post.bind hp).mono fun d w1 x1 g1 h1 v1 r1 => ?_⟩
  cases q : truth w1.M d with
  | none => rw [q] at h1; exact absurd h1 fun z => z
  | some t =>
    rw [q] at h1
    refine ⟨t, tru_D c.K g1 r1 q, ?_⟩
    cases t with
    | true => rw [if_pos rfl]; exact post_ok g1 h1 _ r1
    | false => rw [if_neg Bool.false_ne_true]; exact ⟨w1, σd, rfl, g1, rs.ext x1, h1⟩
theorem s_neg {a : Ex} {x : Expr} {pos : Pos} (ha : PE X x (tE G Φ W a)) : PE X (.UnaryOp .USub x pos) (tE G Φ W (.neg a)) := by
  refine PE.imp (pe_un un_neg ha) ?_
  rintro σ H Q ⟨w, σd, rfl, g, rs, hp⟩
  simp only [evE] at hp
  refine ⟨w, σd, rfl, g, rs, (Post.bind hp).mono fun d w1 x1 g1 h1 v1 r1 => ?_⟩
  cases d with
  | int i =>
    simp only [Rep] at r1
    exact ⟨i, r1, post_ok g1 h1 _ rep_int⟩
  | _ => exact absurd h1 fun z => z
theorem s_ite {c a b : Ex} {z x y : Expr} {pos : Pos} (hc : PT X z (tB' G Φ W c)) (ha : PE X x (tE G Φ W a)) (hb : PE X y (tE G Φ W b)) : PE X (.IfExp z x y pos) (tE G Φ W (.ite c a b)) := by
  refine PE.imp (pe_ifExp hc ha hb) ?_
  rintro σ H Q ⟨w, σd, rfl, g, rs, hp⟩
  rw [evE_ite] at hp
  refine ⟨w, σd, rfl, g, rs, (Post.bind hp).mono fun t w1 x1 g1 h1 => ?_⟩
  cases t with
  | true => rw [if_pos rfl] at h1 ⊢; exact ⟨w1, σd, rfl, g1, rs.ext x1, h1⟩
  | false => rw [if_neg Bool.false_ne_true] at h1 ⊢; exact ⟨w1, σd, rfl, g1, rs.ext x1, h1⟩

/-! ### displays -/
theorem s_nil : PA X [] (tL G Φ W []) := by
  refine PA.imp pa_nil ?_
  rintro σ H Q ⟨w, σd, rfl, g, rs, hp⟩
  simp only [evL] at hp
  exact post_ok g hp [] RepL.nil
theorem s_cons {e : Ex} {es : List Ex} {x : Expr} {xs : List Expr} (ha : PE X x (tE G Φ W e)) (hr : PA X xs (tL G Φ W es)) (hx : plainX x = true) : PA X (x :: xs) (tL G Φ W (e :: es)) := by
  refine PA.imp (pa_cons ha hr (star_of hx _ _)) ?_
  rintro σ H Q ⟨w, σd, rfl, g, rs, hp⟩
  simp only [evL] at hp
  refine ⟨w, σd, rfl, g, rs, (Post.bind hp).mono fun d w1 x1 g1 h1 v1 r1 => ?_⟩
  refine ⟨w1, σd, rfl, g1, rs.ext x1, (Post.bind h1).mono fun ds w2 x2 g2 h2 vs r2 => ?_⟩
  exact post_ok g2 h2 _ (RepL.cons (Rep.ext x2 _ _ r1) r2)
theorem k_nil : PK X [] (tK' G Φ W []) := by
  refine PK.imp pk_nil ?_
  rintro σ H Q ⟨w, σd, rfl, g, rs, hp⟩
  simp only [evK] at hp
  exact post_ok g hp [] RepL.nil
theorem k_cons {n : Str} {e : Ex} {es : List (Str × Ex)} {nm : Option Str} {x : Expr} {kp : Pos} {xs : List Keyword} (ha : PE X x (tE G Φ W e)) (hr : PK X xs (tK' G Φ W es)) : PK X (⟨nm, x, kp⟩ :: xs) (tK' G Φ W ((n, e) :: es)) := by
  refine PK.imp (pk_cons ha hr) ?_
  rintro σ H Q ⟨w, σd, rfl, g, rs, hp⟩
  simp only [evK] at hp
  refine ⟨w, σd, rfl, g, rs, (Post.bind hp).mono fun d w1 x1 g1 h1 v1 r1 => ?_⟩
  refine ⟨w1, σd, rfl, g1, rs.ext x1, (Post.bind h1).mono fun ds w2 x2 g2 h2 vs r2 => ?_⟩
  exact post_ok g2 h2 _ (RepL.cons (Rep.ext x2 _ _ r1) r2)
theorem s_tup {es : List Ex} {xs : List Expr} {n : Nat} {pos : Pos} (h : PA X xs (tL G Φ W es)) : PE X (.Tuple xs n pos) (tE G Φ W (.tup es)) := by
  refine PE.imp (pe_tup h) ?_
  rintro σ H Q ⟨w, σd, rfl, g, rs, hp⟩
  simp only [evE] at hp
  refine ⟨w, σd, rfl, g, rs, (Post.bind hp).mono fun ds w1 x1 g1 h1 vs r1 => ?_⟩
  split at h1
  · rename_i hl
    refine ⟨by rw [← r1.length]; exact hl, fun p hp => h1 _ (ext_new g1 hp) (wok_new g1 hp) rfl _ (rep_tup g1 hp r1)⟩
  · exact absurd h1 fun z => z
theorem s_stup (c : Ctx G Γ k X W) {a : Ex} {es : List Ex} {x : Expr} {xs : List Expr} {n : Nat} {p pos : Pos} (ha : PE X x (tE G Φ W a)) (h : PA X xs (tL G Φ W es)) : PE X (.Tuple (.Starred x p :: xs) n pos) (tE G Φ W (.stup a es)) := by
  refine PE.imp (pe_tup (StX.pa_star ha h)) ?_
  rintro σ H Q ⟨w, σd, rfl, g, rs, hp⟩
  simp only [evE] at hp
  refine ⟨w, σd, rfl, g, rs, (Post.bind hp).mono fun d w1 x1 g1 h1 v r1 => ?_⟩
  split at h1
  · rename_i ys hy
    have sq : ∃ q vs, v = V.ref q ∧ (SqT X.K w1.H q vs ∨ SqL X.K w1.H q vs) ∧ RepL G w1 ys vs := by
      rw [c.K]
      by_cases ht : ∃ zs, d = .tup zs
      · obtain ⟨zs, rfl⟩ := ht
        simp only [seqA, Option.some.injEq] at hy
        subst hy
        obtain ⟨b, vs, rfl, h2, h3⟩ := Rep.tup r1
        exact ⟨b, vs, rfl, .inl h2, h3⟩
      · have hy' : seqL w1.M d = some ys := by
          cases d <;> first | exact hy | exact absurd ⟨_, rfl⟩ ht
        obtain ⟨b, vs, rfl, h2, h3⟩ := Rep.lst g1 r1 hy'
        exact ⟨b, vs, rfl, .inr h2, h3⟩
    obtain ⟨q, vs, rfl, h2, h3⟩ := sq
    refine ⟨q, vs, rfl, h2, w1, σd, rfl, g1, rs.ext x1, (Post.bind h1).mono fun ds w2 x2 g2 h4 us r2 => ?_⟩
    split at h4
    · rename_i hl
      have r3 := (RepL.ext x2 _ _ h3).append r2
      refine ⟨by rw [List.length_append, ← h3.length, ← r2.length]; exact hl, fun p hp => h4 _ (ext_new g2 hp) (wok_new g2 hp) rfl _ (rep_tup g2 hp r3)⟩
    · exact absurd h4 fun z => z
  · exact absurd h1 fun z => z
theorem s_lst {es : List Ex} {xs : List Expr} {pos : Pos} (h : PA X xs (tL G Φ W es)) : PE X (.List xs pos) (tE G Φ W (.lst es)) := by
  refine PE.imp (pe_lst h) ?_
  rintro σ H Q ⟨w, σd, rfl, g, rs, hp⟩
  simp only [evE] at hp
  refine ⟨w, σd, rfl, g, rs, (Post.bind hp).mono fun ds w1 x1 g1 h1 vs r1 => ?_⟩
  split at h1
  · rename_i hl
    refine ⟨by rw [← r1.length]; exact hl, fun p hp => h1 _ (ext_new g1 hp) (wok_new g1 hp) rfl _ (rep_lst g1 hp r1)⟩
  · exact absurd h1 fun z => z
theorem s_mls {es : List Ex} {xs : List Expr} {pos : Pos} (h : PA X xs (tL G Φ W es)) : PE X (.List xs pos) (tE G Φ W (.mls es)) := by
  refine PE.imp (pe_lst h) ?_
  rintro σ H Q ⟨w, σd, rfl, g, rs, hp⟩
  simp only [evE] at hp
  refine ⟨w, σd, rfl, g, rs, (Post.bind hp).mono fun ds w1 x1 g1 h1 vs r1 => ?_⟩
  split at h1
  · rename_i hl
    refine ⟨by rw [← r1.length]; exact hl, fun p hp => ?_⟩
    have x2 := ext_alloc (m := .lst ds) (o := .lst vs) g1 hp
    refine h1 (w1.alloc p (.lst ds) (.lst vs)) x2 (wok_alloc g1 hp ⟨vs, upd_same, RepL.ext x2 _ _ r1⟩) rfl (.ref p) ?_
    simp only [Rep]
    refine ⟨p, rfl, ?_⟩
    show (w1.as ++ [p])[w1.M.length]? = some p
    rw [← g1.len, List.getElem?_append_right (Nat.le_refl _), Nat.sub_self]
    rfl
  · exact absurd h1 fun z => z

/-! ### places, cuts -/
theorem s_ix (c : Ctx G Γ k X W) {a b : Ex} {x y : Expr} {pos : Pos} (ha : PE X x (tE G Φ W a)) (hb : PE X y (tE G Φ W b)) (hy : plainX y = true) : PE X (.Subscript x y pos) (tE G Φ W (.ix a b)) := by
  refine PE.imp (pe_ix (ix_D c.K) ha hb (ixPlain hy)) ?_
  rintro σ H Q ⟨w, σd, rfl, g, rs, hp⟩
  simp only [evE] at hp
  refine ⟨w, σd, rfl, g, rs, (Post.bind hp).mono fun d w1 x1 g1 h1 v1 r1 => ?_⟩
  refine ⟨w1, σd, rfl, g1, rs.ext x1, (Post.bind h1).mono fun e w2 x2 g2 h2 v2 r2 => ?_⟩
  obtain ⟨z, hz, h3⟩ := Post.of h2
  exact ⟨w2, d, e, z, rfl, g2, Rep.ext x2 _ _ r1, r2, hz, fun w3 v x3 g3 e3 r => h3 w3 x3 g3 e3 v r⟩
end
end Ev
/-! Ev7: cuts, calls, methods, targets, what is walked, comprehensions. -/
namespace Ev
open PySem L2
section
variable {G : Gb} {Φ : Nat → List D → Mem → Res D} {W : WX} {X : Cx} {k : Nat} {Γ : Cn}

/-! ### cuts -/
theorem o_none : PO X none (tO' G Φ W none) := by
  refine PO.imp po_none ?_
  rintro σ H Q ⟨w, σd, rfl, g, rs, hp⟩
  simp only [evO] at hp
  exact post_ok g hp
theorem o_some {a : Ex} {x : Expr} (ha : PE X x (tE G Φ W a)) : PO X (some x) (tO' G Φ W (some a)) := by
  refine PO.imp (po_some ha) ?_
  rintro σ H Q ⟨w, σd, rfl, g, rs, hp⟩
  simp only [evO] at hp
  refine ⟨w, σd, rfl, g, rs, (Post.bind hp).mono fun d w1 x1 g1 h1 v1 r1 => ?_⟩
  cases d with
  | int j =>
    simp only [Rep] at r1
    exact ⟨j, r1, post_ok g1 h1⟩
  | _ => exact absurd h1 fun z => z
theorem s_slc (c : Ctx G Γ k X W) {a : Ex} {lo hi : Option Ex} {x : Expr} {l h : Option Expr} {pos p2 : Pos} (ha : PE X x (tE G Φ W a)) (hl : PO X l (tO' G Φ W lo)) (hh : PO X h (tO' G Φ W hi)) : PE X (.Subscript x (.Slice l h none p2) pos) (tE G Φ W (.slc a lo hi)) := by
  refine PE.imp (pe_slice (sl_D c.K) ha hl hh) ?_
  rintro σ H Q ⟨w, σd, rfl, g, rs, hp⟩
  simp only [evE] at hp
  refine ⟨w, σd, rfl, g, rs, (Post.bind hp).mono fun d w1 x1 g1 h1 v1 r1 => ?_⟩
  refine ⟨w1, σd, rfl, g1, rs.ext x1, (Post.bind h1).mono fun i w2 x2 g2 h2 => ?_⟩
  refine ⟨w2, σd, rfl, g2, (rs.ext x1).ext x2, (Post.bind h2).mono fun j w3 x3 g3 h3 => ?_⟩
  obtain ⟨z, hz, h4⟩ := Post.of h3
  exact ⟨w3, d, z, rfl, g3, Rep.ext (x2.trans x3) _ _ r1, hz, fun w4 v x4 g4 e4 r => h4 w4 x4 g4 e4 v r⟩

/-! ### from behind -/
theorem RepL.rev {w : Wd} : ∀ {ds : List D} {vs : List V}, RepL G w ds vs → RepL G w ds.reverse vs.reverse
  | [], _, h => by simp only [RepL] at h; subst h; exact RepL.nil
  | d :: ds, _, h => by
    simp only [RepL] at h
    obtain ⟨v, r, rfl, h1, h2⟩ := h
    rw [List.reverse_cons, List.reverse_cons]
    exact RepL.append (RepL.rev h2) (RepL.cons h1 RepL.nil)
theorem s_rev (c : Ctx G Γ k X W) {a : Ex} {x : Expr} {n : Nat} {p1 p2 p3 pos : Pos} (ha : PE X x (tE G Φ W a)) : PE X (.Subscript x (.Slice none none (some (.UnaryOp .USub (.Constant (.int 1) n p1) p2)) p3) pos) (tE G Φ W (.rev a)) := by
  refine ⟨fun pins s σ H Q I h => ?_⟩
  obtain ⟨w, σd, rfl, g, rs, hp⟩ := h
  simp only [evE] at hp
  by_cases ht : ∃ ys M, evE Φ a σd w.M = .ok (.tup ys) M
  · obtain ⟨ys, M, e⟩ := ht
    refine (pe_revT ha).run pins s σ w.H Q I ⟨w, σd, rfl, g, rs, (Post.bind hp).monoE fun d w1 ed x1 g1 h1 v1 r1 => ?_⟩
    rw [e] at ed
    cases ed
    obtain ⟨b, vs, rfl, h2, h3⟩ := Rep.tup r1
    exact ⟨b, vs, rfl, by rw [c.K]; exact h2, fun p hp => h1 _ (ext_new g1 hp) (wok_new g1 hp) rfl _ (rep_tup g1 hp h3.rev)⟩
  · refine (pe_revL ha).run pins s σ w.H Q I ⟨w, σd, rfl, g, rs, (Post.bind hp).monoE fun d w1 ed x1 g1 h1 v1 r1 => ?_⟩
    obtain ⟨z, hz, h4⟩ := Post.of h1
    have hz' : (seqL w1.M d).map (fun xs => D.lst xs.reverse) = some z := by
      cases d <;> first | exact hz | exact absurd ⟨_, _, ed⟩ ht
    obtain ⟨xs, hx, rfl⟩ := Option.map_eq_some_iff.mp hz'
    obtain ⟨b, vs, rfl, h2, h3⟩ := Rep.lst g1 r1 hx
    exact ⟨b, vs, rfl, by rw [c.K]; exact h2, fun p hp => h4 _ (ext_new g1 hp) (wok_new g1 hp) rfl _ (rep_lst g1 hp h3.rev)⟩

/-! ### calls -/
theorem vals_perm {vs : List V} {us : List Value} (r : Vals vs us) : ∀ pm : List Nat, Vals (permV .non pm vs) (permV .none pm us)
  | [] => .nil
  | i :: pm => by
    refine .cons ?_ (vals_perm r pm)
    show RelV ((vs[i]?).getD .non) ((us[i]?).getD .none)
    cases e : vs[i]? with
    | none =>
      rw [r.none_of e]
      rfl
    | some v =>
      obtain ⟨u, hu, ru⟩ := r.get e
      rw [hu]
      exact ru
theorem repL_perm {w : Wd} {ds : List D} {vs : List V} (r : RepL G w ds vs) : ∀ pm : List Nat, RepL G w (permV .non pm ds) (permV .non pm vs)
  | [] => RepL.nil
  | i :: pm => by
    refine RepL.cons ?_ (repL_perm r pm)
    show Rep G w ((ds[i]?).getD .non) ((vs[i]?).getD .non)
    cases e : ds[i]? with
    | none =>
      have : vs[i]? = none := by
        rw [List.getElem?_eq_none_iff] at e ⊢
        rw [← r.length]
        exact e
      rw [this]
      exact rep_non
    | some d =>
      obtain ⟨v, hv, rv⟩ := r.get e
      rw [hv]
      exact rv
theorem Post.wish {α : Type} {w : Wd} {σ : L2.St} {r : Res α} {Qr : α → Wd → Prop} (h : Post G W σ w r Qr) : Post G (fun cls d _ H => WE W σ cls d H) [] w r Qr := by
  cases r <;> exact h
theorem evL_len : ∀ {es : List Ex} {σ : Env'} {M M' : Mem} {ds : List D}, evL Φ es σ M = .ok ds M' → ds.length = es.length
  | [], _, _, _, _, h => by simp only [evL] at h; cases h; rfl
  | e :: es, σ, M, M', ds, h => by
    simp only [evL] at h
    cases q : evE Φ e σ M with
    | ok d M1 =>
      rw [q] at h
      simp only [Res.bind_ok] at h
      cases q2 : evL Φ es σ M1 with
      | ok ds2 M2 =>
        rw [q2] at h
        cases h
        simp [evL_len q2]
      | ex _ _ _ => rw [q2] at h; cases h
      | no => rw [q2] at h; cases h
    | ex _ _ _ => rw [q] at h; cases h
    | no => rw [q] at h; cases h
theorem evK_len : ∀ {es : List (Str × Ex)} {σ : Env'} {M M' : Mem} {ds : List D}, evK Φ es σ M = .ok ds M' → ds.length = es.length
  | [], _, _, _, _, h => by simp only [evK] at h; cases h; rfl
  | (n, e) :: es, σ, M, M', ds, h => by
    simp only [evK] at h
    cases q : evE Φ e σ M with
    | ok d M1 =>
      rw [q] at h
      simp only [Res.bind_ok] at h
      cases q2 : evK Φ es σ M1 with
      | ok ds2 M2 =>
        rw [q2] at h
        cases h
        simp [evK_len q2]
      | ex _ _ _ => rw [q2] at h; cases h
      | no => rw [q2] at h; cases h
    | ex _ _ _ => rw [q] at h; cases h
    | no => rw [q] at h; cases h
theorem s_call (c : Ctx G Γ k X W) {f : Nat} {d : Df} {pm : List Nat} {x : Str} {es : List Ex} {ks : List (Str × Ex)} {args : List Expr} {kws : List Keyword} {p pos : Pos} (hd : Γ.P[f]? = some d) (hx : d.name = x) (htop : topB d.name = true) (hgl : glB Γ.sc x = true) (hok : okName x = true)
    (hL : mL es Γ args = true) (hK : mK ks Γ kws = true) (hsh : (es.length, ks.map (·.1), pm) ∈ d.shapes) (ha : PA X args (tL G (evF Γ.P k) W es)) (hk : PK X kws (tK' G (evF Γ.P k) W ks)) :
    PE X (.Call (.Name x p) args kws pos) (tE G (evF Γ.P k) W (.call f es ks pm)) := by
  obtain ⟨fa, fd, gm, kp, F, sh⟩ := c.tab f d hd
  have gm := gm htop
  rw [hx] at gm
  have hgx : Gl X x := by
    show X.env.scope.names.lookup x = some .globalImplicit
    rw [c.sc]
    unfold glB at hgl
    split at hgl <;> first | assumption | cases hgl
  simp only [okName, Bool.and_eq_true, Bool.not_eq_true'] at hok
  refine ⟨fun pins s σ H Q I h => ?_⟩
  refine PySem.wpAny_Call_Name_kw (ld_glob I hgx gm ?_ hok.1.1)
  have run : ∀ (s2 : Shared) (H2 : Hp) (us ws : List Value) (vs zs : List V), Inv X pins σ H2 s2 → Vals vs us → Vals zs ws → vs.length = es.length → zs.length = ks.length → spF G Γ.P k f (permV .non pm (vs ++ zs)) H2 Q (WE W σ) →
      wpAny (model X.prog X.w) X.A (call (.ref fa) us ((ks.map (·.1)).zip ws)) (EP X pins σ Q) X.xe s2 := fun s2 H2 us ws vs zs I2 rv rz l1 l2 hsp => by
    have b := sh _ hsh s2 us ws (by rw [← rv.length]; exact l1) (by rw [← rz.length, l2, List.length_map])
    refine PySem.wpAny_call (codeAny_mono (F.run X.A X.stack s2 H2 ⟨us, (ks.map (·.1)).zip ws⟩ _ _ Q (WE W σ) (c.room.mono (Nat.le_succ _)) c.gd I2.env0 b (vals_perm (rv.append rz) pm) hsp) fun r s' hq => ?_)
    cases r with
    | error e => exact passAt c.tk σ pins H2 s2 e s' I2 hq
    | ok fl =>
      cases fl with
      | ret u => exact I2.after hq
      | next => exact False.elim hq
      | brk => exact False.elim hq
      | cont => exact False.elim hq
  obtain ⟨n1, n2, n3⟩ := mK_names hK pos X.env
  obtain ⟨w, σd, rfl, g, rs, hp⟩ := h
  simp only [evE] at hp
  -- behind the arguments: the keywords, then the call
  have kwp : ∀ (s1 : Shared) (w1 : Wd) (us : List Value) (ds : List D) (vs : List V), Inv X pins σ w1.H s1 → WOk G w1 → RepS G w1 σd σ → Vals vs us → RepL G w1 ds vs → ds.length = es.length →
      Post G W σ w1 ((evK (evF Γ.P k) ks σd w1.M).bind fun us M2 => evF Γ.P k f (pm.map fun i => ((ds ++ us)[i]?).getD .non) M2) (fun d w' => ∀ v, Rep G w' d v → Q v w'.H) →
      wpAny (model X.prog X.w) X.A (evalAll ((backToKw pos (keywordEach kws X.env)).map (·.2))) (fun ws s₂ => X.K.In s₂.heap ∧ wpAny (model X.prog X.w) X.A (call (.ref fa) us (((backToKw pos (keywordEach kws X.env)).filterMap (·.1)).zip ws)) (EP X pins σ Q) X.xe s₂) X.xe s1 := fun s1 w1 us ds vs I1 g1 rs1 rv rl hl h1 => by
    refine thn (hk.run pos pins s1 σ w1.H (fun zs H2 => zs.length = ks.length ∧ spF G Γ.P k f (permV .non pm (vs ++ zs)) H2 Q (WE W σ)) I1 ⟨w1, σd, rfl, g1, rs1, (Post.bind h1).monoE fun zs w2 ez x2 g2 h2 ys ry => ?_⟩) fun ws s2 ⟨zs, H2, I2, rz, lz, q2⟩ => ⟨I2.kIn, ?_⟩
    · refine ⟨by rw [← ry.length]; exact evK_len ez, w2, _, rfl, g2, repL_perm ((RepL.ext x2 _ _ rl).append ry) pm, Post.wish h2⟩
    · rw [n3]
      exact run s2 H2 us ws vs zs I2 rv rz (by rw [← rl.length]; exact hl) lz q2
  cases args with
  | nil =>
    cases es with
    | cons _ _ => simp [mL] at hL
    | nil =>
      refine PySem.W.callWith_KW0 (h₀ := X.base) I.ok.mod.kin kp n1 ?_ (by rw [n2]; rfl)
      exact kwp s w [] [] [] I g rs .nil RepL.nil rfl hp
  | cons e rest =>
    cases es with
    | nil => simp [mL] at hL
    | cons e' es' =>
      simp only [mL, Bool.and_eq_true] at hL
      have hst := star_of (mE_plain hL.1) rest X.env
      refine PySem.W.callWith_KW (h₀ := X.base) I.ok.mod.kin kp n1 (thn (ha.run pos pins s σ w.H (fun vs H1 => ∃ w1 ds, w1.H = H1 ∧ WOk G w1 ∧ RepS G w1 σd σ ∧ RepL G w1 ds vs ∧ ds.length = (e' :: es').length ∧
        Post G W σ w1 ((evK (evF Γ.P k) ks σd w1.M).bind fun us M2 => evF Γ.P k f (pm.map fun i => ((ds ++ us)[i]?).getD .non) M2) (fun d w' => ∀ v, Rep G w' d v → Q v w'.H)) I ⟨w, σd, rfl, g, rs, (Post.bind hp).monoE fun ds w1 ed x1 g1 h1 vs rv => ⟨w1, ds, rfl, g1, rs.ext x1, rv, evL_len ed, h1⟩⟩) fun us s1 ⟨vs, H1, I1, r1, w1, ds, e1, g1, rs1, rl, hl, h1⟩ => ?_) ?_ hst
      · subst e1
        exact kwp s1 w1 us ds vs I1 g1 rs1 r1 rl hl h1
      · rw [hst, n2]
        show ((false || (backTo pos (starEach rest X.env)).any (·.1)) || false) = false
        rw [mL_star hL.2]
        rfl
end
end Ev
/-! Ev8: built-in calls, methods, targets, what is walked, comprehensions. -/
namespace Ev
open PySem L2
section
variable {G : Gb} {Φ : Nat → List D → Mem → Res D} {W : WX} {X : Cx} {k : Nat} {Γ : Cn}

theorem gl_of (c : Ctx G Γ k X W) {x : Str} (hgl : glB Γ.sc x = true) : Gl X x := by
  show X.env.scope.names.lookup x = some .globalImplicit
  rw [c.sc]
  unfold glB at hgl
  split at hgl <;> first | assumption | cases hgl
/-- a constant of the module -/
theorem s_glb (c : Ctx G Γ k X W) {v : GC} {d : D} {ex : Ex} {x : Str} {pos : Pos} (h : (glB Γ.sc x && okName x && decide ((x, v) ∈ Γ.gs)) = true) (hr : ∀ w, Rep G w d v.v) (he : ∀ σ M, evE Φ ex σ M = .ok d M) : PE X (.Name x pos) (tE G Φ W ex) := by
  simp only [Bool.and_eq_true, decide_eq_true_eq] at h
  obtain ⟨u, hm, r⟩ := c.glb _ h.2
  refine s_con (pe_glob (gl_of c h.1.1) hm r ?_) hr he
  have := h.1.2
  simp only [okName, Bool.and_eq_true, Bool.not_eq_true'] at this
  exact this.1.1
theorem mg_none (c : Ctx G Γ k X W) {x : Str} (h : Γ.bs.contains x = true) : X.mg x = none := c.blt x (by simpa using h)
theorem ok_parts {x : Str} (h : okName x = true) : (x == ("__debug__" : Str)) = false ∧ x ≠ ("__name__" : Str) := by
  simp only [okName, Bool.and_eq_true, Bool.not_eq_true'] at h
  exact ⟨h.1.1, by simpa using h.2⟩

/-! ### built-in calls -/
theorem bi_boot : ∀ b : Bi, bootBuiltins (biName b) = some (biVal b)
  | .int => PyProof.Rows.boot_int
  | .len => PySem.boot_len
  | .abs => PyProof.Rows.boot_abs
  | .repr => PyProof.Rows.boot_repr
  | .str => PyProof.Rows.boot_str
  | .tuple => PyProof.Rows.boot_tuple
  | .list => PyProof.Rows.boot_list
  | .all => by decide +kernel
  | .any => by decide +kernel
  | .bool => by decide +kernel
  | .min => by decide +kernel
  | .max => by decide +kernel
  | .sum => by decide +kernel
  | .sorted => by decide +kernel
/-- list(x), which may still change -/
theorem s_mbl (c : Ctx G Γ k X W) {x : Str} {e : Ex} {a : Expr} {p pos : Pos} (hx : x = "list") (hgl : glB Γ.sc x = true) (hok : okName x = true) (hbs : Γ.bs.contains x = true) (hm : mE e Γ a = true) (ha : PE X a (tE G Φ W e)) : PE X (.Call (.Name x p) [a] [] pos) (tE G Φ W (.mbl e)) := by
  subst hx
  obtain ⟨o1, o2⟩ := ok_parts hok
  have hst := star_of (mE_plain hm) [] X.env
  refine PE.imp (pe_callTy call_list_of (gl_of c hgl) (mg_none c hbs) PyProof.Rows.boot_list (pa_cons ha pa_nil hst) o2 o1 hst) ?_
  rintro σ H Q ⟨w, σd, rfl, g, rs, hp⟩
  simp only [evE] at hp
  refine ⟨w, σd, rfl, g, rs, (Post.bind hp).mono fun d w1 x1 g1 h1 v r1 => ?_⟩
  split at h1
  · rename_i ys hy
    have sq : ∃ q vs, v = V.ref q ∧ (SqL X.K w1.H q vs ∨ SqT X.K w1.H q vs) ∧ RepL G w1 ys vs := by
      rw [c.K]
      by_cases ht : ∃ zs, d = .tup zs
      · obtain ⟨zs, rfl⟩ := ht
        simp only [seqA, Option.some.injEq] at hy
        subst hy
        obtain ⟨b, vs, rfl, h2, h3⟩ := Rep.tup r1
        exact ⟨b, vs, rfl, .inr h2, h3⟩
      · have hy' : seqL w1.M d = some ys := by
          cases d <;> first | exact hy | exact absurd ⟨_, rfl⟩ ht
        obtain ⟨b, vs, rfl, h2, h3⟩ := Rep.lst g1 r1 hy'
        exact ⟨b, vs, rfl, .inl h2, h3⟩
    obtain ⟨q, vs, rfl, h2, h3⟩ := sq
    refine ⟨q, vs, rfl, h2, fun p hp => ?_⟩
    have x2 := ext_alloc (m := .lst ys) (o := .lst vs) g1 hp
    refine h1 (w1.alloc p (.lst ys) (.lst vs)) x2 (wok_alloc g1 hp ⟨vs, upd_same, RepL.ext x2 _ _ h3⟩) rfl (.ref p) ?_
    simp only [Rep]
    refine ⟨p, rfl, ?_⟩
    show (w1.as ++ [p])[w1.M.length]? = some p
    rw [← g1.len, List.getElem?_append_right (Nat.le_refl _), Nat.sub_self]
    rfl
  · exact absurd h1 fun z => z
theorem s_bi (c : Ctx G Γ k X W) {b : Bi} {x : Str} {es : List Ex} {args : List Expr} {p pos : Pos} (hx : x = biName b) (hgl : glB Γ.sc x = true) (hok : okName x = true) (hbs : Γ.bs.contains x = true) (hL : mL es Γ args = true) (hne : args ≠ [])
    (ha : PA X args (tL G Φ W es)) : PE X (.Call (.Name x p) args [] pos) (tE G Φ W (.bi b es)) := by
  subst hx
  obtain ⟨o1, o2⟩ := ok_parts hok
  cases args with
  | nil => exact absurd rfl hne
  | cons e rest =>
    cases es with
    | nil => simp [mL] at hL
    | cons e' es' =>
      simp only [mL, Bool.and_eq_true] at hL
      have hst := star_of (mE_plain hL.1) rest X.env
      have hpl := mL_star hL.2 pos X.env
      have cr := call_bi (X := X) (G := G) c.calm c.K (units_of c) c.gd b
      have base : PE X (.Call (.Name (biName b) p) (e :: rest) [] pos) (tCB (rCall G (evBi b)) (tL G Φ W (e' :: es'))) := by
        have bb := bi_boot b
        cases b with
        | int => exact pe_callTy cr (gl_of c hgl) (mg_none c hbs) bb ha o2 o1 hst hpl
        | str => exact pe_callTy cr (gl_of c hgl) (mg_none c hbs) bb ha o2 o1 hst hpl
        | tuple => exact pe_callTy cr (gl_of c hgl) (mg_none c hbs) bb ha o2 o1 hst hpl
        | list => exact pe_callTy cr (gl_of c hgl) (mg_none c hbs) bb ha o2 o1 hst hpl
        | len => exact pe_callB cr (gl_of c hgl) (mg_none c hbs) bb ha o2 o1 hst hpl
        | abs => exact pe_callB cr (gl_of c hgl) (mg_none c hbs) bb ha o2 o1 hst hpl
        | repr => exact pe_callB cr (gl_of c hgl) (mg_none c hbs) bb ha o2 o1 hst hpl
        | all => exact pe_callB cr (gl_of c hgl) (mg_none c hbs) bb ha o2 o1 hst hpl
        | any => exact pe_callB cr (gl_of c hgl) (mg_none c hbs) bb ha o2 o1 hst hpl
        | min => exact pe_callB cr (gl_of c hgl) (mg_none c hbs) bb ha o2 o1 hst hpl
        | sum => exact pe_callB cr (gl_of c hgl) (mg_none c hbs) bb ha o2 o1 hst hpl
        | sorted => exact pe_callB cr (gl_of c hgl) (mg_none c hbs) bb ha o2 o1 hst hpl
        | max => exact pe_callB cr (gl_of c hgl) (mg_none c hbs) bb ha o2 o1 hst hpl
        | bool => exact pe_callTy cr (gl_of c hgl) (mg_none c hbs) bb ha o2 o1 hst hpl
      refine PE.imp base ?_
      rintro σ H Q ⟨w, σd, rfl, g, rs, hp⟩
      simp only [evE] at hp
      refine ⟨w, σd, rfl, g, rs, (Post.bind hp).mono fun ds w1 x1 g1 h1 vs r1 => ?_⟩
      obtain ⟨z, hz, h2⟩ := Post.of h1
      exact ⟨w1, ds, z, rfl, g1, r1, hz, fun w2 v x2 g2 e2 r => h2 w2 x2 g2 e2 v r⟩
theorem ty_boot {t : String} (h : tyAsk.contains t = true) : bootBuiltins (Str.ofString t) = some (.type t) := by
  have hm : t ∈ tyAsk := by simpa using h
  simp only [tyAsk, List.mem_cons, List.mem_nil_iff, or_false] at hm
  rcases hm with rfl | rfl | rfl | rfl | rfl | rfl
  · exact PyProof.Rows.boot_int
  · exact PyProof.Rows.boot_bool
  · exact PyProof.Rows.boot_str
  · exact PyProof.Rows.boot_list
  · exact PyProof.Rows.boot_tuple
  · exact PyProof.Rows.boot_dict
theorem pe_ty (c : Ctx G Γ k X W) {t : String} {e : Expr} (h : mTy Γ t e = true) (ht : tyAsk.contains t = true) : PE X e (tC (.ty t)) := by
  cases e with
  | Name x p =>
    simp only [mTy, Bool.and_eq_true, eqS, decide_eq_true_eq] at h
    obtain ⟨⟨⟨rfl, h2⟩, h3⟩, h4⟩ := h
    obtain ⟨o1, o2⟩ := ok_parts h4
    exact pe_bltn (gl_of c h2) (mg_none c (by simpa using h3)) (ty_boot ht) rfl o2 o1
  | _ => simp [mTy] at h
theorem mTy_plain {t : String} {e : Expr} (h : mTy Γ t e = true) : plainX e = true := by
  cases e <;> first | rfl | simp [mTy] at h
def tTys (ts : List String) : TA := fun _ H Q => Q (tyVs ts) H
theorem pa_tys (c : Ctx G Γ k X W) : ∀ {ts : List String} {es : List Expr}, mTys Γ ts es = true → (∀ t ∈ ts, tyAsk.contains t = true) → PA X es (tTys ts)
  | [], [], _, _ => pa_nil
  | [], _ :: _, h, _ => by simp [mTys] at h
  | _ :: _, [], h, _ => by simp [mTys] at h
  | t :: ts, e :: es, h, ht => by
    simp only [mTys, Bool.and_eq_true] at h
    exact PA.imp (pa_cons (pe_ty c h.1 (ht t (List.mem_cons_self ..))) (pa_tys c h.2 fun t' h' => ht t' (List.mem_cons_of_mem _ h')) (star_of (mTy_plain h.1) _ _)) fun σ H Q q => q
theorem s_isi (c : Ctx G Γ k X W) {ts : List String} {x : Str} {e : Ex} {a cl : Expr} {p pos : Pos} (hx : x = "isinstance") (hgl : glB Γ.sc x = true) (hok : okName x = true) (hbs : Γ.bs.contains x = true) (ht : ∀ t ∈ ts, tyAsk.contains t = true) (hT : mTyE Γ ts cl = true)
    (hpa : plainX a = true) (ha : PE X a (tE G Φ W e)) : PE X (.Call (.Name x p) [a, cl] [] pos) (tE G Φ W (.isi e ts)) := by
  subst hx
  obtain ⟨o1, o2⟩ := ok_parts hok
  have fin : ∀ {σ : L2.St} {w : Wd} {d : D} {Q : VK}, WOk G w → Post G W σ w (Res.of ((isiD ts d).map .bl) w.M) (fun d w' => ∀ v, Rep G w' d v → Q v w'.H) → ∃ b, isiD ts d = some b ∧ Post G W σ w (.ok (.bl b) w.M) (fun d w' => ∀ v, Rep G w' d v → Q v w'.H) := fun {σ w d Q} g h => by
    obtain ⟨z, hz, h2⟩ := Post.of h
    obtain ⟨b, hb, rfl⟩ := Option.map_eq_some_iff.mp hz
    exact ⟨b, hb, h2⟩
  by_cases htp : ∃ xs n q, cl = .Tuple xs n q
  · obtain ⟨xs, n, q, rfl⟩ := htp
    simp only [mTyE, Bool.and_eq_true] at hT
    have pc := pe_tup (x1 := n) (pos := q) (pa_tys c hT.1 ht)
    refine PE.imp (pe_callB (isi_many (ts := ts) c.K) (gl_of c hgl) (mg_none c hbs) PyProof.Rows.boot_isinstance (pa_cons ha (pa_cons pc pa_nil (by rfl)) (star_of hpa _ _)) o2 o1 (star_of hpa _ _) (by rfl)) ?_
    rintro σ H Q ⟨w, σd, rfl, g, rs, hp⟩
    simp only [evE] at hp
    refine ⟨w, σd, rfl, g, rs, (Post.bind hp).mono fun d w1 x1 g1 h1 v1 r1 => ?_⟩
    obtain ⟨b, hb, h2⟩ := fin g1 h1
    refine ⟨?_, fun tp htp => ?_⟩
    · have hl : ts.length ≤ 100 := of_decide_eq_true hT.2
      show (tyVs ts).length ≤ sizeLine
      rw [tyVs, List.length_map, sizeLine_eq]
      omega
    · exact ⟨{ w1 with H := upd w1.H tp (.tup (tyVs ts)) }, d, b, v1, tp, rfl, wok_new g1 htp, rfl, upd_same, Rep.ext (ext_new g1 htp) _ _ r1, hb, h2 _ (ext_new g1 htp) (wok_new g1 htp) rfl _ rep_bl⟩
  · have hone : ∃ t, ts = [t] ∧ mTy Γ t cl = true := by
      unfold mTyE at hT
      split at hT
      · exact absurd ⟨_, _, _, rfl⟩ htp
      · split at hT
        · exact ⟨_, rfl, hT⟩
        · cases hT
    obtain ⟨t, rfl, h1⟩ := hone
    have pc := pe_ty c h1 (ht t (List.mem_cons_self ..))
    refine PE.imp (pe_callB (isi_one (t := t) c.K) (gl_of c hgl) (mg_none c hbs) PyProof.Rows.boot_isinstance (pa_cons ha (pa_cons pc pa_nil (star_of (mTy_plain h1) _ _)) (star_of hpa _ _)) o2 o1 (star_of hpa _ _) (by rw [star_of (mTy_plain h1)]; rfl)) ?_
    rintro σ H Q ⟨w, σd, rfl, g, rs, hp⟩
    simp only [evE] at hp
    refine ⟨w, σd, rfl, g, rs, (Post.bind hp).mono fun d w1 x1 g1 h2 v1 r1 => ?_⟩
    obtain ⟨b, hb, h3⟩ := fin g1 h2
    exact ⟨w1, d, b, v1, rfl, g1, rfl, r1, hb, post_ok g1 h3 _ rep_bl⟩

/-! ### methods -/
theorem mt_facts (m : Mt) : PlainAttrs (mtTy m) ∧ Slot (mtTy m) (mtName m) (mtId m) ∧ typeOf (.builtin (mtId m)) = pure (.type "method_descriptor") := by
  cases m with
  | append => exact ⟨PySem.F.plainAttrs_list, PySem.F.slot_list_append, PySem.F.type_list_append⟩
  | extend => exact ⟨PySem.F.plainAttrs_list, PySem.F.slot_list_extend, PySem.F.type_list_extend⟩
  | pop => exact ⟨PySem.F.plainAttrs_list, PySem.F.slot_list_pop, PySem.F.type_list_pop⟩
  | index => exact ⟨PySem.F.plainAttrs_list, PySem.F.slot_list_index, PySem.F.type_list_index⟩
  | join => exact ⟨PySem.F.plainAttrs_str, PySem.F.slot_str_join, PySem.F.type_str_join⟩
  | split => exact ⟨PySem.F.plainAttrs_str, PySem.F.slot_str_split, PySem.F.type_str_split⟩
  | startswith => exact ⟨PySem.F.plainAttrs_str, PySem.F.slot_str_startswith, PySem.F.type_str_startswith⟩
theorem mt_tyV (hK : X.K = G.K) {w : Wd} (g : WOk G w) {m : Mt} {o : D} {v : V} (r : Rep G w o v) (h : mtFit m o w.M = true) : tyV X.K (mtTy m) v w.H := by
  have lst : (seqL w.M o).isSome = true → tyV X.K "list" v w.H := fun h => by
    obtain ⟨xs, hx⟩ := Option.isSome_iff_exists.mp h
    obtain ⟨a, vs, rfl, h1, _⟩ := Rep.lst g r hx
    exact .inl ⟨rfl, vs, by rw [hK]; exact h1⟩
  have str : isStrD o = true → tyV X.K "str" v w.H := fun h => by
    cases o with
    | str s => simp only [Rep] at r; subst r; exact rfl
    | _ => cases h
  cases m with
  | append => exact lst h
  | extend => exact lst h
  | pop => exact lst h
  | index => exact lst h
  | join => exact str h
  | split => exact str h
  | startswith => exact str h
theorem s_meth (c : Ctx G Γ k X W) {m : Mt} {o : Ex} {es : List Ex} {y : Expr} {args : List Expr} {apos cpos : Pos} (hb : attrOk y = true) (hL : mL es Γ args = true) (hne : args ≠ []) (hline : (apos.endLine == cpos.line) = true) (hfew : args.length < 20)
    (ho : PE X y (tE G Φ W o)) (ha : PA X args (tL G Φ W es)) : PE X (.Call (.Attribute y (mtName m) apos) args [] cpos) (tE G Φ W (.meth m o es)) := by
  obtain ⟨f1, f2, f3⟩ := mt_facts m
  cases args with
  | nil => exact absurd rfl hne
  | cons e rest =>
    cases es with
    | nil => simp [mL] at hL
    | cons e' es' =>
      have hL' := hL
      simp only [mL, Bool.and_eq_true] at hL
      have hst := star_of (mE_plain hL.1) rest X.env
      have hpl := mL_star hL.2 cpos X.env
      refine PE.imp (pe_bm f1 f2 f3 (mt_D (G := G) c.K (by have := c.room.un; omega) m) ho ha (attr_base hb _ _) ?_ hline hst hpl) ?_
      · rw [mL_all hL' cpos X.env]
        simp only [List.length_cons] at hfew ⊢
        show (true && true && decide (rest.length + 1 + 0 + 0 < 30)) = true
        simp
        omega
      · rintro σ H Q ⟨w, σd, rfl, g, rs, hp⟩
        simp only [evE] at hp
        refine ⟨w, σd, rfl, g, rs, (Post.bind hp).mono fun d w1 x1 g1 h1 v1 r1 => ?_⟩
        split at h1
        · rename_i hf
          refine ⟨mt_tyV c.K g1 r1 hf, w1, σd, rfl, g1, rs.ext x1, (Post.bind h1).mono fun ds w2 x2 g2 h2 vs r2 => ?_⟩
          obtain ⟨z, M', hz, h3⟩ := Post.ofM h2
          exact ⟨w2, d, ds, z, M', rfl, g2, Rep.ext x2 _ _ r1, r2, hz, fun w3 v x3 g3 e3 r => h3 w3 x3 g3 e3 v r⟩
        · exact absurd h1 fun z => z
end
end Ev
/-! EvC: instances: fields, methods, new ones. -/
namespace Ev
open PySem L2
section
variable {G : Gb} {w : Wd}
theorem RepF.look : ∀ {fs : List (Str × D)} {vs : List (Str × V)}, RepF G w fs vs → ∀ f, (∀ d, fs.lookup f = some d → ∃ v, vs.lookup f = some v ∧ Rep G w d v) ∧ (fs.lookup f = none → vs.lookup f = none)
  | [], _, h, f => by
    simp only [RepF] at h; subst h
    exact ⟨fun d e => by simp at e, fun _ => rfl⟩
  | (g, x) :: fs, _, h, f => by
    simp only [RepF] at h
    obtain ⟨v, r, rfl, h1, h2⟩ := h
    have ih := RepF.look h2 f
    simp only [List.lookup_cons]
    by_cases e : (f == g) = true
    · rw [e]
      exact ⟨fun d ed => by cases ed; exact ⟨v, rfl, h1⟩, fun z => by cases z⟩
    · have e' : (f == g) = false := by simpa using e
      rw [e']
      exact ih
theorem RepF.put {f : Str} {d : D} {v : V} (r : Rep G w d v) : ∀ {fs : List (Str × D)} {vs : List (Str × V)}, RepF G w fs vs → RepF G w (putFD f d fs) (putF f v vs)
  | [], _, h => by
    simp only [RepF] at h; subst h
    simp only [putFD, putF, RepF]
    exact ⟨v, [], rfl, r, rfl⟩
  | (g, x) :: fs, _, h => by
    simp only [RepF] at h
    obtain ⟨u, rs, rfl, h1, h2⟩ := h
    simp only [putFD, putF]
    split
    · simp only [RepF]
      exact ⟨v, rs, rfl, r, h2⟩
    · simp only [RepF]
      exact ⟨u, _, rfl, h1, RepF.put r h2⟩
theorem RepF.len : ∀ {fs : List (Str × D)} {vs : List (Str × V)}, RepF G w fs vs → fs.length = vs.length
  | [], _, h => by simp only [RepF] at h; subst h; rfl
  | d :: fs, _, h => by
    simp only [RepF] at h
    obtain ⟨v, r, rfl, _, h2⟩ := h
    simp [RepF.len h2]
/-- an instance, as it stands -/
theorem ins_at (g : WOk G w) {x : D} {v : V} {c : Nat} {fs : List (Str × D)} (r : Rep G w x v) (h : insOf w.M x = some (c, fs)) : c < G.nc ∧ ∃ a dx vs, v = .ref a ∧ w.H a = some (.ins (G.cls c) dx vs) ∧ RepF G w fs vs := by
  cases x with
  | ins c' fs' =>
    simp only [insOf, Option.some.injEq, Prod.mk.injEq] at h
    obtain ⟨rfl, rfl⟩ := h
    simp only [Rep] at r
    obtain ⟨hc, a, dx, vs, rfl, h1, h2⟩ := r
    exact ⟨hc, a, dx, vs, rfl, h1.1, h2⟩
  | cell i =>
    simp only [insOf] at h
    split at h
    · rename_i c' fs' hm
      simp only [Option.some.injEq, Prod.mk.injEq] at h
      obtain ⟨rfl, rfl⟩ := h
      simp only [Rep] at r
      obtain ⟨a, rfl, ha⟩ := r
      obtain ⟨hc, dx, vs, h1, h2⟩ := g.cell i a _ ha hm
      exact ⟨hc, a, dx, vs, rfl, h1, h2⟩
    · cases h
  | _ => simp [insOf] at h
end
section
variable {G : Gb} {Φ : Nat → List D → Mem → Res D} {W : WX} {X : Cx} {k : Nat} {Γ : Cn}
theorem lookup_mem {α β : Type} [BEq α] [LawfulBEq α] {a : α} {b : β} : ∀ {l : List (α × β)}, l.lookup a = some b → (a, b) ∈ l
  | [], h => by simp at h
  | (x, y) :: l, h => by
    rw [List.lookup_cons] at h
    split at h
    · rename_i e
      cases h
      rw [eq_of_beq e]
      exact List.mem_cons_self ..
    · exact List.mem_cons_of_mem _ (lookup_mem h)
theorem cls_of (c : Ctx G Γ k X W) {n : Nat} (h : n < G.nc) : ∃ cf, Γ.cs[n]? = some cf := by
  rw [c.nc] at h
  exact ⟨_, List.getElem?_eq_getElem h⟩
theorem s_fldE (c : Ctx G Γ k X W) {a : Ex} {f : Str} {x : Expr} {pos : Pos} (ha : PE X x (tE G Φ W a)) (hx : attrOk x = true) (hf : (Γ.cs.all fun cf => cf.flds.contains f) = true) : PE X (.Attribute x f pos) (tE G Φ W (.fldE a f)) := by
  refine PE.imp (pe_fld ha (attr_base hx f X.env)) ?_
  rintro σ H Q ⟨w, σd, rfl, g, rs, hp⟩
  simp only [evE] at hp
  refine ⟨w, σd, rfl, g, rs, (Post.bind hp).mono fun d w1 x1 g1 h1 v1 r1 => ?_⟩
  split at h1
  · rename_i cn fs hi
    obtain ⟨z, hz, h2⟩ := Post.of h1
    obtain ⟨hc, a', dx, vs, rfl, e1, e2⟩ := ins_at g1 r1 hi
    obtain ⟨cf, hcf⟩ := cls_of c hc
    have R := c.cls cn cf hcf
    obtain ⟨v, hv, rv⟩ := (e2.look f).1 z hz
    have hm : f ∈ cf.flds := by
      have := List.all_eq_true.mp hf cf (List.mem_of_getElem? hcf)
      simpa using this
    exact ⟨a', _, dx, vs, v, rfl, e1, by rw [c.K]; exact R.cl, by rw [c.K]; exact R.fld f hm, hv, h2 w1 (Ext.refl _) g1 rfl v rv⟩
  · exact absurd h1 fun z => z
/-- isinstance(x, C), C an own class -/
theorem s_isc (c : Ctx G Γ k X W) {e : Ex} {y : Str} {subs : List Nat} {a : Expr} {p p2 pos : Pos} (hgl : glB Γ.sc "isinstance" = true) (hok : okName "isinstance" = true) (hbs : Γ.bs.contains "isinstance" = true) (hgy : glB Γ.sc y = true) (hoy : okName y = true) (hm : mE e Γ a = true) (ha : PE X a (tE G Φ W e))
    (hs : (Γ.cs.zipIdx.all fun p => decide (p.1.asks.lookup y = some (subs.contains p.2))) = true) (hne : Γ.cs ≠ []) : PE X (.Call (.Name "isinstance" p) [a, .Name y p2] [] pos) (tE G Φ W (.isc e y subs)) := by
  obtain ⟨o1, o2⟩ := ok_parts hok
  obtain ⟨q1, q2⟩ := ok_parts hoy
  have asks : ∀ n cf, Γ.cs[n]? = some cf → cf.asks.lookup y = some (subs.contains n) := fun n cf h => by
    have hm : (cf, n) ∈ Γ.cs.zipIdx := by rw [List.mk_mem_zipIdx_iff_getElem?]; exact h
    simpa using List.all_eq_true.mp hs (cf, n) hm
  obtain ⟨cf0, hcf0⟩ : ∃ cf0, Γ.cs[0]? = some cf0 := ⟨_, List.getElem?_eq_getElem (List.length_pos_iff.mpr hne)⟩
  obtain ⟨Cy, hy, _⟩ := (c.cls 0 cf0 hcf0).ask y _ (asks 0 cf0 hcf0)
  have ps := pa_cons ha (pa_cons (pe_glob (gl_of c hgy) hy (v := .ref Cy) rfl q1) pa_nil (star_of rfl _ _)) (star_of (mE_plain hm) [.Name y p2] X.env)
  refine PE.imp (pe_callB call_isi (gl_of c hgl) (mg_none c hbs) PyProof.Rows.boot_isinstance ps o2 o1 (star_of (mE_plain hm) [.Name y p2] X.env)) ?_
  rintro σ H Q ⟨w, σd, rfl, g, rs, hp⟩
  simp only [evE] at hp
  refine ⟨w, σd, rfl, g, rs, (Post.bind hp).mono fun d w1 x1 g1 h1 v1 r1 => ?_⟩
  cases d with
  | ins cn fs =>
    simp only [Rep] at r1
    obtain ⟨hc, a', dx, vs, rfl, e1, e2⟩ := r1
    obtain ⟨cf, hcf⟩ := cls_of c hc
    have R := c.cls cn cf hcf
    obtain ⟨C2, h2, hk⟩ := R.ask y _ (asks cn cf hcf)
    have : C2 = Cy := by
      have := h2.symm.trans hy
      cases this
      rfl
    subst this
    refine ⟨.ref a', .ref C2, .ref (G.cls cn), .ref C2, _, rfl, .own C2, .base (.ins e1.1 (by rw [c.K]; exact R.cl) (by rw [c.K]; exact R.ty1) (by rw [c.K]; exact R.ty2) (by rw [c.K]; exact R.ty3) (by rw [c.K]; exact R.ty4)), by rw [c.K]; exact hk, ?_⟩
    exact post_ok g1 h1 _ rep_bl
  | _ => exact absurd h1 fun z => z
theorem permV_range {α : Type} (d : α) (xs : List α) : permV d (List.range xs.length) xs = xs := by
  unfold permV
  refine List.ext_getElem (by simp) fun i h1 h2 => ?_
  simp [List.getElem?_eq_getElem h2]
/-- a def called with values that are there -/
theorem run_G (c : Ctx G Γ k X W) {f : Nat} {d : Df} {fa : Addr} {fd : FuncData} {pins : List (Addr × Obj)} {s : Shared} {σ : L2.St} {H : Hp} {us : List Value} {vs : List V} {Q : VK}
    (F : FnG X.prog X.w X.K X.mg X.base (2 * k) fa fd d.ps (spF G Γ.P k f)) (sh : ∀ sh ∈ d.shapes, ∀ (s : Shared) (us ws : List Value), us.length = sh.1 → ws.length = sh.2.1.length → BindsTo s fd ⟨us, sh.2.1.zip ws⟩ (d.ps.zip (permV .none sh.2.2 (us ++ ws))))
    (hm : (us.length, [], List.range us.length) ∈ d.shapes) (I : Inv X pins σ H s) (r : Vals vs us) (hsp : spF G Γ.P k f vs H Q (WE W σ)) : wpAny (model X.prog X.w) X.A (call (.ref fa) us) (EP X pins σ Q) X.xe s := by
  have b := sh _ hm s us [] rfl rfl
  have e1 : permV Value.none (List.range us.length) (us ++ []) = us := by rw [List.append_nil]; exact permV_range _ us
  simp only [List.zip_nil_left] at b
  rw [e1] at b
  refine PySem.wpAny_call (codeAny_mono (F.run X.A X.stack s H ⟨us, []⟩ _ _ Q (WE W σ) (c.room.mono (Nat.le_succ _)) c.gd I.env0 b r hsp) fun r s' hq => ?_)
  cases r with
  | error e => exact passAt c.tk σ pins H s e s' I hq
  | ok fl =>
    cases fl with
    | ret u => exact I.after hq
    | next => exact False.elim hq
    | brk => exact False.elim hq
    | cont => exact False.elim hq
theorem s_mcall (c : Ctx G Γ k X W) {m : Str} {tbl : List (Nat × Nat)} {o : Ex} {es : List Ex} {y : Expr} {args : List Expr} {apos cpos : Pos} (hb : attrOk y = true) (hL : mL es Γ args = true) (hne : args ≠ []) (hline : (apos.endLine == cpos.line) = true) (hfew : args.length < 20)
    (ht : ∀ p ∈ tbl, ∃ cf d, Γ.cs[p.1]? = some cf ∧ Γ.P[p.2]? = some d ∧ cf.meths.lookup m = some p.2 ∧ (es.length + 1, [], List.range (es.length + 1)) ∈ d.shapes)
    (ho : PE X y (tE G (evF Γ.P k) W o)) (ha : PA X args (tL G (evF Γ.P k) W es)) : PE X (.Call (.Attribute y m apos) args [] cpos) (tE G (evF Γ.P k) W (.mcall m tbl o es)) := by
  cases args with
  | nil => exact absurd rfl hne
  | cons e rest =>
    cases es with
    | nil => simp [mL] at hL
    | cons e' es' =>
      have hL' := hL
      simp only [mL, Bool.and_eq_true] at hL
      have hst := star_of (mE_plain hL.1) rest X.env
      have hpl := mL_star hL.2 cpos X.env
      refine ⟨fun pins s σ H Q I h => ?_⟩
      obtain ⟨w, σd, rfl, g, rs, hp⟩ := h
      simp only [evE] at hp
      have hform : methodCallForm ((e :: rest).length + ([] : List Keyword).length) (backTo cpos (starEach (e :: rest) X.env)) (backToKw cpos (keywordEach [] X.env)) = true := by
        unfold methodCallForm
        rw [mL_all hL' cpos X.env]
        simp only [List.length_cons] at hfew ⊢
        show (true && true && decide (rest.length + 1 + 0 + 0 < 30)) = true
        simp
        omega
      have hpos : methodCallPos true y X.env apos cpos = pure cpos := by unfold methodCallPos; simp [hline]
      rw [arm_eval_Call, attr_base hb]
      unfold methodCall
      rw [hform]
      refine wpAny_bind (thn (ho.run pins s σ w.H (fun v H1 => ∃ w1 d, w1.H = H1 ∧ WOk G w1 ∧ RepS G w1 σd σ ∧ Rep G w1 d v ∧ Post G W σ w1 (match insOf w1.M d with
          | some (c, fs) => if (fs.lookup m).isNone = true then match tbl.lookup c with
            | some i => (evL (evF Γ.P k) (e' :: es') σd w1.M).bind fun ds M2 => evF Γ.P k i (d :: ds) M2
            | none => .no
            else .no
          | none => .no) (fun d w' => ∀ v, Rep G w' d v → Q v w'.H)) I ⟨w, σd, rfl, g, rs, (Post.bind hp).mono fun d w1 x1 g1 h1 v1 r1 => ⟨w1, d, rfl, g1, rs.ext x1, r1, h1⟩⟩) fun u s1 ⟨v, H1, I1, ru, w1, d, e1, g1, rs1, r1, h1⟩ => ?_)
      subst e1
      split at h1
      · rename_i cn fs hi
        split at h1
        · rename_i hlk
          split at h1
          · rename_i i hti
            obtain ⟨hc, a', dx, vs, rfl, q1, q2⟩ := ins_at g1 r1 hi
            obtain ⟨cf, df, hcf, hdf, hme, hsh⟩ := ht (cn, i) (lookup_mem hti)
            have R := c.cls cn cf hcf
            obtain ⟨fa, hM, d2, fd, hd2, F, sh⟩ := R.mth m i hme
            have : d2 = df := by rw [hdf] at hd2; exact (Option.some.inj hd2).symm
            subst this
            cases ru
            have hl : vs.lookup m = none := (q2.look m).2 (by simpa using hlk)
            refine wpAny_bind (wpAny_standAt (wpAny_bind (wpAny_holding ?_)))
            unfold calleeOf
            rw [if_pos rfl]
            refine getmeth_ok I1 q1 (by rw [c.K]; exact R.cl) (by rw [c.K]; exact hM) hl (wpAny_bind ?_)
            rw [hpos]
            refine wpAny_pure ?_
            refine PySem.W.callWith_K (first := [.ref a']) (h₀ := X.base) I1.ok.mod.kin (by rw [c.K]; exact hM.kp) (thn (ha.run cpos pins s1 σ w1.H (fun vs H2 => vs.length = (e' :: es').length ∧ spF G Γ.P k i (.ref a' :: vs) H2 Q (WE W σ)) I1 ⟨w1, σd, rfl, g1, rs1, (Post.bind h1).monoE fun ds w2 ed x2 g2 h2 ys ry => ?_⟩) fun us s2 ⟨zs, H2, I2, rz, lz, hsp⟩ => ⟨I2.kIn, ?_⟩) hst hpl
            · exact ⟨by rw [← ry.length]; exact evL_len ed, w2, d :: ds, rfl, g2, RepL.cons (Rep.ext x2 _ _ r1) ry, Post.wish h2⟩
            · refine run_G c F sh ?_ I2 (us := .ref a' :: us) (vs := .ref a' :: zs) (.cons rfl rz) hsp
              have : (Value.ref a' :: us).length = (e' :: es').length + 1 := by rw [List.length_cons, ← rz.length, lz]
              rw [this]
              exact hsh
          · exact absurd h1 fun z => z
        · exact absurd h1 fun z => z
      · exact absurd h1 fun z => z
theorem s_new (c : Ctx G Γ k X W) {n f : Nat} {x : Str} {es : List Ex} {args : List Expr} {p pos : Pos} {cf : Cf} {d : Df} (hgl : glB Γ.sc x = true) (hok : okName x = true) (hL : mL es Γ args = true) (hne : args ≠ []) (hcf : Γ.cs[n]? = some cf) (hx : cf.name = x) (hini : cf.init = some f) (hd : Γ.P[f]? = some d)
    (hsh : (es.length + 1, [], List.range (es.length + 1)) ∈ d.shapes) (ha : PA X args (tL G (evF Γ.P k) W es)) : PE X (.Call (.Name x p) args [] pos) (tE G (evF Γ.P k) W (.new n f es)) := by
  obtain ⟨o1, o2⟩ := ok_parts hok
  have R := c.cls n cf hcf
  obtain ⟨fa, hM, d2, fd, hd2, F, sh⟩ := R.ini f hini
  have : d2 = d := by rw [hd] at hd2; exact (Option.some.inj hd2).symm
  subst this
  have hnm := R.nm
  rw [hx] at hnm
  have hn : n < G.nc := by rw [c.nc]; exact (List.getElem?_eq_some_iff.mp hcf).1
  cases args with
  | nil => exact absurd rfl hne
  | cons e rest =>
    cases es with
    | nil => simp [mL] at hL
    | cons e' es' =>
      simp only [mL, Bool.and_eq_true] at hL
      have hst := star_of (mE_plain hL.1) rest X.env
      have hpl := mL_star hL.2 pos X.env
      refine ⟨fun pins s σ H Q I h => ?_⟩
      obtain ⟨w, σd, rfl, g, rs, hp⟩ := h
      simp only [evE] at hp
      refine wpAny_Call_Name_kw (ld_glob I (gl_of c hgl) hnm ?_ o1)
      refine PySem.W.callWith_K (h₀ := X.base) I.ok.mod.kin (by rw [c.K]; exact hM.kp) (thn (ha.run pos pins s σ w.H (fun vs H1 => ∃ w1 ds, w1.H = H1 ∧ WOk G w1 ∧ RepL G w1 ds vs ∧ ds.length = (e' :: es').length ∧
          Post G W σ w1 ((evF Γ.P k f (.cell w1.M.length :: ds) (w1.M ++ [some (.ins n [])])).bind fun d M2 => match d, M2[w1.M.length]? with
            | .non, some (some (.ins c' fs)) => .ok (.ins c' fs) (M2.set w1.M.length none)
            | _, _ => .no) (fun d w' => ∀ v, Rep G w' d v → Q v w'.H)) I ⟨w, σd, rfl, g, rs, (Post.bind hp).monoE fun ds w1 ed x1 g1 h1 vs rv => ⟨w1, ds, rfl, g1, rv, evL_len ed, h1⟩⟩) fun us s1 ⟨vs, H1, I1, rv, w1, ds, e1, g1, rl, hl, h1⟩ => ⟨I1.kIn, ?_⟩) hst hpl
      subst e1
      -- the new object, its dict
      obtain ⟨xa, hxa⟩ : ∃ xa, xa = s1.heap.objs.size + 1 := ⟨_, rfl⟩
      obtain ⟨dxa, hdxa⟩ : ∃ dxa, dxa = s1.heap.objs.size := ⟨_, rfl⟩
      have nx : w1.H xa = none := by rw [hxa]; exact I1.hok.fresh (Nat.le_succ _)
      have nd : w1.H dxa = none := by rw [hdxa]; exact I1.hok.fresh (Nat.le_refl _)
      have ne : dxa ≠ xa := by rw [hxa, hdxa]; exact Nat.ne_of_lt (Nat.lt_succ_self _)
      have x2 : Ext w1 { w1 with H := upd w1.H dxa (.own xa) } := ext_new g1 nd
      have g2 : WOk G { w1 with H := upd w1.H dxa (.own xa) } := wok_new g1 nd
      have nx2 : ({ w1 with H := upd w1.H dxa (.own xa) } : Wd).H xa = none := by
        show upd w1.H dxa (.own xa) xa = none
        rw [upd_ne (Ne.symm ne)]
        exact nx
      have x3 := ext_alloc (m := .ins n []) (o := .ins (G.cls n) dxa []) g2 nx2
      have g3 := wok_alloc (m := .ins n []) (o := .ins (G.cls n) dxa []) g2 nx2 ⟨hn, dxa, [], upd_same, by simp only [RepF]⟩
      have hq : spF G Γ.P k f (.ref xa :: vs) (upd (upd w1.H dxa (.own xa)) xa (.ins (G.cls n) dxa [])) (fun v H2 => v = .non ∧ Q (.ref xa) H2) (WE W σ) := by
        refine ⟨Wd.alloc { w1 with H := upd w1.H dxa (.own xa) } xa (.ins n []) (.ins (G.cls n) dxa []), .cell w1.M.length :: ds, rfl, g3, RepL.cons ?_ (RepL.ext x3 _ _ (RepL.ext x2 _ _ rl)), ?_⟩
        · simp only [Rep]
          refine ⟨xa, rfl, ?_⟩
          show (w1.as ++ [xa])[w1.M.length]? = some xa
          rw [← g1.len, List.getElem?_append_right (Nat.le_refl _), Nat.sub_self]
          rfl
        · refine Post.wish ((Post.bind (Post.later (x2.trans x3) h1)).mono fun dd w4 x4 g4 h4 v rv4 => ?_)
          split at h4
          · rename_i c' fs hm
            simp only [Rep] at rv4
            refine ⟨rv4, ?_⟩
            have hat : w4.as[w1.M.length]? = some xa := by
              obtain ⟨ys, hy⟩ := x4.pre
              rw [hy]
              show (w1.as ++ [xa] ++ ys)[w1.M.length]? = some xa
              rw [List.append_assoc, ← g1.len, List.getElem?_append_right (Nat.le_refl _), Nat.sub_self]
              rfl
            obtain ⟨hc, dx, us', q1, q2⟩ := g4.cell _ xa _ hat hm
            have x5 : Ext w4 (w4.frz w1.M.length) := ext_frz
            refine h4 (w4.frz w1.M.length) x5 (wok_frz g4) rfl (.ref xa) ?_
            simp only [Rep]
            exact ⟨hc, xa, dx, us', rfl, ⟨q1, not_live_frz g4 hat, g4.ch _ xa hat⟩, RepF.ext x5 _ _ q2⟩
          · exact absurd h4 fun z => z
      have I2 := Inv.made (C := G.cls n) I1
      have r2 : Vals (V.ref xa :: vs) (Value.ref xa :: us) := .cons rfl rv
      have hlen : (Value.ref xa :: us).length = (e' :: es').length + 1 := by rw [List.length_cons, ← rv.length, ← rl.length, hl]
      have hM' : Mk X.K (G.cls n) fa := by rw [c.K]; exact hM
      subst hxa hdxa
      have ep : permV Value.none (List.range ((e' :: es').length + 1)) ((Value.ref (s1.heap.objs.size + 1) :: us) ++ []) = Value.ref (s1.heap.objs.size + 1) :: us := by
        rw [List.append_nil, ← hlen]
        exact permV_range _ _
      have b : ∀ s0 : Shared, BindsTo s0 fd ⟨Value.ref (s1.heap.objs.size + 1) :: us, []⟩ (d2.ps.zip (Value.ref (s1.heap.objs.size + 1) :: us)) := fun s0 => by
        have b := sh _ hsh s0 (Value.ref (s1.heap.objs.size + 1) :: us) [] hlen rfl
        rw [ep] at b
        exact b
      have gd : (X.A.under (.builtin "type.__call__" ⟨.ref (G.cls n) :: us, []⟩)).guards = some [] := by
        have hg : (Code.builtin "type.__call__" ⟨.ref (G.cls n) :: us, []⟩).isGuard = false := by
          show guardIds.contains "type.__call__" = false
          decide +kernel
        simp [Around.under, Code.guards, hg, c.gd, pushGuards]
      refine PySem.wpAny_call (make_map (f := fa) I1.kIn hM'.makes hM'.init (beq_iff_eq.mp hM'.fn) (codeAny_mono (F.run _ X.stack _ _ ⟨Value.ref (s1.heap.objs.size + 1) :: us, []⟩ (Value.ref (s1.heap.objs.size + 1) :: us) _ _ (WE W σ) (c.room.make (G.cls n) us []) gd
        (I2.env0.make (G.cls n) us []) (b _) r2 hq) fun r s' hq' => ?_))
      cases r with
      | error e => exact passAt c.tk σ pins _ _ e s' I2 hq'
      | ok fl =>
        cases fl with
        | ret u =>
          obtain ⟨v, H', I3, rv3, ev, q3⟩ := I2.after hq'
          subst ev
          exact ⟨rv3, ⟨V.ref (s1.heap.objs.size + 1), H', I3, rfl, q3⟩⟩
        | next => exact False.elim hq'
        | brk => exact False.elim hq'
        | cont => exact False.elim hq'
end
end Ev
/-! Ev9: targets, what is walked, comprehensions. -/
namespace Ev
open PySem L2
section
variable {G : Gb} {Φ : Nat → List D → Mem → Res D} {W : WX} {X : Cx} {k : Nat} {Γ : Cn}

theorem Res.bind_ok_iff {α β : Type} {r : Res α} {f : α → Mem → Res β} {b : β} {M : Mem} (h : r.bind f = .ok b M) : ∃ a M1, r = .ok a M1 ∧ f a M1 = .ok b M := by
  cases r with
  | ok a M1 => exact ⟨a, M1, rfl, h⟩
  | ex _ _ _ => cases h
  | no => cases h
theorem Post.sure {α β : Type} {w : Wd} {σ : L2.St} {r : Res α} {f : α → Mem → Res β} {Qr : β → Wd → Prop} (h : Post G W σ w (r.sure.bind f) Qr) : Post G W σ w (r.bind f) Qr := by
  cases r with
  | ok a M => exact h
  | ex _ _ _ => exact absurd h fun z => z
  | no => exact h

/-! ### targets -/
/-- the other slots stay -/
def Off (is : List Nat) (σ σ' : L2.St) : Prop := σ'.length = σ.length ∧ ∀ j, j ∉ is → σ'[j]? = σ[j]?
theorem Off.refl (is : List Nat) (σ : L2.St) : Off is σ σ := ⟨rfl, fun _ _ => rfl⟩
theorem Off.trans {is js : List Nat} {a b c : L2.St} (x : Off is a b) (y : Off js b c) : Off (is ++ js) a c :=
  ⟨y.1.trans x.1, fun j h => (y.2 j fun z => h (List.mem_append_right _ z)).trans (x.2 j fun z => h (List.mem_append_left _ z))⟩
section
variable (G Φ W)
def tTg (t : Tg) : TG := fun v σ H Q => ∃ w σd d, w.H = H ∧ WOk G w ∧ RepS G w σd σ ∧ Rep G w d v ∧ Post G W σ w (evT Φ t d σd w.M) fun σd' w' => ∀ σ', RepS G w' σd' σ' → Off (tgS t) σ σ' → Q σ' w'.H
def tTgs (ts : List Tg) : TGs := fun vs σ H Q => ∃ w σd ds, w.H = H ∧ WOk G w ∧ RepS G w σd σ ∧ RepL G w ds vs ∧ Post G W σ w (evTs Φ ts ds σd w.M) fun σd' w' => ∀ σ', RepS G w' σd' σ' → Off (tgSs ts) σ σ' → Q σ' w'.H
end
theorem PGs.imp {X : Cx} {es : List Expr} {t t' : TGs} (h : PGs X es t) (k : ∀ v σ H Q, t' v σ H Q → t v σ H Q) : PGs X es t' := ⟨fun pins s σ H v u Q I r q => h.run pins s σ H v u Q I r (k v σ H Q q)⟩
theorem loc_of {sc : Scope} {x : Str} (h : locB sc x = true) : Loc sc x := by
  unfold locB at h
  split at h <;> first
    | exact .inl (by assumption)
    | exact .inr (by assumption)
    | cases h
theorem g_nm (c : Ctx G Γ k X W) {i : Nat} {x : Str} {pos : Pos} (hi : Γ.N[i]? = some x) (hl : locB Γ.st x = true) : PG X (.Name x pos) (tTg G Φ W (.nm i)) := by
  obtain ⟨h1, h2⟩ := c.store x (loc_of hl)
  refine PG.imp (pg_name (i := i) (by rw [c.N]; exact c.nd) (by rw [c.N]; exact hi) h1 h2) ?_
  rintro v σ H Q ⟨w, σd, d, rfl, g, rs, r, hp⟩
  simp only [evT] at hp
  refine post_ok g hp _ (rs.set i r) ⟨by simp, fun j hj => ?_⟩
  simp only [tgS, List.mem_singleton] at hj
  exact List.getElem?_set_ne (fun z => hj z.symm)
theorem g_nil : PGs X [] (tTgs G Φ W []) := by
  refine PGs.imp pgs_nil ?_
  rintro v σ H Q ⟨w, σd, ds, rfl, g, rs, r, hp⟩
  cases ds with
  | nil =>
    simp only [evTs] at hp
    simp only [RepL] at r
    exact ⟨r, post_ok g hp _ rs (Off.refl _ _)⟩
  | cons _ _ => simp only [evTs] at hp; exact hp.elim
theorem assign_plain {e : Expr} (h : plainX e = true) (es : List Expr) (env : Env) : assignEach (e :: es) env = (false, assign e env) :: assignEach es env := by
  cases e <;> first
    | rfl
    | (simp [plainX] at h)
theorem Post.off {w : Wd} {σ σ1 : L2.St} {α : Type} {r : Res α} {Qr : α → Wd → Prop} (nx : ∀ c fs M, r ≠ .ex c fs M) (h : Post G W σ w r Qr) : Post G W σ1 w r Qr := by
  cases r with
  | ok a M => exact h
  | ex c fs M => exact absurd rfl (nx c fs M)
  | no => exact h
theorem Res.sure_nx {α β : Type} {r : Res α} {f : α → Mem → Res β} (hf : ∀ a M c fs M', f a M ≠ .ex c fs M') : ∀ c fs M, r.sure.bind f ≠ .ex c fs M := by
  intro c fs M h
  cases r with
  | ok a M1 => exact hf a M1 c fs M h
  | ex _ _ _ => cases h
  | no => cases h
mutual
theorem evT_nx : ∀ (t : Tg) (d : D) (σ : Env') (M : Mem) (c : Nat) (fs : List (Str × D)) (M' : Mem), evT Φ t d σ M ≠ .ex c fs M'
  | .nm i, d, σ, M, c, fs, M', h => by simp only [evT] at h; cases h
  | .tp ts, d, σ, M, c, fs, M', h => by
    simp only [evT] at h
    split at h
    · exact evTs_nx ts _ σ M c fs M' h
    · cases h
  | .sub a b, d, σ, M, c, fs, M', h => by
    simp only [evT] at h
    refine Res.sure_nx (fun x M1 => Res.sure_nx fun y M2 c fs M' h => ?_) c fs M' h
    split at h
    · split at h
      · split at h
        · cases h
        · cases h
      · cases h
    · cases h
  | .fld a f, d, σ, M, c, fs, M', h => by
    simp only [evT] at h
    refine Res.sure_nx (fun x M1 c fs M' h => ?_) c fs M' h
    split at h
    · split at h
      · split at h
        · cases h
        · cases h
      · cases h
    · cases h
theorem evTs_nx : ∀ (ts : List Tg) (ds : List D) (σ : Env') (M : Mem) (c : Nat) (fs : List (Str × D)) (M' : Mem), evTs Φ ts ds σ M ≠ .ex c fs M'
  | [], [], σ, M, c, fs, M', h => by simp only [evTs] at h; cases h
  | [], _ :: _, σ, M, c, fs, M', h => by simp only [evTs] at h; cases h
  | _ :: _, [], σ, M, c, fs, M', h => by simp only [evTs] at h; cases h
  | t :: ts, d :: ds, σ, M, c, fs, M', h => by
    simp only [evTs] at h
    cases q : evT Φ t d σ M with
    | ok σ1 M1 => rw [q] at h; exact evTs_nx ts ds σ1 M1 c fs M' h
    | ex c2 fs2 M2 => exact evT_nx t d σ M c2 fs2 M2 q
    | no => rw [q] at h; cases h
end
theorem g_cons {t : Tg} {ts : List Tg} {e : Expr} {es : List Expr} (h1 : PG X e (tTg G Φ W t)) (h2 : PGs X es (tTgs G Φ W ts)) (he : plainX e = true) : PGs X (e :: es) (tTgs G Φ W (t :: ts)) := by
  refine PGs.imp (pgs_cons h1 h2 (by rw [assign_plain he]; rfl)) ?_
  rintro v σ H Q ⟨w, σd, ds, rfl, g, rs, r, hp⟩
  cases ds with
  | nil => simp only [evTs] at hp; exact hp.elim
  | cons d ds =>
    simp only [RepL] at r
    obtain ⟨u, us, rfl, r1, r2⟩ := r
    simp only [evTs] at hp
    refine ⟨u, us, rfl, w, σd, d, rfl, g, rs, r1, (Post.bind hp).mono fun σd1 w1 x1 g1 h1 σ1 rs1 off1 => ?_⟩
    exact ⟨w1, σd1, ds, rfl, g1, rs1, RepL.ext x1 _ _ r2, (Post.off (fun c fs M => evTs_nx ts ds σd1 w1.M c fs M) h1).mono fun σd2 w2 x2 g2 h2 σ2 rs2 off2 => h2 σ2 rs2 (by simp only [tgSs]; exact off1.trans off2)⟩
theorem mT_plain {t : Tg} {e : Expr} (h : mT t Γ e = true) : plainX e = true := by
  cases e <;> first
    | rfl
    | (cases t <;> simp [mT] at h)
theorem mTs_len {ts : List Tg} : ∀ {es : List Expr}, mTs ts Γ es = true → ∀ env, (assignEach es env).length = ts.length ∧ (assignEach es env).findIdx? (·.1) = none := by
  induction ts with
  | nil =>
    intro es h env
    cases es with
    | nil => exact ⟨rfl, rfl⟩
    | cons _ _ => simp [mTs] at h
  | cons t ts ih =>
    intro es h env
    cases es with
    | nil => simp [mTs] at h
    | cons e es =>
      simp only [mTs, Bool.and_eq_true] at h
      obtain ⟨i1, i2⟩ := ih h.2 env
      rw [assign_plain (mT_plain h.1)]
      refine ⟨by simp [i1], ?_⟩
      rw [List.findIdx?_cons]
      simp [i2]
theorem g_tup (c : Ctx G Γ k X W) {ts : List Tg} {es : List Expr} {n : Nat} {pos : Pos} (hm : mTs ts Γ es = true) (h : PGs X es (tTgs G Φ W ts)) : PG X (.Tuple es n pos) (tTg G Φ W (.tp ts)) := by
  obtain ⟨i1, i2⟩ := mTs_len hm X.env
  refine PG.imp (pg_tup c.calm h i1 i2) ?_
  rintro v σ H Q ⟨w, σd, d, rfl, g, rs, r, hp⟩
  simp only [evT] at hp
  split at hp
  · rename_i ds
    obtain ⟨a, vs, rfl, h1, h2⟩ := Rep.tup r
    have hl : ds.length = ts.length := by
      have : ∀ (ts : List Tg) (ds : List D) (σd : Env') (M : Mem) (Qr : Env' → Wd → Prop), Post G W σ w (evTs Φ ts ds σd M) Qr → ds.length = ts.length := by
        intro ts
        induction ts with
        | nil => intro ds σd M Qr h; cases ds with
          | nil => rfl
          | cons _ _ => simp only [evTs] at h; exact h.elim
        | cons t ts ih => intro ds σd M Qr h; cases ds with
          | nil => simp only [evTs] at h; exact h.elim
          | cons d ds =>
            simp only [evTs] at h
            cases q : evT Φ t d σd M with
            | ok σ1 M1 => rw [q] at h; simp [ih ds σ1 M1 Qr h]
            | ex c2 fs2 M2 => exact absurd q (evT_nx t d σd M c2 fs2 M2)
            | no => rw [q] at h; exact absurd h fun z => z
      exact this ts ds σd w.M _ hp
    exact ⟨a, vs, rfl, by rw [c.K]; exact h1, by rw [← h2.length]; exact hl, w, σd, ds, rfl, g, rs, h2, hp⟩
  · exact absurd hp fun z => z
/-- o[i] = v, o a cell -/
def rSetD (G : Gb) : TSet := fun o i v H Q => ∃ w j ki xs d jj, w.H = H ∧ WOk G w ∧ Rep G w (.cell j) o ∧ i = .int ki ∧ Rep G w d v ∧ w.M[j]? = some (some (.lst xs)) ∧ ixN xs.length ki = some jj ∧ ∀ w', Ext w w' → WOk G w' → w'.M = w.M.set j (some (.lst (xs.set jj d))) → Q w'.H
theorem set_D : PSet X (rSetD G) := by
  intro pins s σ H o i v ov iv u Q I ro ri rv h
  obtain ⟨w, j, ki, xs, d, jj, rfl, g, r1, rfl, r2, hm, hj, q⟩ := h
  obtain ⟨a, vs, rfl, ha, h1, h2⟩ := cell_lst g r1 hm
  refine set_list pins s σ w.H _ _ v ov iv u Q I ro ri rv ⟨a, vs, ki, jj, rfl, rfl, h1, by rw [← h2.length]; exact hj, ?_⟩
  exact q (w.put j a (.lst (xs.set jj d)) (.lst (vs.set jj v))) (ext_put ha hm) (put_lst g ha hm (h2.set jj r2)) rfl
theorem g_sub {a b : Ex} {x y : Expr} {pos : Pos} (ha : PE X x (tE G Φ W a)) (hb : PE X y (tE G Φ W b)) (hy : plainX y = true) : PG X (.Subscript x y pos) (tTg G Φ W (.sub a b)) := by
  refine PG.imp (pg_sub ha hb (set_D (G := G)) ?_) ?_
  · intro v
    cases y <;> first
      | rfl
      | (simp [plainX] at hy)
  · rintro v σ H Q ⟨w, σd, d, rfl, g, rs, r, hp⟩
    simp only [evT] at hp
    refine ⟨w, σd, rfl, g, rs, (Post.bind (Post.sure hp)).mono fun o w1 x1 g1 h1 v1 r1 => ?_⟩
    refine ⟨w1, σd, rfl, g1, rs.ext x1, (Post.bind (Post.sure h1)).mono fun i w2 x2 g2 h2 v2 r2 => ?_⟩
    split at h2
    · rename_i j ki
      split at h2
      · rename_i xs hm
        split at h2
        · rename_i jj hj
          simp only [Rep] at r2
          exact ⟨w2, j, ki, xs, d, jj, rfl, g2, Rep.ext x2 _ _ r1, r2, Rep.ext (x1.trans x2) _ _ r, hm, hj, fun w3 x3 g3 e3 => h2 w3 x3 g3 e3 σ (rs.ext ((x1.trans x2).trans x3)) (Off.refl _ _)⟩
        · exact absurd h2 fun z => z
      · exact absurd h2 fun z => z
    · exact absurd h2 fun z => z
/-- o.f = v, o a cell -/
theorem g_fld (c : Ctx G Γ k X W) {a : Ex} {f : Str} {x : Expr} {pos : Pos} (ha : PE X x (tE G Φ W a)) (hf : (Γ.cs.all fun cf => cf.flds.contains f) = true) : PG X (.Attribute x f pos) (tTg G Φ W (.fld a f)) := by
  refine ⟨fun pins s σ H v u Q I r h => ?_⟩
  obtain ⟨w, σd, d, rfl, g, rs, rd, hp⟩ := h
  simp only [evT] at hp
  rw [assign_Attribute]
  refine wpAny_bind (wpAny_holding (thn (ha.run pins s σ w.H (fun o H1 => ∃ w1 e, w1.H = H1 ∧ WOk G w1 ∧ Ext w w1 ∧ Rep G w1 e o ∧ Post G W σ w1 (match e with
      | .cell i => match w1.M[i]? with
        | some (some (.ins c fs)) => if fs.length < 1000 then .ok σd (w1.M.set i (some (.ins c (putFD f d fs)))) else .no
        | _ => .no
      | _ => .no) (fun σd' w' => ∀ σ', RepS G w' σd' σ' → Off (tgS (.fld a f)) σ σ' → Q σ' w'.H)) I ⟨w, σd, rfl, g, rs, (Post.bind (Post.sure hp)).mono fun e w1 x1 g1 h1 o r1 => ⟨w1, e, rfl, g1, x1, r1, h1⟩⟩) fun ov s1 ⟨o, H1, I1, ro, w1, e, e1, g1, x1, r1, h1⟩ => ?_))
  subst e1
  split at h1
  · rename_i i
    split at h1
    · rename_i cn fs hm
      split at h1
      · rename_i hl
        simp only [Rep] at r1
        obtain ⟨a', rfl, hat⟩ := r1
        obtain ⟨hc, dx, vs, q1, q2⟩ := g1.cell i a' _ hat hm
        obtain ⟨cf, hcf⟩ := cls_of c hc
        have R := c.cls cn cf hcf
        have hmf : f ∈ cf.flds := by
          have := List.all_eq_true.mp hf cf (List.mem_of_getElem? hcf)
          simpa using this
        cases ro
        refine wpAny_bind (wpAny_standAt (wpAny_bind (wpAny_holding (setattr_ok I1 q1 (by rw [c.K]; exact R.cl) (by rw [c.K]; exact R.fld f hmf) (by rw [← q2.len]; exact hl) r fun s2 I2 => ?_))))
        refine wpAny_release ⟨σ, _, I2, ?_⟩
        have x2 := ext_put (m := .ins cn (putFD f d fs)) (o := .ins (G.cls cn) dx (putF f v vs)) hat hm
        have g2 := wok_put (o := .ins (G.cls cn) dx (putF f v vs)) g1 hat hm (m := .ins cn (putFD f d fs)) ⟨hc, dx, _, upd_same, RepF.put (Rep.ext (x1.trans x2) _ _ rd) (RepF.ext x2 _ _ q2)⟩
        exact h1 _ x2 g2 rfl σ (rs.ext (x1.trans x2)) (Off.refl _ _)
      · exact absurd h1 fun z => z
    · exact absurd h1 fun z => z
  · exact absurd h1 fun z => z
end
end Ev
/-! Ev10: what is walked, comprehensions. -/
namespace Ev
open PySem L2
section
variable {G : Gb} {Φ : Nat → List D → Mem → Res D} {W : WX} {X : Cx} {k : Nat} {Γ : Cn}

/-- J hands out what stands for ds, one behind another, in every world that knows w0's values -/
def Walks (G : Gb) (w0 : Wd) (ds : List D) (J : L2.It) : Prop := ∀ w, Emb w0 w → WOk G w → (∀ i, i < ds.length → J.go i w.H) ∧ J.stop ds.length w.H ∧
  ∀ i x H', i < ds.length → J.yld i w.H x H' → ∃ w' d, w'.H = H' ∧ w'.as = w.as ∧ w'.M = w.M ∧ w'.hd = w.hd ∧ Ext w w' ∧ WOk G w' ∧ ds[i]? = some d ∧ Rep G w' d x
section
variable (G Φ W)
def tI (it : It) : TI := fun σ H R => ∃ w σd, w.H = H ∧ WOk G w ∧ RepS G w σd σ ∧ Post G W σ w (evI Φ it σd w.M) fun ds w' => ∀ J, Walks G w' ds J → R J w'.H
end
theorem PI.imp {X : Cx} {tg e : Expr} {t t' : TI} (h : PI X tg e t) (k : ∀ σ H R, t' σ H R → t σ H R) : PI X tg e t' := ⟨fun pins s σ H R I q => h.run pins s σ H R I (k σ H R q)⟩
theorem RepL.rget {w : Wd} : ∀ {ds : List D} {vs : List V} {i : Nat} {v : V}, RepL G w ds vs → vs[i]? = some v → ∃ d, ds[i]? = some d ∧ Rep G w d v
  | [], _, _, _, h, e => by simp only [RepL] at h; subst h; simp at e
  | d :: ds, _, i, v, h, e => by
    simp only [RepL] at h
    obtain ⟨u, r, rfl, h1, h2⟩ := h
    cases i with
    | zero => simp at e; subst e; exact ⟨d, rfl, h1⟩
    | succ i =>
      obtain ⟨d', e1, e2⟩ := RepL.rget (i := i) h2 (by simpa using e)
      exact ⟨d', by simpa using e1, e2⟩
theorem walks_at {w0 : Wd} {ds : List D} {vs : List V} {J : L2.It} {Gp : Hp → Prop} (wk : Walk J vs.length Gp (YAt vs)) (hG : ∀ w, Emb w0 w → Gp w.H) (r : RepL G w0 ds vs) : Walks G w0 ds J := by
  intro w e g
  rw [r.length]
  refine ⟨fun i hi => wk.goes i w.H hi (hG w e), wk.stops w.H (hG w e), fun i x H' hi y => ?_⟩
  obtain ⟨rfl, hx⟩ := wk.yields i w.H x H' hi (hG w e) y
  obtain ⟨d, hd, rd⟩ := RepL.rget (RepL.emb e _ _ r) hx
  exact ⟨w, d, rfl, rfl, rfl, rfl, Ext.refl w, g, hd, rd⟩
theorem Rep.lstE {w : Wd} {d : D} {xs : List D} {v : V} (hd : d = .lst xs ∨ d = .scr xs) (r : Rep G w d v) : ∃ a vs, v = .ref a ∧ (∀ w', Emb w w' → SqL G.K w'.H a vs) ∧ RepL G w xs vs := by
  rcases hd with rfl | rfl
  · simp only [Rep] at r
    obtain ⟨a, vs, rfl, h1, h2⟩ := r
    exact ⟨a, vs, rfl, fun w' e => .inl (.inl (h1.emb e).1), h2⟩
  · simp only [Rep] at r
    obtain ⟨a, vs, rfl, ⟨o, h1⟩ | h1, h2⟩ := r
    · exact ⟨a, vs, rfl, fun w' e => .inl (.inr ⟨o, (h1.emb e).1⟩), h2⟩
    · exact ⟨a, vs, rfl, fun w' e => kseqL h1, h2⟩
theorem Rep.tupE {w : Wd} {xs : List D} {v : V} (r : Rep G w (.tup xs) v) : ∃ a vs, v = .ref a ∧ (∀ w', Emb w w' → SqT G.K w'.H a vs) ∧ RepL G w xs vs := by
  simp only [Rep] at r
  obtain ⟨a, vs, rfl, h1 | h1, h2⟩ := r
  · exact ⟨a, vs, rfl, fun w' e => (h1.emb e).sqT, h2⟩
  · exact ⟨a, vs, rfl, fun w' e => kseqT h1, h2⟩
theorem pi_seq (c : Ctx G Γ k X W) {e : Ex} {tg x : Expr} (ha : PE X x (tE G Φ W e)) : PI X tg x (tI G Φ W (.seq e)) := by
  refine ⟨fun pins s σ H R I h => ?_⟩
  obtain ⟨w, σd, rfl, g, rs, hp⟩ := h
  simp only [evI] at hp
  have lst : (Post G W σ w (evE Φ e σd w.M) fun d w' => ∃ xs, (d = .lst xs ∨ d = .scr xs) ∧ ∀ J, Walks G w' xs J → R J w'.H) → wpAny (model X.prog X.w) X.A (eval x X.env) (fun v s1 => wpAny (model X.prog X.w) X.A (pyIter v) (PIE X pins σ tg R) X.xe s1) X.xe s := fun h => by
    refine (pi_list ha).run pins s σ w.H R I ⟨w, σd, rfl, g, rs, h.mono fun d w1 x1 g1 h1 v1 r1 => ?_⟩
    obtain ⟨xs, hd, q⟩ := h1
    obtain ⟨a, vs, rfl, h2, h3⟩ := Rep.lstE hd r1
    rw [c.K]
    exact ⟨a, rfl, ⟨vs, h2 w1 (Emb.refl w1)⟩, q _ (walks_at walk_list h2 h3)⟩
  have tup : (Post G W σ w (evE Φ e σd w.M) fun d w' => ∃ xs, d = .tup xs ∧ ∀ J, Walks G w' xs J → R J w'.H) → wpAny (model X.prog X.w) X.A (eval x X.env) (fun v s1 => wpAny (model X.prog X.w) X.A (pyIter v) (PIE X pins σ tg R) X.xe s1) X.xe s := fun h => by
    refine (pi_tup ha).run pins s σ w.H R I ⟨w, σd, rfl, g, rs, h.mono fun d w1 x1 g1 h1 v1 r1 => ?_⟩
    obtain ⟨xs, rfl, q⟩ := h1
    obtain ⟨a, vs, rfl, h2, h3⟩ := Rep.tupE r1
    rw [c.K]
    exact ⟨a, rfl, ⟨vs, h2 w1 (Emb.refl w1)⟩, q _ (walks_at walk_tup h2 h3)⟩
  cases q : evE Φ e σd w.M with
  | no => rw [q] at hp; exact absurd hp fun z => z
  | ex cc fs M =>
    refine lst ?_
    rw [q] at hp ⊢
    exact hp
  | ok d M =>
    rw [q] at hp
    cases d with
    | lst xs => exact lst (by rw [q]; exact fun w' x g e => ⟨xs, .inl rfl, fun J hJ => hp w' x g e J hJ⟩)
    | scr xs => exact lst (by rw [q]; exact fun w' x g e => ⟨xs, .inr rfl, fun J hJ => hp w' x g e J hJ⟩)
    | tup xs => exact tup (by rw [q]; exact fun w' x g e => ⟨xs, rfl, fun J hJ => hp w' x g e J hJ⟩)
    | _ => exact absurd hp fun z => z
theorem walks_rng {w0 : Wd} {lo : Int} {n : Nat} : Walks G w0 ((List.range n).map fun (k : Nat) => D.int (lo + (k : Int))) (Itr lo n) := by
  intro w e g
  rw [List.length_map, List.length_range]
  refine ⟨fun i hi => hi, Nat.le_refl _, fun i x H' hi y => ?_⟩
  obtain ⟨rfl, rfl⟩ := y
  exact ⟨w, .int (lo + i), rfl, rfl, rfl, rfl, Ext.refl w, g, by rw [List.getElem?_map, List.getElem?_range hi]; rfl, rep_int⟩
theorem rngD_ok {a b : Int} {ds : List D} (h : rngD a b = some ds) : (-(2 ^ 62) ≤ a ∧ a < 2 ^ 62 ∧ -(2 ^ 62) ≤ b ∧ b < 2 ^ 62) ∧ ds = (List.range (b - a).toNat).map fun (k : Nat) => D.int (a + (k : Int)) := by
  unfold rngD at h
  split at h
  · rename_i hb
    cases h
    exact ⟨hb, rfl⟩
  · cases h
theorem pi_rng1 (c : Ctx G Γ k X W) {x : Str} {a : Ex} {u tg : Expr} {p pos : Pos} (hx : x = "range") (hgl : glB Γ.sc x = true) (hbs : Γ.bs.contains x = true) (hu : plainX u = true) (ha : PE X u (tE G Φ W a)) : PI X tg (.Call (.Name x p) [u] [] pos) (tI G Φ W (.rng1 a)) := by
  subst hx
  refine PI.imp (pi_range1 (gl_of c hgl) (mg_none c hbs) (pa_cons ha pa_nil (star_of hu _ _)) (star_of hu _ _)) ?_
  rintro σ H R ⟨w, σd, rfl, g, rs, hp⟩
  simp only [evI] at hp
  refine ⟨w, σd, rfl, g, rs, (Post.bind hp).mono fun d w1 x1 g1 h1 v r => ?_⟩
  cases d with
  | int n =>
    obtain ⟨out, ho, h2⟩ := Post.of h1
    obtain ⟨hb, rfl⟩ := rngD_ok ho
    simp only [Rep] at r
    subst r
    have q := post_ok g1 h2 (Itr 0 n.toNat) (by have := walks_rng (G := G) (w0 := w1) (lo := 0) (n := n.toNat); simpa using this)
    exact ⟨n, rfl, hb.2.2.1, hb.2.2.2, q⟩
  | _ => exact absurd h1 fun z => z
theorem pi_rng2 (c : Ctx G Γ k X W) {x : Str} {a b : Ex} {u v tg : Expr} {p pos : Pos} (hx : x = "range") (hgl : glB Γ.sc x = true) (hbs : Γ.bs.contains x = true) (hu : plainX u = true) (hv : plainX v = true) (ha : PE X u (tE G Φ W a)) (hb : PE X v (tE G Φ W b)) : PI X tg (.Call (.Name x p) [u, v] [] pos) (tI G Φ W (.rng2 a b)) := by
  subst hx
  refine PI.imp (pi_range2 (gl_of c hgl) (mg_none c hbs) (pa_cons ha (pa_cons hb pa_nil (star_of hv _ _)) (star_of hu _ _)) (by rw [star_of hu, star_of hv]; rfl) (star_of hv _ _)) ?_
  rintro σ H R ⟨w, σd, rfl, g, rs, hp⟩
  simp only [evI] at hp
  refine ⟨w, σd, rfl, g, rs, (Post.bind hp).mono fun d w1 x1 g1 h1 v1 r1 => ?_⟩
  refine ⟨w1, σd, rfl, g1, rs.ext x1, (Post.bind h1).mono fun e w2 x2 g2 h2 v2 r2 => ?_⟩
  split at h2
  · rename_i m n
    obtain ⟨out, ho, h3⟩ := Post.of h2
    obtain ⟨hb, rfl⟩ := rngD_ok ho
    simp only [Rep] at r1 r2
    subst r1 r2
    exact ⟨m, n, rfl, hb, post_ok g2 h3 _ walks_rng⟩
  · exact absurd h2 fun z => z
theorem walks_pair {w0 : Wd} {ds : List D} {n : Nat} {xs ys : Nat → Option V} {J : L2.It} {Gp : Hp → Prop} (wk : Walk J n Gp (YPair xs ys)) (hG : ∀ w, Emb w0 w → Gp w.H) (hn : ds.length = n)
    (hd : ∀ i x y, i < n → xs i = some x → ys i = some y → ∃ d e, ds[i]? = some (.tup [d, e]) ∧ ∀ w, Emb w0 w → Rep G w d x ∧ Rep G w e y) : Walks G w0 ds J := by
  intro w em g
  rw [hn]
  refine ⟨fun i hi => wk.goes i w.H hi (hG w em), wk.stops w.H (hG w em), fun i v H' hi q => ?_⟩
  obtain ⟨T, x, y, rfl, hT, rfl, e1, e2⟩ := wk.yields i w.H v H' hi (hG w em) q
  obtain ⟨d, e, h1, h2⟩ := hd i x y hi e1 e2
  obtain ⟨r1, r2⟩ := h2 w em
  exact ⟨{ w with H := upd w.H T (.tup [x, y]) }, _, rfl, rfl, rfl, rfl, ext_new g hT, wok_new g hT, h1, rep_tup g hT (.cons r1 (.cons r2 .nil))⟩
theorem pi_enu (c : Ctx G Γ k X W) {x : Str} {a : Ex} {u : Expr} {elts : List Expr} {n : Nat} {tp p pos : Pos} (hx : x = "enumerate") (hgl : glB Γ.sc x = true) (hbs : Γ.bs.contains x = true) (hu : plainX u = true) (ha : PE X u (tE G Φ W a)) : PI X (.Tuple elts n tp) (.Call (.Name x p) [u] [] pos) (tI G Φ W (.enu a)) := by
  subst hx
  refine PI.imp (pi_enum (gl_of c hgl) (mg_none c hbs) (pa_cons ha pa_nil (star_of hu _ _)) (star_of hu _ _)) ?_
  rintro σ H R ⟨w, σd, rfl, g, rs, hp⟩
  simp only [evI] at hp
  refine ⟨w, σd, rfl, g, rs, (Post.bind hp).mono fun d w1 x1 g1 h1 v r => ?_⟩
  have go : ∀ xs, (d = .lst xs ∨ d = .scr xs) → Post G W σ w1 (.ok ((xs.zipIdx).map fun p => D.tup [.int p.2, p.1]) w1.M) (fun ds w' => ∀ J, Walks G w' ds J → R J w'.H) → ∃ b us, [v] = [V.ref b] ∧ SqL X.K w1.H b us ∧ R (Ite X.K b) w1.H := fun xs hd h1 => by
    obtain ⟨b, vs, rfl, h2, h3⟩ := Rep.lstE hd r
    rw [c.K]
    refine ⟨b, vs, rfl, h2 w1 (Emb.refl w1), post_ok g1 h1 _ (walks_pair walk_enum h2 (by rw [List.length_map, List.length_zipIdx, h3.length]) fun i y z hi e1 e2 => ?_)⟩
    cases e1
    obtain ⟨d', e3, r3⟩ := RepL.rget h3 e2
    exact ⟨.int i, d', by simp [e3], fun w' em => ⟨rep_int, Rep.emb em _ _ r3⟩⟩
  cases d with
  | lst xs => exact go xs (.inl rfl) h1
  | scr xs => exact go xs (.inr rfl) h1
  | _ => exact absurd h1 fun z => z
theorem pi_zipD (c : Ctx G Γ k X W) {x : Str} {a b : Ex} {u v : Expr} {elts : List Expr} {n : Nat} {tp p pos : Pos} (hx : x = "zip") (hgl : glB Γ.sc x = true) (hbs : Γ.bs.contains x = true) (hu : plainX u = true) (hv : plainX v = true) (ha : PE X u (tE G Φ W a)) (hb : PE X v (tE G Φ W b)) :
    PI X (.Tuple elts n tp) (.Call (.Name x p) [u, v] [] pos) (tI G Φ W (.zip a b)) := by
  subst hx
  refine PI.imp (pi_zip (gl_of c hgl) (mg_none c hbs) (pa_cons ha (pa_cons hb pa_nil (star_of hv _ _)) (star_of hu _ _)) (star_of hu _ _) (by rw [star_of hv]; rfl)) ?_
  rintro σ H R ⟨w, σd, rfl, g, rs, hp⟩
  simp only [evI] at hp
  refine ⟨w, σd, rfl, g, rs, (Post.bind hp).mono fun d w1 x1 g1 h1 v1 r1 => ?_⟩
  refine ⟨w1, σd, rfl, g1, rs.ext x1, (Post.bind h1).mono fun e w2 x2 g2 h2 v2 r2 => ?_⟩
  split at h2
  · rename_i xs ys
    obtain ⟨p1, vs, rfl, s1, l1⟩ := Rep.lstE (.inl rfl) (Rep.ext x2 _ _ r1)
    obtain ⟨p2, us, rfl, s2, l2⟩ := Rep.lstE (.inl rfl) r2
    rw [c.K]
    refine ⟨p1, p2, vs, us, rfl, s1 w2 (Emb.refl w2), s2 w2 (Emb.refl w2), post_ok g2 h2 _ (walks_pair (walk_zip rfl) (fun w' em => ⟨s1 w' em, s2 w' em⟩) (by rw [List.length_map, List.length_zip, l1.length, l2.length]) fun i y z hi e1 e2 => ?_)⟩
    obtain ⟨d1, e3, r3⟩ := RepL.rget l1 e1
    obtain ⟨d2, e4, r4⟩ := RepL.rget l2 e2
    exact ⟨d1, d2, by rw [List.getElem?_map, (show (xs.zip ys)[i]? = some (d1, d2) from List.getElem?_zip_eq_some.mpr ⟨e3, e4⟩)]; rfl, fun w' em => ⟨Rep.emb em _ _ r3, Rep.emb em _ _ r4⟩⟩
  · exact absurd h2 fun z => z
end
end Ev
/-! Ev11: comprehensions. -/
namespace Ev
open PySem L2
section
variable {G : Gb} {Φ : Nat → List D → Mem → Res D} {W : WX} {X : Cx} {k : Nat} {Γ : Cn}
theorem takes_none {X : Cx} : Takes X (fun _ _ _ _ => False) := fun _ _ x => by
  obtain ⟨_, _, _, _, _, _, _, _, _, _, _, _, _, _, _, _, z⟩ := x
  exact z.elim
theorem Ctx.blk (c : Ctx G Γ k X W) {scope : Scope} {s : Shared} {H : Hp} {C : Addr} {cl : List (Str × Addr)} {fp : List Addr} : Ctx G (Γ.blk scope) k (X.blk s H scope (compEnvC scope cl C X.env) fp) (fun _ _ _ _ => False) := by
  refine ⟨c.N, ?_, c.K, c.nd, fun x h => ?_, c.calm, c.gd, c.room, takes_none, c.tab, c.blt, c.glb, c.nc, c.cls⟩
  · show relS scope X.env.scope = relS scope Γ.sc
    rw [c.sc]
  · have h : Loc scope x := h
    rcases h with h | h
    · have e : (relS scope X.env.scope).names.lookup x = some .local := lookup_relS_keep (by decide) h
      exact ⟨.inl e, .inr e⟩
    · have e : (relS scope X.env.scope).names.lookup x = some .cell := lookup_relS_keep (by decide) h
      refine ⟨.inr e, .inl ?_⟩
      show (scope.names.lookup x == some .cell) = true
      rw [h]
      rfl
theorem wipe_get (σ : L2.St) : ∀ (vs : List Nat) (j : Nat), (wipe σ vs)[j]? = if j ∈ vs then (if j < σ.length then some none else none) else σ[j]?
  | [], j => by simp [wipe]
  | v :: vs, j => by
    unfold wipe
    by_cases hj : v = j
    · subst hj
      rw [if_pos (List.mem_cons_self ..)]
      by_cases hl : v < σ.length
      · rw [if_pos hl, List.getElem?_set_self (by rw [wipe_length]; exact hl)]
      · rw [if_neg hl, List.getElem?_eq_none (by rw [List.length_set, wipe_length]; omega)]
    · rw [List.getElem?_set_ne hj, wipe_get σ vs j]
      have : (j ∈ v :: vs) ↔ j ∈ vs := by
        simp only [List.mem_cons]
        exact ⟨fun h => h.elim (fun e => absurd e.symm hj) id, .inr⟩
      simp only [this]
theorem wipe_off {σ σ2 : L2.St} {vs is : List Nat} (h : Off is (wipe σ vs) σ2) (hs : ∀ j ∈ is, j ∈ vs) : wipe σ2 vs = wipe σ vs := by
  apply List.ext_getElem?
  intro j
  have hl : σ2.length = σ.length := by rw [h.1, wipe_length]
  rw [wipe_get σ2, wipe_get σ, hl]
  by_cases hj : j ∈ vs
  · rw [if_pos hj, if_pos hj]
  · rw [if_neg hj, if_neg hj, h.2 j fun z => hj (hs j z), wipe_get, if_neg hj]
section
variable (G Φ W)
def tC' (c : Option Ex) : TT := fun σ H Q => ∃ w σd, w.H = H ∧ WOk G w ∧ RepS G w σd σ ∧ Post G W σ w (evC Φ c σd w.M) fun b w' => Q b w'.H
end
theorem PTs.imp {X : Cx} {es : List Expr} {t t' : TT} (h : PTs X es t) (k : ∀ σ H Q, t' σ H Q → t σ H Q) : PTs X es t' := ⟨fun pins s σ H Q I q => h.run pins s σ H Q I (k σ H Q q)⟩
theorem c_none : PTs X [] (tC' G Φ W none) := by
  refine PTs.imp pts_nil ?_
  rintro σ H Q ⟨w, σd, rfl, g, rs, hp⟩
  simp only [evC] at hp
  exact post_ok g hp
theorem c_some {e : Ex} {x : Expr} (h : PT X x (tB' G Φ W e)) : PTs X [x] (tC' G Φ W (some e)) := by
  refine PTs.imp (pts_one h) ?_
  rintro σ H Q ⟨w, σd, rfl, g, rs, hp⟩
  simp only [evC] at hp
  exact ⟨w, σd, rfl, g, rs, hp⟩
theorem lcGo_nx (f : D → Mem → Res (Option D)) : ∀ (xs acc : List D) (M : Mem) (c : Nat) (fs : List (Str × D)) (M' : Mem), lcGo f xs acc M ≠ .ex c fs M'
  | [], acc, M, c, fs, M', h => by simp only [lcGo] at h; cases h
  | x :: xs, acc, M, c, fs, M', h => by
    simp only [lcGo] at h
    split at h
    · split at h
      · exact lcGo_nx f xs _ _ c fs M' h
      · cases h
    · exact lcGo_nx f xs _ _ c fs M' h
    · cases h
/-- from w1 on, with a list being built at Dd -/
structure Build (w1 w2 : Wd) (Dd : Addr) (accV : List V) : Prop where
  emb : Emb w1 w2
  keep : ∀ a o, w1.H a = some o → ¬ Live w1 a → w2.H a = some o ∧ ¬ Live w2 a
  ex : ∀ a, w1.H a ≠ none → w2.H a ≠ none
  hd : w2.hd = fun a => a = Dd ∨ w1.hd a
  at_ : w2.H Dd = some (.lst accV)
  nl : ¬ Live w2 Dd
theorem Build.ext {w1 w2 w3 : Wd} {Dd : Addr} {accV : List V} (b : Build w1 w2 Dd accV) (x : Ext w2 w3) : Build w1 w3 Dd accV where
  emb := b.emb.trans x.emb
  keep := fun a o h n => by
    obtain ⟨h1, n1⟩ := b.keep a o h n
    exact x.keep a o h1 n1
  ex := fun a h => x.ex a (b.ex a h)
  hd := x.hid.trans b.hd
  at_ := (x.keep Dd _ b.at_ b.nl).1
  nl := (x.keep Dd _ b.at_ b.nl).2
theorem Build.start {w1 : Wd} (g : WOk G w1) {Dd : Addr} (hD : w1.H Dd = none) : Build w1 (w1.hide Dd (.lst [])) Dd [] where
  emb := emb_hide g hD
  keep := fun a o h n => ⟨(upd_ne (ne_of_none h hD)).trans h, n⟩
  ex := fun a h => upd_ex a h
  hd := rfl
  at_ := upd_same
  nl := fun l => live_none g hD l
theorem Build.hide {w1 w2 : Wd} {Dd : Addr} {accV : List V} (b : Build w1 w2 Dd accV) : w2.hd Dd := by rw [b.hd]; exact .inl rfl
theorem Build.grow {w1 w2 : Wd} {Dd : Addr} {accV accV' : List V} (b : Build w1 w2 Dd accV) (hD : w1.H Dd = none) : Build w1 (w2.grow Dd (.lst accV')) Dd accV' where
  emb := b.emb.trans (emb_grow b.hide)
  keep := fun a o h n => by
    obtain ⟨h1, n1⟩ := b.keep a o h n
    exact ⟨(upd_ne (ne_of_none h hD)).trans h1, n1⟩
  ex := fun a h => upd_ex a (b.ex a h)
  hd := b.hd
  at_ := upd_same
  nl := b.nl
theorem Build.done {w1 w2 : Wd} {Dd : Addr} {accV : List V} (b : Build w1 w2 Dd accV) : Ext w1 (w2.bare w1.hd) := ⟨b.emb.pre, b.keep, rfl, b.ex⟩
theorem Build.sub {w1 w2 : Wd} {Dd : Addr} {accV : List V} (b : Build w1 w2 Dd accV) : ∀ a, w1.hd a → w2.hd a := fun a h => by rw [b.hd]; exact .inr h
theorem lc_read {e : Ex} {t : Tg} {it : It} {cc : Option Ex} {vs : List Nat} (hs : (tgS t).all vs.contains = true) :
    ∀ σ H Q, tE G Φ W (.lc e t it cc vs) σ H Q → tLc (tI G Φ W it) (tTg G Φ (fun _ _ _ _ => False) t) (tC' G Φ (fun _ _ _ _ => False) cc) (tE G Φ (fun _ _ _ _ => False) e) vs σ H Q := by
  rintro σ H Q ⟨w, σd, rfl, g, rs, hp⟩
  simp only [evE] at hp
  refine ⟨w, σd, rfl, g, rs, (Post.bind hp).mono fun ds w1 x1 g1 h1 J hJ Dd hD => ?_⟩
  generalize hF : (fun x M2 => (evT Φ t x (wipeD σd vs) M2).bind fun σ3 M3 => (evC Φ cc σ3 M3).bind fun b M4 => if b = true then (evE Φ e σ3 M4).bind fun d M5 => Res.ok (some d) M5 else Res.ok none M4) = F at h1
  cases q : lcGo F ds [] w1.M with
  | no => rw [q] at h1; exact absurd h1 fun z => z
  | ex _ _ _ => exact absurd q (lcGo_nx F ds [] w1.M _ _ _)
  | ok out M6 =>
    rw [q] at h1
    have rs1 : RepS G w1 σd σ := rs.ext x1
    refine ⟨fun i m H => ∃ w2 acc accV, w2.H = H ∧ i ≤ ds.length ∧ m = ds.length - i ∧ WOk G w2 ∧ Build w1 w2 Dd accV ∧ lcGo F (ds.drop i) acc w2.M = .ok out M6 ∧ RepL G w2 acc accV,
      ⟨ds.length, w1.hide Dd (.lst []), [], [], rfl, Nat.zero_le _, by simp, wok_hide g1 hD, Build.start g1 hD, by rw [List.drop_zero]; exact q, RepL.nil⟩, ?_⟩
    rintro i m H ⟨w2, acc, accV, rfl, hi, rfl, g2, b2, go, ra⟩
    obtain ⟨j1, j2, j3⟩ := hJ w2 b2.emb g2
    by_cases hl : i < ds.length
    · right
      refine ⟨j1 i hl, fun H' => ∃ m' , m' < ds.length - i ∧ ∃ w2 acc accV, w2.H = H' ∧ i + 1 ≤ ds.length ∧ m' = ds.length - (i + 1) ∧ WOk G w2 ∧ Build w1 w2 Dd accV ∧ lcGo F (ds.drop (i + 1)) acc w2.M = .ok out M6 ∧ RepL G w2 acc accV, fun H' h => h, fun x H' y => ?_⟩
      obtain ⟨w3, d, rfl, _, m3, _, x3, g3, hd, rd⟩ := j3 i x H' hl y
      have b3 := b2.ext x3
      have hdrop : ds.drop i = d :: ds.drop (i + 1) := by
        obtain ⟨h', e'⟩ := List.getElem?_eq_some_iff.mp hd
        rw [List.drop_eq_getElem_cons h', e']
      rw [hdrop] at go
      simp only [lcGo] at go
      rw [← m3] at go
      -- what the turn does
      have turn : ∃ o M', F d w3.M = .ok o M' ∧ (match o with
          | some z => acc.length < sizeLine ∧ lcGo F (ds.drop (i + 1)) (acc ++ [z]) M' = .ok out M6
          | none => lcGo F (ds.drop (i + 1)) acc M' = .ok out M6) := by
        split at go
        · rename_i z M' hz
          split at go
          · rename_i hl
            exact ⟨some z, M', hz, hl, go⟩
          · cases go
        · rename_i M' hz
          exact ⟨none, M', hz, go⟩
        · cases go
      obtain ⟨o, M', hF1, hrest⟩ := turn
      rw [← hF] at hF1
      obtain ⟨σ3, M3, hT, hF2⟩ := Res.bind_ok_iff hF1
      obtain ⟨bb, M4, hC, hF3⟩ := Res.bind_ok_iff hF2
      refine ⟨w3, wipeD σd vs, d, rfl, g3, ((RepS.wipe rs1 vs).emb b3.emb), rd, ?_⟩
      rw [hT]
      intro w4 x4 g4 e4 σv rs4 off
      refine ⟨wipe_off off fun j hj => by simpa using List.all_eq_true.mp hs j hj, w4, σ3, rfl, g4, rs4, ?_⟩
      rw [e4, hC]
      intro w5 x5 g5 e5
      have b5 := (b3.ext x4).ext x5
      have ra5 : RepL G w5 acc accV := RepL.ext ((x3.trans x4).trans x5) _ _ ra
      cases bb with
      | true =>
        rw [if_pos rfl] at hF3
        refine iteT ?_
        obtain ⟨z, M5, hE, hF4⟩ := Res.bind_ok_iff hF3
        cases hF4
        refine ⟨w5, σ3, rfl, g5, rs4.ext x5, ?_⟩
        rw [e5, hE]
        intro w6 x6 g6 e6 v rv
        have b6 := b5.ext x6
        have ra6 : RepL G w6 (acc ++ [z]) (accV ++ [v]) := (RepL.ext x6 _ _ ra5).append (.cons rv .nil)
        refine ⟨accV, b6.at_, by rw [← ra.length]; exact hrest.1, ds.length - (i + 1), by omega, w6.grow Dd (.lst (accV ++ [v])), acc ++ [z], accV ++ [v], rfl, hl, rfl, wok_grow g6 b6.hide b6.nl, b6.grow hD, ?_, RepL.emb (emb_grow b6.hide) _ _ ra6⟩
        show lcGo F (ds.drop (i + 1)) (acc ++ [z]) w6.M = _
        rw [e6]
        exact hrest.2
      | false =>
        rw [if_neg Bool.false_ne_true] at hF3
        refine iteF ?_
        cases hF3
        exact ⟨ds.length - (i + 1), by omega, w5, acc, accV, rfl, hl, rfl, g5, b5, by rw [e5]; exact hrest, ra5⟩
    · left
      have hi' : i = ds.length := by omega
      subst hi'
      refine ⟨j2, ?_⟩
      rw [List.drop_length] at go
      simp only [lcGo] at go
      cases go
      refine h1 (w2.bare w1.hd) b2.done (wok_bare g2 b2.sub) rfl (.ref Dd) ?_
      simp only [Rep]
      refine ⟨Dd, accV, rfl, ⟨b2.at_, b2.nl, fun z => g1.hid Dd z hD⟩, RepL.emb (emb_bare b2.sub) _ _ ra⟩
theorem lc2Go_nx (f : D → List D → Mem → Res (List D)) : ∀ (xs acc : List D) (M : Mem) (c : Nat) (fs : List (Str × D)) (M' : Mem), lc2Go f xs acc M ≠ .ex c fs M'
  | [], acc, M, c, fs, M', h => by simp only [lc2Go] at h; cases h
  | x :: xs, acc, M, c, fs, M', h => by
    simp only [lc2Go] at h
    split at h
    · exact lc2Go_nx f xs _ _ c fs M' h
    · cases h
theorem lc2_read {e : Ex} {t t1 : Tg} {it it1 : It} {cc cc1 : Option Ex} {vs vs1 : List Nat} (hs : (tgS t).all vs.contains = true) (hs1 : (tgS t1).all vs1.contains = true) :
    ∀ σ H Q, tE G Φ W (.lc2 e t it cc t1 it1 cc1 vs vs1) σ H Q → tLc2 (tI G Φ W it) (tTg G Φ (fun _ _ _ _ => False) t) (tC' G Φ (fun _ _ _ _ => False) cc) (tI G Φ (fun _ _ _ _ => False) it1) (tTg G Φ (fun _ _ _ _ => False) t1) (tC' G Φ (fun _ _ _ _ => False) cc1) (tE G Φ (fun _ _ _ _ => False) e) vs vs1 σ H Q := by
  rintro σ H Q ⟨w, σd, rfl, g, rs, hp⟩
  simp only [evE] at hp
  refine ⟨w, σd, rfl, g, rs, (Post.bind hp).mono fun ds w1 x1 g1 h1 J hJ Dd hD => ?_⟩
  generalize hF : (fun x acc M2 => (evT Φ t x (wipeD σd vs) M2).bind fun σ3 M3 => (evC Φ cc σ3 M3).bind fun b M4 => if b = true then (evI Φ it1 σ3 M4).bind fun ds1 M5 => lcGo (fun x1 M6 => (evT Φ t1 x1 (wipeD σ3 vs1) M6).bind fun σ4 M7 => (evC Φ cc1 σ4 M7).bind fun b1 M8 => if b1 = true then (evE Φ e σ4 M8).bind fun d M9 => Res.ok (some d) M9 else Res.ok none M8) ds1 acc M5 else Res.ok acc M4) = F at h1
  cases q : lc2Go F ds [] w1.M with
  | no => rw [q] at h1; exact absurd h1 fun z => z
  | ex _ _ _ => exact absurd q (lc2Go_nx F ds [] w1.M _ _ _)
  | ok out M6 =>
    rw [q] at h1
    have rs1 : RepS G w1 σd σ := rs.ext x1
    refine ⟨fun i m H => ∃ w2 acc accV, w2.H = H ∧ i ≤ ds.length ∧ m = ds.length - i ∧ WOk G w2 ∧ Build w1 w2 Dd accV ∧ lc2Go F (ds.drop i) acc w2.M = .ok out M6 ∧ RepL G w2 acc accV,
      ⟨ds.length, w1.hide Dd (.lst []), [], [], rfl, Nat.zero_le _, by simp, wok_hide g1 hD, Build.start g1 hD, by rw [List.drop_zero]; exact q, RepL.nil⟩, ?_⟩
    rintro i m H ⟨w2, acc, accV, rfl, hi, rfl, g2, b2, go, ra⟩
    obtain ⟨j1, j2, j3⟩ := hJ w2 b2.emb g2
    by_cases hl : i < ds.length
    · right
      refine ⟨j1 i hl, fun H' => ∃ m' , m' < ds.length - i ∧ ∃ w2 acc accV, w2.H = H' ∧ i + 1 ≤ ds.length ∧ m' = ds.length - (i + 1) ∧ WOk G w2 ∧ Build w1 w2 Dd accV ∧ lc2Go F (ds.drop (i + 1)) acc w2.M = .ok out M6 ∧ RepL G w2 acc accV, fun H' h => h, fun x H' y => ?_⟩
      obtain ⟨w3, d, rfl, _, m3, _, x3, g3, hd, rd⟩ := j3 i x H' hl y
      have b3 := b2.ext x3
      have hdrop : ds.drop i = d :: ds.drop (i + 1) := by
        obtain ⟨h', e'⟩ := List.getElem?_eq_some_iff.mp hd
        rw [List.drop_eq_getElem_cons h', e']
      rw [hdrop] at go
      simp only [lc2Go] at go
      rw [← m3] at go
      obtain ⟨acc', M', hF1, hrest⟩ : ∃ acc' M', F d acc w3.M = .ok acc' M' ∧ lc2Go F (ds.drop (i + 1)) acc' M' = .ok out M6 := by
        split at go
        · rename_i a M' hz
          exact ⟨a, M', hz, go⟩
        · cases go
      rw [← hF] at hF1
      obtain ⟨σ3, M3, hT, hF2⟩ := Res.bind_ok_iff hF1
      obtain ⟨bb, M4, hC, hF3⟩ := Res.bind_ok_iff hF2
      refine ⟨w3, wipeD σd vs, d, rfl, g3, ((RepS.wipe rs1 vs).emb b3.emb), rd, ?_⟩
      rw [hT]
      intro w4 x4 g4 e4 σv rs4 off
      refine ⟨wipe_off off fun j hj => by simpa using List.all_eq_true.mp hs j hj, w4, σ3, rfl, g4, rs4, ?_⟩
      rw [e4, hC]
      intro w5 x5 g5 e5
      have b5 := (b3.ext x4).ext x5
      have ra5 : RepL G w5 acc accV := RepL.ext ((x3.trans x4).trans x5) _ _ ra
      cases bb with
      | false =>
        rw [if_neg Bool.false_ne_true] at hF3
        refine iteF ?_
        cases hF3
        exact ⟨ds.length - (i + 1), by omega, w5, acc, accV, rfl, hl, rfl, g5, b5, by rw [e5]; exact hrest, ra5⟩
      | true =>
        rw [if_pos rfl] at hF3
        refine iteT ?_
        obtain ⟨ds1, M5, hI, hG⟩ := Res.bind_ok_iff hF3
        refine ⟨w5, σ3, rfl, g5, rs4.ext x5, ?_⟩
        rw [e5, hI]
        intro w6 x6 g6 e6 J1 hJ1
        have b6 := b5.ext x6
        have rs6 := (rs4.ext x5).ext x6
        generalize hF1 : (fun x1 M6 => (evT Φ t1 x1 (wipeD σ3 vs1) M6).bind fun σ4 M7 => (evC Φ cc1 σ4 M7).bind fun b1 M8 => if b1 = true then (evE Φ e σ4 M8).bind fun d M9 => Res.ok (some d) M9 else Res.ok none M8) = F1 at hG
        refine ⟨fun j k H => ∃ w7 ac7 acV7, w7.H = H ∧ j ≤ ds1.length ∧ k = ds1.length - j ∧ WOk G w7 ∧ Build w1 w7 Dd acV7 ∧ Emb w6 w7 ∧ lcGo F1 (ds1.drop j) ac7 w7.M = .ok acc' M' ∧ RepL G w7 ac7 acV7,
          ⟨ds1.length, w6, acc, accV, rfl, Nat.zero_le _, by simp, g6, b6, Emb.refl _, by rw [List.drop_zero, e6]; exact hG, RepL.ext x6 _ _ ra5⟩, ?_⟩
        rintro j k H ⟨w7, ac7, acV7, rfl, hj, rfl, g7, b7, em7, go7, ra7⟩
        obtain ⟨j1, j2, j3⟩ := hJ1 w7 em7 g7
        by_cases hl1 : j < ds1.length
        · right
          refine ⟨j1 j hl1, fun H' => ∃ k', k' < ds1.length - j ∧ ∃ w7 ac7 acV7, w7.H = H' ∧ j + 1 ≤ ds1.length ∧ k' = ds1.length - (j + 1) ∧ WOk G w7 ∧ Build w1 w7 Dd acV7 ∧ Emb w6 w7 ∧ lcGo F1 (ds1.drop (j + 1)) ac7 w7.M = .ok acc' M' ∧ RepL G w7 ac7 acV7, fun H' h => h, fun x H' y => ?_⟩
          obtain ⟨w8, d8, rfl, _, m8, _, x8, g8, hd8, rd8⟩ := j3 j x H' hl1 y
          have b8 := b7.ext x8
          have hdrop8 : ds1.drop j = d8 :: ds1.drop (j + 1) := by
            obtain ⟨h', e'⟩ := List.getElem?_eq_some_iff.mp hd8
            rw [List.drop_eq_getElem_cons h', e']
          rw [hdrop8] at go7
          simp only [lcGo] at go7
          rw [← m8] at go7
          obtain ⟨o, N', hG1, hrest1⟩ : ∃ o N', F1 d8 w8.M = .ok o N' ∧ (match o with
              | some z => ac7.length < sizeLine ∧ lcGo F1 (ds1.drop (j + 1)) (ac7 ++ [z]) N' = .ok acc' M'
              | none => lcGo F1 (ds1.drop (j + 1)) ac7 N' = .ok acc' M') := by
            split at go7
            · rename_i z N' hz
              split at go7
              · rename_i hl
                exact ⟨some z, N', hz, hl, go7⟩
              · cases go7
            · rename_i N' hz
              exact ⟨none, N', hz, go7⟩
            · cases go7
          rw [← hF1] at hG1
          obtain ⟨σ4, N3, hT1, hG2⟩ := Res.bind_ok_iff hG1
          obtain ⟨bb1, N4, hC1, hG3⟩ := Res.bind_ok_iff hG2
          have em8 : Emb w6 w8 := em7.trans x8.emb
          refine ⟨w8, wipeD σ3 vs1, d8, rfl, g8, ((RepS.wipe rs6 vs1).emb em8), rd8, ?_⟩
          rw [hT1]
          intro w9 x9 g9 e9 σw rs9 off9
          refine ⟨wipe_off off9 fun j hj => by simpa using List.all_eq_true.mp hs1 j hj, w9, σ4, rfl, g9, rs9, ?_⟩
          rw [e9, hC1]
          intro w10 x10 g10 e10
          have b10 := (b8.ext x9).ext x10
          have em10 : Emb w6 w10 := (em8.trans x9.emb).trans x10.emb
          have ra10 : RepL G w10 ac7 acV7 := RepL.ext ((x8.trans x9).trans x10) _ _ ra7
          cases bb1 with
          | true =>
            rw [if_pos rfl] at hG3
            refine iteT ?_
            obtain ⟨z, N5, hE, hG4⟩ := Res.bind_ok_iff hG3
            cases hG4
            refine ⟨w10, σ4, rfl, g10, rs9.ext x10, ?_⟩
            rw [e10, hE]
            intro w11 x11 g11 e11 v rv
            have b11 := b10.ext x11
            have ra11 : RepL G w11 (ac7 ++ [z]) (acV7 ++ [v]) := (RepL.ext x11 _ _ ra10).append (.cons rv .nil)
            refine ⟨acV7, b11.at_, by rw [← ra7.length]; exact hrest1.1, ds1.length - (j + 1), by omega, w11.grow Dd (.lst (acV7 ++ [v])), ac7 ++ [z], acV7 ++ [v], rfl, hl1, rfl, wok_grow g11 b11.hide b11.nl, b11.grow hD, (em10.trans x11.emb).trans (emb_grow b11.hide), ?_, RepL.emb (emb_grow b11.hide) _ _ ra11⟩
            show lcGo F1 (ds1.drop (j + 1)) (ac7 ++ [z]) w11.M = _
            rw [e11]
            exact hrest1.2
          | false =>
            rw [if_neg Bool.false_ne_true] at hG3
            refine iteF ?_
            cases hG3
            exact ⟨ds1.length - (j + 1), by omega, w10, ac7, acV7, rfl, hl1, rfl, g10, b10, em10, by rw [e10]; exact hrest1, ra10⟩
        · left
          have hj' : j = ds1.length := by omega
          subst hj'
          rw [List.drop_length] at go7
          simp only [lcGo] at go7
          cases go7
          exact ⟨j2, ds.length - (i + 1), by omega, w7, acc', acV7, rfl, hl, rfl, g7, b7, hrest, ra7⟩
    · left
      have hi' : i = ds.length := by omega
      subst hi'
      refine ⟨j2, ?_⟩
      rw [List.drop_length] at go
      simp only [lc2Go] at go
      cases go
      refine h1 (w2.bare w1.hd) b2.done (wok_bare g2 b2.sub) rfl (.ref Dd) ?_
      simp only [Rep]
      refine ⟨Dd, accV, rfl, ⟨b2.at_, b2.nl, fun z => g1.hid Dd z hD⟩, RepL.emb (emb_bare b2.sub) _ _ ra⟩
theorem s_lc2 (c : Ctx G Γ k X W) {e : Ex} {t t1 : Tg} {it it1 : It} {cc cc1 : Option Ex} {vs vs1 : List Nat} {elt tg iter tg1 iter1 : Expr} {ifs ifs1 : List Expr} {scope : Scope} {pos : Pos}
    (hb : blkC Γ.N Γ.sc scope (ownOf Γ.N vs) = true) (ho : (ownOf Γ.N vs).map (·.2) = vs) (hs : (tgS t).all vs.contains = true) (hs1 : (tgS t1).all vs1.contains = true) (hv : vs1.all vs.contains = true) (hit : ∀ x, foldedSetIterable iter X.env x = pure x) (hit1 : ∀ env x, foldedSetIterable iter1 env x = pure x)
    (hi : PI X tg iter (tI G Φ W it))
    (hg : ∀ (s : Shared) (H : Hp) (C : Addr) (cl : List (Str × Addr)) (fp : List Addr), PG (X.blk s H scope (compEnvC scope cl C X.env) fp) tg (tTg G Φ (fun _ _ _ _ => False) t))
    (hc : ∀ (s : Shared) (H : Hp) (C : Addr) (cl : List (Str × Addr)) (fp : List Addr), PTs (X.blk s H scope (compEnvC scope cl C X.env) fp) ifs (tC' G Φ (fun _ _ _ _ => False) cc))
    (hi1 : ∀ (s : Shared) (H : Hp) (C : Addr) (cl : List (Str × Addr)) (fp : List Addr), PI (X.blk s H scope (compEnvC scope cl C X.env) fp) tg1 iter1 (tI G Φ (fun _ _ _ _ => False) it1))
    (hg1 : ∀ (s : Shared) (H : Hp) (C : Addr) (cl : List (Str × Addr)) (fp : List Addr), PG (X.blk s H scope (compEnvC scope cl C X.env) fp) tg1 (tTg G Φ (fun _ _ _ _ => False) t1))
    (hc1 : ∀ (s : Shared) (H : Hp) (C : Addr) (cl : List (Str × Addr)) (fp : List Addr), PTs (X.blk s H scope (compEnvC scope cl C X.env) fp) ifs1 (tC' G Φ (fun _ _ _ _ => False) cc1))
    (he : ∀ (s : Shared) (H : Hp) (C : Addr) (cl : List (Str × Addr)) (fp : List Addr), PE (X.blk s H scope (compEnvC scope cl C X.env) fp) elt (tE G Φ (fun _ _ _ _ => False) e)) :
    PE X (.ListComp elt [⟨tg, iter, ifs, 0⟩, ⟨tg1, iter1, ifs1, 0⟩] scope pos) (tE G Φ W (.lc2 e t it cc t1 it1 cc1 vs vs1)) := by
  have ok : BlkOk X.N X.env.scope scope (ownOf Γ.N vs) := by rw [c.N, c.sc]; exact blkOk_by hb
  refine PE.imp (pe_lc2 (vs1 := vs1) c.calm (by rw [c.N]; exact c.nd) hi ok (fun i hi => by rw [ho]; simpa using List.all_eq_true.mp hv i hi) hg hc hi1 hg1 hc1 he hit hit1) ?_
  intro σ H Q h
  rw [ho]
  exact lc2_read hs hs1 σ H Q h
theorem s_setLc2 (c : Ctx G Γ k X W) {i : Nat} {y : Str} {py spos : Pos} {e : Ex} {t t1 : Tg} {it it1 : It} {cc cc1 : Option Ex} {vs vs1 : List Nat} {elt tg iter tg1 iter1 : Expr} {ifs ifs1 : List Expr} {scope : Scope} {pos : Pos}
    (hy : Γ.N[i]? = some y) (hyl : Γ.sc.names.lookup y = some .local) (hsw : swapsWith (.ListComp elt [⟨tg, iter, ifs, 0⟩, ⟨tg1, iter1, ifs1, 0⟩] scope pos) (some (.Name y py)) spos.line X.env = pure true)
    (hb : blkC Γ.N Γ.sc scope (ownOf Γ.N vs) = true) (ho : (ownOf Γ.N vs).map (·.2) = vs) (hs : (tgS t).all vs.contains = true) (hs1 : (tgS t1).all vs1.contains = true) (hv : vs1.all vs.contains = true) (hit : ∀ x, foldedSetIterable iter X.env x = pure x) (hit1 : ∀ env x, foldedSetIterable iter1 env x = pure x)
    (hi : PI X tg iter (tI G Φ W it))
    (hg : ∀ (s : Shared) (H : Hp) (C : Addr) (cl : List (Str × Addr)) (fp : List Addr), PG (X.blk s H scope (compEnvC scope cl C X.env) fp) tg (tTg G Φ (fun _ _ _ _ => False) t))
    (hc : ∀ (s : Shared) (H : Hp) (C : Addr) (cl : List (Str × Addr)) (fp : List Addr), PTs (X.blk s H scope (compEnvC scope cl C X.env) fp) ifs (tC' G Φ (fun _ _ _ _ => False) cc))
    (hi1 : ∀ (s : Shared) (H : Hp) (C : Addr) (cl : List (Str × Addr)) (fp : List Addr), PI (X.blk s H scope (compEnvC scope cl C X.env) fp) tg1 iter1 (tI G Φ (fun _ _ _ _ => False) it1))
    (hg1 : ∀ (s : Shared) (H : Hp) (C : Addr) (cl : List (Str × Addr)) (fp : List Addr), PG (X.blk s H scope (compEnvC scope cl C X.env) fp) tg1 (tTg G Φ (fun _ _ _ _ => False) t1))
    (hc1 : ∀ (s : Shared) (H : Hp) (C : Addr) (cl : List (Str × Addr)) (fp : List Addr), PTs (X.blk s H scope (compEnvC scope cl C X.env) fp) ifs1 (tC' G Φ (fun _ _ _ _ => False) cc1))
    (he : ∀ (s : Shared) (H : Hp) (C : Addr) (cl : List (Str × Addr)) (fp : List Addr), PE (X.blk s H scope (compEnvC scope cl C X.env) fp) elt (tE G Φ (fun _ _ _ _ => False) e)) :
    PS X (.Assign [.Name y py] (.ListComp elt [⟨tg, iter, ifs, 0⟩, ⟨tg1, iter1, ifs1, 0⟩] scope pos) spos) (tAsg (tE G Φ W (.lc2 e t it cc t1 it1 cc1 vs vs1)) (gName i)) := by
  have ok : BlkOk X.N X.env.scope scope (ownOf Γ.N vs) := by rw [c.N, c.sc]; exact blkOk_by hb
  refine PS.imp (ps_setLc2 (i := i) (vs1 := vs1) c.calm (by rw [c.N]; exact c.nd) (by rw [c.N]; exact hy) (by rw [c.sc]; exact hyl) hsw hi ok (fun i hi => by rw [ho]; simpa using List.all_eq_true.mp hv i hi) hg hc hi1 hg1 hc1 he hit hit1) ?_
  intro D σ H h
  rw [ho]
  exact lc2_read (G := G) (Φ := Φ) (W := W) (e := e) (t := t) (it := it) (cc := cc) (vs := vs) hs hs1 σ H _ h
theorem s_lc (c : Ctx G Γ k X W) {e : Ex} {t : Tg} {it : It} {cc : Option Ex} {vs : List Nat} {elt tg iter : Expr} {ifs : List Expr} {scope : Scope} {pos : Pos}
    (hb : blkC Γ.N Γ.sc scope (ownOf Γ.N vs) = true) (ho : (ownOf Γ.N vs).map (·.2) = vs) (hs : (tgS t).all vs.contains = true) (hit : ∀ x, foldedSetIterable iter X.env x = pure x)
    (hi : PI X tg iter (tI G Φ W it))
    (hg : ∀ (s : Shared) (H : Hp) (C : Addr) (cl : List (Str × Addr)) (fp : List Addr), PG (X.blk s H scope (compEnvC scope cl C X.env) fp) tg (tTg G Φ (fun _ _ _ _ => False) t))
    (hc : ∀ (s : Shared) (H : Hp) (C : Addr) (cl : List (Str × Addr)) (fp : List Addr), PTs (X.blk s H scope (compEnvC scope cl C X.env) fp) ifs (tC' G Φ (fun _ _ _ _ => False) cc))
    (he : ∀ (s : Shared) (H : Hp) (C : Addr) (cl : List (Str × Addr)) (fp : List Addr), PE (X.blk s H scope (compEnvC scope cl C X.env) fp) elt (tE G Φ (fun _ _ _ _ => False) e)) :
    PE X (.ListComp elt [⟨tg, iter, ifs, 0⟩] scope pos) (tE G Φ W (.lc e t it cc vs)) := by
  have ok : BlkOk X.N X.env.scope scope (ownOf Γ.N vs) := by rw [c.N, c.sc]; exact blkOk_by hb
  refine PE.imp (pe_lc c.calm (by rw [c.N]; exact c.nd) hi ok hg hc he hit) ?_
  rw [ho]
  exact lc_read hs
/-- name = [..] where the name takes the list at once -/
theorem s_setLc (c : Ctx G Γ k X W) {i : Nat} {y : Str} {py spos : Pos} {e : Ex} {t : Tg} {it : It} {cc : Option Ex} {vs : List Nat} {elt tg iter : Expr} {ifs : List Expr} {scope : Scope} {pos : Pos} (hy : Γ.N[i]? = some y) (hyl : Γ.sc.names.lookup y = some .local)
    (hsw : swapsWith (.ListComp elt [⟨tg, iter, ifs, 0⟩] scope pos) (some (.Name y py)) spos.line X.env = pure true)
    (hb : blkC Γ.N Γ.sc scope (ownOf Γ.N vs) = true) (ho : (ownOf Γ.N vs).map (·.2) = vs) (hs : (tgS t).all vs.contains = true) (hit : ∀ x, foldedSetIterable iter X.env x = pure x)
    (hi : PI X tg iter (tI G Φ W it))
    (hg : ∀ (s : Shared) (H : Hp) (C : Addr) (cl : List (Str × Addr)) (fp : List Addr), PG (X.blk s H scope (compEnvC scope cl C X.env) fp) tg (tTg G Φ (fun _ _ _ _ => False) t))
    (hc : ∀ (s : Shared) (H : Hp) (C : Addr) (cl : List (Str × Addr)) (fp : List Addr), PTs (X.blk s H scope (compEnvC scope cl C X.env) fp) ifs (tC' G Φ (fun _ _ _ _ => False) cc))
    (he : ∀ (s : Shared) (H : Hp) (C : Addr) (cl : List (Str × Addr)) (fp : List Addr), PE (X.blk s H scope (compEnvC scope cl C X.env) fp) elt (tE G Φ (fun _ _ _ _ => False) e)) :
    PS X (.Assign [.Name y py] (.ListComp elt [⟨tg, iter, ifs, 0⟩] scope pos) spos) (tAsg (tE G Φ W (.lc e t it cc vs)) (gName i)) := by
  have ok : BlkOk X.N X.env.scope scope (ownOf Γ.N vs) := by rw [c.N, c.sc]; exact blkOk_by hb
  refine PS.imp (ps_setLc (i := i) c.calm (by rw [c.N]; exact c.nd) (by rw [c.N]; exact hy) (by rw [c.sc]; exact hyl) hsw hi ok hg hc he hit) ?_
  intro D σ H h
  have r := lc_read (G := G) (Φ := Φ) (W := W) (e := e) (t := t) (it := it) (cc := cc) (vs := vs) hs σ H _ h
  rw [ho]
  exact r
end
end Ev
/-! EvD: dicts: comprehensions, what stands at a key. -/
namespace Ev
open PySem L2
section
variable {G : Gb} {w : Wd}
theorem RepK.any {kvs : List (Key × D)} {vs : List (Key × V)} (h : RepK G w kvs vs) (k : Key) : (kvs.any fun kv => decide (kv.1 = k)) = vs.any fun kv => decide (kv.1 = k) := by
  induction kvs generalizing vs with
  | nil => simp only [RepK] at h; subst h; rfl
  | cons d kvs ih =>
    simp only [RepK] at h
    obtain ⟨v, r, rfl, _, h2⟩ := h
    simp only [List.any_cons, ih h2]
theorem RepK.val {kvs : List (Key × D)} {vs : List (Key × V)} (h : RepK G w kvs vs) (k : Key) : (∀ d, valD kvs k = some d → ∃ v, valV vs k = some v ∧ Rep G w d v) ∧ (valD kvs k = none → valV vs k = none) := by
  induction kvs generalizing vs with
  | nil =>
    simp only [RepK] at h; subst h
    exact ⟨fun d e => by simp [valD] at e, fun _ => rfl⟩
  | cons d kvs ih =>
    simp only [RepK] at h
    obtain ⟨v, r, rfl, h1, h2⟩ := h
    by_cases e : d.1 = k
    · have e1 : valD (d :: kvs) k = some d.2 := by simp [valD, List.find?_cons, e]
      have e2 : valV ((d.1, v) :: r) k = some v := valV_pos e
      rw [e1, e2]
      exact ⟨fun x hx => by cases hx; exact ⟨v, rfl, h1⟩, fun z => by cases z⟩
    · have e1 : valD (d :: kvs) k = valD kvs k := by simp [valD, List.find?_cons, e]
      have e2 : valV ((d.1, v) :: r) k = valV r k := valV_neg e
      rw [e1, e2]
      exact ih h2
theorem RepK.len : ∀ {kvs : List (Key × D)} {vs : List (Key × V)}, RepK G w kvs vs → kvs.length = vs.length
  | [], _, h => by simp only [RepK] at h; subst h; rfl
  | d :: fs, _, h => by
    simp only [RepK] at h
    obtain ⟨v, r, rfl, _, h2⟩ := h
    simp [RepK.len h2]
theorem RepK.app : ∀ {kvs es : List (Key × D)} {vs us : List (Key × V)}, RepK G w kvs vs → RepK G w es us → RepK G w (kvs ++ es) (vs ++ us)
  | [], _, _, _, h, t => by simp only [RepK] at h; subst h; exact t
  | d :: ds, _, _, _, h, t => by
    simp only [RepK] at h
    obtain ⟨v, r, rfl, h1, h2⟩ := h
    simp only [List.cons_append, RepK]
    exact ⟨v, _, rfl, h1, RepK.app h2 t⟩
theorem RepK.map (k : Key) {d : D} {v : V} (r : Rep G w d v) : ∀ {kvs : List (Key × D)} {vs : List (Key × V)}, RepK G w kvs vs → RepK G w (kvs.map fun kv => if kv.1 = k then (kv.1, d) else kv) (vs.map fun kv => if kv.1 = k then (kv.1, v) else kv)
  | [], _, h => by simp only [RepK] at h; subst h; simp only [List.map_nil, RepK]
  | x :: kvs, _, h => by
    simp only [RepK] at h
    obtain ⟨u, rs, rfl, h1, h2⟩ := h
    simp only [List.map_cons, RepK]
    by_cases e : x.1 = k
    · rw [if_pos e, if_pos e]
      exact ⟨v, _, rfl, r, RepK.map k r h2⟩
    · rw [if_neg e, if_neg e]
      exact ⟨u, _, rfl, h1, RepK.map k r h2⟩
theorem RepK.put {k : Key} {d : D} {v : V} (r : Rep G w d v) {kvs : List (Key × D)} {vs : List (Key × V)} (h : RepK G w kvs vs) : RepK G w (putKD kvs k d) (putK vs k v) := by
  unfold putKD putK
  rw [h.any k]
  split
  · exact RepK.map k r h
  · exact RepK.app h (by simp only [RepK]; exact ⟨v, [], rfl, r, rfl⟩)
theorem keyD_rep {d : D} {v : V} {k : Key} (h : keyD d = some k) (r : Rep G w d v) : v = kV k := by
  cases d with
  | int i => simp only [keyD, Option.some.injEq] at h; subst h; simp only [Rep] at r; exact r
  | str s => simp only [keyD, Option.some.injEq] at h; subst h; simp only [Rep] at r; exact r
  | _ => simp [keyD] at h
end
/-- from w1 on, with an object being built at Dd -/
structure BuildO (w1 w2 : Wd) (Dd : Addr) (o : HO) : Prop where
  emb : Emb w1 w2
  keep : ∀ a o, w1.H a = some o → ¬ Live w1 a → w2.H a = some o ∧ ¬ Live w2 a
  ex : ∀ a, w1.H a ≠ none → w2.H a ≠ none
  hd : w2.hd = fun a => a = Dd ∨ w1.hd a
  at_ : w2.H Dd = some o
  nl : ¬ Live w2 Dd
theorem BuildO.ext {w1 w2 w3 : Wd} {Dd : Addr} {o : HO} (b : BuildO w1 w2 Dd o) (x : Ext w2 w3) : BuildO w1 w3 Dd o where
  emb := b.emb.trans x.emb
  keep := fun a o h n => let q := b.keep a o h n; x.keep a o q.1 q.2
  ex := fun a h => x.ex a (b.ex a h)
  hd := x.hid.trans b.hd
  at_ := (x.keep Dd _ b.at_ b.nl).1
  nl := (x.keep Dd _ b.at_ b.nl).2
theorem BuildO.start {G : Gb} {w1 : Wd} {o : HO} (g : WOk G w1) {Dd : Addr} (hD : w1.H Dd = none) : BuildO w1 (w1.hide Dd o) Dd o where
  emb := emb_hide g hD
  keep := fun a _ h n => ⟨(upd_ne (ne_of_none h hD)).trans h, n⟩
  ex := fun a h => upd_ex a h
  hd := rfl
  at_ := upd_same
  nl := fun l => live_none g hD l
theorem BuildO.hide {w1 w2 : Wd} {Dd : Addr} {o : HO} (b : BuildO w1 w2 Dd o) : w2.hd Dd := by rw [b.hd]; exact .inl rfl
theorem BuildO.grow {w1 w2 : Wd} {Dd : Addr} {o o' : HO} (b : BuildO w1 w2 Dd o) (hD : w1.H Dd = none) : BuildO w1 (w2.grow Dd o') Dd o' where
  emb := b.emb.trans (emb_grow b.hide)
  keep := fun a o h n => let q := b.keep a o h n; ⟨(upd_ne (ne_of_none h hD)).trans q.1, q.2⟩
  ex := fun a h => upd_ex a (b.ex a h)
  hd := b.hd
  at_ := upd_same
  nl := b.nl
theorem BuildO.done {w1 w2 : Wd} {Dd : Addr} {o : HO} (b : BuildO w1 w2 Dd o) : Ext w1 (w2.bare w1.hd) := ⟨b.emb.pre, b.keep, rfl, b.ex⟩
theorem BuildO.sub {w1 w2 : Wd} {Dd : Addr} {o : HO} (b : BuildO w1 w2 Dd o) : ∀ a, w1.hd a → w2.hd a := fun a h => by rw [b.hd]; exact .inr h
theorem dcGo_nx (f : D → Mem → Res (Option (Key × D))) : ∀ (xs : List D) (acc : List (Key × D)) (M : Mem) (c : Nat) (fs : List (Str × D)) (M' : Mem), dcGo f xs acc M ≠ .ex c fs M'
  | [], acc, M, c, fs, M', h => by simp only [dcGo] at h; cases h
  | x :: xs, acc, M, c, fs, M', h => by
    simp only [dcGo] at h
    split at h
    · split at h
      · exact dcGo_nx f xs _ _ c fs M' h
      · cases h
    · exact dcGo_nx f xs _ _ c fs M' h
    · cases h
section
variable {G : Gb} {Φ : Nat → List D → Mem → Res D} {W : WX} {X : Cx} {k : Nat} {Γ : Cn}
theorem dc_read {a b : Ex} {t : Tg} {it : It} {cc : Option Ex} {vs : List Nat} (hs : (tgS t).all vs.contains = true) :
    ∀ σ H Q, tE G Φ W (.dc a b t it cc vs) σ H Q → tDc (tI G Φ W it) (tTg G Φ (fun _ _ _ _ => False) t) (tC' G Φ (fun _ _ _ _ => False) cc) (tE G Φ (fun _ _ _ _ => False) a) (tE G Φ (fun _ _ _ _ => False) b) vs σ H Q := by
  rintro σ H Q ⟨w, σd, rfl, g, rs, hp⟩
  simp only [evE] at hp
  refine ⟨w, σd, rfl, g, rs, (Post.bind hp).mono fun ds w1 x1 g1 h1 J hJ Dd hD => ?_⟩
  generalize hF : (fun x M2 => (evT Φ t x (wipeD σd vs) M2).bind fun σ3 M3 => (evC Φ cc σ3 M3).bind fun q M4 => if q = true then (evE Φ a σ3 M4).bind fun kd M5 => (evE Φ b σ3 M5).bind fun d M6 => match keyD kd with
      | some k => Res.ok (some (k, d)) M6
      | none => Res.no
    else Res.ok none M4) = F at h1
  cases q : dcGo F ds [] w1.M with
  | no => rw [q] at h1; exact absurd h1 fun z => z
  | ex _ _ _ => exact absurd q (dcGo_nx F ds [] w1.M _ _ _)
  | ok out M6 =>
    rw [q] at h1
    have rs1 : RepS G w1 σd σ := rs.ext x1
    refine ⟨fun i m H => ∃ w2 acc accV, w2.H = H ∧ i ≤ ds.length ∧ m = ds.length - i ∧ WOk G w2 ∧ BuildO w1 w2 Dd (.dK accV) ∧ dcGo F (ds.drop i) acc w2.M = .ok out M6 ∧ RepK G w2 acc accV,
      ⟨ds.length, w1.hide Dd (.dK []), [], [], rfl, Nat.zero_le _, by simp, wok_hide g1 hD, BuildO.start g1 hD, by rw [List.drop_zero]; exact q, by simp only [RepK]⟩, ?_⟩
    rintro i m H ⟨w2, acc, accV, rfl, hi, rfl, g2, b2, go, ra⟩
    obtain ⟨j1, j2, j3⟩ := hJ w2 b2.emb g2
    by_cases hl : i < ds.length
    · right
      refine ⟨j1 i hl, fun H' => ∃ m' , m' < ds.length - i ∧ ∃ w2 acc accV, w2.H = H' ∧ i + 1 ≤ ds.length ∧ m' = ds.length - (i + 1) ∧ WOk G w2 ∧ BuildO w1 w2 Dd (.dK accV) ∧ dcGo F (ds.drop (i + 1)) acc w2.M = .ok out M6 ∧ RepK G w2 acc accV, fun H' h => h, fun x H' y => ?_⟩
      obtain ⟨w3, d, rfl, _, m3, _, x3, g3, hd, rd⟩ := j3 i x H' hl y
      have b3 := b2.ext x3
      have hdrop : ds.drop i = d :: ds.drop (i + 1) := by
        obtain ⟨h', e'⟩ := List.getElem?_eq_some_iff.mp hd
        rw [List.drop_eq_getElem_cons h', e']
      rw [hdrop] at go
      simp only [dcGo] at go
      rw [← m3] at go
      -- what the turn does
      have turn : ∃ o M', F d w3.M = .ok o M' ∧ (match o with
          | some z => acc.length < sizeLine ∧ dcGo F (ds.drop (i + 1)) (putKD acc z.1 z.2) M' = .ok out M6
          | none => dcGo F (ds.drop (i + 1)) acc M' = .ok out M6) := by
        split at go
        · rename_i kk z M' hz
          split at go
          · rename_i hl
            exact ⟨some (kk, z), M', hz, hl, go⟩
          · cases go
        · rename_i M' hz
          exact ⟨none, M', hz, go⟩
        · cases go
      obtain ⟨o, M', hF1, hrest⟩ := turn
      rw [← hF] at hF1
      obtain ⟨σ3, M3, hT, hF2⟩ := Res.bind_ok_iff hF1
      obtain ⟨bb, M4, hC, hF3⟩ := Res.bind_ok_iff hF2
      refine ⟨w3, wipeD σd vs, d, rfl, g3, ((RepS.wipe rs1 vs).emb b3.emb), rd, ?_⟩
      rw [hT]
      intro w4 x4 g4 e4 σv rs4 off
      refine ⟨wipe_off off fun j hj => by simpa using List.all_eq_true.mp hs j hj, w4, σ3, rfl, g4, rs4, ?_⟩
      rw [e4, hC]
      intro w5 x5 g5 e5
      have b5 := (b3.ext x4).ext x5
      have x345 := (x3.trans x4).trans x5
      cases bb with
      | true =>
        rw [if_pos rfl] at hF3
        refine iteT ?_
        obtain ⟨kd, M7, hA, hF4⟩ := Res.bind_ok_iff hF3
        obtain ⟨z, M8, hB, hF5⟩ := Res.bind_ok_iff hF4
        split at hF5
        · rename_i kk hkk
          cases hF5
          refine ⟨w5, σ3, rfl, g5, rs4.ext x5, ?_⟩
          rw [e5, hA]
          intro w6 x6 g6 e6 yk ryk
          refine ⟨w6, σ3, rfl, g6, (rs4.ext x5).ext x6, ?_⟩
          rw [e6, hB]
          intro w7 x7 g7 e7 v rv
          have b7 := (b5.ext x6).ext x7
          have ra7 : RepK G w7 acc accV := RepK.emb (x345.trans (x6.trans x7)).emb _ _ ra
          refine ⟨accV, kk, keyD_rep hkk ryk, b7.at_, by rw [← ra.len]; exact hrest.1, ds.length - (i + 1), by omega, w7.grow Dd (.dK (putK accV kk v)), putKD acc kk z, putK accV kk v, rfl, hl, rfl, wok_grow g7 b7.hide b7.nl, b7.grow hD, ?_, RepK.emb (emb_grow b7.hide) _ _ (RepK.put rv ra7)⟩
          show dcGo F (ds.drop (i + 1)) (putKD acc kk z) w7.M = _
          rw [e7]
          exact hrest.2
        · cases hF5
      | false =>
        rw [if_neg Bool.false_ne_true] at hF3
        refine iteF ?_
        cases hF3
        exact ⟨ds.length - (i + 1), by omega, w5, acc, accV, rfl, hl, rfl, g5, b5, by rw [e5]; exact hrest, RepK.emb x345.emb _ _ ra⟩
    · left
      have hi' : i = ds.length := by omega
      subst hi'
      refine ⟨j2, ?_⟩
      rw [List.drop_length] at go
      simp only [dcGo] at go
      cases go
      refine h1 (w2.bare w1.hd) b2.done (wok_bare g2 b2.sub) rfl (.ref Dd) ?_
      simp only [Rep]
      refine ⟨Dd, accV, rfl, ⟨b2.at_, b2.nl, fun z => g1.hid Dd z hD⟩, RepK.emb (emb_bare b2.sub) _ _ ra⟩
theorem s_dc (c : Ctx G Γ k X W) {a b : Ex} {t : Tg} {it : It} {cc : Option Ex} {vs : List Nat} {kx vx tg iter : Expr} {ifs : List Expr} {scope : Scope} {pos : Pos}
    (hb : blkC Γ.N Γ.sc scope (ownOf Γ.N vs) = true) (ho : (ownOf Γ.N vs).map (·.2) = vs) (hs : (tgS t).all vs.contains = true) (hit : ∀ x, foldedSetIterable iter X.env x = pure x)
    (hi : PI X tg iter (tI G Φ W it))
    (hg : ∀ (s : Shared) (H : Hp) (C : Addr) (cl : List (Str × Addr)) (fp : List Addr), PG (X.blk s H scope (compEnvC scope cl C X.env) fp) tg (tTg G Φ (fun _ _ _ _ => False) t))
    (hc : ∀ (s : Shared) (H : Hp) (C : Addr) (cl : List (Str × Addr)) (fp : List Addr), PTs (X.blk s H scope (compEnvC scope cl C X.env) fp) ifs (tC' G Φ (fun _ _ _ _ => False) cc))
    (hk : ∀ (s : Shared) (H : Hp) (C : Addr) (cl : List (Str × Addr)) (fp : List Addr), PE (X.blk s H scope (compEnvC scope cl C X.env) fp) kx (tE G Φ (fun _ _ _ _ => False) a))
    (he : ∀ (s : Shared) (H : Hp) (C : Addr) (cl : List (Str × Addr)) (fp : List Addr), PE (X.blk s H scope (compEnvC scope cl C X.env) fp) vx (tE G Φ (fun _ _ _ _ => False) b)) :
    PE X (.DictComp kx vx [⟨tg, iter, ifs, 0⟩] scope pos) (tE G Φ W (.dc a b t it cc vs)) := by
  have ok : BlkOk X.N X.env.scope scope (ownOf Γ.N vs) := by rw [c.N, c.sc]; exact blkOk_by hb
  refine PE.imp (pe_dc c.calm (by rw [c.N]; exact c.nd) hi ok hg hc hk he hit) ?_
  rw [ho]
  exact dc_read hs
theorem s_dix (c : Ctx G Γ k X W) {o e : Ex} {x y : Expr} {pos : Pos} (ho : PE X x (tE G Φ W o)) (he : PE X y (tE G Φ W e)) (hy : plainX y = true) : PE X (.Subscript x y pos) (tE G Φ W (.dix o e)) := by
  have hu : X.A.units + 1 < cLine := by have := c.room.un; omega
  refine PE.imp (pe_dget hu ho he (by cases y <;> first | (exact fun _ _ => rfl) | (simp [plainX] at hy))) ?_
  rintro σ H Q ⟨w, σd, rfl, g, rs, hp⟩
  simp only [evE] at hp
  refine ⟨w, σd, rfl, g, rs, (Post.bind hp).mono fun d w1 x1 g1 h1 v1 r1 => ?_⟩
  refine ⟨w1, σd, rfl, g1, rs.ext x1, (Post.bind h1).mono fun kd w2 x2 g2 h2 v2 r2 => ?_⟩
  split at h2
  · rename_i kvs kk hk
    obtain ⟨z, hz, h3⟩ := Post.of h2
    have r1' := Rep.ext x2 _ _ r1
    simp only [Rep] at r1'
    obtain ⟨a, us, rfl, q1, q2⟩ := r1'
    obtain ⟨v, hv, rv⟩ := (q2.val kk).1 z hz
    refine ⟨a, v, rfl, ?_, h3 w2 (Ext.refl _) g2 rfl v rv⟩
    rw [keyD_rep hk r2, ← hv]
    exact DGet.k q1.1
  · exact absurd h2 fun z => z
theorem s_dgt (c : Ctx G Γ k X W) {o e : Ex} {y a : Expr} {apos cpos : Pos} (hb : attrOk y = true) (hm : mE e Γ a = true) (hline : (apos.endLine == cpos.line) = true) (ho : PE X y (tE G Φ W o)) (he : PE X a (tE G Φ W e)) : PE X (.Call (.Attribute y "get" apos) [a] [] cpos) (tE G Φ W (.dgt o e)) := by
  have hu : X.A.units + 1 < cLine := by have := c.room.un; omega
  have hL : mL [e] Γ [a] = true := by simp [mL, hm]
  have hst := star_of (mE_plain hm) [] X.env
  refine PE.imp (pe_dget1 hu ho he ⟨attr_base hb _ _, ?_, hline, ?_⟩) ?_
  · rw [mL_all hL cpos X.env]
    rfl
  · rw [hst]
    rfl
  · rintro σ H Q ⟨w, σd, rfl, g, rs, hp⟩
    simp only [evE] at hp
    refine ⟨w, σd, rfl, g, rs, (Post.bind hp).mono fun d w1 x1 g1 h1 v1 r1 => ?_⟩
    split at h1
    · rename_i kvs
      have r0 := r1
      simp only [Rep] at r0
      obtain ⟨a0, us0, rfl, q0, _⟩ := r0
      refine ⟨a0, rfl, .inl ⟨us0, .inl q0.1⟩, w1, σd, rfl, g1, rs.ext x1, (Post.bind h1).mono fun kd w2 x2 g2 h2 v2 r2 => ?_⟩
      split at h2
      · rename_i kk hk
        have r1' := Rep.ext x2 _ _ r1
        simp only [Rep] at r1'
        obtain ⟨a, us, e1, q1, q2⟩ := r1'
        cases e1
        refine ⟨valV us kk, by rw [keyD_rep hk r2]; exact DGet.k q1.1, ?_⟩
        cases hv : valD kvs kk with
        | some z =>
          obtain ⟨v, e2, rv⟩ := (q2.val kk).1 z hv
          rw [hv] at h2
          rw [e2]
          exact post_ok g2 h2 v rv
        | none =>
          rw [(q2.val kk).2 hv]
          rw [hv] at h2
          exact post_ok g2 h2 .non rep_non
      · exact absurd h2 fun z => z
    · exact absurd h1 fun z => z
/-- a name gets a dict comprehension's dict, on one line -/
theorem sets_dc {dl : Nat} {y : Str} {yp p0 sp : Pos} {kx vx tg iter : Expr} {ifs : List Expr} {sc0 : Scope} {own : List (Str × Nat)} {wi : TI} {g : TG} {tt : TT} {tk tv : TE}
    (hc : X.calm = true) (hN : X.N.Nodup) (hy : X.N[dl]? = some y) (loc : X.env.scope.names.lookup y = some .local) (sw : swapsWith (.DictComp kx vx [⟨tg, iter, ifs, 0⟩] sc0 p0) (some (.Name y yp)) sp.line X.env = pure true)
    (hi : PI X tg iter wi) (ok : BlkOk X.N X.env.scope sc0 own) (hg : ∀ (s0 : Shared) (H0 : Hp) (C0 : Addr) (l0 : List (Str × Addr)) (q0 : List Addr), PG (X.blk s0 H0 sc0 (compEnvC sc0 l0 C0 X.env) q0) tg g)
    (ht : ∀ (s0 : Shared) (H0 : Hp) (C0 : Addr) (l0 : List (Str × Addr)) (q0 : List Addr), PTs (X.blk s0 H0 sc0 (compEnvC sc0 l0 C0 X.env) q0) ifs tt)
    (hk : ∀ (s0 : Shared) (H0 : Hp) (C0 : Addr) (l0 : List (Str × Addr)) (q0 : List Addr), PE (X.blk s0 H0 sc0 (compEnvC sc0 l0 C0 X.env) q0) kx tk)
    (hv : ∀ (s0 : Shared) (H0 : Hp) (C0 : Addr) (l0 : List (Str × Addr)) (q0 : List Addr), PE (X.blk s0 H0 sc0 (compEnvC sc0 l0 C0 X.env) q0) vx tv) (hs : ∀ z, foldedSetIterable iter X.env z = pure z) :
    PS X (.Assign [.Name y yp] (.DictComp kx vx [⟨tg, iter, ifs, 0⟩] sc0 p0) sp) (tAsg (tDc wi g tt tk tv (own.map (·.2))) (gName dl)) := by
  refine ⟨fun pins s0 σ0 H0 D0 I0 hw => ?_⟩
  rw [exec_Assign_Name_used _ _ _ _ sw]
  refine wpAny_bind (wpAny_standAt (wpAny_bind ?_))
  show wpAny _ X.A (do let _ ← comprehension (.DictComp kx vx [⟨tg, iter, ifs, 0⟩] sc0 p0) sc0 X.env (firstIterPos [⟨tg, iter, ifs, 0⟩] p0) newDict false (eval iter X.env) (some (assign (.Name y yp) X.env))) _ _ s0
  have hw' : tDc wi g tt tk tv (own.map (·.2)) σ0 H0 (fun z Hz => gName dl z σ0 Hz D0.nx) := hw
  refine wpAny_bind (thn (dc_core (Qf := fun _ sz => SP X pins D0 .next sz) hc hN I0 hi ok hg ht hk hv hs hw' fun L0 C0 s1 m1 H1 J1 qq ns fo => ?_) fun _ sz hz => wpAny_pure (wpAny_pure hz))
  show wpAny _ _ (assign (.Name y yp) X.env (.ref L0)) _ _ _
  refine wpAny_assign_Name (store_ok2 (v := V.ref L0) J1 hN hy (.inl loc) rfl (fun s2 J2 ⟨at0, sb, ha⟩ => ?_) (.inr loc))
  obtain ⟨e0, e1, e2, e3, e4, e5⟩ := fo
  have apart : C0 ≠ at0 := by
    rcases ha with z | z
    · rw [z]
      exact e1
    · exact fun eq => e4 y at0 z eq.symm
  exact ⟨m1, ns.sameBut sb apart, fun h3 sb3 => ⟨_, H1, J2.turned (t' := s2.toks) (fun b0 o0 hb0 eq => (sb3.2 b0 hb0).trans eq) e0 e1 e3 e4 e5, qq⟩⟩
theorem s_setDc (c : Ctx G Γ k X W) {i : Nat} {y : Str} {py spos : Pos} {a b : Ex} {t : Tg} {it : It} {cc : Option Ex} {vs : List Nat} {kx vx tg iter : Expr} {ifs : List Expr} {scope : Scope} {pos : Pos} (hy : Γ.N[i]? = some y) (hyl : Γ.sc.names.lookup y = some .local)
    (hsw : swapsWith (.DictComp kx vx [⟨tg, iter, ifs, 0⟩] scope pos) (some (.Name y py)) spos.line X.env = pure true)
    (hb : blkC Γ.N Γ.sc scope (ownOf Γ.N vs) = true) (ho : (ownOf Γ.N vs).map (·.2) = vs) (hs : (tgS t).all vs.contains = true) (hit : ∀ x, foldedSetIterable iter X.env x = pure x)
    (hi : PI X tg iter (tI G Φ W it))
    (hg : ∀ (s : Shared) (H : Hp) (C : Addr) (cl : List (Str × Addr)) (fp : List Addr), PG (X.blk s H scope (compEnvC scope cl C X.env) fp) tg (tTg G Φ (fun _ _ _ _ => False) t))
    (hc : ∀ (s : Shared) (H : Hp) (C : Addr) (cl : List (Str × Addr)) (fp : List Addr), PTs (X.blk s H scope (compEnvC scope cl C X.env) fp) ifs (tC' G Φ (fun _ _ _ _ => False) cc))
    (hk : ∀ (s : Shared) (H : Hp) (C : Addr) (cl : List (Str × Addr)) (fp : List Addr), PE (X.blk s H scope (compEnvC scope cl C X.env) fp) kx (tE G Φ (fun _ _ _ _ => False) a))
    (he : ∀ (s : Shared) (H : Hp) (C : Addr) (cl : List (Str × Addr)) (fp : List Addr), PE (X.blk s H scope (compEnvC scope cl C X.env) fp) vx (tE G Φ (fun _ _ _ _ => False) b)) :
    PS X (.Assign [.Name y py] (.DictComp kx vx [⟨tg, iter, ifs, 0⟩] scope pos) spos) (tAsg (tE G Φ W (.dc a b t it cc vs)) (gName i)) := by
  have ok : BlkOk X.N X.env.scope scope (ownOf Γ.N vs) := by rw [c.N, c.sc]; exact blkOk_by hb
  refine PS.imp (sets_dc (dl := i) c.calm (by rw [c.N]; exact c.nd) (by rw [c.N]; exact hy) (by rw [c.sc]; exact hyl) hsw hi ok hg hc hk he hit) ?_
  intro D σ H h
  have r := dc_read (G := G) (Φ := Φ) (W := W) (a := a) (b := b) (t := t) (it := it) (cc := cc) (vs := vs) hs σ H _ h
  rw [ho]
  exact r
theorem sw_trueD {kx vx : Expr} {gs : List Comprehension} {scope : Scope} {pos py : Pos} {y : Str} {l : Nat} {env : Env} (hk : env.scope.kind = .function) (hy : env.scope.names.lookup y = some .local) (hl : (py.line == pos.line) = true)
    (ha : (scope.names.any fun (n, k) => n == y && (k == .local || k == .cell)) = false) : swapsWith (.DictComp kx vx gs scope pos) (some (.Name y py)) l env = pure true := by
  have ky : env.kindOf y = some .local := hy
  have hb : env.blockKind = .function := by
    unfold Env.blockKind
    rw [hk]
    rfl
  unfold swapsWith
  simp only [hb, ky, ha, Expr.pos, hl]
  rfl
/-! list(range(..)) -/
theorem rg_rep {w : Wd} {i j : Int} {ds : List D} (h : rngD i j = some ds) : (-(2 ^ 62) ≤ i ∧ i < 2 ^ 62 ∧ -(2 ^ 62) ≤ j ∧ j < 2 ^ 62) ∧ ds.length = (j - i).toNat ∧ RepL G w ds (rgV i j) := by
  unfold rngD at h
  split at h
  · rename_i hb
    cases h
    refine ⟨hb, by simp, ?_⟩
    unfold rgV
    generalize (j - i).toNat = n
    have : ∀ l : List Nat, RepL G w (l.map fun k : Nat => D.int (i + (k : Int))) (l.map fun k : Nat => V.int (i + (k : Int))) := fun l => by
      induction l with
      | nil => exact RepL.nil
      | cons x l ih => exact RepL.cons rep_int ih
    exact this _
  · cases h
theorem s_lrg2 (c : Ctx G Γ k X W) {a b : Ex} {u y : Expr} {p p2 pos2 pos : Pos} (g1 : glB Γ.sc "list" = true) (b1 : Γ.bs.contains "list" = true) (g2 : glB Γ.sc "range" = true) (b2 : Γ.bs.contains "range" = true) (h1 : mE a Γ u = true) (h2 : mE b Γ y = true)
    (ha : PE X u (tE G Φ W a)) (hb : PE X y (tE G Φ W b)) : PE X (.Call (.Name "list" p) [.Call (.Name "range" p2) [u, y] [] pos2] [] pos) (tE G Φ W (.lrg2 a b)) := by
  refine PE.imp (pe_listRg c.calm (gl_of c g1) (mg_none c b1) (prg_2 (gl_of c g2) (mg_none c b2) ha hb (na := star_of (mE_plain h1) [y] _) (nb := star_of (mE_plain h2) [] _) (hp := mL_star (es := [b]) (Γ := Γ) (by simp [mL, h2]) pos2 X.env)) (star_of rfl [] _)) ?_
  rintro σ H Q ⟨w, σd, rfl, g, rs, hp⟩
  simp only [evE] at hp
  refine ⟨w, σd, rfl, g, rs, (Post.bind hp).mono fun d w1 x1 gg1 hh1 v1 r1 => ?_⟩
  refine ⟨w1, σd, rfl, gg1, rs.ext x1, (Post.bind hh1).mono fun e w2 x2 gg2 hh2 v2 r2 => ?_⟩
  split at hh2
  · rename_i i j
    split at hh2
    · rename_i ds hd
      split at hh2
      · rename_i hl
        simp only [Rep] at r1 r2
        obtain ⟨⟨q1, q2, q3, q4⟩, q5, q6⟩ := rg_rep (G := G) (w := w2) hd
        refine ⟨i, j, r1, r2, ⟨q1, q2, q3, q4, by rw [← q5]; rw [sizeLine_eq] at hl; omega⟩, fun q hq => ?_⟩
        exact hh2 _ (ext_new gg2 hq) (wok_new gg2 hq) rfl _ (rep_lst gg2 hq q6)
      · exact absurd hh2 fun z => z
    · exact absurd hh2 fun z => z
  · exact absurd hh2 fun z => z
theorem s_lrg1 (c : Ctx G Γ k X W) {b : Ex} {y : Expr} {p p2 pos2 pos : Pos} (g1 : glB Γ.sc "list" = true) (b1 : Γ.bs.contains "list" = true) (g2 : glB Γ.sc "range" = true) (b2 : Γ.bs.contains "range" = true) (h2 : mE b Γ y = true)
    (hb : PE X y (tE G Φ W b)) : PE X (.Call (.Name "list" p) [.Call (.Name "range" p2) [y] [] pos2] [] pos) (tE G Φ W (.lrg1 b)) := by
  refine PE.imp (pe_listRg c.calm (gl_of c g1) (mg_none c b1) (prg_1 (gl_of c g2) (mg_none c b2) hb (star_of (mE_plain h2) [] _)) (star_of rfl [] _)) ?_
  rintro σ H Q ⟨w, σd, rfl, g, rs, hp⟩
  simp only [evE] at hp
  refine ⟨w, σd, rfl, g, rs, (Post.bind hp).mono fun e w2 x2 gg2 hh2 v2 r2 => ?_⟩
  split at hh2
  · rename_i j
    split at hh2
    · rename_i ds hd
      split at hh2
      · rename_i hl
        simp only [Rep] at r2
        obtain ⟨⟨q1, q2, q3, q4⟩, q5, q6⟩ := rg_rep (G := G) (w := w2) hd
        refine ⟨j, r2, ⟨q1, q2, q3, q4, by rw [← q5]; rw [sizeLine_eq] at hl; omega⟩, fun q hq => ?_⟩
        exact hh2 _ (ext_new gg2 hq) (wok_new gg2 hq) rfl _ (rep_lst gg2 hq q6)
      · exact absurd hh2 fun z => z
    · exact absurd hh2 fun z => z
  · exact absurd hh2 fun z => z
theorem s_mrg1 (c : Ctx G Γ k X W) {b : Ex} {y : Expr} {p p2 pos2 pos : Pos} (g1 : glB Γ.sc "list" = true) (b1 : Γ.bs.contains "list" = true) (g2 : glB Γ.sc "range" = true) (b2 : Γ.bs.contains "range" = true) (h2 : mE b Γ y = true)
    (hb : PE X y (tE G Φ W b)) : PE X (.Call (.Name "list" p) [.Call (.Name "range" p2) [y] [] pos2] [] pos) (tE G Φ W (.mrg1 b)) := by
  refine PE.imp (pe_listRg c.calm (gl_of c g1) (mg_none c b1) (prg_1 (gl_of c g2) (mg_none c b2) hb (star_of (mE_plain h2) [] _)) (star_of rfl [] _)) ?_
  rintro σ H Q ⟨w, σd, rfl, g, rs, hp⟩
  simp only [evE] at hp
  refine ⟨w, σd, rfl, g, rs, (Post.bind hp).mono fun e w2 x2 gg2 hh2 v2 r2 => ?_⟩
  split at hh2
  · rename_i j
    split at hh2
    · rename_i ds hd
      split at hh2
      · rename_i hl
        simp only [Rep] at r2
        obtain ⟨⟨q1, q2, q3, q4⟩, q5, q6⟩ := rg_rep (G := G) (w := w2) hd
        refine ⟨j, r2, ⟨q1, q2, q3, q4, by rw [← q5]; rw [sizeLine_eq] at hl; omega⟩, fun q hq => ?_⟩
        have x2 := ext_alloc (m := .lst ds) (o := .lst (rgV 0 j)) gg2 hq
        refine hh2 (w2.alloc q (.lst ds) (.lst (rgV 0 j))) x2 (wok_alloc gg2 hq ⟨_, upd_same, RepL.ext x2 _ _ q6⟩) rfl (.ref q) ?_
        simp only [Rep]
        refine ⟨q, rfl, ?_⟩
        show (w2.as ++ [q])[w2.M.length]? = some q
        rw [← gg2.len, List.getElem?_append_right (Nat.le_refl _), Nat.sub_self]
        rfl
      · exact absurd hh2 fun z => z
    · exact absurd hh2 fun z => z
  · exact absurd hh2 fun z => z
end
end Ev
/-! Ev12: a matched text is worth what its expression is. -/
namespace Ev
open PySem L2
section
variable {G : Gb} {k : Nat}
theorem mI_plain {it : It} {Γ : Cn} {tg x : Expr} (h : mI it Γ tg x = true) : plainX x = true := by
  cases it with
  | seq e => exact mE_plain (by simpa only [mI] using h)
  | rng1 _ => cases x <;> first | rfl | (simp [mI] at h)
  | rng2 _ _ => cases x <;> first | rfl | (simp [mI] at h)
  | enu _ => cases x <;> first | rfl | (cases tg <;> simp [mI] at h)
  | zip _ _ => cases x <;> first | rfl | (cases tg <;> simp [mI] at h)
theorem eqS_eq {a b : Str} (h : eqS a b = true) : a = b := of_decide_eq_true h
theorem plain_true (c : Cx) : ∀ {e : Expr}, (match e with | .UnaryOp .Not _ _ => false | .BoolOp _ _ _ => false | .IfExp _ _ _ _ => false | .Compare _ _ _ _ => false | _ => true) = true →
    ∀ whole, isTrue e c.env whole = (do let v ← whole; standAt e.pos; holding [v] (truthy v)) := by
  intro e h whole
  cases e with
  | UnaryOp op x p => cases op <;> first | rfl | cases h
  | BoolOp _ _ _ => cases h
  | IfExp _ _ _ _ => cases h
  | Compare _ _ _ _ => cases h
  | _ => rfl
set_option maxHeartbeats 0 in
mutual
theorem sE : ∀ (x : Ex) (Γ : Cn) (X : Cx) (W : WX) (e : Expr), Ctx G Γ k X W → mE x Γ e = true → PE X e (tE G (evF Γ.P k) W x)
  | .var i, Γ, X, W, e, c, h => by
    cases e with
    | Name y p => simp only [mE] at h; exact s_var c h
    | _ => simp [mE] at h
  | .non, Γ, X, W, e, c, h => by
    cases e with
    | Constant v j p => cases v with
      | none => exact s_con pe_non (fun w => rep_non) fun σ M => by simp only [evE]
      | _ => simp [mE] at h
    | _ => simp [mE] at h
  | .bl b, Γ, X, W, e, c, h => by
    cases e with
    | Constant v j p => cases v with
      | bool b' =>
        have : b = b' := by simpa [mE] using h
        subst this
        exact s_con pe_bl (fun w => rep_bl) fun σ M => by simp only [evE]
      | _ => simp [mE] at h
    | _ => simp [mE] at h
  | .int i, Γ, X, W, e, c, h => by
    cases e with
    | Constant v j p => cases v with
      | int b' =>
        have : i = b' := by simpa [mE] using h
        subst this
        exact s_con pe_int (fun w => rep_int) fun σ M => by simp only [evE]
      | _ => simp [mE] at h
    | Name y q =>
        simp only [mE] at h
        exact s_glb c (v := GC.int _) h (fun w => rep_int) fun σ M => by simp only [evE]
    | _ => simp [mE] at h
  | .str s, Γ, X, W, e, c, h => by
    cases e with
    | Constant v j p => cases v with
      | str b' =>
        have : s = b' := eqS_eq (by simpa only [mE] using h)
        subst this
        exact s_con pe_str (fun w => rep_str) fun σ M => by simp only [evE]
      | _ => simp [mE] at h
    | Name y q =>
        simp only [mE] at h
        exact s_glb c (v := GC.str _) h (fun w => rep_str) fun σ M => by simp only [evE]
    | _ => simp [mE] at h
  | .bin o a b, Γ, X, W, e, c, h => by
    cases e with
    | BinOp x op y p =>
      simp only [mE, Bool.and_eq_true, decide_eq_true_eq] at h
      obtain ⟨⟨rfl, h1⟩, h2⟩ := h
      exact s_bin c (sE a Γ X W x c h1) (sE b Γ X W y c h2)
    | _ => simp [mE] at h
  | .cmp o a b, Γ, X, W, e, c, h => by
    cases e with
    | Compare x ops ys p =>
      match ops, ys, h with
      | [op], [y], h =>
        simp only [mE, Bool.and_eq_true, decide_eq_true_eq] at h
        obtain ⟨⟨rfl, h1⟩, h2⟩ := h
        exact s_cmp c (sE a Γ X W x c h1) (sE b Γ X W y c h2) (mE_plain h2)
      | [], _, h => simp [mE] at h
      | [_], [], h => simp [mE] at h
      | [_], _ :: _ :: _, h => simp [mE] at h
      | _ :: _ :: _, _, h => simp [mE] at h
    | _ => simp [mE] at h
  | .chn o q a b d, Γ, X, W, e, c, h => by
    cases e with
    | Compare x ops ys p =>
      match ops, ys, h with
      | [op, oq], [y, z], h =>
        simp only [mE, Bool.and_eq_true, decide_eq_true_eq] at h
        obtain ⟨⟨⟨⟨rfl, rfl⟩, h1⟩, h2⟩, h3⟩ := h
        exact s_chn c (sE a Γ X W x c h1) (sE b Γ X W y c h2) (sE d Γ X W z c h3) (mE_plain h3)
      | [], _, h => simp [mE] at h
      | [_], _, h => simp [mE] at h
      | [_, _], [], h => simp [mE] at h
      | [_, _], [_], h => simp [mE] at h
      | [_, _], _ :: _ :: _ :: _, h => simp [mE] at h
      | _ :: _ :: _ :: _, _, h => simp [mE] at h
    | _ => simp [mE] at h
  | .and a b, Γ, X, W, e, c, h => by
    cases e with
    | BoolOp op vs p =>
      match op, vs, h with
      | .And, [x, y], h =>
        simp only [mE, Bool.and_eq_true] at h
        exact s_and c (sE a Γ X W x c h.1) (pe_one (sE b Γ X W y c h.2))
      | .And, x :: y :: z :: rest, h =>
        simp only [mE, Bool.and_eq_true] at h
        exact s_and c (sE a Γ X W x c h.1) (sE b Γ X W _ c h.2)
      | .And, [], h => simp [mE] at h
      | .And, [_], h => simp [mE] at h
      | .Or, _, h => simp [mE] at h
    | _ => simp [mE] at h
  | .or a b, Γ, X, W, e, c, h => by
    cases e with
    | BoolOp op vs p =>
      match op, vs, h with
      | .Or, [x, y], h =>
        simp only [mE, Bool.and_eq_true] at h
        exact s_or c (sE a Γ X W x c h.1) (pe_one (sE b Γ X W y c h.2))
      | .Or, x :: y :: z :: rest, h =>
        simp only [mE, Bool.and_eq_true] at h
        exact s_or c (sE a Γ X W x c h.1) (sE b Γ X W _ c h.2)
      | .Or, [], h => simp [mE] at h
      | .Or, [_], h => simp [mE] at h
      | .And, _, h => simp [mE] at h
    | _ => simp [mE] at h
  | .not a, Γ, X, W, e, c, h => by
    cases e with
    | UnaryOp op x p => cases op with
      | Not => simp only [mE] at h; exact s_not (sB a Γ X W x c h).1 c (sE a Γ X W x c h)
      | _ => simp [mE] at h
    | _ => simp [mE] at h
  | .neg a, Γ, X, W, e, c, h => by
    cases e with
    | UnaryOp op x p => cases op with
      | USub => simp only [mE] at h; exact s_neg (sE a Γ X W x c h)
      | _ => simp [mE] at h
    | _ => simp [mE] at h
  | .ite t a b, Γ, X, W, e, c, h => by
    cases e with
    | IfExp z x y p =>
      simp only [mE, Bool.and_eq_true] at h
      exact s_ite (sB t Γ X W z c h.1.1).1 (sE a Γ X W x c h.1.2) (sE b Γ X W y c h.2)
    | _ => simp [mE] at h
  | .tup es, Γ, X, W, e, c, h => by
    cases e with
    | Tuple xs n p => simp only [mE] at h; exact s_tup (sL es Γ X W xs c h)
    | _ => simp [mE] at h
  | .stup a es, Γ, X, W, e, c, h => by
    cases e with
    | Tuple ys n p =>
      simp only [mE] at h
      split at h
      · simp only [Bool.and_eq_true] at h
        exact s_stup c (sE a Γ X W _ c h.1) (sL es Γ X W _ c h.2)
      · cases h
    | _ => simp [mE] at h
  | .lst es, Γ, X, W, e, c, h => by
    cases e with
    | List xs p => simp only [mE] at h; exact s_lst (sL es Γ X W xs c h)
    | _ => simp [mE] at h
  | .mls es, Γ, X, W, e, c, h => by
    cases e with
    | List xs p => simp only [mE] at h; exact s_mls (sL es Γ X W xs c h)
    | _ => simp [mE] at h
  | .ix a b, Γ, X, W, e, c, h => by
    cases e with
    | Subscript x y p =>
      have h' : mE a Γ x = true ∧ mE b Γ y = true := by
        cases y <;> simpa [mE] using h
      exact s_ix c (sE a Γ X W x c h'.1) (sE b Γ X W y c h'.2) (mE_plain h'.2)
    | _ => simp [mE] at h
  | .slc a lo hi, Γ, X, W, e, c, h => by
    cases e with
    | Subscript x y p => cases y with
      | Slice l u st p2 => cases st with
        | none =>
          simp only [mE, Bool.and_eq_true] at h
          exact s_slc c (sE a Γ X W x c h.1.1) (sO lo Γ X W l c h.1.2) (sO hi Γ X W u c h.2)
        | some _ => simp [mE] at h
      | _ => simp [mE] at h
    | _ => simp [mE] at h
  | .rev a, Γ, X, W, e, c, h => by
    cases e with
    | Subscript x y p =>
      simp only [mE, Bool.and_eq_true] at h
      obtain ⟨n, p1, p2, p3, rfl⟩ := isRev_of h.1
      exact s_rev c (sE a Γ X W x c h.2)
    | _ => simp [mE] at h
  | .call f es ks pm, Γ, X, W, e, c, h => by
    cases e with
    | Call fn args kws p => cases fn with
      | Name x q =>
        simp only [mE] at h
        split at h
        · rename_i d hd
          simp only [Bool.and_eq_true, decide_eq_true_eq] at h
          obtain ⟨⟨⟨⟨⟨⟨h1, h0⟩, h2⟩, h3⟩, h4⟩, h5⟩, h6⟩ := h
          exact s_call c hd (eqS_eq h1) h0 h2 h3 h4 h5 h6 (sL es Γ X W args c h4) (sK ks Γ X W kws c h5)
        · cases h
      | _ => simp [mE] at h
    | _ => simp [mE] at h
  | .bi b es, Γ, X, W, e, c, h => by
    cases e with
    | Call fn args kws p => cases fn with
      | Name x q => cases kws with
        | nil =>
          simp only [mE, Bool.and_eq_true] at h
          obtain ⟨⟨⟨⟨⟨h1, h2⟩, h3⟩, h4⟩, h5⟩, h6⟩ := h
          exact s_bi c (eqS_eq h1) h2 h3 h4 h5 (fun z => by rw [z] at h6; cases h6) (sL es Γ X W args c h5)
        | cons _ _ => simp [mE] at h
      | _ => simp [mE] at h
    | _ => simp [mE] at h
  | .fldE a f, Γ, X, W, e, c, h => by
    cases e with
    | Attribute x name p =>
      simp only [mE, Bool.and_eq_true] at h
      obtain ⟨⟨⟨h1, h2⟩, h3⟩, h4⟩ := h
      have e1 := eqS_eq h1
      subst e1
      exact s_fldE c (sE a Γ X W x c h3) h2 h4
    | _ => simp [mE] at h
  | .mcall m tbl o es, Γ, X, W, e, c, h => by
    cases e with
    | Call fn args kws p => cases fn with
      | Attribute y name q => cases kws with
        | nil =>
          simp only [mE, Bool.and_eq_true, decide_eq_true_eq] at h
          obtain ⟨⟨⟨⟨⟨⟨⟨h1, h2⟩, h3⟩, h4⟩, h5⟩, h6⟩, h7⟩, h8⟩ := h
          have e1 := eqS_eq h1
          subst e1
          refine s_mcall c h2 h4 (fun z => by rw [z] at h7; cases h7) h5 h6 (fun pr hpr => ?_) (sE o Γ X W y c h3) (sL es Γ X W args c h4)
          have h9 := List.all_eq_true.mp h8 pr hpr
          split at h9
          · rename_i cf d hc hd
            simp only [Bool.and_eq_true, decide_eq_true_eq] at h9
            exact ⟨cf, d, hc, hd, h9.1, h9.2⟩
          · cases h9
        | cons _ _ => simp [mE] at h
      | _ => simp [mE] at h
    | _ => simp [mE] at h
  | .new n f es, Γ, X, W, e, c, h => by
    cases e with
    | Call fn args kws p => cases fn with
      | Name x q => cases kws with
        | nil =>
          simp only [mE, Bool.and_eq_true] at h
          obtain ⟨⟨⟨⟨h1, h2⟩, h3⟩, h4⟩, h5⟩ := h
          split at h5
          · rename_i cf d hc hd
            simp only [Bool.and_eq_true, decide_eq_true_eq] at h5
            obtain ⟨⟨h6, h7⟩, h8⟩ := h5
            exact s_new c h1 h2 h3 (fun z => by rw [z] at h4; cases h4) hc (eqS_eq h6) h7 hd h8 (sL es Γ X W args c h3)
          · cases h5
        | cons _ _ => simp [mE] at h
      | _ => simp [mE] at h
    | _ => simp [mE] at h
  | .isc e' y subs, Γ, X, W, e, c, h => by
    cases e with
    | Call fn args kws p => cases fn with
      | Name x q =>
        match args, kws, h with
        | [a, b], [], h =>
          cases b with
          | Name z p2 =>
            simp only [mE, Bool.and_eq_true] at h
            obtain ⟨⟨⟨⟨⟨⟨⟨⟨⟨h1, h2⟩, h3⟩, h4⟩, h5⟩, h6⟩, h7⟩, h8⟩, h9⟩, h10⟩ := h
            have e1 := eqS_eq h1
            subst e1
            have e2 := eqS_eq h5
            subst e2
            exact s_isc c h2 h3 h4 h6 h7 h8 (sE e' Γ X W a c h8) h10 (fun z => by rw [z] at h9; cases h9)
          | _ => simp [mE] at h
        | [], _, h => simp [mE] at h
        | [_], _, h => simp [mE] at h
        | _ :: _ :: _ :: _, _, h => simp [mE] at h
        | [_, _], _ :: _, h => simp [mE] at h
      | _ => simp [mE] at h
    | _ => simp [mE] at h
  | .dc a b t it cc vs, Γ, X, W, e, c, h => by
    cases e with
    | DictComp kx vx gs scope p =>
      match gs, h with
      | [⟨tg, iter, ifs, as⟩], h =>
        simp only [mE, Bool.and_eq_true, decide_eq_true_eq] at h
        obtain ⟨⟨⟨⟨⟨⟨⟨⟨rfl, h1⟩, h2⟩, h3⟩, h4⟩, h5⟩, h6⟩, h7⟩, h8⟩ := h
        have hit : ∀ x, foldedSetIterable iter X.env x = pure x := folded_of (mI_plain h1) X.env
        exact s_dc c h2 h3 h5 hit (sI it Γ X W tg iter c h1) (fun s H C cl fp => sT t (Γ.blk scope) _ _ tg c.blk h4) (fun s H C cl fp => sC cc (Γ.blk scope) _ _ ifs c.blk h6)
          (fun s H C cl fp => sE a (Γ.blk scope) _ _ kx c.blk h7) (fun s H C cl fp => sE b (Γ.blk scope) _ _ vx c.blk h8)
      | [], h => simp [mE] at h
      | _ :: _ :: _, h => simp [mE] at h
    | _ => simp [mE] at h
  | .dix o e', Γ, X, W, e, c, h => by
    cases e with
    | Subscript x y p =>
      simp only [mE, Bool.and_eq_true] at h
      exact s_dix c (sE o Γ X W x c h.1) (sE e' Γ X W y c h.2) (mE_plain h.2)
    | _ => simp [mE] at h
  | .dgt o e', Γ, X, W, e, c, h => by
    cases e with
    | Call fn args kws p => cases fn with
      | Attribute y name q =>
        match args, kws, h with
        | [a], [], h =>
          simp only [mE, Bool.and_eq_true] at h
          obtain ⟨⟨⟨⟨h1, h2⟩, h3⟩, h4⟩, h5⟩ := h
          have e1 := eqS_eq h1
          subst e1
          exact s_dgt c h2 h4 h5 (sE o Γ X W y c h3) (sE e' Γ X W a c h4)
        | [], _, h => simp [mE] at h
        | _ :: _ :: _, _, h => simp [mE] at h
        | [_], _ :: _, h => simp [mE] at h
      | _ => simp [mE] at h
    | _ => simp [mE] at h
  | .lrg1 b, Γ, X, W, e, c, h => by
    cases e with
    | Call fn args kws p => cases fn with
      | Name x q =>
        match args, kws, h with
        | [a], [], h =>
          cases a with
          | Call fn2 args2 kws2 p2 => cases fn2 with
            | Name z q2 =>
              match args2, kws2, h with
              | [y], [], h =>
                simp only [mE, Bool.and_eq_true] at h
                obtain ⟨⟨⟨⟨⟨⟨⟨⟨h1, h2⟩, h3⟩, h4⟩, h5⟩, h6⟩, h7⟩, h8⟩, h9⟩ := h
                have e1 := eqS_eq h1
                subst e1
                have e2 := eqS_eq h5
                subst e2
                exact s_lrg1 c h2 h4 h6 h8 h9 (sE b Γ X W y c h9)
              | [], _, h => simp [mE] at h
              | _ :: _ :: _, _, h => simp [mE] at h
              | [_], _ :: _, h => simp [mE] at h
            | _ => simp [mE] at h
          | _ => simp [mE] at h
        | [], _, h => simp [mE] at h
        | _ :: _ :: _, _, h => simp [mE] at h
        | [_], _ :: _, h => simp [mE] at h
      | _ => simp [mE] at h
    | _ => simp [mE] at h
  | .mrg1 b, Γ, X, W, e, c, h => by
    cases e with
    | Call fn args kws p => cases fn with
      | Name x q =>
        match args, kws, h with
        | [a], [], h =>
          cases a with
          | Call fn2 args2 kws2 p2 => cases fn2 with
            | Name z q2 =>
              match args2, kws2, h with
              | [y], [], h =>
                simp only [mE, Bool.and_eq_true] at h
                obtain ⟨⟨⟨⟨⟨⟨⟨⟨h1, h2⟩, h3⟩, h4⟩, h5⟩, h6⟩, h7⟩, h8⟩, h9⟩ := h
                have e1 := eqS_eq h1
                subst e1
                have e2 := eqS_eq h5
                subst e2
                exact s_mrg1 c h2 h4 h6 h8 h9 (sE b Γ X W y c h9)
              | [], _, h => simp [mE] at h
              | _ :: _ :: _, _, h => simp [mE] at h
              | [_], _ :: _, h => simp [mE] at h
            | _ => simp [mE] at h
          | _ => simp [mE] at h
        | [], _, h => simp [mE] at h
        | _ :: _ :: _, _, h => simp [mE] at h
        | [_], _ :: _, h => simp [mE] at h
      | _ => simp [mE] at h
    | _ => simp [mE] at h
  | .lrg2 a b, Γ, X, W, e, c, h => by
    cases e with
    | Call fn args kws p => cases fn with
      | Name x q =>
        match args, kws, h with
        | [a'], [], h =>
          cases a' with
          | Call fn2 args2 kws2 p2 => cases fn2 with
            | Name z q2 =>
              match args2, kws2, h with
              | [u, y], [], h =>
                simp only [mE, Bool.and_eq_true] at h
                obtain ⟨⟨⟨⟨⟨⟨⟨⟨⟨h1, h2⟩, h3⟩, h4⟩, h5⟩, h6⟩, h7⟩, h8⟩, h9⟩, h10⟩ := h
                have e1 := eqS_eq h1
                subst e1
                have e2 := eqS_eq h5
                subst e2
                exact s_lrg2 c h2 h4 h6 h8 h9 h10 (sE a Γ X W u c h9) (sE b Γ X W y c h10)
              | [], _, h => simp [mE] at h
              | [_], _, h => simp [mE] at h
              | _ :: _ :: _ :: _, _, h => simp [mE] at h
              | [_, _], _ :: _, h => simp [mE] at h
            | _ => simp [mE] at h
          | _ => simp [mE] at h
        | [], _, h => simp [mE] at h
        | _ :: _ :: _, _, h => simp [mE] at h
        | [_], _ :: _, h => simp [mE] at h
      | _ => simp [mE] at h
    | _ => simp [mE] at h
  | .dct0, Γ, X, W, e, c, h => by
    cases e with
    | Dict ks vs p =>
      cases ks with
      | nil => cases vs with
        | nil => exact s_dct0
        | cons _ _ => simp [mE] at h
      | cons _ _ => simp [mE] at h
    | _ => simp [mE] at h
  | .dct1 a b, Γ, X, W, e, c, h => by
    cases e with
    | Dict ks vs p =>
      match ks, vs, h with
      | [some x], [y], h =>
        simp only [mE, Bool.and_eq_true] at h
        obtain ⟨⟨⟨h1, h2⟩, h3⟩, h4⟩ := h
        exact (s_dct1 c h1 h2 h3 h4)
      | [], _, h => simp [mE] at h
      | none :: _, _, h => simp [mE] at h
      | some _ :: _ :: _, _, h => simp [mE] at h
      | [some _], [], h => simp [mE] at h
      | [some _], _ :: _ :: _, h => simp [mE] at h
    | _ => simp [mE] at h
  | .mbl e', Γ, X, W, e, c, h => by
    cases e with
    | Call fn args kws p => cases fn with
      | Name x q =>
        match args, kws, h with
        | [a], [], h =>
          simp only [mE, Bool.and_eq_true] at h
          obtain ⟨⟨⟨⟨h1, h2⟩, h3⟩, h4⟩, h5⟩ := h
          exact s_mbl c (eqS_eq h1) h2 h3 h4 h5 (sE e' Γ X W a c h5)
        | [], _, h => simp [mE] at h
        | _ :: _ :: _, _, h => simp [mE] at h
        | [_], _ :: _, h => simp [mE] at h
      | _ => simp [mE] at h
    | _ => simp [mE] at h
  | .isi a ts, Γ, X, W, e, c, h => by
    cases e with
    | Call fn args kws p => cases fn with
      | Name x q =>
        match args, kws, h with
        | [y, cl], [], h =>
          simp only [mE, Bool.and_eq_true] at h
          obtain ⟨⟨⟨⟨⟨⟨h1, h2⟩, h3⟩, h4⟩, h5⟩, h6⟩, h7⟩ := h
          exact s_isi c (eqS_eq h1) h2 h3 h4 (fun t ht => List.all_eq_true.mp h7 t ht) h6 (mE_plain h5) (sE a Γ X W y c h5)
        | [], _, h => simp [mE] at h
        | [_], _, h => simp [mE] at h
        | _ :: _ :: _ :: _, _, h => simp [mE] at h
        | [_, _], _ :: _, h => simp [mE] at h
      | _ => simp [mE] at h
    | _ => simp [mE] at h
  | .meth m o es, Γ, X, W, e, c, h => by
    cases e with
    | Call fn args kws p => cases fn with
      | Attribute y name q => cases kws with
        | nil =>
          simp only [mE, Bool.and_eq_true, decide_eq_true_eq] at h
          obtain ⟨⟨⟨⟨⟨⟨h1, h2⟩, h3⟩, h4⟩, h5⟩, h6⟩, h7⟩ := h
          rw [eqS_eq h1]
          exact s_meth c h2 h4 (fun z => by rw [z] at h5; cases h5) h6 h7 (sE o Γ X W y c h3) (sL es Γ X W args c h4)
        | cons _ _ => simp [mE] at h
      | _ => simp [mE] at h
    | _ => simp [mE] at h
  | .lc a t it cc vs, Γ, X, W, e, c, h => by
    cases e with
    | ListComp elt gs scope p =>
      match gs, h with
      | [⟨tg, iter, ifs, as⟩], h =>
        simp only [mE, Bool.and_eq_true, decide_eq_true_eq] at h
        obtain ⟨⟨⟨⟨⟨⟨⟨rfl, h1⟩, h2⟩, h3⟩, h4⟩, h5⟩, h6⟩, h7⟩ := h
        have hit : ∀ x, foldedSetIterable iter X.env x = pure x := folded_of (mI_plain h1) X.env
        exact s_lc c h2 h3 h5 hit (sI it Γ X W tg iter c h1) (fun s H C cl fp => sT t (Γ.blk scope) _ _ tg c.blk h4) (fun s H C cl fp => sC cc (Γ.blk scope) _ _ ifs c.blk h6)
          (fun s H C cl fp => sE a (Γ.blk scope) _ _ elt c.blk h7)
      | [], h => simp [mE] at h
      | _ :: _ :: _, h => simp [mE] at h
    | _ => simp [mE] at h
  | .lc2 a t it cc t1 it1 cc1 vs vs1, Γ, X, W, e, c, h => by
    cases e with
    | ListComp elt gs scope p =>
      match gs, h with
      | [⟨tg, iter, ifs, as⟩, ⟨tg1, iter1, ifs1, as1⟩], h =>
        simp only [mE, Bool.and_eq_true, decide_eq_true_eq] at h
        obtain ⟨⟨⟨⟨⟨⟨⟨⟨⟨⟨⟨⟨⟨rfl, rfl⟩, h1⟩, h2⟩, h3⟩, h4⟩, h5⟩, h6⟩, h7⟩, h8⟩, h9⟩, h10⟩, h11⟩, h12⟩ := h
        have hit : ∀ x, foldedSetIterable iter X.env x = pure x := folded_of (mI_plain h1) X.env
        exact s_lc2 c h2 h3 h5 h9 h10 hit (fun env => folded_of (mI_plain h7) env) (sI it Γ X W tg iter c h1) (fun s H C cl fp => sT t (Γ.blk scope) _ _ tg c.blk h4) (fun s H C cl fp => sC cc (Γ.blk scope) _ _ ifs c.blk h6)
          (fun s H C cl fp => sI it1 (Γ.blk scope) _ _ tg1 iter1 c.blk h7) (fun s H C cl fp => sT t1 (Γ.blk scope) _ _ tg1 c.blk h8) (fun s H C cl fp => sC cc1 (Γ.blk scope) _ _ ifs1 c.blk h11) (fun s H C cl fp => sE a (Γ.blk scope) _ _ elt c.blk h12)
      | [], h => simp [mE] at h
      | [_], h => simp [mE] at h
      | _ :: _ :: _ :: _, h => simp [mE] at h
    | _ => simp [mE] at h
  | .frz i, Γ, X, W, e, c, h => by
    cases e with
    | Name y p => simp only [mE] at h; exact s_frz c h
    | _ => simp [mE] at h
theorem sB : ∀ (x : Ex) (Γ : Cn) (X : Cx) (W : WX) (e : Expr), Ctx G Γ k X W → mE x Γ e = true → PT X e (tB' G (evF Γ.P k) W x) ∧ ∀ op vs p, e = .BoolOp op vs p → PW X e (tB' G (evF Γ.P k) W x)
  | .and a b, Γ, X, W, e, c, h => by
    cases e with
    | BoolOp op vs p =>
      match op, vs, h with
      | .And, [x, y], h =>
        simp only [mE, Bool.and_eq_true] at h
        have r := w_and (pos := p) (sB a Γ X W x c h.1).1 (pw_and1 (pos := p) (sB b Γ X W y c h.2).1)
        exact ⟨r.pt, fun _ _ _ _ => r⟩
      | .And, x :: y :: z :: rest, h =>
        simp only [mE, Bool.and_eq_true] at h
        have r := w_and (pos := p) (sB a Γ X W x c h.1).1 ((sB b Γ X W _ c h.2).2 _ _ _ rfl)
        exact ⟨r.pt, fun _ _ _ _ => r⟩
      | .And, [], h => simp [mE] at h
      | .And, [_], h => simp [mE] at h
      | .Or, _, h => simp [mE] at h
    | _ => simp [mE] at h
  | .or a b, Γ, X, W, e, c, h => by
    cases e with
    | BoolOp op vs p =>
      match op, vs, h with
      | .Or, [x, y], h =>
        simp only [mE, Bool.and_eq_true] at h
        have r := w_or (pos := p) (sB a Γ X W x c h.1).1 (pw_or1 (pos := p) (sB b Γ X W y c h.2).1)
        exact ⟨r.pt, fun _ _ _ _ => r⟩
      | .Or, x :: y :: z :: rest, h =>
        simp only [mE, Bool.and_eq_true] at h
        have r := w_or (pos := p) (sB a Γ X W x c h.1).1 ((sB b Γ X W _ c h.2).2 _ _ _ rfl)
        exact ⟨r.pt, fun _ _ _ _ => r⟩
      | .Or, [], h => simp [mE] at h
      | .Or, [_], h => simp [mE] at h
      | .And, _, h => simp [mE] at h
    | _ => simp [mE] at h
  | .not a, Γ, X, W, e, c, h => by
    cases e with
    | UnaryOp op x p => cases op with
      | Not => simp only [mE] at h; exact ⟨t_not (sB a Γ X W x c h).1, fun _ _ _ z => by cases z⟩
      | _ => simp [mE] at h
    | _ => simp [mE] at h
  | .ite t a b, Γ, X, W, e, c, h => by
    cases e with
    | IfExp z x y p =>
      simp only [mE, Bool.and_eq_true] at h
      exact ⟨t_ite (sB t Γ X W z c h.1.1).1 (sB a Γ X W x c h.1.2).1 (sB b Γ X W y c h.2).1, fun _ _ _ z => by cases z⟩
    | _ => simp [mE] at h
  | .cmp o a b, Γ, X, W, e, c, h => by
    cases e with
    | Compare x ops ys p =>
      match ops, ys, h with
      | [op], [y], h =>
        simp only [mE, Bool.and_eq_true, decide_eq_true_eq] at h
        obtain ⟨⟨rfl, h1⟩, h2⟩ := h
        exact ⟨t_cmp c (sE a Γ X W x c h1) (sE b Γ X W y c h2) (mE_plain h2), fun _ _ _ z => by cases z⟩
      | [], _, h => simp [mE] at h
      | [_], [], h => simp [mE] at h
      | [_], _ :: _ :: _, h => simp [mE] at h
      | _ :: _ :: _, _, h => simp [mE] at h
    | _ => simp [mE] at h
  | .chn o q a b d, Γ, X, W, e, c, h => by
    cases e with
    | Compare x ops ys p =>
      match ops, ys, h with
      | [op, oq], [y, z], h =>
        simp only [mE, Bool.and_eq_true, decide_eq_true_eq] at h
        obtain ⟨⟨⟨⟨rfl, rfl⟩, h1⟩, h2⟩, h3⟩ := h
        exact ⟨t_chn c (sE a Γ X W x c h1) (sE b Γ X W y c h2) (sE d Γ X W z c h3) (mE_plain h3), fun _ _ _ z => by cases z⟩
      | [], _, h => simp [mE] at h
      | [_], _, h => simp [mE] at h
      | [_, _], [], h => simp [mE] at h
      | [_, _], [_], h => simp [mE] at h
      | [_, _], _ :: _ :: _ :: _, h => simp [mE] at h
      | _ :: _ :: _ :: _, _, h => simp [mE] at h
    | _ => simp [mE] at h
  | .var i, Γ, X, W, e, c, h => by
    cases e with
    | Name y p => simp only [mE] at h; exact ⟨t_plain c (s_var c h) fun _ => rfl, fun _ _ _ z => by cases z⟩
    | _ => simp [mE] at h
  | .lc2 a t it cc t1 it1 cc1 vs vs1, Γ, X, W, e, c, h => by
    cases e with
    | ListComp elt gs scope p =>
      match gs, h with
      | [⟨tg, iter, ifs, as⟩, ⟨tg1, iter1, ifs1, as1⟩], h =>
        simp only [mE, Bool.and_eq_true, decide_eq_true_eq] at h
        obtain ⟨⟨⟨⟨⟨⟨⟨⟨⟨⟨⟨⟨⟨rfl, rfl⟩, h1⟩, h2⟩, h3⟩, h4⟩, h5⟩, h6⟩, h7⟩, h8⟩, h9⟩, h10⟩, h11⟩, h12⟩ := h
        have hit : ∀ x, foldedSetIterable iter X.env x = pure x := folded_of (mI_plain h1) X.env
        exact ⟨t_plain c (s_lc2 c h2 h3 h5 h9 h10 hit (fun env => folded_of (mI_plain h7) env) (sI it Γ X W tg iter c h1) (fun s H C cl fp => sT t (Γ.blk scope) _ _ tg c.blk h4) (fun s H C cl fp => sC cc (Γ.blk scope) _ _ ifs c.blk h6)
          (fun s H C cl fp => sI it1 (Γ.blk scope) _ _ tg1 iter1 c.blk h7) (fun s H C cl fp => sT t1 (Γ.blk scope) _ _ tg1 c.blk h8) (fun s H C cl fp => sC cc1 (Γ.blk scope) _ _ ifs1 c.blk h11) (fun s H C cl fp => sE a (Γ.blk scope) _ _ elt c.blk h12)) fun _ => rfl, fun _ _ _ z => by cases z⟩
      | [], h => simp [mE] at h
      | [_], h => simp [mE] at h
      | _ :: _ :: _ :: _, h => simp [mE] at h
    | _ => simp [mE] at h
  | .frz i, Γ, X, W, e, c, h => by
    cases e with
    | Name y p => simp only [mE] at h; exact ⟨t_plain c (s_frz c h) fun _ => rfl, fun _ _ _ z => by cases z⟩
    | _ => simp [mE] at h
  | .non, Γ, X, W, e, c, h => by
    cases e with
    | Constant v j p => cases v with
      | none => exact ⟨t_plain c (s_con pe_non (fun w => rep_non) fun σ M => by simp only [evE]) fun _ => rfl, fun _ _ _ z => by cases z⟩
      | _ => simp [mE] at h
    | _ => simp [mE] at h
  | .bl b, Γ, X, W, e, c, h => by
    cases e with
    | Constant v j p => cases v with
      | bool b' =>
        have : b = b' := by simpa [mE] using h
        subst this
        exact ⟨t_plain c (s_con pe_bl (fun w => rep_bl) fun σ M => by simp only [evE]) fun _ => rfl, fun _ _ _ z => by cases z⟩
      | _ => simp [mE] at h
    | _ => simp [mE] at h
  | .int i, Γ, X, W, e, c, h => by
    cases e with
    | Constant v j p => cases v with
      | int b' =>
        have : i = b' := by simpa [mE] using h
        subst this
        exact ⟨t_plain c (s_con pe_int (fun w => rep_int) fun σ M => by simp only [evE]) fun _ => rfl, fun _ _ _ z => by cases z⟩
      | _ => simp [mE] at h
    | Name y q =>
        simp only [mE] at h
        exact ⟨t_plain c (s_glb c (v := GC.int _) h (fun w => rep_int) fun σ M => by simp only [evE]) fun _ => rfl, fun _ _ _ z => by cases z⟩
    | _ => simp [mE] at h
  | .str s, Γ, X, W, e, c, h => by
    cases e with
    | Constant v j p => cases v with
      | str b' =>
        have : s = b' := eqS_eq (by simpa only [mE] using h)
        subst this
        exact ⟨t_plain c (s_con pe_str (fun w => rep_str) fun σ M => by simp only [evE]) fun _ => rfl, fun _ _ _ z => by cases z⟩
      | _ => simp [mE] at h
    | Name y q =>
        simp only [mE] at h
        exact ⟨t_plain c (s_glb c (v := GC.str _) h (fun w => rep_str) fun σ M => by simp only [evE]) fun _ => rfl, fun _ _ _ z => by cases z⟩
    | _ => simp [mE] at h
  | .bin o a b, Γ, X, W, e, c, h => by
    cases e with
    | BinOp x op y p =>
      simp only [mE, Bool.and_eq_true, decide_eq_true_eq] at h
      obtain ⟨⟨rfl, h1⟩, h2⟩ := h
      exact ⟨t_plain c (s_bin c (sE a Γ X W x c h1) (sE b Γ X W y c h2)) fun _ => rfl, fun _ _ _ z => by cases z⟩
    | _ => simp [mE] at h
  | .neg a, Γ, X, W, e, c, h => by
    cases e with
    | UnaryOp op x p => cases op with
      | USub => simp only [mE] at h; exact ⟨t_plain c (s_neg (sE a Γ X W x c h)) fun _ => rfl, fun _ _ _ z => by cases z⟩
      | _ => simp [mE] at h
    | _ => simp [mE] at h
  | .tup es, Γ, X, W, e, c, h => by
    cases e with
    | Tuple xs n p => simp only [mE] at h; exact ⟨t_plain c (s_tup (sL es Γ X W xs c h)) fun _ => rfl, fun _ _ _ z => by cases z⟩
    | _ => simp [mE] at h
  | .stup a es, Γ, X, W, e, c, h => by
    cases e with
    | Tuple ys n p =>
      simp only [mE] at h
      split at h
      · simp only [Bool.and_eq_true] at h
        exact ⟨t_plain c (s_stup c (sE a Γ X W _ c h.1) (sL es Γ X W _ c h.2)) fun _ => rfl, fun _ _ _ z => by cases z⟩
      · cases h
    | _ => simp [mE] at h
  | .lst es, Γ, X, W, e, c, h => by
    cases e with
    | List xs p => simp only [mE] at h; exact ⟨t_plain c (s_lst (sL es Γ X W xs c h)) fun _ => rfl, fun _ _ _ z => by cases z⟩
    | _ => simp [mE] at h
  | .mls es, Γ, X, W, e, c, h => by
    cases e with
    | List xs p => simp only [mE] at h; exact ⟨t_plain c (s_mls (sL es Γ X W xs c h)) fun _ => rfl, fun _ _ _ z => by cases z⟩
    | _ => simp [mE] at h
  | .ix a b, Γ, X, W, e, c, h => by
    cases e with
    | Subscript x y p =>
      have h' : mE a Γ x = true ∧ mE b Γ y = true := by
        cases y <;> simpa [mE] using h
      exact ⟨t_plain c (s_ix c (sE a Γ X W x c h'.1) (sE b Γ X W y c h'.2) (mE_plain h'.2)) fun _ => rfl, fun _ _ _ z => by cases z⟩
    | _ => simp [mE] at h
  | .slc a lo hi, Γ, X, W, e, c, h => by
    cases e with
    | Subscript x y p => cases y with
      | Slice l u st p2 => cases st with
        | none =>
          simp only [mE, Bool.and_eq_true] at h
          exact ⟨t_plain c (s_slc c (sE a Γ X W x c h.1.1) (sO lo Γ X W l c h.1.2) (sO hi Γ X W u c h.2)) fun _ => rfl, fun _ _ _ z => by cases z⟩
        | some _ => simp [mE] at h
      | _ => simp [mE] at h
    | _ => simp [mE] at h
  | .rev a, Γ, X, W, e, c, h => by
    cases e with
    | Subscript x y p =>
      simp only [mE, Bool.and_eq_true] at h
      obtain ⟨n, p1, p2, p3, rfl⟩ := isRev_of h.1
      exact ⟨t_plain c (s_rev c (sE a Γ X W x c h.2)) fun _ => rfl, fun _ _ _ z => by cases z⟩
    | _ => simp [mE] at h
  | .call f es ks pm, Γ, X, W, e, c, h => by
    cases e with
    | Call fn args kws p => cases fn with
      | Name x q =>
        simp only [mE] at h
        split at h
        · rename_i d hd
          simp only [Bool.and_eq_true, decide_eq_true_eq] at h
          obtain ⟨⟨⟨⟨⟨⟨h1, h0⟩, h2⟩, h3⟩, h4⟩, h5⟩, h6⟩ := h
          exact ⟨t_plain c (s_call c hd (eqS_eq h1) h0 h2 h3 h4 h5 h6 (sL es Γ X W args c h4) (sK ks Γ X W kws c h5)) fun _ => rfl, fun _ _ _ z => by cases z⟩
        · cases h
      | _ => simp [mE] at h
    | _ => simp [mE] at h
  | .bi b es, Γ, X, W, e, c, h => by
    cases e with
    | Call fn args kws p => cases fn with
      | Name x q => cases kws with
        | nil =>
          simp only [mE, Bool.and_eq_true] at h
          obtain ⟨⟨⟨⟨⟨h1, h2⟩, h3⟩, h4⟩, h5⟩, h6⟩ := h
          exact ⟨t_plain c (s_bi c (eqS_eq h1) h2 h3 h4 h5 (fun z => by rw [z] at h6; cases h6) (sL es Γ X W args c h5)) fun _ => rfl, fun _ _ _ z => by cases z⟩
        | cons _ _ => simp [mE] at h
      | _ => simp [mE] at h
    | _ => simp [mE] at h
  | .fldE a f, Γ, X, W, e, c, h => by
    cases e with
    | Attribute x name p =>
      simp only [mE, Bool.and_eq_true] at h
      obtain ⟨⟨⟨h1, h2⟩, h3⟩, h4⟩ := h
      have e1 := eqS_eq h1
      subst e1
      exact ⟨t_plain c (s_fldE c (sE a Γ X W x c h3) h2 h4) fun _ => rfl, fun _ _ _ z => by cases z⟩
    | _ => simp [mE] at h
  | .mcall m tbl o es, Γ, X, W, e, c, h => by
    cases e with
    | Call fn args kws p => cases fn with
      | Attribute y name q => cases kws with
        | nil =>
          simp only [mE, Bool.and_eq_true, decide_eq_true_eq] at h
          obtain ⟨⟨⟨⟨⟨⟨⟨h1, h2⟩, h3⟩, h4⟩, h5⟩, h6⟩, h7⟩, h8⟩ := h
          have e1 := eqS_eq h1
          subst e1
          refine ⟨t_plain c (s_mcall c h2 h4 (fun z => by rw [z] at h7; cases h7) h5 h6 (fun pr hpr => ?_) (sE o Γ X W y c h3) (sL es Γ X W args c h4)) fun _ => rfl, fun _ _ _ z => by cases z⟩
          have h9 := List.all_eq_true.mp h8 pr hpr
          split at h9
          · rename_i cf d hc hd
            simp only [Bool.and_eq_true, decide_eq_true_eq] at h9
            exact ⟨cf, d, hc, hd, h9.1, h9.2⟩
          · cases h9
        | cons _ _ => simp [mE] at h
      | _ => simp [mE] at h
    | _ => simp [mE] at h
  | .new n f es, Γ, X, W, e, c, h => by
    cases e with
    | Call fn args kws p => cases fn with
      | Name x q => cases kws with
        | nil =>
          simp only [mE, Bool.and_eq_true] at h
          obtain ⟨⟨⟨⟨h1, h2⟩, h3⟩, h4⟩, h5⟩ := h
          split at h5
          · rename_i cf d hc hd
            simp only [Bool.and_eq_true, decide_eq_true_eq] at h5
            obtain ⟨⟨h6, h7⟩, h8⟩ := h5
            exact ⟨t_plain c (s_new c h1 h2 h3 (fun z => by rw [z] at h4; cases h4) hc (eqS_eq h6) h7 hd h8 (sL es Γ X W args c h3)) fun _ => rfl, fun _ _ _ z => by cases z⟩
          · cases h5
        | cons _ _ => simp [mE] at h
      | _ => simp [mE] at h
    | _ => simp [mE] at h
  | .isc e' y subs, Γ, X, W, e, c, h => by
    cases e with
    | Call fn args kws p => cases fn with
      | Name x q =>
        match args, kws, h with
        | [a, b], [], h =>
          cases b with
          | Name z p2 =>
            simp only [mE, Bool.and_eq_true] at h
            obtain ⟨⟨⟨⟨⟨⟨⟨⟨⟨h1, h2⟩, h3⟩, h4⟩, h5⟩, h6⟩, h7⟩, h8⟩, h9⟩, h10⟩ := h
            have e1 := eqS_eq h1
            subst e1
            have e2 := eqS_eq h5
            subst e2
            exact ⟨t_plain c (s_isc c h2 h3 h4 h6 h7 h8 (sE e' Γ X W a c h8) h10 (fun z => by rw [z] at h9; cases h9)) fun _ => rfl, fun _ _ _ z => by cases z⟩
          | _ => simp [mE] at h
        | [], _, h => simp [mE] at h
        | [_], _, h => simp [mE] at h
        | _ :: _ :: _ :: _, _, h => simp [mE] at h
        | [_, _], _ :: _, h => simp [mE] at h
      | _ => simp [mE] at h
    | _ => simp [mE] at h
  | .dc a b t it cc vs, Γ, X, W, e, c, h => by
    cases e with
    | DictComp kx vx gs scope p =>
      match gs, h with
      | [⟨tg, iter, ifs, as⟩], h =>
        simp only [mE, Bool.and_eq_true, decide_eq_true_eq] at h
        obtain ⟨⟨⟨⟨⟨⟨⟨⟨rfl, h1⟩, h2⟩, h3⟩, h4⟩, h5⟩, h6⟩, h7⟩, h8⟩ := h
        have hit : ∀ x, foldedSetIterable iter X.env x = pure x := folded_of (mI_plain h1) X.env
        exact ⟨t_plain c (s_dc c h2 h3 h5 hit (sI it Γ X W tg iter c h1) (fun s H C cl fp => sT t (Γ.blk scope) _ _ tg c.blk h4) (fun s H C cl fp => sC cc (Γ.blk scope) _ _ ifs c.blk h6)
          (fun s H C cl fp => sE a (Γ.blk scope) _ _ kx c.blk h7) (fun s H C cl fp => sE b (Γ.blk scope) _ _ vx c.blk h8)) fun _ => rfl, fun _ _ _ z => by cases z⟩
      | [], h => simp [mE] at h
      | _ :: _ :: _, h => simp [mE] at h
    | _ => simp [mE] at h
  | .dix o e', Γ, X, W, e, c, h => by
    cases e with
    | Subscript x y p =>
      simp only [mE, Bool.and_eq_true] at h
      exact ⟨t_plain c (s_dix c (sE o Γ X W x c h.1) (sE e' Γ X W y c h.2) (mE_plain h.2)) fun _ => rfl, fun _ _ _ z => by cases z⟩
    | _ => simp [mE] at h
  | .dgt o e', Γ, X, W, e, c, h => by
    cases e with
    | Call fn args kws p => cases fn with
      | Attribute y name q =>
        match args, kws, h with
        | [a], [], h =>
          simp only [mE, Bool.and_eq_true] at h
          obtain ⟨⟨⟨⟨h1, h2⟩, h3⟩, h4⟩, h5⟩ := h
          have e1 := eqS_eq h1
          subst e1
          exact ⟨t_plain c (s_dgt c h2 h4 h5 (sE o Γ X W y c h3) (sE e' Γ X W a c h4)) fun _ => rfl, fun _ _ _ z => by cases z⟩
        | [], _, h => simp [mE] at h
        | _ :: _ :: _, _, h => simp [mE] at h
        | [_], _ :: _, h => simp [mE] at h
      | _ => simp [mE] at h
    | _ => simp [mE] at h
  | .lrg1 b, Γ, X, W, e, c, h => by
    cases e with
    | Call fn args kws p => cases fn with
      | Name x q =>
        match args, kws, h with
        | [a], [], h =>
          cases a with
          | Call fn2 args2 kws2 p2 => cases fn2 with
            | Name z q2 =>
              match args2, kws2, h with
              | [y], [], h =>
                simp only [mE, Bool.and_eq_true] at h
                obtain ⟨⟨⟨⟨⟨⟨⟨⟨h1, h2⟩, h3⟩, h4⟩, h5⟩, h6⟩, h7⟩, h8⟩, h9⟩ := h
                have e1 := eqS_eq h1
                subst e1
                have e2 := eqS_eq h5
                subst e2
                exact ⟨t_plain c (s_lrg1 c h2 h4 h6 h8 h9 (sE b Γ X W y c h9)) fun _ => rfl, fun _ _ _ z => by cases z⟩
              | [], _, h => simp [mE] at h
              | _ :: _ :: _, _, h => simp [mE] at h
              | [_], _ :: _, h => simp [mE] at h
            | _ => simp [mE] at h
          | _ => simp [mE] at h
        | [], _, h => simp [mE] at h
        | _ :: _ :: _, _, h => simp [mE] at h
        | [_], _ :: _, h => simp [mE] at h
      | _ => simp [mE] at h
    | _ => simp [mE] at h
  | .mrg1 b, Γ, X, W, e, c, h => by
    cases e with
    | Call fn args kws p => cases fn with
      | Name x q =>
        match args, kws, h with
        | [a], [], h =>
          cases a with
          | Call fn2 args2 kws2 p2 => cases fn2 with
            | Name z q2 =>
              match args2, kws2, h with
              | [y], [], h =>
                simp only [mE, Bool.and_eq_true] at h
                obtain ⟨⟨⟨⟨⟨⟨⟨⟨h1, h2⟩, h3⟩, h4⟩, h5⟩, h6⟩, h7⟩, h8⟩, h9⟩ := h
                have e1 := eqS_eq h1
                subst e1
                have e2 := eqS_eq h5
                subst e2
                exact ⟨t_plain c (s_mrg1 c h2 h4 h6 h8 h9 (sE b Γ X W y c h9)) fun _ => rfl, fun _ _ _ z => by cases z⟩
              | [], _, h => simp [mE] at h
              | _ :: _ :: _, _, h => simp [mE] at h
              | [_], _ :: _, h => simp [mE] at h
            | _ => simp [mE] at h
          | _ => simp [mE] at h
        | [], _, h => simp [mE] at h
        | _ :: _ :: _, _, h => simp [mE] at h
        | [_], _ :: _, h => simp [mE] at h
      | _ => simp [mE] at h
    | _ => simp [mE] at h
  | .lrg2 a b, Γ, X, W, e, c, h => by
    cases e with
    | Call fn args kws p => cases fn with
      | Name x q =>
        match args, kws, h with
        | [a'], [], h =>
          cases a' with
          | Call fn2 args2 kws2 p2 => cases fn2 with
            | Name z q2 =>
              match args2, kws2, h with
              | [u, y], [], h =>
                simp only [mE, Bool.and_eq_true] at h
                obtain ⟨⟨⟨⟨⟨⟨⟨⟨⟨h1, h2⟩, h3⟩, h4⟩, h5⟩, h6⟩, h7⟩, h8⟩, h9⟩, h10⟩ := h
                have e1 := eqS_eq h1
                subst e1
                have e2 := eqS_eq h5
                subst e2
                exact ⟨t_plain c (s_lrg2 c h2 h4 h6 h8 h9 h10 (sE a Γ X W u c h9) (sE b Γ X W y c h10)) fun _ => rfl, fun _ _ _ z => by cases z⟩
              | [], _, h => simp [mE] at h
              | [_], _, h => simp [mE] at h
              | _ :: _ :: _ :: _, _, h => simp [mE] at h
              | [_, _], _ :: _, h => simp [mE] at h
            | _ => simp [mE] at h
          | _ => simp [mE] at h
        | [], _, h => simp [mE] at h
        | _ :: _ :: _, _, h => simp [mE] at h
        | [_], _ :: _, h => simp [mE] at h
      | _ => simp [mE] at h
    | _ => simp [mE] at h
  | .dct0, Γ, X, W, e, c, h => by
    cases e with
    | Dict ks vs p =>
      cases ks with
      | nil => cases vs with
        | nil => exact ⟨t_plain c (s_dct0) fun _ => rfl, fun _ _ _ z => by cases z⟩
        | cons _ _ => simp [mE] at h
      | cons _ _ => simp [mE] at h
    | _ => simp [mE] at h
  | .dct1 a b, Γ, X, W, e, c, h => by
    cases e with
    | Dict ks vs p =>
      match ks, vs, h with
      | [some x], [y], h =>
        simp only [mE, Bool.and_eq_true] at h
        obtain ⟨⟨⟨h1, h2⟩, h3⟩, h4⟩ := h
        exact ⟨t_plain c (s_dct1 c h1 h2 h3 h4) fun _ => rfl, fun _ _ _ z => by cases z⟩
      | [], _, h => simp [mE] at h
      | none :: _, _, h => simp [mE] at h
      | some _ :: _ :: _, _, h => simp [mE] at h
      | [some _], [], h => simp [mE] at h
      | [some _], _ :: _ :: _, h => simp [mE] at h
    | _ => simp [mE] at h
  | .mbl e', Γ, X, W, e, c, h => by
    cases e with
    | Call fn args kws p => cases fn with
      | Name x q =>
        match args, kws, h with
        | [a], [], h =>
          simp only [mE, Bool.and_eq_true] at h
          obtain ⟨⟨⟨⟨h1, h2⟩, h3⟩, h4⟩, h5⟩ := h
          exact ⟨t_plain c (s_mbl c (eqS_eq h1) h2 h3 h4 h5 (sE e' Γ X W a c h5)) fun _ => rfl, fun _ _ _ z => by cases z⟩
        | [], _, h => simp [mE] at h
        | _ :: _ :: _, _, h => simp [mE] at h
        | [_], _ :: _, h => simp [mE] at h
      | _ => simp [mE] at h
    | _ => simp [mE] at h
  | .isi a ts, Γ, X, W, e, c, h => by
    cases e with
    | Call fn args kws p => cases fn with
      | Name x q =>
        match args, kws, h with
        | [y, cl], [], h =>
          simp only [mE, Bool.and_eq_true] at h
          obtain ⟨⟨⟨⟨⟨⟨h1, h2⟩, h3⟩, h4⟩, h5⟩, h6⟩, h7⟩ := h
          exact ⟨t_plain c (s_isi c (eqS_eq h1) h2 h3 h4 (fun t ht => List.all_eq_true.mp h7 t ht) h6 (mE_plain h5) (sE a Γ X W y c h5)) fun _ => rfl, fun _ _ _ z => by cases z⟩
        | [], _, h => simp [mE] at h
        | [_], _, h => simp [mE] at h
        | _ :: _ :: _ :: _, _, h => simp [mE] at h
        | [_, _], _ :: _, h => simp [mE] at h
      | _ => simp [mE] at h
    | _ => simp [mE] at h
  | .meth m o es, Γ, X, W, e, c, h => by
    cases e with
    | Call fn args kws p => cases fn with
      | Attribute y name q => cases kws with
        | nil =>
          simp only [mE, Bool.and_eq_true, decide_eq_true_eq] at h
          obtain ⟨⟨⟨⟨⟨⟨h1, h2⟩, h3⟩, h4⟩, h5⟩, h6⟩, h7⟩ := h
          rw [eqS_eq h1]
          exact ⟨t_plain c (s_meth c h2 h4 (fun z => by rw [z] at h5; cases h5) h6 h7 (sE o Γ X W y c h3) (sL es Γ X W args c h4)) fun _ => rfl, fun _ _ _ z => by cases z⟩
        | cons _ _ => simp [mE] at h
      | _ => simp [mE] at h
    | _ => simp [mE] at h
  | .lc a t it cc vs, Γ, X, W, e, c, h => by
    cases e with
    | ListComp elt gs scope p =>
      match gs, h with
      | [⟨tg, iter, ifs, as⟩], h =>
        simp only [mE, Bool.and_eq_true, decide_eq_true_eq] at h
        obtain ⟨⟨⟨⟨⟨⟨⟨rfl, h1⟩, h2⟩, h3⟩, h4⟩, h5⟩, h6⟩, h7⟩ := h
        have hit : ∀ x, foldedSetIterable iter X.env x = pure x := folded_of (mI_plain h1) X.env
        exact ⟨t_plain c (s_lc c h2 h3 h5 hit (sI it Γ X W tg iter c h1) (fun s H C cl fp => sT t (Γ.blk scope) _ _ tg c.blk h4) (fun s H C cl fp => sC cc (Γ.blk scope) _ _ ifs c.blk h6)
          (fun s H C cl fp => sE a (Γ.blk scope) _ _ elt c.blk h7)) fun _ => rfl, fun _ _ _ z => by cases z⟩
      | [], h => simp [mE] at h
      | _ :: _ :: _, h => simp [mE] at h
    | _ => simp [mE] at h
theorem sL : ∀ (xs : List Ex) (Γ : Cn) (X : Cx) (W : WX) (es : List Expr), Ctx G Γ k X W → mL xs Γ es = true → PA X es (tL G (evF Γ.P k) W xs)
  | [], Γ, X, W, es, c, h => by
    cases es with
    | nil => exact s_nil
    | cons _ _ => simp [mL] at h
  | x :: xs, Γ, X, W, es, c, h => by
    cases es with
    | nil => simp [mL] at h
    | cons e es =>
      simp only [mL, Bool.and_eq_true] at h
      exact s_cons (sE x Γ X W e c h.1) (sL xs Γ X W es c h.2) (mE_plain h.1)
theorem sK : ∀ (xs : List (Str × Ex)) (Γ : Cn) (X : Cx) (W : WX) (es : List Keyword), Ctx G Γ k X W → mK xs Γ es = true → PK X es (tK' G (evF Γ.P k) W xs)
  | [], Γ, X, W, es, c, h => by
    cases es with
    | nil => exact k_nil
    | cons _ _ => simp [mK] at h
  | (n, x) :: xs, Γ, X, W, es, c, h => by
    cases es with
    | nil => simp [mK] at h
    | cons e es =>
      obtain ⟨nm, v, p⟩ := e
      cases nm with
      | none => simp [mK] at h
      | some nm =>
        simp only [mK, Bool.and_eq_true] at h
        exact k_cons (sE x Γ X W v c h.1.2) (sK xs Γ X W es c h.2)
theorem sO : ∀ (x : Option Ex) (Γ : Cn) (X : Cx) (W : WX) (e : Option Expr), Ctx G Γ k X W → mO x Γ e = true → PO X e (tO' G (evF Γ.P k) W x)
  | none, Γ, X, W, e, c, h => by
    cases e with
    | none => exact o_none
    | some _ => simp [mO] at h
  | some x, Γ, X, W, e, c, h => by
    cases e with
    | none => simp [mO] at h
    | some e => simp only [mO] at h; exact o_some (sE x Γ X W e c h)
theorem sC : ∀ (x : Option Ex) (Γ : Cn) (X : Cx) (W : WX) (es : List Expr), Ctx G Γ k X W → mC x Γ es = true → PTs X es (tC' G (evF Γ.P k) W x)
  | none, Γ, X, W, es, c, h => by
    cases es with
    | nil => exact c_none
    | cons _ _ => simp [mC] at h
  | some x, Γ, X, W, es, c, h => by
    match es, h with
    | [], h => simp [mC] at h
    | [e], h => simp only [mC] at h; exact c_some (sB x Γ X W e c h).1
    | _ :: _ :: _, h => simp [mC] at h
theorem sI : ∀ (x : It) (Γ : Cn) (X : Cx) (W : WX) (tg e : Expr), Ctx G Γ k X W → mI x Γ tg e = true → PI X tg e (tI G (evF Γ.P k) W x)
  | .seq x, Γ, X, W, tg, e, c, h => by
    have h' : mE x Γ e = true := by simpa only [mI] using h
    exact pi_seq c (sE x Γ X W e c h')
  | .rng1 a, Γ, X, W, tg, e, c, h => by
    cases e with
    | Call fn args kws p => cases fn with
      | Name x q =>
        match args, kws, h with
        | [u], [], h =>
          simp only [mI, Bool.and_eq_true] at h
          obtain ⟨⟨⟨h1, h2⟩, h3⟩, h4⟩ := h
          exact pi_rng1 c (eqS_eq h1) h2 h3 (mE_plain h4) (sE a Γ X W u c h4)
        | [], _, h => simp [mI] at h
        | _ :: _ :: _, _, h => simp [mI] at h
        | [_], _ :: _, h => simp [mI] at h
      | _ => simp [mI] at h
    | _ => simp [mI] at h
  | .rng2 a b, Γ, X, W, tg, e, c, h => by
    cases e with
    | Call fn args kws p => cases fn with
      | Name x q =>
        match args, kws, h with
        | [u, v], [], h =>
          simp only [mI, Bool.and_eq_true] at h
          obtain ⟨⟨⟨⟨h1, h2⟩, h3⟩, h4⟩, h5⟩ := h
          exact pi_rng2 c (eqS_eq h1) h2 h3 (mE_plain h4) (mE_plain h5) (sE a Γ X W u c h4) (sE b Γ X W v c h5)
        | [], _, h => simp [mI] at h
        | [_], _, h => simp [mI] at h
        | _ :: _ :: _ :: _, _, h => simp [mI] at h
        | [_, _], _ :: _, h => simp [mI] at h
      | _ => simp [mI] at h
    | _ => simp [mI] at h
  | .enu a, Γ, X, W, tg, e, c, h => by
    cases tg with
    | Tuple ts n tp =>
      cases e with
      | Call fn args kws p => cases fn with
        | Name x q =>
          match args, kws, h with
          | [u], [], h =>
            simp only [mI, Bool.and_eq_true] at h
            obtain ⟨⟨⟨h1, h2⟩, h3⟩, h4⟩ := h
            exact pi_enu c (eqS_eq h1) h2 h3 (mE_plain h4) (sE a Γ X W u c h4)
          | [], _, h => simp [mI] at h
          | _ :: _ :: _, _, h => simp [mI] at h
          | [_], _ :: _, h => simp [mI] at h
        | _ => simp [mI] at h
      | _ => simp [mI] at h
    | _ => simp [mI] at h
  | .zip a b, Γ, X, W, tg, e, c, h => by
    cases tg with
    | Tuple ts n tp =>
      cases e with
      | Call fn args kws p => cases fn with
        | Name x q =>
          match args, kws, h with
          | [u, v], [], h =>
            simp only [mI, Bool.and_eq_true] at h
            obtain ⟨⟨⟨⟨h1, h2⟩, h3⟩, h4⟩, h5⟩ := h
            exact pi_zipD c (eqS_eq h1) h2 h3 (mE_plain h4) (mE_plain h5) (sE a Γ X W u c h4) (sE b Γ X W v c h5)
          | [], _, h => simp [mI] at h
          | [_], _, h => simp [mI] at h
          | _ :: _ :: _ :: _, _, h => simp [mI] at h
          | [_, _], _ :: _, h => simp [mI] at h
        | _ => simp [mI] at h
      | _ => simp [mI] at h
    | _ => simp [mI] at h
theorem sT : ∀ (t : Tg) (Γ : Cn) (X : Cx) (W : WX) (e : Expr), Ctx G Γ k X W → mT t Γ e = true → PG X e (tTg G (evF Γ.P k) W t)
  | .nm i, Γ, X, W, e, c, h => by
    cases e with
    | Name y p =>
      simp only [mT, Bool.and_eq_true, decide_eq_true_eq] at h
      exact g_nm c h.1 h.2
    | _ => simp [mT] at h
  | .tp ts, Γ, X, W, e, c, h => by
    cases e with
    | Tuple es n p => simp only [mT] at h; exact g_tup c h (sTs ts Γ X W es c h)
    | _ => simp [mT] at h
  | .sub a b, Γ, X, W, e, c, h => by
    cases e with
    | Subscript x y p =>
      simp only [mT, Bool.and_eq_true] at h
      exact g_sub (sE a Γ X W x c h.1) (sE b Γ X W y c h.2) (mE_plain h.2)
    | _ => simp [mT] at h
  | .fld a f, Γ, X, W, e, c, h => by
    cases e with
    | Attribute x name p =>
      simp only [mT, Bool.and_eq_true] at h
      obtain ⟨⟨h1, h2⟩, h3⟩ := h
      have e1 := eqS_eq h1
      subst e1
      exact g_fld c (sE a Γ X W x c h2) h3
    | _ => simp [mT] at h
theorem sTs : ∀ (ts : List Tg) (Γ : Cn) (X : Cx) (W : WX) (es : List Expr), Ctx G Γ k X W → mTs ts Γ es = true → PGs X es (tTgs G (evF Γ.P k) W ts)
  | [], Γ, X, W, es, c, h => by
    cases es with
    | nil => exact g_nil
    | cons _ _ => simp [mTs] at h
  | t :: ts, Γ, X, W, es, c, h => by
    cases es with
    | nil => simp [mTs] at h
    | cons e es =>
      simp only [mTs, Bool.and_eq_true] at h
      exact g_cons (sT t Γ X W e c h.1) (sTs ts Γ X W es c h.2) (mT_plain h.1)
end
end
end Ev
/-! Ev13: statements. -/
namespace Ev
open PySem L2

/-! ### which text a statement stands for -/
/-- the names that a, b = x, y stores, where the pair itself is not made -/
def swNames (sc : Scope) (ts : List Expr) : List Str :=
  let line := (ts.head?.map (·.pos.line)).getD 0
  ts.filterMap fun
    | .Name id pos => if sc.names.lookup id == some .local && pos.line == line then some id else none
    | _ => none
def notComp : Expr → Bool
  | .ListComp _ _ _ _ => false
  | .SetComp _ _ _ _ => false
  | .DictComp _ _ _ _ _ => false
  | _ => true
/-- whether a comprehension's list goes to its name at once -/
def atOnce (sc : Scope) : Expr → Expr → Bool
  | .Name t pos, .ListComp _ _ scope p => (match sc.names.lookup t with | some .local => true | _ => false) && (pos.line == p.line) && !(scope.names.any fun (n, k) => n == t && (k == .local || k == .cell))
  | .Name t pos, .DictComp _ _ _ scope p => (match sc.names.lookup t with | some .local => true | _ => false) && (pos.line == p.line) && !(scope.names.any fun (n, k) => n == t && (k == .local || k == .cell))
  | _, _ => false
/-- no stores are swapped -/
def notSwapped (sc : Scope) : Expr → Expr → Bool
  | .Tuple ts _ _, .Tuple vs _ _ => !(ts.length == 2 || ts.length == 3) || vs.length != ts.length || (swNames sc ts).length != ts.length || (swNames sc ts).eraseDups.length != (swNames sc ts).length || vs.all (foldedForSure 8)
  | .List _ _, _ => false
  | _, _ => true
mutual
def mS : Sx → Cn → Stmt → Bool
  | .asg t e, Γ, .Assign [x] y pos => mE e Γ y && (if atOnce Γ.sc x y then (match t, x with
      | .nm i, .Name n _ => decide (Γ.N[i]? = some n) && decide (Γ.sc.names.lookup n = some .local)
      | _, _ => false) else mT t Γ x && notSwapped Γ.sc x y)
  | .par is es, Γ, .Assign xs y _ => (match xs, y with
    | [.Tuple ts _ _], .Tuple vs _ _ => mL es Γ vs && decide ((is.map fun i => Γ.N[i]?) = (swNames Γ.sc ts).map some) && (is.length == 2 || is.length == 3) && (swNames Γ.sc ts).length == ts.length &&
      (swNames Γ.sc ts).eraseDups.length == (swNames Γ.sc ts).length && vs.length == ts.length && !(vs.all (constantsAlone 8)) && !(vs.all (foldedForSure 8))
    | _, _ => false)
  | .aug i o e, Γ, .AugAssign (.Name x _) op y _ => decide (Γ.N[i]? = some x) && locB Γ.st x && decide (op = toOp o) && mE e Γ y
  | .expr e, Γ, .Expr y _ => notComp y && mE e Γ y
  | .ret e, Γ, .Return (some y) _ => mE e Γ y
  | .retN, _, .Return none _ => true
  | .ifs c a b, Γ, .If x xs ys _ => mE c Γ x && mSs a Γ xs && mSs b Γ ys
  | .fors t it body, Γ, .For tg iter xs [] _ => mI it Γ tg iter && mT t Γ tg && mSs body Γ xs
  | .whl _ c body, Γ, .While x xs [] _ => mE c Γ x && mSs body Γ xs
  | .brk, _, .Break _ => true
  | .cnt, _, .Continue _ => true
  | .pass, _, .Pass _ => true
  | .nev, _, _ => true
  | .frzs v s, Γ, st => decide (v < Γ.N.length) && mS s Γ st
  | _, _, _ => false
def mSs : List Sx → Cn → List Stmt → Bool
  | [], _, [] => true
  | s :: ss, Γ, x :: xs => mS s Γ x && mSs ss Γ xs
  | _, _, _ => false
end

section
variable {G : Gb} {Φ : Nat → List D → Mem → Res D} {W : WX} {X : Cx} {k : Nat} {Γ : Cn}
theorem bk_of {env : Env} (h : env.scope.kind = .function) : env.blockKind = .function := by unfold Env.blockKind; rw [h]; rfl
def starAny (vs : List Expr) : Bool := vs.any fun | .Starred .. => true | _ => false
theorem sw_eq {env : Env} {ts vs : List Expr} {n m : Nat} {p q : Pos} (hk : env.scope.kind = .function) : swappedStores [.Tuple ts n p] (.Tuple vs m q) env =
    (if (!(ts.length == 2 || ts.length == 3) || vs.length != ts.length || ScopeKind.function != .function) = true then pure none else if starAny vs = true then pure none
      else if ((swNames env.scope ts).length != ts.length || (swNames env.scope ts).eraseDups.length != (swNames env.scope ts).length) = true then pure none
      else if vs.all (foldedForSure 8) = true then pure none
      else if vs.all (constantsAlone 8) = true then (do unsupported "assign.tuple-of-constant-expressions:order-of-the-stores"; pure (some (swNames env.scope ts))) else pure (some (swNames env.scope ts))) := by
  unfold swappedStores
  simp only [bk_of hk, Env.kindOf]
  rfl
theorem starAny_of {vs : List Expr} (h : ∀ v ∈ vs, plainX v = true) : starAny vs = false := by
  cases e : starAny vs with
  | false => rfl
  | true =>
    obtain ⟨v, hv, hm⟩ := List.any_eq_true.mp e
    have := h v hv
    cases v with
    | Starred _ _ => cases this
    | _ => cases hm
theorem sw_none {env : Env} {t v : Expr} (hk : env.scope.kind = .function) (h : notSwapped env.scope t v = true) : swappedStores [t] v env = pure none := by
  cases t with
  | Tuple ts n p =>
    cases v with
    | Tuple vs m q =>
      rw [sw_eq hk]
      simp only [notSwapped, Bool.or_eq_true] at h
      by_cases h1 : (!(ts.length == 2 || ts.length == 3) || vs.length != ts.length || ScopeKind.function != ScopeKind.function) = true
      · rw [if_pos h1]
      · rw [if_neg h1]
        split
        · rfl
        · by_cases h2 : ((swNames env.scope ts).length != ts.length || (swNames env.scope ts).eraseDups.length != (swNames env.scope ts).length) = true
          · rw [if_pos h2]
          · rw [if_neg h2]
            by_cases h3 : vs.all (foldedForSure 8) = true
            · rw [if_pos h3]
            · exfalso
              have e : (ScopeKind.function != ScopeKind.function) = false := rfl
              rw [e, Bool.or_false] at h1
              simp only [Bool.or_eq_true] at h1 h2
              rcases h with (((h | h) | h) | h) | h
              · exact h1 (.inl h)
              · exact h1 (.inr h)
              · exact h2 (.inl h)
              · exact h2 (.inr h)
              · exact h3 h
    | _ => rfl
  | List ts p => simp [notSwapped] at h
  | _ => rfl

/-! ### readings -/
def PostS (G : Gb) (W : WX) (Dn : Ends) (w : Wd) (r : RS) : Prop :=
  match r with
  | .nx σd M => ∀ w' σ', Ext w w' → WOk G w' → w'.M = M → RepS G w' σd σ' → Dn.nx σ' w'.H
  | .bk σd M => ∀ w' σ', Ext w w' → WOk G w' → w'.M = M → RepS G w' σd σ' → Dn.bk σ' w'.H
  | .ct σd M => ∀ w' σ', Ext w w' → WOk G w' → w'.M = M → RepS G w' σd σ' → Dn.ct σ' w'.H
  | .rt d M => ∀ w' v, Ext w w' → WOk G w' → w'.M = M → Rep G w' d v → Dn.rt v w'.H
  | .ex c fs σd M => ∀ w' σ' d, Ext w w' → WOk G w' → w'.M = M → RepS G w' σd σ' → XRep G w' d fs → W (.ref (G.cls c)) d σ' w'.H
  | .no => False
theorem PostS.later {Dn : Ends} {w w' : Wd} {r : RS} (x : Ext w w') (h : PostS G W Dn w r) : PostS G W Dn w' r := by
  cases r with
  | nx σd M => exact fun w2 s2 x2 g e q => h w2 s2 (x.trans x2) g e q
  | bk σd M => exact fun w2 s2 x2 g e q => h w2 s2 (x.trans x2) g e q
  | ct σd M => exact fun w2 s2 x2 g e q => h w2 s2 (x.trans x2) g e q
  | rt d M => exact fun w2 v x2 g e q => h w2 v (x.trans x2) g e q
  | ex c fs σd M => exact fun w2 s2 d x2 g e q q2 => h w2 s2 d (x.trans x2) g e q q2
  | no => exact h
theorem PostS.of {α : Type} {Dn : Ends} {w : Wd} {σd : Env'} {σ : L2.St} {r : Res α} {f : α → Mem → RS} (rs : RepS G w σd σ) (h : PostS G W Dn w (RS.of r σd f)) : Post G W σ w r fun a w' => PostS G W Dn w' (f a w'.M) := by
  cases r with
  | ok a M =>
    intro w' x g e
    subst e
    exact PostS.later x h
  | ex c fs M => exact fun w' d x g e q => h w' σ d x g e (rs.ext x) q
  | no => exact h
theorem PostS.then {Dn : Ends} {w : Wd} {r : RS} {f : Env' → Mem → RS} (h : PostS G W Dn w (r.then f)) : PostS G W { Dn with nx := fun σ H => ∃ w' σd, w'.H = H ∧ WOk G w' ∧ RepS G w' σd σ ∧ PostS G W Dn w' (f σd w'.M) } w r := by
  cases r with
  | nx σd M =>
    intro w' σ' x g e q
    subst e
    exact ⟨w', σd, rfl, g, q, PostS.later x h⟩
  | _ => exact h
section
variable (G Φ W)
def tS (s : Sx) : TS := fun Dn σ H => ∃ w σd, w.H = H ∧ WOk G w ∧ RepS G w σd σ ∧ PostS G W Dn w (evS Φ s σd w.M)
def tSs (ss : List Sx) : TS := fun Dn σ H => ∃ w σd, w.H = H ∧ WOk G w ∧ RepS G w σd σ ∧ PostS G W Dn w (evSs Φ ss σd w.M)
end
theorem ss_nil : PSs X [] (tSs G Φ W []) := by
  refine PSs.imp pss_nil ?_
  rintro Dn σ H ⟨w, σd, rfl, g, rs, hp⟩
  simp only [evSs] at hp
  exact hp w σ (Ext.refl w) g rfl rs
theorem ss_cons {s : Sx} {ss : List Sx} {x : Stmt} {xs : List Stmt} (h1 : PS X x (tS G Φ W s)) (h2 : PSs X xs (tSs G Φ W ss)) : PSs X (x :: xs) (tSs G Φ W (s :: ss)) := by
  refine PSs.imp (pss_cons h1 h2) ?_
  rintro Dn σ H ⟨w, σd, rfl, g, rs, hp⟩
  simp only [evSs] at hp
  exact ⟨w, σd, rfl, g, rs, PostS.then hp⟩
theorem swaps_plain {e : Expr} (h : notComp e = true) (t : Option Expr) (l : Nat) (env : Env) : swapsWith e t l env = pure false := by
  cases e <;> first
    | rfl
    | (simp [notComp] at h)
theorem x_ret {e : Ex} {x : Expr} {pos : Pos} (h : PE X x (tE G Φ W e)) : PS X (.Return (some x) pos) (tS G Φ W (.ret e)) := by
  refine PS.imp (ps_ret h) ?_
  rintro Dn σ H ⟨w, σd, rfl, g, rs, hp⟩
  simp only [evS] at hp
  refine ⟨w, σd, rfl, g, rs, (PostS.of rs hp).mono fun d w1 x1 g1 h1 v r => h1 w1 v (Ext.refl w1) g1 rfl r⟩
theorem x_retN {pos : Pos} : PS X (.Return none pos) (tS G Φ W .retN) := by
  refine PS.imp ps_retN ?_
  rintro Dn σ H ⟨w, σd, rfl, g, rs, hp⟩
  simp only [evS] at hp
  exact hp w .non (Ext.refl w) g rfl rep_non
theorem x_expr {e : Ex} {x : Expr} {pos : Pos} (h : PE X x (tE G Φ W e)) (hn : notComp x = true) : PS X (.Expr x pos) (tS G Φ W (.expr e)) := by
  refine PS.imp (ps_expr h (swaps_plain hn _ _ _)) ?_
  rintro Dn σ H ⟨w, σd, rfl, g, rs, hp⟩
  simp only [evS] at hp
  refine ⟨w, σd, rfl, g, rs, (PostS.of rs hp).mono fun d w1 x1 g1 h1 v r => h1 w1 σ (Ext.refl w1) g1 rfl (rs.ext x1)⟩
theorem x_if {e : Ex} {a b : List Sx} {x : Expr} {xs ys : List Stmt} {pos : Pos} (h : PT X x (tB' G Φ W e)) (ha : PSs X xs (tSs G Φ W a)) (hb : PSs X ys (tSs G Φ W b)) : PS X (.If x xs ys pos) (tS G Φ W (.ifs e a b)) := by
  refine PS.imp (ps_if h ha hb) ?_
  rintro Dn σ H ⟨w, σd, rfl, g, rs, hp⟩
  simp only [evS] at hp
  refine ⟨w, σd, rfl, g, rs, (PostS.of rs hp).mono fun t w1 x1 g1 h1 => ?_⟩
  cases t with
  | true => exact iteT ⟨w1, σd, rfl, g1, rs.ext x1, h1⟩
  | false => exact iteF ⟨w1, σd, rfl, g1, rs.ext x1, h1⟩
theorem x_asg (c : Ctx G Γ k X W) {t : Tg} {e : Ex} {x y : Expr} {pos : Pos} (hk : X.env.scope.kind = .function) (he : PE X y (tE G Φ W e)) (hg : PG X x (tTg G Φ W t)) (hx : plainX x = true) (hsw : notSwapped Γ.sc x y = true) (hs : swapsWith y (some x) pos.line X.env = pure false) :
    PS X (.Assign [x] y pos) (tS G Φ W (.asg t e)) := by
  refine PS.imp (ps_asg he hg hs (sw_none hk (by rw [c.sc]; exact hsw)) (by rw [assign_plain hx]; rfl)) ?_
  rintro Dn σ H ⟨w, σd, rfl, g, rs, hp⟩
  simp only [evS] at hp
  refine ⟨w, σd, rfl, g, rs, (PostS.of rs hp).mono fun d w1 x1 g1 h1 v r => ?_⟩
  exact ⟨w1, σd, d, rfl, g1, rs.ext x1, r, (PostS.of (rs.ext x1) h1).mono fun σ1 w2 x2 g2 h2 σ' rs' off => h2 w2 σ' (Ext.refl w2) g2 rfl rs'⟩
theorem x_setLc (c : Ctx G Γ k X W) {i : Nat} {e : Ex} {s : Stmt} (h : PS X s (tAsg (tE G Φ W e) (gName i))) : PS X s (tS G Φ W (.asg (.nm i) e)) := by
  refine PS.imp h ?_
  rintro Dn σ H ⟨w, σd, rfl, g, rs, hp⟩
  simp only [evS, evT] at hp
  refine ⟨w, σd, rfl, g, rs, (PostS.of rs hp).mono fun d w1 x1 g1 h1 v r => ?_⟩
  exact h1 w1 _ (Ext.refl w1) g1 rfl ((rs.ext x1).set i r)
theorem iop_D (o : BO) : PIp X (toOp o) (fun x y H Q => ∃ w d e z, w.H = H ∧ WOk G w ∧ Rep G w d x ∧ Rep G w e y ∧ evAug o d e = some z ∧ ∀ v, Rep G w z v → Q v w.H) := by
  intro pins s σ H x y v u Q I rx ry h
  obtain ⟨w, d, e, z, rfl, g, r1, r2, hz, q⟩ := h
  unfold evAug at hz
  split at hz
  · rename_i i j
    simp only [Rep] at r1 r2
    subst r1 r2
    split at hz
    · cases hz
    · rename_i ho
      obtain ⟨n, hn, rfl⟩ := Option.map_eq_some_iff.mp hz
      have q := q _ rep_int
      cases o with
      | add =>
        simp only [binI, Option.some.injEq] at hn; subst hn
        exact iop_add pins s σ w.H _ _ v u Q I rx ry ⟨i, j, rfl, rfl, q⟩
      | sub =>
        simp only [binI, Option.some.injEq] at hn; subst hn
        exact iop_sub pins s σ w.H _ _ v u Q I rx ry ⟨i, j, rfl, rfl, q⟩
      | mul =>
        simp only [binI] at hn
        split at hn
        · rename_i hm
          cases hn
          obtain ⟨t, rfl⟩ := rx
          obtain ⟨t', rfl⟩ := ry
          exact PyProof.Rows.imul_int ⟨.int _, w.H, I.tok _, ⟨_, rfl⟩, q⟩ (by rcases mulOk_ok hm with z | z; exact z.ok; exact z.ok)
        · cases hn
      | fdiv =>
        simp only [binI] at hn
        split at hn
        · rename_i hm
          cases hn
          exact iop_fdivW pins s σ w.H _ _ v u Q I rx ry ⟨i, j, rfl, rfl, hm, q⟩
        · cases hn
      | mod =>
        simp only [binI] at hn
        split at hn
        · rename_i hm
          cases hn
          exact iop_mod pins s σ w.H _ _ v u Q I rx ry ⟨i, j, rfl, rfl, hm, q⟩
        · cases hn
      | pow => exact absurd rfl ho
  · rename_i a b
    simp only [Rep] at r1 r2
    subst r1 r2
    split at hz
    · rename_i hc
      cases hz
      obtain ⟨rfl, hl⟩ := hc
      exact iop_add_str pins s σ w.H _ _ v u Q I rx ry ⟨a, b, rfl, rfl, hl, q _ rep_str⟩
    · cases hz
  · cases hz
theorem x_aug (c : Ctx G Γ k X W) {i : Nat} {o : BO} {e : Ex} {n : Str} {y : Expr} {p pos : Pos} (hi : Γ.N[i]? = some n) (hl : locB Γ.st n = true) (he : PE X y (tE G Φ W e)) : PS X (.AugAssign (.Name n p) (toOp o) y pos) (tS G Φ W (.aug i o e)) := by
  obtain ⟨h1, h2⟩ := c.store n (loc_of hl)
  refine PS.imp (ps_aug (i := i) (by rw [c.N]; exact c.nd) (by rw [c.N]; exact hi) h1 he (iop_D (G := G) o) h2) ?_
  rintro Dn σ H ⟨w, σd, rfl, g, rs, hp⟩
  simp only [evS] at hp
  split at hp
  · rename_i d ed
    obtain ⟨v, e1, r⟩ := rs.2 i d ed
    refine ⟨v, e1, w, σd, rfl, g, rs, (PostS.of rs hp).mono fun d2 w1 x1 g1 h1 v2 r2 => ?_⟩
    split at h1
    · rename_i z hz
      exact ⟨w1, d, d2, z, rfl, g1, Rep.ext x1 _ _ r, r2, hz, fun u ru => h1 w1 _ (Ext.refl w1) g1 rfl ((rs.ext x1).set i ru)⟩
    · exact h1.elim
  · exact hp.elim
/-- inside a loop -/
theorem PostS.loop {Dn : Ends} {w w0 : Wd} {r : RS} {f : Env' → Mem → RS} (em : Emb w0 w) (h : PostS G W Dn w (match r with | .nx σ1 M1 => f σ1 M1 | .ct σ1 M1 => f σ1 M1 | .bk σ1 M1 => .nx σ1 M1 | r => r)) :
    PostS G W { Dn with nx := fun σ H => ∃ w' σd, w'.H = H ∧ Emb w0 w' ∧ WOk G w' ∧ RepS G w' σd σ ∧ PostS G W Dn w' (f σd w'.M), ct := fun σ H => ∃ w' σd, w'.H = H ∧ Emb w0 w' ∧ WOk G w' ∧ RepS G w' σd σ ∧ PostS G W Dn w' (f σd w'.M), bk := Dn.nx } w r := by
  cases r with
  | nx σd M =>
    intro w' σ' x g e q
    subst e
    exact ⟨w', σd, rfl, em.trans x.emb, g, q, PostS.later x h⟩
  | ct σd M =>
    intro w' σ' x g e q
    subst e
    exact ⟨w', σd, rfl, em.trans x.emb, g, q, PostS.later x h⟩
  | bk σd M => exact h
  | rt d M => exact h
  | ex c fs σd M => exact h
  | no => exact h
theorem PostS.of2 {α : Type} {Dn : Ends} {w : Wd} {σd : Env'} {σ : L2.St} {r : Res α} {f : α → Mem → RS} {g : RS → RS} (hg : ∀ c fs s M, g (.ex c fs s M) = .ex c fs s M) (hno : g .no = .no) (rs : RepS G w σd σ) (h : PostS G W Dn w (g (RS.of r σd f))) : Post G W σ w r fun a w' => PostS G W Dn w' (g (f a w'.M)) := by
  cases r with
  | ok a M =>
    intro w' x gg e
    subst e
    exact PostS.later x h
  | ex c fs M =>
    have h' : PostS G W Dn w (g (.ex c fs σd M)) := h
    rw [hg] at h'
    exact fun w' d x gg e q => h' w' σ d x gg e (rs.ext x) q
  | no =>
    have h' : PostS G W Dn w (g .no) := h
    rw [hno] at h'
    exact h'
theorem x_for (c : Ctx G Γ k X W) {t : Tg} {it : It} {body : List Sx} {tg iter : Expr} {xs : List Stmt} {pos : Pos} (po : PassesOwn (model X.prog X.w) X.A X.env X.xe) (hi : PI X tg iter (tI G Φ W it)) (hg : PG X tg (tTg G Φ W t)) (hb : PSs X xs (tSs G Φ W body)) (hit : ∀ x, foldedSetIterable iter X.env x = pure x) :
    PS X (.For tg iter xs [] pos) (tS G Φ W (.fors t it body)) := by
  refine PS.imp (ps_for po c.calm hi hg hb hit) ?_
  rintro Dn σ H ⟨w, σd, rfl, g, rs, hp⟩
  simp only [evS] at hp
  refine ⟨w, σd, rfl, g, rs, (PostS.of rs hp).mono fun ds w1 x1 g1 h1 J hJ => ?_⟩
  generalize hF : (fun x σ1 M2 => RS.of (evT Φ t x σ1 M2) σ1 fun σ2 M3 => evSs Φ body σ2 M3) = F at h1
  refine ⟨fun i m σ H => ∃ w2 σd2, w2.H = H ∧ i ≤ ds.length ∧ m = ds.length - i ∧ Emb w1 w2 ∧ WOk G w2 ∧ RepS G w2 σd2 σ ∧ PostS G W Dn w2 (forGo F (ds.drop i) σd2 w2.M),
    ⟨ds.length, w1, σd, rfl, Nat.zero_le _, by simp, Emb.refl w1, g1, rs.ext x1, by rw [List.drop_zero]; exact h1⟩, ?_⟩
  rintro i m σ2 H ⟨w2, σd2, rfl, hi, rfl, em, g2, rs2, h2⟩
  obtain ⟨j1, j2, j3⟩ := hJ w2 em g2
  by_cases hl : i < ds.length
  · right
    refine ⟨j1 i hl, fun σ' H' => ∃ w' σd', w'.H = H' ∧ Emb w1 w' ∧ WOk G w' ∧ RepS G w' σd' σ' ∧ PostS G W Dn w' (forGo F (ds.drop (i + 1)) σd' w'.M), fun σ' H' ⟨w', σd', e1, e2, e3, e4, e5⟩ => ⟨ds.length - (i + 1), by omega, w', σd', e1, hl, rfl, e2, e3, e4, e5⟩, fun x H' y => ?_⟩
    obtain ⟨w3, d, rfl, _, m3, _, x3, g3, hd, rd⟩ := j3 i x H' hl y
    have hdrop : ds.drop i = d :: ds.drop (i + 1) := by
      obtain ⟨h', e'⟩ := List.getElem?_eq_some_iff.mp hd
      rw [List.drop_eq_getElem_cons h', e']
    rw [hdrop] at h2
    simp only [forGo] at h2
    have h3 := PostS.later x3 h2
    rw [← m3, ← hF] at h3
    refine ⟨w3, σd2, d, rfl, g3, rs2.ext x3, rd, ?_⟩
    refine Post.mono (PostS.of2 (g := fun r => match r with | .nx σ1 M1 => forGo F (ds.drop (i + 1)) σ1 M1 | .ct σ1 M1 => forGo F (ds.drop (i + 1)) σ1 M1 | .bk σ1 M1 => .nx σ1 M1 | r => r) (fun _ _ _ _ => rfl) rfl (rs2.ext x3) (by rw [← hF]; exact h3)) fun σd4 w4 x4 g4 h4 σ4 rs4 off => ?_
    exact ⟨w4, σd4, rfl, g4, rs4, PostS.loop ((em.trans x3.emb).trans x4.emb) h4⟩
  · left
    have hi' : i = ds.length := by omega
    subst hi'
    refine ⟨j2, ?_⟩
    rw [List.drop_length] at h2
    simp only [forGo] at h2
    exact h2 w2 σ2 (Ext.refl w2) g2 rfl rs2
theorem x_while {n : Nat} {e : Ex} {body : List Sx} {x : Expr} {xs : List Stmt} {pos : Pos} (po : PassesOwn (model X.prog X.w) X.A X.env X.xe) (hc : PT X x (tB' G Φ W e)) (hb : PSs X xs (tSs G Φ W body)) : PS X (.While x xs [] pos) (tS G Φ W (.whl n e body)) := by
  refine PS.imp (ps_while po hc hb) ?_
  rintro Dn σ H ⟨w, σd, rfl, g, rs, hp⟩
  simp only [evS] at hp
  generalize hF : (fun σ1 M1 => evSs Φ body σ1 M1) = F at hp
  refine ⟨fun m σ H => ∃ w2 σd2, w2.H = H ∧ WOk G w2 ∧ RepS G w2 σd2 σ ∧ PostS G W Dn w2 (whlGo (fun σ1 M1 => (evE Φ e σ1 M1).bind fun d M2 => Res.of (truth M2 d) M2) F m σd2 w2.M), ⟨n, w, σd, rfl, g, rs, hp⟩, ?_⟩
  rintro m σ2 H ⟨w2, σd2, rfl, g2, rs2, h2⟩
  cases m with
  | zero => exact h2.elim
  | succ m =>
    simp only [whlGo] at h2
    refine ⟨w2, σd2, rfl, g2, rs2, (PostS.of rs2 h2).mono fun b w3 x3 g3 h3 => ?_⟩
    cases b with
    | true =>
      refine iteT ⟨fun σ' H' => ∃ w' σd', w'.H = H' ∧ Emb w3 w' ∧ WOk G w' ∧ RepS G w' σd' σ' ∧ PostS G W Dn w' (whlGo (fun σ1 M1 => (evE Φ e σ1 M1).bind fun d M2 => Res.of (truth M2 d) M2) F m σd' w'.M), fun σ' H' ⟨w', σd', e1, _, e3, e4, e5⟩ => ⟨m, Nat.lt_succ_self m, w', σd', e1, e3, e4, e5⟩, w3, σd2, rfl, g3, rs2.ext x3, ?_⟩
      have h4 : PostS G W Dn w3 (match F σd2 w3.M with | .nx σ1 M1 => whlGo (fun σ1 M1 => (evE Φ e σ1 M1).bind fun d M2 => Res.of (truth M2 d) M2) F m σ1 M1 | .ct σ1 M1 => whlGo (fun σ1 M1 => (evE Φ e σ1 M1).bind fun d M2 => Res.of (truth M2 d) M2) F m σ1 M1 | .bk σ1 M1 => .nx σ1 M1 | r => r) := h3
      rw [← hF] at h4 ⊢
      exact PostS.loop (Emb.refl w3) h4
    | false => exact iteF (h3 w3 σ2 (Ext.refl w3) g3 rfl (rs2.ext x3))
end
end Ev
/-! Ev14: pairs stored at once; blocks; defs. -/
namespace Ev
open PySem L2
section
variable {G : Gb} {Φ : Nat → List D → Mem → Res D} {W : WX} {X : Cx} {k : Nat} {Γ : Cn}
def setAllV (σ : L2.St) : List Nat → List V → L2.St
  | i :: is, v :: vs => setAllV (σ.set i (some v)) is vs
  | _, _ => σ
theorem RepS.setAll {w : Wd} : ∀ {is : List Nat} {ds : List D} {vs : List V} {σd : Env'} {σ : L2.St}, RepS G w σd σ → RepL G w ds vs → RepS G w (setAll σd is ds) (setAllV σ is vs)
  | [], _, _, _, _, h, _ => by simp only [setAll, setAllV]; exact h
  | i :: is, [], _, _, _, h, r => by simp only [RepL] at r; subst r; simp only [setAll, setAllV]; exact h
  | i :: is, d :: ds, _, _, _, h, r => by
    simp only [RepL] at r
    obtain ⟨v, vs, rfl, r1, r2⟩ := r
    simp only [setAll, setAllV]
    exact RepS.setAll (h.set i r1) r2
theorem store_all {pins : List (Addr × Obj)} {H : Hp} {M : Model} {A : Around} {E : Value → Shared → Prop} (hN : X.N.Nodup) : ∀ {ns : List Str} {is : List Nat} {us : List Value} {vs : List V} {σ : L2.St} {s : Shared} {Q : Unit → Shared → Prop},
    (is.map fun i => X.N[i]?) = ns.map some → (∀ n ∈ ns, X.env.scope.names.lookup n = some .local) → Vals vs us → ns.length = us.length → Inv X pins σ H s → (∀ s', Inv X pins (setAllV σ is vs) H s' → Q () s') → wpAny M A (assignInOrder (ns.map fun n => fun v => bindName X.env n v) us) Q E s
  | [], [], [], _, _, _, _, _, _, r, _, I, q => by
    cases r
    exact PyProof.Rows.assignInOrder_nil (q _ I)
  | [], [], _ :: _, _, _, _, _, _, _, _, hl, _, _ => by simp at hl
  | [], _ :: _, _, _, _, _, _, h, _, _, _, _, _ => by simp at h
  | _ :: _, [], _, _, _, _, _, h, _, _, _, _, _ => by simp at h
  | _ :: _, _ :: _, [], _, _, _, _, _, _, _, hl, _, _ => by simp at hl
  | n :: ns, i :: is, u :: us, vs, σ, s, Q, h, hloc, r, hl, I, q => by
    cases r with
    | cons r1 r2 =>
      rename_i v vs
      simp only [List.map_cons, List.cons.injEq] at h
      have hn := hloc n (List.mem_cons_self ..)
      refine PyProof.Rows.assignInOrder_cons (PySem.wpAny_bindName (store_ok I hN h.1 (.inl hn) r1 (fun s2 I2 => ?_) (.inr hn)))
      exact store_all hN h.2 (fun m hm => hloc m (List.mem_cons_of_mem _ hm)) r2 (by simpa using hl) I2 fun s' I' => q s' (by simpa only [setAllV] using I')
theorem Vals.reverse' {xs : List V} {us : List Value} (h : Vals xs us) : Vals xs.reverse us.reverse := by
  induction h with
  | nil => exact .nil
  | cons r t ih =>
    rw [List.reverse_cons, List.reverse_cons]
    exact ih.append (.cons r .nil)
theorem RepL.reverse' {w : Wd} : ∀ {ds : List D} {vs : List V}, RepL G w ds vs → RepL G w ds.reverse vs.reverse
  | [], _, h => by simp only [RepL] at h; subst h; exact RepL.nil
  | d :: ds, _, h => by
    simp only [RepL] at h
    obtain ⟨v, r, rfl, h1, h2⟩ := h
    rw [List.reverse_cons, List.reverse_cons]
    exact (RepL.reverse' h2).append (.cons h1 .nil)
theorem x_par (c : Ctx G Γ k X W) {is : List Nat} {es : List Ex} {ts vs : List Expr} {n m : Nat} {p q pos : Pos} (hk : X.env.scope.kind = .function) (ha : PA X vs (tL G Φ W es)) (hL : mL es Γ vs = true)
    (h1 : (is.map fun i => Γ.N[i]?) = (swNames Γ.sc ts).map some) (h2 : (is.length == 2 || is.length == 3) = true) (h3 : ((swNames Γ.sc ts).length == ts.length) = true) (h4 : ((swNames Γ.sc ts).eraseDups.length == (swNames Γ.sc ts).length) = true) (h5 : (vs.length == ts.length) = true)
    (h6 : vs.all (constantsAlone 8) = false) (h7 : vs.all (foldedForSure 8) = false) : PS X (.Assign [.Tuple ts n p] (.Tuple vs m q) pos) (tS G Φ W (.par is es)) := by
  have hsw : swappedStores [.Tuple ts n p] (.Tuple vs m q) X.env = pure (some (swNames Γ.sc ts)) := by
    rw [sw_eq hk, c.sc]
    have hl : is.length = (swNames Γ.sc ts).length := by
      have := congrArg List.length h1
      simpa using this
    have e3 := beq_iff_eq.mp h3
    have e4 := beq_iff_eq.mp h4
    have e5 := beq_iff_eq.mp h5
    rw [hl, e3] at h2
    have hpl : ∀ v ∈ vs, plainX v = true := by
      have : ∀ (es : List Ex) (vs : List Expr), mL es Γ vs = true → ∀ v ∈ vs, plainX v = true := fun es => by
        induction es with
        | nil => intro vs h v hv; cases vs with
          | nil => cases hv
          | cons _ _ => simp [mL] at h
        | cons e es ih => intro vs h v hv; cases vs with
          | nil => cases hv
          | cons x xs =>
            simp only [mL, Bool.and_eq_true] at h
            rcases List.mem_cons.mp hv with rfl | hv
            · exact mE_plain h.1
            · exact ih xs h.2 v hv
      exact this es vs hL
    have k1 : (!(ts.length == 2 || ts.length == 3) || vs.length != ts.length || ScopeKind.function != ScopeKind.function) = false := by
      rw [h2, e5]; simp
    have k2 : ((swNames Γ.sc ts).length != ts.length || (swNames Γ.sc ts).eraseDups.length != (swNames Γ.sc ts).length) = false := by
      rw [e4, e3]; simp
    rw [k1, if_neg Bool.false_ne_true, starAny_of hpl, if_neg Bool.false_ne_true, k2, if_neg Bool.false_ne_true, h7, if_neg Bool.false_ne_true, h6, if_neg Bool.false_ne_true]
  have hloc : ∀ x ∈ swNames Γ.sc ts, X.env.scope.names.lookup x = some .local := by
    intro x hx
    rw [c.sc]
    unfold swNames at hx
    obtain ⟨e, _, he⟩ := List.mem_filterMap.mp hx
    cases e with
    | Name id pos =>
      simp only at he
      split at he
      · rename_i hc
        cases he
        simp only [Bool.and_eq_true, beq_iff_eq] at hc
        exact hc.1
      · cases he
    | _ => cases he
  refine ⟨fun pins s σ H Dn I h => ?_⟩
  obtain ⟨w, σd, rfl, g, rs, hp⟩ := h
  simp only [evS] at hp
  rw [PySem.exec_Assign_arm]
  refine wpAny_bind (wpAny_standAt ?_)
  show wpAny (model X.prog X.w) X.A (do
    if ← (pure false : Sem Bool) then do
      evalThenUse (.Tuple vs m q) X.env fun v => assignAll v ((assignEach [.Tuple ts n p] X.env).map (·.2))
      pure .next
    else do
      let v ← eval (.Tuple vs m q) X.env
      assignStores X.env v (← swappedStores [.Tuple ts n p] (.Tuple vs m q) X.env) ((assignEach [.Tuple ts n p] X.env).map (·.2))) (SP X pins Dn) X.xe s
  refine wpAny_bind (wpAny_pure ?_)
  rw [if_neg (by decide)]
  refine wpAny_bind (PyProof.Rows.Tuple_ (thn (ha.run _ pins s σ w.H (fun zs H1 => zs.length = es.length ∧ ∃ w1 ds, w1.H = H1 ∧ WOk G w1 ∧ RepS G w1 σd σ ∧ RepL G w1 ds zs ∧ PostS G W Dn w1 (if ds.length = is.length then .nx (setAll σd is.reverse ds.reverse) w1.M else .no)) I
    ⟨w, σd, rfl, g, rs, (PostS.of rs hp).monoE fun ds w1 ed x1 g1 h1 zs rz => ⟨by rw [← rz.length]; exact evL_len ed, w1, ds, rfl, g1, rs.ext x1, rz, h1⟩⟩) fun us s1 ⟨zs, H1, I1, r1, hz, w1, ds, e1, g1, rs1, rz, hq⟩ => ?_))
  subst e1
  split at hq
  · rename_i hl
    have hlen : us.length = (swNames Γ.sc ts).length := by
      rw [← r1.length, ← rz.length, hl]
      have := congrArg List.length h1
      simpa using this
    have hsz : us.length ≤ sizeLine := by
      rw [← r1.length, ← rz.length, hl, sizeLine_eq]
      simp only [Bool.or_eq_true, beq_iff_eq] at h2
      omega
    refine PySem.wpAny_newObj_type ?_ (by show us.toArray.size ≤ sizeLine; simpa using hsz)
    have I2 : Inv X pins σ w1.H { s1 with heap := s1.heap.push { cls := .type "tuple", data := .seq us.toArray } } := I1.kept (t' := s1.toks) fun b o e => Heap.get?_push_of_some _ e
    rw [hsw]
    refine wpAny_bind (wpAny_pure ?_)
    show wpAny (model X.prog X.w) X.A (do rule "assign.swapped-stores"; let items ← unpackItems (.ref s1.heap.objs.size) (swNames Γ.sc ts).length none; assignInOrder ((swNames Γ.sc ts).reverse.map fun n => bindName X.env n) items.reverse; pure Flow.next) _ _ _
    rw [← hlen, show us.length = us.toArray.size from by simp]
    refine wpAny_bind (wpAny_rule (wpAny_bind (PyProof.Rows.unpackItems_tuple (items := us.toArray) (I.ok.hd c.calm) (PyProof.Rows.IsTup.new s1.heap _) fun h' hx' => ?_)))
    have I3 := I2.kept (h' := h') (t' := s1.toks) fun b o e => hx' b o (Nat.ne_of_lt (Heap.lt_size e)) e
    have rev : ((is.reverse).map fun i => X.N[i]?) = (swNames Γ.sc ts).reverse.map some := by
      rw [List.map_reverse, List.map_reverse, c.N, h1]
    refine wpAny_bind (store_all (by rw [c.N]; exact c.nd) rev (fun x hx => hloc x (List.mem_reverse.mp hx)) (Vals.reverse' r1) (by simp [hlen]) I3 fun s' I' => wpAny_pure ?_)
    exact ⟨_, w1.H, I', hq w1 _ (Ext.refl w1) g1 rfl (rs1.setAll (RepL.reverse' rz))⟩
  · exact hq.elim
theorem swaps_ok {sc : Scope} {env : Env} {x y : Expr} {l : Nat} (he : env.scope = sc) (hk : env.scope.kind = .function) (h : atOnce sc x y = false) {e : Ex} (hm : mE e Γ y = true) : swapsWith y (some x) l env = pure false := by
  cases y with
  | ListComp elt gs scope p =>
    cases x with
    | Name t pos =>
      subst he
      unfold swapsWith
      simp only [atOnce] at h
      have hb := bk_of hk
      simp only [hb, Env.kindOf, Expr.pos]
      show pure _ = pure false
      congr 1
      cases e : env.scope.names.lookup t with
      | none => rfl
      | some kd =>
        rw [e] at h
        cases kd with
        | «local» =>
          simp only [Bool.true_and] at h
          exact h
        | _ => rfl
    | _ => rfl
  | DictComp kx vx gs scope p =>
    cases x with
    | Name t pos =>
      subst he
      unfold swapsWith
      simp only [atOnce] at h
      have hb := bk_of hk
      simp only [hb, Env.kindOf, Expr.pos]
      show pure _ = pure false
      congr 1
      cases e : env.scope.names.lookup t with
      | none => rfl
      | some kd =>
        rw [e] at h
        cases kd with
        | «local» =>
          simp only [Bool.true_and] at h
          exact h
        | _ => rfl
    | _ => rfl
  | SetComp _ _ _ _ => cases e <;> simp [mE] at hm
  | _ => rfl
end
end Ev
/-! Ev15: matched statements are sound. -/
namespace Ev
open PySem L2
section
variable {G : Gb} {k : Nat}
theorem sAsg {t : Tg} {e : Ex} {Γ : Cn} {X : Cx} {W : WX} {x y : Expr} {pos : Pos} (c : Ctx G Γ k X W) (hk : X.env.scope.kind = .function) (h : mS (.asg t e) Γ (.Assign [x] y pos) = true) : PS X (.Assign [x] y pos) (tS G (evF Γ.P k) W (.asg t e)) := by
  simp only [mS, Bool.and_eq_true] at h
  obtain ⟨h1, h2⟩ := h
  cases ha : atOnce Γ.sc x y with
  | false =>
    rw [ha] at h2
    simp only [Bool.false_eq_true, if_false, Bool.and_eq_true] at h2
    exact x_asg c hk (sE e Γ X W y c h1) (sT t Γ X W x c h2.1) (mT_plain h2.1) h2.2 (swaps_ok c.sc hk ha h1)
  | true =>
    rw [ha] at h2
    simp only [if_true] at h2
    cases x with
    | Name n py => cases y with
      | ListComp elt gs scope p =>
        cases t with
        | nm i =>
          simp only [Bool.and_eq_true, decide_eq_true_eq] at h2
          cases e with
          | lc a t it cc vs =>
            match gs, h1, ha with
            | [⟨tg, iter, ifs, as⟩], h, ha =>
              simp only [mE, Bool.and_eq_true, decide_eq_true_eq] at h
              obtain ⟨⟨⟨⟨⟨⟨⟨rfl, h1⟩, hb2⟩, h3⟩, h4⟩, h5⟩, h6⟩, h7⟩ := h
              have hit : ∀ x, foldedSetIterable iter X.env x = pure x := folded_of (mI_plain h1) X.env
              have hsw : swapsWith (.ListComp elt [⟨tg, iter, ifs, 0⟩] scope p) (some (.Name n py)) pos.line X.env = pure true := by
                simp only [atOnce, Bool.and_eq_true, Bool.not_eq_true'] at ha
                exact sw_true hk (by rw [c.sc]; exact h2.2) ha.1.2 ha.2
              exact x_setLc c (s_setLc c h2.1 h2.2 hsw hb2 h3 h5 hit (sI it Γ X W tg iter c h1) (fun s H C cl fp => sT t (Γ.blk scope) _ _ tg c.blk h4) (fun s H C cl fp => sC cc (Γ.blk scope) _ _ ifs c.blk h6)
                (fun s H C cl fp => sE a (Γ.blk scope) _ _ elt c.blk h7))
            | [], h, _ => simp [mE] at h
            | _ :: _ :: _, h, _ => simp [mE] at h
          | lc2 a t it cc t1 it1 cc1 vs vs1 =>
            match gs, h1, ha with
            | [⟨tg, iter, ifs, as⟩, ⟨tg1, iter1, ifs1, as1⟩], h, ha =>
              simp only [mE, Bool.and_eq_true, decide_eq_true_eq] at h
              obtain ⟨⟨⟨⟨⟨⟨⟨⟨⟨⟨⟨⟨⟨rfl, rfl⟩, h1⟩, hb2⟩, h3⟩, h4⟩, h5⟩, h6⟩, h7⟩, h8⟩, h9⟩, h10⟩, h11⟩, h12⟩ := h
              have hit : ∀ x, foldedSetIterable iter X.env x = pure x := folded_of (mI_plain h1) X.env
              have hsw : swapsWith (.ListComp elt [⟨tg, iter, ifs, 0⟩, ⟨tg1, iter1, ifs1, 0⟩] scope p) (some (.Name n py)) pos.line X.env = pure true := by
                simp only [atOnce, Bool.and_eq_true, Bool.not_eq_true'] at ha
                exact sw_true hk (by rw [c.sc]; exact h2.2) ha.1.2 ha.2
              exact x_setLc c (s_setLc2 c h2.1 h2.2 hsw hb2 h3 h5 h9 h10 hit (fun env => folded_of (mI_plain h7) env) (sI it Γ X W tg iter c h1) (fun s H C cl fp => sT t (Γ.blk scope) _ _ tg c.blk h4) (fun s H C cl fp => sC cc (Γ.blk scope) _ _ ifs c.blk h6)
                (fun s H C cl fp => sI it1 (Γ.blk scope) _ _ tg1 iter1 c.blk h7) (fun s H C cl fp => sT t1 (Γ.blk scope) _ _ tg1 c.blk h8) (fun s H C cl fp => sC cc1 (Γ.blk scope) _ _ ifs1 c.blk h11) (fun s H C cl fp => sE a (Γ.blk scope) _ _ elt c.blk h12))
            | [], h, _ => simp [mE] at h
            | [_], h, _ => simp [mE] at h
            | _ :: _ :: _ :: _, h, _ => simp [mE] at h
          | _ => simp [mE] at h1
        | _ => simp at h2
      | DictComp kx vx gs scope p =>
        cases t with
        | nm i =>
          simp only [Bool.and_eq_true, decide_eq_true_eq] at h2
          cases e with
          | dc a b t it cc vs =>
            match gs, h1, ha with
            | [⟨tg, iter, ifs, as⟩], h, ha =>
              simp only [mE, Bool.and_eq_true, decide_eq_true_eq] at h
              obtain ⟨⟨⟨⟨⟨⟨⟨⟨rfl, h1⟩, hb2⟩, h3⟩, h4⟩, h5⟩, h6⟩, h7⟩, h8⟩ := h
              have hit : ∀ x, foldedSetIterable iter X.env x = pure x := folded_of (mI_plain h1) X.env
              have hsw : swapsWith (.DictComp kx vx [⟨tg, iter, ifs, 0⟩] scope p) (some (.Name n py)) pos.line X.env = pure true := by
                simp only [atOnce, Bool.and_eq_true, Bool.not_eq_true'] at ha
                exact sw_trueD hk (by rw [c.sc]; exact h2.2) ha.1.2 ha.2
              exact x_setLc c (s_setDc c h2.1 h2.2 hsw hb2 h3 h5 hit (sI it Γ X W tg iter c h1) (fun s H C cl fp => sT t (Γ.blk scope) _ _ tg c.blk h4) (fun s H C cl fp => sC cc (Γ.blk scope) _ _ ifs c.blk h6)
                (fun s H C cl fp => sE a (Γ.blk scope) _ _ kx c.blk h7) (fun s H C cl fp => sE b (Γ.blk scope) _ _ vx c.blk h8))
            | [], h, _ => simp [mE] at h
            | _ :: _ :: _, h, _ => simp [mE] at h
          | _ => simp [mE] at h1
        | _ => simp at h2
      | _ => simp [atOnce] at ha
    | _ => simp [atOnce] at ha
theorem sAsgs {t : Tg} {e : Ex} {Γ : Cn} {X : Cx} {W : WX} {xs : List Expr} {y : Expr} {pos : Pos} (c : Ctx G Γ k X W) (hk : X.env.scope.kind = .function) (h : mS (.asg t e) Γ (.Assign xs y pos) = true) : PS X (.Assign xs y pos) (tS G (evF Γ.P k) W (.asg t e)) := by
  match xs, h with
  | [x], h => exact sAsg c hk h
  | [], h => simp [mS] at h
  | _ :: _ :: _, h => simp [mS] at h
theorem sPar {is : List Nat} {es : List Ex} {Γ : Cn} {X : Cx} {W : WX} {xs : List Expr} {y : Expr} {pos : Pos} (c : Ctx G Γ k X W) (hk : X.env.scope.kind = .function) (h : mS (.par is es) Γ (.Assign xs y pos) = true) : PS X (.Assign xs y pos) (tS G (evF Γ.P k) W (.par is es)) := by
  simp only [mS] at h
  split at h
  · simp only [Bool.and_eq_true, decide_eq_true_eq, Bool.not_eq_true'] at h
    obtain ⟨⟨⟨⟨⟨⟨⟨h1, h2⟩, h3⟩, h4⟩, h5⟩, h6⟩, h7⟩, h8⟩ := h
    exact x_par c hk (sL es _ X W _ c h1) h1 h2 h3 h4 h5 h6 h7 h8
  · cases h
mutual
theorem sS : ∀ (s : Sx) (Γ : Cn) (X : Cx) (W : WX) (st : Stmt), Ctx G Γ k X W → X.env.scope.kind = .function → PassesOwn (model X.prog X.w) X.A X.env X.xe → mS s Γ st = true → PS X st (tS G (evF Γ.P k) W s)
  | .asg t e, Γ, X, W, st, c, hk, po, h => by
    cases st with
    | Assign xs y pos =>
      exact sAsgs c hk h
    | _ => simp [mS] at h
  | .par is es, Γ, X, W, st, c, hk, po, h => by
    cases st with
    | Assign xs y pos =>
      exact sPar c hk h
    | _ => simp [mS] at h
  | .aug i o e, Γ, X, W, st, c, hk, po, h => by
    cases st with
    | AugAssign x op y pos => cases x with
      | Name n p =>
        simp only [mS, Bool.and_eq_true, decide_eq_true_eq] at h
        obtain ⟨⟨⟨h1, h2⟩, rfl⟩, h4⟩ := h
        exact x_aug c h1 h2 (sE e Γ X W y c h4)
      | _ => simp [mS] at h
    | _ => simp [mS] at h
  | .expr e, Γ, X, W, st, c, hk, po, h => by
    cases st with
    | Expr y pos => simp only [mS, Bool.and_eq_true] at h; exact x_expr (sE e Γ X W y c h.2) h.1
    | _ => simp [mS] at h
  | .ret e, Γ, X, W, st, c, hk, po, h => by
    cases st with
    | Return v pos => cases v with
      | none => simp [mS] at h
      | some y => simp only [mS] at h; exact x_ret (sE e Γ X W y c h)
    | _ => simp [mS] at h
  | .retN, Γ, X, W, st, c, hk, po, h => by
    cases st with
    | Return v pos => cases v with
      | none => exact x_retN
      | some y => simp [mS] at h
    | _ => simp [mS] at h
  | .ifs e a b, Γ, X, W, st, c, hk, po, h => by
    cases st with
    | If x xs ys pos =>
      simp only [mS, Bool.and_eq_true] at h
      exact x_if (sB e Γ X W x c h.1.1).1 (sSs a Γ X W xs c hk po h.1.2) (sSs b Γ X W ys c hk po h.2)
    | _ => simp [mS] at h
  | .fors t it body, Γ, X, W, st, c, hk, po, h => by
    cases st with
    | For tg iter xs els pos => cases els with
      | nil =>
        simp only [mS, Bool.and_eq_true] at h
        exact x_for c po (sI it Γ X W tg iter c h.1.1) (sT t Γ X W tg c h.1.2) (sSs body Γ X W xs c hk po h.2) (folded_of (mI_plain h.1.1) X.env)
      | cons _ _ => simp [mS] at h
    | _ => simp [mS] at h
  | .whl n e body, Γ, X, W, st, c, hk, po, h => by
    cases st with
    | While x xs els pos => cases els with
      | nil =>
        simp only [mS, Bool.and_eq_true] at h
        exact x_while po (sB e Γ X W x c h.1).1 (sSs body Γ X W xs c hk po h.2)
      | cons _ _ => simp [mS] at h
    | _ => simp [mS] at h
  | .brk, Γ, X, W, st, c, hk, po, h => by
    cases st with
    | Break pos => exact PS.imp ps_break (by rintro Dn σ H ⟨w, σd, rfl, g, rs, hp⟩; simp only [evS] at hp; exact hp w σ (Ext.refl w) g rfl rs)
    | _ => simp [mS] at h
  | .cnt, Γ, X, W, st, c, hk, po, h => by
    cases st with
    | Continue pos => exact PS.imp ps_continue (by rintro Dn σ H ⟨w, σd, rfl, g, rs, hp⟩; simp only [evS] at hp; exact hp w σ (Ext.refl w) g rfl rs)
    | _ => simp [mS] at h
  | .pass, Γ, X, W, st, c, hk, po, h => by
    cases st with
    | Pass pos => exact PS.imp ps_pass (by rintro Dn σ H ⟨w, σd, rfl, g, rs, hp⟩; simp only [evS] at hp; exact hp w σ (Ext.refl w) g rfl rs)
    | _ => simp [mS] at h
  | .nev, Γ, X, W, st, c, hk, po, h => by
    refine PS.imp ps_never ?_
    rintro Dn σ H ⟨w, σd, rfl, g, rs, hp⟩
    simp only [evS] at hp
    exact hp.elim
  | .frzs v s, Γ, X, W, st, c, hk, po, h => by
    simp only [mS, Bool.and_eq_true] at h
    refine PS.imp (sS s Γ X W st c hk po h.2) ?_
    rintro Dn σ H ⟨w, σd, rfl, g, rs, hp⟩
    simp only [evS] at hp
    split at hp
    · rename_i j e
      obtain ⟨u, e1, r⟩ := rs.2 v _ e
      simp only [Rep] at r
      obtain ⟨a, rfl, ha⟩ := r
      have x1 : Ext w (w.frz j) := ext_frz
      have fin : ∀ d : D, Rep G (w.frz j) d (.ref a) → RepS G (w.frz j) (σd.set v (some d)) σ := fun d rd => by
        refine ⟨by rw [List.length_set]; exact rs.1, fun i d' ed => ?_⟩
        by_cases hi : v = i
        · subst hi
          rw [List.getElem?_set_self (List.getElem?_eq_some_iff.mp e).1] at ed
          cases ed
          exact ⟨_, e1, rd⟩
        · rw [List.getElem?_set_ne hi] at ed
          exact (rs.ext x1).2 i d' ed
      split at hp
      · rename_i xs hm
        obtain ⟨vs, h1, h2⟩ := g.cell j a _ ha hm
        refine ⟨w.frz j, σd.set v (some (.lst xs)), rfl, wok_frz g, fin _ ?_, hp.later x1⟩
        simp only [Rep]
        exact ⟨a, vs, rfl, ⟨h1, not_live_frz g ha, g.ch j a ha⟩, RepL.ext x1 _ _ h2⟩
      · rename_i cc fs hm
        obtain ⟨hc, dx, vs, h1, h2⟩ := g.cell j a _ ha hm
        refine ⟨w.frz j, σd.set v (some (.ins cc fs)), rfl, wok_frz g, fin _ ?_, hp.later x1⟩
        simp only [Rep]
        exact ⟨hc, a, dx, vs, rfl, ⟨h1, not_live_frz g ha, g.ch j a ha⟩, RepF.ext x1 _ _ h2⟩
      · exact hp.elim
    · exact hp.elim
theorem sSs : ∀ (ss : List Sx) (Γ : Cn) (X : Cx) (W : WX) (sts : List Stmt), Ctx G Γ k X W → X.env.scope.kind = .function → PassesOwn (model X.prog X.w) X.A X.env X.xe → mSs ss Γ sts = true → PSs X sts (tSs G (evF Γ.P k) W ss)
  | [], Γ, X, W, sts, c, hk, po, h => by
    cases sts with
    | nil => exact ss_nil
    | cons _ _ => simp [mSs] at h
  | s :: ss, Γ, X, W, sts, c, hk, po, h => by
    cases sts with
    | nil => simp [mSs] at h
    | cons x xs =>
      simp only [mSs, Bool.and_eq_true] at h
      exact ss_cons (sS s Γ X W x c hk po h.1) (sSs ss Γ X W xs c hk po h.2)
end
end
end Ev
/-! Ev16: defs: the promise of each by its matched body. -/
namespace Ev
open PySem L2
section
variable {G : Gb} {w w' : Wd}
/-! ### cells that are forgotten -/
mutual
theorem Rep.cut (x : ∀ a u, Sat w a u → Sat w' a u) : ∀ (d : D) (v : V), noCell d = true → Rep G w d v → Rep G w' d v
  | .non, _, _, h => by simp only [Rep] at h ⊢; exact h
  | .bl b, _, _, h => by simp only [Rep] at h ⊢; exact h
  | .int i, _, _, h => by simp only [Rep] at h ⊢; exact h
  | .str s, _, _, h => by simp only [Rep] at h ⊢; exact h
  | .tup xs, _, n, h => by
    simp only [Rep] at h ⊢
    obtain ⟨a, vs, e, h1 | h1, h2⟩ := h
    · exact ⟨a, vs, e, .inl (x a _ h1), RepL.cut x xs vs (by simpa only [noCell] using n) h2⟩
    · exact ⟨a, vs, e, .inr h1, RepL.cut x xs vs (by simpa only [noCell] using n) h2⟩
  | .lst xs, _, n, h => by
    simp only [Rep] at h ⊢
    obtain ⟨a, vs, e, h1, h2⟩ := h
    exact ⟨a, vs, e, x a _ h1, RepL.cut x xs vs (by simpa only [noCell] using n) h2⟩
  | .scr xs, _, n, h => by
    simp only [Rep] at h ⊢
    obtain ⟨a, vs, e, ⟨o, h1⟩ | h1, h2⟩ := h
    · exact ⟨a, vs, e, .inl ⟨o, x a _ h1⟩, RepL.cut x xs vs (by simpa only [noCell] using n) h2⟩
    · exact ⟨a, vs, e, .inr h1, RepL.cut x xs vs (by simpa only [noCell] using n) h2⟩
  | .ins c fs, _, n, h => by
    simp only [Rep] at h ⊢
    obtain ⟨hc, a, dx, vs, e, h1, h2⟩ := h
    exact ⟨hc, a, dx, vs, e, x a _ h1, RepF.cut x fs vs (by simpa only [noCell] using n) h2⟩
  | .dct kvs, _, n, h => by
    simp only [Rep] at h ⊢
    obtain ⟨a, vs, e, h1, h2⟩ := h
    exact ⟨a, vs, e, x a _ h1, RepK.cut x kvs vs (by simpa only [noCell] using n) h2⟩
  | .cell i, _, n, h => by simp [noCell] at n
theorem RepL.cut (x : ∀ a u, Sat w a u → Sat w' a u) : ∀ (ds : List D) (vs : List V), noCells ds = true → RepL G w ds vs → RepL G w' ds vs
  | [], _, _, h => by simp only [RepL] at h ⊢; exact h
  | d :: ds, _, n, h => by
    simp only [noCells, Bool.and_eq_true] at n
    simp only [RepL] at h ⊢
    obtain ⟨v, r, e, h1, h2⟩ := h
    exact ⟨v, r, e, Rep.cut x d v n.1 h1, RepL.cut x ds r n.2 h2⟩
theorem RepF.cut (x : ∀ a u, Sat w a u → Sat w' a u) : ∀ (ds : List (Str × D)) (vs : List (Str × V)), noCellF ds = true → RepF G w ds vs → RepF G w' ds vs
  | [], _, _, h => by simp only [RepF] at h ⊢; exact h
  | d :: ds, _, n, h => by
    simp only [noCellF, Bool.and_eq_true] at n
    simp only [RepF] at h ⊢
    obtain ⟨v, r, e, h1, h2⟩ := h
    exact ⟨v, r, e, Rep.cut x d.2 v n.1 h1, RepF.cut x ds r n.2 h2⟩
theorem RepK.cut (x : ∀ a u, Sat w a u → Sat w' a u) : ∀ (ds : List (Key × D)) (vs : List (Key × V)), noCellK ds = true → RepK G w ds vs → RepK G w' ds vs
  | [], _, _, h => by simp only [RepK] at h ⊢; exact h
  | d :: ds, _, n, h => by
    simp only [noCellK, Bool.and_eq_true] at n
    simp only [RepK] at h ⊢
    obtain ⟨v, r, e, h1, h2⟩ := h
    exact ⟨v, r, e, Rep.cut x d.2 v n.1 h1, RepK.cut x ds r n.2 h2⟩
end
def Wd.cut (w : Wd) (n : Nat) : Wd := ⟨w.as.take n, w.M.take n, w.H, w.hd⟩
theorem take_get {α : Type} {xs : List α} {n i : Nat} {a : α} (h : (xs.take n)[i]? = some a) : xs[i]? = some a := by
  rw [List.getElem?_take] at h
  split at h
  · exact h
  · cases h
theorem live_cut {n : Nat} {a : Addr} (h : Live (w.cut n) a) : Live w a := by
  obtain ⟨i, o, h1, h2⟩ := h
  exact ⟨i, o, take_get h1, take_get h2⟩
theorem sat_cut {n : Nat} {a : Addr} {u : HO} (h : Sat w a u) : Sat (w.cut n) a u := ⟨h.1, fun z => h.2.1 (live_cut z), h.2.2⟩
theorem ext_cut (g : WOk G w) (x : Ext w w') : Ext w (w'.cut w.M.length) := by
  obtain ⟨ys, e⟩ := x.pre
  refine ⟨⟨[], ?_⟩, fun a o h n => ⟨(x.keep a o h n).1, fun z => (x.keep a o h n).2 (live_cut z)⟩, x.hid, x.ex⟩
  show w'.as.take w.M.length = w.as ++ []
  rw [e, ← g.len, List.append_nil, List.take_left']
  rfl
theorem wok_cut (g : WOk G w') {n : Nat} (h : ((w'.M.take n).all quiet) = true) : WOk G (w'.cut n) := by
  refine ⟨?_, g.nd.sublist (List.take_sublist _ _), fun i a e => g.there i a (take_get e), fun i a o h1 h2 => ?_, g.hid, fun i a e => g.ch i a (take_get e)⟩
  · show (w'.as.take n).length = (w'.M.take n).length
    rw [List.length_take, List.length_take, g.len]
  · have q := List.all_eq_true.mp h _ (List.mem_of_getElem? h2)
    have r := g.cell i a o (take_get h1) (take_get h2)
    cases o with
    | lst xs =>
      obtain ⟨vs, e, r⟩ := r
      exact ⟨vs, e, RepL.cut (fun a u z => sat_cut z) xs vs q r⟩
    | ins c fs =>
      obtain ⟨hc, dx, vs, e, r⟩ := r
      exact ⟨hc, dx, vs, e, RepF.cut (fun a u z => sat_cut z) fs vs q r⟩
/-- a body's ends, by what the call is worth -/
theorem body_ends {Qv : VK} {r : RS} {E : XK} (g : WOk G w)
    (h : Post G (fun cls d _ H => E cls d H) [] w (tidy w.M.length (bodyRes r)) fun d w' => ∀ v, Rep G w' d v → Qv v w'.H) :
    PostS G (fun cls d _ H => E cls d H) { nx := fun _ H' => Qv .non H', rt := Qv } w r := by
  cases r with
  | nx σd M =>
    intro w' σ' x g' e rs
    simp only [bodyRes, tidy, noCell, Bool.and_true] at h
    split at h
    · exact h w' x g' e .non (by simp only [Rep])
    split at h
    · rename_i hs
      subst e
      simp only [spare, Bool.and_eq_true] at hs
      exact h (w'.cut w.M.length) (ext_cut g x) (wok_cut g' hs.2) rfl .non (by simp only [Rep])
    · exact h w' x g' e .non (by simp only [Rep])
  | rt d M =>
    intro w' v x g' e r
    simp only [bodyRes, tidy] at h
    split at h
    · exact h w' x g' e v r
    split at h
    · rename_i hs
      subst e
      simp only [spare, Bool.and_eq_true] at hs
      exact h (w'.cut w.M.length) (ext_cut g x) (wok_cut g' hs.1.2) rfl v (Rep.cut (fun a u z => sat_cut z) d v hs.2 r)
    · exact h w' x g' e v r
  | ex c fs σd M =>
    intro w' σ' d x g' e rs xr
    simp only [bodyRes, tidy] at h
    split at h
    · exact h w' d x g' e xr
    split at h
    · rename_i hs
      subst e
      simp only [spare, Bool.and_eq_true] at hs
      refine h (w'.cut w.M.length) d (ext_cut g x) (wok_cut g' hs.1.2) rfl ?_
      rcases xr with xr | ⟨dx, vs, e1, e2, e3⟩
      · exact .inl xr
      · exact .inr ⟨dx, vs, e1, e2, RepF.cut (fun a u z => sat_cut z) fs vs hs.2 e3⟩
    · exact h w' d x g' e xr
  | bk σd M => exact h.elim
  | ct σd M => exact h.elim
  | no => exact h.elim
end

/-! ### defs -/
/-- where a def stands in the module, and that its body is what is told -/
structure DefAt (G : Gb) (mg : Str → Option Value) (Pd : List Df) (bs : List Str) (gs : List (Str × GC)) (cs : List Cf) (d : Df) (f : Addr) (fd : FuncData) : Prop where
  mg : topB d.name = true → mg d.name = some (.ref f)
  keep : PySem.W.keepIn G.K (.ref f) = true
  at_ : ∃ (name qual : Str) (params : Arguments) (body : List Stmt) (scope : Scope) (dV kV doc pm cdv ct oc : Value) (an od : Option Addr) (osl : Array (Option Value)),
    fd = PySem.W.fnOf name qual params body scope dV kV doc pm an cdv ct ∧ G.K.lookup f = some ⟨oc, od, .func fd, osl⟩ ∧ PySem.W.codeIn G.K cdv qual = true ∧ FnScope d.N d.ps scope ∧ mSs d.body ⟨d.N, scope, scope, Pd, bs, gs, cs⟩ body = true
  shapes : ∀ sh ∈ d.shapes, ∀ (s : Shared) (us ws : List Value), us.length = sh.1 → ws.length = sh.2.1.length → BindsTo s fd ⟨us, sh.2.1.zip ws⟩ (d.ps.zip (permV .none sh.2.2 (us ++ ws)))
structure Tab (G : Gb) (mg : Str → Option Value) (Pd : List Df) (bs : List Str) (gs : List (Str × GC)) (cs : List Cf) : Prop where
  df : ∀ (i : Nat) (d : Df), Pd[i]? = some d → ∃ f fd, DefAt G mg Pd bs gs cs d f fd
  blt : ∀ x ∈ bs, mg x = none
  glb : ∀ p ∈ gs, ∃ u, mg p.1 = some u ∧ RelV p.2.v u
  nc : G.nc = cs.length
  cls : ∀ c cf, cs[c]? = some cf → ClsR G mg cf c fun i fa => ∃ d fd, Pd[i]? = some d ∧ DefAt G mg Pd bs gs cs d fa fd

/-- THE RULE for a def (of HandS' fn_of), with the guards -/
theorem fn_ofG {P : Program} {w : World} {K : PySem.W.Frag} {mg : Str → Option Value} {base : Heap} {k : Nat} {f : Addr} {name qual : Str} {params : Arguments} {body : List Stmt} {scope : Scope} {dV kV doc pm cdv ct oc : Value} {an od : Option Addr}
    {osl : Array (Option Value)} {N ps : List Str} {sp : Sp} (lk : K.lookup f = some ⟨oc, od, .func (PySem.W.fnOf name qual params body scope dV kV doc pm an cdv ct), osl⟩) (hcd : PySem.W.codeIn K cdv qual = true) (S : FnScope N ps scope)
    (len : ∀ vs H Q E, sp vs H Q E → vs.length = ps.length)
    (hbody : ∀ (A : Around) (outer : List Env) (s : Shared) (H : Hp) (vs : List V) (Q : VK) (E : XK), Room k (A.deeper (PyProof.Rows.envOfC qual scope s.heap.objs.size f cdv)) → (A.deeper (PyProof.Rows.envOfC qual scope s.heap.objs.size f cdv)).guards = some [] → sp vs H Q E →
      ∃ t, PSs (cxOf (L2.CX P w) P w K mg base N qual scope f cdv A outer s H E) body t ∧ t { nx := fun _ H' => Q .non H', rt := Q } (start N vs) H) :
    FnG P w K mg base (k + 1) f (PySem.W.fnOf name qual params body scope dV kV doc pm an cdv ct) ps sp := by
  refine ⟨fun A outer s H args us vs Q E hr hgd e0 hb r hsp => ?_⟩
  have hl := len _ _ _ _ hsp
  have inK : K.In s.heap := e0.mod.kin.keeps fun b o e => (e0.bs b o e).1
  have lim : s.heap.NoLimit := e0.mod.nolimit.keeps fun b o e => (e0.bs b o e).1
  have kinds : ∀ y ∈ ps.zip us, scope.names.lookup y.1 = some .local ∨ (scope.names.lookup y.1 = some .cell ∧ ((cellsFrom (s.heap.objs.size + 1) scope.names []).lookup y.1).isSome = true) := by
    intro y hy
    have := S.par y.1 (List.of_mem_zip (a := y.1) (b := y.2) hy).1
    exact this.imp id fun q => ⟨q, PySem.W.cellsFrom_some _ _ _ (.inl q)⟩
  refine codeAny_call_function hr.depth (inK _ _ lk) rfl S.co S.gen rfl (PySem.W.codeRec_of inK hcd) (hb _ _ _ _ (wpAny_newFunctionEnv_cells S.kind kinds fun env he s1 x => ?_))
  subst he
  refine ⟨lim.keeps x.toInCall.keep, codeAny_func ?_⟩
  obtain ⟨t, ht, hq⟩ := hbody A outer s H vs Q E (hr.deeper _) hgd hsp
  refine wpAny_mono (ht.run [] s1 (start N vs) H _ (inv_start S hr.hd e0 hl r x) hq) (fun fl s' hs => ?_) fun e s' hs => hs
  match fl, hs with
  | .ret u, ⟨v, _, H', J, rv, q⟩ => exact ⟨v, H', J.os, J.bare, J.base, J.hok, rv, q⟩
  | .next, ⟨_, H', J, q⟩ => exact ⟨V.non, H', J.os, J.bare, J.base, J.hok, rfl, q⟩
  | .brk, ⟨_, _, _, q⟩ => exact False.elim q
  | .cont, ⟨_, _, _, q⟩ => exact False.elim q
theorem RepS.start {G : Gb} {w : Wd} {ds : List D} {vs : List V} (r : RepL G w ds vs) (N : List Str) : RepS G w (ds.map some ++ List.replicate (N.length - ds.length) Option.none) (start N vs) := by
  have hl := r.length
  refine ⟨by simp [L2.start, hl], fun i d h => ?_⟩
  by_cases hi : i < ds.length
  · rw [List.getElem?_append_left (by simpa using hi), List.getElem?_map] at h
    cases e : ds[i]? with
    | none => rw [e] at h; cases h
    | some a =>
      rw [e] at h
      cases h
      obtain ⟨v, h1, h2⟩ := r.get e
      refine ⟨v, ?_, h2⟩
      unfold L2.start
      rw [List.getElem?_append_left (by simpa [← hl] using hi), List.getElem?_map, h1]
      rfl
  · rw [List.getElem?_append_right (by simpa using hi), List.getElem?_replicate] at h
    split at h <;> cases h
theorem fn_D {G : Gb} {P : Program} {w : World} {mg : Str → Option Value} {base : Heap} {k i : Nat} {f : Addr} {fd : FuncData} {Pd : List Df} {bs : List Str} {gs : List (Str × GC)} {cs : List Cf} {d : Df} (T : Tab G mg Pd bs gs cs) (hd : Pd[i]? = some d) (h : DefAt G mg Pd bs gs cs d f fd)
    (ih : ∀ (i : Nat) (d : Df) (f : Addr) (fd : FuncData), Pd[i]? = some d → DefAt G mg Pd bs gs cs d f fd → FnG P w G.K mg base (2 * k) f fd d.ps (spF G Pd k i)) : FnG P w G.K mg base (2 * (k + 1)) f fd d.ps (spF G Pd (k + 1) i) := by
  obtain ⟨name, qual, params, body, scope, dV, kV, doc, pm, cdv, ct, oc, an, od, osl, rfl, lk, hcd, S, hm⟩ := h.at_
  have len : ∀ vs H Q E, spF G Pd (k + 1) i vs H Q E → vs.length = d.ps.length := by
    rintro vs H Q E ⟨w0, ds, rfl, g, r, hp⟩
    rw [evF, hd] at hp
    simp only at hp
    split at hp
    · rename_i hl; rw [← r.length, hl]
    · exact hp.elim
  show FnG P w G.K mg base (2 * k + 1 + 1) f _ d.ps (spF G Pd (k + 1) i)
  refine fn_ofG lk hcd S len fun A outer s H vs Q E hr hg hsp => ?_
  obtain ⟨w0, ds, rfl, g, r, hp⟩ := hsp
  rw [evF, hd] at hp
  simp only at hp
  split at hp
  · have c : Ctx G ⟨d.N, scope, scope, Pd, bs, gs, cs⟩ k (cxOf (L2.CX P w) P w G.K mg base d.N qual scope f cdv A outer s w0.H E) (fun cls d _ H => E cls d H) := {
      N := rfl
      sc := rfl
      K := rfl
      nd := S.nd
      store := fun x hx => ⟨hx, .inl rfl⟩
      calm := rfl
      gd := hg
      room := hr
      tk := takes_of rfl rfl rfl rfl
      tab := fun j e hj => by
        obtain ⟨fa, fe, h1⟩ := T.df j e hj
        exact ⟨fa, fe, h1.mg, h1.keep, ih j e fa fe hj h1, h1.shapes⟩
      blt := T.blt
      glb := T.glb
      nc := T.nc
      cls := fun n cf hcf => (T.cls n cf hcf).imp fun j fa ⟨e, fe, h1, h2⟩ => ⟨e, fe, h1, ih j e fa fe h1 h2, h2.shapes⟩ }
    exact ⟨_, sSs d.body _ _ _ body c S.kind (passes_of rfl) hm, w0, _, rfl, g, RepS.start r d.N, body_ends g hp⟩
  · exact hp.elim
theorem fn_all {G : Gb} {P : Program} {w : World} {mg : Str → Option Value} {base : Heap} {Pd : List Df} {bs : List Str} {gs : List (Str × GC)} {cs : List Cf} (T : Tab G mg Pd bs gs cs) : ∀ (k i : Nat) (d : Df) (f : Addr) (fd : FuncData), Pd[i]? = some d → DefAt G mg Pd bs gs cs d f fd → FnG P w G.K mg base (2 * k) f fd d.ps (spF G Pd k i)
  | 0, i, d, f, fd, h, a => by
    refine ⟨fun A outer s H args us vs Q E hr hg e0 hb r hsp => ?_⟩
    obtain ⟨w0, ds, rfl, g, r, hp⟩ := hsp
    rw [evF] at hp
    exact hp.elim
  | k + 1, i, d, f, fd, h, a => fn_D T h a (fn_all T k)
end Ev
/-! Ev17: the law's own call. -/
namespace Ev
open PySem PySem.Spec PyProof.Rows L2
/-- the law's end: True -/
abbrev LawEnd (s₁ : Shared) (r : Result) (s' : Shared) : Prop := r = .ok (.ret (.bool true)) ∧ OldK s₁.heap s'.heap ∧ s'.os = s₁.os ∧ AllBare s'.gens
section
variable {P : Program} {w : World} {K : PySem.W.Frag} {mg mb : Str → Option Value} {k : Nat} {fa a : Addr} {fd : FuncData} {x : Str} {sp : Sp} {s₁ : Shared}
/-- from an abstract heap H that tracks the script at most -/
theorem law_core (KX : K.In s₁.heap) (hns : s₁.heap.Ns mainGlobals mg) (hb : s₁.heap.Ns builtinsNs mb) (hbb : ∀ x : Str, x ≠ "__name__" → mb x = bootBuiltins x) (hlim : s₁.heap.NoLimit) (hg : s₁.gens = #[]) (hr : Room k callerA)
    (F : ∀ base : Heap, K.In base → base.Ns mainGlobals mg → FnG P w K mg base k fa fd [x] sp) (hbind : ∀ (s : Shared) (u : Value), BindsTo s fd ⟨[u], []⟩ [(x, u)])
    {H : Hp} (hO : Only H) (hS : sp [.ref a] H (fun v _ => v = .bl true) fun _ _ _ => False) (hok : HOk P w H s₁.heap) (nod : ∀ b o, H b ≠ none → s₁.heap.get? b = some o → ∀ es ep, o.data ≠ .dict es ep) (hK : ∀ b, H b ≠ none → K.lookup b = none) :
    codeAny (model P w) callerA (.call (.ref fa) ⟨[.ref a], []⟩) (LawEnd s₁) s₁ := by
  have free : ∀ {b : Addr}, ¬ (H b ≠ none) → H b = none := fun h => Classical.not_not.mp h
  have nsK : ∀ {b : Addr} {m : Str → Option Value}, s₁.heap.Ns b m → (hidT s₁.heap H).Ns b m := fun {b m} ⟨o, es, ep, e, d, r⟩ => ⟨o, es, ep, hidT_get e (free fun n => nod b o n e es ep d), d, r⟩
  have inK : K.In (hidT s₁.heap H) := fun b o e => hidT_get (KX b o e) (free fun n => by rw [hK b n] at e; cases e)
  have hM : Mod K mg (hidT s₁.heap H) := ⟨inK, nsK hns, ⟨mb, nsK hb, hbb⟩, let ⟨mc, h1, h2⟩ := hlim; ⟨mc, nsK h1, h2⟩⟩
  have e0 : Env0 P w K mg (hidT s₁.heap H) callerA [] s₁ H := ⟨rfl, hM, fun b o e => of_hidT e, Nat.le_of_eq (hidT_size _ _), trivial, fun b hb => absurd (show b ∈ ([] : List Addr) from hb) (by simp), hok, .of_eq hg⟩
  refine codeAny_mono ((F _ inK (nsK hns)).run callerA [] s₁ H ⟨[.ref a], []⟩ [.ref a] [.ref a] _ _ hr rfl e0 (hbind s₁ (.ref a)) (.cons rfl .nil) hS) fun r s' h => ?_
  match r, h with
  | .ok (.ret u), ⟨v, H', os, bare, un, hok', r', q⟩ =>
    cases (show v = .bl true from q)
    obtain rfl : u = Value.bool true := r'
    refine ⟨rfl, OldK.of_keep fun b o e => ?_, os, bare⟩
    rcases hO b with z | ⟨ob, xs, z⟩
    · exact un.keep b o e z (fun z => absurd (show b ∈ ([] : List Addr) from z) (by simp)) (by simp)
    · obtain ⟨e1, _⟩ := hok b _ z
      obtain ⟨e2, _⟩ := hok' b _ (un.frzs b ob _ z)
      rw [e] at e1
      cases e1
      exact e2
  | .ok .next, h => exact False.elim h
  | .ok .brk, h => exact False.elim h
  | .ok .cont, h => exact False.elim h
  | .error e, ⟨_, _, _, _, _, _, _, _, _, _, _, _, z⟩ => exact False.elim z
theorem law_callG {vs : List Value} {ns : List Int} (KX : K.In s₁.heap) (hns : s₁.heap.Ns mainGlobals mg) (hb : s₁.heap.Ns builtinsNs mb) (hbb : ∀ x : Str, x ≠ "__name__" → mb x = bootBuiltins x) (hlim : s₁.heap.NoLimit) (hg : s₁.gens = #[])
    (ha : s₁.heap.get? a = some { cls := .type "list", data := .seq vs.toArray }) (hi : IntsAre vs ns) (hl : ns.length ≤ sizeLine) (hr : Room k callerA)
    (F : ∀ base : Heap, K.In base → base.Ns mainGlobals mg → FnG P w K mg base k fa fd [x] sp) (hbind : ∀ (s : Shared) (u : Value), BindsTo s fd ⟨[u], []⟩ [(x, u)])
    (hsp : ∀ H : Hp, Only H → SqL K H a (ns.map V.int) → sp [.ref a] H (fun v _ => v = .bl true) fun _ _ _ => False) :
    codeAny (model P w) callerA (.call (.ref fa) ⟨[.ref a], []⟩) (LawEnd s₁) s₁ := by
  have rv := vals_ints hi
  cases hk : K.lookup a with
  | some o =>
    have e := KX a o hk
    rw [ha] at e
    cases e
    have hO : Only (fun _ => none) := fun _ => .inl rfl
    refine law_core KX hns hb hbb hlim hg hr F hbind hO (hsp _ hO (.inr ⟨_, vs.toArray, _, hk, rfl, rfl, rfl, by rw [List.size_toArray, hi.length]; exact hl, by simpa using rv⟩)) (fun b u z => ?_) (fun b o n => absurd rfl n) fun b n => absurd rfl n
    cases (show (none : Option HO) = some u from z)
  | none =>
    have hO : Only (fun b => if b = a then some (.frz { cls := .type "list", data := .seq vs.toArray } (.lst (ns.map V.int))) else none) := fun b => by
      by_cases hb : b = a
      · exact .inr ⟨_, _, if_pos hb⟩
      · exact .inl (if_neg hb)
    have at_a : ∀ b, (if b = a then some (HO.frz { cls := .type "list", data := .seq vs.toArray } (.lst (ns.map V.int))) else none) ≠ none → b = a := fun b n => Classical.byContradiction fun z => n (if_neg z)
    refine law_core KX hns hb hbb hlim hg hr F hbind hO (hsp _ hO (.inl (.inr ⟨_, if_pos rfl⟩))) (fun b u z => ?_) (fun b o n e es ep d => ?_) fun b n => by rw [at_a b n]; exact hk
    · by_cases hb : b = a
      · cases (if_pos hb).symm.trans z
        subst hb
        exact ⟨ha, by rw [List.length_map]; exact hl, vs, _, rv, ha⟩
      · cases (if_neg hb).symm.trans z
    · rw [at_a b n, ha] at e
      cases e
      cases (show Data.seq vs.toArray _ = Data.dict es ep from d)
end
/-- the script in a world of its own -/
theorem rep_script {G : Gb} {H : Hp} {a : Addr} {ns : List Int} (hO : Only H) (hS : SqL G.K H a (ns.map V.int)) : Rep G ⟨[], [], H, fun _ => False⟩ (.scr (ns.map D.int)) (.ref a) := by
  simp only [Rep]
  refine ⟨a, _, rfl, ?_, RepL.ints ns⟩
  rcases hS with (h | ⟨o, h⟩) | h
  · rcases hO a with z | ⟨o, xs, z⟩
    · rw [h] at z; cases z
    · rw [h] at z; cases z
  · exact .inl ⟨o, h, fun ⟨i, o, z, _⟩ => by simp at z, fun z => z⟩
  · exact .inr h
theorem wok_nil {G : Gb} {H : Hp} : WOk G ⟨[], [], H, fun _ => False⟩ := ⟨rfl, List.nodup_nil, fun i a e => by simp at e, fun i a o e _ => by simp at e, fun a z => z.elim, fun i a e => by simp at e⟩
/-- THE END of a law: by what its def is worth -/
theorem law_ends {l : PySem.W.OpenLaw} {n k i : Nat} {q : Program} {loose : List Str} {XP : (Str → Option Value) → Heap → Prop} {YP : World → Heap → Prop} {d : DefRec} {K : Params → PySem.W.Frag} {cls : Params → Nat → Addr} {nc : Nat} {Pd : List Df} {bs : List Str} {gs : List (Str × GC)} {cs : List Cf} {D0 : Df} {x : Str}
    (hn : l.most = some n) (hn2 : n ≤ sizeLine) (hdf : d.params.defaults = []) (hr : Room (2 * k) callerA)
    (hY : ∀ (w : World) (h : Heap), YP w h → (K w.params).In h) (hD : Pd[i]? = some D0) (hname : D0.name = d.name) (htop : topB D0.name = true) (hps : D0.ps = [x]) (hsh : (1, [], [0]) ∈ D0.shapes)
    (T : ∀ (w : World) (mg : Str → Option Value) (h : Heap), (K w.params).In h → h.Ns mainGlobals mg → Tab ⟨K w.params, cls w.params, nc⟩ mg Pd bs gs cs)
    (main : ∀ ns : List Int, ns.length ≤ n → ∃ M, evF Pd k i [.scr (ns.map D.int)] [] = .ok (.bl true) M) :
    PySem.W.WalkO q loose XP YP l.row.toRowW d [] (fun f vs => PySem.call f vs) := by
  refine Att.attach_call hn hdf fun w s₀ s₁ mg mb fa o pm cd doc a vs ns G Y ho hd hcd hmg hobj hints hlen hg => ?_
  have KX := hY w _ Y
  have TT := T w mg _ KX G.T.g
  obtain ⟨f, fd, A⟩ := TT.df i D0 hD
  have ef : f = fa := by
    have := (A.mg htop).symm.trans ((congrArg mg hname).trans hmg)
    cases this
    rfl
  subst ef
  refine law_callG (x := x) (fd := fd) (sp := spF ⟨K w.params, cls w.params, nc⟩ Pd k i) KX G.T.g G.T.b G.T.builtins G.T.nolimit hg hobj hints (Nat.le_trans hlen hn2) hr (fun base _ _ => ?_) (fun s u => ?_) fun H hO hS => ?_
  · have F := fn_all (P := l.prog) (w := w) (base := base) TT k i D0 f fd hD A
    rw [hps] at F
    exact F
  · have := A.shapes _ hsh s [u] [] rfl rfl
    rw [hps] at this
    exact this
  · obtain ⟨M, hm⟩ := main ns hlen
    refine ⟨⟨[], [], H, fun _ => False⟩, [.scr (ns.map D.int)], rfl, wok_nil, RepL.cons (rep_script hO hS) RepL.nil, ?_⟩
    show Post _ _ _ _ (evF Pd k i [.scr (ns.map D.int)] []) _
    rw [hm]
    intro w' x g e v r
    simpa only [Rep] using r
end Ev
/-! Ev18: reckoning with evF. -/
namespace Ev
open PySem L2
theorem evF_at {P : List Df} {f : Nat} {d : Df} (k : Nat) (ds : List D) (M : Mem) (h : P[f]? = some d) (hl : ds.length = d.ps.length) :
    evF P (k + 1) f ds M = tidy M.length (bodyRes (evSs (evF P k) d.body (ds.map some ++ List.replicate (d.N.length - ds.length) none) M)) := by
  rw [evF, h]
  simp only
  rw [if_pos hl]
@[simp] theorem tidy_ok {n : Nat} {d : D} {M : Mem} (h : M.length ≤ n) : tidy n (.ok d M) = .ok d M := if_pos h
@[simp] theorem tidy_self {d : D} {M : Mem} : tidy M.length (.ok d M) = .ok d M := if_pos (Nat.le_refl _)
@[simp] theorem tidy_set {d : D} {M : Mem} {i : Nat} {o : Option MO} : tidy M.length (.ok d (M.set i o)) = .ok d (M.set i o) := if_pos (by simp)
@[simp] theorem tidy_no {n : Nat} : tidy n .no = .no := rfl
@[simp] theorem bodyRes_rt {d : D} {M : Mem} : bodyRes (.rt d M) = .ok d M := by simp only [bodyRes]
@[simp] theorem bodyRes_nx {σ : Env'} {M : Mem} : bodyRes (.nx σ M) = .ok .non M := by simp only [bodyRes]
@[simp] theorem sure_ok' {α : Type} (a : α) (M : Mem) : (Res.ok a M).sure = .ok a M := by simp only [Res.sure]
theorem lcGo_filterMap {f : D → Mem → Res (Option D)} {g : D → Option D} {M : Mem} : ∀ {xs acc : List D}, (∀ x ∈ xs, f x M = .ok (g x) M) → acc.length + xs.length ≤ sizeLine → lcGo f xs acc M = .ok (acc ++ xs.filterMap g) M
  | [], acc, _, _ => by simp [lcGo]
  | x :: xs, acc, h, hl => by
    have hx := h x (List.mem_cons_self ..)
    simp only [List.length_cons] at hl
    rw [lcGo, hx]
    cases e : g x with
    | none =>
      simp only [List.filterMap_cons, e]
      exact lcGo_filterMap (fun y hy => h y (List.mem_cons_of_mem _ hy)) (by omega)
    | some d =>
      simp only [List.filterMap_cons, e]
      rw [if_pos (by omega), lcGo_filterMap (fun y hy => h y (List.mem_cons_of_mem _ hy)) (by simp only [List.length_append, List.length_singleton]; omega)]
      simp
theorem lcGo_map {f : D → Mem → Res (Option D)} {g : D → D} {M : Mem} {xs : List D} (h : ∀ x ∈ xs, f x M = .ok (some (g x)) M) (hl : xs.length ≤ sizeLine) : lcGo f xs [] M = .ok (xs.map g) M := by
  rw [lcGo_filterMap (g := fun x => some (g x)) h (by simpa using hl)]
  simp
theorem forGo_inv {f : D → Env' → Mem → RS} (I : Env' → Mem → Prop) : ∀ {xs : List D}, (∀ x ∈ xs, ∀ σ M, I σ M → ∃ σ' M', f x σ M = .nx σ' M' ∧ I σ' M') → ∀ {σ : Env'} {M : Mem}, I σ M → ∃ σ' M', forGo f xs σ M = .nx σ' M' ∧ I σ' M'
  | [], _, σ, M, hi => ⟨σ, M, by simp [forGo], hi⟩
  | x :: xs, h, σ, M, hi => by
    obtain ⟨σ1, M1, e, h1⟩ := h x (List.mem_cons_self ..) σ M hi
    obtain ⟨σ2, M2, e2, h2⟩ := forGo_inv I (fun y hy => h y (List.mem_cons_of_mem _ hy)) h1
    exact ⟨σ2, M2, by rw [forGo, e]; exact e2, h2⟩
/-- with what has been walked -/
theorem forGo_steps {f : D → Env' → Mem → RS} {all : List D} (I : List D → Env' → Mem → Prop) (h : ∀ (ys : List D) (x : D) (zs : List D) (σ : Env') (M : Mem), all = ys ++ x :: zs → I ys σ M → ∃ σ' M', f x σ M = .nx σ' M' ∧ I (ys ++ [x]) σ' M') :
    ∀ {ys xs : List D} {σ : Env'} {M : Mem}, all = ys ++ xs → I ys σ M → ∃ σ' M', forGo f xs σ M = .nx σ' M' ∧ I all σ' M'
  | ys, [], σ, M, e, hi => ⟨σ, M, by simp [forGo], by rw [e, List.append_nil]; exact hi⟩
  | ys, x :: xs, σ, M, e, hi => by
    obtain ⟨σ1, M1, e1, h1⟩ := h ys x xs σ M e hi
    obtain ⟨σ2, M2, e2, h2⟩ := forGo_steps I h (ys := ys ++ [x]) (xs := xs) (by rw [e]; simp) h1
    exact ⟨σ2, M2, by rw [forGo, e1]; exact e2, h2⟩
/-- a comprehension's turn -/
def lcF (Φ : Nat → List D → Mem → Res D) (e : Ex) (t : Tg) (c : Option Ex) (vs : List Nat) (σ : Env') (x : D) (M : Mem) : Res (Option D) :=
  (evT Φ t x (wipeD σ vs) M).bind fun σ3 M3 => (evC Φ c σ3 M3).bind fun b M4 => if b = true then (evE Φ e σ3 M4).bind fun d M5 => .ok (some d) M5 else .ok none M4
theorem evE_lc {Φ : Nat → List D → Mem → Res D} {e : Ex} {t : Tg} {it : It} {c : Option Ex} {vs : List Nat} {σ : Env'} {M M1 : Mem} {ds : List D} {g : D → Option D} (hi : evI Φ it σ M = .ok ds M1) (h : ∀ x ∈ ds, lcF Φ e t c vs σ x M1 = .ok (g x) M1) (hl : ds.length ≤ sizeLine) :
    evE Φ (.lc e t it c vs) σ M = .ok (.lst (ds.filterMap g)) M1 := by
  have q := lcGo_filterMap (acc := []) h (by simpa using hl)
  simp only [evE, hi, Res.bind_ok]
  show (lcGo (lcF Φ e t c vs σ) ds [] M1).bind _ = _
  rw [q]
  simp
theorem evE_lcm {Φ : Nat → List D → Mem → Res D} {e : Ex} {t : Tg} {it : It} {c : Option Ex} {vs : List Nat} {σ : Env'} {M M1 : Mem} {ds : List D} {g : D → D} (hi : evI Φ it σ M = .ok ds M1) (h : ∀ x ∈ ds, lcF Φ e t c vs σ x M1 = .ok (some (g x)) M1) (hl : ds.length ≤ sizeLine) :
    evE Φ (.lc e t it c vs) σ M = .ok (.lst (ds.map g)) M1 := by
  rw [evE_lc (g := fun x => some (g x)) hi h hl]
  simp
section
variable {M : Mem} {i j : Int} {s t : Str} {xs ys : List D} {d : D}
@[simp] theorem truth_bl {b : Bool} : truth M (.bl b) = some b := rfl
@[simp] theorem truth_int : truth M (.int i) = some (i != 0) := rfl
@[simp] theorem truth_non : truth M .non = some false := rfl
@[simp] theorem truth_tup : truth M (.tup xs) = some (!xs.isEmpty) := rfl
@[simp] theorem truth_lst : truth M (.lst xs) = some (!xs.isEmpty) := rfl
@[simp] theorem truth_scr : truth M (.scr xs) = some (!xs.isEmpty) := rfl
@[simp] theorem cmp_lt : cmpD .lt M (.int i) (.int j) = some (decide (i < j)) := rfl
@[simp] theorem cmp_le : cmpD .le M (.int i) (.int j) = some (decide (i ≤ j)) := rfl
@[simp] theorem cmp_gt : cmpD .gt M (.int i) (.int j) = some (decide (j < i)) := rfl
@[simp] theorem cmp_ge : cmpD .ge M (.int i) (.int j) = some (decide (j ≤ i)) := rfl
@[simp] theorem cmp_eq {x y : D} : cmpD .eq M x y = eqM M x y := rfl
@[simp] theorem cmp_ne {x y : D} : cmpD .ne M x y = (eqM M x y).map (!·) := rfl
@[simp] theorem cmp_is {x y : D} : cmpD .is M x y = isD x y := rfl
@[simp] theorem cmp_isn {x y : D} : cmpD .isn M x y = (isD x y).map (!·) := rfl
@[simp] theorem cmp_inn {x y : D} : cmpD .inn M x y = inD M x y := rfl
@[simp] theorem cmp_nin {x y : D} : cmpD .nin M x y = (inD M x y).map (!·) := rfl
@[simp] theorem eqM_int : eqM M (.int i) (.int j) = some (decide (i = j)) := rfl
@[simp] theorem eqM_str : eqM M (.str s) (.str t) = some (decide (s = t)) := rfl
@[simp] theorem is_nn : isD .non .non = some true := rfl
@[simp] theorem is_in : isD (.int i) .non = some false := rfl
@[simp] theorem is_sn : isD (.str s) .non = some false := rfl
@[simp] theorem is_tn : isD (.tup xs) .non = some false := rfl
@[simp] theorem is_ln : isD (.lst xs) .non = some false := rfl
@[simp] theorem is_cn {n : Nat} : isD (.cell n) .non = some false := rfl
@[simp] theorem is_bn {b : Bool} : isD (.bl b) .non = some false := rfl
@[simp] theorem is_bb {a b : Bool} : isD (.bl a) (.bl b) = some (a == b) := rfl
@[simp] theorem bin_add : evBin .add (.int i) (.int j) M = some (.int (i + j)) := rfl
@[simp] theorem bin_sub : evBin .sub (.int i) (.int j) M = some (.int (i - j)) := rfl
theorem bin_mul (h : mulOk i j = true) : evBin .mul (.int i) (.int j) M = some (.int (i * j)) := by simp [evBin, binI, h]
theorem bin_mulL (h : -(2 ^ 64) < i ∧ i < 2 ^ 64) : evBin .mul (.int i) (.int j) M = some (.int (i * j)) := bin_mul (decide_eq_true (.inl h))
theorem bin_mulR (h : -(2 ^ 64) < j ∧ j < 2 ^ 64) : evBin .mul (.int i) (.int j) M = some (.int (i * j)) := bin_mul (decide_eq_true (.inr (.inl h)))
theorem bin_fdiv (h : 0 < j) (hl : j.natAbs.log2 < 9000) : evBin .fdiv (.int i) (.int j) M = some (.int (i / j)) := by simp [evBin, binI, h, hl]
theorem bin_mod (h : 0 < j) : evBin .mod (.int i) (.int j) M = some (.int (i % j)) := by simp [evBin, binI, h]
theorem bin_pow (h : 0 ≤ j ∧ j ≤ 1000000 ∧ i.natAbs < 2 ^ 64) : evBin .pow (.int i) (.int j) M = some (.int (i ^ j.toNat)) := by simp [evBin, binI, h]
@[simp] theorem bi_int : evBi .int [.int i] M = some (.int i) := rfl
@[simp] theorem bi_intb {b : Bool} : evBi .int [.bl b] M = some (.int (if b then 1 else 0)) := rfl
@[simp] theorem bi_abs : evBi .abs [.int i] M = some (.int (if i < 0 then -i else i)) := rfl
@[simp] theorem bi_len {d : D} : evBi .len [d] M = match seqA M d with
    | some xs => some (.int xs.length)
    | none => match d with
      | .str s => if s.length ≤ sizeLine then some (.int s.length) else none
      | _ => none := rfl
@[simp] theorem seqA_tup : seqA M (.tup xs) = some xs := rfl
@[simp] theorem seqA_lst : seqA M (.lst xs) = some xs := rfl
@[simp] theorem seqA_scr : seqA M (.scr xs) = some xs := rfl
theorem seqA_cell {n : Nat} (h : M[n]? = some (some (.lst xs))) : seqA M (.cell n) = some xs := by simp [seqA, seqL, h]
theorem seqL_cell {n : Nat} (h : M[n]? = some (some (.lst xs))) : seqL M (.cell n) = some xs := by simp [seqL, h]
@[simp] theorem ix_tup : ixD M (.tup xs) (.int i) = atI xs i := rfl
@[simp] theorem ix_lst : ixD M (.lst xs) (.int i) = atI xs i := rfl
@[simp] theorem ix_scr : ixD M (.scr xs) (.int i) = atI xs i := rfl
theorem ix_cell {n : Nat} (h : M[n]? = some (some (.lst xs))) : ixD M (.cell n) (.int i) = atI xs i := by simp [ixD, seqA_cell h]
theorem isi_ii : isiD ["int"] (.int i) = some true := rfl
theorem isi_bi : isiD ["bool"] (.int i) = some false := rfl
theorem evT_sub {Φ : Nat → List D → Mem → Res D} {a b : Ex} {σ : Env'} {n : Nat} {k : Int} {m : Nat} (ha : evE Φ a σ M = .ok (.cell n) M) (hb : evE Φ b σ M = .ok (.int k) M) (h : M[n]? = some (some (.lst xs))) (hk : ixN xs.length k = some m) :
    evT Φ (.sub a b) d σ M = .ok σ (M.set n (some (.lst (xs.set m d)))) := by
  simp [evT, ha, hb, h, hk]
end
theorem evE_meth {Φ : Nat → List D → Mem → Res D} {m : Mt} {o : Ex} {es : List Ex} {σ : Env'} {M M1 M2 M3 : Mem} {x r : D} {ds : List D} (ho : evE Φ o σ M = .ok x M1) (hf : mtFit m x M1 = true) (he : evL Φ es σ M1 = .ok ds M2) (hm : evMt m x ds M2 = some (r, M3)) :
    evE Φ (.meth m o es) σ M = .ok r M3 := by
  rw [evE, ho]
  simp [hf, he, hm]
theorem evL_one {Φ : Nat → List D → Mem → Res D} {e : Ex} {σ : Env'} {M M1 : Mem} {x : D} (h : evE Φ e σ M = .ok x M1) : evL Φ [e] σ M = .ok [x] M1 := by simp [evL, h]
theorem evMt_extend {M : Mem} {i : Nat} {xs ys : List D} (h : M[i]? = some (some (.lst xs))) (hs : xs.length + ys.length ≤ sizeLine) : evMt .extend (.cell i) [.lst ys] M = some (.non, M.set i (some (.lst (xs ++ ys)))) := by
  simp [evMt, h, hs]
theorem evMt_append {M : Mem} {i : Nat} {xs : List D} {y : D} (h : M[i]? = some (some (.lst xs))) (hs : xs.length < sizeLine) : evMt .append (.cell i) [y] M = some (.non, M.set i (some (.lst (xs ++ [y])))) := by
  simp [evMt, h, hs]
theorem evE_cmp {Φ : Nat → List D → Mem → Res D} {o : CO} {a b : Ex} {σ : Env'} {M M1 M2 : Mem} {x y : D} {r : Bool} (ha : evE Φ a σ M = .ok x M1) (hb : evE Φ b σ M1 = .ok y M2) (hc : cmpD o M2 x y = some r) : evE Φ (.cmp o a b) σ M = .ok (.bl r) M2 := by
  rw [evE, ha]
  simp [hb, hc]
theorem evSs_ret {Φ : Nat → List D → Mem → Res D} {e : Ex} {σ : Env'} {M M1 : Mem} {x : D} (h : evE Φ e σ M = .ok x M1) : evSs Φ [.ret e] σ M = .rt x M1 := by simp [evSs, evS, h]
theorem evSs_one {Φ : Nat → List D → Mem → Res D} {s : Sx} {σ σ1 : Env'} {M M1 : Mem} (h : evS Φ s σ M = .nx σ1 M1) : evSs Φ [s] σ M = .nx σ1 M1 := by simp [evSs, h]
theorem evSs_cons {Φ : Nat → List D → Mem → Res D} {s : Sx} {ss : List Sx} {σ σ1 : Env'} {M M1 : Mem} (h : evS Φ s σ M = .nx σ1 M1) : evSs Φ (s :: ss) σ M = evSs Φ ss σ1 M1 := by simp [evSs, h]
theorem evS_for {Φ : Nat → List D → Mem → Res D} {t : Tg} {it : It} {b : List Sx} {σ : Env'} {M M1 : Mem} {ds : List D} (h : evI Φ it σ M = .ok ds M1) : evS Φ (.fors t it b) σ M = forGo (fun x σ1 M2 => RS.of (evT Φ t x σ1 M2) σ1 fun σ2 M3 => evSs Φ b σ2 M3) ds σ M1 := by simp [evS, h]
theorem evI_rng1 {Φ : Nat → List D → Mem → Res D} {a : Ex} {σ : Env'} {M M1 : Mem} {n : Int} {ds : List D} (ha : evE Φ a σ M = .ok (.int n) M1) (hr : rngD 0 n = some ds) : evI Φ (.rng1 a) σ M = .ok ds M1 := by
  rw [evI, ha, Res.bind_ok]
  show Res.of (rngD 0 n) M1 = _
  rw [hr]
  rfl
theorem evI_rng2 {Φ : Nat → List D → Mem → Res D} {a b : Ex} {σ : Env'} {M M1 M2 : Mem} {m n : Int} {ds : List D} (ha : evE Φ a σ M = .ok (.int m) M1) (hb : evE Φ b σ M1 = .ok (.int n) M2) (hr : rngD m n = some ds) : evI Φ (.rng2 a b) σ M = .ok ds M2 := by
  rw [evI, ha, Res.bind_ok, hb, Res.bind_ok]
  show Res.of (rngD m n) M2 = _
  rw [hr]
  rfl
theorem then_assoc (r : RS) (f g : Env' → Mem → RS) : (r.then f).then g = r.then fun σ M => (f σ M).then g := by cases r <;> rfl
theorem evSs_append (Φ : Nat → List D → Mem → Res D) : ∀ (xs ys : List Sx) (σ : Env') (M : Mem), evSs Φ (xs ++ ys) σ M = (evSs Φ xs σ M).then fun σ1 M1 => evSs Φ ys σ1 M1
  | [], ys, σ, M => by simp [evSs]
  | x :: xs, ys, σ, M => by
    simp only [List.cons_append, evSs, then_assoc]
    congr 1
    funext σ1 M1
    exact evSs_append Φ xs ys σ1 M1
/-- the first statements, then the others -/
theorem evSs_split {Φ : Nat → List D → Mem → Res D} {xs ys : List Sx} {σ σ1 : Env'} {M M1 : Mem} (h : evSs Φ xs σ M = .nx σ1 M1) : evSs Φ (xs ++ ys) σ M = evSs Φ ys σ1 M1 := by rw [evSs_append, h]; rfl
end Ev
/-! Ev20: reckoning node by node: comprehensions and loops stay closed. -/
namespace Ev
open PySem L2
section
variable {Φ : Nat → List D → Mem → Res D} {σ : Env'} {M : Mem}
@[simp] theorem q_var {i : Nat} : evE Φ (.var i) σ M = match σ[i]? with | some (some d) => .ok d M | _ => .no := by rw [evE]; try rfl
@[simp] theorem q_non : evE Φ .non σ M = .ok .non M := by rw [evE]
@[simp] theorem q_bl {b : Bool} : evE Φ (.bl b) σ M = .ok (.bl b) M := by rw [evE]
@[simp] theorem q_int {i : Int} : evE Φ (.int i) σ M = .ok (.int i) M := by rw [evE]
@[simp] theorem q_str {s : Str} : evE Φ (.str s) σ M = .ok (.str s) M := by rw [evE]
@[simp] theorem q_bin {o : BO} {a b : Ex} : evE Φ (.bin o a b) σ M = (evE Φ a σ M).bind fun x M1 => (evE Φ b σ M1).bind fun y M2 => Res.of (evBin o x y M2) M2 := by rw [evE]
@[simp] theorem q_cmp {o : CO} {a b : Ex} : evE Φ (.cmp o a b) σ M = (evE Φ a σ M).bind fun x M1 => (evE Φ b σ M1).bind fun y M2 => Res.of ((cmpD o M2 x y).map .bl) M2 := by rw [evE]
@[simp] theorem q_chn {o p : CO} {a b c : Ex} : evE Φ (.chn o p a b c) σ M = (evE Φ a σ M).bind fun x M1 => (evE Φ b σ M1).bind fun y M2 => match cmpD o M2 x y with
    | some true => (evE Φ c σ M2).bind fun z M3 => Res.of ((cmpD p M3 y z).map .bl) M3
    | some false => .ok (.bl false) M2
    | none => .no := by rw [evE]; try rfl
@[simp] theorem q_and {a b : Ex} : evE Φ (.and a b) σ M = (evE Φ a σ M).bind fun x M1 => match truth M1 x with
    | some true => evE Φ b σ M1
    | some false => .ok x M1
    | none => .no := by rw [evE]; try rfl
@[simp] theorem q_or {a b : Ex} : evE Φ (.or a b) σ M = (evE Φ a σ M).bind fun x M1 => match truth M1 x with
    | some true => .ok x M1
    | some false => evE Φ b σ M1
    | none => .no := by rw [evE]; try rfl
@[simp] theorem q_not {a : Ex} : evE Φ (.not a) σ M = (evE Φ a σ M).bind fun x M1 => Res.of ((truth M1 x).map fun b => .bl (!b)) M1 := by rw [evE]
@[simp] theorem q_neg {a : Ex} : evE Φ (.neg a) σ M = (evE Φ a σ M).bind fun x M1 => match x with | .int i => .ok (.int (-i)) M1 | _ => .no := by rw [evE]; try rfl
@[simp] theorem q_ite {c a b : Ex} : evE Φ (.ite c a b) σ M = (evE Φ c σ M).bind fun x M1 => match truth M1 x with
    | some true => evE Φ a σ M1
    | some false => evE Φ b σ M1
    | none => .no := by rw [evE]; try rfl
@[simp] theorem q_tup {es : List Ex} : evE Φ (.tup es) σ M = (evL Φ es σ M).bind fun ds M1 => if ds.length ≤ sizeLine then .ok (.tup ds) M1 else .no := by rw [evE]
@[simp] theorem q_stup {a : Ex} {es : List Ex} : evE Φ (.stup a es) σ M = (evE Φ a σ M).bind fun d M1 => match seqA M1 d with
    | some xs => (evL Φ es σ M1).bind fun ds M2 => if xs.length + ds.length ≤ sizeLine then .ok (.tup (xs ++ ds)) M2 else .no
    | none => .no := by rw [evE]; try rfl
@[simp] theorem q_lst {es : List Ex} : evE Φ (.lst es) σ M = (evL Φ es σ M).bind fun ds M1 => if ds.length ≤ sizeLine then .ok (.lst ds) M1 else .no := by rw [evE]
@[simp] theorem q_mls {es : List Ex} : evE Φ (.mls es) σ M = (evL Φ es σ M).bind fun ds M1 => if ds.length ≤ sizeLine then .ok (.cell M1.length) (M1 ++ [some (.lst ds)]) else .no := by rw [evE]
@[simp] theorem q_ix {a b : Ex} : evE Φ (.ix a b) σ M = (evE Φ a σ M).bind fun x M1 => (evE Φ b σ M1).bind fun y M2 => Res.of (ixD M2 x y) M2 := by rw [evE]
@[simp] theorem q_slc {a : Ex} {lo hi : Option Ex} : evE Φ (.slc a lo hi) σ M = (evE Φ a σ M).bind fun x M1 => (evO Φ lo σ M1).bind fun l M2 => (evO Φ hi σ M2).bind fun h M3 => Res.of (slcD M3 x l h) M3 := by rw [evE]
@[simp] theorem q_rev {a : Ex} : evE Φ (.rev a) σ M = (evE Φ a σ M).bind fun x M1 => Res.of (revD M1 x) M1 := by rw [evE]
@[simp] theorem q_call {f : Nat} {es : List Ex} {ks : List (Str × Ex)} {pm : List Nat} : evE Φ (.call f es ks pm) σ M = (evL Φ es σ M).bind fun ds M1 => (evK Φ ks σ M1).bind fun us M2 => Φ f (pm.map fun i => ((ds ++ us)[i]?).getD .non) M2 := by rw [evE]
@[simp] theorem q_bi {b : Bi} {es : List Ex} : evE Φ (.bi b es) σ M = (evL Φ es σ M).bind fun ds M1 => Res.of (evBi b ds M1) M1 := by rw [evE]
@[simp] theorem q_mbl {e : Ex} : evE Φ (.mbl e) σ M = (evE Φ e σ M).bind fun d M1 => match seqA M1 d with
    | some xs => .ok (.cell M1.length) (M1 ++ [some (.lst xs)])
    | none => .no := by rw [evE]; try rfl
@[simp] theorem q_isi {e : Ex} {ts : List String} : evE Φ (.isi e ts) σ M = (evE Φ e σ M).bind fun x M1 => Res.of ((isiD ts x).map .bl) M1 := by rw [evE]
@[simp] theorem q_meth {m : Mt} {o : Ex} {es : List Ex} : evE Φ (.meth m o es) σ M = (evE Φ o σ M).bind fun x M1 => if mtFit m x M1 then (evL Φ es σ M1).bind fun ds M2 => Res.ofM (evMt m x ds M2) else .no := by rw [evE]
@[simp] theorem q_nil : evL Φ [] σ M = .ok [] M := by rw [evL]
@[simp] theorem q_cons {e : Ex} {es : List Ex} : evL Φ (e :: es) σ M = (evE Φ e σ M).bind fun d M1 => (evL Φ es σ M1).bind fun ds M2 => .ok (d :: ds) M2 := by rw [evL]
@[simp] theorem q_knil : evK Φ [] σ M = .ok [] M := by rw [evK]
@[simp] theorem q_kcons {n : Str} {e : Ex} {es : List (Str × Ex)} : evK Φ ((n, e) :: es) σ M = (evE Φ e σ M).bind fun d M1 => (evK Φ es σ M1).bind fun ds M2 => .ok (d :: ds) M2 := by rw [evK]
@[simp] theorem q_onone : evO Φ none σ M = .ok none M := by rw [evO]
@[simp] theorem q_osome {e : Ex} : evO Φ (some e) σ M = (evE Φ e σ M).bind fun d M1 => match d with | .int i => .ok (some i) M1 | _ => .no := by rw [evO]; try rfl
@[simp] theorem q_cnone : evC Φ none σ M = .ok true M := by rw [evC]
@[simp] theorem q_csome {e : Ex} : evC Φ (some e) σ M = (evE Φ e σ M).bind fun d M1 => Res.of (truth M1 d) M1 := by rw [evC]
@[simp] theorem q_seq {e : Ex} : evI Φ (.seq e) σ M = (evE Φ e σ M).bind fun d M1 => match d with | .lst xs => .ok xs M1 | .scr xs => .ok xs M1 | .tup xs => .ok xs M1 | _ => .no := by rw [evI]; try rfl
@[simp] theorem q_enu {e : Ex} : evI Φ (.enu e) σ M = (evE Φ e σ M).bind fun d M1 => match d with
    | .lst xs => .ok ((xs.zipIdx).map fun p => .tup [.int p.2, p.1]) M1
    | .scr xs => .ok ((xs.zipIdx).map fun p => .tup [.int p.2, p.1]) M1
    | _ => .no := by rw [evI]; try rfl
@[simp] theorem q_zip {a b : Ex} : evI Φ (.zip a b) σ M = (evE Φ a σ M).bind fun x M1 => (evE Φ b σ M1).bind fun y M2 => match x, y with
    | .lst xs, .lst ys => .ok ((xs.zip ys).map fun p => .tup [p.1, p.2]) M2
    | _, _ => .no := by rw [evI]; try rfl
@[simp] theorem q_nm {i : Nat} {d : D} : evT Φ (.nm i) d σ M = .ok (σ.set i (some d)) M := by rw [evT]
@[simp] theorem q_tp {ts : List Tg} {d : D} : evT Φ (.tp ts) d σ M = match d with | .tup ds => evTs Φ ts ds σ M | _ => .no := by cases d <;> simp only [evT]
@[simp] theorem q_tnil : evTs Φ [] [] σ M = .ok σ M := by rw [evTs]
@[simp] theorem q_tcons {t : Tg} {ts : List Tg} {d : D} {ds : List D} : evTs Φ (t :: ts) (d :: ds) σ M = (evT Φ t d σ M).bind fun σ1 M1 => evTs Φ ts ds σ1 M1 := by rw [evTs]
@[simp] theorem q_sub {a b : Ex} {d : D} : evT Φ (.sub a b) d σ M = (evE Φ a σ M).sure.bind fun x M1 => (evE Φ b σ M1).sure.bind fun y M2 => match x, y with
    | .cell i, .int k => match M2[i]? with
      | some (some (.lst xs)) => match ixN xs.length k with
        | some j => .ok σ (M2.set i (some (.lst (xs.set j d))))
        | none => .no
      | _ => .no
    | _, _ => .no := by rw [evT]; try rfl
@[simp] theorem q_asg {t : Tg} {e : Ex} : evS Φ (.asg t e) σ M = RS.of (evE Φ e σ M) σ fun d M1 => RS.of (evT Φ t d σ M1) σ fun σ1 M2 => .nx σ1 M2 := by rw [evS]
@[simp] theorem q_par {is : List Nat} {es : List Ex} : evS Φ (.par is es) σ M = RS.of (evL Φ es σ M) σ fun ds M1 => if ds.length = is.length then .nx (setAll σ is.reverse ds.reverse) M1 else .no := by rw [evS]
@[simp] theorem q_aug {i : Nat} {o : BO} {e : Ex} : evS Φ (.aug i o e) σ M = match σ[i]? with
    | some (some x) => RS.of (evE Φ e σ M) σ fun y M1 => match evAug o x y with
      | some z => .nx (σ.set i (some z)) M1
      | none => .no
    | _ => .no := by rw [evS]; try rfl
@[simp] theorem q_expr {e : Ex} : evS Φ (.expr e) σ M = RS.of (evE Φ e σ M) σ fun _ M1 => .nx σ M1 := by rw [evS]
@[simp] theorem q_ret {e : Ex} : evS Φ (.ret e) σ M = RS.of (evE Φ e σ M) σ fun d M1 => .rt d M1 := by rw [evS]
@[simp] theorem q_retN : evS Φ .retN σ M = .rt .non M := by rw [evS]
@[simp] theorem q_ifs {c : Ex} {a b : List Sx} : evS Φ (.ifs c a b) σ M = RS.of ((evE Φ c σ M).bind fun d M1 => Res.of (truth M1 d) M1) σ fun t M1 => if t then evSs Φ a σ M1 else evSs Φ b σ M1 := by rw [evS]
@[simp] theorem q_brk : evS Φ .brk σ M = .bk σ M := by rw [evS]
@[simp] theorem q_cnt : evS Φ .cnt σ M = .ct σ M := by rw [evS]
@[simp] theorem q_pass : evS Φ .pass σ M = .nx σ M := by rw [evS]
@[simp] theorem q_nev : evS Φ .nev σ M = .no := by rw [evS]
@[simp] theorem q_frzs {v : Nat} {s : Sx} : evS Φ (.frzs v s) σ M = match σ[v]? with
    | some (some (.cell i)) => match M[i]? with
      | some (some (.lst xs)) => evS Φ s (σ.set v (some (.lst xs))) (M.set i none)
      | some (some (.ins c fs)) => evS Φ s (σ.set v (some (.ins c fs))) (M.set i none)
      | _ => .no
    | _ => .no := by rw [evS]; try rfl
@[simp] theorem q_snil : evSs Φ [] σ M = .nx σ M := by rw [evSs]
@[simp] theorem q_scons {s : Sx} {ss : List Sx} : evSs Φ (s :: ss) σ M = (evS Φ s σ M).then fun σ1 M1 => evSs Φ ss σ1 M1 := by rw [evSs]
@[simp] theorem setAll_nil {ds : List D} : setAll σ [] ds = σ := by rw [setAll] <;> simp
@[simp] theorem setAll_cons {i : Nat} {is : List Nat} {d : D} {ds : List D} : setAll σ (i :: is) (d :: ds) = setAll (σ.set i (some d)) is ds := by rw [setAll]
@[simp] theorem wipeD_nil : wipeD σ [] = σ := rfl
@[simp] theorem wipeD_cons {v : Nat} {vs : List Nat} : wipeD σ (v :: vs) = (wipeD σ vs).set v none := rfl
@[simp] theorem then_bk {f : Env' → Mem → RS} : (RS.bk σ M).then f = .bk σ M := by simp only [RS.then]
@[simp] theorem then_ct {f : Env' → Mem → RS} : (RS.ct σ M).then f = .ct σ M := by simp only [RS.then]
@[simp] theorem then_no {f : Env' → Mem → RS} : RS.no.then f = .no := by simp only [RS.then]
@[simp] theorem of_no {α : Type} {f : α → Mem → RS} : RS.of (Res.no : Res α) σ f = .no := by simp only [RS.of]
end
end Ev
/-! Ev19: the draws that all laws share, once for all of them. -/
namespace Ev
open PySem L2
/-- what a law draws from: the script's cells, how often it was drawn, what is left of a great cell -/
def stairO (ns : List Int) (lap rest : Int) : MO := .lst [.lst (ns.map D.int), .int lap, .int rest]
theorem toPds_ints : ∀ ns : List Int, toPds (ns.map D.int) = some (ns.map PyData.int)
  | [] => rfl
  | n :: ns => by simp [toPds, toPd, toPds_ints ns]
theorem canLay_ints : ∀ ns : List Int, PyData.canLayAll0 (ns.map PyData.int) = true
  | [] => rfl
  | n :: ns => by simp [PyData.canLayAll0, PyData.canLay0, canLay_ints ns]
theorem depth_ints : ∀ ns : List Int, PyData.depthAll (ns.map PyData.int) = 0
  | [] => rfl
  | n :: ns => by simp [PyData.depthAll, PyData.depth, depth_ints ns]
theorem eq_nil (M : Mem) (ns : List Int) : eqM M (.lst (ns.map D.int)) (.lst []) = some ns.isEmpty := by
  have h1 : shapedB (.list (ns.map PyData.int)) = true := by simp [shapedB, SeqAt.shaped, PyData.canLay0, canLay_ints, PyData.depth, depth_ints]
  have h2 : shapedB (.list []) = true := rfl
  have h3 : PyData.eqv (.list (ns.map PyData.int)) (.list []) = ns.isEmpty := by cases ns <;> simp [PyData.eqv, PyData.eqvAll]
  simp [eqM, eqD, now, seqL, toPd, toPds_ints, toPds, h1, h2, h3]
theorem eq_nn (M : Mem) : eqM M (.lst []) (.lst []) = some true := eq_nil M []
theorem cut_front (xs : List D) (n : Nat) : cutD xs none (some (n : Int)) = xs.take n := by
  unfold cutD
  rw [HT.sIx_none, HT.sIx_nat, List.drop_zero, Nat.sub_zero, Nat.min_comm, ← List.take_take]
  exact List.take_of_length_le (by simp; omega)
/-- an integer, as it is or by int(..) -/
def vr (b : Bool) (i : Nat) : Ex := if b then .bi .int [.var i] else .var i
theorem evE_vr {Φ : Nat → List D → Mem → Res D} {b : Bool} {i : Nat} {σ : Env'} {M : Mem} {n : Int} (h : σ[i]? = some (some (.int n))) : evE Φ (vr b i) σ M = .ok (.int n) M := by
  cases b <;> simp [vr, evE, evL, h, evBi]
structure DrC where
  (c1 c2 m1 c3 c2' m2 c4 c1' c3' m3 dv : Int)
  (f1 f2 f3 f4 : Bool)
def dr0 (p : DrC) : Sx := .ifs (.cmp .gt (.ix (.var 0) (.int 2)) (.int 0)) [.asg (.nm 2) (if p.f1 then .bi .int [.ix (.var 0) (.int 2)] else .ix (.var 0) (.int 2)), .asg (.sub (.var 0) (.int 2)) (.bin .fdiv (vr p.f2 2) (.var 1)), .ret (.bin .mod (.bi .int [.var 2]) (.var 1))] []
def dr1 : Sx := .asg (.nm 3) (.ix (.var 0) (.int 1))
def dr2 : Sx := .asg (.sub (.var 0) (.int 1)) (.bin .add (.var 3) (.int 1))
def dr3 (p : DrC) : Sx := .asg (.nm 4) (.bin .add (.bin .mul (.int p.c1) (.var 3)) (.int p.c2))
def dr4 : Sx := .ifs (.cmp .ne (.ix (.var 0) (.int 0)) (.lst [])) [.asg (.nm 4) (.ix (.ix (.var 0) (.int 0)) (.bin .mod (.bi .int [.var 3]) (.bi .len [.ix (.var 0) (.int 0)])))] []
def dr5 (p : DrC) : Sx := .ifs (.and (.cmp .lt (.var 3) (.bi .len [.ix (.var 0) (.int 0)])) (.cmp .ge (.bi .abs [.var 4]) (.bin .pow (.int 10) (.int 18)))) [.asg (.nm 2) (.bin .add (.bin .mul (.int 2) (.bin .sub (.bi .abs [vr p.f3 4]) (.bin .pow (.int 10) (.int 18)))) (.bi .int [.cmp .lt (.var 4) (.int 0)])), .asg (.sub (.var 0) (.int 2)) (.bin .fdiv (vr p.f4 2) (.var 1)), .ret (.bin .mod (.bi .int [.var 2]) (.var 1))] []
def dr6 (p : DrC) : Sx := .asg (.nm 5) (.bin .mod (.bi .int [.bin .pow (.bin .add (.bin .add (.bin .mod (.bi .int [.var 4]) (.int p.m1)) (.bin .mul (.int p.c3) (.var 3))) (.int p.c2')) (.int 5)]) (.int p.m2))
def dr7 (p : DrC) : Sx := .asg (.nm 5) (.bin .mod (.bi .int [.bin .pow (.bin .add (.bin .add (.bin .mul (.var 5) (.bin .add (.bin .mul (.int 2) (.var 3)) (.int p.c4))) (.bin .mul (.bin .mul (.int p.c1') (.var 3)) (.var 3))) (.int p.c3')) (.int 3)]) (.int p.m3))
def dr8 (p : DrC) : Sx := .ret (.bin .mod (.bi .int [.bin .fdiv (.var 5) (.int p.dv)]) (.var 1))
def drB (p : DrC) : List Sx := [dr0 p, dr1, dr2, dr3 p, dr4, dr5 p, dr6 p, dr7 p, dr8 p]
def sml (n : Int) : Bool := decide (0 < n ∧ n < 2147483648)
def DrC.ok (p : DrC) : Bool := [p.c1, p.c2, p.m1, p.c3, p.c2', p.m2, p.c4, p.c1', p.c3', p.m3, p.dv].all sml
theorem log_small {j : Int} (h0 : 0 < j) (h : j < 2147483648) : j.natAbs.log2 < 9000 := Nat.lt_of_lt_of_le (Nat.log2_lt (by omega) |>.mpr (by omega : j.natAbs < 2 ^ 31)) (by omega)
section
variable {Φ : Nat → List D → Mem → Res D} {ns : List Int} {lap rest many : Int} {i : Nat} {M : Mem} {p : DrC}
theorem dr_head (h : M[i]? = some (some (stairO ns lap rest))) (hr : ¬ 0 < rest) (h0 : 0 ≤ lap) (hc1 : -(2 ^ 64) < p.c1 ∧ p.c1 < 2 ^ 64) : ∃ c, evSs Φ [dr0 p, dr1, dr2, dr3 p, dr4] [some (.cell i), some (.int many), none, none, none, none] M =
    .nx [some (.cell i), some (.int many), none, some (.int lap), some (.int c), none] (M.set i (some (stairO ns (lap + 1) rest))) := by
  have h' : M[i]? = some (some (.lst [.lst (ns.map D.int), .int lap, .int rest])) := h
  have hi : i < M.length := (List.getElem?_eq_some_iff.mp h).1
  have h2 : (M.set i (some (.lst [.lst (ns.map D.int), .int (lap + 1), .int rest])))[i]? = some (some (.lst [.lst (ns.map D.int), .int (lap + 1), .int rest])) := List.getElem?_set_self hi
  have g1 : ∀ a b c : D, atI [a, b, c] 0 = some a := fun _ _ _ => rfl
  have g2 : ∀ a b c : D, atI [a, b, c] 1 = some b := fun _ _ _ => rfl
  have g3 : ∀ a b c : D, atI [a, b, c] 2 = some c := fun _ _ _ => rfl
  have x1 : ixN 3 1 = some 1 := rfl
  by_cases hn : ns = []
  · subst hn
    refine ⟨p.c1 * lap + p.c2, ?_⟩
    simp only [List.map_nil] at h' h2
    simp [dr0, dr1, dr2, dr3, dr4, evSs, evS, evE, evL, evT, ix_cell h', ix_cell h2, g1, g2, g3, hr, h', x1, stairO, bin_mulL hc1, eq_nn]
  · have hl : 0 < ns.length := List.length_pos_iff.mpr hn
    obtain ⟨c, hc⟩ : ∃ c, atI (ns.map D.int) (lap % (ns.length : Int)) = some (.int c) := by
      have p1 : 0 ≤ lap % (ns.length : Int) := Int.emod_nonneg _ (by omega)
      have p2 : lap % (ns.length : Int) < ns.length := Int.emod_lt_of_pos _ (by omega)
      obtain ⟨m, hm⟩ : ∃ m : Nat, lap % (ns.length : Int) = m := ⟨(lap % (ns.length : Int)).toNat, by omega⟩
      rw [hm] at p2 ⊢
      exact ⟨ns[m]'(by omega), atI_nat (j := m) (by simp)⟩
    refine ⟨c, ?_⟩
    have hm : (0 : Int) < ns.length := by omega
    simp [dr0, dr1, dr2, dr3, dr4, evSs, evS, evE, evL, evT, ix_cell h', ix_cell h2, g1, g2, g3, hr, h', x1, stairO, bin_mulL hc1, eq_nil, hn, hc, bin_mod hm]
theorem dr_tail (h : M[i]? = some (some (stairO ns lap rest))) (hm : 0 < many) (hlog : many.natAbs.log2 < 9000) (h0 : 0 ≤ lap) (h1 : lap ≤ 60000) (hp : p.ok = true) (c : Int) : ∃ r rest', evSs Φ [dr5 p, dr6 p, dr7 p, dr8 p] [some (.cell i), some (.int many), none, some (.int lap), some (.int c), none] (M.set i (some (stairO ns (lap + 1) rest))) =
    .rt (.int r) (M.set i (some (stairO ns (lap + 1) rest'))) ∧ 0 ≤ r ∧ r < many := by
  have hi : i < M.length := (List.getElem?_eq_some_iff.mp h).1
  have h2 : (M.set i (some (.lst [.lst (ns.map D.int), .int (lap + 1), .int rest])))[i]? = some (some (.lst [.lst (ns.map D.int), .int (lap + 1), .int rest])) := List.getElem?_set_self hi
  have g1 : ∀ a b c : D, atI [a, b, c] 0 = some a := fun _ _ _ => rfl
  have x2 : ixN 3 2 = some 2 := rfl
  simp only [DrC.ok, List.all_cons, List.all_nil, Bool.and_true, Bool.and_eq_true, sml, decide_eq_true_eq] at hp
  obtain ⟨k1, k2, k3, k4, k5, k6, k7, k8, k9, k10, k11⟩ := hp
  obtain ⟨c1, c2, m1, c3, c2', m2, c4, c1', c3', m3, dv, f1, f2, f3, f4⟩ := p
  simp only at k1 k2 k3 k4 k5 k6 k7 k8 k9 k10 k11
  by_cases hb : lap < ns.length ∧ 10 ^ 18 ≤ (if c < 0 then -c else c)
  · obtain ⟨hb1, hb2⟩ := hb
    refine ⟨(2 * ((if c < 0 then -c else c) - 10 ^ 18) + (if decide (c < 0) then 1 else 0)) % many, (2 * ((if c < 0 then -c else c) - 10 ^ 18) + (if decide (c < 0) then 1 else 0)) / many, ?_, Int.emod_nonneg _ (by omega), Int.emod_lt_of_pos _ hm⟩
    have hb3 : (1000000000000000000 : Int) ≤ (if c < 0 then -c else c) := hb2
    cases f3 <;> cases f4 <;> simp [dr5, vr, evSs, evS, evE, evL, evT, ix_cell h2, g1, h2, x2, stairO, bin_mulL, bin_pow, hb1, hb3, bin_fdiv hm hlog, bin_mod hm]
  · refine ⟨((((c % m1 + c3 * lap + c2') ^ 5 % m2 * (2 * lap + c4) + c1' * lap * lap + c3') ^ 3 % m3) / dv) % many, rest, ?_, Int.emod_nonneg _ (by omega), Int.emod_lt_of_pos _ hm⟩
    have p1 : 0 ≤ c % m1 := Int.emod_nonneg _ (by omega)
    have p2 : c % m1 < m1 := Int.emod_lt_of_pos _ (by omega)
    have q0 : 0 ≤ c3 * lap := Int.mul_nonneg (by omega) h0
    have q0' : c3 * lap ≤ 2147483648 * 60000 := Int.mul_le_mul (by omega) h1 h0 (by omega)
    have q1 : (c % m1 + c3 * lap + c2').natAbs < 2 ^ 64 := by omega
    generalize hx : c % m1 + c3 * lap + c2' = x at q1
    have p3 : 0 ≤ x ^ 5 % m2 := Int.emod_nonneg _ (by omega)
    have p4 : x ^ 5 % m2 < m2 := Int.emod_lt_of_pos _ (by omega)
    generalize hy : x ^ 5 % m2 = y at p3 p4
    have e3 : 0 ≤ c1' * lap := Int.mul_nonneg (by omega) h0
    have e4 : c1' * lap ≤ 2147483648 * 60000 := Int.mul_le_mul (by omega) h1 h0 (by omega)
    have q2 : (y * (2 * lap + c4) + c1' * lap * lap + c3').natAbs < 2 ^ 64 := by
      have e1 : 0 ≤ y * (2 * lap + c4) := Int.mul_nonneg p3 (by omega)
      have e2 : y * (2 * lap + c4) ≤ 2147483648 * (2147483648 + 120000) := Int.mul_le_mul (by omega) (by omega) (by omega) (by omega)
      have e5 : 0 ≤ c1' * lap * lap := Int.mul_nonneg e3 h0
      have e6 : c1' * lap * lap ≤ 2147483648 * 60000 * 60000 := Int.mul_le_mul e4 h1 h0 (by omega)
      omega
    generalize hz : y * (2 * lap + c4) + c1' * lap * lap + c3' = z at q2
    have r1 : -(2 ^ 64) < lap ∧ lap < 2 ^ 64 := by omega
    have r2 : -(2 ^ 64) < 2 * lap + c4 ∧ 2 * lap + c4 < 2 ^ 64 := by omega
    have r3 : -(2 ^ 64) < c3 ∧ c3 < 2 ^ 64 := by omega
    have r4 : -(2 ^ 64) < c1' ∧ c1' < 2 ^ 64 := by omega
    have t5 : evS Φ (dr5 ⟨c1, c2, m1, c3, c2', m2, c4, c1', c3', m3, dv, f1, f2, f3, f4⟩) [some (.cell i), some (.int many), none, some (.int lap), some (.int c), none] (M.set i (some (stairO ns (lap + 1) rest))) = .nx [some (.cell i), some (.int many), none, some (.int lap), some (.int c), none] (M.set i (some (stairO ns (lap + 1) rest))) := by
      by_cases hb1 : lap < ns.length
      · have hb3 : ¬ (1000000000000000000 : Int) ≤ (if c < 0 then -c else c) := fun z => hb ⟨hb1, z⟩
        simp [dr5, evSs, evS, evE, evL, evT, ix_cell h2, g1, stairO, bin_pow, hb1, hb3]
      · simp [dr5, evSs, evS, evE, evL, evT, ix_cell h2, g1, stairO, hb1]
    simp only [evSs]
    rw [t5]
    simp [dr6, dr7, dr8, evS, evE, evL, evT, bin_mod k3.1, bin_mod k6.1, bin_mod k10.1, bin_mulL r3, bin_mulL r4, bin_mulL, bin_mulR r1, bin_mulR r2, bin_pow, bin_fdiv k11.1 (log_small k11.1 k11.2), hx, q1, hy, hz, q2, bin_mod hm]
/-- a draw -/
theorem draw {P : List Df} {f : Nat} {d : Df} {k : Nat} {ns : List Int} {lap rest many : Int} {i : Nat} {M : Mem} (p : DrC) (hd : P[f]? = some d) (hb : d.body = drB p) (hps : d.ps.length = 2) (hN : d.N.length = 6) (hp : p.ok = true) (h : M[i]? = some (some (stairO ns lap rest)))
    (hm : 0 < many) (hlog : many.natAbs.log2 < 9000) (h0 : 0 ≤ lap) (h1 : lap ≤ 60000) :
    ∃ r lap' rest', evF P (k + 1) f [.cell i, .int many] M = .ok (.int r) (M.set i (some (stairO ns lap' rest'))) ∧ 0 ≤ r ∧ r < many ∧ 0 ≤ lap' ∧ lap' ≤ lap + 1 := by
  rw [evF_at (d := d) k _ _ hd (by simp [hps]), hb, hN]
  have g1 : ∀ a b c : D, atI [a, b, c] 0 = some a := fun _ _ _ => rfl
  have g2 : ∀ a b c : D, atI [a, b, c] 1 = some b := fun _ _ _ => rfl
  have g3 : ∀ a b c : D, atI [a, b, c] 2 = some c := fun _ _ _ => rfl
  have x2 : ixN 3 2 = some 2 := rfl
  by_cases hr : 0 < rest
  · refine ⟨rest % many, lap, rest / many, ?_, Int.emod_nonneg _ (by omega), Int.emod_lt_of_pos _ hm, h0, by omega⟩
    have h' : M[i]? = some (some (.lst [.lst (ns.map D.int), .int lap, .int rest])) := h
    cases e1 : p.f1 <;> cases e2 : p.f2 <;> simp [drB, dr0, e1, e2, vr, evSs, evS, evE, evL, evT, ix_cell h', g3, hr, bin_fdiv hm hlog, bin_mod hm, h', x2, stairO]
  · have hc1 : -(2 ^ 64) < p.c1 ∧ p.c1 < 2 ^ 64 := by
      simp only [DrC.ok, List.all_cons, Bool.and_eq_true, sml, decide_eq_true_eq] at hp
      omega
    obtain ⟨c, hc⟩ := dr_head (Φ := evF P k) (many := many) (p := p) h hr h0 hc1
    obtain ⟨r, rest', ht, b1, b2⟩ := dr_tail (Φ := evF P k) h hm hlog h0 h1 hp c
    refine ⟨r, lap + 1, rest', ?_, b1, b2, by omega, by omega⟩
    have e := (evSs_split (ys := [dr5 p, dr6 p, dr7 p, dr8 p]) hc).trans ht
    show tidy _ (bodyRes (evSs (evF P k) ([dr0 p, dr1, dr2, dr3 p, dr4] ++ [dr5 p, dr6 p, dr7 p, dr8 p]) [some (.cell i), some (.int many), none, none, none, none] M)) = _
    rw [e]
    simp
/-- one of a list -/
theorem drawOf {P : List Df} {f g : Nat} {d e : Df} {k : Nat} {ns : List Int} {lap rest : Int} {i : Nat} {M : Mem} (p : DrC) (hd : P[f]? = some d) (hb : d.body = drB p) (hps : d.ps.length = 2) (hN : d.N.length = 6) (hp : p.ok = true)
    (he : P[g]? = some e) (heb : e.body = [.ret (.ix (.var 1) (.call f [.var 0, .bi .len [.var 1]] [] [0, 1]))]) (heps : e.ps.length = 2) (heN : e.N.length = 2) (h : M[i]? = some (some (stairO ns lap rest)))
    (xs : List D) (hx : xs ≠ []) (hx2 : xs.length < 2147483648) (h0 : 0 ≤ lap) (h1 : lap ≤ 60000) :
    ∃ x lap' rest', evF P (k + 2) g [.cell i, .lst xs] M = .ok x (M.set i (some (stairO ns lap' rest'))) ∧ x ∈ xs ∧ 0 ≤ lap' ∧ lap' ≤ lap + 1 := by
  have hl : 0 < xs.length := List.length_pos_iff.mpr hx
  obtain ⟨r, lap', rest', q, b1, b2, b3, b4⟩ := draw (k := k) (many := xs.length) p hd hb hps hN hp h (by omega) (log_small (by omega) (by omega)) h0 h1
  obtain ⟨m, rfl⟩ : ∃ m : Nat, r = m := ⟨r.toNat, by omega⟩
  refine ⟨xs[m]'(by omega), lap', rest', ?_, List.getElem_mem _, b3, b4⟩
  rw [evF_at (d := e) (k + 1) _ _ he (by simp [heps]), heb, heN]
  have ha : atI xs (m : Int) = some (xs[m]'(by omega)) := atI_nat (j := m) (List.getElem?_eq_getElem (by omega))
  simp [evSs, evS, evE, evL, evK, q, ha]
/-- the start -/
theorem drawStart {P : List Df} {f : Nat} {d : Df} {k : Nat} (ns : List Int) (hd : P[f]? = some d) (hb : d.body = [.ret (.mls [.lc (.bi .int [.var 1]) (.nm 1) (.seq (.slc (.var 0) none (some (.int 60)))) none [1], .int 0, .int 0])]) (hps : d.ps.length = 1) (hN : d.N.length = 2) :
    evF P (k + 1) f [.scr (ns.map D.int)] [] = .ok (.cell 0) [some (stairO (ns.take 60) 0 0)] := by
  rw [evF_at (d := d) k _ _ hd (by simp [hps]), hb, hN]
  have h60 : cutD (ns.map D.int) none (some 60) = (ns.take 60).map D.int := by
    rw [show (60 : Int) = ((60 : Nat) : Int) from rfl, cut_front, List.map_take]
  have hl := evE_lcm (Φ := evF P k) (e := .bi .int [.var 1]) (t := .nm 1) (it := .seq (.slc (.var 0) none (some (.int 60)))) (c := none) (vs := [1]) (σ := [some (.scr (ns.map D.int)), none]) (M := []) (M1 := []) (ds := (ns.take 60).map D.int) (g := fun x => x)
    (by simp [evI, evE, evO, slcD, seqL, h60]) (fun x hx => by
      obtain ⟨i, _, rfl⟩ := List.mem_map.mp hx
      simp [lcF, evT, evC, evE, evL, wipeD, evBi]) (by simp [sizeLine_eq]; omega)
  show tidy _ (bodyRes (evSs (evF P k) _ [some (.scr (ns.map D.int)), none] [])) = _
  simp [hl, sizeLine_eq, stairO, tidy, spare, Function.comp_def]
end
end Ev
/-! Ev21: what repr writes of small data; == of equal data. -/
namespace Ev
open PySem L2
/-! small data, and how much of it there may be -/
def sgnOk (s : Str) : Bool := s.cps.toList.all fun c => decide (c < 16 ^ 8)
mutual
def small : PyData → Bool
  | .none => true
  | .bool _ => true
  | .int i => decide (-(10 ^ 45) < i ∧ i < 10 ^ 45)
  | .str s => sgnOk s
  | .list xs => smalls xs
  | .tuple xs => smalls xs
  | .dict kvs => smallK kvs
def smalls : List PyData → Bool
  | [] => true
  | x :: xs => small x && smalls xs
def smallK : List (PyData × PyData) → Bool
  | [] => true
  | (k, v) :: r => small k && small v && smallK r
end
mutual
def wt : PyData → Nat
  | .none => 4
  | .bool _ => 5
  | .int _ => 46
  | .str s => 10 * s.length + 2
  | .list xs => wts xs + 2
  | .tuple xs => wts xs + 3
  | .dict kvs => wtK kvs + 2
def wts : List PyData → Nat
  | [] => 0
  | x :: xs => wt x + 2 + wts xs
def wtK : List (PyData × PyData) → Nat
  | [] => 0
  | (k, v) :: r => wt k + wt v + 4 + wtK r
end
theorem textFrom_le : ∀ (ts : List Str) (k : Nat) (acc : Str), (textFrom k acc ts).length ≤ acc.length + piled ts
  | [], k, acc => Nat.le_add_right _ _
  | u :: ts, k, acc => by
    have ih := textFrom_le ts (k + 1) (acc ++ (if k > 0 then ", " else "" : String) ++ u)
    have e : ((if k > 0 then ", " else "" : String) : Str).length ≤ 2 := by split <;> decide
    rw [Str.length_append, Str.length_append] at ih
    rw [piled_cons]
    show (textFrom (k + 1) _ ts).length ≤ _
    omega
theorem join_le (ts : List Str) : (Str.join ", " ts).length ≤ piled ts := by
  cases ts with
  | nil => exact Nat.zero_le _
  | cons u ts =>
    have := join_length_add (u :: ts) (by simp)
    omega
theorem intText_le {i : Int} (h : -(10 ^ 45) < i ∧ i < 10 ^ 45) : (((toString i : String)) : Str).length ≤ 46 := by
  by_cases h0 : 0 ≤ i
  · exact Nat.le_trans (PyProof.Rows.toString_length_le h0 (k := 45) (by decide) h.2) (by decide)
  · have e : ((toString i : String) : Str).length = ((toString (-i) : String) : Str).length + 1 := by
      have e1 := PyProof.Rows.toString_neg (n := i) (by omega)
      rw [e1, show (0 - i) = -i by omega]
      show (Str.ofString ("-" ++ toString (-i))).length = (Str.ofString (toString (-i))).length + 1
      rw [PyProof.Rows.ofString_length, PyProof.Rows.ofString_length, String.toList_append, List.length_append]
      exact Nat.add_comm _ _
    have := PyProof.Rows.toString_length_le (v := -i) (by omega) (k := 45) (by decide) (by omega)
    rw [e]
    exact Nat.succ_le_succ this
mutual
theorem shown_le : ∀ p : PyData, small p = true → p.shown.length ≤ wt p
  | .none, _ => by simp only [PyData.shown, wt]; decide
  | .bool b, _ => by simp only [PyData.shown, wt]; cases b <;> decide
  | .int i, h => by
    simp only [small, decide_eq_true_eq] at h
    simp only [PyData.shown, wt]
    exact intText_le h
  | .str s, h => by
    simp only [small, sgnOk, List.all_eq_true, decide_eq_true_eq] at h
    simp only [PyData.shown, wt]
    exact PySem.StrLaws.reprText_len s h
  | .list xs, h => by
    simp only [small] at h
    simp only [PyData.shown, wt]
    have h1 := shownAll_le xs h
    have h2 := textFrom_le (PyData.shownAll xs) 0 "["
    have h3 : (("[" : String) : Str).length = 1 := rfl
    have h4 : (("]" : String) : Str).length = 1 := rfl
    unfold listText
    rw [Str.length_append]
    omega
  | .tuple xs, h => by
    simp only [small] at h
    simp only [PyData.shown, wt]
    have h1 := shownAll_le xs h
    have h2 := join_le (PyData.shownAll xs)
    unfold tupleText
    rw [Str.length_append, Str.length_append, show (("(" : String) : Str).length = 1 from rfl]
    have h5 : ((if (PyData.shownAll xs).length == 1 then ",)" else ")" : String) : Str).length ≤ 2 := by split <;> decide
    omega
  | .dict kvs, h => by
    simp only [small] at h
    simp only [PyData.shown, wt]
    have h1 := shownKv_le kvs h
    have h2 := join_le (PyData.shownKv kvs)
    unfold dictText
    rw [Str.length_append, Str.length_append, show (("{" : String) : Str).length = 1 from rfl, show (("}" : String) : Str).length = 1 from rfl]
    omega
theorem shownKv_le : ∀ kvs : List (PyData × PyData), smallK kvs = true → piled (PyData.shownKv kvs) ≤ wtK kvs
  | [], _ => Nat.le_refl _
  | (k, v) :: r, h => by
    simp only [smallK, Bool.and_eq_true] at h
    simp only [PyData.shownKv, wtK, piled_cons]
    have h1 := shown_le k h.1.1
    have h2 := shown_le v h.1.2
    have h3 := shownKv_le r h.2
    rw [Str.length_append, Str.length_append, show ((": " : String) : Str).length = 2 from rfl]
    omega
theorem shownAll_le : ∀ ps : List PyData, smalls ps = true → piled (PyData.shownAll ps) ≤ wts ps
  | [], _ => Nat.le_refl _
  | p :: ps, h => by
    simp only [smalls, Bool.and_eq_true] at h
    simp only [PyData.shownAll, wts, piled_cons]
    have h1 := shown_le p h.1
    have h2 := shownAll_le ps h.2
    omega
end
set_option exponentiation.threshold 3000 in
theorem log45 {i : Int} (h : -(10 ^ 45) < i ∧ i < 10 ^ 45) : i.natAbs.log2 < 1920 := by
  by_cases z : i.natAbs = 0
  · rw [z]; decide
  · refine (Nat.log2_lt z).mpr ?_
    have e : (10 : Int) ^ 45 = ((10 ^ 45 : Nat) : Int) := by decide
    have : i.natAbs < 10 ^ 45 := by omega
    exact Nat.lt_of_lt_of_le this (by decide)
mutual
theorem showable_small : ∀ p : PyData, small p = true → p.showable = true
  | .none, _ => by simp only [PyData.showable]
  | .bool b, _ => by simp only [PyData.showable]
  | .int i, h => by
    simp only [small, decide_eq_true_eq] at h
    simp only [PyData.showable, decide_eq_true_eq]
    exact log45 h
  | .str s, _ => by simp only [PyData.showable]
  | .list xs, h => by
    simp only [small] at h
    simp only [PyData.showable]
    exact showables_small xs h
  | .tuple xs, h => by
    simp only [small] at h
    simp only [PyData.showable]
    exact showables_small xs h
  | .dict kvs, h => by
    simp only [small] at h
    simp only [PyData.showable]
    exact showableKv_small kvs h
theorem showableKv_small : ∀ kvs : List (PyData × PyData), smallK kvs = true → PyData.showableKv kvs = true
  | [], _ => by simp only [PyData.showableKv]
  | (k, v) :: r, h => by
    simp only [smallK, Bool.and_eq_true] at h
    simp only [PyData.showableKv, Bool.and_eq_true]
    exact ⟨⟨showable_small k h.1.1, showable_small v h.1.2⟩, showableKv_small r h.2⟩
theorem showables_small : ∀ ps : List PyData, smalls ps = true → PyData.showableAll ps = true
  | [], _ => by simp only [PyData.showableAll]
  | p :: ps, h => by
    simp only [smalls, Bool.and_eq_true] at h
    simp only [PyData.showableAll, Bool.and_eq_true]
    exact ⟨showable_small p h.1, showables_small ps h.2⟩
end
/-- repr of small data -/
theorem repr_small {M : Mem} {d : D} {p : PyData} (h : toPd (now M d) = some p) (hs : small p = true) (hd : p.depth ≤ 40) (hw : wt p ≤ 16777216) : evBi .repr [d] M = some (.str p.shown) := by
  simp only [evBi, h]
  rw [if_pos ⟨showable_small p hs, hd, by rw [sizeLine_eq]; exact Nat.le_trans (shown_le p hs) hw⟩]
theorem repr_small2 {M : Mem} {d : D} {p : PyData} (h0 : toPd (now M d) = none) (h : toPr (now M d) = some p) (hs : small p = true) (hd : p.depth ≤ 40) (hw : wt p ≤ 16777216) : evBi .repr [d] M = some (.str p.shown) := by
  simp only [evBi, h0, h]
  rw [if_pos ⟨showable_small p hs, hd, by rw [sizeLine_eq]; exact Nat.le_trans (shown_le p hs) hw⟩]
theorem now_tup {M : Mem} {xs : List D} : now M (.tup xs) = .tup xs := rfl
theorem now_lst {M : Mem} {xs : List D} : now M (.lst xs) = .lst xs := rfl
theorem now_int {M : Mem} {i : Int} : now M (.int i) = .int i := rfl
theorem now_bl {M : Mem} {b : Bool} : now M (.bl b) = .bl b := rfl
theorem now_non {M : Mem} : now M .non = .non := rfl
theorem now_str {M : Mem} {s : Str} : now M (.str s) = .str s := rfl
/-- equal data are equal -/
theorem eqD_same {M : Mem} {x y : D} {p : PyData} (h1 : toPd (now M x) = some p) (h2 : toPd (now M y) = some p) (hs : shapedB p = true) : eqD M x y = some true := by
  unfold eqD
  rw [h1, h2]
  simp only [hs, Bool.and_self, if_true]
  rw [SeqAt.eqv_refl p (SeqAt.canLay_of_shaped hs)]
theorem eqM_same {M : Mem} {x y : D} {p : PyData} (h1 : toPd (now M x) = some p) (h2 : toPd (now M y) = some p) (hs : shapedB p = true) : eqM M x y = some true := by
  unfold eqM
  split
  · simp only [now, seqL, toPd, Option.some.injEq] at h1 h2
    subst h1
    cases h2
    simp
  · simp only [now, seqL, toPd, Option.some.injEq] at h1 h2
    subst h1
    cases h2
    simp
  · exact eqD_same h1 h2 hs
end Ev
/-! Ev22: the program's checks and words, whatever the law. -/
namespace Ev
open PySem L2
/-- a def with this body, so many parameters, so many names -/
def At (P : List Df) (f : Nat) (b : List Sx) (n m : Nat) : Prop := ∃ d, P[f]? = some d ∧ d.body = b ∧ d.ps.length = n ∧ d.N.length = m
section
variable {P : List Df} {k : Nat} {M : Mem}
theorem At.ev {f n m : Nat} {b : List Sx} (h : At P f b n m) (ds : List D) (hl : ds.length = n) : evF P (k + 1) f ds M = tidy M.length (bodyRes (evSs (evF P k) b (ds.map some ++ List.replicate (m - n) none) M)) := by
  obtain ⟨d, h1, h2, h3, h4⟩ := h
  rw [evF_at (d := d) k ds M h1 (by rw [hl, h3]), h2, h4, hl]
theorem At.ev1 {f m : Nat} {b : List Sx} (h : At P f b 1 m) (x : D) : evF P (k + 1) f [x] M = tidy M.length (bodyRes (evSs (evF P k) b (some x :: List.replicate (m - 1) none) M)) := h.ev [x] rfl
theorem At.ev2 {f m : Nat} {b : List Sx} (h : At P f b 2 m) (x y : D) : evF P (k + 1) f [x, y] M = tidy M.length (bodyRes (evSs (evF P k) b (some x :: some y :: List.replicate (m - 2) none) M)) := h.ev [x, y] rfl
theorem At.ev3 {f m : Nat} {b : List Sx} (h : At P f b 3 m) (x y z : D) : evF P (k + 1) f [x, y, z] M = tidy M.length (bodyRes (evSs (evF P k) b (some x :: some y :: some z :: List.replicate (m - 3) none) M)) := h.ev [x, y, z] rfl
theorem At.ev4 {f m : Nat} {b : List Sx} (h : At P f b 4 m) (x y z u : D) : evF P (k + 1) f [x, y, z, u] M = tidy M.length (bodyRes (evSs (evF P k) b (some x :: some y :: some z :: some u :: List.replicate (m - 4) none) M)) := h.ev [x, y, z, u] rfl

/-! ### checks -/
def isIntB : List Sx := [.ret (.and (.isi (.var 0) ["int"]) (.not (.isi (.var 0) ["bool"])))]
def withinB (f : Nat) : List Sx := [.ifs (.not (.call f [.var 0] [] [0])) [.ret (.bl false)] [], .ret (.and (.or (.cmp .is (.var 1) .non) (.cmp .ge (.var 0) (.var 1))) (.or (.cmp .is (.var 2) .non) (.cmp .le (.var 0) (.var 2))))]
def letterB (f : Nat) : List Sx := [.ret (.call f [.var 0, .int 0, .bin .sub (.var 1) (.int 1)] [] [0, 1, 2])]
def wordB (f g : Nat) : List Sx := [.ifs (.or (.not (.isi (.var 0) ["list", "tuple"])) (.not (.call f [.bi .len [.var 0], .int 1, .int 200] [] [0, 1, 2]))) [.ret (.bl false)] [], .ret (.bi .all [.lc (.call g [.var 2, .var 1] [] [0, 1]) (.nm 2) (.seq (.var 0)) none [2]])]
theorem isi_li {i : Int} {ts : List String} (h : ts.all tyAsk.contains = true) : isiD ts (.int i) = some (ts.any ["int"].contains) := by
  simp only [isiD, tyOf]
  rw [if_pos h]
@[simp] theorem isi_int_int {i : Int} : isiD ["int"] (.int i) = some true := rfl
@[simp] theorem isi_int_bool {i : Int} : isiD ["bool"] (.int i) = some false := rfl
@[simp] theorem isi_lt_lst {xs : List D} : isiD ["list", "tuple"] (.lst xs) = some true := rfl
@[simp] theorem isi_lt_tup {xs : List D} : isiD ["list", "tuple"] (.tup xs) = some true := rfl
@[simp] theorem isi_lt_scr {xs : List D} : isiD ["list", "tuple"] (.scr xs) = some true := rfl
theorem isInt_ok {f : Nat} (h : At P f isIntB 1 1) (i : Int) : evF P (k + 1) f [.int i] M = .ok (.bl true) M := by
  rw [h.ev1]
  simp [isIntB]
/-- a bound -/
def bdD : Option Int → D
  | none => .non
  | some i => .int i
theorem within_ok {f g : Nat} (h : At P f (withinB g) 3 3) (hg : At P g isIntB 1 1) (i : Int) (lo hi : Option Int) : evF P (k + 2) f [.int i, bdD lo, bdD hi] M = .ok (.bl ((lo.all fun a => decide (a ≤ i)) && (hi.all fun a => decide (i ≤ a)))) M := by
  rw [h.ev3]
  cases lo with
  | none => cases hi <;> simp [withinB, isInt_ok hg, bdD]
  | some a => by_cases z : a ≤ i <;> cases hi <;> simp [withinB, isInt_ok hg, bdD, z]
theorem within_iff {f g : Nat} (h : At P f (withinB g) 3 3) (hg : At P g isIntB 1 1) (i a b : Int) : evF P (k + 2) f [.int i, .int a, .int b] M = .ok (.bl (decide (a ≤ i) && decide (i ≤ b))) M := within_ok h hg i (some a) (some b)
theorem letter_iff {f g e : Nat} (h : At P f (letterB g) 2 2) (hg : At P g (withinB e) 3 3) (he : At P e isIntB 1 1) (i L : Int) : evF P (k + 3) f [.int i, .int L] M = .ok (.bl (decide (0 ≤ i) && decide (i ≤ L - 1))) M := by
  rw [h.ev2]
  simp [letterB, within_iff hg he]
/-! words, as data -/
def ltD (n : Nat) : D := .int n
def wdL (w : List Nat) : D := .lst (w.map ltD)
def wdT (w : List Nat) : D := .tup (w.map ltD)
/-- a word over so many letters -/
def Wd' (L : Nat) (w : List Nat) : Prop := w ≠ [] ∧ w.length ≤ 200 ∧ ∀ n ∈ w, n < L
theorem isWord_seq {f g e a : Nat} (h : At P f (wordB g e) 2 3) (hg : At P g (withinB a) 3 3) (ha : At P a isIntB 1 1) (he : At P e (letterB g) 2 2) (L : Nat) (w : List Nat) (hw : Wd' L w) (x : D) (hx : x = wdL w ∨ x = wdT w) :
    evF P (k + 4) f [x, .int L] M = .ok (.bl true) M := by
  obtain ⟨h1, h2, h3⟩ := hw
  have hl : 1 ≤ w.length := List.length_pos_iff.mpr h1
  rw [h.ev2]
  have i1 : isiD ["list", "tuple"] x = some true := by rcases hx with rfl | rfl <;> rfl
  have i2 : seqA M x = some (w.map ltD) := by rcases hx with rfl | rfl <;> rfl
  have hc := evE_lcm (Φ := evF P (k + 3)) (e := .call e [.var 2, .var 1] [] [0, 1]) (t := .nm 2) (it := .seq (.var 0)) (c := none) (vs := [2]) (σ := [some x, some (.int L), none]) (M := M) (M1 := M) (ds := w.map ltD) (g := fun _ => .bl true)
    (by rcases hx with rfl | rfl <;> simp [wdL, wdT]) (fun y hy => by
      obtain ⟨n, hn, rfl⟩ := List.mem_map.mp hy
      have := h3 n hn
      have q := letter_iff (k := k) (M := M) he hg ha (n : Int) L
      rw [decide_eq_true (by omega : (0 : Int) ≤ n), decide_eq_true (by omega : (n : Int) ≤ L - 1)] at q
      simp [lcF, ltD, q]) (by rw [List.length_map, sizeLine_eq]; omega)
  have hb : evBi .all [.lst ((w.map ltD).map fun _ => D.bl true)] M = some (.bl true) := by
    have e1 : ∀ zs : List Nat, blsD ((zs.map ltD).map fun _ => D.bl true) = some (zs.map fun _ => true) := fun zs => by
      induction zs with
      | nil => rfl
      | cons z zs ih => simp only [List.map_cons, blsD, ih, Option.map_some]
    simp only [evBi, seqL, Option.bind_some, e1, Option.map_some]
    simp
  have hl' : decide ((1 : Int) ≤ (w.length : Int)) = true := decide_eq_true (by omega)
  have hl2 : decide ((w.length : Int) ≤ 200) = true := decide_eq_true (by omega)
  simp [wordB, i1, i2, within_iff hg ha, hl', hl2, hc, hb, -List.map_map]
/-! demands -/
def demNumB (f : Nat) : List Sx := [.ifs (.not (.call f [.var 0, .var 1, .var 2] [] [0, 1, 2])) [.nev] []]
def demWordB (f : Nat) : List Sx := [.ifs (.not (.call f [.var 0, .var 1] [] [0, 1])) [.nev] []]
theorem demNum_ok {f g e : Nat} (h : At P f (demNumB g) 4 4) (hg : At P g (withinB e) 3 3) (he : At P e isIntB 1 1) (i a b : Int) (x : D) (h1 : a ≤ i) (h2 : i ≤ b) : evF P (k + 3) f [.int i, .int a, .int b, x] M = .ok .non M := by
  rw [h.ev4]
  simp [demNumB, within_iff hg he, h1, h2]
theorem demNum_from {f g e : Nat} (h : At P f (demNumB g) 4 4) (hg : At P g (withinB e) 3 3) (he : At P e isIntB 1 1) (i a : Int) (x : D) (h1 : a ≤ i) : evF P (k + 3) f [.int i, .int a, .non, x] M = .ok .non M := by
  have q := within_ok (k := k) (M := M) hg he i (some a) none
  simp only [bdD] at q
  rw [h.ev4]
  simp [demNumB, q, h1]
theorem demWord_ok {f g e a b : Nat} (h : At P f (demWordB g) 3 3) (hg : At P g (wordB e a) 2 3) (he : At P e (withinB b) 3 3) (hb : At P b isIntB 1 1) (ha : At P a (letterB e) 2 2) (L : Nat) (w : List Nat) (hw : Wd' L w) (x y : D) (hx : x = wdL w ∨ x = wdT w) :
    evF P (k + 5) f [x, .int L, y] M = .ok .non M := by
  rw [h.ev3]
  simp [demWordB, isWord_seq hg he hb ha L w hw x hx]
end
end Ev
/-! Ev23: all words, the next word, words from behind. -/
namespace Ev
open PySem L2
/-! ### the mathematics -/
/-- all words of n letters, ascending -/
def allW (L : Nat) : Nat → List (List Nat)
  | 0 => [[]]
  | n + 1 => (allW L n).flatMap fun w => (List.range L).map fun l => w ++ [l]
theorem allW_len (L : Nat) : ∀ n, (allW L n).length = L ^ n
  | 0 => rfl
  | n + 1 => by
    have e : ∀ ws : List (List Nat), (ws.flatMap fun w => (List.range L).map fun l => w ++ [l]).length = ws.length * L := fun ws => by
      induction ws with
      | nil => simp
      | cons w ws ih => simp [ih, Nat.add_mul, Nat.add_comm]
    rw [allW, e, allW_len L n, Nat.pow_succ]
theorem allW_mem {L : Nat} : ∀ {n : Nat} {w : List Nat}, w ∈ allW L n → w.length = n ∧ ∀ x ∈ w, x < L
  | 0, w, h => by
    simp only [allW, List.mem_singleton] at h
    subst h
    exact ⟨rfl, fun x hx => by cases hx⟩
  | n + 1, w, h => by
    simp only [allW, List.mem_flatMap, List.mem_map, List.mem_range] at h
    obtain ⟨u, hu, l, hl, rfl⟩ := h
    obtain ⟨h1, h2⟩ := allW_mem hu
    refine ⟨by simp [h1], fun x hx => ?_⟩
    rcases List.mem_append.mp hx with z | z
    · exact h2 x z
    · rw [List.mem_singleton.mp z]; exact hl
/-- a number's lowest n figures -/
def figs (L : Nat) : Nat → Nat → List Nat
  | 0, _ => []
  | n + 1, x => figs L n (x / L) ++ [x % L]
theorem figs_len (L : Nat) : ∀ n x, (figs L n x).length = n
  | 0, _ => rfl
  | n + 1, x => by simp [figs, figs_len L n]
theorem figs_front (L : Nat) : ∀ n x, figs L (n + 1) x = (x / L ^ n % L) :: figs L n x
  | 0, x => by simp [figs]
  | n + 1, x => by
    rw [figs, figs_front L n (x / L), figs]
    simp only [List.cons_append]
    rw [Nat.div_div_eq_div_mul, ← Nat.pow_succ']
theorem range_mul (a L : Nat) : List.range (a * L) = (List.range a).flatMap fun i => (List.range L).map fun l => i * L + l := by
  induction a with
  | zero => simp
  | succ a ih =>
    rw [Nat.add_mul, Nat.one_mul, List.range_add, ih, List.range_succ, List.flatMap_append]
    simp
theorem figs_all {L : Nat} (hL : 0 < L) : ∀ n, (List.range (L ^ n)).map (figs L n) = allW L n
  | 0 => rfl
  | n + 1 => by
    rw [Nat.pow_succ, range_mul, List.map_flatMap, allW, ← figs_all hL n, List.flatMap_map]
    refine congrArg List.flatten (List.map_congr_left fun i _ => ?_)
    simp only [List.map_map, Function.comp_def]
    refine List.map_congr_left fun l hl => ?_
    have hl' := List.mem_range.mp hl
    rw [figs, Nat.mul_comm i L, Nat.mul_add_div hL, Nat.div_eq_of_lt hl', Nat.mul_add_mod, Nat.mod_eq_of_lt hl', Nat.add_zero]
theorem figs_lt {L : Nat} (hL : 0 < L) : ∀ n x y, y ∈ figs L n x → y < L
  | 0, _, y, h => by cases h
  | n + 1, x, y, h => by
    rw [figs] at h
    rcases List.mem_append.mp h with z | z
    · exact figs_lt hL n _ y z
    · rw [List.mem_singleton.mp z]; exact Nat.mod_lt _ hL
/-- how many of the greatest letters stand last -/
def trail (m : Nat) (w : List Nat) : Nat := (w.reverse.takeWhile fun x => x == m).length
theorem trail_le (m : Nat) (w : List Nat) : trail m w ≤ w.length := by
  unfold trail
  have h := (List.takeWhile_prefix (p := fun x => x == m) (l := w.reverse)).length_le
  simpa using h
theorem trail_snoc (m : Nat) (w : List Nat) (x : Nat) : trail m (w ++ [x]) = if x = m then trail m w + 1 else 0 := by
  unfold trail
  rw [List.reverse_append, List.reverse_singleton, List.singleton_append, List.takeWhile_cons]
  by_cases h : x = m <;> simp [h]
/-- the next word -/
def nxt (L : Nat) (w : List Nat) : List Nat :=
  if trail (L - 1) w < w.length then w.take (w.length - 1 - trail (L - 1) w) ++ [(w.getD (w.length - 1 - trail (L - 1) w) 0) + 1] ++ List.replicate (trail (L - 1) w) 0
  else List.replicate (w.length + 1) 0
theorem nxt_snoc (L : Nat) (w : List Nat) (x : Nat) : nxt L (w ++ [x]) = if x = L - 1 then (if trail (L - 1) w < w.length then nxt L w ++ [0] else List.replicate (w.length + 2) 0) else w ++ [x + 1] := by
  have tl := trail_le (L - 1) w
  unfold nxt
  rw [trail_snoc]
  by_cases hx : x = L - 1
  · simp only [hx, if_true, List.length_append, List.length_singleton]
    by_cases ht : trail (L - 1) w < w.length
    · have e : w.length + 1 - 1 - (trail (L - 1) w + 1) = w.length - 1 - trail (L - 1) w := by omega
      rw [if_pos (by omega), if_pos ht, if_pos ht, e, List.take_append_of_le_length (by omega)]
      simp only [List.getD_eq_getElem?_getD]
      rw [List.getElem?_append_left (by omega), List.replicate_succ']
      simp
    · rw [if_neg (by omega), if_neg ht]
  · simp only [hx, if_false, List.length_append, List.length_singleton]
    rw [if_pos (by omega)]
    simp
theorem figs_trail {L : Nat} (hL : 0 < L) : ∀ n x, x < L ^ n → (trail (L - 1) (figs L n x) < n ↔ x + 1 < L ^ n)
  | 0, x, h => by simp at h ⊢
  | n + 1, x, h => by
    rw [figs, trail_snoc]
    have hq : x / L < L ^ n := Nat.div_lt_of_lt_mul (by rw [← Nat.pow_succ']; exact h)
    have ih := figs_trail hL n (x / L) hq
    have ml := Nat.mod_lt x hL
    have e := Nat.div_add_mod x L
    have e2 : L ^ (n + 1) = L * L ^ n := Nat.pow_succ'
    by_cases hx : x % L = L - 1
    · rw [if_pos hx, e2]
      constructor
      · intro t
        have := ih.mp (by omega)
        have h3 : L * (x / L + 1 + 1) ≤ L * L ^ n := Nat.mul_le_mul_left _ (by omega)
        rw [Nat.mul_add, Nat.mul_add] at h3
        omega
      · intro t
        have : x / L + 1 < L ^ n := by
          by_cases z : x / L + 1 < L ^ n
          · exact z
          · have : L * (x / L + 1) ≥ L * L ^ n := Nat.mul_le_mul_left _ (by omega)
            rw [Nat.mul_add] at this
            omega
        have := ih.mpr this
        omega
    · rw [if_neg hx, e2]
      constructor
      · intro _
        have h3 : L * (x / L + 1) ≤ L * L ^ n := Nat.mul_le_mul_left _ (by omega)
        rw [Nat.mul_add] at h3
        omega
      · intro _; omega
theorem figs_next {L : Nat} (hL : 0 < L) : ∀ n x, x < L ^ n → nxt L (figs L n x) = if x + 1 < L ^ n then figs L n (x + 1) else List.replicate (n + 1) 0
  | 0, x, h => by
    have : x = 0 := by simpa using h
    subst this
    simp [figs, nxt]
  | n + 1, x, h => by
    have hq : x / L < L ^ n := Nat.div_lt_of_lt_mul (by rw [← Nat.pow_succ']; exact h)
    have ih := figs_next hL n (x / L) hq
    have tr := figs_trail hL n (x / L) hq
    have tr2 := figs_trail hL (n + 1) x h
    have ml := Nat.mod_lt x hL
    have e := Nat.div_add_mod x L
    rw [figs] at tr2 ⊢
    rw [trail_snoc] at tr2
    rw [nxt_snoc, figs_len]
    by_cases hx : x % L = L - 1
    · rw [if_pos hx] at tr2 ⊢
      have d1 : (x + 1) / L = x / L + 1 := by
        have : x + 1 = L * (x / L + 1) := by rw [Nat.mul_add]; omega
        rw [this, Nat.mul_div_cancel_left _ hL]
      have d2 : (x + 1) % L = 0 := by
        have : x + 1 = L * (x / L + 1) := by rw [Nat.mul_add]; omega
        rw [this, Nat.mul_mod_right]
      by_cases ht : trail (L - 1) (figs L n (x / L)) < n
      · rw [if_pos ht, if_pos (tr2.mp (by omega)), ih, if_pos (tr.mp ht), figs, d1, d2]
      · rw [if_neg ht, if_neg fun z => ht (by have := tr2.mpr z; omega)]
    · rw [if_neg hx] at tr2 ⊢
      have d1 : (x + 1) / L = x / L := by
        rw [show x + 1 = x % L + 1 + L * (x / L) by omega, Nat.add_mul_div_left _ _ hL, Nat.div_eq_of_lt (by omega), Nat.zero_add]
      have d2 : (x + 1) % L = x % L + 1 := by
        rw [show x + 1 = x % L + 1 + L * (x / L) by omega, Nat.add_mul_mod_self_left, Nat.mod_eq_of_lt (by omega)]
      rw [if_pos (tr2.mp (by omega)), figs, d1, d2]
end Ev
/-! Ev24: words in the program: all of a length, the next one, from behind. -/
namespace Ev
open PySem L2
theorem mulOk_R {i j : Int} (h : -(2 ^ 64) < j ∧ j < 2 ^ 64) : mulOk i j = true := decide_eq_true (.inr (.inl h))
theorem mulOk_L {i j : Int} (h : -(2 ^ 64) < i ∧ i < 2 ^ 64) : mulOk i j = true := decide_eq_true (.inl h)
theorem rng_nat (n : Nat) (h : n < 1000000) : rngD 0 (n : Int) = some ((List.range n).map ltD) := by
  unfold rngD
  rw [if_pos (by omega)]
  congr 1
  rw [show ((n : Int) - 0).toNat = n by omega]
  refine List.map_congr_left fun k _ => ?_
  show D.int (0 + (k : Int)) = .int k
  rw [Int.zero_add]
section
variable {Φ : Nat → List D → Mem → Res D} {σ : Env'} {M : Mem}
theorem evI_rngN {a : Ex} {n : Nat} (ha : evE Φ a σ M = .ok (.int n) M) (h : n < 1000000) : evI Φ (.rng1 a) σ M = .ok ((List.range n).map ltD) M := evI_rng1 ha (rng_nat n h)
/-- two-fold comprehensions without tests -/
theorem lc2Go_map {f : D → List D → Mem → Res (List D)} {G : D → List D} : ∀ {xs acc : List D}, (∀ x ∈ xs, ∀ acc, acc.length + (G x).length ≤ sizeLine → f x acc M = .ok (acc ++ G x) M) → acc.length + (xs.flatMap G).length ≤ sizeLine → lc2Go f xs acc M = .ok (acc ++ xs.flatMap G) M
  | [], acc, _, _ => by simp [lc2Go]
  | x :: xs, acc, h, hl => by
    simp only [List.flatMap_cons, List.length_append] at hl
    rw [lc2Go, h x (List.mem_cons_self ..) acc (by omega)]
    simp only
    rw [lc2Go_map (fun y hy => h y (List.mem_cons_of_mem _ hy)) (by simp only [List.length_append]; omega), List.flatMap_cons, List.append_assoc]
theorem evE_lc2m {e : Ex} {t t1 : Tg} {it it1 : It} {vs vs1 : List Nat} {M1 : Mem} {ds : List D} {ds1 : D → List D} {g : D → D → D} (hi : evI Φ it σ M = .ok ds M1)
    (h : ∀ x ∈ ds, ∃ σ3, evT Φ t x (wipeD σ vs) M1 = .ok σ3 M1 ∧ evI Φ it1 σ3 M1 = .ok (ds1 x) M1 ∧ ∀ y ∈ ds1 x, lcF Φ e t1 none vs1 σ3 y M1 = .ok (some (g x y)) M1)
    (hl : (ds.flatMap fun x => (ds1 x).map (g x)).length ≤ sizeLine) : evE Φ (.lc2 e t it none t1 it1 none vs vs1) σ M = .ok (.lst (ds.flatMap fun x => (ds1 x).map (g x))) M1 := by
  simp only [evE, hi, Res.bind_ok]
  rw [lc2Go_map (G := fun x => (ds1 x).map (g x)) (fun x hx acc ha => ?_) (by simpa using hl)]
  · simp
  · obtain ⟨σ3, h1, h2, h3⟩ := h x hx
    simp only [h1, Res.bind_ok, q_cnone, if_true, h2]
    show lcGo (lcF Φ e t1 none vs1 σ3) (ds1 x) acc M1 = _
    rw [lcGo_filterMap (g := fun y => some (g x y)) h3 (by simpa using ha)]
    simp
end
section
variable {P : List Df} {k : Nat} {M : Mem}
/-! ### few words -/
def fewDemB : List Sx := [.asg (.nm 2) (.int 1), .fors (.nm 3) (.rng1 (.var 1)) [.aug 2 .mul (.var 0)], .ifs (.cmp .gt (.var 2) (.int 4096)) [.nev] []]
theorem aug_mulR {c j : Int} (h : -(2 ^ 64) < j ∧ j < 2 ^ 64) : evAug .mul (.int c) (.int j) = some (.int (c * j)) := by
  simp [evAug, binI, mulOk_R h]
theorem fewDem_ok {f : Nat} (h : At P f fewDemB 2 4) (L n : Nat) (hL : L ≤ 6) (hL0 : 0 < L) (hn : n < 1000) (hp : L ^ n ≤ 4096) : evF P (k + 1) f [.int L, .int n] M = .ok .non M := by
  rw [h.ev2]
  obtain ⟨σ', M', e, a, c, hc0, rfl, rfl⟩ := forGo_steps (f := fun x σ1 M2 => RS.of (evT (evF P k) (.nm 3) x σ1 M2) σ1 fun σ2 M3 => evSs (evF P k) [.aug 2 .mul (.var 0)] σ2 M3) (all := (List.range n).map ltD)
    (fun ys σ M' => ∃ (a : Option D) (c : Int), c = ((L ^ ys.length : Nat) : Int) ∧ σ = [some (.int L), some (.int n), some (.int c), a] ∧ M = M')
    (fun ys x zs σ M' e hI => by
      obtain ⟨a, c, hc, rfl, rfl⟩ := hI
      refine ⟨_, _, ?_, some x, c * L, ?_, rfl, rfl⟩
      · clear hc
        have ha : evAug .mul (.int c) (.int (L : Int)) = some (.int (c * L)) := aug_mulR (by omega)
        simp [ha]
      · rw [List.length_append, List.length_singleton, Nat.pow_succ, hc]
        exact (Int.natCast_mul _ _).symm)
    (ys := []) (xs := (List.range n).map ltD) (σ := [some (.int L), some (.int n), some (.int 1), none]) (M := M) rfl ⟨none, 1, by simp, rfl, rfl⟩
  have lp : evS (evF P k) (.fors (.nm 3) (.rng1 (.var 1)) [.aug 2 .mul (.var 0)]) [some (.int L), some (.int n), some (.int 1), none] M = _ := (evS_for (evI_rngN (n := n) (by simp) (by omega))).trans e
  have hc : ¬ (4096 : Int) < c := by
    simp only [List.length_map, List.length_range] at hc0
    omega
  clear hc0
  simp [fewDemB, lp, hc]
def fewB (f : Nat) : List Sx := [.expr (.call f [.var 0, .var 1] [] [0, 1]), .asg (.nm 2) (.lst [.tup []]), .fors (.nm 3) (.rng1 (.var 1)) [.asg (.nm 2) (.lc2 (.stup (.var 4) [.var 5]) (.nm 4) (.seq (.var 2)) none (.nm 5) (.rng1 (.var 0)) none [4, 5] [5])], .ret (.bi .tuple [.var 2])]
def wdsT (ws : List (List Nat)) : D := .tup (ws.map wdT)
theorem few_turn {a b c e : Option D} (L j : Nat) (hL : L ≤ 6) (hj : j ≤ 12) (hp : L ^ (j + 1) ≤ 4096) : evE (evF P k) (.lc2 (.stup (.var 4) [.var 5]) (.nm 4) (.seq (.var 2)) none (.nm 5) (.rng1 (.var 0)) none [4, 5] [5]) [some (.int L), a, some (.lst ((allW L j).map wdT)), b, c, e] M =
    .ok (.lst ((allW L (j + 1)).map wdT)) M := by
  have e1 : ((allW L j).map wdT).flatMap (fun x => ((List.range L).map ltD).map fun y => match x with | .tup xs => D.tup (xs ++ [y]) | x => x) = (allW L (j + 1)).map wdT := by
    rw [allW, List.map_flatMap, List.flatMap_map]
    refine congrArg List.flatten (List.map_congr_left fun w _ => ?_)
    simp only [List.map_map]
    refine List.map_congr_left fun l _ => ?_
    simp [wdT]
  rw [← e1]
  refine evE_lc2m (ds1 := fun _ => (List.range L).map ltD) (by simp) (fun x hx => ?_) ?_
  · obtain ⟨w, hw, rfl⟩ := List.mem_map.mp hx
    refine ⟨[some (.int L), a, some (.lst ((allW L j).map wdT)), b, some (wdT w), none], by simp, evI_rngN (by simp) (by omega), fun y hy => ?_⟩
    have := (allW_mem hw).1
    obtain ⟨l, hl, rfl⟩ := List.mem_map.mp hy
    simp [lcF, wdT, sizeLine_eq, show w.length ≤ 16777215 by omega]
  · rw [e1, List.length_map, allW_len, sizeLine_eq]
    omega
theorem few_ok {f g : Nat} (h : At P f (fewB g) 2 6) (hg : At P g fewDemB 2 4) (L n : Nat) (hL : L ≤ 6) (hL0 : 0 < L) (hn : n ≤ 12) (hp : L ^ n ≤ 4096) : evF P (k + 2) f [.int L, .int n] M = .ok (wdsT (allW L n)) M := by
  rw [h.ev2]
  have hle : ∀ j, j ≤ n → L ^ j ≤ 4096 := fun j hj => Nat.le_trans (Nat.pow_le_pow_right hL0 hj) hp
  obtain ⟨σ', M', e, a, ws, hws, rfl, rfl⟩ := forGo_steps (f := fun x σ1 M2 => RS.of (evT (evF P (k + 1)) (.nm 3) x σ1 M2) σ1 fun σ2 M3 => evSs (evF P (k + 1)) [.asg (.nm 2) (.lc2 (.stup (.var 4) [.var 5]) (.nm 4) (.seq (.var 2)) none (.nm 5) (.rng1 (.var 0)) none [4, 5] [5])] σ2 M3) (all := (List.range n).map ltD)
    (fun ys σ M' => ∃ (a : Option D) (ws : List D), ws = (allW L ys.length).map wdT ∧ σ = [some (.int L), some (.int n), some (.lst ws), a, none, none] ∧ M = M')
    (fun ys x zs σ M' e hI => by
      obtain ⟨a, ws, hws, rfl, rfl⟩ := hI
      have hy : ys.length < n := by
        have := congrArg List.length e
        simp at this
        omega
      have q := few_turn (P := P) (k := k + 1) (M := M) (a := some (.int n)) (b := some x) (c := none) (e := none) L ys.length hL (by omega) (hle _ (by omega))
      rw [← hws] at q
      have hl : (ys ++ [x]).length = ys.length + 1 := by simp
      refine ⟨_, _, ?_, some x, (allW L (ys.length + 1)).map wdT, by rw [hl], rfl, rfl⟩
      generalize (allW L (ys.length + 1)).map wdT = us at q
      simp [q])
    (ys := []) (xs := (List.range n).map ltD) (σ := [some (.int L), some (.int n), some (.lst [.tup []]), none, none, none]) (M := M) rfl ⟨none, _, rfl, rfl, rfl⟩
  have lp : evS (evF P (k + 1)) (.fors (.nm 3) (.rng1 (.var 1)) [.asg (.nm 2) (.lc2 (.stup (.var 4) [.var 5]) (.nm 4) (.seq (.var 2)) none (.nm 5) (.rng1 (.var 0)) none [4, 5] [5])]) [some (.int L), some (.int n), some (.lst [.tup []]), none, none, none] M = _ := (evS_for (evI_rngN (n := n) (by simp) (by omega))).trans e
  simp only [List.length_map, List.length_range] at hws
  have e2 : wdsT (allW L n) = .tup ws := by rw [hws]; rfl
  rw [e2]
  clear hws e2
  simp [fewB, fewDem_ok hg L n hL hL0 (by omega) hp, lp, sizeLine_eq, evBi, seqL]
end
end Ev
/-! Ev25: the next word, words from behind. -/
namespace Ev
open PySem L2
theorem tw_in {m : Nat} : ∀ (r : List Nat) (j : Nat), j < (r.takeWhile fun x => x == m).length → r[j]? = some m
  | [], j, h => by simp at h
  | x :: r, j, h => by
    rw [List.takeWhile_cons] at h
    by_cases hx : (x == m) = true
    · rw [if_pos hx] at h
      cases j with
      | zero => simp [eq_of_beq hx]
      | succ j => simpa using tw_in r j (by simpa using h)
    · rw [if_neg hx] at h
      simp at h
theorem tw_out {m : Nat} : ∀ (r : List Nat), (r.takeWhile fun x => x == m).length < r.length → ∃ v, r[(r.takeWhile fun x => x == m).length]? = some v ∧ v ≠ m
  | [], h => by simp at h
  | x :: r, h => by
    rw [List.takeWhile_cons] at h ⊢
    by_cases hx : (x == m) = true
    · rw [if_pos hx] at h ⊢
      obtain ⟨v, h1, h2⟩ := tw_out r (by simpa using h)
      exact ⟨v, by simpa using h1, h2⟩
    · rw [if_neg hx]
      exact ⟨x, rfl, fun z => hx (by simp [z])⟩
theorem trail_in {m j : Nat} {w : List Nat} (h : j < trail m w) : w[w.length - 1 - j]? = some m := by
  have hl := trail_le m w
  have e := tw_in w.reverse j h
  rwa [List.getElem?_reverse (by omega)] at e
theorem trail_out {m : Nat} {w : List Nat} (h : trail m w < w.length) : ∃ v, w[w.length - 1 - trail m w]? = some v ∧ v ≠ m := by
  have h' : (w.reverse.takeWhile fun x => x == m).length < w.length := h
  obtain ⟨v, h1, h2⟩ := tw_out (m := m) w.reverse (by rw [List.length_reverse]; exact h')
  refine ⟨v, ?_, h2⟩
  rwa [List.getElem?_reverse h'] at h1
theorem cut_back (xs : List D) (n : Nat) : cutD xs (some (n : Int)) none = xs.drop n := by
  unfold cutD
  rw [HT.sIx_none, HT.sIx_nat]
  by_cases h : n ≤ xs.length
  · rw [Nat.min_eq_left h]
    exact List.take_of_length_le (by simp)
  · rw [Nat.min_eq_right (by omega), Nat.sub_self, List.take_zero, List.drop_of_length_le (by omega)]
theorem map_repl (n : Nat) : (List.replicate n 0).map ltD = List.replicate n (D.int 0) := by rw [List.map_replicate]; rfl
theorem flat_one (n : Nat) (d : D) : (List.replicate n [d]).flatten = List.replicate n d := by
  induction n with
  | zero => rfl
  | succ n ih => rw [List.replicate_succ, List.flatten_cons, ih]; rfl
theorem zeros_mul {M : Mem} (n : Nat) (h : n ≤ 1000) : evBin .mul (.tup [.int 0]) (.int (n : Int)) M = some (.tup ((List.replicate n 0).map ltD)) := by
  simp only [evBin]
  rw [if_pos ⟨trivial, by simp, by omega, by omega, by simp⟩, Int.toNat_natCast, flat_one, map_repl]
section
variable {P : List Df} {k : Nat} {M : Mem}
theorem evS_whl {Φ : Nat → List D → Mem → Res D} {n : Nat} {c : Ex} {b : List Sx} {σ : Env'} : evS Φ (.whl n c b) σ M = whlGo (fun σ1 M1 => (evE Φ c σ1 M1).bind fun d M2 => Res.of (truth M2 d) M2) (fun σ1 M1 => evSs Φ b σ1 M1) n σ M := by rw [evS]
def nxC : Ex := .and (.cmp .ge (.var 3) (.int 0)) (.cmp .eq (.ix (.var 1) (.var 3)) (.bin .sub (.var 0) (.int 1)))
def nextB (f g : Nat) : List Sx := [.expr (.call f [.var 0, .int 1, .int 6, .str "letters"] [] [0, 1, 2, 3]), .expr (.call g [.var 1, .var 0, .str "word"] [] [0, 1, 2]), .asg (.nm 2) (.bi .len [.var 1]), .asg (.nm 3) (.bin .sub (.var 2) (.int 1)), .whl 100000 nxC [.aug 3 .sub (.int 1)],
  .ifs (.cmp .ge (.var 3) (.int 0)) [.ret (.bin .add (.bin .add (.bi .tuple [.slc (.var 1) none (some (.var 3))]) (.tup [.bin .add (.ix (.var 1) (.var 3)) (.int 1)])) (.bin .mul (.tup [.int 0]) (.bin .sub (.bin .sub (.var 2) (.var 3)) (.int 1))))] [],
  .ifs (.cmp .eq (.var 2) (.int 200)) [.nev] [], .ret (.bin .mul (.tup [.int 0]) (.bin .add (.var 2) (.int 1)))]
/-- the slots while the letter is sought -/
def nxS (L : Nat) (x : D) (n : Nat) (at' : Int) : Env' := [some (.int L), some x, some (.int n), some (.int at')]
theorem nx_loop (Φ : Nat → List D → Mem → Res D) (L : Nat) (w : List Nat) (x : D) (hL : 0 < L) (hx : seqA M x = some (w.map ltD)) : ∀ (j m : Nat), j ≤ trail (L - 1) w → trail (L - 1) w - j < m →
    whlGo (fun σ1 M1 => (evE Φ nxC σ1 M1).bind fun d M2 => Res.of (truth M2 d) M2) (fun σ1 M1 => evSs Φ [.aug 3 .sub (.int 1)] σ1 M1) m (nxS L x w.length ((w.length : Int) - 1 - j)) M = .nx (nxS L x w.length ((w.length : Int) - 1 - trail (L - 1) w)) M := by
  have tl := trail_le (L - 1) w
  intro j m hj hm
  induction m generalizing j with
  | zero => omega
  | succ m ih =>
    rw [whlGo]
    by_cases e : j = trail (L - 1) w
    · subst e
      by_cases ht : trail (L - 1) w < w.length
      · obtain ⟨v, hv, ne⟩ := trail_out ht
        have hi : ixD M x (.int ((w.length : Int) - 1 - trail (L - 1) w)) = some (ltD v) := by
          have e1 : ((w.length : Int) - 1 - trail (L - 1) w) = ((w.length - 1 - trail (L - 1) w : Nat) : Int) := by omega
          simp only [ixD, hx, e1]
          exact atI_nat (by rw [List.getElem?_map, hv]; rfl)
        have hge : (0 : Int) ≤ (w.length : Int) - 1 - trail (L - 1) w := by omega
        generalize (w.length : Int) - 1 - trail (L - 1) w = at' at hi hge
        have hne : ¬ ((v : Int) = (L : Int) - 1) := by omega
        simp [nxC, nxS, hge, hi, ltD, hne]
      · have hge : ¬ (0 : Int) ≤ (w.length : Int) - 1 - trail (L - 1) w := by omega
        generalize (w.length : Int) - 1 - trail (L - 1) w = at' at hge
        simp [nxC, nxS, hge]
    · have hv := trail_in (m := L - 1) (j := j) (w := w) (by omega)
      have hi : ixD M x (.int ((w.length : Int) - 1 - j)) = some (.int ((L : Int) - 1)) := by
        have e1 : ((w.length : Int) - 1 - j) = ((w.length - 1 - j : Nat) : Int) := by omega
        simp only [ixD, hx, e1]
        refine atI_nat (by rw [List.getElem?_map, hv]; simp only [Option.map_some, ltD]; congr 2; omega)
      have hge : (0 : Int) ≤ (w.length : Int) - 1 - j := by omega
      have ih' := ih (j + 1) (by omega) (by omega)
      rw [show ((w.length : Int) - 1 - ((j + 1 : Nat) : Int)) = (w.length : Int) - 1 - j - 1 by omega] at ih'
      generalize (w.length : Int) - 1 - j = at' at hi hge ih'
      have hc : (evE Φ nxC (nxS L x w.length at') M).bind (fun d M2 => Res.of (truth M2 d) M2) = .ok true M := by simp [nxC, nxS, hge, hi]
      have hb : evSs Φ [.aug 3 .sub (.int 1)] (nxS L x w.length at') M = .nx (nxS L x w.length (at' - 1)) M := by simp [nxS, evAug, binI]
      rw [hc, RS.of_ok, if_pos rfl]
      simp only [hb]
      exact ih'
theorem next_ok {f g e a b c i : Nat} (h : At P f (nextB g e) 2 4) (hg : At P g (demNumB a) 4 4) (ha : At P a (withinB b) 3 3) (hb : At P b isIntB 1 1) (he : At P e (demWordB c) 3 3) (hc : At P c (wordB a i) 2 3) (hi : At P i (letterB a) 2 2)
    (L : Nat) (w : List Nat) (hL0 : 0 < L) (hL : L ≤ 6) (hw : Wd' L w) (h200 : trail (L - 1) w < w.length ∨ w.length < 200) (x : D) (hx : x = wdL w ∨ x = wdT w) : evF P (k + 6) f [.int L, x] M = .ok (wdT (nxt L w)) M := by
  have tl := trail_le (L - 1) w
  rw [h.ev2]
  have hs : seqA M x = some (w.map ltD) := by rcases hx with rfl | rfl <;> rfl
  have d1 := demNum_ok (k := k + 2) (M := M) hg ha hb (L : Int) 1 6 (.str "letters") (by omega) (by omega)
  have d2 := demWord_ok (k := k) (M := M) he hc ha hb hi L w hw x (.str "word") hx
  have lp := nx_loop (M := M) (evF P (k + 5)) L w x hL0 hs 0 100000 (Nat.zero_le _) (by have := hw.2.1; omega)
  rw [show ((w.length : Int) - 1 - ((0 : Nat) : Int)) = (w.length : Int) - 1 by omega] at lp
  have lp' := (evS_whl (n := 100000) (c := nxC) (b := [.aug 3 .sub (.int 1)])).trans lp
  simp only [nxS] at lp'
  have h2 := hw.2.1
  by_cases ht : trail (L - 1) w < w.length
  · obtain ⟨v, hv, ne⟩ := trail_out ht
    obtain ⟨u, hu⟩ : ∃ u, u = w.length - 1 - trail (L - 1) w := ⟨_, rfl⟩
    have e1 : ((w.length : Int) - 1 - trail (L - 1) w) = (u : Int) := by omega
    rw [e1] at lp'
    have hi' : ixD M x (.int (u : Int)) = some (.int v) := by
      simp only [ixD, hs]
      exact atI_nat (by rw [List.getElem?_map, hu, hv]; rfl)
    have hge : (0 : Int) ≤ (u : Int) := by omega
    have hsl : (slcD M x none (some (u : Int))).bind (fun y => evBi .tuple [y] M) = some (.tup ((w.take u).map ltD)) := by
      rcases hx with rfl | rfl <;> simp [slcD, wdL, wdT, seqL, cut_front, evBi, List.map_take]
    obtain ⟨y, hy1, hy2⟩ := Option.bind_eq_some_iff.mp hsl
    have hz : (w.length : Int) - (u : Int) - 1 = ((trail (L - 1) w : Nat) : Int) := by omega
    have hm := zeros_mul (M := M) (trail (L - 1) w) (by omega)
    have hn : nxt L w = w.take u ++ [v + 1] ++ List.replicate (trail (L - 1) w) 0 := by
      unfold nxt
      rw [if_pos ht, ← hu, List.getD_eq_getElem?_getD, hu, hv]
      rfl
    have hl1 : (w.take u).length + 1 ≤ 16777216 := by rw [List.length_take]; omega
    have hl2 : (w.take u).length + 1 + trail (L - 1) w ≤ 16777216 := by rw [List.length_take]; omega
    rw [hn]
    generalize hzs : (List.replicate (trail (L - 1) w) 0).map ltD = zs at hm
    have hzl : zs.length = trail (L - 1) w := by rw [← hzs]; simp
    have er : wdT (w.take u ++ [v + 1] ++ List.replicate (trail (L - 1) w) 0) = .tup ((w.take u).map ltD ++ [.int ((v : Int) + 1)] ++ zs) := by
      simp only [wdT, List.map_append, hzs]
      rfl
    rw [er]
    generalize hys : (w.take u).map ltD = ys at hy2
    have hyl : ys.length = (w.take u).length := by rw [← hys]; simp
    have b1 : evBin .add (.tup ys) (.tup [.int ((v : Int) + 1)]) M = some (.tup (ys ++ [.int ((v : Int) + 1)])) := by
      simp only [evBin]
      rw [if_pos ⟨trivial, by simp only [List.length_singleton, sizeLine_eq]; omega⟩]
    have b2 : evBin .add (.tup (ys ++ [.int ((v : Int) + 1)])) (.tup zs) M = some (.tup (ys ++ [.int ((v : Int) + 1)] ++ zs)) := by
      simp only [evBin]
      rw [if_pos ⟨trivial, by simp only [List.length_append, List.length_singleton, sizeLine_eq]; omega⟩]
    simp [nextB, d1, d2, hs, lp', hge, hi', hy1, hy2, hz, hm, b1, b2, sizeLine_eq]
  · have e1 : trail (L - 1) w = w.length := by omega
    rw [e1] at lp'
    have hge : ¬ (0 : Int) ≤ (w.length : Int) - 1 - w.length := by omega
    have h3 : ¬ ((w.length : Int) = 200) := by omega
    have hm := zeros_mul (M := M) (w.length + 1) (by omega)
    rw [Int.natCast_add] at hm
    have hn : nxt L w = List.replicate (w.length + 1) 0 := by unfold nxt; rw [if_neg ht]
    rw [hn]
    have er : wdT (List.replicate (w.length + 1) 0) = .tup ((List.replicate (w.length + 1) 0).map ltD) := rfl
    rw [er]
    generalize (List.replicate (w.length + 1) 0).map ltD = zs at hm
    have hm' : evBin .mul (.tup [.int 0]) (.int ((w.length : Int) + 1)) M = some (.tup zs) := hm
    generalize hat : (w.length : Int) - 1 - w.length = at' at hge lp'
    simp [nextB, d1, d2, hs, lp', hge, h3, hm', sizeLine_eq]
/-! from behind -/
def mirB (g : Nat) : List Sx := [.expr (.call g [.var 0, .int 6, .str "word"] [] [0, 1, 2]), .ret (.bi .tuple [.rev (.var 0)])]
theorem mir_ok {f e a b c i : Nat} (h : At P f (mirB e) 1 1) (ha : At P a (withinB b) 3 3) (hb : At P b isIntB 1 1) (he : At P e (demWordB c) 3 3) (hc : At P c (wordB a i) 2 3) (hi : At P i (letterB a) 2 2)
    (w : List Nat) (hw : Wd' 6 w) (x : D) (hx : x = wdL w ∨ x = wdT w) : evF P (k + 6) f [x] M = .ok (wdT w.reverse) M := by
  have d2 := demWord_ok (k := k) (M := M) he hc ha hb hi 6 w hw x (.str "word") hx
  rw [h.ev1]
  have d2' : evF P (k + 5) e [x, .int 6, .str "word"] M = .ok .non M := d2
  rcases hx with rfl | rfl
  · have d3 : evF P (k + 5) e [.lst (w.map ltD), .int 6, .str "word"] M = .ok .non M := d2'
    simp [mirB, d3, wdL, wdT, revD, seqL, evBi, List.map_reverse]
  · have d3 : evF P (k + 5) e [.tup (w.map ltD), .int 6, .str "word"] M = .ok .non M := d2'
    simp [mirB, d3, wdT, revD, evBi, List.map_reverse]
end
end Ev
/-! Ev26: drawn lists; texts of words. -/
namespace Ev
open PySem L2
section
variable {M : Mem}
theorem bin_addL {xs ys : List D} (h : xs.length + ys.length ≤ 16777216) : evBin .add (.lst xs) (.lst ys) M = some (.lst (xs ++ ys)) := by
  simp only [evBin, seqC, seqL]
  rw [if_pos trivial, if_pos (by rw [sizeLine_eq]; exact h)]
theorem bin_addT {xs ys : List D} (h : xs.length + ys.length ≤ 16777216) : evBin .add (.tup xs) (.tup ys) M = some (.tup (xs ++ ys)) := by
  simp only [evBin]
  rw [if_pos ⟨trivial, by rw [sizeLine_eq]; exact h⟩]
end
/-! data of words -/
def ltP (n : Nat) : PyData := .int n
def wdP (w : List Nat) : PyData := .tuple (w.map ltP)
def wlP (w : List Nat) : PyData := .list (w.map ltP)
def wdsP (ws : List (List Nat)) : PyData := .tuple (ws.map wdP)
theorem toPds_lt : ∀ w : List Nat, toPds (w.map ltD) = some (w.map ltP)
  | [] => rfl
  | n :: w => by simp [toPds, toPd, ltD, ltP, toPds_lt w]
theorem pd_wdT (w : List Nat) : toPd (wdT w) = some (wdP w) := by simp [wdT, toPd, toPds_lt, wdP]
theorem pd_wdL (w : List Nat) : toPd (wdL w) = some (wlP w) := by simp [wdL, toPd, toPds_lt, wlP]
theorem pds_wdT : ∀ ws : List (List Nat), toPds (ws.map wdT) = some (ws.map wdP)
  | [] => rfl
  | w :: ws => by simp [toPds, pd_wdT, pds_wdT ws]
theorem pd_wds (ws : List (List Nat)) : toPd (wdsT ws) = some (wdsP ws) := by simp [wdsT, toPd, pds_wdT, wdsP]
theorem small_lt : ∀ {w : List Nat}, (∀ n ∈ w, n < 1000000) → smalls (w.map ltP) = true ∧ wts (w.map ltP) = 48 * w.length ∧ PyData.canLayAll0 (w.map ltP) = true ∧ PyData.depthAll (w.map ltP) = 0
  | [], _ => ⟨rfl, rfl, rfl, rfl⟩
  | n :: w, h => by
    obtain ⟨h1, h2, h3, h4⟩ := small_lt (w := w) fun x hx => h x (List.mem_cons_of_mem _ hx)
    have hn := h n (List.mem_cons_self ..)
    have e : -(10 ^ 45) < (n : Int) ∧ (n : Int) < 10 ^ 45 := by omega
    refine ⟨?_, ?_, ?_, ?_⟩
    · simp only [List.map_cons, ltP, smalls, small, h1, Bool.and_true, decide_eq_true e]
    · simp only [List.map_cons, ltP, wts, wt, h2, List.length_cons]; omega
    · simp only [List.map_cons, ltP, PyData.canLayAll0, PyData.canLay0, h3, Bool.and_true]
    · simp only [List.map_cons, ltP, PyData.depthAll, PyData.depth, h4]; rfl
theorem ok_wdP {w : List Nat} (h : ∀ n ∈ w, n < 1000000) : small (wdP w) = true ∧ wt (wdP w) = 48 * w.length + 3 ∧ (wdP w).canLay0 = true ∧ (wdP w).depth = 1 := by
  obtain ⟨h1, h2, h3, h4⟩ := small_lt h
  exact ⟨by simp only [wdP, small, h1], by simp only [wdP, wt, h2], by simp only [wdP, PyData.canLay0, h3], by simp only [wdP, PyData.depth, h4]⟩
theorem ok_wlP {w : List Nat} (h : ∀ n ∈ w, n < 1000000) : small (wlP w) = true ∧ wt (wlP w) = 48 * w.length + 2 ∧ (wlP w).canLay0 = true ∧ (wlP w).depth = 1 := by
  obtain ⟨h1, h2, h3, h4⟩ := small_lt h
  exact ⟨by simp only [wlP, small, h1], by simp only [wlP, wt, h2], by simp only [wlP, PyData.canLay0, h3], by simp only [wlP, PyData.depth, h4]⟩
theorem ok_wdPs {m : Nat} : ∀ {ws : List (List Nat)}, (∀ w ∈ ws, w.length ≤ m ∧ ∀ n ∈ w, n < 1000000) → smalls (ws.map wdP) = true ∧ wts (ws.map wdP) ≤ (48 * m + 5) * ws.length ∧ PyData.canLayAll0 (ws.map wdP) = true ∧ PyData.depthAll (ws.map wdP) ≤ 1
  | [], _ => ⟨rfl, Nat.le_refl _, rfl, by decide⟩
  | w :: ws, h => by
    obtain ⟨h1, h2, h3, h4⟩ := ok_wdPs (ws := ws) fun x hx => h x (List.mem_cons_of_mem _ hx)
    obtain ⟨hl, hw⟩ := h w (List.mem_cons_self ..)
    obtain ⟨g1, g2, g3, g4⟩ := ok_wdP hw
    refine ⟨?_, ?_, ?_, ?_⟩
    · simp only [List.map_cons, smalls, g1, h1, Bool.and_true]
    · simp only [List.map_cons, wts, g2, List.length_cons, Nat.mul_add]; omega
    · simp only [List.map_cons, PyData.canLayAll0, g3, h3, Bool.and_true]
    · simp only [List.map_cons, PyData.depthAll, g4]; omega
theorem ok_wdsP {m : Nat} {ws : List (List Nat)} (h : ∀ w ∈ ws, w.length ≤ m ∧ ∀ n ∈ w, n < 1000000) : small (wdsP ws) = true ∧ wt (wdsP ws) ≤ (48 * m + 5) * ws.length + 3 ∧ (wdsP ws).canLay0 = true ∧ (wdsP ws).depth ≤ 2 := by
  obtain ⟨h1, h2, h3, h4⟩ := ok_wdPs h
  exact ⟨by simp only [wdsP, small, h1], by simp only [wdsP, wt]; omega, by simp only [wdsP, PyData.canLay0, h3], by simp only [wdsP, PyData.depth]; omega⟩
theorem shaped_of {p : PyData} (h : p.canLay0 = true) (hd : p.depth ≤ 64) : shapedB p = true := by
  unfold shapedB SeqAt.shaped
  rw [h, decide_eq_true hd]
  rfl
section
variable {M : Mem}
theorem repr_wdT {w : List Nat} (h : ∀ n ∈ w, n < 1000000) (hl : w.length ≤ 300000) : evBi .repr [wdT w] M = some (.str (wdP w).shown) := by
  obtain ⟨h1, h2, h3, h4⟩ := ok_wdP h
  exact repr_small (pd_wdT w) h1 (by omega) (by omega)
theorem repr_wdL {w : List Nat} (h : ∀ n ∈ w, n < 1000000) (hl : w.length ≤ 300000) : evBi .repr [wdL w] M = some (.str (wlP w).shown) := by
  obtain ⟨h1, h2, h3, h4⟩ := ok_wlP h
  exact repr_small (d := wdL w) (pd_wdL w) h1 (by omega) (by omega)
theorem eq_wdT {w : List Nat} (h : ∀ n ∈ w, n < 1000000) : eqM M (wdT w) (wdT w) = some true := by
  obtain ⟨h1, h2, h3, h4⟩ := ok_wdP h
  exact eqM_same (pd_wdT w) (pd_wdT w) (shaped_of h3 (by omega))
end
/-! ### draws in a comprehension -/
theorem lc_draws {P : List Df} {f : Nat} {d : Df} {k : Nat} {ns : List Int} {many : Int} {i : Nat} (p : DrC) (hd : P[f]? = some d) (hb : d.body = drB p) (hps : d.ps.length = 2) (hN : d.N.length = 6) (hp : p.ok = true) (hm : 0 < many) (hlog : many.natAbs.log2 < 9000)
    {F : D → Mem → Res (Option D)} (hF : ∀ x M', F x M' = (evF P (k + 1) f [.cell i, .int many] M').bind fun d M5 => .ok (some d) M5) :
    ∀ {ds : List D} {acc : List D} {lap rest : Int} {M : Mem}, M[i]? = some (some (stairO ns lap rest)) → 0 ≤ lap → lap + ds.length ≤ 60000 → acc.length + ds.length ≤ sizeLine →
    ∃ (ws : List Int) (lap' rest' : Int), lcGo F ds acc M = .ok (acc ++ ws.map D.int) (M.set i (some (stairO ns lap' rest'))) ∧ ws.length = ds.length ∧ (∀ w ∈ ws, 0 ≤ w ∧ w < many) ∧ 0 ≤ lap' ∧ lap' ≤ lap + ds.length
  | [], acc, lap, rest, M, h, h0, _, _ => by
    obtain ⟨hi, he⟩ := List.getElem?_eq_some_iff.mp h
    refine ⟨[], lap, rest, ?_, by simp, by simp, h0, by simp⟩
    have e : M.set i (some (stairO ns lap rest)) = M := by
      rw [← he]
      exact List.set_getElem_self ..
    simp [lcGo, e]
  | x :: ds, acc, lap, rest, M, h, h0, h1, hl => by
    simp only [List.length_cons] at h1 hl
    obtain ⟨r, l1, r1, e, b1, b2, b3, b4⟩ := draw (k := k) p hd hb hps hN hp h hm hlog h0 (by omega)
    have hi : i < M.length := (List.getElem?_eq_some_iff.mp h).1
    obtain ⟨ws, l2, r2, e2, q1, q2, q3, q4⟩ := lc_draws p hd hb hps hN hp hm hlog hF (ds := ds) (acc := acc ++ [.int r]) (lap := l1) (rest := r1) (M := M.set i (some (stairO ns l1 r1))) (List.getElem?_set_self hi) b3 (by omega) (by simp only [List.length_append, List.length_singleton]; omega)
    refine ⟨r :: ws, l2, r2, ?_, by simp [q1], fun w hw => ?_, q3, by simp only [List.length_cons]; omega⟩
    · rw [lcGo, hF, e, Res.bind_ok]
      simp only
      rw [if_pos (by omega), e2, List.set_set]
      simp
    · rcases List.mem_cons.mp hw with rfl | hw
      · exact ⟨b1, b2⟩
      · exact q2 w hw
theorem nats_of : ∀ {ws : List Int} {m : Int}, (∀ w ∈ ws, 0 ≤ w ∧ w < m) → ∃ us : List Nat, ws.map D.int = us.map ltD ∧ us.length = ws.length ∧ ∀ u ∈ us, (u : Int) < m
  | [], _, _ => ⟨[], rfl, rfl, fun u hu => by cases hu⟩
  | w :: ws, m, h => by
    obtain ⟨us, e1, e2, e3⟩ := nats_of (ws := ws) fun x hx => h x (List.mem_cons_of_mem _ hx)
    obtain ⟨h0, h1⟩ := h w (List.mem_cons_self ..)
    refine ⟨w.toNat :: us, ?_, by simp [e2], fun u hu => ?_⟩
    · simp only [List.map_cons, e1, ltD]
      rw [show ((w.toNat : Nat) : Int) = w by omega]
    · rcases List.mem_cons.mp hu with rfl | hu
      · omega
      · exact e3 u hu
end Ev
/-! Ev27: checks of any plain value. -/
namespace Ev
open PySem L2
section
variable {Φ : Nat → List D → Mem → Res D} {σ : Env'} {M : Mem}
@[simp] theorem q_dct0 : evE Φ .dct0 σ M = .ok (.dct []) M := by rw [evE]
@[simp] theorem q_dct1 {a b : Ex} : evE Φ (.dct1 a b) σ M = (evE Φ a σ M).bind fun x M1 => (evE Φ b σ M1).bind fun y M2 => match x with
    | .int i => .ok (.dct [(.inl i, y)]) M2
    | .str s => .ok (.dct [(.inr s, y)]) M2
    | _ => .no := by rw [evE]; try rfl
end
def isI : D → Bool
  | .int _ => true
  | _ => false
def isB : D → Bool
  | .bl _ => true
  | _ => false
/-- a list or a tuple -/
def isS : D → Bool
  | .lst _ => true
  | .scr _ => true
  | .tup _ => true
  | _ => false
def Pl (d : D) : Prop := (tyOf d).isSome = true
theorem isi_pi {d : D} (h : Pl d) : isiD ["int"] d = some (isI d || isB d) := by
  cases d <;> first | rfl | (simp [Pl, tyOf] at h)
theorem isi_pb {d : D} (h : Pl d) : isiD ["bool"] d = some (isB d) := by
  cases d <;> first | rfl | (simp [Pl, tyOf] at h)
theorem isi_ps {d : D} (h : Pl d) : isiD ["list", "tuple"] d = some (isS d) := by
  cases d <;> first | rfl | (simp [Pl, tyOf] at h)
theorem isIB (d : D) : (isI d = true → isB d = false) := by cases d <;> simp [isI, isB]
section
variable {P : List Df} {k : Nat} {M : Mem} {d : D}
theorem isInt_any {f : Nat} (h : At P f isIntB 1 1) (hp : Pl d) : evF P (k + 1) f [d] M = .ok (.bl (isI d)) M := by
  rw [h.ev1]
  have e := isIB d
  cases e1 : isI d <;> cases e2 : isB d <;> simp_all [isIntB, isi_pi hp, isi_pb hp]
/-- an integer within bounds -/
def inB (d : D) (lo hi : Option Int) : Bool := match d with
  | .int i => (lo.all fun a => decide (a ≤ i)) && (hi.all fun a => decide (i ≤ a))
  | _ => false
theorem inB_not {lo hi : Option Int} (h : isI d = false) : inB d lo hi = false := by
  cases d <;> first | rfl | (simp [isI] at h)
theorem within_any {f g : Nat} (h : At P f (withinB g) 3 3) (hg : At P g isIntB 1 1) (hp : Pl d) (lo hi : Option Int) : evF P (k + 2) f [d, bdD lo, bdD hi] M = .ok (.bl (inB d lo hi)) M := by
  cases hi' : isI d with
  | true =>
    cases d with
    | int i => exact within_ok h hg i lo hi
    | _ => simp [isI] at hi'
  | false =>
    rw [inB_not hi', h.ev3]
    have e := isInt_any (k := k) (M := M) hg hp
    rw [hi'] at e
    simp [withinB, e]
theorem letter_any {f g e : Nat} (h : At P f (letterB g) 2 2) (hg : At P g (withinB e) 3 3) (he : At P e isIntB 1 1) (hp : Pl d) (L : Int) : evF P (k + 3) f [d, .int L] M = .ok (.bl (inB d (some 0) (some (L - 1)))) M := by
  rw [h.ev2]
  have q := within_any (k := k) (M := M) hg he hp (some 0) (some (L - 1))
  simp only [bdD] at q
  simp [letterB, q]
/-- the items of a list or tuple -/
def itemsD : D → List D
  | .lst xs => xs
  | .scr xs => xs
  | .tup xs => xs
  | _ => []
theorem blsD_map {α : Type} (g : α → Bool) : ∀ xs : List α, blsD (xs.map fun x => D.bl (g x)) = some (xs.map g)
  | [] => rfl
  | x :: xs => by simp only [List.map_cons, blsD, blsD_map g xs, Option.map_some]
/-- a word -/
def isW (d : D) (L : Int) : Bool := isS d && (decide (1 ≤ (itemsD d).length) && decide ((itemsD d).length ≤ 200)) && (itemsD d).all fun x => inB x (some 0) (some (L - 1))
theorem isWord_any {f g e a : Nat} (h : At P f (wordB g e) 2 3) (hg : At P g (withinB a) 3 3) (ha : At P a isIntB 1 1) (he : At P e (letterB g) 2 2) (hp : Pl d) (hx : ∀ x ∈ itemsD d, Pl x) (L : Int) :
    evF P (k + 4) f [d, .int L] M = .ok (.bl (isW d L)) M := by
  rw [h.ev2]
  cases hs : isS d with
  | false => simp [wordB, isi_ps hp, hs, isW]
  | true =>
    have i2 : seqA M d = some (itemsD d) := by cases d <;> first | rfl | (simp [isS] at hs)
    by_cases hl : 1 ≤ (itemsD d).length ∧ (itemsD d).length ≤ 200
    · have hc := evE_lcm (Φ := evF P (k + 3)) (e := .call e [.var 2, .var 1] [] [0, 1]) (t := .nm 2) (it := .seq (.var 0)) (c := none) (vs := [2]) (σ := [some d, some (.int L), none]) (M := M) (M1 := M) (ds := itemsD d) (g := fun x => .bl (inB x (some 0) (some (L - 1))))
        (by cases d <;> first | (simp [itemsD]; done) | (simp [isS] at hs; done)) (fun y hy => by
          have q := letter_any (k := k) (M := M) he hg ha (hx y hy) L
          simp [lcF, q]) (by rw [sizeLine_eq]; omega)
      have hb : evBi .all [.lst ((itemsD d).map fun x => D.bl (inB x (some 0) (some (L - 1))))] M = some (.bl ((itemsD d).all fun x => inB x (some 0) (some (L - 1)))) := by
        simp only [evBi, seqL, Option.bind_some, blsD_map, Option.map_some]
        simp [Function.comp_def]
      have hl' : decide ((1 : Int) ≤ ((itemsD d).length : Int)) = true := decide_eq_true (by omega)
      have hl2 : decide (((itemsD d).length : Int) ≤ 200) = true := decide_eq_true (by omega)
      have hw : isW d L = (itemsD d).all fun x => inB x (some 0) (some (L - 1)) := by simp [isW, hs, hl.1, hl.2]
      rw [hw]
      generalize itemsD d = xs at *
      generalize (xs.all fun x => inB x (some 0) (some (L - 1))) = r at *
      generalize (xs.map fun x => D.bl (inB x (some 0) (some (L - 1)))) = ys at *
      simp [wordB, isi_ps hp, hs, i2, within_iff hg ha, hl', hl2, hc, hb]
    · have hw : isW d L = false := by
        have : (decide (1 ≤ (itemsD d).length) && decide ((itemsD d).length ≤ 200)) = false := by
          rw [Bool.and_eq_false_iff, decide_eq_false_iff_not, decide_eq_false_iff_not]
          omega
        simp [isW, this]
      have hl' : (decide ((1 : Int) ≤ ((itemsD d).length : Int)) && decide (((itemsD d).length : Int) ≤ 200)) = false := by
        rw [Bool.and_eq_false_iff, decide_eq_false_iff_not, decide_eq_false_iff_not]
        omega
      rw [hw]
      have q := within_iff (k := k + 1) (M := M) hg ha (itemsD d).length 1 200
      rw [hl'] at q
      simp [wordB, isi_ps hp, hs, i2, q]
end
/-! == with the empty list -/
section
variable {M : Mem}
/-- plain enough to be compared -/
def Cm (d : D) : Prop := toPd d = none ∨ ∃ p, toPd d = some p ∧ p.canLay0 = true ∧ p.depth ≤ 20
theorem toPds_cm : ∀ {ds : List D}, (∀ d ∈ ds, Cm d) → toPds ds = none ∨ ∃ ps, toPds ds = some ps ∧ PyData.canLayAll0 ps = true ∧ PyData.depthAll ps ≤ 20
  | [], _ => .inr ⟨[], rfl, rfl, by decide⟩
  | d :: ds, h => by
    rcases toPds_cm (ds := ds) fun x hx => h x (List.mem_cons_of_mem _ hx) with e | ⟨ps, e, e1, e2⟩
    · left
      rcases h d (List.mem_cons_self ..) with q | ⟨p, q, _⟩
      · simp [toPds, q]
      · simp [toPds, q, e]
    · rcases h d (List.mem_cons_self ..) with q | ⟨p, q, q1, q2⟩
      · left; simp [toPds, q]
      · right
        refine ⟨p :: ps, by simp [toPds, q, e], by simp [PyData.canLayAll0, q1, e1], ?_⟩
        simp only [PyData.depthAll]
        omega
theorem eqM_nil {ds : List D} (h : ∀ d ∈ ds, Cm d) : eqM M (.lst ds) (.lst []) = some ds.isEmpty := by
  show eqD M (.lst ds) (.lst []) = _
  unfold eqD
  simp only [now, seqL, toPd]
  rcases toPds_cm h with e | ⟨ps, e, e1, e2⟩
  · have hne : ds ≠ [] := fun z => by rw [z] at e; simp [toPds] at e
    have hl : ¬ ds.length = 0 := fun z => hne (List.length_eq_zero_iff.mp z)
    rw [e]
    simp only [Option.map_none, List.length_nil]
    rw [if_neg hl]
    cases ds <;> simp_all
  · have s1 : shapedB (.list ps) = true := by simp [shapedB, SeqAt.shaped, PyData.canLay0, e1, PyData.depth]; omega
    have s2 : shapedB (.list []) = true := rfl
    have hlen : ps.isEmpty = ds.isEmpty := by
      cases ds with
      | nil => simp only [toPds, Option.some.injEq] at e; subst e; rfl
      | cons d ds =>
        simp only [toPds] at e
        split at e
        · cases e; rfl
        · cases e
    rw [e]
    simp only [Option.map_some, toPds, s1, s2, Bool.and_self, if_true]
    cases ps <;> simp_all [PyData.eqv, PyData.eqvAll]
end
end Ev
/-! Ev28: reckoning with instances, dicts, list(range). -/
namespace Ev
open PySem L2
section
variable {Φ : Nat → List D → Mem → Res D} {σ : Env'} {M : Mem}
@[simp] theorem q_fldE {a : Ex} {f : Str} : evE Φ (.fldE a f) σ M = (evE Φ a σ M).bind fun x M1 => match insOf M1 x with
    | some (_, fs) => Res.of (fs.lookup f) M1
    | none => .no := by rw [evE]; try rfl
@[simp] theorem q_mcall {m : Str} {tbl : List (Nat × Nat)} {o : Ex} {es : List Ex} : evE Φ (.mcall m tbl o es) σ M = (evE Φ o σ M).bind fun x M1 => match insOf M1 x with
    | some (c, fs) => if (fs.lookup m).isNone = true then match tbl.lookup c with
      | some i => (evL Φ es σ M1).bind fun ds M2 => Φ i (x :: ds) M2
      | none => .no
      else .no
    | none => .no := by rw [evE]; try rfl
@[simp] theorem q_isc {e : Ex} {x : Str} {subs : List Nat} : evE Φ (.isc e x subs) σ M = (evE Φ e σ M).bind fun d M1 => match d with
    | .ins c _ => .ok (.bl (subs.contains c)) M1
    | _ => .no := by rw [evE]; try rfl
@[simp] theorem q_new {c f : Nat} {es : List Ex} : evE Φ (.new c f es) σ M = (evL Φ es σ M).bind fun ds M1 => (Φ f (.cell M1.length :: ds) (M1 ++ [some (.ins c [])])).bind fun d M2 => match d, M2[M1.length]? with
    | .non, some (some (.ins c' fs)) => .ok (.ins c' fs) (M2.set M1.length none)
    | _, _ => .no := by rw [evE]; try rfl
@[simp] theorem q_dix {o e : Ex} : evE Φ (.dix o e) σ M = (evE Φ o σ M).bind fun x M1 => (evE Φ e σ M1).bind fun y M2 => match x, keyD y with
    | .dct kvs, some k => Res.of (valD kvs k) M2
    | _, _ => .no := by rw [evE]; try rfl
@[simp] theorem q_dgt {o e : Ex} : evE Φ (.dgt o e) σ M = (evE Φ o σ M).bind fun x M1 => match x with
    | .dct kvs => (evE Φ e σ M1).bind fun y M2 => match keyD y with
      | some k => .ok ((valD kvs k).getD .non) M2
      | none => .no
    | _ => .no := by rw [evE]; try rfl
@[simp] theorem q_lrg1 {b : Ex} : evE Φ (.lrg1 b) σ M = (evE Φ b σ M).bind fun y M2 => match y with
    | .int j => match rngD 0 j with
      | some ds => if ds.length ≤ sizeLine then .ok (.lst ds) M2 else .no
      | none => .no
    | _ => .no := by rw [evE]; try rfl
@[simp] theorem q_mrg1 {b : Ex} : evE Φ (.mrg1 b) σ M = (evE Φ b σ M).bind fun y M2 => match y with
    | .int j => match rngD 0 j with
      | some ds => if ds.length ≤ sizeLine then .ok (.cell M2.length) (M2 ++ [some (.lst ds)]) else .no
      | none => .no
    | _ => .no := by rw [evE]; try rfl
@[simp] theorem q_lrg2 {a b : Ex} : evE Φ (.lrg2 a b) σ M = (evE Φ a σ M).bind fun x M1 => (evE Φ b σ M1).bind fun y M2 => match x, y with
    | .int i, .int j => match rngD i j with
      | some ds => if ds.length ≤ sizeLine then .ok (.lst ds) M2 else .no
      | none => .no
    | _, _ => .no := by rw [evE]; try rfl
@[simp] theorem q_fld {a : Ex} {f : Str} {d : D} : evT Φ (.fld a f) d σ M = (evE Φ a σ M).sure.bind fun x M1 => match x with
    | .cell i => match M1[i]? with
      | some (some (.ins c fs)) => if fs.length < 1000 then .ok σ (M1.set i (some (.ins c (putFD f d fs)))) else .no
      | _ => .no
    | _ => .no := by rw [evT]; try rfl
/-- a dict comprehension's turn -/
def dcF (Φ : Nat → List D → Mem → Res D) (a b : Ex) (t : Tg) (c : Option Ex) (vs : List Nat) (σ : Env') (x : D) (M : Mem) : Res (Option (Key × D)) :=
  (evT Φ t x (wipeD σ vs) M).bind fun σ3 M3 => (evC Φ c σ3 M3).bind fun q M4 => if q = true then (evE Φ a σ3 M4).bind fun kd M5 => (evE Φ b σ3 M5).bind fun d M6 => match keyD kd with
      | some k => .ok (some (k, d)) M6
      | none => .no
    else .ok none M4
theorem putKD_new {kvs : List (Key × D)} {k : Key} {d : D} (h : k ∉ kvs.map (·.1)) : putKD kvs k d = kvs ++ [(k, d)] := by
  unfold putKD
  rw [if_neg]
  intro z
  obtain ⟨p, hp, e⟩ := List.any_eq_true.mp z
  exact h (List.mem_map.mpr ⟨p, hp, of_decide_eq_true e⟩)
theorem dcGo_map {f : D → Mem → Res (Option (Key × D))} {g : D → Key × D} : ∀ {xs : List D} {acc : List (Key × D)}, (∀ x ∈ xs, f x M = .ok (some (g x)) M) → ((acc ++ xs.map g).map (·.1)).Nodup → acc.length + xs.length ≤ sizeLine → dcGo f xs acc M = .ok (acc ++ xs.map g) M
  | [], acc, _, _, _ => by simp [dcGo]
  | x :: xs, acc, h, hn, hl => by
    simp only [List.length_cons] at hl
    rw [dcGo, h x (List.mem_cons_self ..)]
    simp only
    rw [if_pos (by omega), putKD_new, dcGo_map (fun y hy => h y (List.mem_cons_of_mem _ hy)) (by simpa using hn) (by simp; omega)]
    · simp
    · intro z
      rw [List.map_append, List.nodup_append] at hn
      exact hn.2.2 _ z _ (by simp) rfl
theorem evE_dcm {a b : Ex} {t : Tg} {it : It} {c : Option Ex} {vs : List Nat} {M1 : Mem} {ds : List D} {g : D → Key × D} (hi : evI Φ it σ M = .ok ds M1) (h : ∀ x ∈ ds, dcF Φ a b t c vs σ x M1 = .ok (some (g x)) M1)
    (hn : ((ds.map g).map (·.1)).Nodup) (hl : ds.length ≤ sizeLine) : evE Φ (.dc a b t it c vs) σ M = .ok (.dct (ds.map g)) M1 := by
  have q := dcGo_map (M := M1) (acc := []) h (by simpa using hn) (by simpa using hl)
  simp only [evE, hi, Res.bind_ok]
  show (dcGo (dcF Φ a b t c vs σ) ds [] M1).bind _ = _
  rw [q]
  simp
end
/-! dicts over the first numbers -/
def dRow (m : Nat) (g : Nat → D) : List (Key × D) := (List.range m).map fun c : Nat => (.inl (c : Int), g c)
theorem find_row (g : Nat → D) (i : Nat) : ∀ l : List Nat, i ∉ l → ((l.map fun c : Nat => ((Sum.inl (c : Int) : Key), g c)).find? fun kv => decide (kv.1 = (Sum.inl (i : Int) : Key))) = none
  | [], _ => rfl
  | x :: l, h => by
    have hx : ¬ ((Sum.inl (x : Int) : Key) = Sum.inl (i : Int)) := fun z => by
      have : (x : Int) = (i : Int) := Sum.inl.inj z
      exact h (by rw [show i = x by omega]; exact List.mem_cons_self ..)
    rw [List.map_cons, List.find?_cons]
    simp only [hx, decide_false]
    exact find_row g i l fun z => h (List.mem_cons_of_mem _ z)
theorem val_row {m : Nat} {g : Nat → D} {i : Nat} : valD (dRow m g) (.inl (i : Int)) = if i < m then some (g i) else none := by
  unfold valD dRow
  by_cases h : i < m
  · rw [if_pos h]
    have e : List.range m = List.range i ++ i :: (List.range' (i + 1) (m - (i + 1))) := by
      have e1 : List.range m = List.range' 0 m := List.range_eq_range'
      have e2 : List.range i = List.range' 0 i := List.range_eq_range'
      rw [e1, e2, show m = i + (1 + (m - (i + 1))) by omega, ← List.range'_append_1, ← List.range'_append_1]
      simp
      congr 1
      omega
    rw [e, List.map_append, List.find?_append, find_row g i _ (by simp)]
    simp
  · rw [if_neg h, find_row g i _ (by simp; omega)]
    rfl
theorem val_row_neg {m : Nat} {g : Nat → D} : valD (dRow m g) (.inl (-1)) = none := by
  unfold valD dRow
  have : ∀ l : List Nat, ((l.map fun c : Nat => ((Sum.inl (c : Int) : Key), g c)).find? fun kv => decide (kv.1 = (Sum.inl (-1 : Int) : Key))) = none := fun l => by
    induction l with
    | nil => rfl
    | cons x l ih =>
      have hx : ¬ ((Sum.inl (x : Int) : Key) = Sum.inl (-1 : Int)) := fun z => by
        have : (x : Int) = -1 := Sum.inl.inj z
        omega
      rw [List.map_cons, List.find?_cons]
      simp only [hx, decide_false]
      exact ih
  rw [this]
  rfl
theorem row_nodup (m : Nat) (g : Nat → D) : ((dRow m g).map (·.1)).Nodup := by
  unfold dRow
  rw [List.map_map]
  refine List.Pairwise.map _ (fun a b hab h => hab ?_) (List.nodup_range (n := m))
  have : (a : Int) = (b : Int) := Sum.inl.inj h
  omega
theorem evE_mrg1 {Φ : Nat → List D → Mem → Res D} {b : Ex} {σ : Env'} {M : Mem} {j : Int} {ds : List D} (hb : evE Φ b σ M = .ok (.int j) M) (r : rngD 0 j = some ds) (hl : ds.length ≤ sizeLine) : evE Φ (.mrg1 b) σ M = .ok (.cell M.length) (M ++ [some (.lst ds)]) := by
  rw [q_mrg1, hb, Res.bind_ok]
  simp only [r]
  rw [if_pos hl]
/-- a statement that returns -/
theorem evSs_rt {Φ : Nat → List D → Mem → Res D} {s : Sx} {ss : List Sx} {σ : Env'} {M M1 : Mem} {d : D} (h : evS Φ s σ M = .rt d M1) : evSs Φ (s :: ss) σ M = .rt d M1 := by simp [evSs, h, RS.then]
/-- list(range) -/
theorem evE_lrg2 {Φ : Nat → List D → Mem → Res D} {a b : Ex} {σ : Env'} {M : Mem} {i j : Int} {ds : List D} (ha : evE Φ a σ M = .ok (.int i) M) (hb : evE Φ b σ M = .ok (.int j) M) (r : rngD i j = some ds) (hl : ds.length ≤ sizeLine) : evE Φ (.lrg2 a b) σ M = .ok (.lst ds) M := by
  rw [q_lrg2, ha, Res.bind_ok, hb, Res.bind_ok]
  simp only [r]
  rw [if_pos hl]
theorem evE_lrg1 {Φ : Nat → List D → Mem → Res D} {b : Ex} {σ : Env'} {M : Mem} {j : Int} {ds : List D} (hb : evE Φ b σ M = .ok (.int j) M) (r : rngD 0 j = some ds) (hl : ds.length ≤ sizeLine) : evE Φ (.lrg1 b) σ M = .ok (.lst ds) M := by
  rw [q_lrg1, hb, Res.bind_ok]
  simp only [r]
  rw [if_pos hl]
end Ev
/-! Ev29: the law's own call, its classes told as a list. -/
namespace Ev
open PySem L2
theorem law_endsC {l : PySem.W.OpenLaw} {n k i : Nat} {q : Program} {loose : List Str} {XP : (Str → Option Value) → Heap → Prop} {YP : World → Heap → Prop} {d : DefRec} {K : Params → PySem.W.Frag} {nc : Nat} {Pd : List Df} {bs : List Str} {gs : List (Str × GC)} {cs : List Cf} {D0 : Df} {x : Str} (cl : List Addr)
    (hn : l.most = some n) (hn2 : n ≤ sizeLine) (hdf : d.params.defaults = []) (hr : Room (2 * k) callerA)
    (hY : ∀ (w : World) (h : Heap), YP w h → (K w.params).In h) (hD : Pd[i]? = some D0) (hname : D0.name = d.name) (htop : topB D0.name = true) (hps : D0.ps = [x]) (hsh : (1, [], [0]) ∈ D0.shapes)
    (T : ∀ (w : World) (mg : Str → Option Value) (h : Heap), (K w.params).In h → h.Ns mainGlobals mg → Tab ⟨K w.params, fun n => cl.getD n 0, nc⟩ mg Pd bs gs cs)
    (main : ∀ ns : List Int, ns.length ≤ n → ∃ M, evF Pd k i [.scr (ns.map D.int)] [] = .ok (.bl true) M) :
    PySem.W.WalkO q loose XP YP l.row.toRowW d [] (fun f vs => PySem.call f vs) :=
  law_ends (cls := fun _ n => cl.getD n 0) hn hn2 hdf hr hY hD hname htop hps hsh T main
end Ev
namespace K52
open PySem PySem.Spec PyProof.Rows L2 Ev
def topS (i : Nat) : Stmt := PySem.Challenge.pw_backwardrow_k52_ticks_of_sped_rows.main.body.getD i (.Pass ⟨0, 0, 0, 0⟩)
abbrev s0 : Stmt := topS 2
/-- is_integer -/
def d0 : Df := ⟨"is_integer", ["value"], ["value"], [.ret (.and (.isi (.var 0) ["int"]) (.not (.isi (.var 0) ["bool"])))], [(1, [], [0])]⟩
abbrev s1 : Stmt := topS 3
def b1_0 : Sx := .ifs (.not (.call 0 [(.var 0)] [] [0])) [.ret (.bl false)] []
def b1_1 : Sx := .ret (.and (.or (.cmp .is (.var 1) .non) (.cmp .ge (.var 0) (.var 1))) (.or (.cmp .is (.var 2) .non) (.cmp .le (.var 0) (.var 2))))
/-- is_within -/
def d1 : Df := ⟨"is_within", ["value", "least", "most"], ["value", "least", "most"], [b1_0, b1_1], [(3, [], [0, 1, 2])]⟩
abbrev s2 : Stmt := topS 8
/-- demand_number -/
def d2 : Df := ⟨"demand_number", ["value", "least", "most", "part"], ["value", "least", "most", "part"], [.ifs (.not (.call 1 [(.var 0), (.var 1), (.var 2)] [] [0, 1, 2])) [.nev] []], [(4, [], [0, 1, 2, 3])]⟩
abbrev s3 : Stmt := topS 12
def b3_0 : Sx := .expr (.call 5 [(.var 0), (.var 1), (.var 2)] [] [0, 1, 2])
def b3_1 : Sx := .ret (.ite (.cmp .lt (.var 2) (.var 0)) (.var 2) (.bin .add (.bin .sub (.var 0) (.int 1)) (.bin .mul (.var 1) (.bin .add (.bin .sub (.var 2) (.var 0)) (.int 1)))))
/-- inner_tick -/
def d3 : Df := ⟨"inner_tick", ["many", "by", "tick"], ["many", "by", "tick"], [b3_0, b3_1], [(3, [], [0, 1, 2]), (0, ["tick", "by", "many"], [2, 1, 0])]⟩
abbrev s4 : Stmt := topS 13
def b4_0 : Sx := .expr (.call 5 [(.var 0), (.var 1), (.var 2)] [] [0, 1, 2])
def b4_1 : Sx := .ret (.ite (.cmp .lt (.var 2) (.var 0)) (.var 2) (.bin .add (.bin .sub (.var 0) (.int 1)) (.bin .fdiv (.bin .add (.bin .sub (.var 2) (.var 0)) (.var 1)) (.var 1))))
/-- cut_tick -/
def d4 : Df := ⟨"cut_tick", ["many", "by", "tick"], ["many", "by", "tick"], [b4_0, b4_1], [(0, ["tick", "by", "many"], [2, 1, 0]), (3, [], [0, 1, 2])]⟩
abbrev s5 : Stmt := topS 14
def b5_0 : Sx := .expr (.call 2 [(.var 0), (.int 1), (.int 200), (.str "many")] [] [0, 1, 2, 3])
def b5_1 : Sx := .expr (.call 2 [(.var 1), (.int 2), (.int 4), (.str "by")] [] [0, 1, 2, 3])
def b5_2 : Sx := .expr (.call 2 [(.var 2), (.int 0), .non, (.str "tick")] [] [0, 1, 2, 3])
/-- demand_sped -/
def d5 : Df := ⟨"demand_sped", ["many", "by", "tick"], ["many", "by", "tick"], [b5_0, b5_1, b5_2], [(3, [], [0, 1, 2])]⟩
abbrev s6 : Stmt := topS 16
/-- _law_clock -/
def d6 : Df := ⟨"_law_clock", ["script"], ["script", "cell"], [.ret (.mls [(.lc (.bi .int [(.var 1)]) (.nm 1) (.seq (.slc (.var 0) none (some (.int 60)))) none [1]), (.int 0), (.int 0)])], [(1, [], [0])]⟩
abbrev s7 : Stmt := topS 17
def b7_0 : Sx := .ifs (.cmp .gt (.ix (.var 0) (.int 2)) (.int 0)) [.asg (.nm 2) (.bi .int [(.ix (.var 0) (.int 2))]), .asg (.sub (.var 0) (.int 2)) (.bin .fdiv (.var 2) (.var 1)), .ret (.bin .mod (.bi .int [(.var 2)]) (.var 1))] []
def b7_1 : Sx := .asg (.nm 3) (.ix (.var 0) (.int 1))
def b7_2 : Sx := .asg (.sub (.var 0) (.int 1)) (.bin .add (.var 3) (.int 1))
def b7_3 : Sx := .asg (.nm 4) (.bin .add (.bin .mul (.int 73127) (.var 3)) (.int 9743))
def b7_4 : Sx := .ifs (.cmp .ne (.ix (.var 0) (.int 0)) (.lst [])) [.asg (.nm 4) (.ix (.ix (.var 0) (.int 0)) (.bin .mod (.bi .int [(.var 3)]) (.bi .len [(.ix (.var 0) (.int 0))])))] []
def b7_5 : Sx := .ifs (.and (.cmp .lt (.var 3) (.bi .len [(.ix (.var 0) (.int 0))])) (.cmp .ge (.bi .abs [(.var 4)]) (.bin .pow (.int 10) (.int 18)))) [.asg (.nm 2) (.bin .add (.bin .mul (.int 2) (.bin .sub (.bi .abs [(.var 4)]) (.bin .pow (.int 10) (.int 18)))) (.bi .int [(.cmp .lt (.var 4) (.int 0))])), .asg (.sub (.var 0) (.int 2)) (.bin .fdiv (.var 2) (.var 1)), .ret (.bin .mod (.bi .int [(.var 2)]) (.var 1))] []
def b7_6 : Sx := .asg (.nm 5) (.bin .mod (.bi .int [(.bin .pow (.bin .add (.bin .add (.bin .mod (.bi .int [(.var 4)]) (.int 2147483353)) (.bin .mul (.int 43103) (.var 3))) (.int 9743)) (.int 5))]) (.int 2147483323))
def b7_7 : Sx := .asg (.nm 5) (.bin .mod (.bi .int [(.bin .pow (.bin .add (.bin .add (.bin .mul (.var 5) (.bin .add (.bin .mul (.int 2) (.var 3)) (.int 4397))) (.bin .mul (.bin .mul (.int 73127) (.var 3)) (.var 3))) (.int 43103)) (.int 3))]) (.int 2147483269))
def b7_8 : Sx := .ret (.bin .mod (.bi .int [(.bin .fdiv (.var 5) (.int 32))]) (.var 1))
/-- _law_tock -/
def d7 : Df := ⟨"_law_tock", ["clock", "many"], ["clock", "many", "rest", "lap", "cell", "mixed"], [b7_0, b7_1, b7_2, b7_3, b7_4, b7_5, b7_6, b7_7, b7_8], [(2, [], [0, 1])]⟩
abbrev s8 : Stmt := topS 18
/-- _law_of -/
def d8 : Df := ⟨"_law_of", ["clock", "some"], ["clock", "some"], [.ret (.ix (.var 1) (.call 7 [(.var 0), (.bi .len [(.var 1)])] [] [0, 1]))], [(2, [], [0, 1])]⟩
abbrev s9 : Stmt := topS 19
def b9_0 : Sx := .asg (.nm 1) (.call 6 [(.var 0)] [] [0])
def b9_1_0 : Sx := .asg (.tp [(.nm 3), (.nm 4)]) (.tup [(.call 8 [(.var 1), (.lst [(.int 1), (.int 2), (.int 3), (.int 200), (.bin .add (.int 1) (.call 7 [(.var 1), (.int 200)] [] [0, 1]))])] [] [0, 1]), (.bin .add (.int 2) (.call 7 [(.var 1), (.int 3)] [] [0, 1]))])
def b9_1_1 : Sx := .par [5, 6] [(.mrg1 (.var 3)), (.bin .sub (.var 3) (.int 1))]
def b9_1_2 : Sx := .fors (.nm 7) (.rng1 (.int 12)) [.asg (.nm 6) (.bin .add (.var 6) (.var 4)), .expr (.meth .append (.var 5) [(.var 6)])]
def b9_1_3 : Sx := .frzs 5 (.ifs (.cmp .ne (.lc (.call 3 [(.var 3), (.var 4), (.var 11)] [] [0, 1, 2]) (.nm 11) (.rng1 (.bi .len [(.var 5)])) none [11]) (.var 5)) [.ret (.bl false)] [])
def b9_1_4 : Sx := .fors (.nm 8) (.seq (.lst [(.int 0), (.bin .sub (.var 3) (.int 1)), (.var 3), (.bin .add (.var 3) (.int 1)), (.bin .add (.var 3) (.call 7 [(.var 1), (.bin .mul (.int 10) (.var 4))] [] [0, 1])), (.call 7 [(.var 1), (.bin .add (.var 3) (.bin .mul (.int 10) (.var 4)))] [] [0, 1])])) [.asg (.nm 9) (.ix (.lc (.var 11) (.tp [(.nm 11), (.nm 12)]) (.enu (.var 5)) (some (.cmp .ge (.var 12) (.var 8))) [11, 12]) (.int 0)), .ifs (.or (.cmp .ne (.bi .repr [(.call 4 [(.var 3), (.var 4), (.var 8)] [] [0, 1, 2])]) (.bi .repr [(.var 9)])) (.cmp .ne (.call 4 [] [("tick", (.var 8)), ("by", (.var 4)), ("many", (.var 3))] [2, 1, 0]) (.var 9))) [.ret (.bl false)] []]
def b9_1_5 : Sx := .asg (.nm 10) (.bin .add (.bin .pow (.int 10) (.int 20)) (.call 7 [(.var 1), (.bin .pow (.int 10) (.int 9))] [] [0, 1]))
def b9_1_6 : Sx := .asg (.nm 11) (.call 4 [(.var 3), (.var 4), (.var 10)] [] [0, 1, 2])
def b9_1_7 : Sx := .ifs (.or (.cmp .lt (.call 3 [] [("tick", (.var 11)), ("by", (.var 4)), ("many", (.var 3))] [2, 1, 0]) (.var 10)) (.cmp .ge (.call 3 [(.var 3), (.var 4), (.bin .sub (.var 11) (.int 1))] [] [0, 1, 2]) (.var 10))) [.ret (.bl false)] []
def b9_1_8 : Sx := .ifs (.cmp .ne (.bi .repr [(.call 3 [(.var 3), (.var 4), (.bin .add (.var 3) (.var 10))] [] [0, 1, 2])]) (.bi .repr [(.bin .add (.bin .sub (.var 3) (.int 1)) (.bin .mul (.var 4) (.bin .add (.var 10) (.int 1))))])) [.ret (.bl false)] []
def b9_1 : Sx := .fors (.nm 2) (.rng1 (.int 4)) [b9_1_0, b9_1_1, b9_1_2, b9_1_3, b9_1_4, b9_1_5, b9_1_6, b9_1_7, b9_1_8]
def b9_2 : Sx := .ret (.bl true)
/-- law -/
def d9 : Df := ⟨"law", ["script"], ["script", "clock", "turn", "many", "by", "stands", "tick", "more", "wish", "due", "far", "at", "its"], [b9_0, b9_1, b9_2], [(1, [], [0])]⟩
def Pd : List Df := [d0, d1, d2, d3, d4, d5, d6, d7, d8, d9]
def gs : List (Str × GC) := [("LEAST_BY", .int 2), ("MOST_BY", .int 4), ("MOST_IN_WORD", .int 200)]
def bs : List Str := ["abs", "bool", "enumerate", "int", "isinstance", "len", "list", "range", "repr"]
def cs : List Cf := []
theorem sc0 : FnScope d0.N d0.ps (defScope s0) := ⟨rfl, rfl, rfl, by decide +kernel, rfl, by decide +kernel, by decide +kernel⟩
theorem mt0 : mSs d0.body ⟨d0.N, defScope s0, defScope s0, Pd, bs, gs, cs⟩ (defBody s0) = true := by decide +kernel
theorem sc1 : FnScope d1.N d1.ps (defScope s1) := ⟨rfl, rfl, rfl, by decide +kernel, rfl, by decide +kernel, by decide +kernel⟩
theorem mt1 : mSs d1.body ⟨d1.N, defScope s1, defScope s1, Pd, bs, gs, cs⟩ (defBody s1) = true := by decide +kernel
theorem sc2 : FnScope d2.N d2.ps (defScope s2) := ⟨rfl, rfl, rfl, by decide +kernel, rfl, by decide +kernel, by decide +kernel⟩
theorem mt2 : mSs d2.body ⟨d2.N, defScope s2, defScope s2, Pd, bs, gs, cs⟩ (defBody s2) = true := by decide +kernel
theorem sc3 : FnScope d3.N d3.ps (defScope s3) := ⟨rfl, rfl, rfl, by decide +kernel, rfl, by decide +kernel, by decide +kernel⟩
theorem mt3 : mSs d3.body ⟨d3.N, defScope s3, defScope s3, Pd, bs, gs, cs⟩ (defBody s3) = true := by decide +kernel
theorem sc4 : FnScope d4.N d4.ps (defScope s4) := ⟨rfl, rfl, rfl, by decide +kernel, rfl, by decide +kernel, by decide +kernel⟩
theorem mt4 : mSs d4.body ⟨d4.N, defScope s4, defScope s4, Pd, bs, gs, cs⟩ (defBody s4) = true := by decide +kernel
theorem sc5 : FnScope d5.N d5.ps (defScope s5) := ⟨rfl, rfl, rfl, by decide +kernel, rfl, by decide +kernel, by decide +kernel⟩
theorem mt5 : mSs d5.body ⟨d5.N, defScope s5, defScope s5, Pd, bs, gs, cs⟩ (defBody s5) = true := by decide +kernel
theorem sc6 : FnScope d6.N d6.ps (defScope s6) := ⟨rfl, rfl, rfl, by decide +kernel, rfl, by decide +kernel, by decide +kernel⟩
theorem mt6 : mSs d6.body ⟨d6.N, defScope s6, defScope s6, Pd, bs, gs, cs⟩ (defBody s6) = true := by decide +kernel
theorem sc7 : FnScope d7.N d7.ps (defScope s7) := ⟨rfl, rfl, rfl, by decide +kernel, rfl, by decide +kernel, by decide +kernel⟩
theorem mt7 : mSs d7.body ⟨d7.N, defScope s7, defScope s7, Pd, bs, gs, cs⟩ (defBody s7) = true := by decide +kernel
theorem sc8 : FnScope d8.N d8.ps (defScope s8) := ⟨rfl, rfl, rfl, by decide +kernel, rfl, by decide +kernel, by decide +kernel⟩
theorem mt8 : mSs d8.body ⟨d8.N, defScope s8, defScope s8, Pd, bs, gs, cs⟩ (defBody s8) = true := by decide +kernel
theorem sc9 : FnScope d9.N d9.ps (defScope s9) := ⟨rfl, rfl, rfl, by decide +kernel, rfl, by decide +kernel, by decide +kernel⟩
theorem mt9 : mSs d9.body ⟨d9.N, defScope s9, defScope s9, Pd, bs, gs, cs⟩ (defBody s9) = true := by decide +kernel
theorem at0 {K : PySem.W.Frag} {cls : Nat → Addr} {h : Heap} {mg : Str → Option Value} {f : Addr} (X : K.In h) (G : h.Ns mainGlobals mg) {od an : Option Addr} {sl : Array (Option Value)} {oc kV dc pm cd ct : Value}
    (a : PySem.W.nsIn K mainGlobals "is_integer" = some (some (.ref f))) (l : K.lookup f = some ⟨oc, od, .func (PySem.W.fnOf "is_integer" "is_integer" (defArgs s0) (defBody s0) (defScope s0) .none kV dc pm an cd ct), sl⟩) (c : PySem.W.codeIn K cd "is_integer" = true) (k : PySem.W.keepIn K (.ref f) = true) :
    ∃ fd, DefAt ⟨K, cls, 0⟩ mg Pd bs gs cs d0 f fd := by
  refine ⟨_, fun _ => PySem.W.mg_of X G a, k, ⟨"is_integer", "is_integer", defArgs s0, defBody s0, defScope s0, .none, kV, dc, pm, cd, ct, oc, an, od, sl, rfl, l, c, sc0, mt0⟩, fun sh hs s us ws h1 h2 => ?_⟩
  rcases List.mem_cons.mp hs with rfl | hs
  · match us, ws, h1, h2 with
    | [_], [], _, _ => exact .of_eq rfl
  cases hs
theorem at1 {K : PySem.W.Frag} {cls : Nat → Addr} {h : Heap} {mg : Str → Option Value} {f : Addr} (X : K.In h) (G : h.Ns mainGlobals mg) {od an : Option Addr} {sl : Array (Option Value)} {oc kV dc pm cd ct : Value}
    (a : PySem.W.nsIn K mainGlobals "is_within" = some (some (.ref f))) (l : K.lookup f = some ⟨oc, od, .func (PySem.W.fnOf "is_within" "is_within" (defArgs s1) (defBody s1) (defScope s1) .none kV dc pm an cd ct), sl⟩) (c : PySem.W.codeIn K cd "is_within" = true) (k : PySem.W.keepIn K (.ref f) = true) :
    ∃ fd, DefAt ⟨K, cls, 0⟩ mg Pd bs gs cs d1 f fd := by
  refine ⟨_, fun _ => PySem.W.mg_of X G a, k, ⟨"is_within", "is_within", defArgs s1, defBody s1, defScope s1, .none, kV, dc, pm, cd, ct, oc, an, od, sl, rfl, l, c, sc1, mt1⟩, fun sh hs s us ws h1 h2 => ?_⟩
  rcases List.mem_cons.mp hs with rfl | hs
  · match us, ws, h1, h2 with
    | [_, _, _], [], _, _ => exact .of_eq rfl
  cases hs
theorem at2 {K : PySem.W.Frag} {cls : Nat → Addr} {h : Heap} {mg : Str → Option Value} {f : Addr} (X : K.In h) (G : h.Ns mainGlobals mg) {od an : Option Addr} {sl : Array (Option Value)} {oc kV dc pm cd ct : Value}
    (a : PySem.W.nsIn K mainGlobals "demand_number" = some (some (.ref f))) (l : K.lookup f = some ⟨oc, od, .func (PySem.W.fnOf "demand_number" "demand_number" (defArgs s2) (defBody s2) (defScope s2) .none kV dc pm an cd ct), sl⟩) (c : PySem.W.codeIn K cd "demand_number" = true) (k : PySem.W.keepIn K (.ref f) = true) :
    ∃ fd, DefAt ⟨K, cls, 0⟩ mg Pd bs gs cs d2 f fd := by
  refine ⟨_, fun _ => PySem.W.mg_of X G a, k, ⟨"demand_number", "demand_number", defArgs s2, defBody s2, defScope s2, .none, kV, dc, pm, cd, ct, oc, an, od, sl, rfl, l, c, sc2, mt2⟩, fun sh hs s us ws h1 h2 => ?_⟩
  rcases List.mem_cons.mp hs with rfl | hs
  · match us, ws, h1, h2 with
    | [_, _, _, _], [], _, _ => exact .of_eq rfl
  cases hs
theorem at3 {K : PySem.W.Frag} {cls : Nat → Addr} {h : Heap} {mg : Str → Option Value} {f : Addr} (X : K.In h) (G : h.Ns mainGlobals mg) {od an : Option Addr} {sl : Array (Option Value)} {oc kV dc pm cd ct : Value}
    (a : PySem.W.nsIn K mainGlobals "inner_tick" = some (some (.ref f))) (l : K.lookup f = some ⟨oc, od, .func (PySem.W.fnOf "inner_tick" "inner_tick" (defArgs s3) (defBody s3) (defScope s3) .none kV dc pm an cd ct), sl⟩) (c : PySem.W.codeIn K cd "inner_tick" = true) (k : PySem.W.keepIn K (.ref f) = true) :
    ∃ fd, DefAt ⟨K, cls, 0⟩ mg Pd bs gs cs d3 f fd := by
  refine ⟨_, fun _ => PySem.W.mg_of X G a, k, ⟨"inner_tick", "inner_tick", defArgs s3, defBody s3, defScope s3, .none, kV, dc, pm, cd, ct, oc, an, od, sl, rfl, l, c, sc3, mt3⟩, fun sh hs s us ws h1 h2 => ?_⟩
  rcases List.mem_cons.mp hs with rfl | hs
  · match us, ws, h1, h2 with
    | [_, _, _], [], _, _ => exact .of_eq rfl
  rcases List.mem_cons.mp hs with rfl | hs
  · match us, ws, h1, h2 with
    | [], [_, _, _], _, _ => exact .of_eq rfl
  cases hs
theorem at4 {K : PySem.W.Frag} {cls : Nat → Addr} {h : Heap} {mg : Str → Option Value} {f : Addr} (X : K.In h) (G : h.Ns mainGlobals mg) {od an : Option Addr} {sl : Array (Option Value)} {oc kV dc pm cd ct : Value}
    (a : PySem.W.nsIn K mainGlobals "cut_tick" = some (some (.ref f))) (l : K.lookup f = some ⟨oc, od, .func (PySem.W.fnOf "cut_tick" "cut_tick" (defArgs s4) (defBody s4) (defScope s4) .none kV dc pm an cd ct), sl⟩) (c : PySem.W.codeIn K cd "cut_tick" = true) (k : PySem.W.keepIn K (.ref f) = true) :
    ∃ fd, DefAt ⟨K, cls, 0⟩ mg Pd bs gs cs d4 f fd := by
  refine ⟨_, fun _ => PySem.W.mg_of X G a, k, ⟨"cut_tick", "cut_tick", defArgs s4, defBody s4, defScope s4, .none, kV, dc, pm, cd, ct, oc, an, od, sl, rfl, l, c, sc4, mt4⟩, fun sh hs s us ws h1 h2 => ?_⟩
  rcases List.mem_cons.mp hs with rfl | hs
  · match us, ws, h1, h2 with
    | [], [_, _, _], _, _ => exact .of_eq rfl
  rcases List.mem_cons.mp hs with rfl | hs
  · match us, ws, h1, h2 with
    | [_, _, _], [], _, _ => exact .of_eq rfl
  cases hs
theorem at5 {K : PySem.W.Frag} {cls : Nat → Addr} {h : Heap} {mg : Str → Option Value} {f : Addr} (X : K.In h) (G : h.Ns mainGlobals mg) {od an : Option Addr} {sl : Array (Option Value)} {oc kV dc pm cd ct : Value}
    (a : PySem.W.nsIn K mainGlobals "demand_sped" = some (some (.ref f))) (l : K.lookup f = some ⟨oc, od, .func (PySem.W.fnOf "demand_sped" "demand_sped" (defArgs s5) (defBody s5) (defScope s5) .none kV dc pm an cd ct), sl⟩) (c : PySem.W.codeIn K cd "demand_sped" = true) (k : PySem.W.keepIn K (.ref f) = true) :
    ∃ fd, DefAt ⟨K, cls, 0⟩ mg Pd bs gs cs d5 f fd := by
  refine ⟨_, fun _ => PySem.W.mg_of X G a, k, ⟨"demand_sped", "demand_sped", defArgs s5, defBody s5, defScope s5, .none, kV, dc, pm, cd, ct, oc, an, od, sl, rfl, l, c, sc5, mt5⟩, fun sh hs s us ws h1 h2 => ?_⟩
  rcases List.mem_cons.mp hs with rfl | hs
  · match us, ws, h1, h2 with
    | [_, _, _], [], _, _ => exact .of_eq rfl
  cases hs
theorem at6 {K : PySem.W.Frag} {cls : Nat → Addr} {h : Heap} {mg : Str → Option Value} {f : Addr} (X : K.In h) (G : h.Ns mainGlobals mg) {od an : Option Addr} {sl : Array (Option Value)} {oc kV dc pm cd ct : Value}
    (a : PySem.W.nsIn K mainGlobals "_law_clock" = some (some (.ref f))) (l : K.lookup f = some ⟨oc, od, .func (PySem.W.fnOf "_law_clock" "_law_clock" (defArgs s6) (defBody s6) (defScope s6) .none kV dc pm an cd ct), sl⟩) (c : PySem.W.codeIn K cd "_law_clock" = true) (k : PySem.W.keepIn K (.ref f) = true) :
    ∃ fd, DefAt ⟨K, cls, 0⟩ mg Pd bs gs cs d6 f fd := by
  refine ⟨_, fun _ => PySem.W.mg_of X G a, k, ⟨"_law_clock", "_law_clock", defArgs s6, defBody s6, defScope s6, .none, kV, dc, pm, cd, ct, oc, an, od, sl, rfl, l, c, sc6, mt6⟩, fun sh hs s us ws h1 h2 => ?_⟩
  rcases List.mem_cons.mp hs with rfl | hs
  · match us, ws, h1, h2 with
    | [_], [], _, _ => exact .of_eq rfl
  cases hs
theorem at7 {K : PySem.W.Frag} {cls : Nat → Addr} {h : Heap} {mg : Str → Option Value} {f : Addr} (X : K.In h) (G : h.Ns mainGlobals mg) {od an : Option Addr} {sl : Array (Option Value)} {oc kV dc pm cd ct : Value}
    (a : PySem.W.nsIn K mainGlobals "_law_tock" = some (some (.ref f))) (l : K.lookup f = some ⟨oc, od, .func (PySem.W.fnOf "_law_tock" "_law_tock" (defArgs s7) (defBody s7) (defScope s7) .none kV dc pm an cd ct), sl⟩) (c : PySem.W.codeIn K cd "_law_tock" = true) (k : PySem.W.keepIn K (.ref f) = true) :
    ∃ fd, DefAt ⟨K, cls, 0⟩ mg Pd bs gs cs d7 f fd := by
  refine ⟨_, fun _ => PySem.W.mg_of X G a, k, ⟨"_law_tock", "_law_tock", defArgs s7, defBody s7, defScope s7, .none, kV, dc, pm, cd, ct, oc, an, od, sl, rfl, l, c, sc7, mt7⟩, fun sh hs s us ws h1 h2 => ?_⟩
  rcases List.mem_cons.mp hs with rfl | hs
  · match us, ws, h1, h2 with
    | [_, _], [], _, _ => exact .of_eq rfl
  cases hs
theorem at8 {K : PySem.W.Frag} {cls : Nat → Addr} {h : Heap} {mg : Str → Option Value} {f : Addr} (X : K.In h) (G : h.Ns mainGlobals mg) {od an : Option Addr} {sl : Array (Option Value)} {oc kV dc pm cd ct : Value}
    (a : PySem.W.nsIn K mainGlobals "_law_of" = some (some (.ref f))) (l : K.lookup f = some ⟨oc, od, .func (PySem.W.fnOf "_law_of" "_law_of" (defArgs s8) (defBody s8) (defScope s8) .none kV dc pm an cd ct), sl⟩) (c : PySem.W.codeIn K cd "_law_of" = true) (k : PySem.W.keepIn K (.ref f) = true) :
    ∃ fd, DefAt ⟨K, cls, 0⟩ mg Pd bs gs cs d8 f fd := by
  refine ⟨_, fun _ => PySem.W.mg_of X G a, k, ⟨"_law_of", "_law_of", defArgs s8, defBody s8, defScope s8, .none, kV, dc, pm, cd, ct, oc, an, od, sl, rfl, l, c, sc8, mt8⟩, fun sh hs s us ws h1 h2 => ?_⟩
  rcases List.mem_cons.mp hs with rfl | hs
  · match us, ws, h1, h2 with
    | [_, _], [], _, _ => exact .of_eq rfl
  cases hs
theorem at9 {K : PySem.W.Frag} {cls : Nat → Addr} {h : Heap} {mg : Str → Option Value} {f : Addr} (X : K.In h) (G : h.Ns mainGlobals mg) {od an : Option Addr} {sl : Array (Option Value)} {oc kV dc pm cd ct : Value}
    (a : PySem.W.nsIn K mainGlobals "law" = some (some (.ref f))) (l : K.lookup f = some ⟨oc, od, .func (PySem.W.fnOf "law" "law" (defArgs s9) (defBody s9) (defScope s9) .none kV dc pm an cd ct), sl⟩) (c : PySem.W.codeIn K cd "law" = true) (k : PySem.W.keepIn K (.ref f) = true) :
    ∃ fd, DefAt ⟨K, cls, 0⟩ mg Pd bs gs cs d9 f fd := by
  refine ⟨_, fun _ => PySem.W.mg_of X G a, k, ⟨"law", "law", defArgs s9, defBody s9, defScope s9, .none, kV, dc, pm, cd, ct, oc, an, od, sl, rfl, l, c, sc9, mt9⟩, fun sh hs s us ws h1 h2 => ?_⟩
  rcases List.mem_cons.mp hs with rfl | hs
  · match us, ws, h1, h2 with
    | [_], [], _, _ => exact .of_eq rfl
  cases hs
theorem tab {K : PySem.W.Frag} {h : Heap} {mg : Str → Option Value} (X : K.In h) (G : h.Ns mainGlobals mg)
    {f0 : Addr} {od0 an0 : Option Addr} {sl0 : Array (Option Value)} {oc0 kV0 dc0 pm0 cd0 ct0 : Value} (a0 : PySem.W.nsIn K mainGlobals "is_integer" = some (some (.ref f0))) (l0 : K.lookup f0 = some ⟨oc0, od0, .func (PySem.W.fnOf "is_integer" "is_integer" (defArgs s0) (defBody s0) (defScope s0) .none kV0 dc0 pm0 an0 cd0 ct0), sl0⟩) (c0 : PySem.W.codeIn K cd0 "is_integer" = true) (k0 : PySem.W.keepIn K (.ref f0) = true)
    {f1 : Addr} {od1 an1 : Option Addr} {sl1 : Array (Option Value)} {oc1 kV1 dc1 pm1 cd1 ct1 : Value} (a1 : PySem.W.nsIn K mainGlobals "is_within" = some (some (.ref f1))) (l1 : K.lookup f1 = some ⟨oc1, od1, .func (PySem.W.fnOf "is_within" "is_within" (defArgs s1) (defBody s1) (defScope s1) .none kV1 dc1 pm1 an1 cd1 ct1), sl1⟩) (c1 : PySem.W.codeIn K cd1 "is_within" = true) (k1 : PySem.W.keepIn K (.ref f1) = true)
    {f2 : Addr} {od2 an2 : Option Addr} {sl2 : Array (Option Value)} {oc2 kV2 dc2 pm2 cd2 ct2 : Value} (a2 : PySem.W.nsIn K mainGlobals "demand_number" = some (some (.ref f2))) (l2 : K.lookup f2 = some ⟨oc2, od2, .func (PySem.W.fnOf "demand_number" "demand_number" (defArgs s2) (defBody s2) (defScope s2) .none kV2 dc2 pm2 an2 cd2 ct2), sl2⟩) (c2 : PySem.W.codeIn K cd2 "demand_number" = true) (k2 : PySem.W.keepIn K (.ref f2) = true)
    {f3 : Addr} {od3 an3 : Option Addr} {sl3 : Array (Option Value)} {oc3 kV3 dc3 pm3 cd3 ct3 : Value} (a3 : PySem.W.nsIn K mainGlobals "inner_tick" = some (some (.ref f3))) (l3 : K.lookup f3 = some ⟨oc3, od3, .func (PySem.W.fnOf "inner_tick" "inner_tick" (defArgs s3) (defBody s3) (defScope s3) .none kV3 dc3 pm3 an3 cd3 ct3), sl3⟩) (c3 : PySem.W.codeIn K cd3 "inner_tick" = true) (k3 : PySem.W.keepIn K (.ref f3) = true)
    {f4 : Addr} {od4 an4 : Option Addr} {sl4 : Array (Option Value)} {oc4 kV4 dc4 pm4 cd4 ct4 : Value} (a4 : PySem.W.nsIn K mainGlobals "cut_tick" = some (some (.ref f4))) (l4 : K.lookup f4 = some ⟨oc4, od4, .func (PySem.W.fnOf "cut_tick" "cut_tick" (defArgs s4) (defBody s4) (defScope s4) .none kV4 dc4 pm4 an4 cd4 ct4), sl4⟩) (c4 : PySem.W.codeIn K cd4 "cut_tick" = true) (k4 : PySem.W.keepIn K (.ref f4) = true)
    {f5 : Addr} {od5 an5 : Option Addr} {sl5 : Array (Option Value)} {oc5 kV5 dc5 pm5 cd5 ct5 : Value} (a5 : PySem.W.nsIn K mainGlobals "demand_sped" = some (some (.ref f5))) (l5 : K.lookup f5 = some ⟨oc5, od5, .func (PySem.W.fnOf "demand_sped" "demand_sped" (defArgs s5) (defBody s5) (defScope s5) .none kV5 dc5 pm5 an5 cd5 ct5), sl5⟩) (c5 : PySem.W.codeIn K cd5 "demand_sped" = true) (k5 : PySem.W.keepIn K (.ref f5) = true)
    {f6 : Addr} {od6 an6 : Option Addr} {sl6 : Array (Option Value)} {oc6 kV6 dc6 pm6 cd6 ct6 : Value} (a6 : PySem.W.nsIn K mainGlobals "_law_clock" = some (some (.ref f6))) (l6 : K.lookup f6 = some ⟨oc6, od6, .func (PySem.W.fnOf "_law_clock" "_law_clock" (defArgs s6) (defBody s6) (defScope s6) .none kV6 dc6 pm6 an6 cd6 ct6), sl6⟩) (c6 : PySem.W.codeIn K cd6 "_law_clock" = true) (k6 : PySem.W.keepIn K (.ref f6) = true)
    {f7 : Addr} {od7 an7 : Option Addr} {sl7 : Array (Option Value)} {oc7 kV7 dc7 pm7 cd7 ct7 : Value} (a7 : PySem.W.nsIn K mainGlobals "_law_tock" = some (some (.ref f7))) (l7 : K.lookup f7 = some ⟨oc7, od7, .func (PySem.W.fnOf "_law_tock" "_law_tock" (defArgs s7) (defBody s7) (defScope s7) .none kV7 dc7 pm7 an7 cd7 ct7), sl7⟩) (c7 : PySem.W.codeIn K cd7 "_law_tock" = true) (k7 : PySem.W.keepIn K (.ref f7) = true)
    {f8 : Addr} {od8 an8 : Option Addr} {sl8 : Array (Option Value)} {oc8 kV8 dc8 pm8 cd8 ct8 : Value} (a8 : PySem.W.nsIn K mainGlobals "_law_of" = some (some (.ref f8))) (l8 : K.lookup f8 = some ⟨oc8, od8, .func (PySem.W.fnOf "_law_of" "_law_of" (defArgs s8) (defBody s8) (defScope s8) .none kV8 dc8 pm8 an8 cd8 ct8), sl8⟩) (c8 : PySem.W.codeIn K cd8 "_law_of" = true) (k8 : PySem.W.keepIn K (.ref f8) = true)
    {f9 : Addr} {od9 an9 : Option Addr} {sl9 : Array (Option Value)} {oc9 kV9 dc9 pm9 cd9 ct9 : Value} (a9 : PySem.W.nsIn K mainGlobals "law" = some (some (.ref f9))) (l9 : K.lookup f9 = some ⟨oc9, od9, .func (PySem.W.fnOf "law" "law" (defArgs s9) (defBody s9) (defScope s9) .none kV9 dc9 pm9 an9 cd9 ct9), sl9⟩) (c9 : PySem.W.codeIn K cd9 "law" = true) (k9 : PySem.W.keepIn K (.ref f9) = true)
    (z0 : PySem.W.nsIn K mainGlobals "abs" = some none)
    (z1 : PySem.W.nsIn K mainGlobals "bool" = some none)
    (z2 : PySem.W.nsIn K mainGlobals "enumerate" = some none)
    (z3 : PySem.W.nsIn K mainGlobals "int" = some none)
    (z4 : PySem.W.nsIn K mainGlobals "isinstance" = some none)
    (z5 : PySem.W.nsIn K mainGlobals "len" = some none)
    (z6 : PySem.W.nsIn K mainGlobals "list" = some none)
    (z7 : PySem.W.nsIn K mainGlobals "range" = some none)
    (z8 : PySem.W.nsIn K mainGlobals "repr" = some none)
    {t0 : Tok} (g0 : PySem.W.nsIn K mainGlobals "LEAST_BY" = some (some (.int 2 t0)))
    {t1 : Tok} (g1 : PySem.W.nsIn K mainGlobals "MOST_BY" = some (some (.int 4 t1)))
    {t2 : Tok} (g2 : PySem.W.nsIn K mainGlobals "MOST_IN_WORD" = some (some (.int 200 t2)))
    : Tab ⟨K, fun n => ([] : List Addr).getD n 0, 0⟩ mg Pd bs gs cs := by
  refine ⟨fun i d h => ?_, fun x hx => ?_, fun p hp => ?_, rfl, fun i cf h => ?_⟩
  · match i, h with
    | 0, h => cases h; exact ⟨_, at0 X G a0 l0 c0 k0⟩
    | 1, h => cases h; exact ⟨_, at1 X G a1 l1 c1 k1⟩
    | 2, h => cases h; exact ⟨_, at2 X G a2 l2 c2 k2⟩
    | 3, h => cases h; exact ⟨_, at3 X G a3 l3 c3 k3⟩
    | 4, h => cases h; exact ⟨_, at4 X G a4 l4 c4 k4⟩
    | 5, h => cases h; exact ⟨_, at5 X G a5 l5 c5 k5⟩
    | 6, h => cases h; exact ⟨_, at6 X G a6 l6 c6 k6⟩
    | 7, h => cases h; exact ⟨_, at7 X G a7 l7 c7 k7⟩
    | 8, h => cases h; exact ⟨_, at8 X G a8 l8 c8 k8⟩
    | 9, h => cases h; exact ⟨_, at9 X G a9 l9 c9 k9⟩
    | n + 10, h => cases h
  · simp only [bs, List.mem_cons, List.not_mem_nil, or_false] at hx
    rcases hx with rfl | rfl | rfl | rfl | rfl | rfl | rfl | rfl | rfl
    · exact PySem.W.mg_none_of X G z0
    · exact PySem.W.mg_none_of X G z1
    · exact PySem.W.mg_none_of X G z2
    · exact PySem.W.mg_none_of X G z3
    · exact PySem.W.mg_none_of X G z4
    · exact PySem.W.mg_none_of X G z5
    · exact PySem.W.mg_none_of X G z6
    · exact PySem.W.mg_none_of X G z7
    · exact PySem.W.mg_none_of X G z8
  · simp only [gs, List.mem_cons, List.not_mem_nil, or_false] at hp
    rcases hp with rfl | rfl | rfl
    · exact ⟨_, PySem.W.mg_of X G g0, ⟨_, rfl⟩⟩
    · exact ⟨_, PySem.W.mg_of X G g1, ⟨_, rfl⟩⟩
    · exact ⟨_, PySem.W.mg_of X G g2, ⟨_, rfl⟩⟩
  · match i, h with
    | n + 0, h => cases h
end K52
namespace K52
open PySem Ev L2
/-! the ticks, as numbers -/
def inn (n b t : Int) : Int := if t < n then t else n - 1 + b * (t - n + 1)
def cut (n b t : Int) : Int := if t < n then t else n - 1 + (t - n + b) / b
theorem cut_pos {n b t : Int} (hn : 1 ≤ n) (hb : b = 2 ∨ b = 3 ∨ b = 4) (ht : 0 ≤ t) : 0 ≤ cut n b t ∧ cut n b t ≤ t ∧ (n ≤ t → n ≤ cut n b t) := by
  unfold cut
  split
  · omega
  · rcases hb with rfl | rfl | rfl <;> omega
theorem inn_cut {n b t : Int} (hn : 1 ≤ n) (hb : b = 2 ∨ b = 3 ∨ b = 4) (ht : 0 ≤ t) : t ≤ inn n b (cut n b t) := by
  unfold inn cut
  by_cases h : t < n
  · rw [if_pos h, if_pos h]; omega
  · rw [if_neg h]
    rcases hb with rfl | rfl | rfl
    · rw [if_neg (by omega)]; omega
    · rw [if_neg (by omega)]; omega
    · rw [if_neg (by omega)]; omega
theorem inn_below {n b t j : Int} (hn : 1 ≤ n) (hb : b = 2 ∨ b = 3 ∨ b = 4) (ht : 0 ≤ t) (hj : j < cut n b t) : inn n b j < t := by
  unfold inn
  unfold cut at hj
  by_cases h : t < n
  · rw [if_pos h] at hj
    rw [if_pos (by omega)]; omega
  · rw [if_neg h] at hj
    rcases hb with rfl | rfl | rfl
    · split <;> omega
    · split <;> omega
    · split <;> omega
/-! the program's own -/
theorem int_at : At Pd 0 isIntB 1 1 := ⟨d0, rfl, rfl, rfl, rfl⟩
theorem wi_at : At Pd 1 (withinB 0) 3 3 := ⟨d1, rfl, rfl, rfl, rfl⟩
theorem dem_at : At Pd 2 (demNumB 1) 4 4 := ⟨d2, rfl, rfl, rfl, rfl⟩
theorem inner_at : At Pd 3 [b3_0, b3_1] 3 3 := ⟨d3, rfl, rfl, rfl, rfl⟩
theorem cut_at : At Pd 4 [b4_0, b4_1] 3 3 := ⟨d4, rfl, rfl, rfl, rfl⟩
theorem sped_at : At Pd 5 [b5_0, b5_1, b5_2] 3 3 := ⟨d5, rfl, rfl, rfl, rfl⟩
section
variable {k : Nat} {M : Mem} {n b t : Int}
theorem sped_ok (h1 : 1 ≤ n) (h2 : n ≤ 200) (hb : b = 2 ∨ b = 3 ∨ b = 4) (ht : 0 ≤ t) : evF Pd (k + 4) 5 [.int n, .int b, .int t] M = .ok .non M := by
  have e1 := demNum_ok (k := k) (M := M) dem_at wi_at int_at n 1 200 (.str "many") h1 h2
  have e2 := demNum_ok (k := k) (M := M) dem_at wi_at int_at b 2 4 (.str "by") (by omega) (by omega)
  have e3 := demNum_from (k := k) (M := M) dem_at wi_at int_at t 0 (.str "tick") ht
  rw [sped_at.ev3]
  simp [b5_0, b5_1, b5_2, e1, e2, e3]
theorem inner_ok (h1 : 1 ≤ n) (h2 : n ≤ 200) (hb : b = 2 ∨ b = 3 ∨ b = 4) (ht : 0 ≤ t) : evF Pd (k + 5) 3 [.int n, .int b, .int t] M = .ok (.int (inn n b t)) M := by
  have e := sped_ok (k := k) (M := M) h1 h2 hb ht
  have m : evBin .mul (.int b) (.int (t - n + 1)) M = some (.int (b * (t - n + 1))) := bin_mulL (by omega)
  rw [inner_at.ev3]
  by_cases h : t < n
  · simp [b3_0, b3_1, e, h, inn]
  · simp [b3_0, b3_1, e, h, inn, m]
theorem cut_ok (h1 : 1 ≤ n) (h2 : n ≤ 200) (hb : b = 2 ∨ b = 3 ∨ b = 4) (ht : 0 ≤ t) : evF Pd (k + 5) 4 [.int n, .int b, .int t] M = .ok (.int (cut n b t)) M := by
  have e := sped_ok (k := k) (M := M) h1 h2 hb ht
  have m : evBin .fdiv (.int (t - n + b)) (.int b) M = some (.int ((t - n + b) / b)) := bin_fdiv (by omega) (log_small (by omega) (by omega))
  rw [cut_at.ev3]
  by_cases h : t < n
  · simp [b4_0, b4_1, e, h, cut]
  · simp [b4_0, b4_1, e, h, cut, m]
end
/-! what is drawn -/
def dc : DrC := ⟨73127, 9743, 2147483353, 43103, 9743, 2147483323, 4397, 73127, 43103, 2147483269, 32, true, false, false, false⟩
theorem leaf {k : Nat} {ns : List Int} {lap rest many : Int} {i : Nat} {M : Mem} (h : M[i]? = some (some (stairO ns lap rest))) (hm : 0 < many) (hm2 : many < 2147483648) (h0 : 0 ≤ lap) (h1 : lap ≤ 60000) :
    ∃ r lap' rest', evF Pd (k + 1) 7 [.cell i, .int many] M = .ok (.int r) (M.set i (some (stairO ns lap' rest'))) ∧ 0 ≤ r ∧ r < many ∧ 0 ≤ lap' ∧ lap' ≤ lap + 1 :=
  draw (d := d7) dc rfl rfl rfl rfl (by decide) h hm (log_small hm hm2) h0 h1
theorem one {k : Nat} {ns : List Int} {lap rest : Int} {i : Nat} {M : Mem} (h : M[i]? = some (some (stairO ns lap rest))) (xs : List D) (hx : xs ≠ []) (hx2 : xs.length < 2147483648) (h0 : 0 ≤ lap) (h1 : lap ≤ 60000) :
    ∃ x lap' rest', evF Pd (k + 2) 8 [.cell i, .lst xs] M = .ok x (M.set i (some (stairO ns lap' rest'))) ∧ x ∈ xs ∧ 0 ≤ lap' ∧ lap' ≤ lap + 1 :=
  drawOf (d := d7) (e := d8) dc rfl rfl rfl rfl (by decide) rfl rfl rfl rfl h xs hx hx2 h0 h1
/-! the list of ticks -/
def stD (n b : Int) (m : Nat) : List D := (List.range m).map fun j : Nat => .int (inn n b j)
def stP (n b : Int) (m : Nat) : List PyData := (List.range m).map fun j : Nat => .int (inn n b j)
theorem toPds_map {α : Type} (f : α → Int) : ∀ xs : List α, toPds (xs.map fun j => D.int (f j)) = some (xs.map fun j => PyData.int (f j))
  | [] => rfl
  | x :: xs => by simp [toPds, toPd, toPds_map f xs]
theorem lay_map {α : Type} (f : α → Int) : ∀ xs : List α, PyData.canLayAll0 (xs.map fun j => PyData.int (f j)) = true
  | [] => rfl
  | x :: xs => by simp [PyData.canLayAll0, PyData.canLay0, lay_map f xs]
theorem depth_map {α : Type} (f : α → Int) : ∀ xs : List α, PyData.depthAll (xs.map fun j => PyData.int (f j)) = 0
  | [] => rfl
  | x :: xs => by simp [PyData.depthAll, PyData.depth, depth_map f xs]
theorem st_same {M : Mem} {n b : Int} {m : Nat} : eqM M (.lst (stD n b m)) (.lst (stD n b m)) = some true := by
  have h : toPd (now M (.lst (stD n b m))) = some (.list (stP n b m)) := by
    show (toPds (stD n b m)).map PyData.list = _
    rw [stD, toPds_map]; rfl
  refine eqM_same h h (shaped_of ?_ ?_)
  · simp [PyData.canLay0, stP, lay_map]
  · simp [PyData.depth, stP, depth_map]
theorem len_st {n b : Int} {m : Nat} : (stD n b m).length = m := by simp [stD]
theorem st_start {n b : Int} {m : Nat} (h : (m : Int) = n) : (List.range m).map ltD = stD n b m := by
  unfold stD
  refine List.map_congr_left fun j hj => ?_
  have := List.mem_range.mp hj
  unfold inn
  rw [if_pos (by omega)]; rfl
theorem st_more {n b : Int} {m : Nat} : stD n b m ++ [.int (inn n b m)] = stD n b (m + 1) := by
  simp [stD, List.range_succ]
theorem inn_past {n b : Int} {i : Nat} (h : 1 ≤ n) : inn n b (n + i) = n - 1 + b * (i + 1) := by
  unfold inn
  rw [if_neg (by omega), show n + (i : Int) - n + 1 = i + 1 by omega]
/-- an index of a tick that is not less -/
def pick (w : Int) (x : D) : Option D := match x with
  | .tup [.int j, .int v] => if w ≤ v then some (.int j) else none
  | _ => none
theorem pick_int {w j v : Int} : pick w (.tup [.int j, .int v]) = if w ≤ v then some (.int j) else none := rfl
/-- which index is the first -/
theorem first_at {n b w : Int} {m : Nat} (hn : 1 ≤ n) (hb : b = 2 ∨ b = 3 ∨ b = 4) (hw : 0 ≤ w) (hm : cut n b w < m) :
    ∃ ys : List D, ((stD n b m).zipIdx.map fun p => D.tup [.int p.2, p.1]).filterMap (pick w) = .int (cut n b w) :: ys := by
  obtain ⟨c, hc⟩ : ∃ c : Nat, (c : Int) = cut n b w := ⟨(cut n b w).toNat, by have := (cut_pos hn hb hw).1; omega⟩
  have e : ((stD n b m).zipIdx.map fun p => D.tup [.int p.2, p.1]) = (List.range m).map fun j : Nat => D.tup [.int j, .int (inn n b j)] := by
    refine List.ext_getElem (by simp [stD]) fun i h1 h2 => ?_
    simp [stD]
  rw [e, List.filterMap_map]
  have e2 : ∀ l : List Nat, l.filterMap (pick w ∘ fun j : Nat => D.tup [.int j, .int (inn n b j)]) = (l.filter fun j : Nat => decide (w ≤ inn n b (j : Int))).map fun j : Nat => D.int (j : Int) := by
    intro l
    induction l with
    | nil => rfl
    | cons x l ih =>
      rw [List.filterMap_cons, ih]
      by_cases h : w ≤ inn n b x
      · simp [h, pick_int]
      · simp [h, pick_int]
  rw [e2]
  have e3 : ((List.range m).filter fun j : Nat => decide (w ≤ inn n b j)).head? = some c := by
    rw [List.head?_filter, List.find?_range_eq_some]
    refine ⟨decide_eq_true (by rw [hc]; exact inn_cut hn hb hw), List.mem_range.mpr (by omega), fun j hj => ?_⟩
    have := inn_below (j := j) hn hb hw (by omega)
    simp; omega
  cases hl : (List.range m).filter fun j : Nat => decide (w ≤ inn n b j) with
  | nil => rw [hl] at e3; cases e3
  | cons x l =>
    rw [hl] at e3
    cases e3
    exact ⟨l.map fun j : Nat => D.int (j : Int), by rw [List.map_cons, hc]⟩
end K52
namespace K52
open PySem Ev L2
abbrev SL (S : D) (x2 x3 x4 x5 x6 x7 x8 x9 x10 x11 x12 : Option D) : Env' := [some S, some (.cell 0), x2, x3, x4, x5, x6, x7, x8, x9, x10, x11, x12]
section
variable {k : Nat} {ns : List Int} {lap rest : Int} {R M : Mem} {S : D} {x2 x3 x4 x5 x6 x7 x8 x9 x10 x11 x12 : Option D}
theorem drawn (h0 : 0 ≤ lap) (h1 : lap ≤ 50000) : ∃ n b lap' rest', evS (evF Pd (k + 5)) b9_1_0 (SL S x2 x3 x4 x5 x6 x7 x8 x9 x10 x11 x12) (some (stairO ns lap rest) :: R) =
    .nx (SL S x2 (some (.int n)) (some (.int b)) x5 x6 x7 x8 x9 x10 x11 x12) (some (stairO ns lap' rest') :: R) ∧ 1 ≤ n ∧ n ≤ 200 ∧ (b = 2 ∨ b = 3 ∨ b = 4) ∧ 0 ≤ lap' ∧ lap' ≤ lap + 3 := by
  obtain ⟨r, l1, r1, e1, a1, a2, p1, p2⟩ := leaf (k := k + 4) (i := 0) (ns := ns) (lap := lap) (rest := rest) (M := (some (stairO ns lap rest) :: R)) (many := 200) rfl (by omega) (by omega) h0 (by omega)
  simp only [List.set_cons_zero] at e1
  obtain ⟨x, l2, r2, e2, hx, p3, p4⟩ := one (k := k + 3) (i := 0) (ns := ns) (lap := l1) (rest := r1) (M := (some (stairO ns l1 r1) :: R)) rfl [.int 1, .int 2, .int 3, .int 200, .int (1 + r)] (by simp) (by simp) p1 (by omega)
  simp only [List.set_cons_zero] at e2
  obtain ⟨q, l3, r3, e3, a3, a4, p5, p6⟩ := leaf (k := k + 4) (i := 0) (ns := ns) (lap := l2) (rest := r2) (M := (some (stairO ns l2 r2) :: R)) (many := 3) rfl (by omega) (by omega) p3 (by omega)
  simp only [List.set_cons_zero] at e3
  obtain ⟨n, rfl, n1, n2⟩ : ∃ n : Int, x = .int n ∧ 1 ≤ n ∧ n ≤ 200 := by
    simp only [List.mem_cons, List.not_mem_nil, or_false] at hx
    rcases hx with rfl | rfl | rfl | rfl | rfl
    · exact ⟨1, rfl, by decide, by decide⟩
    · exact ⟨2, rfl, by decide, by decide⟩
    · exact ⟨3, rfl, by decide, by decide⟩
    · exact ⟨200, rfl, by decide, by decide⟩
    · exact ⟨1 + r, rfl, by omega, by omega⟩
  refine ⟨n, 2 + q, l3, r3, ?_, n1, n2, by omega, p5, by omega⟩
  simp [b9_1_0, e1, e2, e3, sizeLine_eq]
theorem begun {n b : Int} (n1 : 1 ≤ n) (n2 : n ≤ 200) (hR : M.length = R.length + 1) : evS (evF Pd (k + 5)) b9_1_1 (SL S x2 (some (.int n)) (some (.int b)) x5 x6 x7 x8 x9 x10 x11 x12) M =
    .nx (SL S x2 (some (.int n)) (some (.int b)) (some (.cell (R.length + 1))) (some (.int (n - 1))) x7 x8 x9 x10 x11 x12) (M ++ [some (.lst (stD n b n.toNat))]) := by
  obtain ⟨m, rfl⟩ : ∃ m : Nat, n = m := ⟨n.toNat, by omega⟩
  have e := evE_mrg1 (Φ := evF Pd (k + 5)) (b := .var 3) (σ := SL S x2 (some (.int m)) (some (.int b)) x5 x6 x7 x8 x9 x10 x11 x12) (M := M) (j := m) (ds := (List.range m).map ltD) (by simp) (rng_nat m (by omega)) (by simp [sizeLine_eq]; omega)
  rw [st_start (n := (m : Int)) (b := b) rfl] at e
  simp only [b9_1_1, q_par, q_cons, e, Res.bind_ok]
  simp [hR]
theorem grown {n b : Int} (n1 : 1 ≤ n) (n2 : n ≤ 200) {a : MO} : ∃ y7, evS (evF Pd (k + 5)) b9_1_2 (SL S x2 (some (.int n)) (some (.int b)) (some (.cell (R.length + 1))) (some (.int (n - 1))) x7 x8 x9 x10 x11 x12) (some a :: R ++ [some (.lst (stD n b n.toNat))]) =
    .nx (SL S x2 (some (.int n)) (some (.int b)) (some (.cell (R.length + 1))) (some (.int (n - 1 + b * 12))) y7 x8 x9 x10 x11 x12) (some a :: R ++ [some (MO.lst (stD n b (n.toNat + 12)))]) := by
  have hi : evI (evF Pd (k + 5)) (.rng1 (.int 12)) (SL S x2 (some (.int n)) (some (.int b)) (some (.cell (R.length + 1))) (some (.int (n - 1))) x7 x8 x9 x10 x11 x12) (some a :: R ++ [some (.lst (stD n b n.toNat))]) = .ok ((List.range 12).map ltD) (some a :: R ++ [some (.lst (stD n b n.toNat))]) := evI_rngN (n := 12) (by simp) (by decide)
  obtain ⟨σ', M', e, y7, rfl, rfl⟩ := forGo_steps (all := (List.range 12).map ltD) (ys := []) (f := (fun x σ1 M2 => RS.of (evT (evF Pd (k + 5)) (.nm 7) x σ1 M2) σ1 fun σ2 M3 => evSs (evF Pd (k + 5)) [.asg (.nm 6) (.bin .add (.var 6) (.var 4)), .expr (.meth .append (.var 5) [(.var 6)])] σ2 M3))
    (fun ys σ M => ∃ y7, σ = SL S x2 (some (.int n)) (some (.int b)) (some (.cell (R.length + 1))) (some (.int (n - 1 + b * ys.length))) y7 x8 x9 x10 x11 x12 ∧ M = some a :: R ++ [some (MO.lst (stD n b (n.toNat + ys.length)))])
    (fun ys x zs σ M e ⟨y7, e1, e2⟩ => by
      subst e1 e2
      have hl := congrArg List.length e
      simp only [List.length_map, List.length_range, List.length_append, List.length_cons] at hl
      refine ⟨_, _, ?_, some x, rfl, rfl⟩
      have g : (some a :: R ++ [some (MO.lst (stD n b (n.toNat + ys.length)))])[R.length + 1]? = some (some (.lst (stD n b (n.toNat + ys.length)))) := by
        rw [List.getElem?_append_right (by simp)]; simp
      have q := evMt_append (y := .int (n - 1 + b * (ys.length + 1))) g (by rw [len_st, sizeLine_eq]; omega)
      have hv : (n - 1 + b * (ys.length : Int)) + b = n - 1 + b * ((ys.length : Int) + 1) := by rw [Int.mul_add, Int.mul_one]; omega
      have hi := inn_past (b := b) (i := ys.length) n1
      have s := st_more (n := n) (b := b) (m := n.toNat + ys.length)
      rw [show ((n.toNat + ys.length : Nat) : Int) = n + ys.length by omega, hi] at s
      rw [s] at q
      have hset : (some a :: R ++ [some (MO.lst (stD n b (n.toNat + ys.length)))]).set (R.length + 1) (some (.lst (stD n b (n.toNat + ys.length + 1)))) = some a :: R ++ [some (MO.lst (stD n b (n.toNat + ys.length + 1)))] := by
        rw [List.set_append_right _ _ (by simp)]; simp
      rw [hset] at q
      have fit : mtFit .append (.cell (R.length + 1)) (some a :: R ++ [some (MO.lst (stD n b (n.toNat + ys.length)))]) = true := by
        simp only [mtFit, seqL, g]; rfl
      generalize (some a :: R ++ [some (MO.lst (stD n b (n.toNat + ys.length)))]) = M1 at *
      simp [hv, fit, q, Nat.add_assoc, Res.ofM])
    (List.nil_append _).symm (σ := SL S x2 (some (.int n)) (some (.int b)) (some (.cell (R.length + 1))) (some (.int (n - 1))) x7 x8 x9 x10 x11 x12) (M := some a :: R ++ [some (MO.lst (stD n b n.toNat))]) ⟨x7, by simp, by simp⟩
  refine ⟨y7, ?_⟩
  have s : evS (evF Pd (k + 5)) b9_1_2 _ _ = _ := (evS_for hi).trans e
  simpa using s
theorem same_ok {n b : Int} (n1 : 1 ≤ n) (n2 : n ≤ 200) (hb : b = 2 ∨ b = 3 ∨ b = 4) {a : MO} : evS (evF Pd (k + 5)) b9_1_3 (SL S x2 (some (.int n)) (some (.int b)) (some (.cell (R.length + 1))) x6 x7 x8 x9 x10 x11 x12) (some a :: R ++ [some (MO.lst (stD n b (n.toNat + 12)))]) =
    .nx (SL S x2 (some (.int n)) (some (.int b)) (some (.lst (stD n b (n.toNat + 12)))) x6 x7 x8 x9 x10 x11 x12) (some a :: R ++ [none]) := by
  have g : (some a :: R ++ [some (MO.lst (stD n b (n.toNat + 12)))])[R.length + 1]? = some (some (.lst (stD n b (n.toNat + 12)))) := by
    rw [List.getElem?_append_right (by simp)]; simp
  have hset : (some a :: R ++ [some (MO.lst (stD n b (n.toNat + 12)))]).set (R.length + 1) none = some a :: R ++ [none] := by
    rw [List.set_append_right _ _ (by simp)]; simp
  have lc := evE_lcm (Φ := evF Pd (k + 5)) (e := .call 3 [(.var 3), (.var 4), (.var 11)] [] [0, 1, 2]) (t := .nm 11) (it := .rng1 (.bi .len [.var 5])) (c := none) (vs := [11]) (σ := SL S x2 (some (.int n)) (some (.int b)) (some (.lst (stD n b (n.toNat + 12)))) x6 x7 x8 x9 x10 x11 x12) (M := some a :: R ++ [none]) (M1 := some a :: R ++ [none]) (ds := (List.range (n.toNat + 12)).map ltD)
    (g := fun d => match d with | .int j => .int (inn n b j) | _ => .non)
    (evI_rngN (n := n.toNat + 12) (by simp [len_st]) (by omega)) (fun x hx => by
      obtain ⟨j, _, rfl⟩ := List.mem_map.mp hx
      have e := inner_ok (k := k) (M := some a :: R ++ [none]) (t := j) n1 n2 hb (by omega)
      generalize (some a :: R ++ [none]) = M1 at *
      simp [lcF, ltD, e]) (by simp [sizeLine_eq]; omega)
  have hm : ((List.range (n.toNat + 12)).map ltD).map (fun d => match d with | .int j => .int (inn n b j) | _ => .non) = stD n b (n.toNat + 12) := by
    rw [List.map_map]; rfl
  rw [hm] at lc
  have c := evE_cmp (Φ := evF Pd (k + 5)) (o := .ne) (b := .var 5) (r := false) (M2 := some a :: R ++ [none]) (y := .lst (stD n b (n.toNat + 12))) lc (by simp) (by rw [cmp_ne, st_same]; rfl)
  generalize (some a :: R ++ [some (MO.lst (stD n b (n.toNat + 12)))]) = M1 at *
  generalize hM : (some a :: R ++ [none]) = M2 at *
  rw [b9_1_3, q_frzs]
  simp only [List.getElem?_cons_succ, List.getElem?_cons_zero, g, List.set_cons_succ, List.set_cons_zero, hset]
  rw [q_ifs, c]
  simp
end
end K52
namespace K52
open PySem Ev L2
theorem repr_int {M : Mem} {i : Int} (h : -(10 ^ 45) < i ∧ i < 10 ^ 45) : evBi .repr [.int i] M = some (.str (PyData.int i).shown) := by
  refine repr_small (p := .int i) rfl ?_ (by simp [PyData.depth]) (by simp [wt])
  simp only [small]; exact decide_eq_true h
def wishB : List Sx := [.asg (.nm 9) (.ix (.lc (.var 11) (.tp [(.nm 11), (.nm 12)]) (.enu (.var 5)) (some (.cmp .ge (.var 12) (.var 8))) [11, 12]) (.int 0)), .ifs (.or (.cmp .ne (.bi .repr [(.call 4 [(.var 3), (.var 4), (.var 8)] [] [0, 1, 2])]) (.bi .repr [(.var 9)])) (.cmp .ne (.call 4 [] [("tick", (.var 8)), ("by", (.var 4)), ("many", (.var 3))] [2, 1, 0]) (.var 9))) [.ret (.bl false)] []]
section
variable {k : Nat} {ns : List Int} {lap rest : Int} {R M : Mem} {S : D} {x2 x3 x4 x5 x6 x7 x8 x9 x10 x11 x12 : Option D}
theorem wish_ok {n b w : Int} (n1 : 1 ≤ n) (n2 : n ≤ 200) (hb : b = 2 ∨ b = 3 ∨ b = 4) (w0 : 0 ≤ w) (w1 : w ≤ n + 10 * b) :
    evSs (evF Pd (k + 5)) wishB (SL S x2 (some (.int n)) (some (.int b)) (some (.lst (stD n b (n.toNat + 12)))) x6 x7 (some (.int w)) x9 x10 x11 x12) M =
    .nx (SL S x2 (some (.int n)) (some (.int b)) (some (.lst (stD n b (n.toNat + 12)))) x6 x7 (some (.int w)) (some (.int (cut n b w))) x10 x11 x12) M := by
  have cp := cut_pos (b := b) n1 hb w0
  have hc : cut n b w < ((n.toNat + 12 : Nat) : Int) := by
    unfold cut
    split
    · omega
    · rcases hb with rfl | rfl | rfl <;> omega
  obtain ⟨ys, hy⟩ := first_at n1 hb w0 hc
  have lc := evE_lc (Φ := evF Pd (k + 5)) (e := .var 11) (t := .tp [(.nm 11), (.nm 12)]) (it := .enu (.var 5)) (c := some (.cmp .ge (.var 12) (.var 8))) (vs := [11, 12]) (σ := SL S x2 (some (.int n)) (some (.int b)) (some (.lst (stD n b (n.toNat + 12)))) x6 x7 (some (.int w)) x9 x10 x11 x12) (M := M) (M1 := M) (ds := ((stD n b (n.toNat + 12)).zipIdx.map fun p => D.tup [.int p.2, p.1]))
    (g := pick w)
    (by simp) (fun x hx => by
      obtain ⟨⟨d, j⟩, hj, rfl⟩ := List.mem_map.mp hx
      have hd : d ∈ stD n b (n.toNat + 12) := by
        have := List.fst_mem_of_mem_zipIdx hj
        exact this
      obtain ⟨i, _, rfl⟩ := List.mem_map.mp hd
      by_cases h : w ≤ inn n b i
      · simp [lcF, h, pick_int]
      · simp [lcF, h, pick_int]) (by simp [len_st, sizeLine_eq]; omega)
  rw [hy] at lc
  have x0 : atI (D.int (cut n b w) :: ys) 0 = some (.int (cut n b w)) := by
    exact atI_nat (j := 0) rfl
  have s1 : evS (evF Pd (k + 5)) (.asg (.nm 9) (.ix (.lc (.var 11) (.tp [(.nm 11), (.nm 12)]) (.enu (.var 5)) (some (.cmp .ge (.var 12) (.var 8))) [11, 12]) (.int 0))) (SL S x2 (some (.int n)) (some (.int b)) (some (.lst (stD n b (n.toNat + 12)))) x6 x7 (some (.int w)) x9 x10 x11 x12) M =
      .nx (SL S x2 (some (.int n)) (some (.int b)) (some (.lst (stD n b (n.toNat + 12)))) x6 x7 (some (.int w)) (some (.int (cut n b w))) x10 x11 x12) M := by
    rw [q_asg, q_ix, lc]
    simp [x0]
  have e := cut_ok (k := k) (M := M) n1 n2 hb w0
  have r := repr_int (M := M) (i := cut n b w) (by omega)
  have s2 : evS (evF Pd (k + 5)) (.ifs (.or (.cmp .ne (.bi .repr [(.call 4 [(.var 3), (.var 4), (.var 8)] [] [0, 1, 2])]) (.bi .repr [(.var 9)])) (.cmp .ne (.call 4 [] [("tick", (.var 8)), ("by", (.var 4)), ("many", (.var 3))] [2, 1, 0]) (.var 9))) [.ret (.bl false)] []) (SL S x2 (some (.int n)) (some (.int b)) (some (.lst (stD n b (n.toNat + 12)))) x6 x7 (some (.int w)) (some (.int (cut n b w))) x10 x11 x12) M =
      .nx (SL S x2 (some (.int n)) (some (.int b)) (some (.lst (stD n b (n.toNat + 12)))) x6 x7 (some (.int w)) (some (.int (cut n b w))) x10 x11 x12) M := by
    generalize stD n b (n.toNat + 12) = st at *
    generalize cut n b w = c at *
    simp [e, r]
  rw [wishB, evSs_cons s1, evSs_cons s2]
  simp
theorem wishes_ok {n b : Int} (n1 : 1 ≤ n) (n2 : n ≤ 200) (hb : b = 2 ∨ b = 3 ∨ b = 4) (h0 : 0 ≤ lap) (h1 : lap ≤ 50000) : ∃ y8 y9 lap' rest',
    evS (evF Pd (k + 5)) b9_1_4 (SL S x2 (some (.int n)) (some (.int b)) (some (.lst (stD n b (n.toNat + 12)))) x6 x7 x8 x9 x10 x11 x12) (some (stairO ns lap rest) :: R) =
    .nx (SL S x2 (some (.int n)) (some (.int b)) (some (.lst (stD n b (n.toNat + 12)))) x6 x7 y8 y9 x10 x11 x12) (some (stairO ns lap' rest') :: R) ∧ 0 ≤ lap' ∧ lap' ≤ lap + 2 := by
  obtain ⟨r, l1, r1, e1, a1, a2, p1, p2⟩ := leaf (k := k + 4) (i := 0) (ns := ns) (lap := lap) (rest := rest) (M := (some (stairO ns lap rest) :: R)) (many := 10 * b) rfl (by omega) (by omega) h0 (by omega)
  simp only [List.set_cons_zero] at e1
  obtain ⟨q, l2, r2, e2, a3, a4, p3, p4⟩ := leaf (k := k + 4) (i := 0) (ns := ns) (lap := l1) (rest := r1) (M := (some (stairO ns l1 r1) :: R)) (many := n + 10 * b) rfl (by omega) (by omega) p1 (by omega)
  simp only [List.set_cons_zero] at e2
  have m : ∀ M : Mem, evBin .mul (.int 10) (.int b) M = some (.int (10 * b)) := fun M => bin_mulL (by omega)
  have hi : evI (evF Pd (k + 5)) (.seq (.lst [(.int 0), (.bin .sub (.var 3) (.int 1)), (.var 3), (.bin .add (.var 3) (.int 1)), (.bin .add (.var 3) (.call 7 [(.var 1), (.bin .mul (.int 10) (.var 4))] [] [0, 1])), (.call 7 [(.var 1), (.bin .add (.var 3) (.bin .mul (.int 10) (.var 4)))] [] [0, 1])])) (SL S x2 (some (.int n)) (some (.int b)) (some (.lst (stD n b (n.toNat + 12)))) x6 x7 x8 x9 x10 x11 x12) (some (stairO ns lap rest) :: R) = .ok [.int 0, .int (n - 1), .int n, .int (n + 1), .int (n + r), .int q] (some (stairO ns l2 r2) :: R) := by
    simp [m, e1, e2, sizeLine_eq]
  obtain ⟨σ', M', e, y8, y9, rfl, rfl⟩ := forGo_inv (f := (fun x σ1 M2 => RS.of (evT (evF Pd (k + 5)) (.nm 8) x σ1 M2) σ1 fun σ2 M3 => evSs (evF Pd (k + 5)) wishB σ2 M3))
    (fun σ M => ∃ y8 y9, σ = SL S x2 (some (.int n)) (some (.int b)) (some (.lst (stD n b (n.toNat + 12)))) x6 x7 y8 y9 x10 x11 x12 ∧ M = some (stairO ns l2 r2) :: R) (xs := [.int 0, .int (n - 1), .int n, .int (n + 1), .int (n + r), .int q])
    (fun x hx σ M ⟨y8, y9, e1, e2⟩ => by
      subst e1 e2
      obtain ⟨w, rfl, w0, w1⟩ : ∃ w : Int, x = .int w ∧ 0 ≤ w ∧ w ≤ n + 10 * b := by
        simp only [List.mem_cons, List.not_mem_nil, or_false] at hx
        rcases hx with rfl | rfl | rfl | rfl | rfl | rfl
        · exact ⟨_, rfl, by omega, by omega⟩
        · exact ⟨_, rfl, by omega, by omega⟩
        · exact ⟨_, rfl, by omega, by omega⟩
        · exact ⟨_, rfl, by omega, by omega⟩
        · exact ⟨_, rfl, by omega, by omega⟩
        · exact ⟨_, rfl, by omega, by omega⟩
      have h := wish_ok (k := k) (M := some (stairO ns l2 r2) :: R) (S := S) (x2 := x2) (x6 := x6) (x7 := x7) (x9 := y9) (x10 := x10) (x11 := x11) (x12 := x12) n1 n2 hb w0 w1
      refine ⟨_, _, ?_, some (.int w), some (.int (cut n b w)), rfl, rfl⟩
      rw [q_nm, RS.of_ok]
      exact h) ⟨x8, x9, rfl, rfl⟩
  refine ⟨y8, y9, l2, r2, ?_, p3, by omega⟩
  exact (evS_for hi).trans e
theorem far_ok {n b : Int} (n1 : 1 ≤ n) (n2 : n ≤ 200) (hb : b = 2 ∨ b = 3 ∨ b = 4) (h0 : 0 ≤ lap) (h1 : lap ≤ 50000) {x5 : D} : ∃ y10 y11 lap' rest',
    evSs (evF Pd (k + 5)) [b9_1_5, b9_1_6, b9_1_7, b9_1_8] (SL S x2 (some (.int n)) (some (.int b)) (some x5) x6 x7 x8 x9 x10 x11 x12) (some (stairO ns lap rest) :: R) =
    .nx (SL S x2 (some (.int n)) (some (.int b)) (some x5) x6 x7 x8 x9 y10 y11 x12) (some (stairO ns lap' rest') :: R) ∧ 0 ≤ lap' ∧ lap' ≤ lap + 1 := by
  obtain ⟨r, l1, r1, e1, a1, a2, p1, p2⟩ := leaf (k := k + 4) (i := 0) (ns := ns) (lap := lap) (rest := rest) (M := (some (stairO ns lap rest) :: R)) (many := 1000000000) rfl (by omega) (by omega) h0 (by omega)
  simp only [List.set_cons_zero] at e1
  obtain ⟨f, hf⟩ : ∃ f : Int, f = 100000000000000000000 + r := ⟨_, rfl⟩
  have c1 := cut_ok (k := k) (M := some (stairO ns l1 r1) :: R) (t := f) n1 n2 hb (by omega)
  have cp := cut_pos (b := b) (t := f) n1 hb (by omega)
  have i1 := inn_cut (b := b) (t := f) n1 hb (by omega)
  have i2 := inn_below (b := b) (t := f) (j := cut n b f - 1) n1 hb (by omega) (by omega)
  have c2 := inner_ok (k := k) (M := some (stairO ns l1 r1) :: R) (t := cut n b f) n1 n2 hb (by omega)
  have c3 := inner_ok (k := k) (M := some (stairO ns l1 r1) :: R) (t := cut n b f - 1) n1 n2 hb (by omega)
  have c4 := inner_ok (k := k) (M := some (stairO ns l1 r1) :: R) (t := n + f) n1 n2 hb (by omega)
  have i3 : inn n b (n + f) = n - 1 + b * (f + 1) := by
    unfold inn
    rw [if_neg (by omega), show n + f - n + 1 = f + 1 by omega]
  rw [i3] at c4
  have m : ∀ M : Mem, evBin .mul (.int b) (.int (f + 1)) M = some (.int (b * (f + 1))) := fun M => bin_mulL (by omega)
  have rr := repr_int (M := some (stairO ns l1 r1) :: R) (i := n - 1 + b * (f + 1)) (by rcases hb with rfl | rfl | rfl <;> omega)
  refine ⟨some (.int f), some (.int (cut n b f)), l1, r1, ?_, p1, by omega⟩
  generalize cut n b f = c at *
  generalize hu : inn n b c = u at *
  generalize hv : inn n b (c - 1) = v at *
  generalize hg : n - 1 + b * (f + 1) = g at *
  have i1' : ¬ u < f := by omega
  have i2' : ¬ f ≤ v := by omega
  have s0 : evS (evF Pd (k + 5)) b9_1_5 (SL S x2 (some (.int n)) (some (.int b)) (some x5) x6 x7 x8 x9 x10 x11 x12) (some (stairO ns lap rest) :: R) = .nx (SL S x2 (some (.int n)) (some (.int b)) (some x5) x6 x7 x8 x9 (some (.int f)) x11 x12) (some (stairO ns l1 r1) :: R) := by
    simp [b9_1_5, bin_pow, e1, hf]
  have s1 : evS (evF Pd (k + 5)) b9_1_6 (SL S x2 (some (.int n)) (some (.int b)) (some x5) x6 x7 x8 x9 (some (.int f)) x11 x12) (some (stairO ns l1 r1) :: R) = .nx (SL S x2 (some (.int n)) (some (.int b)) (some x5) x6 x7 x8 x9 (some (.int f)) (some (.int c)) x12) (some (stairO ns l1 r1) :: R) := by
    simp [b9_1_6, c1]
  have s2 : evS (evF Pd (k + 5)) b9_1_7 (SL S x2 (some (.int n)) (some (.int b)) (some x5) x6 x7 x8 x9 (some (.int f)) (some (.int c)) x12) (some (stairO ns l1 r1) :: R) = .nx (SL S x2 (some (.int n)) (some (.int b)) (some x5) x6 x7 x8 x9 (some (.int f)) (some (.int c)) x12) (some (stairO ns l1 r1) :: R) := by
    simp [b9_1_7, c2, c3, i1', i2']
  have s3 : evS (evF Pd (k + 5)) b9_1_8 (SL S x2 (some (.int n)) (some (.int b)) (some x5) x6 x7 x8 x9 (some (.int f)) (some (.int c)) x12) (some (stairO ns l1 r1) :: R) = .nx (SL S x2 (some (.int n)) (some (.int b)) (some x5) x6 x7 x8 x9 (some (.int f)) (some (.int c)) x12) (some (stairO ns l1 r1) :: R) := by
    simp [b9_1_8, c4, m, hg, rr]
  rw [evSs_cons s0, evSs_cons s1, evSs_cons s2, evSs_cons s3]
  simp
def turnB : List Sx := [b9_1_0, b9_1_1, b9_1_2, b9_1_3, b9_1_4, b9_1_5, b9_1_6, b9_1_7, b9_1_8]
theorem turn_ok (h0 : 0 ≤ lap) (h1 : lap ≤ 40000) : ∃ y3 y4 y5 y6 y7 y8 y9 y10 y11 lap' rest' R',
    evSs (evF Pd (k + 5)) turnB (SL S x2 x3 x4 x5 x6 x7 x8 x9 x10 x11 x12) (some (stairO ns lap rest) :: R) =
    .nx (SL S x2 y3 y4 y5 y6 y7 y8 y9 y10 y11 x12) (some (stairO ns lap' rest') :: R') ∧ 0 ≤ lap' ∧ lap' ≤ lap + 6 := by
  obtain ⟨n, b, l1, r1, e0, n1, n2, hb, p1, p2⟩ := drawn (k := k) (ns := ns) (lap := lap) (rest := rest) (R := R) (S := S) (x2 := x2) (x3 := x3) (x4 := x4) (x5 := x5) (x6 := x6) (x7 := x7) (x8 := x8) (x9 := x9) (x10 := x10) (x11 := x11) (x12 := x12) h0 (by omega)
  have e1 := begun (k := k) (R := R) (M := some (stairO ns l1 r1) :: R) (S := S) (x2 := x2) (b := b) (x5 := x5) (x6 := x6) (x7 := x7) (x8 := x8) (x9 := x9) (x10 := x10) (x11 := x11) (x12 := x12) n1 n2 (by simp)
  obtain ⟨y7, e2⟩ := grown (k := k) (R := R) (S := S) (x2 := x2) (b := b) (x7 := x7) (x8 := x8) (x9 := x9) (x10 := x10) (x11 := x11) (x12 := x12) (a := stairO ns l1 r1) n1 n2
  have e3 := same_ok (k := k) (R := R) (S := S) (x2 := x2) (b := b) (x6 := some (.int (n - 1 + b * 12))) (x7 := y7) (x8 := x8) (x9 := x9) (x10 := x10) (x11 := x11) (x12 := x12) (a := stairO ns l1 r1) n1 n2 hb
  obtain ⟨y8, y9, l2, r2, e4, p3, p4⟩ := wishes_ok (k := k) (ns := ns) (lap := l1) (rest := r1) (R := R ++ [none]) (S := S) (x2 := x2) (b := b) (x6 := some (.int (n - 1 + b * 12))) (x7 := y7) (x8 := x8) (x9 := x9) (x10 := x10) (x11 := x11) (x12 := x12) n1 n2 hb p1 (by omega)
  obtain ⟨y10, y11, l3, r3, e5, p5, p6⟩ := far_ok (k := k) (ns := ns) (lap := l2) (rest := r2) (R := R ++ [none]) (S := S) (x2 := x2) (b := b) (x5 := .lst (stD n b (n.toNat + 12))) (x6 := some (.int (n - 1 + b * 12))) (x7 := y7) (x8 := y8) (x9 := y9) (x10 := x10) (x11 := x11) (x12 := x12) n1 n2 hb p3 (by omega)
  refine ⟨some (.int n), some (.int b), some (.lst (stD n b (n.toNat + 12))), some (.int (n - 1 + b * 12)), y7, y8, y9, y10, y11, l3, r3, R ++ [none], ?_, p5, by omega⟩
  rw [turnB, evSs_cons e0, evSs_cons e1]
  rw [show (some (stairO ns l1 r1) :: R) ++ [some (MO.lst (stD n b n.toNat))] = some (stairO ns l1 r1) :: R ++ [some (MO.lst (stD n b n.toNat))] from rfl]
  rw [evSs_cons e2, evSs_cons e3]
  rw [show some (stairO ns l1 r1) :: R ++ [none] = some (stairO ns l1 r1) :: (R ++ [none]) from rfl, evSs_cons e4, e5]
end
theorem tidy_ex {n : Nat} {d : D} {M : Mem} : ∃ M', tidy n (.ok d M) = .ok d M' := by
  unfold tidy
  simp only
  split
  · exact ⟨_, rfl⟩
  · split
    · exact ⟨_, rfl⟩
    · exact ⟨_, rfl⟩
/-- the law's def is True at every script -/
theorem main (ns : List Int) : ∃ M, evF Pd 6 9 [.scr (ns.map D.int)] [] = .ok (.bl true) M := by
  have st := drawStart (P := Pd) (f := 6) (d := d6) (k := 4) ns rfl rfl rfl rfl
  generalize ns.take 60 = us at st
  rw [evF_at (d := d9) 5 _ _ rfl rfl]
  have e0 : evS (evF Pd 5) b9_0 (some (.scr (ns.map D.int)) :: List.replicate 12 none) [] = .nx (SL (.scr (ns.map D.int)) none none none none none none none none none none none) [some (stairO us 0 0)] := by
    simp [b9_0, st]
  have hi : evI (evF Pd 5) (.rng1 (.int 4)) (SL (.scr (ns.map D.int)) none none none none none none none none none none none) [some (stairO us 0 0)] = .ok ((List.range 4).map ltD) [some (stairO us 0 0)] := evI_rngN (n := 4) (by simp) (by decide)
  obtain ⟨σ', M', e, lap, rest, R, y2, y3, y4, y5, y6, y7, y8, y9, y10, y11, rfl, rfl, l0, l1⟩ := forGo_steps (all := (List.range 4).map ltD) (ys := []) (f := (fun x σ1 M2 => RS.of (evT (evF Pd 5) (.nm 2) x σ1 M2) σ1 fun σ2 M3 => evSs (evF Pd 5) turnB σ2 M3))
    (fun ys σ M => ∃ lap rest R y2 y3 y4 y5 y6 y7 y8 y9 y10 y11, σ = SL (.scr (ns.map D.int)) y2 y3 y4 y5 y6 y7 y8 y9 y10 y11 none ∧ M = some (stairO us lap rest) :: R ∧ 0 ≤ lap ∧ lap ≤ 6 * (ys.length : Int))
    (fun ys x zs σ M e ⟨lap, rest, R, y2, y3, y4, y5, y6, y7, y8, y9, y10, y11, e1, e2, l0, l1⟩ => by
      subst e1 e2
      have hl := congrArg List.length e
      simp only [List.length_map, List.length_range, List.length_append, List.length_cons] at hl
      obtain ⟨z3, z4, z5, z6, z7, z8, z9, z10, z11, lap', rest', R', h, p, q⟩ := turn_ok (k := 0) (ns := us) (lap := lap) (rest := rest) (R := R) (S := .scr (ns.map D.int)) (x2 := some x) (x3 := y3) (x4 := y4) (x5 := y5) (x6 := y6) (x7 := y7) (x8 := y8) (x9 := y9) (x10 := y10) (x11 := y11) (x12 := none) l0 (by omega)
      refine ⟨_, _, ?_, lap', rest', R', some x, z3, z4, z5, z6, z7, z8, z9, z10, z11, rfl, rfl, p, by simp only [List.length_append, List.length_singleton]; omega⟩
      rw [q_nm, RS.of_ok]
      exact h) (List.nil_append _).symm ⟨0, 0, [], none, none, none, none, none, none, none, none, none, none, rfl, rfl, by omega, by simp⟩
  have e1 : evS (evF Pd 5) b9_1 _ _ = _ := (evS_for hi).trans e
  have all : evSs (evF Pd 5) [b9_0, b9_1, b9_2] (some (.scr (ns.map D.int)) :: List.replicate 12 none) [] = .rt (.bl true) (some (stairO us lap rest) :: R) := by
    rw [evSs_cons e0, evSs_cons e1]
    simp [b9_2]
  obtain ⟨M', q⟩ := tidy_ex (n := 0) (d := .bl true) (M := some (stairO us lap rest) :: R)
  refine ⟨M', ?_⟩
  show tidy 0 (bodyRes (evSs (evF Pd 5) [b9_0, b9_1, b9_2] (some (.scr (ns.map D.int)) :: List.replicate 12 none) [])) = _
  rw [all]
  exact q
end K52
set_option maxHeartbeats 0 in
open PySem PySem.W PyProof.Rows in
theorem PySem.Challenge.cw_backwardrow_k52_ticks_of_sped_rows_holds : PySem.Challenge.rw_backwardrow_k52_ticks_of_sped_rows.Holds := by
  w_on; o_law; k_head; (case hw => w_witness2)
  k_fill
  refine' Ev.law_endsC [] (l := PySem.Challenge.rw_backwardrow_k52_ticks_of_sped_rows) (n := 63) (k := 6) (i := 9) (x := "script") (nc := 0) (Pd := K52.Pd) (bs := K52.bs) (gs := K52.gs) (cs := K52.cs) (D0 := K52.d9) rfl (by decide) rfl ⟨rfl, by decide, by decide⟩ (fun w h Y => PySem.W.kIn_of Y) rfl rfl (by decide +kernel) rfl (List.Mem.head _) ?T (fun ns _ => K52.main ns)
  case T =>
    intro w mg h KX G
    refine' K52.tab KX G ?a0 ?l0 ?c0 ?k0 ?a1 ?l1 ?c1 ?k1 ?a2 ?l2 ?c2 ?k2 ?a3 ?l3 ?c3 ?k3 ?a4 ?l4 ?c4 ?k4 ?a5 ?l5 ?c5 ?k5 ?a6 ?l6 ?c6 ?k6 ?a7 ?l7 ?c7 ?k7 ?a8 ?l8 ?c8 ?k8 ?a9 ?l9 ?c9 ?k9 ?z0 ?z1 ?z2 ?z3 ?z4 ?z5 ?z6 ?z7 ?z8 ?gv0 ?gv1 ?gv2
    (case a0 => k_is); (case l0 => k_is); (case c0 => k_is); (case k0 => k_is); (case a1 => k_is); (case l1 => k_is); (case c1 => k_is); (case k1 => k_is); (case a2 => k_is); (case l2 => k_is); (case c2 => k_is); (case k2 => k_is); (case a3 => k_is); (case l3 => k_is); (case c3 => k_is); (case k3 => k_is); (case a4 => k_is); (case l4 => k_is); (case c4 => k_is); (case k4 => k_is); (case a5 => k_is); (case l5 => k_is); (case c5 => k_is); (case k5 => k_is); (case a6 => k_is); (case l6 => k_is); (case c6 => k_is); (case k6 => k_is); (case a7 => k_is); (case l7 => k_is); (case c7 => k_is); (case k7 => k_is); (case a8 => k_is); (case l8 => k_is); (case c8 => k_is); (case k8 => k_is); (case a9 => k_is); (case l9 => k_is); (case c9 => k_is); (case k9 => k_is); (case z0 => k_is); (case z1 => k_is); (case z2 => k_is); (case z3 => k_is); (case z4 => k_is); (case z5 => k_is); (case z6 => k_is); (case z7 => k_is); (case z8 => k_is); (case gv0 => k_is); (case gv1 => k_is); (case gv2 => k_is)
