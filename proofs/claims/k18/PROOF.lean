import PyProof.Rows.All
import Wide.All
import OpenK.AllK
import Wide.FinOn
import HandS.ForMost
import HandS.ExcOwn
import HandS.TupAny
import HandS.Wide
import HandS.Deep
import PyProof.ReprReads
import PyProof.ReprRoads
import HandS.IsInst
import HandS.Flow
import HandS.Walk
import HandS.WideMore
import PySem.Challenge.RW_backwardrow_k18_slants_there_and_back
set_option Elab.async false
set_option linter.all false
set_option autoImplicit false
set_option maxRecDepth 100000
/-! Ev0: plain data D, the memory of cells, worlds, how a value stands for a datum. -/
namespace Ev
open PySem L2

/-- plain data; a cell is an object that may still change; scr: a list that was handed in -/
inductive D where
  | non
  | bl (b : Bool)
  | int (i : Int)
  | str (s : Str)
  | tup (xs : List D)
  | lst (xs : List D)
  | scr (xs : List D)
  | ins (c : Nat) (fs : List (Str × D))
  | cell (i : Nat)

/-- what a cell holds -/
inductive MO where
  | lst (xs : List D)
  | ins (c : Nat) (fs : List (Str × D))
abbrev Mem := List (Option MO)

/-- a world: the cells' addresses, what they hold, the abstract heap -/
structure Wd where
  as : List Addr
  M : Mem
  H : Hp
  /-- what is still being built: no value knows it -/
  hd : Addr → Prop

def Live (w : Wd) (a : Addr) : Prop := ∃ (i : Nat) (o : MO), w.as[i]? = some a ∧ w.M[i]? = some (some o)
/-- what stands at a and will not change -/
def Sat (w : Wd) (a : Addr) (u : HO) : Prop := w.H a = some u ∧ ¬ Live w a ∧ ¬ w.hd a

structure Gb where
  K : PySem.W.Frag
  cls : Nat → Addr

def KSeq (K : PySem.W.Frag) (T : String) (a : Addr) (vs : List V) : Prop :=
  ∃ (o : Obj) (its : Array Value) (n : Nat), K.lookup a = some o ∧ o.cls = .type T ∧ o.dict = none ∧ o.data = .seq its n ∧ its.size ≤ sizeLine ∧ Vals vs its.toList

mutual
def Rep (G : Gb) (w : Wd) : D → V → Prop
  | .non, v => v = .non
  | .bl b, v => v = .bl b
  | .int i, v => v = .int i
  | .str s, v => v = .str s
  | .tup xs, v => ∃ a vs, v = .ref a ∧ (Sat w a (.tup vs) ∨ KSeq G.K "tuple" a vs) ∧ RepL G w xs vs
  | .lst xs, v => ∃ a vs, v = .ref a ∧ Sat w a (.lst vs) ∧ RepL G w xs vs
  | .scr xs, v => ∃ a vs, v = .ref a ∧ ((∃ o, Sat w a (.frz o (.lst vs))) ∨ KSeq G.K "list" a vs) ∧ RepL G w xs vs
  | .ins c fs, v => ∃ a dx vs, v = .ref a ∧ Sat w a (.ins (G.cls c) dx vs) ∧ RepF G w fs vs
  | .cell i, v => ∃ a, v = .ref a ∧ w.as[i]? = some a
def RepL (G : Gb) (w : Wd) : List D → List V → Prop
  | [], vs => vs = []
  | d :: ds, vs => ∃ v r, vs = v :: r ∧ Rep G w d v ∧ RepL G w ds r
def RepF (G : Gb) (w : Wd) : List (Str × D) → List (Str × V) → Prop
  | [], vs => vs = []
  | d :: ds, vs => ∃ v r, vs = (d.1, v) :: r ∧ Rep G w d.2 v ∧ RepF G w ds r
end

/-- a cell's object -/
def MRep (G : Gb) (w : Wd) (a : Addr) : MO → Prop
  | .lst xs => ∃ vs, w.H a = some (.lst vs) ∧ RepL G w xs vs
  | .ins c fs => ∃ dx vs, w.H a = some (.ins (G.cls c) dx vs) ∧ RepF G w fs vs

structure WOk (G : Gb) (w : Wd) : Prop where
  len : w.as.length = w.M.length
  nd : w.as.Nodup
  there : ∀ (i : Nat) (a : Addr), w.as[i]? = some a → w.H a ≠ none
  cell : ∀ (i : Nat) (a : Addr) (o : MO), w.as[i]? = some a → w.M[i]? = some (some o) → MRep G w a o
  hid : ∀ a, w.hd a → w.H a ≠ none
  ch : ∀ (i : Nat) (a : Addr), w.as[i]? = some a → ¬ w.hd a

structure Ext (w w' : Wd) : Prop where
  pre : ∃ ys, w'.as = w.as ++ ys
  keep : ∀ a o, w.H a = some o → ¬ Live w a → w'.H a = some o ∧ ¬ Live w' a
  hid : w'.hd = w.hd
  ex : ∀ a, w.H a ≠ none → w'.H a ≠ none
/-- what stands stays to be told -/
structure Emb (w w' : Wd) : Prop where
  pre : ∃ ys, w'.as = w.as ++ ys
  sat : ∀ a u, Sat w a u → Sat w' a u

theorem Ext.refl (w : Wd) : Ext w w := ⟨⟨[], (List.append_nil _).symm⟩, fun _ _ h n => ⟨h, n⟩, rfl, fun _ h => h⟩
theorem Emb.refl (w : Wd) : Emb w w := ⟨⟨[], (List.append_nil _).symm⟩, fun _ _ h => h⟩
theorem pre_trans {a b c : List Addr} (x : ∃ ys, b = a ++ ys) (y : ∃ ys, c = b ++ ys) : ∃ ys, c = a ++ ys := by
  obtain ⟨p, hp⟩ := x
  obtain ⟨q, hq⟩ := y
  exact ⟨p ++ q, by rw [hq, hp, List.append_assoc]⟩
theorem Ext.trans {a b c : Wd} (x : Ext a b) (y : Ext b c) : Ext a c := ⟨pre_trans x.pre y.pre, fun d o h n => by
  obtain ⟨h1, n1⟩ := x.keep d o h n
  exact y.keep d o h1 n1, y.hid.trans x.hid, fun d h => y.ex d (x.ex d h)⟩
theorem Emb.trans {a b c : Wd} (x : Emb a b) (y : Emb b c) : Emb a c := ⟨pre_trans x.pre y.pre, fun a u h => y.sat a u (x.sat a u h)⟩
theorem Ext.emb {w w' : Wd} (x : Ext w w') : Emb w w' := ⟨x.pre, fun a u h => by
  obtain ⟨h1, n1, n2⟩ := h
  obtain ⟨h2, n3⟩ := x.keep a u h1 n1
  exact ⟨h2, n3, fun z => n2 (by rw [← x.hid]; exact z)⟩⟩
theorem upd_ex {H : Hp} {p : Addr} {o : HO} : ∀ a, H a ≠ none → upd H p o a ≠ none := fun a h => by
  by_cases z : a = p
  · rw [z, upd_same]
    exact fun z => nomatch z
  · rw [upd_ne z]
    exact h
theorem Emb.at {w w' : Wd} (x : Emb w w') {i : Nat} {a : Addr} (h : w.as[i]? = some a) : w'.as[i]? = some a := by
  obtain ⟨p, hp⟩ := x.pre
  rw [hp, List.getElem?_append_left (List.getElem?_eq_some_iff.mp h).1]
  exact h
theorem Sat.emb {w w' : Wd} (x : Emb w w') {a : Addr} {u : HO} (h : Sat w a u) : Sat w' a u := x.sat a u h
section
variable {G : Gb} {w w' : Wd}
mutual
theorem Rep.emb (x : Emb w w') : ∀ (d : D) (v : V), Rep G w d v → Rep G w' d v
  | .non, _, h => by simp only [Rep] at h ⊢; exact h
  | .bl b, _, h => by simp only [Rep] at h ⊢; exact h
  | .int i, _, h => by simp only [Rep] at h ⊢; exact h
  | .str s, _, h => by simp only [Rep] at h ⊢; exact h
  | .tup xs, _, h => by
    simp only [Rep] at h ⊢
    obtain ⟨a, vs, e, h1 | h1, h2⟩ := h
    · exact ⟨a, vs, e, .inl (h1.emb x), RepL.emb x xs vs h2⟩
    · exact ⟨a, vs, e, .inr h1, RepL.emb x xs vs h2⟩
  | .lst xs, _, h => by
    simp only [Rep] at h ⊢
    obtain ⟨a, vs, e, h1, h2⟩ := h
    exact ⟨a, vs, e, h1.emb x, RepL.emb x xs vs h2⟩
  | .scr xs, _, h => by
    simp only [Rep] at h ⊢
    obtain ⟨a, vs, e, ⟨o, h1⟩ | h1, h2⟩ := h
    · exact ⟨a, vs, e, .inl ⟨o, h1.emb x⟩, RepL.emb x xs vs h2⟩
    · exact ⟨a, vs, e, .inr h1, RepL.emb x xs vs h2⟩
  | .ins c fs, _, h => by
    simp only [Rep] at h ⊢
    obtain ⟨a, dx, vs, e, h1, h2⟩ := h
    exact ⟨a, dx, vs, e, h1.emb x, RepF.emb x fs vs h2⟩
  | .cell i, _, h => by
    simp only [Rep] at h ⊢
    obtain ⟨a, e, h1⟩ := h
    exact ⟨a, e, x.at h1⟩
theorem RepL.emb (x : Emb w w') : ∀ (ds : List D) (vs : List V), RepL G w ds vs → RepL G w' ds vs
  | [], _, h => by simp only [RepL] at h ⊢; exact h
  | d :: ds, _, h => by
    simp only [RepL] at h ⊢
    obtain ⟨v, r, e, h1, h2⟩ := h
    exact ⟨v, r, e, Rep.emb x d v h1, RepL.emb x ds r h2⟩
theorem RepF.emb (x : Emb w w') : ∀ (ds : List (Str × D)) (vs : List (Str × V)), RepF G w ds vs → RepF G w' ds vs
  | [], _, h => by simp only [RepF] at h ⊢; exact h
  | (n, d) :: ds, _, h => by
    simp only [RepF] at h ⊢
    obtain ⟨v, r, e, h1, h2⟩ := h
    exact ⟨v, r, e, Rep.emb x d v h1, RepF.emb x ds r h2⟩
end
theorem Rep.ext (x : Ext w w') (d : D) (v : V) (h : Rep G w d v) : Rep G w' d v := Rep.emb x.emb d v h
theorem RepL.ext (x : Ext w w') (ds : List D) (vs : List V) (h : RepL G w ds vs) : RepL G w' ds vs := RepL.emb x.emb ds vs h
theorem RepF.ext (x : Ext w w') (ds : List (Str × D)) (vs : List (Str × V)) (h : RepF G w ds vs) : RepF G w' ds vs := RepF.emb x.emb ds vs h
theorem RepL.length : ∀ {ds : List D} {vs : List V}, RepL G w ds vs → ds.length = vs.length
  | [], _, h => by simp only [RepL] at h; subst h; rfl
  | d :: ds, _, h => by
    simp only [RepL] at h
    obtain ⟨v, r, rfl, _, h2⟩ := h
    simp [RepL.length h2]
theorem RepL.get : ∀ {ds : List D} {vs : List V} {i : Nat} {d : D}, RepL G w ds vs → ds[i]? = some d → ∃ v, vs[i]? = some v ∧ Rep G w d v
  | [], _, _, _, _, e => by simp at e
  | d :: ds, _, i, _, h, e => by
    simp only [RepL] at h
    obtain ⟨v, r, rfl, h1, h2⟩ := h
    cases i with
    | zero => simp at e; subst e; exact ⟨v, rfl, h1⟩
    | succ i =>
      obtain ⟨u, e1, e2⟩ := RepL.get (i := i) h2 (by simpa using e)
      exact ⟨u, by simpa using e1, e2⟩
theorem RepL.nil : RepL G w [] [] := by simp only [RepL]
theorem RepL.cons {d : D} {v : V} {ds : List D} {vs : List V} (h : Rep G w d v) (t : RepL G w ds vs) : RepL G w (d :: ds) (v :: vs) := by
  simp only [RepL]; exact ⟨v, vs, rfl, h, t⟩
theorem RepL.append : ∀ {ds es : List D} {vs us : List V}, RepL G w ds vs → RepL G w es us → RepL G w (ds ++ es) (vs ++ us)
  | [], _, _, _, h, t => by simp only [RepL] at h; subst h; exact t
  | d :: ds, _, _, _, h, t => by
    simp only [RepL] at h
    obtain ⟨v, r, rfl, h1, h2⟩ := h
    exact RepL.cons h1 (RepL.append h2 t)
theorem RepL.set : ∀ {ds : List D} {vs : List V} {d : D} {v : V} (i : Nat), RepL G w ds vs → Rep G w d v → RepL G w (ds.set i d) (vs.set i v)
  | [], _, _, _, _, h, _ => by simp only [RepL] at h; subst h; simp only [List.set_nil, RepL]
  | d :: ds, _, _, _, i, h, t => by
    simp only [RepL] at h
    obtain ⟨v, r, rfl, h1, h2⟩ := h
    cases i with
    | zero => exact RepL.cons t h2
    | succ i => exact RepL.cons h1 (RepL.set i h2 t)
theorem RepL.take : ∀ {ds : List D} {vs : List V} (n : Nat), RepL G w ds vs → RepL G w (ds.take n) (vs.take n)
  | _, _, 0, _ => by simp only [List.take_zero, RepL]
  | [], _, n + 1, h => by simp only [RepL] at h; subst h; simp only [List.take_nil, RepL]
  | d :: ds, _, n + 1, h => by
    simp only [RepL] at h
    obtain ⟨v, r, rfl, h1, h2⟩ := h
    exact RepL.cons h1 (RepL.take n h2)
theorem RepL.drop : ∀ {ds : List D} {vs : List V} (n : Nat), RepL G w ds vs → RepL G w (ds.drop n) (vs.drop n)
  | _, _, 0, h => h
  | [], _, n + 1, h => by simp only [RepL] at h; subst h; simp only [List.drop_nil, RepL]
  | d :: ds, _, n + 1, h => by
    simp only [RepL] at h
    obtain ⟨v, r, rfl, h1, h2⟩ := h
    exact RepL.drop n h2
theorem RepL.ints : ∀ (ns : List Int), RepL G w (ns.map D.int) (ns.map V.int)
  | [] => RepL.nil
  | n :: ns => RepL.cons (by simp only [Rep]) (RepL.ints ns)

/-! ### how worlds grow -/
theorem WOk.nolive (g : WOk G w) {p : Addr} (hp : w.H p = none) : ∀ i : Nat, w.as[i]? ≠ some p := fun i e => g.there i p e hp
theorem live_none {p : Addr} (g : WOk G w) (hp : w.H p = none) : ¬ Live w p := fun ⟨i, _, e, _⟩ => g.nolive hp i e
/-- a new object that will not change -/
theorem ext_new (g : WOk G w) {p : Addr} {o : HO} (hp : w.H p = none) : Ext w { w with H := upd w.H p o } := by
  refine ⟨⟨[], (List.append_nil _).symm⟩, fun a u h n => ?_, rfl, upd_ex⟩
  refine ⟨?_, n⟩
  show upd w.H p o a = some u
  rw [upd_ne (ne_of_none h hp)]
  exact h
theorem hid_upd (g : WOk G w) {p : Addr} {o : HO} : ∀ a, w.hd a → upd w.H p o a ≠ none := fun a h => upd_ex a (g.hid a h)
theorem MRep.emb {a : Addr} {o : MO} (x : Emb w w') (k : w'.H a = w.H a) (h : MRep G w a o) : MRep G w' a o := by
  cases o with
  | lst xs =>
    obtain ⟨vs, e, h2⟩ := h
    exact ⟨vs, by rw [k]; exact e, RepL.emb x _ _ h2⟩
  | ins c fs =>
    obtain ⟨dx, vs, e, h2⟩ := h
    exact ⟨dx, vs, by rw [k]; exact e, RepF.emb x _ _ h2⟩
theorem MRep.ext {a : Addr} {o : MO} (x : Ext w w') (k : w'.H a = w.H a) (h : MRep G w a o) : MRep G w' a o := h.emb x.emb k
theorem wok_new (g : WOk G w) {p : Addr} {o : HO} (hp : w.H p = none) : WOk G { w with H := upd w.H p o } := by
  have x := ext_new (o := o) g hp
  have ne : ∀ (i : Nat) (a : Addr), w.as[i]? = some a → a ≠ p := fun i a e z => g.nolive hp i (z ▸ e)
  refine ⟨g.len, g.nd, fun i a e => ?_, fun i a u e m => ?_, hid_upd g, g.ch⟩
  · show upd w.H p o a ≠ none
    rw [upd_ne (ne i a e)]
    exact g.there i a e
  · exact (g.cell i a u e m).ext x (upd_ne (ne i a e))
theorem sat_new (g : WOk G w) {p : Addr} {o : HO} (hp : w.H p = none) : Sat { w with H := upd w.H p o } p o :=
  ⟨upd_same, fun l => live_none g hp l, fun z => g.hid p z hp⟩
/-- a new cell -/
def Wd.alloc (w : Wd) (p : Addr) (m : MO) (o : HO) : Wd := ⟨w.as ++ [p], w.M ++ [some m], upd w.H p o, w.hd⟩
theorem live_alloc (g : WOk G w) {p a : Addr} {m : MO} {o : HO} (hp : w.H p = none) (h : Live (w.alloc p m o) a) : a = p ∨ Live w a := by
  obtain ⟨i, u, e, q⟩ := h
  have e' : (w.as ++ [p])[i]? = some a := e
  have q' : (w.M ++ [some m])[i]? = some (some u) := q
  by_cases hi : i < w.as.length
  · rw [List.getElem?_append_left hi] at e'
    rw [List.getElem?_append_left (by rw [← g.len]; exact hi)] at q'
    exact .inr ⟨i, u, e', q'⟩
  · rw [List.getElem?_append_right (by omega)] at e'
    have : i - w.as.length = 0 := by
      by_cases z : i - w.as.length = 0
      · exact z
      · rw [List.getElem?_eq_none (by simp; omega)] at e'
        cases e'
    rw [this] at e'
    exact .inl (Option.some.inj e').symm
theorem ext_alloc (g : WOk G w) {p : Addr} {m : MO} {o : HO} (hp : w.H p = none) : Ext w (w.alloc p m o) := by
  refine ⟨⟨[p], rfl⟩, fun a u h n => ?_, rfl, upd_ex⟩
  have ne := ne_of_none h hp
  refine ⟨(upd_ne ne).trans h, fun l => ?_⟩
  rcases live_alloc g hp l with z | z
  · exact ne z
  · exact n z
theorem wok_alloc (g : WOk G w) {p : Addr} {m : MO} {o : HO} (hp : w.H p = none) (hm : MRep G (w.alloc p m o) p m) : WOk G (w.alloc p m o) := by
  have x := ext_alloc (m := m) (o := o) g hp
  have ne : ∀ (i : Nat) (a : Addr), w.as[i]? = some a → a ≠ p := fun i a e z => g.nolive hp i (z ▸ e)
  have sp : ∀ (i : Nat) (a : Addr), (w.as ++ [p])[i]? = some a → (i < w.as.length ∧ w.as[i]? = some a) ∨ (i = w.as.length ∧ a = p) := fun i a e => by
    by_cases hi : i < w.as.length
    · rw [List.getElem?_append_left hi] at e
      exact .inl ⟨hi, e⟩
    · rw [List.getElem?_append_right (by omega)] at e
      by_cases z : i - w.as.length = 0
      · rw [z] at e
        exact .inr ⟨by omega, (Option.some.inj e).symm⟩
      · rw [List.getElem?_eq_none (by simp; omega)] at e
        cases e
  refine ⟨?_, ?_, fun i a e => ?_, fun i a u e q => ?_, hid_upd g, fun i a e z => (sp i a e).elim (fun h => g.ch i a h.2 z) fun h => g.hid a z (h.2 ▸ hp)⟩
  · show (w.as ++ [p]).length = (w.M ++ [some m]).length
    simp [g.len]
  · show (w.as ++ [p]).Nodup
    refine List.nodup_append.mpr ⟨g.nd, by simp, fun a ha b hb => ?_⟩
    have hb' : b = p := by simpa using hb
    obtain ⟨i, hi⟩ := List.getElem?_of_mem ha
    rw [hb']
    exact ne i a hi
  · show upd w.H p o a ≠ none
    rcases sp i a e with ⟨_, e1⟩ | ⟨_, rfl⟩
    · rw [upd_ne (ne i a e1)]
      exact g.there i a e1
    · rw [upd_same]
      exact fun z => nomatch z
  · have q' : (w.M ++ [some m])[i]? = some (some u) := q
    rcases sp i a e with ⟨hi, e1⟩ | ⟨rfl, rfl⟩
    · rw [List.getElem?_append_left (by rw [← g.len]; exact hi)] at q'
      exact (g.cell i a u e1 q').ext x (upd_ne (ne i a e1))
    · rw [g.len, List.getElem?_append_right (Nat.le_refl _), Nat.sub_self] at q'
      have : m = u := Option.some.inj (Option.some.inj q')
      rw [← this]
      exact hm
/-- a cell is written -/
def Wd.put (w : Wd) (i : Nat) (a : Addr) (m : MO) (o : HO) : Wd := ⟨w.as, w.M.set i (some m), upd w.H a o, w.hd⟩
theorem live_put {i : Nat} {a b : Addr} {m m0 : MO} {o : HO} (ha : w.as[i]? = some a) (hm : w.M[i]? = some (some m0)) (h : Live (w.put i a m o) b) : Live w b := by
  obtain ⟨j, u, e, q⟩ := h
  have q' : (w.M.set i (some m))[j]? = some (some u) := q
  by_cases hj : i = j
  · subst hj
    exact ⟨i, m0, e, hm⟩
  · rw [List.getElem?_set_ne hj] at q'
    exact ⟨j, u, e, q'⟩
theorem nd_ix {as : List Addr} (nd : as.Nodup) {i j : Nat} {a : Addr} (h1 : as[i]? = some a) (h2 : as[j]? = some a) : i = j := by
  obtain ⟨hi, e1⟩ := List.getElem?_eq_some_iff.mp h1
  exact (List.getElem?_inj hi nd).mp (h1.trans h2.symm)
theorem ext_put {i : Nat} {a : Addr} {m m0 : MO} {o : HO} (ha : w.as[i]? = some a) (hm : w.M[i]? = some (some m0)) : Ext w (w.put i a m o) := by
  refine ⟨⟨[], (List.append_nil _).symm⟩, fun b u h n => ?_, rfl, upd_ex⟩
  have ne : b ≠ a := fun z => n ⟨i, m0, z ▸ ha, hm⟩
  exact ⟨(upd_ne ne).trans h, fun l => n (live_put ha hm l)⟩
theorem wok_put (g : WOk G w) {i : Nat} {a : Addr} {m m0 : MO} {o : HO} (ha : w.as[i]? = some a) (hm : w.M[i]? = some (some m0)) (hn : MRep G (w.put i a m o) a m) : WOk G (w.put i a m o) := by
  have x := ext_put (m := m) (o := o) ha hm
  refine ⟨?_, g.nd, fun j b e => ?_, fun j b u e q => ?_, hid_upd g, g.ch⟩
  · show w.as.length = (w.M.set i (some m)).length
    rw [List.length_set]
    exact g.len
  · show upd w.H a o b ≠ none
    by_cases z : b = a
    · rw [z, upd_same]
      exact fun z => nomatch z
    · rw [upd_ne z]
      exact g.there j b e
  · have q' : (w.M.set i (some m))[j]? = some (some u) := q
    by_cases hj : i = j
    · subst hj
      have e' : w.as[i]? = some b := e
      rw [ha] at e'
      cases e'
      rw [List.getElem?_set_self (List.getElem?_eq_some_iff.mp hm).1] at q'
      have : m = u := Option.some.inj (Option.some.inj q')
      rw [← this]
      exact hn
    · rw [List.getElem?_set_ne hj] at q'
      have ne : b ≠ a := fun z => hj (nd_ix g.nd ha (z ▸ e))
      exact (g.cell j b u e q').ext x (upd_ne ne)
/-- a cell is let go: what it held will not change any more -/
def Wd.frz (w : Wd) (i : Nat) : Wd := ⟨w.as, w.M.set i none, w.H, w.hd⟩
theorem live_frz {i : Nat} {b : Addr} (h : Live (w.frz i) b) : Live w b := by
  obtain ⟨j, u, e, q⟩ := h
  have q' : (w.M.set i none)[j]? = some (some u) := q
  by_cases hj : i = j
  · subst hj
    by_cases hi : i < w.M.length
    · rw [List.getElem?_set_self hi] at q'
      cases q'
    · rw [List.getElem?_eq_none (by simpa using hi)] at q'
      cases q'
  · rw [List.getElem?_set_ne hj] at q'
    exact ⟨j, u, e, q'⟩
theorem ext_frz {i : Nat} : Ext w (w.frz i) := ⟨⟨[], (List.append_nil _).symm⟩, fun b u h n => ⟨h, fun l => n (live_frz l)⟩, rfl, fun _ z => z⟩
theorem wok_frz (g : WOk G w) {i : Nat} : WOk G (w.frz i) := by
  refine ⟨?_, g.nd, g.there, fun j b u e q => ?_, g.hid, g.ch⟩
  · show w.as.length = (w.M.set i none).length
    rw [List.length_set]
    exact g.len
  · have q' : (w.M.set i none)[j]? = some (some u) := q
    by_cases hj : i = j
    · subst hj
      by_cases hi : i < w.M.length
      · rw [List.getElem?_set_self hi] at q'
        cases q'
      · rw [List.getElem?_eq_none (by simpa using hi)] at q'
        cases q'
    · rw [List.getElem?_set_ne hj] at q'
      exact (g.cell j b u e q').ext ext_frz rfl
theorem not_live_frz (g : WOk G w) {i : Nat} {a : Addr} (ha : w.as[i]? = some a) : ¬ Live (w.frz i) a := fun ⟨j, u, e, q⟩ => by
  have ej : i = j := nd_ix g.nd ha e
  subst ej
  have q' : (w.M.set i none)[i]? = some (some u) := q
  by_cases hi : i < w.M.length
  · rw [List.getElem?_set_self hi] at q'
    cases q'
  · rw [List.getElem?_eq_none (by simpa using hi)] at q'
    cases q'

/-! ### an object that is being built -/
def Wd.hide (w : Wd) (p : Addr) (o : HO) : Wd := ⟨w.as, w.M, upd w.H p o, fun a => a = p ∨ w.hd a⟩
theorem emb_hide (g : WOk G w) {p : Addr} {o : HO} (hp : w.H p = none) : Emb w (w.hide p o) := ⟨⟨[], (List.append_nil _).symm⟩, fun a u h => by
  have ne := ne_of_none h.1 hp
  exact ⟨(upd_ne ne).trans h.1, h.2.1, fun z => z.elim ne h.2.2⟩⟩
theorem wok_hide (g : WOk G w) {p : Addr} {o : HO} (hp : w.H p = none) : WOk G (w.hide p o) := by
  have g1 := wok_new (o := o) g hp
  refine ⟨g1.len, g1.nd, g1.there, fun i a u e m => ?_, fun a h => ?_, fun i a e z => z.elim (fun q => g.nolive hp i (q ▸ e)) (g.ch i a e)⟩
  · have ne : a ≠ p := fun z => g.nolive hp i (z ▸ e)
    exact (g.cell i a u e m).emb (emb_hide g hp) (upd_ne ne)
  · rcases h with rfl | h
    · show upd w.H a o a ≠ none
      rw [upd_same]
      exact fun z => nomatch z
    · exact upd_ex a (g.hid a h)
/-- what is being built is written -/
def Wd.grow (w : Wd) (p : Addr) (o : HO) : Wd := ⟨w.as, w.M, upd w.H p o, w.hd⟩
theorem emb_grow {p : Addr} {o : HO} (hp : w.hd p) : Emb w (w.grow p o) := ⟨⟨[], (List.append_nil _).symm⟩, fun a u h => by
  have ne : a ≠ p := fun z => h.2.2 (z ▸ hp)
  exact ⟨(upd_ne ne).trans h.1, h.2.1, h.2.2⟩⟩
theorem wok_grow (g : WOk G w) {p : Addr} {o : HO} (hp : w.hd p) (nl : ¬ Live w p) : WOk G (w.grow p o) := by
  refine ⟨g.len, g.nd, fun i a e => upd_ex a (g.there i a e), fun i a u e m => ?_, hid_upd g, g.ch⟩
  have ne : a ≠ p := fun z => nl ⟨i, u, z ▸ e, m⟩
  exact (g.cell i a u e m).emb (emb_grow hp) (upd_ne ne)
/-- it is done: it will not change any more -/
def Wd.bare (w : Wd) (hd : Addr → Prop) : Wd := ⟨w.as, w.M, w.H, hd⟩
theorem emb_bare {hd : Addr → Prop} (h : ∀ a, hd a → w.hd a) : Emb w (w.bare hd) := ⟨⟨[], (List.append_nil _).symm⟩, fun a u q => ⟨q.1, q.2.1, fun z => q.2.2 (h a z)⟩⟩
theorem wok_bare (g : WOk G w) {hd : Addr → Prop} (h : ∀ a, hd a → w.hd a) : WOk G (w.bare hd) :=
  ⟨g.len, g.nd, g.there, fun i a u e m => (g.cell i a u e m).emb (emb_bare h) rfl, fun a z => g.hid a (h a z), fun i a e z => g.ch i a e (h a z)⟩
end
end Ev
/-! Ev1: a small language of expressions and statements over plain data, and what they are worth. -/
namespace Ev
open PySem L2

inductive Res (α : Type) where
  | ok (a : α) (M : Mem)
  | ex (c : Nat) (fs : List (Str × D)) (M : Mem)
  | no
def Res.bind {α β : Type} (r : Res α) (f : α → Mem → Res β) : Res β :=
  match r with
  | .ok a M => f a M
  | .ex c fs M => .ex c fs M
  | .no => .no
@[simp] theorem Res.bind_ok {α β : Type} (a : α) (M : Mem) (f : α → Mem → Res β) : (Res.ok a M).bind f = f a M := rfl
@[simp] theorem Res.bind_ex {α β : Type} (c : Nat) (fs : List (Str × D)) (M : Mem) (f : α → Mem → Res β) : (Res.ex c fs M).bind f = .ex c fs M := rfl
theorem Res.bind_assoc {α β γ : Type} (r : Res α) (f : α → Mem → Res β) (g : β → Mem → Res γ) : (r.bind f).bind g = r.bind fun a M => (f a M).bind g := by cases r <;> rfl
@[simp] theorem Res.bind_no {α β : Type} (f : α → Mem → Res β) : (Res.no : Res α).bind f = .no := rfl
/-- what may raise stands for nothing here -/
def Res.sure {α : Type} (r : Res α) : Res α := match r with
  | .ok a M => .ok a M
  | _ => .no
@[simp] theorem Res.sure_ok {α : Type} (a : α) (M : Mem) : (Res.ok a M).sure = .ok a M := rfl
/-- where it stands, else nothing -/
def Res.of {α : Type} (o : Option α) (M : Mem) : Res α := match o with | some a => .ok a M | none => .no
@[simp] theorem Res.of_some {α : Type} (a : α) (M : Mem) : Res.of (some a) M = .ok a M := rfl
@[simp] theorem Res.of_none {α : Type} (M : Mem) : (Res.of none M : Res α) = .no := rfl

abbrev Env' := List (Option D)

inductive BO where | add | sub | mul | fdiv | mod | pow
  deriving DecidableEq
inductive CO where | eq | ne | lt | le | gt | ge | is | isn | inn | nin
  deriving DecidableEq
/-- built-in functions, called by their names -/
inductive Bi where
  | int | len | abs | repr | str | tuple | list
  deriving DecidableEq
/-- methods of built-in values -/
inductive Mt where
  | append | extend | pop | join | split | startswith | index
  deriving DecidableEq

mutual
inductive Ex where
  | var (i : Nat)
  | non | bl (b : Bool) | int (i : Int) | str (s : Str)
  | bin (o : BO) (a b : Ex)
  | cmp (o : CO) (a b : Ex)
  | chn (o p : CO) (a b c : Ex)
  | and (a b : Ex) | or (a b : Ex) | not (a : Ex) | neg (a : Ex)
  | ite (c a b : Ex)
  | tup (es : List Ex) | lst (es : List Ex) | mls (es : List Ex)
  | ix (a b : Ex) | slc (a : Ex) (lo hi : Option Ex)
  | call (f : Nat) (es : List Ex) (ks : List (Str × Ex)) (pm : List Nat)
  | bi (b : Bi) (es : List Ex)
  | isi (e : Ex) (ts : List String)
  | meth (m : Mt) (o : Ex) (es : List Ex)
  | lc (e : Ex) (t : Tg) (it : It) (c : Option Ex) (vs : List Nat)
  | frz (i : Nat)
inductive It where
  | seq (e : Ex)
  | rng1 (a : Ex)
  | rng2 (a b : Ex)
  | enu (e : Ex)
  | zip (a b : Ex)
inductive Tg where
  | nm (i : Nat)
  | tp (ts : List Tg)
  | sub (a b : Ex)
  | fld (a : Ex) (f : Str)
end

/-! the slots that a target stores -/
mutual
def tgS : Tg → List Nat
  | .nm i => [i]
  | .tp ts => tgSs ts
  | _ => []
def tgSs : List Tg → List Nat
  | [] => []
  | t :: ts => tgS t ++ tgSs ts
end

inductive Sx where
  | asg (t : Tg) (e : Ex)
  | par (is : List Nat) (es : List Ex)
  | aug (i : Nat) (o : BO) (e : Ex)
  | expr (e : Ex)
  | ret (e : Ex)
  | retN
  | ifs (c : Ex) (a b : List Sx)
  | fors (t : Tg) (it : It) (body : List Sx)
  | whl (n : Nat) (c : Ex) (body : List Sx)
  | brk | cnt | pass | nev

/-! ### what operations are worth -/
/-- a list's items: as it will stay, or a cell's as they are -/
def seqL (M : Mem) : D → Option (List D)
  | .lst xs => some xs
  | .scr xs => some xs
  | .cell i => match M[i]? with
    | some (some (.lst xs)) => some xs
    | _ => none
  | _ => none
/-- one that was made here -/
def seqC (M : Mem) : D → Option (List D)
  | .scr _ => none
  | d => seqL M d
def seqT : D → Option (List D)
  | .tup xs => some xs
  | _ => none
def seqA (M : Mem) (d : D) : Option (List D) := match d with
  | .tup xs => some xs
  | d => seqL M d

/-! plain data as the library tells it -/
mutual
def toPd : D → Option PyData
  | .non => some .none
  | .bl b => some (.bool b)
  | .int i => some (.int i)
  | .str s => some (.str s)
  | .tup xs => (toPds xs).map .tuple
  | .lst xs => (toPds xs).map .list
  | .scr xs => (toPds xs).map .list
  | .ins _ _ => none
  | .cell _ => none
def toPds : List D → Option (List PyData)
  | [] => some []
  | d :: ds => match toPd d, toPds ds with
    | some p, some ps => some (p :: ps)
    | _, _ => none
end
/-- a cell as the list that it is now -/
def now (M : Mem) (d : D) : D := match seqL M d with
  | some xs => .lst xs
  | none => d
def truth (M : Mem) : D → Option Bool
  | .non => some false
  | .bl b => some b
  | .int i => some (i != 0)
  | .str s => if s.length ≤ sizeLine then some (s.length != 0) else none
  | .tup xs => some (!xs.isEmpty)
  | .ins _ _ => none
  | d => (seqL M d).map fun xs => !xs.isEmpty

def mulOk (i j : Int) : Bool := decide ((-(2 ^ 64) < i ∧ i < 2 ^ 64) ∨ (-(2 ^ 64) < j ∧ j < 2 ^ 64) ∨ i.natAbs.log2 + j.natAbs.log2 < 1000000)
def binI : BO → Int → Int → Option Int
  | .add, i, j => some (i + j)
  | .sub, i, j => some (i - j)
  | .mul, i, j => if mulOk i j then some (i * j) else none
  | .fdiv, i, j => if 0 < j ∧ j.natAbs.log2 < 9000 then some (i / j) else none
  | .mod, i, j => if 0 < j then some (i % j) else none
  | .pow, i, j => if 0 ≤ j ∧ j ≤ 1000000 ∧ i.natAbs < 2 ^ 64 then some (i ^ j.toNat) else none
def evBin (o : BO) (x y : D) (M : Mem) : Option D :=
  match x, y with
  | .int i, .int j => (binI o i j).map .int
  | .str s, .str t => if o = .add ∧ s.length + t.length ≤ sizeLine then some (.str (s ++ t)) else none
  | .tup xs, .tup ys => if o = .add ∧ xs ≠ [] ∧ ys ≠ [] ∧ xs.length + ys.length ≤ sizeLine then some (.tup (xs ++ ys)) else none
  | x, y => if o = .add then match seqC M x, seqC M y with
    | some xs, some ys => if xs.length + ys.length ≤ sizeLine then some (.lst (xs ++ ys)) else none
    | _, _ => none
    else none

/-- in place -/
def evAug (o : BO) (x y : D) : Option D :=
  match x, y with
  | .int i, .int j => if o = .pow then none else (binI o i j).map .int
  | .str s, .str t => if o = .add ∧ s.length + t.length ≤ sizeLine then some (.str (s ++ t)) else none
  | _, _ => none
def shapedB (p : PyData) : Bool := SeqAt.shaped p
/-- == -/
def eqD (M : Mem) (x y : D) : Option Bool :=
  match toPd (now M x), toPd (now M y) with
  | some p, some q => if shapedB p && shapedB q then some (PyData.eqv p q) else none
  | _, _ => none
/-- strings and integers as they are -/
def eqM (M : Mem) (x y : D) : Option Bool := match x, y with
  | .str s, .str t => some (decide (s = t))
  | .int i, .int j => some (decide (i = j))
  | x, y => eqD M x y
def inD (M : Mem) (x y : D) : Option Bool :=
  match toPd (now M x), toPd (now M y) with
  | some p, some (.list qs) => if shapedB p && shapedB (.list qs) then some (qs.any fun z => PyData.eqv z p) else none
  | _, _ => none
def isD (x y : D) : Option Bool := match x, y with
  | .bl a, .bl b => some (a == b)
  | .non, .non => some true
  | _, .non => some false
  | .non, .bl _ | .int _, .bl _ | .str _, .bl _ | .tup _, .bl _ | .lst _, .bl _ | .scr _, .bl _ | .ins _ _, .bl _ | .cell _, .bl _ => some false
  | _, _ => none
def cmpI : CO → Int → Int → Option Bool
  | .lt, i, j => some (decide (i < j))
  | .le, i, j => some (decide (i ≤ j))
  | .gt, i, j => some (decide (j < i))
  | .ge, i, j => some (decide (j ≤ i))
  | _, _, _ => none
def ordD (o : CO) : D → D → Option Bool
  | .int i, .int j => cmpI o i j
  | _, _ => none
def cmpD (o : CO) (M : Mem) (x y : D) : Option Bool :=
  match o with
  | .eq => eqM M x y
  | .ne => (eqM M x y).map (!·)
  | .is => isD x y
  | .isn => (isD x y).map (!·)
  | .inn => inD M x y
  | .nin => (inD M x y).map (!·)
  | o => ordD o x y
def ixD (M : Mem) (x y : D) : Option D :=
  match y with
  | .int i => match seqA M x with
    | some xs => atI xs i
    | none => none
  | _ => none
def cutD (xs : List D) (lo hi : Option Int) : List D := (xs.drop (HT.sIx xs.length 0 lo)).take (HT.sIx xs.length xs.length hi - HT.sIx xs.length 0 lo)
def slcD (M : Mem) (x : D) (a b : Option Int) : Option D := match x with
  | .tup xs => if HT.sIx xs.length 0 a = 0 ∧ HT.sIx xs.length xs.length b = xs.length then none else some (.tup (cutD xs a b))
  | x => (seqL M x).map fun xs => .lst (cutD xs a b)
def tyOf : D → Option (String × List String)
  | .non => some ("NoneType", ["NoneType"])
  | .bl _ => some ("bool", ["bool", "int"])
  | .int _ => some ("int", ["int"])
  | .str _ => some ("str", ["str"])
  | .tup _ => some ("tuple", ["tuple"])
  | .lst _ => some ("list", ["list"])
  | .scr _ => some ("list", ["list"])
  | .cell _ => none
  | .ins _ _ => none
/-- the built-in classes that may be asked for -/
def tyAsk : List String := ["int", "bool", "str", "list", "tuple", "dict"]
def isiD (ts : List String) (d : D) : Option Bool := match tyOf d with
  | some (_, l) => if ts.all tyAsk.contains then some (ts.any l.contains) else none
  | none => none
def evBi (b : Bi) (ds : List D) (M : Mem) : Option D :=
  match b, ds with
  | .int, [.int i] => some (.int i)
  | .int, [.bl b] => some (.int (if b then 1 else 0))
  | .abs, [.int i] => some (.int (if i < 0 then -i else i))
  | .len, [d] => (seqA M d).map fun xs => .int xs.length
  | .repr, [d] => match toPd (now M d) with
    | some p => if p.showable ∧ p.depth ≤ 40 ∧ p.shown.length ≤ sizeLine then some (.str p.shown) else none
    | none => none
  | .tuple, [.tup xs] => some (.tup xs)
  | .tuple, [d] => (seqL M d).map .tup
  | .list, [d] => (seqA M d).map .lst
  | _, _ => none
def rngD (a b : Int) : Option (List D) :=
  if -(2 ^ 62) ≤ a ∧ a < 2 ^ 62 ∧ -(2 ^ 62) ≤ b ∧ b < 2 ^ 62 then some ((List.range (b - a).toNat).map fun (k : Nat) => .int (a + (k : Int))) else none
def isStrD : D → Bool
  | .str _ => true
  | _ => false
/-- whether a method is one of this value -/
def mtFit (m : Mt) (o : D) (M : Mem) : Bool := match m with
  | .append | .extend | .pop | .index => (seqL M o).isSome
  | .join | .split | .startswith => isStrD o
def evMt (m : Mt) (o : D) (ds : List D) (M : Mem) : Option (D × Mem) :=
  match m, o, ds with
  | .append, .cell i, [d] => match M[i]? with
    | some (some (.lst xs)) => if xs.length < sizeLine then some (.non, M.set i (some (.lst (xs ++ [d])))) else none
    | _ => none
  | .extend, .cell i, [d] => match M[i]? with
    | some (some (.lst xs)) => match d with
      | .lst ys => if xs.length + ys.length ≤ sizeLine then some (.non, M.set i (some (.lst (xs ++ ys)))) else none
      | _ => none
    | _ => none
  | _, _, _ => none
def Res.ofM {α : Type} (o : Option (α × Mem)) : Res α := match o with | some (a, M) => .ok a M | none => .no
@[simp] theorem Res.ofM_some {α : Type} (a : α) (M : Mem) : Res.ofM (some (a, M)) = .ok a M := rfl

/-! ### expressions -/
/-- a comprehension's turns: f hands back what is added, if anything is -/
def lcGo (f : D → Mem → Res (Option D)) : List D → List D → Mem → Res (List D)
  | [], acc, M => .ok acc M
  | x :: xs, acc, M => match f x M with
    | .ok (some d) M1 => if acc.length < sizeLine then lcGo f xs (acc ++ [d]) M1 else .no
    | .ok none M1 => lcGo f xs acc M1
    | _ => .no
def wipeD (σ : Env') : List Nat → Env'
  | [] => σ
  | v :: vs => (wipeD σ vs).set v none
section
variable (Φ : Nat → List D → Mem → Res D)
mutual
def evE : Ex → Env' → Mem → Res D
  | .var i, σ, M => match σ[i]? with
    | some (some d) => .ok d M
    | _ => .no
  | .non, _, M => .ok .non M
  | .bl b, _, M => .ok (.bl b) M
  | .int i, _, M => .ok (.int i) M
  | .str s, _, M => .ok (.str s) M
  | .bin o a b, σ, M => (evE a σ M).bind fun x M1 => (evE b σ M1).bind fun y M2 => Res.of (evBin o x y M2) M2
  | .cmp o a b, σ, M => (evE a σ M).bind fun x M1 => (evE b σ M1).bind fun y M2 => Res.of ((cmpD o M2 x y).map .bl) M2
  | .chn o p a b c, σ, M => (evE a σ M).bind fun x M1 => (evE b σ M1).bind fun y M2 => match cmpD o M2 x y with
    | some true => (evE c σ M2).bind fun z M3 => Res.of ((cmpD p M3 y z).map .bl) M3
    | some false => .ok (.bl false) M2
    | none => .no
  | .and a b, σ, M => (evE a σ M).bind fun x M1 => match truth M1 x with
    | some true => evE b σ M1
    | some false => .ok x M1
    | none => .no
  | .or a b, σ, M => (evE a σ M).bind fun x M1 => match truth M1 x with
    | some true => .ok x M1
    | some false => evE b σ M1
    | none => .no
  | .not a, σ, M => (evE a σ M).bind fun x M1 => Res.of ((truth M1 x).map fun b => .bl (!b)) M1
  | .neg a, σ, M => (evE a σ M).bind fun x M1 => match x with
    | .int i => .ok (.int (-i)) M1
    | _ => .no
  | .ite c a b, σ, M => (evE c σ M).bind fun x M1 => match truth M1 x with
    | some true => evE a σ M1
    | some false => evE b σ M1
    | none => .no
  | .tup es, σ, M => (evL es σ M).bind fun ds M1 => if ds.length ≤ sizeLine then .ok (.tup ds) M1 else .no
  | .lst es, σ, M => (evL es σ M).bind fun ds M1 => if ds.length ≤ sizeLine then .ok (.lst ds) M1 else .no
  | .mls es, σ, M => (evL es σ M).bind fun ds M1 => if ds.length ≤ sizeLine then .ok (.cell M1.length) (M1 ++ [some (.lst ds)]) else .no
  | .ix a b, σ, M => (evE a σ M).bind fun x M1 => (evE b σ M1).bind fun y M2 => Res.of (ixD M2 x y) M2
  | .slc a lo hi, σ, M => (evE a σ M).bind fun x M1 => (evO lo σ M1).bind fun l M2 => (evO hi σ M2).bind fun h M3 => Res.of (slcD M3 x l h) M3
  | .call f es ks pm, σ, M => (evL es σ M).bind fun ds M1 => (evK ks σ M1).bind fun us M2 => Φ f (pm.map fun i => ((ds ++ us)[i]?).getD .non) M2
  | .bi b es, σ, M => (evL es σ M).bind fun ds M1 => Res.of (evBi b ds M1) M1
  | .isi e ts, σ, M => (evE e σ M).bind fun x M1 => Res.of ((isiD ts x).map .bl) M1
  | .meth m o es, σ, M => (evE o σ M).bind fun x M1 => if mtFit m x M1 then (evL es σ M1).bind fun ds M2 => Res.ofM (evMt m x ds M2) else .no
  | .lc e t it c vs, σ, M => (evI it σ M).bind fun ds M1 => (lcGo (fun x M2 => (evT t x (wipeD σ vs) M2).bind fun σ3 M3 => (evC c σ3 M3).bind fun b M4 => if b = true then (evE e σ3 M4).bind fun d M5 => .ok (some d) M5 else .ok none M4) ds [] M1).bind fun ds M6 => .ok (.lst ds) M6
  | .frz v, σ, M => match σ[v]? with
    | some (some (.cell i)) => match M[i]? with
      | some (some (.lst xs)) => .ok (.lst xs) (M.set i none)
      | some (some (.ins c fs)) => .ok (.ins c fs) (M.set i none)
      | _ => .no
    | _ => .no
def evL : List Ex → Env' → Mem → Res (List D)
  | [], _, M => .ok [] M
  | e :: es, σ, M => (evE e σ M).bind fun d M1 => (evL es σ M1).bind fun ds M2 => .ok (d :: ds) M2
def evK : List (Str × Ex) → Env' → Mem → Res (List D)
  | [], _, M => .ok [] M
  | (_, e) :: es, σ, M => (evE e σ M).bind fun d M1 => (evK es σ M1).bind fun ds M2 => .ok (d :: ds) M2
def evO : Option Ex → Env' → Mem → Res (Option Int)
  | none, _, M => .ok none M
  | some e, σ, M => (evE e σ M).bind fun d M1 => match d with
    | .int i => .ok (some i) M1
    | _ => .no
def evC : Option Ex → Env' → Mem → Res Bool
  | none, _, M => .ok true M
  | some e, σ, M => (evE e σ M).bind fun d M1 => Res.of (truth M1 d) M1
def evI : It → Env' → Mem → Res (List D)
  | .seq e, σ, M => (evE e σ M).bind fun d M1 => match d with
    | .lst xs => .ok xs M1
    | .scr xs => .ok xs M1
    | .tup xs => .ok xs M1
    | _ => .no
  | .rng1 a, σ, M => (evE a σ M).bind fun d M1 => match d with
    | .int n => Res.of (rngD 0 n) M1
    | _ => .no
  | .rng2 a b, σ, M => (evE a σ M).bind fun x M1 => (evE b σ M1).bind fun y M2 => match x, y with
    | .int m, .int n => Res.of (rngD m n) M2
    | _, _ => .no
  | .enu e, σ, M => (evE e σ M).bind fun d M1 => match d with
    | .lst xs => .ok ((xs.zipIdx).map fun p => .tup [.int p.2, p.1]) M1
    | .scr xs => .ok ((xs.zipIdx).map fun p => .tup [.int p.2, p.1]) M1
    | _ => .no
  | .zip a b, σ, M => (evE a σ M).bind fun x M1 => (evE b σ M1).bind fun y M2 => match x, y with
    | .lst xs, .lst ys => .ok ((xs.zip ys).map fun p => .tup [p.1, p.2]) M2
    | _, _ => .no
def evT : Tg → D → Env' → Mem → Res Env'
  | .nm i, d, σ, M => .ok (σ.set i (some d)) M
  | .tp ts, d, σ, M => match d with
    | .tup ds => evTs ts ds σ M
    | _ => .no
  | .sub a b, d, σ, M => (evE a σ M).sure.bind fun x M1 => (evE b σ M1).sure.bind fun y M2 => match x, y with
    | .cell i, .int k => match M2[i]? with
      | some (some (.lst xs)) => match ixN xs.length k with
        | some j => .ok σ (M2.set i (some (.lst (xs.set j d))))
        | none => .no
      | _ => .no
    | _, _ => .no
  | .fld a f, d, σ, M => .no
def evTs : List Tg → List D → Env' → Mem → Res Env'
  | [], [], σ, M => .ok σ M
  | t :: ts, d :: ds, σ, M => (evT t d σ M).bind fun σ1 M1 => evTs ts ds σ1 M1
  | _, _, _, _ => .no
end

/-! ### statements -/
inductive RS where
  | nx (σ : Env') (M : Mem) | bk (σ : Env') (M : Mem) | ct (σ : Env') (M : Mem)
  | rt (d : D) (M : Mem)
  | ex (c : Nat) (fs : List (Str × D)) (σ : Env') (M : Mem)
  | no
def RS.of {α : Type} (r : Res α) (σ : Env') (f : α → Mem → RS) : RS := match r with
  | .ok a M => f a M
  | .ex c fs M => .ex c fs σ M
  | .no => .no
@[simp] theorem RS.of_ok {α : Type} (a : α) (M : Mem) (σ : Env') (f : α → Mem → RS) : RS.of (.ok a M) σ f = f a M := rfl
def RS.then (r : RS) (f : Env' → Mem → RS) : RS := match r with
  | .nx σ M => f σ M
  | r => r
@[simp] theorem RS.then_nx (σ : Env') (M : Mem) (f : Env' → Mem → RS) : (RS.nx σ M).then f = f σ M := rfl
@[simp] theorem RS.then_rt (d : D) (M : Mem) (f : Env' → Mem → RS) : (RS.rt d M).then f = .rt d M := rfl
def forGo (f : D → Env' → Mem → RS) : List D → Env' → Mem → RS
  | [], σ, M => .nx σ M
  | x :: xs, σ, M => match f x σ M with
    | .nx σ1 M1 => forGo f xs σ1 M1
    | .ct σ1 M1 => forGo f xs σ1 M1
    | .bk σ1 M1 => .nx σ1 M1
    | r => r
def whlGo (c : Env' → Mem → Res Bool) (f : Env' → Mem → RS) : Nat → Env' → Mem → RS
  | 0, _, _ => .no
  | n + 1, σ, M => RS.of (c σ M) σ fun b M1 => if b then match f σ M1 with
      | .nx σ1 M2 => whlGo c f n σ1 M2
      | .ct σ1 M2 => whlGo c f n σ1 M2
      | .bk σ1 M2 => .nx σ1 M2
      | r => r
    else .nx σ M1
def setAll (σ : Env') : List Nat → List D → Env'
  | i :: is, d :: ds => setAll (σ.set i (some d)) is ds
  | _, _ => σ
mutual
def evS : Sx → Env' → Mem → RS
  | .asg t e, σ, M => RS.of (evE Φ e σ M) σ fun d M1 => RS.of (evT Φ t d σ M1) σ fun σ1 M2 => .nx σ1 M2
  | .par is es, σ, M => RS.of (evL Φ es σ M) σ fun ds M1 => if ds.length = is.length then .nx (setAll σ is.reverse ds.reverse) M1 else .no
  | .aug i o e, σ, M => match σ[i]? with
    | some (some x) => RS.of (evE Φ e σ M) σ fun y M1 => match evAug o x y with
      | some z => .nx (σ.set i (some z)) M1
      | none => .no
    | _ => .no
  | .expr e, σ, M => RS.of (evE Φ e σ M) σ fun _ M1 => .nx σ M1
  | .ret e, σ, M => RS.of (evE Φ e σ M) σ fun d M1 => .rt d M1
  | .retN, _, M => .rt .non M
  | .ifs c a b, σ, M => RS.of ((evE Φ c σ M).bind fun d M1 => Res.of (truth M1 d) M1) σ fun t M1 => if t then evSs a σ M1 else evSs b σ M1
  | .fors t it body, σ, M => RS.of (evI Φ it σ M) σ fun ds M1 => forGo (fun x σ1 M2 => RS.of (evT Φ t x σ1 M2) σ1 fun σ2 M3 => evSs body σ2 M3) ds σ M1
  | .whl n c body, σ, M => whlGo (fun σ1 M1 => (evE Φ c σ1 M1).bind fun d M2 => Res.of (truth M2 d) M2) (fun σ1 M1 => evSs body σ1 M1) n σ M
  | .brk, σ, M => .bk σ M
  | .cnt, σ, M => .ct σ M
  | .pass, σ, M => .nx σ M
  | .nev, _, _ => .no
def evSs : List Sx → Env' → Mem → RS
  | [], σ, M => .nx σ M
  | s :: ss, σ, M => (evS s σ M).then fun σ1 M1 => evSs ss σ1 M1
end
end

/-- a def: its parameters, its names by slot, its body -/
structure Df where
  name : Str
  ps : List Str
  N : List Str
  body : List Sx
  /-- how it may be called: positional values, keywords, where each parameter's value stands -/
  shapes : List (Nat × List Str × List Nat)
def bodyRes (r : RS) : Res D := match r with
  | .nx _ M => .ok .non M
  | .rt d M => .ok d M
  | .ex c fs _ M => .ex c fs M
  | _ => .no
/-! whether no cell is told -/
mutual
def noCell : D → Bool
  | .tup xs => noCells xs
  | .lst xs => noCells xs
  | .scr xs => noCells xs
  | .ins _ fs => noCellF fs
  | .cell _ => false
  | _ => true
def noCells : List D → Bool
  | [] => true
  | d :: ds => noCell d && noCells ds
def noCellF : List (Str × D) → Bool
  | [] => true
  | d :: ds => noCell d.2 && noCellF ds
end
/-- behind a call: its own cells are forgotten where nothing of them is left -/
def quiet : Option MO → Bool
  | none => true
  | some (.lst xs) => noCells xs
  | some (.ins _ fs) => noCellF fs
def spare (n : Nat) (M : Mem) : Bool := (M.drop n).all Option.isNone && (M.take n).all quiet
def tidy (n : Nat) (r : Res D) : Res D := match r with
  | .ok d M => if M.length ≤ n then .ok d M else if (spare n M && noCell d) = true then .ok d (M.take n) else .ok d M
  | .ex c fs M => if M.length ≤ n then .ex c fs M else if (spare n M && noCellF fs) = true then .ex c fs (M.take n) else .ex c fs M
  | .no => .no
def evF (P : List Df) : Nat → Nat → List D → Mem → Res D
  | 0, _, _, _ => .no
  | k + 1, f, ds, M => match P[f]? with
    | some d => if ds.length = d.ps.length then tidy M.length (bodyRes (evSs (evF P k) d.body (ds.map some ++ List.replicate (d.N.length - ds.length) none) M)) else .no
    | none => .no
end Ev
/-! Ev2: what the operations do with the values that stand for data. -/
namespace Ev
open PySem L2

/-! ### what an end is worth -/
/-- an exception's own dict -/
def XRep (G : Gb) (w : Wd) (d : Option Addr) (fs : List (Str × D)) : Prop := (fs = [] ∧ d = none) ∨ ∃ dx vs, d = some dx ∧ w.H dx = some (.xd vs) ∧ RepF G w fs vs
def Post {α : Type} (G : Gb) (W : WX) (σ : L2.St) (w : Wd) (r : Res α) (Qr : α → Wd → Prop) : Prop :=
  match r with
  | .ok a M => ∀ w', Ext w w' → WOk G w' → w'.M = M → Qr a w'
  | .ex c fs M => ∀ w' d, Ext w w' → WOk G w' → w'.M = M → XRep G w' d fs → W (.ref (G.cls c)) d σ w'.H
  | .no => False
section
variable {G : Gb} {W : WX} {σ : L2.St} {w w' : Wd} {α β : Type} {r : Res α} {f : α → Mem → Res β}
theorem Post.later {Qr : α → Wd → Prop} (x : Ext w w') (h : Post G W σ w r Qr) : Post G W σ w' r Qr := by
  cases r with
  | ok a M => exact fun w2 x2 g e => h w2 (x.trans x2) g e
  | ex c fs M => exact fun w2 d x2 g e q => h w2 d (x.trans x2) g e q
  | no => exact h
theorem Post.mono {Qr Qr' : α → Wd → Prop} (h : Post G W σ w r Qr) (k : ∀ a w', Ext w w' → WOk G w' → Qr a w' → Qr' a w') : Post G W σ w r Qr' := by
  cases r with
  | ok a M => exact fun w2 x2 g e => k a w2 x2 g (h w2 x2 g e)
  | ex c fs M => exact h
  | no => exact h
theorem Post.monoE {Qr Qr' : α → Wd → Prop} (h : Post G W σ w r Qr) (k : ∀ a w', r = .ok a w'.M → Ext w w' → WOk G w' → Qr a w' → Qr' a w') : Post G W σ w r Qr' := by
  cases r with
  | ok a M => exact fun w2 x2 g e => k a w2 (by rw [e]) x2 g (h w2 x2 g e)
  | ex c fs M => exact h
  | no => exact h
theorem Post.bind {Qr : β → Wd → Prop} (h : Post G W σ w (r.bind f) Qr) : Post G W σ w r fun a w' => Post G W σ w' (f a w'.M) Qr := by
  cases r with
  | ok a M =>
    intro w2 x2 g e
    subst e
    exact Post.later x2 h
  | ex c fs M => exact h
  | no => exact h
/-- at once -/
theorem Post.now {a : α} {Qr : α → Wd → Prop} (g : WOk G w) (h : Post G W σ w (.ok a w.M) Qr) : Qr a w := h w (Ext.refl w) g rfl
theorem Post.of {o : Option α} {M : Mem} {Qr : α → Wd → Prop} (h : Post G W σ w (Res.of o M) Qr) : ∃ a, o = some a ∧ Post G W σ w (.ok a M) Qr := by
  cases o with
  | some a => exact ⟨a, rfl, h⟩
  | none => exact h.elim
theorem Post.ofM {o : Option (α × Mem)} {Qr : α → Wd → Prop} (h : Post G W σ w (Res.ofM o) Qr) : ∃ a M, o = some (a, M) ∧ Post G W σ w (.ok a M) Qr := by
  cases o with
  | some a => exact ⟨a.1, a.2, rfl, h⟩
  | none => exact h.elim
end

/-! ### what a value is told by -/
section
variable {G : Gb} {w : Wd}
theorem Sat.sqT {a : Addr} {vs : List V} (h : Sat w a (.tup vs)) : SqT G.K w.H a vs := .inl (.inl h.1)
theorem kseqT {a : Addr} {vs : List V} (h : KSeq G.K "tuple" a vs) : SqT G.K w.H a vs := by
  obtain ⟨o, its, n, h1, h2, h3, h4, h5, h6⟩ := h
  exact .inr ⟨o, its, n, h1, h2, h4, h5, h6⟩
theorem kseqL {a : Addr} {vs : List V} (h : KSeq G.K "list" a vs) : SqL G.K w.H a vs := by
  obtain ⟨o, its, n, h1, h2, h3, h4, h5, h6⟩ := h
  exact .inr ⟨o, its, n, h1, h2, h3, h4, h5, h6⟩
theorem Rep.tup {xs : List D} {v : V} (h : Rep G w (.tup xs) v) : ∃ a vs, v = .ref a ∧ SqT G.K w.H a vs ∧ RepL G w xs vs := by
  simp only [Rep] at h
  obtain ⟨a, vs, e, h1 | h1, h2⟩ := h
  · exact ⟨a, vs, e, h1.sqT, h2⟩
  · exact ⟨a, vs, e, kseqT h1, h2⟩
theorem Rep.lstC (g : WOk G w) {d : D} {xs : List D} {v : V} (h : Rep G w d v) (e : seqC w.M d = some xs) : ∃ a vs, v = .ref a ∧ w.H a = some (.lst vs) ∧ RepL G w xs vs := by
  cases d with
  | lst ys =>
    simp only [seqC, seqL, Option.some.injEq] at e
    subst e
    simp only [Rep] at h
    obtain ⟨a, vs, e1, h1, h2⟩ := h
    exact ⟨a, vs, e1, h1.1, h2⟩
  | cell i =>
    simp only [Rep] at h
    obtain ⟨a, e1, h1⟩ := h
    simp only [seqC, seqL] at e
    split at e
    · rename_i zs hz
      obtain ⟨vs, h2, h3⟩ := g.cell i a _ h1 hz
      cases e
      exact ⟨a, vs, e1, h2, h3⟩
    · cases e
  | _ => simp [seqC, seqL] at e
theorem Rep.lst (g : WOk G w) {d : D} {xs : List D} {v : V} (h : Rep G w d v) (e : seqL w.M d = some xs) : ∃ a vs, v = .ref a ∧ SqL G.K w.H a vs ∧ RepL G w xs vs := by
  by_cases hs : ∃ ys, d = .scr ys
  · obtain ⟨ys, rfl⟩ := hs
    simp only [seqL, Option.some.injEq] at e
    subst e
    simp only [Rep] at h
    obtain ⟨a, vs, e1, ⟨o, h1⟩ | h1, h2⟩ := h
    · exact ⟨a, vs, e1, .inl (.inr ⟨o, h1.1⟩), h2⟩
    · exact ⟨a, vs, e1, kseqL h1, h2⟩
  · have e' : seqC w.M d = some xs := by
      cases d <;> first | exact e | exact absurd ⟨_, rfl⟩ hs
    obtain ⟨a, vs, e1, h1, h2⟩ := Rep.lstC g h e'
    exact ⟨a, vs, e1, .inl (.inl h1), h2⟩
theorem Rep.now (g : WOk G w) {d : D} {v : V} (h : Rep G w d v) : ∃ q, Ev.now w.M d = q ∧ (q = d ∨ ∃ xs, q = .lst xs ∧ seqL w.M d = some xs) := by
  refine ⟨_, rfl, ?_⟩
  unfold Ev.now
  cases e : seqL w.M d with
  | none => exact .inl rfl
  | some xs => exact .inr ⟨xs, rfl, rfl⟩
/-- new objects -/
theorem rep_tup (g : WOk G w) {p : Addr} {ds : List D} {vs : List V} (hp : w.H p = none) (h : RepL G w ds vs) : Rep G { w with H := upd w.H p (.tup vs) } (.tup ds) (.ref p) := by
  simp only [Rep]
  exact ⟨p, vs, rfl, .inl (sat_new g hp), RepL.ext (ext_new g hp) _ _ h⟩
theorem rep_lst (g : WOk G w) {p : Addr} {ds : List D} {vs : List V} (hp : w.H p = none) (h : RepL G w ds vs) : Rep G { w with H := upd w.H p (.lst vs) } (.lst ds) (.ref p) := by
  simp only [Rep]
  exact ⟨p, vs, rfl, sat_new g hp, RepL.ext (ext_new g hp) _ _ h⟩
mutual
theorem Rep.dp : ∀ (d : D) (v : V) (p : PyData), Rep G w d v → toPd d = some p → Dp G.K w.H v p
  | .non, v, p, h, e => by simp only [Rep] at h; simp only [toPd, Option.some.injEq] at e; subst h e; exact .non
  | .bl b, v, p, h, e => by simp only [Rep] at h; simp only [toPd, Option.some.injEq] at e; subst h e; exact .bl b
  | .int i, v, p, h, e => by simp only [Rep] at h; simp only [toPd, Option.some.injEq] at e; subst h e; exact .int i
  | .str s, v, p, h, e => by simp only [Rep] at h; simp only [toPd, Option.some.injEq] at e; subst h e; exact .str s
  | .tup xs, v, p, h, e => by
    obtain ⟨a, vs, rfl, h1, h2⟩ := Rep.tup h
    simp only [toPd, Option.map_eq_some_iff] at e
    obtain ⟨ps, e1, rfl⟩ := e
    exact .tup h1 (RepL.dp xs vs ps h2 e1)
  | .lst xs, v, p, h, e => by
    simp only [Rep] at h
    obtain ⟨a, vs, rfl, h1, h2⟩ := h
    simp only [toPd, Option.map_eq_some_iff] at e
    obtain ⟨ps, e1, rfl⟩ := e
    exact .lst (.inl (.inl h1.1)) (RepL.dp xs vs ps h2 e1)
  | .scr xs, v, p, h, e => by
    simp only [Rep] at h
    simp only [toPd, Option.map_eq_some_iff] at e
    obtain ⟨ps, e1, rfl⟩ := e
    obtain ⟨a, vs, rfl, ⟨o, h1⟩ | h1, h2⟩ := h
    · exact .lst (.inl (.inr ⟨o, h1.1⟩)) (RepL.dp xs vs ps h2 e1)
    · exact .lst (kseqL h1) (RepL.dp xs vs ps h2 e1)
  | .ins _ _, v, p, h, e => by simp [toPd] at e
  | .cell _, v, p, h, e => by simp [toPd] at e
theorem RepL.dp : ∀ (ds : List D) (vs : List V) (ps : List PyData), RepL G w ds vs → toPds ds = some ps → DpAll G.K w.H vs ps
  | [], vs, ps, h, e => by simp only [RepL] at h; simp only [toPds, Option.some.injEq] at e; subst h e; exact .nil
  | d :: ds, vs, ps, h, e => by
    simp only [RepL] at h
    obtain ⟨v, r, rfl, h1, h2⟩ := h
    simp only [toPds] at e
    split at e
    · rename_i p qs e1 e2
      cases e
      exact .cons (Rep.dp d v p h1 e1) (RepL.dp ds r qs h2 e2)
    · cases e
end
theorem Rep.dpNow (g : WOk G w) {d : D} {v : V} {p : PyData} (h : Rep G w d v) (e : toPd (Ev.now w.M d) = some p) : Dp G.K w.H v p := by
  obtain ⟨q, e1, e2 | ⟨xs, e2, e3⟩⟩ := Rep.now g h
  · rw [e1, e2] at e
    exact Rep.dp d v p h e
  · rw [e1, e2] at e
    obtain ⟨a, vs, rfl, h1, h2⟩ := Rep.lst g h e3
    simp only [toPd, Option.map_eq_some_iff] at e
    obtain ⟨ps, e4, rfl⟩ := e
    exact .lst h1 (RepL.dp xs vs ps h2 e4)
theorem RepL.nil_iff {xs : List D} {vs : List V} (h : RepL G w xs vs) : xs = [] ↔ vs = [] := by
  cases xs with
  | nil => simp only [RepL] at h; simp [h]
  | cons d ds =>
    simp only [RepL] at h
    obtain ⟨v, r, rfl, _⟩ := h
    simp
end

/-! ### readings by data -/
def Gives (G : Gb) (w : Wd) (z : D) (Q : VK) : Prop := ∀ w' v, Ext w w' → WOk G w' → w'.M = w.M → Rep G w' z v → Q v w'.H
section
variable {G : Gb} {w : Wd} {Q : VK}
theorem Gives.same {z : D} {v : V} (h : Gives G w z Q) (g : WOk G w) (r : Rep G w z v) : Q v w.H := h w v (Ext.refl w) g rfl r
theorem Gives.tup {ds : List D} {vs : List V} (h : Gives G w (.tup ds) Q) (g : WOk G w) (r : RepL G w ds vs) : ∀ p, w.H p = none → Q (.ref p) (upd w.H p (.tup vs)) :=
  fun p hp => h { w with H := upd w.H p (.tup vs) } (.ref p) (ext_new g hp) (wok_new g hp) rfl (rep_tup g hp r)
theorem Gives.lst {ds : List D} {vs : List V} (h : Gives G w (.lst ds) Q) (g : WOk G w) (r : RepL G w ds vs) : ∀ p, w.H p = none → Q (.ref p) (upd w.H p (.lst vs)) :=
  fun p hp => h { w with H := upd w.H p (.lst vs) } (.ref p) (ext_new g hp) (wok_new g hp) rfl (rep_lst g hp r)
end
def rOp (G : Gb) (f : D → D → Mem → Option D) : R2 := fun x y H Q => ∃ w d e z, w.H = H ∧ WOk G w ∧ Rep G w d x ∧ Rep G w e y ∧ f d e w.M = some z ∧ Gives G w z Q
def rCall (G : Gb) (f : List D → Mem → Option D) : List V → Hp → VK → Prop := fun xs H Q => ∃ w ds z, w.H = H ∧ WOk G w ∧ RepL G w ds xs ∧ f ds w.M = some z ∧ Gives G w z Q
def toOp : BO → Operator
  | .add => .Add | .sub => .Sub | .mul => .Mult | .fdiv => .FloorDiv | .mod => .Mod | .pow => .Pow
def toCmp : CO → CmpOp
  | .eq => .Eq | .ne => .NotEq | .lt => .Lt | .le => .LtE | .gt => .Gt | .ge => .GtE | .is => .Is | .isn => .IsNot | .inn => .In | .nin => .NotIn
section
variable {X : Cx} {G : Gb}
theorem mulOk_ok {i j : Int} (h : mulOk i j = true) : CMul i j ∨ CMulW i j := by
  unfold mulOk at h
  rcases of_decide_eq_true h with z | z | z
  · exact .inl (.inl z)
  · exact .inl (.inr z)
  · exact .inr z
theorem rep_int {w : Wd} {i : Int} : Rep G w (.int i) (.int i) := by simp only [Rep]
theorem rep_bl {w : Wd} {b : Bool} : Rep G w (.bl b) (.bl b) := by simp only [Rep]
theorem rep_str {w : Wd} {s : Str} : Rep G w (.str s) (.str s) := by simp only [Rep]
theorem rep_non {w : Wd} : Rep G w .non .non := by simp only [Rep]
theorem op_binI (o : BO) {i j k : Int} (h : binI o i j = some k) {pins : List (Addr × Obj)} {s : Shared} {σ : L2.St} {H : Hp} {v u : Value} {Q : VK} (I : Inv X pins σ H s) (rx : RelV (.int i) v) (ry : RelV (.int j) u) (q : Q (.int k) H) :
    wpAny (model X.prog X.w) X.A (binaryOp (toOp o) v u) (EP X pins σ Q) X.xe s := by
  cases o with
  | add =>
    simp only [binI, Option.some.injEq] at h; subst h
    exact op_add pins s σ H _ _ v u Q I rx ry ⟨i, j, rfl, rfl, q⟩
  | sub =>
    simp only [binI, Option.some.injEq] at h; subst h
    exact op_sub pins s σ H _ _ v u Q I rx ry ⟨i, j, rfl, rfl, q⟩
  | mul =>
    simp only [binI] at h
    split at h
    · rename_i hm
      cases h
      rcases mulOk_ok hm with z | z
      · exact op_mul pins s σ H _ _ v u Q I rx ry ⟨i, j, rfl, rfl, z, q⟩
      · exact op_mulW pins s σ H _ _ v u Q I rx ry ⟨i, j, rfl, rfl, z, q⟩
    · cases h
  | fdiv =>
    simp only [binI] at h
    split at h
    · rename_i hm
      cases h
      exact op_fdivW pins s σ H _ _ v u Q I rx ry ⟨i, j, rfl, rfl, hm, q⟩
    · cases h
  | mod =>
    simp only [binI] at h
    split at h
    · rename_i hm
      cases h
      exact op_mod pins s σ H _ _ v u Q I rx ry ⟨i, j, rfl, rfl, hm, q⟩
    · cases h
  | pow =>
    simp only [binI] at h
    split at h
    · rename_i hm
      cases h
      exact op_pow pins s σ H _ _ v u Q I rx ry ⟨i, j, rfl, rfl, hm, q⟩
    · cases h
theorem op_bin (hK : X.K = G.K) (o : BO) : OpR X (binaryOp (toOp o)) (rOp G (evBin o)) := by
  intro pins s σ H x y v u Q I rx ry h
  obtain ⟨w, d, e, z, rfl, g, r1, r2, hz, q⟩ := h
  have other : ∀ {d e : D}, (if o = .add then match seqC w.M d, seqC w.M e with
      | some xs, some ys => if xs.length + ys.length ≤ sizeLine then some (D.lst (xs ++ ys)) else none
      | _, _ => none else none) = some z → Rep G w d x → Rep G w e y → wpAny (model X.prog X.w) X.A (binaryOp (toOp o) v u) (EP X pins σ Q) X.xe s := by
    intro d e hq r1 r2
    split at hq
    · rename_i ho
      subst ho
      split at hq
      · rename_i xs ys e1 e2
        split at hq
        · rename_i hl
          cases hq
          obtain ⟨a, vs, rfl, h1, h2⟩ := Rep.lstC g r1 e1
          obtain ⟨b, us, rfl, h3, h4⟩ := Rep.lstC g r2 e2
          exact op_cat pins s σ w.H _ _ v u Q I rx ry ⟨a, b, vs, us, rfl, rfl, h1, h3, by rw [← h2.length, ← h4.length]; exact hl, q.lst g (h2.append h4)⟩
        · cases hq
      · cases hq
    · cases hq
  unfold evBin at hz
  split at hz
  · rename_i i j
    simp only [Rep] at r1 r2
    subst r1 r2
    obtain ⟨k, hk, rfl⟩ := Option.map_eq_some_iff.mp hz
    exact op_binI o hk I rx ry (q.same g rep_int)
  · rename_i a b
    simp only [Rep] at r1 r2
    subst r1 r2
    split at hz
    · rename_i hc
      cases hz
      obtain ⟨rfl, hl⟩ := hc
      exact op_add_str pins s σ w.H _ _ v u Q I rx ry ⟨a, b, rfl, rfl, hl, q.same g rep_str⟩
    · cases hz
  · rename_i xs ys
    split at hz
    · rename_i hc
      cases hz
      obtain ⟨rfl, hx, hy, hl⟩ := hc
      obtain ⟨a, vs, rfl, h1, h2⟩ := Rep.tup r1
      obtain ⟨b, us, rfl, h3, h4⟩ := Rep.tup r2
      rw [← hK] at h1 h3
      exact op_catT pins s σ w.H _ _ v u Q I rx ry ⟨a, b, vs, us, rfl, rfl, h1, h3, fun z => hx (h2.nil_iff.mpr z), by rw [← h2.length, ← h4.length]; exact hl, fun z => absurd (h4.nil_iff.mpr z) hy, fun _ => q.tup g (h2.append h4)⟩
    · cases hz
  · exact other hz r1 r2
end
end Ev
/-! Ev3: comparisons, places, cuts, built-in calls and methods over data. -/
namespace Ev
open PySem L2
section
variable {X : Cx} {G : Gb}
theorem rep_same {w : Wd} {d : D} {v : V} (h : Rep G w d v) : (d = .non ↔ v = .non) := by
  cases d with
  | non => simp only [Rep] at h; simp [h]
  | bl _ => simp only [Rep] at h; simp [h]
  | int _ => simp only [Rep] at h; simp [h]
  | str _ => simp only [Rep] at h; simp [h]
  | tup _ => simp only [Rep] at h; obtain ⟨a, vs, rfl, _⟩ := h; simp
  | lst _ => simp only [Rep] at h; obtain ⟨a, vs, rfl, _⟩ := h; simp
  | scr _ => simp only [Rep] at h; obtain ⟨a, vs, rfl, _⟩ := h; simp
  | ins _ _ => simp only [Rep] at h; obtain ⟨a, vs, _, rfl, _⟩ := h; simp
  | cell _ => simp only [Rep] at h; obtain ⟨a, rfl, _⟩ := h; simp
theorem is_notbool {M : Model} {A : Around} {E : Value → Shared → Prop} {s : Shared} {Q : Value → Shared → Prop} {v : Value} {b : Bool} (hv : ∀ c, v ≠ .bool c) (hb : ∀ i, v ≠ .builtin i) (h : Q (.bool false) s) : wpAny M A (compareOp .Is v (.bool b)) Q E s := by
  cases v <;> first
    | exact absurd rfl (hv _)
    | exact absurd rfl (hb _)
    | exact wpAny_pure h
theorem isnot_notbool {M : Model} {A : Around} {E : Value → Shared → Prop} {s : Shared} {Q : Value → Shared → Prop} {v : Value} {b : Bool} (hv : ∀ c, v ≠ .bool c) (hb : ∀ i, v ≠ .builtin i) (h : Q (.bool true) s) : wpAny M A (compareOp .IsNot v (.bool b)) Q E s := by
  cases v <;> first
    | exact absurd rfl (hv _)
    | exact absurd rfl (hb _)
    | exact wpAny_pure h
theorem relV_notbool {w : Wd} {d : D} {x : V} {v : Value} (h : Rep G w d x) (r : RelV x v) (nb : ∀ b, d ≠ .bl b) : ∀ c, v ≠ .bool c := by
  intro c e
  subst e
  cases x with
  | bl b =>
    cases d with
    | bl b' => exact nb _ rfl
    | tup _ => simp only [Rep] at h; obtain ⟨a, vs, e, _⟩ := h; cases e
    | lst _ => simp only [Rep] at h; obtain ⟨a, vs, e, _⟩ := h; cases e
    | scr _ => simp only [Rep] at h; obtain ⟨a, vs, e, _⟩ := h; cases e
    | ins _ _ => simp only [Rep] at h; obtain ⟨a, vs, _, e, _⟩ := h; cases e
    | cell _ => simp only [Rep] at h; obtain ⟨a, e, _⟩ := h; cases e
    | _ => simp only [Rep] at h; cases h
  | non => cases r
  | int _ => obtain ⟨t, e⟩ := r; cases e
  | str _ => obtain ⟨t, e⟩ := r; cases e
  | byt _ => obtain ⟨t, e⟩ := r; cases e
  | flt _ => obtain ⟨t, e⟩ := r; cases e
  | ref _ => cases r
  | ty _ => cases r
theorem relV_notblt {x : V} {v : Value} (r : RelV x v) : ∀ i, v ≠ .builtin i := by
  intro c e
  subst e
  cases x with
  | bl _ => cases r
  | non => cases r
  | int _ => obtain ⟨t, e⟩ := r; cases e
  | str _ => obtain ⟨t, e⟩ := r; cases e
  | byt _ => obtain ⟨t, e⟩ := r; cases e
  | flt _ => obtain ⟨t, e⟩ := r; cases e
  | ref _ => cases r
  | ty _ => cases r
theorem op_isD {neg : Bool} {pins : List (Addr × Obj)} {s : Shared} {σ : L2.St} {w : Wd} {x y : V} {v u : Value} {Q : VK} {d e : D} {b : Bool} (I : Inv X pins σ w.H s) (rx : RelV x v) (ry : RelV y u) (r1 : Rep G w d x) (r2 : Rep G w e y) (h : isD d e = some b) (q : Q (.bl (if neg then !b else b)) w.H) :
    wpAny (model X.prog X.w) X.A (compareOp (if neg then .IsNot else .Is) v u) (EP X pins σ Q) X.xe s := by
  have toN : e = .non → b = decide (x = .non) → wpAny (model X.prog X.w) X.A (compareOp (if neg then .IsNot else .Is) v u) (EP X pins σ Q) X.xe s := fun he hb => by
    subst he hb
    simp only [Rep] at r2
    subst r2
    cases neg
    · exact op_isN pins s σ w.H _ _ v u Q I rx ry ⟨rfl, q⟩
    · exact op_notN pins s σ w.H _ _ v u Q I rx ry ⟨rfl, q⟩
  have toB : ∀ c, e = .bl c → (∀ b, d ≠ .bl b) → b = false → wpAny (model X.prog X.w) X.A (compareOp (if neg then .IsNot else .Is) v u) (EP X pins σ Q) X.xe s := fun c he hd hb => by
    subst he hb
    simp only [Rep] at r2
    subst r2
    cases ry
    have nb := relV_notbool r1 rx hd
    cases neg
    · exact is_notbool nb (relV_notblt rx) ⟨.bl _, _, I, rfl, q⟩
    · exact isnot_notbool nb (relV_notblt rx) ⟨.bl _, _, I, rfl, q⟩
  unfold isD at h
  split at h
  · rename_i a c
    simp only [Rep] at r1 r2
    subst r1 r2
    cases rx
    cases ry
    cases h
    cases neg
    · exact PyProof.Rows.is_bool ⟨.bl _, _, I, rfl, q⟩
    · exact PyProof.Rows.isnot_bool ⟨.bl _, _, I, rfl, q⟩
  · cases h
    exact toN rfl (by rw [decide_eq_true ((rep_same r1).mp rfl)])
  · cases h
    rename_i hx
    exact toN rfl (by rw [decide_eq_false fun z => hx ((rep_same r1).mpr z)])
  all_goals first
    | (cases h; exact toB _ rfl (by intro b z; cases z) rfl)
    | cases h
theorem cmpI_ok (o : CO) {i j : Int} {b : Bool} (h : cmpI o i j = some b) {pins : List (Addr × Obj)} {s : Shared} {σ : L2.St} {H : Hp} {v u : Value} {Q : VK} (I : Inv X pins σ H s) (rx : RelV (.int i) v) (ry : RelV (.int j) u) (q : Q (.bl b) H) :
    wpAny (model X.prog X.w) X.A (compareOp (toCmp o) v u) (EP X pins σ Q) X.xe s := by
  cases o with
  | lt => simp only [cmpI, Option.some.injEq] at h; subst h; exact op_lt pins s σ H _ _ v u Q I rx ry ⟨i, j, rfl, rfl, q⟩
  | le => simp only [cmpI, Option.some.injEq] at h; subst h; exact op_le pins s σ H _ _ v u Q I rx ry ⟨i, j, rfl, rfl, q⟩
  | gt => simp only [cmpI, Option.some.injEq] at h; subst h; exact op_gt pins s σ H _ _ v u Q I rx ry ⟨i, j, rfl, rfl, q⟩
  | ge => simp only [cmpI, Option.some.injEq] at h; subst h; exact op_ge pins s σ H _ _ v u Q I rx ry ⟨i, j, rfl, rfl, q⟩
  | _ => simp [cmpI] at h
theorem eqD_ok {w : Wd} {d e : D} {b : Bool} (h : eqD w.M d e = some b) : ∃ p q, toPd (now w.M d) = some p ∧ toPd (now w.M e) = some q ∧ SeqAt.shaped p = true ∧ SeqAt.shaped q = true ∧ b = PyData.eqv p q := by
  unfold eqD at h
  split at h
  · rename_i p q e1 e2
    split at h
    · rename_i hs
      simp only [Bool.and_eq_true, shapedB] at hs
      cases h
      exact ⟨p, q, e1, e2, hs.1, hs.2, rfl⟩
    · cases h
  · cases h
theorem eqM_or {M : Mem} {d e : D} {b : Bool} (h : eqM M d e = some b) : (∃ s t, d = .str s ∧ e = .str t ∧ b = decide (s = t)) ∨ (∃ s t, d = .int s ∧ e = .int t ∧ b = decide (s = t)) ∨ eqD M d e = some b := by
  unfold eqM at h
  split at h
  · exact .inl ⟨_, _, rfl, rfl, (Option.some.inj h).symm⟩
  · exact .inr (.inl ⟨_, _, rfl, rfl, (Option.some.inj h).symm⟩)
  · exact .inr (.inr h)
theorem dec_str' {s t : Str} : decide (V.str s = V.str t) = decide (s = t) := decide_eq_decide.mpr (by simp)
theorem dec_int' {s t : Int} : decide (V.int s = V.int t) = decide (s = t) := decide_eq_decide.mpr (by simp)
theorem inD_ok {w : Wd} {d e : D} {b : Bool} (h : inD w.M d e = some b) : ∃ p qs, toPd (now w.M d) = some p ∧ toPd (now w.M e) = some (.list qs) ∧ SeqAt.shaped p = true ∧ SeqAt.shaped (.list qs) = true ∧ b = qs.any fun z => PyData.eqv z p := by
  unfold inD at h
  split at h
  · rename_i p q e1 e2
    split at h
    · rename_i hs
      simp only [Bool.and_eq_true, shapedB] at hs
      cases h
      exact ⟨p, q, e1, e2, hs.1, hs.2, rfl⟩
    · cases h
  · cases h
theorem op_cmp (hK : X.K = G.K) (hu : X.A.units + 65 < cLine) (o : CO) : OpR X (compareOp (toCmp o)) (rOp G fun x y M => (cmpD o M x y).map .bl) := by
  intro pins s σ H x y v u Q I rx ry h
  obtain ⟨w, d, e, z, rfl, g, r1, r2, hz, q⟩ := h
  obtain ⟨b, hb, rfl⟩ := Option.map_eq_some_iff.mp hz
  have q := q.same g rep_bl
  have hu' : X.A.units + 64 < cLine := by omega
  have ord : ordD o d e = some b → wpAny (model X.prog X.w) X.A (compareOp (toCmp o) v u) (EP X pins σ Q) X.xe s := fun h => by
    unfold ordD at h
    split at h
    · rename_i i j
      simp only [Rep] at r1 r2
      subst r1 r2
      exact cmpI_ok o h I rx ry q
    · cases h
  cases o with
  | eq =>
    rcases eqM_or hb with ⟨s, t, rfl, rfl, rfl⟩ | ⟨s, t, rfl, rfl, rfl⟩ | hb
    · simp only [Rep] at r1 r2
      subst r1 r2
      exact op_eq pins _ σ w.H _ _ v u Q I rx ry ⟨rfl, by rw [dec_str'] ; exact q⟩
    · simp only [Rep] at r1 r2
      subst r1 r2
      exact op_eq pins _ σ w.H _ _ v u Q I rx ry ⟨rfl, by rw [dec_int'] ; exact q⟩
    obtain ⟨p, p2, e1, e2, s1, s2, rfl⟩ := eqD_ok (w := w) hb
    exact op_eqD hu' pins s σ w.H x y v u Q I rx ry ⟨p, p2, by rw [hK]; exact Rep.dpNow g r1 e1, by rw [hK]; exact Rep.dpNow g r2 e2, s1, s2, q⟩
  | ne =>
    obtain ⟨c, hc, rfl⟩ := Option.map_eq_some_iff.mp hb
    rcases eqM_or hc with ⟨s, t, rfl, rfl, rfl⟩ | ⟨s, t, rfl, rfl, rfl⟩ | hc
    · simp only [Rep] at r1 r2
      subst r1 r2
      exact op_ne pins _ σ w.H _ _ v u Q I rx ry ⟨rfl, by rw [dec_str'] ; exact q⟩
    · simp only [Rep] at r1 r2
      subst r1 r2
      exact op_ne pins _ σ w.H _ _ v u Q I rx ry ⟨rfl, by rw [dec_int'] ; exact q⟩
    obtain ⟨p, p2, e1, e2, s1, s2, rfl⟩ := eqD_ok (w := w) hc
    exact op_neD hu' pins s σ w.H x y v u Q I rx ry ⟨p, p2, by rw [hK]; exact Rep.dpNow g r1 e1, by rw [hK]; exact Rep.dpNow g r2 e2, s1, s2, q⟩
  | inn =>
    obtain ⟨p, p2, e1, e2, s1, s2, rfl⟩ := inD_ok (w := w) hb
    exact op_inD hu pins s σ w.H x y v u Q I rx ry ⟨p, p2, by rw [hK]; exact Rep.dpNow g r1 e1, by rw [hK]; exact Rep.dpNow g r2 e2, s1, s2, q⟩
  | nin =>
    obtain ⟨c, hc, rfl⟩ := Option.map_eq_some_iff.mp hb
    obtain ⟨p, p2, e1, e2, s1, s2, rfl⟩ := inD_ok (w := w) hc
    exact op_notInD hu pins s σ w.H x y v u Q I rx ry ⟨p, p2, by rw [hK]; exact Rep.dpNow g r1 e1, by rw [hK]; exact Rep.dpNow g r2 e2, s1, s2, q⟩
  | is => exact op_isD (neg := false) I rx ry r1 r2 hb q
  | isn =>
    obtain ⟨c, hc, rfl⟩ := Option.map_eq_some_iff.mp hb
    exact op_isD (neg := true) I rx ry r1 r2 hc q
  | lt => exact ord hb
  | le => exact ord hb
  | gt => exact ord hb
  | ge => exact ord hb

/-! ### places and cuts -/
theorem atI_rep {w : Wd} {xs : List D} {vs : List V} {i : Int} {z : D} (h : RepL G w xs vs) (e : atI xs i = some z) : ∃ v, atI vs i = some v ∧ Rep G w z v := by
  unfold atI at e ⊢
  rw [← h.length]
  cases k : ixN xs.length i with
  | none => rw [k] at e; cases e
  | some j =>
    rw [k] at e
    exact h.get e
theorem ix_D (hK : X.K = G.K) : IxR X (rOp G fun x y M => ixD M x y) := by
  intro value slice pins s σ H x y v u Q I rx ry h hs
  obtain ⟨w, d, e, z, rfl, g, r1, r2, hz, q⟩ := h
  simp only [ixD] at hz
  split at hz
  · rename_i i
    simp only [Rep] at r2
    subst r2
    split at hz
    · rename_i xs hx
      by_cases ht : ∃ ys, d = .tup ys
      · obtain ⟨ys, rfl⟩ := ht
        simp only [seqA, Option.some.injEq] at hx
        subst hx
        obtain ⟨a, vs, rfl, h1, h2⟩ := Rep.tup r1
        obtain ⟨v2, h3, h4⟩ := atI_rep h2 hz
        exact ix_tup value slice pins s σ w.H _ _ v u Q I rx ry ⟨a, vs, i, v2, rfl, rfl, by rw [hK]; exact h1, h3, q.same g h4⟩ hs
      · have hx' : seqL w.M d = some xs := by
          cases d <;> first | exact hx | exact absurd ⟨_, rfl⟩ ht
        obtain ⟨a, vs, rfl, h1, h2⟩ := Rep.lst g r1 hx'
        obtain ⟨v2, h3, h4⟩ := atI_rep h2 hz
        exact ix_list value slice pins s σ w.H _ _ v u Q I rx ry ⟨a, vs, i, v2, rfl, rfl, by rw [hK]; exact h1, h3, q.same g h4⟩ hs
    · cases hz
  · cases hz
theorem cut_rep {w : Wd} {xs : List D} {vs : List V} (h : RepL G w xs vs) (lo hi : Option Int) : RepL G w (cutD xs lo hi) (cutV vs lo hi) := by
  unfold cutD cutV
  rw [h.length]
  exact (h.drop _).take _
def rSlD (G : Gb) : V → Option Int → Option Int → Hp → VK → Prop := fun x lo hi H Q => ∃ w d z, w.H = H ∧ WOk G w ∧ Rep G w d x ∧ slcD w.M d lo hi = some z ∧ Gives G w z Q
theorem sl_D (hK : X.K = G.K) : SlR X (rSlD G) := by
  intro pins s σ H x v vl vu lo hi sl Q I rx hs pl pu h
  obtain ⟨w, d, z, rfl, g, r1, hz, q⟩ := h
  simp only [slcD] at hz
  split at hz
  · rename_i xs
    split at hz
    · cases hz
    · rename_i hn
      cases hz
      obtain ⟨a, vs, rfl, h1, h2⟩ := Rep.tup r1
      refine sl_tup pins s σ w.H _ v vl vu lo hi sl Q I rx hs pl pu ⟨a, vs, rfl, by rw [hK]; exact h1, by rw [← h2.length]; exact hn, q.tup g (cut_rep h2 lo hi)⟩
  · obtain ⟨xs, hx, rfl⟩ := Option.map_eq_some_iff.mp hz
    obtain ⟨a, vs, rfl, h1, h2⟩ := Rep.lst g r1 hx
    exact sl_list pins s σ w.H _ v vl vu lo hi sl Q I rx hs pl pu ⟨a, vs, rfl, by rw [hK]; exact h1, q.lst g (cut_rep h2 lo hi)⟩

/-! ### truth -/
theorem tru_D (hK : X.K = G.K) {w : Wd} {d : D} {x : V} {b : Bool} (g : WOk G w) (r : Rep G w d x) (h : truth w.M d = some b) : TruV X.K x w.H b := by
  have lst : ∀ xs, seqL w.M d = some xs → b = !xs.isEmpty → TruV X.K x w.H b := fun xs hx hb => by
    obtain ⟨a, vs, rfl, h1, h2⟩ := Rep.lst g r hx
    refine .inl ⟨vs, by rw [hK]; exact h1, ?_⟩
    rw [hb]
    have := h2.nil_iff
    cases xs <;> cases vs <;> simp_all
  cases d with
  | non => simp only [Rep] at r; subst r; simp only [truth, Option.some.injEq] at h; exact h.symm
  | bl c => simp only [Rep] at r; subst r; simp only [truth, Option.some.injEq] at h; exact h.symm
  | int i => simp only [Rep] at r; subst r; simp only [truth, Option.some.injEq] at h; exact h.symm
  | str z =>
    simp only [Rep] at r; subst r
    simp only [truth] at h
    split at h
    · rename_i hl
      cases h
      refine ⟨hl, ?_⟩
      cases hz : z.length with
      | zero => rfl
      | succ n =>
        have e1 : (((n + 1 : Nat) : Int) != 0) = true := by simp; omega
        rw [e1]
        rfl
    · cases h
  | tup xs =>
    obtain ⟨a, vs, rfl, h1, h2⟩ := Rep.tup r
    simp only [truth, Option.some.injEq] at h
    refine .inr (.inl ⟨vs, by rw [hK]; exact h1, ?_⟩)
    rw [← h]
    have := h2.nil_iff
    cases xs <;> cases vs <;> simp_all
  | lst xs => exact lst xs rfl (by simpa [truth, seqL] using h.symm)
  | scr xs => exact lst xs rfl (by simpa [truth, seqL] using h.symm)
  | ins _ _ => simp [truth] at h
  | cell i =>
    simp only [truth] at h
    obtain ⟨xs, hx, e⟩ := Option.map_eq_some_iff.mp h
    exact lst xs hx e.symm
end
end Ev
/-! Ev4: built-in calls and methods over data. -/
namespace Ev
open PySem L2
section
variable {X : Cx} {G : Gb}
mutual
theorem noDict : ∀ (d : D) (p : PyData), toPd d = some p → p.hasDict = false
  | .non, p, e => by simp only [toPd, Option.some.injEq] at e; subst e; simp only [PyData.hasDict]
  | .bl b, p, e => by simp only [toPd, Option.some.injEq] at e; subst e; simp only [PyData.hasDict]
  | .int i, p, e => by simp only [toPd, Option.some.injEq] at e; subst e; simp only [PyData.hasDict]
  | .str s, p, e => by simp only [toPd, Option.some.injEq] at e; subst e; simp only [PyData.hasDict]
  | .tup xs, p, e => by
    simp only [toPd, Option.map_eq_some_iff] at e
    obtain ⟨ps, e1, rfl⟩ := e
    simp only [PyData.hasDict]
    exact noDicts xs ps e1
  | .lst xs, p, e => by
    simp only [toPd, Option.map_eq_some_iff] at e
    obtain ⟨ps, e1, rfl⟩ := e
    simp only [PyData.hasDict]
    exact noDicts xs ps e1
  | .scr xs, p, e => by
    simp only [toPd, Option.map_eq_some_iff] at e
    obtain ⟨ps, e1, rfl⟩ := e
    simp only [PyData.hasDict]
    exact noDicts xs ps e1
  | .ins _ _, p, e => by simp [toPd] at e
  | .cell _, p, e => by simp [toPd] at e
theorem noDicts : ∀ (ds : List D) (ps : List PyData), toPds ds = some ps → PyData.hasDictAll ps = false
  | [], ps, e => by simp only [toPds, Option.some.injEq] at e; subst e; simp only [PyData.hasDictAll]
  | d :: ds, ps, e => by
    simp only [toPds] at e
    split at e
    · rename_i p qs e1 e2
      cases e
      simp only [PyData.hasDictAll, noDict d p e1, noDicts ds qs e2, Bool.or_false]
    · cases e
end
theorem noDict_now {M : Mem} {d : D} {p : PyData} (e : toPd (now M d) = some p) : p.hasDict = false := noDict _ _ e
theorem rep1 {w : Wd} {d : D} {xs : List V} (h : RepL G w [d] xs) : ∃ v, xs = [v] ∧ Rep G w d v := by
  simp only [RepL] at h
  obtain ⟨v, r, rfl, h1, rfl⟩ := h
  exact ⟨v, rfl, h1⟩

def biVal : Bi → Value
  | .int => .type "int" | .len => .builtin "len" | .abs => .builtin "abs" | .repr => .builtin "repr" | .str => .type "str" | .tuple => .type "tuple" | .list => .type "list"

theorem call_repr (hK : X.K = G.K) (hu : X.A.units + 100 < cLine) (hg : X.A.guards = some []) {pins : List (Addr × Obj)} {s : Shared} {σ : L2.St} {w : Wd} {v : V} {u : Value} {Q : VK} {d : D} {p : PyData} (I : Inv X pins σ w.H s) (g : WOk G w) (r : Rep G w d v) (ru : RelV v u)
    (e : toPd (now w.M d) = some p) (hs : p.showable = true) (hd : p.depth ≤ 40) (hz : p.shown.length ≤ sizeLine) (q : Q (.str p.shown) w.H) : wpAny (model X.prog X.w) X.A (call (.builtin "repr") [u]) (EP X pins σ Q) X.xe s := by
  have hp := Rep.dpNow g r e
  rw [← hK] at hp
  obtain ⟨as, rd⟩ := Dp.reads I p v u hp ru
  have nd := noDict_now e
  cases rd with
  | none =>
    have q' : Q (.str "None") w.H := by simpa [PyData.shown] using q
    exact PySem.P.repr_of_none ⟨.str _, w.H, I.tok _, ⟨_, rfl⟩, q'⟩
  | bool b =>
    have q' : Q (.str (if b then "True" else "False")) w.H := by
      cases b <;> simpa [PyData.shown] using q
    exact PySem.P.repr_of_bool ⟨.str _, w.H, I.tok _, ⟨_, rfl⟩, q'⟩
  | int i t =>
    have q' : Q (.str (toString i)) w.H := by simpa [PyData.shown] using q
    have hi : i.natAbs.log2 < 1920 := by simpa [PyData.showable] using hs
    exact PySem.P.repr_of_int hi ⟨.str _, w.H, I.tok _, ⟨_, rfl⟩, q'⟩
  | str x t =>
    have q' : Q (.str (reprText x)) w.H := by simpa [PyData.shown] using q
    exact PySem.P.repr_of_str ⟨.str _, w.H, I.tok _, ⟨_, rfl⟩, q'⟩ (by simpa [PyData.shown] using hz)
  | list h1 h2 h3 h4 =>
    refine PySem.repr_of_reads' (Reads.list h1 h2 h3 h4) hs (PyData.noDict_hsm nd) hg (by omega) (fun _ _ x => x) (fun h' tu tk hk => ?_) hz
    exact ⟨.str _, w.H, I.kept (t' := tk) hk, ⟨_, rfl⟩, q⟩
  | tuple h1 h2 h3 h4 =>
    refine PySem.repr_of_reads' (Reads.tuple h1 h2 h3 h4) hs (PyData.noDict_hsm nd) hg (by omega) (fun _ _ x => x) (fun h' tu tk hk => ?_) hz
    exact ⟨.str _, w.H, I.kept (t' := tk) hk, ⟨_, rfl⟩, q⟩
  | dict _ _ _ _ _ => simp [PyData.hasDict] at nd

theorem call_bi (hK : X.K = G.K) (hu : X.A.units + 100 < cLine) (hg : X.A.guards = some []) (b : Bi) : CallR X (biVal b) (rCall G (evBi b)) := by
  intro pins s σ H xs us Q I r h
  obtain ⟨w, ds, z, rfl, g, rl, hz, q⟩ := h
  unfold evBi at hz
  split at hz
  · obtain ⟨v, rfl, r1⟩ := rep1 rl
    simp only [Rep] at r1; subst r1; cases hz
    exact call_int1 pins s σ w.H _ us Q I r (.inl ⟨_, rfl, q.same g rep_int⟩)
  · obtain ⟨v, rfl, r1⟩ := rep1 rl
    simp only [Rep] at r1; subst r1; cases hz
    exact call_int1 pins s σ w.H _ us Q I r (.inr ⟨_, rfl, q.same g rep_int⟩)
  · obtain ⟨v, rfl, r1⟩ := rep1 rl
    simp only [Rep] at r1; subst r1; cases hz
    exact call_abs pins s σ w.H _ us Q I r ⟨_, rfl, q.same g rep_int⟩
  · rename_i d
    obtain ⟨v, rfl, r1⟩ := rep1 rl
    obtain ⟨ys, hy, rfl⟩ := Option.map_eq_some_iff.mp hz
    by_cases ht : ∃ ys, d = .tup ys
    · obtain ⟨zs, rfl⟩ := ht
      simp only [seqA, Option.some.injEq] at hy
      subst hy
      obtain ⟨a, vs, rfl, h1, h2⟩ := Rep.tup r1
      exact call_len_seq pins s σ w.H _ us Q I r ⟨a, vs, rfl, .inr (by rw [hK]; exact h1), by rw [← h2.length]; exact q.same g rep_int⟩
    · have hy' : seqL w.M d = some ys := by
        cases d <;> first | exact hy | exact absurd ⟨_, rfl⟩ ht
      obtain ⟨a, vs, rfl, h1, h2⟩ := Rep.lst g r1 hy'
      exact call_len_seq pins s σ w.H _ us Q I r ⟨a, vs, rfl, .inl (by rw [hK]; exact h1), by rw [← h2.length]; exact q.same g rep_int⟩
  · rename_i d
    obtain ⟨v, rfl, r1⟩ := rep1 rl
    split at hz
    · rename_i p hp
      split at hz
      · rename_i hc
        cases hz
        obtain ⟨u, rfl, ru⟩ := vals1 r
        exact call_repr hK hu hg I g r1 ru hp hc.1 hc.2.1 hc.2.2 (q.same g rep_str)
      · cases hz
    · cases hz
  · rename_i ys
    obtain ⟨v, rfl, r1⟩ := rep1 rl
    cases hz
    have r1' := r1
    obtain ⟨a, vs, rfl, h1, h2⟩ := Rep.tup r1
    exact call_tuple_of pins s σ w.H _ us Q I r ⟨a, vs, rfl, .inr ⟨by rw [hK]; exact h1, q.same g r1'⟩⟩
  · rename_i d _
    obtain ⟨v, rfl, r1⟩ := rep1 rl
    obtain ⟨ys, hy, rfl⟩ := Option.map_eq_some_iff.mp hz
    obtain ⟨a, vs, rfl, h1, h2⟩ := Rep.lst g r1 hy
    exact call_tuple_of pins s σ w.H _ us Q I r ⟨a, vs, rfl, .inl ⟨by rw [hK]; exact h1, q.tup g h2⟩⟩
  · rename_i d
    obtain ⟨v, rfl, r1⟩ := rep1 rl
    obtain ⟨ys, hy, rfl⟩ := Option.map_eq_some_iff.mp hz
    by_cases ht : ∃ ys, d = .tup ys
    · obtain ⟨zs, rfl⟩ := ht
      simp only [seqA, Option.some.injEq] at hy
      subst hy
      obtain ⟨a, vs, rfl, h1, h2⟩ := Rep.tup r1
      exact call_list_of pins s σ w.H _ us Q I r ⟨a, vs, rfl, .inr (by rw [hK]; exact h1), q.lst g h2⟩
    · have hy' : seqL w.M d = some ys := by
        cases d <;> first | exact hy | exact absurd ⟨_, rfl⟩ ht
      obtain ⟨a, vs, rfl, h1, h2⟩ := Rep.lst g r1 hy'
      exact call_list_of pins s σ w.H _ us Q I r ⟨a, vs, rfl, .inl (by rw [hK]; exact h1), q.lst g h2⟩
  · cases hz

/-! ### isinstance -/
theorem tyx_D {w : Wd} {d : D} {v : V} (g : WOk G w) (r : Rep G w d v) {T : String} {l : List String} (h : tyOf d = some (T, l)) : TyX G.K w.H v (.type T) := by
  cases d with
  | non => simp only [Rep] at r; subst r; simp only [tyOf, Option.some.injEq, Prod.mk.injEq] at h; rw [← h.1]; exact .base .non
  | bl _ => simp only [Rep] at r; subst r; simp only [tyOf, Option.some.injEq, Prod.mk.injEq] at h; rw [← h.1]; exact .base (.bl _)
  | int _ => simp only [Rep] at r; subst r; simp only [tyOf, Option.some.injEq, Prod.mk.injEq] at h; rw [← h.1]; exact .base (.int _)
  | str _ => simp only [Rep] at r; subst r; simp only [tyOf, Option.some.injEq, Prod.mk.injEq] at h; rw [← h.1]; exact .base (.str _)
  | tup xs =>
    simp only [Rep] at r; simp only [tyOf, Option.some.injEq, Prod.mk.injEq] at h; rw [← h.1]
    obtain ⟨a, vs, rfl, h1 | ⟨o, its, n, h1, h2, _⟩, _⟩ := r
    · exact .base (.tup h1.1)
    · exact .kTuple h1 h2
  | lst xs =>
    simp only [Rep] at r; simp only [tyOf, Option.some.injEq, Prod.mk.injEq] at h; rw [← h.1]
    obtain ⟨a, vs, rfl, h1, _⟩ := r
    exact .base (.lst h1.1)
  | scr xs =>
    simp only [Rep] at r; simp only [tyOf, Option.some.injEq, Prod.mk.injEq] at h; rw [← h.1]
    obtain ⟨a, vs, rfl, ⟨o, h1⟩ | ⟨o, its, n, h1, h2, _⟩, _⟩ := r
    · exact .base (.frz h1.1)
    · exact .kList h1 h2
  | ins _ _ => simp [tyOf] at h
  | cell _ => simp [tyOf] at h
theorem kit_all : (["NoneType", "bool", "int", "str", "tuple", "list"].all fun a => tyAsk.all fun b => kitB a b == some ((match a with | "NoneType" => ["NoneType"] | "bool" => ["bool", "int"] | "int" => ["int"] | "str" => ["str"] | "tuple" => ["tuple"] | _ => ["list"]).contains b)) = true := by decide +kernel
theorem kit_D {d : D} {T t : String} {l : List String} (h : tyOf d = some (T, l)) (ht : tyAsk.contains t = true) : kitB T t = some (l.contains t) := by
  have k := kit_all
  simp only [List.all_cons, List.all_nil, Bool.and_eq_true, Bool.and_true] at k
  obtain ⟨k1, k2, k3, k4, k5, k6⟩ := k
  have hm : t ∈ tyAsk := by simpa using ht
  have use : ∀ {a : String} {m : List String}, (tyAsk.all fun b => kitB a b == some (m.contains b)) = true → kitB a t = some (m.contains t) := fun h => by
    have := List.all_eq_true.mp h t hm
    simpa using this
  cases d with
  | non => simp only [tyOf, Option.some.injEq, Prod.mk.injEq] at h; rw [← h.1, ← h.2]; exact use k1
  | bl _ => simp only [tyOf, Option.some.injEq, Prod.mk.injEq] at h; rw [← h.1, ← h.2]; exact use k2
  | int _ => simp only [tyOf, Option.some.injEq, Prod.mk.injEq] at h; rw [← h.1, ← h.2]; exact use k3
  | str _ => simp only [tyOf, Option.some.injEq, Prod.mk.injEq] at h; rw [← h.1, ← h.2]; exact use k4
  | tup _ => simp only [tyOf, Option.some.injEq, Prod.mk.injEq] at h; rw [← h.1, ← h.2]; exact use k5
  | lst _ => simp only [tyOf, Option.some.injEq, Prod.mk.injEq] at h; rw [← h.1, ← h.2]; exact use k6
  | scr _ => simp only [tyOf, Option.some.injEq, Prod.mk.injEq] at h; rw [← h.1, ← h.2]; exact use k6
  | ins _ _ => simp [tyOf] at h
  | cell _ => simp [tyOf] at h
theorem isiD_ok {ts : List String} {d : D} {b : Bool} (h : isiD ts d = some b) : ∃ T l, tyOf d = some (T, l) ∧ (∀ t ∈ ts, tyAsk.contains t = true) ∧ b = ts.any l.contains := by
  unfold isiD at h
  split at h
  · rename_i T l e
    split at h
    · rename_i ha
      cases h
      exact ⟨T, l, e, fun t ht => List.all_eq_true.mp ha t ht, rfl⟩
    · cases h
  · cases h
theorem kitAny_D {K : PySem.W.Frag} {T : String} {l : List String} : ∀ {ts : List String}, (∀ t ∈ ts, kitB T t = some (l.contains t)) → PySem.W.kitAny K (.type T) (ts.map Value.type) = some (ts.any l.contains)
  | [], _ => rfl
  | t :: ts, h => by
    have h1 := kit_ty (K := K) (h t (List.mem_cons_self ..))
    have ih := kitAny_D (K := K) (T := T) (l := l) (ts := ts) fun x hx => h x (List.mem_cons_of_mem _ hx)
    refine kitAny_cons h1 (fun e => ?_) (fun e => ?_)
    · rw [ih, List.any_cons, e, Bool.false_or]
    · rw [List.any_cons, e, Bool.true_or]
def tyVs (ts : List String) : List V := ts.map V.ty
theorem paired_ty : ∀ (ts : List String), Paired ClsV (tyVs ts) (ts.map Value.type)
  | [] => .nil
  | t :: ts => .cons (.ty t) (paired_ty ts)
/-- isinstance(x, T) -/
theorem isi_one (hK : X.K = G.K) {t : String} : CallR X (.builtin "isinstance") (fun xs H Q => ∃ w d b x, w.H = H ∧ WOk G w ∧ xs = [x, .ty t] ∧ Rep G w d x ∧ isiD [t] d = some b ∧ Q (.bl b) H) := by
  intro pins s σ H xs us Q I r h
  obtain ⟨w, d, b, x, rfl, g, rfl, r1, hb, q⟩ := h
  obtain ⟨T, l, e, ha, rfl⟩ := isiD_ok hb
  refine call_isi pins s σ w.H _ us Q I r ⟨x, .ty t, .type T, .type t, _, rfl, .ty t, by rw [hK]; exact tyx_D g r1 e, kit_ty (kit_D e (ha t (List.mem_cons_self ..))), ?_⟩
  simpa using q
/-- isinstance(x, (T, ..)) -/
theorem isi_many (hK : X.K = G.K) {ts : List String} : CallR X (.builtin "isinstance") (fun xs H Q => ∃ w d b x tp, w.H = H ∧ WOk G w ∧ xs = [x, .ref tp] ∧ H tp = some (.tup (tyVs ts)) ∧ Rep G w d x ∧ isiD ts d = some b ∧ Q (.bl b) H) := by
  intro pins s σ H xs us Q I r h
  obtain ⟨w, d, b, x, tp, rfl, g, rfl, htp, r1, hb, q⟩ := h
  obtain ⟨T, l, e, ha, rfl⟩ := isiD_ok hb
  exact call_isiT pins s σ w.H _ us Q I r ⟨x, tp, tyVs ts, .type T, ts.map Value.type, _, rfl, htp, paired_ty ts, by rw [hK]; exact tyx_D g r1 e, kitAny_D fun t ht => kit_D e (ha t ht), q⟩

/-! ### methods -/
def mtTy : Mt → String
  | .append | .extend | .pop | .index => "list"
  | .join | .split | .startswith => "str"
def mtName : Mt → Str
  | .append => "append" | .extend => "extend" | .pop => "pop" | .index => "index" | .join => "join" | .split => "split" | .startswith => "startswith"
def mtId : Mt → String
  | .append => "list.append" | .extend => "list.extend" | .pop => "list.pop" | .index => "list.index" | .join => "str.join" | .split => "str.split" | .startswith => "str.startswith"
/-- what a method does -/
def rMeth (G : Gb) (m : Mt) : V → List V → Hp → VK → Prop := fun x xs H Q => ∃ w o ds z M', w.H = H ∧ WOk G w ∧ Rep G w o x ∧ RepL G w ds xs ∧ evMt m o ds w.M = some (z, M') ∧ ∀ w' v, Ext w w' → WOk G w' → w'.M = M' → Rep G w' z v → Q v w'.H
theorem put_lst {w : Wd} (g : WOk G w) {i : Nat} {a : Addr} {xs ys : List D} {vs : List V} (ha : w.as[i]? = some a) (hm : w.M[i]? = some (some (.lst xs))) (r : RepL G w ys vs) :
    WOk G (w.put i a (.lst ys) (.lst vs)) := by
  have x := ext_put (m := .lst ys) (o := .lst vs) ha hm
  exact wok_put g ha hm ⟨vs, upd_same, RepL.ext x _ _ r⟩
theorem cell_lst {w : Wd} (g : WOk G w) {i : Nat} {v : V} {xs : List D} (r : Rep G w (.cell i) v) (hm : w.M[i]? = some (some (.lst xs))) : ∃ a vs, v = .ref a ∧ w.as[i]? = some a ∧ w.H a = some (.lst vs) ∧ RepL G w xs vs := by
  simp only [Rep] at r
  obtain ⟨a, rfl, ha⟩ := r
  obtain ⟨vs, h1, h2⟩ := g.cell i a _ ha hm
  exact ⟨a, vs, rfl, ha, h1, h2⟩
theorem mt_D (m : Mt) : MtR X (mtId m) (rMeth G m) := by
  intro pins s σ H x xs v us Q I rx rxs h
  obtain ⟨w, o, ds, z, M', rfl, g, r1, rl, hz, q⟩ := h
  unfold evMt at hz
  split at hz
  · rename_i i d
    split at hz
    · rename_i ys hm
      split at hz
      · rename_i hl
        cases hz
        obtain ⟨a, vs, rfl, ha, h1, h2⟩ := cell_lst g r1 hm
        obtain ⟨y, rfl, r2⟩ := rep1 rl
        refine mt_append pins s σ w.H _ _ v us Q I rx rxs ⟨a, vs, y, rfl, rfl, h1, by rw [← h2.length]; exact hl, ?_⟩
        exact q (w.put i a (.lst (ys ++ [d])) (.lst (vs ++ [y]))) .non (ext_put ha hm) (put_lst g ha hm (h2.append (.cons r2 .nil))) rfl rep_non
      · cases hz
    · cases hz
  · rename_i i d
    split at hz
    · rename_i ys hm
      split at hz
      · rename_i zs
        split at hz
        · rename_i hl
          cases hz
          obtain ⟨a, vs, rfl, ha, h1, h2⟩ := cell_lst g r1 hm
          obtain ⟨y, rfl, r2⟩ := rep1 rl
          simp only [Rep] at r2
          obtain ⟨b, ws, rfl, h3, h4⟩ := r2
          refine mt_extend pins s σ w.H _ _ v us Q I rx rxs ⟨a, b, vs, ws, rfl, rfl, h1, h3.1, by rw [← h2.length, ← h4.length]; exact hl, ?_⟩
          exact q (w.put i a (.lst (ys ++ zs)) (.lst (vs ++ ws))) .non (ext_put ha hm) (put_lst g ha hm (h2.append h4)) rfl rep_non
        · cases hz
      · cases hz
    · cases hz
  · cases hz
end
end Ev
/-! Ev5: which text an expression stands for; a text is worth what its expression is. -/
namespace Ev
open PySem L2

structure Cn where
  N : List Str
  sc : Scope
  /-- the names that may be stored -/
  st : Scope
  P : List Df
  /-- built-in names that the module does not store -/
  bs : List Str

def visB (sc : Scope) (x : Str) : Bool := match sc.names.lookup x with | some .local => true | some .cell => true | some .free => true | _ => false
def locB (sc : Scope) (x : Str) : Bool := match sc.names.lookup x with | some .local => true | some .cell => true | _ => false
def glB (sc : Scope) (x : Str) : Bool := match sc.names.lookup x with | some .globalImplicit => true | _ => false
def okName (x : Str) : Bool := !(x == ("__debug__" : Str)) && !(x == ("__classdict__" : Str)) && !(x == ("__name__" : Str))
def eqS (a b : Str) : Bool := decide (a = b)
def biName : Bi → Str
  | .int => "int" | .len => "len" | .abs => "abs" | .repr => "repr" | .str => "str" | .tuple => "tuple" | .list => "list"
def attrOk : Expr → Bool
  | .Call (.Name _ _) [] [] _ => false
  | _ => true
def Cn.blk (Γ : Cn) (scope : Scope) : Cn := { Γ with sc := relS scope Γ.sc, st := scope }
def ownOf (N : List Str) (vs : List Nat) : List (Str × Nat) := vs.filterMap fun i => (N[i]?).map fun x => (x, i)
def mTy (Γ : Cn) (t : String) : Expr → Bool
  | .Name x _ => eqS x (Str.ofString t) && glB Γ.sc x && Γ.bs.contains x && okName x
  | _ => false
def mTys (Γ : Cn) : List String → List Expr → Bool
  | [], [] => true
  | t :: ts, e :: es => mTy Γ t e && mTys Γ ts es
  | _, _ => false
def mTyE (Γ : Cn) (ts : List String) : Expr → Bool
  | .Tuple es _ _ => mTys Γ ts es && decide (ts.length ≤ 100)
  | e => match ts with
    | [t] => mTy Γ t e
    | _ => false
mutual
def mE : Ex → Cn → Expr → Bool
  | .var i, Γ, .Name x _ => decide (Γ.N[i]? = some x) && visB Γ.sc x && okName x
  | .non, _, .Constant .none _ _ => true
  | .bl b, _, .Constant (.bool c) _ _ => b == c
  | .int i, _, .Constant (.int j) _ _ => decide (i = j)
  | .str s, _, .Constant (.str t) _ _ => eqS s t
  | .bin o a b, Γ, .BinOp x op y _ => decide (op = toOp o) && mE a Γ x && mE b Γ y
  | .cmp o a b, Γ, .Compare x [op] [y] _ => decide (op = toCmp o) && mE a Γ x && mE b Γ y
  | .chn o p a b c, Γ, .Compare x [op, oq] [y, z] _ => decide (op = toCmp o) && decide (oq = toCmp p) && mE a Γ x && mE b Γ y && mE c Γ z
  | .and a b, Γ, .BoolOp .And (x :: y :: rest) pos => mE a Γ x && (match rest with | [] => mE b Γ y | _ => mE b Γ (.BoolOp .And (y :: rest) pos))
  | .or a b, Γ, .BoolOp .Or (x :: y :: rest) pos => mE a Γ x && (match rest with | [] => mE b Γ y | _ => mE b Γ (.BoolOp .Or (y :: rest) pos))
  | .not a, Γ, .UnaryOp .Not x _ => mE a Γ x
  | .neg a, Γ, .UnaryOp .USub x _ => mE a Γ x
  | .ite c a b, Γ, .IfExp t x y _ => mE c Γ t && mE a Γ x && mE b Γ y
  | .tup es, Γ, .Tuple xs _ _ => mL es Γ xs
  | .lst es, Γ, .List xs _ => mL es Γ xs
  | .mls es, Γ, .List xs _ => mL es Γ xs
  | .ix a b, Γ, .Subscript x y _ => mE a Γ x && mE b Γ y
  | .slc a lo hi, Γ, .Subscript x (.Slice l h none _) _ => mE a Γ x && mO lo Γ l && mO hi Γ h
  | .call f es ks pm, Γ, .Call (.Name x _) args kws _ => match Γ.P[f]? with
    | some d => eqS d.name x && glB Γ.sc x && okName x && mL es Γ args && mK ks Γ kws && decide ((es.length, ks.map (·.1), pm) ∈ d.shapes)
    | none => false
  | .bi b es, Γ, .Call (.Name x _) args [] _ => eqS x (biName b) && glB Γ.sc x && okName x && Γ.bs.contains x && mL es Γ args && !args.isEmpty
  | .isi e ts, Γ, .Call (.Name x _) [a, c] [] _ => eqS x "isinstance" && glB Γ.sc x && okName x && Γ.bs.contains x && mE e Γ a && mTyE Γ ts c && ts.all tyAsk.contains
  | .meth m o es, Γ, .Call (.Attribute y name apos) args [] cpos => eqS name (mtName m) && attrOk y && mE o Γ y && mL es Γ args && !args.isEmpty && (apos.endLine == cpos.line) && decide (args.length < 20)
  | .lc e t it c vs, Γ, .ListComp elt [⟨tg, iter, ifs, isas⟩] scope _ => decide (isas = 0) && mI it Γ tg iter && blkC Γ.N Γ.sc scope (ownOf Γ.N vs) && decide ((ownOf Γ.N vs).map (·.2) = vs) &&
      mT t (Γ.blk scope) tg && (tgS t).all vs.contains && mC c (Γ.blk scope) ifs && mE e (Γ.blk scope) elt
  | .frz i, Γ, .Name x _ => decide (Γ.N[i]? = some x) && visB Γ.sc x && okName x
  | _, _, _ => false
def mL : List Ex → Cn → List Expr → Bool
  | [], _, [] => true
  | e :: es, Γ, x :: xs => mE e Γ x && mL es Γ xs
  | _, _, _ => false
def mK : List (Str × Ex) → Cn → List Keyword → Bool
  | [], _, [] => true
  | (k, e) :: es, Γ, ⟨some x, v, _⟩ :: xs => eqS k x && mE e Γ v && mK es Γ xs
  | _, _, _ => false
def mO : Option Ex → Cn → Option Expr → Bool
  | none, _, none => true
  | some e, Γ, some x => mE e Γ x
  | _, _, _ => false
def mC : Option Ex → Cn → List Expr → Bool
  | none, _, [] => true
  | some e, Γ, [x] => mE e Γ x
  | _, _, _ => false
def mI : It → Cn → Expr → Expr → Bool
  | .seq e, Γ, _, x => mE e Γ x
  | .rng1 a, Γ, _, .Call (.Name x _) [u] [] _ => eqS x "range" && glB Γ.sc x && Γ.bs.contains x && mE a Γ u
  | .rng2 a b, Γ, _, .Call (.Name x _) [u, v] [] _ => eqS x "range" && glB Γ.sc x && Γ.bs.contains x && mE a Γ u && mE b Γ v
  | .enu e, Γ, .Tuple _ _ _, .Call (.Name x _) [a] [] _ => eqS x "enumerate" && glB Γ.sc x && Γ.bs.contains x && mE e Γ a
  | .zip e f, Γ, .Tuple _ _ _, .Call (.Name x _) [a, b] [] _ => eqS x "zip" && glB Γ.sc x && Γ.bs.contains x && mE e Γ a && mE f Γ b
  | _, _, _, _ => false
def mT : Tg → Cn → Expr → Bool
  | .nm i, Γ, .Name x _ => decide (Γ.N[i]? = some x) && locB Γ.st x
  | .tp ts, Γ, .Tuple es _ _ => mTs ts Γ es
  | .sub a b, Γ, .Subscript o i _ => mE a Γ o && mE b Γ i
  | _, _, _ => false
def mTs : List Tg → Cn → List Expr → Bool
  | [], _, [] => true
  | t :: ts, Γ, x :: xs => mT t Γ x && mTs ts Γ xs
  | _, _, _ => false
end

/-! ### what a matched text is not -/
def plainX : Expr → Bool
  | .Starred _ _ => false
  | .Set _ _ _ => false
  | .Slice _ _ _ _ => false
  | _ => true
theorem mE_plain {x : Ex} {Γ : Cn} {e : Expr} (h : mE x Γ e = true) : plainX e = true := by
  cases e with
  | Starred _ _ => cases x <;> simp [mE] at h
  | Set _ _ _ => cases x <;> simp [mE] at h
  | Slice _ _ _ _ => cases x <;> simp [mE] at h
  | _ => rfl
theorem star_of {e : Expr} (h : plainX e = true) (es : List Expr) (env : Env) : starEach (e :: es) env = (false, eval e env) :: starEach es env := by
  cases e <;> first
    | rfl
    | (simp [plainX] at h)
theorem marks_of {e : Expr} (h : plainX e = true) (op : CmpOp) : behindInMarks op e = false := by
  cases e <;> first
    | rfl
    | (simp [plainX] at h)
theorem ixPlain {e : Expr} (h : plainX e = true) : PlainIx e := by
  intro o i
  cases e <;> first
    | rfl
    | (simp [plainX] at h)
theorem folded_of {e : Expr} (h : plainX e = true) (env : Env) : ∀ x, foldedSetIterable e env x = pure x := by
  intro x
  cases e <;> first
    | rfl
    | (simp [plainX] at h)
theorem attr_base {o : Expr} (h : attrOk o = true) (f : Str) (env : Env) : attributeBase o f env (eval o env) = eval o env := by
  unfold attributeBase
  split
  · simp [attrOk] at h
  · rfl
theorem mL_star {es : List Ex} {Γ : Cn} : ∀ {xs : List Expr}, mL es Γ xs = true → ∀ (pos : Pos) (env : Env), (backTo pos (starEach xs env)).any (·.1) = false := by
  intro xs
  induction xs generalizing es with
  | nil => intro _ _ _; rfl
  | cons x xs ih =>
    intro h pos env
    cases es with
    | nil => simp [mL] at h
    | cons e es =>
      simp only [mL, Bool.and_eq_true] at h
      rw [star_of (mE_plain h.1)]
      show (false || (backTo pos (starEach xs env)).any (·.1)) = false
      rw [ih h.2 pos env]
      rfl
theorem mL_len {es : List Ex} {Γ : Cn} : ∀ {xs : List Expr}, mL es Γ xs = true → es.length = xs.length := by
  intro xs
  induction xs generalizing es with
  | nil => intro h; cases es with
    | nil => rfl
    | cons _ _ => simp [mL] at h
  | cons x xs ih => intro h; cases es with
    | nil => simp [mL] at h
    | cons e es => simp only [mL, Bool.and_eq_true] at h; simp [ih h.2]
theorem mL_all {es : List Ex} {Γ : Cn} : ∀ {xs : List Expr}, mL es Γ xs = true → ∀ (pos : Pos) (env : Env), (backTo pos (starEach xs env)).all (fun x => !x.1) = true := by
  intro xs
  induction xs generalizing es with
  | nil => intro _ _ _; rfl
  | cons x xs ih =>
    intro h pos env
    cases es with
    | nil => simp [mL] at h
    | cons e es =>
      simp only [mL, Bool.and_eq_true] at h
      rw [star_of (mE_plain h.1)]
      show (true && (backTo pos (starEach xs env)).all (fun x => !x.1)) = true
      rw [ih h.2 pos env]
      rfl
theorem bt_len (pos : Pos) (env : Env) : ∀ (xs : List Expr), (backTo pos (starEach xs env)).length = xs.length
  | [] => rfl
  | x :: xs => by
    have := bt_len pos env xs
    cases x <;> simp_all [starEach, backTo]
theorem mK_names {ks : List (Str × Ex)} {Γ : Cn} : ∀ {kws : List Keyword}, mK ks Γ kws = true → ∀ (pos : Pos) (env : Env), (backToKw pos (keywordEach kws env)).all (·.1.isSome) = true ∧
    (backToKw pos (keywordEach kws env)).any (·.1.isNone) = false ∧ (backToKw pos (keywordEach kws env)).filterMap (·.1) = ks.map (·.1) := by
  intro kws
  induction kws generalizing ks with
  | nil =>
    intro h pos env
    cases ks with
    | nil => exact ⟨rfl, rfl, rfl⟩
    | cons _ _ => simp [mK] at h
  | cons x kws ih =>
    intro h pos env
    cases ks with
    | nil => simp [mK] at h
    | cons e ks =>
      obtain ⟨nm, v, p⟩ := x
      obtain ⟨k, e⟩ := e
      cases nm with
      | none => simp [mK] at h
      | some nm =>
        simp only [mK, Bool.and_eq_true, eqS, decide_eq_true_eq] at h
        obtain ⟨⟨rfl, _⟩, h2⟩ := h
        obtain ⟨i1, i2, i3⟩ := ih h2 pos env
        refine ⟨?_, ?_, ?_⟩
        · show (true && (backToKw pos (keywordEach kws env)).all (·.1.isSome)) = true
          rw [i1]; rfl
        · show (false || (backToKw pos (keywordEach kws env)).any (·.1.isNone)) = false
          rw [i2]; rfl
        · show k :: (backToKw pos (keywordEach kws env)).filterMap (·.1) = k :: ks.map (·.1)
          rw [i3]
end Ev
/-! Ev6: contexts; expressions are worth what they say. -/
namespace Ev
open PySem L2

/-- what a def promises, where no guarded call is running -/
structure FnG (P : Program) (w : World) (K : PySem.W.Frag) (mg : Str → Option Value) (base : Heap) (k : Nat) (f : Addr) (fd : FuncData) (ps : List Str) (sp : Sp) : Prop where
  run : ∀ (A : Around) (outer : List Env) (s : Shared) (H : Hp) (args : Args) (us : List Value) (vs : List V) (Q : VK) (E : XK), Room k A → A.guards = some [] → Env0 P w K mg base A outer s H → BindsTo s fd args (ps.zip us) → Vals vs us → sp vs H Q E →
    codeAny (model P w) A (.call (.ref f) args) (CR (L2.CX P w) outer P w H s Q E) s
theorem FnG.mono {P : Program} {w : World} {K : PySem.W.Frag} {mg : Str → Option Value} {base : Heap} {j k : Nat} {f : Addr} {fd : FuncData} {ps : List Str} {sp : Sp} (F : FnG P w K mg base j f fd ps sp) (h : j ≤ k) :
    FnG P w K mg base k f fd ps sp := ⟨fun A outer s H args us vs Q E hr => F.run A outer s H args us vs Q E (hr.mono h)⟩
/-- the promise by data -/
def spF (G : Gb) (P : List Df) (k f : Nat) : Sp := fun vs H Q E => ∃ w ds, w.H = H ∧ WOk G w ∧ RepL G w ds vs ∧
  Post G (fun cls d _ H => E cls d H) [] w (evF P k f ds w.M) fun d w' => ∀ v, Rep G w' d v → Q v w'.H
/-- where each parameter's value comes from -/
def permV {α : Type} (d : α) (pm : List Nat) (xs : List α) : List α := pm.map fun i => (xs[i]?).getD d
structure Ctx (G : Gb) (Γ : Cn) (k : Nat) (X : Cx) (W : WX) : Prop where
  N : X.N = Γ.N
  sc : X.env.scope = Γ.sc
  K : X.K = G.K
  nd : Γ.N.Nodup
  store : ∀ x, Loc Γ.st x → Loc X.env.scope x ∧ (X.fn x = true ∨ X.env.scope.names.lookup x = some .local)
  calm : X.calm = true
  gd : X.A.guards = some []
  room : Room k X.A
  tk : Takes X W
  tab : ∀ f d, Γ.P[f]? = some d → ∃ fa fd, X.mg d.name = some (.ref fa) ∧ PySem.W.keepIn X.K (.ref fa) = true ∧ FnG X.prog X.w X.K X.mg X.base k fa fd d.ps (spF G Γ.P k f) ∧
    ∀ sh ∈ d.shapes, ∀ (s : Shared) (us ws : List Value), us.length = sh.1 → ws.length = sh.2.1.length → BindsTo s fd ⟨us, sh.2.1.zip ws⟩ (d.ps.zip (permV .none sh.2.2 (us ++ ws)))
  blt : ∀ x ∈ Γ.bs, X.mg x = none

def RepS (G : Gb) (w : Wd) (σd : Env') (σ : L2.St) : Prop := σd.length = σ.length ∧ ∀ (i : Nat) (d : D), σd[i]? = some (some d) → ∃ v, σ[i]? = some (some v) ∧ Rep G w d v
section
variable {G : Gb} {w w' : Wd} {σd : Env'} {σ : L2.St}
theorem RepS.ext (x : Ext w w') (h : RepS G w σd σ) : RepS G w' σd σ := ⟨h.1, fun i d e => by
  obtain ⟨v, h1, h2⟩ := h.2 i d e
  exact ⟨v, h1, Rep.ext x d v h2⟩⟩
theorem RepS.emb (x : Emb w w') (h : RepS G w σd σ) : RepS G w' σd σ := ⟨h.1, fun i d e => by
  obtain ⟨v, h1, h2⟩ := h.2 i d e
  exact ⟨v, h1, Rep.emb x d v h2⟩⟩
theorem RepS.set (h : RepS G w σd σ) (i : Nat) {d : D} {v : V} (r : Rep G w d v) : RepS G w (σd.set i (some d)) (σ.set i (some v)) := by
  refine ⟨by simp [h.1], fun j e hj => ?_⟩
  by_cases hij : i = j
  · subst hij
    by_cases hl : i < σd.length
    · rw [List.getElem?_set_self hl] at hj
      cases hj
      exact ⟨v, List.getElem?_set_self (by rw [← h.1]; exact hl), r⟩
    · rw [List.getElem?_eq_none (by simpa using hl)] at hj
      cases hj
  · rw [List.getElem?_set_ne hij] at hj
    obtain ⟨u, h1, h2⟩ := h.2 j e hj
    exact ⟨u, by rw [List.getElem?_set_ne hij]; exact h1, h2⟩
theorem RepS.none (h : RepS G w σd σ) (i : Nat) : RepS G w (σd.set i .none) (σ.set i .none) := by
  refine ⟨by simp [h.1], fun j e hj => ?_⟩
  by_cases hij : i = j
  · subst hij
    by_cases hl : i < σd.length
    · rw [List.getElem?_set_self hl] at hj
      cases hj
    · rw [List.getElem?_eq_none (by simpa using hl)] at hj
      cases hj
  · rw [List.getElem?_set_ne hij] at hj
    obtain ⟨u, h1, h2⟩ := h.2 j e hj
    exact ⟨u, by rw [List.getElem?_set_ne hij]; exact h1, h2⟩
theorem RepS.wipe (h : RepS G w σd σ) : ∀ vs : List Nat, RepS G w (wipeD σd vs) (wipe σ vs)
  | [] => h
  | v :: vs => by
    simp only [wipeD, L2.wipe]
    exact (RepS.wipe h vs).none v
end

/-! ### readings -/
section
variable (G : Gb) (Φ : Nat → List D → Mem → Res D) (W : WX)
def tE (x : Ex) : TE := fun σ H Q => ∃ w σd, w.H = H ∧ WOk G w ∧ RepS G w σd σ ∧ Post G W σ w (evE Φ x σd w.M) fun d w' => ∀ v, Rep G w' d v → Q v w'.H
def tL (xs : List Ex) : TA := fun σ H Q => ∃ w σd, w.H = H ∧ WOk G w ∧ RepS G w σd σ ∧ Post G W σ w (evL Φ xs σd w.M) fun ds w' => ∀ vs, RepL G w' ds vs → Q vs w'.H
def tK' (xs : List (Str × Ex)) : TA := fun σ H Q => ∃ w σd, w.H = H ∧ WOk G w ∧ RepS G w σd σ ∧ Post G W σ w (evK Φ xs σd w.M) fun ds w' => ∀ vs, RepL G w' ds vs → Q vs w'.H
/-- a test -/
def evB (x : Ex) (σ : Env') (M : Mem) : Res Bool := (evE Φ x σ M).bind fun d M1 => Res.of (truth M1 d) M1
def tB' (x : Ex) : TT := fun σ H Q => ∃ w σd, w.H = H ∧ WOk G w ∧ RepS G w σd σ ∧ Post G W σ w (evB Φ x σd w.M) fun b w' => Q b w'.H
def tO' (o : Option Ex) : TO := fun σ H Q => ∃ w σd, w.H = H ∧ WOk G w ∧ RepS G w σd σ ∧ Post G W σ w (evO Φ o σd w.M) fun d w' => Q d w'.H
end
theorem PE.imp {X : Cx} {e : Expr} {t t' : TE} (h : PE X e t) (k : ∀ σ H Q, t' σ H Q → t σ H Q) : PE X e t' := ⟨fun pins s σ H Q I q => h.run pins s σ H Q I (k σ H Q q)⟩
theorem PT.imp {X : Cx} {e : Expr} {t t' : TT} (h : PT X e t) (k : ∀ σ H Q, t' σ H Q → t σ H Q) : PT X e t' := ⟨fun pins s σ H Q I q => h.run pins s σ H Q I (k σ H Q q)⟩
theorem PW.imp {X : Cx} {e : Expr} {t t' : TT} (h : PW X e t) (k : ∀ σ H Q, t' σ H Q → t σ H Q) : PW X e t' := ⟨fun wh pins s σ H Q I q => h.run wh pins s σ H Q I (k σ H Q q)⟩
theorem PA.imp {X : Cx} {es : List Expr} {t t' : TA} (h : PA X es t) (k : ∀ σ H Q, t' σ H Q → t σ H Q) : PA X es t' := ⟨fun pos pins s σ H Q I q => h.run pos pins s σ H Q I (k σ H Q q)⟩
theorem PK.imp {X : Cx} {es : List Keyword} {t t' : TA} (h : PK X es t) (k : ∀ σ H Q, t' σ H Q → t σ H Q) : PK X es t' := ⟨fun pos pins s σ H Q I q => h.run pos pins s σ H Q I (k σ H Q q)⟩
theorem PO.imp {X : Cx} {e : Option Expr} {t t' : TO} (h : PO X e t) (k : ∀ σ H Q, t' σ H Q → t σ H Q) : PO X e t' := ⟨fun pins s σ H Q I q => h.run pins s σ H Q I (k σ H Q q)⟩
theorem PG.imp {X : Cx} {e : Expr} {t t' : TG} (h : PG X e t) (k : ∀ v σ H Q, t' v σ H Q → t v σ H Q) : PG X e t' := ⟨fun pins s σ H v u Q I r q => h.run pins s σ H v u Q I r (k v σ H Q q)⟩
theorem PS.imp {X : Cx} {st : Stmt} {t t' : TS} (h : PS X st t) (k : ∀ D σ H, t' D σ H → t D σ H) : PS X st t' := ⟨fun pins s σ H D I q => h.run pins s σ H D I (k D σ H q)⟩
theorem PSs.imp {X : Cx} {st : List Stmt} {t t' : TS} (h : PSs X st t) (k : ∀ D σ H, t' D σ H → t D σ H) : PSs X st t' := ⟨fun pins s σ H D I q => h.run pins s σ H D I (k D σ H q)⟩

/-! ### simple nodes -/
section
variable {G : Gb} {Φ : Nat → List D → Mem → Res D} {W : WX} {X : Cx} {k : Nat} {Γ : Cn}
/-- at once, in the same world -/
theorem post_ok {α : Type} {w : Wd} {σ : L2.St} {a : α} {Qr : α → Wd → Prop} (g : WOk G w) (h : Post G W σ w (.ok a w.M) Qr) : Qr a w := h w (Ext.refl w) g rfl
theorem var_pe (c : Ctx G Γ k X W) {i : Nat} {x : Str} {pos : Pos} (h : (decide (Γ.N[i]? = some x) && visB Γ.sc x && okName x) = true) : PE X (.Name x pos) (tVar i) := by
  simp only [Bool.and_eq_true, decide_eq_true_eq] at h
  obtain ⟨⟨h1, h2⟩, h3⟩ := h
  have hv : Vis X.env.scope x := by
    rw [c.sc]
    unfold visB at h2
    split at h2 <;> first
      | exact .inl (by assumption)
      | exact .inr (.inl (by assumption))
      | exact .inr (.inr (by assumption))
      | cases h2
  simp only [okName, Bool.and_eq_true, Bool.not_eq_true'] at h3
  exact pe_var (i := i) (by rw [c.N]; exact h1) hv h3.1.1 h3.1.2
theorem s_var (c : Ctx G Γ k X W) {i : Nat} {x : Str} {pos : Pos} (h : (decide (Γ.N[i]? = some x) && visB Γ.sc x && okName x) = true) : PE X (.Name x pos) (tE G Φ W (.var i)) := by
  refine PE.imp (var_pe c h) ?_
  rintro σ H Q ⟨w, σd, rfl, g, rs, hp⟩
  simp only [evE] at hp
  split at hp
  · rename_i d e
    obtain ⟨v, e1, r⟩ := rs.2 i d e
    exact ⟨v, e1, post_ok g hp v r⟩
  · exact hp.elim
theorem s_frz (c : Ctx G Γ k X W) {i : Nat} {x : Str} {pos : Pos} (h : (decide (Γ.N[i]? = some x) && visB Γ.sc x && okName x) = true) : PE X (.Name x pos) (tE G Φ W (.frz i)) := by
  refine PE.imp (var_pe c h) ?_
  rintro σ H Q ⟨w, σd, rfl, g, rs, hp⟩
  simp only [evE] at hp
  split at hp
  · rename_i j e
    obtain ⟨v, e1, r⟩ := rs.2 i _ e
    simp only [Rep] at r
    obtain ⟨a, rfl, ha⟩ := r
    have x1 : Ext w (w.frz j) := ext_frz
    split at hp
    · rename_i xs hm
      obtain ⟨vs, h1, h2⟩ := g.cell j a _ ha hm
      refine ⟨.ref a, e1, hp (w.frz j) x1 (wok_frz g) rfl (.ref a) ?_⟩
      simp only [Rep]
      exact ⟨a, vs, rfl, ⟨h1, not_live_frz g ha, g.ch j a ha⟩, RepL.ext x1 _ _ h2⟩
    · rename_i cc fs hm
      obtain ⟨dx, vs, h1, h2⟩ := g.cell j a _ ha hm
      refine ⟨.ref a, e1, hp (w.frz j) x1 (wok_frz g) rfl (.ref a) ?_⟩
      simp only [Rep]
      exact ⟨a, dx, vs, rfl, ⟨h1, not_live_frz g ha, g.ch j a ha⟩, RepF.ext x1 _ _ h2⟩
    · exact absurd hp fun z => z
  · exact hp.elim
theorem s_con {e : Expr} {v : V} {d : D} {x : Ex} (h : PE X e (tC v)) (hr : ∀ w, Rep G w d v) (he : ∀ σ M, evE Φ x σ M = .ok d M) : PE X e (tE G Φ W x) := by
  refine PE.imp h ?_
  rintro σ H Q ⟨w, σd, rfl, g, rs, hp⟩
  rw [he] at hp
  exact post_ok g hp v (hr w)
theorem s_bin (c : Ctx G Γ k X W) {o : BO} {a b : Ex} {x y : Expr} {pos : Pos} (ha : PE X x (tE G Φ W a)) (hb : PE X y (tE G Φ W b)) : PE X (.BinOp x (toOp o) y pos) (tE G Φ W (.bin o a b)) := by
  refine PE.imp (pe_op (op_bin c.K o) ha hb) ?_
  rintro σ H Q ⟨w, σd, rfl, g, rs, hp⟩
  simp only [evE] at hp
  refine ⟨w, σd, rfl, g, rs, (Post.bind hp).mono fun d w1 x1 g1 h1 v1 r1 => ?_⟩
  refine ⟨w1, σd, rfl, g1, rs.ext x1, (Post.bind h1).mono fun e w2 x2 g2 h2 v2 r2 => ?_⟩
  obtain ⟨z, hz, h3⟩ := Post.of h2
  exact ⟨w2, d, e, z, rfl, g2, Rep.ext x2 _ _ r1, r2, hz, fun w3 v x3 g3 e3 r => h3 w3 x3 g3 e3 v r⟩
theorem units_of (c : Ctx G Γ k X W) : X.A.units + 100 < cLine := by have := c.room.un; omega
theorem s_cmp (c : Ctx G Γ k X W) {o : CO} {a b : Ex} {x y : Expr} {pos : Pos} (ha : PE X x (tE G Φ W a)) (hb : PE X y (tE G Φ W b)) (hy : plainX y = true) : PE X (.Compare x [toCmp o] [y] pos) (tE G Φ W (.cmp o a b)) := by
  refine PE.imp (pe_cmpR (op_cmp c.K (by have := units_of c; omega) o) ha hb (marks_of hy _)) ?_
  rintro σ H Q ⟨w, σd, rfl, g, rs, hp⟩
  simp only [evE] at hp
  refine ⟨w, σd, rfl, g, rs, (Post.bind hp).mono fun d w1 x1 g1 h1 v1 r1 => ?_⟩
  refine ⟨w1, σd, rfl, g1, rs.ext x1, (Post.bind h1).mono fun e w2 x2 g2 h2 v2 r2 => ?_⟩
  obtain ⟨z, hz, h3⟩ := Post.of h2
  exact ⟨w2, d, e, z, rfl, g2, Rep.ext x2 _ _ r1, r2, hz, fun w3 v x3 g3 e3 r => h3 w3 x3 g3 e3 v r⟩
theorem Post.ofB {α β : Type} {o : Option α} {M : Mem} {f : α → Mem → Res β} {w : Wd} {σ : L2.St} {Qr : β → Wd → Prop} (h : Post G W σ w ((Res.of o M).bind f) Qr) : ∃ a, o = some a ∧ Post G W σ w (f a M) Qr := by
  cases o with
  | some a => exact ⟨a, rfl, h⟩
  | none => exact absurd h fun z => z
theorem t_cmp (c : Ctx G Γ k X W) {o : CO} {a b : Ex} {x y : Expr} {pos : Pos} (ha : PE X x (tE G Φ W a)) (hb : PE X y (tE G Φ W b)) (hy : plainX y = true) : PT X (.Compare x [toCmp o] [y] pos) (tB' G Φ W (.cmp o a b)) := by
  refine PT.imp (pt_cmpR (op_cmp c.K (by have := units_of c; omega) o) ha hb (marks_of hy _)) ?_
  rintro σ H Q ⟨w, σd, rfl, g, rs, hp⟩
  simp only [evB, evE, Res.bind_assoc] at hp
  refine ⟨w, σd, rfl, g, rs, (Post.bind hp).mono fun d w1 x1 g1 h1 v1 r1 => ?_⟩
  refine ⟨w1, σd, rfl, g1, rs.ext x1, (Post.bind h1).mono fun e w2 x2 g2 h2 v2 r2 => ?_⟩
  obtain ⟨z, hz, h3⟩ := Post.ofB h2
  obtain ⟨b, hb, rfl⟩ := Option.map_eq_some_iff.mp hz
  refine ⟨w2, d, e, .bl b, rfl, g2, Rep.ext x2 _ _ r1, r2, hz, fun w3 v x3 g3 e3 r => ?_⟩
  simp only [Rep] at r
  exact ⟨b, r, h3 w3 x3 g3 e3⟩
theorem s_chn (c : Ctx G Γ k X W) {o p : CO} {a b d : Ex} {x y z : Expr} {pos : Pos} (ha : PE X x (tE G Φ W a)) (hb : PE X y (tE G Φ W b)) (hd : PE X z (tE G Φ W d)) (hz : plainX z = true) :
    PE X (.Compare x [toCmp o, toCmp p] [y, z] pos) (tE G Φ W (.chn o p a b d)) := by
  have hu := units_of c
  refine PE.imp (pe_chain (op_cmp c.K (by omega) o) (op_cmp c.K (by omega) p) ha hb hd (by exact marks_of hz _)) ?_
  rintro σ H Q ⟨w, σd, rfl, g, rs, hp⟩
  simp only [evE] at hp
  refine ⟨w, σd, rfl, g, rs, (Post.bind hp).mono fun d1 w1 x1 g1 h1 v1 r1 => ?_⟩
  refine ⟨w1, σd, rfl, g1, rs.ext x1, (Post.bind h1).mono fun d2 w2 x2 g2 h2 v2 r2 => ?_⟩
  cases q : cmpD o w2.M d1 d2 with
  | none => rw [q] at h2; exact absurd h2 fun z => z
  | some bb =>
    rw [q] at h2
    refine ⟨w2, d1, d2, .bl bb, rfl, g2, Rep.ext x2 _ _ r1, r2, by show Option.map D.bl (cmpD o w2.M d1 d2) = _; rw [q]; rfl, fun w3 v x3 g3 e3 r => ?_⟩
    simp only [Rep] at r
    refine ⟨bb, r, ?_⟩
    cases bb with
    | true =>
      rw [if_pos rfl]
      have h2' : Post G W σ w2 ((evE Φ d σd w2.M).bind fun z M3 => Res.of ((cmpD p M3 d2 z).map .bl) M3) (fun d w' => ∀ v, Rep G w' d v → Q v w'.H) := h2
      have h3 := Post.later x3 h2'
      rw [← e3] at h3
      refine ⟨w3, σd, rfl, g3, (rs.ext (x1.trans x2)).ext x3, (Post.bind h3).mono fun d3 w4 x4 g4 h4 v4 r4 => ?_⟩
      obtain ⟨zz, hzz, h5⟩ := Post.of h4
      exact ⟨w4, d2, d3, zz, rfl, g4, Rep.ext (x3.trans x4) _ _ r2, r4, hzz, fun w5 v5 x5 g5 e5 r5 => h5 w5 x5 g5 e5 v5 r5⟩
    | false =>
      rw [if_neg Bool.false_ne_true]
      exact h2 w3 x3 g3 e3 _ rep_bl

theorem t_chn (c : Ctx G Γ k X W) {o p : CO} {a b d : Ex} {x y z : Expr} {pos : Pos} (ha : PE X x (tE G Φ W a)) (hb : PE X y (tE G Φ W b)) (hd : PE X z (tE G Φ W d)) (hz : plainX z = true) :
    PT X (.Compare x [toCmp o, toCmp p] [y, z] pos) (tB' G Φ W (.chn o p a b d)) := by
  have hu := units_of c
  refine PT.imp (pt_chain (op_cmp c.K (by omega) o) (op_cmp c.K (by omega) p) ha hb hd (by exact marks_of hz _)) ?_
  rintro σ H Q ⟨w, σd, rfl, g, rs, hp⟩
  simp only [evB, evE, Res.bind_assoc] at hp
  refine ⟨w, σd, rfl, g, rs, (Post.bind hp).mono fun d1 w1 x1 g1 h1 v1 r1 => ?_⟩
  refine ⟨w1, σd, rfl, g1, rs.ext x1, (Post.bind h1).mono fun d2 w2 x2 g2 h2 v2 r2 => ?_⟩
  cases q : cmpD o w2.M d1 d2 with
  | none => rw [q] at h2; exact absurd h2 fun z => z
  | some bb =>
    rw [q] at h2
    refine ⟨w2, d1, d2, .bl bb, rfl, g2, Rep.ext x2 _ _ r1, r2, by show Option.map D.bl (cmpD o w2.M d1 d2) = _; rw [q]; rfl, fun w3 v x3 g3 e3 r => ?_⟩
    simp only [Rep] at r
    refine ⟨bb, r, ?_⟩
    cases bb with
    | true =>
      rw [if_pos rfl]
      have h2' : Post G W σ w2 (((evE Φ d σd w2.M).bind fun z M3 => Res.of ((cmpD p M3 d2 z).map .bl) M3).bind fun d M1 => Res.of (truth M1 d) M1) (fun b w' => Q b w'.H) := h2
      rw [Res.bind_assoc] at h2'
      have h3 := Post.later x3 h2'
      rw [← e3] at h3
      refine ⟨w3, σd, rfl, g3, (rs.ext (x1.trans x2)).ext x3, (Post.bind h3).mono fun d3 w4 x4 g4 h4 v4 r4 => ?_⟩
      obtain ⟨zz, hzz, h5⟩ := Post.ofB h4
      obtain ⟨b2, hb2, rfl⟩ := Option.map_eq_some_iff.mp hzz
      refine ⟨w4, d2, d3, .bl b2, rfl, g4, Rep.ext (x3.trans x4) _ _ r2, r4, hzz, fun w5 v5 x5 g5 e5 r5 => ?_⟩
      simp only [Rep] at r5
      exact ⟨b2, r5, h5 w5 x5 g5 e5⟩
    | false =>
      rw [if_neg Bool.false_ne_true]
      exact ⟨false, rfl, h2 w3 x3 g3 e3⟩

/-! ### truth -/
theorem t_plain (c : Ctx G Γ k X W) {x : Ex} {e : Expr} (h : PE X e (tE G Φ W x)) (he : ∀ whole, isTrue e X.env whole = (do let v ← whole; standAt e.pos; holding [v] (truthy v))) : PT X e (tB' G Φ W x) := by
  refine PT.imp (pt_truth h he) ?_
  rintro σ H Q ⟨w, σd, rfl, g, rs, hp⟩
  refine ⟨w, σd, rfl, g, rs, (Post.bind hp).mono fun d w1 x1 g1 h1 v1 r1 => ?_⟩
  obtain ⟨b, hb, h3⟩ := Post.of h1
  exact ⟨b, tru_D c.K g1 r1 hb, post_ok g1 h3⟩
theorem evB_and (a b : Ex) (σ : Env') (M : Mem) : evB Φ (.and a b) σ M = (evB Φ a σ M).bind fun t M1 => if t = true then evB Φ b σ M1 else .ok false M1 := by
  simp only [evB, evE, Res.bind_assoc]
  congr 1
  funext x M1
  cases e : truth M1 x with
  | none => rfl
  | some t => cases t with
    | true => rfl
    | false => simp [e]
theorem evB_or (a b : Ex) (σ : Env') (M : Mem) : evB Φ (.or a b) σ M = (evB Φ a σ M).bind fun t M1 => if t = true then .ok true M1 else evB Φ b σ M1 := by
  simp only [evB, evE, Res.bind_assoc]
  congr 1
  funext x M1
  cases e : truth M1 x with
  | none => rfl
  | some t => cases t with
    | true => simp [e]
    | false => rfl
theorem evB_not (a : Ex) (σ : Env') (M : Mem) : evB Φ (.not a) σ M = (evB Φ a σ M).bind fun t M1 => .ok (!t) M1 := by
  simp only [evB, evE, Res.bind_assoc]
  congr 1
  funext x M1
  cases e : truth M1 x with
  | none => rfl
  | some t => rfl
theorem evB_ite (c a b : Ex) (σ : Env') (M : Mem) : evB Φ (.ite c a b) σ M = (evB Φ c σ M).bind fun t M1 => if t = true then evB Φ a σ M1 else evB Φ b σ M1 := by
  simp only [evB, evE, Res.bind_assoc]
  congr 1
  funext x M1
  cases e : truth M1 x with
  | none => rfl
  | some t => cases t <;> rfl
theorem evE_not (a : Ex) (σ : Env') (M : Mem) : evE Φ (.not a) σ M = (evB Φ a σ M).bind fun t M1 => .ok (.bl (!t)) M1 := by
  simp only [evB, evE, Res.bind_assoc]
  congr 1
  funext x M1
  cases e : truth M1 x with
  | none => rfl
  | some t => rfl
theorem evE_ite (c a b : Ex) (σ : Env') (M : Mem) : evE Φ (.ite c a b) σ M = (evB Φ c σ M).bind fun t M1 => if t = true then evE Φ a σ M1 else evE Φ b σ M1 := by
  simp only [evB, evE, Res.bind_assoc]
  congr 1
  funext x M1
  cases e : truth M1 x with
  | none => rfl
  | some t => cases t <;> rfl
theorem t_not {a : Ex} {x : Expr} {pos : Pos} (ha : PT X x (tB' G Φ W a)) : PT X (.UnaryOp .Not x pos) (tB' G Φ W (.not a)) := by
  refine PT.imp (pt_not ha) ?_
  rintro σ H Q ⟨w, σd, rfl, g, rs, hp⟩
  rw [evB_not] at hp
  exact ⟨w, σd, rfl, g, rs, (Post.bind hp).mono fun b w1 x1 g1 h1 => post_ok g1 h1⟩
theorem w_and {a b : Ex} {x y : Expr} {rest : List Expr} {pos : Pos} (ha : PT X x (tB' G Φ W a)) (hb : PW X (.BoolOp .And (y :: rest) pos) (tB' G Φ W b)) : PW X (.BoolOp .And (x :: y :: rest) pos) (tB' G Φ W (.and a b)) := by
  refine PW.imp (pw_and ha hb) ?_
  rintro σ H Q ⟨w, σd, rfl, g, rs, hp⟩
  rw [evB_and] at hp
  refine ⟨w, σd, rfl, g, rs, (Post.bind hp).mono fun t w1 x1 g1 h1 => ?_⟩
  cases t with
  | true =>
    rw [if_pos rfl] at h1 ⊢
    exact ⟨w1, σd, rfl, g1, rs.ext x1, h1⟩
  | false =>
    rw [if_neg Bool.false_ne_true] at h1 ⊢
    exact post_ok g1 h1
theorem w_or {a b : Ex} {x y : Expr} {rest : List Expr} {pos : Pos} (ha : PT X x (tB' G Φ W a)) (hb : PW X (.BoolOp .Or (y :: rest) pos) (tB' G Φ W b)) : PW X (.BoolOp .Or (x :: y :: rest) pos) (tB' G Φ W (.or a b)) := by
  refine PW.imp (pw_or ha hb) ?_
  rintro σ H Q ⟨w, σd, rfl, g, rs, hp⟩
  rw [evB_or] at hp
  refine ⟨w, σd, rfl, g, rs, (Post.bind hp).mono fun t w1 x1 g1 h1 => ?_⟩
  cases t with
  | true =>
    rw [if_pos rfl] at h1 ⊢
    exact post_ok g1 h1
  | false =>
    rw [if_neg Bool.false_ne_true] at h1 ⊢
    exact ⟨w1, σd, rfl, g1, rs.ext x1, h1⟩
theorem pt_ifExp {z x y : Expr} {pos : Pos} {t ta tb : TT} (hc : PT X z t) (ha : PT X x ta) (hb : PT X y tb) : PT X (.IfExp z x y pos) (fun σ H Q => t σ H fun c H1 => if c = true then ta σ H1 Q else tb σ H1 Q) := by
  refine ⟨fun pins s σ H Q I h => ?_⟩
  refine PyProof.Rows.isTrue_IfExp (thn (hc.run pins s σ H _ I h) fun t s1 q => ?_)
  obtain ⟨H1, I1, q1⟩ := q
  cases t with
  | true => exact ha.run pins s1 σ H1 Q I1 q1
  | false => exact hb.run pins s1 σ H1 Q I1 q1
theorem t_ite {c a b : Ex} {z x y : Expr} {pos : Pos} (hc : PT X z (tB' G Φ W c)) (ha : PT X x (tB' G Φ W a)) (hb : PT X y (tB' G Φ W b)) : PT X (.IfExp z x y pos) (tB' G Φ W (.ite c a b)) := by
  refine PT.imp (pt_ifExp hc ha hb) ?_
  rintro σ H Q ⟨w, σd, rfl, g, rs, hp⟩
  rw [evB_ite] at hp
  refine ⟨w, σd, rfl, g, rs, (Post.bind hp).mono fun t w1 x1 g1 h1 => ?_⟩
  cases t with
  | true => rw [if_pos rfl] at h1 ⊢; exact ⟨w1, σd, rfl, g1, rs.ext x1, h1⟩
  | false => rw [if_neg Bool.false_ne_true] at h1 ⊢; exact ⟨w1, σd, rfl, g1, rs.ext x1, h1⟩
theorem s_not {a : Ex} {x : Expr} {pos : Pos} (ha : PT X x (tB' G Φ W a)) (c : Ctx G Γ k X W) (hx : PE X x (tE G Φ W a)) : PE X (.UnaryOp .Not x pos) (tE G Φ W (.not a)) := by
  refine PE.imp (pe_notT hx) ?_
  rintro σ H Q ⟨w, σd, rfl, g, rs, hp⟩
  simp only [evE] at hp
  refine ⟨w, σd, rfl, g, rs, (Post.bind hp).mono fun d w1 x1 g1 h1 v1 r1 => ?_⟩
  obtain ⟨z, hz, h3⟩ := Post.of h1
  obtain ⟨b, hb, rfl⟩ := Option.map_eq_some_iff.mp hz
  exact ⟨b, tru_D c.K g1 r1 hb, post_ok g1 h3 _ rep_bl⟩
theorem s_and (c : Ctx G Γ k X W) {a b : Ex} {x y : Expr} {rest : List Expr} {pos : Pos} (ha : PE X x (tE G Φ W a)) (hb : PE X (.BoolOp .And (y :: rest) pos) (tE G Φ W b)) : PE X (.BoolOp .And (x :: y :: rest) pos) (tE G Φ W (.and a b)) := by
  refine PE.imp (pe_andT ha hb) ?_
  rintro σ H Q ⟨w, σd, rfl, g, rs, hp⟩
  simp only [evE] at hp
  refine ⟨w, σd, rfl, g, rs, (Post.bind hp).mono fun d w1 x1 g1 h1 v1 r1 => ?_⟩
  cases q : truth w1.M d with
  | none => rw [q] at h1; exact absurd h1 fun z => z
  | some t =>
    rw [q] at h1
    refine ⟨t, tru_D c.K g1 r1 q, ?_⟩
    cases t with
    | true => rw [if_pos rfl]; exact ⟨w1, σd, rfl, g1, rs.ext x1, h1⟩
    | false => rw [if_neg Bool.false_ne_true]; exact post_ok g1 h1 _ r1
theorem s_or (c : Ctx G Γ k X W) {a b : Ex} {x y : Expr} {rest : List Expr} {pos : Pos} (ha : PE X x (tE G Φ W a)) (hb : PE X (.BoolOp .Or (y :: rest) pos) (tE G Φ W b)) : PE X (.BoolOp .Or (x :: y :: rest) pos) (tE G Φ W (.or a b)) := by
  refine PE.imp (pe_orT ha hb) ?_
  rintro σ H Q ⟨w, σd, rfl, g, rs, hp⟩
  simp only [evE] at hp
  refine ⟨w, σd, rfl, g, rs, (Post.bind hp).mono fun d w1 x1 g1 h1 v1 r1 => ?_⟩
  cases q : truth w1.M d with
  | none => rw [q] at h1; exact absurd h1 fun z => z
  | some t =>
    rw [q] at h1
    refine ⟨t, tru_D c.K g1 r1 q, ?_⟩
    cases t with
    | true => rw [if_pos rfl]; exact post_ok g1 h1 _ r1
    | false => rw [if_neg Bool.false_ne_true]; exact ⟨w1, σd, rfl, g1, rs.ext x1, h1⟩
theorem s_neg {a : Ex} {x : Expr} {pos : Pos} (ha : PE X x (tE G Φ W a)) : PE X (.UnaryOp .USub x pos) (tE G Φ W (.neg a)) := by
  refine PE.imp (pe_un un_neg ha) ?_
  rintro σ H Q ⟨w, σd, rfl, g, rs, hp⟩
  simp only [evE] at hp
  refine ⟨w, σd, rfl, g, rs, (Post.bind hp).mono fun d w1 x1 g1 h1 v1 r1 => ?_⟩
  cases d with
  | int i =>
    simp only [Rep] at r1
    exact ⟨i, r1, post_ok g1 h1 _ rep_int⟩
  | _ => exact absurd h1 fun z => z
theorem s_ite {c a b : Ex} {z x y : Expr} {pos : Pos} (hc : PT X z (tB' G Φ W c)) (ha : PE X x (tE G Φ W a)) (hb : PE X y (tE G Φ W b)) : PE X (.IfExp z x y pos) (tE G Φ W (.ite c a b)) := by
  refine PE.imp (pe_ifExp hc ha hb) ?_
  rintro σ H Q ⟨w, σd, rfl, g, rs, hp⟩
  rw [evE_ite] at hp
  refine ⟨w, σd, rfl, g, rs, (Post.bind hp).mono fun t w1 x1 g1 h1 => ?_⟩
  cases t with
  | true => rw [if_pos rfl] at h1 ⊢; exact ⟨w1, σd, rfl, g1, rs.ext x1, h1⟩
  | false => rw [if_neg Bool.false_ne_true] at h1 ⊢; exact ⟨w1, σd, rfl, g1, rs.ext x1, h1⟩

/-! ### displays -/
theorem s_nil : PA X [] (tL G Φ W []) := by
  refine PA.imp pa_nil ?_
  rintro σ H Q ⟨w, σd, rfl, g, rs, hp⟩
  simp only [evL] at hp
  exact post_ok g hp [] RepL.nil
theorem s_cons {e : Ex} {es : List Ex} {x : Expr} {xs : List Expr} (ha : PE X x (tE G Φ W e)) (hr : PA X xs (tL G Φ W es)) (hx : plainX x = true) : PA X (x :: xs) (tL G Φ W (e :: es)) := by
  refine PA.imp (pa_cons ha hr (star_of hx _ _)) ?_
  rintro σ H Q ⟨w, σd, rfl, g, rs, hp⟩
  simp only [evL] at hp
  refine ⟨w, σd, rfl, g, rs, (Post.bind hp).mono fun d w1 x1 g1 h1 v1 r1 => ?_⟩
  refine ⟨w1, σd, rfl, g1, rs.ext x1, (Post.bind h1).mono fun ds w2 x2 g2 h2 vs r2 => ?_⟩
  exact post_ok g2 h2 _ (RepL.cons (Rep.ext x2 _ _ r1) r2)
theorem k_nil : PK X [] (tK' G Φ W []) := by
  refine PK.imp pk_nil ?_
  rintro σ H Q ⟨w, σd, rfl, g, rs, hp⟩
  simp only [evK] at hp
  exact post_ok g hp [] RepL.nil
theorem k_cons {n : Str} {e : Ex} {es : List (Str × Ex)} {nm : Option Str} {x : Expr} {kp : Pos} {xs : List Keyword} (ha : PE X x (tE G Φ W e)) (hr : PK X xs (tK' G Φ W es)) : PK X (⟨nm, x, kp⟩ :: xs) (tK' G Φ W ((n, e) :: es)) := by
  refine PK.imp (pk_cons ha hr) ?_
  rintro σ H Q ⟨w, σd, rfl, g, rs, hp⟩
  simp only [evK] at hp
  refine ⟨w, σd, rfl, g, rs, (Post.bind hp).mono fun d w1 x1 g1 h1 v1 r1 => ?_⟩
  refine ⟨w1, σd, rfl, g1, rs.ext x1, (Post.bind h1).mono fun ds w2 x2 g2 h2 vs r2 => ?_⟩
  exact post_ok g2 h2 _ (RepL.cons (Rep.ext x2 _ _ r1) r2)
theorem s_tup {es : List Ex} {xs : List Expr} {n : Nat} {pos : Pos} (h : PA X xs (tL G Φ W es)) : PE X (.Tuple xs n pos) (tE G Φ W (.tup es)) := by
  refine PE.imp (pe_tup h) ?_
  rintro σ H Q ⟨w, σd, rfl, g, rs, hp⟩
  simp only [evE] at hp
  refine ⟨w, σd, rfl, g, rs, (Post.bind hp).mono fun ds w1 x1 g1 h1 vs r1 => ?_⟩
  split at h1
  · rename_i hl
    refine ⟨by rw [← r1.length]; exact hl, fun p hp => h1 _ (ext_new g1 hp) (wok_new g1 hp) rfl _ (rep_tup g1 hp r1)⟩
  · exact absurd h1 fun z => z
theorem s_lst {es : List Ex} {xs : List Expr} {pos : Pos} (h : PA X xs (tL G Φ W es)) : PE X (.List xs pos) (tE G Φ W (.lst es)) := by
  refine PE.imp (pe_lst h) ?_
  rintro σ H Q ⟨w, σd, rfl, g, rs, hp⟩
  simp only [evE] at hp
  refine ⟨w, σd, rfl, g, rs, (Post.bind hp).mono fun ds w1 x1 g1 h1 vs r1 => ?_⟩
  split at h1
  · rename_i hl
    refine ⟨by rw [← r1.length]; exact hl, fun p hp => h1 _ (ext_new g1 hp) (wok_new g1 hp) rfl _ (rep_lst g1 hp r1)⟩
  · exact absurd h1 fun z => z
theorem s_mls {es : List Ex} {xs : List Expr} {pos : Pos} (h : PA X xs (tL G Φ W es)) : PE X (.List xs pos) (tE G Φ W (.mls es)) := by
  refine PE.imp (pe_lst h) ?_
  rintro σ H Q ⟨w, σd, rfl, g, rs, hp⟩
  simp only [evE] at hp
  refine ⟨w, σd, rfl, g, rs, (Post.bind hp).mono fun ds w1 x1 g1 h1 vs r1 => ?_⟩
  split at h1
  · rename_i hl
    refine ⟨by rw [← r1.length]; exact hl, fun p hp => ?_⟩
    have x2 := ext_alloc (m := .lst ds) (o := .lst vs) g1 hp
    refine h1 (w1.alloc p (.lst ds) (.lst vs)) x2 (wok_alloc g1 hp ⟨vs, upd_same, RepL.ext x2 _ _ r1⟩) rfl (.ref p) ?_
    simp only [Rep]
    refine ⟨p, rfl, ?_⟩
    show (w1.as ++ [p])[w1.M.length]? = some p
    rw [← g1.len, List.getElem?_append_right (Nat.le_refl _), Nat.sub_self]
    rfl
  · exact absurd h1 fun z => z

/-! ### places, cuts -/
theorem s_ix (c : Ctx G Γ k X W) {a b : Ex} {x y : Expr} {pos : Pos} (ha : PE X x (tE G Φ W a)) (hb : PE X y (tE G Φ W b)) (hy : plainX y = true) : PE X (.Subscript x y pos) (tE G Φ W (.ix a b)) := by
  refine PE.imp (pe_ix (ix_D c.K) ha hb (ixPlain hy)) ?_
  rintro σ H Q ⟨w, σd, rfl, g, rs, hp⟩
  simp only [evE] at hp
  refine ⟨w, σd, rfl, g, rs, (Post.bind hp).mono fun d w1 x1 g1 h1 v1 r1 => ?_⟩
  refine ⟨w1, σd, rfl, g1, rs.ext x1, (Post.bind h1).mono fun e w2 x2 g2 h2 v2 r2 => ?_⟩
  obtain ⟨z, hz, h3⟩ := Post.of h2
  exact ⟨w2, d, e, z, rfl, g2, Rep.ext x2 _ _ r1, r2, hz, fun w3 v x3 g3 e3 r => h3 w3 x3 g3 e3 v r⟩
end
end Ev
/-! Ev7: cuts, calls, methods, targets, what is walked, comprehensions. -/
namespace Ev
open PySem L2
section
variable {G : Gb} {Φ : Nat → List D → Mem → Res D} {W : WX} {X : Cx} {k : Nat} {Γ : Cn}

/-! ### cuts -/
theorem o_none : PO X none (tO' G Φ W none) := by
  refine PO.imp po_none ?_
  rintro σ H Q ⟨w, σd, rfl, g, rs, hp⟩
  simp only [evO] at hp
  exact post_ok g hp
theorem o_some {a : Ex} {x : Expr} (ha : PE X x (tE G Φ W a)) : PO X (some x) (tO' G Φ W (some a)) := by
  refine PO.imp (po_some ha) ?_
  rintro σ H Q ⟨w, σd, rfl, g, rs, hp⟩
  simp only [evO] at hp
  refine ⟨w, σd, rfl, g, rs, (Post.bind hp).mono fun d w1 x1 g1 h1 v1 r1 => ?_⟩
  cases d with
  | int j =>
    simp only [Rep] at r1
    exact ⟨j, r1, post_ok g1 h1⟩
  | _ => exact absurd h1 fun z => z
theorem s_slc (c : Ctx G Γ k X W) {a : Ex} {lo hi : Option Ex} {x : Expr} {l h : Option Expr} {pos p2 : Pos} (ha : PE X x (tE G Φ W a)) (hl : PO X l (tO' G Φ W lo)) (hh : PO X h (tO' G Φ W hi)) : PE X (.Subscript x (.Slice l h none p2) pos) (tE G Φ W (.slc a lo hi)) := by
  refine PE.imp (pe_slice (sl_D c.K) ha hl hh) ?_
  rintro σ H Q ⟨w, σd, rfl, g, rs, hp⟩
  simp only [evE] at hp
  refine ⟨w, σd, rfl, g, rs, (Post.bind hp).mono fun d w1 x1 g1 h1 v1 r1 => ?_⟩
  refine ⟨w1, σd, rfl, g1, rs.ext x1, (Post.bind h1).mono fun i w2 x2 g2 h2 => ?_⟩
  refine ⟨w2, σd, rfl, g2, (rs.ext x1).ext x2, (Post.bind h2).mono fun j w3 x3 g3 h3 => ?_⟩
  obtain ⟨z, hz, h4⟩ := Post.of h3
  exact ⟨w3, d, z, rfl, g3, Rep.ext (x2.trans x3) _ _ r1, hz, fun w4 v x4 g4 e4 r => h4 w4 x4 g4 e4 v r⟩

/-! ### calls -/
theorem vals_perm {vs : List V} {us : List Value} (r : Vals vs us) : ∀ pm : List Nat, Vals (permV .non pm vs) (permV .none pm us)
  | [] => .nil
  | i :: pm => by
    refine .cons ?_ (vals_perm r pm)
    show RelV ((vs[i]?).getD .non) ((us[i]?).getD .none)
    cases e : vs[i]? with
    | none =>
      rw [r.none_of e]
      rfl
    | some v =>
      obtain ⟨u, hu, ru⟩ := r.get e
      rw [hu]
      exact ru
theorem repL_perm {w : Wd} {ds : List D} {vs : List V} (r : RepL G w ds vs) : ∀ pm : List Nat, RepL G w (permV .non pm ds) (permV .non pm vs)
  | [] => RepL.nil
  | i :: pm => by
    refine RepL.cons ?_ (repL_perm r pm)
    show Rep G w ((ds[i]?).getD .non) ((vs[i]?).getD .non)
    cases e : ds[i]? with
    | none =>
      have : vs[i]? = none := by
        rw [List.getElem?_eq_none_iff] at e ⊢
        rw [← r.length]
        exact e
      rw [this]
      exact rep_non
    | some d =>
      obtain ⟨v, hv, rv⟩ := r.get e
      rw [hv]
      exact rv
theorem Post.wish {α : Type} {w : Wd} {σ : L2.St} {r : Res α} {Qr : α → Wd → Prop} (h : Post G W σ w r Qr) : Post G (fun cls d _ H => WE W σ cls d H) [] w r Qr := by
  cases r <;> exact h
theorem evL_len : ∀ {es : List Ex} {σ : Env'} {M M' : Mem} {ds : List D}, evL Φ es σ M = .ok ds M' → ds.length = es.length
  | [], _, _, _, _, h => by simp only [evL] at h; cases h; rfl
  | e :: es, σ, M, M', ds, h => by
    simp only [evL] at h
    cases q : evE Φ e σ M with
    | ok d M1 =>
      rw [q] at h
      simp only [Res.bind_ok] at h
      cases q2 : evL Φ es σ M1 with
      | ok ds2 M2 =>
        rw [q2] at h
        cases h
        simp [evL_len q2]
      | ex _ _ _ => rw [q2] at h; cases h
      | no => rw [q2] at h; cases h
    | ex _ _ _ => rw [q] at h; cases h
    | no => rw [q] at h; cases h
theorem evK_len : ∀ {es : List (Str × Ex)} {σ : Env'} {M M' : Mem} {ds : List D}, evK Φ es σ M = .ok ds M' → ds.length = es.length
  | [], _, _, _, _, h => by simp only [evK] at h; cases h; rfl
  | (n, e) :: es, σ, M, M', ds, h => by
    simp only [evK] at h
    cases q : evE Φ e σ M with
    | ok d M1 =>
      rw [q] at h
      simp only [Res.bind_ok] at h
      cases q2 : evK Φ es σ M1 with
      | ok ds2 M2 =>
        rw [q2] at h
        cases h
        simp [evK_len q2]
      | ex _ _ _ => rw [q2] at h; cases h
      | no => rw [q2] at h; cases h
    | ex _ _ _ => rw [q] at h; cases h
    | no => rw [q] at h; cases h
theorem s_call (c : Ctx G Γ k X W) {f : Nat} {d : Df} {pm : List Nat} {x : Str} {es : List Ex} {ks : List (Str × Ex)} {args : List Expr} {kws : List Keyword} {p pos : Pos} (hd : Γ.P[f]? = some d) (hx : d.name = x) (hgl : glB Γ.sc x = true) (hok : okName x = true)
    (hL : mL es Γ args = true) (hK : mK ks Γ kws = true) (hsh : (es.length, ks.map (·.1), pm) ∈ d.shapes) (ha : PA X args (tL G (evF Γ.P k) W es)) (hk : PK X kws (tK' G (evF Γ.P k) W ks)) :
    PE X (.Call (.Name x p) args kws pos) (tE G (evF Γ.P k) W (.call f es ks pm)) := by
  obtain ⟨fa, fd, gm, kp, F, sh⟩ := c.tab f d hd
  rw [hx] at gm
  have hgx : Gl X x := by
    show X.env.scope.names.lookup x = some .globalImplicit
    rw [c.sc]
    unfold glB at hgl
    split at hgl <;> first | assumption | cases hgl
  simp only [okName, Bool.and_eq_true, Bool.not_eq_true'] at hok
  refine ⟨fun pins s σ H Q I h => ?_⟩
  refine PySem.wpAny_Call_Name_kw (ld_glob I hgx gm ?_ hok.1.1)
  have run : ∀ (s2 : Shared) (H2 : Hp) (us ws : List Value) (vs zs : List V), Inv X pins σ H2 s2 → Vals vs us → Vals zs ws → vs.length = es.length → zs.length = ks.length → spF G Γ.P k f (permV .non pm (vs ++ zs)) H2 Q (WE W σ) →
      wpAny (model X.prog X.w) X.A (call (.ref fa) us ((ks.map (·.1)).zip ws)) (EP X pins σ Q) X.xe s2 := fun s2 H2 us ws vs zs I2 rv rz l1 l2 hsp => by
    have b := sh _ hsh s2 us ws (by rw [← rv.length]; exact l1) (by rw [← rz.length, l2, List.length_map])
    refine PySem.wpAny_call (codeAny_mono (F.run X.A X.stack s2 H2 ⟨us, (ks.map (·.1)).zip ws⟩ _ _ Q (WE W σ) c.room c.gd I2.env0 b (vals_perm (rv.append rz) pm) hsp) fun r s' hq => ?_)
    cases r with
    | error e => exact passAt c.tk σ pins H2 s2 e s' I2 hq
    | ok fl =>
      cases fl with
      | ret u => exact I2.after hq
      | next => exact False.elim hq
      | brk => exact False.elim hq
      | cont => exact False.elim hq
  obtain ⟨n1, n2, n3⟩ := mK_names hK pos X.env
  obtain ⟨w, σd, rfl, g, rs, hp⟩ := h
  simp only [evE] at hp
  -- behind the arguments: the keywords, then the call
  have kwp : ∀ (s1 : Shared) (w1 : Wd) (us : List Value) (ds : List D) (vs : List V), Inv X pins σ w1.H s1 → WOk G w1 → RepS G w1 σd σ → Vals vs us → RepL G w1 ds vs → ds.length = es.length →
      Post G W σ w1 ((evK (evF Γ.P k) ks σd w1.M).bind fun us M2 => evF Γ.P k f (pm.map fun i => ((ds ++ us)[i]?).getD .non) M2) (fun d w' => ∀ v, Rep G w' d v → Q v w'.H) →
      wpAny (model X.prog X.w) X.A (evalAll ((backToKw pos (keywordEach kws X.env)).map (·.2))) (fun ws s₂ => X.K.In s₂.heap ∧ wpAny (model X.prog X.w) X.A (call (.ref fa) us (((backToKw pos (keywordEach kws X.env)).filterMap (·.1)).zip ws)) (EP X pins σ Q) X.xe s₂) X.xe s1 := fun s1 w1 us ds vs I1 g1 rs1 rv rl hl h1 => by
    refine thn (hk.run pos pins s1 σ w1.H (fun zs H2 => zs.length = ks.length ∧ spF G Γ.P k f (permV .non pm (vs ++ zs)) H2 Q (WE W σ)) I1 ⟨w1, σd, rfl, g1, rs1, (Post.bind h1).monoE fun zs w2 ez x2 g2 h2 ys ry => ?_⟩) fun ws s2 ⟨zs, H2, I2, rz, lz, q2⟩ => ⟨I2.kIn, ?_⟩
    · refine ⟨by rw [← ry.length]; exact evK_len ez, w2, _, rfl, g2, repL_perm ((RepL.ext x2 _ _ rl).append ry) pm, Post.wish h2⟩
    · rw [n3]
      exact run s2 H2 us ws vs zs I2 rv rz (by rw [← rl.length]; exact hl) lz q2
  cases args with
  | nil =>
    cases es with
    | cons _ _ => simp [mL] at hL
    | nil =>
      refine PySem.W.callWith_KW0 (h₀ := X.base) I.ok.mod.kin kp n1 ?_ (by rw [n2]; rfl)
      exact kwp s w [] [] [] I g rs .nil RepL.nil rfl hp
  | cons e rest =>
    cases es with
    | nil => simp [mL] at hL
    | cons e' es' =>
      simp only [mL, Bool.and_eq_true] at hL
      have hst := star_of (mE_plain hL.1) rest X.env
      refine PySem.W.callWith_KW (h₀ := X.base) I.ok.mod.kin kp n1 (thn (ha.run pos pins s σ w.H (fun vs H1 => ∃ w1 ds, w1.H = H1 ∧ WOk G w1 ∧ RepS G w1 σd σ ∧ RepL G w1 ds vs ∧ ds.length = (e' :: es').length ∧
        Post G W σ w1 ((evK (evF Γ.P k) ks σd w1.M).bind fun us M2 => evF Γ.P k f (pm.map fun i => ((ds ++ us)[i]?).getD .non) M2) (fun d w' => ∀ v, Rep G w' d v → Q v w'.H)) I ⟨w, σd, rfl, g, rs, (Post.bind hp).monoE fun ds w1 ed x1 g1 h1 vs rv => ⟨w1, ds, rfl, g1, rs.ext x1, rv, evL_len ed, h1⟩⟩) fun us s1 ⟨vs, H1, I1, r1, w1, ds, e1, g1, rs1, rl, hl, h1⟩ => ?_) ?_ hst
      · subst e1
        exact kwp s1 w1 us ds vs I1 g1 rs1 r1 rl hl h1
      · rw [hst, n2]
        show ((false || (backTo pos (starEach rest X.env)).any (·.1)) || false) = false
        rw [mL_star hL.2]
        rfl
end
end Ev
/-! Ev8: built-in calls, methods, targets, what is walked, comprehensions. -/
namespace Ev
open PySem L2
section
variable {G : Gb} {Φ : Nat → List D → Mem → Res D} {W : WX} {X : Cx} {k : Nat} {Γ : Cn}

theorem gl_of (c : Ctx G Γ k X W) {x : Str} (hgl : glB Γ.sc x = true) : Gl X x := by
  show X.env.scope.names.lookup x = some .globalImplicit
  rw [c.sc]
  unfold glB at hgl
  split at hgl <;> first | assumption | cases hgl
theorem mg_none (c : Ctx G Γ k X W) {x : Str} (h : Γ.bs.contains x = true) : X.mg x = none := c.blt x (by simpa using h)
theorem ok_parts {x : Str} (h : okName x = true) : (x == ("__debug__" : Str)) = false ∧ x ≠ ("__name__" : Str) := by
  simp only [okName, Bool.and_eq_true, Bool.not_eq_true'] at h
  exact ⟨h.1.1, by simpa using h.2⟩

/-! ### built-in calls -/
theorem bi_boot : ∀ b : Bi, bootBuiltins (biName b) = some (biVal b)
  | .int => PyProof.Rows.boot_int
  | .len => PySem.boot_len
  | .abs => PyProof.Rows.boot_abs
  | .repr => PyProof.Rows.boot_repr
  | .str => PyProof.Rows.boot_str
  | .tuple => PyProof.Rows.boot_tuple
  | .list => PyProof.Rows.boot_list
theorem s_bi (c : Ctx G Γ k X W) {b : Bi} {x : Str} {es : List Ex} {args : List Expr} {p pos : Pos} (hx : x = biName b) (hgl : glB Γ.sc x = true) (hok : okName x = true) (hbs : Γ.bs.contains x = true) (hL : mL es Γ args = true) (hne : args ≠ [])
    (ha : PA X args (tL G Φ W es)) : PE X (.Call (.Name x p) args [] pos) (tE G Φ W (.bi b es)) := by
  subst hx
  obtain ⟨o1, o2⟩ := ok_parts hok
  cases args with
  | nil => exact absurd rfl hne
  | cons e rest =>
    cases es with
    | nil => simp [mL] at hL
    | cons e' es' =>
      simp only [mL, Bool.and_eq_true] at hL
      have hst := star_of (mE_plain hL.1) rest X.env
      have hpl := mL_star hL.2 pos X.env
      have cr := call_bi (X := X) (G := G) c.K (units_of c) c.gd b
      have base : PE X (.Call (.Name (biName b) p) (e :: rest) [] pos) (tCB (rCall G (evBi b)) (tL G Φ W (e' :: es'))) := by
        have bb := bi_boot b
        cases b with
        | int => exact pe_callTy cr (gl_of c hgl) (mg_none c hbs) bb ha o2 o1 hst hpl
        | str => exact pe_callTy cr (gl_of c hgl) (mg_none c hbs) bb ha o2 o1 hst hpl
        | tuple => exact pe_callTy cr (gl_of c hgl) (mg_none c hbs) bb ha o2 o1 hst hpl
        | list => exact pe_callTy cr (gl_of c hgl) (mg_none c hbs) bb ha o2 o1 hst hpl
        | len => exact pe_callB cr (gl_of c hgl) (mg_none c hbs) bb ha o2 o1 hst hpl
        | abs => exact pe_callB cr (gl_of c hgl) (mg_none c hbs) bb ha o2 o1 hst hpl
        | repr => exact pe_callB cr (gl_of c hgl) (mg_none c hbs) bb ha o2 o1 hst hpl
      refine PE.imp base ?_
      rintro σ H Q ⟨w, σd, rfl, g, rs, hp⟩
      simp only [evE] at hp
      refine ⟨w, σd, rfl, g, rs, (Post.bind hp).mono fun ds w1 x1 g1 h1 vs r1 => ?_⟩
      obtain ⟨z, hz, h2⟩ := Post.of h1
      exact ⟨w1, ds, z, rfl, g1, r1, hz, fun w2 v x2 g2 e2 r => h2 w2 x2 g2 e2 v r⟩
theorem ty_boot {t : String} (h : tyAsk.contains t = true) : bootBuiltins (Str.ofString t) = some (.type t) := by
  have hm : t ∈ tyAsk := by simpa using h
  simp only [tyAsk, List.mem_cons, List.mem_nil_iff, or_false] at hm
  rcases hm with rfl | rfl | rfl | rfl | rfl | rfl
  · exact PyProof.Rows.boot_int
  · exact PyProof.Rows.boot_bool
  · exact PyProof.Rows.boot_str
  · exact PyProof.Rows.boot_list
  · exact PyProof.Rows.boot_tuple
  · exact PyProof.Rows.boot_dict
theorem pe_ty (c : Ctx G Γ k X W) {t : String} {e : Expr} (h : mTy Γ t e = true) (ht : tyAsk.contains t = true) : PE X e (tC (.ty t)) := by
  cases e with
  | Name x p =>
    simp only [mTy, Bool.and_eq_true, eqS, decide_eq_true_eq] at h
    obtain ⟨⟨⟨rfl, h2⟩, h3⟩, h4⟩ := h
    obtain ⟨o1, o2⟩ := ok_parts h4
    exact pe_bltn (gl_of c h2) (mg_none c (by simpa using h3)) (ty_boot ht) rfl o2 o1
  | _ => simp [mTy] at h
theorem mTy_plain {t : String} {e : Expr} (h : mTy Γ t e = true) : plainX e = true := by
  cases e <;> first | rfl | simp [mTy] at h
def tTys (ts : List String) : TA := fun _ H Q => Q (tyVs ts) H
theorem pa_tys (c : Ctx G Γ k X W) : ∀ {ts : List String} {es : List Expr}, mTys Γ ts es = true → (∀ t ∈ ts, tyAsk.contains t = true) → PA X es (tTys ts)
  | [], [], _, _ => pa_nil
  | [], _ :: _, h, _ => by simp [mTys] at h
  | _ :: _, [], h, _ => by simp [mTys] at h
  | t :: ts, e :: es, h, ht => by
    simp only [mTys, Bool.and_eq_true] at h
    exact PA.imp (pa_cons (pe_ty c h.1 (ht t (List.mem_cons_self ..))) (pa_tys c h.2 fun t' h' => ht t' (List.mem_cons_of_mem _ h')) (star_of (mTy_plain h.1) _ _)) fun σ H Q q => q
theorem s_isi (c : Ctx G Γ k X W) {ts : List String} {x : Str} {e : Ex} {a cl : Expr} {p pos : Pos} (hx : x = "isinstance") (hgl : glB Γ.sc x = true) (hok : okName x = true) (hbs : Γ.bs.contains x = true) (ht : ∀ t ∈ ts, tyAsk.contains t = true) (hT : mTyE Γ ts cl = true)
    (hpa : plainX a = true) (ha : PE X a (tE G Φ W e)) : PE X (.Call (.Name x p) [a, cl] [] pos) (tE G Φ W (.isi e ts)) := by
  subst hx
  obtain ⟨o1, o2⟩ := ok_parts hok
  have fin : ∀ {σ : L2.St} {w : Wd} {d : D} {Q : VK}, WOk G w → Post G W σ w (Res.of ((isiD ts d).map .bl) w.M) (fun d w' => ∀ v, Rep G w' d v → Q v w'.H) → ∃ b, isiD ts d = some b ∧ Post G W σ w (.ok (.bl b) w.M) (fun d w' => ∀ v, Rep G w' d v → Q v w'.H) := fun {σ w d Q} g h => by
    obtain ⟨z, hz, h2⟩ := Post.of h
    obtain ⟨b, hb, rfl⟩ := Option.map_eq_some_iff.mp hz
    exact ⟨b, hb, h2⟩
  by_cases htp : ∃ xs n q, cl = .Tuple xs n q
  · obtain ⟨xs, n, q, rfl⟩ := htp
    simp only [mTyE, Bool.and_eq_true] at hT
    have pc := pe_tup (x1 := n) (pos := q) (pa_tys c hT.1 ht)
    refine PE.imp (pe_callB (isi_many (ts := ts) c.K) (gl_of c hgl) (mg_none c hbs) PyProof.Rows.boot_isinstance (pa_cons ha (pa_cons pc pa_nil (by rfl)) (star_of hpa _ _)) o2 o1 (star_of hpa _ _) (by rfl)) ?_
    rintro σ H Q ⟨w, σd, rfl, g, rs, hp⟩
    simp only [evE] at hp
    refine ⟨w, σd, rfl, g, rs, (Post.bind hp).mono fun d w1 x1 g1 h1 v1 r1 => ?_⟩
    obtain ⟨b, hb, h2⟩ := fin g1 h1
    refine ⟨?_, fun tp htp => ?_⟩
    · have hl : ts.length ≤ 100 := of_decide_eq_true hT.2
      show (tyVs ts).length ≤ sizeLine
      rw [tyVs, List.length_map, sizeLine_eq]
      omega
    · exact ⟨{ w1 with H := upd w1.H tp (.tup (tyVs ts)) }, d, b, v1, tp, rfl, wok_new g1 htp, rfl, upd_same, Rep.ext (ext_new g1 htp) _ _ r1, hb, h2 _ (ext_new g1 htp) (wok_new g1 htp) rfl _ rep_bl⟩
  · have hone : ∃ t, ts = [t] ∧ mTy Γ t cl = true := by
      unfold mTyE at hT
      split at hT
      · exact absurd ⟨_, _, _, rfl⟩ htp
      · split at hT
        · exact ⟨_, rfl, hT⟩
        · cases hT
    obtain ⟨t, rfl, h1⟩ := hone
    have pc := pe_ty c h1 (ht t (List.mem_cons_self ..))
    refine PE.imp (pe_callB (isi_one (t := t) c.K) (gl_of c hgl) (mg_none c hbs) PyProof.Rows.boot_isinstance (pa_cons ha (pa_cons pc pa_nil (star_of (mTy_plain h1) _ _)) (star_of hpa _ _)) o2 o1 (star_of hpa _ _) (by rw [star_of (mTy_plain h1)]; rfl)) ?_
    rintro σ H Q ⟨w, σd, rfl, g, rs, hp⟩
    simp only [evE] at hp
    refine ⟨w, σd, rfl, g, rs, (Post.bind hp).mono fun d w1 x1 g1 h2 v1 r1 => ?_⟩
    obtain ⟨b, hb, h3⟩ := fin g1 h2
    exact ⟨w1, d, b, v1, rfl, g1, rfl, r1, hb, post_ok g1 h3 _ rep_bl⟩

/-! ### methods -/
theorem mt_facts (m : Mt) : PlainAttrs (mtTy m) ∧ Slot (mtTy m) (mtName m) (mtId m) ∧ typeOf (.builtin (mtId m)) = pure (.type "method_descriptor") := by
  cases m with
  | append => exact ⟨PySem.F.plainAttrs_list, PySem.F.slot_list_append, PySem.F.type_list_append⟩
  | extend => exact ⟨PySem.F.plainAttrs_list, PySem.F.slot_list_extend, PySem.F.type_list_extend⟩
  | pop => exact ⟨PySem.F.plainAttrs_list, PySem.F.slot_list_pop, PySem.F.type_list_pop⟩
  | index => exact ⟨PySem.F.plainAttrs_list, PySem.F.slot_list_index, PySem.F.type_list_index⟩
  | join => exact ⟨PySem.F.plainAttrs_str, PySem.F.slot_str_join, PySem.F.type_str_join⟩
  | split => exact ⟨PySem.F.plainAttrs_str, PySem.F.slot_str_split, PySem.F.type_str_split⟩
  | startswith => exact ⟨PySem.F.plainAttrs_str, PySem.F.slot_str_startswith, PySem.F.type_str_startswith⟩
theorem mt_tyV (hK : X.K = G.K) {w : Wd} (g : WOk G w) {m : Mt} {o : D} {v : V} (r : Rep G w o v) (h : mtFit m o w.M = true) : tyV X.K (mtTy m) v w.H := by
  have lst : (seqL w.M o).isSome = true → tyV X.K "list" v w.H := fun h => by
    obtain ⟨xs, hx⟩ := Option.isSome_iff_exists.mp h
    obtain ⟨a, vs, rfl, h1, _⟩ := Rep.lst g r hx
    exact .inl ⟨rfl, vs, by rw [hK]; exact h1⟩
  have str : isStrD o = true → tyV X.K "str" v w.H := fun h => by
    cases o with
    | str s => simp only [Rep] at r; subst r; exact rfl
    | _ => cases h
  cases m with
  | append => exact lst h
  | extend => exact lst h
  | pop => exact lst h
  | index => exact lst h
  | join => exact str h
  | split => exact str h
  | startswith => exact str h
theorem s_meth (c : Ctx G Γ k X W) {m : Mt} {o : Ex} {es : List Ex} {y : Expr} {args : List Expr} {apos cpos : Pos} (hb : attrOk y = true) (hL : mL es Γ args = true) (hne : args ≠ []) (hline : (apos.endLine == cpos.line) = true) (hfew : args.length < 20)
    (ho : PE X y (tE G Φ W o)) (ha : PA X args (tL G Φ W es)) : PE X (.Call (.Attribute y (mtName m) apos) args [] cpos) (tE G Φ W (.meth m o es)) := by
  obtain ⟨f1, f2, f3⟩ := mt_facts m
  cases args with
  | nil => exact absurd rfl hne
  | cons e rest =>
    cases es with
    | nil => simp [mL] at hL
    | cons e' es' =>
      have hL' := hL
      simp only [mL, Bool.and_eq_true] at hL
      have hst := star_of (mE_plain hL.1) rest X.env
      have hpl := mL_star hL.2 cpos X.env
      refine PE.imp (pe_bm f1 f2 f3 (mt_D (G := G) m) ho ha (attr_base hb _ _) ?_ hline hst hpl) ?_
      · rw [mL_all hL' cpos X.env]
        simp only [List.length_cons] at hfew ⊢
        show (true && true && decide (rest.length + 1 + 0 + 0 < 30)) = true
        simp
        omega
      · rintro σ H Q ⟨w, σd, rfl, g, rs, hp⟩
        simp only [evE] at hp
        refine ⟨w, σd, rfl, g, rs, (Post.bind hp).mono fun d w1 x1 g1 h1 v1 r1 => ?_⟩
        split at h1
        · rename_i hf
          refine ⟨mt_tyV c.K g1 r1 hf, w1, σd, rfl, g1, rs.ext x1, (Post.bind h1).mono fun ds w2 x2 g2 h2 vs r2 => ?_⟩
          obtain ⟨z, M', hz, h3⟩ := Post.ofM h2
          exact ⟨w2, d, ds, z, M', rfl, g2, Rep.ext x2 _ _ r1, r2, hz, fun w3 v x3 g3 e3 r => h3 w3 x3 g3 e3 v r⟩
        · exact absurd h1 fun z => z
end
end Ev
/-! Ev9: targets, what is walked, comprehensions. -/
namespace Ev
open PySem L2
section
variable {G : Gb} {Φ : Nat → List D → Mem → Res D} {W : WX} {X : Cx} {k : Nat} {Γ : Cn}

theorem Res.bind_ok_iff {α β : Type} {r : Res α} {f : α → Mem → Res β} {b : β} {M : Mem} (h : r.bind f = .ok b M) : ∃ a M1, r = .ok a M1 ∧ f a M1 = .ok b M := by
  cases r with
  | ok a M1 => exact ⟨a, M1, rfl, h⟩
  | ex _ _ _ => cases h
  | no => cases h
theorem Post.sure {α β : Type} {w : Wd} {σ : L2.St} {r : Res α} {f : α → Mem → Res β} {Qr : β → Wd → Prop} (h : Post G W σ w (r.sure.bind f) Qr) : Post G W σ w (r.bind f) Qr := by
  cases r with
  | ok a M => exact h
  | ex _ _ _ => exact absurd h fun z => z
  | no => exact h

/-! ### targets -/
/-- the other slots stay -/
def Off (is : List Nat) (σ σ' : L2.St) : Prop := σ'.length = σ.length ∧ ∀ j, j ∉ is → σ'[j]? = σ[j]?
theorem Off.refl (is : List Nat) (σ : L2.St) : Off is σ σ := ⟨rfl, fun _ _ => rfl⟩
theorem Off.trans {is js : List Nat} {a b c : L2.St} (x : Off is a b) (y : Off js b c) : Off (is ++ js) a c :=
  ⟨y.1.trans x.1, fun j h => (y.2 j fun z => h (List.mem_append_right _ z)).trans (x.2 j fun z => h (List.mem_append_left _ z))⟩
section
variable (G Φ W)
def tTg (t : Tg) : TG := fun v σ H Q => ∃ w σd d, w.H = H ∧ WOk G w ∧ RepS G w σd σ ∧ Rep G w d v ∧ Post G W σ w (evT Φ t d σd w.M) fun σd' w' => ∀ σ', RepS G w' σd' σ' → Off (tgS t) σ σ' → Q σ' w'.H
def tTgs (ts : List Tg) : TGs := fun vs σ H Q => ∃ w σd ds, w.H = H ∧ WOk G w ∧ RepS G w σd σ ∧ RepL G w ds vs ∧ Post G W σ w (evTs Φ ts ds σd w.M) fun σd' w' => ∀ σ', RepS G w' σd' σ' → Off (tgSs ts) σ σ' → Q σ' w'.H
end
theorem PGs.imp {X : Cx} {es : List Expr} {t t' : TGs} (h : PGs X es t) (k : ∀ v σ H Q, t' v σ H Q → t v σ H Q) : PGs X es t' := ⟨fun pins s σ H v u Q I r q => h.run pins s σ H v u Q I r (k v σ H Q q)⟩
theorem loc_of {sc : Scope} {x : Str} (h : locB sc x = true) : Loc sc x := by
  unfold locB at h
  split at h <;> first
    | exact .inl (by assumption)
    | exact .inr (by assumption)
    | cases h
theorem g_nm (c : Ctx G Γ k X W) {i : Nat} {x : Str} {pos : Pos} (hi : Γ.N[i]? = some x) (hl : locB Γ.st x = true) : PG X (.Name x pos) (tTg G Φ W (.nm i)) := by
  obtain ⟨h1, h2⟩ := c.store x (loc_of hl)
  refine PG.imp (pg_name (i := i) (by rw [c.N]; exact c.nd) (by rw [c.N]; exact hi) h1 h2) ?_
  rintro v σ H Q ⟨w, σd, d, rfl, g, rs, r, hp⟩
  simp only [evT] at hp
  refine post_ok g hp _ (rs.set i r) ⟨by simp, fun j hj => ?_⟩
  simp only [tgS, List.mem_singleton] at hj
  exact List.getElem?_set_ne (fun z => hj z.symm)
theorem g_nil : PGs X [] (tTgs G Φ W []) := by
  refine PGs.imp pgs_nil ?_
  rintro v σ H Q ⟨w, σd, ds, rfl, g, rs, r, hp⟩
  cases ds with
  | nil =>
    simp only [evTs] at hp
    simp only [RepL] at r
    exact ⟨r, post_ok g hp _ rs (Off.refl _ _)⟩
  | cons _ _ => simp only [evTs] at hp; exact hp.elim
theorem assign_plain {e : Expr} (h : plainX e = true) (es : List Expr) (env : Env) : assignEach (e :: es) env = (false, assign e env) :: assignEach es env := by
  cases e <;> first
    | rfl
    | (simp [plainX] at h)
theorem Post.off {w : Wd} {σ σ1 : L2.St} {α : Type} {r : Res α} {Qr : α → Wd → Prop} (nx : ∀ c fs M, r ≠ .ex c fs M) (h : Post G W σ w r Qr) : Post G W σ1 w r Qr := by
  cases r with
  | ok a M => exact h
  | ex c fs M => exact absurd rfl (nx c fs M)
  | no => exact h
theorem Res.sure_nx {α β : Type} {r : Res α} {f : α → Mem → Res β} (hf : ∀ a M c fs M', f a M ≠ .ex c fs M') : ∀ c fs M, r.sure.bind f ≠ .ex c fs M := by
  intro c fs M h
  cases r with
  | ok a M1 => exact hf a M1 c fs M h
  | ex _ _ _ => cases h
  | no => cases h
mutual
theorem evT_nx : ∀ (t : Tg) (d : D) (σ : Env') (M : Mem) (c : Nat) (fs : List (Str × D)) (M' : Mem), evT Φ t d σ M ≠ .ex c fs M'
  | .nm i, d, σ, M, c, fs, M', h => by simp only [evT] at h; cases h
  | .tp ts, d, σ, M, c, fs, M', h => by
    simp only [evT] at h
    split at h
    · exact evTs_nx ts _ σ M c fs M' h
    · cases h
  | .sub a b, d, σ, M, c, fs, M', h => by
    simp only [evT] at h
    refine Res.sure_nx (fun x M1 => Res.sure_nx fun y M2 c fs M' h => ?_) c fs M' h
    split at h
    · split at h
      · split at h
        · cases h
        · cases h
      · cases h
    · cases h
  | .fld a f, d, σ, M, c, fs, M', h => by simp only [evT] at h; cases h
theorem evTs_nx : ∀ (ts : List Tg) (ds : List D) (σ : Env') (M : Mem) (c : Nat) (fs : List (Str × D)) (M' : Mem), evTs Φ ts ds σ M ≠ .ex c fs M'
  | [], [], σ, M, c, fs, M', h => by simp only [evTs] at h; cases h
  | [], _ :: _, σ, M, c, fs, M', h => by simp only [evTs] at h; cases h
  | _ :: _, [], σ, M, c, fs, M', h => by simp only [evTs] at h; cases h
  | t :: ts, d :: ds, σ, M, c, fs, M', h => by
    simp only [evTs] at h
    cases q : evT Φ t d σ M with
    | ok σ1 M1 => rw [q] at h; exact evTs_nx ts ds σ1 M1 c fs M' h
    | ex c2 fs2 M2 => exact evT_nx t d σ M c2 fs2 M2 q
    | no => rw [q] at h; cases h
end
theorem g_cons {t : Tg} {ts : List Tg} {e : Expr} {es : List Expr} (h1 : PG X e (tTg G Φ W t)) (h2 : PGs X es (tTgs G Φ W ts)) (he : plainX e = true) : PGs X (e :: es) (tTgs G Φ W (t :: ts)) := by
  refine PGs.imp (pgs_cons h1 h2 (by rw [assign_plain he]; rfl)) ?_
  rintro v σ H Q ⟨w, σd, ds, rfl, g, rs, r, hp⟩
  cases ds with
  | nil => simp only [evTs] at hp; exact hp.elim
  | cons d ds =>
    simp only [RepL] at r
    obtain ⟨u, us, rfl, r1, r2⟩ := r
    simp only [evTs] at hp
    refine ⟨u, us, rfl, w, σd, d, rfl, g, rs, r1, (Post.bind hp).mono fun σd1 w1 x1 g1 h1 σ1 rs1 off1 => ?_⟩
    exact ⟨w1, σd1, ds, rfl, g1, rs1, RepL.ext x1 _ _ r2, (Post.off (fun c fs M => evTs_nx ts ds σd1 w1.M c fs M) h1).mono fun σd2 w2 x2 g2 h2 σ2 rs2 off2 => h2 σ2 rs2 (by simp only [tgSs]; exact off1.trans off2)⟩
theorem mT_plain {t : Tg} {e : Expr} (h : mT t Γ e = true) : plainX e = true := by
  cases e <;> first
    | rfl
    | (cases t <;> simp [mT] at h)
theorem mTs_len {ts : List Tg} : ∀ {es : List Expr}, mTs ts Γ es = true → ∀ env, (assignEach es env).length = ts.length ∧ (assignEach es env).findIdx? (·.1) = none := by
  induction ts with
  | nil =>
    intro es h env
    cases es with
    | nil => exact ⟨rfl, rfl⟩
    | cons _ _ => simp [mTs] at h
  | cons t ts ih =>
    intro es h env
    cases es with
    | nil => simp [mTs] at h
    | cons e es =>
      simp only [mTs, Bool.and_eq_true] at h
      obtain ⟨i1, i2⟩ := ih h.2 env
      rw [assign_plain (mT_plain h.1)]
      refine ⟨by simp [i1], ?_⟩
      rw [List.findIdx?_cons]
      simp [i2]
theorem g_tup (c : Ctx G Γ k X W) {ts : List Tg} {es : List Expr} {n : Nat} {pos : Pos} (hm : mTs ts Γ es = true) (h : PGs X es (tTgs G Φ W ts)) : PG X (.Tuple es n pos) (tTg G Φ W (.tp ts)) := by
  obtain ⟨i1, i2⟩ := mTs_len hm X.env
  refine PG.imp (pg_tup c.calm h i1 i2) ?_
  rintro v σ H Q ⟨w, σd, d, rfl, g, rs, r, hp⟩
  simp only [evT] at hp
  split at hp
  · rename_i ds
    obtain ⟨a, vs, rfl, h1, h2⟩ := Rep.tup r
    have hl : ds.length = ts.length := by
      have : ∀ (ts : List Tg) (ds : List D) (σd : Env') (M : Mem) (Qr : Env' → Wd → Prop), Post G W σ w (evTs Φ ts ds σd M) Qr → ds.length = ts.length := by
        intro ts
        induction ts with
        | nil => intro ds σd M Qr h; cases ds with
          | nil => rfl
          | cons _ _ => simp only [evTs] at h; exact h.elim
        | cons t ts ih => intro ds σd M Qr h; cases ds with
          | nil => simp only [evTs] at h; exact h.elim
          | cons d ds =>
            simp only [evTs] at h
            cases q : evT Φ t d σd M with
            | ok σ1 M1 => rw [q] at h; simp [ih ds σ1 M1 Qr h]
            | ex c2 fs2 M2 => exact absurd q (evT_nx t d σd M c2 fs2 M2)
            | no => rw [q] at h; exact absurd h fun z => z
      exact this ts ds σd w.M _ hp
    exact ⟨a, vs, rfl, by rw [c.K]; exact h1, by rw [← h2.length]; exact hl, w, σd, ds, rfl, g, rs, h2, hp⟩
  · exact absurd hp fun z => z
/-- o[i] = v, o a cell -/
def rSetD (G : Gb) : TSet := fun o i v H Q => ∃ w j ki xs d jj, w.H = H ∧ WOk G w ∧ Rep G w (.cell j) o ∧ i = .int ki ∧ Rep G w d v ∧ w.M[j]? = some (some (.lst xs)) ∧ ixN xs.length ki = some jj ∧ ∀ w', Ext w w' → WOk G w' → w'.M = w.M.set j (some (.lst (xs.set jj d))) → Q w'.H
theorem set_D : PSet X (rSetD G) := by
  intro pins s σ H o i v ov iv u Q I ro ri rv h
  obtain ⟨w, j, ki, xs, d, jj, rfl, g, r1, rfl, r2, hm, hj, q⟩ := h
  obtain ⟨a, vs, rfl, ha, h1, h2⟩ := cell_lst g r1 hm
  refine set_list pins s σ w.H _ _ v ov iv u Q I ro ri rv ⟨a, vs, ki, jj, rfl, rfl, h1, by rw [← h2.length]; exact hj, ?_⟩
  exact q (w.put j a (.lst (xs.set jj d)) (.lst (vs.set jj v))) (ext_put ha hm) (put_lst g ha hm (h2.set jj r2)) rfl
theorem g_sub {a b : Ex} {x y : Expr} {pos : Pos} (ha : PE X x (tE G Φ W a)) (hb : PE X y (tE G Φ W b)) (hy : plainX y = true) : PG X (.Subscript x y pos) (tTg G Φ W (.sub a b)) := by
  refine PG.imp (pg_sub ha hb (set_D (G := G)) ?_) ?_
  · intro v
    cases y <;> first
      | rfl
      | (simp [plainX] at hy)
  · rintro v σ H Q ⟨w, σd, d, rfl, g, rs, r, hp⟩
    simp only [evT] at hp
    refine ⟨w, σd, rfl, g, rs, (Post.bind (Post.sure hp)).mono fun o w1 x1 g1 h1 v1 r1 => ?_⟩
    refine ⟨w1, σd, rfl, g1, rs.ext x1, (Post.bind (Post.sure h1)).mono fun i w2 x2 g2 h2 v2 r2 => ?_⟩
    split at h2
    · rename_i j ki
      split at h2
      · rename_i xs hm
        split at h2
        · rename_i jj hj
          simp only [Rep] at r2
          exact ⟨w2, j, ki, xs, d, jj, rfl, g2, Rep.ext x2 _ _ r1, r2, Rep.ext (x1.trans x2) _ _ r, hm, hj, fun w3 x3 g3 e3 => h2 w3 x3 g3 e3 σ (rs.ext ((x1.trans x2).trans x3)) (Off.refl _ _)⟩
        · exact absurd h2 fun z => z
      · exact absurd h2 fun z => z
    · exact absurd h2 fun z => z
end
end Ev
/-! Ev10: what is walked, comprehensions. -/
namespace Ev
open PySem L2
section
variable {G : Gb} {Φ : Nat → List D → Mem → Res D} {W : WX} {X : Cx} {k : Nat} {Γ : Cn}

/-- J hands out what stands for ds, one behind another, in every world that knows w0's values -/
def Walks (G : Gb) (w0 : Wd) (ds : List D) (J : L2.It) : Prop := ∀ w, Emb w0 w → WOk G w → (∀ i, i < ds.length → J.go i w.H) ∧ J.stop ds.length w.H ∧
  ∀ i x H', i < ds.length → J.yld i w.H x H' → ∃ w' d, w'.H = H' ∧ w'.as = w.as ∧ w'.M = w.M ∧ w'.hd = w.hd ∧ Ext w w' ∧ WOk G w' ∧ ds[i]? = some d ∧ Rep G w' d x
section
variable (G Φ W)
def tI (it : It) : TI := fun σ H R => ∃ w σd, w.H = H ∧ WOk G w ∧ RepS G w σd σ ∧ Post G W σ w (evI Φ it σd w.M) fun ds w' => ∀ J, Walks G w' ds J → R J w'.H
end
theorem PI.imp {X : Cx} {tg e : Expr} {t t' : TI} (h : PI X tg e t) (k : ∀ σ H R, t' σ H R → t σ H R) : PI X tg e t' := ⟨fun pins s σ H R I q => h.run pins s σ H R I (k σ H R q)⟩
theorem RepL.rget {w : Wd} : ∀ {ds : List D} {vs : List V} {i : Nat} {v : V}, RepL G w ds vs → vs[i]? = some v → ∃ d, ds[i]? = some d ∧ Rep G w d v
  | [], _, _, _, h, e => by simp only [RepL] at h; subst h; simp at e
  | d :: ds, _, i, v, h, e => by
    simp only [RepL] at h
    obtain ⟨u, r, rfl, h1, h2⟩ := h
    cases i with
    | zero => simp at e; subst e; exact ⟨d, rfl, h1⟩
    | succ i =>
      obtain ⟨d', e1, e2⟩ := RepL.rget (i := i) h2 (by simpa using e)
      exact ⟨d', by simpa using e1, e2⟩
theorem walks_at {w0 : Wd} {ds : List D} {vs : List V} {J : L2.It} {Gp : Hp → Prop} (wk : Walk J vs.length Gp (YAt vs)) (hG : ∀ w, Emb w0 w → Gp w.H) (r : RepL G w0 ds vs) : Walks G w0 ds J := by
  intro w e g
  rw [r.length]
  refine ⟨fun i hi => wk.goes i w.H hi (hG w e), wk.stops w.H (hG w e), fun i x H' hi y => ?_⟩
  obtain ⟨rfl, hx⟩ := wk.yields i w.H x H' hi (hG w e) y
  obtain ⟨d, hd, rd⟩ := RepL.rget (RepL.emb e _ _ r) hx
  exact ⟨w, d, rfl, rfl, rfl, rfl, Ext.refl w, g, hd, rd⟩
theorem Rep.lstE {w : Wd} {d : D} {xs : List D} {v : V} (hd : d = .lst xs ∨ d = .scr xs) (r : Rep G w d v) : ∃ a vs, v = .ref a ∧ (∀ w', Emb w w' → SqL G.K w'.H a vs) ∧ RepL G w xs vs := by
  rcases hd with rfl | rfl
  · simp only [Rep] at r
    obtain ⟨a, vs, rfl, h1, h2⟩ := r
    exact ⟨a, vs, rfl, fun w' e => .inl (.inl (h1.emb e).1), h2⟩
  · simp only [Rep] at r
    obtain ⟨a, vs, rfl, ⟨o, h1⟩ | h1, h2⟩ := r
    · exact ⟨a, vs, rfl, fun w' e => .inl (.inr ⟨o, (h1.emb e).1⟩), h2⟩
    · exact ⟨a, vs, rfl, fun w' e => kseqL h1, h2⟩
theorem Rep.tupE {w : Wd} {xs : List D} {v : V} (r : Rep G w (.tup xs) v) : ∃ a vs, v = .ref a ∧ (∀ w', Emb w w' → SqT G.K w'.H a vs) ∧ RepL G w xs vs := by
  simp only [Rep] at r
  obtain ⟨a, vs, rfl, h1 | h1, h2⟩ := r
  · exact ⟨a, vs, rfl, fun w' e => (h1.emb e).sqT, h2⟩
  · exact ⟨a, vs, rfl, fun w' e => kseqT h1, h2⟩
theorem pi_seq (c : Ctx G Γ k X W) {e : Ex} {tg x : Expr} (ha : PE X x (tE G Φ W e)) : PI X tg x (tI G Φ W (.seq e)) := by
  refine ⟨fun pins s σ H R I h => ?_⟩
  obtain ⟨w, σd, rfl, g, rs, hp⟩ := h
  simp only [evI] at hp
  have lst : (Post G W σ w (evE Φ e σd w.M) fun d w' => ∃ xs, (d = .lst xs ∨ d = .scr xs) ∧ ∀ J, Walks G w' xs J → R J w'.H) → wpAny (model X.prog X.w) X.A (eval x X.env) (fun v s1 => wpAny (model X.prog X.w) X.A (pyIter v) (PIE X pins σ tg R) X.xe s1) X.xe s := fun h => by
    refine (pi_list ha).run pins s σ w.H R I ⟨w, σd, rfl, g, rs, h.mono fun d w1 x1 g1 h1 v1 r1 => ?_⟩
    obtain ⟨xs, hd, q⟩ := h1
    obtain ⟨a, vs, rfl, h2, h3⟩ := Rep.lstE hd r1
    rw [c.K]
    exact ⟨a, rfl, ⟨vs, h2 w1 (Emb.refl w1)⟩, q _ (walks_at walk_list h2 h3)⟩
  have tup : (Post G W σ w (evE Φ e σd w.M) fun d w' => ∃ xs, d = .tup xs ∧ ∀ J, Walks G w' xs J → R J w'.H) → wpAny (model X.prog X.w) X.A (eval x X.env) (fun v s1 => wpAny (model X.prog X.w) X.A (pyIter v) (PIE X pins σ tg R) X.xe s1) X.xe s := fun h => by
    refine (pi_tup ha).run pins s σ w.H R I ⟨w, σd, rfl, g, rs, h.mono fun d w1 x1 g1 h1 v1 r1 => ?_⟩
    obtain ⟨xs, rfl, q⟩ := h1
    obtain ⟨a, vs, rfl, h2, h3⟩ := Rep.tupE r1
    rw [c.K]
    exact ⟨a, rfl, ⟨vs, h2 w1 (Emb.refl w1)⟩, q _ (walks_at walk_tup h2 h3)⟩
  cases q : evE Φ e σd w.M with
  | no => rw [q] at hp; exact absurd hp fun z => z
  | ex cc fs M =>
    refine lst ?_
    rw [q] at hp ⊢
    exact hp
  | ok d M =>
    rw [q] at hp
    cases d with
    | lst xs => exact lst (by rw [q]; exact fun w' x g e => ⟨xs, .inl rfl, fun J hJ => hp w' x g e J hJ⟩)
    | scr xs => exact lst (by rw [q]; exact fun w' x g e => ⟨xs, .inr rfl, fun J hJ => hp w' x g e J hJ⟩)
    | tup xs => exact tup (by rw [q]; exact fun w' x g e => ⟨xs, rfl, fun J hJ => hp w' x g e J hJ⟩)
    | _ => exact absurd hp fun z => z
theorem walks_rng {w0 : Wd} {lo : Int} {n : Nat} : Walks G w0 ((List.range n).map fun (k : Nat) => D.int (lo + (k : Int))) (Itr lo n) := by
  intro w e g
  rw [List.length_map, List.length_range]
  refine ⟨fun i hi => hi, Nat.le_refl _, fun i x H' hi y => ?_⟩
  obtain ⟨rfl, rfl⟩ := y
  exact ⟨w, .int (lo + i), rfl, rfl, rfl, rfl, Ext.refl w, g, by rw [List.getElem?_map, List.getElem?_range hi]; rfl, rep_int⟩
theorem rngD_ok {a b : Int} {ds : List D} (h : rngD a b = some ds) : (-(2 ^ 62) ≤ a ∧ a < 2 ^ 62 ∧ -(2 ^ 62) ≤ b ∧ b < 2 ^ 62) ∧ ds = (List.range (b - a).toNat).map fun (k : Nat) => D.int (a + (k : Int)) := by
  unfold rngD at h
  split at h
  · rename_i hb
    cases h
    exact ⟨hb, rfl⟩
  · cases h
theorem pi_rng1 (c : Ctx G Γ k X W) {x : Str} {a : Ex} {u tg : Expr} {p pos : Pos} (hx : x = "range") (hgl : glB Γ.sc x = true) (hbs : Γ.bs.contains x = true) (hu : plainX u = true) (ha : PE X u (tE G Φ W a)) : PI X tg (.Call (.Name x p) [u] [] pos) (tI G Φ W (.rng1 a)) := by
  subst hx
  refine PI.imp (pi_range1 (gl_of c hgl) (mg_none c hbs) (pa_cons ha pa_nil (star_of hu _ _)) (star_of hu _ _)) ?_
  rintro σ H R ⟨w, σd, rfl, g, rs, hp⟩
  simp only [evI] at hp
  refine ⟨w, σd, rfl, g, rs, (Post.bind hp).mono fun d w1 x1 g1 h1 v r => ?_⟩
  cases d with
  | int n =>
    obtain ⟨out, ho, h2⟩ := Post.of h1
    obtain ⟨hb, rfl⟩ := rngD_ok ho
    simp only [Rep] at r
    subst r
    have q := post_ok g1 h2 (Itr 0 n.toNat) (by have := walks_rng (G := G) (w0 := w1) (lo := 0) (n := n.toNat); simpa using this)
    exact ⟨n, rfl, hb.2.2.1, hb.2.2.2, q⟩
  | _ => exact absurd h1 fun z => z
theorem pi_rng2 (c : Ctx G Γ k X W) {x : Str} {a b : Ex} {u v tg : Expr} {p pos : Pos} (hx : x = "range") (hgl : glB Γ.sc x = true) (hbs : Γ.bs.contains x = true) (hu : plainX u = true) (hv : plainX v = true) (ha : PE X u (tE G Φ W a)) (hb : PE X v (tE G Φ W b)) : PI X tg (.Call (.Name x p) [u, v] [] pos) (tI G Φ W (.rng2 a b)) := by
  subst hx
  refine PI.imp (pi_range2 (gl_of c hgl) (mg_none c hbs) (pa_cons ha (pa_cons hb pa_nil (star_of hv _ _)) (star_of hu _ _)) (by rw [star_of hu, star_of hv]; rfl) (star_of hv _ _)) ?_
  rintro σ H R ⟨w, σd, rfl, g, rs, hp⟩
  simp only [evI] at hp
  refine ⟨w, σd, rfl, g, rs, (Post.bind hp).mono fun d w1 x1 g1 h1 v1 r1 => ?_⟩
  refine ⟨w1, σd, rfl, g1, rs.ext x1, (Post.bind h1).mono fun e w2 x2 g2 h2 v2 r2 => ?_⟩
  split at h2
  · rename_i m n
    obtain ⟨out, ho, h3⟩ := Post.of h2
    obtain ⟨hb, rfl⟩ := rngD_ok ho
    simp only [Rep] at r1 r2
    subst r1 r2
    exact ⟨m, n, rfl, hb, post_ok g2 h3 _ walks_rng⟩
  · exact absurd h2 fun z => z
theorem walks_pair {w0 : Wd} {ds : List D} {n : Nat} {xs ys : Nat → Option V} {J : L2.It} {Gp : Hp → Prop} (wk : Walk J n Gp (YPair xs ys)) (hG : ∀ w, Emb w0 w → Gp w.H) (hn : ds.length = n)
    (hd : ∀ i x y, i < n → xs i = some x → ys i = some y → ∃ d e, ds[i]? = some (.tup [d, e]) ∧ ∀ w, Emb w0 w → Rep G w d x ∧ Rep G w e y) : Walks G w0 ds J := by
  intro w em g
  rw [hn]
  refine ⟨fun i hi => wk.goes i w.H hi (hG w em), wk.stops w.H (hG w em), fun i v H' hi q => ?_⟩
  obtain ⟨T, x, y, rfl, hT, rfl, e1, e2⟩ := wk.yields i w.H v H' hi (hG w em) q
  obtain ⟨d, e, h1, h2⟩ := hd i x y hi e1 e2
  obtain ⟨r1, r2⟩ := h2 w em
  exact ⟨{ w with H := upd w.H T (.tup [x, y]) }, _, rfl, rfl, rfl, rfl, ext_new g hT, wok_new g hT, h1, rep_tup g hT (.cons r1 (.cons r2 .nil))⟩
theorem pi_enu (c : Ctx G Γ k X W) {x : Str} {a : Ex} {u : Expr} {elts : List Expr} {n : Nat} {tp p pos : Pos} (hx : x = "enumerate") (hgl : glB Γ.sc x = true) (hbs : Γ.bs.contains x = true) (hu : plainX u = true) (ha : PE X u (tE G Φ W a)) : PI X (.Tuple elts n tp) (.Call (.Name x p) [u] [] pos) (tI G Φ W (.enu a)) := by
  subst hx
  refine PI.imp (pi_enum (gl_of c hgl) (mg_none c hbs) (pa_cons ha pa_nil (star_of hu _ _)) (star_of hu _ _)) ?_
  rintro σ H R ⟨w, σd, rfl, g, rs, hp⟩
  simp only [evI] at hp
  refine ⟨w, σd, rfl, g, rs, (Post.bind hp).mono fun d w1 x1 g1 h1 v r => ?_⟩
  have go : ∀ xs, (d = .lst xs ∨ d = .scr xs) → Post G W σ w1 (.ok ((xs.zipIdx).map fun p => D.tup [.int p.2, p.1]) w1.M) (fun ds w' => ∀ J, Walks G w' ds J → R J w'.H) → ∃ b us, [v] = [V.ref b] ∧ SqL X.K w1.H b us ∧ R (Ite X.K b) w1.H := fun xs hd h1 => by
    obtain ⟨b, vs, rfl, h2, h3⟩ := Rep.lstE hd r
    rw [c.K]
    refine ⟨b, vs, rfl, h2 w1 (Emb.refl w1), post_ok g1 h1 _ (walks_pair walk_enum h2 (by rw [List.length_map, List.length_zipIdx, h3.length]) fun i y z hi e1 e2 => ?_)⟩
    cases e1
    obtain ⟨d', e3, r3⟩ := RepL.rget h3 e2
    exact ⟨.int i, d', by simp [e3], fun w' em => ⟨rep_int, Rep.emb em _ _ r3⟩⟩
  cases d with
  | lst xs => exact go xs (.inl rfl) h1
  | scr xs => exact go xs (.inr rfl) h1
  | _ => exact absurd h1 fun z => z
theorem pi_zipD (c : Ctx G Γ k X W) {x : Str} {a b : Ex} {u v : Expr} {elts : List Expr} {n : Nat} {tp p pos : Pos} (hx : x = "zip") (hgl : glB Γ.sc x = true) (hbs : Γ.bs.contains x = true) (hu : plainX u = true) (hv : plainX v = true) (ha : PE X u (tE G Φ W a)) (hb : PE X v (tE G Φ W b)) :
    PI X (.Tuple elts n tp) (.Call (.Name x p) [u, v] [] pos) (tI G Φ W (.zip a b)) := by
  subst hx
  refine PI.imp (pi_zip (gl_of c hgl) (mg_none c hbs) (pa_cons ha (pa_cons hb pa_nil (star_of hv _ _)) (star_of hu _ _)) (star_of hu _ _) (by rw [star_of hv]; rfl)) ?_
  rintro σ H R ⟨w, σd, rfl, g, rs, hp⟩
  simp only [evI] at hp
  refine ⟨w, σd, rfl, g, rs, (Post.bind hp).mono fun d w1 x1 g1 h1 v1 r1 => ?_⟩
  refine ⟨w1, σd, rfl, g1, rs.ext x1, (Post.bind h1).mono fun e w2 x2 g2 h2 v2 r2 => ?_⟩
  split at h2
  · rename_i xs ys
    obtain ⟨p1, vs, rfl, s1, l1⟩ := Rep.lstE (.inl rfl) (Rep.ext x2 _ _ r1)
    obtain ⟨p2, us, rfl, s2, l2⟩ := Rep.lstE (.inl rfl) r2
    rw [c.K]
    refine ⟨p1, p2, vs, us, rfl, s1 w2 (Emb.refl w2), s2 w2 (Emb.refl w2), post_ok g2 h2 _ (walks_pair (walk_zip rfl) (fun w' em => ⟨s1 w' em, s2 w' em⟩) (by rw [List.length_map, List.length_zip, l1.length, l2.length]) fun i y z hi e1 e2 => ?_)⟩
    obtain ⟨d1, e3, r3⟩ := RepL.rget l1 e1
    obtain ⟨d2, e4, r4⟩ := RepL.rget l2 e2
    exact ⟨d1, d2, by rw [List.getElem?_map, (show (xs.zip ys)[i]? = some (d1, d2) from List.getElem?_zip_eq_some.mpr ⟨e3, e4⟩)]; rfl, fun w' em => ⟨Rep.emb em _ _ r3, Rep.emb em _ _ r4⟩⟩
  · exact absurd h2 fun z => z
end
end Ev
/-! Ev11: comprehensions. -/
namespace Ev
open PySem L2
section
variable {G : Gb} {Φ : Nat → List D → Mem → Res D} {W : WX} {X : Cx} {k : Nat} {Γ : Cn}
theorem takes_none {X : Cx} : Takes X (fun _ _ _ _ => False) := fun _ _ x => by
  obtain ⟨_, _, _, _, _, _, _, _, _, _, _, _, _, _, _, _, z⟩ := x
  exact z.elim
theorem Ctx.blk (c : Ctx G Γ k X W) {scope : Scope} {s : Shared} {H : Hp} {C : Addr} {cl : List (Str × Addr)} {fp : List Addr} : Ctx G (Γ.blk scope) k (X.blk s H scope (compEnvC scope cl C X.env) fp) (fun _ _ _ _ => False) := by
  refine ⟨c.N, ?_, c.K, c.nd, fun x h => ?_, c.calm, c.gd, c.room, takes_none, c.tab, c.blt⟩
  · show relS scope X.env.scope = relS scope Γ.sc
    rw [c.sc]
  · have h : Loc scope x := h
    rcases h with h | h
    · have e : (relS scope X.env.scope).names.lookup x = some .local := lookup_relS_keep (by decide) h
      exact ⟨.inl e, .inr e⟩
    · have e : (relS scope X.env.scope).names.lookup x = some .cell := lookup_relS_keep (by decide) h
      refine ⟨.inr e, .inl ?_⟩
      show (scope.names.lookup x == some .cell) = true
      rw [h]
      rfl
theorem wipe_get (σ : L2.St) : ∀ (vs : List Nat) (j : Nat), (wipe σ vs)[j]? = if j ∈ vs then (if j < σ.length then some none else none) else σ[j]?
  | [], j => by simp [wipe]
  | v :: vs, j => by
    unfold wipe
    by_cases hj : v = j
    · subst hj
      rw [if_pos (List.mem_cons_self ..)]
      by_cases hl : v < σ.length
      · rw [if_pos hl, List.getElem?_set_self (by rw [wipe_length]; exact hl)]
      · rw [if_neg hl, List.getElem?_eq_none (by rw [List.length_set, wipe_length]; omega)]
    · rw [List.getElem?_set_ne hj, wipe_get σ vs j]
      have : (j ∈ v :: vs) ↔ j ∈ vs := by
        simp only [List.mem_cons]
        exact ⟨fun h => h.elim (fun e => absurd e.symm hj) id, .inr⟩
      simp only [this]
theorem wipe_off {σ σ2 : L2.St} {vs is : List Nat} (h : Off is (wipe σ vs) σ2) (hs : ∀ j ∈ is, j ∈ vs) : wipe σ2 vs = wipe σ vs := by
  apply List.ext_getElem?
  intro j
  have hl : σ2.length = σ.length := by rw [h.1, wipe_length]
  rw [wipe_get σ2, wipe_get σ, hl]
  by_cases hj : j ∈ vs
  · rw [if_pos hj, if_pos hj]
  · rw [if_neg hj, if_neg hj, h.2 j fun z => hj (hs j z), wipe_get, if_neg hj]
section
variable (G Φ W)
def tC' (c : Option Ex) : TT := fun σ H Q => ∃ w σd, w.H = H ∧ WOk G w ∧ RepS G w σd σ ∧ Post G W σ w (evC Φ c σd w.M) fun b w' => Q b w'.H
end
theorem PTs.imp {X : Cx} {es : List Expr} {t t' : TT} (h : PTs X es t) (k : ∀ σ H Q, t' σ H Q → t σ H Q) : PTs X es t' := ⟨fun pins s σ H Q I q => h.run pins s σ H Q I (k σ H Q q)⟩
theorem c_none : PTs X [] (tC' G Φ W none) := by
  refine PTs.imp pts_nil ?_
  rintro σ H Q ⟨w, σd, rfl, g, rs, hp⟩
  simp only [evC] at hp
  exact post_ok g hp
theorem c_some {e : Ex} {x : Expr} (h : PT X x (tB' G Φ W e)) : PTs X [x] (tC' G Φ W (some e)) := by
  refine PTs.imp (pts_one h) ?_
  rintro σ H Q ⟨w, σd, rfl, g, rs, hp⟩
  simp only [evC] at hp
  exact ⟨w, σd, rfl, g, rs, hp⟩
theorem lcGo_nx (f : D → Mem → Res (Option D)) : ∀ (xs acc : List D) (M : Mem) (c : Nat) (fs : List (Str × D)) (M' : Mem), lcGo f xs acc M ≠ .ex c fs M'
  | [], acc, M, c, fs, M', h => by simp only [lcGo] at h; cases h
  | x :: xs, acc, M, c, fs, M', h => by
    simp only [lcGo] at h
    split at h
    · split at h
      · exact lcGo_nx f xs _ _ c fs M' h
      · cases h
    · exact lcGo_nx f xs _ _ c fs M' h
    · cases h
/-- from w1 on, with a list being built at Dd -/
structure Build (w1 w2 : Wd) (Dd : Addr) (accV : List V) : Prop where
  emb : Emb w1 w2
  keep : ∀ a o, w1.H a = some o → ¬ Live w1 a → w2.H a = some o ∧ ¬ Live w2 a
  ex : ∀ a, w1.H a ≠ none → w2.H a ≠ none
  hd : w2.hd = fun a => a = Dd ∨ w1.hd a
  at_ : w2.H Dd = some (.lst accV)
  nl : ¬ Live w2 Dd
theorem Build.ext {w1 w2 w3 : Wd} {Dd : Addr} {accV : List V} (b : Build w1 w2 Dd accV) (x : Ext w2 w3) : Build w1 w3 Dd accV where
  emb := b.emb.trans x.emb
  keep := fun a o h n => by
    obtain ⟨h1, n1⟩ := b.keep a o h n
    exact x.keep a o h1 n1
  ex := fun a h => x.ex a (b.ex a h)
  hd := x.hid.trans b.hd
  at_ := (x.keep Dd _ b.at_ b.nl).1
  nl := (x.keep Dd _ b.at_ b.nl).2
theorem Build.start {w1 : Wd} (g : WOk G w1) {Dd : Addr} (hD : w1.H Dd = none) : Build w1 (w1.hide Dd (.lst [])) Dd [] where
  emb := emb_hide g hD
  keep := fun a o h n => ⟨(upd_ne (ne_of_none h hD)).trans h, n⟩
  ex := fun a h => upd_ex a h
  hd := rfl
  at_ := upd_same
  nl := fun l => live_none g hD l
theorem Build.hide {w1 w2 : Wd} {Dd : Addr} {accV : List V} (b : Build w1 w2 Dd accV) : w2.hd Dd := by rw [b.hd]; exact .inl rfl
theorem Build.grow {w1 w2 : Wd} {Dd : Addr} {accV accV' : List V} (b : Build w1 w2 Dd accV) (hD : w1.H Dd = none) : Build w1 (w2.grow Dd (.lst accV')) Dd accV' where
  emb := b.emb.trans (emb_grow b.hide)
  keep := fun a o h n => by
    obtain ⟨h1, n1⟩ := b.keep a o h n
    exact ⟨(upd_ne (ne_of_none h hD)).trans h1, n1⟩
  ex := fun a h => upd_ex a (b.ex a h)
  hd := b.hd
  at_ := upd_same
  nl := b.nl
theorem Build.done {w1 w2 : Wd} {Dd : Addr} {accV : List V} (b : Build w1 w2 Dd accV) : Ext w1 (w2.bare w1.hd) := ⟨b.emb.pre, b.keep, rfl, b.ex⟩
theorem Build.sub {w1 w2 : Wd} {Dd : Addr} {accV : List V} (b : Build w1 w2 Dd accV) : ∀ a, w1.hd a → w2.hd a := fun a h => by rw [b.hd]; exact .inr h
theorem lc_read {e : Ex} {t : Tg} {it : It} {cc : Option Ex} {vs : List Nat} (hs : (tgS t).all vs.contains = true) :
    ∀ σ H Q, tE G Φ W (.lc e t it cc vs) σ H Q → tLc (tI G Φ W it) (tTg G Φ (fun _ _ _ _ => False) t) (tC' G Φ (fun _ _ _ _ => False) cc) (tE G Φ (fun _ _ _ _ => False) e) vs σ H Q := by
  rintro σ H Q ⟨w, σd, rfl, g, rs, hp⟩
  simp only [evE] at hp
  refine ⟨w, σd, rfl, g, rs, (Post.bind hp).mono fun ds w1 x1 g1 h1 J hJ Dd hD => ?_⟩
  generalize hF : (fun x M2 => (evT Φ t x (wipeD σd vs) M2).bind fun σ3 M3 => (evC Φ cc σ3 M3).bind fun b M4 => if b = true then (evE Φ e σ3 M4).bind fun d M5 => Res.ok (some d) M5 else Res.ok none M4) = F at h1
  cases q : lcGo F ds [] w1.M with
  | no => rw [q] at h1; exact absurd h1 fun z => z
  | ex _ _ _ => exact absurd q (lcGo_nx F ds [] w1.M _ _ _)
  | ok out M6 =>
    rw [q] at h1
    have rs1 : RepS G w1 σd σ := rs.ext x1
    refine ⟨fun i m H => ∃ w2 acc accV, w2.H = H ∧ i ≤ ds.length ∧ m = ds.length - i ∧ WOk G w2 ∧ Build w1 w2 Dd accV ∧ lcGo F (ds.drop i) acc w2.M = .ok out M6 ∧ RepL G w2 acc accV,
      ⟨ds.length, w1.hide Dd (.lst []), [], [], rfl, Nat.zero_le _, by simp, wok_hide g1 hD, Build.start g1 hD, by rw [List.drop_zero]; exact q, RepL.nil⟩, ?_⟩
    rintro i m H ⟨w2, acc, accV, rfl, hi, rfl, g2, b2, go, ra⟩
    obtain ⟨j1, j2, j3⟩ := hJ w2 b2.emb g2
    by_cases hl : i < ds.length
    · right
      refine ⟨j1 i hl, fun H' => ∃ m' , m' < ds.length - i ∧ ∃ w2 acc accV, w2.H = H' ∧ i + 1 ≤ ds.length ∧ m' = ds.length - (i + 1) ∧ WOk G w2 ∧ Build w1 w2 Dd accV ∧ lcGo F (ds.drop (i + 1)) acc w2.M = .ok out M6 ∧ RepL G w2 acc accV, fun H' h => h, fun x H' y => ?_⟩
      obtain ⟨w3, d, rfl, _, m3, _, x3, g3, hd, rd⟩ := j3 i x H' hl y
      have b3 := b2.ext x3
      have hdrop : ds.drop i = d :: ds.drop (i + 1) := by
        obtain ⟨h', e'⟩ := List.getElem?_eq_some_iff.mp hd
        rw [List.drop_eq_getElem_cons h', e']
      rw [hdrop] at go
      simp only [lcGo] at go
      rw [← m3] at go
      -- what the turn does
      have turn : ∃ o M', F d w3.M = .ok o M' ∧ (match o with
          | some z => acc.length < sizeLine ∧ lcGo F (ds.drop (i + 1)) (acc ++ [z]) M' = .ok out M6
          | none => lcGo F (ds.drop (i + 1)) acc M' = .ok out M6) := by
        split at go
        · rename_i z M' hz
          split at go
          · rename_i hl
            exact ⟨some z, M', hz, hl, go⟩
          · cases go
        · rename_i M' hz
          exact ⟨none, M', hz, go⟩
        · cases go
      obtain ⟨o, M', hF1, hrest⟩ := turn
      rw [← hF] at hF1
      obtain ⟨σ3, M3, hT, hF2⟩ := Res.bind_ok_iff hF1
      obtain ⟨bb, M4, hC, hF3⟩ := Res.bind_ok_iff hF2
      refine ⟨w3, wipeD σd vs, d, rfl, g3, ((RepS.wipe rs1 vs).emb b3.emb), rd, ?_⟩
      rw [hT]
      intro w4 x4 g4 e4 σv rs4 off
      refine ⟨wipe_off off fun j hj => by simpa using List.all_eq_true.mp hs j hj, w4, σ3, rfl, g4, rs4, ?_⟩
      rw [e4, hC]
      intro w5 x5 g5 e5
      have b5 := (b3.ext x4).ext x5
      have ra5 : RepL G w5 acc accV := RepL.ext ((x3.trans x4).trans x5) _ _ ra
      cases bb with
      | true =>
        rw [if_pos rfl] at hF3
        refine iteT ?_
        obtain ⟨z, M5, hE, hF4⟩ := Res.bind_ok_iff hF3
        cases hF4
        refine ⟨w5, σ3, rfl, g5, rs4.ext x5, ?_⟩
        rw [e5, hE]
        intro w6 x6 g6 e6 v rv
        have b6 := b5.ext x6
        have ra6 : RepL G w6 (acc ++ [z]) (accV ++ [v]) := (RepL.ext x6 _ _ ra5).append (.cons rv .nil)
        refine ⟨accV, b6.at_, by rw [← ra.length]; exact hrest.1, ds.length - (i + 1), by omega, w6.grow Dd (.lst (accV ++ [v])), acc ++ [z], accV ++ [v], rfl, hl, rfl, wok_grow g6 b6.hide b6.nl, b6.grow hD, ?_, RepL.emb (emb_grow b6.hide) _ _ ra6⟩
        show lcGo F (ds.drop (i + 1)) (acc ++ [z]) w6.M = _
        rw [e6]
        exact hrest.2
      | false =>
        rw [if_neg Bool.false_ne_true] at hF3
        refine iteF ?_
        cases hF3
        exact ⟨ds.length - (i + 1), by omega, w5, acc, accV, rfl, hl, rfl, g5, b5, by rw [e5]; exact hrest, ra5⟩
    · left
      have hi' : i = ds.length := by omega
      subst hi'
      refine ⟨j2, ?_⟩
      rw [List.drop_length] at go
      simp only [lcGo] at go
      cases go
      refine h1 (w2.bare w1.hd) b2.done (wok_bare g2 b2.sub) rfl (.ref Dd) ?_
      simp only [Rep]
      refine ⟨Dd, accV, rfl, ⟨b2.at_, b2.nl, fun z => g1.hid Dd z hD⟩, RepL.emb (emb_bare b2.sub) _ _ ra⟩
theorem s_lc (c : Ctx G Γ k X W) {e : Ex} {t : Tg} {it : It} {cc : Option Ex} {vs : List Nat} {elt tg iter : Expr} {ifs : List Expr} {scope : Scope} {pos : Pos}
    (hb : blkC Γ.N Γ.sc scope (ownOf Γ.N vs) = true) (ho : (ownOf Γ.N vs).map (·.2) = vs) (hs : (tgS t).all vs.contains = true) (hit : ∀ x, foldedSetIterable iter X.env x = pure x)
    (hi : PI X tg iter (tI G Φ W it))
    (hg : ∀ (s : Shared) (H : Hp) (C : Addr) (cl : List (Str × Addr)) (fp : List Addr), PG (X.blk s H scope (compEnvC scope cl C X.env) fp) tg (tTg G Φ (fun _ _ _ _ => False) t))
    (hc : ∀ (s : Shared) (H : Hp) (C : Addr) (cl : List (Str × Addr)) (fp : List Addr), PTs (X.blk s H scope (compEnvC scope cl C X.env) fp) ifs (tC' G Φ (fun _ _ _ _ => False) cc))
    (he : ∀ (s : Shared) (H : Hp) (C : Addr) (cl : List (Str × Addr)) (fp : List Addr), PE (X.blk s H scope (compEnvC scope cl C X.env) fp) elt (tE G Φ (fun _ _ _ _ => False) e)) :
    PE X (.ListComp elt [⟨tg, iter, ifs, 0⟩] scope pos) (tE G Φ W (.lc e t it cc vs)) := by
  have ok : BlkOk X.N X.env.scope scope (ownOf Γ.N vs) := by rw [c.N, c.sc]; exact blkOk_by hb
  refine PE.imp (pe_lc c.calm (by rw [c.N]; exact c.nd) hi ok hg hc he hit) ?_
  rw [ho]
  exact lc_read hs
/-- name = [..] where the name takes the list at once -/
theorem s_setLc (c : Ctx G Γ k X W) {i : Nat} {y : Str} {py spos : Pos} {e : Ex} {t : Tg} {it : It} {cc : Option Ex} {vs : List Nat} {elt tg iter : Expr} {ifs : List Expr} {scope : Scope} {pos : Pos} (hy : Γ.N[i]? = some y) (hyl : Γ.sc.names.lookup y = some .local)
    (hsw : swapsWith (.ListComp elt [⟨tg, iter, ifs, 0⟩] scope pos) (some (.Name y py)) spos.line X.env = pure true)
    (hb : blkC Γ.N Γ.sc scope (ownOf Γ.N vs) = true) (ho : (ownOf Γ.N vs).map (·.2) = vs) (hs : (tgS t).all vs.contains = true) (hit : ∀ x, foldedSetIterable iter X.env x = pure x)
    (hi : PI X tg iter (tI G Φ W it))
    (hg : ∀ (s : Shared) (H : Hp) (C : Addr) (cl : List (Str × Addr)) (fp : List Addr), PG (X.blk s H scope (compEnvC scope cl C X.env) fp) tg (tTg G Φ (fun _ _ _ _ => False) t))
    (hc : ∀ (s : Shared) (H : Hp) (C : Addr) (cl : List (Str × Addr)) (fp : List Addr), PTs (X.blk s H scope (compEnvC scope cl C X.env) fp) ifs (tC' G Φ (fun _ _ _ _ => False) cc))
    (he : ∀ (s : Shared) (H : Hp) (C : Addr) (cl : List (Str × Addr)) (fp : List Addr), PE (X.blk s H scope (compEnvC scope cl C X.env) fp) elt (tE G Φ (fun _ _ _ _ => False) e)) :
    PS X (.Assign [.Name y py] (.ListComp elt [⟨tg, iter, ifs, 0⟩] scope pos) spos) (tAsg (tE G Φ W (.lc e t it cc vs)) (gName i)) := by
  have ok : BlkOk X.N X.env.scope scope (ownOf Γ.N vs) := by rw [c.N, c.sc]; exact blkOk_by hb
  refine PS.imp (ps_setLc (i := i) c.calm (by rw [c.N]; exact c.nd) (by rw [c.N]; exact hy) (by rw [c.sc]; exact hyl) hsw hi ok hg hc he hit) ?_
  intro D σ H h
  have r := lc_read (G := G) (Φ := Φ) (W := W) (e := e) (t := t) (it := it) (cc := cc) (vs := vs) hs σ H _ h
  rw [ho]
  exact r
end
end Ev
/-! Ev12: a matched text is worth what its expression is. -/
namespace Ev
open PySem L2
section
variable {G : Gb} {k : Nat}
theorem mI_plain {it : It} {Γ : Cn} {tg x : Expr} (h : mI it Γ tg x = true) : plainX x = true := by
  cases it with
  | seq e => exact mE_plain (by simpa only [mI] using h)
  | rng1 _ => cases x <;> first | rfl | (simp [mI] at h)
  | rng2 _ _ => cases x <;> first | rfl | (simp [mI] at h)
  | enu _ => cases x <;> first | rfl | (cases tg <;> simp [mI] at h)
  | zip _ _ => cases x <;> first | rfl | (cases tg <;> simp [mI] at h)
theorem eqS_eq {a b : Str} (h : eqS a b = true) : a = b := of_decide_eq_true h
theorem plain_true (c : Cx) : ∀ {e : Expr}, (match e with | .UnaryOp .Not _ _ => false | .BoolOp _ _ _ => false | .IfExp _ _ _ _ => false | .Compare _ _ _ _ => false | _ => true) = true →
    ∀ whole, isTrue e c.env whole = (do let v ← whole; standAt e.pos; holding [v] (truthy v)) := by
  intro e h whole
  cases e with
  | UnaryOp op x p => cases op <;> first | rfl | cases h
  | BoolOp _ _ _ => cases h
  | IfExp _ _ _ _ => cases h
  | Compare _ _ _ _ => cases h
  | _ => rfl
mutual
theorem sE : ∀ (x : Ex) (Γ : Cn) (X : Cx) (W : WX) (e : Expr), Ctx G Γ k X W → mE x Γ e = true → PE X e (tE G (evF Γ.P k) W x)
  | .var i, Γ, X, W, e, c, h => by
    cases e with
    | Name y p => simp only [mE] at h; exact s_var c h
    | _ => simp [mE] at h
  | .non, Γ, X, W, e, c, h => by
    cases e with
    | Constant v j p => cases v with
      | none => exact s_con pe_non (fun w => rep_non) fun σ M => by simp only [evE]
      | _ => simp [mE] at h
    | _ => simp [mE] at h
  | .bl b, Γ, X, W, e, c, h => by
    cases e with
    | Constant v j p => cases v with
      | bool b' =>
        have : b = b' := by simpa [mE] using h
        subst this
        exact s_con pe_bl (fun w => rep_bl) fun σ M => by simp only [evE]
      | _ => simp [mE] at h
    | _ => simp [mE] at h
  | .int i, Γ, X, W, e, c, h => by
    cases e with
    | Constant v j p => cases v with
      | int b' =>
        have : i = b' := by simpa [mE] using h
        subst this
        exact s_con pe_int (fun w => rep_int) fun σ M => by simp only [evE]
      | _ => simp [mE] at h
    | _ => simp [mE] at h
  | .str s, Γ, X, W, e, c, h => by
    cases e with
    | Constant v j p => cases v with
      | str b' =>
        have : s = b' := eqS_eq (by simpa only [mE] using h)
        subst this
        exact s_con pe_str (fun w => rep_str) fun σ M => by simp only [evE]
      | _ => simp [mE] at h
    | _ => simp [mE] at h
  | .bin o a b, Γ, X, W, e, c, h => by
    cases e with
    | BinOp x op y p =>
      simp only [mE, Bool.and_eq_true, decide_eq_true_eq] at h
      obtain ⟨⟨rfl, h1⟩, h2⟩ := h
      exact s_bin c (sE a Γ X W x c h1) (sE b Γ X W y c h2)
    | _ => simp [mE] at h
  | .cmp o a b, Γ, X, W, e, c, h => by
    cases e with
    | Compare x ops ys p =>
      match ops, ys, h with
      | [op], [y], h =>
        simp only [mE, Bool.and_eq_true, decide_eq_true_eq] at h
        obtain ⟨⟨rfl, h1⟩, h2⟩ := h
        exact s_cmp c (sE a Γ X W x c h1) (sE b Γ X W y c h2) (mE_plain h2)
      | [], _, h => simp [mE] at h
      | [_], [], h => simp [mE] at h
      | [_], _ :: _ :: _, h => simp [mE] at h
      | _ :: _ :: _, _, h => simp [mE] at h
    | _ => simp [mE] at h
  | .chn o q a b d, Γ, X, W, e, c, h => by
    cases e with
    | Compare x ops ys p =>
      match ops, ys, h with
      | [op, oq], [y, z], h =>
        simp only [mE, Bool.and_eq_true, decide_eq_true_eq] at h
        obtain ⟨⟨⟨⟨rfl, rfl⟩, h1⟩, h2⟩, h3⟩ := h
        exact s_chn c (sE a Γ X W x c h1) (sE b Γ X W y c h2) (sE d Γ X W z c h3) (mE_plain h3)
      | [], _, h => simp [mE] at h
      | [_], _, h => simp [mE] at h
      | [_, _], [], h => simp [mE] at h
      | [_, _], [_], h => simp [mE] at h
      | [_, _], _ :: _ :: _ :: _, h => simp [mE] at h
      | _ :: _ :: _ :: _, _, h => simp [mE] at h
    | _ => simp [mE] at h
  | .and a b, Γ, X, W, e, c, h => by
    cases e with
    | BoolOp op vs p =>
      match op, vs, h with
      | .And, [x, y], h =>
        simp only [mE, Bool.and_eq_true] at h
        exact s_and c (sE a Γ X W x c h.1) (pe_one (sE b Γ X W y c h.2))
      | .And, x :: y :: z :: rest, h =>
        simp only [mE, Bool.and_eq_true] at h
        exact s_and c (sE a Γ X W x c h.1) (sE b Γ X W _ c h.2)
      | .And, [], h => simp [mE] at h
      | .And, [_], h => simp [mE] at h
      | .Or, _, h => simp [mE] at h
    | _ => simp [mE] at h
  | .or a b, Γ, X, W, e, c, h => by
    cases e with
    | BoolOp op vs p =>
      match op, vs, h with
      | .Or, [x, y], h =>
        simp only [mE, Bool.and_eq_true] at h
        exact s_or c (sE a Γ X W x c h.1) (pe_one (sE b Γ X W y c h.2))
      | .Or, x :: y :: z :: rest, h =>
        simp only [mE, Bool.and_eq_true] at h
        exact s_or c (sE a Γ X W x c h.1) (sE b Γ X W _ c h.2)
      | .Or, [], h => simp [mE] at h
      | .Or, [_], h => simp [mE] at h
      | .And, _, h => simp [mE] at h
    | _ => simp [mE] at h
  | .not a, Γ, X, W, e, c, h => by
    cases e with
    | UnaryOp op x p => cases op with
      | Not => simp only [mE] at h; exact s_not (sB a Γ X W x c h).1 c (sE a Γ X W x c h)
      | _ => simp [mE] at h
    | _ => simp [mE] at h
  | .neg a, Γ, X, W, e, c, h => by
    cases e with
    | UnaryOp op x p => cases op with
      | USub => simp only [mE] at h; exact s_neg (sE a Γ X W x c h)
      | _ => simp [mE] at h
    | _ => simp [mE] at h
  | .ite t a b, Γ, X, W, e, c, h => by
    cases e with
    | IfExp z x y p =>
      simp only [mE, Bool.and_eq_true] at h
      exact s_ite (sB t Γ X W z c h.1.1).1 (sE a Γ X W x c h.1.2) (sE b Γ X W y c h.2)
    | _ => simp [mE] at h
  | .tup es, Γ, X, W, e, c, h => by
    cases e with
    | Tuple xs n p => simp only [mE] at h; exact s_tup (sL es Γ X W xs c h)
    | _ => simp [mE] at h
  | .lst es, Γ, X, W, e, c, h => by
    cases e with
    | List xs p => simp only [mE] at h; exact s_lst (sL es Γ X W xs c h)
    | _ => simp [mE] at h
  | .mls es, Γ, X, W, e, c, h => by
    cases e with
    | List xs p => simp only [mE] at h; exact s_mls (sL es Γ X W xs c h)
    | _ => simp [mE] at h
  | .ix a b, Γ, X, W, e, c, h => by
    cases e with
    | Subscript x y p =>
      have h' : mE a Γ x = true ∧ mE b Γ y = true := by
        cases y <;> simpa [mE] using h
      exact s_ix c (sE a Γ X W x c h'.1) (sE b Γ X W y c h'.2) (mE_plain h'.2)
    | _ => simp [mE] at h
  | .slc a lo hi, Γ, X, W, e, c, h => by
    cases e with
    | Subscript x y p => cases y with
      | Slice l u st p2 => cases st with
        | none =>
          simp only [mE, Bool.and_eq_true] at h
          exact s_slc c (sE a Γ X W x c h.1.1) (sO lo Γ X W l c h.1.2) (sO hi Γ X W u c h.2)
        | some _ => simp [mE] at h
      | _ => simp [mE] at h
    | _ => simp [mE] at h
  | .call f es ks pm, Γ, X, W, e, c, h => by
    cases e with
    | Call fn args kws p => cases fn with
      | Name x q =>
        simp only [mE] at h
        split at h
        · rename_i d hd
          simp only [Bool.and_eq_true, decide_eq_true_eq] at h
          obtain ⟨⟨⟨⟨⟨h1, h2⟩, h3⟩, h4⟩, h5⟩, h6⟩ := h
          exact s_call c hd (eqS_eq h1) h2 h3 h4 h5 h6 (sL es Γ X W args c h4) (sK ks Γ X W kws c h5)
        · cases h
      | _ => simp [mE] at h
    | _ => simp [mE] at h
  | .bi b es, Γ, X, W, e, c, h => by
    cases e with
    | Call fn args kws p => cases fn with
      | Name x q => cases kws with
        | nil =>
          simp only [mE, Bool.and_eq_true] at h
          obtain ⟨⟨⟨⟨⟨h1, h2⟩, h3⟩, h4⟩, h5⟩, h6⟩ := h
          exact s_bi c (eqS_eq h1) h2 h3 h4 h5 (fun z => by rw [z] at h6; cases h6) (sL es Γ X W args c h5)
        | cons _ _ => simp [mE] at h
      | _ => simp [mE] at h
    | _ => simp [mE] at h
  | .isi a ts, Γ, X, W, e, c, h => by
    cases e with
    | Call fn args kws p => cases fn with
      | Name x q =>
        match args, kws, h with
        | [y, cl], [], h =>
          simp only [mE, Bool.and_eq_true] at h
          obtain ⟨⟨⟨⟨⟨⟨h1, h2⟩, h3⟩, h4⟩, h5⟩, h6⟩, h7⟩ := h
          exact s_isi c (eqS_eq h1) h2 h3 h4 (fun t ht => List.all_eq_true.mp h7 t ht) h6 (mE_plain h5) (sE a Γ X W y c h5)
        | [], _, h => simp [mE] at h
        | [_], _, h => simp [mE] at h
        | _ :: _ :: _ :: _, _, h => simp [mE] at h
        | [_, _], _ :: _, h => simp [mE] at h
      | _ => simp [mE] at h
    | _ => simp [mE] at h
  | .meth m o es, Γ, X, W, e, c, h => by
    cases e with
    | Call fn args kws p => cases fn with
      | Attribute y name q => cases kws with
        | nil =>
          simp only [mE, Bool.and_eq_true, decide_eq_true_eq] at h
          obtain ⟨⟨⟨⟨⟨⟨h1, h2⟩, h3⟩, h4⟩, h5⟩, h6⟩, h7⟩ := h
          rw [eqS_eq h1]
          exact s_meth c h2 h4 (fun z => by rw [z] at h5; cases h5) h6 h7 (sE o Γ X W y c h3) (sL es Γ X W args c h4)
        | cons _ _ => simp [mE] at h
      | _ => simp [mE] at h
    | _ => simp [mE] at h
  | .lc a t it cc vs, Γ, X, W, e, c, h => by
    cases e with
    | ListComp elt gs scope p =>
      match gs, h with
      | [⟨tg, iter, ifs, as⟩], h =>
        simp only [mE, Bool.and_eq_true, decide_eq_true_eq] at h
        obtain ⟨⟨⟨⟨⟨⟨⟨rfl, h1⟩, h2⟩, h3⟩, h4⟩, h5⟩, h6⟩, h7⟩ := h
        have hit : ∀ x, foldedSetIterable iter X.env x = pure x := folded_of (mI_plain h1) X.env
        exact s_lc c h2 h3 h5 hit (sI it Γ X W tg iter c h1) (fun s H C cl fp => sT t (Γ.blk scope) _ _ tg c.blk h4) (fun s H C cl fp => sC cc (Γ.blk scope) _ _ ifs c.blk h6)
          (fun s H C cl fp => sE a (Γ.blk scope) _ _ elt c.blk h7)
      | [], h => simp [mE] at h
      | _ :: _ :: _, h => simp [mE] at h
    | _ => simp [mE] at h
  | .frz i, Γ, X, W, e, c, h => by
    cases e with
    | Name y p => simp only [mE] at h; exact s_frz c h
    | _ => simp [mE] at h
theorem sB : ∀ (x : Ex) (Γ : Cn) (X : Cx) (W : WX) (e : Expr), Ctx G Γ k X W → mE x Γ e = true → PT X e (tB' G (evF Γ.P k) W x) ∧ ∀ op vs p, e = .BoolOp op vs p → PW X e (tB' G (evF Γ.P k) W x)
  | .and a b, Γ, X, W, e, c, h => by
    cases e with
    | BoolOp op vs p =>
      match op, vs, h with
      | .And, [x, y], h =>
        simp only [mE, Bool.and_eq_true] at h
        have r := w_and (pos := p) (sB a Γ X W x c h.1).1 (pw_and1 (pos := p) (sB b Γ X W y c h.2).1)
        exact ⟨r.pt, fun _ _ _ _ => r⟩
      | .And, x :: y :: z :: rest, h =>
        simp only [mE, Bool.and_eq_true] at h
        have r := w_and (pos := p) (sB a Γ X W x c h.1).1 ((sB b Γ X W _ c h.2).2 _ _ _ rfl)
        exact ⟨r.pt, fun _ _ _ _ => r⟩
      | .And, [], h => simp [mE] at h
      | .And, [_], h => simp [mE] at h
      | .Or, _, h => simp [mE] at h
    | _ => simp [mE] at h
  | .or a b, Γ, X, W, e, c, h => by
    cases e with
    | BoolOp op vs p =>
      match op, vs, h with
      | .Or, [x, y], h =>
        simp only [mE, Bool.and_eq_true] at h
        have r := w_or (pos := p) (sB a Γ X W x c h.1).1 (pw_or1 (pos := p) (sB b Γ X W y c h.2).1)
        exact ⟨r.pt, fun _ _ _ _ => r⟩
      | .Or, x :: y :: z :: rest, h =>
        simp only [mE, Bool.and_eq_true] at h
        have r := w_or (pos := p) (sB a Γ X W x c h.1).1 ((sB b Γ X W _ c h.2).2 _ _ _ rfl)
        exact ⟨r.pt, fun _ _ _ _ => r⟩
      | .Or, [], h => simp [mE] at h
      | .Or, [_], h => simp [mE] at h
      | .And, _, h => simp [mE] at h
    | _ => simp [mE] at h
  | .not a, Γ, X, W, e, c, h => by
    cases e with
    | UnaryOp op x p => cases op with
      | Not => simp only [mE] at h; exact ⟨t_not (sB a Γ X W x c h).1, fun _ _ _ z => by cases z⟩
      | _ => simp [mE] at h
    | _ => simp [mE] at h
  | .ite t a b, Γ, X, W, e, c, h => by
    cases e with
    | IfExp z x y p =>
      simp only [mE, Bool.and_eq_true] at h
      exact ⟨t_ite (sB t Γ X W z c h.1.1).1 (sB a Γ X W x c h.1.2).1 (sB b Γ X W y c h.2).1, fun _ _ _ z => by cases z⟩
    | _ => simp [mE] at h
  | .cmp o a b, Γ, X, W, e, c, h => by
    cases e with
    | Compare x ops ys p =>
      match ops, ys, h with
      | [op], [y], h =>
        simp only [mE, Bool.and_eq_true, decide_eq_true_eq] at h
        obtain ⟨⟨rfl, h1⟩, h2⟩ := h
        exact ⟨t_cmp c (sE a Γ X W x c h1) (sE b Γ X W y c h2) (mE_plain h2), fun _ _ _ z => by cases z⟩
      | [], _, h => simp [mE] at h
      | [_], [], h => simp [mE] at h
      | [_], _ :: _ :: _, h => simp [mE] at h
      | _ :: _ :: _, _, h => simp [mE] at h
    | _ => simp [mE] at h
  | .chn o q a b d, Γ, X, W, e, c, h => by
    cases e with
    | Compare x ops ys p =>
      match ops, ys, h with
      | [op, oq], [y, z], h =>
        simp only [mE, Bool.and_eq_true, decide_eq_true_eq] at h
        obtain ⟨⟨⟨⟨rfl, rfl⟩, h1⟩, h2⟩, h3⟩ := h
        exact ⟨t_chn c (sE a Γ X W x c h1) (sE b Γ X W y c h2) (sE d Γ X W z c h3) (mE_plain h3), fun _ _ _ z => by cases z⟩
      | [], _, h => simp [mE] at h
      | [_], _, h => simp [mE] at h
      | [_, _], [], h => simp [mE] at h
      | [_, _], [_], h => simp [mE] at h
      | [_, _], _ :: _ :: _ :: _, h => simp [mE] at h
      | _ :: _ :: _ :: _, _, h => simp [mE] at h
    | _ => simp [mE] at h
  | .var i, Γ, X, W, e, c, h => by
    cases e with
    | Name y p => simp only [mE] at h; exact ⟨t_plain c (s_var c h) fun _ => rfl, fun _ _ _ z => by cases z⟩
    | _ => simp [mE] at h
  | .frz i, Γ, X, W, e, c, h => by
    cases e with
    | Name y p => simp only [mE] at h; exact ⟨t_plain c (s_frz c h) fun _ => rfl, fun _ _ _ z => by cases z⟩
    | _ => simp [mE] at h
  | .non, Γ, X, W, e, c, h => by
    cases e with
    | Constant v j p => cases v with
      | none => exact ⟨t_plain c (s_con pe_non (fun w => rep_non) fun σ M => by simp only [evE]) fun _ => rfl, fun _ _ _ z => by cases z⟩
      | _ => simp [mE] at h
    | _ => simp [mE] at h
  | .bl b, Γ, X, W, e, c, h => by
    cases e with
    | Constant v j p => cases v with
      | bool b' =>
        have : b = b' := by simpa [mE] using h
        subst this
        exact ⟨t_plain c (s_con pe_bl (fun w => rep_bl) fun σ M => by simp only [evE]) fun _ => rfl, fun _ _ _ z => by cases z⟩
      | _ => simp [mE] at h
    | _ => simp [mE] at h
  | .int i, Γ, X, W, e, c, h => by
    cases e with
    | Constant v j p => cases v with
      | int b' =>
        have : i = b' := by simpa [mE] using h
        subst this
        exact ⟨t_plain c (s_con pe_int (fun w => rep_int) fun σ M => by simp only [evE]) fun _ => rfl, fun _ _ _ z => by cases z⟩
      | _ => simp [mE] at h
    | _ => simp [mE] at h
  | .str s, Γ, X, W, e, c, h => by
    cases e with
    | Constant v j p => cases v with
      | str b' =>
        have : s = b' := eqS_eq (by simpa only [mE] using h)
        subst this
        exact ⟨t_plain c (s_con pe_str (fun w => rep_str) fun σ M => by simp only [evE]) fun _ => rfl, fun _ _ _ z => by cases z⟩
      | _ => simp [mE] at h
    | _ => simp [mE] at h
  | .bin o a b, Γ, X, W, e, c, h => by
    cases e with
    | BinOp x op y p =>
      simp only [mE, Bool.and_eq_true, decide_eq_true_eq] at h
      obtain ⟨⟨rfl, h1⟩, h2⟩ := h
      exact ⟨t_plain c (s_bin c (sE a Γ X W x c h1) (sE b Γ X W y c h2)) fun _ => rfl, fun _ _ _ z => by cases z⟩
    | _ => simp [mE] at h
  | .neg a, Γ, X, W, e, c, h => by
    cases e with
    | UnaryOp op x p => cases op with
      | USub => simp only [mE] at h; exact ⟨t_plain c (s_neg (sE a Γ X W x c h)) fun _ => rfl, fun _ _ _ z => by cases z⟩
      | _ => simp [mE] at h
    | _ => simp [mE] at h
  | .tup es, Γ, X, W, e, c, h => by
    cases e with
    | Tuple xs n p => simp only [mE] at h; exact ⟨t_plain c (s_tup (sL es Γ X W xs c h)) fun _ => rfl, fun _ _ _ z => by cases z⟩
    | _ => simp [mE] at h
  | .lst es, Γ, X, W, e, c, h => by
    cases e with
    | List xs p => simp only [mE] at h; exact ⟨t_plain c (s_lst (sL es Γ X W xs c h)) fun _ => rfl, fun _ _ _ z => by cases z⟩
    | _ => simp [mE] at h
  | .mls es, Γ, X, W, e, c, h => by
    cases e with
    | List xs p => simp only [mE] at h; exact ⟨t_plain c (s_mls (sL es Γ X W xs c h)) fun _ => rfl, fun _ _ _ z => by cases z⟩
    | _ => simp [mE] at h
  | .ix a b, Γ, X, W, e, c, h => by
    cases e with
    | Subscript x y p =>
      have h' : mE a Γ x = true ∧ mE b Γ y = true := by
        cases y <;> simpa [mE] using h
      exact ⟨t_plain c (s_ix c (sE a Γ X W x c h'.1) (sE b Γ X W y c h'.2) (mE_plain h'.2)) fun _ => rfl, fun _ _ _ z => by cases z⟩
    | _ => simp [mE] at h
  | .slc a lo hi, Γ, X, W, e, c, h => by
    cases e with
    | Subscript x y p => cases y with
      | Slice l u st p2 => cases st with
        | none =>
          simp only [mE, Bool.and_eq_true] at h
          exact ⟨t_plain c (s_slc c (sE a Γ X W x c h.1.1) (sO lo Γ X W l c h.1.2) (sO hi Γ X W u c h.2)) fun _ => rfl, fun _ _ _ z => by cases z⟩
        | some _ => simp [mE] at h
      | _ => simp [mE] at h
    | _ => simp [mE] at h
  | .call f es ks pm, Γ, X, W, e, c, h => by
    cases e with
    | Call fn args kws p => cases fn with
      | Name x q =>
        simp only [mE] at h
        split at h
        · rename_i d hd
          simp only [Bool.and_eq_true, decide_eq_true_eq] at h
          obtain ⟨⟨⟨⟨⟨h1, h2⟩, h3⟩, h4⟩, h5⟩, h6⟩ := h
          exact ⟨t_plain c (s_call c hd (eqS_eq h1) h2 h3 h4 h5 h6 (sL es Γ X W args c h4) (sK ks Γ X W kws c h5)) fun _ => rfl, fun _ _ _ z => by cases z⟩
        · cases h
      | _ => simp [mE] at h
    | _ => simp [mE] at h
  | .bi b es, Γ, X, W, e, c, h => by
    cases e with
    | Call fn args kws p => cases fn with
      | Name x q => cases kws with
        | nil =>
          simp only [mE, Bool.and_eq_true] at h
          obtain ⟨⟨⟨⟨⟨h1, h2⟩, h3⟩, h4⟩, h5⟩, h6⟩ := h
          exact ⟨t_plain c (s_bi c (eqS_eq h1) h2 h3 h4 h5 (fun z => by rw [z] at h6; cases h6) (sL es Γ X W args c h5)) fun _ => rfl, fun _ _ _ z => by cases z⟩
        | cons _ _ => simp [mE] at h
      | _ => simp [mE] at h
    | _ => simp [mE] at h
  | .isi a ts, Γ, X, W, e, c, h => by
    cases e with
    | Call fn args kws p => cases fn with
      | Name x q =>
        match args, kws, h with
        | [y, cl], [], h =>
          simp only [mE, Bool.and_eq_true] at h
          obtain ⟨⟨⟨⟨⟨⟨h1, h2⟩, h3⟩, h4⟩, h5⟩, h6⟩, h7⟩ := h
          exact ⟨t_plain c (s_isi c (eqS_eq h1) h2 h3 h4 (fun t ht => List.all_eq_true.mp h7 t ht) h6 (mE_plain h5) (sE a Γ X W y c h5)) fun _ => rfl, fun _ _ _ z => by cases z⟩
        | [], _, h => simp [mE] at h
        | [_], _, h => simp [mE] at h
        | _ :: _ :: _ :: _, _, h => simp [mE] at h
        | [_, _], _ :: _, h => simp [mE] at h
      | _ => simp [mE] at h
    | _ => simp [mE] at h
  | .meth m o es, Γ, X, W, e, c, h => by
    cases e with
    | Call fn args kws p => cases fn with
      | Attribute y name q => cases kws with
        | nil =>
          simp only [mE, Bool.and_eq_true, decide_eq_true_eq] at h
          obtain ⟨⟨⟨⟨⟨⟨h1, h2⟩, h3⟩, h4⟩, h5⟩, h6⟩, h7⟩ := h
          rw [eqS_eq h1]
          exact ⟨t_plain c (s_meth c h2 h4 (fun z => by rw [z] at h5; cases h5) h6 h7 (sE o Γ X W y c h3) (sL es Γ X W args c h4)) fun _ => rfl, fun _ _ _ z => by cases z⟩
        | cons _ _ => simp [mE] at h
      | _ => simp [mE] at h
    | _ => simp [mE] at h
  | .lc a t it cc vs, Γ, X, W, e, c, h => by
    cases e with
    | ListComp elt gs scope p =>
      match gs, h with
      | [⟨tg, iter, ifs, as⟩], h =>
        simp only [mE, Bool.and_eq_true, decide_eq_true_eq] at h
        obtain ⟨⟨⟨⟨⟨⟨⟨rfl, h1⟩, h2⟩, h3⟩, h4⟩, h5⟩, h6⟩, h7⟩ := h
        have hit : ∀ x, foldedSetIterable iter X.env x = pure x := folded_of (mI_plain h1) X.env
        exact ⟨t_plain c (s_lc c h2 h3 h5 hit (sI it Γ X W tg iter c h1) (fun s H C cl fp => sT t (Γ.blk scope) _ _ tg c.blk h4) (fun s H C cl fp => sC cc (Γ.blk scope) _ _ ifs c.blk h6)
          (fun s H C cl fp => sE a (Γ.blk scope) _ _ elt c.blk h7)) fun _ => rfl, fun _ _ _ z => by cases z⟩
      | [], h => simp [mE] at h
      | _ :: _ :: _, h => simp [mE] at h
    | _ => simp [mE] at h
theorem sL : ∀ (xs : List Ex) (Γ : Cn) (X : Cx) (W : WX) (es : List Expr), Ctx G Γ k X W → mL xs Γ es = true → PA X es (tL G (evF Γ.P k) W xs)
  | [], Γ, X, W, es, c, h => by
    cases es with
    | nil => exact s_nil
    | cons _ _ => simp [mL] at h
  | x :: xs, Γ, X, W, es, c, h => by
    cases es with
    | nil => simp [mL] at h
    | cons e es =>
      simp only [mL, Bool.and_eq_true] at h
      exact s_cons (sE x Γ X W e c h.1) (sL xs Γ X W es c h.2) (mE_plain h.1)
theorem sK : ∀ (xs : List (Str × Ex)) (Γ : Cn) (X : Cx) (W : WX) (es : List Keyword), Ctx G Γ k X W → mK xs Γ es = true → PK X es (tK' G (evF Γ.P k) W xs)
  | [], Γ, X, W, es, c, h => by
    cases es with
    | nil => exact k_nil
    | cons _ _ => simp [mK] at h
  | (n, x) :: xs, Γ, X, W, es, c, h => by
    cases es with
    | nil => simp [mK] at h
    | cons e es =>
      obtain ⟨nm, v, p⟩ := e
      cases nm with
      | none => simp [mK] at h
      | some nm =>
        simp only [mK, Bool.and_eq_true] at h
        exact k_cons (sE x Γ X W v c h.1.2) (sK xs Γ X W es c h.2)
theorem sO : ∀ (x : Option Ex) (Γ : Cn) (X : Cx) (W : WX) (e : Option Expr), Ctx G Γ k X W → mO x Γ e = true → PO X e (tO' G (evF Γ.P k) W x)
  | none, Γ, X, W, e, c, h => by
    cases e with
    | none => exact o_none
    | some _ => simp [mO] at h
  | some x, Γ, X, W, e, c, h => by
    cases e with
    | none => simp [mO] at h
    | some e => simp only [mO] at h; exact o_some (sE x Γ X W e c h)
theorem sC : ∀ (x : Option Ex) (Γ : Cn) (X : Cx) (W : WX) (es : List Expr), Ctx G Γ k X W → mC x Γ es = true → PTs X es (tC' G (evF Γ.P k) W x)
  | none, Γ, X, W, es, c, h => by
    cases es with
    | nil => exact c_none
    | cons _ _ => simp [mC] at h
  | some x, Γ, X, W, es, c, h => by
    match es, h with
    | [], h => simp [mC] at h
    | [e], h => simp only [mC] at h; exact c_some (sB x Γ X W e c h).1
    | _ :: _ :: _, h => simp [mC] at h
theorem sI : ∀ (x : It) (Γ : Cn) (X : Cx) (W : WX) (tg e : Expr), Ctx G Γ k X W → mI x Γ tg e = true → PI X tg e (tI G (evF Γ.P k) W x)
  | .seq x, Γ, X, W, tg, e, c, h => by
    have h' : mE x Γ e = true := by simpa only [mI] using h
    exact pi_seq c (sE x Γ X W e c h')
  | .rng1 a, Γ, X, W, tg, e, c, h => by
    cases e with
    | Call fn args kws p => cases fn with
      | Name x q =>
        match args, kws, h with
        | [u], [], h =>
          simp only [mI, Bool.and_eq_true] at h
          obtain ⟨⟨⟨h1, h2⟩, h3⟩, h4⟩ := h
          exact pi_rng1 c (eqS_eq h1) h2 h3 (mE_plain h4) (sE a Γ X W u c h4)
        | [], _, h => simp [mI] at h
        | _ :: _ :: _, _, h => simp [mI] at h
        | [_], _ :: _, h => simp [mI] at h
      | _ => simp [mI] at h
    | _ => simp [mI] at h
  | .rng2 a b, Γ, X, W, tg, e, c, h => by
    cases e with
    | Call fn args kws p => cases fn with
      | Name x q =>
        match args, kws, h with
        | [u, v], [], h =>
          simp only [mI, Bool.and_eq_true] at h
          obtain ⟨⟨⟨⟨h1, h2⟩, h3⟩, h4⟩, h5⟩ := h
          exact pi_rng2 c (eqS_eq h1) h2 h3 (mE_plain h4) (mE_plain h5) (sE a Γ X W u c h4) (sE b Γ X W v c h5)
        | [], _, h => simp [mI] at h
        | [_], _, h => simp [mI] at h
        | _ :: _ :: _ :: _, _, h => simp [mI] at h
        | [_, _], _ :: _, h => simp [mI] at h
      | _ => simp [mI] at h
    | _ => simp [mI] at h
  | .enu a, Γ, X, W, tg, e, c, h => by
    cases tg with
    | Tuple ts n tp =>
      cases e with
      | Call fn args kws p => cases fn with
        | Name x q =>
          match args, kws, h with
          | [u], [], h =>
            simp only [mI, Bool.and_eq_true] at h
            obtain ⟨⟨⟨h1, h2⟩, h3⟩, h4⟩ := h
            exact pi_enu c (eqS_eq h1) h2 h3 (mE_plain h4) (sE a Γ X W u c h4)
          | [], _, h => simp [mI] at h
          | _ :: _ :: _, _, h => simp [mI] at h
          | [_], _ :: _, h => simp [mI] at h
        | _ => simp [mI] at h
      | _ => simp [mI] at h
    | _ => simp [mI] at h
  | .zip a b, Γ, X, W, tg, e, c, h => by
    cases tg with
    | Tuple ts n tp =>
      cases e with
      | Call fn args kws p => cases fn with
        | Name x q =>
          match args, kws, h with
          | [u, v], [], h =>
            simp only [mI, Bool.and_eq_true] at h
            obtain ⟨⟨⟨⟨h1, h2⟩, h3⟩, h4⟩, h5⟩ := h
            exact pi_zipD c (eqS_eq h1) h2 h3 (mE_plain h4) (mE_plain h5) (sE a Γ X W u c h4) (sE b Γ X W v c h5)
          | [], _, h => simp [mI] at h
          | [_], _, h => simp [mI] at h
          | _ :: _ :: _ :: _, _, h => simp [mI] at h
          | [_, _], _ :: _, h => simp [mI] at h
        | _ => simp [mI] at h
      | _ => simp [mI] at h
    | _ => simp [mI] at h
theorem sT : ∀ (t : Tg) (Γ : Cn) (X : Cx) (W : WX) (e : Expr), Ctx G Γ k X W → mT t Γ e = true → PG X e (tTg G (evF Γ.P k) W t)
  | .nm i, Γ, X, W, e, c, h => by
    cases e with
    | Name y p =>
      simp only [mT, Bool.and_eq_true, decide_eq_true_eq] at h
      exact g_nm c h.1 h.2
    | _ => simp [mT] at h
  | .tp ts, Γ, X, W, e, c, h => by
    cases e with
    | Tuple es n p => simp only [mT] at h; exact g_tup c h (sTs ts Γ X W es c h)
    | _ => simp [mT] at h
  | .sub a b, Γ, X, W, e, c, h => by
    cases e with
    | Subscript x y p =>
      simp only [mT, Bool.and_eq_true] at h
      exact g_sub (sE a Γ X W x c h.1) (sE b Γ X W y c h.2) (mE_plain h.2)
    | _ => simp [mT] at h
  | .fld a f, Γ, X, W, e, c, h => by
    cases e <;> simp [mT] at h
theorem sTs : ∀ (ts : List Tg) (Γ : Cn) (X : Cx) (W : WX) (es : List Expr), Ctx G Γ k X W → mTs ts Γ es = true → PGs X es (tTgs G (evF Γ.P k) W ts)
  | [], Γ, X, W, es, c, h => by
    cases es with
    | nil => exact g_nil
    | cons _ _ => simp [mTs] at h
  | t :: ts, Γ, X, W, es, c, h => by
    cases es with
    | nil => simp [mTs] at h
    | cons e es =>
      simp only [mTs, Bool.and_eq_true] at h
      exact g_cons (sT t Γ X W e c h.1) (sTs ts Γ X W es c h.2) (mT_plain h.1)
end
end
end Ev
/-! Ev13: statements. -/
namespace Ev
open PySem L2

/-! ### which text a statement stands for -/
/-- the names that a, b = x, y stores, where the pair itself is not made -/
def swNames (sc : Scope) (ts : List Expr) : List Str :=
  let line := (ts.head?.map (·.pos.line)).getD 0
  ts.filterMap fun
    | .Name id pos => if sc.names.lookup id == some .local && pos.line == line then some id else none
    | _ => none
def notComp : Expr → Bool
  | .ListComp _ _ _ _ => false
  | .SetComp _ _ _ _ => false
  | .DictComp _ _ _ _ _ => false
  | _ => true
/-- whether a comprehension's list goes to its name at once -/
def atOnce (sc : Scope) : Expr → Expr → Bool
  | .Name t pos, .ListComp _ _ scope p => (match sc.names.lookup t with | some .local => true | _ => false) && (pos.line == p.line) && !(scope.names.any fun (n, k) => n == t && (k == .local || k == .cell))
  | _, _ => false
/-- no stores are swapped -/
def notSwapped (sc : Scope) : Expr → Expr → Bool
  | .Tuple ts _ _, .Tuple vs _ _ => !(ts.length == 2 || ts.length == 3) || vs.length != ts.length || (swNames sc ts).length != ts.length || (swNames sc ts).eraseDups.length != (swNames sc ts).length || vs.all (foldedForSure 8)
  | .List _ _, _ => false
  | _, _ => true
mutual
def mS : Sx → Cn → Stmt → Bool
  | .asg t e, Γ, .Assign [x] y pos => mE e Γ y && (if atOnce Γ.sc x y then (match t, x with
      | .nm i, .Name n _ => decide (Γ.N[i]? = some n) && decide (Γ.sc.names.lookup n = some .local)
      | _, _ => false) else mT t Γ x && notSwapped Γ.sc x y)
  | .par is es, Γ, .Assign xs y _ => (match xs, y with
    | [.Tuple ts _ _], .Tuple vs _ _ => mL es Γ vs && decide ((is.map fun i => Γ.N[i]?) = (swNames Γ.sc ts).map some) && (is.length == 2 || is.length == 3) && (swNames Γ.sc ts).length == ts.length &&
      (swNames Γ.sc ts).eraseDups.length == (swNames Γ.sc ts).length && vs.length == ts.length && !(vs.all (constantsAlone 8)) && !(vs.all (foldedForSure 8))
    | _, _ => false)
  | .aug i o e, Γ, .AugAssign (.Name x _) op y _ => decide (Γ.N[i]? = some x) && locB Γ.st x && decide (op = toOp o) && mE e Γ y
  | .expr e, Γ, .Expr y _ => notComp y && mE e Γ y
  | .ret e, Γ, .Return (some y) _ => mE e Γ y
  | .retN, _, .Return none _ => true
  | .ifs c a b, Γ, .If x xs ys _ => mE c Γ x && mSs a Γ xs && mSs b Γ ys
  | .fors t it body, Γ, .For tg iter xs [] _ => mI it Γ tg iter && mT t Γ tg && mSs body Γ xs
  | .whl _ c body, Γ, .While x xs [] _ => mE c Γ x && mSs body Γ xs
  | .brk, _, .Break _ => true
  | .cnt, _, .Continue _ => true
  | .pass, _, .Pass _ => true
  | .nev, _, _ => true
  | _, _, _ => false
def mSs : List Sx → Cn → List Stmt → Bool
  | [], _, [] => true
  | s :: ss, Γ, x :: xs => mS s Γ x && mSs ss Γ xs
  | _, _, _ => false
end

section
variable {G : Gb} {Φ : Nat → List D → Mem → Res D} {W : WX} {X : Cx} {k : Nat} {Γ : Cn}
theorem bk_of {env : Env} (h : env.scope.kind = .function) : env.blockKind = .function := by unfold Env.blockKind; rw [h]; rfl
def starAny (vs : List Expr) : Bool := vs.any fun | .Starred .. => true | _ => false
theorem sw_eq {env : Env} {ts vs : List Expr} {n m : Nat} {p q : Pos} (hk : env.scope.kind = .function) : swappedStores [.Tuple ts n p] (.Tuple vs m q) env =
    (if (!(ts.length == 2 || ts.length == 3) || vs.length != ts.length || ScopeKind.function != .function) = true then pure none else if starAny vs = true then pure none
      else if ((swNames env.scope ts).length != ts.length || (swNames env.scope ts).eraseDups.length != (swNames env.scope ts).length) = true then pure none
      else if vs.all (foldedForSure 8) = true then pure none
      else if vs.all (constantsAlone 8) = true then (do unsupported "assign.tuple-of-constant-expressions:order-of-the-stores"; pure (some (swNames env.scope ts))) else pure (some (swNames env.scope ts))) := by
  unfold swappedStores
  simp only [bk_of hk, Env.kindOf]
  rfl
theorem starAny_of {vs : List Expr} (h : ∀ v ∈ vs, plainX v = true) : starAny vs = false := by
  cases e : starAny vs with
  | false => rfl
  | true =>
    obtain ⟨v, hv, hm⟩ := List.any_eq_true.mp e
    have := h v hv
    cases v with
    | Starred _ _ => cases this
    | _ => cases hm
theorem sw_none {env : Env} {t v : Expr} (hk : env.scope.kind = .function) (h : notSwapped env.scope t v = true) : swappedStores [t] v env = pure none := by
  cases t with
  | Tuple ts n p =>
    cases v with
    | Tuple vs m q =>
      rw [sw_eq hk]
      simp only [notSwapped, Bool.or_eq_true] at h
      by_cases h1 : (!(ts.length == 2 || ts.length == 3) || vs.length != ts.length || ScopeKind.function != ScopeKind.function) = true
      · rw [if_pos h1]
      · rw [if_neg h1]
        split
        · rfl
        · by_cases h2 : ((swNames env.scope ts).length != ts.length || (swNames env.scope ts).eraseDups.length != (swNames env.scope ts).length) = true
          · rw [if_pos h2]
          · rw [if_neg h2]
            by_cases h3 : vs.all (foldedForSure 8) = true
            · rw [if_pos h3]
            · exfalso
              have e : (ScopeKind.function != ScopeKind.function) = false := rfl
              rw [e, Bool.or_false] at h1
              simp only [Bool.or_eq_true] at h1 h2
              rcases h with (((h | h) | h) | h) | h
              · exact h1 (.inl h)
              · exact h1 (.inr h)
              · exact h2 (.inl h)
              · exact h2 (.inr h)
              · exact h3 h
    | _ => rfl
  | List ts p => simp [notSwapped] at h
  | _ => rfl

/-! ### readings -/
def PostS (G : Gb) (W : WX) (Dn : Ends) (w : Wd) (r : RS) : Prop :=
  match r with
  | .nx σd M => ∀ w' σ', Ext w w' → WOk G w' → w'.M = M → RepS G w' σd σ' → Dn.nx σ' w'.H
  | .bk σd M => ∀ w' σ', Ext w w' → WOk G w' → w'.M = M → RepS G w' σd σ' → Dn.bk σ' w'.H
  | .ct σd M => ∀ w' σ', Ext w w' → WOk G w' → w'.M = M → RepS G w' σd σ' → Dn.ct σ' w'.H
  | .rt d M => ∀ w' v, Ext w w' → WOk G w' → w'.M = M → Rep G w' d v → Dn.rt v w'.H
  | .ex c fs σd M => ∀ w' σ' d, Ext w w' → WOk G w' → w'.M = M → RepS G w' σd σ' → XRep G w' d fs → W (.ref (G.cls c)) d σ' w'.H
  | .no => False
theorem PostS.later {Dn : Ends} {w w' : Wd} {r : RS} (x : Ext w w') (h : PostS G W Dn w r) : PostS G W Dn w' r := by
  cases r with
  | nx σd M => exact fun w2 s2 x2 g e q => h w2 s2 (x.trans x2) g e q
  | bk σd M => exact fun w2 s2 x2 g e q => h w2 s2 (x.trans x2) g e q
  | ct σd M => exact fun w2 s2 x2 g e q => h w2 s2 (x.trans x2) g e q
  | rt d M => exact fun w2 v x2 g e q => h w2 v (x.trans x2) g e q
  | ex c fs σd M => exact fun w2 s2 d x2 g e q q2 => h w2 s2 d (x.trans x2) g e q q2
  | no => exact h
theorem PostS.of {α : Type} {Dn : Ends} {w : Wd} {σd : Env'} {σ : L2.St} {r : Res α} {f : α → Mem → RS} (rs : RepS G w σd σ) (h : PostS G W Dn w (RS.of r σd f)) : Post G W σ w r fun a w' => PostS G W Dn w' (f a w'.M) := by
  cases r with
  | ok a M =>
    intro w' x g e
    subst e
    exact PostS.later x h
  | ex c fs M => exact fun w' d x g e q => h w' σ d x g e (rs.ext x) q
  | no => exact h
theorem PostS.then {Dn : Ends} {w : Wd} {r : RS} {f : Env' → Mem → RS} (h : PostS G W Dn w (r.then f)) : PostS G W { Dn with nx := fun σ H => ∃ w' σd, w'.H = H ∧ WOk G w' ∧ RepS G w' σd σ ∧ PostS G W Dn w' (f σd w'.M) } w r := by
  cases r with
  | nx σd M =>
    intro w' σ' x g e q
    subst e
    exact ⟨w', σd, rfl, g, q, PostS.later x h⟩
  | _ => exact h
section
variable (G Φ W)
def tS (s : Sx) : TS := fun Dn σ H => ∃ w σd, w.H = H ∧ WOk G w ∧ RepS G w σd σ ∧ PostS G W Dn w (evS Φ s σd w.M)
def tSs (ss : List Sx) : TS := fun Dn σ H => ∃ w σd, w.H = H ∧ WOk G w ∧ RepS G w σd σ ∧ PostS G W Dn w (evSs Φ ss σd w.M)
end
theorem ss_nil : PSs X [] (tSs G Φ W []) := by
  refine PSs.imp pss_nil ?_
  rintro Dn σ H ⟨w, σd, rfl, g, rs, hp⟩
  simp only [evSs] at hp
  exact hp w σ (Ext.refl w) g rfl rs
theorem ss_cons {s : Sx} {ss : List Sx} {x : Stmt} {xs : List Stmt} (h1 : PS X x (tS G Φ W s)) (h2 : PSs X xs (tSs G Φ W ss)) : PSs X (x :: xs) (tSs G Φ W (s :: ss)) := by
  refine PSs.imp (pss_cons h1 h2) ?_
  rintro Dn σ H ⟨w, σd, rfl, g, rs, hp⟩
  simp only [evSs] at hp
  exact ⟨w, σd, rfl, g, rs, PostS.then hp⟩
theorem swaps_plain {e : Expr} (h : notComp e = true) (t : Option Expr) (l : Nat) (env : Env) : swapsWith e t l env = pure false := by
  cases e <;> first
    | rfl
    | (simp [notComp] at h)
theorem x_ret {e : Ex} {x : Expr} {pos : Pos} (h : PE X x (tE G Φ W e)) : PS X (.Return (some x) pos) (tS G Φ W (.ret e)) := by
  refine PS.imp (ps_ret h) ?_
  rintro Dn σ H ⟨w, σd, rfl, g, rs, hp⟩
  simp only [evS] at hp
  refine ⟨w, σd, rfl, g, rs, (PostS.of rs hp).mono fun d w1 x1 g1 h1 v r => h1 w1 v (Ext.refl w1) g1 rfl r⟩
theorem x_retN {pos : Pos} : PS X (.Return none pos) (tS G Φ W .retN) := by
  refine PS.imp ps_retN ?_
  rintro Dn σ H ⟨w, σd, rfl, g, rs, hp⟩
  simp only [evS] at hp
  exact hp w .non (Ext.refl w) g rfl rep_non
theorem x_expr {e : Ex} {x : Expr} {pos : Pos} (h : PE X x (tE G Φ W e)) (hn : notComp x = true) : PS X (.Expr x pos) (tS G Φ W (.expr e)) := by
  refine PS.imp (ps_expr h (swaps_plain hn _ _ _)) ?_
  rintro Dn σ H ⟨w, σd, rfl, g, rs, hp⟩
  simp only [evS] at hp
  refine ⟨w, σd, rfl, g, rs, (PostS.of rs hp).mono fun d w1 x1 g1 h1 v r => h1 w1 σ (Ext.refl w1) g1 rfl (rs.ext x1)⟩
theorem x_if {e : Ex} {a b : List Sx} {x : Expr} {xs ys : List Stmt} {pos : Pos} (h : PT X x (tB' G Φ W e)) (ha : PSs X xs (tSs G Φ W a)) (hb : PSs X ys (tSs G Φ W b)) : PS X (.If x xs ys pos) (tS G Φ W (.ifs e a b)) := by
  refine PS.imp (ps_if h ha hb) ?_
  rintro Dn σ H ⟨w, σd, rfl, g, rs, hp⟩
  simp only [evS] at hp
  refine ⟨w, σd, rfl, g, rs, (PostS.of rs hp).mono fun t w1 x1 g1 h1 => ?_⟩
  cases t with
  | true => exact iteT ⟨w1, σd, rfl, g1, rs.ext x1, h1⟩
  | false => exact iteF ⟨w1, σd, rfl, g1, rs.ext x1, h1⟩
theorem x_asg (c : Ctx G Γ k X W) {t : Tg} {e : Ex} {x y : Expr} {pos : Pos} (hk : X.env.scope.kind = .function) (he : PE X y (tE G Φ W e)) (hg : PG X x (tTg G Φ W t)) (hx : plainX x = true) (hsw : notSwapped Γ.sc x y = true) (hs : swapsWith y (some x) pos.line X.env = pure false) :
    PS X (.Assign [x] y pos) (tS G Φ W (.asg t e)) := by
  refine PS.imp (ps_asg he hg hs (sw_none hk (by rw [c.sc]; exact hsw)) (by rw [assign_plain hx]; rfl)) ?_
  rintro Dn σ H ⟨w, σd, rfl, g, rs, hp⟩
  simp only [evS] at hp
  refine ⟨w, σd, rfl, g, rs, (PostS.of rs hp).mono fun d w1 x1 g1 h1 v r => ?_⟩
  exact ⟨w1, σd, d, rfl, g1, rs.ext x1, r, (PostS.of (rs.ext x1) h1).mono fun σ1 w2 x2 g2 h2 σ' rs' off => h2 w2 σ' (Ext.refl w2) g2 rfl rs'⟩
theorem x_setLc (c : Ctx G Γ k X W) {i : Nat} {e : Ex} {s : Stmt} (h : PS X s (tAsg (tE G Φ W e) (gName i))) : PS X s (tS G Φ W (.asg (.nm i) e)) := by
  refine PS.imp h ?_
  rintro Dn σ H ⟨w, σd, rfl, g, rs, hp⟩
  simp only [evS, evT] at hp
  refine ⟨w, σd, rfl, g, rs, (PostS.of rs hp).mono fun d w1 x1 g1 h1 v r => ?_⟩
  exact h1 w1 _ (Ext.refl w1) g1 rfl ((rs.ext x1).set i r)
theorem iop_D (o : BO) : PIp X (toOp o) (fun x y H Q => ∃ w d e z, w.H = H ∧ WOk G w ∧ Rep G w d x ∧ Rep G w e y ∧ evAug o d e = some z ∧ ∀ v, Rep G w z v → Q v w.H) := by
  intro pins s σ H x y v u Q I rx ry h
  obtain ⟨w, d, e, z, rfl, g, r1, r2, hz, q⟩ := h
  unfold evAug at hz
  split at hz
  · rename_i i j
    simp only [Rep] at r1 r2
    subst r1 r2
    split at hz
    · cases hz
    · rename_i ho
      obtain ⟨n, hn, rfl⟩ := Option.map_eq_some_iff.mp hz
      have q := q _ rep_int
      cases o with
      | add =>
        simp only [binI, Option.some.injEq] at hn; subst hn
        exact iop_add pins s σ w.H _ _ v u Q I rx ry ⟨i, j, rfl, rfl, q⟩
      | sub =>
        simp only [binI, Option.some.injEq] at hn; subst hn
        exact iop_sub pins s σ w.H _ _ v u Q I rx ry ⟨i, j, rfl, rfl, q⟩
      | mul =>
        simp only [binI] at hn
        split at hn
        · rename_i hm
          cases hn
          obtain ⟨t, rfl⟩ := rx
          obtain ⟨t', rfl⟩ := ry
          exact PyProof.Rows.imul_int ⟨.int _, w.H, I.tok _, ⟨_, rfl⟩, q⟩ (by rcases mulOk_ok hm with z | z; exact z.ok; exact z.ok)
        · cases hn
      | fdiv =>
        simp only [binI] at hn
        split at hn
        · rename_i hm
          cases hn
          exact iop_fdivW pins s σ w.H _ _ v u Q I rx ry ⟨i, j, rfl, rfl, hm, q⟩
        · cases hn
      | mod =>
        simp only [binI] at hn
        split at hn
        · rename_i hm
          cases hn
          exact iop_mod pins s σ w.H _ _ v u Q I rx ry ⟨i, j, rfl, rfl, hm, q⟩
        · cases hn
      | pow => exact absurd rfl ho
  · rename_i a b
    simp only [Rep] at r1 r2
    subst r1 r2
    split at hz
    · rename_i hc
      cases hz
      obtain ⟨rfl, hl⟩ := hc
      exact iop_add_str pins s σ w.H _ _ v u Q I rx ry ⟨a, b, rfl, rfl, hl, q _ rep_str⟩
    · cases hz
  · cases hz
theorem x_aug (c : Ctx G Γ k X W) {i : Nat} {o : BO} {e : Ex} {n : Str} {y : Expr} {p pos : Pos} (hi : Γ.N[i]? = some n) (hl : locB Γ.st n = true) (he : PE X y (tE G Φ W e)) : PS X (.AugAssign (.Name n p) (toOp o) y pos) (tS G Φ W (.aug i o e)) := by
  obtain ⟨h1, h2⟩ := c.store n (loc_of hl)
  refine PS.imp (ps_aug (i := i) (by rw [c.N]; exact c.nd) (by rw [c.N]; exact hi) h1 he (iop_D (G := G) o) h2) ?_
  rintro Dn σ H ⟨w, σd, rfl, g, rs, hp⟩
  simp only [evS] at hp
  split at hp
  · rename_i d ed
    obtain ⟨v, e1, r⟩ := rs.2 i d ed
    refine ⟨v, e1, w, σd, rfl, g, rs, (PostS.of rs hp).mono fun d2 w1 x1 g1 h1 v2 r2 => ?_⟩
    split at h1
    · rename_i z hz
      exact ⟨w1, d, d2, z, rfl, g1, Rep.ext x1 _ _ r, r2, hz, fun u ru => h1 w1 _ (Ext.refl w1) g1 rfl ((rs.ext x1).set i ru)⟩
    · exact h1.elim
  · exact hp.elim
/-- inside a loop -/
theorem PostS.loop {Dn : Ends} {w w0 : Wd} {r : RS} {f : Env' → Mem → RS} (em : Emb w0 w) (h : PostS G W Dn w (match r with | .nx σ1 M1 => f σ1 M1 | .ct σ1 M1 => f σ1 M1 | .bk σ1 M1 => .nx σ1 M1 | r => r)) :
    PostS G W { Dn with nx := fun σ H => ∃ w' σd, w'.H = H ∧ Emb w0 w' ∧ WOk G w' ∧ RepS G w' σd σ ∧ PostS G W Dn w' (f σd w'.M), ct := fun σ H => ∃ w' σd, w'.H = H ∧ Emb w0 w' ∧ WOk G w' ∧ RepS G w' σd σ ∧ PostS G W Dn w' (f σd w'.M), bk := Dn.nx } w r := by
  cases r with
  | nx σd M =>
    intro w' σ' x g e q
    subst e
    exact ⟨w', σd, rfl, em.trans x.emb, g, q, PostS.later x h⟩
  | ct σd M =>
    intro w' σ' x g e q
    subst e
    exact ⟨w', σd, rfl, em.trans x.emb, g, q, PostS.later x h⟩
  | bk σd M => exact h
  | rt d M => exact h
  | ex c fs σd M => exact h
  | no => exact h
theorem PostS.of2 {α : Type} {Dn : Ends} {w : Wd} {σd : Env'} {σ : L2.St} {r : Res α} {f : α → Mem → RS} {g : RS → RS} (hg : ∀ c fs s M, g (.ex c fs s M) = .ex c fs s M) (hno : g .no = .no) (rs : RepS G w σd σ) (h : PostS G W Dn w (g (RS.of r σd f))) : Post G W σ w r fun a w' => PostS G W Dn w' (g (f a w'.M)) := by
  cases r with
  | ok a M =>
    intro w' x gg e
    subst e
    exact PostS.later x h
  | ex c fs M =>
    have h' : PostS G W Dn w (g (.ex c fs σd M)) := h
    rw [hg] at h'
    exact fun w' d x gg e q => h' w' σ d x gg e (rs.ext x) q
  | no =>
    have h' : PostS G W Dn w (g .no) := h
    rw [hno] at h'
    exact h'
theorem x_for (c : Ctx G Γ k X W) {t : Tg} {it : It} {body : List Sx} {tg iter : Expr} {xs : List Stmt} {pos : Pos} (po : PassesOwn (model X.prog X.w) X.A X.env X.xe) (hi : PI X tg iter (tI G Φ W it)) (hg : PG X tg (tTg G Φ W t)) (hb : PSs X xs (tSs G Φ W body)) (hit : ∀ x, foldedSetIterable iter X.env x = pure x) :
    PS X (.For tg iter xs [] pos) (tS G Φ W (.fors t it body)) := by
  refine PS.imp (ps_for po c.calm hi hg hb hit) ?_
  rintro Dn σ H ⟨w, σd, rfl, g, rs, hp⟩
  simp only [evS] at hp
  refine ⟨w, σd, rfl, g, rs, (PostS.of rs hp).mono fun ds w1 x1 g1 h1 J hJ => ?_⟩
  generalize hF : (fun x σ1 M2 => RS.of (evT Φ t x σ1 M2) σ1 fun σ2 M3 => evSs Φ body σ2 M3) = F at h1
  refine ⟨fun i m σ H => ∃ w2 σd2, w2.H = H ∧ i ≤ ds.length ∧ m = ds.length - i ∧ Emb w1 w2 ∧ WOk G w2 ∧ RepS G w2 σd2 σ ∧ PostS G W Dn w2 (forGo F (ds.drop i) σd2 w2.M),
    ⟨ds.length, w1, σd, rfl, Nat.zero_le _, by simp, Emb.refl w1, g1, rs.ext x1, by rw [List.drop_zero]; exact h1⟩, ?_⟩
  rintro i m σ2 H ⟨w2, σd2, rfl, hi, rfl, em, g2, rs2, h2⟩
  obtain ⟨j1, j2, j3⟩ := hJ w2 em g2
  by_cases hl : i < ds.length
  · right
    refine ⟨j1 i hl, fun σ' H' => ∃ w' σd', w'.H = H' ∧ Emb w1 w' ∧ WOk G w' ∧ RepS G w' σd' σ' ∧ PostS G W Dn w' (forGo F (ds.drop (i + 1)) σd' w'.M), fun σ' H' ⟨w', σd', e1, e2, e3, e4, e5⟩ => ⟨ds.length - (i + 1), by omega, w', σd', e1, hl, rfl, e2, e3, e4, e5⟩, fun x H' y => ?_⟩
    obtain ⟨w3, d, rfl, _, m3, _, x3, g3, hd, rd⟩ := j3 i x H' hl y
    have hdrop : ds.drop i = d :: ds.drop (i + 1) := by
      obtain ⟨h', e'⟩ := List.getElem?_eq_some_iff.mp hd
      rw [List.drop_eq_getElem_cons h', e']
    rw [hdrop] at h2
    simp only [forGo] at h2
    have h3 := PostS.later x3 h2
    rw [← m3, ← hF] at h3
    refine ⟨w3, σd2, d, rfl, g3, rs2.ext x3, rd, ?_⟩
    refine Post.mono (PostS.of2 (g := fun r => match r with | .nx σ1 M1 => forGo F (ds.drop (i + 1)) σ1 M1 | .ct σ1 M1 => forGo F (ds.drop (i + 1)) σ1 M1 | .bk σ1 M1 => .nx σ1 M1 | r => r) (fun _ _ _ _ => rfl) rfl (rs2.ext x3) (by rw [← hF]; exact h3)) fun σd4 w4 x4 g4 h4 σ4 rs4 off => ?_
    exact ⟨w4, σd4, rfl, g4, rs4, PostS.loop ((em.trans x3.emb).trans x4.emb) h4⟩
  · left
    have hi' : i = ds.length := by omega
    subst hi'
    refine ⟨j2, ?_⟩
    rw [List.drop_length] at h2
    simp only [forGo] at h2
    exact h2 w2 σ2 (Ext.refl w2) g2 rfl rs2
theorem x_while {n : Nat} {e : Ex} {body : List Sx} {x : Expr} {xs : List Stmt} {pos : Pos} (po : PassesOwn (model X.prog X.w) X.A X.env X.xe) (hc : PT X x (tB' G Φ W e)) (hb : PSs X xs (tSs G Φ W body)) : PS X (.While x xs [] pos) (tS G Φ W (.whl n e body)) := by
  refine PS.imp (ps_while po hc hb) ?_
  rintro Dn σ H ⟨w, σd, rfl, g, rs, hp⟩
  simp only [evS] at hp
  generalize hF : (fun σ1 M1 => evSs Φ body σ1 M1) = F at hp
  refine ⟨fun m σ H => ∃ w2 σd2, w2.H = H ∧ WOk G w2 ∧ RepS G w2 σd2 σ ∧ PostS G W Dn w2 (whlGo (fun σ1 M1 => (evE Φ e σ1 M1).bind fun d M2 => Res.of (truth M2 d) M2) F m σd2 w2.M), ⟨n, w, σd, rfl, g, rs, hp⟩, ?_⟩
  rintro m σ2 H ⟨w2, σd2, rfl, g2, rs2, h2⟩
  cases m with
  | zero => exact h2.elim
  | succ m =>
    simp only [whlGo] at h2
    refine ⟨w2, σd2, rfl, g2, rs2, (PostS.of rs2 h2).mono fun b w3 x3 g3 h3 => ?_⟩
    cases b with
    | true =>
      refine iteT ⟨fun σ' H' => ∃ w' σd', w'.H = H' ∧ Emb w3 w' ∧ WOk G w' ∧ RepS G w' σd' σ' ∧ PostS G W Dn w' (whlGo (fun σ1 M1 => (evE Φ e σ1 M1).bind fun d M2 => Res.of (truth M2 d) M2) F m σd' w'.M), fun σ' H' ⟨w', σd', e1, _, e3, e4, e5⟩ => ⟨m, Nat.lt_succ_self m, w', σd', e1, e3, e4, e5⟩, w3, σd2, rfl, g3, rs2.ext x3, ?_⟩
      have h4 : PostS G W Dn w3 (match F σd2 w3.M with | .nx σ1 M1 => whlGo (fun σ1 M1 => (evE Φ e σ1 M1).bind fun d M2 => Res.of (truth M2 d) M2) F m σ1 M1 | .ct σ1 M1 => whlGo (fun σ1 M1 => (evE Φ e σ1 M1).bind fun d M2 => Res.of (truth M2 d) M2) F m σ1 M1 | .bk σ1 M1 => .nx σ1 M1 | r => r) := h3
      rw [← hF] at h4 ⊢
      exact PostS.loop (Emb.refl w3) h4
    | false => exact iteF (h3 w3 σ2 (Ext.refl w3) g3 rfl (rs2.ext x3))
end
end Ev
/-! Ev14: pairs stored at once; blocks; defs. -/
namespace Ev
open PySem L2
section
variable {G : Gb} {Φ : Nat → List D → Mem → Res D} {W : WX} {X : Cx} {k : Nat} {Γ : Cn}
def setAllV (σ : L2.St) : List Nat → List V → L2.St
  | i :: is, v :: vs => setAllV (σ.set i (some v)) is vs
  | _, _ => σ
theorem RepS.setAll {w : Wd} : ∀ {is : List Nat} {ds : List D} {vs : List V} {σd : Env'} {σ : L2.St}, RepS G w σd σ → RepL G w ds vs → RepS G w (setAll σd is ds) (setAllV σ is vs)
  | [], _, _, _, _, h, _ => by simp only [setAll, setAllV]; exact h
  | i :: is, [], _, _, _, h, r => by simp only [RepL] at r; subst r; simp only [setAll, setAllV]; exact h
  | i :: is, d :: ds, _, _, _, h, r => by
    simp only [RepL] at r
    obtain ⟨v, vs, rfl, r1, r2⟩ := r
    simp only [setAll, setAllV]
    exact RepS.setAll (h.set i r1) r2
theorem store_all {pins : List (Addr × Obj)} {H : Hp} {M : Model} {A : Around} {E : Value → Shared → Prop} (hN : X.N.Nodup) : ∀ {ns : List Str} {is : List Nat} {us : List Value} {vs : List V} {σ : L2.St} {s : Shared} {Q : Unit → Shared → Prop},
    (is.map fun i => X.N[i]?) = ns.map some → (∀ n ∈ ns, X.env.scope.names.lookup n = some .local) → Vals vs us → ns.length = us.length → Inv X pins σ H s → (∀ s', Inv X pins (setAllV σ is vs) H s' → Q () s') → wpAny M A (assignInOrder (ns.map fun n => fun v => bindName X.env n v) us) Q E s
  | [], [], [], _, _, _, _, _, _, r, _, I, q => by
    cases r
    exact PyProof.Rows.assignInOrder_nil (q _ I)
  | [], [], _ :: _, _, _, _, _, _, _, _, hl, _, _ => by simp at hl
  | [], _ :: _, _, _, _, _, _, h, _, _, _, _, _ => by simp at h
  | _ :: _, [], _, _, _, _, _, h, _, _, _, _, _ => by simp at h
  | _ :: _, _ :: _, [], _, _, _, _, _, _, _, hl, _, _ => by simp at hl
  | n :: ns, i :: is, u :: us, vs, σ, s, Q, h, hloc, r, hl, I, q => by
    cases r with
    | cons r1 r2 =>
      rename_i v vs
      simp only [List.map_cons, List.cons.injEq] at h
      have hn := hloc n (List.mem_cons_self ..)
      refine PyProof.Rows.assignInOrder_cons (PySem.wpAny_bindName (store_ok I hN h.1 (.inl hn) r1 (fun s2 I2 => ?_) (.inr hn)))
      exact store_all hN h.2 (fun m hm => hloc m (List.mem_cons_of_mem _ hm)) r2 (by simpa using hl) I2 fun s' I' => q s' (by simpa only [setAllV] using I')
theorem Vals.reverse' {xs : List V} {us : List Value} (h : Vals xs us) : Vals xs.reverse us.reverse := by
  induction h with
  | nil => exact .nil
  | cons r t ih =>
    rw [List.reverse_cons, List.reverse_cons]
    exact ih.append (.cons r .nil)
theorem RepL.reverse' {w : Wd} : ∀ {ds : List D} {vs : List V}, RepL G w ds vs → RepL G w ds.reverse vs.reverse
  | [], _, h => by simp only [RepL] at h; subst h; exact RepL.nil
  | d :: ds, _, h => by
    simp only [RepL] at h
    obtain ⟨v, r, rfl, h1, h2⟩ := h
    rw [List.reverse_cons, List.reverse_cons]
    exact (RepL.reverse' h2).append (.cons h1 .nil)
theorem x_par (c : Ctx G Γ k X W) {is : List Nat} {es : List Ex} {ts vs : List Expr} {n m : Nat} {p q pos : Pos} (hk : X.env.scope.kind = .function) (ha : PA X vs (tL G Φ W es)) (hL : mL es Γ vs = true)
    (h1 : (is.map fun i => Γ.N[i]?) = (swNames Γ.sc ts).map some) (h2 : (is.length == 2 || is.length == 3) = true) (h3 : ((swNames Γ.sc ts).length == ts.length) = true) (h4 : ((swNames Γ.sc ts).eraseDups.length == (swNames Γ.sc ts).length) = true) (h5 : (vs.length == ts.length) = true)
    (h6 : vs.all (constantsAlone 8) = false) (h7 : vs.all (foldedForSure 8) = false) : PS X (.Assign [.Tuple ts n p] (.Tuple vs m q) pos) (tS G Φ W (.par is es)) := by
  have hsw : swappedStores [.Tuple ts n p] (.Tuple vs m q) X.env = pure (some (swNames Γ.sc ts)) := by
    rw [sw_eq hk, c.sc]
    have hl : is.length = (swNames Γ.sc ts).length := by
      have := congrArg List.length h1
      simpa using this
    have e3 := beq_iff_eq.mp h3
    have e4 := beq_iff_eq.mp h4
    have e5 := beq_iff_eq.mp h5
    rw [hl, e3] at h2
    have hpl : ∀ v ∈ vs, plainX v = true := by
      have : ∀ (es : List Ex) (vs : List Expr), mL es Γ vs = true → ∀ v ∈ vs, plainX v = true := fun es => by
        induction es with
        | nil => intro vs h v hv; cases vs with
          | nil => cases hv
          | cons _ _ => simp [mL] at h
        | cons e es ih => intro vs h v hv; cases vs with
          | nil => cases hv
          | cons x xs =>
            simp only [mL, Bool.and_eq_true] at h
            rcases List.mem_cons.mp hv with rfl | hv
            · exact mE_plain h.1
            · exact ih xs h.2 v hv
      exact this es vs hL
    have k1 : (!(ts.length == 2 || ts.length == 3) || vs.length != ts.length || ScopeKind.function != ScopeKind.function) = false := by
      rw [h2, e5]; simp
    have k2 : ((swNames Γ.sc ts).length != ts.length || (swNames Γ.sc ts).eraseDups.length != (swNames Γ.sc ts).length) = false := by
      rw [e4, e3]; simp
    rw [k1, if_neg Bool.false_ne_true, starAny_of hpl, if_neg Bool.false_ne_true, k2, if_neg Bool.false_ne_true, h7, if_neg Bool.false_ne_true, h6, if_neg Bool.false_ne_true]
  have hloc : ∀ x ∈ swNames Γ.sc ts, X.env.scope.names.lookup x = some .local := by
    intro x hx
    rw [c.sc]
    unfold swNames at hx
    obtain ⟨e, _, he⟩ := List.mem_filterMap.mp hx
    cases e with
    | Name id pos =>
      simp only at he
      split at he
      · rename_i hc
        cases he
        simp only [Bool.and_eq_true, beq_iff_eq] at hc
        exact hc.1
      · cases he
    | _ => cases he
  refine ⟨fun pins s σ H Dn I h => ?_⟩
  obtain ⟨w, σd, rfl, g, rs, hp⟩ := h
  simp only [evS] at hp
  rw [PySem.exec_Assign_arm]
  refine wpAny_bind (wpAny_standAt ?_)
  show wpAny (model X.prog X.w) X.A (do
    if ← (pure false : Sem Bool) then do
      evalThenUse (.Tuple vs m q) X.env fun v => assignAll v ((assignEach [.Tuple ts n p] X.env).map (·.2))
      pure .next
    else do
      let v ← eval (.Tuple vs m q) X.env
      assignStores X.env v (← swappedStores [.Tuple ts n p] (.Tuple vs m q) X.env) ((assignEach [.Tuple ts n p] X.env).map (·.2))) (SP X pins Dn) X.xe s
  refine wpAny_bind (wpAny_pure ?_)
  rw [if_neg (by decide)]
  refine wpAny_bind (PyProof.Rows.Tuple_ (thn (ha.run _ pins s σ w.H (fun zs H1 => zs.length = es.length ∧ ∃ w1 ds, w1.H = H1 ∧ WOk G w1 ∧ RepS G w1 σd σ ∧ RepL G w1 ds zs ∧ PostS G W Dn w1 (if ds.length = is.length then .nx (setAll σd is.reverse ds.reverse) w1.M else .no)) I
    ⟨w, σd, rfl, g, rs, (PostS.of rs hp).monoE fun ds w1 ed x1 g1 h1 zs rz => ⟨by rw [← rz.length]; exact evL_len ed, w1, ds, rfl, g1, rs.ext x1, rz, h1⟩⟩) fun us s1 ⟨zs, H1, I1, r1, hz, w1, ds, e1, g1, rs1, rz, hq⟩ => ?_))
  subst e1
  split at hq
  · rename_i hl
    have hlen : us.length = (swNames Γ.sc ts).length := by
      rw [← r1.length, ← rz.length, hl]
      have := congrArg List.length h1
      simpa using this
    have hsz : us.length ≤ sizeLine := by
      rw [← r1.length, ← rz.length, hl, sizeLine_eq]
      simp only [Bool.or_eq_true, beq_iff_eq] at h2
      omega
    refine PySem.wpAny_newObj_type ?_ (by show us.toArray.size ≤ sizeLine; simpa using hsz)
    have I2 : Inv X pins σ w1.H { s1 with heap := s1.heap.push { cls := .type "tuple", data := .seq us.toArray } } := I1.kept (t' := s1.toks) fun b o e => Heap.get?_push_of_some _ e
    rw [hsw]
    refine wpAny_bind (wpAny_pure ?_)
    show wpAny (model X.prog X.w) X.A (do rule "assign.swapped-stores"; let items ← unpackItems (.ref s1.heap.objs.size) (swNames Γ.sc ts).length none; assignInOrder ((swNames Γ.sc ts).reverse.map fun n => bindName X.env n) items.reverse; pure Flow.next) _ _ _
    rw [← hlen, show us.length = us.toArray.size from by simp]
    refine wpAny_bind (wpAny_rule (wpAny_bind (PyProof.Rows.unpackItems_tuple (items := us.toArray) (I.ok.hd c.calm) (PyProof.Rows.IsTup.new s1.heap _) fun h' hx' => ?_)))
    have I3 := I2.kept (h' := h') (t' := s1.toks) fun b o e => hx' b o (Nat.ne_of_lt (Heap.lt_size e)) e
    have rev : ((is.reverse).map fun i => X.N[i]?) = (swNames Γ.sc ts).reverse.map some := by
      rw [List.map_reverse, List.map_reverse, c.N, h1]
    refine wpAny_bind (store_all (by rw [c.N]; exact c.nd) rev (fun x hx => hloc x (List.mem_reverse.mp hx)) (Vals.reverse' r1) (by simp [hlen]) I3 fun s' I' => wpAny_pure ?_)
    exact ⟨_, w1.H, I', hq w1 _ (Ext.refl w1) g1 rfl (rs1.setAll (RepL.reverse' rz))⟩
  · exact hq.elim
theorem swaps_ok {sc : Scope} {env : Env} {x y : Expr} {l : Nat} (he : env.scope = sc) (hk : env.scope.kind = .function) (h : atOnce sc x y = false) {e : Ex} (hm : mE e Γ y = true) : swapsWith y (some x) l env = pure false := by
  cases y with
  | ListComp elt gs scope p =>
    cases x with
    | Name t pos =>
      subst he
      unfold swapsWith
      simp only [atOnce] at h
      have hb := bk_of hk
      simp only [hb, Env.kindOf, Expr.pos]
      show pure _ = pure false
      congr 1
      cases e : env.scope.names.lookup t with
      | none => rfl
      | some kd =>
        rw [e] at h
        cases kd with
        | «local» =>
          simp only [Bool.true_and] at h
          exact h
        | _ => rfl
    | _ => rfl
  | SetComp _ _ _ _ => cases e <;> simp [mE] at hm
  | DictComp _ _ _ _ _ => cases e <;> simp [mE] at hm
  | _ => rfl
end
end Ev
/-! Ev15: matched statements are sound. -/
namespace Ev
open PySem L2
section
variable {G : Gb} {k : Nat}
theorem sAsg {t : Tg} {e : Ex} {Γ : Cn} {X : Cx} {W : WX} {x y : Expr} {pos : Pos} (c : Ctx G Γ k X W) (hk : X.env.scope.kind = .function) (h : mS (.asg t e) Γ (.Assign [x] y pos) = true) : PS X (.Assign [x] y pos) (tS G (evF Γ.P k) W (.asg t e)) := by
  simp only [mS, Bool.and_eq_true] at h
  obtain ⟨h1, h2⟩ := h
  cases ha : atOnce Γ.sc x y with
  | false =>
    rw [ha] at h2
    simp only [Bool.false_eq_true, if_false, Bool.and_eq_true] at h2
    exact x_asg c hk (sE e Γ X W y c h1) (sT t Γ X W x c h2.1) (mT_plain h2.1) h2.2 (swaps_ok c.sc hk ha h1)
  | true =>
    rw [ha] at h2
    simp only [if_true] at h2
    cases x with
    | Name n py => cases y with
      | ListComp elt gs scope p =>
        cases t with
        | nm i =>
          simp only [Bool.and_eq_true, decide_eq_true_eq] at h2
          cases e with
          | lc a t it cc vs =>
            match gs, h1, ha with
            | [⟨tg, iter, ifs, as⟩], h, ha =>
              simp only [mE, Bool.and_eq_true, decide_eq_true_eq] at h
              obtain ⟨⟨⟨⟨⟨⟨⟨rfl, h1⟩, hb2⟩, h3⟩, h4⟩, h5⟩, h6⟩, h7⟩ := h
              have hit : ∀ x, foldedSetIterable iter X.env x = pure x := folded_of (mI_plain h1) X.env
              have hsw : swapsWith (.ListComp elt [⟨tg, iter, ifs, 0⟩] scope p) (some (.Name n py)) pos.line X.env = pure true := by
                simp only [atOnce, Bool.and_eq_true, Bool.not_eq_true'] at ha
                exact sw_true hk (by rw [c.sc]; exact h2.2) ha.1.2 ha.2
              exact x_setLc c (s_setLc c h2.1 h2.2 hsw hb2 h3 h5 hit (sI it Γ X W tg iter c h1) (fun s H C cl fp => sT t (Γ.blk scope) _ _ tg c.blk h4) (fun s H C cl fp => sC cc (Γ.blk scope) _ _ ifs c.blk h6)
                (fun s H C cl fp => sE a (Γ.blk scope) _ _ elt c.blk h7))
            | [], h, _ => simp [mE] at h
            | _ :: _ :: _, h, _ => simp [mE] at h
          | _ => simp [mE] at h1
        | _ => simp at h2
      | _ => simp [atOnce] at ha
    | _ => simp [atOnce] at ha
theorem sAsgs {t : Tg} {e : Ex} {Γ : Cn} {X : Cx} {W : WX} {xs : List Expr} {y : Expr} {pos : Pos} (c : Ctx G Γ k X W) (hk : X.env.scope.kind = .function) (h : mS (.asg t e) Γ (.Assign xs y pos) = true) : PS X (.Assign xs y pos) (tS G (evF Γ.P k) W (.asg t e)) := by
  match xs, h with
  | [x], h => exact sAsg c hk h
  | [], h => simp [mS] at h
  | _ :: _ :: _, h => simp [mS] at h
theorem sPar {is : List Nat} {es : List Ex} {Γ : Cn} {X : Cx} {W : WX} {xs : List Expr} {y : Expr} {pos : Pos} (c : Ctx G Γ k X W) (hk : X.env.scope.kind = .function) (h : mS (.par is es) Γ (.Assign xs y pos) = true) : PS X (.Assign xs y pos) (tS G (evF Γ.P k) W (.par is es)) := by
  simp only [mS] at h
  split at h
  · simp only [Bool.and_eq_true, decide_eq_true_eq, Bool.not_eq_true'] at h
    obtain ⟨⟨⟨⟨⟨⟨⟨h1, h2⟩, h3⟩, h4⟩, h5⟩, h6⟩, h7⟩, h8⟩ := h
    exact x_par c hk (sL es _ X W _ c h1) h1 h2 h3 h4 h5 h6 h7 h8
  · cases h
mutual
theorem sS : ∀ (s : Sx) (Γ : Cn) (X : Cx) (W : WX) (st : Stmt), Ctx G Γ k X W → X.env.scope.kind = .function → PassesOwn (model X.prog X.w) X.A X.env X.xe → mS s Γ st = true → PS X st (tS G (evF Γ.P k) W s)
  | .asg t e, Γ, X, W, st, c, hk, po, h => by
    cases st with
    | Assign xs y pos =>
      exact sAsgs c hk h
    | _ => simp [mS] at h
  | .par is es, Γ, X, W, st, c, hk, po, h => by
    cases st with
    | Assign xs y pos =>
      exact sPar c hk h
    | _ => simp [mS] at h
  | .aug i o e, Γ, X, W, st, c, hk, po, h => by
    cases st with
    | AugAssign x op y pos => cases x with
      | Name n p =>
        simp only [mS, Bool.and_eq_true, decide_eq_true_eq] at h
        obtain ⟨⟨⟨h1, h2⟩, rfl⟩, h4⟩ := h
        exact x_aug c h1 h2 (sE e Γ X W y c h4)
      | _ => simp [mS] at h
    | _ => simp [mS] at h
  | .expr e, Γ, X, W, st, c, hk, po, h => by
    cases st with
    | Expr y pos => simp only [mS, Bool.and_eq_true] at h; exact x_expr (sE e Γ X W y c h.2) h.1
    | _ => simp [mS] at h
  | .ret e, Γ, X, W, st, c, hk, po, h => by
    cases st with
    | Return v pos => cases v with
      | none => simp [mS] at h
      | some y => simp only [mS] at h; exact x_ret (sE e Γ X W y c h)
    | _ => simp [mS] at h
  | .retN, Γ, X, W, st, c, hk, po, h => by
    cases st with
    | Return v pos => cases v with
      | none => exact x_retN
      | some y => simp [mS] at h
    | _ => simp [mS] at h
  | .ifs e a b, Γ, X, W, st, c, hk, po, h => by
    cases st with
    | If x xs ys pos =>
      simp only [mS, Bool.and_eq_true] at h
      exact x_if (sB e Γ X W x c h.1.1).1 (sSs a Γ X W xs c hk po h.1.2) (sSs b Γ X W ys c hk po h.2)
    | _ => simp [mS] at h
  | .fors t it body, Γ, X, W, st, c, hk, po, h => by
    cases st with
    | For tg iter xs els pos => cases els with
      | nil =>
        simp only [mS, Bool.and_eq_true] at h
        exact x_for c po (sI it Γ X W tg iter c h.1.1) (sT t Γ X W tg c h.1.2) (sSs body Γ X W xs c hk po h.2) (folded_of (mI_plain h.1.1) X.env)
      | cons _ _ => simp [mS] at h
    | _ => simp [mS] at h
  | .whl n e body, Γ, X, W, st, c, hk, po, h => by
    cases st with
    | While x xs els pos => cases els with
      | nil =>
        simp only [mS, Bool.and_eq_true] at h
        exact x_while po (sB e Γ X W x c h.1).1 (sSs body Γ X W xs c hk po h.2)
      | cons _ _ => simp [mS] at h
    | _ => simp [mS] at h
  | .brk, Γ, X, W, st, c, hk, po, h => by
    cases st with
    | Break pos => exact PS.imp ps_break (by rintro Dn σ H ⟨w, σd, rfl, g, rs, hp⟩; simp only [evS] at hp; exact hp w σ (Ext.refl w) g rfl rs)
    | _ => simp [mS] at h
  | .cnt, Γ, X, W, st, c, hk, po, h => by
    cases st with
    | Continue pos => exact PS.imp ps_continue (by rintro Dn σ H ⟨w, σd, rfl, g, rs, hp⟩; simp only [evS] at hp; exact hp w σ (Ext.refl w) g rfl rs)
    | _ => simp [mS] at h
  | .pass, Γ, X, W, st, c, hk, po, h => by
    cases st with
    | Pass pos => exact PS.imp ps_pass (by rintro Dn σ H ⟨w, σd, rfl, g, rs, hp⟩; simp only [evS] at hp; exact hp w σ (Ext.refl w) g rfl rs)
    | _ => simp [mS] at h
  | .nev, Γ, X, W, st, c, hk, po, h => by
    refine PS.imp ps_never ?_
    rintro Dn σ H ⟨w, σd, rfl, g, rs, hp⟩
    simp only [evS] at hp
    exact hp.elim
theorem sSs : ∀ (ss : List Sx) (Γ : Cn) (X : Cx) (W : WX) (sts : List Stmt), Ctx G Γ k X W → X.env.scope.kind = .function → PassesOwn (model X.prog X.w) X.A X.env X.xe → mSs ss Γ sts = true → PSs X sts (tSs G (evF Γ.P k) W ss)
  | [], Γ, X, W, sts, c, hk, po, h => by
    cases sts with
    | nil => exact ss_nil
    | cons _ _ => simp [mSs] at h
  | s :: ss, Γ, X, W, sts, c, hk, po, h => by
    cases sts with
    | nil => simp [mSs] at h
    | cons x xs =>
      simp only [mSs, Bool.and_eq_true] at h
      exact ss_cons (sS s Γ X W x c hk po h.1) (sSs ss Γ X W xs c hk po h.2)
end
end
end Ev
/-! Ev16: defs: the promise of each by its matched body. -/
namespace Ev
open PySem L2
section
variable {G : Gb} {w w' : Wd}
/-! ### cells that are forgotten -/
mutual
theorem Rep.cut (x : ∀ a u, Sat w a u → Sat w' a u) : ∀ (d : D) (v : V), noCell d = true → Rep G w d v → Rep G w' d v
  | .non, _, _, h => by simp only [Rep] at h ⊢; exact h
  | .bl b, _, _, h => by simp only [Rep] at h ⊢; exact h
  | .int i, _, _, h => by simp only [Rep] at h ⊢; exact h
  | .str s, _, _, h => by simp only [Rep] at h ⊢; exact h
  | .tup xs, _, n, h => by
    simp only [Rep] at h ⊢
    obtain ⟨a, vs, e, h1 | h1, h2⟩ := h
    · exact ⟨a, vs, e, .inl (x a _ h1), RepL.cut x xs vs (by simpa only [noCell] using n) h2⟩
    · exact ⟨a, vs, e, .inr h1, RepL.cut x xs vs (by simpa only [noCell] using n) h2⟩
  | .lst xs, _, n, h => by
    simp only [Rep] at h ⊢
    obtain ⟨a, vs, e, h1, h2⟩ := h
    exact ⟨a, vs, e, x a _ h1, RepL.cut x xs vs (by simpa only [noCell] using n) h2⟩
  | .scr xs, _, n, h => by
    simp only [Rep] at h ⊢
    obtain ⟨a, vs, e, ⟨o, h1⟩ | h1, h2⟩ := h
    · exact ⟨a, vs, e, .inl ⟨o, x a _ h1⟩, RepL.cut x xs vs (by simpa only [noCell] using n) h2⟩
    · exact ⟨a, vs, e, .inr h1, RepL.cut x xs vs (by simpa only [noCell] using n) h2⟩
  | .ins c fs, _, n, h => by
    simp only [Rep] at h ⊢
    obtain ⟨a, dx, vs, e, h1, h2⟩ := h
    exact ⟨a, dx, vs, e, x a _ h1, RepF.cut x fs vs (by simpa only [noCell] using n) h2⟩
  | .cell i, _, n, h => by simp [noCell] at n
theorem RepL.cut (x : ∀ a u, Sat w a u → Sat w' a u) : ∀ (ds : List D) (vs : List V), noCells ds = true → RepL G w ds vs → RepL G w' ds vs
  | [], _, _, h => by simp only [RepL] at h ⊢; exact h
  | d :: ds, _, n, h => by
    simp only [noCells, Bool.and_eq_true] at n
    simp only [RepL] at h ⊢
    obtain ⟨v, r, e, h1, h2⟩ := h
    exact ⟨v, r, e, Rep.cut x d v n.1 h1, RepL.cut x ds r n.2 h2⟩
theorem RepF.cut (x : ∀ a u, Sat w a u → Sat w' a u) : ∀ (ds : List (Str × D)) (vs : List (Str × V)), noCellF ds = true → RepF G w ds vs → RepF G w' ds vs
  | [], _, _, h => by simp only [RepF] at h ⊢; exact h
  | d :: ds, _, n, h => by
    simp only [noCellF, Bool.and_eq_true] at n
    simp only [RepF] at h ⊢
    obtain ⟨v, r, e, h1, h2⟩ := h
    exact ⟨v, r, e, Rep.cut x d.2 v n.1 h1, RepF.cut x ds r n.2 h2⟩
end
def Wd.cut (w : Wd) (n : Nat) : Wd := ⟨w.as.take n, w.M.take n, w.H, w.hd⟩
theorem take_get {α : Type} {xs : List α} {n i : Nat} {a : α} (h : (xs.take n)[i]? = some a) : xs[i]? = some a := by
  rw [List.getElem?_take] at h
  split at h
  · exact h
  · cases h
theorem live_cut {n : Nat} {a : Addr} (h : Live (w.cut n) a) : Live w a := by
  obtain ⟨i, o, h1, h2⟩ := h
  exact ⟨i, o, take_get h1, take_get h2⟩
theorem sat_cut {n : Nat} {a : Addr} {u : HO} (h : Sat w a u) : Sat (w.cut n) a u := ⟨h.1, fun z => h.2.1 (live_cut z), h.2.2⟩
theorem ext_cut (g : WOk G w) (x : Ext w w') : Ext w (w'.cut w.M.length) := by
  obtain ⟨ys, e⟩ := x.pre
  refine ⟨⟨[], ?_⟩, fun a o h n => ⟨(x.keep a o h n).1, fun z => (x.keep a o h n).2 (live_cut z)⟩, x.hid, x.ex⟩
  show w'.as.take w.M.length = w.as ++ []
  rw [e, ← g.len, List.append_nil, List.take_left']
  rfl
theorem wok_cut (g : WOk G w') {n : Nat} (h : ((w'.M.take n).all quiet) = true) : WOk G (w'.cut n) := by
  refine ⟨?_, g.nd.sublist (List.take_sublist _ _), fun i a e => g.there i a (take_get e), fun i a o h1 h2 => ?_, g.hid, fun i a e => g.ch i a (take_get e)⟩
  · show (w'.as.take n).length = (w'.M.take n).length
    rw [List.length_take, List.length_take, g.len]
  · have q := List.all_eq_true.mp h _ (List.mem_of_getElem? h2)
    have r := g.cell i a o (take_get h1) (take_get h2)
    cases o with
    | lst xs =>
      obtain ⟨vs, e, r⟩ := r
      exact ⟨vs, e, RepL.cut (fun a u z => sat_cut z) xs vs q r⟩
    | ins c fs =>
      obtain ⟨dx, vs, e, r⟩ := r
      exact ⟨dx, vs, e, RepF.cut (fun a u z => sat_cut z) fs vs q r⟩
/-- a body's ends, by what the call is worth -/
theorem body_ends {Qv : VK} {r : RS} {E : XK} (g : WOk G w)
    (h : Post G (fun cls d _ H => E cls d H) [] w (tidy w.M.length (bodyRes r)) fun d w' => ∀ v, Rep G w' d v → Qv v w'.H) :
    PostS G (fun cls d _ H => E cls d H) { nx := fun _ H' => Qv .non H', rt := Qv } w r := by
  cases r with
  | nx σd M =>
    intro w' σ' x g' e rs
    simp only [bodyRes, tidy, noCell, Bool.and_true] at h
    split at h
    · exact h w' x g' e .non (by simp only [Rep])
    split at h
    · rename_i hs
      subst e
      simp only [spare, Bool.and_eq_true] at hs
      exact h (w'.cut w.M.length) (ext_cut g x) (wok_cut g' hs.2) rfl .non (by simp only [Rep])
    · exact h w' x g' e .non (by simp only [Rep])
  | rt d M =>
    intro w' v x g' e r
    simp only [bodyRes, tidy] at h
    split at h
    · exact h w' x g' e v r
    split at h
    · rename_i hs
      subst e
      simp only [spare, Bool.and_eq_true] at hs
      exact h (w'.cut w.M.length) (ext_cut g x) (wok_cut g' hs.1.2) rfl v (Rep.cut (fun a u z => sat_cut z) d v hs.2 r)
    · exact h w' x g' e v r
  | ex c fs σd M =>
    intro w' σ' d x g' e rs xr
    simp only [bodyRes, tidy] at h
    split at h
    · exact h w' d x g' e xr
    split at h
    · rename_i hs
      subst e
      simp only [spare, Bool.and_eq_true] at hs
      refine h (w'.cut w.M.length) d (ext_cut g x) (wok_cut g' hs.1.2) rfl ?_
      rcases xr with xr | ⟨dx, vs, e1, e2, e3⟩
      · exact .inl xr
      · exact .inr ⟨dx, vs, e1, e2, RepF.cut (fun a u z => sat_cut z) fs vs hs.2 e3⟩
    · exact h w' d x g' e xr
  | bk σd M => exact h.elim
  | ct σd M => exact h.elim
  | no => exact h.elim
end

/-! ### defs -/
/-- where a def stands in the module, and that its body is what is told -/
structure DefAt (G : Gb) (mg : Str → Option Value) (Pd : List Df) (bs : List Str) (d : Df) (f : Addr) (fd : FuncData) : Prop where
  mg : mg d.name = some (.ref f)
  keep : PySem.W.keepIn G.K (.ref f) = true
  at_ : ∃ (name qual : Str) (params : Arguments) (body : List Stmt) (scope : Scope) (dV kV doc pm cdv ct oc : Value) (an od : Option Addr) (osl : Array (Option Value)),
    fd = PySem.W.fnOf name qual params body scope dV kV doc pm an cdv ct ∧ G.K.lookup f = some ⟨oc, od, .func fd, osl⟩ ∧ PySem.W.codeIn G.K cdv qual = true ∧ FnScope d.N d.ps scope ∧ mSs d.body ⟨d.N, scope, scope, Pd, bs⟩ body = true
  shapes : ∀ sh ∈ d.shapes, ∀ (s : Shared) (us ws : List Value), us.length = sh.1 → ws.length = sh.2.1.length → BindsTo s fd ⟨us, sh.2.1.zip ws⟩ (d.ps.zip (permV .none sh.2.2 (us ++ ws)))
def Tab (G : Gb) (mg : Str → Option Value) (Pd : List Df) (bs : List Str) : Prop :=
  (∀ (i : Nat) (d : Df), Pd[i]? = some d → ∃ f fd, DefAt G mg Pd bs d f fd) ∧ ∀ x ∈ bs, mg x = none

/-- THE RULE for a def (of HandS' fn_of), with the guards -/
theorem fn_ofG {P : Program} {w : World} {K : PySem.W.Frag} {mg : Str → Option Value} {base : Heap} {k : Nat} {f : Addr} {name qual : Str} {params : Arguments} {body : List Stmt} {scope : Scope} {dV kV doc pm cdv ct oc : Value} {an od : Option Addr}
    {osl : Array (Option Value)} {N ps : List Str} {sp : Sp} (lk : K.lookup f = some ⟨oc, od, .func (PySem.W.fnOf name qual params body scope dV kV doc pm an cdv ct), osl⟩) (hcd : PySem.W.codeIn K cdv qual = true) (S : FnScope N ps scope)
    (len : ∀ vs H Q E, sp vs H Q E → vs.length = ps.length)
    (hbody : ∀ (A : Around) (outer : List Env) (s : Shared) (H : Hp) (vs : List V) (Q : VK) (E : XK), Room k (A.deeper (PyProof.Rows.envOfC qual scope s.heap.objs.size f cdv)) → (A.deeper (PyProof.Rows.envOfC qual scope s.heap.objs.size f cdv)).guards = some [] → sp vs H Q E →
      ∃ t, PSs (cxOf (L2.CX P w) P w K mg base N qual scope f cdv A outer s H E) body t ∧ t { nx := fun _ H' => Q .non H', rt := Q } (start N vs) H) :
    FnG P w K mg base (k + 1) f (PySem.W.fnOf name qual params body scope dV kV doc pm an cdv ct) ps sp := by
  refine ⟨fun A outer s H args us vs Q E hr hgd e0 hb r hsp => ?_⟩
  have hl := len _ _ _ _ hsp
  have inK : K.In s.heap := e0.mod.kin.keeps fun b o e => (e0.bs b o e).1
  have lim : s.heap.NoLimit := e0.mod.nolimit.keeps fun b o e => (e0.bs b o e).1
  have kinds : ∀ y ∈ ps.zip us, scope.names.lookup y.1 = some .local ∨ (scope.names.lookup y.1 = some .cell ∧ ((cellsFrom (s.heap.objs.size + 1) scope.names []).lookup y.1).isSome = true) := by
    intro y hy
    have := S.par y.1 (List.of_mem_zip (a := y.1) (b := y.2) hy).1
    exact this.imp id fun q => ⟨q, PySem.W.cellsFrom_some _ _ _ (.inl q)⟩
  refine codeAny_call_function hr.depth (inK _ _ lk) rfl S.co S.gen rfl (PySem.W.codeRec_of inK hcd) (hb _ _ _ _ (wpAny_newFunctionEnv_cells S.kind kinds fun env he s1 x => ?_))
  subst he
  refine ⟨lim.keeps x.toInCall.keep, codeAny_func ?_⟩
  obtain ⟨t, ht, hq⟩ := hbody A outer s H vs Q E (hr.deeper _) hgd hsp
  refine wpAny_mono (ht.run [] s1 (start N vs) H _ (inv_start S hr.hd e0 hl r x) hq) (fun fl s' hs => ?_) fun e s' hs => hs
  match fl, hs with
  | .ret u, ⟨v, _, H', J, rv, q⟩ => exact ⟨v, H', J.os, J.bare, J.base, J.hok, rv, q⟩
  | .next, ⟨_, H', J, q⟩ => exact ⟨V.non, H', J.os, J.bare, J.base, J.hok, rfl, q⟩
  | .brk, ⟨_, _, _, q⟩ => exact False.elim q
  | .cont, ⟨_, _, _, q⟩ => exact False.elim q
theorem RepS.start {G : Gb} {w : Wd} {ds : List D} {vs : List V} (r : RepL G w ds vs) (N : List Str) : RepS G w (ds.map some ++ List.replicate (N.length - ds.length) Option.none) (start N vs) := by
  have hl := r.length
  refine ⟨by simp [L2.start, hl], fun i d h => ?_⟩
  by_cases hi : i < ds.length
  · rw [List.getElem?_append_left (by simpa using hi), List.getElem?_map] at h
    cases e : ds[i]? with
    | none => rw [e] at h; cases h
    | some a =>
      rw [e] at h
      cases h
      obtain ⟨v, h1, h2⟩ := r.get e
      refine ⟨v, ?_, h2⟩
      unfold L2.start
      rw [List.getElem?_append_left (by simpa [← hl] using hi), List.getElem?_map, h1]
      rfl
  · rw [List.getElem?_append_right (by simpa using hi), List.getElem?_replicate] at h
    split at h <;> cases h
theorem fn_D {G : Gb} {P : Program} {w : World} {mg : Str → Option Value} {base : Heap} {k i : Nat} {f : Addr} {fd : FuncData} {Pd : List Df} {bs : List Str} {d : Df} (hd : Pd[i]? = some d) (h : DefAt G mg Pd bs d f fd) (hbs : ∀ x ∈ bs, mg x = none)
    (ih : ∀ (i : Nat) (d : Df), Pd[i]? = some d → ∃ f fd, DefAt G mg Pd bs d f fd ∧ FnG P w G.K mg base k f fd d.ps (spF G Pd k i)) : FnG P w G.K mg base (k + 1) f fd d.ps (spF G Pd (k + 1) i) := by
  obtain ⟨name, qual, params, body, scope, dV, kV, doc, pm, cdv, ct, oc, an, od, osl, rfl, lk, hcd, S, hm⟩ := h.at_
  have len : ∀ vs H Q E, spF G Pd (k + 1) i vs H Q E → vs.length = d.ps.length := by
    rintro vs H Q E ⟨w0, ds, rfl, g, r, hp⟩
    rw [evF, hd] at hp
    simp only at hp
    split at hp
    · rename_i hl; rw [← r.length, hl]
    · exact hp.elim
  refine fn_ofG lk hcd S len fun A outer s H vs Q E hr hg hsp => ?_
  obtain ⟨w0, ds, rfl, g, r, hp⟩ := hsp
  rw [evF, hd] at hp
  simp only at hp
  split at hp
  · have c : Ctx G ⟨d.N, scope, scope, Pd, bs⟩ k (cxOf (L2.CX P w) P w G.K mg base d.N qual scope f cdv A outer s w0.H E) (fun cls d _ H => E cls d H) := {
      N := rfl
      sc := rfl
      K := rfl
      nd := S.nd
      store := fun x hx => ⟨hx, .inl rfl⟩
      calm := rfl
      gd := hg
      room := hr
      tk := takes_of rfl rfl rfl rfl
      tab := fun j e hj => by
        obtain ⟨fa, fe, h1, h2⟩ := ih j e hj
        exact ⟨fa, fe, h1.mg, h1.keep, h2, h1.shapes⟩
      blt := hbs }
    exact ⟨_, sSs d.body _ _ _ body c S.kind (passes_of rfl) hm, w0, _, rfl, g, RepS.start r d.N, body_ends g hp⟩
  · exact hp.elim
theorem fn_all {G : Gb} {P : Program} {w : World} {mg : Str → Option Value} {base : Heap} {Pd : List Df} {bs : List Str} (T : Tab G mg Pd bs) : ∀ (k i : Nat) (d : Df), Pd[i]? = some d → ∃ f fd, DefAt G mg Pd bs d f fd ∧ FnG P w G.K mg base k f fd d.ps (spF G Pd k i)
  | 0, i, d, h => by
    obtain ⟨f, fd, a⟩ := T.1 i d h
    refine ⟨f, fd, a, ⟨fun A outer s H args us vs Q E hr hg e0 hb r hsp => ?_⟩⟩
    obtain ⟨w0, ds, rfl, g, r, hp⟩ := hsp
    rw [evF] at hp
    exact hp.elim
  | k + 1, i, d, h => by
    obtain ⟨f, fd, a⟩ := T.1 i d h
    exact ⟨f, fd, a, fn_D h a T.2 (fn_all T k)⟩
end Ev
/-! Ev17: the law's own call. -/
namespace Ev
open PySem PySem.Spec PyProof.Rows L2
/-- the law's end: True -/
abbrev LawEnd (s₁ : Shared) (r : Result) (s' : Shared) : Prop := r = .ok (.ret (.bool true)) ∧ OldK s₁.heap s'.heap ∧ s'.os = s₁.os ∧ AllBare s'.gens
section
variable {P : Program} {w : World} {K : PySem.W.Frag} {mg mb : Str → Option Value} {k : Nat} {fa a : Addr} {fd : FuncData} {x : Str} {sp : Sp} {s₁ : Shared}
/-- from an abstract heap H that tracks the script at most -/
theorem law_core (KX : K.In s₁.heap) (hns : s₁.heap.Ns mainGlobals mg) (hb : s₁.heap.Ns builtinsNs mb) (hbb : ∀ x : Str, x ≠ "__name__" → mb x = bootBuiltins x) (hlim : s₁.heap.NoLimit) (hg : s₁.gens = #[]) (hr : Room k callerA)
    (F : ∀ base : Heap, K.In base → base.Ns mainGlobals mg → FnG P w K mg base k fa fd [x] sp) (hbind : ∀ (s : Shared) (u : Value), BindsTo s fd ⟨[u], []⟩ [(x, u)])
    {H : Hp} (hO : Only H) (hS : sp [.ref a] H (fun v _ => v = .bl true) fun _ _ _ => False) (hok : HOk P w H s₁.heap) (nod : ∀ b o, H b ≠ none → s₁.heap.get? b = some o → ∀ es ep, o.data ≠ .dict es ep) (hK : ∀ b, H b ≠ none → K.lookup b = none) :
    codeAny (model P w) callerA (.call (.ref fa) ⟨[.ref a], []⟩) (LawEnd s₁) s₁ := by
  have free : ∀ {b : Addr}, ¬ (H b ≠ none) → H b = none := fun h => Classical.not_not.mp h
  have nsK : ∀ {b : Addr} {m : Str → Option Value}, s₁.heap.Ns b m → (hidT s₁.heap H).Ns b m := fun {b m} ⟨o, es, ep, e, d, r⟩ => ⟨o, es, ep, hidT_get e (free fun n => nod b o n e es ep d), d, r⟩
  have inK : K.In (hidT s₁.heap H) := fun b o e => hidT_get (KX b o e) (free fun n => by rw [hK b n] at e; cases e)
  have hM : Mod K mg (hidT s₁.heap H) := ⟨inK, nsK hns, ⟨mb, nsK hb, hbb⟩, let ⟨mc, h1, h2⟩ := hlim; ⟨mc, nsK h1, h2⟩⟩
  have e0 : Env0 P w K mg (hidT s₁.heap H) callerA [] s₁ H := ⟨rfl, hM, fun b o e => of_hidT e, Nat.le_of_eq (hidT_size _ _), trivial, fun b hb => absurd (show b ∈ ([] : List Addr) from hb) (by simp), hok, .of_eq hg⟩
  refine codeAny_mono ((F _ inK (nsK hns)).run callerA [] s₁ H ⟨[.ref a], []⟩ [.ref a] [.ref a] _ _ hr rfl e0 (hbind s₁ (.ref a)) (.cons rfl .nil) hS) fun r s' h => ?_
  match r, h with
  | .ok (.ret u), ⟨v, H', os, bare, un, hok', r', q⟩ =>
    cases (show v = .bl true from q)
    obtain rfl : u = Value.bool true := r'
    refine ⟨rfl, OldK.of_keep fun b o e => ?_, os, bare⟩
    rcases hO b with z | ⟨ob, xs, z⟩
    · exact un.keep b o e z (fun z => absurd (show b ∈ ([] : List Addr) from z) (by simp)) (by simp)
    · obtain ⟨e1, _⟩ := hok b _ z
      obtain ⟨e2, _⟩ := hok' b _ (un.frzs b ob _ z)
      rw [e] at e1
      cases e1
      exact e2
  | .ok .next, h => exact False.elim h
  | .ok .brk, h => exact False.elim h
  | .ok .cont, h => exact False.elim h
  | .error e, ⟨_, _, _, _, _, _, _, _, _, _, _, _, z⟩ => exact False.elim z
theorem law_callG {vs : List Value} {ns : List Int} (KX : K.In s₁.heap) (hns : s₁.heap.Ns mainGlobals mg) (hb : s₁.heap.Ns builtinsNs mb) (hbb : ∀ x : Str, x ≠ "__name__" → mb x = bootBuiltins x) (hlim : s₁.heap.NoLimit) (hg : s₁.gens = #[])
    (ha : s₁.heap.get? a = some { cls := .type "list", data := .seq vs.toArray }) (hi : IntsAre vs ns) (hl : ns.length ≤ sizeLine) (hr : Room k callerA)
    (F : ∀ base : Heap, K.In base → base.Ns mainGlobals mg → FnG P w K mg base k fa fd [x] sp) (hbind : ∀ (s : Shared) (u : Value), BindsTo s fd ⟨[u], []⟩ [(x, u)])
    (hsp : ∀ H : Hp, Only H → SqL K H a (ns.map V.int) → sp [.ref a] H (fun v _ => v = .bl true) fun _ _ _ => False) :
    codeAny (model P w) callerA (.call (.ref fa) ⟨[.ref a], []⟩) (LawEnd s₁) s₁ := by
  have rv := vals_ints hi
  cases hk : K.lookup a with
  | some o =>
    have e := KX a o hk
    rw [ha] at e
    cases e
    have hO : Only (fun _ => none) := fun _ => .inl rfl
    refine law_core KX hns hb hbb hlim hg hr F hbind hO (hsp _ hO (.inr ⟨_, vs.toArray, _, hk, rfl, rfl, rfl, by rw [List.size_toArray, hi.length]; exact hl, by simpa using rv⟩)) (fun b u z => ?_) (fun b o n => absurd rfl n) fun b n => absurd rfl n
    cases (show (none : Option HO) = some u from z)
  | none =>
    have hO : Only (fun b => if b = a then some (.frz { cls := .type "list", data := .seq vs.toArray } (.lst (ns.map V.int))) else none) := fun b => by
      by_cases hb : b = a
      · exact .inr ⟨_, _, if_pos hb⟩
      · exact .inl (if_neg hb)
    have at_a : ∀ b, (if b = a then some (HO.frz { cls := .type "list", data := .seq vs.toArray } (.lst (ns.map V.int))) else none) ≠ none → b = a := fun b n => Classical.byContradiction fun z => n (if_neg z)
    refine law_core KX hns hb hbb hlim hg hr F hbind hO (hsp _ hO (.inl (.inr ⟨_, if_pos rfl⟩))) (fun b u z => ?_) (fun b o n e es ep d => ?_) fun b n => by rw [at_a b n]; exact hk
    · by_cases hb : b = a
      · cases (if_pos hb).symm.trans z
        subst hb
        exact ⟨ha, by rw [List.length_map]; exact hl, vs, _, rv, ha⟩
      · cases (if_neg hb).symm.trans z
    · rw [at_a b n, ha] at e
      cases e
      cases (show Data.seq vs.toArray _ = Data.dict es ep from d)
end
/-- the script in a world of its own -/
theorem rep_script {G : Gb} {H : Hp} {a : Addr} {ns : List Int} (hO : Only H) (hS : SqL G.K H a (ns.map V.int)) : Rep G ⟨[], [], H, fun _ => False⟩ (.scr (ns.map D.int)) (.ref a) := by
  simp only [Rep]
  refine ⟨a, _, rfl, ?_, RepL.ints ns⟩
  rcases hS with (h | ⟨o, h⟩) | h
  · rcases hO a with z | ⟨o, xs, z⟩
    · rw [h] at z; cases z
    · rw [h] at z; cases z
  · exact .inl ⟨o, h, fun ⟨i, o, z, _⟩ => by simp at z, fun z => z⟩
  · exact .inr h
theorem wok_nil {G : Gb} {H : Hp} : WOk G ⟨[], [], H, fun _ => False⟩ := ⟨rfl, List.nodup_nil, fun i a e => by simp at e, fun i a o e _ => by simp at e, fun a z => z.elim, fun i a e => by simp at e⟩
/-- THE END of a law: by what its def is worth -/
theorem law_ends {l : PySem.W.OpenLaw} {n k i : Nat} {q : Program} {loose : List Str} {XP : (Str → Option Value) → Heap → Prop} {YP : World → Heap → Prop} {d : DefRec} {K : Params → PySem.W.Frag} {cls : Params → Nat → Addr} {Pd : List Df} {bs : List Str} {D0 : Df} {x : Str}
    (hn : l.most = some n) (hn2 : n ≤ sizeLine) (hdf : d.params.defaults = []) (hr : Room k callerA)
    (hY : ∀ (w : World) (h : Heap), YP w h → (K w.params).In h) (hD : Pd[i]? = some D0) (hname : D0.name = d.name) (hps : D0.ps = [x]) (hsh : (1, [], [0]) ∈ D0.shapes)
    (T : ∀ (w : World) (mg : Str → Option Value) (h : Heap), (K w.params).In h → h.Ns mainGlobals mg → Tab ⟨K w.params, cls w.params⟩ mg Pd bs)
    (main : ∀ ns : List Int, ns.length ≤ n → ∃ M, evF Pd k i [.scr (ns.map D.int)] [] = .ok (.bl true) M) :
    PySem.W.WalkO q loose XP YP l.row.toRowW d [] (fun f vs => PySem.call f vs) := by
  refine Att.attach_call hn hdf fun w s₀ s₁ mg mb fa o pm cd doc a vs ns G Y ho hd hcd hmg hobj hints hlen hg => ?_
  have KX := hY w _ Y
  have TT := T w mg _ KX G.T.g
  obtain ⟨f, fd, A⟩ := TT.1 i D0 hD
  have ef : f = fa := by
    have := A.mg.symm.trans ((congrArg mg hname).trans hmg)
    cases this
    rfl
  subst ef
  refine law_callG (x := x) (fd := fd) (sp := spF ⟨K w.params, cls w.params⟩ Pd k i) KX G.T.g G.T.b G.T.builtins G.T.nolimit hg hobj hints (Nat.le_trans hlen hn2) hr (fun base _ _ => ?_) (fun s u => ?_) fun H hO hS => ?_
  · obtain ⟨f2, fd2, A2, F⟩ := fn_all (P := l.prog) (w := w) (base := base) TT k i D0 hD
    have e1 : f2 = f := by
      have := A2.mg.symm.trans A.mg
      cases this
      rfl
    subst e1
    have e2 : fd2 = fd := by
      obtain ⟨_, _, _, _, _, _, _, _, _, _, _, _, _, _, _, _, l1, _⟩ := A.at_
      obtain ⟨_, _, _, _, _, _, _, _, _, _, _, _, _, _, _, _, l2, _⟩ := A2.at_
      have := l1.symm.trans l2
      simp only [Option.some.injEq, Obj.mk.injEq, Data.func.injEq] at this
      exact this.2.2.1.symm
    subst e2
    rw [hps] at F
    exact F
  · have := A.shapes _ hsh s [u] [] rfl rfl
    rw [hps] at this
    exact this
  · obtain ⟨M, hm⟩ := main ns hlen
    refine ⟨⟨[], [], H, fun _ => False⟩, [.scr (ns.map D.int)], rfl, wok_nil, RepL.cons (rep_script hO hS) RepL.nil, ?_⟩
    show Post _ _ _ _ (evF Pd k i [.scr (ns.map D.int)] []) _
    rw [hm]
    intro w' x g e v r
    simpa only [Rep] using r
end Ev
/-! Ev18: reckoning with evF. -/
namespace Ev
open PySem L2
theorem evF_at {P : List Df} {f : Nat} {d : Df} (k : Nat) (ds : List D) (M : Mem) (h : P[f]? = some d) (hl : ds.length = d.ps.length) :
    evF P (k + 1) f ds M = tidy M.length (bodyRes (evSs (evF P k) d.body (ds.map some ++ List.replicate (d.N.length - ds.length) none) M)) := by
  rw [evF, h]
  simp only
  rw [if_pos hl]
@[simp] theorem tidy_ok {n : Nat} {d : D} {M : Mem} (h : M.length ≤ n) : tidy n (.ok d M) = .ok d M := if_pos h
@[simp] theorem tidy_self {d : D} {M : Mem} : tidy M.length (.ok d M) = .ok d M := if_pos (Nat.le_refl _)
@[simp] theorem tidy_set {d : D} {M : Mem} {i : Nat} {o : Option MO} : tidy M.length (.ok d (M.set i o)) = .ok d (M.set i o) := if_pos (by simp)
@[simp] theorem tidy_no {n : Nat} : tidy n .no = .no := rfl
@[simp] theorem bodyRes_rt {d : D} {M : Mem} : bodyRes (.rt d M) = .ok d M := rfl
@[simp] theorem bodyRes_nx {σ : Env'} {M : Mem} : bodyRes (.nx σ M) = .ok .non M := rfl
@[simp] theorem sure_ok' {α : Type} (a : α) (M : Mem) : (Res.ok a M).sure = .ok a M := rfl
theorem lcGo_filterMap {f : D → Mem → Res (Option D)} {g : D → Option D} {M : Mem} : ∀ {xs acc : List D}, (∀ x ∈ xs, f x M = .ok (g x) M) → acc.length + xs.length ≤ sizeLine → lcGo f xs acc M = .ok (acc ++ xs.filterMap g) M
  | [], acc, _, _ => by simp [lcGo]
  | x :: xs, acc, h, hl => by
    have hx := h x (List.mem_cons_self ..)
    simp only [List.length_cons] at hl
    rw [lcGo, hx]
    cases e : g x with
    | none =>
      simp only [List.filterMap_cons, e]
      exact lcGo_filterMap (fun y hy => h y (List.mem_cons_of_mem _ hy)) (by omega)
    | some d =>
      simp only [List.filterMap_cons, e]
      rw [if_pos (by omega), lcGo_filterMap (fun y hy => h y (List.mem_cons_of_mem _ hy)) (by simp only [List.length_append, List.length_singleton]; omega)]
      simp
theorem lcGo_map {f : D → Mem → Res (Option D)} {g : D → D} {M : Mem} {xs : List D} (h : ∀ x ∈ xs, f x M = .ok (some (g x)) M) (hl : xs.length ≤ sizeLine) : lcGo f xs [] M = .ok (xs.map g) M := by
  rw [lcGo_filterMap (g := fun x => some (g x)) h (by simpa using hl)]
  simp
theorem forGo_inv {f : D → Env' → Mem → RS} (I : Env' → Mem → Prop) : ∀ {xs : List D}, (∀ x ∈ xs, ∀ σ M, I σ M → ∃ σ' M', f x σ M = .nx σ' M' ∧ I σ' M') → ∀ {σ : Env'} {M : Mem}, I σ M → ∃ σ' M', forGo f xs σ M = .nx σ' M' ∧ I σ' M'
  | [], _, σ, M, hi => ⟨σ, M, by simp [forGo], hi⟩
  | x :: xs, h, σ, M, hi => by
    obtain ⟨σ1, M1, e, h1⟩ := h x (List.mem_cons_self ..) σ M hi
    obtain ⟨σ2, M2, e2, h2⟩ := forGo_inv I (fun y hy => h y (List.mem_cons_of_mem _ hy)) h1
    exact ⟨σ2, M2, by rw [forGo, e]; exact e2, h2⟩
/-- with what has been walked -/
theorem forGo_steps {f : D → Env' → Mem → RS} {all : List D} (I : List D → Env' → Mem → Prop) (h : ∀ (ys : List D) (x : D) (zs : List D) (σ : Env') (M : Mem), all = ys ++ x :: zs → I ys σ M → ∃ σ' M', f x σ M = .nx σ' M' ∧ I (ys ++ [x]) σ' M') :
    ∀ {ys xs : List D} {σ : Env'} {M : Mem}, all = ys ++ xs → I ys σ M → ∃ σ' M', forGo f xs σ M = .nx σ' M' ∧ I all σ' M'
  | ys, [], σ, M, e, hi => ⟨σ, M, by simp [forGo], by rw [e, List.append_nil]; exact hi⟩
  | ys, x :: xs, σ, M, e, hi => by
    obtain ⟨σ1, M1, e1, h1⟩ := h ys x xs σ M e hi
    obtain ⟨σ2, M2, e2, h2⟩ := forGo_steps I h (ys := ys ++ [x]) (xs := xs) (by rw [e]; simp) h1
    exact ⟨σ2, M2, by rw [forGo, e1]; exact e2, h2⟩
/-- a comprehension's turn -/
def lcF (Φ : Nat → List D → Mem → Res D) (e : Ex) (t : Tg) (c : Option Ex) (vs : List Nat) (σ : Env') (x : D) (M : Mem) : Res (Option D) :=
  (evT Φ t x (wipeD σ vs) M).bind fun σ3 M3 => (evC Φ c σ3 M3).bind fun b M4 => if b = true then (evE Φ e σ3 M4).bind fun d M5 => .ok (some d) M5 else .ok none M4
theorem evE_lc {Φ : Nat → List D → Mem → Res D} {e : Ex} {t : Tg} {it : It} {c : Option Ex} {vs : List Nat} {σ : Env'} {M M1 : Mem} {ds : List D} {g : D → Option D} (hi : evI Φ it σ M = .ok ds M1) (h : ∀ x ∈ ds, lcF Φ e t c vs σ x M1 = .ok (g x) M1) (hl : ds.length ≤ sizeLine) :
    evE Φ (.lc e t it c vs) σ M = .ok (.lst (ds.filterMap g)) M1 := by
  have q := lcGo_filterMap (acc := []) h (by simpa using hl)
  simp only [evE, hi, Res.bind_ok]
  show (lcGo (lcF Φ e t c vs σ) ds [] M1).bind _ = _
  rw [q]
  simp
theorem evE_lcm {Φ : Nat → List D → Mem → Res D} {e : Ex} {t : Tg} {it : It} {c : Option Ex} {vs : List Nat} {σ : Env'} {M M1 : Mem} {ds : List D} {g : D → D} (hi : evI Φ it σ M = .ok ds M1) (h : ∀ x ∈ ds, lcF Φ e t c vs σ x M1 = .ok (some (g x)) M1) (hl : ds.length ≤ sizeLine) :
    evE Φ (.lc e t it c vs) σ M = .ok (.lst (ds.map g)) M1 := by
  rw [evE_lc (g := fun x => some (g x)) hi h hl]
  simp
section
variable {M : Mem} {i j : Int} {s t : Str} {xs ys : List D} {d : D}
@[simp] theorem truth_bl {b : Bool} : truth M (.bl b) = some b := rfl
@[simp] theorem truth_int : truth M (.int i) = some (i != 0) := rfl
@[simp] theorem truth_non : truth M .non = some false := rfl
@[simp] theorem truth_tup : truth M (.tup xs) = some (!xs.isEmpty) := rfl
@[simp] theorem truth_lst : truth M (.lst xs) = some (!xs.isEmpty) := rfl
@[simp] theorem truth_scr : truth M (.scr xs) = some (!xs.isEmpty) := rfl
@[simp] theorem cmp_lt : cmpD .lt M (.int i) (.int j) = some (decide (i < j)) := rfl
@[simp] theorem cmp_le : cmpD .le M (.int i) (.int j) = some (decide (i ≤ j)) := rfl
@[simp] theorem cmp_gt : cmpD .gt M (.int i) (.int j) = some (decide (j < i)) := rfl
@[simp] theorem cmp_ge : cmpD .ge M (.int i) (.int j) = some (decide (j ≤ i)) := rfl
@[simp] theorem cmp_eq {x y : D} : cmpD .eq M x y = eqM M x y := rfl
@[simp] theorem cmp_ne {x y : D} : cmpD .ne M x y = (eqM M x y).map (!·) := rfl
@[simp] theorem cmp_is {x y : D} : cmpD .is M x y = isD x y := rfl
@[simp] theorem cmp_isn {x y : D} : cmpD .isn M x y = (isD x y).map (!·) := rfl
@[simp] theorem cmp_inn {x y : D} : cmpD .inn M x y = inD M x y := rfl
@[simp] theorem cmp_nin {x y : D} : cmpD .nin M x y = (inD M x y).map (!·) := rfl
@[simp] theorem eqM_int : eqM M (.int i) (.int j) = some (decide (i = j)) := rfl
@[simp] theorem eqM_str : eqM M (.str s) (.str t) = some (decide (s = t)) := rfl
@[simp] theorem is_nn : isD .non .non = some true := rfl
@[simp] theorem is_in : isD (.int i) .non = some false := rfl
@[simp] theorem is_sn : isD (.str s) .non = some false := rfl
@[simp] theorem is_tn : isD (.tup xs) .non = some false := rfl
@[simp] theorem is_ln : isD (.lst xs) .non = some false := rfl
@[simp] theorem is_cn {n : Nat} : isD (.cell n) .non = some false := rfl
@[simp] theorem is_bn {b : Bool} : isD (.bl b) .non = some false := rfl
@[simp] theorem is_bb {a b : Bool} : isD (.bl a) (.bl b) = some (a == b) := rfl
@[simp] theorem bin_add : evBin .add (.int i) (.int j) M = some (.int (i + j)) := rfl
@[simp] theorem bin_sub : evBin .sub (.int i) (.int j) M = some (.int (i - j)) := rfl
theorem bin_mul (h : mulOk i j = true) : evBin .mul (.int i) (.int j) M = some (.int (i * j)) := by simp [evBin, binI, h]
theorem bin_mulL (h : -(2 ^ 64) < i ∧ i < 2 ^ 64) : evBin .mul (.int i) (.int j) M = some (.int (i * j)) := bin_mul (decide_eq_true (.inl h))
theorem bin_mulR (h : -(2 ^ 64) < j ∧ j < 2 ^ 64) : evBin .mul (.int i) (.int j) M = some (.int (i * j)) := bin_mul (decide_eq_true (.inr (.inl h)))
theorem bin_fdiv (h : 0 < j) (hl : j.natAbs.log2 < 9000) : evBin .fdiv (.int i) (.int j) M = some (.int (i / j)) := by simp [evBin, binI, h, hl]
theorem bin_mod (h : 0 < j) : evBin .mod (.int i) (.int j) M = some (.int (i % j)) := by simp [evBin, binI, h]
theorem bin_pow (h : 0 ≤ j ∧ j ≤ 1000000 ∧ i.natAbs < 2 ^ 64) : evBin .pow (.int i) (.int j) M = some (.int (i ^ j.toNat)) := by simp [evBin, binI, h]
@[simp] theorem bi_int : evBi .int [.int i] M = some (.int i) := rfl
@[simp] theorem bi_intb {b : Bool} : evBi .int [.bl b] M = some (.int (if b then 1 else 0)) := rfl
@[simp] theorem bi_abs : evBi .abs [.int i] M = some (.int (if i < 0 then -i else i)) := rfl
@[simp] theorem bi_len {d : D} : evBi .len [d] M = (seqA M d).map fun xs => .int xs.length := rfl
@[simp] theorem seqA_tup : seqA M (.tup xs) = some xs := rfl
@[simp] theorem seqA_lst : seqA M (.lst xs) = some xs := rfl
@[simp] theorem seqA_scr : seqA M (.scr xs) = some xs := rfl
theorem seqA_cell {n : Nat} (h : M[n]? = some (some (.lst xs))) : seqA M (.cell n) = some xs := by simp [seqA, seqL, h]
theorem seqL_cell {n : Nat} (h : M[n]? = some (some (.lst xs))) : seqL M (.cell n) = some xs := by simp [seqL, h]
@[simp] theorem ix_tup : ixD M (.tup xs) (.int i) = atI xs i := rfl
@[simp] theorem ix_lst : ixD M (.lst xs) (.int i) = atI xs i := rfl
@[simp] theorem ix_scr : ixD M (.scr xs) (.int i) = atI xs i := rfl
theorem ix_cell {n : Nat} (h : M[n]? = some (some (.lst xs))) : ixD M (.cell n) (.int i) = atI xs i := by simp [ixD, seqA_cell h]
theorem isi_ii : isiD ["int"] (.int i) = some true := rfl
theorem isi_bi : isiD ["bool"] (.int i) = some false := rfl
theorem evT_sub {Φ : Nat → List D → Mem → Res D} {a b : Ex} {σ : Env'} {n : Nat} {k : Int} {m : Nat} (ha : evE Φ a σ M = .ok (.cell n) M) (hb : evE Φ b σ M = .ok (.int k) M) (h : M[n]? = some (some (.lst xs))) (hk : ixN xs.length k = some m) :
    evT Φ (.sub a b) d σ M = .ok σ (M.set n (some (.lst (xs.set m d)))) := by
  simp [evT, ha, hb, h, hk]
end
theorem evE_meth {Φ : Nat → List D → Mem → Res D} {m : Mt} {o : Ex} {es : List Ex} {σ : Env'} {M M1 M2 M3 : Mem} {x r : D} {ds : List D} (ho : evE Φ o σ M = .ok x M1) (hf : mtFit m x M1 = true) (he : evL Φ es σ M1 = .ok ds M2) (hm : evMt m x ds M2 = some (r, M3)) :
    evE Φ (.meth m o es) σ M = .ok r M3 := by
  rw [evE, ho]
  simp [hf, he, hm]
theorem evL_one {Φ : Nat → List D → Mem → Res D} {e : Ex} {σ : Env'} {M M1 : Mem} {x : D} (h : evE Φ e σ M = .ok x M1) : evL Φ [e] σ M = .ok [x] M1 := by simp [evL, h]
theorem evMt_extend {M : Mem} {i : Nat} {xs ys : List D} (h : M[i]? = some (some (.lst xs))) (hs : xs.length + ys.length ≤ sizeLine) : evMt .extend (.cell i) [.lst ys] M = some (.non, M.set i (some (.lst (xs ++ ys)))) := by
  simp [evMt, h, hs]
theorem evMt_append {M : Mem} {i : Nat} {xs : List D} {y : D} (h : M[i]? = some (some (.lst xs))) (hs : xs.length < sizeLine) : evMt .append (.cell i) [y] M = some (.non, M.set i (some (.lst (xs ++ [y])))) := by
  simp [evMt, h, hs]
theorem evE_cmp {Φ : Nat → List D → Mem → Res D} {o : CO} {a b : Ex} {σ : Env'} {M M1 M2 : Mem} {x y : D} {r : Bool} (ha : evE Φ a σ M = .ok x M1) (hb : evE Φ b σ M1 = .ok y M2) (hc : cmpD o M2 x y = some r) : evE Φ (.cmp o a b) σ M = .ok (.bl r) M2 := by
  rw [evE, ha]
  simp [hb, hc]
theorem evSs_ret {Φ : Nat → List D → Mem → Res D} {e : Ex} {σ : Env'} {M M1 : Mem} {x : D} (h : evE Φ e σ M = .ok x M1) : evSs Φ [.ret e] σ M = .rt x M1 := by simp [evSs, evS, h]
theorem evSs_one {Φ : Nat → List D → Mem → Res D} {s : Sx} {σ σ1 : Env'} {M M1 : Mem} (h : evS Φ s σ M = .nx σ1 M1) : evSs Φ [s] σ M = .nx σ1 M1 := by simp [evSs, h]
theorem evSs_cons {Φ : Nat → List D → Mem → Res D} {s : Sx} {ss : List Sx} {σ σ1 : Env'} {M M1 : Mem} (h : evS Φ s σ M = .nx σ1 M1) : evSs Φ (s :: ss) σ M = evSs Φ ss σ1 M1 := by simp [evSs, h]
theorem evS_for {Φ : Nat → List D → Mem → Res D} {t : Tg} {it : It} {b : List Sx} {σ : Env'} {M M1 : Mem} {ds : List D} (h : evI Φ it σ M = .ok ds M1) : evS Φ (.fors t it b) σ M = forGo (fun x σ1 M2 => RS.of (evT Φ t x σ1 M2) σ1 fun σ2 M3 => evSs Φ b σ2 M3) ds σ M1 := by simp [evS, h]
theorem evI_rng1 {Φ : Nat → List D → Mem → Res D} {a : Ex} {σ : Env'} {M M1 : Mem} {n : Int} {ds : List D} (ha : evE Φ a σ M = .ok (.int n) M1) (hr : rngD 0 n = some ds) : evI Φ (.rng1 a) σ M = .ok ds M1 := by
  rw [evI, ha, Res.bind_ok]
  show Res.of (rngD 0 n) M1 = _
  rw [hr]
  rfl
theorem evI_rng2 {Φ : Nat → List D → Mem → Res D} {a b : Ex} {σ : Env'} {M M1 M2 : Mem} {m n : Int} {ds : List D} (ha : evE Φ a σ M = .ok (.int m) M1) (hb : evE Φ b σ M1 = .ok (.int n) M2) (hr : rngD m n = some ds) : evI Φ (.rng2 a b) σ M = .ok ds M2 := by
  rw [evI, ha, Res.bind_ok, hb, Res.bind_ok]
  show Res.of (rngD m n) M2 = _
  rw [hr]
  rfl
theorem then_assoc (r : RS) (f g : Env' → Mem → RS) : (r.then f).then g = r.then fun σ M => (f σ M).then g := by cases r <;> rfl
theorem evSs_append (Φ : Nat → List D → Mem → Res D) : ∀ (xs ys : List Sx) (σ : Env') (M : Mem), evSs Φ (xs ++ ys) σ M = (evSs Φ xs σ M).then fun σ1 M1 => evSs Φ ys σ1 M1
  | [], ys, σ, M => by simp [evSs]
  | x :: xs, ys, σ, M => by
    simp only [List.cons_append, evSs, then_assoc]
    congr 1
    funext σ1 M1
    exact evSs_append Φ xs ys σ1 M1
/-- the first statements, then the others -/
theorem evSs_split {Φ : Nat → List D → Mem → Res D} {xs ys : List Sx} {σ σ1 : Env'} {M M1 : Mem} (h : evSs Φ xs σ M = .nx σ1 M1) : evSs Φ (xs ++ ys) σ M = evSs Φ ys σ1 M1 := by rw [evSs_append, h]; rfl
end Ev
namespace K18
open PySem PySem.Spec PyProof.Rows L2 Ev
def topS (i : Nat) : Stmt := PySem.Challenge.pw_backwardrow_k18_slants_there_and_back.main.body.getD i (.Pass ⟨0, 0, 0, 0⟩)
abbrev s0 : Stmt := topS 1
/-- is_integer -/
def d0 : Df := ⟨"is_integer", ["value"], ["value"], [.ret (.and (.isi (.var 0) ["int"]) (.not (.isi (.var 0) ["bool"])))], [(1, [], [0])]⟩
abbrev s1 : Stmt := topS 2
def b1_0 : Sx := .ifs (.not (.call 0 [(.var 0)] [] [0])) [.ret (.bl false)] []
def b1_1 : Sx := .ret (.and (.or (.cmp .is (.var 1) .non) (.cmp .ge (.var 0) (.var 1))) (.or (.cmp .is (.var 2) .non) (.cmp .le (.var 0) (.var 2))))
/-- is_within -/
def d1 : Df := ⟨"is_within", ["value", "least", "most"], ["value", "least", "most"], [b1_0, b1_1], [(3, [], [0, 1, 2])]⟩
abbrev s2 : Stmt := topS 7
/-- demand_number -/
def d2 : Df := ⟨"demand_number", ["value", "least", "most", "part"], ["value", "least", "most", "part"], [.ifs (.not (.call 1 [(.var 0), (.var 1), (.var 2)] [] [0, 1, 2])) [.nev] []], [(4, [], [0, 1, 2, 3])]⟩
abbrev s3 : Stmt := topS 9
def b3_0 : Sx := .expr (.call 2 [(.var 0), (.int 0), .non, (.str "cell")] [] [0, 1, 2, 3])
def b3_1 : Sx := .expr (.call 2 [(.var 1), (.int 0), .non, (.str "tick")] [] [0, 1, 2, 3])
def b3_2 : Sx := .ret (.tup [(.bin .add (.var 0) (.var 1)), (.bin .add (.bin .add (.bin .mul (.int 2) (.var 1)) (.var 0)) (.int 1))])
/-- slant -/
def d3 : Df := ⟨"slant", ["cell", "tick"], ["cell", "tick"], [b3_0, b3_1, b3_2], [(0, ["tick", "cell"], [1, 0]), (2, [], [0, 1])]⟩
abbrev s4 : Stmt := topS 10
def b4_0 : Sx := .expr (.call 2 [(.var 0), (.int 0), .non, (.str "cell")] [] [0, 1, 2, 3])
def b4_1 : Sx := .expr (.call 2 [(.var 1), (.int 0), .non, (.str "tick")] [] [0, 1, 2, 3])
def b4_2 : Sx := .asg (.nm 2) (.bin .sub (.bin .sub (.var 1) (.var 0)) (.int 1))
def b4_3 : Sx := .asg (.nm 3) (.bin .sub (.var 0) (.var 2))
def b4_4 : Sx := .ifs (.or (.cmp .lt (.var 2) (.int 0)) (.cmp .lt (.var 3) (.int 0))) [.ret .non] []
def b4_5 : Sx := .ret (.tup [(.var 3), (.var 2)])
/-- unslant -/
def d4 : Df := ⟨"unslant", ["cell", "tick"], ["cell", "tick", "inner_tick", "inner_cell"], [b4_0, b4_1, b4_2, b4_3, b4_4, b4_5], [(2, [], [0, 1]), (0, ["tick", "cell"], [1, 0])]⟩
abbrev s5 : Stmt := topS 12
/-- _law_stair -/
def d5 : Df := ⟨"_law_stair", ["script"], ["script", "cell"], [.ret (.mls [(.lc (.bi .int [(.var 1)]) (.nm 1) (.seq (.slc (.var 0) none (some (.int 60)))) none [1]), (.int 0), (.int 0)])], [(1, [], [0])]⟩
abbrev s6 : Stmt := topS 13
def b6_0 : Sx := .ifs (.cmp .gt (.ix (.var 0) (.int 2)) (.int 0)) [.asg (.nm 2) (.bi .int [(.ix (.var 0) (.int 2))]), .asg (.sub (.var 0) (.int 2)) (.bin .fdiv (.var 2) (.var 1)), .ret (.bin .mod (.bi .int [(.var 2)]) (.var 1))] []
def b6_1 : Sx := .asg (.nm 3) (.ix (.var 0) (.int 1))
def b6_2 : Sx := .asg (.sub (.var 0) (.int 1)) (.bin .add (.var 3) (.int 1))
def b6_3 : Sx := .asg (.nm 4) (.bin .add (.bin .mul (.int 73061) (.var 3)) (.int 9719))
def b6_4 : Sx := .ifs (.cmp .ne (.ix (.var 0) (.int 0)) (.lst [])) [.asg (.nm 4) (.ix (.ix (.var 0) (.int 0)) (.bin .mod (.bi .int [(.var 3)]) (.bi .len [(.ix (.var 0) (.int 0))])))] []
def b6_5 : Sx := .ifs (.and (.cmp .lt (.var 3) (.bi .len [(.ix (.var 0) (.int 0))])) (.cmp .ge (.bi .abs [(.var 4)]) (.bin .pow (.int 10) (.int 18)))) [.asg (.nm 2) (.bin .add (.bin .mul (.int 2) (.bin .sub (.bi .abs [(.var 4)]) (.bin .pow (.int 10) (.int 18)))) (.bi .int [(.cmp .lt (.var 4) (.int 0))])), .asg (.sub (.var 0) (.int 2)) (.bin .fdiv (.var 2) (.var 1)), .ret (.bin .mod (.bi .int [(.var 2)]) (.var 1))] []
def b6_6 : Sx := .asg (.nm 5) (.bin .mod (.bi .int [(.bin .pow (.bin .add (.bin .add (.bin .mod (.bi .int [(.var 4)]) (.int 2147483489)) (.bin .mul (.int 43051) (.var 3))) (.int 9719)) (.int 5))]) (.int 2147483477))
def b6_7 : Sx := .asg (.nm 5) (.bin .mod (.bi .int [(.bin .pow (.bin .add (.bin .add (.bin .mul (.var 5) (.bin .add (.bin .mul (.int 2) (.var 3)) (.int 4357))) (.bin .mul (.bin .mul (.int 73061) (.var 3)) (.var 3))) (.int 43051)) (.int 3))]) (.int 2147483423))
def b6_8 : Sx := .ret (.bin .mod (.bi .int [(.bin .fdiv (.var 5) (.int 32))]) (.var 1))
/-- _law_climb -/
def d6 : Df := ⟨"_law_climb", ["stair", "many"], ["stair", "many", "rest", "lap", "cell", "mixed"], [b6_0, b6_1, b6_2, b6_3, b6_4, b6_5, b6_6, b6_7, b6_8], [(2, [], [0, 1])]⟩
abbrev s7 : Stmt := topS 14
/-- _law_of -/
def d7 : Df := ⟨"_law_of", ["stair", "some"], ["stair", "some"], [.ret (.ix (.var 1) (.call 6 [(.var 0), (.bi .len [(.var 1)])] [] [0, 1]))], [(2, [], [0, 1])]⟩
abbrev s8 : Stmt := topS 15
def b8_0 : Sx := .asg (.nm 1) (.call 5 [(.var 0)] [] [0])
def b8_1 : Sx := .fors (.nm 2) (.rng1 (.int 8)) [.asg (.nm 3) (.call 7 [(.var 1), (.lst [(.int 3), (.int 20), (.int 1000), (.bin .pow (.int 10) (.int 28))])] [] [0, 1]), .asg (.tp [(.nm 4), (.nm 5)]) (.tup [(.call 6 [(.var 1), (.var 3)] [] [0, 1]), (.call 6 [(.var 1), (.var 3)] [] [0, 1])]), .asg (.tp [(.nm 6), (.nm 7)]) (.call 3 [] [("tick", (.var 5)), ("cell", (.var 4))] [1, 0]), .ifs (.or (.cmp .ne (.bi .repr [(.tup [(.var 6), (.var 7)])]) (.bi .repr [(.tup [(.bin .add (.var 4) (.var 5)), (.bin .add (.bin .add (.bin .mul (.int 2) (.var 5)) (.var 4)) (.int 1))])])) (.cmp .ne (.call 4 [(.var 6), (.var 7)] [] [0, 1]) (.tup [(.var 4), (.var 5)]))) [.ret (.bl false)] [], .asg (.nm 8) (.call 4 [] [("tick", (.var 5)), ("cell", (.var 4))] [1, 0]), .par [9, 10] [(.bin .sub (.bin .sub (.var 5) (.var 4)) (.int 1)), (.bin .sub (.var 4) (.bin .sub (.bin .sub (.var 5) (.var 4)) (.int 1)))], .asg (.nm 11) (.ite (.and (.cmp .ge (.var 9) (.int 0)) (.cmp .ge (.var 10) (.int 0))) (.tup [(.var 10), (.var 9)]) .non), .ifs (.or (.cmp .ne (.bi .repr [(.var 8)]) (.bi .repr [(.var 11)])) (.and (.cmp .isn (.var 8) .non) (.cmp .ne (.call 3 [(.ix (.var 8) (.int 0)), (.ix (.var 8) (.int 1))] [] [0, 1]) (.tup [(.var 4), (.var 5)])))) [.ret (.bl false)] []]
def b8_2 : Sx := .asg (.tp [(.nm 12), (.nm 13), (.nm 14)]) (.tup [(.mls []), (.mls []), (.call 6 [(.var 1), (.int 4)] [] [0, 1])])
def b8_3 : Sx := .fors (.nm 4) (.rng1 (.int 9)) [.expr (.meth .extend (.var 12) [(.lc (.call 3 [(.var 4), (.var 5)] [] [0, 1]) (.nm 5) (.rng1 (.int 9)) none [5])])]
def b8_4 : Sx := .fors (.nm 4) (.rng2 (.var 14) (.bin .add (.var 14) (.int 5))) [.expr (.meth .extend (.var 13) [(.lc (.tup [(.var 4), (.var 5)]) (.nm 5) (.rng1 (.int 9)) none [5])])]
def b8_5 : Sx := .ret (.cmp .eq (.lc (.var 15) (.nm 15) (.seq (.frz 13)) (some (.cmp .ne (.cmp .isn (.call 4 [(.ix (.var 15) (.int 0)), (.ix (.var 15) (.int 1))] [] [0, 1]) .non) (.cmp .inn (.var 15) (.var 12)))) [15]) (.lst []))
/-- law -/
def d8 : Df := ⟨"law", ["script"], ["script", "stair", "turn", "most", "cell", "tick", "where", "when", "other", "ticks", "cells", "due", "led", "pairs", "base", "pair"], [b8_0, b8_1, b8_2, b8_3, b8_4, b8_5], [(1, [], [0])]⟩
def Pd : List Df := [d0, d1, d2, d3, d4, d5, d6, d7, d8]
def bs : List Str := ["abs", "bool", "int", "isinstance", "len", "range", "repr"]
theorem sc0 : FnScope d0.N d0.ps (defScope s0) := ⟨rfl, rfl, rfl, by decide +kernel, rfl, by decide +kernel, by decide +kernel⟩
theorem mt0 : mSs d0.body ⟨d0.N, defScope s0, defScope s0, Pd, bs⟩ (defBody s0) = true := by decide +kernel
theorem sc1 : FnScope d1.N d1.ps (defScope s1) := ⟨rfl, rfl, rfl, by decide +kernel, rfl, by decide +kernel, by decide +kernel⟩
theorem mt1 : mSs d1.body ⟨d1.N, defScope s1, defScope s1, Pd, bs⟩ (defBody s1) = true := by decide +kernel
theorem sc2 : FnScope d2.N d2.ps (defScope s2) := ⟨rfl, rfl, rfl, by decide +kernel, rfl, by decide +kernel, by decide +kernel⟩
theorem mt2 : mSs d2.body ⟨d2.N, defScope s2, defScope s2, Pd, bs⟩ (defBody s2) = true := by decide +kernel
theorem sc3 : FnScope d3.N d3.ps (defScope s3) := ⟨rfl, rfl, rfl, by decide +kernel, rfl, by decide +kernel, by decide +kernel⟩
theorem mt3 : mSs d3.body ⟨d3.N, defScope s3, defScope s3, Pd, bs⟩ (defBody s3) = true := by decide +kernel
theorem sc4 : FnScope d4.N d4.ps (defScope s4) := ⟨rfl, rfl, rfl, by decide +kernel, rfl, by decide +kernel, by decide +kernel⟩
theorem mt4 : mSs d4.body ⟨d4.N, defScope s4, defScope s4, Pd, bs⟩ (defBody s4) = true := by decide +kernel
theorem sc5 : FnScope d5.N d5.ps (defScope s5) := ⟨rfl, rfl, rfl, by decide +kernel, rfl, by decide +kernel, by decide +kernel⟩
theorem mt5 : mSs d5.body ⟨d5.N, defScope s5, defScope s5, Pd, bs⟩ (defBody s5) = true := by decide +kernel
theorem sc6 : FnScope d6.N d6.ps (defScope s6) := ⟨rfl, rfl, rfl, by decide +kernel, rfl, by decide +kernel, by decide +kernel⟩
theorem mt6 : mSs d6.body ⟨d6.N, defScope s6, defScope s6, Pd, bs⟩ (defBody s6) = true := by decide +kernel
theorem sc7 : FnScope d7.N d7.ps (defScope s7) := ⟨rfl, rfl, rfl, by decide +kernel, rfl, by decide +kernel, by decide +kernel⟩
theorem mt7 : mSs d7.body ⟨d7.N, defScope s7, defScope s7, Pd, bs⟩ (defBody s7) = true := by decide +kernel
theorem sc8 : FnScope d8.N d8.ps (defScope s8) := ⟨rfl, rfl, rfl, by decide +kernel, rfl, by decide +kernel, by decide +kernel⟩
theorem mt8 : mSs d8.body ⟨d8.N, defScope s8, defScope s8, Pd, bs⟩ (defBody s8) = true := by decide +kernel
theorem at0 {K : PySem.W.Frag} {cls : Nat → Addr} {h : Heap} {mg : Str → Option Value} {f : Addr} (X : K.In h) (G : h.Ns mainGlobals mg) {od an : Option Addr} {sl : Array (Option Value)} {oc kV dc pm cd ct : Value}
    (a : PySem.W.nsIn K mainGlobals "is_integer" = some (some (.ref f))) (l : K.lookup f = some ⟨oc, od, .func (PySem.W.fnOf "is_integer" "is_integer" (defArgs s0) (defBody s0) (defScope s0) .none kV dc pm an cd ct), sl⟩) (c : PySem.W.codeIn K cd "is_integer" = true) (k : PySem.W.keepIn K (.ref f) = true) :
    ∃ f fd, DefAt ⟨K, cls⟩ mg Pd bs d0 f fd := by
  refine ⟨f, _, PySem.W.mg_of X G a, k, ⟨"is_integer", "is_integer", defArgs s0, defBody s0, defScope s0, .none, kV, dc, pm, cd, ct, oc, an, od, sl, rfl, l, c, sc0, mt0⟩, fun sh hs s us ws h1 h2 => ?_⟩
  rcases List.mem_cons.mp hs with rfl | hs
  · match us, ws, h1, h2 with
    | [_], [], _, _ => exact .of_eq rfl
  cases hs
theorem at1 {K : PySem.W.Frag} {cls : Nat → Addr} {h : Heap} {mg : Str → Option Value} {f : Addr} (X : K.In h) (G : h.Ns mainGlobals mg) {od an : Option Addr} {sl : Array (Option Value)} {oc kV dc pm cd ct : Value}
    (a : PySem.W.nsIn K mainGlobals "is_within" = some (some (.ref f))) (l : K.lookup f = some ⟨oc, od, .func (PySem.W.fnOf "is_within" "is_within" (defArgs s1) (defBody s1) (defScope s1) .none kV dc pm an cd ct), sl⟩) (c : PySem.W.codeIn K cd "is_within" = true) (k : PySem.W.keepIn K (.ref f) = true) :
    ∃ f fd, DefAt ⟨K, cls⟩ mg Pd bs d1 f fd := by
  refine ⟨f, _, PySem.W.mg_of X G a, k, ⟨"is_within", "is_within", defArgs s1, defBody s1, defScope s1, .none, kV, dc, pm, cd, ct, oc, an, od, sl, rfl, l, c, sc1, mt1⟩, fun sh hs s us ws h1 h2 => ?_⟩
  rcases List.mem_cons.mp hs with rfl | hs
  · match us, ws, h1, h2 with
    | [_, _, _], [], _, _ => exact .of_eq rfl
  cases hs
theorem at2 {K : PySem.W.Frag} {cls : Nat → Addr} {h : Heap} {mg : Str → Option Value} {f : Addr} (X : K.In h) (G : h.Ns mainGlobals mg) {od an : Option Addr} {sl : Array (Option Value)} {oc kV dc pm cd ct : Value}
    (a : PySem.W.nsIn K mainGlobals "demand_number" = some (some (.ref f))) (l : K.lookup f = some ⟨oc, od, .func (PySem.W.fnOf "demand_number" "demand_number" (defArgs s2) (defBody s2) (defScope s2) .none kV dc pm an cd ct), sl⟩) (c : PySem.W.codeIn K cd "demand_number" = true) (k : PySem.W.keepIn K (.ref f) = true) :
    ∃ f fd, DefAt ⟨K, cls⟩ mg Pd bs d2 f fd := by
  refine ⟨f, _, PySem.W.mg_of X G a, k, ⟨"demand_number", "demand_number", defArgs s2, defBody s2, defScope s2, .none, kV, dc, pm, cd, ct, oc, an, od, sl, rfl, l, c, sc2, mt2⟩, fun sh hs s us ws h1 h2 => ?_⟩
  rcases List.mem_cons.mp hs with rfl | hs
  · match us, ws, h1, h2 with
    | [_, _, _, _], [], _, _ => exact .of_eq rfl
  cases hs
theorem at3 {K : PySem.W.Frag} {cls : Nat → Addr} {h : Heap} {mg : Str → Option Value} {f : Addr} (X : K.In h) (G : h.Ns mainGlobals mg) {od an : Option Addr} {sl : Array (Option Value)} {oc kV dc pm cd ct : Value}
    (a : PySem.W.nsIn K mainGlobals "slant" = some (some (.ref f))) (l : K.lookup f = some ⟨oc, od, .func (PySem.W.fnOf "slant" "slant" (defArgs s3) (defBody s3) (defScope s3) .none kV dc pm an cd ct), sl⟩) (c : PySem.W.codeIn K cd "slant" = true) (k : PySem.W.keepIn K (.ref f) = true) :
    ∃ f fd, DefAt ⟨K, cls⟩ mg Pd bs d3 f fd := by
  refine ⟨f, _, PySem.W.mg_of X G a, k, ⟨"slant", "slant", defArgs s3, defBody s3, defScope s3, .none, kV, dc, pm, cd, ct, oc, an, od, sl, rfl, l, c, sc3, mt3⟩, fun sh hs s us ws h1 h2 => ?_⟩
  rcases List.mem_cons.mp hs with rfl | hs
  · match us, ws, h1, h2 with
    | [], [_, _], _, _ => exact .of_eq rfl
  rcases List.mem_cons.mp hs with rfl | hs
  · match us, ws, h1, h2 with
    | [_, _], [], _, _ => exact .of_eq rfl
  cases hs
theorem at4 {K : PySem.W.Frag} {cls : Nat → Addr} {h : Heap} {mg : Str → Option Value} {f : Addr} (X : K.In h) (G : h.Ns mainGlobals mg) {od an : Option Addr} {sl : Array (Option Value)} {oc kV dc pm cd ct : Value}
    (a : PySem.W.nsIn K mainGlobals "unslant" = some (some (.ref f))) (l : K.lookup f = some ⟨oc, od, .func (PySem.W.fnOf "unslant" "unslant" (defArgs s4) (defBody s4) (defScope s4) .none kV dc pm an cd ct), sl⟩) (c : PySem.W.codeIn K cd "unslant" = true) (k : PySem.W.keepIn K (.ref f) = true) :
    ∃ f fd, DefAt ⟨K, cls⟩ mg Pd bs d4 f fd := by
  refine ⟨f, _, PySem.W.mg_of X G a, k, ⟨"unslant", "unslant", defArgs s4, defBody s4, defScope s4, .none, kV, dc, pm, cd, ct, oc, an, od, sl, rfl, l, c, sc4, mt4⟩, fun sh hs s us ws h1 h2 => ?_⟩
  rcases List.mem_cons.mp hs with rfl | hs
  · match us, ws, h1, h2 with
    | [_, _], [], _, _ => exact .of_eq rfl
  rcases List.mem_cons.mp hs with rfl | hs
  · match us, ws, h1, h2 with
    | [], [_, _], _, _ => exact .of_eq rfl
  cases hs
theorem at5 {K : PySem.W.Frag} {cls : Nat → Addr} {h : Heap} {mg : Str → Option Value} {f : Addr} (X : K.In h) (G : h.Ns mainGlobals mg) {od an : Option Addr} {sl : Array (Option Value)} {oc kV dc pm cd ct : Value}
    (a : PySem.W.nsIn K mainGlobals "_law_stair" = some (some (.ref f))) (l : K.lookup f = some ⟨oc, od, .func (PySem.W.fnOf "_law_stair" "_law_stair" (defArgs s5) (defBody s5) (defScope s5) .none kV dc pm an cd ct), sl⟩) (c : PySem.W.codeIn K cd "_law_stair" = true) (k : PySem.W.keepIn K (.ref f) = true) :
    ∃ f fd, DefAt ⟨K, cls⟩ mg Pd bs d5 f fd := by
  refine ⟨f, _, PySem.W.mg_of X G a, k, ⟨"_law_stair", "_law_stair", defArgs s5, defBody s5, defScope s5, .none, kV, dc, pm, cd, ct, oc, an, od, sl, rfl, l, c, sc5, mt5⟩, fun sh hs s us ws h1 h2 => ?_⟩
  rcases List.mem_cons.mp hs with rfl | hs
  · match us, ws, h1, h2 with
    | [_], [], _, _ => exact .of_eq rfl
  cases hs
theorem at6 {K : PySem.W.Frag} {cls : Nat → Addr} {h : Heap} {mg : Str → Option Value} {f : Addr} (X : K.In h) (G : h.Ns mainGlobals mg) {od an : Option Addr} {sl : Array (Option Value)} {oc kV dc pm cd ct : Value}
    (a : PySem.W.nsIn K mainGlobals "_law_climb" = some (some (.ref f))) (l : K.lookup f = some ⟨oc, od, .func (PySem.W.fnOf "_law_climb" "_law_climb" (defArgs s6) (defBody s6) (defScope s6) .none kV dc pm an cd ct), sl⟩) (c : PySem.W.codeIn K cd "_law_climb" = true) (k : PySem.W.keepIn K (.ref f) = true) :
    ∃ f fd, DefAt ⟨K, cls⟩ mg Pd bs d6 f fd := by
  refine ⟨f, _, PySem.W.mg_of X G a, k, ⟨"_law_climb", "_law_climb", defArgs s6, defBody s6, defScope s6, .none, kV, dc, pm, cd, ct, oc, an, od, sl, rfl, l, c, sc6, mt6⟩, fun sh hs s us ws h1 h2 => ?_⟩
  rcases List.mem_cons.mp hs with rfl | hs
  · match us, ws, h1, h2 with
    | [_, _], [], _, _ => exact .of_eq rfl
  cases hs
theorem at7 {K : PySem.W.Frag} {cls : Nat → Addr} {h : Heap} {mg : Str → Option Value} {f : Addr} (X : K.In h) (G : h.Ns mainGlobals mg) {od an : Option Addr} {sl : Array (Option Value)} {oc kV dc pm cd ct : Value}
    (a : PySem.W.nsIn K mainGlobals "_law_of" = some (some (.ref f))) (l : K.lookup f = some ⟨oc, od, .func (PySem.W.fnOf "_law_of" "_law_of" (defArgs s7) (defBody s7) (defScope s7) .none kV dc pm an cd ct), sl⟩) (c : PySem.W.codeIn K cd "_law_of" = true) (k : PySem.W.keepIn K (.ref f) = true) :
    ∃ f fd, DefAt ⟨K, cls⟩ mg Pd bs d7 f fd := by
  refine ⟨f, _, PySem.W.mg_of X G a, k, ⟨"_law_of", "_law_of", defArgs s7, defBody s7, defScope s7, .none, kV, dc, pm, cd, ct, oc, an, od, sl, rfl, l, c, sc7, mt7⟩, fun sh hs s us ws h1 h2 => ?_⟩
  rcases List.mem_cons.mp hs with rfl | hs
  · match us, ws, h1, h2 with
    | [_, _], [], _, _ => exact .of_eq rfl
  cases hs
theorem at8 {K : PySem.W.Frag} {cls : Nat → Addr} {h : Heap} {mg : Str → Option Value} {f : Addr} (X : K.In h) (G : h.Ns mainGlobals mg) {od an : Option Addr} {sl : Array (Option Value)} {oc kV dc pm cd ct : Value}
    (a : PySem.W.nsIn K mainGlobals "law" = some (some (.ref f))) (l : K.lookup f = some ⟨oc, od, .func (PySem.W.fnOf "law" "law" (defArgs s8) (defBody s8) (defScope s8) .none kV dc pm an cd ct), sl⟩) (c : PySem.W.codeIn K cd "law" = true) (k : PySem.W.keepIn K (.ref f) = true) :
    ∃ f fd, DefAt ⟨K, cls⟩ mg Pd bs d8 f fd := by
  refine ⟨f, _, PySem.W.mg_of X G a, k, ⟨"law", "law", defArgs s8, defBody s8, defScope s8, .none, kV, dc, pm, cd, ct, oc, an, od, sl, rfl, l, c, sc8, mt8⟩, fun sh hs s us ws h1 h2 => ?_⟩
  rcases List.mem_cons.mp hs with rfl | hs
  · match us, ws, h1, h2 with
    | [_], [], _, _ => exact .of_eq rfl
  cases hs
theorem tab {K : PySem.W.Frag} {cls : Nat → Addr} {h : Heap} {mg : Str → Option Value} (X : K.In h) (G : h.Ns mainGlobals mg)
    {f0 : Addr} {od0 an0 : Option Addr} {sl0 : Array (Option Value)} {oc0 kV0 dc0 pm0 cd0 ct0 : Value} (a0 : PySem.W.nsIn K mainGlobals "is_integer" = some (some (.ref f0))) (l0 : K.lookup f0 = some ⟨oc0, od0, .func (PySem.W.fnOf "is_integer" "is_integer" (defArgs s0) (defBody s0) (defScope s0) .none kV0 dc0 pm0 an0 cd0 ct0), sl0⟩) (c0 : PySem.W.codeIn K cd0 "is_integer" = true) (k0 : PySem.W.keepIn K (.ref f0) = true)
    {f1 : Addr} {od1 an1 : Option Addr} {sl1 : Array (Option Value)} {oc1 kV1 dc1 pm1 cd1 ct1 : Value} (a1 : PySem.W.nsIn K mainGlobals "is_within" = some (some (.ref f1))) (l1 : K.lookup f1 = some ⟨oc1, od1, .func (PySem.W.fnOf "is_within" "is_within" (defArgs s1) (defBody s1) (defScope s1) .none kV1 dc1 pm1 an1 cd1 ct1), sl1⟩) (c1 : PySem.W.codeIn K cd1 "is_within" = true) (k1 : PySem.W.keepIn K (.ref f1) = true)
    {f2 : Addr} {od2 an2 : Option Addr} {sl2 : Array (Option Value)} {oc2 kV2 dc2 pm2 cd2 ct2 : Value} (a2 : PySem.W.nsIn K mainGlobals "demand_number" = some (some (.ref f2))) (l2 : K.lookup f2 = some ⟨oc2, od2, .func (PySem.W.fnOf "demand_number" "demand_number" (defArgs s2) (defBody s2) (defScope s2) .none kV2 dc2 pm2 an2 cd2 ct2), sl2⟩) (c2 : PySem.W.codeIn K cd2 "demand_number" = true) (k2 : PySem.W.keepIn K (.ref f2) = true)
    {f3 : Addr} {od3 an3 : Option Addr} {sl3 : Array (Option Value)} {oc3 kV3 dc3 pm3 cd3 ct3 : Value} (a3 : PySem.W.nsIn K mainGlobals "slant" = some (some (.ref f3))) (l3 : K.lookup f3 = some ⟨oc3, od3, .func (PySem.W.fnOf "slant" "slant" (defArgs s3) (defBody s3) (defScope s3) .none kV3 dc3 pm3 an3 cd3 ct3), sl3⟩) (c3 : PySem.W.codeIn K cd3 "slant" = true) (k3 : PySem.W.keepIn K (.ref f3) = true)
    {f4 : Addr} {od4 an4 : Option Addr} {sl4 : Array (Option Value)} {oc4 kV4 dc4 pm4 cd4 ct4 : Value} (a4 : PySem.W.nsIn K mainGlobals "unslant" = some (some (.ref f4))) (l4 : K.lookup f4 = some ⟨oc4, od4, .func (PySem.W.fnOf "unslant" "unslant" (defArgs s4) (defBody s4) (defScope s4) .none kV4 dc4 pm4 an4 cd4 ct4), sl4⟩) (c4 : PySem.W.codeIn K cd4 "unslant" = true) (k4 : PySem.W.keepIn K (.ref f4) = true)
    {f5 : Addr} {od5 an5 : Option Addr} {sl5 : Array (Option Value)} {oc5 kV5 dc5 pm5 cd5 ct5 : Value} (a5 : PySem.W.nsIn K mainGlobals "_law_stair" = some (some (.ref f5))) (l5 : K.lookup f5 = some ⟨oc5, od5, .func (PySem.W.fnOf "_law_stair" "_law_stair" (defArgs s5) (defBody s5) (defScope s5) .none kV5 dc5 pm5 an5 cd5 ct5), sl5⟩) (c5 : PySem.W.codeIn K cd5 "_law_stair" = true) (k5 : PySem.W.keepIn K (.ref f5) = true)
    {f6 : Addr} {od6 an6 : Option Addr} {sl6 : Array (Option Value)} {oc6 kV6 dc6 pm6 cd6 ct6 : Value} (a6 : PySem.W.nsIn K mainGlobals "_law_climb" = some (some (.ref f6))) (l6 : K.lookup f6 = some ⟨oc6, od6, .func (PySem.W.fnOf "_law_climb" "_law_climb" (defArgs s6) (defBody s6) (defScope s6) .none kV6 dc6 pm6 an6 cd6 ct6), sl6⟩) (c6 : PySem.W.codeIn K cd6 "_law_climb" = true) (k6 : PySem.W.keepIn K (.ref f6) = true)
    {f7 : Addr} {od7 an7 : Option Addr} {sl7 : Array (Option Value)} {oc7 kV7 dc7 pm7 cd7 ct7 : Value} (a7 : PySem.W.nsIn K mainGlobals "_law_of" = some (some (.ref f7))) (l7 : K.lookup f7 = some ⟨oc7, od7, .func (PySem.W.fnOf "_law_of" "_law_of" (defArgs s7) (defBody s7) (defScope s7) .none kV7 dc7 pm7 an7 cd7 ct7), sl7⟩) (c7 : PySem.W.codeIn K cd7 "_law_of" = true) (k7 : PySem.W.keepIn K (.ref f7) = true)
    {f8 : Addr} {od8 an8 : Option Addr} {sl8 : Array (Option Value)} {oc8 kV8 dc8 pm8 cd8 ct8 : Value} (a8 : PySem.W.nsIn K mainGlobals "law" = some (some (.ref f8))) (l8 : K.lookup f8 = some ⟨oc8, od8, .func (PySem.W.fnOf "law" "law" (defArgs s8) (defBody s8) (defScope s8) .none kV8 dc8 pm8 an8 cd8 ct8), sl8⟩) (c8 : PySem.W.codeIn K cd8 "law" = true) (k8 : PySem.W.keepIn K (.ref f8) = true)
    (z0 : PySem.W.nsIn K mainGlobals "abs" = some none)
    (z1 : PySem.W.nsIn K mainGlobals "bool" = some none)
    (z2 : PySem.W.nsIn K mainGlobals "int" = some none)
    (z3 : PySem.W.nsIn K mainGlobals "isinstance" = some none)
    (z4 : PySem.W.nsIn K mainGlobals "len" = some none)
    (z5 : PySem.W.nsIn K mainGlobals "range" = some none)
    (z6 : PySem.W.nsIn K mainGlobals "repr" = some none)
    : Tab ⟨K, cls⟩ mg Pd bs := by
  refine ⟨fun i d h => ?_, fun x hx => ?_⟩
  · match i, h with
    | 0, h => cases h; exact at0 X G a0 l0 c0 k0
    | 1, h => cases h; exact at1 X G a1 l1 c1 k1
    | 2, h => cases h; exact at2 X G a2 l2 c2 k2
    | 3, h => cases h; exact at3 X G a3 l3 c3 k3
    | 4, h => cases h; exact at4 X G a4 l4 c4 k4
    | 5, h => cases h; exact at5 X G a5 l5 c5 k5
    | 6, h => cases h; exact at6 X G a6 l6 c6 k6
    | 7, h => cases h; exact at7 X G a7 l7 c7 k7
    | 8, h => cases h; exact at8 X G a8 l8 c8 k8
    | n + 9, h => cases h
  · simp only [bs, List.mem_cons, List.not_mem_nil, or_false] at hx
    rcases hx with rfl | rfl | rfl | rfl | rfl | rfl | rfl
    · exact PySem.W.mg_none_of X G z0
    · exact PySem.W.mg_none_of X G z1
    · exact PySem.W.mg_none_of X G z2
    · exact PySem.W.mg_none_of X G z3
    · exact PySem.W.mg_none_of X G z4
    · exact PySem.W.mg_none_of X G z5
    · exact PySem.W.mg_none_of X G z6
end K18
namespace K18
open PySem Ev L2
theorem is_integer (k : Nat) (i : Int) (M : Mem) : evF Pd (k + 1) 0 [.int i] M = .ok (.bl true) M := by
  rw [evF_at (d := d0) k _ _ rfl rfl]
  simp [d0, evSs, evS, evE, isi_ii, isi_bi]
theorem is_within (k : Nat) (i : Int) (h : 0 ≤ i) (M : Mem) : evF Pd (k + 2) 1 [.int i, .int 0, .non] M = .ok (.bl true) M := by
  rw [evF_at (d := d1) (k + 1) _ _ rfl rfl]
  simp [d1, b1_0, b1_1, evSs, evS, evE, evL, evK, is_integer, h]
theorem demand (k : Nat) (i : Int) (h : 0 ≤ i) (x : D) (M : Mem) : evF Pd (k + 3) 2 [.int i, .int 0, .non, x] M = .ok .non M := by
  rw [evF_at (d := d2) (k + 2) _ _ rfl rfl]
  simp [d2, evSs, evS, evE, evL, evK, is_within, h]
theorem slant (k : Nat) (c t : Int) (hc : 0 ≤ c) (ht : 0 ≤ t) (M : Mem) : evF Pd (k + 4) 3 [.int c, .int t] M = .ok (.tup [.int (c + t), .int (2 * t + c + 1)]) M := by
  rw [evF_at (d := d3) (k + 3) _ _ rfl rfl]
  simp [d3, b3_0, b3_1, b3_2, evSs, evS, evE, evL, evK, demand, hc, ht, bin_mulL, sizeLine_eq]
def unD (c t : Int) : D := if t - c - 1 < 0 ∨ c - (t - c - 1) < 0 then .non else .tup [.int (c - (t - c - 1)), .int (t - c - 1)]
theorem unslant (k : Nat) (c t : Int) (hc : 0 ≤ c) (ht : 0 ≤ t) (M : Mem) : evF Pd (k + 4) 4 [.int c, .int t] M = .ok (unD c t) M := by
  rw [evF_at (d := d4) (k + 3) _ _ rfl rfl]
  simp [d4, b4_0, b4_1, b4_2, b4_3, b4_4, b4_5, evSs, evS, evE, evL, evK, evT, demand, hc, ht, sizeLine_eq]
  by_cases h1 : t - c - 1 < 0
  · simp [h1, unD]
  · by_cases h2 : c - (t - c - 1) < 0
    · simp [h1, h2, unD]
    · simp [h1, h2, unD]
def stairO (ns : List Int) (lap rest : Int) : MO := .lst [.lst (ns.map D.int), .int lap, .int rest]
theorem cut_front (xs : List D) (n : Nat) : cutD xs none (some (n : Int)) = xs.take n := by
  unfold cutD
  rw [HT.sIx_none, HT.sIx_nat, List.drop_zero, Nat.sub_zero, Nat.min_comm, ← List.take_take]
  exact List.take_of_length_le (by simp; omega)
theorem stair (k : Nat) (ns : List Int) (M : Mem) (hM : M = []) : evF Pd (k + 1) 5 [.scr (ns.map D.int)] M = .ok (.cell 0) [some (stairO (ns.take 60) 0 0)] := by
  subst hM
  rw [evF_at (d := d5) k _ _ rfl rfl]
  have h60 : cutD (ns.map D.int) none (some 60) = (ns.take 60).map D.int := by
    rw [show (60 : Int) = ((60 : Nat) : Int) from rfl, cut_front, List.map_take]
  have hl := evE_lcm (Φ := evF Pd k) (e := .bi .int [.var 1]) (t := .nm 1) (it := .seq (.slc (.var 0) none (some (.int 60)))) (c := none) (vs := [1]) (σ := [some (.scr (ns.map D.int)), none]) (M := []) (M1 := []) (ds := (ns.take 60).map D.int) (g := fun x => x)
    (by simp [evI, evE, evO, slcD, seqL, h60]) (fun x hx => by
      obtain ⟨i, _, rfl⟩ := List.mem_map.mp hx
      simp [lcF, evT, evC, evE, evL, wipeD, evBi]) (by simp [sizeLine_eq]; omega)
  simp [d5, evSs, evS, evE, evL, ↓hl, sizeLine_eq, stairO, tidy, spare, Function.comp_def]
theorem toPds_ints : ∀ ns : List Int, toPds (ns.map D.int) = some (ns.map PyData.int)
  | [] => rfl
  | n :: ns => by simp [toPds, toPd, toPds_ints ns]
theorem canLay_ints : ∀ ns : List Int, PyData.canLayAll0 (ns.map PyData.int) = true
  | [] => rfl
  | n :: ns => by simp [PyData.canLayAll0, PyData.canLay0, canLay_ints ns]
theorem depth_ints : ∀ ns : List Int, PyData.depthAll (ns.map PyData.int) = 0
  | [] => rfl
  | n :: ns => by simp [PyData.depthAll, PyData.depth, depth_ints ns]
theorem eq_nil (M : Mem) (ns : List Int) : eqM M (.lst (ns.map D.int)) (.lst []) = some ns.isEmpty := by
  have h1 : shapedB (.list (ns.map PyData.int)) = true := by simp [shapedB, SeqAt.shaped, PyData.canLay0, canLay_ints, PyData.depth, depth_ints]
  have h2 : shapedB (.list []) = true := rfl
  have h3 : PyData.eqv (.list (ns.map PyData.int)) (.list []) = ns.isEmpty := by cases ns <;> simp [PyData.eqv, PyData.eqvAll]
  simp [eqM, eqD, now, seqL, toPd, toPds_ints, toPds, h1, h2, h3]
theorem eq_nn (M : Mem) : eqM M (.lst []) (.lst []) = some true := eq_nil M []
section
variable {k : Nat} {ns : List Int} {lap rest many : Int} {i : Nat} {M : Mem}
theorem climb_head (h : M[i]? = some (some (stairO ns lap rest))) (hr : ¬ 0 < rest) (h0 : 0 ≤ lap) : ∃ c, evSs (evF Pd k) [b6_0, b6_1, b6_2, b6_3, b6_4] [some (.cell i), some (.int many), none, none, none, none] M =
    .nx [some (.cell i), some (.int many), none, some (.int lap), some (.int c), none] (M.set i (some (stairO ns (lap + 1) rest))) := by
  have h' : M[i]? = some (some (.lst [.lst (ns.map D.int), .int lap, .int rest])) := h
  have hi : i < M.length := (List.getElem?_eq_some_iff.mp h).1
  have h2 : (M.set i (some (.lst [.lst (ns.map D.int), .int (lap + 1), .int rest])))[i]? = some (some (.lst [.lst (ns.map D.int), .int (lap + 1), .int rest])) := List.getElem?_set_self hi
  have g1 : ∀ a b c : D, atI [a, b, c] 0 = some a := fun _ _ _ => rfl
  have g2 : ∀ a b c : D, atI [a, b, c] 1 = some b := fun _ _ _ => rfl
  have g3 : ∀ a b c : D, atI [a, b, c] 2 = some c := fun _ _ _ => rfl
  have x1 : ixN 3 1 = some 1 := rfl
  by_cases hn : ns = []
  · subst hn
    refine ⟨73061 * lap + 9719, ?_⟩
    simp only [List.map_nil] at h' h2
    simp [b6_0, b6_1, b6_2, b6_3, b6_4, evSs, evS, evE, evL, evT, ix_cell h', ix_cell h2, g1, g2, g3, hr, h', x1, stairO, bin_mulL, eq_nn]
  · have hl : 0 < ns.length := List.length_pos_iff.mpr hn
    obtain ⟨c, hc⟩ : ∃ c, atI (ns.map D.int) (lap % (ns.length : Int)) = some (.int c) := by
      have p1 : 0 ≤ lap % (ns.length : Int) := Int.emod_nonneg _ (by omega)
      have p2 : lap % (ns.length : Int) < ns.length := Int.emod_lt_of_pos _ (by omega)
      obtain ⟨m, hm⟩ : ∃ m : Nat, lap % (ns.length : Int) = m := ⟨(lap % (ns.length : Int)).toNat, by omega⟩
      rw [hm] at p2 ⊢
      exact ⟨ns[m]'(by omega), atI_nat (j := m) (by simp)⟩
    refine ⟨c, ?_⟩
    have hm : (0 : Int) < ns.length := by omega
    simp [b6_0, b6_1, b6_2, b6_3, b6_4, evSs, evS, evE, evL, evT, ix_cell h', ix_cell h2, g1, g2, g3, hr, h', x1, stairO, bin_mulL, eq_nil, hn, hc, bin_mod hm]
theorem climb_tail (h : M[i]? = some (some (stairO ns lap rest))) (hm : 0 < many) (hlog : many.natAbs.log2 < 9000) (h0 : 0 ≤ lap) (h1 : lap ≤ 10000) (c : Int) : ∃ r rest', evSs (evF Pd k) [b6_5, b6_6, b6_7, b6_8] [some (.cell i), some (.int many), none, some (.int lap), some (.int c), none] (M.set i (some (stairO ns (lap + 1) rest))) =
    .rt (.int r) (M.set i (some (stairO ns (lap + 1) rest'))) ∧ 0 ≤ r ∧ r < many := by
  have hi : i < M.length := (List.getElem?_eq_some_iff.mp h).1
  have h2 : (M.set i (some (.lst [.lst (ns.map D.int), .int (lap + 1), .int rest])))[i]? = some (some (.lst [.lst (ns.map D.int), .int (lap + 1), .int rest])) := List.getElem?_set_self hi
  have g1 : ∀ a b c : D, atI [a, b, c] 0 = some a := fun _ _ _ => rfl
  have g2 : ∀ a b c : D, atI [a, b, c] 1 = some b := fun _ _ _ => rfl
  have g3 : ∀ a b c : D, atI [a, b, c] 2 = some c := fun _ _ _ => rfl
  have x2 : ixN 3 2 = some 2 := rfl
  by_cases hb : lap < ns.length ∧ 10 ^ 18 ≤ (if c < 0 then -c else c)
  · obtain ⟨hb1, hb2⟩ := hb
    refine ⟨(2 * ((if c < 0 then -c else c) - 10 ^ 18) + (if decide (c < 0) then 1 else 0)) % many, (2 * ((if c < 0 then -c else c) - 10 ^ 18) + (if decide (c < 0) then 1 else 0)) / many, ?_, Int.emod_nonneg _ (by omega), Int.emod_lt_of_pos _ hm⟩
    have hb3 : (1000000000000000000 : Int) ≤ (if c < 0 then -c else c) := hb2
    simp [b6_5, b6_6, b6_7, b6_8, evSs, evS, evE, evL, evT, ix_cell h2, g1, g2, g3, h2, x2, stairO, bin_mulL, bin_pow, hb1, hb3, bin_fdiv hm hlog, bin_mod hm]
  · refine ⟨((((c % 2147483489 + 43051 * lap + 9719) ^ 5 % 2147483477 * (2 * lap + 4357) + 73061 * lap * lap + 43051) ^ 3 % 2147483423) / 32) % many, rest, ?_, Int.emod_nonneg _ (by omega), Int.emod_lt_of_pos _ hm⟩
    have p1 : 0 ≤ c % 2147483489 := Int.emod_nonneg _ (by omega)
    have p2 : c % 2147483489 < 2147483489 := Int.emod_lt_of_pos _ (by omega)
    have q1 : (c % 2147483489 + 43051 * lap + 9719).natAbs < 2 ^ 64 := by omega
    generalize hx : c % 2147483489 + 43051 * lap + 9719 = x at q1
    have p3 : 0 ≤ x ^ 5 % 2147483477 := Int.emod_nonneg _ (by omega)
    have p4 : x ^ 5 % 2147483477 < 2147483477 := Int.emod_lt_of_pos _ (by omega)
    generalize hy : x ^ 5 % 2147483477 = y at p3 p4
    have q2 : (y * (2 * lap + 4357) + 73061 * lap * lap + 43051).natAbs < 2 ^ 64 := by
      have e1 : 0 ≤ y * (2 * lap + 4357) := Int.mul_nonneg p3 (by omega)
      have e2 : y * (2 * lap + 4357) ≤ 2147483477 * 24357 := Int.mul_le_mul (by omega) (by omega) (by omega) (by omega)
      have e3 : 0 ≤ 73061 * lap * lap := Int.mul_nonneg (by omega) h0
      have e4 : 73061 * lap * lap ≤ 730610000 * 10000 := Int.mul_le_mul (by omega) h1 h0 (by omega)
      omega
    generalize hz : y * (2 * lap + 4357) + 73061 * lap * lap + 43051 = z at q2
    have r1 : -(2 ^ 64) < lap ∧ lap < 2 ^ 64 := by omega
    have r2 : -(2 ^ 64) < 2 * lap + 4357 ∧ 2 * lap + 4357 < 2 ^ 64 := by omega
    have t5 : evS (evF Pd k) b6_5 [some (.cell i), some (.int many), none, some (.int lap), some (.int c), none] (M.set i (some (stairO ns (lap + 1) rest))) = .nx [some (.cell i), some (.int many), none, some (.int lap), some (.int c), none] (M.set i (some (stairO ns (lap + 1) rest))) := by
      by_cases hb1 : lap < ns.length
      · have hb3 : ¬ (1000000000000000000 : Int) ≤ (if c < 0 then -c else c) := fun z => hb ⟨hb1, z⟩
        simp [b6_5, evSs, evS, evE, evL, evT, ix_cell h2, g1, stairO, bin_pow, hb1, hb3]
      · simp [b6_5, evSs, evS, evE, evL, evT, ix_cell h2, g1, stairO, hb1]
    simp only [evSs]
    rw [t5]
    simp [b6_6, b6_7, b6_8, evS, evE, evL, evT, bin_mod, bin_mulL, bin_mulR r1, bin_mulR r2, bin_pow, bin_fdiv (j := 32) (by decide) (by decide), hx, q1, hy, hz, q2, bin_mod hm]
end
theorem climb (k : Nat) (ns : List Int) (lap rest many : Int) (i : Nat) (M : Mem) (h : M[i]? = some (some (stairO ns lap rest))) (hm : 0 < many) (hlog : many.natAbs.log2 < 9000) (h0 : 0 ≤ lap) (h1 : lap ≤ 10000) :
    ∃ r lap' rest', evF Pd (k + 1) 6 [.cell i, .int many] M = .ok (.int r) (M.set i (some (stairO ns lap' rest'))) ∧ 0 ≤ r ∧ r < many ∧ 0 ≤ lap' ∧ lap' ≤ lap + 1 := by
  rw [evF_at (d := d6) k _ _ rfl rfl]
  have g1 : ∀ a b c : D, atI [a, b, c] 0 = some a := fun _ _ _ => rfl
  have g2 : ∀ a b c : D, atI [a, b, c] 1 = some b := fun _ _ _ => rfl
  have g3 : ∀ a b c : D, atI [a, b, c] 2 = some c := fun _ _ _ => rfl
  have x1 : ixN 3 1 = some 1 := rfl
  have x2 : ixN 3 2 = some 2 := rfl
  by_cases hr : 0 < rest
  · refine ⟨rest % many, lap, rest / many, ?_, Int.emod_nonneg _ (by omega), Int.emod_lt_of_pos _ hm, h0, by omega⟩
    have h' : M[i]? = some (some (.lst [.lst (ns.map D.int), .int lap, .int rest])) := h
    simp [d6, b6_0, evSs, evS, evE, evL, evT, ix_cell h', g3, hr, bin_fdiv hm hlog, bin_mod hm, h', x2, stairO]
  · obtain ⟨c, hc⟩ := climb_head (k := k) (many := many) h hr h0
    obtain ⟨r, rest', ht, b1, b2⟩ := climb_tail (k := k) h hm hlog h0 h1 c
    refine ⟨r, lap + 1, rest', ?_, b1, b2, by omega, by omega⟩
    have e : evSs (evF Pd k) d6.body ([D.cell i, D.int many].map some ++ List.replicate (d6.N.length - 2) none) M = _ := (evSs_split (ys := [b6_5, b6_6, b6_7, b6_8]) hc).trans ht
    show tidy _ (bodyRes (evSs (evF Pd k) d6.body ([D.cell i, D.int many].map some ++ List.replicate (d6.N.length - 2) none) M)) = _
    rw [e]
    simp
theorem of (k : Nat) (ns : List Int) (lap rest : Int) (ms : List Int) (i : Nat) (M : Mem) (h : M[i]? = some (some (stairO ns lap rest))) (hm : ms ≠ []) (hm2 : ms.length < 1000) (h0 : 0 ≤ lap) (h1 : lap ≤ 10000) :
    ∃ r lap' rest', evF Pd (k + 2) 7 [.cell i, .lst (ms.map D.int)] M = .ok (.int r) (M.set i (some (stairO ns lap' rest'))) ∧ r ∈ ms ∧ 0 ≤ lap' ∧ lap' ≤ lap + 1 := by
  have hl : 0 < ms.length := List.length_pos_iff.mpr hm
  have hlog : ((ms.length : Int)).natAbs.log2 < 9000 := by
    have e : ((ms.length : Int)).natAbs = ms.length := by omega
    rw [e]
    exact Nat.lt_of_le_of_lt (Nat.log2_le_self _) (by omega)
  obtain ⟨r, lap', rest', e, b1, b2, b3, b4⟩ := climb k ns lap rest ms.length i M h (by omega) hlog h0 h1
  obtain ⟨m, rfl⟩ : ∃ m : Nat, r = m := ⟨r.toNat, by omega⟩
  have hx : ms[m]? = some (ms[m]'(by omega)) := List.getElem?_eq_getElem (by omega)
  refine ⟨ms[m]'(by omega), lap', rest', ?_, List.getElem_mem _, b3, b4⟩
  rw [evF_at (d := d7) (k + 1) _ _ rfl rfl]
  have ha : atI (ms.map D.int) (m : Int) = some (.int (ms[m]'(by omega))) := atI_nat (j := m) (by rw [List.getElem?_map, hx]; rfl)
  simp [d7, evSs, evS, evE, evL, evK, e, ha]
end K18
namespace K18
open PySem Ev L2
def rep2 (a b : Int) : Str := PyData.shown (.tuple [.int a, .int b])
set_option exponentiation.threshold 3000 in
theorem log_small {a : Int} (h0 : 0 ≤ a) (h : a < 10 ^ 40) : a.natAbs.log2 < 1920 := by
  by_cases z : a.natAbs = 0
  · rw [z]; decide
  · refine (Nat.log2_lt z).mpr ?_
    have e : (10 : Int) ^ 40 = ((10 ^ 40 : Nat) : Int) := by decide
    have : a.natAbs < 10 ^ 40 := by omega
    exact Nat.lt_of_lt_of_le this (by decide)
theorem repr2 {a b : Int} {M : Mem} (a0 : 0 ≤ a) (a1 : a < 10 ^ 40) (b0 : 0 ≤ b) (b1 : b < 10 ^ 40) : evBi .repr [.tup [.int a, .int b]] M = some (.str (rep2 a b)) := by
  have s : (PyData.tuple [.int a, .int b]).showable = true := by simp [PyData.showable, PyData.showableAll, log_small a0 a1, log_small b0 b1]
  have d : (PyData.tuple [.int a, .int b]).depth ≤ 40 := by simp [PyData.depth, PyData.depthAll]
  have la := PyProof.Rows.toString_length_le a0 (k := 40) (by decide) a1
  have lb := PyProof.Rows.toString_length_le b0 (k := 40) (by decide) b1
  have l : (PyData.tuple [.int a, .int b]).shown.length ≤ sizeLine := by
    rw [PyData.shown, PyData.shownAll, PyData.shownAll, PyData.shownAll, PyData.shown, PyData.shown, sizeLine_eq]
    have j := join_length_add [(↑(toString a) : Str), (↑(toString b) : Str)] (by simp)
    unfold tupleText
    rw [Str.length_append, Str.length_append, show ((("(" : String) : Str)).length = 1 from rfl]
    have e3 : ((if [(↑(toString a) : Str), (↑(toString b) : Str)].length == 1 then ",)" else ")" : String) : Str).length = 1 := rfl
    rw [e3]
    simp only [piled, List.map_cons, List.map_nil, List.sum_cons, List.sum_nil] at j
    have la' : (↑(toString a) : Str).length ≤ 40 := la
    have lb' : (↑(toString b) : Str).length ≤ 40 := lb
    omega
  simp only [evBi, now, seqL, toPd, toPds, Option.map_some]
  rw [if_pos ⟨s, d, l⟩]
  rfl
theorem reprN {M : Mem} : evBi .repr [.non] M = some (.str "None") := rfl
theorem eq_pair {M : Mem} {a b c d : Int} : eqM M (.tup [.int a, .int b]) (.tup [.int c, .int d]) = some (decide (a = c) && decide (b = d)) := by
  simp [eqM, eqD, now, seqL, toPd, toPds, shapedB, SeqAt.shaped, PyData.canLay0, PyData.canLayAll0, PyData.depth, PyData.depthAll, PyData.eqv, PyData.eqvAll, Bool.beq_eq_decide_eq]
theorem un_slant {c t : Int} (hc : 0 ≤ c) (ht : 0 ≤ t) : unD (c + t) (2 * t + c + 1) = .tup [.int c, .int t] := by
  unfold unD
  rw [if_neg (by omega), show c + t - (2 * t + c + 1 - (c + t) - 1) = c by omega, show 2 * t + c + 1 - (c + t) - 1 = t by omega]
def body1 : List Sx := match b8_1 with
  | .fors _ _ b => b
  | _ => []
section
variable {k : Nat} {ns : List Int} {lap rest : Int} {S : D} {x : D} {a2 a3 a4 a5 a6 a7 a8 a9 a10 a11 a12 a13 a14 a15 : Option D}
theorem turn1 (h0 : 0 ≤ lap) (h1 : lap ≤ 9000) : ∃ lap' rest' c2 c3 c4 c5 c6 c7 c8 c9 c10 c11, evSs (evF Pd (k + 4)) body1 [some S, some (.cell 0), a2, a3, a4, a5, a6, a7, a8, a9, a10, a11, a12, a13, a14, a15] [some (stairO ns lap rest)] =
    .nx [some S, some (.cell 0), c2, c3, c4, c5, c6, c7, c8, c9, c10, c11, a12, a13, a14, a15] [some (stairO ns lap' rest')] ∧ 0 ≤ lap' ∧ lap' ≤ lap + 3 := by
  obtain ⟨most, l1, r1, e1, m1, p1, q1⟩ := of (k + 2) ns lap rest [3, 20, 1000, 10 ^ 28] 0 [some (stairO ns lap rest)] rfl (by simp) (by simp) h0 (by omega)
  have hm : 0 < most ∧ most ≤ 10 ^ 28 := by
    simp only [List.mem_cons, List.not_mem_nil, or_false] at m1
    omega
  have hlog : most.natAbs.log2 < 9000 := Nat.lt_trans (log_small (by omega) (by omega)) (by decide)
  obtain ⟨c, l2, r2, e2, c0, c1, p2, q2⟩ := climb (k + 3) ns l1 r1 most 0 [some (stairO ns l1 r1)] rfl hm.1 hlog p1 (by omega)
  obtain ⟨t, l3, r3, e3, t0, t1, p3, q3⟩ := climb (k + 3) ns l2 r2 most 0 [some (stairO ns l2 r2)] rfl hm.1 hlog p2 (by omega)
  simp only [List.set_cons_zero] at e1 e2 e3
  have e1 : evF Pd (k + 4) 7 [.cell 0, .lst [.int 3, .int 20, .int 1000, .int 10000000000000000000000000000]] [some (stairO ns lap rest)] = .ok (.int most) [some (stairO ns l1 r1)] := e1
  have e2 : evF Pd (k + 4) 6 [.cell 0, .int most] [some (stairO ns l1 r1)] = .ok (.int c) [some (stairO ns l2 r2)] := e2
  have e3 : evF Pd (k + 4) 6 [.cell 0, .int most] [some (stairO ns l2 r2)] = .ok (.int t) [some (stairO ns l3 r3)] := e3
  have s1 := slant k c t c0 t0 [some (stairO ns l3 r3)]
  have u1 := unslant k (c + t) (2 * t + c + 1) (by omega) (by omega) [some (stairO ns l3 r3)]
  rw [un_slant c0 t0] at u1
  have u2 := unslant k c t c0 t0 [some (stairO ns l3 r3)]
  have w1 := repr2 (a := c + t) (b := 2 * t + c + 1) (M := [some (stairO ns l3 r3)]) (by omega) (by omega) (by omega) (by omega)
  obtain ⟨u, hu⟩ : ∃ u, t - c - 1 = u := ⟨_, rfl⟩
  obtain ⟨v, hv⟩ : ∃ v, c - u = v := ⟨_, rfl⟩
  rw [unD, hu, hv] at u2
  by_cases hd : u < 0 ∨ v < 0
  · rw [if_pos hd] at u2
    refine ⟨l3, r3, a2, some (.int most), some (.int c), some (.int t), some (.int (c + t)), some (.int (2 * t + c + 1)), some .non, some (.int u), some (.int v), some .non, ?_, p3, by omega⟩
    by_cases h1 : 0 ≤ u
    · have h2 : ¬ 0 ≤ v := by omega
      simp [body1, b8_1, evSs, evS, evE, evL, evK, evT, evTs, setAll, bin_pow, e1, e2, e3, s1, u1, u2, w1, eq_pair, reprN, bin_mulL, sizeLine_eq, hu, hv, h1, h2]
    · simp [body1, b8_1, evSs, evS, evE, evL, evK, evT, evTs, setAll, bin_pow, e1, e2, e3, s1, u1, u2, w1, eq_pair, reprN, bin_mulL, sizeLine_eq, hu, hv, h1]
  · have h1 : 0 ≤ u := by omega
    have h2 : 0 ≤ v := by omega
    rw [if_neg hd] at u2
    have w2 := repr2 (a := v) (b := u) (M := [some (stairO ns l3 r3)]) (by omega) (by omega) (by omega) (by omega)
    have s2 := slant k v u h2 h1 [some (stairO ns l3 r3)]
    rw [show v + u = c by omega, show 2 * u + v + 1 = t by omega] at s2
    refine ⟨l3, r3, a2, some (.int most), some (.int c), some (.int t), some (.int (c + t)), some (.int (2 * t + c + 1)), some (.tup [.int v, .int u]), some (.int u), some (.int v), some (.tup [.int v, .int u]), ?_, p3, by omega⟩
    have x0 : atI [D.int v, D.int u] 0 = some (.int v) := rfl
    have x1 : atI [D.int v, D.int u] 1 = some (.int u) := rfl
    simp [body1, b8_1, evSs, evS, evE, evL, evK, evT, evTs, setAll, bin_pow, e1, e2, e3, s1, u1, u2, w1, w2, s2, eq_pair, reprN, bin_mulL, sizeLine_eq, hu, hv, h1, h2, x0, x1]
end
end K18
namespace K18
open PySem Ev L2
theorem eq_bl {M : Mem} {a b : Bool} : eqM M (.bl a) (.bl b) = some (a == b) := by cases a <;> cases b <;> rfl
theorem tidy_ex {n : Nat} {d : D} {M : Mem} : ∃ M', tidy n (.ok d M) = .ok d M' := by
  unfold tidy
  simp only
  split
  · exact ⟨_, rfl⟩
  · split
    · exact ⟨_, rfl⟩
    · exact ⟨_, rfl⟩
theorem rng (a : Int) (n : Nat) (h : -(2 ^ 62) ≤ a ∧ a + n < 2 ^ 62) : rngD a (a + n) = some ((List.range n).map fun k : Nat => D.int (a + k)) := by
  unfold rngD
  rw [if_pos (by omega), show (a + (n : Int) - a).toNat = n by omega]
def row (c : Int) : List D := (List.range 9).map fun t : Nat => .tup [.int (c + t), .int (2 * t + c + 1)]
def rowP (c : Int) : List D := (List.range 9).map fun t : Nat => .tup [.int c, .int t]
def cellI : D → Int
  | .int c => c
  | _ => 0
section
variable {k : Nat} {S : D} {a2 a3 a4 a5 a6 a7 a8 a9 a10 a11 a12 a13 a14 a15 : Option D} {so : MO} {xs ps : List D}
/-- what the tail's loops put into one of the lists -/
theorem led_turn (c : Int) (hc : 0 ≤ c) (hl : xs.length ≤ 1000) : evSs (evF Pd (k + 4)) [.expr (.meth .extend (.var 12) [(.lc (.call 3 [(.var 4), (.var 5)] [] [0, 1]) (.nm 5) (.rng1 (.int 9)) none [5])])]
    [some S, some (.cell 0), a2, a3, some (.int c), a5, a6, a7, a8, a9, a10, a11, some (.cell 1), a13, a14, a15] [some so, some (.lst xs), some (.lst ps)] =
    .nx [some S, some (.cell 0), a2, a3, some (.int c), a5, a6, a7, a8, a9, a10, a11, some (.cell 1), a13, a14, a15] [some so, some (.lst (xs ++ row c)), some (.lst ps)] := by
  have r9 : rngD 0 9 = some ((List.range 9).map fun k : Nat => D.int ((0 : Int) + k)) := rng 0 9 (by omega)
  have hlc := evE_lcm (Φ := evF Pd (k + 4)) (e := .call 3 [(.var 4), (.var 5)] [] [0, 1]) (t := .nm 5) (it := .rng1 (.int 9)) (c := none) (vs := [5]) (σ := [some S, some (.cell 0), a2, a3, some (.int c), a5, a6, a7, a8, a9, a10, a11, some (.cell 1), a13, a14, a15])
    (M := [some so, some (.lst xs), some (.lst ps)]) (M1 := [some so, some (.lst xs), some (.lst ps)]) (ds := (List.range 9).map fun k : Nat => D.int ((0 : Int) + k)) (g := fun x => .tup [.int (c + cellI x), .int (2 * cellI x + c + 1)])
    (by simp only [evI, evE, Res.bind_ok, r9, Res.of_some]) (fun x hx => by
      obtain ⟨t, _, rfl⟩ := List.mem_map.mp hx
      have := slant k c (0 + (t : Int)) hc (by omega) [some so, some (.lst xs), some (.lst ps)]
      simp only [Int.zero_add] at this
      simp [lcF, evT, evC, evE, evL, evK, wipeD, cellI, this]) (by simp [sizeLine_eq])
  have e : ((List.range 9).map fun k : Nat => D.int ((0 : Int) + k)).map (fun x => D.tup [.int (c + cellI x), .int (2 * cellI x + c + 1)]) = row c := by
    simp only [List.map_map, row]
    apply List.map_congr_left
    intro t _
    simp [cellI]
  rw [e] at hlc
  have hr : (row c).length = 9 := by simp [row]
  have hs : xs.length + (row c).length ≤ sizeLine := by rw [hr, sizeLine_eq]; omega
  have hm := evE_meth (Φ := evF Pd (k + 4)) (m := .extend) (o := .var 12) (es := [(.lc (.call 3 [(.var 4), (.var 5)] [] [0, 1]) (.nm 5) (.rng1 (.int 9)) none [5])]) (x := .cell 1) (σ := [some S, some (.cell 0), a2, a3, some (.int c), a5, a6, a7, a8, a9, a10, a11, some (.cell 1), a13, a14, a15])
    (M := [some so, some (.lst xs), some (.lst ps)]) (by simp [evE]) (by simp [mtFit, seqL]) (evL_one hlc) (evMt_extend (xs := xs) rfl hs)
  simp only [evSs, evS, hm]
  simp
theorem pair_turn (c : Int) (hl : ps.length ≤ 1000) : evSs (evF Pd (k + 4)) [.expr (.meth .extend (.var 13) [(.lc (.tup [(.var 4), (.var 5)]) (.nm 5) (.rng1 (.int 9)) none [5])])]
    [some S, some (.cell 0), a2, a3, some (.int c), a5, a6, a7, a8, a9, a10, a11, a12, some (.cell 2), a14, a15] [some so, some (.lst xs), some (.lst ps)] =
    .nx [some S, some (.cell 0), a2, a3, some (.int c), a5, a6, a7, a8, a9, a10, a11, a12, some (.cell 2), a14, a15] [some so, some (.lst xs), some (.lst (ps ++ rowP c))] := by
  have r9 : rngD 0 9 = some ((List.range 9).map fun k : Nat => D.int ((0 : Int) + k)) := rng 0 9 (by omega)
  have hlc := evE_lcm (Φ := evF Pd (k + 4)) (e := .tup [(.var 4), (.var 5)]) (t := .nm 5) (it := .rng1 (.int 9)) (c := none) (vs := [5]) (σ := [some S, some (.cell 0), a2, a3, some (.int c), a5, a6, a7, a8, a9, a10, a11, a12, some (.cell 2), a14, a15])
    (M := [some so, some (.lst xs), some (.lst ps)]) (M1 := [some so, some (.lst xs), some (.lst ps)]) (ds := (List.range 9).map fun k : Nat => D.int ((0 : Int) + k)) (g := fun x => .tup [.int c, .int (cellI x)])
    (by simp only [evI, evE, Res.bind_ok, r9, Res.of_some]) (fun x hx => by
      obtain ⟨t, _, rfl⟩ := List.mem_map.mp hx
      simp [lcF, evT, evC, evE, evL, evK, wipeD, cellI, sizeLine_eq]) (by simp [sizeLine_eq])
  have e : ((List.range 9).map fun k : Nat => D.int ((0 : Int) + k)).map (fun x => D.tup [.int c, .int (cellI x)]) = rowP c := by
    simp only [List.map_map, rowP]
    apply List.map_congr_left
    intro t _
    simp [cellI]
  rw [e] at hlc
  have hr : (rowP c).length = 9 := by simp [rowP]
  have hs : ps.length + (rowP c).length ≤ sizeLine := by rw [hr, sizeLine_eq]; omega
  have hm := evE_meth (Φ := evF Pd (k + 4)) (m := .extend) (o := .var 13) (es := [(.lc (.tup [(.var 4), (.var 5)]) (.nm 5) (.rng1 (.int 9)) none [5])]) (x := .cell 2) (σ := [some S, some (.cell 0), a2, a3, some (.int c), a5, a6, a7, a8, a9, a10, a11, a12, some (.cell 2), a14, a15])
    (M := [some so, some (.lst xs), some (.lst ps)]) (by simp [evE]) (by simp [mtFit, seqL]) (evL_one hlc) (evMt_extend (xs := ps) rfl hs)
  simp only [evSs, evS, hm]
  simp
end
/-! ### the last line -/
def ledL : List D := (List.range 9).flatMap fun c : Nat => row ((0 : Int) + c)
def ledP : List PyData := (List.range 9).flatMap fun c : Nat => (List.range 9).map fun t : Nat => .tuple [.int ((0 : Int) + c + t), .int (2 * t + ((0 : Int) + c) + 1)]
theorem ledP_of : toPds ledL = some ledP := by rfl
theorem ledP_shaped : shapedB (.list ledP) = true := by decide +kernel
def isTup : D → Bool
  | .tup _ => true
  | _ => false
def chk (c t : Int) : Bool := isTup (unD c t) == ledP.any fun z => PyData.eqv z (.tuple [.int c, .int t])
theorem chk_all : ∀ c ∈ List.range 8, ∀ t ∈ List.range 9, chk (c : Int) (t : Int) = true := by decide +kernel
end K18
namespace K18
open PySem Ev L2
theorem un_non {c t : Int} : isD (unD c t) .non = some (!isTup (unD c t)) := by
  unfold unD
  split <;> rfl
theorem in_led {so m2 : Option MO} {c t : Int} : inD [so, some (.lst ledL), m2] (.tup [.int c, .int t]) (.cell 1) = some (ledP.any fun z => PyData.eqv z (.tuple [.int c, .int t])) := by
  have e1 : toPd (now [so, some (.lst ledL), m2] (.cell 1)) = some (.list ledP) := by
    show (toPds ledL).map PyData.list = _
    rw [ledP_of]
    rfl
  have e2 : toPd (now [so, some (.lst ledL), m2] (.tup [.int c, .int t])) = some (.tuple [.int c, .int t]) := rfl
  have e3 : shapedB (.tuple [.int c, .int t]) = true := by simp [shapedB, SeqAt.shaped, PyData.canLay0, PyData.canLayAll0, PyData.depth, PyData.depthAll]
  unfold inD
  rw [e1, e2]
  simp only [e3, ledP_shaped, Bool.and_self, if_true]
def pairL (b : Nat) : List D := (List.range 5).flatMap fun j : Nat => rowP ((b : Int) + j)
section
variable {k : Nat} {S : D} {a2 a3 a4 a5 a6 a7 a8 a9 a10 a11 a15 : Option D} {so : MO}
theorem last (b : Nat) (hb : b < 4) : evSs (evF Pd (k + 4)) [b8_5] [some S, some (.cell 0), a2, a3, a4, a5, a6, a7, a8, a9, a10, a11, some (.cell 1), some (.cell 2), some (.int b), a15] [some so, some (.lst ledL), some (.lst (pairL b))] =
    .rt (.bl true) [some so, some (.lst ledL), none] := by
  have hlc := evE_lc (Φ := evF Pd (k + 4)) (e := .var 15) (t := .nm 15) (it := .seq (.frz 13)) (c := some (.cmp .ne (.cmp .isn (.call 4 [(.ix (.var 15) (.int 0)), (.ix (.var 15) (.int 1))] [] [0, 1]) .non) (.cmp .inn (.var 15) (.var 12)))) (vs := [15])
    (σ := [some S, some (.cell 0), a2, a3, a4, a5, a6, a7, a8, a9, a10, a11, some (.cell 1), some (.cell 2), some (.int b), a15]) (M := [some so, some (.lst ledL), some (.lst (pairL b))]) (M1 := [some so, some (.lst ledL), none]) (ds := pairL b) (g := fun _ => none)
    (by simp [evI, evE]) (fun x hx => by
      obtain ⟨j, hj, hx⟩ := List.mem_flatMap.mp hx
      obtain ⟨t, ht, rfl⟩ := List.mem_map.mp hx
      have hj' := List.mem_range.mp hj
      have u := unslant k ((b : Int) + j) t (by omega) (by omega) [some so, some (.lst ledL), none]
      have q := chk_all (b + j) (List.mem_range.mpr (by omega)) t ht
      have q' : isTup (unD ((b : Int) + j) t) = ledP.any fun z => PyData.eqv z (.tuple [.int ((b : Int) + j), .int t]) := by
        have := eq_of_beq q
        rw [show ((b + j : Nat) : Int) = (b : Int) + j by omega] at this
        exact this
      have x0 : ∀ u v : D, atI [u, v] 0 = some u := fun _ _ => rfl
      have x1 : ∀ u v : D, atI [u, v] 1 = some v := fun _ _ => rfl
      simp only [lcF, evT, evC, wipeD, List.set_cons_succ, List.set_cons_zero, Res.bind_ok]
      simp [evE, evL, evK, u, un_non, in_led, q', eq_bl, x0, x1]) (by
      have : (pairL b).length = 45 := by simp [pairL, rowP]; rfl
      rw [this, sizeLine_eq]; omega)
  have hn : (pairL b).filterMap (fun _ => (none : Option D)) = [] := by simp
  rw [hn] at hlc
  exact evSs_ret (evE_cmp hlc (y := .lst []) (M2 := [some so, some (.lst ledL), none]) (by simp [evE, evL, sizeLine_eq]) (eq_nn [some so, some (.lst ledL), none]))
end
/-! ### the loops of the law -/
theorem len_row : ∀ ys : List D, (ys.flatMap fun x => row (cellI x)).length = 9 * ys.length
  | [] => rfl
  | y :: ys => by
    have hr : (row (cellI y)).length = 9 := by simp [row]
    rw [List.flatMap_cons, List.length_append, len_row ys, hr, List.length_cons]
    omega
theorem len_rowP : ∀ ys : List D, (ys.flatMap fun x => rowP (cellI x)).length = 9 * ys.length
  | [] => rfl
  | y :: ys => by
    have hr : (rowP (cellI y)).length = 9 := by simp [rowP]
    rw [List.flatMap_cons, List.length_append, len_rowP ys, hr, List.length_cons]
    omega
theorem rng5 (b : Nat) (hb : b < 4) : rngD b (b + 5) = some ((List.range 5).map fun k : Nat => D.int ((b : Int) + k)) := by
  have h := rng b 5 ⟨by omega, by omega⟩
  rw [show ((5 : Nat) : Int) = 5 from rfl] at h
  exact h
section
variable {k : Nat} {S : D} {ns : List Int}
theorem loop1 {a2 a3 a4 a5 a6 a7 a8 a9 a10 a11 a12 a13 a14 a15 : Option D} : ∃ lap rest c2 c3 c4 c5 c6 c7 c8 c9 c10 c11, evS (evF Pd (k + 4)) b8_1 [some S, some (.cell 0), a2, a3, a4, a5, a6, a7, a8, a9, a10, a11, a12, a13, a14, a15] [some (stairO ns 0 0)] =
    .nx [some S, some (.cell 0), c2, c3, c4, c5, c6, c7, c8, c9, c10, c11, a12, a13, a14, a15] [some (stairO ns lap rest)] ∧ 0 ≤ lap ∧ lap ≤ 24 := by
  have hi : evI (evF Pd (k + 4)) (.rng1 (.int 8)) [some S, some (.cell 0), a2, a3, a4, a5, a6, a7, a8, a9, a10, a11, a12, a13, a14, a15] [some (stairO ns 0 0)] = .ok ((List.range 8).map fun k : Nat => D.int ((0 : Int) + k)) [some (stairO ns 0 0)] := by
    simp only [evI, evE, Res.bind_ok]
    rw [show rngD 0 8 = _ from rng 0 8 (by omega)]
    rfl
  have hb : b8_1 = .fors (.nm 2) (.rng1 (.int 8)) body1 := rfl
  rw [hb, evS_for hi]
  obtain ⟨σ', M', e, lap, rest, c2, c3, c4, c5, c6, c7, c8, c9, c10, c11, rfl, rfl, l0, l1⟩ := forGo_steps (all := (List.range 8).map fun k : Nat => D.int ((0 : Int) + k)) (ys := []) (f := (fun x σ1 M2 => RS.of (evT (evF Pd (k + 4)) (.nm 2) x σ1 M2) σ1 fun σ2 M3 => evSs (evF Pd (k + 4)) body1 σ2 M3))
    (fun ys σ M => ∃ lap rest c2 c3 c4 c5 c6 c7 c8 c9 c10 c11, σ = [some S, some (.cell 0), c2, c3, c4, c5, c6, c7, c8, c9, c10, c11, a12, a13, a14, a15] ∧ M = [some (stairO ns lap rest)] ∧ 0 ≤ lap ∧ lap ≤ 3 * (ys.length : Int))
    (fun ys x zs σ M e ⟨lap, rest, c2, c3, c4, c5, c6, c7, c8, c9, c10, c11, e1, e2, l0, l1⟩ => by
      subst e1 e2
      have hl := congrArg List.length e
      simp only [List.length_map, List.length_range, List.length_append, List.length_cons] at hl
      obtain ⟨lap', rest', d2, d3, d4, d5, d6, d7, d8, d9, d10, d11, h, p, q⟩ := turn1 (k := k) (ns := ns) (lap := lap) (rest := rest) (S := S) (a2 := some x) (a3 := c3) (a4 := c4) (a5 := c5) (a6 := c6) (a7 := c7) (a8 := c8) (a9 := c9) (a10 := c10) (a11 := c11) (a12 := a12) (a13 := a13) (a14 := a14) (a15 := a15) l0 (by omega)
      refine ⟨_, _, ?_, lap', rest', d2, d3, d4, d5, d6, d7, d8, d9, d10, d11, rfl, rfl, p, by simp only [List.length_append, List.length_singleton]; omega⟩
      simp only [evT, RS.of_ok, List.set_cons_succ, List.set_cons_zero]
      exact h) (List.nil_append _).symm ⟨0, 0, a2, a3, a4, a5, a6, a7, a8, a9, a10, a11, rfl, rfl, by omega, by simp⟩
  exact ⟨lap, rest, c2, c3, c4, c5, c6, c7, c8, c9, c10, c11, e, l0, by simpa using l1⟩
theorem loop2 {so : MO} {a2 a3 a4 a5 a6 a7 a8 a9 a10 a11 a13 a14 a15 : Option D} : ∃ c4, evS (evF Pd (k + 4)) b8_3 [some S, some (.cell 0), a2, a3, a4, a5, a6, a7, a8, a9, a10, a11, some (.cell 1), a13, a14, a15] [some so, some (.lst []), some (.lst [])] =
    .nx [some S, some (.cell 0), a2, a3, c4, a5, a6, a7, a8, a9, a10, a11, some (.cell 1), a13, a14, a15] [some so, some (.lst ledL), some (.lst [])] := by
  have hi : evI (evF Pd (k + 4)) (.rng1 (.int 9)) [some S, some (.cell 0), a2, a3, a4, a5, a6, a7, a8, a9, a10, a11, some (.cell 1), a13, a14, a15] [some so, some (.lst []), some (.lst [])] = .ok ((List.range 9).map fun k : Nat => D.int ((0 : Int) + k)) [some so, some (.lst []), some (.lst [])] := by
    simp only [evI, evE, Res.bind_ok]
    rw [show rngD 0 9 = _ from rng 0 9 (by omega)]
    rfl
  have hb : b8_3 = .fors (.nm 4) (.rng1 (.int 9)) [.expr (.meth .extend (.var 12) [(.lc (.call 3 [(.var 4), (.var 5)] [] [0, 1]) (.nm 5) (.rng1 (.int 9)) none [5])])] := rfl
  rw [hb, evS_for hi]
  obtain ⟨σ', M', e, c4, rfl, rfl⟩ := forGo_steps (all := (List.range 9).map fun k : Nat => D.int ((0 : Int) + k)) (ys := []) (f := (fun x σ1 M2 => RS.of (evT (evF Pd (k + 4)) (.nm 4) x σ1 M2) σ1 fun σ2 M3 => evSs (evF Pd (k + 4)) [.expr (.meth .extend (.var 12) [(.lc (.call 3 [(.var 4), (.var 5)] [] [0, 1]) (.nm 5) (.rng1 (.int 9)) none [5])])] σ2 M3))
    (fun ys σ M => ∃ c4, σ = [some S, some (.cell 0), a2, a3, c4, a5, a6, a7, a8, a9, a10, a11, some (.cell 1), a13, a14, a15] ∧ M = [some so, some (.lst (ys.flatMap fun x => row (cellI x))), some (.lst [])])
    (fun ys x zs σ M e ⟨c4, e1, e2⟩ => by
      subst e1 e2
      have hl := congrArg List.length e
      simp only [List.length_map, List.length_range, List.length_append, List.length_cons] at hl
      have hx : x ∈ (List.range 9).map fun k : Nat => D.int ((0 : Int) + k) := by rw [e]; simp
      obtain ⟨j, _, rfl⟩ := List.mem_map.mp hx
      have h := led_turn (k := k) (S := S) (a2 := a2) (a3 := a3) (a5 := a5) (a6 := a6) (a7 := a7) (a8 := a8) (a9 := a9) (a10 := a10) (a11 := a11) (a13 := a13) (a14 := a14) (a15 := a15) (so := so) (ps := []) (xs := ys.flatMap fun x => row (cellI x)) ((0 : Int) + j) (by omega) (by
        have := len_row ys
        omega)
      refine ⟨_, _, ?_, some (.int ((0 : Int) + j)), rfl, rfl⟩
      simp only [evT, RS.of_ok, List.set_cons_succ, List.set_cons_zero]
      rw [List.flatMap_append]
      simpa [cellI] using h) (List.nil_append _).symm ⟨a4, rfl, rfl⟩
  exact ⟨c4, e.trans (by simp only [ledL, List.flatMap_map, cellI])⟩
theorem loop3 {so m1 : MO} {xs : List D} (b : Nat) (hb : b < 4) (hm : m1 = .lst xs) {a2 a3 a4 a5 a6 a7 a8 a9 a10 a11 a12 a15 : Option D} : ∃ c4, evS (evF Pd (k + 4)) b8_4 [some S, some (.cell 0), a2, a3, a4, a5, a6, a7, a8, a9, a10, a11, a12, some (.cell 2), some (.int b), a15] [some so, some m1, some (.lst [])] =
    .nx [some S, some (.cell 0), a2, a3, c4, a5, a6, a7, a8, a9, a10, a11, a12, some (.cell 2), some (.int b), a15] [some so, some m1, some (.lst (pairL b))] := by
  subst hm
  have hi : evI (evF Pd (k + 4)) (.rng2 (.var 14) (.bin .add (.var 14) (.int 5))) [some S, some (.cell 0), a2, a3, a4, a5, a6, a7, a8, a9, a10, a11, a12, some (.cell 2), some (.int b), a15] [some so, some (.lst xs), some (.lst [])] = .ok ((List.range 5).map fun k : Nat => D.int ((b : Int) + k)) [some so, some (.lst xs), some (.lst [])] := by
    exact evI_rng2 (m := b) (n := b + 5) (M1 := [some so, some (.lst xs), some (.lst [])]) (by simp [evE]) (by simp [evE]) (rng5 b hb)
  have hb' : b8_4 = .fors (.nm 4) (.rng2 (.var 14) (.bin .add (.var 14) (.int 5))) [.expr (.meth .extend (.var 13) [(.lc (.tup [(.var 4), (.var 5)]) (.nm 5) (.rng1 (.int 9)) none [5])])] := rfl
  rw [hb', evS_for hi]
  obtain ⟨σ', M', e, c4, rfl, rfl⟩ := forGo_steps (all := (List.range 5).map fun k : Nat => D.int ((b : Int) + k)) (ys := []) (f := (fun x σ1 M2 => RS.of (evT (evF Pd (k + 4)) (.nm 4) x σ1 M2) σ1 fun σ2 M3 => evSs (evF Pd (k + 4)) [.expr (.meth .extend (.var 13) [(.lc (.tup [(.var 4), (.var 5)]) (.nm 5) (.rng1 (.int 9)) none [5])])] σ2 M3))
    (fun ys σ M => ∃ c4, σ = [some S, some (.cell 0), a2, a3, c4, a5, a6, a7, a8, a9, a10, a11, a12, some (.cell 2), some (.int b), a15] ∧ M = [some so, some (.lst xs), some (.lst (ys.flatMap fun x => rowP (cellI x)))])
    (fun ys x zs σ M e ⟨c4, e1, e2⟩ => by
      subst e1 e2
      have hl := congrArg List.length e
      simp only [List.length_map, List.length_range, List.length_append, List.length_cons] at hl
      have hx : x ∈ (List.range 5).map fun k : Nat => D.int ((b : Int) + k) := by rw [e]; simp
      obtain ⟨j, _, rfl⟩ := List.mem_map.mp hx
      have h := pair_turn (k := k) (S := S) (a2 := a2) (a3 := a3) (a5 := a5) (a6 := a6) (a7 := a7) (a8 := a8) (a9 := a9) (a10 := a10) (a11 := a11) (a12 := a12) (a14 := some (.int b)) (a15 := a15) (so := so) (xs := xs) (ps := ys.flatMap fun x => rowP (cellI x)) ((b : Int) + j) (by
        have := len_rowP ys
        omega)
      refine ⟨_, _, ?_, some (.int ((b : Int) + j)), rfl, rfl⟩
      simp only [evT, RS.of_ok, List.set_cons_succ, List.set_cons_zero]
      rw [List.flatMap_append]
      simpa [cellI] using h) (List.nil_append _).symm ⟨a4, rfl, rfl⟩
  exact ⟨c4, e.trans (by simp only [pairL, List.flatMap_map, cellI])⟩
end
/-- the law's def is True at every script -/
theorem main (ns : List Int) : ∃ M, evF Pd 5 8 [.scr (ns.map D.int)] [] = .ok (.bl true) M := by
  rw [evF_at (d := d8) 4 _ _ rfl rfl]
  have e0 : evS (evF Pd 4) b8_0 [some (.scr (ns.map D.int)), none, none, none, none, none, none, none, none, none, none, none, none, none, none, none] [] =
      .nx [some (.scr (ns.map D.int)), some (.cell 0), none, none, none, none, none, none, none, none, none, none, none, none, none, none] [some (stairO (ns.take 60) 0 0)] := by
    have h := stair 3 ns [] rfl
    simp [b8_0, evS, evE, evL, evK, evT, h]
  obtain ⟨lap, rest, c2, c3, c4, c5, c6, c7, c8, c9, c10, c11, e1, l0, l1⟩ := loop1 (k := 0) (S := .scr (ns.map D.int)) (ns := ns.take 60) (a2 := none) (a3 := none) (a4 := none) (a5 := none) (a6 := none) (a7 := none) (a8 := none) (a9 := none) (a10 := none) (a11 := none) (a12 := none) (a13 := none) (a14 := none) (a15 := none)
  obtain ⟨r, lap', rest', e2, r0, r1, _, _⟩ := climb 3 (ns.take 60) lap rest 4 0 [some (stairO (ns.take 60) lap rest), some (.lst []), some (.lst [])] rfl (by omega) (by decide) l0 (by omega)
  obtain ⟨b, rfl⟩ : ∃ b : Nat, r = b := ⟨r.toNat, by omega⟩
  have e2' : evS (evF Pd 4) b8_2 [some (.scr (ns.map D.int)), some (.cell 0), c2, c3, c4, c5, c6, c7, c8, c9, c10, c11, none, none, none, none] [some (stairO (ns.take 60) lap rest)] =
      .nx [some (.scr (ns.map D.int)), some (.cell 0), c2, c3, c4, c5, c6, c7, c8, c9, c10, c11, some (.cell 1), some (.cell 2), some (.int b), none] [some (stairO (ns.take 60) lap' rest'), some (.lst []), some (.lst [])] := by
    simp only [List.set_cons_zero] at e2
    simp [b8_2, evS, evE, evL, evK, evT, evTs, sizeLine_eq, e2]
  obtain ⟨d4, e3⟩ := loop2 (k := 0) (S := .scr (ns.map D.int)) (so := stairO (ns.take 60) lap' rest') (a2 := c2) (a3 := c3) (a4 := c4) (a5 := c5) (a6 := c6) (a7 := c7) (a8 := c8) (a9 := c9) (a10 := c10) (a11 := c11) (a13 := some (.cell 2)) (a14 := some (.int b)) (a15 := none)
  obtain ⟨f4, e4⟩ := loop3 (k := 0) (S := .scr (ns.map D.int)) (so := stairO (ns.take 60) lap' rest') (m1 := .lst ledL) b (by omega) rfl (a2 := c2) (a3 := c3) (a4 := d4) (a5 := c5) (a6 := c6) (a7 := c7) (a8 := c8) (a9 := c9) (a10 := c10) (a11 := c11) (a12 := some (.cell 1)) (a15 := none)
  have e5 := last (k := 0) (S := .scr (ns.map D.int)) (so := stairO (ns.take 60) lap' rest') (a2 := c2) (a3 := c3) (a4 := f4) (a5 := c5) (a6 := c6) (a7 := c7) (a8 := c8) (a9 := c9) (a10 := c10) (a11 := c11) (a15 := none) b (by omega)
  have all : evSs (evF Pd 4) [b8_0, b8_1, b8_2, b8_3, b8_4, b8_5] [some (.scr (ns.map D.int)), none, none, none, none, none, none, none, none, none, none, none, none, none, none, none] [] = .rt (.bl true) [some (stairO (ns.take 60) lap' rest'), some (.lst ledL), none] := by
    rw [evSs_cons e0, evSs_cons e1, evSs_cons e2', evSs_cons e3, evSs_cons e4, e5]
  obtain ⟨M', q⟩ := tidy_ex (n := 0) (d := .bl true) (M := [some (stairO (ns.take 60) lap' rest'), some (.lst ledL), none])
  refine ⟨M', ?_⟩
  show tidy 0 (bodyRes (evSs (evF Pd 4) [b8_0, b8_1, b8_2, b8_3, b8_4, b8_5] [some (.scr (ns.map D.int)), none, none, none, none, none, none, none, none, none, none, none, none, none, none, none] [])) = _
  rw [all]
  exact q
end K18
set_option maxHeartbeats 0 in
open PySem PySem.W PyProof.Rows in
theorem PySem.Challenge.cw_backwardrow_k18_slants_there_and_back_holds : PySem.Challenge.rw_backwardrow_k18_slants_there_and_back.Holds := by
  w_on; o_law; k_head; (case hw => w_witness2)
  k_fill
  refine Ev.law_ends (l := PySem.Challenge.rw_backwardrow_k18_slants_there_and_back) (n := 63) (k := 5) (i := 8) (x := "script") (cls := fun _ _ => 0) (Pd := K18.Pd) (bs := K18.bs) (D0 := K18.d8) rfl (by decide) rfl ⟨rfl, by decide, by decide⟩ (fun w h Y => PySem.W.kIn_of Y) rfl rfl rfl (List.Mem.head _) ?T (fun ns _ => K18.main ns)
  case T =>
    intro w mg h KX G
    refine' K18.tab KX G ?a0 ?l0 ?c0 ?k0 ?a1 ?l1 ?c1 ?k1 ?a2 ?l2 ?c2 ?k2 ?a3 ?l3 ?c3 ?k3 ?a4 ?l4 ?c4 ?k4 ?a5 ?l5 ?c5 ?k5 ?a6 ?l6 ?c6 ?k6 ?a7 ?l7 ?c7 ?k7 ?a8 ?l8 ?c8 ?k8 ?z0 ?z1 ?z2 ?z3 ?z4 ?z5 ?z6
    (case a0 => k_is); (case l0 => k_is); (case c0 => k_is); (case k0 => k_is); (case a1 => k_is); (case l1 => k_is); (case c1 => k_is); (case k1 => k_is); (case a2 => k_is); (case l2 => k_is); (case c2 => k_is); (case k2 => k_is); (case a3 => k_is); (case l3 => k_is); (case c3 => k_is); (case k3 => k_is); (case a4 => k_is); (case l4 => k_is); (case c4 => k_is); (case k4 => k_is); (case a5 => k_is); (case l5 => k_is); (case c5 => k_is); (case k5 => k_is); (case a6 => k_is); (case l6 => k_is); (case c6 => k_is); (case k6 => k_is); (case a7 => k_is); (case l7 => k_is); (case c7 => k_is); (case k7 => k_is); (case a8 => k_is); (case l8 => k_is); (case c8 => k_is); (case k8 => k_is); (case z0 => k_is); (case z1 => k_is); (case z2 => k_is); (case z3 => k_is); (case z4 => k_is); (case z5 => k_is); (case z6 => k_is)
