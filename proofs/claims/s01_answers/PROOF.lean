import PyProof.Rows.All
import Wide.All
import OpenK.AllK
import Wide.FinOn
import PyProof.EqAt
import PyProof.EqKinds
import PyProof.TupleCall
import KE.BitLaws
import Open.SpecLaws
import KE.OsHead
import KE.OsGo
import KE.KSortTupG
import KE.KLam
import KE.KNest
import PySem.Challenge.RW_hourstheyhave_s01_answers
set_option Elab.async false
set_option linter.all false
set_option maxRecDepth 100000
namespace L2
open PySem PySem.Spec PyProof.Rows

/-- a key: an int or a str -/
abbrev Key := Sum Int Str
def keyIs : Key → Value → Bool
  | .inl k, v => Value.isInt k v
  | .inr x, v => Value.isStrOf x v
def keyH (w : World) : Key → Int
  | .inl k => hashInt k
  | .inr x => hashStr w x
theorem keyIs_shape : ∀ {k : Key} {v : Value}, keyIs k v = true → (∃ i t, k = Sum.inl i ∧ v = Value.int i t) ∨ (∃ x t, k = Sum.inr x ∧ v = Value.str x t)
  | .inl i, v, h => by
    obtain ⟨t, e⟩ := Value.isInt_shape (k := i) (v := v) h
    exact .inl ⟨i, t, rfl, e⟩
  | .inr x, v, h => by
    obtain ⟨t, e⟩ := Value.isStrOf_shape (x := x) (v := v) h
    exact .inr ⟨x, t, rfl, e⟩
theorem key_ll (a b : Int) : decide ((Sum.inl a : Key) = Sum.inl b) = (a == b) := by
  by_cases e : a = b
  · subst e; simp
  · have h : ¬ (Sum.inl a : Key) = Sum.inl b := fun q => e (Sum.inl.inj q)
    rw [decide_eq_false h]
    exact (beq_eq_false_iff_ne.mpr e).symm
theorem key_rr (a b : Str) : decide ((Sum.inr a : Key) = Sum.inr b) = decide (a = b) := by
  by_cases e : a = b
  · subst e; simp
  · have h : ¬ (Sum.inr a : Key) = Sum.inr b := fun q => e (Sum.inr.inj q)
    rw [decide_eq_false h, decide_eq_false e]
theorem key_lr (a : Int) (b : Str) : decide ((Sum.inl a : Key) = Sum.inr b) = false := decide_eq_false (fun q => nomatch q)
theorem key_rl (a : Str) (b : Int) : decide ((Sum.inr a : Key) = Sum.inl b) = false := decide_eq_false (fun q => nomatch q)

def mixKind (prog : Program) (w : World) : PySem.KeyKind prog w Key where
  is := keyIs
  hash := keyH w
  inj := fun v a b ha hb => by
    rcases keyIs_shape ha with ⟨i, t, rfl, rfl⟩ | ⟨x, t, rfl, rfl⟩
    · rcases keyIs_shape hb with ⟨j, u, rfl, e⟩ | ⟨y, u, rfl, e⟩
      · injection e with e1 _; rw [e1]
      · exact nomatch e
    · rcases keyIs_shape hb with ⟨j, u, rfl, e⟩ | ⟨y, u, rfl, e⟩
      · exact nomatch e
      · injection e with e1 _; rw [e1]
  byValue := fun k v h => by
    rcases keyIs_shape h with ⟨i, t, rfl, rfl⟩ | ⟨x, t, rfl, rfl⟩ <;> rfl
  pyHash := fun hv h => by
    rcases keyIs_shape hv with ⟨i, t, rfl, rfl⟩ | ⟨x, t, rfl, rfl⟩
    · exact wpAny_pyHash_int h
    · exact wpAny_pyHash_str h
  eqBool := fun hu hv h => by
    rcases keyIs_shape hu with ⟨i, t, rfl, rfl⟩ | ⟨x, t, rfl, rfl⟩
    · rcases keyIs_shape hv with ⟨j, u, rfl, rfl⟩ | ⟨y, u, rfl, rfl⟩
      · rw [key_ll] at h; exact wpAny_eqBool_int h
      · rw [key_lr] at h; exact SeqAt.EqAt.int_str i t y u _ _ _ _ h
    · rcases keyIs_shape hv with ⟨j, u, rfl, rfl⟩ | ⟨y, u, rfl, rfl⟩
      · rw [key_rl] at h; exact SeqAt.EqAt.str_int x t j u _ _ _ _ h
      · rw [key_rr] at h; exact wpAny_eqBool_str h
  «strs» := fun k x t v h => by
    rcases keyIs_shape h with ⟨i, u, rfl, e⟩ | ⟨y, u, rfl, e⟩
    · exact nomatch e
    · injection e with e1 _
      subst e1
      cases v <;> rfl

end L2

namespace L2
open PySem PySem.Spec PyProof.Rows

/-- a value, without the heap -/
inductive V where
  | non | bl (b : Bool) | int (i : Int) | str (x : Str) | byt (b : Array UInt8) | flt (b : UInt64) | ref (a : Addr) | ty (n : String)
  deriving DecidableEq

def RelV : V → Value → Prop
  | .non, u => u = Value.none
  | .bl b, u => u = Value.bool b
  | .int i, u => ∃ t, u = Value.int i t
  | .str x, u => ∃ t, u = Value.str x t
  | .byt b, u => ∃ t, u = Value.bytes b t
  | .flt b, u => ∃ t, u = Value.float b t
  | .ref a, u => u = Value.ref a
  | .ty n, u => u = Value.type n

abbrev Vals : List V → List Value → Prop := Paired RelV
theorem Vals.length {xs : List V} {us : List Value} (r : Vals xs us) : xs.length = us.length := Paired.length r
theorem Vals.get : ∀ {xs : List V} {us : List Value} {i : Nat} {x : V}, Vals xs us → xs[i]? = some x → ∃ u, us[i]? = some u ∧ RelV x u
  | _, _, _, _, .nil, e => by simp at e
  | _, _, 0, _, .cons r _, e => by simp at e; subst e; exact ⟨_, rfl, r⟩
  | _, _, i + 1, x, .cons _ t, e => by
    obtain ⟨u, h1, h2⟩ := Vals.get (i := i) (x := x) t (by simpa using e)
    exact ⟨u, by simpa using h1, h2⟩
theorem Vals.append : ∀ {xs ys : List V} {us ws : List Value}, Vals xs us → Vals ys ws → Vals (xs ++ ys) (us ++ ws)
  | _, _, _, _, .nil, s => s
  | _, _, _, _, .cons r t, s => .cons r (Vals.append t s)
theorem Vals.take : ∀ {xs : List V} {us : List Value} (n : Nat), Vals xs us → Vals (xs.take n) (us.take n)
  | _, _, 0, _ => .nil
  | _, _, _ + 1, .nil => .nil
  | _, _, n + 1, .cons r t => .cons r (Vals.take n t)
theorem Vals.drop : ∀ {xs : List V} {us : List Value} (n : Nat), Vals xs us → Vals (xs.drop n) (us.drop n)
  | _, _, 0, r => r
  | _, _, _ + 1, .nil => .nil
  | _, _, n + 1, .cons _ t => Vals.drop n t

def RelO : Option V → Option Value → Prop
  | some v, some u => RelV v u
  | none, none => True
  | _, _ => False
def KV {κ : Type} : List (κ × V) → List (κ × Value) → Prop := Paired fun (p : κ × V) (q : κ × Value) => p.1 = q.1 ∧ RelV p.2 q.2

/-- a key of a dict (00_mix): an int or a text -/
def kV : Key → V
  | .inl i => .int i
  | .inr x => .str x

/-- what stands at a tracked address -/
inductive HO where
  /-- a list -/
  | lst (xs : List V)
  /-- a tuple (never changes) -/
  | tup (xs : List V)
  /-- a dict whose keys are ints and texts; one whose keys are tuples of ints and texts (the empty one is both) -/
  | dK (kvs : List (Key × V)) | dT (kvs : List (List Key × V))
  /-- a set of ints: its members, its size -/
  | set (S : Int → Bool) (n : Nat)
  /-- an instance of the class at C, its dict at dx, its attributes -/
  | ins (C dx : Addr) (fs : List (Str × V))
  /-- the dict of the instance at x -/
  | own (x : Addr)
  /-- the dict of an exception -/
  | xd (fs : List (Str × V))
  /-- a bound method, f of x -/
  | met (f x : Addr)
  /-- a range object lo, lo + 1, .. below hi -/
  | rng (lo hi : Int)
  /-- a thing that is known to the object (the script; a dict while a loop walks it): read, never written while it is so -/
  | frz (o : Obj) (u : HO)
  /-- a code object's table -/
  | tbl (ps : Array Value)
  /-- any other thing, by what is true of its one object (a def of one's own: SetO a S n := HO.ext fun h => ..) -/
  | ext (φ : Heap → Prop)

abbrev Hp := Addr → Option HO
def upd (H : Hp) (a : Addr) (o : HO) : Hp := fun b => if b = a then some o else H b
theorem upd_same {H : Hp} {a : Addr} {o : HO} : upd H a o a = some o := by unfold upd; rw [if_pos rfl]
theorem upd_ne {H : Hp} {a b : Addr} {o : HO} (h : b ≠ a) : upd H a o b = H b := by unfold upd; rw [if_neg h]
theorem upd_upd {H : Hp} {a : Addr} {o u : HO} : upd (upd H a o) a u = upd H a u := by
  funext b; unfold upd; split <;> rfl
/-- two objects of different content stand apart -/
theorem ne_of {H : Hp} {a b : Addr} {o u : HO} (h : H a = some o) (h' : H b = some u) (d : o ≠ u) : a ≠ b := by
  intro e; subst e; rw [h] at h'; exact d (Option.some.inj h')
theorem ne_of_none {H : Hp} {a b : Addr} {o : HO} (h : H a = some o) (h' : H b = none) : a ≠ b := by
  intro e; subst e; rw [h] at h'; cases h'

section
variable (P : Program) (w : World)
def ObjOk (H : Hp) (h : Heap) (a : Addr) : HO → Prop
  | .lst xs => xs.length ≤ sizeLine ∧ ∃ (its : List Value) (n : Nat), Vals xs its ∧ h.get? a = some { cls := .type "list", data := .seq its.toArray n }
  | .tup xs => xs.length ≤ sizeLine ∧ ∃ its : List Value, Vals xs its ∧ IsTup h a its.toArray
  | .dK kvs => kvs.length ≤ sizeLine ∧ (a == sysModules) = false ∧ ∃ vs, KV kvs vs ∧ h.DictOf (mixKind P w) a vs
  | .dT kvs => kvs.length ≤ sizeLine ∧ (a == sysModules) = false ∧ ∃ xs : List (List Key × Addr × Value),
      Paired (fun (p : List Key × V) (q : List Key × Addr × Value) => p.1 = q.1 ∧ H q.2.1 = some (.tup (p.1.map kV)) ∧ RelV p.2 q.2.2) kvs xs ∧
      ∃ o es ep, h.get? a = some o ∧ o.ExactDict ∧ o.data = .dict es ep ∧ es.toList = xs.map (entryOfKey (tupleKind (mixKind P w))) ∧ (xs.map (·.1)).Nodup
  | .set S n => h.SetOf (intKind P w) a S n
  | .ins C dx fs => H dx = some (.own a) ∧ fs.length ≤ 1000 ∧ dx ≠ a ∧ h.get? a = some (PySem.W.instObj C dx) ∧
      ∃ mA, h.Ns1 dx mA ∧ (∀ f, RelO (fs.lookup f) (mA f)) ∧ PySem.Within mA (fs.map (·.1))
  | .own _ => ∃ o, h.get? a = some o
  | .xd fs => ∃ mA, h.Ns1 a mA ∧ ∀ f, RelO (fs.lookup f) (mA f)
  | .rng lo hi => ∃ t u v, h.get? a = some { cls := .type "range", data := .fields #[.int lo t, .int hi u, .int 1 v] }
  | .frz o u => h.get? a = some o ∧ ObjOk H h a u
  | .tbl ps => h.get? a = some { cls := .none, data := .fields ps }
  | .met f x => h.get? a = some (PySem.W.methodObj (.ref f) (.ref x))
  | .ext φ => φ h ∧ (∃ o, h.get? a = some o) ∧ ∀ h1 h2 : Heap, φ h1 → (∀ o, h1.get? a = some o → h2.get? a = some o) → φ h2
/-- the abstract heap is held -/
def HOk (H : Hp) (h : Heap) : Prop := ∀ a o, H a = some o → ObjOk P w H h a o
end

section
variable {P : Program} {w : World} {H H' : Hp} {h h' : Heap} {a : Addr} {o : HO}
theorem ObjOk.lt (x : ObjOk P w H h a o) : a < h.objs.size := by
  cases o with
  | lst xs => obtain ⟨_, _, _, _, e⟩ := x; exact Heap.lt_size e
  | tup xs => obtain ⟨_, _, _, p⟩ := x; exact p.lt
  | dK kvs => obtain ⟨_, _, _, _, o, _, _, e, _⟩ := x; exact Heap.lt_size e
  | dT kvs => obtain ⟨_, _, _, _, o, _, _, e, _⟩ := x; exact Heap.lt_size e
  | set S n => obtain ⟨o, _, _, _, e, _⟩ := x; exact Heap.lt_size e
  | ins C dx fs => obtain ⟨_, _, _, e, _⟩ := x; exact Heap.lt_size e
  | own y => obtain ⟨_, e⟩ := x; exact Heap.lt_size e
  | xd fs => obtain ⟨_, ⟨_, _, _, e, _⟩, _⟩ := x; exact Heap.lt_size e
  | rng lo hi => obtain ⟨_, _, _, e⟩ := x; exact Heap.lt_size e
  | frz ob u => obtain ⟨e, _⟩ := x; exact Heap.lt_size e
  | tbl ps => exact Heap.lt_size (show h.get? a = some _ from x)
  | met f y => exact Heap.lt_size (show h.get? a = some _ from x)
  | ext φ => obtain ⟨_, ⟨_, e⟩, _⟩ := x; exact Heap.lt_size e
theorem Paired.mapP {α β : Type} {F G : α → β → Prop} : ∀ {l₁ : List α} {l₂ : List β}, Paired F l₁ l₂ → (∀ a b, F a b → G a b) → Paired G l₁ l₂
  | _, _, .nil, _ => .nil
  | _, _, .cons r t, f => .cons (f _ _ r) (Paired.mapP t f)
/-- what an object's description leans on: its own object, its own dict, the tuples -/
theorem ObjOk.stay (x : ObjOk P w H h a o) (k : ∀ b u, (b = a ∨ H b = some (.own a)) → h.get? b = some u → h'.get? b = some u)
    (ho : ∀ b, H b = some (.own a) → H' b = some (.own a)) (ht : ∀ b xs, H b = some (.tup xs) → H' b = some (.tup xs)) : ObjOk P w H' h' a o := by
  induction o with
  | lst xs => obtain ⟨z, its, n, r, e⟩ := x; exact ⟨z, its, n, r, k _ _ (.inl rfl) e⟩
  | tup xs => obtain ⟨z, its, r, ob, e, c⟩ := x; exact ⟨z, its, r, ob, k _ _ (.inl rfl) e, c⟩
  | dK kvs => obtain ⟨z, y, vs, r, ob, es, ep, e, c⟩ := x; exact ⟨z, y, vs, r, ob, es, ep, k _ _ (.inl rfl) e, c⟩
  | dT kvs =>
    obtain ⟨z, y, xs, r, ob, es, ep, e, c⟩ := x
    exact ⟨z, y, xs, Paired.mapP r fun p q z => ⟨z.1, ht _ _ z.2.1, z.2.2⟩, ob, es, ep, k _ _ (.inl rfl) e, c⟩
  | set S n => obtain ⟨ob, es, ep, t, e, c⟩ := x; exact ⟨ob, es, ep, t, k _ _ (.inl rfl) e, c⟩
  | ins C dx fs =>
    obtain ⟨d, z, ne, e, mA, ⟨od, es, ep, e2, c⟩, r⟩ := x
    exact ⟨ho _ d, z, ne, k _ _ (.inl rfl) e, mA, ⟨od, es, ep, k _ _ (.inr d) e2, c⟩, r⟩
  | own y => obtain ⟨ob, e⟩ := x; exact ⟨ob, k _ _ (.inl rfl) e⟩
  | xd fs => obtain ⟨mA, ⟨od, es, ep, e, c⟩, r⟩ := x; exact ⟨mA, ⟨od, es, ep, k _ _ (.inl rfl) e, c⟩, r⟩
  | rng lo hi => obtain ⟨t, u, v, e⟩ := x; exact ⟨t, u, v, k _ _ (.inl rfl) e⟩
  | frz ob u ih => obtain ⟨e, q⟩ := x; exact ⟨k _ _ (.inl rfl) e, ih q⟩
  | tbl ps =>
    have e : h.get? a = some { cls := .none, data := .fields ps } := x
    show h'.get? a = some { cls := .none, data := .fields ps }
    exact k a _ (.inl rfl) e
  | met f y =>
    have e : h.get? a = some (PySem.W.methodObj (.ref f) (.ref y)) := x
    show h'.get? a = some (PySem.W.methodObj (.ref f) (.ref y))
    exact k a _ (.inl rfl) e
  | ext φ => obtain ⟨p, ⟨o, e⟩, st⟩ := x; exact ⟨st _ _ p fun o q => k _ _ (.inl rfl) q, ⟨o, k _ _ (.inl rfl) e⟩, st⟩
theorem HOk.lt (x : HOk P w H h) (e : H a = some o) : a < h.objs.size := (x a o e).lt
theorem HOk.fresh (x : HOk P w H h) (e : h.objs.size ≤ a) : H a = none := by
  cases q : H a with
  | none => rfl
  | some u => exact absurd (Nat.lt_of_lt_of_le (x.lt q) e) (Nat.lt_irrefl _)
/-- every object of the heap is kept -/
theorem HOk.kept (x : HOk P w H h) (k : ∀ b u, h.get? b = some u → h'.get? b = some u) : HOk P w H h' := fun a o e =>
  (x a o e).stay (fun b u _ q => k b u q) (fun _ q => q) fun _ _ q => q
/-- a new object is laid and tracked -/
theorem HOk.laid (x : HOk P w H h) (k : ∀ b u, h.get? b = some u → h'.get? b = some u) (hp : h.objs.size ≤ a) (new : ObjOk P w (upd H a o) h' a o) : HOk P w (upd H a o) h' := fun b u e => by
  have hn := x.fresh hp
  by_cases hb : b = a
  · subst hb; rw [upd_same] at e; cases e; exact new
  · rw [upd_ne hb] at e
    exact (x b u e).stay (fun c v _ q => k c v q) (fun c q => by rw [upd_ne (ne_of_none q hn)]; exact q) fun c xs q => by rw [upd_ne (ne_of_none q hn)]; exact q
end

/-- what may be read as u: it is u, or a known u -/
def Rd (H : Hp) (a : Addr) (u : HO) : Prop := H a = some u ∨ ∃ o, H a = some (.frz o u)
theorem Rd.ok {P : Program} {w : World} {H : Hp} {h : Heap} {a : Addr} {u : HO} (r : Rd H a u) (x : HOk P w H h) : ObjOk P w H h a u := by
  rcases r with r | ⟨o, r⟩
  · exact x a u r
  · obtain ⟨_, q⟩ := x a _ r
    exact q
/-- what may be written -/
def Mut : Option HO → Prop
  | some (.lst _) => True
  | some (.dK _) => True
  | some (.dT _) => True
  | some (.set _ _) => True
  | some (.ins _ _ _) => True
  | some (.ext _) => True
  | _ => False
section
variable {P : Program} {w : World} {H : Hp} {h h' : Heap} {x e : Addr} {o' : HO}
/-- the object at e is changed: x itself, or the dict of the instance x -/
theorem HOk.write (ok : HOk P w H h) (mu : Mut (H x)) (he : e = x ∨ H e = some (.own x)) (k : ∀ b u, b ≠ e → h.get? b = some u → h'.get? b = some u) (heo : ∃ u, h'.get? e = some u)
    (new : ObjOk P w (upd H x o') h' x o') : HOk P w (upd H x o') h' := fun b u q => by
  have nown : ∀ c y, H c = some (.own y) → c ≠ x := fun c y r z => by subst z; rw [r] at mu; exact mu
  have ntup : ∀ c xs, H c = some (.tup xs) → c ≠ x := fun c xs r z => by subst z; rw [r] at mu; exact mu
  by_cases hb : b = x
  · subst hb; rw [upd_same] at q; cases q; exact new
  · rw [upd_ne hb] at q
    by_cases hbe : b = e
    · have q' : H b = some (.own x) := by
        rcases he with z | z
        · exact absurd (hbe.trans z) hb
        · rw [hbe]; exact z
      rw [q] at q'; cases q'
      obtain ⟨v, hv⟩ := heo
      exact ⟨v, by rw [hbe]; exact hv⟩
    · refine (ok b u q).stay (fun c v hc r => k c v ?_ r) (fun c r => by rw [upd_ne (nown c b r)]; exact r) fun c xs r => by rw [upd_ne (ntup c xs r)]; exact r
      rcases hc with rfl | hc
      · exact hbe
      · rintro rfl
        rcases he with z | z
        · exact nown c b hc z
        · rw [hc] at z; cases z; exact hb rfl
end

structure Un (fs ex : List Addr) (H H' : Hp) (h h' : Heap) : Prop where
  keep : ∀ b o, h.get? b = some o → H b = none → b ∉ fs → b ∉ ex → h'.get? b = some o
  slot : ∀ b o, h.get? b = some o → H b = none → b ∈ fs → b ∉ ex → ∃ sl, h'.get? b = some { o with slots := sl }
  free : ∀ b o, h.get? b = some o → H b = none → b ∉ ex → H' b = none
  there : ∀ b o, h.get? b = some o → b ∉ ex → ∃ o', h'.get? b = some o'
  tups : ∀ b xs, H b = some (.tup xs) → H' b = some (.tup xs)
  frzs : ∀ b o u, H b = some (.frz o u) → H' b = some (.frz o u)
  tbls : ∀ b ps, H b = some (.tbl ps) → ∃ more, H' b = some (.tbl (ps ++ more))
section
variable {fs fs' ex ex' : List Addr} {H H1 H2 : Hp} {h h1 h2 h' : Heap} {a x e : Addr} {o : HO}
theorem Un.any (u : Un fs ex H H1 h h1) {b : Addr} {ob : Obj} (q : h.get? b = some ob) (n : H b = none) (hx : b ∉ ex) : ∃ sl, h1.get? b = some { ob with slots := sl } := by
  by_cases hb : b ∈ fs
  · exact u.slot b ob q n hb hx
  · exact ⟨ob.slots, u.keep b ob q n hb hx⟩
theorem Un.kept (k : ∀ b u, h.get? b = some u → h'.get? b = some u) : Un fs ex H H h h' :=
  ⟨fun b ob q _ _ _ => k b ob q, fun b ob q _ _ _ => ⟨ob.slots, k b ob q⟩, fun _ _ _ n _ => n, fun b ob q _ => ⟨ob, k b ob q⟩, fun _ _ q => q, fun _ _ _ q => q, fun _ ps q => ⟨#[], by rw [q]; simp⟩⟩
theorem Un.refl : Un fs ex H H h h := Un.kept fun _ _ q => q
theorem Un.laid (k : ∀ b u, h.get? b = some u → h'.get? b = some u) (hp : h.objs.size ≤ a) (hn : H a = none) : Un fs ex H (upd H a o) h h' where
  keep := fun b u q _ _ _ => k b u q
  slot := fun b u q _ _ _ => ⟨u.slots, k b u q⟩
  free := fun b u q n _ => by rw [upd_ne (Nat.ne_of_lt (Nat.lt_of_lt_of_le (Heap.lt_size q) hp))]; exact n
  there := fun b u q _ => ⟨u, k b u q⟩
  tups := fun b xs q => by rw [upd_ne (ne_of_none q hn)]; exact q
  frzs := fun b u xs q => by rw [upd_ne (ne_of_none q hn)]; exact q
  tbls := fun b ps q => ⟨#[], by rw [upd_ne (ne_of_none q hn), q]; simp⟩
theorem Un.write (mu : Mut (H x)) (he : e = x ∨ H e = some (.own x)) (k : ∀ b u, b ≠ e → h.get? b = some u → h'.get? b = some u) (heo : ∃ u, h'.get? e = some u) : Un fs ex H (upd H x o) h h' := by
  have hx : ∀ b, H b = none → b ≠ x := fun b n z => by subst z; rw [n] at mu; exact mu
  have hb : ∀ b, H b = none → b ≠ e := fun b n z => by
    subst z
    rcases he with r | r
    · exact hx b n r
    · rw [n] at r; cases r
  have hm : ∀ b u, H b = some u → ¬ Mut (some u) → b ≠ x := fun b u q nm z => by subst z; rw [q] at mu; exact nm mu
  refine ⟨fun b u q n _ _ => k b u (hb b n) q, fun b u q n _ _ => ⟨u.slots, k b u (hb b n) q⟩, fun b u q n _ => by rw [upd_ne (hx b n)]; exact n, fun b u q _ => ?_,
    fun b xs q => by rw [upd_ne (hm b _ q fun z => z)]; exact q, fun b u xs q => by rw [upd_ne (hm b _ q fun z => z)]; exact q, fun b ps q => ⟨#[], by rw [upd_ne (hm b _ q fun z => z), q]; simp⟩⟩
  by_cases hbe : b = e
  · subst hbe; exact heo
  · exact ⟨u, k b u hbe q⟩
end

def trk (h : Heap) (H : Hp) : List Addr := (List.range h.objs.size).filter fun a => (H a).isSome
def hidT (h : Heap) (H : Hp) : Heap := PySem.W.hideAll h (trk h H)
theorem hidT_size (h : Heap) (H : Hp) : (hidT h H).objs.size = h.objs.size := PySem.W.hideAll_size _ _
theorem hidT_get {h : Heap} {H : Hp} {b : Addr} {o : Obj} (e : h.get? b = some o) (n : H b = none) : (hidT h H).get? b = some o :=
  PySem.W.hideAll_get _ e fun hm => by
    have q : (H b).isSome = true := (List.mem_filter.mp hm).2
    rw [n] at q; simp at q
theorem of_hidT {h : Heap} {H : Hp} {b : Addr} {o : Obj} (e : (hidT h H).get? b = some o) : h.get? b = some o ∧ H b = none := by
  have e' : h.get? b = some o := PySem.W.of_hideAll (trk h H) e
  refine ⟨e', ?_⟩
  cases q : H b with
  | none => rfl
  | some x =>
    have hm : b ∈ trk h H := List.mem_filter.mpr ⟨List.mem_range.mpr (Heap.lt_size e'), by simp [q]⟩
    have z : (hidT h H).get? b = none := PySem.W.hideAll_none (trk h H) hm
    rw [z] at e; cases e

end L2

namespace L2
open PySem PySem.Spec PyProof.Rows

/-- the module's facts, over the base: the heap at the law's entry without what is tracked there -/
structure Mod (K : PySem.W.Frag) (mg : Str → Option Value) (base : Heap) : Prop where
  kin : K.In base
  glob : base.Ns mainGlobals mg
  blt : ∃ mb, base.Ns builtinsNs mb ∧ ∀ x : Str, x ≠ "__name__" → mb x = bootBuiltins x
  nolimit : base.NoLimit

/-- the context: a def's body (or a comprehension's block) running. base: fixed through the whole law; s₀, H₀: the entry; outer: the frames whose slots others may change (a def's callers); stack: all frames that run;
   ex: iterators that were made ahead of the entry and are walked here (a comprehension's); fn: the names whose cells were made at the entry (a def: all; a comprehension's block: its own); calm: not within an except suite; pn: pins that every state bears; xe: what is wanted of an exception that leaves the code -/
structure Cx where
  prog : Program
  w : World
  K : PySem.W.Frag
  mg : Str → Option Value
  base : Heap
  A : Around
  N : List Str
  s_0 : Shared
  H_0 : Hp
  env : Env
  outer : List Env
  stack : List Env
  ex : List Addr
  fn : Str → Bool
  calm : Bool
  pn : List (Addr × Obj)
  xe : Value → Shared → Prop
/-- the callers' frames -/
def frs (l : List Env) : List Addr := l.filterMap (·.frame)
abbrev Cx.fs (X : Cx) : List Addr := frs X.outer

def Vis (sc : Scope) (x : Str) : Prop := sc.names.lookup x = some .local ∨ sc.names.lookup x = some .cell ∨ sc.names.lookup x = some .free
def Loc (sc : Scope) (x : Str) : Prop := sc.names.lookup x = some .local ∨ sc.names.lookup x = some .cell
def Look (env : Env) (h : Heap) (m : Str → Option Value) (x : Str) (u : Value) : Prop :=
  (env.kindOf x = some .local ∧ m x = some u) ∨ ((env.kindOf x = some .cell ∨ env.kindOf x = some .free) ∧ ∃ c, env.cells.lookup x = some c ∧ h.IsCell c (some u))

structure Cx.Ok (X : Cx) : Prop where
  mod : Mod X.K X.mg X.base
  kind : X.env.scope.kind = .function
  glob : X.env.globals = mainGlobals
  blt : X.env.builtins = builtinsNs
  above : X.s_0.heap.objs.size ≤ X.env.locals
  inj : ∀ x y c, X.env.cells.lookup x = some c → X.env.cells.lookup y = some c → x = y
  has : ∀ x, (X.env.kindOf x = some .cell ∨ X.env.kindOf x = some .free) → ∃ c, X.env.cells.lookup x = some c
  cab : ∀ x c, X.fn x = true → X.env.cells.lookup x = some c → X.s_0.heap.objs.size ≤ c
  hd : X.calm = true → X.A.handled = none
  frames : X.A.frames = some X.stack
  stk : X.stack = X.outer ∨ (X.stack = X.env :: X.outer ∧ X.env.frame = some X.env.locals)
  exf : ∀ b ∈ X.ex, b ≠ X.env.locals ∧ ∀ x c, X.env.cells.lookup x = some c → c ≠ b
  bs : ∀ b o, X.base.get? b = some o → X.s_0.heap.get? b = some o ∧ X.H_0 b = none
  bsz : X.base.objs.size ≤ X.s_0.heap.objs.size
  noex : ∀ b o, X.base.get? b = some o → b ∉ X.ex
  exfs : ∀ b ∈ X.ex, b ∉ X.fs
  funs : X.s_0.heap.FunFrames X.base X.outer
  frf : ∀ b ∈ X.fs, X.H_0 b = none

structure Inv (X : Cx) (pins : List (Addr × Obj)) (σ : List (Option V)) (H : Hp) (s : Shared) : Prop where
  ok : X.Ok
  os : s.os = X.s_0.os
  bare : AllBare s.gens
  base : Un X.fs X.ex X.H_0 H X.s_0.heap s.heap
  loc : ∃ m, s.heap.Ns X.env.locals m ∧ ∀ (i : Nat) (x : Str) (v : V), X.N[i]? = some x → σ[i]? = some (some v) → Vis X.env.scope x → ∃ u, RelV v u ∧ Look X.env s.heap m x u
  cell : ∀ x c, X.env.cells.lookup x = some c → ∃ v, s.heap.IsCell c v
  free : H X.env.locals = none
  freeC : ∀ x c, X.env.cells.lookup x = some c → H c = none
  pin : ∀ p ∈ X.pn ++ pins, s.heap.get? p.1 = some p.2 ∧ H p.1 = none ∧ p.1 ≠ X.env.locals ∧ p.1 ∉ X.fs ∧ ∀ v, p.2.data ≠ .cell v
  hok : HOk X.prog X.w H s.heap
  len : σ.length = X.N.length

section
variable {X : Cx} {pins : List (Addr × Obj)} {σ : List (Option V)} {H H' : Hp} {s : Shared} {h' : Heap}

theorem Cx.Ok.nofr (ok : X.Ok) {b : Addr} {o : Obj} (e : X.base.get? b = some o) : b ∉ X.fs := fun hb => by
  have := (ok.funs.mem hb).1
  rw [e] at this; cases this
theorem Inv.bs (I : Inv X pins σ H s) : ∀ b o, X.base.get? b = some o → s.heap.get? b = some o ∧ H b = none := fun b o e =>
  ⟨I.base.keep b o (I.ok.bs b o e).1 (I.ok.bs b o e).2 (I.ok.nofr e) (I.ok.noex b o e), I.base.free b o (I.ok.bs b o e).1 (I.ok.bs b o e).2 (I.ok.noex b o e)⟩
theorem Inv.bk (I : Inv X pins σ H s) : ∀ b o, X.base.get? b = some o → s.heap.get? b = some o := fun b o e => (I.bs b o e).1
theorem Inv.mod (I : Inv X pins σ H s) : Mod X.K X.mg X.base := I.ok.mod
theorem Inv.kIn (I : Inv X pins σ H s) : X.K.In s.heap := I.ok.mod.kin.keeps I.bk
theorem Inv.lt (I : Inv X pins σ H s) : X.env.locals < s.heap.objs.size := let ⟨_, hn, _⟩ := I.loc; hn.lt
theorem Inv.sz (I : Inv X pins σ H s) : X.s_0.heap.objs.size ≤ s.heap.objs.size := Nat.le_trans I.ok.above (Nat.le_of_lt I.lt)
theorem Inv.nofs (I : Inv X pins σ H s) {a : Addr} (h : s.heap.objs.size ≤ a) : a ∉ X.fs := fun hb => by
  obtain ⟨_, o, ho, _⟩ := I.ok.funs.mem hb
  exact absurd (Nat.lt_of_lt_of_le (Heap.lt_size ho) (Nat.le_trans I.sz h)) (Nat.lt_irrefl _)
theorem Inv.cne (I : Inv X pins σ H s) : ∀ x c, X.env.cells.lookup x = some c → c ≠ X.env.locals := fun x c e z => by
  obtain ⟨v, o, ho, hd⟩ := I.cell x c e
  obtain ⟨m, ⟨o', es, ep, ho', hd', _⟩, _⟩ := I.loc
  rw [z, ho'] at ho; cases ho; rw [hd'] at hd; cases hd
theorem Inv.funs (I : Inv X pins σ H s) : s.heap.FunFrames X.base X.outer := by
  have all : ∀ (l : List Env), (∀ b ∈ frs l, b ∈ X.fs) → X.s_0.heap.FunFrames X.base l → s.heap.FunFrames X.base l := by
    intro l
    induction l with
    | nil => intro _ _; trivial
    | cons env r ih =>
      intro hs hl
      obtain ⟨hk, ⟨L, o, hf, hn, ho, hd⟩, hr⟩ := hl
      have hL : L ∈ X.fs := hs L (by unfold frs; rw [List.filterMap_cons, hf]; exact List.mem_cons_self)
      obtain ⟨sl, e⟩ := I.base.slot L o ho (I.ok.frf L hL) hL fun z => I.ok.exfs L z hL
      exact ⟨hk, ⟨L, _, hf, hn, e, hd⟩, ih (fun b hb => hs b (by unfold frs; rw [List.filterMap_cons, hf]; exact List.mem_cons_of_mem _ hb)) hr⟩
  exact all X.outer (fun _ hb => hb) I.ok.funs

/-- the frames that run, for a call -/
theorem Inv.stack (I : Inv X pins σ H s) : s.heap.FunFrames X.base X.stack := by
  rcases I.ok.stk with e | ⟨e, hf⟩
  · rw [e]; exact I.funs
  · rw [e]
    obtain ⟨m, hn, _⟩ := I.loc
    refine .cons (by rw [I.ok.kind]; decide) hf hn ?_ I.funs
    exact Heap.get?_none_of_le (Nat.le_trans I.ok.bsz I.ok.above)
theorem Inv.stkSub (I : Inv X pins σ H s) : ∀ b ∈ frs X.stack, b ∈ X.env.locals :: X.fs := fun b hb => by
  rcases I.ok.stk with e | ⟨e, hf⟩
  · rw [e] at hb; exact List.mem_cons_of_mem _ hb
  · rw [e] at hb
    unfold frs at hb
    rw [List.filterMap_cons, hf] at hb
    exact hb
theorem Inv.stkFree (I : Inv X pins σ H s) : ∀ b ∈ frs X.stack, H b = none := fun b hb => by
  rcases List.mem_cons.mp (I.stkSub b hb) with e | hb
  · rw [e]; exact I.free
  · obtain ⟨_, o, ho, _⟩ := I.ok.funs.mem hb
    exact I.base.free b o ho (I.ok.frf b hb) fun z => I.ok.exfs b z hb

/-- THE STEP: the untracked objects but the frame and the records at ch are kept (the callers' frames up to slots), the frame's map is kept, the new abstract heap is held -/
theorem Inv.step {g' : Array GenState} {t' : Nat} {d' : Drawn} {ch : List Addr} (I : Inv X pins σ H s)
    (hch : ∀ b ∈ ch, (b ∈ X.ex ∨ X.s_0.heap.objs.size ≤ b) ∧ b ≠ X.env.locals ∧ (∀ x c, X.env.cells.lookup x = some c → c ≠ b) ∧ ∀ p ∈ X.pn ++ pins, p.1 ≠ b)
    (keep : ∀ b o, b ≠ X.env.locals → b ∉ X.fs → b ∉ ch → s.heap.get? b = some o → H b = none → h'.get? b = some o)
    (slot : ∀ b o, b ≠ X.env.locals → b ∈ X.fs → b ∉ ch → s.heap.get? b = some o → H b = none → ∃ sl, h'.get? b = some { o with slots := sl }) (free : ∀ b o, b ∉ ch → s.heap.get? b = some o → H b = none → H' b = none)
    (there : ∀ b o, b ∉ ch → s.heap.get? b = some o → ∃ o', h'.get? b = some o')
    (tups : ∀ b xs, H b = some (.tup xs) → H' b = some (.tup xs)) (frzs : ∀ b o u, H b = some (.frz o u) → H' b = some (.frz o u)) (tbls : ∀ b ps, H b = some (.tbl ps) → ∃ more, H' b = some (.tbl (ps ++ more)))
    (ns : ∀ m, s.heap.Ns X.env.locals m → h'.Ns X.env.locals m) (hok : HOk X.prog X.w H' h') (hg : AllBare g') :
    Inv X pins σ H' { s with heap := h', gens := g', drawn := d', toks := t' } := by
  have neL : ∀ b o, X.s_0.heap.get? b = some o → b ≠ X.env.locals := fun b o e => Nat.ne_of_lt (Nat.lt_of_lt_of_le (Heap.lt_size e) I.ok.above)
  have neC : ∀ b o, X.s_0.heap.get? b = some o → b ∉ X.ex → b ∉ ch := fun b o e hx hb => by
    rcases (hch b hb).1 with z | z
    · exact hx z
    · exact absurd (Nat.lt_of_lt_of_le (Heap.lt_size e) z) (Nat.lt_irrefl _)
  have cellK : ∀ x c, X.env.cells.lookup x = some c → ∀ v, s.heap.IsCell c v → h'.IsCell c v := fun x c e v ⟨o, ho, hd⟩ => by
    have nch : c ∉ ch := fun z => (hch c z).2.2.1 x c e rfl
    by_cases hc : c ∈ X.fs
    · obtain ⟨sl, q⟩ := slot c o (I.cne x c e) hc nch ho (I.freeC x c e)
      exact ⟨_, q, hd⟩
    · exact ⟨o, keep c o (I.cne x c e) hc nch ho (I.freeC x c e), hd⟩
  refine ⟨I.ok, I.os, hg, ⟨fun b o e n hb hx => ?_, fun b o e n hb hx => ?_, fun b o e n hx => ?_, fun b o e hx => ?_, fun b xs e => tups b xs (I.base.tups b xs e), fun b o xs e => frzs b o xs (I.base.frzs b o xs e), fun b ps e => ?_⟩, ?_, fun x c e => ?_, ?_, fun x c e => ?_, fun p hp => ?_, hok, I.len⟩
  · exact keep b o (neL b o e) hb (neC b o e hx) (I.base.keep b o e n hb hx) (I.base.free b o e n hx)
  · obtain ⟨sl, e1⟩ := I.base.slot b o e n hb hx
    obtain ⟨sl', e2⟩ := slot b _ (neL b o e) hb (neC b o e hx) e1 (I.base.free b o e n hx)
    exact ⟨sl', e2⟩
  · obtain ⟨o', e1⟩ := I.base.there b o e hx
    exact free b o' (neC b o e hx) e1 (I.base.free b o e n hx)
  · obtain ⟨o', e1⟩ := I.base.there b o e hx
    exact there b o' (neC b o e hx) e1
  · obtain ⟨m1, e1⟩ := I.base.tbls b ps e
    obtain ⟨m2, e2⟩ := tbls b _ e1
    exact ⟨m1 ++ m2, by rw [e2, Array.append_assoc]⟩
  · obtain ⟨m, hn, hl⟩ := I.loc
    refine ⟨m, ns m hn, fun i x v e1 e2 e3 => ?_⟩
    obtain ⟨u, r, l⟩ := hl i x v e1 e2 e3
    refine ⟨u, r, ?_⟩
    rcases l with l | ⟨k, c, e, z⟩
    · exact .inl l
    · exact .inr ⟨k, c, e, cellK x c e _ z⟩
  · obtain ⟨v, z⟩ := I.cell x c e
    exact ⟨v, cellK x c e v z⟩
  · obtain ⟨m, ⟨o, _, _, ho, _⟩, _⟩ := I.loc
    exact free _ o (fun z => (hch _ z).2.1 rfl) ho I.free
  · obtain ⟨v, o, ho, hd⟩ := I.cell x c e
    exact free c o (fun z => (hch c z).2.2.1 x c e rfl) ho (I.freeC x c e)
  · obtain ⟨e, n, ne, nf, d⟩ := I.pin p hp
    have nch : p.1 ∉ ch := fun z => (hch p.1 z).2.2.2 p hp rfl
    exact ⟨keep p.1 p.2 ne nf nch e n, free p.1 p.2 nch e n, ne, nf, d⟩
/-- .. where the frame's own object is kept too -/
theorem Inv.un {t' : Nat} (I : Inv X pins σ H s) (u : Un X.fs [] H H' s.heap h') (hok : HOk X.prog X.w H' h') : Inv X pins σ H' { s with heap := h', toks := t' } := by
  obtain ⟨m, ⟨o, es, ep, ho, r⟩, _⟩ := id I.loc
  obtain ⟨sl, hL⟩ := u.any ho I.free (by simp)
  exact I.step (g' := s.gens) (d' := s.drawn) (ch := []) (fun _ z => nomatch z) (fun b o _ hb _ e n => u.keep b o e n hb (by simp)) (fun b o _ hb _ e n => u.slot b o e n hb (by simp)) (fun b o _ e n => u.free b o e n (by simp)) (fun b o _ e => u.there b o e (by simp)) u.tups u.frzs u.tbls (fun m' hm => by
    obtain ⟨o', es', ep', ho', r'⟩ := hm
    rw [ho] at ho'; cases ho'
    exact ⟨_, es', ep', hL, r'⟩) hok I.bare
/-- behind a call (or a comprehension's block): the slots of this frame may have changed too, the records at ch may have turned -/
theorem Inv.call {g' : Array GenState} {t' : Nat} {d' : Drawn} {ch : List Addr} (I : Inv X pins σ H s) (u : Un (frs X.stack) ch H H' s.heap h') (hok : HOk X.prog X.w H' h') (hg : AllBare g')
    (hch : ∀ b ∈ ch, (b ∈ X.ex ∨ X.s_0.heap.objs.size ≤ b) ∧ b ≠ X.env.locals ∧ (∀ x c, X.env.cells.lookup x = some c → c ≠ b) ∧ ∀ p ∈ X.pn ++ pins, p.1 ≠ b) :
    Inv X pins σ H' { s with heap := h', gens := g', drawn := d', toks := t' } := by
  obtain ⟨m, ⟨o, es, ep, ho, r⟩, _⟩ := id I.loc
  obtain ⟨sl, hL⟩ := u.any ho I.free fun z => (hch _ z).2.1 rfl
  exact I.step (ch := ch) hch (fun b o hL hb hc e n => u.keep b o e n (fun z => (List.mem_cons.mp (I.stkSub b z)).elim hL hb) hc) (fun b o _ _ hc e n => u.any e n hc) (fun b o hc e n => u.free b o e n hc) (fun b o hc e => u.there b o e hc) u.tups u.frzs u.tbls (fun m' hm => by
    obtain ⟨o', es', ep', ho', r'⟩ := hm
    rw [ho] at ho'; cases ho'
    exact ⟨_, es', ep', hL, r'⟩) hok hg
/-- an untracked record of ours (an iterator) has turned -/
theorem Inv.turned {t' : Nat} {it : Addr} (I : Inv X pins σ H s) (k : ∀ b o, b ≠ it → s.heap.get? b = some o → h'.get? b = some o) (hn : H it = none) (hL : it ≠ X.env.locals)
    (h1 : it ∈ X.ex ∨ X.s_0.heap.objs.size ≤ it) (h2 : ∀ x c, X.env.cells.lookup x = some c → c ≠ it) (h3 : ∀ p ∈ X.pn ++ pins, p.1 ≠ it) : Inv X pins σ H { s with heap := h', toks := t' } := by
  have nit : ∀ b u, H b = some u → b ≠ it := fun b u e z => by rw [z, hn] at e; cases e
  refine I.step (g' := s.gens) (d' := s.drawn) (ch := [it]) (fun b hb => ?_) (fun b o _ _ hc e _ => k b o (fun z => hc (by simp [z])) e) (fun b o _ _ hc e _ => ⟨o.slots, k b o (fun z => hc (by simp [z])) e⟩) (fun _ _ _ _ n => n)
    (fun b o hc e => ⟨o, k b o (fun z => hc (by simp [z])) e⟩) (fun _ _ e => e) (fun _ _ _ e => e) (fun b ps e => ⟨#[], by rw [e]; simp⟩) (fun m hm => ?_) (fun b u e => ?_) I.bare
  · have e : b = it := by simpa using hb
    subst e
    exact ⟨h1, hL, h2, h3⟩
  · obtain ⟨o, es, ep, ho, r⟩ := hm
    exact ⟨o, es, ep, k _ o (Ne.symm hL) ho, r⟩
  · refine (I.hok b u e).stay (fun c v hc q => k c v ?_ q) (fun _ q => q) fun _ _ q => q
    rcases hc with z | z
    · rw [z]; exact nit b u e
    · exact nit c _ z
theorem Inv.tok (I : Inv X pins σ H s) (t : Nat) : Inv X pins σ H { s with toks := t } := I.un (h' := s.heap) (t' := t) Un.refl I.hok
/-- all objects kept -/
theorem Inv.kept {t' : Nat} (I : Inv X pins σ H s) (k : ∀ b u, s.heap.get? b = some u → h'.get? b = some u) : Inv X pins σ H { s with heap := h', toks := t' } := I.un (Un.kept k) (I.hok.kept k)
/-- a new object laid and tracked -/
theorem Inv.laid {a : Addr} {o : HO} {t' : Nat} (I : Inv X pins σ H s) (k : ∀ b u, s.heap.get? b = some u → h'.get? b = some u) (hp : s.heap.objs.size ≤ a) (new : ObjOk X.prog X.w (upd H a o) h' a o) :
    Inv X pins σ (upd H a o) { s with heap := h', toks := t' } := I.un (Un.laid k hp (I.hok.fresh hp)) (I.hok.laid k hp new)
/-- an object written -/
theorem Inv.write {x e : Addr} {o : HO} {t' : Nat} (I : Inv X pins σ H s) (mu : Mut (H x)) (he : e = x ∨ H e = some (.own x)) (k : ∀ b u, b ≠ e → s.heap.get? b = some u → h'.get? b = some u) (heo : ∃ u, h'.get? e = some u)
    (new : ObjOk X.prog X.w (upd H x o) h' x o) : Inv X pins σ (upd H x o) { s with heap := h', toks := t' } := I.un (Un.write mu he k heo) (I.hok.write mu he k heo new)
/-- forgetting slots, pins -/
theorem Inv.weak {σ' : List (Option V)} (I : Inv X pins σ H s) (hl : σ'.length = σ.length) (w : ∀ (i : Nat) v, σ'[i]? = some (some v) → σ[i]? = some (some v)) : Inv X pins σ' H s :=
  ⟨I.ok, I.os, I.bare, I.base, let ⟨m, hn, hl'⟩ := I.loc; ⟨m, hn, fun i x v e1 e2 e3 => hl' i x v e1 (w i v e2) e3⟩, I.cell, I.free, I.freeC, I.pin, I.hok, hl.trans I.len⟩
theorem Inv.pins_of {pins' : List (Addr × Obj)} (I : Inv X pins σ H s) (h : ∀ p ∈ pins', s.heap.get? p.1 = some p.2 ∧ H p.1 = none ∧ p.1 ≠ X.env.locals ∧ p.1 ∉ X.fs ∧ ∀ v, p.2.data ≠ .cell v) : Inv X pins' σ H s :=
  ⟨I.ok, I.os, I.bare, I.base, I.loc, I.cell, I.free, I.freeC, fun p hp => (List.mem_append.mp hp).elim (fun z => I.pin p (List.mem_append_left _ z)) (h p), I.hok, I.len⟩

theorem nodup_ix {N : List Str} (hN : N.Nodup) {i j : Nat} {x : Str} (a : N[i]? = some x) (b : N[j]? = some x) : i = j := by
  obtain ⟨h1, e1⟩ := List.getElem?_eq_some_iff.mp a
  obtain ⟨h2, e2⟩ := List.getElem?_eq_some_iff.mp b
  exact (List.getElem_inj hN).mp (e1.trans e2.symm)

/-- a name is stored; what changed -/
theorem store_ok2 {M : Model} {A : Around} {E : Value → Shared → Prop} {i : Nat} {x : Str} {v : V} {u : Value} {Q : Unit → Shared → Prop} (I : Inv X pins σ H s) (hN : X.N.Nodup) (hi : X.N[i]? = some x) (hx : Loc X.env.scope x) (r : RelV v u)
    (h : ∀ s', Inv X pins (σ.set i (some v)) H s' → (∃ a, Heap.SameBut a s.heap s'.heap ∧ (a = X.env.locals ∨ X.env.cells.lookup x = some a)) → Q () s') (hf : X.fn x = true ∨ X.env.scope.names.lookup x = some .local := by first | exact .inl rfl | exact .inr rfl | assumption) : wpAny M A (storeName X.env x u) Q E s := by
  obtain ⟨m, hn, hl⟩ := id I.loc
  have hcls : (X.env.scope.kind == .class || (X.env.scope.kind == .module && X.env.locals != X.env.globals)) = false := by rw [I.ok.kind]; rfl
  have hiσ : i < σ.length := by rw [I.len]; exact (List.getElem?_eq_some_iff.mp hi).1
  have cne := I.cne
  have tracked : ∀ {a : Addr} {h' : Heap}, (∃ o, s.heap.get? a = some o ∧ H a = none) → Heap.SameBut a s.heap h' → HOk X.prog X.w H h' := fun {a h'} ha hs b ob e => by
    obtain ⟨_, _, hfree⟩ := ha
    refine (I.hok b ob e).stay (fun c w' hc q => (hs.2 c ?_).trans q) (fun _ q => q) fun _ _ q => q
    rintro rfl
    rcases hc with rfl | hc
    · rw [hfree] at e; cases e
    · rw [hfree] at hc; cases hc
  rcases hx with hk | hk
  · refine wpAny_storeName_local hk hn (fun h' hn' hs => ?_) hcls
    obtain ⟨oL, _, _, hoL, _⟩ := id hn
    refine h _ ⟨I.ok, I.os, I.bare, ⟨fun b o e n hb hx => ?_, fun b o e n hb hx => ?_, I.base.free, fun b o e hx => ?_, I.base.tups, I.base.frzs, I.base.tbls⟩, ⟨_, hn', fun j y v' e1 e2 e3 => ?_⟩, fun y c e => ?_, I.free, I.freeC, fun p hp => ?_, tracked ⟨oL, hoL, I.free⟩ hs, by simpa using I.len⟩ ⟨_, hs, .inl rfl⟩
    · exact (hs.2 b (Nat.ne_of_lt (Nat.lt_of_lt_of_le (Heap.lt_size e) I.ok.above))).trans (I.base.keep b o e n hb hx)
    · obtain ⟨sl, e1⟩ := I.base.slot b o e n hb hx
      exact ⟨sl, (hs.2 b (Nat.ne_of_lt (Nat.lt_of_lt_of_le (Heap.lt_size e) I.ok.above))).trans e1⟩
    · obtain ⟨o', e1⟩ := I.base.there b o e hx
      exact ⟨o', (hs.2 b (Nat.ne_of_lt (Nat.lt_of_lt_of_le (Heap.lt_size e) I.ok.above))).trans e1⟩
    · by_cases hj : j = i
      · subst hj
        rw [hi] at e1; cases e1
        rw [List.getElem?_set_self hiσ] at e2
        cases e2
        exact ⟨u, r, .inl ⟨hk, by simp⟩⟩
      · rw [List.getElem?_set_ne (Ne.symm hj)] at e2
        obtain ⟨u', r', q⟩ := hl j y v' e1 e2 e3
        refine ⟨u', r', ?_⟩
        rcases q with ⟨k, e⟩ | ⟨k, c, e, z⟩
        · refine .inl ⟨k, ?_⟩
          have : y ≠ x := fun e => hj (nodup_ix hN e1 (e ▸ hi))
          simp [this, e]
        · exact .inr ⟨k, c, e, z.sameBut hs (cne y c e)⟩
    · obtain ⟨w', z⟩ := I.cell y c e
      exact ⟨w', z.sameBut hs (cne y c e)⟩
    · obtain ⟨e, n, ne, nf, d⟩ := I.pin p hp
      exact ⟨(hs.2 p.1 ne).trans e, n, ne, nf, d⟩
  · have hfn : X.fn x = true := by
      rcases hf with z | z
      · exact z
      · rw [z] at hk; cases hk
    obtain ⟨c, hc⟩ := I.ok.has x (.inl hk)
    obtain ⟨w', z⟩ := I.cell x c hc
    refine wpAny_storeName_cell I.ok.kind hk hc z (fun h' hc' hs => ?_)
    obtain ⟨oc, hoc, hocd⟩ := id z
    refine h { s with heap := h' } ⟨I.ok, I.os, I.bare, ⟨fun b o e n hb hx => ?_, fun b o e n hb hx => ?_, I.base.free, fun b o e hx => ?_, I.base.tups, I.base.frzs, I.base.tbls⟩, ⟨m, hn.sameBut hs (Ne.symm (cne x c hc)), fun j y v' e1 e2 e3 => ?_⟩, fun y c' e => ?_, I.free, I.freeC, fun p hp => ?_, tracked ⟨oc, hoc, I.freeC x c hc⟩ hs, by simpa using I.len⟩ ⟨c, hs, .inr hc⟩
    · exact (hs.2 b (Nat.ne_of_lt (Nat.lt_of_lt_of_le (Heap.lt_size e) (I.ok.cab x c hfn hc)))).trans (I.base.keep b o e n hb hx)
    · obtain ⟨sl, e1⟩ := I.base.slot b o e n hb hx
      exact ⟨sl, (hs.2 b (Nat.ne_of_lt (Nat.lt_of_lt_of_le (Heap.lt_size e) (I.ok.cab x c hfn hc)))).trans e1⟩
    · obtain ⟨o', e1⟩ := I.base.there b o e hx
      exact ⟨o', (hs.2 b (Nat.ne_of_lt (Nat.lt_of_lt_of_le (Heap.lt_size e) (I.ok.cab x c hfn hc)))).trans e1⟩
    · by_cases hj : j = i
      · subst hj
        rw [hi] at e1; cases e1
        rw [List.getElem?_set_self hiσ] at e2
        cases e2
        exact ⟨u, r, .inr ⟨.inl hk, c, hc, hc'⟩⟩
      · rw [List.getElem?_set_ne (Ne.symm hj)] at e2
        obtain ⟨u', r', q⟩ := hl j y v' e1 e2 e3
        refine ⟨u', r', ?_⟩
        rcases q with q | ⟨k, c', e, z'⟩
        · exact .inl q
        · refine .inr ⟨k, c', e, z'.sameBut hs ?_⟩
          rintro rfl
          exact hj (nodup_ix hN e1 (I.ok.inj _ _ _ e hc ▸ hi))
    · by_cases hcc : c' = c
      · subst hcc; exact ⟨_, hc'⟩
      · obtain ⟨w2, z2⟩ := I.cell y c' e
        exact ⟨w2, z2.sameBut hs hcc⟩
    · obtain ⟨e, n, ne, nf, d⟩ := I.pin p hp
      refine ⟨(hs.2 p.1 ?_).trans e, n, ne, nf, d⟩
      intro q
      rw [q, hoc] at e
      have q' : oc = p.2 := Option.some.inj e
      exact d w' (by rw [← q']; exact hocd)
theorem store_ok {M : Model} {A : Around} {E : Value → Shared → Prop} {i : Nat} {x : Str} {v : V} {u : Value} {Q : Unit → Shared → Prop} (I : Inv X pins σ H s) (hN : X.N.Nodup) (hi : X.N[i]? = some x) (hx : Loc X.env.scope x) (r : RelV v u)
    (h : ∀ s', Inv X pins (σ.set i (some v)) H s' → Q () s') (hf : X.fn x = true ∨ X.env.scope.names.lookup x = some .local := by first | exact .inl rfl | exact .inr rfl | assumption) : wpAny M A (storeName X.env x u) Q E s :=
  store_ok2 I hN hi hx r (fun s' I' _ => h s' I') hf
/-- behind a call or a block, the state as it is -/
theorem Inv.call' {s' : Shared} {ch : List Addr} (I : Inv X pins σ H s) (ho : s'.os = s.os) (u : Un (frs X.stack) ch H H' s.heap s'.heap) (hok : HOk X.prog X.w H' s'.heap) (hg : AllBare s'.gens)
    (hch : ∀ b ∈ ch, (b ∈ X.ex ∨ X.s_0.heap.objs.size ≤ b) ∧ b ≠ X.env.locals ∧ (∀ x c, X.env.cells.lookup x = some c → c ≠ b) ∧ ∀ p ∈ X.pn ++ pins, p.1 ≠ b) : Inv X pins σ H' s' := by
  obtain ⟨h', g', d', t', o'⟩ := s'
  have e : o' = s.os := ho
  subst e
  exact I.call (g' := g') (t' := t') (d' := d') u hok hg hch
end

/-- an exception: its class, its own dict's address (where it has one), the abstract heap behind it -/
abbrev XK := Value → Option Addr → Hp → Prop
abbrev St := List (Option V)
abbrev VK := V → Hp → Prop
/-- an expression's reading; a test's; an argument list's -/
abbrev TE := St → Hp → VK → Prop
abbrev TT := St → Hp → (Bool → Hp → Prop) → Prop
abbrev TA := St → Hp → (List V → Hp → Prop) → Prop
/-- what is wanted behind a statement -/
structure Ends where
  nx : St → Hp → Prop
  rt : VK
  bk : St → Hp → Prop := fun _ _ => False
  ct : St → Hp → Prop := fun _ _ => False
abbrev TS := Ends → St → Hp → Prop

def EP (X : Cx) (pins : List (Addr × Obj)) (σ : St) (Q : VK) (u : Value) (s' : Shared) : Prop := ∃ v H', Inv X pins σ H' s' ∧ RelV v u ∧ Q v H'
def TP (X : Cx) (pins : List (Addr × Obj)) (σ : St) (Q : Bool → Hp → Prop) (b : Bool) (s' : Shared) : Prop := ∃ H', Inv X pins σ H' s' ∧ Q b H'
def AP (X : Cx) (pins : List (Addr × Obj)) (σ : St) (Q : List V → Hp → Prop) (us : List Value) (s' : Shared) : Prop := ∃ vs H', Inv X pins σ H' s' ∧ Vals vs us ∧ Q vs H'
def SP (X : Cx) (pins : List (Addr × Obj)) (D : Ends) (f : Flow) (s' : Shared) : Prop :=
  match f with
  | .next => ∃ σ' H', Inv X pins σ' H' s' ∧ D.nx σ' H'
  | .brk => ∃ σ' H', Inv X pins σ' H' s' ∧ D.bk σ' H'
  | .cont => ∃ σ' H', Inv X pins σ' H' s' ∧ D.ct σ' H'
  | .ret u => ∃ v σ' H', Inv X pins σ' H' s' ∧ RelV v u ∧ D.rt v H'

def PE (X : Cx) (e : Expr) (t : TE) : Prop :=
  ∀ (pins : List (Addr × Obj)) (s : Shared) (σ : St) (H : Hp) (Q : VK), Inv X pins σ H s → t σ H Q → wpAny (model X.prog X.w) X.A (eval e X.env) (EP X pins σ Q) X.xe s
def PT (X : Cx) (e : Expr) (t : TT) : Prop :=
  ∀ (pins : List (Addr × Obj)) (s : Shared) (σ : St) (H : Hp) (Q : Bool → Hp → Prop), Inv X pins σ H s → t σ H Q → wpAny (model X.prog X.w) X.A (isTrue e X.env (eval e X.env)) (TP X pins σ Q) X.xe s
/-- a test whatever its 'whole' is (and, or) -/
def PW (X : Cx) (e : Expr) (t : TT) : Prop :=
  ∀ (whole : Sem Value) (pins : List (Addr × Obj)) (s : Shared) (σ : St) (H : Hp) (Q : Bool → Hp → Prop), Inv X pins σ H s → t σ H Q → wpAny (model X.prog X.w) X.A (isTrue e X.env whole) (TP X pins σ Q) X.xe s
theorem PW.pt {X : Cx} {e : Expr} {t : TT} (h : PW X e t) : PT X e t := h _
/-- an argument list (no star), from the left -/
def PA (X : Cx) (es : List Expr) (t : TA) : Prop :=
  ∀ (pos : Pos) (pins : List (Addr × Obj)) (s : Shared) (σ : St) (H : Hp) (Q : List V → Hp → Prop), Inv X pins σ H s → t σ H Q → wpAny (model X.prog X.w) X.A (spliced (backTo pos (starEach es X.env))) (AP X pins σ Q) X.xe s
def PS (X : Cx) (st : Stmt) (t : TS) : Prop :=
  ∀ (pins : List (Addr × Obj)) (s : Shared) (σ : St) (H : Hp) (D : Ends), Inv X pins σ H s → t D σ H → wpAny (model X.prog X.w) X.A (exec st X.env) (SP X pins D) X.xe s
def PSs (X : Cx) (st : List Stmt) (t : TS) : Prop :=
  ∀ (pins : List (Addr × Obj)) (s : Shared) (σ : St) (H : Hp) (D : Ends), Inv X pins σ H s → t D σ H → wpAny (model X.prog X.w) X.A (execs st X.env) (SP X pins D) X.xe s
/-- weaken the end -/
theorem thn {α : Type} {t : Sem α} {Q Q' : α → Shared → Prop} {M : Model} {A : Around} {E : Value → Shared → Prop} {s : Shared} (h : wpAny M A t Q E s) (hQ : ∀ a s, Q a s → Q' a s) : wpAny M A t Q' E s := wpAny_mono h hQ fun _ _ x => x
end L2

namespace L2
open PySem PySem.Spec PyProof.Rows
section
variable {X : Cx}

def tVar (i : Nat) : TE := fun σ H Q => ∃ v, σ[i]? = some (some v) ∧ Q v H
def tC (v : V) : TE := fun _ H Q => Q v H
theorem pe_var {i : Nat} {x : Str} {pos : Pos} (hN : X.N[i]? = some x) (hv : Vis X.env.scope x) (hd : (x == ("__debug__" : Str)) = false := by decide) (hcd : (x == ("__classdict__" : Str)) = false := by decide) : PE X (.Name x pos) (tVar i) := by
  intro pins s σ H Q I h
  obtain ⟨v, e, h⟩ := h
  obtain ⟨m, hn, hl⟩ := I.loc
  obtain ⟨u, r, l⟩ := hl i x v hN e hv
  have fin : EP X pins σ Q u s := ⟨v, H, I, r, h⟩
  rcases l with ⟨hk, hm⟩ | ⟨hk, c, hc, hcell⟩
  · exact wpAny_Name (wpAny_loadName_local I.ok.kind hk hn hm fin) hd
  · rcases hk with hk | hk
    · exact wpAny_Name (wpAny_loadName_cell I.ok.kind hk hc hcell fin) hd
    · exact wpAny_Name (wpAny_loadName_free I.ok.kind hk hc hcell fin hcd) hd
theorem pe_int {i j pos} : PE X (.Constant (.int i) j pos) (tC (.int i)) := fun _ _ _ H _ I h => wpAny_Constant_int ⟨.int i, H, I.tok _, ⟨_, rfl⟩, h⟩
theorem pe_non {j pos} : PE X (.Constant .none j pos) (tC .non) := fun _ _ _ H _ I h => Constant_none ⟨.non, H, I, rfl, h⟩

/-- a global name of the def -/
def Gl (X : Cx) (x : Str) : Prop := X.env.kindOf x = some .globalImplicit
theorem ld_glob {E : Value → Shared → Prop} {pins : List (Addr × Obj)} {s : Shared} {σ : St} {H : Hp} {x : Str} {u : Value} {pos : Pos} {Q : Value → Shared → Prop} (I : Inv X pins σ H s) (hg : Gl X x) (hm : X.mg x = some u) (h : Q u s)
    (hd : (x == ("__debug__" : Str)) = false := by decide) : wpAny (model X.prog X.w) X.A (eval (.Name x pos) X.env) Q E s :=
  Calls.Name_function_global I.ok.kind hg (Calls.loadGlobal_global (by rw [I.ok.glob]; exact I.mod.glob.keeps I.bk) hm h) hd
theorem ld_blt {E : Value → Shared → Prop} {pins : List (Addr × Obj)} {s : Shared} {σ : St} {H : Hp} {x : Str} {u : Value} {pos : Pos} {Q : Value → Shared → Prop} (I : Inv X pins σ H s) (hg : Gl X x) (hm : X.mg x = none) (hv : bootBuiltins x = some u) (h : Q u s)
    (hn : x ≠ "__name__" := by decide) (hd : (x == ("__debug__" : Str)) = false := by decide) : wpAny (model X.prog X.w) X.A (eval (.Name x pos) X.env) Q E s := by
  obtain ⟨mb, h1, h2⟩ := I.mod.blt
  exact Calls.Name_function_global I.ok.kind hg (Calls.loadGlobal_builtin (by rw [I.ok.glob]; exact I.mod.glob.keeps I.bk) hm (by rw [I.ok.blt]; exact h1.keeps I.bk) ((h2 x hn).trans hv) h) hd
/-- a module's constant, a class, a function, as a value -/
theorem pe_glob {x : Str} {v : V} {u : Value} {pos : Pos} (hg : Gl X x) (hm : X.mg x = some u) (r : RelV v u) (hd : (x == ("__debug__" : Str)) = false := by decide) : PE X (.Name x pos) (tC v) :=
  fun _ _ _ H _ I h => ld_glob I hg hm ⟨v, H, I, r, h⟩ hd

variable {a b : Expr} {ta tb : TE} {pos : Pos}

/-- a comparison as a value, as a test -/
def tB (t : TE) : TT := fun σ H Q => t σ H fun x H1 => ∃ c, x = .bl c ∧ Q c H1
/-- an expression whose value is a bool, as a test -/
theorem pt_val {e : Expr} {t : TE} (h : PE X e t) (he : ∀ whole, isTrue e X.env whole = (do let v ← whole; standAt e.pos; holding [v] (truthy v)) := by intro _; rfl) : PT X e (tB t) := by
  intro pins s σ H Q I hw
  refine isTrue_plain (thn (h pins s σ H _ I hw) fun v s1 ⟨x, H1, I1, r1, q1⟩ => ?_) (he _)
  obtain ⟨d, rfl, q⟩ := q1
  cases r1
  exact wpAny_truthy_bool ⟨H1, I1, q⟩

variable {tA tB' : TT} {rest : List Expr}
def tAnd (t u : TT) : TT := fun σ H Q => t σ H fun c H1 => if c = true then u σ H1 Q else Q false H1
def tOr (t u : TT) : TT := fun σ H Q => t σ H fun c H1 => if c = true then Q true H1 else u σ H1 Q
def tNot (t : TT) : TT := fun σ H Q => t σ H fun c H1 => Q (!c) H1
theorem pw_and1 (ha : PT X a tA) : PW X (.BoolOp .And [a] pos) tA := by
  intro wh pins s σ H Q I h
  refine isTrue_and (thn (ha pins s σ H Q I h) fun c s1 e => ?_)
  cases c with
  | true => exact isTrue_and_nil e
  | false => exact e
theorem pw_or1 (ha : PT X a tA) : PW X (.BoolOp .Or [a] pos) tA := by
  intro wh pins s σ H Q I h
  refine isTrue_or (thn (ha pins s σ H Q I h) fun c s1 e => ?_)
  cases c with
  | false => exact isTrue_or_nil e
  | true => exact e
theorem pw_and (ha : PT X a tA) (hb : PW X (.BoolOp .And (b :: rest) pos) tB') : PW X (.BoolOp .And (a :: b :: rest) pos) (tAnd tA tB') := by
  intro wh pins s σ H Q I h
  refine isTrue_and (thn (ha pins s σ H _ I h) fun c s1 ⟨H1, I1, q1⟩ => ?_)
  cases c with
  | true => exact hb wh pins s1 σ H1 Q I1 q1
  | false => exact ⟨H1, I1, q1⟩
theorem pw_or (ha : PT X a tA) (hb : PW X (.BoolOp .Or (b :: rest) pos) tB') : PW X (.BoolOp .Or (a :: b :: rest) pos) (tOr tA tB') := by
  intro wh pins s σ H Q I h
  refine isTrue_or (thn (ha pins s σ H _ I h) fun c s1 ⟨H1, I1, q1⟩ => ?_)
  cases c with
  | true => exact ⟨H1, I1, q1⟩
  | false => exact hb wh pins s1 σ H1 Q I1 q1
theorem pt_not (ha : PT X a tA) : PT X (.UnaryOp .Not a pos) (tNot tA) := by
  intro pins s σ H Q I h
  exact isTrue_not (ha pins s σ H (fun c H1 => Q (!c) H1) I h)
def tOrV (ta tb : TE) : TE := fun σ H Q => ta σ H fun x H1 => ∃ c, x = .bl c ∧ if c = true then Q (.bl true) H1 else tb σ H1 Q
theorem pe_one {op} {t : TE} (h : PE X a t) : PE X (.BoolOp op [a] pos) t := fun pins s σ H Q I hw => BoolOp_one (h pins s σ H Q I hw)
theorem pe_or (ha : PE X a ta) (hb : PE X (.BoolOp .Or (b :: rest) pos) tb) : PE X (.BoolOp .Or (a :: b :: rest) pos) (tOrV ta tb) := by
  intro pins s σ H Q I h
  refine BoolOp_or (thn (ha pins s σ H _ I h) fun v s1 ⟨x, H1, I1, r1, q1⟩ => ?_)
  obtain ⟨c, rfl, q1⟩ := q1
  cases r1
  refine wpAny_truthy_bool ?_
  cases c with
  | false => exact hb pins s1 σ H1 Q I1 q1
  | true => exact ⟨.bl true, H1, I1, rfl, q1⟩
/-- a if t else b -/
def tIf (t : TT) (ta tb : TE) : TE := fun σ H Q => t σ H fun c H1 => if c = true then ta σ H1 Q else tb σ H1 Q
theorem pe_ifExp {c : Expr} (hc : PT X c tA) (ha : PE X a ta) (hb : PE X b tb) : PE X (.IfExp c a b pos) (tIf tA ta tb) := by
  intro pins s σ H Q I h
  refine wpAny_IfExp (thn (hc pins s σ H _ I h) fun d s1 ⟨H1, I1, q1⟩ => ?_)
  cases d with
  | true => exact ha pins s1 σ H1 Q I1 q1
  | false => exact hb pins s1 σ H1 Q I1 q1
end
end L2

namespace L2
open PySem PySem.Spec PyProof.Rows

def SqL (K : PySem.W.Frag) (H : Hp) (a : Addr) (xs : List V) : Prop :=
  Rd H a (.lst xs) ∨
    ∃ (o : Obj) (its : Array Value) (n : Nat), K.lookup a = some o ∧ o.cls = .type "list" ∧ o.dict = none ∧ o.data = .seq its n ∧ its.size ≤ sizeLine ∧ Vals xs its.toList
def SqT (K : PySem.W.Frag) (H : Hp) (a : Addr) (xs : List V) : Prop :=
  Rd H a (.tup xs) ∨
    ∃ (o : Obj) (its : Array Value) (n : Nat), K.lookup a = some o ∧ o.cls = .type "tuple" ∧ o.data = .seq its n ∧ its.size ≤ sizeLine ∧ Vals xs its.toList
def absV : Value → Option V
  | .none => some .non
  | .bool b => some (.bl b)
  | .int i _ => some (.int i)
  | .str x _ => some (.str x)
  | .bytes b _ => some (.byt b)
  | .float b _ => some (.flt b)
  | .ref a => some (.ref a)
  | .type n => some (.ty n)
  | _ => none
theorem RelV.abs {x : V} {u : Value} (r : RelV x u) : absV u = some x := by
  cases x with
  | non => cases r; rfl
  | bl _ => cases r; rfl
  | int _ => obtain ⟨t, rfl⟩ := r; rfl
  | str _ => obtain ⟨t, rfl⟩ := r; rfl
  | byt _ => obtain ⟨t, rfl⟩ := r; rfl
  | flt _ => obtain ⟨t, rfl⟩ := r; rfl
  | ref _ => cases r; rfl
  | ty _ => cases r; rfl
theorem RelV.inj {x y : V} {u : Value} (r : RelV x u) (q : RelV y u) : x = y := Option.some.inj (r.abs.symm.trans q.abs)
theorem Vals.inj : ∀ {xs ys : List V} {us : List Value}, Vals xs us → Vals ys us → xs = ys
  | _, _, _, .nil, .nil => rfl
  | _, _, _, .cons r t, .cons r' t' => by rw [r.inj r', Vals.inj t t']
section
variable {X : Cx} {pins : List (Addr × Obj)} {σ : St} {H : Hp} {s : Shared} {a : Addr} {xs ys : List V}
theorem SqL.of {K : PySem.W.Frag} (h : H a = some (.lst xs)) : SqL K H a xs := .inl (.inl h)
theorem SqT.of {K : PySem.W.Frag} (h : H a = some (.tup xs)) : SqT K H a xs := .inl (.inl h)
theorem Inv.list (I : Inv X pins σ H s) (h : SqL X.K H a xs) : ∃ its : List Value, Vals xs its ∧ PlainL s.heap a its.toArray ∧ xs.length ≤ sizeLine := by
  rcases h with h | ⟨o, its, n, hk, hc, hd, hs, hz, r⟩
  · obtain ⟨z, its, n, r, e⟩ := h.ok I.hok
    exact ⟨its, r, ⟨_, n, e, rfl, rfl, rfl⟩, z⟩
  · refine ⟨its.toList, r, ⟨o, n, I.kIn a o hk, hc, hd, by simpa using hs⟩, ?_⟩
    have e := r.length
    simp only [Array.length_toList] at e
    omega
theorem Inv.tuple (I : Inv X pins σ H s) (h : SqT X.K H a xs) : ∃ its : List Value, Vals xs its ∧ IsTup s.heap a its.toArray ∧ xs.length ≤ sizeLine := by
  rcases h with h | ⟨o, its, n, hk, hc, hs, hz, r⟩
  · obtain ⟨z, its, r, p⟩ := h.ok I.hok
    exact ⟨its, r, p, z⟩
  · refine ⟨its.toList, r, ⟨o, I.kIn a o hk, hc, n, by simpa using hs⟩, ?_⟩
    have e := r.length
    simp only [Array.length_toList] at e
    omega
theorem Inv.list_inj (I : Inv X pins σ H s) (h : SqL X.K H a xs) (h' : SqL X.K H a ys) : xs = ys := by
  obtain ⟨its, r, ⟨o, n, e, _, _, d⟩, _⟩ := I.list h
  obtain ⟨its', r', ⟨o', n', e', _, _, d'⟩, _⟩ := I.list h'
  rw [e] at e'; cases e'
  rw [d] at d'
  injection d' with d1 _
  have : its = its' := by simpa using congrArg Array.toList d1
  subst this
  exact r.inj r'
theorem Inv.tuple_inj (I : Inv X pins σ H s) (h : SqT X.K H a xs) (h' : SqT X.K H a ys) : xs = ys := by
  obtain ⟨its, r, ⟨o, e, _, n, d⟩, _⟩ := I.tuple h
  obtain ⟨its', r', ⟨o', e', _, n', d'⟩, _⟩ := I.tuple h'
  rw [e] at e'; cases e'
  rw [d] at d'
  injection d' with d1 _
  have : its = its' := by simpa using congrArg Array.toList d1
  subst this
  exact r.inj r'
end

abbrev Cx.wish (X : Cx) (E : Value → Shared → Prop) : Cx := { X with xe := E }
/-- no exception leaves -/
abbrev Cx.nox (X : Cx) : Cx := X.wish fun _ _ => False
theorem Cx.Ok.wish {X : Cx} (ok : X.Ok) (E : Value → Shared → Prop) : (X.wish E).Ok :=
  ⟨ok.mod, ok.kind, ok.glob, ok.blt, ok.above, ok.inj, ok.has, ok.cab, ok.hd, ok.frames, ok.stk, ok.exf, ok.bs, ok.bsz, ok.noex, ok.exfs, ok.funs, ok.frf⟩
theorem Cx.Ok.unwish {X : Cx} {E : Value → Shared → Prop} (ok : (X.wish E).Ok) : X.Ok :=
  ⟨ok.mod, ok.kind, ok.glob, ok.blt, ok.above, ok.inj, ok.has, ok.cab, ok.hd, ok.frames, ok.stk, ok.exf, ok.bs, ok.bsz, ok.noex, ok.exfs, ok.funs, ok.frf⟩
section
variable {X : Cx} {pins : List (Addr × Obj)} {σ : St} {H : Hp} {s : Shared} {E : Value → Shared → Prop}
theorem Inv.wish (I : Inv X pins σ H s) (E : Value → Shared → Prop) : Inv (X.wish E) pins σ H s := ⟨I.ok.wish E, I.os, I.bare, I.base, I.loc, I.cell, I.free, I.freeC, I.pin, I.hok, I.len⟩
theorem Inv.unwish (I : Inv (X.wish E) pins σ H s) : Inv X pins σ H s := ⟨I.ok.unwish, I.os, I.bare, I.base, I.loc, I.cell, I.free, I.freeC, I.pin, I.hok, I.len⟩
theorem SP.unwish {D : Ends} {f : Flow} {s' : Shared} (h : SP (X.wish E) pins D f s') : SP X pins D f s' := by
  cases f with
  | next => obtain ⟨σ', H', I, q⟩ := h; exact ⟨σ', H', I.unwish, q⟩
  | brk => obtain ⟨σ', H', I, q⟩ := h; exact ⟨σ', H', I.unwish, q⟩
  | cont => obtain ⟨σ', H', I, q⟩ := h; exact ⟨σ', H', I.unwish, q⟩
  | ret u => obtain ⟨v, σ', H', I, r, q⟩ := h; exact ⟨v, σ', H', I.unwish, r, q⟩
theorem PSs.nox {st : List Stmt} {t : TS} (h : PSs X.nox st t) : PSs X st t := fun pins s σ H D I hw =>
  wpAny_mono (h pins s σ H D (I.wish _) hw) (fun _ _ q => q.unwish) fun _ _ z => False.elim z
end

section
variable {X : Cx} {st : Stmt} {rest : List Stmt} {t u : TS} {e : Expr} {te : TE} {pos : Pos}
def tNext : TS := fun D σ H => D.nx σ H
def tSeq (t u : TS) : TS := fun D σ H => t { D with nx := u D } σ H
theorem pss_nil : PSs X [] tNext := fun _ _ σ H _ I h => wpAny_execs_nil ⟨σ, H, I, h⟩
theorem pss_cons (h1 : PS X st t) (h2 : PSs X rest u) : PSs X (st :: rest) (tSeq t u) := by
  intro pins s σ H D I h
  refine wpAny_execs_cons (thn (h1 pins s σ H { D with nx := u D } I h) fun f s1 q => ?_)
  cases f with
  | next =>
    obtain ⟨σ', H', I', q⟩ := q
    exact h2 pins s1 σ' H' D I' q
  | ret v => exact q
  | brk => exact q
  | cont => exact q
theorem pss_one (h1 : PS X st t) : PSs X [st] t := by
  intro pins s σ H D I h
  refine wpAny_execs_cons (thn (h1 pins s σ H D I h) fun f s1 q => ?_)
  cases f with
  | next => exact wpAny_execs_nil q
  | ret v => exact q
  | brk => exact q
  | cont => exact q
/-- in a def's body nothing is shown -/
theorem Inv.quiet {pins : List (Addr × Obj)} {σ : St} {H : Hp} {s : Shared} (I : Inv X pins σ H s) : interactive X.env = false := by simp [interactive, I.ok.kind]
/-- an expression whose value is dropped -/
def tDrop (te : TE) : TS := fun D σ H => te σ H fun _ H1 => D.nx σ H1
theorem ps_expr (he : PE X e te) (hs : swapsWith e none pos.line X.env = pure false := by rfl) : PS X (.Expr e pos) (tDrop te) := by
  intro pins s σ H D I h
  exact wpAny_Expr_any (thn (he pins s σ H _ I h) fun v s1 ⟨x, H1, I1, r1, q1⟩ => ⟨σ, H1, I1, q1⟩) I.quiet hs
def tRet (te : TE) : TS := fun D σ H => te σ H D.rt
theorem ps_ret (he : PE X e te) : PS X (.Return (some e) pos) (tRet te) := by
  intro pins s σ H D I h
  exact wpAny_Return_some (thn (he pins s σ H _ I h) fun v s1 ⟨x, H1, I1, r1, q1⟩ => ⟨x, σ, H1, I1, r1, q1⟩)
def tIfS (c : TT) (t u : TS) : TS := fun D σ H => c σ H fun b H1 => if b = true then t D σ H1 else u D σ H1
theorem ps_if {c : Expr} {a b : List Stmt} {tc : TT} (hc : PT X c tc) (ha : PSs X a t) (hb : PSs X b u) : PS X (.If c a b pos) (tIfS tc t u) := by
  intro pins s σ H D I h
  refine wpAny_If (thn (hc pins s σ H _ I h) fun d s1 ⟨H1, I1, q1⟩ => ?_)
  cases d with
  | true => exact ha pins s1 σ H1 D I1 q1
  | false => exact hb pins s1 σ H1 D I1 q1
end

abbrev TG := V → St → Hp → (St → Hp → Prop) → Prop
abbrev TGs := List V → St → Hp → (St → Hp → Prop) → Prop
def PG (X : Cx) (target : Expr) (t : TG) : Prop :=
  ∀ (pins : List (Addr × Obj)) (s : Shared) (σ : St) (H : Hp) (v : V) (u : Value) (Q : St → Hp → Prop), Inv X pins σ H s → RelV v u → t v σ H Q →
    wpAny (model X.prog X.w) X.A (assign target X.env u) (fun _ s' => ∃ σ' H', Inv X pins σ' H' s' ∧ Q σ' H') X.xe s
/-- several targets, one after another -/
def PGs (X : Cx) (ts : List Expr) (t : TGs) : Prop :=
  ∀ (pins : List (Addr × Obj)) (s : Shared) (σ : St) (H : Hp) (vs : List V) (us : List Value) (Q : St → Hp → Prop), Inv X pins σ H s → Vals vs us → t vs σ H Q →
    wpAny (model X.prog X.w) X.A (assignInOrder ((assignEach ts X.env).map (·.2)) us) (fun _ s' => ∃ σ' H', Inv X pins σ' H' s' ∧ Q σ' H') X.xe s
/-- a op= b, by values -/
abbrev TIp := V → V → Hp → VK → Prop
def PIp (X : Cx) (op : Operator) (t : TIp) : Prop :=
  ∀ (pins : List (Addr × Obj)) (s : Shared) (σ : St) (H : Hp) (x y : V) (v u : Value) (Q : VK), Inv X pins σ H s → RelV x v → RelV y u → t x y H Q →
    wpAny (model X.prog X.w) X.A (inplaceOp op v u) (EP X pins σ Q) X.xe s
section
variable {X : Cx} {pos : Pos}
def gName (i : Nat) : TG := fun v σ H Q => Q (σ.set i (some v)) H
theorem pg_name {i : Nat} {x : Str} (hN : X.N.Nodup) (hi : X.N[i]? = some x) (hx : Loc X.env.scope x) (hf : X.fn x = true ∨ X.env.scope.names.lookup x = some .local := by first | exact .inl rfl | exact .inr rfl | assumption) : PG X (.Name x pos) (gName i) := by
  intro pins s σ H v u Q I r h
  exact wpAny_assign_Name (store_ok I hN hi hx r (fun s' I' => ⟨_, H, I', h⟩) hf)
def gNil : TGs := fun vs σ H Q => vs = [] ∧ Q σ H
def gCons (t : TG) (u : TGs) : TGs := fun vs σ H Q => ∃ v r, vs = v :: r ∧ t v σ H fun σ' H' => u r σ' H' Q
theorem pgs_nil : PGs X [] gNil := by
  intro pins s σ H vs us Q I r h
  obtain ⟨e, h⟩ := h
  subst e
  cases r
  exact assignInOrder_nil ⟨σ, H, I, h⟩
theorem pgs_cons {e : Expr} {es : List Expr} {t : TG} {u : TGs} (h1 : PG X e t) (h2 : PGs X es u)
    (hs : (assignEach (e :: es) X.env).map (·.2) = assign e X.env :: (assignEach es X.env).map (·.2) := by rfl) : PGs X (e :: es) (gCons t u) := by
  intro pins s σ H vs us Q I r h
  obtain ⟨v, vr, e1, h⟩ := h
  subst e1
  cases r with
  | cons r rr =>
    rw [hs]
    refine assignInOrder_cons (thn (h1 pins s σ H _ _ _ I r h) fun _ s1 ⟨σ1, H1, I1, q1⟩ => ?_)
    exact h2 pins s1 σ1 H1 _ _ Q I1 rr q1
/-- (a, b, ..) = a tuple of that length -/
def gTup (K : PySem.W.Frag) (n : Nat) (t : TGs) : TG := fun v σ H Q => ∃ a xs, v = .ref a ∧ SqT K H a xs ∧ xs.length = n ∧ t xs σ H Q
theorem pg_tup {es : List Expr} {k : Nat} {t : TGs} {n : Nat} (hc : X.calm = true) (h : PGs X es t)
    (hn : (assignEach es X.env).length = n := by rfl) (hst : (assignEach es X.env).findIdx? (·.1) = none := by rfl) : PG X (.Tuple es k pos) (gTup X.K n t) := by
  intro pins s σ H v u Q I r hw
  obtain ⟨a, xs, e1, hq, hl, hw⟩ := hw
  subst e1
  cases r
  obtain ⟨its, rv, ht, hz⟩ := I.tuple hq
  refine assign_Tuple_tuple (I.ok.hd hc) ht (by simp [hn, ← hl, rv.length]) hst fun h' hx => ?_
  have I1 : Inv X pins σ H { s with heap := h' } := I.kept (t' := s.toks) fun b o e => hx b o (Nat.ne_of_lt (Heap.lt_size e)) e
  exact h pins _ σ H xs _ Q I1 (by simpa using rv) hw
/-- target = value -/
def tAsg (te : TE) (g : TG) : TS := fun D σ H => te σ H fun x H1 => g x σ H1 D.nx
/-- name = value -/
theorem ps_set {i : Nat} {x : Str} {e : Expr} {te : TE} {pos' : Pos} (hN : X.N.Nodup) (hi : X.N[i]? = some x) (hx : Loc X.env.scope x) (he : PE X e te) (hs : swapsWith e (some (.Name x pos')) pos.line X.env = pure false := by rfl) (hf : X.fn x = true ∨ X.env.scope.names.lookup x = some .local := by first | exact .inl rfl | exact .inr rfl | assumption) :
    PS X (.Assign [.Name x pos'] e pos) (tAsg te (gName i)) := by
  intro pins s σ H D I h
  refine wpAny_Assign_Name (thn (he pins s σ H _ I h) fun v s1 ⟨y, H1, I1, r1, q1⟩ => ?_) hs
  exact store_ok I1 hN hi hx r1 (fun s2 I2 => ⟨_, H1, I2, q1⟩) hf
/-- name op= e -/
def tAug (i : Nat) (te : TE) (ti : TIp) : TS := fun D σ H => ∃ x, σ[i]? = some (some x) ∧ te σ H fun y H1 => ti x y H1 fun z H2 => D.nx (σ.set i (some z)) H2
theorem ps_aug {i : Nat} {x : Str} {e : Expr} {te : TE} {op : Operator} {ti : TIp} {pos' : Pos} (hN : X.N.Nodup) (hi : X.N[i]? = some x) (hx : Loc X.env.scope x) (he : PE X e te) (ho : PIp X op ti) (hf : X.fn x = true ∨ X.env.scope.names.lookup x = some .local := by first | exact .inl rfl | exact .inr rfl | assumption) :
    PS X (.AugAssign (.Name x pos') op e pos) (tAug i te ti) := by
  intro pins s σ H D I h
  obtain ⟨v, e1, h⟩ := h
  obtain ⟨m, hn, hl⟩ := I.loc
  have vis : Vis X.env.scope x := by rcases hx with k | k; exact .inl k; exact .inr (.inl k)
  obtain ⟨u, r, l⟩ := hl i x v hi e1 vis
  refine wpAny_AugAssign_Name ?_
  have go : wpAny (model X.prog X.w) X.A (eval e X.env) (fun w s₂ => wpAny (model X.prog X.w) X.A (inplaceOp op u w) (fun r s₃ => wpAny (model X.prog X.w) X.A (storeName X.env x r) (fun _ => SP X pins D .next) X.xe s₃) X.xe s₂) X.xe s := by
    refine thn (he pins s σ H _ I h) fun w s1 ⟨y, H1, I1, r1, q1⟩ => ?_
    refine thn (ho pins s1 σ H1 v y u w _ I1 r r1 q1) fun z s2 ⟨zv, H2, I2, r2, q2⟩ => ?_
    exact store_ok I2 hN hi hx r2 (fun s3 I3 => ⟨_, H2, I3, q2⟩) hf
  rcases l with ⟨hk, hm⟩ | ⟨hk, c, hc, hcell⟩
  · exact wpAny_loadName_local I.ok.kind hk hn hm go
  · rcases hk with hk | hk
    · exact wpAny_loadName_cell I.ok.kind hk hc hcell go
    · rcases hx with k | k
      · have : X.env.scope.names.lookup x = some .free := hk
        rw [k] at this; cases this
      · have : X.env.scope.names.lookup x = some .free := hk
        rw [k] at this; cases this
/-- ints -/
def ipI (f : Int → Int → Int) : TIp := fun x y H Q => ∃ i j, x = .int i ∧ y = .int j ∧ Q (.int (f i j)) H
theorem ip_add : PIp X .Add (ipI fun i j => i + j) := by
  intro pins s σ H x y v u Q I r1 r2 h
  obtain ⟨i, j, e1, e2, q⟩ := h
  subst e1; subst e2
  obtain ⟨t, rfl⟩ := r1
  obtain ⟨t', rfl⟩ := r2
  exact iadd_int ⟨.int _, H, I.tok _, ⟨_, rfl⟩, q⟩
end

section
variable {X : Cx} {pos : Pos}
/-- the invariant W with its measure -/
def tWhile (c : TT) (tb : TS) : TS := fun D σ H => ∃ W : Nat → St → Hp → Prop, (∃ m, W m σ H) ∧ ∀ m σ H, W m σ H →
  c σ H fun b H1 => if b = true then ∃ N : St → Hp → Prop, (∀ σ' H', N σ' H' → ∃ m', m' < m ∧ W m' σ' H') ∧ tb { D with nx := N, ct := N, bk := D.nx } σ H1 else D.nx σ H1
theorem ps_while {c : Expr} {body : List Stmt} {tc : TT} {tb : TS} (hp : PassesOwn (model X.prog X.w) X.A X.env X.xe) (hc : PT X c tc) (hb : PSs X body tb) : PS X (.While c body [] pos) (tWhile tc tb) := by
  intro pins s σ H D I h
  obtain ⟨W, ⟨m0, w0⟩, turn⟩ := h
  refine wpAny_While (codeAny_whileLoop (fun n s' => ∃ σ' H', Inv X pins σ' H' s' ∧ W n σ' H') ?_ m0 ⟨σ, H, I, w0⟩)
  rintro n s1 ⟨σ1, H1, I1, w1⟩
  refine wpAny_passesOwn hp (thn (hc pins s1 σ1 H1 _ I1 (turn n σ1 H1 w1)) fun b s2 ⟨H2, I2, q2⟩ => ?_)
  cases b with
  | true =>
    obtain ⟨N, hN, q2⟩ := q2
    rw [if_pos rfl]
    refine wpAny_passesOwn hp (thn (hb pins s2 σ1 H2 _ I2 q2) fun f s3 q3 => ?_)
    cases f with
    | next =>
      obtain ⟨σ3, H3, I3, n3⟩ := q3
      obtain ⟨m', hm, w3⟩ := hN σ3 H3 n3
      exact ⟨m', hm, σ3, H3, I3, w3⟩
    | cont =>
      obtain ⟨σ3, H3, I3, n3⟩ := q3
      obtain ⟨m', hm, w3⟩ := hN σ3 H3 n3
      exact ⟨m', hm, σ3, H3, I3, w3⟩
    | brk => exact q3
    | ret v => exact q3
  | false =>
    rw [if_neg Bool.false_ne_true]
    exact wpAny_execs_nil ⟨σ1, H2, I2, q2⟩
end

/-- at turn i: it yields x (the heap may grow), or it stops -/
structure It where
  go : Nat → Hp → Prop
  yld : Nat → Hp → V → Hp → Prop
  stop : Nat → Hp → Prop
/-- the iterator's own objects may turn: they are not the frame's, not pinned, younger than the entry (or a comprehension's own) -/
def FpOk (X : Cx) (pins : List (Addr × Obj)) (H : Hp) (b : Addr) : Prop :=
  H b = none ∧ b ≠ X.env.locals ∧ b ∉ X.fs ∧ (b ∈ X.ex ∨ X.s_0.heap.objs.size ≤ b) ∧ (∀ x c, X.env.cells.lookup x = some c → c ≠ b) ∧ ∀ p ∈ X.pn ++ pins, p.1 ≠ b
theorem Inv.fpOk {X : Cx} {pins : List (Addr × Obj)} {σ : St} {H H' : Hp} {s : Shared} {b : Addr} (I : Inv X pins σ H s) (hb : s.heap.objs.size ≤ b) (hn : H' b = none) : FpOk X pins H' b := by
  refine ⟨hn, Nat.ne_of_gt (Nat.lt_of_lt_of_le I.lt hb), I.nofs hb, .inr (Nat.le_trans I.sz hb), fun x c e z => ?_, fun p hp z => ?_⟩
  · obtain ⟨v, q⟩ := I.cell x c e
    exact absurd (Nat.lt_of_lt_of_le q.lt (by rw [z]; exact hb)) (Nat.lt_irrefl _)
  · exact absurd (Nat.lt_of_lt_of_le (Heap.lt_size (I.pin p hp).1) (by rw [z]; exact hb)) (Nat.lt_irrefl _)
structure Turn (P : Program) (w : World) (K : PySem.W.Frag) (tg : Expr) (J : It) (fp : List Addr) (it : Addr) (tn : Nat → Heap → Prop) : Prop where
  mem : it ∈ fp
  obj : ∀ i h, tn i h → ∀ b ∈ fp, ∃ o, h.get? b = some o ∧ ∀ v, o.data ≠ .cell v
  keep : ∀ i h h', tn i h → (∀ b ∈ fp, ∀ o, h.get? b = some o → h'.get? b = some o) → tn i h'
  item : ∀ (X : Cx), X.prog = P → X.w = w → X.K = K → X.calm = true → ∀ (i : Nat) (pins : List (Addr × Obj)) (s : Shared) (σ : St) (H : Hp) (E : Value → Shared → Prop), Inv X pins σ H s → (∀ b ∈ fp, FpOk X pins H b) → tn i s.heap → J.go i H →
    wpAny (model P w) X.A (pyNext (.ref it)) (fun r s1 => ∃ u, r = some u ∧
      wpAny (model P w) X.A (letOwnedTupleGo tg (.ref it) u) (fun _ s2 => ∃ x H', Inv X pins σ H' s2 ∧ RelV x u ∧ J.yld i H x H' ∧ tn (i + 1) s2.heap ∧ ∀ b ∈ fp, H' b = none) E s1) E s
  done : ∀ (X : Cx), X.prog = P → X.w = w → X.K = K → X.calm = true → ∀ (i : Nat) (pins : List (Addr × Obj)) (s : Shared) (σ : St) (H : Hp) (E : Value → Shared → Prop), Inv X pins σ H s → (∀ b ∈ fp, FpOk X pins H b) → tn i s.heap → J.stop i H →
    wpAny (model P w) X.A (pyNext (.ref it)) (fun r s1 => r = none ∧ Inv X pins σ H s1) E s
  self : ∀ (A : Around) (i : Nat) (s : Shared) (Q : Value → Shared → Prop) (E : Value → Shared → Prop), tn i s.heap → Q (.ref it) s → wpAny (model P w) A (pyIter (.ref it)) Q E s
abbrev TI := St → Hp → (It → Hp → Prop) → Prop
/-- an iterator has come -/
def PIE (X : Cx) (pins : List (Addr × Obj)) (σ : St) (tg : Expr) (R : It → Hp → Prop) (itv : Value) (s2 : Shared) : Prop :=
  ∃ (it : Addr) (fp : List Addr) (tn : Nat → Heap → Prop) (J : It) (H' : Hp), itv = .ref it ∧ Inv X pins σ H' s2 ∧ Turn X.prog X.w X.K tg J fp it tn ∧ tn 0 s2.heap ∧ (∀ b ∈ fp, FpOk X pins H' b) ∧ R J H'
def PI (X : Cx) (tg iter : Expr) (wi : TI) : Prop :=
  ∀ (pins : List (Addr × Obj)) (s : Shared) (σ : St) (H : Hp) (R : It → Hp → Prop), Inv X pins σ H s → wi σ H R →
    wpAny (model X.prog X.w) X.A (eval iter X.env) (fun v s1 => wpAny (model X.prog X.w) X.A (pyIter v) (PIE X pins σ tg R) X.xe s1) X.xe s

/-- the step ahead of the store is nothing for an iterator that keeps no tuple -/
theorem go_of {M : Model} {A : Around} {E : Value → Shared → Prop} {s : Shared} {tg : Expr} {it : Addr} {u : Value} {o : Obj} {n : String} {vs : Array Value} {Q : Unit → Shared → Prop} (ho : s.heap.get? it = some o) (hc : o.cls = .type n) (hd : o.data = .fields vs)
    (hn : ["enumerate", "zip", "dict_itemiterator", "dict_reverseitemiterator", "odict_iterator", "itertools.zip_longest", "itertools.pairwise"].contains n = false) (hQ : Q () s) : wpAny M A (letOwnedTupleGo tg (.ref it) u) Q E s := by
  unfold letOwnedTupleGo
  cases tg <;> first
    | exact wpAny_pure hQ
    | (cases u <;> first
        | exact wpAny_pure hQ
        | (refine wpAny_bind (wpAny_load ho ?_)
           rw [hc, hd]
           show wpAny M A (if (["enumerate", "zip", "dict_itemiterator", "dict_reverseitemiterator", "odict_iterator", "itertools.zip_longest", "itertools.pairwise"].contains n && vs[0]? == some (rawInt _)) = true then _ else _) Q E s
           rw [if_neg (by intro h; rw [hn, Bool.false_and] at h; cases h)]
           exact wpAny_pure hQ))

/-- the list at a, as it stands at each turn (a loop may append to it) -/
def Itl (K : PySem.W.Frag) (a : Addr) : It :=
  ⟨fun i H => ∃ xs x, SqL K H a xs ∧ xs[i]? = some x, fun i H x H' => H' = H ∧ ∀ xs, SqL K H a xs → xs[i]? = some x, fun i H => ∃ xs, SqL K H a xs ∧ xs.length ≤ i⟩
def Itt (K : PySem.W.Frag) (a : Addr) : It :=
  ⟨fun i H => ∃ xs x, SqT K H a xs ∧ xs[i]? = some x, fun i H x H' => H' = H ∧ ∀ xs, SqT K H a xs → xs[i]? = some x, fun i H => ∃ xs, SqT K H a xs ∧ xs.length ≤ i⟩
theorem turn_list {P : Program} {w : World} {K : PySem.W.Frag} {tg : Expr} (a it : Addr) : Turn P w K tg (Itl K a) [it] it (fun i h => h.IsListIter it a i) where
  mem := by simp
  obj := fun i h st b hb => by
    have e : b = it := by simpa using hb
    subst e
    obtain ⟨o, e, c, d⟩ := st
    exact ⟨o, e, fun v z => by rw [d] at z; cases z⟩
  keep := fun i h h' st k => st.at fun o e => k it (by simp) o e
  item := by
    intro X hP hw hK hc i pins s σ H E I hf st hg
    subst hP hw hK
    obtain ⟨xs, x, hq, hx⟩ := hg
    obtain ⟨its, rv, p, hz⟩ := I.list hq
    obtain ⟨u, hu, ru⟩ := rv.get hx
    obtain ⟨f0, f1, f2, f3, f4, f5⟩ := hf it (by simp)
    refine wpAny_pyNext_list_item st p.isList (x := u) (by simpa using hu) fun h' st' sb => ?_
    have I1 : Inv X pins σ H { s with heap := h' } := I.turned (t' := s.toks) (fun b o hb e => (sb.2 b hb).trans e) f0 f1 f3 f4 f5
    obtain ⟨o, e, c, d⟩ := id st'
    exact ⟨u, rfl, go_of (s := { s with heap := h' }) e c d (by decide) ⟨x, H, I1, ru, ⟨rfl, fun ys hy => by rw [I.list_inj hy hq]; exact hx⟩, st', fun b hb => (hf b hb).1⟩⟩
  done := by
    intro X hP hw hK hc i pins s σ H E I hf st hg
    subst hP hw hK
    obtain ⟨xs, hq, hx⟩ := hg
    obtain ⟨its, rv, p, hz⟩ := I.list hq
    obtain ⟨f0, f1, f2, f3, f4, f5⟩ := hf it (by simp)
    have hl := rv.length
    exact wpAny_pyNext_list_end (I.ok.hd hc) st p.isList (by simp; omega) fun h' eb => ⟨rfl, I.turned (t' := s.toks) (fun b o hb e => eb b o hb e) f0 f1 f3 f4 f5⟩
  self := fun _ _ _ _ _ st h => wpAny_pyIter_listiter st h
theorem turn_tuple {P : Program} {w : World} {K : PySem.W.Frag} {tg : Expr} (a it : Addr) : Turn P w K tg (Itt K a) [it] it (fun i h => h.IsTupleIter it a i) where
  mem := by simp
  obj := fun i h st b hb => by
    have e : b = it := by simpa using hb
    subst e
    obtain ⟨o, e, c, d⟩ := st
    exact ⟨o, e, fun v z => by rw [d] at z; cases z⟩
  keep := fun i h h' st k => st.at fun o e => k it (by simp) o e
  item := by
    intro X hP hw hK hc i pins s σ H E I hf st hg
    subst hP hw hK
    obtain ⟨xs, x, hq, hx⟩ := hg
    obtain ⟨its, rv, p, hz⟩ := I.tuple hq
    obtain ⟨u, hu, ru⟩ := rv.get hx
    obtain ⟨f0, f1, f2, f3, f4, f5⟩ := hf it (by simp)
    refine wpAny_pyNext_tuple_item st (show s.heap.IsTuple a its.toArray from p) (x := u) (by simpa using hu) fun h' st' sb => ?_
    have I1 : Inv X pins σ H { s with heap := h' } := I.turned (t' := s.toks) (fun b o hb e => (sb.2 b hb).trans e) f0 f1 f3 f4 f5
    obtain ⟨o, e, c, d⟩ := id st'
    exact ⟨u, rfl, go_of (s := { s with heap := h' }) e c d (by decide) ⟨x, H, I1, ru, ⟨rfl, fun ys hy => by rw [I.tuple_inj hy hq]; exact hx⟩, st', fun b hb => (hf b hb).1⟩⟩
  done := by
    intro X hP hw hK hc i pins s σ H E I hf st hg
    subst hP hw hK
    obtain ⟨xs, hq, hx⟩ := hg
    obtain ⟨its, rv, p, hz⟩ := I.tuple hq
    obtain ⟨f0, f1, f2, f3, f4, f5⟩ := hf it (by simp)
    have hl := rv.length
    exact wpAny_pyNext_tuple_end (I.ok.hd hc) st (show s.heap.IsTuple a its.toArray from p) (by simp; omega) fun h' eb => ⟨rfl, I.turned (t' := s.toks) (fun b o hb e => eb b o hb e) f0 f1 f3 f4 f5⟩
  self := fun _ _ _ _ _ st h => wpAny_pyIter_tupleiter st h
end L2

namespace L2
open PySem PySem.Spec PyProof.Rows
section
variable {X : Cx} {tg : Expr}
def iList (K : PySem.W.Frag) (tl : TE) : TI := fun σ H R => tl σ H fun x H1 => ∃ a, x = .ref a ∧ (∃ xs, SqL K H1 a xs) ∧ R (Itl K a) H1
def iTup (K : PySem.W.Frag) (tl : TE) : TI := fun σ H R => tl σ H fun x H1 => ∃ a, x = .ref a ∧ (∃ xs, SqT K H1 a xs) ∧ R (Itt K a) H1
theorem pi_list {l : Expr} {tl : TE} (hl : PE X l tl) : PI X tg l (iList X.K tl) := by
  intro pins s σ H R I h
  refine thn (hl pins s σ H _ I h) fun v s1 ⟨x, H1, I1, r1, q1⟩ => ?_
  obtain ⟨a, e, ⟨xs, hq⟩, q⟩ := q1
  subst e
  cases r1
  obtain ⟨its, rv, p, hz⟩ := I1.list hq
  refine wpAny_pyIter_list p.isList ?_
  refine ⟨s1.heap.objs.size, [s1.heap.objs.size], _, _, H1, rfl, I1.kept (t' := s1.toks) fun b o e => Heap.get?_push_of_some _ e, turn_list a _, ⟨_, Heap.get?_push_size _ rfl, rfl, rfl⟩, fun b hb => ?_, q⟩
  have e : b = s1.heap.objs.size := by simpa using hb
  subst e
  exact I1.fpOk (Nat.le_refl _) (I1.hok.fresh (Nat.le_refl _))
theorem pi_tup {l : Expr} {tl : TE} (hl : PE X l tl) : PI X tg l (iTup X.K tl) := by
  intro pins s σ H R I h
  refine thn (hl pins s σ H _ I h) fun v s1 ⟨x, H1, I1, r1, q1⟩ => ?_
  obtain ⟨a, e, ⟨xs, hq⟩, q⟩ := q1
  subst e
  cases r1
  obtain ⟨its, rv, p, hz⟩ := I1.tuple hq
  refine wpAny_pyIter_tuple (show s1.heap.IsTuple a its.toArray from p) ?_
  refine ⟨s1.heap.objs.size, [s1.heap.objs.size], _, _, H1, rfl, I1.kept (t' := s1.toks) fun b o e => Heap.get?_push_of_some _ e, turn_tuple a _, ⟨_, Heap.get?_push_size _ rfl, rfl, rfl⟩, fun b hb => ?_, q⟩
  have e : b = s1.heap.objs.size := by simpa using hb
  subst e
  exact I1.fpOk (Nat.le_refl _) (I1.hok.fresh (Nat.le_refl _))

/-- W: the invariant by the turn and a measure; N: what the body is to reach -/
def tFor (wi : TI) (g : TG) (tb : TS) : TS := fun D σ H => wi σ H fun J H1 => ∃ W : Nat → Nat → St → Hp → Prop, (∃ m, W 0 m σ H1) ∧ ∀ i m σ H, W i m σ H →
  (J.stop i H ∧ D.nx σ H) ∨ (J.go i H ∧ ∃ N : St → Hp → Prop, (∀ σ' H', N σ' H' → ∃ m', m' < m ∧ W (i + 1) m' σ' H') ∧ ∀ x H', J.yld i H x H' → g x σ H' fun σ2 H2 => tb { D with nx := N, ct := N, bk := D.nx } σ2 H2)
/-- the records at fp as they stand -/
def pinsAt (fp : List Addr) (h : Heap) : List (Addr × Obj) := fp.filterMap fun b => (h.get? b).map fun o => (b, o)
theorem mem_pinsAt {fp : List Addr} {h : Heap} {b : Addr} {o : Obj} (hb : b ∈ fp) (e : h.get? b = some o) : (b, o) ∈ pinsAt fp h := List.mem_filterMap.mpr ⟨b, hb, by rw [e]; rfl⟩
theorem of_pinsAt {fp : List Addr} {h : Heap} {p : Addr × Obj} (hp : p ∈ pinsAt fp h) : p.1 ∈ fp ∧ h.get? p.1 = some p.2 := by
  obtain ⟨b, hb, e⟩ := List.mem_filterMap.mp hp
  cases q : h.get? b with
  | none => rw [q] at e; cases e
  | some o =>
    rw [q] at e
    have e' : (b, o) = p := Option.some.inj e
    subst e'
    exact ⟨hb, q⟩
theorem Inv.pinned {pins : List (Addr × Obj)} {σ : St} {H : Hp} {s : Shared} {fp : List Addr} (I : Inv X pins σ H s) (hf : ∀ b ∈ fp, FpOk X pins H b) (ho : ∀ b ∈ fp, ∃ o, s.heap.get? b = some o ∧ ∀ v, o.data ≠ .cell v) : Inv X (pins ++ pinsAt fp s.heap) σ H s :=
  I.pins_of fun p hp => (List.mem_append.mp hp).elim (fun z => I.pin p (List.mem_append_right _ z)) fun z => by
    obtain ⟨hb, e⟩ := of_pinsAt z
    obtain ⟨f0, f1, f2, _⟩ := hf p.1 hb
    obtain ⟨o, e', d⟩ := ho p.1 hb
    rw [e] at e'; cases e'
    exact ⟨e, f0, f1, f2, d⟩
theorem Inv.unpinned {pins pl : List (Addr × Obj)} {σ : St} {H : Hp} {s : Shared} (I : Inv X (pins ++ pl) σ H s) : Inv X pins σ H s := I.pins_of fun p hp => I.pin p (List.mem_append_right _ (List.mem_append_left _ hp))
theorem ps_for {iter : Expr} {body : List Stmt} {wi : TI} {g : TG} {tb : TS} {pos : Pos} (hp : PassesOwn (model X.prog X.w) X.A X.env X.xe) (hc : X.calm = true) (hi : PI X tg iter wi) (hg : PG X tg g) (hb : PSs X body tb)
    (hs : ∀ x, foldedSetIterable iter X.env x = pure x := by intro _; rfl) : PS X (.For tg iter body [] pos) (tFor wi g tb) := by
  intro pins s σ H D I h
  refine wpAny_For (thn (hi pins s σ H _ I h) fun v s1 h1 => thn h1 fun itv s2 h2 => ?_) hs
  obtain ⟨it, fp, tn, J, H2, e, I2, T, st2, f2, W, ⟨m0, w0⟩, turn⟩ := h2
  subst e
  -- what stays true of the iterator's objects through the loop
  have stat : ∀ {H' : Hp}, (∀ b ∈ fp, H' b = none) → ∀ b ∈ fp, FpOk X pins H' b := fun hn b hb => ⟨hn b hb, (f2 b hb).2⟩
  refine codeAny_forLoop_any (fun n s' => ∃ i σ' H', Inv X pins σ' H' s' ∧ tn i s'.heap ∧ (∀ b ∈ fp, H' b = none) ∧ W i n σ' H') ?_ m0 ⟨0, σ, H2, I2, st2, fun b hb => (f2 b hb).1, w0⟩
  rintro n s3 ⟨i, σ3, H3, I3, st3, fr3, w3⟩
  rcases turn i n σ3 H3 w3 with ⟨stop, qn⟩ | ⟨go, N, hN, step⟩
  · refine wpAny_passesOwn hp (thn (T.done X rfl rfl rfl hc i pins s3 σ3 H3 X.xe I3 (stat fr3) st3 stop) fun r s4 ⟨hr, I4⟩ => ?_)
    subst hr
    exact wpAny_execs_nil ⟨σ3, H3, I4, qn⟩
  · refine wpAny_passesOwn hp (thn (T.item X rfl rfl rfl hc i pins s3 σ3 H3 X.xe I3 (stat fr3) st3 go) fun r s4 ⟨u, hr, h4⟩ => ?_)
    subst hr
    refine wpAny_passesOwn hp (thn h4 fun _ s5 ⟨x, H5, I5, r5, y5, st5, fr5⟩ => ?_)
    have I5' := I5.pinned (stat fr5) (T.obj _ _ st5)
    refine wpAny_passesOwn hp (thn (hg _ s5 σ3 H5 x u _ I5' r5 (step x H5 y5)) fun _ s6 ⟨σ6, H6, I6, q6⟩ => ?_)
    refine wpAny_passesOwn hp (thn (hb _ s6 σ6 H6 _ I6 q6) fun f s7 q7 => ?_)
    have again : ∀ {σ7 : St} {H7 : Hp}, Inv X (pins ++ pinsAt fp s5.heap) σ7 H7 s7 → N σ7 H7 → ∃ m, m < n ∧ ∃ i σ' H', Inv X pins σ' H' s7 ∧ tn i s7.heap ∧ (∀ b ∈ fp, H' b = none) ∧ W i m σ' H' := fun {σ7 H7} I7 n7 => by
      obtain ⟨m', hm, w7⟩ := hN σ7 H7 n7
      refine ⟨m', hm, i + 1, σ7, H7, I7.unpinned, T.keep _ _ _ st5 fun b hb o e => (I7.pin (b, o) (List.mem_append_right _ (List.mem_append_right _ (mem_pinsAt hb e)))).1, fun b hb => ?_, w7⟩
      obtain ⟨o, e, d⟩ := T.obj _ _ st5 b hb
      exact (I7.pin (b, o) (List.mem_append_right _ (List.mem_append_right _ (mem_pinsAt hb e)))).2.1
    cases f with
    | next => obtain ⟨σ7, H7, I7, n7⟩ := q7; exact again I7 n7
    | cont => obtain ⟨σ7, H7, I7, n7⟩ := q7; exact again I7 n7
    | brk => obtain ⟨σ7, H7, I7, q7⟩ := q7; exact ⟨σ7, H7, I7.unpinned, q7⟩
    | ret v => obtain ⟨x7, σ7, H7, I7, r7, q7⟩ := q7; exact ⟨x7, σ7, H7, I7.unpinned, r7, q7⟩
end

/-- over a list that the body leaves as it is -/
theorem for_list {K : PySem.W.Frag} {a : Addr} {xs : List V} {g : TG} {tb : TS} {D : Ends} {σ : St} {H : Hp} (Pv : Nat → St → Hp → Prop) (h0 : Pv 0 σ H) (hl : ∀ i σ H, i ≤ xs.length → Pv i σ H → SqL K H a xs)
    (hs : ∀ i x σ H, xs[i]? = some x → Pv i σ H → g x σ H fun σ2 H2 => tb { D with nx := Pv (i + 1), ct := Pv (i + 1), bk := D.nx } σ2 H2) (hd : ∀ σ H, Pv xs.length σ H → D.nx σ H) :
    ∃ W : Nat → Nat → St → Hp → Prop, (∃ m, W 0 m σ H) ∧ ∀ i m σ H, W i m σ H →
      ((Itl K a).stop i H ∧ D.nx σ H) ∨ ((Itl K a).go i H ∧ ∃ N : St → Hp → Prop, (∀ σ' H', N σ' H' → ∃ m', m' < m ∧ W (i + 1) m' σ' H') ∧ ∀ x H', (Itl K a).yld i H x H' → g x σ H' fun σ2 H2 => tb { D with nx := N, ct := N, bk := D.nx } σ2 H2) := by
  refine ⟨fun i m σ H => m = xs.length - i ∧ i ≤ xs.length ∧ Pv i σ H, ⟨xs.length, by simp, Nat.zero_le _, h0⟩, ?_⟩
  rintro i m σ H ⟨rfl, hi, p⟩
  have q := hl i σ H hi p
  by_cases hlt : i < xs.length
  · refine .inr ⟨⟨xs, xs[i], q, by simp [hlt]⟩, Pv (i + 1), fun σ' H' p' => ⟨xs.length - (i + 1), by omega, rfl, hlt, p'⟩, fun x H' y => ?_⟩
    obtain ⟨e, y⟩ := y
    subst e
    exact hs i x σ _ (y xs q) p
  · have e : i = xs.length := by omega
    subst e
    exact .inl ⟨⟨xs, q, Nat.le_refl _⟩, hd σ H p⟩
/-- while, by a word and a measure of the state -/
theorem while_by {c : TT} {tb : TS} {D : Ends} {σ : St} {H : Hp} (Pv : St → Hp → Prop) (μ : St → Hp → Nat) (h0 : Pv σ H)
    (hs : ∀ σ H, Pv σ H → c σ H fun b H1 => if b = true then tb { D with nx := fun σ' H' => Pv σ' H' ∧ μ σ' H' < μ σ H, ct := fun σ' H' => Pv σ' H' ∧ μ σ' H' < μ σ H, bk := D.nx } σ H1 else D.nx σ H1)
    (mono : ∀ σ H Q Q', (∀ b H1, Q b H1 → Q' b H1) → c σ H Q → c σ H Q') : tWhile c tb D σ H := by
  refine ⟨fun m σ H => m = μ σ H ∧ Pv σ H, ⟨_, rfl, h0⟩, ?_⟩
  rintro m σ H ⟨rfl, p⟩
  refine mono σ H _ _ (fun b H1 q => ?_) (hs σ H p)
  cases b with
  | true => exact ⟨_, fun σ' H' ⟨p', l⟩ => ⟨_, l, rfl, p'⟩, q⟩
  | false => exact q
end L2

namespace L2
open PySem PySem.Spec PyProof.Rows

abbrev R2 := V → V → Hp → VK → Prop
/-- a two-place operation on values: f is binaryOp op, inplaceOp op or compareOp op -/
def OpR (X : Cx) (f : Value → Value → Sem Value) (r : R2) : Prop :=
  ∀ (pins : List (Addr × Obj)) (s : Shared) (σ : St) (H : Hp) (x y : V) (v u : Value) (Q : VK), Inv X pins σ H s → RelV x v → RelV y u → r x y H Q →
    wpAny (model X.prog X.w) X.A (f v u) (EP X pins σ Q) X.xe s
/-- a one-place operation -/
def UnR (X : Cx) (f : Value → Sem Value) (r : V → Hp → VK → Prop) : Prop :=
  ∀ (pins : List (Addr × Obj)) (s : Shared) (σ : St) (H : Hp) (x : V) (v : Value) (Q : VK), Inv X pins σ H s → RelV x v → r x H Q →
    wpAny (model X.prog X.w) X.A (f v) (EP X pins σ Q) X.xe s
/-- a call of a value that is known (a builtin, a type) with values -/
def CallR (X : Cx) (f : Value) (r : List V → Hp → VK → Prop) : Prop :=
  ∀ (pins : List (Addr × Obj)) (s : Shared) (σ : St) (H : Hp) (xs : List V) (us : List Value) (Q : VK), Inv X pins σ H s → Vals xs us → r xs H Q →
    wpAny (model X.prog X.w) X.A (call f us) (EP X pins σ Q) X.xe s

def tOp (r : R2) (ta tb : TE) : TE := fun σ H Q => ta σ H fun x H1 => tb σ H1 fun y H2 => r x y H2 Q
def tUn (r : V → Hp → VK → Prop) (ta : TE) : TE := fun σ H Q => ta σ H fun x H1 => r x H1 Q
/-- ints in, under C, and a value out -/
def rI (C : Int → Int → Prop) (g : Int → Int → V) : R2 := fun x y H Q => ∃ i j, x = .int i ∧ y = .int j ∧ C i j ∧ Q (g i j) H
def rI0 (g : Int → Int → V) : R2 := fun x y H Q => ∃ i j, x = .int i ∧ y = .int j ∧ Q (g i j) H
def rU (g : Int → V) : V → Hp → VK → Prop := fun x H Q => ∃ i, x = .int i ∧ Q (g i) H

section
variable {X : Cx} {a b c : Expr} {ta tb tc : TE} {pos : Pos}

theorem binT (ha : PE X a ta) (hb : PE X b tb) {pins : List (Addr × Obj)} {s : Shared} {σ : St} {H : Hp} {R : V → V → Hp → Prop} (I : Inv X pins σ H s)
    (h : ta σ H fun x H1 => tb σ H1 fun y H2 => R x y H2) {Q : Value → Shared → Prop} {f : Value → Value → Sem Value}
    (hf : ∀ v u s2 x y H2, Inv X pins σ H2 s2 → RelV x v → RelV y u → R x y H2 → wpAny (model X.prog X.w) X.A (f v u) Q X.xe s2) :
    wpAny (model X.prog X.w) X.A (eval a X.env) (fun v s₁ => wpAny (model X.prog X.w) X.A (eval b X.env) (fun u s₂ => wpAny (model X.prog X.w) X.A (f v u) Q X.xe s₂) X.xe s₁) X.xe s := by
  refine thn (ha pins s σ H _ I h) fun v s1 ⟨x, H1, I1, r1, q1⟩ => ?_
  refine thn (hb pins s1 σ H1 _ I1 q1) fun u s2 ⟨y, H2, I2, r2, q2⟩ => ?_
  exact hf v u s2 x y H2 I2 r1 r2 q2

theorem pe_op {op : Operator} {r : R2} (ho : OpR X (binaryOp op) r) (ha : PE X a ta) (hb : PE X b tb) : PE X (.BinOp a op b pos) (tOp r ta tb) := by
  intro pins s σ H Q I h
  exact wpAny_BinOp (binT ha hb I h fun v u s2 x y H2 I2 rx ry q => ho pins s2 σ H2 x y v u Q I2 rx ry q)
theorem pe_un {op : UnaryOp} {r : V → Hp → VK → Prop} (ho : UnR X (unaryOp op) r) (ha : PE X a ta) : PE X (.UnaryOp op a pos) (tUn r ta) := by
  intro pins s σ H Q I h
  exact UnaryOp_ (thn (ha pins s σ H _ I h) fun v s1 ⟨x, H1, I1, r1, q1⟩ => ho pins s1 σ H1 x v Q I1 r1 q1)

theorem opI {f : Value → Value → Sem Value} {C : Int → Int → Prop} {g : Int → Int → Int}
    (rule : ∀ (i j : Int) (t u : Tok) (s : Shared) (Q : Value → Shared → Prop) (E : Value → Shared → Prop), C i j → Q (.int (g i j) s.toks) { s with toks := s.toks + 1 } → wpAny (model X.prog X.w) X.A (f (.int i t) (.int j u)) Q E s) :
    OpR X f (rI C fun i j => .int (g i j)) := by
  intro pins s σ H x y v u Q I rx ry h
  obtain ⟨i, j, rfl, rfl, hc, q⟩ := h
  obtain ⟨t, rfl⟩ := rx
  obtain ⟨t', rfl⟩ := ry
  exact rule i j t t' s _ _ hc ⟨.int (g i j), H, I.tok _, ⟨_, rfl⟩, q⟩
theorem opI0 {f : Value → Value → Sem Value} {g : Int → Int → Int}
    (rule : ∀ (i j : Int) (t u : Tok) (s : Shared) (Q : Value → Shared → Prop) (E : Value → Shared → Prop), Q (.int (g i j) s.toks) { s with toks := s.toks + 1 } → wpAny (model X.prog X.w) X.A (f (.int i t) (.int j u)) Q E s) :
    OpR X f (rI0 fun i j => .int (g i j)) := by
  intro pins s σ H x y v u Q I rx ry h
  obtain ⟨i, j, rfl, rfl, q⟩ := h
  obtain ⟨t, rfl⟩ := rx
  obtain ⟨t', rfl⟩ := ry
  exact rule i j t t' s _ _ ⟨.int (g i j), H, I.tok _, ⟨_, rfl⟩, q⟩
theorem opB0 {f : Value → Value → Sem Value} {g : Int → Int → Bool}
    (rule : ∀ (i j : Int) (t u : Tok) (s : Shared) (Q : Value → Shared → Prop) (E : Value → Shared → Prop), Q (.bool (g i j)) s → wpAny (model X.prog X.w) X.A (f (.int i t) (.int j u)) Q E s) :
    OpR X f (rI0 fun i j => .bl (g i j)) := by
  intro pins s σ H x y v u Q I rx ry h
  obtain ⟨i, j, rfl, rfl, q⟩ := h
  obtain ⟨t, rfl⟩ := rx
  obtain ⟨t', rfl⟩ := ry
  exact rule i j t t' s _ _ ⟨.bl (g i j), H, I, rfl, q⟩

def CDiv (i j : Int) : Prop := 0 < j ∧ j < 1073741824
def CPow (i j : Int) : Prop := 0 ≤ j ∧ j ≤ 1000000 ∧ i.natAbs < 2 ^ 64
def CMul (i j : Int) : Prop := (-(2 ^ 64) < i ∧ i < 2 ^ 64) ∨ (-(2 ^ 64) < j ∧ j < 2 ^ 64)
theorem CMul.ok {i j : Int} (h : CMul i j) : IntMulOk i j := by
  rcases h with ⟨h1, h2⟩ | ⟨h1, h2⟩
  · exact .of_left (intBits_le_64 h1 h2)
  · exact .of_right (intBits_le_64 h1 h2)
theorem two_pow_nn (k : Nat) : (0 : Int) ≤ 2 ^ k := by
  rw [two_pow_cast]
  exact Int.natCast_nonneg _

theorem op_add : OpR X (binaryOp .Add) (rI0 fun i j => .int (i + j)) := opI0 fun _ _ _ _ _ _ _ q => add_int q
theorem op_sub : OpR X (binaryOp .Sub) (rI0 fun i j => .int (i - j)) := opI0 fun _ _ _ _ _ _ _ q => sub_int q
theorem op_mul : OpR X (binaryOp .Mult) (rI CMul fun i j => .int (i * j)) := opI fun _ _ _ _ _ _ _ hc q => mul_int q hc.ok
/-- // by a positive divisor -/
theorem op_fdiv : OpR X (binaryOp .FloorDiv) (rI CDiv fun i j => .int (i / j)) := opI fun i j _ _ _ _ _ hc q => by
  have h1 : (0 : Int) < j := hc.1
  have h2 : j < 1073741824 := hc.2
  exact floordiv_int (by omega) (by rw [Int.fdiv_eq_ediv_of_nonneg i (by omega)]; exact q) (.inl (PyProof.noPylong_small (by omega)))
theorem op_shl : OpR X (binaryOp .LShift) (rI CPow fun i j => .int (i * 2 ^ j.toNat)) := opI fun _ _ _ _ _ _ _ hc q => lshift_int_small hc.1 hc.2.1 hc.2.2 q
theorem op_shr : OpR X (binaryOp .RShift) (rI (fun _ j => 0 ≤ j) fun i j => .int (i / 2 ^ j.toNat)) := opI fun i j _ _ _ _ _ hc q =>
  rshift_int hc (by rw [Int.fdiv_eq_ediv_of_nonneg i (two_pow_nn _)]; exact q)
theorem op_and : OpR X (binaryOp .BitAnd) (rI0 fun i j => .int (Builtin.bitAnd i j)) := opI0 fun _ _ _ _ _ _ _ q => and_int q
theorem op_or : OpR X (binaryOp .BitOr) (rI0 fun i j => .int (Builtin.bitOr i j)) := opI0 fun _ _ _ _ _ _ _ q => or_int q
theorem op_xor : OpR X (binaryOp .BitXor) (rI0 fun i j => .int (Builtin.bitXor i j)) := opI0 fun _ _ _ _ _ _ _ q => xor_int q

theorem unI {f : Value → Sem Value} {g : Int → Int}
    (rule : ∀ (i : Int) (t : Tok) (s : Shared) (Q : Value → Shared → Prop) (E : Value → Shared → Prop), Q (.int (g i) s.toks) { s with toks := s.toks + 1 } → wpAny (model X.prog X.w) X.A (f (.int i t)) Q E s) :
    UnR X f (rU fun i => .int (g i)) := by
  intro pins s σ H x v Q I rx h
  obtain ⟨i, rfl, q⟩ := h
  obtain ⟨t, rfl⟩ := rx
  exact rule i t s _ _ ⟨.int (g i), H, I.tok _, ⟨_, rfl⟩, q⟩
theorem un_neg : UnR X (unaryOp .USub) (rU fun i => .int (-i)) := unI fun _ _ _ _ _ q => neg_int q

end

/-- the scalars that == tells apart as data does -/
def scal : V → V → Bool
  | .non, .non => true | .non, .int _ => true | .int _, .non => true | .non, .bl _ => true | .bl _, .non => true | .non, .str _ => true | .str _, .non => true
  | .int _, .int _ => true | .bl _, .bl _ => true | .str _, .str _ => true | .byt _, .byt _ => true
  | .int _, .str _ => true | .str _, .int _ => true | .bl _, .str _ => true | .str _, .bl _ => true
  | _, _ => false
def rEq : R2 := fun x y H Q => scal x y = true ∧ Q (.bl (decide (x = y))) H
def rNe : R2 := fun x y H Q => scal x y = true ∧ Q (.bl (!decide (x = y))) H

theorem dec_int {i j : Int} : decide (V.int i = V.int j) = (i == j) := by
  rw [Bool.eq_iff_iff]
  simp
theorem dec_bl {i j : Bool} : decide (V.bl i = V.bl j) = (i == j) := by
  rw [Bool.eq_iff_iff]
  simp
theorem dec_str {i j : Str} : decide (V.str i = V.str j) = (i == j) := by
  rw [Bool.eq_iff_iff]
  simp
theorem dec_byt {i j : Array UInt8} : decide (V.byt i = V.byt j) = (i.toList == j.toList) := by
  rw [Bool.eq_iff_iff]
  cases i
  cases j
  simp

section
variable {X : Cx} {a b c : Expr} {ta tb tc : TE} {pos : Pos}
theorem fin_bl {pins : List (Addr × Obj)} {σ : St} {H : Hp} {s : Shared} {Q : VK} {k k' : Bool} (I : Inv X pins σ H s) (q : Q (.bl k) H) (e : k = k') : EP X pins σ Q (.bool k') s := by
  subst e
  exact ⟨.bl k, H, I, rfl, q⟩
theorem op_eq : OpR X (compareOp .Eq) rEq := by
  intro pins s σ H x y v u Q I rx ry h
  obtain ⟨hs, q⟩ := h
  cases x with
  | non =>
    cases rx
    cases y with
    | non => cases ry; exact PySem.EqNone.eq_none_none (fin_bl I q (by simp))
    | bl j => cases ry; exact PySem.EqNone.eq_none_bool (fin_bl I q (by simp))
    | int j => obtain ⟨t', rfl⟩ := ry; exact PySem.EqNone.eq_none_int (fin_bl I q (by simp))
    | str j => obtain ⟨t', rfl⟩ := ry; exact PySem.EqNone.eq_none_str (fin_bl I q (by simp))
    | _ => exact absurd (show false = true from hs) Bool.false_ne_true
  | bl i =>
    cases rx
    cases y with
    | non => cases ry; exact PySem.EqNone.eq_bool_none (fin_bl I q (by simp))
    | bl j => cases ry; exact eq_bool (fin_bl I q dec_bl)
    | str j => obtain ⟨t', rfl⟩ := ry; exact PySem.EqMixed.eq_bool_str (fin_bl I q (by simp))
    | _ => exact absurd (show false = true from hs) Bool.false_ne_true
  | int i =>
    obtain ⟨t, rfl⟩ := rx
    cases y with
    | non => cases ry; exact PySem.EqNone.eq_int_none (fin_bl I q (by simp))
    | int j => obtain ⟨t', rfl⟩ := ry; exact eq_int (fin_bl I q dec_int)
    | str j => obtain ⟨t', rfl⟩ := ry; exact PySem.EqMixed.eq_int_str (fin_bl I q (by simp))
    | _ => exact absurd (show false = true from hs) Bool.false_ne_true
  | str i =>
    obtain ⟨t, rfl⟩ := rx
    cases y with
    | non => cases ry; exact PySem.EqNone.eq_str_none (fin_bl I q (by simp))
    | bl j => cases ry; exact PySem.EqMixed.eq_str_bool (fin_bl I q (by simp))
    | int j => obtain ⟨t', rfl⟩ := ry; exact PySem.EqMixed.eq_str_int (fin_bl I q (by simp))
    | str j => obtain ⟨t', rfl⟩ := ry; exact eq_str (fin_bl I q dec_str)
    | _ => exact absurd (show false = true from hs) Bool.false_ne_true
  | byt i =>
    obtain ⟨t, rfl⟩ := rx
    cases y with
    | byt j => obtain ⟨t', rfl⟩ := ry; exact PySem.W.eq_bytes (fin_bl I q dec_byt)
    | _ => exact absurd (show false = true from hs) Bool.false_ne_true
  | _ => cases y <;> exact absurd (show false = true from hs) Bool.false_ne_true
theorem op_ne : OpR X (compareOp .NotEq) rNe := by
  intro pins s σ H x y v u Q I rx ry h
  obtain ⟨hs, q⟩ := h
  cases x with
  | non =>
    cases rx
    cases y with
    | non => cases ry; exact PySem.EqNone.ne_none_none (fin_bl I q (by simp))
    | bl j => cases ry; exact PySem.EqNone.ne_none_bool (fin_bl I q (by simp))
    | int j => obtain ⟨t', rfl⟩ := ry; exact PySem.EqNone.ne_none_int (fin_bl I q (by simp))
    | str j => obtain ⟨t', rfl⟩ := ry; exact PySem.EqNone.ne_none_str (fin_bl I q (by simp))
    | _ => exact absurd (show false = true from hs) Bool.false_ne_true
  | bl i =>
    cases rx
    cases y with
    | non => cases ry; exact PySem.EqNone.ne_bool_none (fin_bl I q (by simp))
    | bl j => cases ry; exact ne_bool (fin_bl I q (congrArg not dec_bl))
    | str j => obtain ⟨t', rfl⟩ := ry; exact PySem.EqMixed.ne_bool_str (fin_bl I q (by simp))
    | _ => exact absurd (show false = true from hs) Bool.false_ne_true
  | int i =>
    obtain ⟨t, rfl⟩ := rx
    cases y with
    | non => cases ry; exact PySem.EqNone.ne_int_none (fin_bl I q (by simp))
    | int j => obtain ⟨t', rfl⟩ := ry; exact ne_int (fin_bl I q (congrArg not dec_int))
    | str j => obtain ⟨t', rfl⟩ := ry; exact PySem.EqMixed.ne_int_str (fin_bl I q (by simp))
    | _ => exact absurd (show false = true from hs) Bool.false_ne_true
  | str i =>
    obtain ⟨t, rfl⟩ := rx
    cases y with
    | non => cases ry; exact PySem.EqNone.ne_str_none (fin_bl I q (by simp))
    | bl j => cases ry; exact PySem.EqMixed.ne_str_bool (fin_bl I q (by simp))
    | int j => obtain ⟨t', rfl⟩ := ry; exact PySem.EqMixed.ne_str_int (fin_bl I q (by simp))
    | str j => obtain ⟨t', rfl⟩ := ry; exact ne_str (fin_bl I q (congrArg not dec_str))
    | _ => exact absurd (show false = true from hs) Bool.false_ne_true
  | byt i =>
    obtain ⟨t, rfl⟩ := rx
    cases y with
    | byt j => obtain ⟨t', rfl⟩ := ry; exact PySem.W.ne_bytes (fin_bl I q (congrArg not dec_byt))
    | _ => exact absurd (show false = true from hs) Bool.false_ne_true
  | _ => cases y <;> exact absurd (show false = true from hs) Bool.false_ne_true

theorem op_lt : OpR X (compareOp .Lt) (rI0 fun i j => .bl (decide (i < j))) := opB0 fun _ _ _ _ _ _ _ q => lt_int q
theorem op_le : OpR X (compareOp .LtE) (rI0 fun i j => .bl (decide (i ≤ j))) := opB0 fun _ _ _ _ _ _ _ q => le_int q
theorem op_gt : OpR X (compareOp .Gt) (rI0 fun i j => .bl (decide (j < i))) := opB0 fun _ _ _ _ _ _ _ q => gt_int q
theorem op_ge : OpR X (compareOp .GtE) (rI0 fun i j => .bl (decide (j ≤ i))) := opB0 fun _ _ _ _ _ _ _ q => ge_int q

theorem op_notN : OpR X (compareOp .IsNot) (fun x y H Q => y = .non ∧ Q (.bl (!decide (x = .non))) H) := by
  intro pins s σ H x y v u Q I rx ry h
  obtain ⟨rfl, q⟩ := h
  cases ry
  refine isnot_none_gen (fin_bl I q ?_)
  cases x <;> first
    | (cases rx; rfl)
    | (obtain ⟨t, rfl⟩ := rx; rfl)

theorem nomark (b : Expr) {op : CmpOp} (h : op ≠ .In := by decide) (h2 : op ≠ .NotIn := by decide) : behindInMarks op b = false := by
  have e1 : (op == CmpOp.In) = false := by cases op <;> first | rfl | exact absurd rfl h
  have e2 : (op == CmpOp.NotIn) = false := by cases op <;> first | rfl | exact absurd rfl h2
  cases b <;> simp [behindInMarks, e1, e2]
/-- a comparison as a value; hm: nomark b, or (for in, not in) by with_unfolding_all rfl -/
theorem pe_cmpR {op : CmpOp} {r : R2} (ho : OpR X (compareOp op) r) (ha : PE X a ta) (hb : PE X b tb) (hm : behindInMarks op b = false) : PE X (.Compare a [op] [b] pos) (tOp r ta tb) := by
  intro pins s σ H Q I h
  exact wpAny_Compare1 (binT ha hb I h fun v u s2 x y H2 I2 rx ry q => ho pins s2 σ H2 x y v u Q I2 rx ry q) hm
/-- a reading of a value as a test -/
def tTest (t : TE) : TT := fun σ H Q => t σ H fun x H' => ∃ k, x = .bl k ∧ Q k H'
theorem pt_cmpR {op : CmpOp} {r : R2} (ho : OpR X (compareOp op) r) (ha : PE X a ta) (hb : PE X b tb) (hm : behindInMarks op b = false) : PT X (.Compare a [op] [b] pos) (tTest (tOp r ta tb)) := by
  intro pins s σ H Q I h
  refine wpAny_isTrue_Compare1 (thn (ha pins s σ H _ I h) fun v s1 ⟨x, H1, I1, r1, q1⟩ => thn (hb pins s1 σ H1 _ I1 q1) fun u s2 ⟨y, H2, I2, r2, q2⟩ =>
    thn (ho pins s2 σ H2 x y v u _ I2 r1 r2 q2) fun c s3 ⟨z, H3, I3, r3, k, e, q3⟩ => ?_) hm
  subst e
  cases r3
  exact wpAny_truthy_bool ⟨H3, I3, q3⟩

theorem line63 : (sizeLine : Nat) < 2 ^ 63 := by rw [sizeLine_eq]; decide

theorem vals1 {x : V} {us : List Value} (r : Vals [x] us) : ∃ u, us = [u] ∧ RelV x u := by
  cases r with
  | cons r1 r2 => cases r2; exact ⟨_, rfl, r1⟩
theorem vals2 {x y : V} {us : List Value} (r : Vals [x, y] us) : ∃ u w', us = [u, w'] ∧ RelV x u ∧ RelV y w' := by
  cases r with
  | cons r1 r2 =>
    cases r2 with
    | cons r3 r4 => cases r4; exact ⟨_, _, rfl, r1, r3⟩
theorem call_max2 (hc : X.calm = true) : CallR X (.builtin "max") (fun xs H Q => ∃ i j, xs = [.int i, .int j] ∧ Q (.int (if j > i then j else i)) H) := by
  intro pins s σ H xs us Q I r h
  obtain ⟨i, j, rfl, q⟩ := h
  obtain ⟨u, w', rfl, ⟨t, rfl⟩, ⟨t', rfl⟩⟩ := vals2 r
  refine max_two_ints (I.ok.hd hc) fun h' tk k => ⟨_, H, I.kept k, ?_, q⟩
  by_cases hj : j > i
  · rw [if_pos hj, if_pos hj]; exact ⟨_, rfl⟩
  · rw [if_neg hj, if_neg hj]; exact ⟨_, rfl⟩
theorem call_min2 (hc : X.calm = true) : CallR X (.builtin "min") (fun xs H Q => ∃ i j, xs = [.int i, .int j] ∧ Q (.int (if j < i then j else i)) H) := by
  intro pins s σ H xs us Q I r h
  obtain ⟨i, j, rfl, q⟩ := h
  obtain ⟨u, w', rfl, ⟨t, rfl⟩, ⟨t', rfl⟩⟩ := vals2 r
  refine min_two_ints (I.ok.hd hc) fun h' tk k => ⟨_, H, I.kept k, ?_, q⟩
  by_cases hj : j < i
  · rw [if_pos hj, if_pos hj]; exact ⟨_, rfl⟩
  · rw [if_neg hj, if_neg hj]; exact ⟨_, rfl⟩
end
end L2

namespace L2
open PySem PySem.Spec PyProof.Rows

structure ObjM (h : Heap) (x dx C : Addr) (mA : Str → Option Value) : Prop where
  obj : h.get? x = some (PySem.W.instObj C dx)
  ns : h.Ns1 dx mA
  ne : dx ≠ x

theorem lookIn_ns {h : Heap} {dx : Addr} {mA : Str → Option Value} (n : h.Ns1 dx mA) : ∃ od, h.get? dx = some od ∧ ∀ name, PySem.W.lookIn name od = some (mA name) := by
  obtain ⟨o, es, ep, ho, hd, hk, _, hm⟩ := n
  refine ⟨o, ho, fun name => ?_⟩
  have e := hm name
  unfold nsFind findBy at e
  rw [← Array.find?_toList] at e
  unfold PySem.W.lookIn
  rw [hd]
  dsimp only
  split
  · rename_i y q
    rw [q] at e
    exact congrArg some e
  · rename_i q
    rw [q] at e
    have a : es.toList.any (·.refKey) = false := by
      rw [List.any_eq_false]
      intro y hy
      obtain ⟨z, t, hkey⟩ := hk y (Array.mem_toList_iff.mp hy)
      simp [DictEntry.refKey, hkey]
    have a' : ¬ es.toList.any (·.refKey) = true := by rw [a]; exact Bool.false_ne_true
    rw [if_neg a']
    exact congrArg some e

theorem ObjM.look {h : Heap} {x dx C : Addr} {mA : Str → Option Value} (I : ObjM h x dx C mA) : ∃ od, PySem.W.InstAt h x (PySem.W.instObj C dx) C (some od) ∧ ∀ name, PySem.W.lookIn name od = some (mA name) :=
  let ⟨od, ho, hl⟩ := lookIn_ns I.ns
  ⟨od, ⟨I.obj, rfl, rfl, ho⟩, hl⟩

section
variable {prog : Program} {w : World} {A : Around} {E : Value → Shared → Prop} {s : Shared} {K : PySem.W.Frag} {x dx C f : Addr} {mA : Str → Option Value} {name : Str} {v : Value}

theorem get_map {expr : Bool} {Q : Value → Shared → Prop} (X : K.In s.heap) (I : ObjM s.heap x dx C mA) (hg : PySem.W.plainGet K C name = true) (hh : PySem.W.hasDictIn K C = true)
    (ha : PySem.W.findIn K (.ref C) name = some none) (hv : mA name = some v) (hv' : PySem.W.handedIn v = true) (h : Q v { s with toks := s.toks + 1 }) :
    wpAny (model prog w) A (getAttr (.ref x) name expr) Q E s := by
  obtain ⟨od, J, hl⟩ := I.look
  exact PySem.W.get_value X J (PySem.W.plainGet_of hg).1 (PySem.W.findObj_own hh ha rfl (by rw [hl, hv])) hv' h

theorem get_meth {pl : Sem Bool} {Q : Value × List Value → Shared → Prop} (X : K.In s.heap) (I : ObjM s.heap x dx C mA) (hg : PySem.W.plainGet K C name = true)
    (hf : PySem.W.findIn K (.ref C) name = some (some (.ref f))) (ht : PySem.W.isFn K (.ref f) = true) (hv : mA name = none) (h : Q (.ref f, [.ref x]) s) :
    wpAny (model prog w) A (getMethod (.ref x) name pl) Q E s := by
  obtain ⟨od, J, hl⟩ := I.look
  exact PySem.W.method_fn X J (PySem.W.plainGet_of hg).1 (PySem.W.plainGet_of hg).2 hf (beq_iff_eq.mp ht) (by show (PySem.W.lookIn name od).map (·.isSome) = some false; rw [hl, hv]; rfl) h

theorem set_map {ns : List Str} {Q : Unit → Shared → Prop} (X : K.In s.heap) (I : ObjM s.heap x dx C mA)
    (hs : PySem.W.findIn K (.ref C) "__setattr__" = some (some (.builtin "object.__setattr__"))) (hp : PySem.W.plainOver K C = true) (ht : PySem.W.takerIn K C name = some none) (hh : PySem.W.hasDictIn K C = true)
    (hw : PySem.Within mA ns) (hsz : ns.length ≤ sizeLine)
    (h : ∀ h', ObjM h' x dx C (fun y => if y = name then some v else mA y) → Heap.SameBut dx s.heap h' → Q () { s with heap := h', toks := s.toks + 2 }) :
    wpAny (model prog w) A (setAttr (.ref x) name v) Q E s := by
  obtain ⟨od, J, hl⟩ := I.look
  refine PySem.W.set_plain X J hs (PySem.W.osa_open (s := { s with toks := s.toks + 1 }) (r := none) X J hp ht fun b => ?_)
  obtain ⟨cd, hc, hd'⟩ := PySem.W.any_some hh
  have hx : s.heap.get? x = some ⟨.ref C, some dx, .plain, #[]⟩ := I.obj
  refine wpAny_bind (wpAny_pure (wpAny_bind (wpAny_bind (wpAny_loadPart hx (wpAny_bind (PySem.W.Looks.here (s := { s with toks := s.toks + 1 }) (PySem.W.looks_clsIn X hc) ?_))))))
  rw [hd']
  refine wpAny_pure (a := some dx) (wpAny_bind (wpAny_pure (wpAny_bind ?_)))
  refine wpAny_nsSet1 (s := { s with toks := s.toks + 1 }) I.ns fun h' hn2 hs2 => ?_
  obtain ⟨oD, esD, epD, hoD, hdD, hcD⟩ := hn2.count (PySem.Within.cons name v hw)
  refine wpAny_bind (wpAny_lookBehind hoD (by rw [hdD]; exact pastItsLine_dict (Nat.le_trans hcD (by rw [List.length_cons]; omega))) ?_)
  exact wpAny_pure (h _ ⟨(hs2.2 _ (Ne.symm I.ne)).trans I.obj, hn2, I.ne⟩ hs2)

/-- C(..): the dict at the heap's end, the instance behind it; then its __init__ -/
theorem make_map {R : Result → Shared → Prop} {vs : List Value} {kw : List (Str × Value)} (X : K.In s.heap) (hm : PySem.W.makesIn K C = true)
    (hi : PySem.W.findIn K (.ref C) "__init__" = some (some (.ref f))) (hf : PySem.W.typeIn K (.ref f) = some (.type "function"))
    (h : codeAny (model prog w) (A.under (.builtin "type.__call__" ⟨.ref C :: vs, kw⟩)) (.call (.ref f) ⟨.ref (s.heap.objs.size + 1) :: vs, kw⟩) (PySem.W.InitBack (s.heap.objs.size + 1) R)
      { s with heap := (s.heap.push PySem.W.emptyDict).push (PySem.W.instObj C s.heap.objs.size) }) :
    codeAny (model prog w) A (.call (.ref C) ⟨vs, kw⟩) R s := by
  obtain ⟨hh, g, d, t, os⟩ := s
  exact PySem.W.make_core (PySem.W.makes_of X hm) (PySem.W.looks_findIn X hi) (fun self => PySem.W.bind_fn X self hf) (.inl rfl) h
end

def putF (f : Str) (v : V) : List (Str × V) → List (Str × V)
  | [] => [(f, v)]
  | (g, x) :: r => if g = f then (g, v) :: r else (g, x) :: putF f v r
theorem lookup_putF (f g : Str) (v : V) : ∀ fs : List (Str × V), (putF f v fs).lookup g = if g = f then some v else fs.lookup g
  | [] => by
    show List.lookup g [(f, v)] = _
    by_cases h : g = f
    · have hb : (g == f) = true := beq_iff_eq.mpr h
      simp only [List.lookup, hb, if_pos h]
    · have hb : (g == f) = false := beq_eq_false_iff_ne.mpr h
      simp only [List.lookup, hb, if_neg h]
  | (k, x) :: r => by
    have ih := lookup_putF f g v r
    rw [show putF f v ((k, x) :: r) = (if k = f then (k, v) :: r else (k, x) :: putF f v r) from rfl]
    by_cases hk : k = f
    · rw [if_pos hk]
      by_cases h : g = k
      · have hb : (g == k) = true := beq_iff_eq.mpr h
        simp only [List.lookup, hb, if_pos (h.trans hk)]
      · have hb : (g == k) = false := beq_eq_false_iff_ne.mpr h
        simp only [List.lookup, hb, if_neg (fun e : g = f => h (e.trans hk.symm))]
    · rw [if_neg hk]
      by_cases h : g = k
      · have hb : (g == k) = true := beq_iff_eq.mpr h
        simp only [List.lookup, hb, if_neg (fun e : g = f => hk (h.symm.trans e))]
      · have hb : (g == k) = false := beq_eq_false_iff_ne.mpr h
        simp only [List.lookup, hb]
        exact ih
theorem keys_putF (f : Str) (v : V) : ∀ fs : List (Str × V), f ∈ (putF f v fs).map (·.1) ∧ ∀ g, g ∈ fs.map (·.1) → g ∈ (putF f v fs).map (·.1)
  | [] => ⟨by simp [putF], fun g h => by simp at h⟩
  | (k, x) :: r => by
    obtain ⟨i1, i2⟩ := keys_putF f v r
    rw [show putF f v ((k, x) :: r) = (if k = f then (k, v) :: r else (k, x) :: putF f v r) from rfl]
    by_cases hk : k = f
    · rw [if_pos hk]
      subst hk
      exact ⟨by simp, fun g h => by simpa using h⟩
    · rw [if_neg hk]
      refine ⟨?_, fun g h => ?_⟩
      · rw [List.map_cons]
        exact List.mem_cons_of_mem _ i1
      · rw [List.map_cons] at h ⊢
        rcases List.mem_cons.mp h with e | e
        · exact List.mem_cons.mpr (.inl e)
        · exact List.mem_cons_of_mem _ (i2 g e)
theorem length_putF (f : Str) (v : V) : ∀ fs : List (Str × V), (putF f v fs).length ≤ fs.length + 1
  | [] => by simp [putF]
  | (k, x) :: r => by
    have ih := length_putF f v r
    rw [show putF f v ((k, x) :: r) = (if k = f then (k, v) :: r else (k, x) :: putF f v r) from rfl]
    by_cases hk : k = f
    · rw [if_pos hk, List.length_cons, List.length_cons]; omega
    · rw [if_neg hk, List.length_cons, List.length_cons]; omega

theorem RelO.some_of {v : V} {o : Option Value} (r : RelO (some v) o) : ∃ u, o = some u ∧ RelV v u := by
  cases o with
  | none => exact (show False from r).elim
  | some u => exact ⟨u, rfl, r⟩
theorem RelO.none_of {o : Option Value} (r : RelO none o) : o = none := by
  cases o with
  | none => rfl
  | some u => exact (show False from r).elim
theorem handed_of {v : V} {u : Value} (r : RelV v u) : PySem.W.handedIn u = true := by
  cases v with
  | non => cases (show u = Value.none from r); rfl
  | bl b => cases (show u = Value.bool b from r); rfl
  | int i => obtain ⟨t, e⟩ := (show ∃ t, u = Value.int i t from r); cases e; rfl
  | str x => obtain ⟨t, e⟩ := (show ∃ t, u = Value.str x t from r); cases e; rfl
  | byt b => obtain ⟨t, e⟩ := (show ∃ t, u = Value.bytes b t from r); cases e; rfl
  | flt b => obtain ⟨t, e⟩ := (show ∃ t, u = Value.float b t from r); cases e; rfl
  | ref a => cases (show u = Value.ref a from r); rfl
  | ty n => cases (show u = Value.type n from r); rfl

section
variable {P : Program} {w : World} {H H' : Hp} {h h' : Heap} {a C dx : Addr} {fs fs' : List (Str × V)}
theorem ins_get (hok : HOk P w H h) (e : H a = some (.ins C dx fs)) : ∃ mA, ObjM h a dx C mA ∧ (∀ f, RelO (fs.lookup f) (mA f)) ∧ PySem.Within mA (fs.map (·.1)) ∧ fs.length ≤ 1000 ∧ H dx = some (.own a) := by
  obtain ⟨d, z, ne, ob, mA, n, r, q⟩ := (show ObjOk P w H h a (.ins C dx fs) from hok a _ e)
  exact ⟨mA, ⟨ob, n, ne⟩, r, q, z, d⟩
end

structure Cls (K : PySem.W.Frag) (C : Addr) : Prop where
  pg : PySem.W.plainGet K C Str.empty = true
  hd : PySem.W.hasDictIn K C = true
  po : PySem.W.plainOver K C = true
  sa : PySem.W.findIn K (.ref C) "__setattr__" = some (some (.builtin "object.__setattr__"))
theorem Cls.get {K : PySem.W.Frag} {C : Addr} (c : Cls K C) (f : Str) : PySem.W.plainGet K C f = true := c.pg
/-- no class of it has the name -/
def NoAttr (K : PySem.W.Frag) (C : Addr) (f : Str) : Prop := PySem.W.findIn K (.ref C) f = some none
theorem NoAttr.taker {K : PySem.W.Frag} {C : Addr} {f : Str} (n : NoAttr K C f) : PySem.W.takerIn K C f = some none := by
  unfold PySem.W.takerIn
  rw [show PySem.W.findIn K (.ref C) f = some none from n]
  rfl
/-- a method: a plain def of the class or of one above it -/
structure Meth (K : PySem.W.Frag) (C : Addr) (m : Str) (f : Addr) : Prop where
  at_ : PySem.W.findIn K (.ref C) m = some (some (.ref f))
  fn : PySem.W.isFn K (.ref f) = true
  kp : PySem.W.keepIn K (.ref f) = true

section
variable {X : Cx} {pins : List (Addr × Obj)} {σ : St} {H : Hp} {s : Shared} {a C dx : Addr} {fs : List (Str × V)} {f : Str} {v : V} {A : Around} {E : Value → Shared → Prop}

theorem getattr_ok {b : Bool} {Q : Value → Shared → Prop} (I : Inv X pins σ H s) (e : H a = some (.ins C dx fs)) (c : Cls X.K C) (n : NoAttr X.K C f) (l : fs.lookup f = some v)
    (h : ∀ u s', Inv X pins σ H s' → RelV v u → Q u s') : wpAny (model X.prog X.w) A (getAttr (.ref a) f b) Q E s := by
  obtain ⟨mA, O, r, _, _, _⟩ := ins_get I.hok e
  obtain ⟨u, hu, ru⟩ := RelO.some_of (v := v) (o := mA f) (by rw [← l]; exact r f)
  exact get_map I.kIn O (c.get f) c.hd n hu (handed_of ru) (h u _ (I.tok _) ru)

theorem getmeth_ok {m : Str} {g : Addr} {pl : Sem Bool} {Q : Value × List Value → Shared → Prop} (I : Inv X pins σ H s) (e : H a = some (.ins C dx fs)) (c : Cls X.K C) (k : Meth X.K C m g) (l : fs.lookup m = none)
    (h : Q (.ref g, [.ref a]) s) : wpAny (model X.prog X.w) A (getMethod (.ref a) m pl) Q E s := by
  obtain ⟨mA, O, r, _, _, _⟩ := ins_get I.hok e
  have hn : mA m = none := RelO.none_of (by rw [← l]; exact r m)
  exact get_meth I.kIn O (c.get m) k.at_ k.fn hn h

theorem setattr_ok {y : V} {u : Value} {Q : Unit → Shared → Prop} (I : Inv X pins σ H s) (e : H a = some (.ins C dx fs)) (c : Cls X.K C) (n : NoAttr X.K C f) (hl : fs.length < 1000) (ry : RelV y u)
    (h : ∀ s', Inv X pins σ (upd H a (.ins C dx (putF f y fs))) s' → Q () s') : wpAny (model X.prog X.w) A (setAttr (.ref a) f u) Q E s := by
  obtain ⟨mA, O, r, wi, _, ho⟩ := ins_get I.hok e
  have hz : (fs.map (·.1)).length ≤ sizeLine := by rw [List.length_map, sizeLine_eq]; omega
  refine set_map I.kIn O c.sa c.po n.taker c.hd wi hz fun h' O' sb => h _ ?_
  have hd : ∃ o, h'.get? dx = some o := let ⟨o, _, _, e', _⟩ := O'.ns; ⟨o, e'⟩
  refine I.write (x := a) (e := dx) (by rw [e]; exact True.intro) (.inr ho) (fun b q hb z => (sb.2 b hb).trans z) hd ?_
  refine ⟨by rw [upd_ne O.ne]; exact ho, ?_, O.ne, O'.obj, _, O'.ns, fun g => ?_, fun g hg => ?_⟩
  · have := length_putF f y fs; omega
  · show RelO ((putF f y fs).lookup g) (if g = f then some u else mA g)
    rw [lookup_putF]
    by_cases q : g = f
    · rw [if_pos q, if_pos q]; exact ry
    · rw [if_neg q, if_neg q]; exact r g
  · by_cases q : g = f
    · rw [q]; exact (keys_putF f y fs).1
    · refine (keys_putF f y fs).2 g (wi g fun z => hg ?_)
      show (if g = f then some u else mA g) = none
      rw [if_neg q]; exact z

/-- a new instance, tracked, without attributes -/
theorem Inv.made (I : Inv X pins σ H s) : Inv X pins σ (upd (upd H s.heap.objs.size (.own (s.heap.objs.size + 1))) (s.heap.objs.size + 1) (.ins C s.heap.objs.size []))
    { s with heap := (s.heap.push PySem.W.emptyDict).push (PySem.W.instObj C s.heap.objs.size) } := by
  have e1 : (s.heap.push PySem.W.emptyDict).get? s.heap.objs.size = some PySem.W.emptyDict := Heap.get?_push_size s.heap rfl
  have e2 : ((s.heap.push PySem.W.emptyDict).push (PySem.W.instObj C s.heap.objs.size)).get? (s.heap.objs.size + 1) = some (PySem.W.instObj C s.heap.objs.size) := by
    have := Heap.get?_push_size (s.heap.push PySem.W.emptyDict) (o := PySem.W.instObj C s.heap.objs.size) rfl
    rwa [Heap.size_push] at this
  have e3 : (s.heap.push PySem.W.emptyDict).Ns s.heap.objs.size (fun _ => none) := ⟨PySem.W.emptyDict, #[], _, e1, rfl, (fun e he => absurd he (by simp)), fun _ => rfl⟩
  have I1 := I.laid (a := s.heap.objs.size) (o := .own (s.heap.objs.size + 1)) (h' := s.heap.push PySem.W.emptyDict) (t' := s.toks) (fun b u q => Heap.get?_push_of_some _ q) (Nat.le_refl _) ⟨_, e1⟩
  refine I1.laid (a := s.heap.objs.size + 1) (o := .ins C s.heap.objs.size []) (t' := s.toks) (fun b u q => Heap.get?_push_of_some _ q) (Nat.le_of_eq (Heap.size_push _ _)) ?_
  have ne : s.heap.objs.size ≠ s.heap.objs.size + 1 := Nat.ne_of_lt (Nat.lt_succ_self _)
  refine ⟨by rw [upd_ne ne, upd_same], Nat.zero_le _, ne, e2, fun _ => none, (Heap.Ns1.of_empty e3).at fun o q => Heap.get?_push_of_some _ q, fun _ => True.intro, fun y hy => absurd rfl hy⟩

/-- e.f where nothing but the object is asked: through attributeBase (super) and the last hold -/
theorem attr_of {prog : Program} {w : World} {env : Env} {e : Expr} {f : Str} {pos : Pos} {s : Shared} {Q : Value → Shared → Prop} (hb : attributeBase e f env (eval e env) = eval e env)
    (h : wpAny (model prog w) A (eval e env) (fun o s₁ => wpAny (model prog w) A (getAttr o f true) Q E s₁) E s) : wpAny (model prog w) A (eval (.Attribute e f pos) env) Q E s :=
  Attribute_any_ h (by rw [arm_eval_Attribute, hb])
end

/-- e.f, an attribute of the instance -/
def tFld (K : PySem.W.Frag) (ta : TE) (f : Str) : TE := fun σ H Q => ta σ H fun x H1 => ∃ a C dx fs v, x = .ref a ∧ H1 a = some (.ins C dx fs) ∧ Cls K C ∧ NoAttr K C f ∧ fs.lookup f = some v ∧ Q v H1
/-- e.f = value -/
def sFld (K : PySem.W.Frag) (ta tv : TE) (f : Str) : TS := fun D σ H => tv σ H fun y H1 => ta σ H1 fun x H2 => ∃ a C dx fs, x = .ref a ∧ H2 a = some (.ins C dx fs) ∧ Cls K C ∧ NoAttr K C f ∧ fs.length < 1000 ∧
  D.nx σ (upd H2 a (.ins C dx (putF f y fs)))
/-- an augmented operator on two values -/
def InOp (X : Cx) (op : Operator) (rd : V → V → Hp → VK → Prop) : Prop :=
  ∀ (pins : List (Addr × Obj)) (s : Shared) (σ : St) (H : Hp) (x y : V) (u v : Value) (Q : VK), Inv X pins σ H s → RelV x u → RelV y v → rd x y H Q → wpAny (model X.prog X.w) X.A (inplaceOp op u v) (EP X pins σ Q) X.xe s
/-- e.f op= value -/
def sFldAug (K : PySem.W.Frag) (ta tv : TE) (rd : V → V → Hp → VK → Prop) (f : Str) : TS := fun D σ H => ta σ H fun x H1 => ∃ a C dx fs v, x = .ref a ∧ H1 a = some (.ins C dx fs) ∧ Cls K C ∧ NoAttr K C f ∧ fs.lookup f = some v ∧
  tv σ H1 fun y H2 => rd v y H2 fun z H3 => ∃ dx' fs', H3 a = some (.ins C dx' fs') ∧ fs'.length < 1000 ∧ D.nx σ (upd H3 a (.ins C dx' (putF f z fs')))

section
variable {X : Cx} {o e value : Expr} {f : Str} {pos pos' tpos : Pos} {ta tv : TE}
theorem pe_fld (he : PE X e ta) (hb : attributeBase e f X.env (eval e X.env) = eval e X.env) : PE X (.Attribute e f pos) (tFld X.K ta f) := by
  intro pins s σ H Q I h
  refine attr_of hb (thn (he pins s σ H _ I h) fun u s1 ⟨x, H1, I1, rx, a, C, dx, fs, v, ex, ea, c, n, l, q⟩ => ?_)
  subst ex
  obtain rfl : u = Value.ref a := rx
  exact getattr_ok I1 ea c n l fun u' s2 I2 ru => ⟨v, H1, I2, ru, q⟩
theorem ps_fld (ha : PE X o ta) (hv : PE X value tv) (hs : swapsWith value (some (.Attribute o f pos')) pos.line X.env = pure false) : PS X (.Assign [.Attribute o f pos'] value pos) (sFld X.K ta tv f) := by
  intro pins s σ H D I h
  refine plainObj_wpAny_Assign_Attribute (thn (hv pins s σ H _ I h) fun u s1 ⟨y, H1, I1, ry, q⟩ => thn (ha pins s1 σ H1 _ I1 q) fun ov s2 ⟨x, H2, I2, rx, a, C, dx, fs, ex, ea, c, n, l, q2⟩ => ?_) hs
  subst ex
  obtain rfl : ov = Value.ref a := rx
  exact setattr_ok I2 ea c n l ry fun s3 I3 => ⟨σ, _, I3, q2⟩
theorem ps_fldaug {op : Operator} {rd : V → V → Hp → VK → Prop} (ha : PE X o ta) (hv : PE X value tv) (hop : InOp X op rd) : PS X (.AugAssign (.Attribute o f tpos) op value pos) (sFldAug X.K ta tv rd f) := by
  intro pins s σ H D I h
  refine wpAny_AugAssign_AttributeAny (thn (ha pins s σ H _ I h) fun ov s1 ⟨x, H1, I1, rx, a, C, dx, fs, v, ex, ea, c, n, l, q⟩ => ?_)
  subst ex
  obtain rfl : ov = Value.ref a := rx
  refine getattr_ok I1 ea c n l fun u s2 I2 ru => thn (hv pins s2 σ H1 _ I2 q) fun w3 s3 ⟨y, H2, I3, ry, q3⟩ => thn (hop pins s3 σ H2 v y u w3 _ I3 ru ry q3) fun w4 s4 ⟨z, H3, I4, rz, dx', fs', ea', l', q4⟩ => ?_
  exact setattr_ok I4 ea' c n l' rz fun s5 I5 => ⟨σ, _, I5, q4⟩
def rAdd : V → V → Hp → VK → Prop := fun x y H Q => ∃ i j, x = .int i ∧ y = .int j ∧ Q (.int (i + j)) H
def rSub : V → V → Hp → VK → Prop := fun x y H Q => ∃ i j, x = .int i ∧ y = .int j ∧ Q (.int (i - j)) H
theorem in_add : InOp X .Add rAdd := by
  rintro pins s σ H x y u v Q I rx ry ⟨i, j, rfl, rfl, q⟩
  obtain ⟨t, rfl⟩ := (show ∃ t, u = Value.int i t from rx)
  obtain ⟨t', rfl⟩ := (show ∃ t', v = Value.int j t' from ry)
  exact PyProof.Rows.iadd_int ⟨.int (i + j), H, I.tok _, ⟨_, rfl⟩, q⟩
theorem in_sub : InOp X .Sub rSub := by
  rintro pins s σ H x y u v Q I rx ry ⟨i, j, rfl, rfl, q⟩
  obtain ⟨t, rfl⟩ := (show ∃ t, u = Value.int i t from rx)
  obtain ⟨t', rfl⟩ := (show ∃ t', v = Value.int j t' from ry)
  exact PyProof.Rows.isub_int ⟨.int (i - j), H, I.tok _, ⟨_, rfl⟩, q⟩

end

section
variable {X : Cx} {pins : List (Addr × Obj)} {σ : St} {H : Hp} {s : Shared} {A : Around} {E : Value → Shared → Prop} {Q : Value → Shared → Prop} {c : Value} {b : Bool}
end
end L2

namespace L2
open PySem PySem.Spec PyProof.Rows

structure Room (k : Nat) (A : Around) : Prop where
  hd : A.handled = none
  dp : A.depth + 3 * k + 5 < recursionLimit
  un : A.units + 16 * k + 200 < cLine
theorem Room.mono {j k : Nat} {A : Around} (r : Room k A) (h : j ≤ k) : Room j A := ⟨r.hd, by have := r.dp; omega, by have := r.un; omega⟩
theorem Room.deeper {k : Nat} {A : Around} (r : Room (k + 1) A) (env : Env) : Room k (A.deeper env) :=
  ⟨r.hd, by have := r.dp; show A.depth + 1 + 3 * k + 5 < _; omega, by have := r.un; show A.units + 3 + 16 * k + 200 < _; omega⟩
theorem Room.in1 {k : Nat} {A : Around} (r : Room (k + 1) A) : Room k A.in1 :=
  ⟨r.hd, by have := r.dp; show A.depth + 3 * k + 5 < _; omega, by have := r.un; show A.units + 1 + 16 * k + 200 < _; omega⟩
theorem make_depth {A : Around} {C : Addr} {us : List Value} {kw : List (Str × Value)} : (A.under (.builtin "type.__call__" ⟨.ref C :: us, kw⟩)).depth = A.depth + 1 := by
  first | rfl | simp [Around.under, Code.weight, Code.isCreation, Code.isGuard, Code.isCaller, Code.frames, Code.isFrame, guardIds]
theorem make_units {A : Around} {C : Addr} {us : List Value} {kw : List (Str × Value)} : (A.under (.builtin "type.__call__" ⟨.ref C :: us, kw⟩)).units = A.units + 1 := by
  first | rfl | simp [Around.under, Code.cUnits, Code.frames, Code.isFrame]
theorem Room.make {k : Nat} {A : Around} (r : Room (k + 1) A) (C : Addr) (us : List Value) (kw : List (Str × Value)) : Room k (A.under (.builtin "type.__call__" ⟨.ref C :: us, kw⟩)) :=
  ⟨r.hd, by have := r.dp; rw [make_depth]; omega, by have := r.un; rw [make_units]; omega⟩
theorem Room.depth {k : Nat} {A : Around} (r : Room k A) : A.depth < recursionLimit := by have := r.dp; omega

def tNil : TA := fun _ H Q => Q [] H
def tCons (ta : TE) (tr : TA) : TA := fun σ H Q => ta σ H fun x H1 => tr σ H1 fun xs H2 => Q (x :: xs) H2
section
variable {X : Cx} {e : Expr} {es : List Expr} {te : TE} {t : TA} {pos : Pos}
theorem pa_nil : PA X [] tNil := fun _ _ _ _ H Q I h => Calls.spliced_nil ⟨[], H, I, .nil, h⟩
theorem pa_cons (ha : PE X e te) (hr : PA X es t) (hs : starEach (e :: es) X.env = (false, eval e X.env) :: starEach es X.env := by rfl) : PA X (e :: es) (tCons te t) := by
  intro pos pins s σ H Q I h
  rw [hs]
  show wpAny _ _ (spliced ((false, eval e X.env) :: backTo pos (starEach es X.env))) _ _ s
  refine Calls.spliced_cons (thn (ha pins s σ H _ I h) fun u s1 ⟨x, H1, I1, r1, q1⟩ => ?_)
  exact thn (hr pos pins s1 σ H1 _ I1 q1) fun us s2 ⟨xs, H2, I2, r2, q2⟩ => ⟨x :: xs, H2, I2, .cons r1 r2, q2⟩

/-- a tuple, a list of written items -/
def tTup (t : TA) : TE := fun σ H Q => t σ H fun xs H1 => xs.length ≤ sizeLine ∧ ∀ p, H1 p = none → Q (.ref p) (upd H1 p (.tup xs))
def tLst (t : TA) : TE := fun σ H Q => t σ H fun xs H1 => xs.length ≤ sizeLine ∧ ∀ p, H1 p = none → Q (.ref p) (upd H1 p (.lst xs))
theorem pe_tup {x1} (h : PA X es t) : PE X (.Tuple es x1 pos) (tTup t) := by
  intro pins s σ H Q I hq
  refine wpAny_Tuple_spliced (thn (h pos pins s σ H _ I hq) fun us s1 ⟨xs, H1, I1, r, z, q⟩ => ⟨by rw [← r.length]; exact z, ?_⟩)
  have hf : H1 s1.heap.objs.size = none := I1.hok.fresh (Nat.le_refl _)
  refine ⟨.ref s1.heap.objs.size, upd H1 s1.heap.objs.size (.tup xs), I1.laid (t' := s1.toks) (fun b u e => Heap.get?_push_of_some _ e) (Nat.le_refl _) ?_, rfl, q _ hf⟩
  exact ⟨z, us, r, ⟨_, Heap.get?_push_size _ rfl, rfl, _, rfl⟩⟩
theorem pe_lst (h : PA X es t) : PE X (.List es pos) (tLst t) := by
  intro pins s σ H Q I hq
  refine wpAny_List_spliced (thn (h pos pins s σ H _ I hq) fun us s1 ⟨xs, H1, I1, r, z, q⟩ => ⟨by rw [← r.length]; exact z, ?_⟩)
  have hf : H1 s1.heap.objs.size = none := I1.hok.fresh (Nat.le_refl _)
  refine ⟨.ref s1.heap.objs.size, upd H1 s1.heap.objs.size (.lst xs), I1.laid (t' := s1.toks) (fun b u e => Heap.get?_push_of_some _ e) (Nat.le_refl _) ?_, rfl, q _ hf⟩
  exact ⟨z, us, 0, r, Heap.get?_push_size _ rfl⟩
end

/-- a def's promise: the bound arguments in the parameters' order, the heap, the wanted end, the wanted exception -/
abbrev Sp := List V → Hp → VK → XK → Prop
/-- how an exception lies behind a call (file 08 gives it): the callers' frames, abstract heap and state ahead of the call, the wish, the exception, the state -/
abbrev CXT := List Env → Hp → Shared → XK → Value → Shared → Prop

/-- the state at a call -/
structure Env0 (P : Program) (w : World) (K : PySem.W.Frag) (mg : Str → Option Value) (base : Heap) (A : Around) (outer : List Env) (s : Shared) (H : Hp) : Prop where
  frames : A.frames = some outer
  mod : Mod K mg base
  bs : ∀ b o, base.get? b = some o → s.heap.get? b = some o ∧ H b = none
  bsz : base.objs.size ≤ s.heap.objs.size
  funs : s.heap.FunFrames base outer
  frf : ∀ b ∈ frs outer, H b = none
  hok : HOk P w H s.heap
  bare : AllBare s.gens
/-- a call's end -/
def CE (outer : List Env) (P : Program) (w : World) (H : Hp) (s : Shared) (Q : VK) (u : Value) (s' : Shared) : Prop :=
  ∃ v H', s'.os = s.os ∧ AllBare s'.gens ∧ Un (frs outer) [] H H' s.heap s'.heap ∧ HOk P w H' s'.heap ∧ RelV v u ∧ Q v H'
def CR (CX : CXT) (outer : List Env) (P : Program) (w : World) (H : Hp) (s : Shared) (Q : VK) (E : XK) (r : Result) (s' : Shared) : Prop :=
  match r with
  | .ok (.ret u) => CE outer P w H s Q u s'
  | .ok _ => False
  | .error e => CX outer H s E e s'
structure FnOk (P : Program) (w : World) (K : PySem.W.Frag) (mg : Str → Option Value) (base : Heap) (CX : CXT) (k : Nat) (f : Addr) (fd : FuncData) (ps : List Str) (sp : Sp) : Prop where
  len : ∀ vs H Q E, sp vs H Q E → vs.length = ps.length
  run : ∀ (A : Around) (outer : List Env) (s : Shared) (H : Hp) (args : Args) (us : List Value) (vs : List V) (Q : VK) (E : XK), Room k A → Env0 P w K mg base A outer s H → BindsTo s fd args (ps.zip us) → Vals vs us → sp vs H Q E →
    codeAny (model P w) A (.call (.ref f) args) (CR CX outer P w H s Q E) s
/-- a weaker promise -/
theorem FnOk.imp {P : Program} {w : World} {K : PySem.W.Frag} {mg : Str → Option Value} {base : Heap} {CX : CXT} {k : Nat} {f : Addr} {fd : FuncData} {ps : List Str} {sp sp' : Sp} (F : FnOk P w K mg base CX k f fd ps sp)
    (h : ∀ vs H Q E, sp' vs H Q E → sp vs H Q E) : FnOk P w K mg base CX k f fd ps sp' :=
  ⟨fun vs H Q E q => F.len vs H Q E (h _ _ _ _ q), fun A outer s H args us vs Q E hr he hb hv hs => F.run A outer s H args us vs Q E hr he hb hv (h _ _ _ _ hs)⟩

theorem Env0.make {P : Program} {w : World} {K : PySem.W.Frag} {mg : Str → Option Value} {base : Heap} {A : Around} {outer : List Env} {s : Shared} {H : Hp} (e : Env0 P w K mg base A outer s H) (C : Addr) (us : List Value) (kw : List (Str × Value)) :
    Env0 P w K mg base (A.under (.builtin "type.__call__" ⟨.ref C :: us, kw⟩)) outer s H := ⟨by first | exact e.frames | (simpa [Around.under, Code.envs, Code.isFrame, pushEnvs] using e.frames), e.mod, e.bs, e.bsz, e.funs, e.frf, e.hok, e.bare⟩
theorem Env0.in1 {P : Program} {w : World} {K : PySem.W.Frag} {mg : Str → Option Value} {base : Heap} {A : Around} {outer : List Env} {s : Shared} {H : Hp} (e : Env0 P w K mg base A outer s H) :
    Env0 P w K mg base A.in1 outer s H := ⟨e.frames, e.mod, e.bs, e.bsz, e.funs, e.frf, e.hok, e.bare⟩

section
variable {X : Cx} {pins : List (Addr × Obj)} {σ : St} {H : Hp} {s s' : Shared}
/-- from a body: what a callee wants -/
theorem Inv.env0 (I : Inv X pins σ H s) : Env0 X.prog X.w X.K X.mg X.base X.A X.stack s H :=
  ⟨I.ok.frames, I.ok.mod, I.bs, Nat.le_trans I.ok.bsz I.sz, I.stack, I.stkFree, I.hok, I.bare⟩
/-- behind a call -/
theorem Inv.after {Q : VK} {u : Value} (I : Inv X pins σ H s) (h : CE X.stack X.prog X.w H s Q u s') : EP X pins σ Q u s' := by
  obtain ⟨v, H', os, bare, un, hok, r, q⟩ := h
  obtain ⟨hh, g, d, t, os'⟩ := s'
  obtain rfl : os' = s.os := os
  exact ⟨v, H', I.call (h' := hh) (g' := g) (d' := d) (t' := t) (ch := []) un hok bare (fun b z => absurd z (by simp)), r, q⟩
end

/-- f(..): the written arguments, then the defaults dvs; E: what is wanted of an exception -/
def tCall (sp : Sp) (dvs : List V) (E : XK) (t : TA) : TE := fun σ H Q => t σ H fun vs H1 => sp (vs ++ dvs) H1 Q E
/-- o.m(..) of an instance of the class at C -/
def tMeth (C : Addr) (m : Str) (sp : Sp) (dvs : List V) (E : XK) (ta : TE) (t : TA) : TE := fun σ H Q => ta σ H fun x H1 => ∃ a dx fs, x = .ref a ∧ H1 a = some (.ins C dx fs) ∧ fs.lookup m = none ∧
  t σ H1 fun vs H2 => sp (x :: (vs ++ dvs)) H2 Q E
/-- C(..): a new instance and its dict, then __init__ -/
def tMake (C : Addr) (sp : Sp) (dvs : List V) (E : XK) (t : TA) : TE := fun σ H Q => t σ H fun vs H1 => ∀ x dx, H1 x = none → H1 dx = none → dx ≠ x →
  sp (.ref x :: (vs ++ dvs)) (upd (upd H1 dx (.own x)) x (.ins C dx [])) (fun v H2 => v = .non ∧ Q (.ref x) H2) E

/-- how the parameters are bound: us the positional arguments, kw the keywords' values by name, ds the defaults that fill up -/
def Binds (K : PySem.W.Frag) (fd : FuncData) (ps : List Str) (ds : List Value) : Prop :=
  ∀ (s : Shared) (us : List Value), K.In s.heap → (us ++ ds).length = ps.length → BindsTo s fd ⟨us, []⟩ (ps.zip (us ++ ds))
/-- every parameter is given -/
theorem Binds.all {K : PySem.W.Frag} {fd : FuncData} {ps : List Str} (h : ∀ us : List Value, us.length = ps.length → bindArgs fd ⟨us, []⟩ = pure (ps.zip us)) : Binds K fd ps [] := fun s us _ hl => by
  rw [List.append_nil] at hl ⊢
  exact .of_eq (h us hl)

/-- an exception of a callee reaches what this body wants of exceptions -/
def Passes (CX : CXT) (X : Cx) (E : XK) : Prop := ∀ (pins : List (Addr × Obj)) (σ : St) (H : Hp) (s : Shared) (e : Value) (s' : Shared), Inv X pins σ H s → CX X.stack H s E e s' → X.xe e s'

section
variable {X : Cx} {CX : CXT} {k : Nat} {f C : Addr} {fd : FuncData} {ps : List Str} {sp : Sp} {dvs : List V} {ds : List Value} {E : XK} {x m : Str} {p pos apos : Pos} {e o : Expr} {es : List Expr} {ta : TE} {t : TA}

/-- the callee runs -/
theorem run_fn {pins : List (Addr × Obj)} {σ : St} {H : Hp} {s : Shared} {Q : VK} {us : List Value} {vs : List V} (F : FnOk X.prog X.w X.K X.mg X.base CX k f fd ps sp) (hr : Room k X.A) (hb : Binds X.K fd ps ds) (hd : Vals dvs ds) (hx : Passes CX X E)
    (I : Inv X pins σ H s) (r : Vals vs us) (h : sp (vs ++ dvs) H Q E) : wpAny (model X.prog X.w) X.A (call (.ref f) us) (EP X pins σ Q) X.xe s := by
  have r2 : Vals (vs ++ dvs) (us ++ ds) := r.append hd
  have hl : (us ++ ds).length = ps.length := by rw [← r2.length]; exact F.len _ _ _ _ h
  refine wpAny_call (codeAny_mono (F.run X.A X.stack s H ⟨us, []⟩ (us ++ ds) (vs ++ dvs) Q E hr I.env0 (hb s us I.kIn hl) r2 h) fun r s' hq => ?_)
  cases r with
  | error e => exact hx pins σ H s e s' I hq
  | ok fl =>
    cases fl with
    | ret u => exact I.after hq
    | next => exact False.elim hq
    | brk => exact False.elim hq
    | cont => exact False.elim hq

theorem pe_call (F : FnOk X.prog X.w X.K X.mg X.base CX k f fd ps sp) (hr : Room k X.A) (hg : Gl X x) (hm : X.mg x = some (.ref f)) (hk : PySem.W.keepIn X.K (.ref f) = true) (hb : Binds X.K fd ps ds) (hd : Vals dvs ds) (hx : Passes CX X E)
    (ha : PA X (e :: es) t) (hdb : (x == ("__debug__" : Str)) = false := by decide) (he : starEach (e :: es) X.env = (false, eval e X.env) :: starEach es X.env := by rfl) (hpl : (backTo pos (starEach es X.env)).any (·.1) = false := by rfl) :
    PE X (.Call (.Name x p) (e :: es) [] pos) (tCall sp dvs E t) := by
  intro pins s σ H Q I h
  refine wpAny_Call_Name_kw (ld_glob I hg hm ?_ hdb)
  refine PySem.W.callWith_K (h₀ := X.base) I.ok.mod.kin hk (thn (ha pos pins s σ H _ I h) fun us s1 ⟨vs, H1, I1, r, q⟩ => ⟨I1.kIn, ?_⟩) he hpl
  exact run_fn F hr hb hd hx I1 r q
theorem pe_call0 (F : FnOk X.prog X.w X.K X.mg X.base CX k f fd ps sp) (hr : Room k X.A) (hg : Gl X x) (hm : X.mg x = some (.ref f)) (hk : PySem.W.keepIn X.K (.ref f) = true) (hb : Binds X.K fd ps ds) (hd : Vals dvs ds) (hx : Passes CX X E)
    (hdb : (x == ("__debug__" : Str)) = false := by decide) : PE X (.Call (.Name x p) [] [] pos) (tCall sp dvs E tNil) := by
  intro pins s σ H Q I h
  refine wpAny_Call_Name_kw (ld_glob I hg hm ?_ hdb)
  exact PySem.W.callWith_K0 I.kIn hk (run_fn (us := []) F hr hb hd hx I .nil h)

/-- o.m(e, ..) -/
theorem pe_meth {pl : Sem Bool} (he : PE X o ta) (c : Cls X.K C) (hm : Meth X.K C m f) (F : FnOk X.prog X.w X.K X.mg X.base CX k f fd ps sp) (hr : Room k X.A) (hb : Binds X.K fd ps ds) (hd : Vals dvs ds) (hx : Passes CX X E) (ha : PA X (e :: es) t)
    (hst : starEach (e :: es) X.env = (false, eval e X.env) :: starEach es X.env := by rfl) (hpl : (backTo pos (starEach es X.env)).any (·.1) = false := by rfl)
    (ht : eval (.Call (.Attribute o m apos) (e :: es) [] pos) X.env = (do
      let ov ← eval o X.env
      standAt apos.atName
      let (f, first) ← holding [ov] (getMethod ov m pl)
      callWith pos f first (backTo pos (starEach (e :: es) X.env)) (backToKw pos (keywordEach [] X.env))) := by rfl) :
    PE X (.Call (.Attribute o m apos) (e :: es) [] pos) (tMeth C m sp dvs E ta t) := by
  intro pins s σ H Q I h
  refine PySem.W.methodCall_KW (pl := pl) (thn (he pins s σ H _ I h) fun u s1 ⟨x, H1, I1, rx, a, dx, fs, ex, ea, l, q⟩ => ?_) ht
  subst ex
  obtain rfl : u = Value.ref a := rx
  refine getmeth_ok I1 ea c hm l ?_
  refine PySem.W.callWith_K (first := [.ref a]) (h₀ := X.base) I.ok.mod.kin hm.kp (thn (ha pos pins s1 σ H1 _ I1 q) fun us s2 ⟨vs, H2, I2, r, q2⟩ => ⟨I2.kIn, ?_⟩) hst hpl
  exact run_fn (us := .ref a :: us) (vs := .ref a :: vs) F hr hb hd hx I2 (.cons rfl r) q2
/-- o.m() -/
theorem pe_meth0 {pl : Sem Bool} (he : PE X o ta) (c : Cls X.K C) (hm : Meth X.K C m f) (F : FnOk X.prog X.w X.K X.mg X.base CX k f fd ps sp) (hr : Room k X.A) (hb : Binds X.K fd ps ds) (hd : Vals dvs ds) (hx : Passes CX X E)
    (ht : eval (.Call (.Attribute o m apos) [] [] pos) X.env = (do
      let ov ← eval o X.env
      standAt apos.atName
      let (f, first) ← holding [ov] (getMethod ov m pl)
      callWith pos f first (backTo pos (starEach [] X.env)) (backToKw pos (keywordEach [] X.env))) := by rfl) :
    PE X (.Call (.Attribute o m apos) [] [] pos) (tMeth C m sp dvs E ta tNil) := by
  intro pins s σ H Q I h
  refine PySem.W.methodCall_KW (pl := pl) (thn (he pins s σ H _ I h) fun u s1 ⟨x, H1, I1, rx, a, dx, fs, ex, ea, l, q⟩ => ?_) ht
  subst ex
  obtain rfl : u = Value.ref a := rx
  refine getmeth_ok I1 ea c hm l ?_
  exact PySem.W.callWith_K0 (first := [.ref a]) I1.kIn hm.kp (run_fn (us := [.ref a]) (vs := [.ref a]) F hr hb hd hx I1 (.cons rfl .nil) q)

/-- what a class must have to be made -/
structure Mk (K : PySem.W.Frag) (C f : Addr) : Prop where
  makes : PySem.W.makesIn K C = true
  init : PySem.W.findIn K (.ref C) "__init__" = some (some (.ref f))
  fn : PySem.W.isFn K (.ref f) = true
  kp : PySem.W.keepIn K (.ref C) = true

theorem run_make {pins : List (Addr × Obj)} {σ : St} {H : Hp} {s : Shared} {Q : VK} {us : List Value} {vs : List V} (M : Mk X.K C f) (F : FnOk X.prog X.w X.K X.mg X.base CX k f fd ps sp) (hr : Room (k + 1) X.A) (hb : Binds X.K fd ps ds) (hd : Vals dvs ds)
    (hx : Passes CX X E) (I : Inv X pins σ H s) (r : Vals vs us)
    (h : ∀ x dx, H x = none → H dx = none → dx ≠ x → sp (.ref x :: (vs ++ dvs)) (upd (upd H dx (.own x)) x (.ins C dx [])) (fun v H2 => v = .non ∧ Q (.ref x) H2) E) :
    wpAny (model X.prog X.w) X.A (call (.ref C) us) (EP X pins σ Q) X.xe s := by
  have hq := h (s.heap.objs.size + 1) s.heap.objs.size (I.hok.fresh (Nat.le_succ _)) (I.hok.fresh (Nat.le_refl _)) (Nat.ne_of_lt (Nat.lt_succ_self _))
  have I2 := Inv.made (C := C) I
  have r2 : Vals (V.ref (s.heap.objs.size + 1) :: (vs ++ dvs)) (Value.ref (s.heap.objs.size + 1) :: (us ++ ds)) := .cons rfl (r.append hd)
  have hl : (Value.ref (s.heap.objs.size + 1) :: us ++ ds).length = ps.length := by
    have e := r2.length
    rw [F.len _ _ _ _ hq] at e
    exact e.symm
  refine wpAny_call (make_map (f := f) I.kIn M.makes M.init (beq_iff_eq.mp M.fn) (codeAny_mono (F.run _ X.stack _ _ ⟨Value.ref (s.heap.objs.size + 1) :: us, []⟩ (Value.ref (s.heap.objs.size + 1) :: (us ++ ds)) _ _ E (hr.make C us [])
    (I2.env0.make C us []) (hb _ (Value.ref (s.heap.objs.size + 1) :: us) I2.kIn hl) r2 hq) fun r s' hq' => ?_))
  cases r with
  | error e => exact hx pins σ _ _ e s' I2 hq'
  | ok fl =>
    cases fl with
    | ret u =>
      obtain ⟨v, H', I3, rv, ev, q3⟩ := I2.after hq'
      subst ev
      exact ⟨rv, ⟨V.ref (s.heap.objs.size + 1), H', I3, rfl, q3⟩⟩
    | next => exact False.elim hq'
    | brk => exact False.elim hq'
    | cont => exact False.elim hq'
theorem pe_make (M : Mk X.K C f) (F : FnOk X.prog X.w X.K X.mg X.base CX k f fd ps sp) (hr : Room (k + 1) X.A) (hg : Gl X x) (hm : X.mg x = some (.ref C)) (hb : Binds X.K fd ps ds) (hd : Vals dvs ds) (hx : Passes CX X E)
    (ha : PA X (e :: es) t) (hdb : (x == ("__debug__" : Str)) = false := by decide) (he : starEach (e :: es) X.env = (false, eval e X.env) :: starEach es X.env := by rfl) (hpl : (backTo pos (starEach es X.env)).any (·.1) = false := by rfl) :
    PE X (.Call (.Name x p) (e :: es) [] pos) (tMake C sp dvs E t) := by
  intro pins s σ H Q I h
  refine wpAny_Call_Name_kw (ld_glob I hg hm ?_ hdb)
  refine PySem.W.callWith_K (h₀ := X.base) I.ok.mod.kin M.kp (thn (ha pos pins s σ H _ I h) fun us s1 ⟨vs, H1, I1, r, q⟩ => ⟨I1.kIn, ?_⟩) he hpl
  exact run_make M F hr hb hd hx I1 r q
theorem pe_make0 (M : Mk X.K C f) (F : FnOk X.prog X.w X.K X.mg X.base CX k f fd ps sp) (hr : Room (k + 1) X.A) (hg : Gl X x) (hm : X.mg x = some (.ref C)) (hb : Binds X.K fd ps ds) (hd : Vals dvs ds) (hx : Passes CX X E)
    (hdb : (x == ("__debug__" : Str)) = false := by decide) : PE X (.Call (.Name x p) [] [] pos) (tMake C sp dvs E tNil) := by
  intro pins s σ H Q I h
  refine wpAny_Call_Name_kw (ld_glob I hg hm ?_ hdb)
  exact PySem.W.callWith_K0 I.kIn M.kp (run_make (us := []) M F hr hb hd hx I .nil h)
end

section
variable {X : Cx} {CX : CXT} {k : Nat} {f C : Addr} {fd : FuncData} {ps ks : List Str} {sp : Sp} {E : XK} {x m : Str} {p pos apos kpos : Pos} {e o : Expr} {es : List Expr} {kws : List Keyword} {te ta : TE} {t tk : TA} {nm : Option Str}

variable {g : List Value → List Value → List Value} {gV : List V → List V → List V}
end

/-- names: the parameters first -/
structure FnScope (N P : List Str) (sc : Scope) : Prop where
  kind : sc.kind = .function
  co : sc.isCoroutine = false
  gen : sc.isGenerator = false
  nd : N.Nodup
  pre : N.take P.length = P
  par : ∀ x ∈ P, sc.names.lookup x = some .local ∨ sc.names.lookup x = some .cell
  nofree : ∀ y ∈ sc.names, y.2 ≠ .free

theorem bindL_out {kindOf : Str → Option NameKind} {x : Str} : ∀ {binds : List (Str × Value)} {m : Str → Option Value}, (∀ v, (x, v) ∉ binds) → bindL kindOf binds m x = m x
  | [], _, _ => rfl
  | (n, v) :: r, m, h => by
    unfold bindL
    rw [bindL_out fun w hw => h w (List.mem_cons_of_mem _ hw)]
    split
    · have : x ≠ n := by rintro rfl; exact h v List.mem_cons_self
      simp [this]
    · rfl
theorem bindC_out {kindOf : Str → Option NameKind} {x : Str} : ∀ {binds : List (Str × Value)} {m : Str → Option Value}, (∀ v, (x, v) ∉ binds) → bindC kindOf binds m x = m x
  | [], _, _ => rfl
  | (n, v) :: r, m, h => by
    unfold bindC
    rw [bindC_out fun w hw => h w (List.mem_cons_of_mem _ hw)]
    split
    · rfl
    · have : x ≠ n := by rintro rfl; exact h v List.mem_cons_self
      simp [this]
theorem bindL_get {kindOf : Str → Option NameKind} {x : Str} {v : Value} : ∀ {P : List Str} {vs : List Value} {i : Nat} {m : Str → Option Value}, P.Nodup → P[i]? = some x → vs[i]? = some v → kindOf x = some .local →
    bindL kindOf (P.zip vs) m x = some v
  | [], _, _, _, _, h, _, _ => by simp at h
  | _ :: _, [], _, _, _, _, h, _ => by simp at h
  | p :: P, w :: vs, 0, m, nd, h1, h2, hk => by
    simp at h1 h2; subst h1; subst h2
    show bindL kindOf ((p, w) :: P.zip vs) m p = _
    unfold bindL
    rw [bindL_out fun v hv => (List.nodup_cons.mp nd).1 (List.of_mem_zip hv).1, if_pos hk]
    simp
  | p :: P, w :: vs, i + 1, m, nd, h1, h2, hk => by
    show bindL kindOf ((p, w) :: P.zip vs) m x = _
    unfold bindL
    exact bindL_get (i := i) (List.nodup_cons.mp nd).2 (by simpa using h1) (by simpa using h2) hk
theorem bindC_get {kindOf : Str → Option NameKind} {x : Str} {v : Value} : ∀ {P : List Str} {vs : List Value} {i : Nat} {m : Str → Option Value}, P.Nodup → P[i]? = some x → vs[i]? = some v → kindOf x ≠ some .local →
    bindC kindOf (P.zip vs) m x = some v
  | [], _, _, _, _, h, _, _ => by simp at h
  | _ :: _, [], _, _, _, _, h, _ => by simp at h
  | p :: P, w :: vs, 0, m, nd, h1, h2, hk => by
    simp at h1 h2; subst h1; subst h2
    show bindC kindOf ((p, w) :: P.zip vs) m p = _
    unfold bindC
    rw [bindC_out fun v hv => (List.nodup_cons.mp nd).1 (List.of_mem_zip hv).1, if_neg hk]
    simp
  | p :: P, w :: vs, i + 1, m, nd, h1, h2, hk => by
    show bindC kindOf ((p, w) :: P.zip vs) m x = _
    unfold bindC
    exact bindC_get (i := i) (List.nodup_cons.mp nd).2 (by simpa using h1) (by simpa using h2) hk

/-- the names' values at the entry -/
def start (N : List Str) (vs : List V) : St := vs.map some ++ List.replicate (N.length - vs.length) none

/-- the context of a def's body, at its entry; an exception leaves the frame, then lies as CX says -/
def cxOf (CX : CXT) (P : Program) (w : World) (K : PySem.W.Frag) (mg : Str → Option Value) (base : Heap) (N : List Str) (qual : Str) (scope : Scope) (f : Addr) (cd : Value) (A : Around) (outer : List Env) (s : Shared) (H : Hp) (E : XK) : Cx where
  prog := P
  w := w
  K := K
  mg := mg
  base := base
  A := A.deeper (envOfC qual scope s.heap.objs.size f cd)
  N := N
  s_0 := s
  H_0 := H
  env := envOfC qual scope s.heap.objs.size f cd
  outer := outer
  stack := envOfC qual scope s.heap.objs.size f cd :: outer
  ex := []
  calm := true
  fn := fun _ => true
  pn := []
  xe := fun e s' => wpAny (model P w) (A.deeper (envOfC qual scope s.heap.objs.size f cd)) (leaving (envOfC qual scope s.heap.objs.size f cd) e) (fun _ s'' => CX outer H s E e s'') (fun e' s'' => CX outer H s E e' s'') s'

theorem cell_has {sc : Scope} {n : Nat} {x : Str} (h : sc.names.lookup x = some .cell) : ∃ c, (cellsFrom n sc.names []).lookup x = some c := by
  have q := PySem.W.cellsFrom_some sc.names n [] (.inl h)
  exact Option.isSome_iff_exists.mp q

theorem inv_start {CX : CXT} {P : Program} {w : World} {K : PySem.W.Frag} {mg : Str → Option Value} {base : Heap} {N ps : List Str} {qual : Str} {scope : Scope} {f : Addr} {cd : Value} {A : Around} {outer : List Env} {s s1 : Shared} {H : Hp} {E : XK} {us : List Value} {vs : List V}
    (S : FnScope N ps scope) (hd : A.handled = none) (e0 : Env0 P w K mg base A outer s H) (hl : vs.length = ps.length) (r : Vals vs us)
    (x : InCallC s s.heap.objs.size (bindL (envOfC qual scope s.heap.objs.size f cd).kindOf (ps.zip us) fun _ => none) (cellsFrom (s.heap.objs.size + 1) scope.names []) (bindC (envOfC qual scope s.heap.objs.size f cd).kindOf (ps.zip us) fun _ => none) s1) :
    Inv (cxOf CX P w K mg base N qual scope f cd A outer s H E) [] (start N vs) H s1 := by
  have hpl : ps.length ≤ N.length := by have := congrArg List.length S.pre; rw [List.length_take] at this; omega
  obtain ⟨h1, tk, rfl, hk⟩ := x.done
  have noA : ∀ b : Addr, b ∉ (cxOf CX P w K mg base N qual scope f cd A outer s H E).ex := fun b z => absurd (show b ∈ ([] : List Addr) from z) (by simp)
  refine ⟨⟨e0.mod, S.kind, rfl, rfl, Nat.le_refl _, fun y z c h1 h2 => ?_, fun y hy => ?_, fun y c _ h => ?_, fun _ => hd, Around.frames_deeper e0.frames, .inr ⟨rfl, rfl⟩, fun b z => absurd z (noA b), e0.bs, e0.bsz, fun b _ _ => noA b, fun b z => absurd z (noA b), e0.funs, e0.frf⟩,
    rfl, e0.bare, Un.kept hk, ⟨_, x.toInCall.ns, fun i y v h1 h2 h3 => ?_⟩, fun y c h => ⟨_, x.cell y c h⟩, e0.hok.fresh (Nat.le_refl _), fun y c h => ?_, fun p hp => absurd (show p ∈ ([] : List (Addr × Obj)) from hp) (by simp), e0.hok.kept hk, ?_⟩
  · exact name_of_addr x.apart (PySem.mem_of_lookup h1) (PySem.mem_of_lookup h2)
  · have hy : scope.names.lookup y = some .cell ∨ scope.names.lookup y = some .free := hy
    rcases hy with hy | hy
    · exact cell_has hy
    · exact absurd rfl (S.nofree _ (PySem.mem_of_lookup hy))
  · exact Nat.le_of_lt (x.above y c (PySem.mem_of_lookup h))
  · have hi : i < vs.length := by
      unfold start at h2
      by_cases hi : i < vs.length
      · exact hi
      · rw [List.getElem?_append_right (by simpa using hi)] at h2
        rw [List.getElem?_replicate] at h2
        split at h2 <;> cases h2
    have ha : vs[i]? = some v := by
      unfold start at h2
      rw [List.getElem?_append_left (by simpa using hi), List.getElem?_map] at h2
      cases e : vs[i]? with
      | none => rw [e] at h2; cases h2
      | some a => rw [e] at h2; cases h2; rfl
    obtain ⟨u, hu, rv⟩ := r.get ha
    have hp : ps[i]? = some y := by
      rw [← S.pre, List.getElem?_take_of_lt (by omega)]; exact h1
    have ndP : ps.Nodup := by rw [← S.pre]; exact S.nd.sublist (List.take_sublist _ _)
    refine ⟨u, rv, ?_⟩
    rcases S.par y (List.mem_of_getElem? hp) with k | k
    · exact .inl ⟨k, bindL_get ndP hp hu k⟩
    · obtain ⟨c, e⟩ := cell_has (n := s.heap.objs.size + 1) k
      refine .inr ⟨.inl k, c, e, ?_⟩
      have q := x.cell y c e
      rw [bindC_get ndP hp hu (by show scope.names.lookup y ≠ _; rw [k]; decide)] at q
      exact q
  · exact e0.hok.fresh (Nat.le_of_lt (x.above y c (PySem.mem_of_lookup h)))
  · unfold start
    show _ = N.length
    rw [List.length_append, List.length_map, List.length_replicate]
    omega

/-- THE RULE: a def (or a method) of the text, by its body. The body's reading t is chosen for each entry; it is run at the parameters' values -/
theorem fn_of {CX : CXT} {P : Program} {w : World} {K : PySem.W.Frag} {mg : Str → Option Value} {base : Heap} {k : Nat} {f : Addr} {name qual : Str} {params : Arguments} {body : List Stmt} {scope : Scope} {dV kV doc pm cdv ct oc : Value} {an od : Option Addr}
    {osl : Array (Option Value)} {N ps : List Str} {sp : Sp} (lk : K.lookup f = some ⟨oc, od, .func (PySem.W.fnOf name qual params body scope dV kV doc pm an cdv ct), osl⟩) (hcd : PySem.W.codeIn K cdv qual = true) (S : FnScope N ps scope)
    (len : ∀ vs H Q E, sp vs H Q E → vs.length = ps.length)
    (hbody : ∀ (A : Around) (outer : List Env) (s : Shared) (H : Hp) (vs : List V) (Q : VK) (E : XK), Room k (A.deeper (envOfC qual scope s.heap.objs.size f cdv)) → sp vs H Q E →
      ∃ t, PSs (cxOf CX P w K mg base N qual scope f cdv A outer s H E) body t ∧ t { nx := fun _ H' => Q .non H', rt := Q } (start N vs) H) :
    FnOk P w K mg base CX (k + 1) f (PySem.W.fnOf name qual params body scope dV kV doc pm an cdv ct) ps sp := by
  refine ⟨len, fun A outer s H args us vs Q E hr e0 hb r hsp => ?_⟩
  have hl := len _ _ _ _ hsp
  have KX : K.In s.heap := e0.mod.kin.keeps fun b o e => (e0.bs b o e).1
  have lim : s.heap.NoLimit := e0.mod.nolimit.keeps fun b o e => (e0.bs b o e).1
  have hkind : ∀ y ∈ ps.zip us, scope.names.lookup y.1 = some .local ∨ (scope.names.lookup y.1 = some .cell ∧ ((cellsFrom (s.heap.objs.size + 1) scope.names []).lookup y.1).isSome = true) := fun ⟨n, v⟩ hy => by
    rcases S.par n (List.of_mem_zip hy).1 with q | q
    · exact .inl q
    · exact .inr ⟨q, PySem.W.cellsFrom_some _ _ _ (.inl q)⟩
  refine codeAny_call_function hr.depth (KX _ _ lk) rfl S.co S.gen rfl (PySem.W.codeRec_of KX hcd) (hb _ _ _ _ ?_)
  refine wpAny_newFunctionEnv_cells S.kind hkind fun env he s1 x => ?_
  subst he
  refine ⟨lim.keeps x.toInCall.keep, codeAny_func ?_⟩
  obtain ⟨t, ht, hq⟩ := hbody A outer s H vs Q E (hr.deeper _) hsp
  have I : Inv (cxOf CX P w K mg base N qual scope f cdv A outer s H E) [] (start N vs) H s1 := inv_start S hr.hd e0 hl r x
  refine wpAny_mono (ht [] s1 (start N vs) H _ I hq) (fun fl s' hs => ?_) fun e s' hs => hs
  have fin : ∀ {σ' : St} {H' : Hp} {v : V} {u : Value}, Inv (cxOf CX P w K mg base N qual scope f cdv A outer s H E) [] σ' H' s' → RelV v u → Q v H' → CE outer P w H s Q u s' :=
    fun {σ' H' v u} J rv q => ⟨v, H', J.os, J.bare, J.base, J.hok, rv, q⟩
  cases fl with
  | ret u =>
    obtain ⟨v, σ', H', J, rv, q⟩ := hs
    exact fin J rv q
  | next =>
    obtain ⟨σ', H', J, q⟩ := hs
    exact fin (v := V.non) (u := Value.none) J rfl q
  | brk =>
    obtain ⟨_, _, _, q⟩ := hs
    exact False.elim q
  | cont =>
    obtain ⟨_, _, _, q⟩ := hs
    exact False.elim q
end L2

namespace L2
open PySem PySem.Spec PyProof.Rows
section
variable {X : Cx} {x : Str} {p pos : Pos} {e : Expr} {es : List Expr} {t : TA} {id T : String} {r : List V → Hp → VK → Prop}

def tCB (r : List V → Hp → VK → Prop) (t : TA) : TE := fun σ H Q => t σ H fun vs H1 => r vs H1 Q
/-- f(e, ..), f a built-in function -/
theorem pe_callB (hc : CallR X (.builtin id) r) (hg : Gl X x) (hm : X.mg x = none) (hv : bootBuiltins x = some (.builtin id)) (ha : PA X (e :: es) t) (hn : x ≠ "__name__" := by decide) (hdb : (x == ("__debug__" : Str)) = false := by decide)
    (he : starEach (e :: es) X.env = (false, eval e X.env) :: starEach es X.env := by rfl) (hpl : (backTo pos (starEach es X.env)).any (·.1) = false := by rfl) : PE X (.Call (.Name x p) (e :: es) [] pos) (tCB r t) := by
  intro pins s σ H Q I h
  refine wpAny_Call_Name_kw (ld_blt I hg hm hv ?_ hn hdb)
  exact PyProof.Rows.callWith_builtin1 (thn (ha pos pins s σ H _ I h) fun us s1 ⟨vs, H1, I1, r1, q1⟩ => hc pins s1 σ H1 vs us Q I1 r1 q1) he hpl
end
end L2

namespace HT
open PySem PyProof.Rows

section
open PySem.SeqAt
open PySem.AutoSeq1 (wpAny_loadPart')
open PySem.MeetsSeq PySem.MeetsSeq2 PySem.MeetsSeq3

end

section
variable {prog : Program} {w : World} {A : Around} {E : Value → Shared → Prop} {s : Shared}

/-- a slice's bound as a place among n (d where it is left out) -/
def sIx (n d : Nat) : Option Int → Nat
  | none => d
  | some v => if v < 0 then (v + (n : Int)).toNat else min v.toNat n
theorem sIx_none (n d : Nat) : sIx n d none = d := rfl
theorem sIx_nat (n d k : Nat) : sIx n d (some (k : Int)) = min k n := by
  show (if (k : Int) < 0 then ((k : Int) + (n : Int)).toNat else min (k : Int).toNat n) = min k n
  rw [if_neg (by omega), Int.toNat_natCast]

end
end HT

namespace L2
open PySem PySem.Spec PyProof.Rows

abbrev TO := St → Hp → (Option Int → Hp → Prop) → Prop
/-- a slice's part (left out, or an int) -/
def PO (X : Cx) (e : Option Expr) (t : TO) : Prop :=
  ∀ (pins : List (Addr × Obj)) (s : Shared) (σ : St) (H : Hp) (Q : Option Int → Hp → Prop), Inv X pins σ H s → t σ H Q →
    wpAny (model X.prog X.w) X.A (evalPart e X.env) (fun u s' => ∃ o H', Inv X pins σ H' s' ∧ IsPart u o ∧ Q o H') X.xe s
def tNoPart : TO := fun _ H Q => Q none H
def tPart (t : TE) : TO := fun σ H Q => t σ H fun x H1 => ∃ i, x = .int i ∧ Q (some i) H1

section
variable {X : Cx} {e : Expr} {te : TE} {lo hi : Option Expr} {tl th : TO} {pos p2 : Pos}

theorem po_none : PO X none tNoPart := by
  intro pins s σ H Q I h
  rw [evalPart_none]
  exact wpAny_pure ⟨none, H, I, .none, h⟩
theorem po_some (h : PE X e te) : PO X (some e) (tPart te) := by
  intro pins s σ H Q I hw
  rw [evalPart_some]
  refine thn (h pins s σ H _ I hw) fun u s1 ⟨x, H1, I1, r1, q1⟩ => ?_
  obtain ⟨i, rfl, q⟩ := q1
  obtain ⟨t, rfl⟩ := r1
  exact ⟨some i, H1, I1, .int i t, q⟩

/-- what a slice of a value is, by values: the slice object stands at sl -/
def SlR (X : Cx) (r : V → Option Int → Option Int → Hp → VK → Prop) : Prop :=
  ∀ (pins : List (Addr × Obj)) (s : Shared) (σ : St) (H : Hp) (x : V) (v vl vu : Value) (lo hi : Option Int) (sl : Addr) (Q : VK), Inv X pins σ H s → RelV x v → s.heap.IsSliceOf sl vl vu .none → IsPart vl lo → IsPart vu hi → r x lo hi H Q →
    ∃ T id, typeLookup (.type T) "__getitem__" = pure (some (.builtin id)) ∧ s.TypeIs v T ∧ wpAny (model X.prog X.w) X.A (getItem v (.ref sl)) (EP X pins σ Q) X.xe s
def tSl (r : V → Option Int → Option Int → Hp → VK → Prop) (te : TE) (tl th : TO) : TE := fun σ H Q => te σ H fun x H1 => tl σ H1 fun l H2 => th σ H2 fun u H3 => r x l u H3 Q
/-- a[lo:hi], any a -/
theorem pe_slice {r : V → Option Int → Option Int → Hp → VK → Prop} (hr : SlR X r) (he : PE X e te) (hl : PO X lo tl) (hu : PO X hi th) : PE X (.Subscript e (.Slice lo hi none p2) pos) (tSl r te tl th) := by
  intro pins s σ H Q I h
  refine Subscript_ (thn (he pins s σ H _ I h) fun v s1 ⟨x, H1, I1, r1, q1⟩ => ?_)
  refine wpAny_Slice (thn (hl pins s1 σ H1 _ I1 q1) fun vl s2 ⟨l, H2, I2, pl, q2⟩ => thn (hu pins s2 σ H2 _ I2 q2) fun vu s3 ⟨u, H3, I3, pu, q3⟩ => ?_)
  rw [evalPart_none]
  refine wpAny_pure ?_
  have I4 : Inv X pins σ H3 { s3 with heap := s3.heap.push { cls := .type "slice", data := .fields #[vl, vu, .none] } } := I3.kept (t' := s3.toks) fun b ob q => Heap.get?_push_of_some _ q
  obtain ⟨T, id, hT, ht, hg⟩ := hr pins { s3 with heap := s3.heap.push { cls := .type "slice", data := .fields #[vl, vu, .none] } } σ H3 x v vl vu l u s3.heap.objs.size Q I4 r1 (Heap.IsSliceOf.new ..) pl pu q3
  show wpAny (model X.prog X.w) X.A (subscriptTail e (.Slice lo hi none p2) v (.ref s3.heap.objs.size)) (EP X pins σ Q) X.xe { s3 with heap := s3.heap.push { cls := .type "slice", data := .fields #[vl, vu, .none] } }
  exact tail_any (ops := [.ref s3.heap.objs.size, v]) ht hT hg (by with_unfolding_all rfl)

/-- the items of xs[lo:hi] -/
def cutV (xs : List V) (lo hi : Option Int) : List V := (xs.drop (HT.sIx xs.length 0 lo)).take (HT.sIx xs.length xs.length hi - HT.sIx xs.length 0 lo)
theorem cutV_length (xs : List V) (lo hi : Option Int) : (cutV xs lo hi).length ≤ xs.length := by
  unfold cutV
  rw [List.length_take, List.length_drop]
  omega

end
end L2

namespace L2
open PySem PySem.Spec PyProof.Rows

/-- the place that an index of any sign means -/
def ixN (n : Nat) (i : Int) : Option Nat := if 0 ≤ i then (if i < n then some i.toNat else none) else if -(n : Int) ≤ i then some (i + n).toNat else none
def atI {α : Type} (xs : List α) (i : Int) : Option α := (ixN xs.length i).bind fun j => xs[j]?
theorem ixN_seq {n : Nat} {i : Int} {j : Nat} (h : ixN n i = some j) : seqIndex? i n = some j ∧ j < n ∧ -(n : Int) ≤ i ∧ i < n := by
  unfold ixN at h
  by_cases h0 : 0 ≤ i
  · rw [if_pos h0] at h
    by_cases h1 : i < n
    · rw [if_pos h1] at h
      have e : i.toNat = j := Option.some.inj h
      exact ⟨by rw [seqIndex_of h0 h1, e], by omega, by omega, h1⟩
    · rw [if_neg h1] at h; cases h
  · rw [if_neg h0] at h
    by_cases h1 : -(n : Int) ≤ i
    · rw [if_pos h1] at h
      have e : (i + n).toNat = j := Option.some.inj h
      exact ⟨by rw [seqIndex_neg (by omega) h1, e], by omega, h1, by omega⟩
    · rw [if_neg h1] at h; cases h
theorem atI_get {α : Type} {xs : List α} {i : Int} {v : α} (h : atI xs i = some v) : ∃ j, seqIndex? i xs.length = some j ∧ xs[j]? = some v ∧ j < xs.length ∧ -(xs.length : Int) ≤ i ∧ i < xs.length := by
  unfold atI at h
  cases e : ixN xs.length i with
  | none => rw [e] at h; cases h
  | some j =>
    rw [e] at h
    obtain ⟨h1, h2, h3, h4⟩ := ixN_seq e
    exact ⟨j, h1, h, h2, h3, h4⟩
theorem atI_nat {α : Type} {xs : List α} {j : Nat} {v : α} (h : xs[j]? = some v) : atI xs (j : Int) = some v := by
  have hj : j < xs.length := (List.getElem?_eq_some_iff.mp h).1
  have e : ixN xs.length (j : Int) = some j := by
    unfold ixN
    rw [if_pos (by omega), if_pos (by omega)]; simp
  unfold atI; rw [e]; exact h

/-- what stands as an index of a plain subscript -/
def PlainIx (b : Expr) : Prop := ∀ o i, subscripted b false o i = operate [o, i] (getItem o i)
/-- a subscript by values -/
def IxR (X : Cx) (r : R2) : Prop :=
  ∀ (value slice : Expr) (pins : List (Addr × Obj)) (s : Shared) (σ : St) (H : Hp) (x y : V) (v u : Value) (Q : VK), Inv X pins σ H s → RelV x v → RelV y u → r x y H Q →
    subscripted slice false v u = operate [v, u] (getItem v u) → wpAny (model X.prog X.w) X.A (subscriptTail value slice v u) (EP X pins σ Q) X.xe s
/-- a call of a builtin's method by values: the receiver, the arguments -/
def MtR (X : Cx) (id : String) (r : V → List V → Hp → VK → Prop) : Prop :=
  ∀ (pins : List (Addr × Obj)) (s : Shared) (σ : St) (H : Hp) (x : V) (xs : List V) (v : Value) (us : List Value) (Q : VK), Inv X pins σ H s → RelV x v → Vals xs us → r x xs H Q →
    wpAny (model X.prog X.w) X.A (call (.builtin id) (v :: us)) (EP X pins σ Q) X.xe s
section
variable {X : Cx} {a b : Expr} {ta tb : TE} {pos : Pos}
/-- a[b] -/
theorem pe_ix {r : R2} (hr : IxR X r) (ha : PE X a ta) (hb : PE X b tb) (hs : PlainIx b) : PE X (.Subscript a b pos) (tOp r ta tb) := by
  intro pins s σ H Q I h
  exact Subscript_ (binT ha hb I h fun v u s2 x y H2 I2 rx ry q => hr a b pins s2 σ H2 x y v u Q I2 rx ry q (hs _ _))

def rIxL (K : PySem.W.Frag) : R2 := fun x y H Q => ∃ p xs i v, x = .ref p ∧ y = .int i ∧ SqL K H p xs ∧ atI xs i = some v ∧ Q v H
def rIxT (K : PySem.W.Frag) : R2 := fun x y H Q => ∃ p xs i v, x = .ref p ∧ y = .int i ∧ SqT K H p xs ∧ atI xs i = some v ∧ Q v H
theorem ix_list : IxR X (rIxL X.K) := by
  intro value slice pins s σ H x y v u Q I rx ry h hs
  obtain ⟨p, xs, i, z, rfl, rfl, hq, he, q⟩ := h
  cases rx
  obtain ⟨t, rfl⟩ := ry
  obtain ⟨its, r, pl, hz⟩ := I.list hq
  obtain ⟨j, h1, h2, h3, h4, h5⟩ := atI_get he
  obtain ⟨w, ew, rw'⟩ := r.get h2
  have hl := r.length
  have hn := line63
  have fin : EP X pins σ Q w s := ⟨z, H, I, rw', q⟩
  by_cases h0 : 0 ≤ i
  · have hj : i.toNat = j := by
      rw [seqIndex_of h0 h5] at h1
      exact Option.some.inj h1
    exact item_listR pl.isList h0 (by omega) (by rw [hj]; simpa using ew) fin hs
  · have hj : (i + (its.toArray.size : Int)).toNat = j := by
      rw [seqIndex_neg (by omega) h4] at h1
      rw [List.size_toArray, ← hl]
      exact Option.some.inj h1
    exact subscriptTail_builtinR (x := w) pl.isList.typeIs slot_list_getitem.lookup
      (wpAny_getItem_list_neg (Q := fun r s' => r = w ∧ EP X pins σ Q r s') pl.isList (by omega) (by rw [List.size_toArray] <;> omega) (by omega) (by rw [hj]; simpa using ew) ⟨rfl, fin⟩) hs
theorem ix_tup : IxR X (rIxT X.K) := by
  intro value slice pins s σ H x y v u Q I rx ry h hs
  obtain ⟨p, xs, i, z, rfl, rfl, hq, he, q⟩ := h
  cases rx
  obtain ⟨t, rfl⟩ := ry
  obtain ⟨its, r, pl, hz⟩ := I.tuple hq
  obtain ⟨j, h1, h2, h3, h4, h5⟩ := atI_get he
  obtain ⟨w, ew, rw'⟩ := r.get h2
  have hl := r.length
  have hn := line63
  have fin : EP X pins σ Q w s := ⟨z, H, I, rw', q⟩
  exact subscriptTail_builtinR (x := w) pl.typeIs slot_tuple_getitem.lookup
    (getItem_tuple (j := j) (Q := fun r s' => r = w ∧ EP X pins σ Q r s') pl (by omega) (by omega) (by rw [List.size_toArray, ← hl]; exact h1) (by simpa using ew) ⟨rfl, fin⟩) hs

theorem slice_bounds (lo hi : Option Int) (n : Nat) : (sliceBounds lo hi none n).1 = ((HT.sIx n 0 lo : Nat) : Int) ∧ (sliceBounds lo hi none n).2.1 = ((HT.sIx n n hi : Nat) : Int) ∧ (sliceBounds lo hi none n).2.2 = 1 := by
  refine ⟨?_, ?_, rfl⟩
  · cases lo with
    | none => simp [sliceBounds, HT.sIx]
    | some i =>
      simp only [sliceBounds, HT.sIx, Option.getD_none, show (1 : Int) > 0 by decide, if_true]
      by_cases h : i < 0
      · simp only [h, if_true] <;> omega
      · simp only [h, if_false] <;> omega
  · cases hi with
    | none => simp [sliceBounds, HT.sIx]
    | some i =>
      simp only [sliceBounds, HT.sIx, Option.getD_none, show (1 : Int) > 0 by decide, if_true]
      by_cases h : i < 0
      · simp only [h, if_true] <;> omega
      · simp only [h, if_false] <;> omega
theorem slicePick_cut (its : List Value) (lo hi : Option Int) : slicePick its.toArray lo hi none = ((its.drop (HT.sIx its.length 0 lo)).take (HT.sIx its.length its.length hi - HT.sIx its.length 0 lo)).toArray := by
  obtain ⟨h1, h2, h3⟩ := slice_bounds lo hi its.toArray.size
  unfold slicePick
  rw [h1, h2, h3]
  simp only [sliceRange_one, pick_run, List.size_toArray] <;> rfl
/-- xs[lo:hi] of a list: a new list -/
def rSlL (K : PySem.W.Frag) : V → Option Int → Option Int → Hp → VK → Prop := fun x lo hi H Q => ∃ a xs, x = .ref a ∧ SqL K H a xs ∧ ∀ p, H p = none → Q (.ref p) (upd H p (.lst (cutV xs lo hi)))
theorem sl_list : SlR X (rSlL X.K) := by
  intro pins s σ H x v vl vu lo hi sl Q I rx hs pl pu h
  obtain ⟨a, xs, rfl, hx, q⟩ := h
  cases rx
  obtain ⟨its, r, ht, hz⟩ := I.list hx
  have hlen := r.length
  refine ⟨"list", _, slot_list_getitem.lookup, ht.isList.typeIs, ?_⟩
  refine wpAny_getItem_list_slice ht.isList hs pl pu .none (by simp) ?_ (by rw [List.size_toArray] <;> omega)
  rw [slicePick_cut, ← hlen]
  refine ⟨.ref s.heap.objs.size, _, I.laid (t' := s.toks) (o := .lst (cutV xs lo hi)) (fun b ob q => Heap.get?_push_of_some _ q) (Nat.le_refl _) ?_, rfl, q _ (I.hok.fresh (Nat.le_refl _))⟩
  exact ⟨Nat.le_trans (cutV_length xs lo hi) hz, _, 0, (r.drop (HT.sIx xs.length 0 lo)).take (HT.sIx xs.length xs.length hi - HT.sIx xs.length 0 lo), Heap.get?_push_size _ rfl⟩

theorem call_len_seq : CallR X (.builtin "len") (fun xs H Q => ∃ p ys, xs = [.ref p] ∧ (SqL X.K H p ys ∨ SqT X.K H p ys) ∧ Q (.int ys.length) H) := by
  intro pins s σ H xs us Q I r h
  obtain ⟨p, ys, rfl, hq, q⟩ := h
  obtain ⟨u, rfl, rx⟩ := vals1 r
  cases rx
  have hn := line63
  rcases hq with hq | hq
  · obtain ⟨its, r', pl, hz⟩ := I.list hq
    have hlen := r'.length
    exact Calls.call_len_list pl.isList (by simp only [List.size_toArray] <;> omega) ⟨.int ys.length, H, I.tok _, ⟨s.toks + 1, by rw [List.size_toArray, hlen]⟩, q⟩
  · obtain ⟨its, r', pl, hz⟩ := I.tuple hq
    have hlen := r'.length
    exact len_tuple pl (by simp only [List.size_toArray] <;> omega) ⟨.int ys.length, H, I.tok _, ⟨s.toks + 1, by rw [List.size_toArray, hlen]⟩, q⟩

/-- the value is of that builtin type -/
def tyV (K : PySem.W.Frag) (T : String) (x : V) (H : Hp) : Prop := match x with
  | .str _ => T = "str"
  | .int _ => T = "int"
  | .ref p => (T = "list" ∧ ∃ xs, SqL K H p xs) ∨ (T = "tuple" ∧ ∃ o, K.lookup p = some o ∧ o.cls = .type "tuple" ∧ o.dict = none) ∨
      (T = "dict" ∧ ((∃ kvs, H p = some (.dK kvs)) ∨ ∃ kvs, H p = some (.dT kvs))) ∨ (T = "set" ∧ ∃ S n, H p = some (.set S n))
  | _ => False
theorem tyV_is {pins : List (Addr × Obj)} {σ : St} {H : Hp} {s : Shared} {T : String} {x : V} {v : Value} (I : Inv X pins σ H s) (r : RelV x v) (ty : tyV X.K T x H) :
    s.TypeIs v T ∧ ∀ a, v = .ref a → ∃ ob, s.heap.get? a = some ob ∧ ob.dict = none := by
  cases x with
  | str z =>
    obtain ⟨t, rfl⟩ := r
    cases (show T = "str" from ty)
    exact ⟨typeIs_str s z t, fun _ e => nomatch e⟩
  | int i =>
    obtain ⟨t, rfl⟩ := r
    cases (show T = "int" from ty)
    exact ⟨typeIs_int s i t, fun _ e => nomatch e⟩
  | ref p =>
    cases r
    rcases ty with ⟨rfl, xs, hq⟩ | ⟨rfl, o, hk, hc, hd⟩ | ⟨rfl, hk⟩ | ⟨rfl, S, n, hk⟩
    · obtain ⟨its, _, pl, _⟩ := I.list hq
      refine ⟨pl.isList.typeIs, fun a e => ?_⟩
      cases e
      obtain ⟨o, n, e, c, hd, _⟩ := pl
      exact ⟨o, e, hd⟩
    · refine ⟨⟨o, I.kIn p o hk, hc⟩, fun a e => ?_⟩
      cases e
      exact ⟨o, I.kIn _ o hk, hd⟩
    · have z : ∃ o, s.heap.get? p = some o ∧ o.ExactDict := by
        rcases hk with ⟨kvs, hk⟩ | ⟨kvs, hk⟩
        · obtain ⟨_, _, _, _, o, _, _, e, ex, _⟩ := I.hok p _ hk
          exact ⟨o, e, ex⟩
        · obtain ⟨_, _, _, _, o, _, _, e, ex, _⟩ := I.hok p _ hk
          exact ⟨o, e, ex⟩
      obtain ⟨o, e, ex⟩ := z
      refine ⟨⟨o, e, ex.1⟩, fun a e2 => ?_⟩
      cases e2
      exact ⟨o, e, ex.2.1⟩
    · obtain ⟨o, _, _, _, e, ex, _⟩ := I.hok p _ hk
      refine ⟨⟨o, e, ex.1⟩, fun a e2 => ?_⟩
      cases e2
      exact ⟨o, e, ex.2.1⟩
  | _ => exact False.elim ty
def tBM0 (K : PySem.W.Frag) (T : String) (r : V → List V → Hp → VK → Prop) (to : TE) : TE := fun σ H Q => to σ H fun x H1 => tyV K T x H1 ∧ r x [] H1 Q
def tBM (K : PySem.W.Frag) (T : String) (r : V → List V → Hp → VK → Prop) (to : TE) (t : TA) : TE := fun σ H Q => to σ H fun x H1 => tyV K T x H1 ∧ t σ H1 fun xs H2 => r x xs H2 Q
variable {o e : Expr} {es : List Expr} {to : TE} {t : TA} {name : Str} {apos cpos : Pos} {T id : String} {r : V → List V → Hp → VK → Prop}
theorem pe_bm0 (pa : PlainAttrs T) (slot : Slot T name id) (hty : typeOf (.builtin id) = pure (.type "method_descriptor")) (hm : MtR X id r) (ho : PE X o to)
    (hbase : attributeBase o name X.env (eval o X.env) = eval o X.env := by rfl) (hline : (apos.endLine == cpos.line) = true := by rfl) : PE X (.Call (.Attribute o name apos) [] [] cpos) (tBM0 X.K T r to) := by
  intro pins s σ H Q I h
  refine wpAny_Call_method0_late hbase hline (thn (ho pins s σ H _ I h) fun v s1 ⟨x, H1, I1, r1, ty, q1⟩ => ?_)
  obtain ⟨h1, h2⟩ := tyV_is I1 r1 ty
  exact ⟨T, id, pa, slot, hty, h1, h2, Calls.callWith_builtin rfl (PySem.evalArgs_none (hm pins s1 σ H1 x [] v [] Q I1 r1 .nil q1))⟩
theorem pe_bm (pa : PlainAttrs T) (slot : Slot T name id) (hty : typeOf (.builtin id) = pure (.type "method_descriptor")) (hm : MtR X id r) (ho : PE X o to) (ha : PA X (e :: es) t)
    (hbase : attributeBase o name X.env (eval o X.env) = eval o X.env := by rfl)
    (hfew : ((backTo cpos (starEach (e :: es) X.env)).all (fun x => !x.1) && (backToKw cpos (keywordEach [] X.env)).all (fun x => x.1.isSome)
      && decide ((e :: es).length + ([] : List Keyword).length + (if ([] : List Keyword).isEmpty then 0 else 1) < 30)) = true := by rfl)
    (hline : (apos.endLine == cpos.line) = true := by rfl) (hs : starEach (e :: es) X.env = (false, eval e X.env) :: starEach es X.env := by rfl) (hplain : (backTo cpos (starEach es X.env)).any (·.1) = false := by rfl) :
    PE X (.Call (.Attribute o name apos) (e :: es) [] cpos) (tBM X.K T r to t) := by
  intro pins s σ H Q I h
  refine wpAny_Call_method_late hbase hfew hline rfl (thn (ho pins s σ H _ I h) fun v s1 ⟨x, H1, I1, r1, ty, q1⟩ => ?_)
  obtain ⟨h1, h2⟩ := tyV_is I1 r1 ty
  refine ⟨T, id, pa, slot, hty, h1, h2, ?_⟩
  have hA := ha cpos pins s1 σ H1 _ I1 q1
  rw [hs] at hA ⊢
  refine Calls.callWith_builtin (by show (false || (backTo cpos (starEach es X.env)).any (·.1)) = false; rw [hplain] <;> rfl) (Calls.evalArgs_plain ?_)
  exact thn hA fun us s2 ⟨vs, H2, I2, r2, q2⟩ => hm pins s2 σ H2 x vs v us Q I2 r1 r2 q2
/- xs.append(e), list.index on a module's tuple .. are MtR facts of 06m -/
end
end L2

namespace L2
open PySem PySem.Spec PyProof.Rows

def MtM (X : Cx) (id : String) (r : V → List V → Hp → VK → Prop) : Prop :=
  ∀ (pins : List (Addr × Obj)) (s : Shared) (σ : St) (H : Hp) (x : V) (xs : List V) (v : Value) (us : List Value) (Q : VK), Inv X pins σ H s → RelV x v → Vals xs us → r x xs H Q →
    wpAny (model X.prog X.w) X.A (call (.builtin id) (v :: us)) (EP X pins σ Q) X.xe s

theorem Vals.one : ∀ {x : V} {us : List Value}, Vals [x] us → ∃ u, us = [u] ∧ RelV x u
  | _, _, .cons r .nil => ⟨_, rfl, r⟩
theorem Vals.zero : ∀ {us : List Value}, Vals [] us → us = []
  | _, .nil => rfl
theorem Vals.dropLast {xs : List V} {us : List Value} (h : Vals xs us) : Vals xs.dropLast us.dropLast := by
  induction h with
  | nil => exact .nil
  | cons r t ih =>
    cases t with
    | nil => exact .nil
    | cons q t' => exact .cons r ih
theorem Vals.rep {xs : List V} {us : List Value} (h : Vals xs us) : ∀ k : Nat, Vals (List.replicate k xs).flatten (List.replicate k us).flatten
  | 0 => .nil
  | k + 1 => by
    rw [List.replicate_succ, List.replicate_succ, List.flatten_cons, List.flatten_cons]
    exact Vals.append h (Vals.rep h k)
theorem erase_last {α : Type} (l : List α) : l.eraseIdx (l.length - 1) = l.dropLast := by
  induction l with
  | nil => rfl
  | cons a r ih =>
    cases r with
    | nil => rfl
    | cons b r =>
      have e : (a :: b :: r).length - 1 = ((b :: r).length - 1) + 1 := by
        have h1 : (a :: b :: r).length = r.length + 2 := rfl
        have h2 : (b :: r).length = r.length + 1 := rfl
        omega
      rw [e, List.eraseIdx_cons_succ, ih]
      all_goals rfl
theorem foldl_rep (its : List Value) : ∀ (k : Nat) (acc : List Value),
    List.foldl (fun x1 x2 => x1 ++ x2) acc.toArray (List.replicate k its.toArray) = (acc ++ (List.replicate k its).flatten).toArray
  | 0, acc => by simp
  | k + 1, acc => by
    have e : acc.toArray ++ its.toArray = (acc ++ its).toArray := by simp
    have e2 : (acc ++ its) ++ (List.replicate k its).flatten = acc ++ (List.replicate (k + 1) its).flatten := by
      rw [List.replicate_succ, List.flatten_cons, List.append_assoc]
    rw [← e2, ← foldl_rep its k (acc ++ its), ← e, List.replicate_succ, List.foldl_cons]

section
variable {X : Cx} {pins : List (Addr × Obj)} {σ : St} {H : Hp} {s : Shared} {l b : Addr} {xs ys zs : List V}

theorem Inv.lset {its its' : List Value} {n : Nat} {f : Array Value → Array Value} {t' : Nat} (I : Inv X pins σ H s) (hH : H l = some (.lst xs))
    (e : s.heap.get? l = some { cls := .type "list", data := .seq its.toArray n }) (hf : f its.toArray = its'.toArray) (hv : Vals ys its') (hz : ys.length ≤ sizeLine) :
    Inv X pins σ (upd H l (.lst ys)) { s with heap := s.heap.update l (Obj.mapSeq f), toks := t' } := by
  have q := PySem.IsL.update e f
  rw [hf] at q
  refine I.write (x := l) (e := l) (by rw [hH]; exact trivial) (.inl rfl) (fun b' u hb hu => (Heap.get?_update_other s.heap (Obj.mapSeq f) (Ne.symm hb)).trans hu) ⟨_, q⟩ ?_
  exact ⟨hz, its', _, hv, q⟩
theorem Inv.lnew {its : List Value} {t' : Nat} (I : Inv X pins σ H s) (hv : Vals ys its) (hz : ys.length ≤ sizeLine) :
    Inv X pins σ (upd H s.heap.objs.size (.lst ys)) { s with heap := s.heap.push { cls := .type "list", data := .seq its.toArray }, toks := t' } :=
  I.laid (fun _ _ q => Heap.get?_push_of_some _ q) (Nat.le_refl _) ⟨hz, its, 0, hv, Heap.get?_push_size _ rfl⟩
theorem Inv.fresh (I : Inv X pins σ H s) : H s.heap.objs.size = none := I.hok.fresh (Nat.le_refl _)
theorem Inv.lstM (I : Inv X pins σ H s) (hH : H l = some (.lst xs)) : xs.length ≤ sizeLine ∧ ∃ (its : List Value) (n : Nat), Vals xs its ∧ xs.length = its.length ∧ s.heap.get? l = some { cls := .type "list", data := .seq its.toArray n } := by
  obtain ⟨z, its, n, r, e⟩ := I.hok l _ hH
  exact ⟨z, its, n, r, r.length, e⟩

theorem notLongL {n : Nat} (h : n ≤ sizeLine) : Builtin.List.listTooLong n = false := by
  unfold Builtin.List.listTooLong
  exact decide_eq_false (by omega)
end

section
variable {X : Cx}

def rAppend : V → List V → Hp → VK → Prop := fun x vs H Q => ∃ l xs y, x = .ref l ∧ vs = [y] ∧ H l = some (.lst xs) ∧ xs.length < sizeLine ∧ Q .non (upd H l (.lst (xs ++ [y])))
theorem mt_append : MtM X "list.append" rAppend := by
  intro pins s σ H x vs v us Q I rx rv h
  obtain ⟨l, xs, y, rfl, rfl, hH, hz, q⟩ := h
  cases rx
  obtain ⟨u, rfl, ru⟩ := rv.one
  obtain ⟨z, its, n, r, hl, e⟩ := I.lstM hH
  refine call_meets F.slot_list_append ⟨_, e, rfl⟩ F.entry_list_append (F.args_list_append_2 _ _) (PySem.list_append l its.toArray n u (by rw [List.size_toArray]; omega)) ⟨e, ?_⟩
  refine ⟨.non, _, I.lset (its' := its ++ [u]) hH e (by simp) (r.append (.cons ru .nil)) ?_, rfl, q⟩
  rw [List.length_append, List.length_singleton]
  omega

def rExtend : V → List V → Hp → VK → Prop := fun x vs H Q => ∃ l b xs zs, x = .ref l ∧ vs = [.ref b] ∧ H l = some (.lst xs) ∧ H b = some (.lst zs) ∧ xs.length + zs.length ≤ sizeLine ∧ Q .non (upd H l (.lst (xs ++ zs)))
theorem mt_extend : MtM X "list.extend" rExtend := by
  intro pins s σ H x vs v us Q I rx rv h
  obtain ⟨l, b, xs, zs, rfl, rfl, hH, hB, hz, q⟩ := h
  cases rx
  obtain ⟨u, rfl, ru⟩ := rv.one
  cases ru
  obtain ⟨z, its, n, r, hl, e⟩ := I.lstM hH
  obtain ⟨z2, its2, n2, r2, hl2, e2⟩ := I.lstM hB
  have hsz : its.toArray.size + its2.toArray.size ≤ sizeLine := by rw [List.size_toArray, List.size_toArray]; omega
  have hlong : ¬ (!its.toArray.isEmpty && Builtin.List.listTooLong (its.toArray.size + its2.toArray.size)) = true := by
    rw [notLongL hsz, Bool.and_false]
    exact Bool.false_ne_true
  refine call_meets F.slot_list_extend ⟨_, e, rfl⟩ F.entry_list_extend (F.args_list_extend_2 _ _)
    (AutoSeq1.list_extend_list_list_0 l its.toArray n b its2.toArray n2 hlong (by rw [List.size_toArray]; omega) (by omega)) ⟨e, e2, ?_⟩
  refine ⟨.non, _, I.lset (its' := its ++ its2) hH e (by simp) (r.append r2) ?_, rfl, q⟩
  rw [List.length_append]
  omega

def rPop : V → List V → Hp → VK → Prop := fun x vs H Q => ∃ l xs y, x = .ref l ∧ vs = [] ∧ H l = some (.lst xs) ∧ xs[xs.length - 1]? = some y ∧ Q y (upd H l (.lst xs.dropLast))
theorem mt_pop : MtM X "list.pop" rPop := by
  intro pins s σ H x vs v us Q I rx rv h
  obtain ⟨l, xs, y, rfl, rfl, hH, hy, q⟩ := h
  cases rx
  have hus := rv.zero
  subst hus
  obtain ⟨z, its, n, r, hl, e⟩ := I.lstM hH
  obtain ⟨u, hu, ru⟩ := r.get hy
  have hy' : its.toArray[its.toArray.size - 1]? = some u := by
    show its.toArray[its.length - 1]? = some u
    rw [← Array.getElem?_toList, ← hl]
    exact hu
  refine call_meets F.slot_list_pop ⟨_, e, rfl⟩ F.entry_list_pop (F.args_list_pop_1 _) (MeetsSeq.list_pop_last l its.toArray n u hy' (by rw [List.size_toArray]; omega)) ⟨e, ?_⟩
  refine ⟨y, _, I.lset (its' := its.dropLast) hH e ?_ r.dropLast ?_, ru, q⟩
  · show its.toArray.eraseIdxIfInBounds (its.toArray.size - 1) = its.dropLast.toArray
    rw [List.size_toArray, List.eraseIdxIfInBounds_toArray, erase_last]
  · rw [List.length_dropLast]
    omega

def rCat : R2 := fun x y H Q => ∃ l b xs zs, x = .ref l ∧ y = .ref b ∧ H l = some (.lst xs) ∧ H b = some (.lst zs) ∧ xs.length + zs.length ≤ sizeLine ∧ ∀ p, H p = none → Q (.ref p) (upd H p (.lst (xs ++ zs)))
theorem op_cat : OpR X (binaryOp .Add) rCat := by
  intro pins s σ H x y v u Q I rx ry h
  obtain ⟨l, b, xs, zs, rfl, rfl, hH, hB, hz, q⟩ := h
  cases rx
  cases ry
  obtain ⟨z, its, n, r, hl, e⟩ := I.lstM hH
  obtain ⟨z2, its2, n2, r2, hl2, e2⟩ := I.lstM hB
  refine PySem.P.add_list e e2 ?_ (by rw [List.size_toArray, List.size_toArray]; omega)
  have ea : its.toArray ++ its2.toArray = (its ++ its2).toArray := by simp
  rw [ea]
  exact ⟨.ref _, _, I.lnew (t' := s.toks) (r.append r2) (by rw [List.length_append]; omega), rfl, q _ I.fresh⟩
/-- a list times an int (a negative one is nothing) -/
def rRep : R2 := fun x y H Q => ∃ l k xs, x = .ref l ∧ y = .int k ∧ H l = some (.lst xs) ∧ -(2 ^ 63) ≤ k ∧ k < 2 ^ 63 ∧ xs.length * k.toNat ≤ sizeLine ∧
  ∀ p, H p = none → Q (.ref p) (upd H p (.lst (List.replicate k.toNat xs).flatten))
theorem len_rep {α : Type} (xs : List α) (k : Nat) : (List.replicate k xs).flatten.length = k * xs.length := by
  induction k with
  | zero => simp
  | succ k ih => rw [List.replicate_succ, List.flatten_cons, List.length_append, ih, Nat.succ_mul, Nat.add_comm]
theorem op_rep : OpR X (binaryOp .Mult) rRep := by
  intro pins s σ H x y v u Q I rx ry h
  obtain ⟨l, k, xs, rfl, rfl, hH, h1, h2, hz, q⟩ := h
  cases rx
  obtain ⟨t, rfl⟩ := ry
  obtain ⟨z, its, n, r, hl, e⟩ := I.lstM hH
  have hlen : its.toArray.size * k.toNat ≤ sizeLine := by rw [List.size_toArray, ← hl]; exact hz
  have hcap : ¬ its.toArray.size * k.toNat > (2 ^ 63 - 1) / 8 := by
    have : (sizeLine : Nat) ≤ (2 ^ 63 - 1) / 8 := by decide
    omega
  have hfit : ¬ (!Builtin.List.listFitsIndex k) = true := by
    rw [fitsIndex_both h1 h2]
    exact Bool.false_ne_true
  have hlong : ¬ Builtin.List.listTooLong (its.toArray.size * k.toNat) = true := by
    rw [notLongL hlen]
    exact Bool.false_ne_true
  have hnew : List.foldl (fun x1 x2 => x1 ++ x2) #[] (List.replicate (if its.toArray.isEmpty = true then 0 else k.toNat) its.toArray) = (List.replicate k.toNat its).flatten.toArray := by
    have f0 : ∀ m : Nat, List.foldl (fun x1 x2 => x1 ++ x2) #[] (List.replicate m its.toArray) = (List.replicate m its).flatten.toArray := fun m => by
      have := foldl_rep its m []
      rw [List.nil_append] at this
      exact this
    rw [f0]
    cases its with
    | nil => simp
    | cons a r' => rw [if_neg (by simp)]
  refine wpAny_binaryOp_repeat_ref (T := "list") (U := "int") (by decide) ⟨_, e, rfl⟩ (fun s' => typeIs_int s' k t) noFill_list_mul F.fills_int_mul F.slot_int_rmul repeat_list F.slot_int_index.lookup
    (call_meets F.slot_int_rmul (typeIs_int s k t) F.entry_int_rmul (F.args_int_rmul_2 _ _) (int___rmul___int_list k t l its.toArray n)
      ⟨e, rfl, ⟨_, e, rfl⟩, call_meets F.slot_list_mul ⟨_, e, rfl⟩ F.entry_list_mul (F.args_list_mul_2 _ _) (AutoListH.list___mul___list_int_3 l its.toArray n k t hfit hcap hlong) ⟨e, ?_⟩⟩)
  rw [hnew]
  exact ⟨.ref _, _, I.lnew (t' := s.toks) (r.rep k.toNat) (by rw [len_rep, Nat.mul_comm]; exact hz), rfl, q _ I.fresh⟩

end

section
variable {prog : Program} {w : World} {A : Around} {E : Value → Shared → Prop} {s : Shared}
set_option maxRecDepth 100000 in
end

section
variable {X : Cx}
end
end L2

namespace L2
open PySem PySem.Spec PyProof.Rows

theorem Vals.ints : ∀ {ns : List Int} {us : List Value}, Vals (ns.map V.int) us → IntsAre us ns
  | [], us, h => by
    rw [List.map_nil] at h
    cases h
    exact IntsAre.nil
  | n :: ns, us, h => by
    rw [List.map_cons] at h
    cases h with
    | cons r t =>
      obtain ⟨k, rfl⟩ := r
      exact IntsAre.cons n k (Vals.ints t)
theorem Vals.bls : ∀ {bs : List Bool} {us : List Value}, Vals (bs.map V.bl) us → us = bs.map Value.bool
  | [], us, h => by
    rw [List.map_nil] at h
    cases h
    rfl
  | b :: bs, us, h => by
    rw [List.map_cons] at h
    cases h with
    | cons r t =>
      cases r
      rw [Vals.bls t, List.map_cons]
theorem Vals.ref1 {a : Addr} {us : List Value} (r : Vals [V.ref a] us) : us = [Value.ref a] := by
  cases r with
  | cons r t =>
    cases t
    cases r
    rfl

section
variable {prog : Program} {w : World} {A : Around} {E : Value → Shared → Prop} {s : Shared} {l : Addr} {its : List Value} {ns : List Int} {Q : Value → Shared → Prop}
theorem sum_raw (hh : A.handled = none) (hl : s.heap.IsList l its.toArray) (hi : IntsAre its ns)
    (h : ∀ h' tk t', (∀ b o, s.heap.get? b = some o → h'.get? b = some o) → Q (.int ns.sum t') { s with heap := h', toks := tk }) : wpAny (model prog w) A (call (.builtin "sum") [.ref l]) Q E s := by
  obtain ⟨xs, e⟩ := hi.allInts.items
  have hn : numsOf (intItems xs).toList = ns := by rw [← e]; exact hi.numsOf
  rw [nums_intItems] at hn
  rw [e] at hl
  refine PySem.sum_intListG hh hl fun h' tk t' hk => ?_
  have := h h' tk t' hk
  rw [preSum_eq, List.take_of_length_le (by simp), hn]; exact this
theorem max_raw (hh : A.handled = none) (hl : s.heap.IsList l its.toArray) (hi : IntsAre its ns) (hne : 0 < ns.length)
    (h : ∀ h' tk M t', (∀ b o, s.heap.get? b = some o → h'.get? b = some o) → M ∈ ns → (∀ a, a ∈ ns → a ≤ M) → Q (.int M t') { s with heap := h', toks := tk }) : wpAny (model prog w) A (call (.builtin "max") [.ref l]) Q E s := by
  obtain ⟨xs, e⟩ := hi.allInts.items
  have hn : numsOf (intItems xs).toList = ns := by rw [← e]; exact hi.numsOf
  rw [nums_intItems] at hn
  subst hn
  rw [e] at hl
  have hsz : 0 < xs.size := by simpa using hne
  refine PySem.max_intList hh hl hsz fun v h' tk hv hk => ?_
  obtain ⟨t, rfl⟩ := intItems_at hv
  obtain ⟨h1, h2⟩ := argBest_gt (numAt xs) (xs.size - 1)
  refine h h' tk _ t hk ?_ fun a ha => ?_
  · rw [numAt_eq]; exact PySem.getD_mem (by rw [List.length_map, Array.length_toList]; omega)
  · obtain ⟨j, hj, rfl⟩ := mem_getD ha
    rw [List.length_map, Array.length_toList] at hj
    rw [← numAt_eq]; exact h2 j (by omega)
end

section
variable {X : Cx}
/-- sum(xs) of a list of ints -/
def rSum (K : PySem.W.Frag) : List V → Hp → VK → Prop := fun vs H Q => ∃ (a : Addr) (ns : List Int), vs = [V.ref a] ∧ SqL K H a (ns.map V.int) ∧ Q (.int ns.sum) H
/-- max(xs), min(xs) of a list of ints -/
def rMax (K : PySem.W.Frag) : List V → Hp → VK → Prop := fun vs H Q => ∃ (a : Addr) (ns : List Int), vs = [V.ref a] ∧ SqL K H a (ns.map V.int) ∧ 0 < ns.length ∧ ∀ m, m ∈ ns → (∀ y, y ∈ ns → y ≤ m) → Q (.int m) H
theorem cr_sum (hc : X.calm = true) : CallR X (.builtin "sum") (rSum X.K) := by
  intro pins s σ H vs us Q I r h
  obtain ⟨a, ns, rfl, hs, q⟩ := h
  obtain ⟨its, rv, hl, _⟩ := I.list hs
  rw [Vals.ref1 r]
  exact sum_raw (I.ok.hd hc) hl.isList rv.ints fun h' tk t' hk => ⟨.int _, H, I.kept hk, ⟨_, rfl⟩, q⟩
theorem cr_max (hc : X.calm = true) : CallR X (.builtin "max") (rMax X.K) := by
  intro pins s σ H vs us Q I r h
  obtain ⟨a, ns, rfl, hs, hne, q⟩ := h
  obtain ⟨its, rv, hl, _⟩ := I.list hs
  rw [Vals.ref1 r]
  exact max_raw (I.ok.hd hc) hl.isList rv.ints hne fun h' tk m t' hk h1 h2 => ⟨.int _, H, I.kept hk, ⟨_, rfl⟩, q m h1 h2⟩

end

section
variable {X : Cx}
end

section
variable {X : Cx}
end

theorem iter_any {prog : Program} {w : World} {A : Around} {E : Value → Shared → Prop} {s : Shared} {l : Addr} {items : Array Value} {Q : Value → Shared → Prop} (hl : s.heap.IsList l items)
    (h : ∀ s₂ : Shared, s₂ = { s with heap := s.heap.push { cls := .type "list_iterator", data := .fields #[.ref l, .int 0 0] } } →
      (s₂.heap.IsListIter s.heap.objs.size l 0 ∧ s₂.heap.IsList l items) → l ≠ s.heap.objs.size → Q (.ref s.heap.objs.size) s₂) : wpAny (model prog w) A (pyIter (.ref l)) Q E s := by
  have hlt : l < s.heap.objs.size := by obtain ⟨_, e, _⟩ := hl; exact Heap.lt_size e
  exact wpAny_pyIter_list hl (h _ rfl ⟨⟨_, Heap.get?_push_size _ rfl, rfl, rfl⟩, hl.push _⟩ (Nat.ne_of_lt hlt))
theorem truth_bools {prog : Program} {w : World} {A : Around} {bs : List Bool} {its : List Value} (e : its = bs.map Value.bool) :
    TruthOf prog w A (fun i v => its.toArray[i]? = some v) (fun i => bs.getD i false) := fun i v s Q E hv hq => by
  have hv' : its[i]? = some v := by simpa using hv
  rw [e, List.getElem?_map] at hv'
  obtain ⟨b, hb, rfl⟩ := Option.map_eq_some_iff.mp hv'
  have hg : bs.getD i false = b := by rw [List.getD_eq_getElem?_getD, hb] <;> rfl
  have hq' : Q (bs.getD i false) s := hq
  rw [hg] at hq'
  exact wpAny_truthy_bool hq'
theorem any_range : ∀ bs : List Bool, (List.range bs.length).any (fun i => bs.getD i false) = bs.any id
  | [] => rfl
  | b :: bs => by
    rw [List.length_cons, List.range_succ_eq_map, List.any_cons, List.any_map, List.any_cons, ← any_range bs]
    all_goals rfl
section
variable {X : Cx}
def rAny (K : PySem.W.Frag) : List V → Hp → VK → Prop := fun vs H Q => ∃ (a : Addr) (bs : List Bool), vs = [V.ref a] ∧ SqL K H a (bs.map V.bl) ∧ Q (.bl (bs.any id)) H
theorem cr_any (hc : X.calm = true) : CallR X (.builtin "any") (rAny X.K) := by
  intro pins s σ H vs us Q I r h
  obtain ⟨a, bs, rfl, hs, q⟩ := h
  obtain ⟨its, rv, hl, _⟩ := I.list hs
  rw [Vals.ref1 r]
  have hb := rv.bls
  refine call_any_walk (iter_any hl.isList fun s₂ e2 st hne => ?_)
  subst e2
  refine ⟨_, _, _, _, _, _, _, rfl, Walks.list (A := X.A.in1) (I.ok.hd hc) _ a hne its.toArray, st, truth_bools hb, fun h' tk hk => ?_⟩
  refine ⟨.bl _, H, I.kept fun b o eo => hk b o (fun hmem => ?_) (Heap.get?_push_of_some _ eo), ?_, q⟩
  · rcases List.mem_cons.mp hmem with e1 | hmem
    · exact absurd (e1 ▸ Heap.lt_size eo) (Nat.lt_irrefl _)
    · cases hmem
  · show Value.bool _ = Value.bool _
    rw [← any_range, hb, List.size_toArray, List.length_map]
end

mutual
inductive Dp (K : PySem.W.Frag) (H : Hp) : V → PyData → Prop
  | non : Dp K H .non .none
  | bl (b : Bool) : Dp K H (.bl b) (.bool b)
  | int (i : Int) : Dp K H (.int i) (.int i)
  | str (x : Str) : Dp K H (.str x) (.str x)
  | lst {a : Addr} {xs : List V} {ds : List PyData} : SqL K H a xs → DpAll K H xs ds → Dp K H (.ref a) (.list ds)
  | tup {a : Addr} {xs : List V} {ds : List PyData} : SqT K H a xs → DpAll K H xs ds → Dp K H (.ref a) (.tuple ds)
inductive DpAll (K : PySem.W.Frag) (H : Hp) : List V → List PyData → Prop
  | nil : DpAll K H [] []
  | cons {v : V} {vs : List V} {d : PyData} {ds : List PyData} : Dp K H v d → DpAll K H vs ds → DpAll K H (v :: vs) (d :: ds)
end
section
variable {X : Cx} {pins : List (Addr × Obj)} {σ : St} {H : Hp} {s : Shared}
mutual
theorem Dp.reads (I : Inv X pins σ H s) : ∀ (d : PyData) (v : V) (u : Value), Dp X.K H v d → RelV v u → ∃ as, Reads s.heap u d as
  | .none, _, _, h, r => by
    cases h
    cases r
    exact ⟨_, Reads.none⟩
  | .bool b, _, _, h, r => by
    cases h
    cases r
    exact ⟨_, Reads.bool b⟩
  | .int i, _, _, h, r => by
    cases h
    obtain ⟨t, rfl⟩ := r
    exact ⟨_, Reads.int i t⟩
  | .str x, _, _, h, r => by
    cases h
    obtain ⟨t, rfl⟩ := r
    exact ⟨_, Reads.str x t⟩
  | .list ds, _, _, h, r => by
    cases h with
    | lst hs ha =>
      cases r
      obtain ⟨its, rv, ⟨o, n, ho, hc, _, hd⟩, _⟩ := I.list hs
      obtain ⟨as, hr⟩ := Dp.readsAll I ds _ its ha rv
      exact ⟨_, Reads.list ho hc hd hr⟩
  | .tuple ds, _, _, h, r => by
    cases h with
    | tup hs ha =>
      cases r
      obtain ⟨its, rv, ⟨o, ho, hc, n, hd⟩, _⟩ := I.tuple hs
      obtain ⟨as, hr⟩ := Dp.readsAll I ds _ its ha rv
      exact ⟨_, Reads.tuple ho hc hd hr⟩
  | .dict _, _, _, h, _ => by cases h
theorem Dp.readsAll (I : Inv X pins σ H s) : ∀ (ds : List PyData) (vs : List V) (us : List Value), DpAll X.K H vs ds → Vals vs us → ∃ as, ReadsAll s.heap us ds as
  | [], _, _, h, r => by
    cases h
    cases r
    exact ⟨_, ReadsAll.nil⟩
  | d :: ds, _, _, h, r => by
    cases h with
    | cons h1 h2 =>
      cases r with
      | cons r1 r2 =>
        obtain ⟨as, q1⟩ := Dp.reads I d _ _ h1 r1
        obtain ⟨bs, q2⟩ := Dp.readsAll I ds _ _ h2 r2
        exact ⟨_, ReadsAll.cons q1 q2⟩
end
end
section
variable {X : Cx}
end
end L2

namespace L2
open PySem PySem.Spec PyProof.Rows
abbrev CellAt (h : Heap) (c : Addr) (v : Option Value) : Prop := h.IsCell c v
def relS (scope sc : Scope) : Scope :=
  { scope with names := scope.names.map fun (n, k) => if (k == .free && sc.kind == .function && sc.names.lookup n == some .cell) then (n, .cell) else (n, k) }

def cloFrom (cells : List (Str × Addr)) : List (Str × NameKind) → List (Str × Addr) → List (Str × Addr)
  | [], acc => acc
  | (n, k) :: r, acc => if k == .free then cloFrom cells r ((n, (cells.lookup n).getD 0) :: acc) else cloFrom cells r acc

theorem closure_loop (env : Env) (f : Str × NameKind → List (Str × Addr) → Sem (ForInStep (List (Str × Addr))))
    (hf : ∀ n k c, f (n, k) c = if k == .free then (do let a ← cellOf env n; pure (.yield ((n, a) :: c))) else pure (.yield c)) :
    ∀ (names : List (Str × NameKind)) (acc : List (Str × Addr)), (∀ y ∈ names, y.2 = .free → ∃ c, env.cells.lookup y.1 = some c) → forIn names acc f = pure (cloFrom env.cells names acc)
  | [], acc, _ => by rw [List.forIn_nil]; rfl
  | (n, k) :: r, acc, h => by
    rw [List.forIn_cons, hf]
    have ih := fun acc => closure_loop env f hf r acc fun y hy => h y (List.mem_cons_of_mem _ hy)
    unfold cloFrom
    by_cases hk : (k == NameKind.free) = true
    · rw [if_pos hk, if_pos hk]
      obtain ⟨c, hc⟩ := h (n, k) List.mem_cons_self (by simpa using hk)
      have e : cellOf env n = pure c := by unfold cellOf; rw [hc]
      rw [e]
      have e2 : (env.cells.lookup n).getD 0 = c := by rw [hc]; rfl
      rw [e2]
      exact ih _
    · rw [if_neg hk, if_neg hk]
      exact ih _
theorem closure_ok {scope : Scope} {env : Env} (h : ∀ y ∈ scope.names, y.2 = .free → ∃ c, env.cells.lookup y.1 = some c) : closureFor scope env = pure (cloFrom env.cells scope.names []) := by
  simp only [closureFor]
  rw [closure_loop env _ (fun n k c => rfl) scope.names [] h]
  rfl

theorem mem_lookup {α : Type} : ∀ {l : List (Str × α)} {n : Str} {c : α}, (n, c) ∈ l → ∃ c', l.lookup n = some c'
  | (k, v) :: r, n, c, h => by
    rw [List.lookup_cons]
    cases hb : n == k with
    | true => exact ⟨_, rfl⟩
    | false =>
      rcases List.mem_cons.mp h with e | h
      · cases e; simp at hb
      · exact mem_lookup h

theorem cloFrom_mem {cells : List (Str × Addr)} : ∀ {names : List (Str × NameKind)} {acc : List (Str × Addr)} {n : Str} {c : Addr}, (n, c) ∈ cloFrom cells names acc → (n, c) ∈ acc ∨ ((n, .free) ∈ names ∧ c = (cells.lookup n).getD 0)
  | [], _, _, _, h => .inl h
  | (m, k) :: r, acc, n, c, h => by
    unfold cloFrom at h
    split at h
    · rename_i hk
      have hk : k = .free := by simpa using hk
      rcases cloFrom_mem h with h | ⟨h1, h2⟩
      · rcases List.mem_cons.mp h with e | h
        · cases e; exact .inr ⟨hk ▸ List.mem_cons_self, rfl⟩
        · exact .inl h
      · exact .inr ⟨List.mem_cons_of_mem _ h1, h2⟩
    · rcases cloFrom_mem h with h | ⟨h1, h2⟩
      · exact .inl h
      · exact .inr ⟨List.mem_cons_of_mem _ h1, h2⟩
theorem cloFrom_acc {cells : List (Str × Addr)} : ∀ {names : List (Str × NameKind)} {acc : List (Str × Addr)} {p : Str × Addr}, p ∈ acc → p ∈ cloFrom cells names acc
  | [], _, _, h => h
  | (m, k) :: r, acc, p, h => by
    unfold cloFrom
    split
    · exact cloFrom_acc (List.mem_cons_of_mem _ h)
    · exact cloFrom_acc h
theorem cloFrom_has {cells : List (Str × Addr)} : ∀ {names : List (Str × NameKind)} {acc : List (Str × Addr)} {n : Str}, (n, .free) ∈ names → (n, (cells.lookup n).getD 0) ∈ cloFrom cells names acc
  | (m, k) :: r, acc, n, h => by
    unfold cloFrom
    rcases List.mem_cons.mp h with e | h
    · cases e
      exact cloFrom_acc List.mem_cons_self
    · split
      · exact cloFrom_has h
      · exact cloFrom_has h

theorem cells_mem : ∀ {names : List (Str × NameKind)} {h : Heap} {acc : List (Str × Addr)} {x : Str} {c : Addr}, (x, c) ∈ cellsFrom h.objs.size names acc →
    (x, c) ∈ acc ∨ ((x, .cell) ∈ names ∧ h.objs.size ≤ c ∧ CellAt (pushCells h names) c none)
  | [], _, _, _, _, h => .inl h
  | (n, k) :: r, h, acc, x, c, hm => by
    unfold cellsFrom at hm
    unfold pushCells
    split at hm
    · rename_i hk
      rw [if_pos hk]
      have hk : k = .cell := by simpa using hk
      rw [← Heap.size_push h { cls := .type "cell", data := .cell none }] at hm
      rcases cells_mem hm with hm | ⟨h1, h2, h3⟩
      · rcases List.mem_cons.mp hm with e | hm
        · cases e
          exact .inr ⟨hk ▸ List.mem_cons_self, Nat.le_refl _, _, pushCells_keeps r _ _ _ (Heap.get?_push_size _ rfl), rfl⟩
        · exact .inl hm
      · rw [Heap.size_push] at h2
        exact .inr ⟨List.mem_cons_of_mem _ h1, Nat.le_of_succ_le h2, h3⟩
    · rename_i hk
      rw [if_neg hk]
      rcases cells_mem hm with hm | ⟨h1, h2, h3⟩
      · exact .inl hm
      · exact .inr ⟨List.mem_cons_of_mem _ h1, h2, h3⟩
theorem cells_acc : ∀ {names : List (Str × NameKind)} {n : Nat} {acc : List (Str × Addr)} {p : Str × Addr}, p ∈ acc → p ∈ cellsFrom n names acc
  | [], _, _, _, h => h
  | (m, k) :: r, n, acc, p, h => by
    unfold cellsFrom
    split
    · exact cells_acc (List.mem_cons_of_mem _ h)
    · exact cells_acc h
theorem cells_has : ∀ {names : List (Str × NameKind)} {n : Nat} {acc : List (Str × Addr)} {x : Str}, (x, .cell) ∈ names → ∃ c, (x, c) ∈ cellsFrom n names acc
  | (m, k) :: r, n, acc, x, h => by
    unfold cellsFrom
    rcases List.mem_cons.mp h with e | h
    · cases e
      exact ⟨n, cells_acc List.mem_cons_self⟩
    · split
      · exact cells_has h
      · exact cells_has h
theorem cells_inj : ∀ {names : List (Str × NameKind)} {h : Heap} {acc : List (Str × Addr)} {x y : Str} {c : Addr}, (∀ p ∈ acc, p.2 < h.objs.size) → (∀ x y c, (x, c) ∈ acc → (y, c) ∈ acc → x = y) →
    (x, c) ∈ cellsFrom h.objs.size names acc → (y, c) ∈ cellsFrom h.objs.size names acc → x = y
  | [], _, _, _, _, _, _, hi, h1, h2 => hi _ _ _ h1 h2
  | (n, k) :: r, h, acc, x, y, c, hl, hi, h1, h2 => by
    unfold cellsFrom at h1 h2
    split at h1
    · rename_i hk
      rw [if_pos hk] at h2
      rw [← Heap.size_push h { cls := .type "cell", data := .cell none }] at h1 h2
      refine cells_inj (h := h.push _) (fun p hp => ?_) (fun x y c a b => ?_) h1 h2
      · rw [Heap.size_push]
        rcases List.mem_cons.mp hp with rfl | hp
        · exact Nat.lt_succ_self _
        · exact Nat.lt_succ_of_lt (hl p hp)
      · rcases List.mem_cons.mp a with e | a <;> rcases List.mem_cons.mp b with e' | b
        · cases e; cases e'; rfl
        · cases e; exact absurd (hl _ b) (Nat.lt_irrefl _)
        · cases e'; exact absurd (hl _ a) (Nat.lt_irrefl _)
        · exact hi _ _ _ a b
    · rename_i hk
      rw [if_neg hk] at h2
      exact cells_inj hl hi h1 h2

theorem newEnv_comp {M : Model} {A : Around} {E : Value → Shared → Prop} {s : Shared} {scope : Scope} {globals : Addr} {closure : List (Str × Addr)} {qual : Str} {func : Option Addr} {code : Value} {around : Env} {builtins : Addr} {Q : Env → Shared → Prop}
    (h : Q (newEnv scope s.heap.objs.size globals (cellsFrom (s.heap.objs.size + 1) scope.names closure) qual func code (some around) builtins)
      { s with heap := pushCells (s.heap.push { cls := .type "dict", data := .dict #[] }) scope.names }) :
    wpAny M A (newFunctionEnv scope globals closure [] qual func code (some around) builtins) Q E s := by
  simp only [newFunctionEnv, Option.isSome_some, if_true]
  refine wpAny_bind (wpAny_alloc ?_)
  refine wpAny_bind (wpAny_layCells _ (fun n k c => rfl) scope.names closure _ _ ?_)
  rw [show ({ s with heap := s.heap.push { cls := .type "dict", data := .dict #[] } } : Shared).heap.objs.size = s.heap.objs.size + 1 from Heap.size_push ..]
  rw [List.forIn_nil]
  exact wpAny_bind (wpAny_pure (wpAny_pure h))

/-- every name of the written scope, in the scope that runs -/
theorem lookup_relS {sc : Scope} : ∀ {names : List (Str × NameKind)} {x : Str} {k : NameKind},
    (names.map fun (n, k) => if (k == NameKind.free && sc.kind == .function && sc.names.lookup n == some .cell) then (n, NameKind.cell) else (n, k)).lookup x = some k →
    ∃ k', names.lookup x = some k' ∧ (k = k' ∨ (k' = .free ∧ k = .cell))
  | [], _, _, h => by simp at h
  | (n, k₀) :: r, x, k, h => by
    have ih := @lookup_relS sc r x k
    have h' : List.lookup x ((if (k₀ == NameKind.free && sc.kind == .function && sc.names.lookup n == some .cell) = true then (n, NameKind.cell) else (n, k₀)) :: (r.map _)) = some k := h
    cases hx : x == n with
    | true =>
      simp only [List.lookup_cons, hx]
      by_cases hc : (k₀ == NameKind.free && sc.kind == .function && sc.names.lookup n == some .cell) = true
      · rw [if_pos hc] at h'
        simp only [List.lookup_cons, hx] at h'
        cases h'
        simp only [Bool.and_eq_true, beq_iff_eq] at hc
        exact ⟨k₀, rfl, .inr ⟨hc.1.1, rfl⟩⟩
      · rw [if_neg hc] at h'
        simp only [List.lookup_cons, hx] at h'
        cases h'
        exact ⟨_, rfl, .inl rfl⟩
    | false =>
      simp only [List.lookup_cons, hx]
      by_cases hc : (k₀ == NameKind.free && sc.kind == .function && sc.names.lookup n == some .cell) = true
      · rw [if_pos hc] at h'
        simp only [List.lookup_cons, hx] at h'
        exact ih h'
      · rw [if_neg hc] at h'
        simp only [List.lookup_cons, hx] at h'
        exact ih h'

/-- the names of a comprehension's block: its own (with their places in N), or captured -/
structure BlkOk (N : List Str) (sc scope : Scope) (own : List (Str × Nat)) : Prop where
  kind : scope.kind = .function
  uniq : ∀ y ∈ scope.names, scope.names.lookup y.1 = some y.2
  ix : ∀ p ∈ own, N[p.2]? = some p.1
  free : ∀ y ∈ scope.names, y.2 = .free → sc.names.lookup y.1 = some .cell ∨ sc.names.lookup y.1 = some .free
  own : ∀ y ∈ scope.names, y.2 = .local ∨ y.2 = .cell → y.1 ∈ own.map (·.1) ∨ y.1 ∉ N
/-- the slots of the block's own names forgotten -/
def wipe (σ : St) : List Nat → St
  | [] => σ
  | v :: vs => (wipe σ vs).set v none
theorem wipe_length (σ : St) : ∀ vs : List Nat, (wipe σ vs).length = σ.length
  | [] => rfl
  | v :: vs => by unfold wipe; rw [List.length_set, wipe_length σ vs]
theorem wipe_some {σ : St} {i : Nat} {x : V} : ∀ {vs : List Nat}, (wipe σ vs)[i]? = some (some x) → σ[i]? = some (some x) ∧ i ∉ vs
  | [], h => ⟨h, by simp⟩
  | v :: vs, h => by
    unfold wipe at h
    by_cases hi : v = i
    · subst hi
      by_cases hv : v < (wipe σ vs).length
      · rw [List.getElem?_set_self hv] at h; cases h
      · rw [List.getElem?_eq_none (by simpa using hv)] at h; cases h
    · rw [List.getElem?_set_ne hi] at h
      obtain ⟨h1, h2⟩ := wipe_some h
      exact ⟨h1, by simp only [List.mem_cons, not_or]; exact ⟨fun e => hi e.symm, h2⟩⟩

/-- the context of a block that starts at s, its iterator's objects at fp -/
abbrev Cx.blk (X : Cx) (s : Shared) (H : Hp) (scope : Scope) (cenv : Env) (fp : List Addr) : Cx := { X with s_0 := s, H_0 := H, env := cenv, outer := X.stack, ex := fp, fn := fun x => scope.names.lookup x == some .cell, pn := [], xe := fun _ _ => False }
section
variable {X : Cx} {pins : List (Addr × Obj)} {σ : St} {H : Hp} {s : Shared}
theorem block_start {scope : Scope} {own : List (Str × Nat)} {fp : List Addr} (I : Inv X pins σ H s) (ok : BlkOk X.N X.env.scope scope own) (hN : X.N.Nodup) (hfp : ∀ b ∈ fp, FpOk X pins H b ∧ b < s.heap.objs.size) :
    Inv (X.blk s H scope (compEnvC scope (cellsFrom (s.heap.objs.size + 1) scope.names (cloFrom X.env.cells scope.names [])) s.heap.objs.size X.env) fp) [] (wipe σ (own.map (·.2))) H { s with heap := pushCells (s.heap.push { cls := .type "dict", data := .dict #[] }) scope.names } := by
  have hfree : ∀ y ∈ scope.names, y.2 = .free → ∃ c, X.env.cells.lookup y.1 = some c := fun y hy e => by
    rcases ok.free y hy e with k | k
    · exact I.ok.has _ (.inl k)
    · exact I.ok.has _ (.inr k)
  generalize hcenv : compEnvC scope (cellsFrom (s.heap.objs.size + 1) scope.names (cloFrom X.env.cells scope.names [])) s.heap.objs.size X.env = cenv
  have kp : ∀ b o, s.heap.get? b = some o → (pushCells (s.heap.push { cls := .type "dict", data := .dict #[] }) scope.names).get? b = some o := fun b o e => pushCells_keeps _ _ _ _ (Heap.get?_push_of_some _ e)
  have hL : cenv.locals = s.heap.objs.size := by rw [← hcenv]; rfl
  have hcl : cenv.cells = cellsFrom (s.heap.objs.size + 1) scope.names (cloFrom X.env.cells scope.names []) := by rw [← hcenv]; rfl
  have hsc : cenv.scope = relS scope X.env.scope := by rw [← hcenv]; rfl
  rw [← Heap.size_push s.heap { cls := .type "dict", data := .dict #[] }] at hcl
  have cm : ∀ {y c}, (y, c) ∈ cloFrom X.env.cells scope.names [] → X.env.cells.lookup y = some c ∧ c < s.heap.objs.size := fun {y c} hm => by
    rcases cloFrom_mem hm with hm | ⟨h1, rfl⟩
    · cases hm
    · obtain ⟨c, hc⟩ := hfree _ h1 rfl
      rw [hc]
      obtain ⟨w, z⟩ := I.cell _ _ hc
      exact ⟨rfl, z.lt⟩
  have mem : ∀ {y c}, cenv.cells.lookup y = some c → (X.env.cells.lookup y = some c ∧ c < s.heap.objs.size) ∨ (s.heap.objs.size + 1 ≤ c ∧ CellAt (pushCells (s.heap.push { cls := .type "dict", data := .dict #[] }) scope.names) c none) := fun {y c} e => by
    rw [hcl] at e
    rcases cells_mem (PySem.mem_of_lookup e) with hm | ⟨_, h2, h3⟩
    · exact .inl (cm hm)
    · rw [Heap.size_push] at h2; exact .inr ⟨h2, h3⟩
  have look : ∀ {y}, scope.names.lookup y = some .free → ∃ c, cenv.cells.lookup y = some c ∧ X.env.cells.lookup y = some c := fun {y} hl => by
    have hy : (y, NameKind.free) ∈ scope.names := PySem.mem_of_lookup hl
    obtain ⟨c', e'⟩ := mem_lookup (cells_acc (names := scope.names) (n := (s.heap.push { cls := .type "dict", data := .dict #[] }).objs.size) (cloFrom_has (cells := X.env.cells) (acc := []) hy))
    rw [← hcl] at e'
    refine ⟨c', e', ?_⟩
    rw [hcl] at e'
    rcases cells_mem (PySem.mem_of_lookup e') with hm | ⟨h1, _, _⟩
    · exact (cm hm).1
    · have := ok.uniq _ h1
      rw [hl] at this; cases this
  have okB : (X.blk s H scope cenv fp).Ok := by
    refine ⟨I.ok.mod, by show cenv.scope.kind = _; rw [hsc]; exact ok.kind, by show cenv.globals = _; rw [← hcenv]; exact I.ok.glob, by show cenv.builtins = _; rw [← hcenv]; exact I.ok.blt, by show s.heap.objs.size ≤ cenv.locals; rw [hL]; exact Nat.le_refl _,
      fun y z c e1 e2 => ?_, fun y hy => ?_, fun y c z e => ?_, I.ok.hd, I.ok.frames, .inl rfl, fun b hb => ⟨?_, fun y c e z => ?_⟩, I.bs, Nat.le_trans I.ok.bsz I.sz, fun b o e hb => ?_, fun b hb z => ?_, I.stack, I.stkFree⟩
    · have e1 : cenv.cells.lookup y = some c := e1
      have e2 : cenv.cells.lookup z = some c := e2
      rw [hcl] at e1 e2
      refine cells_inj (fun p hp => ?_) (fun y z c a b => I.ok.inj y z c (cm a).1 (cm b).1) (PySem.mem_of_lookup e1) (PySem.mem_of_lookup e2)
      rw [Heap.size_push]
      exact Nat.lt_succ_of_lt (cm (y := p.1) (c := p.2) hp).2
    · show ∃ c, cenv.cells.lookup y = some c
      have key : ∀ k, cenv.kindOf y = some k → (k = .cell ∨ k = .free) → ∃ c, cenv.cells.lookup y = some c := fun k hk hk' => by
        unfold Env.kindOf at hk
        rw [hsc] at hk
        obtain ⟨k', e, r⟩ := lookup_relS hk
        have : k' = .cell ∨ k' = .free := by
          rcases r with rfl | ⟨rfl, _⟩
          · exact hk'
          · exact .inr rfl
        rcases this with rfl | rfl
        · obtain ⟨c, hm⟩ := cells_has (n := (s.heap.push { cls := .type "dict", data := .dict #[] }).objs.size) (acc := cloFrom X.env.cells scope.names []) (PySem.mem_of_lookup e)
          obtain ⟨c', e'⟩ := mem_lookup hm
          exact ⟨c', by rw [hcl]; exact e'⟩
        · obtain ⟨c, h1, _⟩ := look e
          exact ⟨c, h1⟩
      rcases hy with hy | hy
      · exact key _ hy (.inl rfl)
      · exact key _ hy (.inr rfl)
    · have z : (scope.names.lookup y == some NameKind.cell) = true := z
      have z : scope.names.lookup y = some .cell := by simpa using z
      have e : cenv.cells.lookup y = some c := e
      rw [hcl] at e
      rcases cells_mem (PySem.mem_of_lookup e) with hm | ⟨_, h2, _⟩
      · rcases cloFrom_mem hm with hm | ⟨h1, _⟩
        · cases hm
        · have q := ok.uniq _ h1
          rw [z] at q; cases q
      · rw [Heap.size_push] at h2
        exact Nat.le_of_succ_le h2
    · show b ≠ cenv.locals
      rw [hL]; exact Nat.ne_of_lt (hfp b hb).2
    · have e : cenv.cells.lookup y = some c := e
      rcases mem e with ⟨h1, _⟩ | ⟨h1, _⟩
      · exact (hfp b hb).1.2.2.2.2.1 y c h1 z
      · have h2 : s.heap.objs.size + 1 ≤ b := by rw [← z]; exact h1
        exact absurd (Nat.lt_of_lt_of_le (hfp b hb).2 (Nat.le_of_succ_le h2)) (Nat.lt_irrefl _)
    · rcases (hfp b hb).1.2.2.2.1 with z | z
      · exact I.ok.noex b o e z
      · exact absurd (Nat.lt_of_lt_of_le (Heap.lt_size e) (Nat.le_trans I.ok.bsz z)) (Nat.lt_irrefl _)
    · rcases List.mem_cons.mp (I.stkSub b z) with z | z
      · exact (hfp b hb).1.2.1 z
      · exact (hfp b hb).1.2.2.1 z
  refine ⟨okB, rfl, I.bare, Un.kept kp, ⟨fun _ => none, ?_, fun i y av e1 e2 e3 => ?_⟩, fun y c e => ?_, ?_, fun y c e => ?_, fun p hp => ?_, I.hok.kept kp, by rw [wipe_length]; exact I.len⟩
  · show Heap.Ns _ cenv.locals _
    rw [hL]
    exact Heap.Ns.keeps (Heap.Ns.new ..) fun b o e => pushCells_keeps _ _ _ _ e
  · obtain ⟨e2, hne⟩ := wipe_some e2
    have hfr : scope.names.lookup y = some .free ∧ (cenv.kindOf y = some .cell ∨ cenv.kindOf y = some .free) := by
      have key : ∀ k, cenv.scope.names.lookup y = some k → k = .local ∨ k = .cell ∨ k = .free → scope.names.lookup y = some .free ∧ (cenv.kindOf y = some .cell ∨ cenv.kindOf y = some .free) := fun k hk hk' => by
        have hk0 := hk
        rw [hsc] at hk
        obtain ⟨k', e, r⟩ := lookup_relS hk
        have no : ¬ (k' = .local ∨ k' = .cell) := fun hh => by
          rcases ok.own _ (PySem.mem_of_lookup e) hh with e' | e'
          · obtain ⟨p, hp, hpy⟩ := List.mem_map.mp e'
            have e3 := ok.ix p hp
            have : p.1 = y := hpy
            rw [this] at e3
            exact hne (List.mem_map.mpr ⟨p, hp, nodup_ix hN e3 e1⟩)
          · exact e' (List.mem_of_getElem? e1)
        rcases r with rfl | ⟨rfl, rfl⟩
        · rcases hk' with rfl | rfl | rfl
          · exact absurd (.inl rfl) no
          · exact absurd (.inr rfl) no
          · exact ⟨e, .inr hk0⟩
        · exact ⟨e, .inl hk0⟩
      have e3 : Vis cenv.scope y := e3
      rcases e3 with e3 | e3 | e3
      · exact key _ e3 (.inl rfl)
      · exact key _ e3 (.inr (.inl rfl))
      · exact key _ e3 (.inr (.inr rfl))
    obtain ⟨m, hn, hl⟩ := I.loc
    have hvis : Vis X.env.scope y := (ok.free _ (PySem.mem_of_lookup hfr.1) rfl).elim (fun k => .inr (.inl k)) (fun k => .inr (.inr k))
    obtain ⟨w, r, q⟩ := hl i y av e1 e2 hvis
    refine ⟨w, r, .inr ⟨hfr.2, ?_⟩⟩
    obtain ⟨c, h1, h2⟩ := look hfr.1
    rcases q with ⟨k, _⟩ | ⟨_, c', e', z⟩
    · have k : X.env.scope.names.lookup y = some .local := k
      rcases ok.free _ (PySem.mem_of_lookup hfr.1) rfl with k' | k' <;> rw [show X.env.scope.names.lookup y = _ from k'] at k <;> cases k
    · rw [h2] at e'; cases e'
      exact ⟨c, h1, z.keeps kp⟩
  · have e : cenv.cells.lookup y = some c := e
    rcases mem e with ⟨h1, _⟩ | ⟨_, z⟩
    · obtain ⟨w, z⟩ := I.cell y c h1
      exact ⟨w, z.keeps kp⟩
    · exact ⟨_, z⟩
  · show H cenv.locals = none
    rw [hL]; exact I.hok.fresh (Nat.le_refl _)
  · have e : cenv.cells.lookup y = some c := e
    rcases mem e with ⟨h1, _⟩ | ⟨h1, _⟩
    · exact I.freeC y c h1
    · exact I.hok.fresh (Nat.le_of_succ_le h1)
  · exact absurd (show p ∈ ([] : List (Addr × Obj)) ++ [] from hp) (by simp)

/-- an item appended to a tracked list -/
theorem app_ok {E : Value → Shared → Prop} {D : Addr} {xs : List V} {y : V} {v : Value} {Q : Value → Shared → Prop} (I : Inv X pins σ H s) (hD : H D = some (.lst xs)) (hz : xs.length < sizeLine) (r : RelV y v)
    (h : ∀ s', Inv X pins σ (upd H D (.lst (xs ++ [y]))) s' → Q .none s') : wpAny (model X.prog X.w) X.A (call (.builtin "list.append") [.ref D, v]) Q E s := by
  obtain ⟨hz', its, n, ri, e⟩ := I.hok D _ hD
  have hl := ri.length
  refine append_at (hsz := by rw [List.size_toArray]; omega) e fun h' sb ho' => ?_
  refine h { s with heap := h' } (I.write (t' := s.toks) (by rw [hD]; trivial) (.inl rfl) (fun b u hb q => (sb.2 b hb).trans q) ⟨_, ho'⟩ ⟨by rw [List.length_append]; exact hz, its ++ [v], n + 1, ri.append (.cons r .nil), ?_⟩)
  rw [ho']
  simp

/-- a clause's tests -/
def PTs (X : Cx) (ifs : List Expr) (t : TT) : Prop :=
  ∀ (pins : List (Addr × Obj)) (s : Shared) (σ : St) (H : Hp) (Q : Bool → Hp → Prop), Inv X pins σ H s → t σ H Q →
    wpAny (model X.prog X.w) X.A (forIn ifs true fun c r => if r = true then do let ok ← isTrue c X.env (eval c X.env); pure (ForInStep.yield ok) else pure (ForInStep.yield r)) (TP X pins σ Q) X.xe s
def tYes : TT := fun _ H Q => Q true H
theorem pts_nil : PTs X [] tYes := fun _ _ _ H _ I h => wpAny_tests_nil ⟨H, I, h⟩
theorem pts_one {c : Expr} {t : TT} (h : PT X c t) : PTs X [c] t := fun pins s σ H Q I hw => wpAny_tests_one (h pins s σ H Q I hw)
end

theorem thnF {α : Type} {t : Sem α} {Q Q' : α → Shared → Prop} {M : Model} {A : Around} {E : Value → Shared → Prop} {s : Shared} (h : wpAny M A t Q (fun _ _ => False) s) (hQ : ∀ a s, Q a s → Q' a s) : wpAny M A t Q' E s := wpAny_mono h hQ fun _ _ z => False.elim z

/-- the loop of a list comprehension's block, the target of any form (codeAny_compLoop_tests asks a target that no tuple goes to; statement and proof follow it, PyProof/CompMap.lean:41-61, with the step letOwnedTupleGo kept) -/
theorem compLoop_any {prog : Program} {w : World} {A : Around} {R : Result → Shared → Prop} {s : Shared} {elt target iter : Expr} {ifs : List Expr} {scope : Scope} {pos : Pos} {it acc : Value} {env : Env} (I : Nat → Shared → Prop)
    (turn : ∀ n s, I n s → wpAny (model prog w) A (pyNext it) (fun r s₁ => match r with
      | none => R (.ok .next) s₁
      | some v => wpAny (model prog w) A (letOwnedTupleGo target it v) (fun _ s₁' => wpAny (model prog w) A (assign target env v) (fun _ s₂ =>
          wpAny (model prog w) A (forIn ifs true fun c r => if r = true then do let ok ← isTrue c env (eval c env); pure (ForInStep.yield ok) else pure (ForInStep.yield r)) (fun ok s₃ =>
            if ok = true then wpAny (model prog w) A (eval elt env) (fun x s₄ =>
              wpAny (model prog w) A (call (.builtin "list.append") [acc, x]) (fun _ s₅ => ∃ m, m < n ∧ I m s₅) (notedBy (model prog w) A env fun e s' => R (.error e) s') s₄) (notedBy (model prog w) A env fun e s' => R (.error e) s') s₃
            else ∃ m, m < n ∧ I m s₃) (notedBy (model prog w) A env fun e s' => R (.error e) s') s₂) (notedBy (model prog w) A env fun e s' => R (.error e) s') s₁') (notedBy (model prog w) A env fun e s' => R (.error e) s') s₁) (notedBy (model prog w) A env fun e s' => R (.error e) s') s)
    (n : Nat) (h : I n s) :
    codeAny (model prog w) A (.compLoop (.ListComp elt [⟨target, iter, ifs, 0⟩] scope pos) 0 it acc env) R s := by
  refine codeAny_loop rfl I (fun n s hI => ?_) n h
  show wpAny _ A ((compTurn (.ListComp elt [⟨target, iter, ifs, 0⟩] scope pos) 0 it acc env).onRaise (fun x => do noteFrame x env; theTreesLotGoes x)) _ _ s
  refine wpAny_noted ?_
  rw [compTurn_list]
  refine wpAny_bind (wpAny_standAt (wpAny_bind (wpAny_mono (turn n s hI) (fun r s₁ h₁ => ?_) fun _ _ h' => h')))
  cases r with
  | none => exact wpAny_pure h₁
  | some v =>
    refine wpAny_bind (wpAny_mono h₁ (fun _ s₁' h₁' => ?_) fun _ _ h' => h')
    refine wpAny_bind (wpAny_mono h₁' (fun _ s₂ h₂ => wpAny_bind (wpAny_mono h₂ (fun ok s₃ h₃ => ?_) fun _ _ h' => h')) fun _ _ h' => h')
    cases ok with
    | false => exact wpAny_pure ⟨rfl, h₃⟩
    | true =>
      exact wpAny_bind (wpAny_bind (wpAny_mono h₃ (fun x s₄ h₄ => wpAny_bind (wpAny_mono h₄ (fun _ s₅ h₅ => wpAny_pure (wpAny_pure ⟨rfl, h₅⟩)) fun _ _ h' => h')) fun _ _ h' => h'))

section
variable {X : Cx}
/-- [elt for target in iter if ..]: D the new list; W by the turn and a measure, Nx what a turn is to reach -/
def tLc (wi : TI) (g : TG) (tt : TT) (te : TE) (vs : List Nat) : TE := fun σ H Q => wi σ H fun J H1 => ∀ D, H1 D = none → ∃ W : Nat → Nat → Hp → Prop, (∃ m, W 0 m (upd H1 D (.lst []))) ∧ ∀ i m H, W i m H →
  (J.stop i H ∧ Q (.ref D) H) ∨ (J.go i H ∧ ∃ Nx : Hp → Prop, (∀ H', Nx H' → ∃ m', m' < m ∧ W (i + 1) m' H') ∧ ∀ x H', J.yld i H x H' → g x (wipe σ vs) H' fun σ2 H2 => wipe σ2 vs = wipe σ vs ∧ tt σ2 H2 fun b H3 =>
    if b = true then te σ2 H3 fun y H4 => ∃ acc, H4 D = some (.lst acc) ∧ acc.length < sizeLine ∧ Nx (upd H4 D (.lst (acc ++ [y]))) else Nx H3)
theorem lc_core {pins : List (Addr × Obj)} {s : Shared} {σ : St} {H : Hp} {Q : VK} {elt tg iter : Expr} {ifs : List Expr} {scope : Scope} {own : List (Str × Nat)} {pos pos' : Pos} {wi : TI} {g : TG} {tt : TT} {te : TE} {use : Option (Value → Sem Unit)} {Qf : Value → Shared → Prop}
    (hc : X.calm = true) (hN : X.N.Nodup) (I : Inv X pins σ H s) (hi : PI X tg iter wi) (ok : BlkOk X.N X.env.scope scope own)
    (hg : ∀ (s : Shared) (H : Hp) (C : Addr) (cl : List (Str × Addr)) (fp : List Addr), PG (X.blk s H scope (compEnvC scope cl C X.env) fp) tg g) (ht : ∀ (s : Shared) (H : Hp) (C : Addr) (cl : List (Str × Addr)) (fp : List Addr), PTs (X.blk s H scope (compEnvC scope cl C X.env) fp) ifs tt)
    (he : ∀ (s : Shared) (H : Hp) (C : Addr) (cl : List (Str × Addr)) (fp : List Addr), PE (X.blk s H scope (compEnvC scope cl C X.env) fp) elt te) (hs : ∀ x, foldedSetIterable iter X.env x = pure x)
    (h : tLc wi g tt te (own.map (·.2)) σ H Q)
    (hRR : ∀ D C s' m H', Inv X pins σ H' s' → Q (.ref D) H' → s'.heap.Ns C m → FpOk X pins H' C → compPost (model X.prog X.w) X.A X.xe use Qf (.ref D) C (.ok .next) s') :
    wpAny (model X.prog X.w) X.A (comprehension (.ListComp elt [⟨tg, iter, ifs, 0⟩] scope pos) scope X.env pos' (newList []) false (eval iter X.env) use) Qf X.xe s := by
  have hfree : ∀ y ∈ scope.names, y.2 = .free → ∃ c, X.env.cells.lookup y.1 = some c := fun y hy e => by
    rcases ok.free y hy e with k | k
    · exact I.ok.has _ (.inl k)
    · exact I.ok.has _ (.inr k)
  refine wpAny_comprehension_free (use := use) rfl hs (closure_ok hfree) ok.kind (fun y hy e => by rw [ok.uniq y hy, e])
    (thn (hi pins s σ H _ I h) fun xv s1 hx => thn hx fun itv s2 h2 => ?_)
  obtain ⟨it, fp, tn, J, H2, e, I2, T, st2, f2, q⟩ := h2
  subst e
  refine wpAny_newObj_type (newEnv_comp ?_) (by show 0 ≤ sizeLine; decide)
  generalize hD : s2.heap.objs.size = D
  have hDn : H2 D = none := I2.hok.fresh (Nat.le_of_eq hD)
  obtain ⟨W, ⟨m0, w0⟩, turn⟩ := q D hDn
  -- the new list
  generalize hs3 : ({ s2 with heap := s2.heap.push { cls := .type "list", data := .seq ([] : List Value).toArray } } : Shared) = s3
  have I3 : Inv X pins σ (upd H2 D (.lst [])) s3 := by
    rw [← hs3]
    refine I2.laid (t' := s2.toks) (fun b o e => Heap.get?_push_of_some _ e) (Nat.le_of_eq hD) ⟨Nat.zero_le _, [], 0, .nil, ?_⟩
    rw [← hD]
    exact Heap.get?_push_size _ rfl
  have h3 : s3.heap = s2.heap.push { cls := .type "list", data := .seq ([] : List Value).toArray } := by rw [← hs3]
  have sz : ∀ b ∈ fp, b < s2.heap.objs.size := fun b hb => by
    obtain ⟨o, e, _⟩ := T.obj _ _ st2 b hb
    exact Heap.lt_size e
  have f3 : ∀ b ∈ fp, FpOk X pins (upd H2 D (.lst [])) b ∧ b < s3.heap.objs.size := fun b hb => by
    have hlt := sz b hb
    refine ⟨⟨?_, (f2 b hb).2⟩, by rw [h3, Heap.size_push]; exact Nat.lt_succ_of_lt hlt⟩
    rw [upd_ne (by rw [← hD]; exact Nat.ne_of_lt hlt)]
    exact (f2 b hb).1
  have st3 : tn 0 s3.heap := T.keep _ _ _ st2 fun b _ o e => by rw [h3]; exact Heap.get?_push_of_some _ e
  have I4 := block_start I3 ok hN f3
  have pg := hg s3 (upd H2 D (.lst [])) s3.heap.objs.size (cellsFrom (s3.heap.objs.size + 1) scope.names (cloFrom X.env.cells scope.names [])) fp
  have pt := ht s3 (upd H2 D (.lst [])) s3.heap.objs.size (cellsFrom (s3.heap.objs.size + 1) scope.names (cloFrom X.env.cells scope.names [])) fp
  have pe := he s3 (upd H2 D (.lst [])) s3.heap.objs.size (cellsFrom (s3.heap.objs.size + 1) scope.names (cloFrom X.env.cells scope.names [])) fp
  show codeAny _ _ (.compStart (.ListComp elt [⟨tg, iter, ifs, 0⟩] scope pos) 0 (.ref it) (.ref D) (compEnvC scope (cellsFrom (s3.heap.objs.size + 1) scope.names (cloFrom X.env.cells scope.names [])) s3.heap.objs.size X.env)) (compPost (model X.prog X.w) X.A X.xe use Qf (.ref D) s3.heap.objs.size) { s3 with heap := pushCells (s3.heap.push { cls := .type "dict", data := .dict #[] }) scope.names }
  have nfp : ∀ b ∈ fp, (upd H2 D (.lst [])) b = none := fun b hb => (f3 b hb).1.1
  generalize hce : compEnvC scope (cellsFrom (s3.heap.objs.size + 1) scope.names (cloFrom X.env.cells scope.names [])) s3.heap.objs.size X.env = ce at I4 pg pt pe ⊢
  have cL : ce.locals = s3.heap.objs.size := by subst hce; rfl
  generalize hH3 : upd H2 D (.lst []) = H3 at I3 I4 pg pt pe w0 nfp f3
  generalize hs4 : ({ s3 with heap := pushCells (s3.heap.push { cls := .type "dict", data := .dict #[] }) scope.names } : Shared) = s4 at I4 ⊢
  have st4 : tn 0 s4.heap := T.keep _ _ _ st3 fun b _ o e => by rw [← hs4]; exact pushCells_keeps _ _ _ _ (Heap.get?_push_of_some _ e)
  have stat : ∀ {σ' : St} {H' : Hp} {s' : Shared}, Inv (X.blk s3 H3 scope ce fp) [] σ' H' s' → (∀ b ∈ fp, H' b = none) → ∀ b ∈ fp, FpOk (X.blk s3 H3 scope ce fp) [] H' b := fun {σ' H' s'} I' hn b hb =>
    ⟨hn b hb, (I'.ok.exf b hb).1, I'.ok.exfs b hb, .inl hb, fun x c e => (I'.ok.exf b hb).2 x c e, fun p hp => absurd (show p ∈ ([] : List (Addr × Obj)) ++ [] from hp) (by simp)⟩
  have loop : codeAny (model X.prog X.w) X.A (.compLoop (.ListComp elt [⟨tg, iter, ifs, 0⟩] scope pos) 0 (.ref it) (.ref D) ce) (compPost (model X.prog X.w) X.A X.xe use Qf (.ref D) s3.heap.objs.size) s4 := by
    refine compLoop_any (fun n s' => ∃ i H', Inv (X.blk s3 H3 scope ce fp) [] (wipe σ (own.map (·.2))) H' s' ∧ tn i s'.heap ∧ (∀ b ∈ fp, H' b = none) ∧ W i n H') ?_ m0 ⟨0, H3, I4, st4, nfp, w0⟩
    rintro n s5 ⟨i, H5, I5, st5, n5, w5⟩
    rcases turn i n H5 w5 with ⟨stop, qq⟩ | ⟨go, Nx, hNx, step⟩
    · have td := T.done (X.blk s3 H3 scope ce fp) rfl rfl rfl hc i [] s5 _ H5 (fun _ _ => False) I5 (stat I5 n5) st5 stop
      refine thnF td fun r s6 ⟨hr, I6⟩ => ?_
      subst hr
      -- back in the def's context
      have I7 : Inv X pins σ H5 s6 := I3.call' (ch := fp) I6.os I6.base I6.hok I6.bare fun b hb => ⟨(f3 b hb).1.2.2.2.1, (f3 b hb).1.2.1, (f3 b hb).1.2.2.2.2.1, (f3 b hb).1.2.2.2.2.2⟩
      have nC : H5 s3.heap.objs.size = none := by
        have z : H5 ce.locals = none := I6.free
        rw [cL] at z
        exact z
      obtain ⟨m, hn, _⟩ := I6.loc
      have hn : s6.heap.Ns ce.locals m := hn
      rw [cL] at hn
      exact hRR D s3.heap.objs.size s6 m H5 I7 qq hn (I3.fpOk (Nat.le_refl _) nC)
    · have ti := T.item (X.blk s3 H3 scope ce fp) rfl rfl rfl hc i [] s5 _ H5 (fun _ _ => False) I5 (stat I5 n5) st5 go
      refine thnF ti fun r s6 ⟨u, hr, h6⟩ => ?_
      subst hr
      refine thnF h6 fun _ s7 ⟨x, H7, I7, r7, y7, st7, n7⟩ => ?_
      have I7' := I7.pinned (stat I7 n7) (T.obj _ _ st7)
      refine thnF (pg _ s7 _ H7 x u _ I7' r7 (step x H7 y7)) fun _ s8 ⟨σ8, H8, I8, hw8, q8⟩ => ?_
      refine thnF (pt _ s8 σ8 H8 _ I8 q8) fun b s9 ⟨H9, I9, q9⟩ => ?_
      -- the turn's end
      have fin : ∀ {s' : Shared} {H' : Hp}, Inv (X.blk s3 H3 scope ce fp) ([] ++ pinsAt fp s7.heap) σ8 H' s' → Nx H' → ∃ m, m < n ∧ ∃ i H', Inv (X.blk s3 H3 scope ce fp) [] (wipe σ (own.map (·.2))) H' s' ∧ tn i s'.heap ∧ (∀ b ∈ fp, H' b = none) ∧ W i m H' := fun {s' H'} I' nx => by
        obtain ⟨m', hm, w'⟩ := hNx H' nx
        have pin' : ∀ b ∈ fp, ∀ o, s7.heap.get? b = some o → s'.heap.get? b = some o ∧ H' b = none := fun b hb o e =>
          let z := I'.pin (b, o) (List.mem_append_right _ (List.mem_append_right _ (mem_pinsAt hb e)))
          ⟨z.1, z.2.1⟩
        have hl : (wipe σ (own.map (·.2))).length = σ8.length := by rw [← hw8, wipe_length]
        refine ⟨m', hm, i + 1, H', (I'.unpinned (pins := [])).weak hl (fun j v e => ?_), T.keep _ _ _ st7 fun b hb o e => (pin' b hb o e).1, fun b hb => ?_, w'⟩
        · rw [← hw8] at e
          exact (wipe_some e).1
        · obtain ⟨o, e, _⟩ := T.obj _ _ st7 b hb
          exact (pin' b hb o e).2
      cases b with
      | false =>
        simp only [Bool.false_eq_true, if_false] at q9 ⊢
        exact fin I9 q9
      | true =>
        simp only [if_true] at q9 ⊢
        refine thnF (pe _ s9 σ8 H9 _ I9 q9) fun z s10 ⟨yv, H10, I10, r10, acc, hD10, hz10, nx⟩ => ?_
        exact app_ok (X := X.blk s3 H3 scope ce fp) I10 hD10 hz10 r10 fun s11 I11 => fin I11 nx
  exact codeAny_compStart_list loop (T.self X.A 0 _ _ _ st4 loop)
/-- as a value -/
theorem pe_lc {elt tg iter : Expr} {ifs : List Expr} {scope : Scope} {own : List (Str × Nat)} {pos : Pos} {wi : TI} {g : TG} {tt : TT} {te : TE} (hc : X.calm = true) (hN : X.N.Nodup) (hi : PI X tg iter wi) (ok : BlkOk X.N X.env.scope scope own)
    (hg : ∀ (s : Shared) (H : Hp) (C : Addr) (cl : List (Str × Addr)) (fp : List Addr), PG (X.blk s H scope (compEnvC scope cl C X.env) fp) tg g) (ht : ∀ (s : Shared) (H : Hp) (C : Addr) (cl : List (Str × Addr)) (fp : List Addr), PTs (X.blk s H scope (compEnvC scope cl C X.env) fp) ifs tt)
    (he : ∀ (s : Shared) (H : Hp) (C : Addr) (cl : List (Str × Addr)) (fp : List Addr), PE (X.blk s H scope (compEnvC scope cl C X.env) fp) elt te) (hs : ∀ x, foldedSetIterable iter X.env x = pure x := by intro _; rfl) :
    PE X (.ListComp elt [⟨tg, iter, ifs, 0⟩] scope pos) (tLc wi g tt te (own.map (·.2))) := by
  intro pins s σ H Q I h
  rw [eval_ListComp]
  refine lc_core hc hN I hi ok hg ht he hs h fun D C s' m H' I' q hn f => ⟨m, hn, fun h'' sb => ?_⟩
  obtain ⟨f0, f1, f2, f3, f4, f5⟩ := f
  exact ⟨.ref D, H', I'.turned (t' := s'.toks) (fun b o hb e => (sb.2 b hb).trans e) f0 f1 f3 f4 f5, rfl, q⟩
/-- name = [..] on one line, the name a local -/
theorem ps_setLc {i : Nat} {y : Str} {py : Pos} {elt tg iter : Expr} {ifs : List Expr} {scope : Scope} {own : List (Str × Nat)} {pos spos : Pos} {wi : TI} {g : TG} {tt : TT} {te : TE} (hc : X.calm = true) (hN : X.N.Nodup) (hy : X.N[i]? = some y) (hyl : X.env.scope.names.lookup y = some .local)
    (hsw : swapsWith (.ListComp elt [⟨tg, iter, ifs, 0⟩] scope pos) (some (.Name y py)) spos.line X.env = pure true) (hi : PI X tg iter wi) (ok : BlkOk X.N X.env.scope scope own)
    (hg : ∀ (s : Shared) (H : Hp) (C : Addr) (cl : List (Str × Addr)) (fp : List Addr), PG (X.blk s H scope (compEnvC scope cl C X.env) fp) tg g) (ht : ∀ (s : Shared) (H : Hp) (C : Addr) (cl : List (Str × Addr)) (fp : List Addr), PTs (X.blk s H scope (compEnvC scope cl C X.env) fp) ifs tt)
    (he : ∀ (s : Shared) (H : Hp) (C : Addr) (cl : List (Str × Addr)) (fp : List Addr), PE (X.blk s H scope (compEnvC scope cl C X.env) fp) elt te) (hs : ∀ x, foldedSetIterable iter X.env x = pure x := by intro _; rfl) :
    PS X (.Assign [.Name y py] (.ListComp elt [⟨tg, iter, ifs, 0⟩] scope pos) spos) (tAsg (tLc wi g tt te (own.map (·.2))) (gName i)) := by
  intro pins s σ H D I h
  rw [exec_Assign_Name_used _ _ _ _ hsw]
  refine wpAny_bind (wpAny_standAt (wpAny_bind ?_))
  show wpAny _ X.A (do let _ ← comprehension (.ListComp elt [⟨tg, iter, ifs, 0⟩] scope pos) scope X.env (firstIterPos [⟨tg, iter, ifs, 0⟩] pos) (newList []) false (eval iter X.env) (some (assign (.Name y py) X.env))) _ _ s
  have h : tLc wi g tt te (own.map (·.2)) σ H (fun x H1 => gName i x σ H1 D.nx) := h
  refine wpAny_bind (thn (lc_core (Qf := fun _ s' => SP X pins D .next s') hc hN I hi ok hg ht he hs h fun L C s' m H' I' q hn f => ?_) fun _ s' hq => wpAny_pure (wpAny_pure hq))
  show wpAny _ _ (assign (.Name y py) X.env (.ref L)) _ _ _
  refine wpAny_assign_Name (store_ok2 (v := V.ref L) I' hN hy (.inl hyl) rfl (fun s2 I2 ⟨a, sb, ha⟩ => ?_) (.inr hyl))
  obtain ⟨f0, f1, f2, f3, f4, f5⟩ := f
  have haC : C ≠ a := by
    rcases ha with z | z
    · rw [z]; exact f1
    · exact fun e => f4 y a z e.symm
  refine ⟨m, hn.sameBut sb haC, fun h3 sb3 => ?_⟩
  exact ⟨_, H', I2.turned (t' := s2.toks) (fun b o hb e => (sb3.2 b hb).trans e) f0 f1 f3 f4 f5, q⟩
theorem sw_true {elt : Expr} {gs : List Comprehension} {scope : Scope} {pos py : Pos} {y : Str} {l : Nat} {env : Env} (hk : env.scope.kind = .function) (hy : env.scope.names.lookup y = some .local) (hl : (py.line == pos.line) = true)
    (ha : (scope.names.any fun (n, k) => n == y && (k == .local || k == .cell)) = false) : swapsWith (.ListComp elt gs scope pos) (some (.Name y py)) l env = pure true := by
  have ky : env.kindOf y = some .local := hy
  have hb : env.blockKind = .function := by unfold Env.blockKind; rw [hk]; rfl
  unfold swapsWith
  simp only [hb, ky, ha, Expr.pos, hl]
  rfl
end

/-- over a list that the block leaves as it is -/
theorem lc_list {K : PySem.W.Frag} {a : Addr} {xs : List V} {g : TG} {tt : TT} {te : TE} {vs : List Nat} {σ : St} {H1 : Hp} {D : Addr} {Qd : Hp → Prop} (Pv : Nat → Hp → Prop) (h0 : Pv 0 (upd H1 D (.lst []))) (hl : ∀ i H, i ≤ xs.length → Pv i H → SqL K H a xs)
    (hs : ∀ i x H, xs[i]? = some x → Pv i H → g x (wipe σ vs) H fun σ2 H2 => wipe σ2 vs = wipe σ vs ∧ tt σ2 H2 fun b H3 =>
      if b = true then te σ2 H3 fun y H4 => ∃ acc, H4 D = some (.lst acc) ∧ acc.length < sizeLine ∧ Pv (i + 1) (upd H4 D (.lst (acc ++ [y]))) else Pv (i + 1) H3) (hd : ∀ H, Pv xs.length H → Qd H) :
    ∃ W : Nat → Nat → Hp → Prop, (∃ m, W 0 m (upd H1 D (.lst []))) ∧ ∀ i m H, W i m H →
      ((Itl K a).stop i H ∧ Qd H) ∨ ((Itl K a).go i H ∧ ∃ Nx : Hp → Prop, (∀ H', Nx H' → ∃ m', m' < m ∧ W (i + 1) m' H') ∧ ∀ x H', (Itl K a).yld i H x H' → g x (wipe σ vs) H' fun σ2 H2 => wipe σ2 vs = wipe σ vs ∧ tt σ2 H2 fun b H3 =>
        if b = true then te σ2 H3 fun y H4 => ∃ acc, H4 D = some (.lst acc) ∧ acc.length < sizeLine ∧ Nx (upd H4 D (.lst (acc ++ [y]))) else Nx H3) := by
  refine ⟨fun i m H => m = xs.length - i ∧ i ≤ xs.length ∧ Pv i H, ⟨xs.length, by simp, Nat.zero_le _, h0⟩, ?_⟩
  rintro i m H ⟨rfl, hi, p⟩
  have q := hl i H hi p
  by_cases hlt : i < xs.length
  · refine .inr ⟨⟨xs, xs[i], q, by simp [hlt]⟩, Pv (i + 1), fun H' p' => ⟨xs.length - (i + 1), by omega, rfl, hlt, p'⟩, fun x H' y => ?_⟩
    obtain ⟨e, y⟩ := y
    subst e
    exact hs i x _ (y xs q) p
  · have e : i = xs.length := by omega
    subst e
    exact .inl ⟨⟨xs, q, Nat.le_refl _⟩, hd H p⟩
/-- over a tuple -/
theorem lc_tup {K : PySem.W.Frag} {a : Addr} {xs : List V} {g : TG} {tt : TT} {te : TE} {vs : List Nat} {σ : St} {H1 : Hp} {D : Addr} {Qd : Hp → Prop} (Pv : Nat → Hp → Prop) (h0 : Pv 0 (upd H1 D (.lst []))) (hl : ∀ i H, i ≤ xs.length → Pv i H → SqT K H a xs)
    (hs : ∀ i x H, xs[i]? = some x → Pv i H → g x (wipe σ vs) H fun σ2 H2 => wipe σ2 vs = wipe σ vs ∧ tt σ2 H2 fun b H3 =>
      if b = true then te σ2 H3 fun y H4 => ∃ acc, H4 D = some (.lst acc) ∧ acc.length < sizeLine ∧ Pv (i + 1) (upd H4 D (.lst (acc ++ [y]))) else Pv (i + 1) H3) (hd : ∀ H, Pv xs.length H → Qd H) :
    ∃ W : Nat → Nat → Hp → Prop, (∃ m, W 0 m (upd H1 D (.lst []))) ∧ ∀ i m H, W i m H →
      ((Itt K a).stop i H ∧ Qd H) ∨ ((Itt K a).go i H ∧ ∃ Nx : Hp → Prop, (∀ H', Nx H' → ∃ m', m' < m ∧ W (i + 1) m' H') ∧ ∀ x H', (Itt K a).yld i H x H' → g x (wipe σ vs) H' fun σ2 H2 => wipe σ2 vs = wipe σ vs ∧ tt σ2 H2 fun b H3 =>
        if b = true then te σ2 H3 fun y H4 => ∃ acc, H4 D = some (.lst acc) ∧ acc.length < sizeLine ∧ Nx (upd H4 D (.lst (acc ++ [y]))) else Nx H3) := by
  refine ⟨fun i m H => m = xs.length - i ∧ i ≤ xs.length ∧ Pv i H, ⟨xs.length, by simp, Nat.zero_le _, h0⟩, ?_⟩
  rintro i m H ⟨rfl, hi, p⟩
  have q := hl i H hi p
  by_cases hlt : i < xs.length
  · refine .inr ⟨⟨xs, xs[i], q, by simp [hlt]⟩, Pv (i + 1), fun H' p' => ⟨xs.length - (i + 1), by omega, rfl, hlt, p'⟩, fun x H' y => ?_⟩
    obtain ⟨e, y⟩ := y
    subst e
    exact hs i x _ (y xs q) p
  · have e : i = xs.length := by omega
    subst e
    exact .inl ⟨⟨xs, q, Nat.le_refl _⟩, hd H p⟩
def blkC (N : List Str) (sc scope : Scope) (own : List (Str × Nat)) : Bool :=
  (match scope.kind with | .function => true | _ => false) && (scope.names.all fun y => decide (scope.names.lookup y.1 = some y.2)) && (own.all fun p => decide (N[p.2]? = some p.1)) &&
    (scope.names.all fun y => match y.2 with
      | .free => (match sc.names.lookup y.1 with | some .cell => true | some .free => true | _ => false)
      | .local => decide (y.1 ∈ own.map (·.1)) || decide (y.1 ∉ N)
      | .cell => decide (y.1 ∈ own.map (·.1)) || decide (y.1 ∉ N)
      | _ => true)
theorem blkOk_by {N : List Str} {sc scope : Scope} {own : List (Str × Nat)} (h : blkC N sc scope own = true) : BlkOk N sc scope own := by
  unfold blkC at h
  simp only [Bool.and_eq_true, List.all_eq_true, decide_eq_true_eq] at h
  obtain ⟨⟨⟨h1, h2⟩, h3⟩, h4⟩ := h
  refine ⟨?_, h2, h3, fun y hy e => ?_, fun y hy e => ?_⟩
  · split at h1
    · assumption
    · cases h1
  · have q := h4 y hy
    simp only [e] at q
    split at q <;> first | exact .inl (by assumption) | exact .inr (by assumption) | cases q
  · have q := h4 y hy
    rcases e with e | e <;> (simp only [e, Bool.or_eq_true, decide_eq_true_eq] at q; exact q)
end L2

namespace L2
open PySem PySem.Spec PyProof.Rows

section
variable {prog : Program} {w : World} {A : Around} {R : Result → Shared → Prop} {s : Shared} {elt t0 i0 t1 i1 : Expr} {ifs0 ifs1 : List Expr} {scope : Scope} {pos : Pos} {it acc : Value} {env : Env}
end

section
variable {X : Cx}
end
end L2

namespace L2
open PySem PySem.Spec PyProof.Rows

section
variable {κ : Type} [DecidableEq κ]

end

section
variable {P : Program} {w : World} {H : Hp} {h : Heap} {a : Addr}
end

section
variable {X : Cx} {pins : List (Addr × Obj)} {σ : St} {H : Hp} {s : Shared} {a : Addr} {y v : V} {u r : Value} {o : Option V} {A : Around} {E : Value → Shared → Prop}

end

section
variable {X : Cx} {pins : List (Addr × Obj)} {σ : St} {H : Hp} {s : Shared} {a : Addr} {kvs : List (Key × V)} {k : Key} {u : Value} {A : Around} {E : Value → Shared → Prop}
end

section
variable {X : Cx} {o i e value : Expr} {pos pos' tpos : Pos} {td ty tv : TE}
end

section
variable {X : Cx} {pos : Pos}
end

section
variable {X : Cx} {pins : List (Addr × Obj)} {σ : St} {H : Hp} {s : Shared} {a : Addr} {y d : V} {u r : Value} {o : Option V} {A : Around} {E : Value → Shared → Prop}
end

section
variable {X : Cx} {o e f : Expr} {apos cpos : Pos} {td ty tx : TE}
end

section
variable {X : Cx} {pins : List (Addr × Obj)} {σ : St} {H : Hp} {s : Shared} {a : Addr} {kvs : List (Key × V)} {A : Around} {E : Value → Shared → Prop}
end

section
variable {X : Cx} {pins : List (Addr × Obj)} {σ : St} {H : Hp} {s : Shared} {a : Addr} {y : V} {u : Value} {A : Around} {E : Value → Shared → Prop}
end
end L2

namespace L2
open PySem PySem.Spec PyProof.Rows

section
variable {prog : Program} {w : World} {A : Around} {E : Value → Shared → Prop}

end

section
variable {X : Cx}
end
end L2

namespace L2
open PySem PySem.Spec PyProof.Rows

section
variable {X : Cx} {pins : List (Addr × Obj)} {σ : St} {H : Hp} {s : Shared} {h' : Heap}
/-- .. and one new object is laid -/
theorem Inv.turnedNew {t' : Nat} {ch : List Addr} {T : Addr} {ob : HO} (I : Inv X pins σ H s) (k : ∀ b o, b ∉ ch → s.heap.get? b = some o → h'.get? b = some o) (hf : ∀ b ∈ ch, FpOk X pins H b) (hT : s.heap.objs.size ≤ T)
    (new : ObjOk X.prog X.w (upd H T ob) h' T ob) : Inv X pins σ (upd H T ob) { s with heap := h', toks := t' } := by
  have hn : H T = none := I.hok.fresh hT
  have nit : ∀ b u, H b = some u → b ∉ ch := fun b u e z => by
    have q := (hf b z).1
    rw [q] at e; cases e
  refine I.step (g' := s.gens) (d' := s.drawn) (ch := ch) (fun b hb => ⟨(hf b hb).2.2.2.1, (hf b hb).2.1, (hf b hb).2.2.2.2.1, (hf b hb).2.2.2.2.2⟩) (fun b o _ _ hc e _ => k b o hc e) (fun b o _ _ hc e _ => ⟨o.slots, k b o hc e⟩)
    (fun b o _ e n => ?_) (fun b o hc e => ⟨o, k b o hc e⟩) (fun b xs e => ?_) (fun b o u e => ?_) (fun b ps e => ⟨#[], ?_⟩) (fun m hm => ?_) (fun b u e => ?_) I.bare
  · rw [upd_ne (Nat.ne_of_lt (Nat.lt_of_lt_of_le (Heap.lt_size e) hT))]; exact n
  · rw [upd_ne (ne_of_none e hn)]; exact e
  · rw [upd_ne (ne_of_none e hn)]; exact e
  · rw [upd_ne (ne_of_none e hn), e]; simp
  · obtain ⟨o, es, ep, ho, r⟩ := hm
    exact ⟨o, es, ep, k _ o (fun z => (hf _ z).2.1 rfl) ho, r⟩
  · by_cases hb : b = T
    · subst hb
      rw [upd_same] at e
      cases e
      exact new
    · rw [upd_ne hb] at e
      refine (I.hok b u e).stay (fun c v hc q => k c v ?_ q) (fun c q => by rw [upd_ne (ne_of_none q hn)]; exact q) fun c xs q => by rw [upd_ne (ne_of_none q hn)]; exact q
      rcases hc with z | z
      · rw [z]; exact nit b u e
      · exact nit c _ z

end
section
variable {X : Cx}

end

section
variable {X : Cx} {tg : Expr}
end

section
variable {X : Cx} {tg : Expr}
end

section
variable {prog : Program} {w : World} {A : Around} {E : Value → Shared → Prop} {s : Shared}
end

section
variable {X : Cx} {pins : List (Addr × Obj)} {σ : St} {H : Hp} {s : Shared} {d : Addr} {o : Obj}
end

section
variable {P : Program} {w : World} {K : PySem.W.Frag} {tg : Expr} {d : Addr} {o : Obj} {es : Array DictEntry} {ep : Nat}
end

section
variable {X : Cx} {tg e : Expr} {td : TE} {apos cpos : Pos}
end

/-- the list at a as it stands at each turn, each item in a new pair -/
def Ite (K : PySem.W.Frag) (a : Addr) : It :=
  ⟨fun i H => ∃ (xs : List V) (x : V), SqL K H a xs ∧ xs[i]? = some x, fun i H v H' => ∃ T x, v = .ref T ∧ H T = none ∧ H' = upd H T (.tup [.int (i : Nat), x]) ∧ ∀ xs, SqL K H a xs → xs[i]? = some x, fun i H => ∃ xs : List V, SqL K H a xs ∧ xs.length ≤ i⟩
theorem turn_enum {P : Program} {w : World} {K : PySem.W.Frag} {elts : List Expr} {kk : Nat} {tpos : Pos} (a e it : Addr) :
    Turn P w K (.Tuple elts kk tpos) (Ite K a) [e, it] e (fun i h => (∃ old, IsEnum h e it ((i : Nat) : Int) old) ∧ h.IsListIter it a i ∧ e ≠ it) where
  mem := by simp
  obj := fun i h st b hb => by
    obtain ⟨⟨old, he⟩, ⟨o, ho, hc, hd⟩, _⟩ := st
    have e' : b = e ∨ b = it := by simpa using hb
    rcases e' with z | z
    · rw [z]; exact ⟨_, he, fun v q => nomatch q⟩
    · rw [z]; exact ⟨o, ho, fun v q => by rw [hd] at q; cases q⟩
  keep := fun i h h' st k => let ⟨⟨old, he⟩, hi, hne⟩ := st; ⟨⟨old, k e (by simp) _ he⟩, hi.at fun o q => k it (by simp) o q, hne⟩
  item := by
    intro X hP hw hK hc i pins s σ H E I hf st hg
    subst hP hw hK
    obtain ⟨⟨old, he⟩, hit, hne⟩ := st
    obtain ⟨xs, x, hq, hx⟩ := hg
    obtain ⟨its, rv, p, hz⟩ := I.list hq
    obtain ⟨u, hu, ru⟩ := rv.get hx
    have hel : e < s.heap.objs.size := Heap.lt_size he
    have hil : it < s.heap.objs.size := by obtain ⟨_, q, _⟩ := hit; exact Heap.lt_size q
    refine wpAny_pyNext_enum_item he hit p.isList (x := u) (by simpa using hu) hne fun h' ho hit' hT hsz hk => ?_
    refine ⟨_, rfl, wpAny_letOwnedTupleGo_enum (s := { s with heap := h', toks := s.toks + 1 }) ho fun h'' he' sb => ?_⟩
    have hT2 : h''.get? s.heap.objs.size = some { cls := .type "tuple", data := .seq #[.int i s.toks, u] } := (sb.2 _ (Nat.ne_of_gt hel)).trans hT
    have new : ObjOk X.prog X.w (upd H s.heap.objs.size (.tup [.int (i : Nat), x])) h'' s.heap.objs.size (.tup [.int (i : Nat), x]) :=
      ⟨by show 2 ≤ sizeLine; decide, [.int i s.toks, u], .cons ⟨_, rfl⟩ (.cons ru .nil), ⟨_, hT2, rfl, _, rfl⟩⟩
    have I1 : Inv X pins σ (upd H s.heap.objs.size (.tup [.int (i : Nat), x])) { s with heap := h'', toks := s.toks + 1 } :=
      I.turnedNew (ch := [e, it]) (fun b ob hb q => (sb.2 b (fun z => hb (by simp [z]))).trans (hk b ob (fun z => hb (by simp [z])) (fun z => hb (by simp [z])) q)) hf (Nat.le_refl _) new
    refine ⟨.ref s.heap.objs.size, _, I1, rfl, ⟨_, x, rfl, I.hok.fresh (Nat.le_refl _), rfl, fun ys hy => by rw [I.list_inj hy hq]; exact hx⟩, ⟨⟨u, ?_⟩, hit'.at fun o q => (sb.2 it (Ne.symm hne)).trans q, hne⟩, fun b hb => ?_⟩
    · have e1 : ((i + 1 : Nat) : Int) = (i : Int) + 1 := by omega
      rw [e1]; exact he'
    · have hb' : b < s.heap.objs.size := by
        have e' : b = e ∨ b = it := by simpa using hb
        rcases e' with z | z
        · rw [z]; exact hel
        · rw [z]; exact hil
      rw [upd_ne (Nat.ne_of_lt hb')]
      exact (hf b hb).1
  done := by
    intro X hP hw hK hc i pins s σ H E I hf st hg
    subst hP hw hK
    obtain ⟨⟨old, he⟩, hit, hne⟩ := st
    obtain ⟨xs, hq, hx⟩ := hg
    obtain ⟨its, rv, p, hz⟩ := I.list hq
    obtain ⟨f0, f1, f2, f3, f4, f5⟩ := hf it (by simp)
    have hl := rv.length
    exact wpAny_pyNext_enum_end (I.ok.hd hc) he hit p.isList (by simp; omega) fun h' eb => ⟨rfl, I.turned (t' := s.toks) (fun b o hb q => eb b o hb q) f0 f1 f3 f4 f5⟩
  self := fun A i s Q E st h => let ⟨⟨_, he⟩, _⟩ := st; wpAny_pyIter_enum he h
def iEnum (K : PySem.W.Frag) (ta : TA) : TI := fun σ H R => ta σ H fun vs H1 => ∃ a xs, vs = [.ref a] ∧ SqL K H1 a xs ∧ R (Ite K a) H1
theorem pi_enum {X : Cx} {e : Expr} {ta : TA} {p pos tpos : Pos} {elts : List Expr} {kk : Nat} (hg : Gl X "enumerate") (hm : X.mg "enumerate" = none) (ha : PA X [e] ta) (hs : starEach [e] X.env = [(false, eval e X.env)] := by rfl) :
    PI X (.Tuple elts kk tpos) (.Call (.Name "enumerate" p) [e] [] pos) (iEnum X.K ta) := by
  intro pins s σ H R I h
  refine Call_ (ld_blt I hg hm boot_enumerate (PyProof.Rows.callWith_type1 (thn (ha pos pins s σ H _ I h) fun us s1 ⟨vs, H1, I1, r1, q1⟩ => ?_) hs rfl))
  obtain ⟨a, xs, ex, hq, q⟩ := q1
  subst ex
  cases r1 with
  | cons r rr =>
    cases rr
    cases r
    obtain ⟨its, rv, p', hz⟩ := I1.list hq
    refine call_enumerate_list p'.isList fun h' he hit hsz hk => wpAny_pyIter_enum he ?_
    have I2 : Inv X pins σ H1 { s1 with heap := h' } := I1.kept (t' := s1.toks) hk
    refine ⟨s1.heap.objs.size + 1, [s1.heap.objs.size + 1, s1.heap.objs.size], _, _, H1, rfl, I2, turn_enum a (s1.heap.objs.size + 1) s1.heap.objs.size, ⟨⟨.none, he⟩, hit, Nat.succ_ne_self _⟩, fun b hb => ?_, q⟩
    have e' : b = s1.heap.objs.size + 1 ∨ b = s1.heap.objs.size := by simpa using hb
    have hle : s1.heap.objs.size ≤ b := by
      rcases e' with z | z
      · rw [z]; exact Nat.le_add_right _ _
      · rw [z]; exact Nat.le_refl _
    exact I1.fpOk hle (I1.hok.fresh hle)
end L2

section 
namespace Bits
open PySem PyProof.Rows

theorem nat_xor_add_and (m : Nat) : ∀ n : Nat, (m ^^^ n) + 2 * (m &&& n) = m + n := by
  induction m using Nat.strongRecOn with
  | _ m ih =>
    intro n
    by_cases h0 : m = 0
    · subst h0
      simp
    · have ih' := ih (m / 2) (by omega) (n / 2)
      rw [← Nat.xor_div_two, ← Nat.and_div_two] at ih'
      have o1 := @Nat.xor_mod_two_eq_one m n
      have a1 := @Nat.and_mod_two_eq_one m n
      omega

theorem bitXor_pp {x y : Int} (hx : 0 ≤ x) (hy : 0 ≤ y) : Builtin.bitXor x y = ((x.toNat ^^^ y.toNat : Nat) : Int) := by
  have e := nat_xor_add_and x.toNat y.toNat
  rw [bitXor_and, bitAnd_pp hx hy]
  omega
theorem bitOr_pp {x y : Int} (hx : 0 ≤ x) (hy : 0 ≤ y) : Builtin.bitOr x y = ((x.toNat ||| y.toNat : Nat) : Int) := by
  have e := nat_or_add_and x.toNat y.toNat
  rw [bitOr_and, bitAnd_pp hx hy]
  omega

end Bits
end 

section 
namespace TL
open PySem PySem.Builtin PySem.Builtin.Str PySem.StrLaws

end TL
end 

namespace L2
open PySem PySem.Spec PyProof.Rows

section
variable {X : Cx} {pins : List (Addr × Obj)} {σ : St} {H : Hp} {s : Shared} {Q : VK}
end

section
variable {X : Cx}

end

section
variable {X : Cx} {o e : Expr} {to te : TE}

end
end L2

namespace L2
open PySem PySem.Spec PyProof.Rows

section
variable {X : Cx}
end

end L2

namespace Att
open PySem PySem.W PySem.Calls PyProof.Rows

section
variable {prog : Program} {w : World} {A : Around} {E : Value → Shared → Prop} {s : Shared} {K : Frag}

end
end Att

namespace L2
open PySem PySem.Spec PyProof.Rows

end L2

namespace L2
open PySem PySem.Spec PyProof.Rows

abbrev KOf {K : PySem.W.Frag} {h : Heap} (_ : K.In h) : PySem.W.Frag := K

end L2

/- THE LAST THEOREM (shape; LID, My.* are yours):
   My.Adr: a structure of the addresses that your layer names (classes, functions); My.Txt K t: a structure (Prop) of the equations over K;
   My.txt_mk : {K} {implicit addresses ..} (e1 : nsIn K mainGlobals "law" = some (some (.ref f))) (e2 : K.lookup f = some ⟨oc, od, .func (fnOf "law" "law" params body scope dV kV doc pm an cdv ct), sl⟩) (e3 : codeIn K cdv "law" = true) .. : ∃ t, My.Txt K t

set_option maxRecDepth 100000 in
set_option maxHeartbeats 0 in
theorem PySem.Challenge.cw_LID_holds : PySem.Challenge.rw_LID.Holds := by
  w_on; o_law; k_head; (case hw => w_witness2)
  k_fill
  refine L2.walk_of (l := PySem.Challenge.rw_LID) (n := 63) (k := 40) (x := "script") (CX := fun w => ..) (sp := fun _ => My.sp_law) rfl (by decide) rfl ⟨rfl, by decide, by decide⟩ (fun w h Y => PySem.W.kIn_of Y) ?F ?S ?C
  case F =>
    intro w mg fa h KX G hmg
    have T : ∃ t, My.Txt (L2.KOf KX) t := by
      dsimp only [L2.KOf]                          -- K must stand as «<heap const> w.params» for k_is
      refine' My.txt_mk ?e1 ?e2 ?e3 ..
      (case e1 => PySem.W.k_is)                    -- in the order: a name -> its address -> its object -> its parts
      (case e2 => PySem.W.k_is)
      ..
    obtain ⟨t, T⟩ := T
    have e0 := hmg.symm.trans (PySem.W.mg_of KX G T.law)
    cases e0                                       -- fa is the law's own address
    exact ⟨_, fun s u => .of_eq rfl, fun base kb nb => My.law_fn T kb nb⟩     -- if «.of_eq rfl» comes too early: refine' ⟨_, ?b, fun base kb nb => My.law_fn T kb nb⟩; exact fun s u => .of_eq rfl
  case S => exact fun w H a ns hl hO hS => ..
  case C => exact ..
(the tactic k_is has no namespace: write k_is) -/

namespace L2
open PySem PySem.Spec PyProof.Rows

/-- the j-th statement of a class's body -/
def inClass (s : Stmt) (j : Nat) : Stmt := match s with
  | .ClassDef _ _ _ body _ _ _ _ _ _ _ => body.getD j (.Pass ⟨0, 0, 0, 0⟩)
  | _ => .Pass ⟨0, 0, 0, 0⟩
def defArgs (s : Stmt) : Arguments := match s with
  | .FunctionDef _ a _ _ _ _ _ _ _ _ => a
  | _ => { posonlyargs := [], args := [], vararg := none, kwonlyargs := [], kw_defaults := [], kwarg := none, defaults := [] }
def defBody (s : Stmt) : List Stmt := match s with
  | .FunctionDef _ _ b _ _ _ _ _ _ _ => b
  | _ => []
def defScope (s : Stmt) : Scope := match s with
  | .FunctionDef _ _ _ _ _ _ sc _ _ _ => sc
  | _ => { kind := .function, names := [], isGenerator := false, isCoroutine := false }

abbrev CX0 : CXT := fun _ _ _ _ _ _ => False
abbrev E0 : XK := fun _ _ _ => False
theorem pass0 {X : Cx} : Passes CX0 X E0 := fun _ _ _ _ _ _ _ h => h.elim

structure Fun (K : PySem.W.Frag) (x qual : Str) (st : Stmt) (f : Addr) (fd : FuncData) : Prop where
  ex : ∃ (oc : Value) (od : Option Addr) (kV doc pm : Value) (an : Option Addr) (cdv ct : Value) (osl : Array (Option Value)),
    fd = PySem.W.fnOf x qual (defArgs st) (defBody st) (defScope st) .none kV doc pm an cdv ct ∧ K.lookup f = some ⟨oc, od, .func fd, osl⟩ ∧ PySem.W.codeIn K cdv qual = true
  kp : PySem.W.keepIn K (.ref f) = true
section
variable {P : Program} {w : World} {K : PySem.W.Frag} {mg : Str → Option Value} {base : Heap}
/-- THE RULE for a def: its body as a term of rules, and the reading of that term -/
theorem Fun.ok {x qual : Str} {st : Stmt} {f : Addr} {fd : FuncData} {N ps : List Str} {k : Nat} {sp : Sp} (F : Fun K x qual st f fd) (S : FnScope N ps (defScope st)) (len : ∀ vs H Q E, sp vs H Q E → vs.length = ps.length)
    (hbody : ∀ (cdv : Value) (A : Around) (outer : List Env) (s : Shared) (H : Hp) (vs : List V) (Q : VK) (E : XK), Room k (A.deeper (envOfC qual (defScope st) s.heap.objs.size f cdv)) → sp vs H Q E →
      ∃ t, PSs (cxOf CX0 P w K mg base N qual (defScope st) f cdv A outer s H E).nox (defBody st) t ∧ t { nx := fun _ H' => Q .non H', rt := Q } (start N vs) H) : FnOk P w K mg base CX0 (k + 1) f fd ps sp := by
  obtain ⟨oc, od, kV, doc, pm, an, cdv, ct, osl, rfl, lk, hcd⟩ := F.ex
  refine fn_of lk hcd S len fun A outer s H vs Q E hr hsp => ?_
  obtain ⟨t, h, q⟩ := hbody cdv A outer s H vs Q E hr hsp
  exact ⟨t, h.nox, q⟩
/-- how its arguments bind (no defaults): h is «fun _ _ _ _ _ _ us hl => match us, hl with | [_, _], _ => rfl», one _ a parameter -/
theorem Fun.binds {x qual : Str} {st : Stmt} {f : Addr} {fd : FuncData} {ps : List Str} (F : Fun K x qual st f fd)
    (h : ∀ (kV doc pm : Value) (an : Option Addr) (cdv ct : Value) (us : List Value), us.length = ps.length → bindArgs (PySem.W.fnOf x qual (defArgs st) (defBody st) (defScope st) .none kV doc pm an cdv ct) ⟨us, []⟩ = pure (ps.zip us)) : Binds K fd ps [] := by
  obtain ⟨oc, od, kV, doc, pm, an, cdv, ct, osl, rfl, lk, hcd⟩ := F.ex
  exact .all (h kV doc pm an cdv ct)
theorem fun_mk {x qual : Str} {st : Stmt} {f : Addr} {oc : Value} {od an : Option Addr} {osl : Array (Option Value)} {kV doc pm cdv ct : Value} (l : K.lookup f = some ⟨oc, od, .func (PySem.W.fnOf x qual (defArgs st) (defBody st) (defScope st) .none kV doc pm an cdv ct), osl⟩)
    (c : PySem.W.codeIn K cdv qual = true) (k : PySem.W.keepIn K (.ref f) = true) : Fun K x qual st f (PySem.W.fnOf x qual (defArgs st) (defBody st) (defScope st) .none kV doc pm an cdv ct) := ⟨⟨oc, od, kV, doc, pm, an, cdv, ct, osl, rfl, l, c⟩, k⟩
end
theorem small1000 {n : Nat} (h : n ≤ 1000) : n < sizeLine := Nat.lt_of_le_of_lt h (by decide)

section
variable {X : Cx}
theorem pv (i : Nat) {x : Str} {pos : Pos} (hN : X.N[i]? = some x := by rfl) (hv : Vis X.env.scope x := by first | exact Or.inl rfl | exact Or.inr (Or.inl rfl) | exact Or.inr (Or.inr rfl)) (hd : (x == ("__debug__" : Str)) = false := by decide)
    (hcd : (x == ("__classdict__" : Str)) = false := by decide) : PE X (.Name x pos) (tVar i) := pe_var hN hv hd hcd
end

theorem iteF {A B : Prop} (h : B) : if false = true then A else B := by
  rw [if_neg Bool.false_ne_true]
  exact h
theorem iteT {A B : Prop} (h : A) : if true = true then A else B := by
  rw [if_pos rfl]
  exact h
theorem ite2 {c A B : Prop} [Decidable c] (h1 : c → A) (h2 : ¬ c → B) : if c then A else B := by
  by_cases h : c
  · rw [if_pos h]
    exact h1 h
  · rw [if_neg h]
    exact h2 h

/-- all that was tracked is as it was -/
def Same (H H' : Hp) : Prop := ∀ b o, H b = some o → H' b = some o
theorem Same.refl (H : Hp) : Same H H := fun _ _ h => h
theorem Same.trans {H H1 H2 : Hp} (a : Same H H1) (b : Same H1 H2) : Same H H2 := fun c o h => b c o (a c o h)
theorem Same.free {H H' : Hp} (e : Same H H') {l : Addr} (h : H' l = Option.none) : H l = Option.none := by
  cases q : H l with
  | none => rfl
  | some o =>
    rw [e l o q] at h
    cases h
theorem Same.seq {K : PySem.W.Frag} {H H' : Hp} {a : Addr} {xs : List V} (e : Same H H') (h : SqL K H a xs) : SqL K H' a xs := by
  rcases h with (h | ⟨o, h⟩) | h
  · exact .inl (.inl (e _ _ h))
  · exact .inl (.inr ⟨o, e _ _ h⟩)
  · exact .inr h

section
variable {κ : Type} [DecidableEq κ]
theorem nd_snoc : ∀ {l : List κ} {k : κ}, l.Nodup → ¬ k ∈ l → (l ++ [k]).Nodup
  | [], k, _, _ => by simp
  | a :: r, k, h, hk => by
    obtain ⟨h1, h2⟩ := List.nodup_cons.mp h
    show (a :: (r ++ [k])).Nodup
    refine List.nodup_cons.mpr ⟨fun m => ?_, nd_snoc h2 fun m => hk (List.mem_cons.mpr (Or.inr m))⟩
    rcases List.mem_append.mp m with q | q
    · exact h1 q
    · exact hk (List.mem_cons.mpr (Or.inl (List.mem_singleton.mp q).symm))
end
theorem at_of {xs : List V} {z : Int} {j : Nat} {v : V} (e : z = (j : Int)) (h : xs[j]? = some v) : atI xs z = some v := by
  rw [e]
  exact atI_nat h
theorem nd_ix {α : Type} {l : List α} (hN : l.Nodup) {i j : Nat} {x : α} (a : l[i]? = some x) (b : l[j]? = some x) : i = j := by
  obtain ⟨h1, e1⟩ := List.getElem?_eq_some_iff.mp a
  obtain ⟨h2, e2⟩ := List.getElem?_eq_some_iff.mp b
  exact (List.getElem_inj hN).mp (e1.trans e2.symm)
end L2
section
set_option Elab.async false
set_option linter.all false
set_option maxRecDepth 100000
set_option maxHeartbeats 2000000
namespace L2
open PySem PySem.Spec PyProof.Rows
open PySem.W (WData Codec OpenSpec Well WellAll ReadsW ReadsAllW)
mutual
/-- x stands for the datum d, lists and tuples all the way -/
inductive Dw (K : PySem.W.Frag) (H : Hp) : V → WData → Prop
  | non : Dw K H .non .none
  | bl (b : Bool) : Dw K H (.bl b) (.bool b)
  | int (i : Int) : Dw K H (.int i) (.int i)
  | str (x : Str) : Dw K H (.str x) (.str x)
  | byt (b : Array UInt8) : Dw K H (.byt b) (.bytes b.toList)
  | lst {a : Addr} {xs : List V} {ds : List WData} : SqL K H a xs → DwAll K H xs ds → Dw K H (.ref a) (.list ds)
  | tup {a : Addr} {xs : List V} {ds : List WData} : SqT K H a xs → DwAll K H xs ds → Dw K H (.ref a) (.tuple ds)
inductive DwAll (K : PySem.W.Frag) (H : Hp) : List V → List WData → Prop
  | nil : DwAll K H [] []
  | cons {v : V} {vs : List V} {d : WData} {ds : List WData} : Dw K H v d → DwAll K H vs ds → DwAll K H (v :: vs) (d :: ds)
end
theorem dw_ints {K : PySem.W.Frag} {H : Hp} : ∀ ns : List Int, DwAll K H (ns.map V.int) (ns.map WData.int)
  | [] => .nil
  | n :: r => .cons (.int n) (dw_ints r)
theorem ints_dw {K : PySem.W.Frag} {H : Hp} : ∀ (ns : List Int) (xs : List V), DwAll K H xs (ns.map WData.int) → xs = ns.map V.int
  | [], xs, h => by
    cases h
    rfl
  | n :: r, xs, h => by
    cases h with
    | cons h1 h2 =>
      cases h1
      rw [ints_dw r _ h2] <;> rfl
section
variable {P : Program} {w : World} {K : PySem.W.Frag} {H : Hp} {h : Heap} {R : PySem.W.WRecords} {cl : Str → Option Addr}
theorem sqL_at {a : Addr} {xs : List V} (hok : HOk P w H h) (KX : K.In h) (q : SqL K H a xs) : ∃ (its : List Value) (o : Obj) (n : Nat), Vals xs its ∧ h.get? a = some o ∧ o.cls = .type "list" ∧ o.data = .seq its.toArray n := by
  rcases q with q | ⟨o, its, n, e, hc, _, hd, _, hv⟩
  · obtain ⟨_, its, n, hv, e⟩ := (show ObjOk P w H h a (.lst xs) from q.ok hok)
    exact ⟨its, _, n, hv, e, rfl, rfl⟩
  · exact ⟨its.toList, o, n, hv, KX _ _ e, hc, by simp [hd]⟩
theorem sqT_at {a : Addr} {xs : List V} (hok : HOk P w H h) (KX : K.In h) (q : SqT K H a xs) : ∃ (its : List Value) (o : Obj) (n : Nat), Vals xs its ∧ h.get? a = some o ∧ o.cls = .type "tuple" ∧ o.data = .seq its.toArray n := by
  rcases q with q | ⟨o, its, n, e, hc, hd, _, hv⟩
  · obtain ⟨_, its, hv, o, e, hc, n, hd⟩ := (show ObjOk P w H h a (.tup xs) from q.ok hok)
    exact ⟨its, o, n, hv, e, hc, hd⟩
  · exact ⟨its.toList, o, n, hv, KX _ _ e, hc, by simp [hd]⟩
mutual
theorem Dw.reads (hok : HOk P w H h) (KX : K.In h) : ∀ (d : WData) (v : V) (u : Value), Dw K H v d → RelV v u → ∃ as, ReadsW R cl h u d as
  | .none, _, _, x, r => by
    cases x
    cases r
    exact ⟨_, ReadsW.none⟩
  | .bool b, _, _, x, r => by
    cases x
    cases r
    exact ⟨_, ReadsW.bool b⟩
  | .int i, _, _, x, r => by
    cases x
    obtain ⟨t, rfl⟩ := r
    exact ⟨_, ReadsW.int i t⟩
  | .str s, _, _, x, r => by
    cases x
    obtain ⟨t, rfl⟩ := r
    exact ⟨_, ReadsW.str s t⟩
  | .bytes b, _, _, x, r => by
    cases x
    obtain ⟨t, rfl⟩ := r
    exact ⟨_, ReadsW.bytes _ t⟩
  | .list ds, _, _, x, r => by
    cases x with
    | lst hs ha =>
      cases r
      obtain ⟨its, o, n, rv, ho, hc, hd⟩ := sqL_at hok KX hs
      obtain ⟨as, hr⟩ := Dw.readsAll hok KX ds _ its ha rv
      exact ⟨_, ReadsW.list ho hc hd hr⟩
  | .tuple ds, _, _, x, r => by
    cases x with
    | tup hs ha =>
      cases r
      obtain ⟨its, o, n, rv, ho, hc, hd⟩ := sqT_at hok KX hs
      obtain ⟨as, hr⟩ := Dw.readsAll hok KX ds _ its ha rv
      exact ⟨_, ReadsW.tuple ho hc hd hr⟩
  | .float _, _, _, x, _ => by cases x
  | .dict _, _, _, x, _ => by cases x
  | .bytearray _, _, _, x, _ => by cases x
  | .set _, _, _, x, _ => by cases x
  | .frozenset _, _, _, x, _ => by cases x
  | .obj _ _, _, _, x, _ => by cases x
theorem Dw.readsAll (hok : HOk P w H h) (KX : K.In h) : ∀ (ds : List WData) (vs : List V) (us : List Value), DwAll K H vs ds → Vals vs us → ∃ as, ReadsAllW R cl h us ds as
  | [], _, _, x, r => by
    cases x
    cases r
    exact ⟨_, ReadsAllW.nil⟩
  | d :: ds, _, _, x, r => by
    cases x with
    | cons h1 h2 =>
      cases r with
      | cons r1 r2 =>
        obtain ⟨as, q1⟩ := Dw.reads hok KX d _ _ h1 r1
        obtain ⟨bs, q2⟩ := Dw.readsAll hok KX ds _ _ h2 r2
        exact ⟨_, ReadsAllW.cons q1 q2⟩
end
end
mutual
/-- data that a codec tells -/
def plW : WData → Bool
  | .none => true
  | .bool _ => true
  | .int _ => true
  | .str _ => true
  | .bytes _ => true
  | .list xs => plWs xs
  | .tuple xs => plWs xs
  | _ => false
def plWs : List WData → Bool
  | [] => true
  | x :: r => plW x && plWs r
end
theorem plWs_map {α : Type} {f : α → WData} (h : ∀ a, plW (f a) = true) : ∀ l : List α, plWs (l.map f) = true
  | [] => rfl
  | x :: r => by
    show (plW (f x) && plWs (r.map f)) = true
    rw [h x, plWs_map h r] <;> rfl
theorem pl_enc : ∀ (c : Codec) (a : c.denote), plW (c.enc a) = true
  | .unit, _ => rfl
  | .bool, _ => rfl
  | .int _ _, _ => rfl
  | .nat _ _, _ => rfl
  | .u8, _ => rfl
  | .bytes _ _, _ => rfl
  | .text _ _ _ _, _ => rfl
  | .list _ _ c, a => plWs_map (fun x => pl_enc c x) a
  | .pair c d, a => by
    show (plW (c.enc a.1) && (plW (d.enc a.2) && true)) = true
    rw [pl_enc c a.1, pl_enc d a.2] <;> rfl
  | .triple c d e, a => by
    show (plW (c.enc a.1) && (plW (d.enc a.2.1) && (plW (e.enc a.2.2) && true))) = true
    rw [pl_enc c a.1, pl_enc d a.2.1, pl_enc e a.2.2] <;> rfl
  | .option c, none => rfl
  | .option c, some x => pl_enc c x
theorem pl_encAll : ∀ (cs : List Codec) (a : Codec.denoteAll cs), plWs (Codec.encAll cs a) = true
  | [], _ => rfl
  | c :: cs, a => by
    show (plW (c.enc a.1) && plWs (Codec.encAll cs a.2)) = true
    rw [pl_enc c a.1, pl_encAll cs a.2] <;> rfl
theorem weight_mem : ∀ {xs : List WData} {d : WData}, d ∈ xs → d.weight ≤ WData.weightAll xs
  | [], d, h => absurd h (by simp)
  | x :: r, d, h => by
    show d.weight ≤ x.weight + 1 + WData.weightAll r
    rcases List.mem_cons.mp h with e | m
    · rw [e]
      omega
    · have z := weight_mem m
      omega
def toV : Value → V
  | .none => .non
  | .bool b => .bl b
  | .int i _ => .int i
  | .str x _ => .str x
  | .bytes b _ => .byt b
  | .ref a => .ref a
  | _ => .non
/-- a value of the arguments, its objects among A -/
def OkU (A : List Addr) : Value → Prop
  | .none => True
  | .bool _ => True
  | .int _ _ => True
  | .str _ _ => True
  | .bytes _ _ => True
  | .ref a => a ∈ A
  | _ => False
theorem OkU.mono {A B : List Addr} (h : ∀ a ∈ A, a ∈ B) : ∀ {u : Value}, OkU A u → OkU B u := fun {u} x => by
  cases u with
  | ref a => exact h a x
  | none => trivial
  | bool b => trivial
  | int i t => trivial
  | str s t => trivial
  | bytes b t => trivial
  | _ => exact False.elim x
theorem relV_toV {A : List Addr} {u : Value} (x : OkU A u) : RelV (toV u) u := by
  cases u with
  | ref a => rfl
  | none => rfl
  | bool b => rfl
  | int i t => exact ⟨t, rfl⟩
  | str s t => exact ⟨t, rfl⟩
  | bytes b t => exact ⟨t, rfl⟩
  | _ => exact False.elim x
theorem vals_toV {A : List Addr} : ∀ {vs : List Value}, (∀ u ∈ vs, OkU A u) → Vals (vs.map toV) vs
  | [], _ => .nil
  | u :: r, h => .cons (relV_toV (h u (List.mem_cons_self ..))) (vals_toV fun x hx => h x (List.mem_cons_of_mem _ hx))
/-- an object of the arguments -/
def ArgOb (h : Heap) (A : List Addr) (a : Addr) : Prop := ∃ vs : List Value, vs.length ≤ sizeLine ∧ (∀ u ∈ vs, OkU A u) ∧
  (h.get? a = some { cls := .type "list", data := .seq vs.toArray } ∨ h.get? a = some { cls := .type "tuple", data := .seq vs.toArray })
theorem ArgOb.mono {h : Heap} {A B : List Addr} {a : Addr} (k : ∀ a ∈ A, a ∈ B) (x : ArgOb h A a) : ArgOb h B a := by
  obtain ⟨vs, h1, h2, h3⟩ := x
  exact ⟨vs, h1, fun u hu => (h2 u hu).mono k, h3⟩
theorem wellAll_len {P : Params} {h : Heap} : ∀ {vs : List Value} {ds : List WData}, WellAll P h vs ds → vs.length = ds.length
  | _, _, .nil => rfl
  | _, _, .cons _ b => by
    show _ + 1 = _ + 1
    rw [wellAll_len b]
theorem well_list {P : Params} {h : Heap} {v : Value} {ds : List WData} (x : Well P h v (.list ds)) : ∃ (a : Addr) (vs : List Value), v = .ref a ∧ h.get? a = some { cls := .type "list", data := .seq vs.toArray } ∧ WellAll P h vs ds := by
  cases x with
  | list ho hall => exact ⟨_, _, rfl, ho, hall⟩
theorem well_tuple {P : Params} {h : Heap} {v : Value} {ds : List WData} (x : Well P h v (.tuple ds)) : ∃ (a : Addr) (vs : List Value), v = .ref a ∧ h.get? a = some { cls := .type "tuple", data := .seq vs.toArray } ∧ WellAll P h vs ds := by
  cases x with
  | tuple ho hall => exact ⟨_, _, rfl, ho, hall⟩
theorem well_cons {P : Params} {h : Heap} {us : List Value} {d : WData} {ds : List WData} (x : WellAll P h us (d :: ds)) : ∃ (v : Value) (vs : List Value), us = v :: vs ∧ Well P h v d ∧ WellAll P h vs ds := by
  cases x with
  | cons a b => exact ⟨_, _, rfl, a, b⟩
theorem line_of {n : Nat} (h : n ≤ 1048576) : n ≤ sizeLine := Nat.le_trans h (by decide)
section
variable {P : Params} {h : Heap}
mutual
theorem area_one : ∀ (d : WData) (v : Value), Well P h v d → plW d = true → d.weight ≤ 1048576 → ∃ A : List Addr, OkU A v ∧ ∀ a ∈ A, ArgOb h A a
  | .none, _, x, _, _ => by
    cases x
    exact ⟨[], trivial, fun a m => absurd m (by simp)⟩
  | .bool b, _, x, _, _ => by
    cases x
    exact ⟨[], trivial, fun a m => absurd m (by simp)⟩
  | .int i, _, x, _, _ => by
    cases x
    exact ⟨[], trivial, fun a m => absurd m (by simp)⟩
  | .str s, _, x, _, _ => by
    cases x
    exact ⟨[], trivial, fun a m => absurd m (by simp)⟩
  | .bytes b, _, x, _, _ => by
    cases x
    exact ⟨[], trivial, fun a m => absurd m (by simp)⟩
  | .list ds, _, x, p, z => by
    obtain ⟨a, vs, rfl, ho, hall⟩ := well_list x
    have z2 : WData.weightAll ds ≤ 1048576 := z
    obtain ⟨A, h1, h2⟩ := area_all ds _ hall p fun d hd => Nat.le_trans (weight_mem hd) z2
    have k : ∀ b ∈ A, b ∈ a :: A := fun b hb => List.mem_cons_of_mem _ hb
    refine ⟨a :: A, List.mem_cons_self .., fun b hb => ?_⟩
    rcases List.mem_cons.mp hb with e | m
    · rw [e]
      exact ⟨vs, line_of (by rw [wellAll_len hall]; exact Nat.le_trans (PySem.W.length_le_weightAllW ds) z2), fun u hu => (h1 u hu).mono k, .inl ho⟩
    · exact (h2 b m).mono k
  | .tuple ds, _, x, p, z => by
    obtain ⟨a, vs, rfl, ho, hall⟩ := well_tuple x
    have z2 : WData.weightAll ds ≤ 1048576 := z
    obtain ⟨A, h1, h2⟩ := area_all ds _ hall p fun d hd => Nat.le_trans (weight_mem hd) z2
    have k : ∀ b ∈ A, b ∈ a :: A := fun b hb => List.mem_cons_of_mem _ hb
    refine ⟨a :: A, List.mem_cons_self .., fun b hb => ?_⟩
    rcases List.mem_cons.mp hb with e | m
    · rw [e]
      exact ⟨vs, line_of (by rw [wellAll_len hall]; exact Nat.le_trans (PySem.W.length_le_weightAllW ds) z2), fun u hu => (h1 u hu).mono k, .inr ho⟩
    · exact (h2 b m).mono k
  | .float _, _, _, p, _ => Bool.noConfusion (show false = true from p)
  | .dict _, _, _, p, _ => Bool.noConfusion (show false = true from p)
  | .bytearray _, _, _, p, _ => Bool.noConfusion (show false = true from p)
  | .set _, _, _, p, _ => Bool.noConfusion (show false = true from p)
  | .frozenset _, _, _, p, _ => Bool.noConfusion (show false = true from p)
  | .obj _ _, _, _, p, _ => Bool.noConfusion (show false = true from p)
theorem area_all : ∀ (ds : List WData) (vs : List Value), WellAll P h vs ds → plWs ds = true → (∀ d ∈ ds, d.weight ≤ 1048576) → ∃ A : List Addr, (∀ u ∈ vs, OkU A u) ∧ ∀ a ∈ A, ArgOb h A a
  | [], _, x, _, _ => by
    cases x
    exact ⟨[], fun u m => absurd m (by simp), fun a m => absurd m (by simp)⟩
  | d :: ds, _, x, p, z => by
    obtain ⟨v, vs, rfl, x1, x2⟩ := well_cons x
    have q : plW d = true ∧ plWs ds = true := Bool.and_eq_true_iff.mp p
    obtain ⟨A, a1, a2⟩ := area_one d v x1 q.1 (z d (List.mem_cons_self ..))
    obtain ⟨B, b1, b2⟩ := area_all ds vs x2 q.2 fun e he => z e (List.mem_cons_of_mem _ he)
    have kA : ∀ b ∈ A, b ∈ A ++ B := fun b hb => List.mem_append.mpr (.inl hb)
    have kB : ∀ b ∈ B, b ∈ A ++ B := fun b hb => List.mem_append.mpr (.inr hb)
    refine ⟨A ++ B, fun u hu => ?_, fun b hb => ?_⟩
    · rcases List.mem_cons.mp hu with e | m
      · rw [e]
        exact a1.mono kA
      · exact (b1 u m).mono kB
    · rcases List.mem_append.mp hb with m | m
      · exact (a2 b m).mono kA
      · exact (b2 b m).mono kB
end
end
/-- what is tracked of an argument's object -/
def hoOf (o : Obj) : Option HO := match o.data with
  | .seq vs _ => if (o.cls == Value.type "list") = true then some (.frz o (.lst (vs.toList.map toV))) else some (.frz o (.tup (vs.toList.map toV)))
  | _ => none
def argH (K : PySem.W.Frag) (h : Heap) (A : List Addr) : Hp := fun b => if b ∈ A then (if (K.lookup b).isNone = true then (h.get? b).bind hoOf else none) else none
/-- nothing is tracked but what is known to the object -/
def OnlyF (H : Hp) : Prop := ∀ b, H b = none ∨ ∃ o u, H b = some (.frz o u)
theorem hoOf_lst (vs : List Value) : hoOf { cls := .type "list", data := .seq vs.toArray } = some (.frz { cls := .type "list", data := .seq vs.toArray } (.lst (vs.map toV))) := by
  show (if (Value.type "list" == Value.type "list") = true then some (HO.frz { cls := .type "list", data := .seq vs.toArray } (.lst (vs.toArray.toList.map toV))) else some (HO.frz { cls := .type "list", data := .seq vs.toArray } (.tup (vs.toArray.toList.map toV)))) = _
  rw [if_pos (beq_self_eq_true _)]
theorem hoOf_tup (vs : List Value) : hoOf { cls := .type "tuple", data := .seq vs.toArray } = some (.frz { cls := .type "tuple", data := .seq vs.toArray } (.tup (vs.map toV))) := by
  show (if (Value.type "tuple" == Value.type "list") = true then some (HO.frz { cls := .type "tuple", data := .seq vs.toArray } (.lst (vs.toArray.toList.map toV))) else some (HO.frz { cls := .type "tuple", data := .seq vs.toArray } (.tup (vs.toArray.toList.map toV)))) = _
  rw [if_neg (by decide)]
section
variable {P : Program} {w : World} {K : PySem.W.Frag} {h : Heap} {A : List Addr}
theorem argH_at {b : Addr} {o : Obj} (hb : b ∈ A) (hk : K.lookup b = none) (e : h.get? b = some o) : argH K h A b = hoOf o := by
  unfold argH
  rw [if_pos hb, hk, if_pos (show (none : Option Obj).isNone = true from rfl), e] <;> rfl
theorem of_argH {b : Addr} {u : HO} (q : argH K h A b = some u) : b ∈ A ∧ K.lookup b = none := by
  unfold argH at q
  by_cases hb : b ∈ A
  · rw [if_pos hb] at q
    cases hk : K.lookup b with
    | none => exact ⟨hb, rfl⟩
    | some o =>
      rw [hk, if_neg (by simp)] at q
      cases q
  · rw [if_neg hb] at q
    cases q
/-- what stands tracked -/
theorem argH_is (ar : ∀ a ∈ A, ArgOb h A a) {b : Addr} {u : HO} (q : argH K h A b = some u) : K.lookup b = none ∧ ∃ vs : List Value, vs.length ≤ sizeLine ∧ (∀ u ∈ vs, OkU A u) ∧
    ((h.get? b = some { cls := .type "list", data := .seq vs.toArray } ∧ u = .frz { cls := .type "list", data := .seq vs.toArray } (.lst (vs.map toV))) ∨
     (h.get? b = some { cls := .type "tuple", data := .seq vs.toArray } ∧ u = .frz { cls := .type "tuple", data := .seq vs.toArray } (.tup (vs.map toV)))) := by
  obtain ⟨hb, hk⟩ := of_argH q
  obtain ⟨vs, h1, h2, h3⟩ := ar b hb
  refine ⟨hk, vs, h1, h2, ?_⟩
  rcases h3 with e | e
  · rw [argH_at hb hk e, hoOf_lst] at q
    exact .inl ⟨e, (Option.some.inj q).symm⟩
  · rw [argH_at hb hk e, hoOf_tup] at q
    exact .inr ⟨e, (Option.some.inj q).symm⟩
theorem argH_only (ar : ∀ a ∈ A, ArgOb h A a) : OnlyF (argH K h A) := fun b => by
  cases q : argH K h A b with
  | none => exact .inl rfl
  | some u =>
    obtain ⟨_, vs, _, _, ⟨_, e⟩ | ⟨_, e⟩⟩ := argH_is ar q
    · exact .inr ⟨_, _, by rw [e]⟩
    · exact .inr ⟨_, _, by rw [e]⟩
theorem argH_ok (ar : ∀ a ∈ A, ArgOb h A a) : HOk P w (argH K h A) h := fun b u q => by
  obtain ⟨_, vs, h1, h2, ⟨e, rfl⟩ | ⟨e, rfl⟩⟩ := argH_is ar q
  · exact ⟨e, by rw [List.length_map]; exact h1, vs, _, vals_toV h2, e⟩
  · exact ⟨e, by rw [List.length_map]; exact h1, vs, vals_toV h2, _, e, rfl, _, rfl⟩
theorem seq_inj {c c' : Value} {vs us : List Value} (e : (some { cls := c, data := .seq vs.toArray } : Option Obj) = some { cls := c', data := .seq us.toArray }) : c = c' ∧ vs = us := by
  have e1 := Option.some.inj e
  have e2 : c = c' := congrArg Obj.cls e1
  have e3 : Data.seq vs.toArray = Data.seq us.toArray := congrArg Obj.data e1
  injection e3 with e4
  refine ⟨e2, ?_⟩
  have e5 := congrArg Array.toList e4
  simpa using e5
/-- a list argument -/
theorem argL (KX : K.In h) (ar : ∀ a ∈ A, ArgOb h A a) {a : Addr} {vs : List Value} (ha : a ∈ A) (e : h.get? a = some { cls := .type "list", data := .seq vs.toArray }) : (∀ u ∈ vs, OkU A u) ∧ SqL K (argH K h A) a (vs.map toV) := by
  obtain ⟨us, h1, h2, h3⟩ := ar a ha
  have hu : us = vs := by
    rcases h3 with q | q
    · rw [e] at q
      exact (seq_inj q).2.symm
    · rw [e] at q
      exact absurd (Value.type.inj (seq_inj q).1) (by decide)
  subst hu
  refine ⟨h2, ?_⟩
  cases hk : K.lookup a with
  | none => exact .inl (.inr ⟨_, by rw [argH_at ha hk e, hoOf_lst]⟩)
  | some o =>
    have e2 := KX a o hk
    rw [e] at e2
    obtain rfl := Option.some.inj e2
    exact .inr ⟨_, us.toArray, _, hk, rfl, rfl, rfl, by rw [List.size_toArray]; exact h1, by simpa using vals_toV h2⟩
theorem argT (KX : K.In h) (ar : ∀ a ∈ A, ArgOb h A a) {a : Addr} {vs : List Value} (ha : a ∈ A) (e : h.get? a = some { cls := .type "tuple", data := .seq vs.toArray }) : (∀ u ∈ vs, OkU A u) ∧ SqT K (argH K h A) a (vs.map toV) := by
  obtain ⟨us, h1, h2, h3⟩ := ar a ha
  have hu : us = vs := by
    rcases h3 with q | q
    · rw [e] at q
      exact absurd (Value.type.inj (seq_inj q).1) (by decide)
    · rw [e] at q
      exact (seq_inj q).2.symm
  subst hu
  refine ⟨h2, ?_⟩
  cases hk : K.lookup a with
  | none => exact .inl (.inr ⟨_, by rw [argH_at ha hk e, hoOf_tup]⟩)
  | some o =>
    have e2 := KX a o hk
    rw [e] at e2
    obtain rfl := Option.some.inj e2
    exact .inr ⟨_, us.toArray, _, hk, rfl, rfl, by rw [List.size_toArray]; exact h1, by simpa using vals_toV h2⟩
mutual
theorem dw_one {Pm : Params} (KX : K.In h) (ar : ∀ a ∈ A, ArgOb h A a) : ∀ (d : WData) (v : Value), Well Pm h v d → plW d = true → OkU A v → Dw K (argH K h A) (toV v) d
  | .none, _, x, _, _ => by
    cases x
    exact .non
  | .bool b, _, x, _, _ => by
    cases x
    exact .bl b
  | .int i, _, x, _, _ => by
    cases x
    exact .int i
  | .str s, _, x, _, _ => by
    cases x
    exact .str s
  | .bytes b, _, x, _, _ => by
    cases x
    have z := Dw.byt (K := K) (H := argH K h A) b.toArray
    exact z
  | .list ds, _, x, p, hu => by
    obtain ⟨a, vs, rfl, ho, hall⟩ := well_list x
    obtain ⟨h2, hs⟩ := argL KX ar hu ho
    exact .lst hs (dw_all KX ar ds _ hall p h2)
  | .tuple ds, _, x, p, hu => by
    obtain ⟨a, vs, rfl, ho, hall⟩ := well_tuple x
    obtain ⟨h2, hs⟩ := argT KX ar hu ho
    exact .tup hs (dw_all KX ar ds _ hall p h2)
  | .float _, _, _, p, _ => Bool.noConfusion (show false = true from p)
  | .dict _, _, _, p, _ => Bool.noConfusion (show false = true from p)
  | .bytearray _, _, _, p, _ => Bool.noConfusion (show false = true from p)
  | .set _, _, _, p, _ => Bool.noConfusion (show false = true from p)
  | .frozenset _, _, _, p, _ => Bool.noConfusion (show false = true from p)
  | .obj _ _, _, _, p, _ => Bool.noConfusion (show false = true from p)
theorem dw_all {Pm : Params} (KX : K.In h) (ar : ∀ a ∈ A, ArgOb h A a) : ∀ (ds : List WData) (vs : List Value), WellAll Pm h vs ds → plWs ds = true → (∀ u ∈ vs, OkU A u) → DwAll K (argH K h A) (vs.map toV) ds
  | [], _, x, _, _ => by
    cases x
    exact .nil
  | d :: ds, _, x, p, hu => by
    obtain ⟨v, vs, rfl, x1, x2⟩ := well_cons x
    have q : plW d = true ∧ plWs ds = true := Bool.and_eq_true_iff.mp p
    exact .cons (dw_one KX ar d v x1 q.1 (hu _ (List.mem_cons_self ..))) (dw_all KX ar ds vs x2 q.2 fun u m => hu u (List.mem_cons_of_mem _ m))
end
end
theorem layable_weight {ds : List WData} (h : WData.layableAll ds = true) : ∀ d ∈ ds, d.weight ≤ 1048576 := fun d hd =>
  (PySem.W.layableW_iff.mp (List.all_eq_true.mp h d hd)).2.2
theorem encAll_len : ∀ (cs : List Codec) (a : Codec.denoteAll cs), (Codec.encAll cs a).length = cs.length
  | [], _ => rfl
  | c :: cs, a => by
    show (Codec.encAll cs a.2).length + 1 = cs.length + 1
    rw [encAll_len cs a.2]
end L2
-- rests on (row put in by the clerk, for the bench that shows a file only what it spells): KE.SpHead KE.OsShapes
end
set_option Elab.async false
set_option linter.all false
set_option maxRecDepth 100000
set_option maxHeartbeats 2000000
namespace Hh
open PySem PySem.Spec PyProof.Rows L2

def CodeK (K : PySem.W.Frag) (c P : Addr) : Prop :=
  ∃ o vs file tf flags tg inF text tt, K.lookup c = some o ∧ o.cls = .type "code" ∧ o.data = .fields vs ∧ vs[11]? = some (.ref P) ∧ vs.getD 11 .none = .ref P ∧ vs.getD 18 .none = .str file tf ∧
    vs.getD 7 .none = .int flags tg ∧ vs.getD 9 .none = .bool inF ∧ vs.getD 10 .none = .int text tt ∧ c ≠ P
theorem CodeK.hd {K : PySem.W.Frag} {c P : Addr} {h : Heap} (x : CodeK K c P) (k : K.In h) : PySem.W.CodeHd h c P := by
  obtain ⟨o, vs, file, tf, flags, tg, inF, text, tt, e, r⟩ := x
  exact ⟨o, vs, file, tf, flags, tg, inF, text, tt, k _ _ e, r⟩
/-- the builtins' module, as the module's names have it -/
def BMain (mg : Str → Option Value) (h : Heap) : Prop :=
  ∃ bm ob, mg "__builtins__" = some (.ref bm) ∧ bm ≠ builtinsNs ∧ h.get? bm = some ob ∧ ob.cls = .type "module" ∧ ob.dict = some builtinsNs ∧ ob.data = .plain
/-- what the table at P holds: nothing, or the code of the one lambda (at pos) -/
def Tab (P : Addr) (pos : Pos) (qual : Str) (H : Hp) : Prop :=
  H P = some (.tbl #[]) ∨ ∃ c', H P = some (.tbl #[rawInt pos.line, rawInt pos.col, .ref c']) ∧ H c' = some (.ext fun h => h.CodeRec (.ref c') qual)
/-- all that is tracked is as it was, but for tables, which may grow -/
def Sm (H H' : Hp) : Prop := ∀ b o, H b = some o → H' b = some o ∨ ((∃ ps, o = .tbl ps) ∧ ∃ ps', H' b = some (.tbl ps'))
theorem Sm.refl (H : Hp) : Sm H H := fun _ _ e => .inl e
theorem Sm.of {H H' : Hp} (h : Same H H') : Sm H H' := fun b o e => .inl (h b o e)
theorem Sm.trans {H H1 H2 : Hp} (a : Sm H H1) (b : Sm H1 H2) : Sm H H2 := fun c o e => by
  rcases a c o e with z | ⟨z, ps, q⟩
  · exact b c o z
  · rcases b c _ q with y | ⟨_, y⟩
    · exact .inr ⟨z, ps, y⟩
    · exact .inr ⟨z, y⟩
theorem Sm.free {H H' : Hp} (a : Sm H H') {b : Addr} (n : H' b = Option.none) : H b = Option.none := by
  cases q : H b with
  | none => rfl
  | some o =>
    rcases a b o q with z | ⟨_, ps, z⟩ <;> rw [z] at n <;> cases n
theorem Sm.at {H H' : Hp} (a : Sm H H') {b : Addr} {o : HO} (e : H b = some o) (hn : ∀ ps, o ≠ .tbl ps) : H' b = some o := by
  rcases a b o e with z | ⟨⟨ps, z⟩, _⟩
  · exact z
  · exact absurd z (hn ps)
theorem Sm.lst {H H' : Hp} (a : Sm H H') {b : Addr} {xs : List V} (e : H b = some (.lst xs)) : H' b = some (.lst xs) := a.at e (by intro _ q; cases q)
theorem Sm.ins {H H' : Hp} (a : Sm H H') {b C dx : Addr} {fs : List (Str × V)} (e : H b = some (.ins C dx fs)) : H' b = some (.ins C dx fs) := a.at e (by intro _ q; cases q)
theorem Sm.seq {K : PySem.W.Frag} {H H' : Hp} {a : Addr} {xs : List V} (e : Sm H H') (h : SqL K H a xs) : SqL K H' a xs := by
  rcases h with (h | ⟨o, h⟩) | h
  · exact .inl (.inl (e.lst h))
  · exact .inl (.inr ⟨o, e.at h (by intro _ q; cases q)⟩)
  · exact .inr h
theorem Sm.new {H H' : Hp} (a : Sm H H') {b : Addr} {o : HO} (hb : H b = Option.none) : Sm H (upd H' b o) := fun c u e => by
  have hne : c ≠ b := ne_of_none e hb
  rw [upd_ne hne]
  exact a c u e

theorem ext_ok {P : Program} {w : World} {H : Hp} {h : Heap} {a : Addr} {φ : Heap → Prop} (p : φ h) (ho : ∃ o, h.get? a = some o) (st : ∀ h1 h2 : Heap, φ h1 → (∀ o, h1.get? a = some o → h2.get? a = some o) → φ h2) : ObjOk P w H h a (.ext φ) := ⟨p, ho, st⟩
theorem codeRec_stay {c : Addr} {q : Str} : ∀ h1 h2 : Heap, h1.CodeRec (.ref c) q → (∀ o, h1.get? c = some o → h2.get? c = some o) → h2.CodeRec (.ref c) q := by
  rintro h1 h2 ⟨c', o, vs, t, e, ho, r⟩ k
  cases e
  exact ⟨c, o, vs, t, rfl, k o ho, r⟩
theorem get_stay {a : Addr} {o : Obj} : ∀ h1 h2 : Heap, h1.get? a = some o → (∀ o, h1.get? a = some o → h2.get? a = some o) → h2.get? a = some o := fun _ _ e k => k _ e

section
variable {X : Cx} {pins : List (Addr × Obj)} {σ : L2.St} {H : Hp} {s : Shared}
theorem lam_ok {E : Value → Shared → Prop} {Q : Value → Shared → Prop} {c P : Addr} {pos : Pos} {qual : Str} {params : Arguments} {body : Expr} {scope : Scope} {clos : List (Str × Addr)}
    (I : Inv X pins σ H s) (hT : Tab P pos qual H) (hc : X.env.code = .ref c) (C : CodeK X.K c P) (B : BMain X.mg X.base) (hcl : closureFor scope X.env = pure clos) (hdef : defaultsOf params X.env = ([], [])) (hq : X.env.qual ++ "<lambda>" = qual)
    (h : ∀ f c' pm ctv s' H', Inv X pins σ H' s' → Tab P pos qual H' → Sm H H' → H f = none → H' f = some (.ext fun h => h.get? f = some (PySem.W.kla_obj "<lambda>" qual params body scope clos pm c' ctv)) → H' c' = some (.ext fun h => h.CodeRec (.ref c') qual) → Q (.ref f) s') :
    wpAny (model X.prog X.w) X.A (eval (.Lambda params body scope pos) X.env) Q E s := by
  subst hq
  refine PySem.W.kla_eval hdef ?_
  have hgs : s.heap.Ns mainGlobals X.mg := I.ok.mod.glob.keeps I.bk
  obtain ⟨bm, ob, b1, b2, b3, b4, b5, b6⟩ := B
  have CH := C.hd I.kIn
  have hbm := I.bs bm ob b3
  have nP : ∀ {ps : Array Value}, H P = some (.tbl ps) → ∀ b, H b = none → b ≠ P := fun e b n z => by rw [z, e] at n; cases n
  rcases hT with hP | ⟨c', hP, hc'⟩
  · have tP : s.heap.get? P = some (PySem.W.tabObj #[]) := I.hok P _ hP
    have hgP : mainGlobals ≠ P := fun q => by
      obtain ⟨o, es, ep, e, hd, _⟩ := hgs
      rw [q, tP] at e; cases e; cases hd
    have hbG : bm ≠ mainGlobals := fun q => by
      obtain ⟨o, es, ep, e, hd, _⟩ := hgs
      rw [q, e] at hbm
      cases hbm.1
      rw [hd] at b6; cases b6
    refine PySem.W.kla_makeFunction (mg := X.mg) hcl I.ok.glob hgs hc CH tP trivial rfl hgP ⟨bm, ob, b1, b2, hbG, nP hP bm hbm.2, hbm.1, b4, b5, b6⟩ fun c' ctv h' tk hx hge hlt hrec htb => ?_
    have hszP : P < s.heap.objs.size := Heap.lt_size tP
    have fresh : ∀ b, s.heap.objs.size ≤ b → H b = none := fun b hb => I.hok.fresh hb
    have hfs : s.heap.objs.size ≤ h'.objs.size := Nat.le_of_lt (Nat.lt_of_le_of_lt hge hlt)
    have ncP : c' ≠ P := fun z => Nat.lt_irrefl _ (Nat.lt_of_lt_of_le hszP (Nat.le_trans hge (Nat.le_of_eq z)))
    have nfP : h'.objs.size ≠ P := fun z => Nat.lt_irrefl _ (Nat.lt_of_lt_of_le hszP (Nat.le_trans hfs (Nat.le_of_eq z)))
    have nfc : h'.objs.size ≠ c' := fun z => Nat.lt_irrefl _ (Nat.lt_of_lt_of_le hlt (Nat.le_of_eq z))
    have kp : ∀ b o, b ≠ P → s.heap.get? b = some o → (h'.push (PySem.W.kla_obj "<lambda>" (X.env.qual ++ "<lambda>") params body scope clos ((X.mg "__name__").getD .none) c' ctv)).get? b = some o := fun b o hb e => Heap.get?_push_of_some _ (hx b o hb e)
    have lk : ∀ b, b ≠ P → b ≠ c' → b ≠ h'.objs.size → ∀ o1 o2 o3 : HO, (upd (upd (upd H P o1) c' o2) h'.objs.size o3) b = H b := fun b e1 e2 e3 o1 o2 o3 => by rw [upd_ne e3, upd_ne e2, upd_ne e1]
    have lkH : ∀ b o, H b = some o → b ≠ P → ∀ o1 o2 o3 : HO, (upd (upd (upd H P o1) c' o2) h'.objs.size o3) b = some o := fun b o e hb o1 o2 o3 => by
      rw [lk b hb (ne_of_none e (fresh c' hge)) (ne_of_none e (fresh _ hfs))]
      exact e
    have un : Un X.fs [] H (upd (upd (upd H P (.tbl #[rawInt pos.line, rawInt pos.col, .ref c'])) c' (.ext fun h => h.CodeRec (.ref c') (X.env.qual ++ "<lambda>"))) h'.objs.size (.ext fun h => h.get? h'.objs.size = some (PySem.W.kla_obj "<lambda>" (X.env.qual ++ "<lambda>") params body scope clos ((X.mg "__name__").getD .none) c' ctv))) s.heap
        (h'.push (PySem.W.kla_obj "<lambda>" (X.env.qual ++ "<lambda>") params body scope clos ((X.mg "__name__").getD .none) c' ctv)) := by
      refine ⟨fun b o e n _ _ => kp b o (nP hP b n) e, fun b o e n _ _ => ⟨o.slots, kp b o (nP hP b n) e⟩, fun b o e n _ => ?_, fun b o e _ => ?_, fun b xs e => ?_, fun b o u e => ?_, fun b ps e => ?_⟩
      · have hb := Heap.lt_size e
        rw [lk b (nP hP b n) (Nat.ne_of_lt (Nat.lt_of_lt_of_le hb hge)) (Nat.ne_of_lt (Nat.lt_of_lt_of_le hb hfs))]
        exact n
      · by_cases hb : b = P
        · subst hb
          exact ⟨_, Heap.get?_push_of_some _ htb⟩
        · exact ⟨o, kp b o hb e⟩
      · exact lkH b _ e (fun z => by rw [z, hP] at e; cases e) _ _ _
      · exact lkH b _ e (fun z => by rw [z, hP] at e; cases e) _ _ _
      · by_cases hb : b = P
        · subst hb
          rw [hP] at e
          cases e
          refine ⟨#[rawInt pos.line, rawInt pos.col, .ref c'], ?_⟩
          rw [upd_ne nfP.symm, upd_ne ncP.symm, upd_same]
          rfl
        · exact ⟨#[], by rw [lkH b _ e hb]; simp⟩
    have hok : HOk X.prog X.w (upd (upd (upd H P (.tbl #[rawInt pos.line, rawInt pos.col, .ref c'])) c' (.ext fun h => h.CodeRec (.ref c') (X.env.qual ++ "<lambda>"))) h'.objs.size (.ext fun h => h.get? h'.objs.size = some (PySem.W.kla_obj "<lambda>" (X.env.qual ++ "<lambda>") params body scope clos ((X.mg "__name__").getD .none) c' ctv)))
        (h'.push (PySem.W.kla_obj "<lambda>" (X.env.qual ++ "<lambda>") params body scope clos ((X.mg "__name__").getD .none) c' ctv)) := fun b u e => by
      by_cases h1 : b = h'.objs.size
      · rw [h1, upd_same] at e
        cases e
        rw [h1]
        exact ext_ok (Heap.get?_push_size _ rfl) ⟨_, Heap.get?_push_size _ rfl⟩ get_stay
      · by_cases h2 : b = c'
        · rw [upd_ne h1, h2, upd_same] at e
          cases e
          rw [h2]
          obtain ⟨cc, oc, vs, t, e1, e2, e3, e4⟩ := hrec
          cases e1
          exact ext_ok ⟨c', oc, vs, t, rfl, Heap.get?_push_of_some _ e2, e3, e4⟩ ⟨oc, Heap.get?_push_of_some _ e2⟩ codeRec_stay
        · by_cases h3 : b = P
          · rw [upd_ne h1, upd_ne h2, h3, upd_same] at e
            cases e
            rw [h3]
            exact Heap.get?_push_of_some _ htb
          · rw [lk b h3 h2 h1] at e
            refine (I.hok b u e).stay (fun d v hd q => kp d v ?_ q) (fun d q => lkH d _ q (fun z => by rw [z, hP] at q; cases q) _ _ _) fun d xs q => lkH d _ q (fun z => by rw [z, hP] at q; cases q) _ _ _
            rcases hd with z | z
            · rw [z]; exact h3
            · intro y; rw [y, hP] at z; cases z
    refine h h'.objs.size c' _ ctv _ _ (I.un (t' := tk) un hok) (.inr ⟨c', ?_, ?_⟩) (fun b o e => ?_) (fresh _ hfs) upd_same ?_
    · rw [upd_ne nfP.symm, upd_ne ncP.symm, upd_same]
    · rw [upd_ne nfc.symm, upd_same]
    · by_cases hb : b = P
      · subst hb
        rw [hP] at e
        cases e
        refine .inr ⟨⟨_, rfl⟩, #[rawInt pos.line, rawInt pos.col, .ref c'], ?_⟩
        rw [upd_ne nfP.symm, upd_ne ncP.symm, upd_same]
      · exact .inl (lkH b o e hb _ _ _)
    · rw [upd_ne nfc.symm, upd_same]
  · have tP : s.heap.get? P = some (PySem.W.tabObj #[rawInt pos.line, rawInt pos.col, .ref c']) := I.hok P _ hP
    have hbG : bm ≠ mainGlobals := fun q => by
      obtain ⟨o, es, ep, e, hd, _⟩ := hgs
      rw [q, e] at hbm
      cases hbm.1
      rw [hd] at b6; cases b6
    refine PySem.W.kla_makeFunctionHit (mg := X.mg) (cv := .ref c') hcl I.ok.glob hgs hc CH tP trivial (by simp [codeAmong, rawInt]) ⟨bm, ob, b1, b2, hbG, nP hP bm hbm.2, hbm.1, b4, b5, b6⟩ fun ctv h' tk hk hsz => ?_
    have fr : H h'.objs.size = none := I.hok.fresh hsz
    have I' := I.laid (a := h'.objs.size) (o := .ext fun h => h.get? h'.objs.size = some (PySem.W.kla_obj "<lambda>" (X.env.qual ++ "<lambda>") params body scope clos ((X.mg "__name__").getD .none) c' ctv)) (t' := tk)
      (h' := h'.push (PySem.W.kla_obj "<lambda>" (X.env.qual ++ "<lambda>") params body scope clos ((X.mg "__name__").getD .none) c' ctv)) (fun b u e => Heap.get?_push_of_some _ (hk b u e)) hsz (ext_ok (Heap.get?_push_size _ rfl) ⟨_, Heap.get?_push_size _ rfl⟩ get_stay)
    refine h h'.objs.size c' _ ctv _ _ I' (.inr ⟨c', ?_, ?_⟩) ((Sm.refl H).new fr) fr upd_same ?_
    · rw [upd_ne (ne_of_none hP fr)]; exact hP
    · rw [upd_ne (ne_of_none hc' fr)]; exact hc'
    · rw [upd_ne (ne_of_none hc' fr)]; exact hc'
end
end Hh
set_option Elab.async false
set_option linter.all false
set_option maxRecDepth 100000
set_option maxHeartbeats 2000000
namespace Hh
open PySem PySem.Spec PyProof.Rows L2

def cxLam (P : Program) (w : World) (K : PySem.W.Frag) (mg : Str → Option Value) (base : Heap) (N : List Str) (qual : Str) (scope : Scope) (f : Addr) (cd : Value) (cl : List (Str × Addr)) (A : Around) (outer : List Env) (s : Shared) (H : Hp) : Cx where
  prog := P
  w := w
  K := K
  mg := mg
  base := base
  A := A.deeper (PySem.W.envX qual scope s.heap.objs.size f cd cl)
  N := N
  s_0 := s
  H_0 := H
  env := PySem.W.envX qual scope s.heap.objs.size f cd cl
  outer := outer
  stack := PySem.W.envX qual scope s.heap.objs.size f cd cl :: outer
  ex := []
  calm := true
  fn := fun _ => false
  pn := []
  xe := fun _ _ => False
/-- the scope of such a lambda -/
structure LamScope (x y : Str) (sc : Scope) : Prop where
  kind : sc.kind = .function
  co : sc.isCoroutine = false
  gen : sc.isGenerator = false
  hx : sc.names.lookup x = some .local
  hy : sc.names.lookup y = some .free
  ne : x ≠ y
  nocell : ∀ z ∈ sc.names, z.2 ≠ .cell
  only : ∀ z ∈ sc.names, z.2 = .free → z.1 = y

theorem lam_run {P : Program} {w : World} {K : PySem.W.Frag} {mg : Str → Option Value} {base : Heap} {A : Around} {outer : List Env} {s : Shared} {H : Hp} {Q : VK} {E : Value → Shared → Prop} {te : TE} {x y qual name : Str} {params : Arguments} {body : Expr} {scope : Scope}
    {f c c' : Addr} {pm ctv ux uy : Value} {vx vy : V} (S : LamScope x y scope) (hdp : A.depth < recursionLimit) (hhd : A.handled = none) (e0 : Env0 P w K mg base A outer s H)
    (hf : s.heap.get? f = some (PySem.W.kla_obj name qual params body scope [(y, c)] pm c' ctv)) (cr : s.heap.CodeRec (.ref c') qual)
    (hbind : bindArgs (PySem.W.kla_fn name qual params body scope [(y, c)] pm (.ref c') ctv) ⟨[ux], []⟩ = pure [(x, ux)])
    (hcl : s.heap.IsCell c (some uy)) (hc : H c = none) (rx : RelV vx ux) (ry : RelV vy uy)
    (hb : PE (cxLam P w K mg base [x, y] qual scope f (.ref c') [(y, c)] A outer s H) body te) (hq : te [some vx, some vy] H Q) :
    wpAny (model P w) A (call (.ref f) [ux]) (CE outer P w H s Q) E s := by
  refine wpAny_call (codeAny_mono (R := fun r s' => ∃ u, r = .ok (.ret u) ∧ CE outer P w H s Q u s') (PySem.W.kla_callFunE hdp hf rfl S.co S.gen rfl cr ?_) fun r s' hr => ?_)
  · rw [hbind]
    have lim : s.heap.NoLimit := e0.mod.nolimit.keeps fun b o e => (e0.bs b o e).1
    refine wpAny_pure (wpAny_newFunctionEnv S.nocell (fun z hz => ?_) (fun h1 hns hsb => ⟨lim.fresh _ hsb, ?_⟩) S.kind)
    · rw [List.mem_singleton.mp hz]
      exact S.hx
    · show codeAny _ _ (.expr body (PySem.W.envX qual scope s.heap.objs.size f (.ref c') [(y, c)])) _ _
      refine PySem.W.kla_codeExpr ?_
      have hk : ∀ b o, s.heap.get? b = some o → h1.get? b = some o := fun b o e => hsb.extBut b o (Nat.ne_of_lt (Heap.lt_size e)) (Heap.get?_push_of_some _ e)
      have lkc : ∀ z d, ([(y, c)] : List (Str × Addr)).lookup z = some d → z = y ∧ d = c := fun z d e => by
        rw [List.lookup_cons] at e
        cases hz : z == y with
        | true =>
          rw [hz] at e
          exact ⟨eq_of_beq hz, (Option.some.inj e).symm⟩
        | false =>
          rw [hz] at e
          cases e
      have lky : ([(y, c)] : List (Str × Addr)).lookup y = some c := by rw [List.lookup_cons, beq_self_eq_true]
      have noA : ∀ b : Addr, b ∉ (cxLam P w K mg base [x, y] qual scope f (.ref c') [(y, c)] A outer s H).ex := fun b z => absurd (show b ∈ ([] : List Addr) from z) (by simp)
      have I : Inv (cxLam P w K mg base [x, y] qual scope f (.ref c') [(y, c)] A outer s H) [] [some vx, some vy] H { s with heap := h1, toks := s.toks + [(x, ux)].length } := by
        refine ⟨⟨e0.mod, S.kind, rfl, rfl, Nat.le_refl _, fun z1 z2 d h1 h2 => ?_, fun z hz => ?_, fun z d q _ => Bool.noConfusion (show false = true from q), fun _ => hhd, Around.frames_deeper e0.frames, .inr ⟨rfl, rfl⟩, fun b z => absurd z (noA b), e0.bs, e0.bsz, fun b _ _ => noA b, fun b z => absurd z (noA b), e0.funs, e0.frf⟩,
          rfl, e0.bare, Un.kept hk, ⟨_, hns, fun i z v h1 h2 h3 => ?_⟩, fun z d e => ?_, e0.hok.fresh (Nat.le_refl _), fun z d e => ?_, fun p hp => absurd (show p ∈ ([] : List (Addr × Obj)) from hp) (by simp), e0.hok.kept hk, rfl⟩
        · exact (lkc _ _ h1).1.trans (lkc _ _ h2).1.symm
        · have hz : scope.names.lookup z = some .cell ∨ scope.names.lookup z = some .free := hz
          rcases hz with hz | hz
          · exact absurd rfl (S.nocell _ (PySem.mem_of_lookup hz))
          · have e : z = y := S.only _ (PySem.mem_of_lookup hz) rfl
            exact ⟨c, by rw [e]; exact lky⟩
        · match i, h1, h2 with
          | 0, h1, h2 =>
            have e1 : x = z := Option.some.inj h1
            have e2 : vx = v := Option.some.inj (Option.some.inj h2)
            subst e1 e2
            exact ⟨ux, rx, .inl ⟨S.hx, by show ([(x, ux)] : List (Str × Value)).reverse.lookup x = some ux; simp⟩⟩
          | 1, h1, h2 =>
            have e1 : y = z := Option.some.inj h1
            have e2 : vy = v := Option.some.inj (Option.some.inj h2)
            subst e1 e2
            exact ⟨uy, ry, .inr ⟨.inr S.hy, c, lky, hcl.keeps hk⟩⟩
          | i + 2, h1, h2 => exact absurd h2 (by simp)
        · obtain ⟨_, rfl⟩ := lkc z d e
          exact ⟨_, hcl.keeps hk⟩
        · obtain ⟨_, rfl⟩ := lkc z d e
          exact hc
      refine wpAny_mono (hb [] _ [some vx, some vy] H Q I hq) (fun u s' h' => ?_) fun _ _ h' => h'.elim
      obtain ⟨v, H', J, rv, q⟩ := h'
      exact ⟨u, rfl, v, H', J.os, J.bare, J.base, J.hok, rv, q⟩
  · obtain ⟨u, rfl, h⟩ := hr
    exact h

def kle2 (k : Int → Int) (a b : Int) : Prop := k a < k b ∨ (k a = k b ∧ a ≤ b)
abbrev noStr : Nat → Bool := fun _ => false

theorem tupKey2 {h : Heap} {a : Addr} {u v : Value} {i j : Int} (ht : IsTup h a #[u, v]) (hu : ∃ t, u = .int i t) (hv : ∃ t, v = .int j t) : PyProof.Rows.G.tupKeyC h noStr (.ref a) = some [.inl i, .inl j] := by
  obtain ⟨o, e, hc, n, hd⟩ := ht
  obtain ⟨t, rfl⟩ := hu
  obtain ⟨t', rfl⟩ := hv
  unfold PyProof.Rows.G.tupKeyC
  rw [if_pos (by simp [PyProof.Rows.G.isTupObj, e, hc])]
  simp [tupKey, e, hd, tupItems]

theorem kle_pair {i j i' j' : Int} (h : (listOrd itemOrd).kle [.inl i, .inl j] [.inl i', .inl j']) : i < i' ∨ (i = i' ∧ j ≤ j') := by
  have q : PyProof.Rows.lexLt itemOrd [.inl i', .inl j'] [.inl i, .inl j] = false := h
  rw [lex_false] at q
  obtain ⟨q1, q2⟩ := q
  have q1 : decide (i' < i) = false := q1
  have q1 := of_decide_eq_false q1
  rcases q2 with q2 | q2
  · have q2 : decide (i < i') = true := q2
    exact .inl (of_decide_eq_true q2)
  · rw [lex_false] at q2
    obtain ⟨q3, _⟩ := q2
    have q3 : decide (j' < j) = false := q3
    have q3 := of_decide_eq_false q3
    omega
end Hh
set_option Elab.async false
set_option linter.all false
set_option maxRecDepth 100000
set_option maxHeartbeats 2000000
namespace Hh
open PySem PySem.Spec PyProof.Rows L2

def PairOk (k : Int → Int) (H : Hp) (p : Keyed) : Prop := ∃ n t a, p = (Value.ref a, Value.int n t) ∧ H a = some (.tup [.int (k n), .int n])
theorem pair_key {P : Program} {w : World} {k : Int → Int} {H : Hp} {h : Heap} {p : Keyed} (hok : HOk P w H h) (x : PairOk k H p) : PyProof.Rows.G.tupKeyC h noStr p.1 = some [.inl (k (numOf p.2)), .inl (numOf p.2)] := by
  obtain ⟨n, t, a, rfl, e⟩ := x
  obtain ⟨_, its, rv, ht⟩ := hok a _ e
  obtain ⟨u, v, rfl, ru, rw'⟩ := vals2 rv
  obtain ⟨t1, rfl⟩ := ru
  obtain ⟨t2, rfl⟩ := rw'
  exact tupKey2 ht ⟨_, rfl⟩ ⟨_, rfl⟩
theorem sk_out {P : Program} {w : World} {k : Int → Int} {H : Hp} {h : Heap} (hok : HOk P w H h) : ∀ {l : List Keyed}, (∀ p ∈ l, PairOk k H p) → l.Pairwise (KeyLe (PyProof.Rows.G.tupKindC h noStr)) → (l.map fun p => numOf p.2).Pairwise (kle2 k) := fun {l} ok srt => by
  rw [List.pairwise_map]
  refine srt.imp_of_mem fun {p q} hp hq hle => ?_
  obtain ⟨x, y, e1, e2, hxy⟩ := hle
  have e1 : PyProof.Rows.G.tupKeyC h noStr p.1 = some x := e1
  have e2 : PyProof.Rows.G.tupKeyC h noStr q.1 = some y := e2
  rw [pair_key hok (ok p hp)] at e1
  rw [pair_key hok (ok q hq)] at e2
  cases e1
  cases e2
  exact kle_pair hxy
theorem sk_vals {k : Int → Int} {H : Hp} : ∀ {l : List Keyed}, (∀ p ∈ l, PairOk k H p) → Vals ((l.map fun p => numOf p.2).map V.int) (l.map (·.2))
  | [], _ => .nil
  | p :: r, h => by
    obtain ⟨n, t, a, rfl, e⟩ := h p (List.mem_cons_self ..)
    exact .cons ⟨t, rfl⟩ (sk_vals fun q hq => h q (List.mem_cons_of_mem _ hq))

section
variable {X : Cx} {pins : List (Addr × Obj)} {σ : L2.St} {H : Hp} {s : Shared}
theorem sk_tail {A : Around} {E : Value → Shared → Prop} {Pf : PySem.Fin → Shared → Prop} {a kS : Addr} {e1 : Nat} {k : Int → Int} {st : SortSt} {xs : List V} (I : Inv X pins σ H s) (hk : H kS = some (.lst xs)) (ha : H a = some (.ext fun h => h.get? a = some (seqObj "list" #[] e1)))
    (hne : a ≠ kS) (hf : failedOf st = none) (hz : (arrOf st).size ≤ 1000) (ok : ∀ p ∈ (arrOf st).toList, PairOk k H p)
    (h : ∀ s', Inv X pins σ (upd (upd H kS (.lst [])) a (.lst (((arrOf st).toList.map fun p => numOf p.2).map V.int))) s' → Pf (.done (.ret .none)) s') :
    wpAny (model X.prog X.w) A (ksk_tail a false e1 (.ref kS) st) Pf E s := by
  obtain ⟨z, its, n, rv, hln, ho⟩ := I.lstM hk
  have hoa : s.heap.get? a = some (seqObj "list" #[] e1) := (I.hok a _ ha).1
  unfold ksk_tail
  dsimp only
  refine wpAny_bind (listUpdate_at ho rfl ?_ (by rw [List.size_toArray, ← hln]; exact z) (Nat.zero_le _))
  have I1 := I.lset (f := fun _ => #[]) (its' := []) (ys := []) (t' := s.toks) hk ho rfl .nil (Nat.zero_le _)
  have ha1 : (upd H kS (.lst [])) a = some (.ext fun h => h.get? a = some (seqObj "list" #[] e1)) := by rw [upd_ne hne]; exact ha
  have hoa1 := (I1.hok a _ ha1).1
  refine wpAny_bind (wpAny_letGo ?_)
  refine wpAny_bind (seqEpoch_at hoa1 rfl ?_)
  refine wpAny_bind (listUpdate_at hoa1 rfl ?_ (Nat.zero_le _) ?_)
  · rw [hf]
    simp only [bne_self_eq_false, Bool.false_eq_true, if_false]
    refine wpAny_pure (h _ ?_)
    have q := get?_update_seq (h := s.heap.update kS (Obj.mapSeq fun _ => (#[] : Array Value))) (a := a) (c := "list") (xs := #[]) (n := e1) hoa1 (fun _ => (arrOf st).map (·.2))
    refine I1.write (x := a) (e := a) (t' := s.toks) (by rw [ha1]; trivial) (.inl rfl) (fun b u hb hu => (Heap.get?_update_other _ _ (Ne.symm hb)).trans hu) ⟨_, q⟩ ?_
    have qe : (arrOf st).map (·.2) = ((arrOf st).toList.map (·.2)).toArray := by
      rw [← Array.toList_inj, Array.toList_map]
    exact ⟨by rw [List.length_map, List.length_map, Array.length_toList]; exact Nat.le_of_lt (small1000 hz), (arrOf st).toList.map (·.2), _, sk_vals ok, q.trans (by rw [qe])⟩
  · simp only [Bool.false_eq_true, if_false]
    rw [Array.size_map]
    exact Nat.le_trans hz (by rw [sizeLine_eq]; decide)
end
end Hh
set_option Elab.async false
set_option linter.all false
set_option maxRecDepth 100000
set_option maxHeartbeats 2000000
namespace Hh
open PySem PySem.Spec PyProof.Rows L2

theorem tups_of {P : Program} {w : World} {k : Int → Int} {H : Hp} {h : Heap} (hok : HOk P w H h) : ∀ {keys vs : List Value}, keys.length = vs.length → (∀ p ∈ keys.zip vs, PairOk k H p) → ∃ fs, TupsOf h noStr keys fs
  | [], _, _, _ => ⟨[], .nil⟩
  | _ :: _, [], hl, _ => by simp at hl
  | u :: keys, v :: vs, hl, ok => by
    obtain ⟨fs, t⟩ := tups_of (keys := keys) (vs := vs) hok (by simpa using hl) fun p hp => ok p (List.mem_cons_of_mem _ hp)
    obtain ⟨n, t0, a, e, ht⟩ := ok (u, v) (List.mem_cons_self ..)
    cases e
    obtain ⟨_, its, rv, o, eo, hc, m, hd⟩ := hok a _ ht
    obtain ⟨x, y, rfl, rx, ry⟩ := vals2 rv
    obtain ⟨t1, rfl⟩ := rx
    exact ⟨.int (k n) t1 :: fs, .cons ⟨a, o, _, m, rfl, eo, hc, hd, rfl, fun _ => ⟨_, _, rfl⟩, fun q => Bool.noConfusion (show false = true from q)⟩ t⟩
theorem zip_snd : ∀ {keys vs : List Value}, keys.length = vs.length → (keys.zip vs).map (·.2) = vs
  | [], [], _ => rfl
  | [], _ :: _, h => by simp at h
  | _ :: _, [], h => by simp at h
  | _ :: keys, _ :: vs, h => by
    show _ :: (keys.zip vs).map (·.2) = _
    rw [zip_snd (keys := keys) (vs := vs) (by simpa using h)]
theorem pw_small {α : Type} {R : α → α → Prop} : ∀ {l : List α}, l.length < 2 → l.Pairwise R
  | [], _ => .nil
  | [_], _ => by simp
  | _ :: _ :: _, h => absurd h (by simp only [List.length_cons]; omega)

section
variable {X : Cx} {pins : List (Addr × Obj)} {σ : L2.St} {H : Hp} {s : Shared}
theorem sk_end {A : Around} {E : Value → Shared → Prop} {Pf : PySem.Fin → Shared → Prop} {a kS : Addr} {e1 : Nat} {k : Int → Int} {xs : List V} {keys vs : List Value} (I : Inv X pins σ H s) (hk : H kS = some (.lst xs)) (ha : H a = some (.ext fun h => h.get? a = some (seqObj "list" #[] e1)))
    (hne : a ≠ kS) (hl : keys.length = vs.length) (hz : vs.length ≤ 1000) (ok : ∀ p ∈ keys.zip vs, PairOk k H p)
    (h : ∀ (ms : List Int) s', ms.Perm (vs.map numOf) → ms.Pairwise (kle2 k) → Inv X pins σ (upd (upd H kS (.lst [])) a (.lst (ms.map V.int))) s' → Pf (.done (.ret .none)) s') :
    wpAny (model X.prog X.w) A (ksk_end a false vs.toArray e1 (.ref kS) keys.toArray) Pf E s := by
  have hzl : (keys.toArray.zip vs.toArray).toList = keys.zip vs := by simp
  have hzs : (keys.toArray.zip vs.toArray).size = vs.length := by rw [Array.size_zip, List.size_toArray, List.size_toArray, hl, Nat.min_self]
  have perm : ∀ {arr : Array Keyed}, arr.Perm (keys.toArray.zip vs.toArray) → (arr.toList.map fun p => numOf p.2).Perm (vs.map numOf) := fun {arr} hp => by
    have q := (Array.perm_iff_toList_perm.mp hp).map fun p : Keyed => numOf p.2
    rw [hzl] at q
    refine q.trans ?_
    have e : (keys.zip vs).map (fun p : Keyed => numOf p.2) = ((keys.zip vs).map (·.2)).map numOf := by rw [List.map_map]; rfl
    rw [e, zip_snd hl]
  unfold ksk_end
  dsimp only
  rw [if_neg Bool.false_ne_true]
  by_cases h2 : vs.toArray.size < 2
  · rw [if_pos h2, if_pos h2]
    refine wpAny_bind (wpAny_pure ?_)
    rw [StateT.run_pure]
    refine wpAny_bind (wpAny_pure ?_)
    dsimp only
    rw [List.size_toArray] at h2
    refine sk_tail (k := k) (st := SortSt.mk' general' (keys.toArray.zip vs.toArray) #[] 7 none) I hk ha hne rfl (by show (keys.toArray.zip vs.toArray).size ≤ 1000; rw [hzs]; exact hz) (fun p hp => ok p (by rw [← hzl]; exact hp)) fun s' I' => h _ s' (perm (arr := keys.toArray.zip vs.toArray) (Array.Perm.refl _)) (pw_small ?_) I'
    rw [List.length_map]
    show (keys.toArray.zip vs.toArray).toList.length < 2
    rw [Array.length_toList, hzs]
    exact h2
  · rw [if_neg h2, if_neg h2]
    rw [List.size_toArray] at h2
    obtain ⟨fs, ht⟩ := tups_of I.hok hl ok
    refine wpAny_bind (tup_kind (by rw [PyProof.Rows.G.TupsOf.length ht, hl]; omega) ht ?_)
    try dsimp only
    refine wpAny_bind (wpAny_mono (PyProof.Rows.G.wpS_sortRunsSt (κ := PyProof.Rows.G.tupKindC s.heap noStr) (kd := tuples' true) (a₀ := keys.toArray.zip vs.toArray) (st := SortSt.mk' (tuples' true) (keys.toArray.zip vs.toArray) #[] 7 none)
      (Q := fun _ st' => (arrOf st').Perm (keys.toArray.zip vs.toArray) ∧ failedOf st' = none ∧ SortedToK (PyProof.Rows.G.tupKindC s.heap noStr) (arrOf st') (keys.toArray.zip vs.toArray).size)
      (PyProof.Rows.G.tupC_ltAt true (PyProof.Rows.G.KeepsTups.refl _)) (fun p hp => ⟨_, pair_key I.hok (ok p (by rw [← hzl]; exact hp))⟩) ⟨Array.Perm.refl _, rfl, rfl⟩ rfl (Stable.refl _) (by rw [hzs]; omega) fun st' a1 a2 a3 _ => ⟨a1, a2, a3⟩) ?_ fun _ _ e => e)
    rintro ⟨⟨⟩, st'⟩ s' ⟨rfl, hp, hf, hs⟩
    dsimp only
    have ok' : ∀ p ∈ (arrOf st').toList, PairOk k H p := fun p m => ok p (by rw [← hzl]; exact (Array.perm_iff_toList_perm.mp hp).mem_iff.mp m)
    have hs' : SortedToK (PyProof.Rows.G.tupKindC s'.heap noStr) (arrOf st') (arrOf st').size := by rw [hp.size_eq]; exact hs
    exact sk_tail (k := k) I hk ha hne hf (by rw [hp.size_eq, hzs]; exact hz) ok' fun s2 I' => h _ s2 (perm hp) (sk_out I.hok ok' (keyLe_of_sorted (fun p m => ⟨_, pair_key I.hok (ok' p m)⟩) hs')) I'
end
end Hh
set_option Elab.async false
set_option linter.all false
set_option maxRecDepth 100000
set_option maxHeartbeats 2000000
namespace Hh
open PySem PySem.Spec PyProof.Rows L2

theorem vals_refs : ∀ {ks : List Addr} {its : List Value}, Vals (ks.map V.ref) its → its = ks.map Value.ref
  | [], _, h => by cases h; rfl
  | k :: ks, _, h => by
    cases h with
    | cons r t =>
      cases r
      rw [vals_refs t]
      rfl
theorem refs_vals : ∀ (ks : List Addr), Vals (ks.map V.ref) (ks.map Value.ref)
  | [] => .nil
  | _ :: ks => .cons rfl (refs_vals ks)
theorem ints_num : ∀ {ns : List Int} {its : List Value}, Vals (ns.map V.int) its → its.map numOf = ns
  | [], _, h => by cases h; rfl
  | n :: ns, _, h => by
    cases h with
    | cons r t =>
      obtain ⟨t', rfl⟩ := r
      show n :: _ = _
      rw [ints_num t]
/-- the pairs of keys and numbers -/
theorem pairs_ok {k : Int → Int} {H : Hp} : ∀ {ks : List Addr} {ns : List Int} {its : List Value}, ks.length = ns.length → Vals (ns.map V.int) its → (∀ (j : Nat) (n : Int) (t : Addr), ns[j]? = some n → ks[j]? = some t → H t = some (.tup [.int (k n), .int n])) →
    ∀ p ∈ (ks.map Value.ref).zip its, PairOk k H p
  | [], [], _, _, _, _, p, hp => by simp at hp
  | [], _ :: _, _, hl, _, _, _, _ => by simp at hl
  | _ :: _, [], _, hl, _, _, _, _ => by simp at hl
  | a :: ks, n :: ns, _, hl, hv, h, p, hp => by
    cases hv with
    | cons r t =>
      obtain ⟨t', rfl⟩ := r
      have hp : p = (Value.ref a, Value.int n t') ∨ p ∈ (ks.map Value.ref).zip _ := List.mem_cons.mp hp
      rcases hp with rfl | hp
      · exact ⟨n, t', a, rfl, h 0 n a rfl rfl⟩
      · exact pairs_ok (by simpa using hl) t (fun j n' t' e1 e2 => h (j + 1) n' t' e1 e2) p hp

section
variable {X : Cx} {pins : List (Addr × Obj)} {σ : L2.St} {H : Hp} {s : Shared}
/-- what the key function is asked, from an abstract heap H on -/
def KeyFn (X : Cx) (pins : List (Addr × Obj)) (σ : L2.St) (H : Hp) (f : Addr) (ns : List Int) (k : Int → Int) : Prop :=
  ∀ n ∈ ns, ∀ (t : Tok) (s' : Shared) (H' : Hp), Inv X pins σ H' s' → Same H H' →
    wpAny (model X.prog X.w) X.A.in1.in1 (call (.ref f) [.int n t]) (fun u s'' => ∃ a H'', Inv X pins σ H'' s'' ∧ Same H' H'' ∧ u = .ref a ∧ H'' a = some (.tup [.int (k n), .int n])) (fun _ _ => False) s'
theorem sk_rest {E : Value → Shared → Prop} {Pf : PySem.Fin → Shared → Prop} {f a kS : Addr} {e1 : Nat} {k : Int → Int} {ns : List Int} {vs : List Value} {H2 : Hp} (I : Inv X pins σ (upd H2 kS (.lst [])) s) (hkS : H2 kS = none) (h2 : Same H H2) (ha : H2 a = some (.ext fun h => h.get? a = some (seqObj "list" #[] e1)))
    (hv : Vals (ns.map V.int) vs) (hz : ns.length ≤ 1000) (turn : KeyFn X pins σ H f ns k)
    (h : ∀ (ms : List Int) s' H', ms.Perm ns → ms.Pairwise (kle2 k) → Inv X pins σ H' s' → (∀ b o, H2 b = some o → b ≠ a → H' b = some o) → H' a = some (.lst (ms.map V.int)) → Pf (.done (.ret .none)) s') :
    wpAny (model X.prog X.w) X.A.in1.in1 (ksk_rest a (.ref f) false vs.toArray e1 (.ref kS)) Pf E s := by
  have hlv : ns.length = vs.length := by have := hv.length; rwa [List.length_map] at this
  have hne : a ≠ kS := ne_of_none ha hkS
  unfold ksk_rest
  refine wpAny_bind (wpAny_rule ?_)
  rw [List.forIn_toArray]
  refine wpAny_bind (ksk_fold (fun i s' => ∃ (H' : Hp) (ks : List Addr), Inv X pins σ H' s' ∧ Same H2 H' ∧ H' kS = some (.lst (ks.map V.ref)) ∧ ks.length = i ∧ ∀ (j : Nat) (n : Int) (t : Addr), ns[j]? = some n → ks[j]? = some t → H' t = some (.tup [.int (k n), .int n])) vs 0 s
    ⟨_, [], I, fun b o e => by rw [upd_ne (ne_of_none e hkS)]; exact e, upd_same, rfl, fun j n t _ e => absurd e (by simp)⟩ ?step ?done)
  case step =>
    rintro j x s' hx ⟨H', ks, I', sm, hk, hkl, hks⟩
    simp only [Nat.zero_add] at hkl ⊢
    have hj : j < vs.length := (List.getElem?_eq_some_iff.mp hx).1
    obtain ⟨n, hnj⟩ : ∃ n, ns[j]? = some n := ⟨_, List.getElem?_eq_getElem (by omega)⟩
    obtain ⟨u, hu, ru⟩ := hv.get (i := j) (x := V.int n) (by rw [List.getElem?_map, hnj]; rfl)
    rw [hx] at hu
    cases hu
    obtain ⟨t, rfl⟩ := ru
    refine wpAny_bind (wpAny_attempt (wpAny_mono (turn n (List.mem_of_getElem? hnj) t s' H' I' (h2.trans sm)) (fun v s'' he => ?_) fun _ _ hF => hF.elim))
    obtain ⟨tp, H'', I'', sm', rfl, htp⟩ := he
    dsimp only
    have hk' := sm' _ _ hk
    obtain ⟨z, its, m, rv, hln, ho⟩ := I''.lstM hk'
    have ei := vals_refs rv
    subst ei
    rw [List.length_map, List.length_map] at hln
    refine wpAny_bind (listUpdate_at ho rfl ?_ (by rw [List.size_toArray, List.length_map, sizeLine_eq]; omega) (by rw [Array.size_push, List.size_toArray, List.length_map, sizeLine_eq]; omega))
    refine wpAny_pure ⟨rfl, _, ks ++ [tp], I''.lset (f := (·.push (.ref tp))) (its' := (ks ++ [tp]).map Value.ref) (ys := (ks ++ [tp]).map V.ref) (t' := s''.toks) hk' ho (by simp) (refs_vals _) (by rw [List.length_map, List.length_append, sizeLine_eq]; simp; omega), fun b o e => ?_, upd_same, by simp [hkl], fun i n' t' e1 e2 => ?_⟩
    · rw [upd_ne (ne_of_none e hkS)]
      exact sm' _ _ (sm _ _ e)
    · have nt : t' ≠ kS := fun z => ?_
      · rw [upd_ne nt]
        by_cases hi : i < ks.length
        · rw [List.getElem?_append_left hi] at e2
          exact sm' _ _ (hks i n' t' e1 e2)
        · rw [List.getElem?_append_right (by omega)] at e2
          have hi0 : i - ks.length = 0 := by
            cases q : i - ks.length with
            | zero => rfl
            | succ m => rw [q] at e2; simp at e2
          rw [hi0] at e2
          have e3 : tp = t' := Option.some.inj e2
          subst e3
          have hij : i = j := by omega
          subst hij
          rw [hnj] at e1
          cases e1
          exact htp
      · by_cases hi : i < ks.length
        · rw [List.getElem?_append_left hi] at e2
          have q := hks i n' t' e1 e2
          rw [z, hk] at q
          cases q
        · rw [List.getElem?_append_right (by omega)] at e2
          have hi0 : i - ks.length = 0 := by
            cases q : i - ks.length with
            | zero => rfl
            | succ m => rw [q] at e2; simp at e2
          rw [hi0] at e2
          have e3 : tp = t' := Option.some.inj e2
          rw [e3, z, hk'] at htp
          cases htp
  case done =>
    rintro s' ⟨H', ks, I', sm, hk, hkl, hks⟩
    simp only [Nat.zero_add] at hkl
    obtain ⟨z, its, m, rv, hln, ho⟩ := I'.lstM hk
    have ei := vals_refs rv
    subst ei
    refine wpAny_bind (listItems_at ho rfl ?_)
    refine sk_end (k := k) I' hk (sm _ _ ha) hne (by rw [List.length_map, hkl]) (by rw [← hlv]; exact hz) (pairs_ok (by rw [hkl, hlv]) hv hks) fun ms s2 h1 h2' J => ?_
    rw [ints_num hv] at h1
    refine h ms s2 _ h1 h2' J (fun b o e hb => ?_) upd_same
    rw [upd_ne hb, upd_ne (ne_of_none e hkS)]
    exact sm _ _ e

theorem sorted_key {E : Value → Shared → Prop} {Q : Value → Shared → Prop} {f l : Addr} {ns : List Int} {k : Int → Int} (I : Inv X pins σ H s) (hl : SqL X.K H l (ns.map V.int)) (hz : ns.length ≤ 1000) (turn : KeyFn X pins σ H f ns k)
    (done : ∀ D s' H' (ms : List Int), Inv X pins σ H' s' → Same H H' → H D = none → H' D = some (.lst (ms.map V.int)) → ms.Perm ns → ms.Pairwise (kle2 k) → Q (.ref D) s') :
    wpAny (model X.prog X.w) X.A (call (.builtin "sorted") [.ref l] [(Str.ofString "key", .ref f)]) Q E s := by
  obtain ⟨vs, rv, pl, _⟩ := I.list hl
  have hlv : ns.length = vs.length := by have := rv.length; rwa [List.length_map] at this
  refine call_function_entry_kw kind_sorted plain_sorted entry_sorted (ksk_s1 _ _) ?_
  unfold Builtin.«sorted»
  refine wpAny_bind (m := checkCount "sorted" 1 1 _) (wpAny_pure ?_)
  refine wpAny_bind (collect_list pl.isList ?_ (by rw [sizeLine_eq]; omega))
  refine wpAny_bind (wpAny_newList ?_ (by rw [sizeLine_eq]; omega))
  have hsz : ((s.heap.push (seqObj "list" #[] 0)).update s.heap.objs.size (Obj.mapSeq (· ++ vs.toArray))).objs.size = s.heap.objs.size + 1 := by
    rw [Heap.size_update, size_push']
  have hoL : (((s.heap.push (seqObj "list" #[] 0)).update s.heap.objs.size (Obj.mapSeq (· ++ vs.toArray))).push (seqObj "list" vs.toArray 0)).get? (s.heap.objs.size + 1) = some (seqObj "list" vs.toArray 0) := by
    rw [← hsz]; exact Heap.get?_push_size _ rfl
  have keep : ∀ b o, s.heap.get? b = some o → (((s.heap.push (seqObj "list" #[] 0)).update s.heap.objs.size (Obj.mapSeq (· ++ vs.toArray))).push (seqObj "list" vs.toArray 0)).get? b = some o := fun b o q => by
    have hlt : b < s.heap.objs.size := Heap.lt_size q
    rw [Heap.get?_push_ne _ _ _ (by rw [hsz]; exact Nat.ne_of_lt (Nat.lt_succ_of_lt hlt)), Heap.get?_update_ne _ _ _ _ (Nat.ne_of_lt hlt), Heap.get?_push_ne _ _ _ (Nat.ne_of_lt hlt)]
    exact q
  show wpAny _ _ _ _ _ { s with heap := ((s.heap.push (seqObj "list" #[] 0)).update s.heap.objs.size (Obj.mapSeq (· ++ vs.toArray))).push (seqObj "list" vs.toArray 0) }
  rw [hsz]
  generalize hh : ((s.heap.push (seqObj "list" #[] 0)).update s.heap.objs.size (Obj.mapSeq (· ++ vs.toArray))).push (seqObj "list" vs.toArray 0) = h1 at hoL keep ⊢
  clear hh hsz
  have fr : H (s.heap.objs.size + 1) = none := I.hok.fresh (Nat.le_succ _)
  have I1 : Inv X pins σ (upd H (s.heap.objs.size + 1) (.lst (ns.map V.int))) { s with heap := h1, toks := s.toks } :=
    I.laid (a := s.heap.objs.size + 1) (o := .lst (ns.map V.int)) (h' := h1) (t' := s.toks) keep (Nat.le_succ _) ⟨by rw [List.length_map, sizeLine_eq]; omega, vs, 0, rv, hoL⟩
  generalize s.heap.objs.size + 1 = a at fr hoL I1 ⊢
  refine wpAny_bind (wpAny_holding (wpAny_call_entry_kw slot_list_sort ⟨_, hoL, rfl⟩ entry_list_sort ?body (ksk_l1 _ _)))
  case body =>
    show wpAny (model X.prog X.w) X.A.in1.in1 (Builtin.«list.sort» ⟨[.ref a], [(Str.ofString "key", .ref f)]⟩) _ _ _
    rw [ksk_t1]
    obtain ⟨e1, ho1⟩ : ∃ e1, (h1.update a (Obj.mapSeq fun _ => (#[] : Array Value))).get? a = some (seqObj "list" #[] e1) := ⟨_, get?_update_seq hoL fun _ => #[]⟩
    have I2 : Inv X pins σ (upd H a (.ext fun h => h.get? a = some (seqObj "list" #[] e1))) { s with heap := h1.update a (Obj.mapSeq fun _ => (#[] : Array Value)), toks := s.toks } := by
      have q := I1.write (x := a) (e := a) (o := .ext fun h => h.get? a = some (seqObj "list" #[] e1)) (h' := h1.update a (Obj.mapSeq fun _ => (#[] : Array Value))) (t' := s.toks) (by rw [upd_same]; trivial) (.inl rfl) (fun b u hb hu => (Heap.get?_update_other _ _ (Ne.symm hb)).trans hu) ⟨_, ho1⟩
        (ext_ok ho1 ⟨_, ho1⟩ get_stay)
      rw [upd_upd] at q
      exact q
    unfold ksk_tree
    refine wpAny_bind (listItems_at hoL rfl ?_)
    refine wpAny_bind (listUpdate_at hoL rfl ?_ (by rw [List.size_toArray, sizeLine_eq]; omega) (Nat.zero_le _))
    refine wpAny_bind (seqEpoch_at ho1 rfl ?_)
    refine wpAny_bind (wpAny_newTuple ?_ (by show vs.length ≤ _; rw [sizeLine_eq]; omega))
    refine wpAny_bind (wpAny_newList ?_ (Nat.zero_le _))
    refine wpAny_holding ?_
    have I3 := I2.kept (h' := (h1.update a (Obj.mapSeq fun _ => (#[] : Array Value))).push (seqObj "tuple" vs.toArray 0)) (t' := s.toks) fun b u e => Heap.get?_push_of_some _ e
    have I4 := I3.lnew (its := []) (ys := []) (t' := s.toks) .nil (Nat.zero_le _)
    have hsm : Same H (upd H a (.ext fun h => h.get? a = some (seqObj "list" #[] e1))) := fun b o e => by rw [upd_ne (ne_of_none e fr)]; exact e
    refine sk_rest (H := H) (k := k) I4 I3.fresh hsm upd_same rv hz turn fun ms s' H' h1' h2' J sm hD => ⟨_, rfl, ?_⟩
    refine wpAny_pure ⟨_, rfl, done a s' H' ms J (fun b o e => ?_) fr hD h1' h2'⟩
    exact sm b o (hsm b o e) (ne_of_none e fr)
end
end Hh
set_option Elab.async false
set_option linter.all false
set_option maxRecDepth 100000
set_option maxHeartbeats 2000000
namespace Hh
open PySem PySem.Spec PyProof.Rows L2

theorem Tab.same {P : Addr} {pos : Pos} {qual : Str} {H H' : Hp} (t : Tab P pos qual H) (h : Same H H') : Tab P pos qual H' := by
  rcases t with t | ⟨c, t1, t2⟩
  · exact .inl (h _ _ t)
  · exact .inr ⟨c, h _ _ t1, h _ _ t2⟩

/-- sorted(e, key = lambda x: body), y a name of the def's own in slot iy -/
def tSortLam (K : PySem.W.Frag) (P : Addr) (lpos : Pos) (qual : Str) (iy : Nat) (te tb : TE) : TE := fun σ H Q =>
  te σ H fun x H1 => ∃ (l : Addr) (ns : List Int) (vy : V) (k : Int → Int), x = .ref l ∧ SqL K H1 l (ns.map V.int) ∧ ns.length ≤ 1000 ∧ σ[iy]? = some (some vy) ∧ Tab P lpos qual H1 ∧
    (∀ n ∈ ns, ∀ H2, Sm H1 H2 → tb [some (.int n), some vy] H2 fun v H3 => ∃ a, v = .ref a ∧ Same H2 H3 ∧ H3 a = some (.tup [.int (k n), .int n])) ∧
    ∀ (D : Addr) (H' : Hp) (ms : List Int), Sm H1 H' → Tab P lpos qual H' → H1 D = none → H' D = some (.lst (ms.map V.int)) → ms.Perm ns → ms.Pairwise (kle2 k) → Q (.ref D) H'

theorem pe_sortLam {X : Cx} {e body : Expr} {te tb : TE} {params : Arguments} {scope : Scope} {p pos lpos kpos : Pos} {c0 P : Addr} {x y qual : Str} {iy : Nat} (S : LamScope x y scope) (hr : Room 3 X.A) (hc : X.env.code = .ref c0) (C : CodeK X.K c0 P) (B : BMain X.mg X.base)
    (hdef : defaultsOf params X.env = ([], [])) (hq : X.env.qual ++ "<lambda>" = qual) (hcl : ∀ c, X.env.cells.lookup y = some c → closureFor scope X.env = pure [(y, c)])
    (hbind : ∀ (c : Addr) (pm : Value) (c' : Addr) (ctv ux : Value), bindArgs (PySem.W.kla_fn "<lambda>" qual params body scope [(y, c)] pm (.ref c') ctv) ⟨[ux], []⟩ = pure [(x, ux)])
    (hN : X.N[iy]? = some y) (hk : X.env.kindOf y = some .cell) (he : PE X e te)
    (hb : ∀ (f c' c : Addr) (A : Around) (outer : List Env) (s : Shared) (H : Hp), PE (cxLam X.prog X.w X.K X.mg X.base [x, y] qual scope f (.ref c') [(y, c)] A outer s H) body tb)
    (hg : Gl X "sorted") (hm : X.mg "sorted" = none)
    (hs : starEach [e] X.env = (false, eval e X.env) :: starEach [] X.env := by rfl) :
    PE X (.Call (.Name "sorted" p) [e] [⟨some "key", .Lambda params body scope lpos, kpos⟩] pos) (tSortLam X.K P lpos qual iy te tb) := by
  intro pins s σ H Q I h
  refine wpAny_Call_Name_kw (ld_blt I hg hm boot_sorted ?_ (by decide) (by decide))
  refine callWith_kw (env := X.env) (kws := [⟨some "key", .Lambda params body scope lpos, kpos⟩]) ?_ (by rw [hs]; rfl) (by rw [hs]; rfl)
  refine thn (pa_cons he pa_nil hs pos pins s σ H (fun vs H1 => ∃ (l : Addr) (ns : List Int) (vy : V) (k : Int → Int), vs = [.ref l] ∧ SqL X.K H1 l (ns.map V.int) ∧ ns.length ≤ 1000 ∧ σ[iy]? = some (some vy) ∧ Tab P lpos qual H1 ∧
    (∀ n ∈ ns, ∀ H2, Sm H1 H2 → tb [some (.int n), some vy] H2 fun v H3 => ∃ a, v = .ref a ∧ Same H2 H3 ∧ H3 a = some (.tup [.int (k n), .int n])) ∧
    ∀ (D : Addr) (H' : Hp) (ms : List Int), Sm H1 H' → Tab P lpos qual H' → H1 D = none → H' D = some (.lst (ms.map V.int)) → ms.Perm ns → ms.Pairwise (kle2 k) → Q (.ref D) H') I ?_) fun us s1 h1 => ?_
  · have h0 : te σ H fun x H1 => ∃ (l : Addr) (ns : List Int) (vy : V) (k : Int → Int), x = .ref l ∧ SqL X.K H1 l (ns.map V.int) ∧ ns.length ≤ 1000 ∧ σ[iy]? = some (some vy) ∧ Tab P lpos qual H1 ∧
      (∀ n ∈ ns, ∀ H2, Sm H1 H2 → tb [some (.int n), some vy] H2 fun v H3 => ∃ a, v = .ref a ∧ Same H2 H3 ∧ H3 a = some (.tup [.int (k n), .int n])) ∧
      ∀ (D : Addr) (H' : Hp) (ms : List Int), Sm H1 H' → Tab P lpos qual H' → H1 D = none → H' D = some (.lst (ms.map V.int)) → ms.Perm ns → ms.Pairwise (kle2 k) → Q (.ref D) H' := h
    have e : (fun (x : V) (H1 : Hp) => ∃ (l : Addr) (ns : List Int) (vy : V) (k : Int → Int), x = .ref l ∧ SqL X.K H1 l (ns.map V.int) ∧ ns.length ≤ 1000 ∧ σ[iy]? = some (some vy) ∧ Tab P lpos qual H1 ∧
      (∀ n ∈ ns, ∀ H2, Sm H1 H2 → tb [some (.int n), some vy] H2 fun v H3 => ∃ a, v = .ref a ∧ Same H2 H3 ∧ H3 a = some (.tup [.int (k n), .int n])) ∧
      ∀ (D : Addr) (H' : Hp) (ms : List Int), Sm H1 H' → Tab P lpos qual H' → H1 D = none → H' D = some (.lst (ms.map V.int)) → ms.Perm ns → ms.Pairwise (kle2 k) → Q (.ref D) H') =
      fun (x : V) (H1 : Hp) => tNil σ H1 fun xs H2 => ∃ (l : Addr) (ns : List Int) (vy : V) (k : Int → Int), x :: xs = [.ref l] ∧ SqL X.K H2 l (ns.map V.int) ∧ ns.length ≤ 1000 ∧ σ[iy]? = some (some vy) ∧ Tab P lpos qual H2 ∧
      (∀ n ∈ ns, ∀ H2', Sm H2 H2' → tb [some (.int n), some vy] H2' fun v H3 => ∃ a, v = .ref a ∧ Same H2' H3 ∧ H3 a = some (.tup [.int (k n), .int n])) ∧
      ∀ (D : Addr) (H' : Hp) (ms : List Int), Sm H2 H' → Tab P lpos qual H' → H2 D = none → H' D = some (.lst (ms.map V.int)) → ms.Perm ns → ms.Pairwise (kle2 k) → Q (.ref D) H' := by
      funext x H1
      simp only [tNil, List.cons.injEq, and_true]
    show te σ H _
    rw [← e]
    exact h0
  · obtain ⟨vs, H1, I1, rv, l, ns, vy, k, rfl, hl, hz, hy, hT, hkey, hdone⟩ := h1
    obtain ⟨u, rfl, ru⟩ := vals1 rv
    cases ru
    obtain ⟨c, hcy⟩ := I1.ok.has y (.inl hk)
    show wpAny _ _ (evalAll [do let v ← eval (.Lambda params body scope lpos) X.env; standAt pos; pure v]) _ _ s1
    refine wpAny_evalAll_cons (wpAny_bind (lam_ok I1 hT hc C B (hcl c hcy) hdef hq fun f c' pm ctv s2 H2 I2 hT2 sm hf hfo hco => wpAny_bind (wpAny_standAt (wpAny_pure (wpAny_evalAll_nil ?_)))))
    show wpAny _ _ (call (.builtin "sorted") [.ref l] [(Str.ofString "key", .ref f)]) _ _ s2
    refine sorted_key (k := k) I2 (sm.seq hl) hz (fun n hn t s' H' I' hsm => ?_) fun D s' H' ms I' hsm hD hD' hp hw => ⟨.ref D, H', I', rfl, hdone D H' ms (sm.trans (.of hsm)) (hT2.same hsm) ?_ hD' hp hw⟩
    · obtain ⟨m, hns, hloc⟩ := I'.loc
      obtain ⟨uy, ry, lk⟩ := hloc iy y vy hN hy (.inr (.inl hk))
      rcases lk with ⟨z, _⟩ | ⟨_, cc, hcc, hcell⟩
      · rw [hk] at z; cases z
      · rw [hcy] at hcc
        cases hcc
        have r2 : Room 1 X.A.in1.in1 := hr.in1.in1
        refine wpAny_mono (lam_run (E := fun _ _ => False) (Q := fun v H3 => ∃ a, v = .ref a ∧ Same H' H3 ∧ H3 a = some (.tup [.int (k n), .int n])) S r2.depth r2.hd I'.env0.in1.in1 (I'.hok f _ (hsm _ _ hfo)).1 (I'.hok c' _ (hsm _ _ hco)).1 (hbind c pm c' ctv (.int n t)) hcell (I'.freeC y c hcy) (vx := .int n) ⟨t, rfl⟩ ry
          (hb f c' c X.A.in1.in1 X.stack s' H') (hkey n hn H' (sm.trans (.of hsm)))) (fun u s'' hce => ?_) fun _ _ z => z
        obtain ⟨v, H'', J, rv', a, rfl, sm', ha⟩ := I'.after hce
        cases rv'
        exact ⟨a, H'', J, sm', rfl, ha⟩
    · exact sm.free hD
end Hh
set_option Elab.async false
set_option linter.all false
set_option maxRecDepth 100000
set_option maxHeartbeats 2000000
namespace Hh
open PySem PySem.Spec PyProof.Rows L2
open PySem.W (WData Codec OpenSpec Well WellAll ReadsW ReadsAllW)

theorem Same.sqT {K : PySem.W.Frag} {H H' : Hp} {a : Addr} {xs : List V} (e : Same H H') (h : SqT K H a xs) : SqT K H' a xs := by
  rcases h with (h | ⟨o, h⟩) | h
  · exact .inl (.inl (e _ _ h))
  · exact .inl (.inr ⟨o, e _ _ h⟩)
  · exact .inr h
mutual
theorem dw_mono {K : PySem.W.Frag} {H H' : Hp} (e : Same H H') : ∀ {v : V} {d : WData}, Dw K H v d → Dw K H' v d
  | _, _, .non => .non
  | _, _, .bl b => .bl b
  | _, _, .int i => .int i
  | _, _, .str x => .str x
  | _, _, .byt b => .byt b
  | _, _, .lst s a => .lst (e.seq s) (dwa_mono e a)
  | _, _, .tup s a => .tup (Hh.Same.sqT e s) (dwa_mono e a)
theorem dwa_mono {K : PySem.W.Frag} {H H' : Hp} (e : Same H H') : ∀ {vs : List V} {ds : List WData}, DwAll K H vs ds → DwAll K H' vs ds
  | _, _, .nil => .nil
  | _, _, .cons a b => .cons (dw_mono e a) (dwa_mono e b)
end
/-- the abstract heap at the call: the request, and the tables -/
def tabH (tabs : List Addr) (H : Hp) : Hp := fun b => if b ∈ tabs then some (.tbl #[]) else H b
theorem tabH_in {tabs : List Addr} {H : Hp} {b : Addr} (h : b ∈ tabs) : tabH tabs H b = some (.tbl #[]) := by unfold tabH; rw [if_pos h]
theorem tabH_out {tabs : List Addr} {H : Hp} {b : Addr} (h : b ∉ tabs) : tabH tabs H b = H b := by unfold tabH; rw [if_neg h]

theorem spec_callT {P : Program} {w : World} {K : PySem.W.Frag} {mg mb : Str → Option Value} {CX : CXT} {k : Nat} {fa : Addr} {fd : FuncData} {ps : List Str} {sp : Sp} {s₁ : Shared} {vals : List Value} {ds : List WData} {R : PySem.W.WRecords} {cl : Str → Option Addr} {d0 : WData} {tabs : List Addr}
    (KX : K.In s₁.heap) (hns : s₁.heap.Ns mainGlobals mg) (hb : s₁.heap.Ns builtinsNs mb) (hbb : ∀ x : Str, x ≠ "__name__" → mb x = bootBuiltins x) (hlim : s₁.heap.NoLimit) (hg : s₁.gens = #[])
    (hbm : BMain mg s₁.heap) (htab : ∀ t ∈ tabs, ∃ c, s₁.heap.TableAt c t #[]) (hnt : PySem.W.noTabs K = true)
    (hwl : WellAll w.params s₁.heap vals ds) (hpl : plWs ds = true) (hwt : ∀ d ∈ ds, d.weight ≤ 1048576) (hr : Room k callerA)
    (F : ∀ base : Heap, K.In base → base.Ns mainGlobals mg → BMain mg base → FnOk P w K mg base CX k fa fd ps sp) (hbind : ∀ (s : Shared) (us : List Value), us.length = ps.length → BindsTo s fd ⟨us, []⟩ (ps.zip us)) (hlen : ds.length = ps.length)
    (hsp : ∀ (H : Hp) (xs : List V), (∀ t ∈ tabs, H t = some (.tbl #[])) → DwAll K H xs ds → sp xs H (fun v H' => Dw K H' v d0) fun _ _ _ => False)
    (hCX : ∀ H e s', CX [] H s₁ (fun _ _ _ => False) e s' → False) :
    codeAny (model P w) callerA (.call (.ref fa) ⟨vals, []⟩) (fun r s' => ∃ u as, r = .ok (.ret u) ∧ ReadsW R cl s'.heap u d0 as ∧ OldK s₁.heap s'.heap ∧ s'.os = s₁.os ∧ AllBare s'.gens) s₁ := by
  obtain ⟨A, ho, ar⟩ := area_all ds vals hwl hpl hwt
  have hO0 : OnlyF (argH K s₁.heap A) := argH_only ar
  have hok0 : HOk P w (argH K s₁.heap A) s₁.heap := argH_ok ar
  have hS0 := dw_all KX ar ds vals hwl hpl ho
  have hV := vals_toV ho
  have hK0 : ∀ b u, argH K s₁.heap A b = some u → K.lookup b = none := fun b u q => (argH_is ar q).1
  have seq0 : ∀ {b : Addr} {u : HO}, argH K s₁.heap A b = some u → ∃ o vs n, s₁.heap.get? b = some o ∧ o.data = .seq vs n := fun {b u} q => by
    obtain ⟨_, vs, _, _, ⟨e2, _⟩ | ⟨e2, _⟩⟩ := argH_is ar q
    · exact ⟨_, _, _, e2, rfl⟩
    · exact ⟨_, _, _, e2, rfl⟩
  generalize argH K s₁.heap A = H0 at hO0 hok0 hS0 hK0 seq0
  have tat : ∀ t ∈ tabs, s₁.heap.get? t = some { cls := .none, data := .fields #[] } := fun t ht => by
    obtain ⟨c, h⟩ := htab t ht
    exact h.2
  have same0 : Same H0 (tabH tabs H0) := fun b o e => by
    refine (tabH_out fun hb => ?_).trans e
    obtain ⟨o', vs, n, e1, e2⟩ := seq0 e
    rw [tat b hb] at e1
    cases e1
    cases e2
  have hO : ∀ b, tabH tabs H0 b = none ∨ (∃ o u, tabH tabs H0 b = some (.frz o u)) ∨ b ∈ tabs := fun b => by
    by_cases hb : b ∈ tabs
    · exact .inr (.inr hb)
    · rw [tabH_out hb]
      rcases hO0 b with z | ⟨o, u, z⟩
      · exact .inl z
      · exact .inr (.inl ⟨o, u, z⟩)
  have hok : HOk P w (tabH tabs H0) s₁.heap := fun b u q => by
    by_cases hb : b ∈ tabs
    · rw [tabH_in hb] at q
      cases q
      exact tat b hb
    · rw [tabH_out hb] at q
      exact (hok0 b u q).stay (fun c v _ q => q) (fun c q => same0 c _ q) fun c xs q => same0 c _ q
  have hS := dwa_mono same0 hS0
  have tabsIn : ∀ t ∈ tabs, tabH tabs H0 t = some (.tbl #[]) := fun t ht => tabH_in ht
  have noA : ∀ {b : Addr} {o : Obj}, s₁.heap.get? b = some o → (∀ vs n, o.data ≠ .seq vs n) → (∀ vs, o.data ≠ .fields vs) → tabH tabs H0 b = none := fun {b o} e d1 d2 => by
    by_cases hb : b ∈ tabs
    · rw [tat b hb] at e
      cases e
      exact absurd rfl (d2 _)
    · rw [tabH_out hb]
      cases q : H0 b with
      | none => rfl
      | some u =>
        obtain ⟨o', vs, n, e1, e2⟩ := seq0 q
        rw [e] at e1
        cases e1
        exact absurd e2 (d1 _ _)
  have nK : ∀ b o, K.lookup b = some o → tabH tabs H0 b = none := fun b o e => by
    by_cases hb : b ∈ tabs
    · have e1 := KX b o e
      rw [tat b hb] at e1
      cases e1
      have h2 := List.all_eq_true.mp hnt _ (PySem.W.mem_of_lookupK e)
      exact absurd (show false = true from h2) Bool.false_ne_true
    · rw [tabH_out hb]
      cases q : H0 b with
      | none => rfl
      | some u =>
        rw [hK0 b u q] at e
        cases e
  generalize hH : tabH tabs H0 = H at hO hok hS noA nK tabsIn
  have base_of : ∀ {b : Addr} {o : Obj}, s₁.heap.get? b = some o → H b = none → (hidT s₁.heap H).get? b = some o := fun e n => hidT_get e n
  have nsK : ∀ {b : Addr} {m : Str → Option Value}, s₁.heap.Ns b m → (hidT s₁.heap H).Ns b m := fun {b m} ⟨o, es, ep, e, d, r⟩ => ⟨o, es, ep, base_of e (noA e (by intro _ _ z; rw [d] at z; cases z) (by intro _ z; rw [d] at z; cases z)), d, r⟩
  have hKb : K.In (hidT s₁.heap H) := fun b o e => base_of (KX b o e) (nK b o e)
  have hM : Mod K mg (hidT s₁.heap H) := ⟨hKb, nsK hns, ⟨mb, nsK hb, hbb⟩, let ⟨mc, h1, h2⟩ := hlim; ⟨mc, nsK h1, h2⟩⟩
  have hBb : BMain mg (hidT s₁.heap H) := by
    obtain ⟨bm, ob, b1, b2, b3, b4, b5, b6⟩ := hbm
    exact ⟨bm, ob, b1, b2, base_of b3 (noA b3 (by intro _ _ z; rw [b6] at z; cases z) (by intro _ z; rw [b6] at z; cases z)), b4, b5, b6⟩
  have e0 : Env0 P w K mg (hidT s₁.heap H) callerA [] s₁ H := ⟨rfl, hM, fun b o e => of_hidT e, Nat.le_of_eq (hidT_size _ _), trivial, fun b hb => absurd (show b ∈ ([] : List Addr) from hb) (by simp), hok, .of_eq hg⟩
  have hl : vals.length = ps.length := by rw [wellAll_len hwl]; exact hlen
  refine codeAny_mono ((F _ hKb (nsK hns) hBb).run callerA [] s₁ H ⟨vals, []⟩ vals (vals.map toV) _ _ hr e0 (hbind s₁ vals hl) hV (hsp H _ tabsIn hS)) fun r s' x => ?_
  cases r with
  | error e => exact (hCX H e s' x).elim
  | ok fl =>
    cases fl with
    | next => exact False.elim x
    | brk => exact False.elim x
    | cont => exact False.elim x
    | ret u =>
      obtain ⟨v, H', os, bare, un, hok', r', q⟩ := x
      have kept : ∀ b o, b ∉ tabs → s₁.heap.get? b = some o → s'.heap.get? b = some o := fun b o hb e => by
        cases q2 : H b with
        | none => exact un.keep b o e q2 (by intro z; exact absurd (show b ∈ ([] : List Addr) from z) (by simp)) (by simp)
        | some u2 =>
          rcases hO b with z | ⟨ob, u3, z⟩ | z
          · rw [q2] at z
            cases z
          · have z2 := un.frzs b ob _ z
            obtain ⟨e1, _⟩ := hok b _ z
            obtain ⟨e2, _⟩ := hok' b _ z2
            rw [e] at e1
            cases e1
            exact e2
          · exact absurd z hb
      have grown : ∀ t ∈ tabs, ∃ more, s'.heap.get? t = some { cls := .none, data := .fields more } := fun t ht => by
        obtain ⟨more, z⟩ := un.tbls t #[] (tabsIn t ht)
        exact ⟨_, hok' t _ z⟩
      have KX' : K.In s'.heap := fun b o e => kept b o (fun hb => by
        have z := nK b o e
        rw [tabsIn b hb] at z
        cases z) (KX b o e)
      obtain ⟨as, hrd⟩ := Dw.reads (R := R) (cl := cl) hok' KX' d0 v u q r'
      refine ⟨u, as, rfl, hrd, ⟨fun b o e => ?_, fun b o e => ?_⟩, os, bare⟩
      · by_cases hb : b ∈ tabs
        · obtain ⟨c, hc⟩ := htab b hb
          obtain ⟨more, hm⟩ := grown b hb
          rw [tat b hb] at e
          cases e
          exact .inr (.inl ⟨hc.isCodeTable, rfl, #[], more, rfl, by rw [hm, Array.empty_append]⟩)
        · exact .inl (kept b o hb e)
      · by_cases hb : b ∈ tabs
        · obtain ⟨more, hm⟩ := grown b hb
          exact ⟨_, hm⟩
        · exact ⟨o, kept b o hb e⟩

/-- the goal that the row's head leaves, from the promise of the row's def; tabs: the tables that may grow -/
theorem walk_specT {r : OpenSpec} {k : Nat} {q : Program} {loose : List Str} {XP : (Str → Option Value) → Heap → Prop} {YP : World → Heap → Prop} {d : DefRec} {K : Params → PySem.W.Frag} {CX : CXT} {ps : List Str} {tabs : PySem.W.Frag → List Addr} {sp : PySem.W.Frag → Sp}
    (hwell : r.wellSaid = true) (hdf : d.params.defaults = []) (hlen : r.args.length = ps.length) (hr : Room k callerA)
    (hY : ∀ (w : World) (h : Heap), YP w h → (K w.params).In h)
    (hnt : ∀ w : World, PySem.W.noTabs (K w.params) = true)
    (htab : ∀ (w : World) (h : Heap) (loose : List Str) (mean : ExcName → Option Value) (mg mb : Str → Option Value), (K w.params).In h → Top q loose mean mg mb h → ∀ t ∈ tabs (K w.params), ∃ c, h.TableAt c t #[])
    (F : ∀ (w : World) (mg : Str → Option Value) (fa : Addr) (h : Heap) (loose : List Str) (mean : ExcName → Option Value) (mb : Str → Option Value), YP w h → (K w.params).In h → Top q loose mean mg mb h → mg d.name = some (.ref fa) →
      ∃ fd : FuncData, (∀ (s : Shared) (us : List Value), us.length = ps.length → BindsTo s fd ⟨us, []⟩ (ps.zip us)) ∧
        ∀ base : Heap, (K w.params).In base → base.Ns mainGlobals mg → BMain mg base → FnOk r.prog w (K w.params) mg base CX k fa fd ps (sp (K w.params)))
    (hsp : ∀ (K : PySem.W.Frag) (H : Hp) (xs : List V) (a : Codec.denoteAll r.args), (∀ t ∈ tabs K, H t = some (.tbl #[])) → Codec.withinAll r.args a = true → Codec.app r.args r.asked a = true → DwAll K H xs (Codec.encAll r.args a) →
      sp K xs H (fun v H' => Dw K H' v (r.ret.enc (Codec.app r.args r.f a))) fun _ _ _ => False)
    (hCX : ∀ (H : Hp) (s : Shared) (e : Value) (s' : Shared), CX [] H s (fun _ _ _ => False) e s' → False) :
    PySem.W.WalkOS q loose XP YP r d [] (fun f vs => PySem.call f vs) := by
  intro w s_0 s₁ mg mb G Y fa o pm cd doc dV kV ho hd hcd hD hmg hg args vals as hpre hlay hrd hwl hlo
  obtain ⟨a, e1, e2⟩ := PySem.W.os_pre_some hpre
  obtain ⟨e3, hwi⟩ := Codec.encAll_of_decAll r.args args a e1
  subst e3
  have KX := hY w _ Y
  obtain ⟨fd, hb, hF⟩ := F w mg fa _ _ _ _ Y KX G.T hmg
  refine PySem.W.enter_call (codeAny_mono (spec_callT (R := []) (cl := classAt s_0.heap) (d0 := r.ret.enc (Codec.app r.args r.f a)) (tabs := tabs (K w.params)) KX G.T.g G.T.b G.T.builtins G.T.nolimit hg G.T.bmain (htab w _ _ _ _ _ KX G.T) (hnt w) hwl (pl_encAll _ _) (layable_weight hlay) hr hF hb (by rw [encAll_len]; exact hlen)
    (fun H xs hO hS => hsp (K w.params) H xs a hO hwi e2 hS) fun H e s' => hCX H s₁ e s') fun r' s' hq => ?_)
  obtain ⟨u, as', rfl, h1, h2, h3, h4⟩ := hq
  exact ⟨.inl ⟨u, _, as', rfl, fun _ => rfl, h1, (OpenSpec.post_iff hwell hwi _ _).mpr rfl, fun z => Bool.noConfusion (show false = true from z)⟩, h2, h3, h4⟩
end Hh
set_option Elab.async false
set_option linter.all false
namespace Hh
open Km449

abbrev lf (s : Sea) (p : Nat) : Nat := (s.person p).left
abbrev tk (s : Sea) (p : Nat) : Nat := (s.person p).takes

def Before (s : Sea) (a b : Nat) : Prop := lf s a < lf s b ∨ (lf s a = lf s b ∧ a ≤ b)
theorem Before.antisymm {s : Sea} {a b : Nat} (h : Before s a b) (h' : Before s b a) : a = b := by unfold Before at h h'; omega
theorem Before.trans {s : Sea} {a b c : Nat} (h : Before s a b) (h' : Before s b c) : Before s a c := by unfold Before at *; omega

theorem into_perm (s : Sea) (p : Nat) : ∀ l : List Nat, (s.into p l).Perm (p :: l)
  | [] => .refl _
  | q :: l => by
    unfold Sea.into
    split
    · exact .refl _
    · exact ((into_perm s p l).cons q).trans (.swap _ _ _)
theorem into_sorted (s : Sea) (p : Nat) : ∀ l : List Nat, l.Pairwise (Before s) → (∀ q ∈ l, q ≤ p) → (s.into p l).Pairwise (Before s)
  | [], _, _ => by simp [Sea.into]
  | q :: l, h, hl => by
    obtain ⟨h1, h2⟩ := List.pairwise_cons.mp h
    unfold Sea.into
    split
    · rename_i hlt
      refine List.pairwise_cons.mpr ⟨fun r hr => ?_, h⟩
      rcases List.mem_cons.mp hr with rfl | hr
      · exact .inl hlt
      · exact Before.trans (.inl hlt) (h1 r hr)
    · rename_i hlt
      refine List.pairwise_cons.mpr ⟨fun r hr => ?_, into_sorted s p l h2 fun q' hq => hl q' (List.mem_cons_of_mem _ hq)⟩
      rcases List.mem_cons.mp ((into_perm s p l).mem_iff.mp hr) with rfl | hr
      · have := hl q (List.mem_cons_self ..)
        unfold Before lf
        omega
      · exact h1 r hr
theorem fold_into (s : Sea) : ∀ (l acc : List Nat), l.Pairwise (· < ·) → acc.Pairwise (Before s) → (∀ a ∈ acc, ∀ b ∈ l, a < b) →
    (l.foldl (fun r p => s.into p r) acc).Perm (acc ++ l) ∧ (l.foldl (fun r p => s.into p r) acc).Pairwise (Before s)
  | [], acc, _, h, _ => by simpa using h
  | p :: l, acc, hl, h, hlt => by
    obtain ⟨h1, h2⟩ := List.pairwise_cons.mp hl
    have hs := into_sorted s p acc h fun q hq => Nat.le_of_lt (hlt q hq p (List.mem_cons_self ..))
    have ih := fold_into s l (s.into p acc) h2 hs fun a ha b hb => by
      rcases List.mem_cons.mp ((into_perm s p acc).mem_iff.mp ha) with rfl | ha
      · exact h1 b hb
      · exact hlt a ha b (List.mem_cons_of_mem _ hb)
    refine ⟨ih.1.trans ?_, ih.2⟩
    refine ((into_perm s p acc).append_right l).trans ?_
    exact (List.perm_middle (l₁ := acc) (l₂ := l) (a := p)).symm
theorem byTime_perm (s : Sea) {l : List Nat} (h : l.Pairwise (· < ·)) : (s.byTime l).Perm l := by
  have := (fold_into s l [] h .nil (by simp)).1
  simpa [Sea.byTime] using this
theorem byTime_sorted (s : Sea) {l : List Nat} (h : l.Pairwise (· < ·)) : (s.byTime l).Pairwise (Before s) := (fold_into s l [] h .nil (by simp)).2
/-- two sorted lists of the same members are one -/
theorem sorted_unique {α : Type} {R : α → α → Prop} (anti : ∀ a b, R a b → R b a → a = b) : ∀ {l m : List α}, l.Perm m → l.Pairwise R → m.Pairwise R → l = m := fun {l m} hp h1 h2 =>
  hp.eq_of_pairwise (fun a b _ _ => anti a b) h1 h2
theorem byTime_unique {s : Sea} {l m : List Nat} (h : l.Pairwise (· < ·)) (hp : m.Perm l) (hs : m.Pairwise (Before s)) : m = s.byTime l :=
  sorted_unique (fun _ _ => Before.antisymm) (hp.trans (byTime_perm s h).symm) hs (byTime_sorted s h)
theorem byTime_filter (s : Sea) {l : List Nat} (h : l.Pairwise (· < ·)) (f : Nat → Bool) : s.byTime (l.filter f) = (s.byTime l).filter f :=
  (byTime_unique (h.sublist List.filter_sublist) ((byTime_perm s h).filter f) ((byTime_sorted s h).sublist List.filter_sublist)).symm

theorem range_sorted (n : Nat) : (List.range n).Pairwise (· < ·) := List.pairwise_lt_range
theorem waits_sorted (s : Sea) : s.waits.Pairwise (· < ·) := (range_sorted _).sublist List.filter_sublist
theorem nodup_of_lt {l : List Nat} (h : l.Pairwise (· < ·)) : l.Nodup := h.imp fun h => Nat.ne_of_lt h

theorem bits_fold : ∀ (l : List Nat) (w : Nat), l.foldl (fun w k => w + 2 ^ k) w = w + bits l
  | [], w => by simp [bits]
  | k :: l, w => by
    show l.foldl _ (w + 2 ^ k) = w + (k :: l).foldl _ 0
    rw [bits_fold l]
    show _ = w + l.foldl _ (0 + 2 ^ k)
    rw [bits_fold l (0 + 2 ^ k)]
    omega
theorem bits_cons (k : Nat) (l : List Nat) : bits (k :: l) = 2 ^ k + bits l := by
  show l.foldl _ (0 + 2 ^ k) = _
  rw [bits_fold]
  omega
theorem testBit_add_pow {w k j : Nat} (h : w.testBit k = false) : (2 ^ k + w).testBit j = (decide (k = j) || w.testBit j) := by
  rcases Nat.lt_trichotomy j k with hj | hj | hj
  · rw [Nat.testBit_two_pow_add_gt hj, decide_eq_false (by omega), Bool.false_or]
  · subst hj
    rw [Nat.testBit_two_pow_add_eq, h]
    simp
  · have hr : w % 2 ^ (k + 1) < 2 ^ k := by
      apply Nat.lt_of_not_le
      intro hle
      have q := Nat.testBit_mod_two_pow w (k + 1) k
      rw [h, Bool.and_false] at q
      have hlt : w % 2 ^ (k + 1) < 2 ^ (k + 1) := Nat.mod_lt _ (Nat.two_pow_pos _)
      obtain ⟨d, hd⟩ := Nat.le.dest hle
      have hd' : d < 2 ^ k := by rw [Nat.pow_succ] at hlt; omega
      rw [← hd, Nat.testBit_two_pow_add_eq, Nat.testBit_lt_two_pow hd'] at q
      simp at q
    have e := Nat.div_add_mod w (2 ^ (k + 1))
    have e2 : 2 ^ k + w = 2 ^ (k + 1) * (w / 2 ^ (k + 1)) + (2 ^ k + w % 2 ^ (k + 1)) := by omega
    have hlt2 : 2 ^ k + w % 2 ^ (k + 1) < 2 ^ (k + 1) := by rw [Nat.pow_succ] at *; omega
    rw [e2, Nat.testBit_two_pow_mul_add _ hlt2, if_neg (by omega), Nat.testBit_div_two_pow, decide_eq_false (by omega), Bool.false_or]
    congr 1
    omega
theorem bits_test : ∀ {l : List Nat}, l.Nodup → ∀ j, (bits l).testBit j = decide (j ∈ l)
  | [], _, j => by simp [bits]
  | k :: l, h, j => by
    obtain ⟨h1, h2⟩ := List.nodup_cons.mp h
    have ih := bits_test h2
    rw [bits_cons, testBit_add_pow (by rw [ih]; simp [h1]), ih]
    by_cases e : k = j
    · subst e; simp
    · have : ¬ j = k := fun z => e z.symm
      simp [e, this]
def LexB (a b : Nat) : Prop := ∃ k, (∀ j, j < k → a.testBit j = b.testBit j) ∧ a.testBit k = false ∧ b.testBit k = true
theorem LexB.irrefl (a : Nat) : ¬ LexB a a := by
  rintro ⟨k, _, h1, h2⟩
  rw [h1] at h2
  cases h2
theorem LexB.trans {a b c : Nat} (h : LexB a b) (h' : LexB b c) : LexB a c := by
  obtain ⟨k, e, h1, h2⟩ := h
  obtain ⟨m, e', h1', h2'⟩ := h'
  rcases Nat.lt_trichotomy k m with hk | hk | hk
  · exact ⟨k, fun j hj => (e j hj).trans (e' j (Nat.lt_trans hj hk)), h1, by rw [← e' k hk]; exact h2⟩
  · subst hk
    rw [h2] at h1'
    cases h1'
  · exact ⟨m, fun j hj => (e j (Nat.lt_trans hj hk)).trans (e' j hj), by rw [e m hk]; exact h1', h2'⟩

theorem mem_parts : ∀ {l r : List Nat}, r ∈ parts l ↔ r.Sublist l
  | [], r => by simp [parts]
  | p :: l, r => by
    unfold parts
    rw [List.mem_append, List.mem_map, mem_parts]
    constructor
    · rintro (h | ⟨x, hx, rfl⟩)
      · exact h.cons _
      · exact (mem_parts.mp hx).cons_cons _
    · intro h
      cases h with
      | cons _ h => exact .inl h
      | cons_cons _ h => exact .inr ⟨_, mem_parts.mpr h, rfl⟩
theorem parts_sorted : ∀ {l : List Nat}, l.Pairwise (· < ·) → (parts l).Pairwise fun a b => LexB (bits a) (bits b)
  | [], _ => by simp [parts]
  | p :: l, h => by
    obtain ⟨h1, h2⟩ := List.pairwise_cons.mp h
    have ih := parts_sorted h2
    have nd : ∀ {r : List Nat}, r ∈ parts l → r.Nodup := fun hr => (nodup_of_lt h2).sublist (mem_parts.mp hr)
    have gt : ∀ {r : List Nat}, r ∈ parts l → ∀ q ∈ r, p < q := fun hr q hq => h1 q ((mem_parts.mp hr).subset hq)
    have ndp : ∀ {r : List Nat}, r ∈ parts l → (p :: r).Nodup := fun hr => List.nodup_cons.mpr ⟨fun hp => Nat.lt_irrefl _ (gt hr p hp), nd hr⟩
    unfold parts
    refine List.pairwise_append.mpr ⟨ih, ?_, ?_⟩
    · rw [List.pairwise_map]
      refine ih.imp_of_mem fun {a b} ha hb hab => ?_
      obtain ⟨k, e, h1', h2'⟩ := hab
      rw [bits_test (nd hb)] at h2'
      have hk : k ∈ b := of_decide_eq_true h2'
      have hpk : p < k := gt hb k hk
      refine ⟨k, fun j hj => ?_, ?_, ?_⟩
      · have q := e j hj
        rw [bits_test (nd ha), bits_test (nd hb)] at q
        rw [bits_test (ndp ha), bits_test (ndp hb)]
        have q' : (j ∈ a) ↔ (j ∈ b) := by simpa using q
        simp [q']
      · rw [bits_test (nd ha)] at h1'
        rw [bits_test (ndp ha)]
        have q := of_decide_eq_false h1'
        apply decide_eq_false
        intro z
        rcases List.mem_cons.mp z with z | z
        · omega
        · exact q z
      · rw [bits_test (ndp hb)]
        exact decide_eq_true (List.mem_cons_of_mem _ hk)
    · intro a ha b hb
      obtain ⟨r, hr, rfl⟩ := List.mem_map.mp hb
      refine ⟨p, fun j hj => ?_, ?_, ?_⟩
      · rw [bits_test (nd ha), bits_test (ndp hr)]
        have n1 : ¬ j ∈ a := fun z => by have := gt ha j z; omega
        have n2 : ¬ j ∈ p :: r := fun z => by
          rcases List.mem_cons.mp z with z | z
          · omega
          · have := gt hr j z; omega
        simp only [n1, n2]
      · rw [bits_test (nd ha)]
        exact decide_eq_false fun z => Nat.lt_irrefl _ (gt ha p z)
      · rw [bits_test (ndp hr)]
        exact decide_eq_true (List.mem_cons_self ..)

/-- how the first of the longest comes out of the trying -/
def Tops (r l : List Nat) : Prop := l.length < r.length ∨ (l.length = r.length ∧ (l = r ∨ LexB (bits r) (bits l)))
theorem fold_better : ∀ (L : List (List Nat)) (acc : List Nat), L.Pairwise (fun a b => LexB (bits a) (bits b)) → (∀ l ∈ L, acc = l ∨ LexB (bits acc) (bits l)) →
    (L.foldl better acc = acc ∨ L.foldl better acc ∈ L) ∧ ∀ l, l = acc ∨ l ∈ L → Tops (L.foldl better acc) l
  | [], acc, _, _ => ⟨.inl rfl, fun l hl => by
    rcases hl with rfl | hl
    · exact .inr ⟨rfl, .inl rfl⟩
    · simp at hl⟩
  | x :: L, acc, h, ha => by
    obtain ⟨h1, h2⟩ := List.pairwise_cons.mp h
    show ((L.foldl better (better acc x) = acc ∨ L.foldl better (better acc x) ∈ x :: L)) ∧ ∀ l, l = acc ∨ l ∈ x :: L → Tops (L.foldl better (better acc x)) l
    by_cases hb : acc.length < x.length
    · have e : better acc x = x := by unfold better; rw [if_pos hb]
      rw [e]
      obtain ⟨i1, i2⟩ := fold_better L x h2 fun l hl => .inr (h1 l hl)
      refine ⟨.inr ?_, fun l hl => ?_⟩
      · rcases i1 with i1 | i1
        · rw [i1]; exact List.mem_cons_self ..
        · exact List.mem_cons_of_mem _ i1
      · rcases hl with rfl | hl
        · have t := i2 x (.inl rfl)
          unfold Tops at t ⊢
          omega
        · exact i2 l (by rcases List.mem_cons.mp hl with z | z; exact .inl z; exact .inr z)
    · have e : better acc x = acc := by unfold better; rw [if_neg hb]
      rw [e]
      obtain ⟨i1, i2⟩ := fold_better L acc h2 fun l hl => ha l (List.mem_cons_of_mem _ hl)
      refine ⟨?_, fun l hl => ?_⟩
      · rcases i1 with i1 | i1
        · exact .inl i1
        · exact .inr (List.mem_cons_of_mem _ i1)
      · rcases hl with rfl | hl
        · exact i2 l (.inl rfl)
        · rcases List.mem_cons.mp hl with rfl | hl
          · have t := i2 acc (.inl rfl)
            rcases ha l (List.mem_cons_self ..) with rfl | q
            · exact t
            · unfold Tops at t ⊢
              rcases t with t | ⟨t1, t2⟩
              · omega
              · by_cases hlen : l.length < acc.length
                · omega
                · refine .inr ⟨by omega, .inr ?_⟩
                  rcases t2 with t2 | t2
                  · rw [← t2]; exact q
                  · exact t2.trans q
          · exact i2 l (.inr hl)
theorem best_is (s : Sea) (t : Nat) : (s.best t).Sublist s.waits ∧ s.can t (s.best t) = true ∧ ∀ l : List Nat, l.Sublist s.waits → s.can t l = true → Tops (s.best t) l := by
  have hs := (parts_sorted (waits_sorted s)).sublist (List.filter_sublist (p := fun l => s.can t l))
  have can0 : s.can t [] = true := rfl
  have hp0 : ∀ {l : List Nat}, l.Pairwise (· < ·) → ∀ r ∈ parts l, [] = r ∨ LexB (bits []) (bits r) := fun {l} h r hr => by
    cases r with
    | nil => exact .inl rfl
    | cons p r =>
      have hr' := h.sublist (mem_parts.mp hr)
      have nd := nodup_of_lt hr'
      obtain ⟨h1, _⟩ := List.pairwise_cons.mp hr'
      refine .inr ⟨p, fun j hj => ?_, by simp [bits], ?_⟩
      · rw [bits_test nd]
        have : ¬ j ∈ p :: r := fun z => by
          rcases List.mem_cons.mp z with z | z
          · omega
          · have := h1 j z; omega
        simp [bits, this]
      · rw [bits_test nd]
        exact decide_eq_true (List.mem_cons_self ..)
  obtain ⟨i1, i2⟩ := fold_better ((parts s.waits).filter fun l => s.can t l) [] hs fun l hl => hp0 (waits_sorted s) l (List.mem_filter.mp hl).1
  have hb : s.best t = ((parts s.waits).filter fun l => s.can t l).foldl better [] := rfl
  rw [← hb] at i1 i2
  refine ⟨?_, ?_, fun l h1 h2 => i2 l (.inr (List.mem_filter.mpr ⟨mem_parts.mpr h1, h2⟩))⟩
  · rcases i1 with i1 | i1
    · rw [i1]; exact List.nil_sublist _
    · exact mem_parts.mp (List.mem_filter.mp i1).1
  · rcases i1 with i1 | i1
    · rw [i1]; exact can0
    · exact (List.mem_filter.mp i1).2
end Hh
set_option Elab.async false
set_option linter.all false
namespace Hh
open Km449

structure Grp where
  bits : Nat
  size : Nat
  minutes : Nat
  spare : Int
  deriving DecidableEq
def Grp.join (s : Sea) (g : Grp) (p : Nat) : Grp := ⟨g.bits ||| 1 <<< p, g.size + 1, g.minutes + tk s p, min g.spare ((lf s p : Int) - ((g.minutes + tk s p : Nat) : Int))⟩
def emptyG : Grp := ⟨0, 0, 0, 100000⟩
def grpFrom (s : Sea) (g : Grp) (l : List Nat) : Grp := l.foldl (Grp.join s) g
abbrev grp (s : Sea) (l : List Nat) : Grp := grpFrom s emptyG l
theorem grpFrom_snoc (s : Sea) (g : Grp) (l : List Nat) (p : Nat) : grpFrom s g (l ++ [p]) = (grpFrom s g l).join s p := by
  unfold grpFrom
  rw [List.foldl_append]
  rfl
theorem grp_size (s : Sea) : ∀ (l : List Nat) (g : Grp), (grpFrom s g l).size = g.size + l.length
  | [], g => rfl
  | p :: l, g => by
    show (grpFrom s (g.join s p) l).size = _
    rw [grp_size s l, List.length_cons]
    show g.size + 1 + l.length = _
    omega
theorem grp_bits (s : Sea) : ∀ (l : List Nat) (g : Grp) (j : Nat), (grpFrom s g l).bits.testBit j = (g.bits.testBit j || decide (j ∈ l))
  | [], g, j => by simp [grpFrom]
  | p :: l, g, j => by
    show (grpFrom s (g.join s p) l).bits.testBit j = _
    rw [grp_bits s l]
    show (((g.bits ||| 1 <<< p).testBit j) || _) = _
    rw [Nat.testBit_or, Nat.one_shiftLeft, Nat.testBit_two_pow]
    by_cases e : p = j
    · subst e; simp
    · have : ¬ j = p := fun z => e z.symm
      simp [e, this]
theorem inTime_cons (s : Sea) (t p : Nat) (l : List Nat) : s.inTime t (p :: l) = (decide (t + (s.person p).takes ≤ (s.person p).left) && s.inTime (t + (s.person p).takes) l) := rfl
theorem grp_spare (s : Sea) (t : Nat) : ∀ (l : List Nat) (g : Grp), ((t : Int) ≤ (grpFrom s g l).spare) ↔ ((t : Int) ≤ g.spare ∧ s.inTime (t + g.minutes) l = true)
  | [], g => by simp [grpFrom, Sea.inTime]
  | p :: l, g => by
    show ((t : Int) ≤ (grpFrom s (g.join s p) l).spare) ↔ _
    rw [grp_spare s t l]
    show ((t : Int) ≤ min g.spare ((lf s p : Int) - ((g.minutes + tk s p : Nat) : Int)) ∧ s.inTime (t + (g.minutes + tk s p)) l = true) ↔ _
    rw [inTime_cons, Bool.and_eq_true, decide_eq_true_iff]
    have e : t + (g.minutes + tk s p) = t + g.minutes + (s.person p).takes := by show _ = t + g.minutes + tk s p; omega
    rw [e]
    constructor
    · rintro ⟨h1, h2⟩
      refine ⟨by omega, ?_, h2⟩
      show t + g.minutes + tk s p ≤ lf s p
      omega
    · rintro ⟨h1, h2, h3⟩
      have h2 : t + g.minutes + tk s p ≤ lf s p := h2
      exact ⟨by omega, h3⟩
theorem grp_inTime (s : Sea) {t : Nat} (ht : t ≤ 100000) (l : List Nat) : ((t : Int) ≤ (grp s l).spare) ↔ s.inTime t l = true := by
  rw [grp_spare]
  show ((t : Int) ≤ 100000 ∧ s.inTime (t + 0) l = true) ↔ _
  constructor
  · exact fun h => h.2
  · exact fun h => ⟨by omega, h⟩
theorem grp_spare_le (s : Sea) : ∀ (l : List Nat) (g : Grp), (grpFrom s g l).spare ≤ g.spare
  | [], g => Int.le_refl _
  | p :: l, g => by
    show (grpFrom s (g.join s p) l).spare ≤ _
    refine Int.le_trans (grp_spare_le s l _) ?_
    show min g.spare _ ≤ g.spare
    omega

/-- all groups in time, as they're laid one behind another -/
def subsR (L : List Nat) : List (List Nat) := L.foldl (fun gs p => gs ++ gs.map (· ++ [p])) [[]]
theorem subsR_snoc (L : List Nat) (p : Nat) : subsR (L ++ [p]) = subsR L ++ (subsR L).map (· ++ [p]) := by
  unfold subsR
  rw [List.foldl_append]
  rfl
def stepG (s : Sea) (t : Int) (gs : List Grp) (p : Nat) : List Grp := gs ++ (gs.map fun g => g.join s p).filter fun g => decide (t ≤ g.spare)
def groupsG (s : Sea) (t : Int) (L : List Nat) : List Grp := L.foldl (stepG s t) [emptyG]
theorem rev_ind {α : Type} {P : List α → Prop} (h0 : P []) (hs : ∀ l x, P l → P (l ++ [x])) (l : List α) : P l := by
  have h : ∀ m : List α, P m.reverse := fun m => by
    induction m with
    | nil => exact h0
    | cons x m ih => rw [List.reverse_cons]; exact hs _ _ ih
  have := h l.reverse
  rwa [List.reverse_reverse] at this
theorem mem_subsR (L : List Nat) : ∀ l, l ∈ subsR L ↔ l.Sublist L := by
  induction L using rev_ind with
  | h0 => intro l; simp [subsR]
  | hs L p ih =>
    intro l
    rw [subsR_snoc, List.mem_append, List.mem_map, ih]
    constructor
    · rintro (h | ⟨m, hm, rfl⟩)
      · exact h.trans (List.sublist_append_left _ _)
      · exact ((ih m).mp hm).append (List.Sublist.refl _)
    · intro h
      obtain ⟨l1, l2, rfl, h1, h2⟩ := List.sublist_append_iff.mp h
      cases h2 with
      | cons _ h2 =>
        cases h2
        rw [List.append_nil]
        exact .inl h1
      | cons_cons _ h2 =>
        cases h2
        exact .inr ⟨l1, (ih l1).mpr h1, rfl⟩
theorem groupsG_eq (s : Sea) {t : Nat} (ht : t ≤ 100000) (L : List Nat) : groupsG s t L = ((subsR L).filter fun l => s.inTime t l).map (grp s) := by
  induction L using rev_ind with
  | h0 =>
    show [emptyG] = (([[]] : List (List Nat)).filter fun l => s.inTime t l).map (grp s)
    rfl
  | hs L p ih =>
    have e : groupsG s t (L ++ [p]) = stepG s t (groupsG s t L) p := by
      unfold groupsG
      rw [List.foldl_append]
      rfl
    rw [e, subsR_snoc, List.filter_append, List.map_append, ih]
    unfold stepG
    congr 1
    generalize subsR L = F
    induction F with
    | nil => rfl
    | cons l F ihF =>
      have hj : (grp s l).join s p = grp s (l ++ [p]) := (grpFrom_snoc s emptyG l p).symm
      have hd : (decide ((t : Int) ≤ (grp s (l ++ [p])).spare)) = s.inTime t (l ++ [p]) := by
        rw [Bool.eq_iff_iff, decide_eq_true_iff]
        exact grp_inTime s ht _
      rw [List.map_cons, List.filter_cons, List.filter_cons]
      by_cases h1 : s.inTime t l = true
      · rw [if_pos h1, List.map_cons, List.map_cons, List.filter_cons, hj, hd]
        by_cases h2 : s.inTime t (l ++ [p]) = true
        · rw [if_pos h2, if_pos h2, List.map_cons, ihF]
        · rw [if_neg h2, if_neg h2, ihF]
      · rw [if_neg h1]
        have h2 : ¬ s.inTime t (l ++ [p]) = true := fun z => h1 ((grp_inTime s ht l).mp (Int.le_trans ((grp_inTime s ht _).mpr z) (by
          show (grpFrom s emptyG (l ++ [p])).spare ≤ (grpFrom s emptyG l).spare
          rw [grpFrom_snoc]
          show min _ _ ≤ _
          omega)))
        rw [if_neg h2, ihF]
theorem mem_groupsG {s : Sea} {t : Nat} (ht : t ≤ 100000) {L : List Nat} {g : Grp} : g ∈ groupsG s t L ↔ ∃ l, l.Sublist L ∧ s.inTime t l = true ∧ grp s l = g := by
  rw [groupsG_eq s ht, List.mem_map]
  constructor
  · rintro ⟨l, hl, rfl⟩
    obtain ⟨h1, h2⟩ := List.mem_filter.mp hl
    exact ⟨l, (mem_subsR L l).mp h1, h2, rfl⟩
  · rintro ⟨l, h1, h2, rfl⟩
    exact ⟨l, List.mem_filter.mpr ⟨(mem_subsR L l).mpr h1, h2⟩, rfl⟩
theorem groupsG_len (s : Sea) (t : Int) (L : List Nat) : (groupsG s t L).length ≤ 2 ^ L.length := by
  induction L using rev_ind with
  | h0 => exact Nat.le_refl _
  | hs L p ih =>
    have e : groupsG s t (L ++ [p]) = stepG s t (groupsG s t L) p := by
      unfold groupsG
      rw [List.foldl_append]
      rfl
    rw [e]
    unfold stepG
    have hf := List.length_filter_le (fun g : Grp => decide (t ≤ g.spare)) ((groupsG s t L).map fun g => g.join s p)
    rw [List.length_map] at hf
    rw [List.length_append, List.length_append]
    show _ ≤ 2 ^ (L.length + 1)
    rw [Nat.pow_succ]
    omega

def Grp.Better (g h : Grp) : Prop := h.size < g.size ∨ (g.size = h.size ∧ LexB g.bits h.bits)
theorem Grp.Better.trans {a b c : Grp} (h : a.Better b) (h' : b.Better c) : a.Better c := by
  unfold Grp.Better at *
  rcases h with h | ⟨h1, h2⟩
  · rcases h' with h' | ⟨h1', h2'⟩ <;> exact .inl (by omega)
  · rcases h' with h' | ⟨h1', h2'⟩
    · exact .inl (by omega)
    · exact .inr ⟨by omega, h2.trans h2'⟩
theorem fold_most {dec : Grp → Grp → Bool} (hd : ∀ g h, dec g h = true ↔ g.Better h) : ∀ (L : List Grp) (acc : Grp),
    (L.foldl (fun b g => if dec g b = true then g else b) acc = acc ∨ (L.foldl (fun b g => if dec g b = true then g else b) acc ∈ L ∧ (L.foldl (fun b g => if dec g b = true then g else b) acc).Better acc)) ∧
      ∀ h, h = acc ∨ h ∈ L → ¬ h.Better (L.foldl (fun b g => if dec g b = true then g else b) acc)
  | [], acc => ⟨.inl rfl, fun h hh => by
    rcases hh with rfl | hh
    · unfold Grp.Better
      rintro (z | ⟨_, z⟩)
      · exact Nat.lt_irrefl _ z
      · exact LexB.irrefl _ z
    · simp at hh⟩
  | g :: L, acc => by
    show (L.foldl _ (if dec g acc = true then g else acc) = acc ∨ (L.foldl _ (if dec g acc = true then g else acc) ∈ g :: L ∧ Grp.Better (L.foldl _ (if dec g acc = true then g else acc)) acc)) ∧ ∀ h, h = acc ∨ h ∈ g :: L → ¬ h.Better (L.foldl _ (if dec g acc = true then g else acc))
    by_cases hb : dec g acc = true
    · rw [if_pos hb]
      obtain ⟨i1, i2⟩ := fold_most hd L g
      have hga := (hd g acc).mp hb
      refine ⟨.inr ?_, fun h hh => ?_⟩
      · rcases i1 with i1 | ⟨i1, i3⟩
        · rw [i1]; exact ⟨List.mem_cons_self .., hga⟩
        · exact ⟨List.mem_cons_of_mem _ i1, i3.trans hga⟩
      · rcases hh with rfl | hh
        · exact fun z => i2 g (.inl rfl) (hga.trans z)
        · exact i2 h (by rcases List.mem_cons.mp hh with z | z; exact .inl z; exact .inr z)
    · rw [if_neg hb]
      obtain ⟨i1, i2⟩ := fold_most hd L acc
      refine ⟨?_, fun h hh => ?_⟩
      · rcases i1 with i1 | ⟨i1, i3⟩
        · exact .inl i1
        · exact .inr ⟨List.mem_cons_of_mem _ i1, i3⟩
      · rcases hh with rfl | hh
        · exact i2 h (.inl rfl)
        · rcases List.mem_cons.mp hh with rfl | hh
          · intro z
            rcases i1 with i1 | ⟨i1, i3⟩
            · rw [i1] at z
              exact hb ((hd h acc).mpr z)
            · exact hb ((hd h acc).mpr (z.trans i3))
          · exact i2 h (.inr hh)

/-- the order of those who wait -/
abbrev order (s : Sea) : List Nat := s.byTime s.waits
theorem order_nodup (s : Sea) : (order s).Nodup := (byTime_perm s (waits_sorted s)).nodup_iff.mpr (nodup_of_lt (waits_sorted s))
theorem mem_order {s : Sea} {p : Nat} : p ∈ order s ↔ p ∈ s.waits := (byTime_perm s (waits_sorted s)).mem_iff
/-- a sublist of the order and the part of those who wait that has the same members -/
def ofPart (s : Sea) (m : List Nat) : List Nat := s.waits.filter fun p => decide (p ∈ m)
theorem ofPart_mem {s : Sea} {m : List Nat} (h : m.Sublist (order s)) {p : Nat} : p ∈ ofPart s m ↔ p ∈ m := by
  unfold ofPart
  rw [List.mem_filter, decide_eq_true_iff]
  exact ⟨fun z => z.2, fun z => ⟨mem_order.mp (h.subset z), z⟩⟩
theorem perm_of_mem {l m : List Nat} (h1 : l.Nodup) (h2 : m.Nodup) (h : ∀ p, p ∈ l ↔ p ∈ m) : l.Perm m := (List.perm_ext_iff_of_nodup h1 h2).mpr h
theorem ofPart_perm {s : Sea} {m : List Nat} (h : m.Sublist (order s)) : m.Perm (ofPart s m) :=
  perm_of_mem ((order_nodup s).sublist h) ((nodup_of_lt (waits_sorted s)).sublist List.filter_sublist) fun _ => (ofPart_mem h).symm
theorem ofPart_byTime {s : Sea} {m : List Nat} (h : m.Sublist (order s)) : s.byTime (ofPart s m) = m :=
  (byTime_unique ((waits_sorted s).sublist List.filter_sublist) (ofPart_perm h) ((byTime_sorted s (waits_sorted s)).sublist h)).symm
theorem part_sub {s : Sea} {l : List Nat} (h : l.Sublist s.waits) : (s.byTime l).Sublist (order s) := by
  have e : l = s.waits.filter fun p => decide (p ∈ l) := by
    have hs : (s.waits.filter fun p => decide (p ∈ l)).Pairwise (· < ·) := (waits_sorted s).sublist List.filter_sublist
    refine sorted_unique (R := fun a b : Nat => a < b) (fun a b h1 h2 => by omega) (perm_of_mem ((nodup_of_lt (waits_sorted s)).sublist h) (nodup_of_lt hs) fun p => ?_) ((waits_sorted s).sublist h) hs
    rw [List.mem_filter, decide_eq_true_iff]
    exact ⟨fun z => ⟨h.subset z, z⟩, fun z => z.2⟩
  rw [e, byTime_filter s (waits_sorted s)]
  exact List.filter_sublist
theorem grp_bits0 (s : Sea) (l : List Nat) (j : Nat) : (grp s l).bits.testBit j = decide (j ∈ l) := by
  rw [grp_bits]
  show ((0 : Nat).testBit j || _) = _
  simp
theorem grp_bits_eq {s : Sea} {l m : List Nat} (hm : m.Nodup) (h : ∀ p, p ∈ l ↔ p ∈ m) : (grp s l).bits = Km449.bits m := by
  apply Nat.eq_of_testBit_eq
  intro j
  rw [grp_bits0, bits_test hm]
  simp [h]

/-- THE MOST: what the groups in time give is what the trying of all parts gives -/
theorem most_eq (s : Sea) {t : Nat} (ht : t ≤ 100000) {dec : Grp → Grp → Bool} (hd : ∀ g h, dec g h = true ↔ g.Better h) :
    (groupsG s t (order s)).foldl (fun b g => if dec g b = true then g else b) emptyG = grp s (s.byTime (s.best t)) := by
  obtain ⟨b1, b2, b3⟩ := best_is s t
  obtain ⟨i1, i2⟩ := fold_most hd (groupsG s t (order s)) emptyG
  generalize (groupsG s t (order s)).foldl (fun b g => if dec g b = true then g else b) emptyG = gm at i1 i2
  have hsb := (waits_sorted s).sublist b1
  have he : emptyG ∈ groupsG s t (order s) := (mem_groupsG ht).mpr ⟨[], List.nil_sublist _, rfl, rfl⟩
  have hgm : gm ∈ groupsG s t (order s) := by
    rcases i1 with i1 | ⟨i1, _⟩
    · rw [i1]; exact he
    · exact i1
  obtain ⟨m, hm, hmt, rfl⟩ := (mem_groupsG ht).mp hgm
  have hb : grp s (s.byTime (s.best t)) ∈ groupsG s t (order s) := (mem_groupsG ht).mpr ⟨_, part_sub b1, b2, rfl⟩
  have hT := b3 (ofPart s m) List.filter_sublist (by unfold Sea.can; rw [ofPart_byTime hm]; exact hmt)
  have hnb := i2 _ (.inr hb)
  have hl1 : (ofPart s m).length = m.length := (ofPart_perm hm).length_eq.symm
  have hl2 : (s.byTime (s.best t)).length = (s.best t).length := (byTime_perm s hsb).length_eq
  have e1 : (grp s (s.byTime (s.best t))).size = (s.best t).length := by rw [grp_size, hl2]; show 0 + _ = _; omega
  have e2 : (grp s m).size = m.length := by rw [grp_size]; show 0 + _ = _; omega
  have hbb : (grp s (s.byTime (s.best t))).bits = Km449.bits (s.best t) := grp_bits_eq (nodup_of_lt hsb) fun p => (byTime_perm s hsb).mem_iff
  have hmb : (grp s m).bits = Km449.bits (ofPart s m) := grp_bits_eq ((nodup_of_lt (waits_sorted s)).sublist List.filter_sublist) fun p => (ofPart_mem hm).symm
  unfold Grp.Better at hnb
  rw [e1, e2, hbb, hmb] at hnb
  unfold Tops at hT
  have hT2 : ofPart s m = s.best t := by
    rcases hT with hT | ⟨hT1, hT2 | hT2⟩
    · exact absurd (Or.inl (by omega)) hnb
    · exact hT2
    · exact absurd (Or.inr ⟨by omega, hT2⟩) hnb
  rw [← hT2, ofPart_byTime hm]
/-- THE PLAN: those of the order who are among the most -/
theorem plan_eq (s : Sea) (t : Nat) : (order s).filter (fun p => (Km449.bits (s.best t)).testBit p) = s.plan t := by
  obtain ⟨b1, _, _⟩ := best_is s t
  have hsb := (waits_sorted s).sublist b1
  have hs := part_sub b1
  unfold Sea.plan
  rw [← ofPart_byTime hs, ← byTime_filter s (waits_sorted s)]
  congr 1
  unfold ofPart
  refine List.filter_congr fun p hp => ?_
  rw [bits_test (nodup_of_lt hsb)]
  have : p ∈ s.byTime (s.best t) ↔ p ∈ s.best t := (byTime_perm s hsb).mem_iff
  simp [this]
end Hh
set_option Elab.async false
set_option linter.all false
namespace Hh
open Km449

theorem search_is {p : Nat → Bool} (mono : ∀ a b, a ≤ b → p b = true → p a = true) : ∀ (f lo hi : Nat), lo ≤ hi → hi - lo < 2 ^ f → p lo = true →
    lo ≤ search p f lo hi ∧ search p f lo hi ≤ hi ∧ p (search p f lo hi) = true ∧ ∀ t, search p f lo hi < t → t ≤ hi → p t = false
  | 0, lo, hi, h1, h2, h3 => by
    have e : hi = lo := by simp at h2; omega
    subst e
    exact ⟨Nat.le_refl _, Nat.le_refl _, h3, fun t ht ht' => by simp only [search] at ht; omega⟩
  | f + 1, lo, hi, h1, h2, h3 => by
    have hp : 2 ^ (f + 1) = 2 * 2 ^ f := by rw [Nat.pow_succ]; omega
    unfold search
    by_cases hle : hi ≤ lo
    · rw [if_pos hle]
      exact ⟨Nat.le_refl _, h1, h3, fun t ht ht' => by omega⟩
    · rw [if_neg hle]
      by_cases hm : p ((lo + hi + 1) / 2) = true
      · rw [if_pos hm]
        obtain ⟨i1, i2, i3, i4⟩ := search_is mono f ((lo + hi + 1) / 2) hi (by omega) (by omega) hm
        exact ⟨by omega, i2, i3, i4⟩
      · rw [if_neg hm]
        obtain ⟨i1, i2, i3, i4⟩ := search_is mono f lo ((lo + hi + 1) / 2 - 1) (by omega) (by omega) h3
        refine ⟨i1, by omega, i3, fun t ht ht' => ?_⟩
        by_cases q : t ≤ (lo + hi + 1) / 2 - 1
        · exact i4 t ht q
        · cases e : p t with
          | false => rfl
          | true => exact absurd (mono _ _ (by omega) e) hm

theorem best_len_mono (s : Sea) {a b : Nat} (hab : a ≤ b) (hb : b ≤ 100000) : (s.best b).length ≤ (s.best a).length := by
  obtain ⟨h1, h2, _⟩ := best_is s b
  obtain ⟨_, _, h3⟩ := best_is s a
  have h4 : s.can a (s.best b) = true := by
    unfold Sea.can at *
    rw [← grp_inTime s (by omega)]
    rw [← grp_inTime s hb] at h2
    omega
  have t := h3 _ h1 h4
  unfold Tops at t
  omega
theorem group_size_le (s : Sea) {t : Nat} (ht : t ≤ 100000) {g : Grp} (hg : g ∈ groupsG s t (order s)) : g.size ≤ (s.best t).length := by
  obtain ⟨m, hm, hmt, rfl⟩ := (mem_groupsG ht).mp hg
  obtain ⟨_, _, h3⟩ := best_is s t
  have hT := h3 (ofPart s m) List.filter_sublist (by unfold Sea.can; rw [ofPart_byTime hm]; exact hmt)
  have hl1 : (ofPart s m).length = m.length := (ofPart_perm hm).length_eq.symm
  have e2 : (grp s m).size = m.length := by rw [grp_size]; show 0 + _ = _; omega
  unfold Tops at hT
  rw [e2]
  omega
theorem best_group (s : Sea) {t : Nat} (ht : t ≤ 100000) : grp s (s.byTime (s.best t)) ∈ groupsG s t (order s) ∧ (grp s (s.byTime (s.best t))).size = (s.best t).length := by
  obtain ⟨b1, b2, _⟩ := best_is s t
  refine ⟨(mem_groupsG ht).mpr ⟨_, part_sub b1, b2, rfl⟩, ?_⟩
  rw [grp_size, (byTime_perm s ((waits_sorted s).sublist b1)).length_eq]
  show 0 + _ = _
  omega
theorem best_bits (s : Sea) (t : Nat) : (grp s (s.byTime (s.best t))).bits = Km449.bits (s.best t) := by
  obtain ⟨b1, _, _⟩ := best_is s t
  have hsb := (waits_sorted s).sublist b1
  exact grp_bits_eq (nodup_of_lt hsb) fun p => (byTime_perm s hsb).mem_iff
theorem spare_eq (s : Sea) {M : Int} (h1 : ∃ g ∈ groupsG s 0 (order s), g.size = (s.best 0).length ∧ g.spare = M) (h2 : ∀ g ∈ groupsG s 0 (order s), g.size = (s.best 0).length → g.spare ≤ M) : (s.spare : Int) = M := by
  have key : ∀ t, t ≤ 100000 → ((s.best 0).length ≤ (s.best t).length ↔ (t : Int) ≤ M) := fun t ht => by
    constructor
    · intro hn
      obtain ⟨g1, g2⟩ := best_group s ht
      have hm := best_len_mono s (Nat.zero_le t) ht
      obtain ⟨l, hl, hlt, e⟩ := (mem_groupsG ht).mp g1
      have hsp := (grp_inTime s ht l).mpr hlt
      have hin : grp s (s.byTime (s.best t)) ∈ groupsG s (0 : Nat) (order s) := (mem_groupsG (by omega)).mpr ⟨l, hl, (grp_inTime s (by omega) l).mp (by omega), e⟩
      have := h2 _ hin (by omega)
      rw [← e] at this
      omega
    · intro hM
      obtain ⟨g, hg, g1, g2⟩ := h1
      obtain ⟨l, hl, hlt, rfl⟩ := (mem_groupsG (t := 0) (by omega)).mp hg
      have hin : grp s l ∈ groupsG s t (order s) := (mem_groupsG ht).mpr ⟨l, hl, (grp_inTime s ht l).mp (by omega), rfl⟩
      have := group_size_le s ht hin
      omega
  have hmono : ∀ a b, a ≤ b → decide ((s.best 0).length ≤ (s.best b).length) = true → b ≤ 100000 → decide ((s.best 0).length ≤ (s.best a).length) = true := fun a b hab hb hb' => by
    have := best_len_mono s hab hb'
    have := of_decide_eq_true hb
    exact decide_eq_true (by omega)
  have hMle : M ≤ 100000 := by
    obtain ⟨g, hg, _, g2⟩ := h1
    obtain ⟨l, _, _, rfl⟩ := (mem_groupsG (t := 0) (by omega)).mp hg
    rw [← g2]
    exact grp_spare_le s l emptyG
  -- the search only looks at minutes up to the last
  have hs : ∀ (f lo hi : Nat), hi ≤ 100000 → lo ≤ hi → search (fun t => decide ((s.best 0).length ≤ (s.best t).length)) f lo hi = search (fun t => decide ((t : Int) ≤ M)) f lo hi := by
    intro f
    induction f with
    | zero => intros; rfl
    | succ f ih =>
      intro lo hi h3 h4
      unfold search
      by_cases hle : hi ≤ lo
      · rw [if_pos hle, if_pos hle]
      · rw [if_neg hle, if_neg hle]
        have e : decide ((s.best 0).length ≤ (s.best ((lo + hi + 1) / 2)).length) = decide (((((lo + hi + 1) / 2 : Nat)) : Int) ≤ M) := by
          rw [decide_eq_decide]
          exact key _ (by omega)
        rw [e, ih _ _ h3 (by omega), ih _ _ (by omega) (by omega)]
  have hM0 : (0 : Int) ≤ M := (key 0 (by omega)).mp (Nat.le_refl _)
  unfold Sea.spare
  show ((search (fun t => decide ((s.best 0).length ≤ (s.best t).length)) 20 0 100000 : Nat) : Int) = M
  rw [hs 20 0 100000 (by omega) (by omega)]
  obtain ⟨i1, i2, i3, i4⟩ := search_is (p := fun t => decide ((t : Int) ≤ M)) (fun a b hab hb => decide_eq_true (by have := of_decide_eq_true hb; omega)) 20 0 100000 (by omega) (by decide) (decide_eq_true hM0)
  have i3 := of_decide_eq_true i3
  generalize search (fun t => decide ((t : Int) ≤ M)) 20 0 100000 = r at *
  rcases Int.lt_trichotomy (r : Int) M with h | h | h
  · have := of_decide_eq_false (i4 (r + 1) (by omega) (by omega))
    omega
  · exact h
  · omega
end Hh
set_option Elab.async false
set_option linter.all false
namespace Hh
open Km449

theorem into_congr {s s' : Sea} (h : ∀ q, (s'.person q).left = (s.person q).left) (p : Nat) : ∀ l : List Nat, s'.into p l = s.into p l
  | [] => rfl
  | q :: l => by
    unfold Sea.into
    rw [h p, h q, into_congr h p l]
theorem byTime_congr {s s' : Sea} (h : ∀ q, (s'.person q).left = (s.person q).left) (l : List Nat) : s'.byTime l = s.byTime l := by
  unfold Sea.byTime
  have e : (fun r p => s'.into p r) = fun r p => s.into p r := by
    funext r p
    exact into_congr h p r
  rw [e]
theorem inTime_congr {s s' : Sea} (h : ∀ q, (s'.person q).left = (s.person q).left) (h2 : ∀ q, (s'.person q).takes = (s.person q).takes) : ∀ (l : List Nat) (t : Nat), s'.inTime t l = s.inTime t l
  | [], _ => rfl
  | p :: l, t => by
    unfold Sea.inTime
    rw [h p, h2 p, inTime_congr h h2 l]
theorem can_congr {s s' : Sea} (h : ∀ q, (s'.person q).left = (s.person q).left) (h2 : ∀ q, (s'.person q).takes = (s.person q).takes) (t : Nat) (l : List Nat) : s'.can t l = s.can t l := by
  unfold Sea.can
  rw [byTime_congr h, inTime_congr h h2]
/-- one person told as lost -/
def outS (s : Sea) (p : Nat) : Sea := s.set p { s.person p with how := 2 }
theorem outS_person {s : Sea} {p : Nat} (hp : p < s.persons.length) (q : Nat) : (outS s p).person q = if q = p then { s.person p with how := 2 } else s.person q := by
  unfold outS Sea.set Sea.person
  dsimp only
  rw [List.getD_eq_getElem?_getD, List.getD_eq_getElem?_getD, List.getD_eq_getElem?_getD]
  by_cases e : q = p
  · subst e
    rw [if_pos rfl, List.getElem?_set_self hp]
    rfl
  · rw [if_neg e, List.getElem?_set_ne (fun z => e z.symm)]
theorem outS_left {s : Sea} {p : Nat} (hp : p < s.persons.length) (q : Nat) : ((outS s p).person q).left = (s.person q).left := by
  rw [outS_person hp]
  split
  · rename_i e; rw [e]
  · rfl
theorem outS_takes {s : Sea} {p : Nat} (hp : p < s.persons.length) (q : Nat) : ((outS s p).person q).takes = (s.person q).takes := by
  rw [outS_person hp]
  split
  · rename_i e; rw [e]
  · rfl
theorem outS_waits {s : Sea} {p : Nat} (hp : p < s.persons.length) : (outS s p).waits = s.waits.filter fun q => !decide (q = p) := by
  unfold Sea.waits
  have e : (outS s p).persons.length = s.persons.length := by
    show (s.persons.set p _).length = _
    rw [List.length_set]
  rw [e, List.filter_filter]
  refine List.filter_congr fun q _ => ?_
  rw [outS_person hp]
  by_cases e : q = p
  · rw [if_pos e, decide_eq_true e]
    rfl
  · rw [if_neg e, decide_eq_false e]
    rfl
theorem sub_filter {l m : List Nat} {f : Nat → Bool} (h : l.Sublist m) (hf : ∀ x ∈ l, f x = true) : l.Sublist (m.filter f) := by
  have := h.filter f
  rwa [List.filter_eq_self.mpr hf] at this
theorem can0_group {s : Sea} {l : List Nat} (h1 : l.Sublist s.waits) (h2 : s.can 0 l = true) : grp s (s.byTime l) ∈ groupsG s (0 : Nat) (order s) ∧ (grp s (s.byTime l)).size = l.length ∧ ∀ p, (grp s (s.byTime l)).bits.testBit p = decide (p ∈ l) := by
  have hs := (waits_sorted s).sublist h1
  refine ⟨(mem_groupsG (by omega)).mpr ⟨_, part_sub h1, h2, rfl⟩, ?_, fun p => ?_⟩
  · rw [grp_size, (byTime_perm s hs).length_eq]
    show 0 + _ = _
    omega
  · rw [grp_bits0, decide_eq_decide]
    exact (byTime_perm s hs).mem_iff
theorem group_part {s : Sea} {g : Grp} (hg : g ∈ groupsG s (0 : Nat) (order s)) : ∃ l : List Nat, l.Sublist s.waits ∧ s.can 0 l = true ∧ g.size = l.length ∧ ∀ p, g.bits.testBit p = decide (p ∈ l) := by
  obtain ⟨m, hm, hmt, rfl⟩ := (mem_groupsG (by omega)).mp hg
  refine ⟨ofPart s m, List.filter_sublist, by unfold Sea.can; rw [ofPart_byTime hm]; exact hmt, ?_, fun p => ?_⟩
  · rw [grp_size, ← (ofPart_perm hm).length_eq]
    show 0 + _ = _
    omega
  · rw [grp_bits0, decide_eq_decide]
    exact (ofPart_mem hm).symm
/-- WITHOUT ONE: the greatest group that has not got this person -/
theorem without_eq {s : Sea} {p : Nat} (hp : p < s.persons.length) {M : Int} (h1 : ∃ g ∈ groupsG s (0 : Nat) (order s), g.bits.testBit p = false ∧ (g.size : Int) = M) (h2 : ∀ g ∈ groupsG s (0 : Nat) (order s), g.bits.testBit p = false → (g.size : Int) ≤ M) : (((outS s p).best 0).length : Int) = M := by
  obtain ⟨b1, b2, b3⟩ := best_is (outS s p) 0
  rw [can_congr (outS_left hp) (outS_takes hp)] at b2
  have hw := outS_waits hp
  have up : (((outS s p).best 0).length : Int) ≤ M := by
    rw [hw] at b1
    have hn : ¬ p ∈ (outS s p).best 0 := fun z => by
      have := (List.mem_filter.mp (b1.subset z)).2
      simp at this
    obtain ⟨g1, g2, g3⟩ := can0_group (b1.trans List.filter_sublist) b2
    have := h2 _ g1 (by rw [g3]; exact decide_eq_false hn)
    omega
  obtain ⟨g, hg, hgp, rfl⟩ := h1
  obtain ⟨l, l1, l2, l3, l4⟩ := group_part hg
  have hn : ¬ p ∈ l := by
    rw [l4] at hgp
    exact of_decide_eq_false hgp
  have t := b3 l (by
    rw [hw]
    refine sub_filter l1 fun x hx => ?_
    have : ¬ x = p := fun z => hn (by rw [← z]; exact hx)
    simp [this]) (by rw [can_congr (outS_left hp) (outS_takes hp)]; exact l2)
  unfold Tops at t
  omega
/-- AMONG THE MOST: some group of as many as the most has this person -/
theorem surely_eq (s : Sea) (p : Nat) : ((parts s.waits).any fun l => decide ((s.best 0).length ≤ l.length) && (l.contains p && s.can 0 l)) = ((groupsG s (0 : Nat) (order s)).filter fun g => decide (g.size = (s.best 0).length)).any fun g => g.bits.testBit p := by
  apply Bool.eq_iff_iff.mpr
  rw [List.any_eq_true, List.any_eq_true]
  constructor
  · rintro ⟨l, hl, h⟩
    rw [Bool.and_eq_true, Bool.and_eq_true, decide_eq_true_iff] at h
    obtain ⟨h1, h2, h3⟩ := h
    have hs := mem_parts.mp hl
    obtain ⟨g1, g2, g3⟩ := can0_group hs h3
    have := group_size_le s (t := 0) (by omega) g1
    refine ⟨_, List.mem_filter.mpr ⟨g1, decide_eq_true (by omega)⟩, ?_⟩
    rw [g3]
    exact decide_eq_true (by simpa using h2)
  · rintro ⟨g, hg, hb⟩
    obtain ⟨hg, hs⟩ := List.mem_filter.mp hg
    have hs := of_decide_eq_true hs
    obtain ⟨l, l1, l2, l3, l4⟩ := group_part hg
    rw [l4] at hb
    refine ⟨l, mem_parts.mpr l1, ?_⟩
    rw [Bool.and_eq_true, Bool.and_eq_true, decide_eq_true_iff]
    exact ⟨by omega, by simpa using of_decide_eq_true hb, l2⟩
/-- the empty group is in time -/
theorem empty_in (s : Sea) : emptyG ∈ groupsG s (0 : Nat) (order s) := (mem_groupsG (t := 0) (by omega)).mpr ⟨[], List.nil_sublist _, rfl, rfl⟩
end Hh
set_option Elab.async false
set_option linter.all false
namespace Hh
open Km449

theorem low_form : ∀ d : Nat, 0 < d → ∃ k m, d = 2 ^ k * (2 * m + 1) := by
  intro d
  induction d using Nat.strongRecOn with
  | _ d ih =>
    intro hd
    by_cases h : d % 2 = 1
    · exact ⟨0, d / 2, by omega⟩
    · obtain ⟨k, m, e⟩ := ih (d / 2) (by omega) (by omega)
      refine ⟨k + 1, m, ?_⟩
      rw [Nat.pow_succ]
      have : d = 2 * (d / 2) := by omega
      rw [this, e, Nat.mul_comm (2 ^ k) 2, Nat.mul_assoc]
theorem low_and (k m : Nat) : (2 ^ k * (2 * m + 1)) &&& (2 ^ k * (2 * m + 1) - 1) = 2 ^ (k + 1) * m := by
  have hk : 0 < 2 ^ k := Nat.two_pow_pos k
  have hk2 : 2 ^ (k + 1) = 2 * 2 ^ k := by rw [Nat.pow_succ]; omega
  have e1 : 2 ^ k * (2 * m + 1) = 2 ^ (k + 1) * m + 2 ^ k := by
    rw [Nat.mul_add, Nat.mul_one, ← Nat.mul_assoc, hk2, Nat.mul_comm (2 ^ k) 2]
  have e2 : 2 ^ k * (2 * m + 1) - 1 = 2 ^ (k + 1) * m + (2 ^ k - 1) := by rw [e1]; omega
  rw [e2, e1]
  apply Nat.eq_of_testBit_eq
  intro j
  have l1 : 2 ^ k < 2 ^ (k + 1) := by omega
  have l2 : 2 ^ k - 1 < 2 ^ (k + 1) := by omega
  have e3 : 2 ^ (k + 1) * m = 2 ^ (k + 1) * m + 0 := rfl
  rw [Nat.testBit_and, Nat.testBit_two_pow_mul_add _ l1, Nat.testBit_two_pow_mul_add _ l2, e3, Nat.testBit_two_pow_mul_add _ (Nat.two_pow_pos _)]
  by_cases hj : j < k + 1
  · rw [if_pos hj, if_pos hj, if_pos hj, Nat.testBit_two_pow, Nat.testBit_two_pow_sub_one]
    by_cases e : k = j
    · subst e; simp
    · simp [e]
  · rw [if_neg hj, if_neg hj, if_neg hj]
    simp
theorem and_pow {b k : Nat} : (b &&& 2 ^ k ≠ 0) ↔ b.testBit k = true := by
  constructor
  · intro h
    cases q : b.testBit k with
    | true => rfl
    | false =>
      refine absurd (Nat.eq_of_testBit_eq fun j => ?_) h
      rw [Nat.testBit_and, Nat.testBit_two_pow, Nat.zero_testBit]
      by_cases e : k = j
      · subst e; simp [q]
      · simp [e]
  · intro h z
    have q : (b &&& 2 ^ k).testBit k = true := by rw [Nat.testBit_and, Nat.testBit_two_pow, h]; simp
    rw [z] at q
    simp at q
theorem low_bits (k m : Nat) : (2 ^ k * (2 * m + 1)).testBit k = true ∧ ∀ j, j < k → (2 ^ k * (2 * m + 1)).testBit j = false := by
  constructor
  · rw [Nat.testBit_two_pow_mul]
    simp
  · intro j hj
    rw [Nat.testBit_two_pow_mul]
    simp
    omega
/-- which goes before as the most, told by the bit operators -/
def betterI (g h : Grp) : Bool := if g.size ≠ h.size then decide (h.size < g.size) else
  !decide (PySem.Builtin.bitAnd (h.bits : Int) (PySem.Builtin.bitAnd (PySem.Builtin.bitXor (g.bits : Int) (h.bits : Int)) (-PySem.Builtin.bitXor (g.bits : Int) (h.bits : Int))) = 0)
theorem lexB_iff (a b : Nat) : (¬ PySem.Builtin.bitAnd (b : Int) (PySem.Builtin.bitAnd (PySem.Builtin.bitXor (a : Int) (b : Int)) (-PySem.Builtin.bitXor (a : Int) (b : Int))) = 0) ↔ LexB a b := by
  have hx : PySem.Builtin.bitXor (a : Int) (b : Int) = ((a ^^^ b : Nat) : Int) := by
    rw [Bits.bitXor_pp (Int.natCast_nonneg _) (Int.natCast_nonneg _)]
    simp
  rw [hx]
  by_cases hd : a ^^^ b = 0
  · rw [hd]
    have e : a = b := by
      apply Nat.eq_of_testBit_eq
      intro j
      have q : (a ^^^ b).testBit j = false := by rw [hd]; simp
      rw [Nat.testBit_xor] at q
      cases h1 : a.testBit j <;> cases h2 : b.testBit j <;> simp [h1, h2] at q ⊢
    subst e
    constructor
    · intro z
      exfalso
      apply z
      show PySem.Builtin.bitAnd (a : Int) (PySem.Builtin.bitAnd 0 (-0)) = 0
      have e0 : PySem.Builtin.bitAnd 0 (-0) = 0 := by decide
      rw [e0, PyProof.Rows.bitAnd_pp (by omega) (by omega)]
      simp
    · intro z
      exact absurd z (LexB.irrefl a)
  · obtain ⟨k, m, e⟩ := low_form (a ^^^ b) (by omega)
    have hlow : PySem.Builtin.bitAnd ((a ^^^ b : Nat) : Int) (-((a ^^^ b : Nat) : Int)) = ((2 ^ k : Nat) : Int) := by
      rw [PyProof.Rows.bitAnd_pn (Int.natCast_nonneg _) (by omega)]
      have e1 : (PySem.Builtin.bitNot (-((a ^^^ b : Nat) : Int))).toNat = (a ^^^ b) - 1 := by
        unfold PySem.Builtin.bitNot
        omega
      have e2 : (((a ^^^ b : Nat) : Int)).toNat = a ^^^ b := by simp
      rw [e1, e2, e, low_and]
      have e3 : 2 ^ k * (2 * m + 1) = 2 ^ (k + 1) * m + 2 ^ k := by
        have hk2 : 2 ^ (k + 1) = 2 * 2 ^ k := by rw [Nat.pow_succ]; omega
        rw [Nat.mul_add, Nat.mul_one, ← Nat.mul_assoc, hk2, Nat.mul_comm (2 ^ k) 2]
      rw [e3]
      omega
    rw [hlow, PyProof.Rows.bitAnd_pp (Int.natCast_nonneg _) (Int.natCast_nonneg _)]
    obtain ⟨l1, l2⟩ := low_bits k m
    rw [← e, Nat.testBit_xor] at l1
    have l2' : ∀ j, j < k → a.testBit j = b.testBit j := fun j hj => by
      have q := l2 j hj
      rw [← e, Nat.testBit_xor] at q
      cases h1 : a.testBit j <;> cases h2 : b.testBit j <;> simp [h1, h2] at q ⊢
    have e4 : ((b : Int)).toNat &&& ((2 ^ k : Nat) : Int).toNat = b &&& 2 ^ k := by rw [Int.toNat_natCast, Int.toNat_natCast]
    have e5 : (¬ (((b : Int).toNat &&& ((2 ^ k : Nat) : Int).toNat : Nat) : Int) = 0) ↔ (b &&& 2 ^ k ≠ 0) := by
      rw [e4]
      omega
    rw [e5, and_pow]
    constructor
    · intro hb
      refine ⟨k, l2', ?_, hb⟩
      cases h1 : a.testBit k with
      | false => rfl
      | true => rw [h1, hb] at l1; simp at l1
    · rintro ⟨j, h1, h2, h3⟩
      rcases Nat.lt_trichotomy j k with q | q | q
      · rw [l2' j q, h3] at h2
        cases h2
      · rw [← q]; exact h3
      · have q2 := h1 k q
        rw [q2] at l1
        simp at l1
theorem betterI_iff (g h : Grp) : betterI g h = true ↔ g.Better h := by
  unfold betterI Grp.Better
  by_cases e : g.size = h.size
  · rw [if_neg (by simpa using e), Bool.not_eq_true', decide_eq_false_iff_not, lexB_iff]
    constructor
    · exact fun z => .inr ⟨e, z⟩
    · rintro (z | z)
      · omega
      · exact z.2
  · rw [if_pos e, decide_eq_true_iff]
    constructor
    · exact fun z => .inl z
    · rintro (z | z)
      · exact z
      · exact absurd z.1 e
end Hh
set_option Elab.async false
set_option linter.all false
set_option maxRecDepth 100000
set_option maxHeartbeats 2000000
namespace Hh
open PySem PySem.Spec PyProof.Rows L2

structure FnT (K : PySem.W.Frag) (mg : Str → Option Value) (x qual : Str) (st : Stmt) (f : Addr) (fd : FuncData) (ps : List Str) : Prop where
  fn : Fun K x qual st f fd
  bd : Binds K fd ps []
  mg : mg x = some (.ref f)
structure MeT (K : PySem.W.Frag) (C : Addr) (m qual : Str) (st : Stmt) (f : Addr) (fd : FuncData) (ps : List Str) : Prop where
  fn : Fun K m qual st f fd
  bd : Binds K fd ps []
  me : Meth K C m f
structure ClT (K : PySem.W.Frag) (mg : Str → Option Value) (x : Str) (C f : Addr) : Prop where
  cl : Cls K C
  made : Mk K C f
  mg : mg x = some (.ref C)
section
variable {X : Cx}
theorem pe_cst {x : Str} {i : Int} {pos : Pos} (hg : Gl X x) (hm : ∃ t, X.mg x = some (.int i t)) (hd : (x == ("__debug__" : Str)) = false := by decide) : PE X (.Name x pos) (tC (.int i)) := by
  obtain ⟨t, hm⟩ := hm
  exact pe_glob hg hm ⟨t, rfl⟩ hd
theorem pe_cref {x : Str} {a : Addr} {pos : Pos} (hg : Gl X x) (hm : X.mg x = some (.ref a)) (hd : (x == ("__debug__" : Str)) = false := by decide) : PE X (.Name x pos) (tC (.ref a)) := pe_glob hg hm rfl hd
end
section
variable {X : Cx} {K : PySem.W.Frag}
theorem pe_fldK {e : Expr} {f : Str} {pos : Pos} {ta : TE} (hK : X.K = K) (he : PE X e ta) (hb : attributeBase e f X.env (eval e X.env) = eval e X.env) : PE X (.Attribute e f pos) (tFld K ta f) := hK ▸ pe_fld he hb
theorem call_lenK (hK : X.K = K) : CallR X (.builtin "len") (fun xs H Q => ∃ p ys, xs = [.ref p] ∧ (SqL K H p ys ∨ SqT K H p ys) ∧ Q (.int ys.length) H) := hK ▸ call_len_seq
theorem ix_listK (hK : X.K = K) : IxR X (rIxL K) := hK ▸ ix_list
theorem pg_tupK {es : List Expr} {k : Nat} {t : TGs} {n : Nat} {pos : Pos} (hK : X.K = K) (hc : X.calm = true) (h : PGs X es t) (hn : (assignEach es X.env).length = n := by rfl) (hst : (assignEach es X.env).findIdx? (·.1) = none := by rfl) : PG X (.Tuple es k pos) (gTup K n t) := hK ▸ pg_tup hc h hn hst
end
def lamC (x y : Str) (sc : Scope) : Bool := (match sc.kind with | .function => true | _ => false) && !sc.isCoroutine && !sc.isGenerator && decide (sc.names.lookup x = some .local) && decide (sc.names.lookup y = some .free) && decide (x ≠ y) && sc.names.all fun z => decide (z.2 ≠ .cell) && (decide (z.2 ≠ .free) || decide (z.1 = y))
theorem lamScope_by {x y : Str} {sc : Scope} (h : lamC x y sc = true) : LamScope x y sc := by
  unfold lamC at h
  simp only [Bool.and_eq_true, decide_eq_true_eq, List.all_eq_true, Bool.or_eq_true, Bool.not_eq_true'] at h
  obtain ⟨⟨⟨⟨⟨⟨h1, h2⟩, h3⟩, h4⟩, h5⟩, h6⟩, h7⟩ := h
  refine ⟨?_, h2, h3, h4, h5, h6, fun z hz => (h7 z hz).1, fun z hz e => ?_⟩
  · cases e : sc.kind <;> rw [e] at h1 <;> first | rfl | cases h1
  · rcases (h7 z hz).2 with q | q
    · exact absurd e q
    · exact q
theorem closure1 {scope : Scope} {env : Env} {x y : Str} {c : Addr} (hs : scope.names = [(x, .local), (y, .free)]) (hc : env.cells.lookup y = some c) : closureFor scope env = pure [(y, c)] := by
  unfold closureFor cellOf
  rw [hs]
  simp [hc]
/-- a def by its body; its code object too -/
theorem Fun.okC {P : Program} {w : World} {K : PySem.W.Frag} {mg : Str → Option Value} {base : Heap} {x qual : Str} {st : Stmt} {f : Addr} {fd : FuncData} {N ps : List Str} {k : Nat} {sp : Sp} (F : Fun K x qual st f fd) (S : FnScope N ps (defScope st)) (len : ∀ vs H Q E, sp vs H Q E → vs.length = ps.length)
    (hbody : ∀ (cdv : Value) (_ : cdv = fd.code) (A : Around) (outer : List Env) (s : Shared) (H : Hp) (vs : List V) (Q : VK) (E : XK), Room k (A.deeper (envOfC qual (defScope st) s.heap.objs.size f cdv)) → sp vs H Q E →
      ∃ t, PSs (cxOf CX0 P w K mg base N qual (defScope st) f cdv A outer s H E).nox (defBody st) t ∧ t { nx := fun _ H' => Q .non H', rt := Q } (start N vs) H) : FnOk P w K mg base CX0 (k + 1) f fd ps sp := by
  obtain ⟨oc, od, kV, doc, pm, an, cdv, ct, osl, rfl, lk, hcd⟩ := F.ex
  refine fn_of lk hcd S len fun A outer s H vs Q E hr hsp => ?_
  obtain ⟨t, h, q⟩ := hbody cdv rfl A outer s H vs Q E hr hsp
  exact ⟨t, h.nox, q⟩
/-- a comprehension over enumerate of a list that the block leaves as it is -/
theorem lc_enum {K : PySem.W.Frag} {a : Addr} {xs : List V} {g : TG} {tt : TT} {te : TE} {vs : List Nat} {σ : L2.St} {H1 : Hp} {D : Addr} {Qd : Hp → Prop} (Pv : Nat → Hp → Prop) (h0 : Pv 0 (upd H1 D (.lst []))) (hl : ∀ i H, i ≤ xs.length → Pv i H → SqL K H a xs)
    (hs : ∀ i x H T, xs[i]? = some x → Pv i H → H T = none → g (.ref T) (wipe σ vs) (upd H T (.tup [.int (i : Nat), x])) fun σ2 H2 => wipe σ2 vs = wipe σ vs ∧ tt σ2 H2 fun b H3 =>
      if b = true then te σ2 H3 fun y H4 => ∃ acc, H4 D = some (.lst acc) ∧ acc.length < sizeLine ∧ Pv (i + 1) (upd H4 D (.lst (acc ++ [y]))) else Pv (i + 1) H3) (hd : ∀ H, Pv xs.length H → Qd H) :
    ∃ W : Nat → Nat → Hp → Prop, (∃ m, W 0 m (upd H1 D (.lst []))) ∧ ∀ i m H, W i m H →
      ((Ite K a).stop i H ∧ Qd H) ∨ ((Ite K a).go i H ∧ ∃ Nx : Hp → Prop, (∀ H', Nx H' → ∃ m', m' < m ∧ W (i + 1) m' H') ∧ ∀ x H', (Ite K a).yld i H x H' → g x (wipe σ vs) H' fun σ2 H2 => wipe σ2 vs = wipe σ vs ∧ tt σ2 H2 fun b H3 =>
        if b = true then te σ2 H3 fun y H4 => ∃ acc, H4 D = some (.lst acc) ∧ acc.length < sizeLine ∧ Nx (upd H4 D (.lst (acc ++ [y]))) else Nx H3) := by
  refine ⟨fun i m H => m = xs.length - i ∧ i ≤ xs.length ∧ Pv i H, ⟨xs.length, by simp, Nat.zero_le _, h0⟩, ?_⟩
  rintro i m H ⟨rfl, hi, p⟩
  by_cases he : i = xs.length
  · subst he
    exact .inl ⟨⟨xs, hl _ H hi p, Nat.le_refl _⟩, hd H p⟩
  · have hlt : i < xs.length := by omega
    have hx : xs[i]? = some xs[i] := List.getElem?_eq_getElem hlt
    refine .inr ⟨⟨xs, xs[i], hl _ H hi p, hx⟩, fun H' => Pv (i + 1) H', fun H' q => ⟨_, by omega, rfl, hlt, q⟩, ?_⟩
    rintro x H' ⟨T, y, rfl, hT, rfl, hy⟩
    have e := hy xs (hl _ H hi p)
    rw [hx] at e
    cases e
    exact hs i xs[i] H T hx p hT

def top (i : Nat) : Stmt := PySem.Challenge.pw_hourstheyhave_s01_answers.main.body.getD i (.Pass ⟨0, 0, 0, 0⟩)
abbrev st_Group_init : Stmt := inClass (top 21) 0
theorem sc_Group_init : FnScope ["self", "bits", "size", "minutes", "spare"] ["self", "bits", "size", "minutes", "spare"] (defScope st_Group_init) := ⟨rfl, rfl, rfl, by decide +kernel, rfl, by decide +kernel, by decide +kernel⟩
abbrev st_Group_has : Stmt := inClass (top 21) 1
theorem sc_Group_has : FnScope ["self", "number"] ["self", "number"] (defScope st_Group_has) := ⟨rfl, rfl, rfl, by decide +kernel, rfl, by decide +kernel, by decide +kernel⟩
abbrev st_Group_joined_by : Stmt := inClass (top 21) 2
theorem sc_Group_joined_by : FnScope ["self", "number", "person", "minutes", "spare"] ["self", "number", "person"] (defScope st_Group_joined_by) := ⟨rfl, rfl, rfl, by decide +kernel, rfl, by decide +kernel, by decide +kernel⟩
abbrev st_empty_group : Stmt := top 22
theorem sc_empty_group : FnScope [] [] (defScope st_empty_group) := ⟨rfl, rfl, rfl, by decide +kernel, rfl, by decide +kernel, by decide +kernel⟩
abbrev st_numbers_by_left : Stmt := top 23
theorem sc_numbers_by_left : FnScope ["sea"] ["sea"] (defScope st_numbers_by_left) := ⟨rfl, rfl, rfl, by decide +kernel, rfl, by decide +kernel, by decide +kernel⟩
abbrev st_numbers_within : Stmt := top 24
theorem sc_numbers_within : FnScope ["sea", "bits", "number"] ["sea", "bits"] (defScope st_numbers_within) := ⟨rfl, rfl, rfl, by decide +kernel, rfl, by decide +kernel, by decide +kernel⟩
abbrev st_group_of : Stmt := top 25
theorem sc_group_of : FnScope ["sea", "bits", "group", "number"] ["sea", "bits"] (defScope st_group_of) := ⟨rfl, rfl, rfl, by decide +kernel, rfl, by decide +kernel, by decide +kernel⟩
abbrev st_groups_in_time : Stmt := top 26
theorem sc_groups_in_time : FnScope ["sea", "t", "groups", "number", "person", "joined", "group"] ["sea", "t"] (defScope st_groups_in_time) := ⟨rfl, rfl, rfl, by decide +kernel, rfl, by decide +kernel, by decide +kernel⟩
abbrev st_is_better : Stmt := top 27
theorem sc_is_better : FnScope ["group", "other", "differing", "least"] ["group", "other"] (defScope st_is_better) := ⟨rfl, rfl, rfl, by decide +kernel, rfl, by decide +kernel, by decide +kernel⟩
abbrev st_the_most : Stmt := top 28
theorem sc_the_most : FnScope ["sea", "t", "best", "group"] ["sea", "t"] (defScope st_the_most) := ⟨rfl, rfl, rfl, by decide +kernel, rfl, by decide +kernel, by decide +kernel⟩
abbrev st_the_plan : Stmt := top 29
theorem sc_the_plan : FnScope ["sea", "t"] ["sea", "t"] (defScope st_the_plan) := ⟨rfl, rfl, rfl, by decide +kernel, rfl, by decide +kernel, by decide +kernel⟩
abbrev st_longest_wait : Stmt := top 30
theorem sc_longest_wait : FnScope ["sea", "group"] ["sea"] (defScope st_longest_wait) := ⟨rfl, rfl, rfl, by decide +kernel, rfl, by decide +kernel, by decide +kernel⟩
abbrev st_groups_of_the_most : Stmt := top 31
theorem sc_groups_of_the_most : FnScope ["sea", "groups", "size", "group"] ["sea"] (defScope st_groups_of_the_most) := ⟨rfl, rfl, rfl, by decide +kernel, rfl, by decide +kernel, by decide +kernel⟩
abbrev st_is_among_the_most : Stmt := top 32
theorem sc_is_among_the_most : FnScope ["sea", "number", "group"] ["sea", "number"] (defScope st_is_among_the_most) := ⟨rfl, rfl, rfl, by decide +kernel, rfl, by decide +kernel, by decide +kernel⟩
abbrev st_size_without : Stmt := top 33
theorem sc_size_without : FnScope ["sea", "number", "group"] ["sea", "number"] (defScope st_size_without) := ⟨rfl, rfl, rfl, by decide +kernel, rfl, by decide +kernel, by decide +kernel⟩
abbrev st_refusal_unless_waiting : Stmt := top 35
theorem sc_refusal_unless_waiting : FnScope ["sea", "p"] ["sea", "p"] (defScope st_refusal_unless_waiting) := ⟨rfl, rfl, rfl, by decide +kernel, rfl, by decide +kernel, by decide +kernel⟩
abbrev st_refusal_of_raft : Stmt := top 36
theorem sc_refusal_of_raft : FnScope ["sea", "p", "inside"] ["sea", "p", "inside"] (defScope st_refusal_of_raft) := ⟨rfl, rfl, rfl, by decide +kernel, rfl, by decide +kernel, by decide +kernel⟩
abbrev st_refusal_of_clothes : Stmt := top 37
theorem sc_refusal_of_clothes : FnScope ["sea", "p", "c"] ["sea", "p", "c"] (defScope st_refusal_of_clothes) := ⟨rfl, rfl, rfl, by decide +kernel, rfl, by decide +kernel, by decide +kernel⟩
abbrev st_refusal_of_fit : Stmt := top 38
theorem sc_refusal_of_fit : FnScope ["person", "clothes", "raft"] ["person", "clothes", "raft"] (defScope st_refusal_of_fit) := ⟨rfl, rfl, rfl, by decide +kernel, rfl, by decide +kernel, by decide +kernel⟩
abbrev st_Person_init : Stmt := inClass (top 40) 0
theorem sc_Person_init : FnScope ["self", "clothes", "raft", "takes", "left", "fate"] ["self", "clothes", "raft", "takes", "left", "fate"] (defScope st_Person_init) := ⟨rfl, rfl, rfl, by decide +kernel, rfl, by decide +kernel, by decide +kernel⟩
abbrev st_Person_waits : Stmt := inClass (top 40) 1
theorem sc_Person_waits : FnScope ["self"] ["self"] (defScope st_Person_waits) := ⟨rfl, rfl, rfl, by decide +kernel, rfl, by decide +kernel, by decide +kernel⟩
abbrev st_Person_duplicate : Stmt := inClass (top 40) 2
theorem sc_Person_duplicate : FnScope ["self"] ["self"] (defScope st_Person_duplicate) := ⟨rfl, rfl, rfl, by decide +kernel, rfl, by decide +kernel, by decide +kernel⟩
abbrev st_Sea_init : Stmt := inClass (top 41) 0
theorem sc_Sea_init : FnScope ["self", "water", "table", "minute", "persons"] ["self", "water", "table", "minute", "persons"] (defScope st_Sea_init) := ⟨rfl, rfl, rfl, by decide +kernel, rfl, by decide +kernel, by decide +kernel⟩
abbrev st_Sea_duplicate : Stmt := inClass (top 41) 1
theorem sc_Sea_duplicate : FnScope ["self", "persons", "person"] ["self"] (defScope st_Sea_duplicate) := ⟨rfl, rfl, rfl, by decide +kernel, rfl, by decide +kernel, by decide +kernel⟩
abbrev st_Sea_told_row : Stmt := inClass (top 41) 2
theorem sc_Sea_told_row : FnScope ["self", "place"] ["self", "place"] (defScope st_Sea_told_row) := ⟨rfl, rfl, rfl, by decide +kernel, rfl, by decide +kernel, by decide +kernel⟩
abbrev st_Sea_told_at : Stmt := inClass (top 41) 3
theorem sc_Sea_told_at : FnScope ["self", "place", "clothes"] ["self", "place", "clothes"] (defScope st_Sea_told_at) := ⟨rfl, rfl, rfl, by decide +kernel, rfl, by decide +kernel, by decide +kernel⟩
abbrev st_Sea_told : Stmt := inClass (top 41) 4
theorem sc_Sea_told : FnScope ["self", "clothes", "raft"] ["self", "clothes", "raft"] (defScope st_Sea_told) := ⟨rfl, rfl, rfl, by decide +kernel, rfl, by decide +kernel, by decide +kernel⟩
abbrev st_Sea_numbers_of : Stmt := inClass (top 41) 5
theorem sc_Sea_numbers_of : FnScope ["self", "fate", "number", "person"] ["self", "fate"] (defScope st_Sea_numbers_of) := ⟨rfl, rfl, rfl, by decide +kernel, rfl, by decide +kernel, by decide +kernel⟩
abbrev st_rescaled : Stmt := top 42
theorem sc_rescaled : FnScope ["left", "told_now", "told_before"] ["left", "told_now", "told_before"] (defScope st_rescaled) := ⟨rfl, rfl, rfl, by decide +kernel, rfl, by decide +kernel, by decide +kernel⟩
abbrev st_refit : Stmt := top 43
theorem sc_refit : FnScope ["sea", "person", "clothes", "raft", "told_before"] ["sea", "person", "clothes", "raft"] (defScope st_refit) := ⟨rfl, rfl, rfl, by decide +kernel, rfl, by decide +kernel, by decide +kernel⟩
abbrev st_turn_water : Stmt := top 44
theorem sc_turn_water : FnScope ["sea", "water", "person", "told_before"] ["sea", "water"] (defScope st_turn_water) := ⟨rfl, rfl, rfl, by decide +kernel, rfl, by decide +kernel, by decide +kernel⟩
abbrev st_pass_minutes : Stmt := top 45
theorem sc_pass_minutes : FnScope ["sea", "minutes", "lost", "person"] ["sea", "minutes"] (defScope st_pass_minutes) := ⟨rfl, rfl, rfl, by decide +kernel, rfl, by decide +kernel, by decide +kernel⟩
abbrev st_take_up : Stmt := top 46
theorem sc_take_up : FnScope ["sea", "p", "person", "lost"] ["sea", "p"] (defScope st_take_up) := ⟨rfl, rfl, rfl, by decide +kernel, rfl, by decide +kernel, by decide +kernel⟩
abbrev st_hh_left : Stmt := top 48
theorem sc_hh_left : FnScope ["sea", "p", "refusal", "person"] ["sea", "p"] (defScope st_hh_left) := ⟨rfl, rfl, rfl, by decide +kernel, rfl, by decide +kernel, by decide +kernel⟩
abbrev st_hh_most : Stmt := top 49
theorem sc_hh_most : FnScope ["sea", "t", "most"] ["sea", "t"] (defScope st_hh_most) := ⟨rfl, rfl, rfl, by decide +kernel, rfl, by decide +kernel, by decide +kernel⟩
abbrev st_hh_plan : Stmt := top 50
theorem sc_hh_plan : FnScope ["sea", "t", "plan", "p"] ["sea", "t"] (defScope st_hh_plan) := ⟨rfl, rfl, rfl, by decide +kernel, rfl, by decide +kernel, by decide +kernel⟩
abbrev st_hh_can : Stmt := top 51
theorem sc_hh_can : FnScope ["sea", "who", "t", "group"] ["sea", "who", "t"] (defScope st_hh_can) := ⟨rfl, rfl, rfl, by decide +kernel, rfl, by decide +kernel, by decide +kernel⟩
abbrev st_hh_spare : Stmt := top 52
theorem sc_hh_spare : FnScope ["sea"] ["sea"] (defScope st_hh_spare) := ⟨rfl, rfl, rfl, by decide +kernel, rfl, by decide +kernel, by decide +kernel⟩
abbrev st_hh_first : Stmt := top 53
theorem sc_hh_first : FnScope ["sea", "plan"] ["sea"] (defScope st_hh_first) := ⟨rfl, rfl, rfl, by decide +kernel, rfl, by decide +kernel, by decide +kernel⟩
abbrev st_hh_without : Stmt := top 54
theorem sc_hh_without : FnScope ["sea", "p", "refusal"] ["sea", "p"] (defScope st_hh_without) := ⟨rfl, rfl, rfl, by decide +kernel, rfl, by decide +kernel, by decide +kernel⟩
abbrev st_hh_among : Stmt := top 55
theorem sc_hh_among : FnScope ["sea", "p", "refusal"] ["sea", "p"] (defScope st_hh_among) := ⟨rfl, rfl, rfl, by decide +kernel, rfl, by decide +kernel, by decide +kernel⟩
abbrev st_hh_saves : Stmt := top 56
theorem sc_hh_saves : FnScope ["sea", "p", "c", "refusal", "supposed", "person"] ["sea", "p", "c"] (defScope st_hh_saves) := ⟨rfl, rfl, rfl, by decide +kernel, rfl, by decide +kernel, by decide +kernel⟩
abbrev st_hh_start : Stmt := top 58
theorem sc_hh_start : FnScope ["log", "water", "table", "told"] ["log", "water", "table"] (defScope st_hh_start) := ⟨rfl, rfl, rfl, by decide +kernel, rfl, by decide +kernel, by decide +kernel⟩
abbrev st_hh_person : Stmt := top 59
theorem sc_hh_person : FnScope ["log", "clothes", "raft", "takes", "number", "sea", "left"] ["log", "clothes", "raft", "takes"] (defScope st_hh_person) := ⟨rfl, rfl, rfl, by decide +kernel, rfl, by decide +kernel, by decide +kernel⟩
abbrev st_hh_water : Stmt := top 60
theorem sc_hh_water : FnScope ["log", "w", "before", "sea"] ["log", "w"] (defScope st_hh_water) := ⟨rfl, rfl, rfl, by decide +kernel, rfl, by decide +kernel, by decide +kernel⟩
abbrev st_hh_raft : Stmt := top 61
theorem sc_hh_raft : FnScope ["log", "p", "inside", "refusal"] ["log", "p", "inside"] (defScope st_hh_raft) := ⟨rfl, rfl, rfl, by decide +kernel, rfl, by decide +kernel, by decide +kernel⟩
abbrev st_hh_clothe : Stmt := top 62
theorem sc_hh_clothe : FnScope ["log", "p", "c", "refusal"] ["log", "p", "c"] (defScope st_hh_clothe) := ⟨rfl, rfl, rfl, by decide +kernel, rfl, by decide +kernel, by decide +kernel⟩
abbrev st_change_person : Stmt := top 63
theorem sc_change_person : FnScope ["log", "p", "clothes", "raft", "sea"] ["log", "p", "clothes", "raft"] (defScope st_change_person) := ⟨rfl, rfl, rfl, by decide +kernel, rfl, by decide +kernel, by decide +kernel⟩
abbrev st_hh_minutes : Stmt := top 64
theorem sc_hh_minutes : FnScope ["log", "n", "sea", "lost"] ["log", "n"] (defScope st_hh_minutes) := ⟨rfl, rfl, rfl, by decide +kernel, rfl, by decide +kernel, by decide +kernel⟩
abbrev st_hh_take : Stmt := top 65
theorem sc_hh_take : FnScope ["log", "p", "refusal", "sea", "others_lost"] ["log", "p"] (defScope st_hh_take) := ⟨rfl, rfl, rfl, by decide +kernel, rfl, by decide +kernel, by decide +kernel⟩
abbrev st_hh_all : Stmt := top 66
theorem sc_hh_all : FnScope ["log", "plan", "takes", "sea", "p"] ["log"] (defScope st_hh_all) := ⟨rfl, rfl, rfl, by decide +kernel, rfl, by decide +kernel, by decide +kernel⟩
abbrev st_Log_init : Stmt := inClass (top 68) 0
theorem sc_Log_init : FnScope ["self"] ["self"] (defScope st_Log_init) := ⟨rfl, rfl, rfl, by decide +kernel, rfl, by decide +kernel, by decide +kernel⟩
abbrev st_Log_begin : Stmt := inClass (top 68) 1
theorem sc_Log_begin : FnScope ["self", "sea"] ["self", "sea"] (defScope st_Log_begin) := ⟨rfl, rfl, rfl, by decide +kernel, rfl, by decide +kernel, by decide +kernel⟩
abbrev st_Log_change_to : Stmt := inClass (top 68) 2
theorem sc_Log_change_to : FnScope ["self", "sea", "known"] ["self", "sea"] (defScope st_Log_change_to) := ⟨rfl, rfl, rfl, by decide +kernel, rfl, by decide +kernel, by decide +kernel⟩
abbrev st_Log_take_back : Stmt := inClass (top 68) 3
theorem sc_Log_take_back : FnScope ["self"] ["self"] (defScope st_Log_take_back) := ⟨rfl, rfl, rfl, by decide +kernel, rfl, by decide +kernel, by decide +kernel⟩
abbrev st_Log_do_again : Stmt := inClass (top 68) 4
theorem sc_Log_do_again : FnScope ["self"] ["self"] (defScope st_Log_do_again) := ⟨rfl, rfl, rfl, by decide +kernel, rfl, by decide +kernel, by decide +kernel⟩
abbrev st_hh_next : Stmt := top 70
theorem sc_hh_next : FnScope ["sea", "numbers"] ["sea"] (defScope st_hh_next) := ⟨rfl, rfl, rfl, by decide +kernel, rfl, by decide +kernel, by decide +kernel⟩
abbrev st_hh_look : Stmt := top 71
theorem sc_hh_look : FnScope ["sea", "p", "person"] ["sea", "p"] (defScope st_hh_look) := ⟨rfl, rfl, rfl, by decide +kernel, rfl, by decide +kernel, by decide +kernel⟩
abbrev st_hh_who : Stmt := top 72
theorem sc_hh_who : FnScope ["sea", "waiting"] ["sea"] (defScope st_hh_who) := ⟨rfl, rfl, rfl, by decide +kernel, rfl, by decide +kernel, by decide +kernel⟩
abbrev st_bits_of : Stmt := top 73
theorem sc_bits_of : FnScope ["numbers", "number"] ["numbers"] (defScope st_bits_of) := ⟨rfl, rfl, rfl, by decide +kernel, rfl, by decide +kernel, by decide +kernel⟩
abbrev st_hh_row : Stmt := top 74
theorem sc_hh_row : FnScope ["sea", "place"] ["sea", "place"] (defScope st_hh_row) := ⟨rfl, rfl, rfl, by decide +kernel, rfl, by decide +kernel, by decide +kernel⟩
abbrev st_hh_sums : Stmt := top 75
theorem sc_hh_sums : FnScope ["sea", "fate"] ["sea"] (defScope st_hh_sums) := ⟨rfl, rfl, rfl, by decide +kernel, rfl, by decide +kernel, by decide +kernel⟩
abbrev st_hh_back : Stmt := top 77
theorem sc_hh_back : FnScope ["log"] ["log"] (defScope st_hh_back) := ⟨rfl, rfl, rfl, by decide +kernel, rfl, by decide +kernel, by decide +kernel⟩
abbrev st_hh_again : Stmt := top 78
theorem sc_hh_again : FnScope ["log"] ["log"] (defScope st_hh_again) := ⟨rfl, rfl, rfl, by decide +kernel, rfl, by decide +kernel, by decide +kernel⟩
abbrev st_hh_state : Stmt := top 79
theorem sc_hh_state : FnScope ["log"] ["log"] (defScope st_hh_state) := ⟨rfl, rfl, rfl, by decide +kernel, rfl, by decide +kernel, by decide +kernel⟩
abbrev st_answers : Stmt := top 86
theorem sc_answers : FnScope ["calls", "log", "told", "at", "end", "answer"] ["calls"] (defScope st_answers) := ⟨rfl, rfl, rfl, by decide +kernel, rfl, by decide +kernel, by decide +kernel⟩
abbrev st_end_of_call : Stmt := top 87
theorem sc_end_of_call : FnScope ["calls", "at", "number", "end"] ["calls", "at"] (defScope st_end_of_call) := ⟨rfl, rfl, rfl, by decide +kernel, rfl, by decide +kernel, by decide +kernel⟩
abbrev st_answer_of : Stmt := top 88
theorem sc_answer_of : FnScope ["log", "number", "given"] ["log", "number", "given"] (defScope st_answer_of) := ⟨rfl, rfl, rfl, by decide +kernel, rfl, by decide +kernel, by decide +kernel⟩
abbrev st_answer_of_change : Stmt := top 89
theorem sc_answer_of_change : FnScope ["log", "number", "given"] ["log", "number", "given"] (defScope st_answer_of_change) := ⟨rfl, rfl, rfl, by decide +kernel, rfl, by decide +kernel, by decide +kernel⟩
abbrev st_answer_of_asking : Stmt := top 90
theorem sc_answer_of_asking : FnScope ["sea", "number", "given"] ["sea", "number", "given"] (defScope st_answer_of_asking) := ⟨rfl, rfl, rfl, by decide +kernel, rfl, by decide +kernel, by decide +kernel⟩
abbrev st_answer_of_looking : Stmt := top 91
theorem sc_answer_of_looking : FnScope ["sea", "number", "given"] ["sea", "number", "given"] (defScope st_answer_of_looking) := ⟨rfl, rfl, rfl, by decide +kernel, rfl, by decide +kernel, by decide +kernel⟩
abbrev st_answer_of_undoing : Stmt := top 92
theorem sc_answer_of_undoing : FnScope ["log", "number"] ["log", "number"] (defScope st_answer_of_undoing) := ⟨rfl, rfl, rfl, by decide +kernel, rfl, by decide +kernel, by decide +kernel⟩
/-- where the classes and the defs lie -/
structure Adr where
  CGroup : Addr
  CPerson : Addr
  CSea : Addr
  CLog : Addr
  f_Group_init : Addr
  d_Group_init : FuncData
  f_Group_has : Addr
  d_Group_has : FuncData
  f_Group_joined_by : Addr
  d_Group_joined_by : FuncData
  f_empty_group : Addr
  d_empty_group : FuncData
  f_numbers_by_left : Addr
  d_numbers_by_left : FuncData
  f_numbers_within : Addr
  d_numbers_within : FuncData
  f_group_of : Addr
  d_group_of : FuncData
  f_groups_in_time : Addr
  d_groups_in_time : FuncData
  f_is_better : Addr
  d_is_better : FuncData
  f_the_most : Addr
  d_the_most : FuncData
  f_the_plan : Addr
  d_the_plan : FuncData
  f_longest_wait : Addr
  d_longest_wait : FuncData
  f_groups_of_the_most : Addr
  d_groups_of_the_most : FuncData
  f_is_among_the_most : Addr
  d_is_among_the_most : FuncData
  f_size_without : Addr
  d_size_without : FuncData
  f_refusal_unless_waiting : Addr
  d_refusal_unless_waiting : FuncData
  f_refusal_of_raft : Addr
  d_refusal_of_raft : FuncData
  f_refusal_of_clothes : Addr
  d_refusal_of_clothes : FuncData
  f_refusal_of_fit : Addr
  d_refusal_of_fit : FuncData
  f_Person_init : Addr
  d_Person_init : FuncData
  f_Person_waits : Addr
  d_Person_waits : FuncData
  f_Person_duplicate : Addr
  d_Person_duplicate : FuncData
  f_Sea_init : Addr
  d_Sea_init : FuncData
  f_Sea_duplicate : Addr
  d_Sea_duplicate : FuncData
  f_Sea_told_row : Addr
  d_Sea_told_row : FuncData
  f_Sea_told_at : Addr
  d_Sea_told_at : FuncData
  f_Sea_told : Addr
  d_Sea_told : FuncData
  f_Sea_numbers_of : Addr
  d_Sea_numbers_of : FuncData
  f_rescaled : Addr
  d_rescaled : FuncData
  f_refit : Addr
  d_refit : FuncData
  f_turn_water : Addr
  d_turn_water : FuncData
  f_pass_minutes : Addr
  d_pass_minutes : FuncData
  f_take_up : Addr
  d_take_up : FuncData
  f_hh_left : Addr
  d_hh_left : FuncData
  f_hh_most : Addr
  d_hh_most : FuncData
  f_hh_plan : Addr
  d_hh_plan : FuncData
  f_hh_can : Addr
  d_hh_can : FuncData
  f_hh_spare : Addr
  d_hh_spare : FuncData
  f_hh_first : Addr
  d_hh_first : FuncData
  f_hh_without : Addr
  d_hh_without : FuncData
  f_hh_among : Addr
  d_hh_among : FuncData
  f_hh_saves : Addr
  d_hh_saves : FuncData
  f_hh_start : Addr
  d_hh_start : FuncData
  f_hh_person : Addr
  d_hh_person : FuncData
  f_hh_water : Addr
  d_hh_water : FuncData
  f_hh_raft : Addr
  d_hh_raft : FuncData
  f_hh_clothe : Addr
  d_hh_clothe : FuncData
  f_change_person : Addr
  d_change_person : FuncData
  f_hh_minutes : Addr
  d_hh_minutes : FuncData
  f_hh_take : Addr
  d_hh_take : FuncData
  f_hh_all : Addr
  d_hh_all : FuncData
  f_Log_init : Addr
  d_Log_init : FuncData
  f_Log_begin : Addr
  d_Log_begin : FuncData
  f_Log_change_to : Addr
  d_Log_change_to : FuncData
  f_Log_take_back : Addr
  d_Log_take_back : FuncData
  f_Log_do_again : Addr
  d_Log_do_again : FuncData
  f_hh_next : Addr
  d_hh_next : FuncData
  f_hh_look : Addr
  d_hh_look : FuncData
  f_hh_who : Addr
  d_hh_who : FuncData
  f_bits_of : Addr
  d_bits_of : FuncData
  f_hh_row : Addr
  d_hh_row : FuncData
  f_hh_sums : Addr
  d_hh_sums : FuncData
  f_hh_back : Addr
  d_hh_back : FuncData
  f_hh_again : Addr
  d_hh_again : FuncData
  f_hh_state : Addr
  d_hh_state : FuncData
  f_answers : Addr
  d_answers : FuncData
  f_end_of_call : Addr
  d_end_of_call : FuncData
  f_answer_of : Addr
  d_answer_of : FuncData
  f_answer_of_change : Addr
  d_answer_of_change : FuncData
  f_answer_of_asking : Addr
  d_answer_of_asking : FuncData
  f_answer_of_looking : Addr
  d_answer_of_looking : FuncData
  f_answer_of_undoing : Addr
  d_answer_of_undoing : FuncData
  tc : Addr
  tP : Addr
  a_WIDTHS : Addr
structure Txt (K : PySem.W.Frag) (mg : Str → Option Value) (A : Adr) : Prop where
  C_Group : ClT K mg "Group" A.CGroup A.f_Group_init
  nGroup_bits : NoAttr K A.CGroup "bits"
  nGroup_size : NoAttr K A.CGroup "size"
  nGroup_minutes : NoAttr K A.CGroup "minutes"
  nGroup_spare : NoAttr K A.CGroup "spare"
  C_Person : ClT K mg "Person" A.CPerson A.f_Person_init
  nPerson_clothes : NoAttr K A.CPerson "clothes"
  nPerson_raft : NoAttr K A.CPerson "raft"
  nPerson_takes : NoAttr K A.CPerson "takes"
  nPerson_left : NoAttr K A.CPerson "left"
  nPerson_fate : NoAttr K A.CPerson "fate"
  C_Sea : ClT K mg "Sea" A.CSea A.f_Sea_init
  nSea_water : NoAttr K A.CSea "water"
  nSea_table : NoAttr K A.CSea "table"
  nSea_minute : NoAttr K A.CSea "minute"
  nSea_persons : NoAttr K A.CSea "persons"
  C_Log : ClT K mg "Log" A.CLog A.f_Log_init
  nLog_now : NoAttr K A.CLog "now"
  nLog_earlier : NoAttr K A.CLog "earlier"
  nLog_later : NoAttr K A.CLog "later"
  Group_init : MeT K A.CGroup "__init__" "Group.__init__" st_Group_init A.f_Group_init A.d_Group_init ["self", "bits", "size", "minutes", "spare"]
  Group_has : MeT K A.CGroup "has" "Group.has" st_Group_has A.f_Group_has A.d_Group_has ["self", "number"]
  Group_joined_by : MeT K A.CGroup "joined_by" "Group.joined_by" st_Group_joined_by A.f_Group_joined_by A.d_Group_joined_by ["self", "number", "person"]
  empty_group : FnT K mg "empty_group" "empty_group" st_empty_group A.f_empty_group A.d_empty_group []
  numbers_by_left : FnT K mg "numbers_by_left" "numbers_by_left" st_numbers_by_left A.f_numbers_by_left A.d_numbers_by_left ["sea"]
  numbers_within : FnT K mg "numbers_within" "numbers_within" st_numbers_within A.f_numbers_within A.d_numbers_within ["sea", "bits"]
  group_of : FnT K mg "group_of" "group_of" st_group_of A.f_group_of A.d_group_of ["sea", "bits"]
  groups_in_time : FnT K mg "groups_in_time" "groups_in_time" st_groups_in_time A.f_groups_in_time A.d_groups_in_time ["sea", "t"]
  is_better : FnT K mg "is_better" "is_better" st_is_better A.f_is_better A.d_is_better ["group", "other"]
  the_most : FnT K mg "the_most" "the_most" st_the_most A.f_the_most A.d_the_most ["sea", "t"]
  the_plan : FnT K mg "the_plan" "the_plan" st_the_plan A.f_the_plan A.d_the_plan ["sea", "t"]
  longest_wait : FnT K mg "longest_wait" "longest_wait" st_longest_wait A.f_longest_wait A.d_longest_wait ["sea"]
  groups_of_the_most : FnT K mg "groups_of_the_most" "groups_of_the_most" st_groups_of_the_most A.f_groups_of_the_most A.d_groups_of_the_most ["sea"]
  is_among_the_most : FnT K mg "is_among_the_most" "is_among_the_most" st_is_among_the_most A.f_is_among_the_most A.d_is_among_the_most ["sea", "number"]
  size_without : FnT K mg "size_without" "size_without" st_size_without A.f_size_without A.d_size_without ["sea", "number"]
  refusal_unless_waiting : FnT K mg "refusal_unless_waiting" "refusal_unless_waiting" st_refusal_unless_waiting A.f_refusal_unless_waiting A.d_refusal_unless_waiting ["sea", "p"]
  refusal_of_raft : FnT K mg "refusal_of_raft" "refusal_of_raft" st_refusal_of_raft A.f_refusal_of_raft A.d_refusal_of_raft ["sea", "p", "inside"]
  refusal_of_clothes : FnT K mg "refusal_of_clothes" "refusal_of_clothes" st_refusal_of_clothes A.f_refusal_of_clothes A.d_refusal_of_clothes ["sea", "p", "c"]
  refusal_of_fit : FnT K mg "refusal_of_fit" "refusal_of_fit" st_refusal_of_fit A.f_refusal_of_fit A.d_refusal_of_fit ["person", "clothes", "raft"]
  Person_init : MeT K A.CPerson "__init__" "Person.__init__" st_Person_init A.f_Person_init A.d_Person_init ["self", "clothes", "raft", "takes", "left", "fate"]
  Person_waits : MeT K A.CPerson "waits" "Person.waits" st_Person_waits A.f_Person_waits A.d_Person_waits ["self"]
  Person_duplicate : MeT K A.CPerson "duplicate" "Person.duplicate" st_Person_duplicate A.f_Person_duplicate A.d_Person_duplicate ["self"]
  Sea_init : MeT K A.CSea "__init__" "Sea.__init__" st_Sea_init A.f_Sea_init A.d_Sea_init ["self", "water", "table", "minute", "persons"]
  Sea_duplicate : MeT K A.CSea "duplicate" "Sea.duplicate" st_Sea_duplicate A.f_Sea_duplicate A.d_Sea_duplicate ["self"]
  Sea_told_row : MeT K A.CSea "told_row" "Sea.told_row" st_Sea_told_row A.f_Sea_told_row A.d_Sea_told_row ["self", "place"]
  Sea_told_at : MeT K A.CSea "told_at" "Sea.told_at" st_Sea_told_at A.f_Sea_told_at A.d_Sea_told_at ["self", "place", "clothes"]
  Sea_told : MeT K A.CSea "told" "Sea.told" st_Sea_told A.f_Sea_told A.d_Sea_told ["self", "clothes", "raft"]
  Sea_numbers_of : MeT K A.CSea "numbers_of" "Sea.numbers_of" st_Sea_numbers_of A.f_Sea_numbers_of A.d_Sea_numbers_of ["self", "fate"]
  rescaled : FnT K mg "rescaled" "rescaled" st_rescaled A.f_rescaled A.d_rescaled ["left", "told_now", "told_before"]
  refit : FnT K mg "refit" "refit" st_refit A.f_refit A.d_refit ["sea", "person", "clothes", "raft"]
  turn_water : FnT K mg "turn_water" "turn_water" st_turn_water A.f_turn_water A.d_turn_water ["sea", "water"]
  pass_minutes : FnT K mg "pass_minutes" "pass_minutes" st_pass_minutes A.f_pass_minutes A.d_pass_minutes ["sea", "minutes"]
  take_up : FnT K mg "take_up" "take_up" st_take_up A.f_take_up A.d_take_up ["sea", "p"]
  hh_left : FnT K mg "hh_left" "hh_left" st_hh_left A.f_hh_left A.d_hh_left ["sea", "p"]
  hh_most : FnT K mg "hh_most" "hh_most" st_hh_most A.f_hh_most A.d_hh_most ["sea", "t"]
  hh_plan : FnT K mg "hh_plan" "hh_plan" st_hh_plan A.f_hh_plan A.d_hh_plan ["sea", "t"]
  hh_can : FnT K mg "hh_can" "hh_can" st_hh_can A.f_hh_can A.d_hh_can ["sea", "who", "t"]
  hh_spare : FnT K mg "hh_spare" "hh_spare" st_hh_spare A.f_hh_spare A.d_hh_spare ["sea"]
  hh_first : FnT K mg "hh_first" "hh_first" st_hh_first A.f_hh_first A.d_hh_first ["sea"]
  hh_without : FnT K mg "hh_without" "hh_without" st_hh_without A.f_hh_without A.d_hh_without ["sea", "p"]
  hh_among : FnT K mg "hh_among" "hh_among" st_hh_among A.f_hh_among A.d_hh_among ["sea", "p"]
  hh_saves : FnT K mg "hh_saves" "hh_saves" st_hh_saves A.f_hh_saves A.d_hh_saves ["sea", "p", "c"]
  hh_start : FnT K mg "hh_start" "hh_start" st_hh_start A.f_hh_start A.d_hh_start ["log", "water", "table"]
  hh_person : FnT K mg "hh_person" "hh_person" st_hh_person A.f_hh_person A.d_hh_person ["log", "clothes", "raft", "takes"]
  hh_water : FnT K mg "hh_water" "hh_water" st_hh_water A.f_hh_water A.d_hh_water ["log", "w"]
  hh_raft : FnT K mg "hh_raft" "hh_raft" st_hh_raft A.f_hh_raft A.d_hh_raft ["log", "p", "inside"]
  hh_clothe : FnT K mg "hh_clothe" "hh_clothe" st_hh_clothe A.f_hh_clothe A.d_hh_clothe ["log", "p", "c"]
  change_person : FnT K mg "change_person" "change_person" st_change_person A.f_change_person A.d_change_person ["log", "p", "clothes", "raft"]
  hh_minutes : FnT K mg "hh_minutes" "hh_minutes" st_hh_minutes A.f_hh_minutes A.d_hh_minutes ["log", "n"]
  hh_take : FnT K mg "hh_take" "hh_take" st_hh_take A.f_hh_take A.d_hh_take ["log", "p"]
  hh_all : FnT K mg "hh_all" "hh_all" st_hh_all A.f_hh_all A.d_hh_all ["log"]
  Log_init : MeT K A.CLog "__init__" "Log.__init__" st_Log_init A.f_Log_init A.d_Log_init ["self"]
  Log_begin : MeT K A.CLog "begin" "Log.begin" st_Log_begin A.f_Log_begin A.d_Log_begin ["self", "sea"]
  Log_change_to : MeT K A.CLog "change_to" "Log.change_to" st_Log_change_to A.f_Log_change_to A.d_Log_change_to ["self", "sea"]
  Log_take_back : MeT K A.CLog "take_back" "Log.take_back" st_Log_take_back A.f_Log_take_back A.d_Log_take_back ["self"]
  Log_do_again : MeT K A.CLog "do_again" "Log.do_again" st_Log_do_again A.f_Log_do_again A.d_Log_do_again ["self"]
  hh_next : FnT K mg "hh_next" "hh_next" st_hh_next A.f_hh_next A.d_hh_next ["sea"]
  hh_look : FnT K mg "hh_look" "hh_look" st_hh_look A.f_hh_look A.d_hh_look ["sea", "p"]
  hh_who : FnT K mg "hh_who" "hh_who" st_hh_who A.f_hh_who A.d_hh_who ["sea"]
  bits_of : FnT K mg "bits_of" "bits_of" st_bits_of A.f_bits_of A.d_bits_of ["numbers"]
  hh_row : FnT K mg "hh_row" "hh_row" st_hh_row A.f_hh_row A.d_hh_row ["sea", "place"]
  hh_sums : FnT K mg "hh_sums" "hh_sums" st_hh_sums A.f_hh_sums A.d_hh_sums ["sea"]
  hh_back : FnT K mg "hh_back" "hh_back" st_hh_back A.f_hh_back A.d_hh_back ["log"]
  hh_again : FnT K mg "hh_again" "hh_again" st_hh_again A.f_hh_again A.d_hh_again ["log"]
  hh_state : FnT K mg "hh_state" "hh_state" st_hh_state A.f_hh_state A.d_hh_state ["log"]
  answers : FnT K mg "answers" "answers" st_answers A.f_answers A.d_answers ["calls"]
  end_of_call : FnT K mg "end_of_call" "end_of_call" st_end_of_call A.f_end_of_call A.d_end_of_call ["calls", "at"]
  answer_of : FnT K mg "answer_of" "answer_of" st_answer_of A.f_answer_of A.d_answer_of ["log", "number", "given"]
  answer_of_change : FnT K mg "answer_of_change" "answer_of_change" st_answer_of_change A.f_answer_of_change A.d_answer_of_change ["log", "number", "given"]
  answer_of_asking : FnT K mg "answer_of_asking" "answer_of_asking" st_answer_of_asking A.f_answer_of_asking A.d_answer_of_asking ["sea", "number", "given"]
  answer_of_looking : FnT K mg "answer_of_looking" "answer_of_looking" st_answer_of_looking A.f_answer_of_looking A.d_answer_of_looking ["sea", "number", "given"]
  answer_of_undoing : FnT K mg "answer_of_undoing" "answer_of_undoing" st_answer_of_undoing A.f_answer_of_undoing A.d_answer_of_undoing ["log", "number"]
  c_WARMEST : ∃ t, mg "WARMEST" = some (.int 4 t)
  c_RAFT_PLACE : ∃ t, mg "RAFT_PLACE" = some (.int 5 t)
  c_CLOTHINGS : ∃ t, mg "CLOTHINGS" = some (.int 4 t)
  c_TOLD_MOST : ∃ t, mg "TOLD_MOST" = some (.int 10000 t)
  c_TAKES_MOST : ∃ t, mg "TAKES_MOST" = some (.int 1000 t)
  c_PERSONS_MOST : ∃ t, mg "PERSONS_MOST" = some (.int 9 t)
  c_PASSING_MOST : ∃ t, mg "PASSING_MOST" = some (.int 1440 t)
  c_LAST_MINUTE : ∃ t, mg "LAST_MINUTE" = some (.int 100000 t)
  c_BEGIN_MOST : ∃ t, mg "BEGIN_MOST" = some (.int 100000 t)
  c_CHANGES_KEPT : ∃ t, mg "CHANGES_KEPT" = some (.int 20 t)
  c_WAITS : ∃ t, mg "WAITS" = some (.int 0 t)
  c_TAKEN_UP : ∃ t, mg "TAKEN_UP" = some (.int 1 t)
  c_LOST : ∃ t, mg "LOST" = some (.int 2 t)
  c_NOT_THERE : ∃ t, mg "NOT_THERE" = some (.int (-2) t)
  c_NOBODY : ∃ t, mg "NOBODY" = some (.int (-6) t)
  c_NOT_WAITING : ∃ t, mg "NOT_WAITING" = some (.int (-16) t)
  c_ALREADY_SO : ∃ t, mg "ALREADY_SO" = some (.int (-17) t)
  c_NOT_ALLOWED : ∃ t, mg "NOT_ALLOWED" = some (.int (-22) t)
  c_NO_ROOM : ∃ t, mg "NO_ROOM" = some (.int (-28) t)
  c_TOO_LATE : ∃ t, mg "TOO_LATE" = some (.int (-75) t)
  c_START : ∃ t, mg "START" = some (.int 0 t)
  c_LAST_CHANGE : ∃ t, mg "LAST_CHANGE" = some (.int 7 t)
  c_LAST_ASKING : ∃ t, mg "LAST_ASKING" = some (.int 16 t)
  c_LAST_LOOKING : ∃ t, mg "LAST_LOOKING" = some (.int 21 t)
  c_WIDTHS : mg "WIDTHS" = some (.ref A.a_WIDTHS)
  t_WIDTHS : ∀ H : Hp, SqT K H A.a_WIDTHS [.int 2, .int 3, .int 1, .int 2, .int 2, .int 1, .int 1, .int 0, .int 1, .int 1, .int 1, .int 2, .int 0, .int 0, .int 1, .int 1, .int 2, .int 0, .int 1, .int 0, .int 1, .int 0, .int 0, .int 0, .int 0]
  n_any : mg "any" = none
  n_enumerate : mg "enumerate" = none
  n_len : mg "len" = none
  n_max : mg "max" = none
  n_min : mg "min" = none
  n_sorted : mg "sorted" = none
  n_sum : mg "sum" = none
  code : CodeK K A.tc A.tP
  codeAt : A.d_numbers_by_left.code = .ref A.tc
end Hh
set_option Elab.async false
set_option linter.all false
set_option maxRecDepth 100000
set_option maxHeartbeats 2000000
namespace Hh
open PySem PySem.Spec PyProof.Rows L2

def pfv (c r t l f : Int) : List (Str × V) := [("clothes", .int c), ("raft", .int r), ("takes", .int t), ("left", .int l), ("fate", .int f)]
def pfs (x : Km449.Person) : List (Str × V) := pfv x.clothes (Km449.bit x.raft) x.takes x.left x.how
def PersonAt (A : Adr) (H : Hp) (a : Addr) (x : Km449.Person) : Prop := ∃ dx, H a = some (.ins A.CPerson dx (pfs x))
structure PersonsAt (A : Adr) (H : Hp) (as : List Addr) (l : List Km449.Person) : Prop where
  nd : as.Nodup
  len : as.length = l.length
  per : ∀ (j : Nat) (b : Addr) (x : Km449.Person), as[j]? = some b → l[j]? = some x → PersonAt A H b x
def sfv (w t m pl : V) : List (Str × V) := [("water", w), ("table", t), ("minute", m), ("persons", pl)]
def sfs (s : Km449.Sea) (t pl : Addr) : List (Str × V) := sfv (.int s.water) (.ref t) (.int s.time) (.ref pl)
structure SeaAt (A : Adr) (H : Hp) (a t pl : Addr) (as : List Addr) (s : Km449.Sea) : Prop where
  sea : ∃ dx, H a = some (.ins A.CSea dx (sfs s t pl))
  tab : H t = some (.lst (s.table.map fun x => V.int (x : Nat)))
  lst : H pl = some (.lst (as.map V.ref))
  ne : t ≠ pl
  per : PersonsAt A H as s.persons

theorem PersonAt.sm {A : Adr} {H H' : Hp} {a : Addr} {x : Km449.Person} (e : Sm H H') (p : PersonAt A H a x) : PersonAt A H' a x := let ⟨dx, h⟩ := p; ⟨dx, e.ins h⟩
theorem PersonsAt.sm {A : Adr} {H H' : Hp} {as : List Addr} {l : List Km449.Person} (e : Sm H H') (p : PersonsAt A H as l) : PersonsAt A H' as l := ⟨p.nd, p.len, fun j b x h1 h2 => (p.per j b x h1 h2).sm e⟩
theorem SeaAt.sm {A : Adr} {H H' : Hp} {a t pl : Addr} {as : List Addr} {s : Km449.Sea} (e : Sm H H') (p : SeaAt A H a t pl as s) : SeaAt A H' a t pl as s :=
  ⟨let ⟨dx, h⟩ := p.sea; ⟨dx, e.ins h⟩, e.lst p.tab, e.lst p.lst, p.ne, p.per.sm e⟩
theorem PersonsAt.get {A : Adr} {H : Hp} {as : List Addr} {l : List Km449.Person} (p : PersonsAt A H as l) {j : Nat} {x : Km449.Person} (h : l[j]? = some x) : ∃ b, as[j]? = some b ∧ PersonAt A H b x := by
  have hj : j < as.length := by rw [p.len]; exact (List.getElem?_eq_some_iff.mp h).1
  have e : as[j]? = some as[j] := List.getElem?_eq_getElem hj
  exact ⟨_, e, p.per j _ x e h⟩
theorem PersonsAt.at {A : Adr} {H : Hp} {as : List Addr} {l : List Km449.Person} (p : PersonsAt A H as l) {j : Nat} {b : Addr} (h : as[j]? = some b) : ∃ x, l[j]? = some x ∧ PersonAt A H b x := by
  have hj : j < l.length := by rw [← p.len]; exact (List.getElem?_eq_some_iff.mp h).1
  have e : l[j]? = some l[j] := List.getElem?_eq_getElem hj
  exact ⟨_, e, p.per j b _ h e⟩
theorem PersonsAt.set {A : Adr} {H H' : Hp} {as : List Addr} {l : List Km449.Person} {i : Nat} {c : Addr} {y : Km449.Person} (p : PersonsAt A H as l) (hc : as[i]? = some c) (hy : PersonAt A H' c y) (kp : ∀ b o, H b = some o → b ≠ c → H' b = some o) : PersonsAt A H' as (l.set i y) := by
  refine ⟨p.nd, by rw [List.length_set]; exact p.len, fun j b x h1 h2 => ?_⟩
  by_cases hj : j = i
  · subst hj
    rw [hc] at h1
    cases h1
    have hl : j < l.length := by rw [← p.len]; exact (List.getElem?_eq_some_iff.mp hc).1
    rw [List.getElem?_set_self hl] at h2
    cases h2
    exact hy
  · rw [List.getElem?_set_ne (fun z => hj z.symm)] at h2
    obtain ⟨dx, h⟩ := p.per j b x h1 h2
    exact ⟨dx, kp b _ h fun z => hj (nd_ix p.nd h1 (by rw [z]; exact hc))⟩
theorem PersonsAt.keep {A : Adr} {H H' : Hp} {as : List Addr} {l : List Km449.Person} (p : PersonsAt A H as l) (kp : ∀ b o, H b = some o → b ∈ as → H' b = some o) : PersonsAt A H' as l :=
  ⟨p.nd, p.len, fun j b x h1 h2 => let ⟨dx, h⟩ := p.per j b x h1 h2; ⟨dx, kp b _ h (List.mem_of_getElem? h1)⟩⟩
/-- no person is the sea, the table, the list -/
theorem PersonsAt.mem {A : Adr} {H : Hp} {as : List Addr} {l : List Km449.Person} (p : PersonsAt A H as l) {b : Addr} (h : b ∈ as) : ∃ x dx, H b = some (.ins A.CPerson dx (pfs x)) := by
  obtain ⟨j, hj⟩ := List.mem_iff_getElem?.mp h
  obtain ⟨x, _, dx, hx⟩ := p.at hj
  exact ⟨x, dx, hx⟩
theorem ps_ne {C C' dx dx' : Addr} {x : Km449.Person} {w t m pl : V} : HO.ins C dx (pfs x) ≠ HO.ins C' dx' (sfv w t m pl) := by
  intro e
  injection e with _ _ e
  have := congrArg List.length e
  exact absurd this (by show ¬ (5 : Nat) = 4; decide)
theorem SeaAt.notin {A : Adr} {H : Hp} {a t pl : Addr} {as : List Addr} {s : Km449.Sea} (p : SeaAt A H a t pl as s) : a ∉ as ∧ pl ∉ as ∧ a ≠ pl := by
  obtain ⟨dx, h⟩ := p.sea
  refine ⟨fun z => ?_, fun z => ?_, ne_of h p.lst (by intro q; cases q)⟩
  · obtain ⟨x, dx', h'⟩ := p.per.mem z
    rw [h] at h'
    exact ps_ne (Option.some.inj h').symm
  · obtain ⟨x, dx', h'⟩ := p.per.mem z
    rw [p.lst] at h'
    cases h'
section
variable {P : Program} {w : World} {K : PySem.W.Frag} {mg : Str → Option Value} {base : Heap} {A : Adr}
def sp_Person_init (A : Adr) : Sp := fun vs H Q _ => ∃ (p dx : Addr) (c r t l f : Int), vs = [.ref p, .int c, .int r, .int t, .int l, .int f] ∧ H p = some (.ins A.CPerson dx []) ∧ Q .non (upd H p (.ins A.CPerson dx (pfv c r t l f)))
theorem ok_Person_init (T : Txt K mg A) : FnOk P w K mg base CX0 1 A.f_Person_init A.d_Person_init ["self", "clothes", "raft", "takes", "left", "fate"] (sp_Person_init A) := by
  refine T.Person_init.fn.ok sc_Person_init (fun vs H Q E h => ?_) (fun cdv Ar outer s H vs Q E hr h => ?_)
  · obtain ⟨p, dx, c, r, t, l, f, rfl, _⟩ := h
    rfl
  · obtain ⟨p, dx, c, r, t, l, f, rfl, hp, k⟩ := h
    refine ⟨_, (pss_cons (ps_fld (pv 0) (pv 1) rfl) (pss_cons (ps_fld (pv 0) (pv 2) rfl) (pss_cons (ps_fld (pv 0) (pv 3) rfl) (pss_cons (ps_fld (pv 0) (pv 4) rfl) (pss_one (ps_fld (pv 0) (pv 5) rfl)))))), ?_⟩
    refine ⟨_, rfl, _, rfl, p, _, dx, _, rfl, hp, T.C_Person.cl, T.nPerson_clothes, (by show 0 < 1000; decide), ?_⟩
    refine ⟨_, rfl, _, rfl, p, _, dx, _, rfl, upd_same, T.C_Person.cl, T.nPerson_raft, (by show 1 < 1000; decide), ?_⟩
    refine ⟨_, rfl, _, rfl, p, _, dx, _, rfl, upd_same, T.C_Person.cl, T.nPerson_takes, (by show 2 < 1000; decide), ?_⟩
    refine ⟨_, rfl, _, rfl, p, _, dx, _, rfl, upd_same, T.C_Person.cl, T.nPerson_left, (by show 3 < 1000; decide), ?_⟩
    refine ⟨_, rfl, _, rfl, p, _, dx, _, rfl, upd_same, T.C_Person.cl, T.nPerson_fate, (by show 4 < 1000; decide), ?_⟩
    rw [upd_upd, upd_upd, upd_upd, upd_upd]
    exact k
def sp_Person_waits (A : Adr) : Sp := fun vs H Q _ => ∃ (a : Addr) (x : Km449.Person), vs = [.ref a] ∧ PersonAt A H a x ∧ Q (.bl (decide (x.how = 0))) H
theorem dec_nat {n m : Nat} : decide (V.int (n : Int) = V.int (m : Int)) = decide (n = m) := by
  rw [decide_eq_decide]
  constructor
  · intro h
    injection h with h
    omega
  · intro h
    rw [h]
theorem ok_Person_waits (T : Txt K mg A) : FnOk P w K mg base CX0 1 A.f_Person_waits A.d_Person_waits ["self"] (sp_Person_waits A) := by
  refine T.Person_waits.fn.ok sc_Person_waits (fun vs H Q E h => ?_) (fun cdv Ar outer s H vs Q E hr h => ?_)
  · obtain ⟨a, x, rfl, _⟩ := h
    rfl
  · obtain ⟨a, x, rfl, ⟨dx, hx⟩, k⟩ := h
    refine ⟨_, (pss_one (ps_ret (pe_cmpR op_eq (pe_fld (pv 0) rfl) (pe_cst (by rfl) T.c_WAITS) (nomark _)))), ?_⟩
    refine ⟨_, rfl, a, _, dx, _, _, rfl, hx, T.C_Person.cl, T.nPerson_fate, rfl, rfl, ?_⟩
    have e : decide (V.int (x.how : Int) = V.int 0) = decide (x.how = 0) := dec_nat (m := 0)
    show Q (.bl (decide (V.int (x.how : Int) = V.int 0))) H
    rw [e]
    exact k
def sp_Person_duplicate (A : Adr) : Sp := fun vs H Q _ => ∃ (a : Addr) (x : Km449.Person), vs = [.ref a] ∧ PersonAt A H a x ∧ ∀ b H', H b = none → Same H H' → PersonAt A H' b x → Q (.ref b) H'
theorem same_new2 {H : Hp} {x dx : Addr} {o u : HO} (nx : H x = none) (nd : H dx = none) : Same H (upd (upd H dx u) x o) := fun b p e => by
  rw [upd_ne (ne_of_none e nx), upd_ne (ne_of_none e nd)]
  exact e
theorem ok_Person_duplicate (T : Txt K mg A) : FnOk P w K mg base CX0 3 A.f_Person_duplicate A.d_Person_duplicate ["self"] (sp_Person_duplicate A) := by
  refine T.Person_duplicate.fn.ok sc_Person_duplicate (fun vs H Q E h => ?_) (fun cdv Ar outer s H vs Q E hr h => ?_)
  · obtain ⟨a, x, rfl, _⟩ := h
    rfl
  · obtain ⟨a, x, rfl, ⟨dx, hx⟩, k⟩ := h
    refine ⟨_, (pss_one (ps_ret (pe_make T.C_Person.made (ok_Person_init T) (hr.mono (by decide)) (by rfl) T.C_Person.mg T.Person_init.bd .nil pass0 (pa_cons (pe_fld (pv 0) rfl) (pa_cons (pe_fld (pv 0) rfl) (pa_cons (pe_fld (pv 0) rfl) (pa_cons (pe_fld (pv 0) rfl) (pa_cons (pe_fld (pv 0) rfl) pa_nil)))))))), ?_⟩
    refine ⟨_, rfl, a, _, dx, _, _, rfl, hx, T.C_Person.cl, T.nPerson_clothes, rfl, _, rfl, a, _, dx, _, _, rfl, hx, T.C_Person.cl, T.nPerson_raft, rfl, _, rfl, a, _, dx, _, _, rfl, hx, T.C_Person.cl, T.nPerson_takes, rfl,
      _, rfl, a, _, dx, _, _, rfl, hx, T.C_Person.cl, T.nPerson_left, rfl, _, rfl, a, _, dx, _, _, rfl, hx, T.C_Person.cl, T.nPerson_fate, rfl, ?_⟩
    intro b db nb ndb neb
    refine ⟨b, db, _, _, _, _, _, rfl, upd_same, rfl, ?_⟩
    rw [upd_upd]
    exact k b _ nb (same_new2 nb ndb) ⟨db, upd_same⟩
end
end Hh
set_option Elab.async false
set_option linter.all false
set_option maxRecDepth 100000
set_option maxHeartbeats 2000000
namespace Hh
open PySem PySem.Spec PyProof.Rows L2

theorem PersonsAt.snoc {A : Adr} {H : Hp} {as : List Addr} {l : List Km449.Person} {b : Addr} {x : Km449.Person} (p : PersonsAt A H as l) (hb : b ∉ as) (hx : PersonAt A H b x) : PersonsAt A H (as ++ [b]) (l ++ [x]) := by
  refine ⟨nd_snoc p.nd hb, by rw [List.length_append, List.length_append, p.len]; rfl, fun j c y h1 h2 => ?_⟩
  by_cases hj : j < as.length
  · rw [List.getElem?_append_left hj] at h1
    rw [List.getElem?_append_left (by rw [← p.len]; exact hj)] at h2
    exact p.per j c y h1 h2
  · rw [List.getElem?_append_right (by omega)] at h1
    rw [List.getElem?_append_right (by rw [← p.len]; omega), ← p.len] at h2
    cases q : j - as.length with
    | zero =>
      rw [q] at h1 h2
      cases h1
      cases h2
      exact hx
    | succ m =>
      rw [q] at h1
      simp at h1
theorem take_snoc {α : Type} {l : List α} {i : Nat} {x : α} (h : l[i]? = some x) : l.take (i + 1) = l.take i ++ [x] := by
  rw [List.take_add_one, h]
  rfl
theorem get_map {α β : Type} {f : α → β} {l : List α} {i : Nat} {y : β} (h : (l.map f)[i]? = some y) : ∃ x, l[i]? = some x ∧ y = f x := by
  rw [List.getElem?_map] at h
  cases e : l[i]? with
  | none => rw [e] at h; cases h
  | some x => rw [e] at h; exact ⟨x, rfl, (Option.some.inj h).symm⟩
theorem same_upd {H H' : Hp} {D : Addr} {o : HO} (s : Same H H') (hD : H D = none) : Same H (upd H' D o) := fun b u e => by
  rw [upd_ne (ne_of_none e hD)]
  exact s b u e
theorem small9 {n : Nat} (h : n ≤ 9) : n < sizeLine := small1000 (by omega)

/-- a sea's water and table -/
def SeaHd (A : Adr) (H : Hp) (a t : Addr) (w : Nat) (tbl : List Nat) : Prop := (∃ dx m pl, H a = some (.ins A.CSea dx (sfv (.int w) (.ref t) m pl))) ∧ H t = some (.lst (tbl.map fun x => V.int (x : Nat)))
theorem SeaAt.hd {A : Adr} {H : Hp} {a t pl : Addr} {as : List Addr} {s : Km449.Sea} (p : SeaAt A H a t pl as s) : SeaHd A H a t s.water s.table := ⟨let ⟨dx, h⟩ := p.sea; ⟨dx, _, _, h⟩, p.tab⟩

section
variable {P : Program} {w : World} {K : PySem.W.Frag} {mg : Str → Option Value} {base : Heap} {A : Adr}
def sp_Sea_init (A : Adr) : Sp := fun vs H Q _ => ∃ (p dx : Addr) (w t m pl : V), vs = [.ref p, w, t, m, pl] ∧ H p = some (.ins A.CSea dx []) ∧ Q .non (upd H p (.ins A.CSea dx (sfv w t m pl)))
theorem ok_Sea_init (T : Txt K mg A) : FnOk P w K mg base CX0 1 A.f_Sea_init A.d_Sea_init ["self", "water", "table", "minute", "persons"] (sp_Sea_init A) := by
  refine T.Sea_init.fn.ok sc_Sea_init (fun vs H Q E h => ?_) (fun cdv Ar outer s H vs Q E hr h => ?_)
  · obtain ⟨p, dx, w, t, m, pl, rfl, _⟩ := h
    rfl
  · obtain ⟨p, dx, w, t, m, pl, rfl, hp, k⟩ := h
    refine ⟨_, (pss_cons (ps_fld (pv 0) (pv 1) rfl) (pss_cons (ps_fld (pv 0) (pv 2) rfl) (pss_cons (ps_fld (pv 0) (pv 3) rfl) (pss_one (ps_fld (pv 0) (pv 4) rfl))))), ?_⟩
    refine ⟨_, rfl, _, rfl, p, _, dx, _, rfl, hp, T.C_Sea.cl, T.nSea_water, (by show 0 < 1000; decide), ?_⟩
    refine ⟨_, rfl, _, rfl, p, _, dx, _, rfl, upd_same, T.C_Sea.cl, T.nSea_table, (by show 1 < 1000; decide), ?_⟩
    refine ⟨_, rfl, _, rfl, p, _, dx, _, rfl, upd_same, T.C_Sea.cl, T.nSea_minute, (by show 2 < 1000; decide), ?_⟩
    refine ⟨_, rfl, _, rfl, p, _, dx, _, rfl, upd_same, T.C_Sea.cl, T.nSea_persons, (by show 3 < 1000; decide), ?_⟩
    rw [upd_upd, upd_upd, upd_upd]
    exact k
def sp_Sea_duplicate (A : Adr) : Sp := fun vs H Q _ => ∃ (a t pl : Addr) (as : List Addr) (s : Km449.Sea), vs = [.ref a] ∧ SeaAt A H a t pl as s ∧ s.persons.length ≤ 9 ∧
  ∀ (a' pl' : Addr) (as' : List Addr) (H' : Hp), Same H H' → H a' = none → H pl' = none → (∀ b ∈ as', H b = none) → SeaAt A H' a' t pl' as' s → Q (.ref a') H'
theorem ok_Sea_duplicate (T : Txt K mg A) : FnOk P w K mg base CX0 4 A.f_Sea_duplicate A.d_Sea_duplicate ["self"] (sp_Sea_duplicate A) := by
  refine T.Sea_duplicate.fn.ok sc_Sea_duplicate (fun vs H Q E h => ?_) (fun cdv Ar outer s H vs Q E hr h => ?_)
  · obtain ⟨a, t, pl, as, s, rfl, _⟩ := h
    rfl
  · obtain ⟨a, t, pl, as, s, rfl, S, hn, k⟩ := h
    obtain ⟨da, ha⟩ := S.sea
    refine ⟨_, (pss_cons (ps_setLc (i := 1) rfl sc_Sea_duplicate.nd rfl rfl (sw_true rfl rfl rfl rfl) (pi_list (pe_fld (pv 0) rfl)) (blkOk_by (N := ["self", "persons", "person"]) (sc := defScope st_Sea_duplicate) (own := [("person", 2)]) (by decide +kernel)) (fun _ _ _ _ _ => (pg_name (i := 2) sc_Sea_duplicate.nd rfl (by first | exact Or.inl rfl | exact Or.inr rfl))) (fun _ _ _ _ _ => pts_nil) (fun _ _ _ _ _ => (pe_meth0 (pv 2) T.C_Person.cl T.Person_duplicate.me (ok_Person_duplicate T) (hr.mono (by decide)) T.Person_duplicate.bd .nil pass0))) (pss_one (ps_ret (pe_make T.C_Sea.made (ok_Sea_init T) (hr.mono (by decide)) (by rfl) T.C_Sea.mg T.Sea_init.bd .nil pass0 (pa_cons (pe_fld (pv 0) rfl) (pa_cons (pe_fld (pv 0) rfl) (pa_cons (pe_fld (pv 0) rfl) (pa_cons (pv 1) pa_nil)))))))), ?_⟩
    refine ⟨_, rfl, a, _, da, _, _, rfl, ha, T.C_Sea.cl, T.nSea_persons, rfl, pl, rfl, ⟨_, SqL.of S.lst⟩, ?_⟩
    intro D hD
    refine lc_list (K := K) (a := pl) (xs := as.map V.ref) (fun i H' => Same H H' ∧ ∃ bs : List Addr, H' D = some (.lst (bs.map V.ref)) ∧ PersonsAt A H' bs (s.persons.take i) ∧ ∀ b ∈ bs, H b = none)
      ⟨same_upd (Same.refl _) hD, [], upd_same, ⟨List.nodup_nil, rfl, fun j b x h1 _ => by simp at h1⟩, by simp⟩ (fun i H' _ ⟨sm, _⟩ => SqL.of (sm _ _ S.lst)) ?_ ?_
    · rintro i y H' hi ⟨sm, bs, hD', pb, fr⟩
      obtain ⟨c, hc, rfl⟩ := get_map hi
      obtain ⟨x, hx, dx, hcx⟩ := S.per.at hc
      refine ⟨rfl, ?_⟩
      refine ⟨_, rfl, c, dx, _, rfl, sm _ _ hcx, rfl, c, x, rfl, ⟨dx, sm _ _ hcx⟩, fun b H5 nb sm5 pb5 => ⟨_, sm5 _ _ hD', ?_, ?_⟩⟩
      · rw [List.length_map, pb.len, List.length_take]
        exact small9 (by omega)
      · have hbD : b ≠ D := fun z => by rw [z, hD'] at nb; cases nb
        have hbs : b ∉ bs := fun z => by
          obtain ⟨x', dx', hx'⟩ := pb.mem z
          rw [nb] at hx'
          cases hx'
        refine ⟨same_upd (sm.trans sm5) hD, bs ++ [b], ?_, ?_, ?_⟩
        · rw [upd_same, List.map_append]
          rfl
        · rw [take_snoc hx]
          refine ((pb.sm (.of sm5)).snoc hbs pb5).keep fun d o e hd => ?_
          rw [upd_ne]
          · exact e
          · rintro rfl
            rcases List.mem_append.mp hd with z | z
            · obtain ⟨x', dx', hx'⟩ := pb.mem z
              rw [hD'] at hx'
              cases hx'
            · exact hbD (List.mem_singleton.mp z).symm
        · intro d hd
          rcases List.mem_append.mp hd with z | z
          · exact fr d z
          · rw [List.mem_singleton.mp z]
            exact sm.free nb
    · rintro H' ⟨sm, bs, hD', pb, fr⟩
      rw [List.length_map, S.per.len, List.take_length] at pb
      have ha' := sm _ _ ha
      refine ⟨_, rfl, a, _, da, _, _, rfl, ha', T.C_Sea.cl, T.nSea_water, rfl, _, rfl, a, _, da, _, _, rfl, ha', T.C_Sea.cl, T.nSea_table, rfl, _, rfl, a, _, da, _, _, rfl, ha', T.C_Sea.cl, T.nSea_minute, rfl, _, rfl, ?_⟩
      intro a2 d2 na nd2 ne2
      refine ⟨a2, d2, _, _, _, _, rfl, upd_same, rfl, ?_⟩
      rw [upd_upd]
      have sm2 : Same H' (upd (upd H' d2 (.own a2)) a2 (.ins A.CSea d2 (sfv (.int s.water) (.ref t) (.int s.time) (.ref D)))) := same_new2 na nd2
      refine k a2 D bs _ (sm.trans sm2) (sm.free na) hD fr ⟨⟨d2, upd_same⟩, (sm.trans sm2) _ _ S.tab, sm2 _ _ hD', ne_of_none S.tab hD, pb.sm (.of sm2)⟩
end
end Hh
set_option Elab.async false
set_option linter.all false
set_option maxRecDepth 100000
set_option maxHeartbeats 2000000
namespace Hh
open PySem PySem.Spec PyProof.Rows L2

section
variable {P : Program} {w : World} {K : PySem.W.Frag} {mg : Str → Option Value} {base : Heap} {A : Adr}
def sp_Sea_told_at (A : Adr) : Sp := fun vs H Q _ => ∃ (a t : Addr) (w : Nat) (tbl : List Nat) (place clothes v : Nat), vs = [.ref a, .int place, .int clothes] ∧ SeaHd A H a t w tbl ∧ place ≤ 5 ∧ tbl[place * 4 + clothes]? = some v ∧ Q (.int v) H
theorem ok_Sea_told_at (T : Txt K mg A) : FnOk P w K mg base CX0 1 A.f_Sea_told_at A.d_Sea_told_at ["self", "place", "clothes"] (sp_Sea_told_at A) := by
  refine T.Sea_told_at.fn.ok sc_Sea_told_at (fun vs H Q E h => ?_) (fun cdv Ar outer s H vs Q E hr h => ?_)
  · obtain ⟨a, t, w, tbl, pl, c, v, rfl, _⟩ := h
    rfl
  · obtain ⟨a, t, w, tbl, pl, c, v, rfl, ⟨⟨dx, m, pr, ha⟩, ht⟩, hp, hv, k⟩ := h
    refine ⟨_, (pss_one (ps_ret (pe_ix ix_list (pe_fld (pv 0) rfl) (pe_op op_add (pe_op op_mul (pv 1) (pe_cst (by rfl) T.c_CLOTHINGS)) (pv 2)) (fun _ _ => rfl)))), ?_⟩
    refine ⟨_, rfl, a, _, dx, _, _, rfl, ha, T.C_Sea.cl, T.nSea_table, rfl, _, rfl, _, _, rfl, rfl, .inl ⟨by omega, by omega⟩, _, rfl, _, _, rfl, rfl, t, _, _, V.int v, rfl, rfl, SqL.of ht, ?_, k⟩
    refine at_of (j := pl * 4 + c) (by omega) ?_
    rw [List.getElem?_map, hv]
    rfl
theorem cut_mid (l : List V) (i j : Nat) (hi : i ≤ j) (hj : j ≤ l.length) : cutV l (some (i : Int)) (some (j : Int)) = (l.drop i).take (j - i) := by
  unfold cutV
  have e1 : min i l.length = i := Nat.min_eq_left (by omega)
  have e2 : min j l.length = j := Nat.min_eq_left hj
  rw [HT.sIx_nat, HT.sIx_nat, e1, e2]
def sp_Sea_told_row (A : Adr) : Sp := fun vs H Q _ => ∃ (a t : Addr) (w : Nat) (tbl : List Nat) (place : Nat), vs = [.ref a, .int place] ∧ SeaHd A H a t w tbl ∧ tbl.length = 24 ∧ place ≤ 5 ∧
  ∀ D, H D = none → Q (.ref D) (upd H D (.lst (((tbl.drop (place * 4)).take 4).map fun x => V.int (x : Nat))))
theorem ok_Sea_told_row (T : Txt K mg A) : FnOk P w K mg base CX0 1 A.f_Sea_told_row A.d_Sea_told_row ["self", "place"] (sp_Sea_told_row A) := by
  refine T.Sea_told_row.fn.ok sc_Sea_told_row (fun vs H Q E h => ?_) (fun cdv Ar outer s H vs Q E hr h => ?_)
  · obtain ⟨a, t, w, tbl, pl, rfl, _⟩ := h
    rfl
  · obtain ⟨a, t, w, tbl, pl, rfl, ⟨⟨dx, m, pr, ha⟩, ht⟩, h24, hp, k⟩ := h
    refine ⟨_, (pss_one (ps_ret (pe_slice sl_list (pe_fld (pv 0) rfl) (po_some (pe_op op_mul (pv 1) (pe_cst (by rfl) T.c_CLOTHINGS))) (po_some (pe_op op_mul (pe_op op_add (pv 1) pe_int) (pe_cst (by rfl) T.c_CLOTHINGS)))))), ?_⟩
    refine ⟨_, rfl, a, _, dx, _, _, rfl, ha, T.C_Sea.cl, T.nSea_table, rfl, _, rfl, _, _, rfl, rfl, .inl ⟨by omega, by omega⟩, _, rfl, _, rfl, _, _, rfl, rfl, _, _, rfl, rfl, .inl ⟨by omega, by omega⟩, _, rfl, t, _, rfl, SqL.of ht, fun D nD => ?_⟩
    have e1 : (pl : Int) * 4 = ((pl * 4 : Nat) : Int) := by omega
    have e2 : ((pl : Int) + 1) * 4 = ((pl * 4 + 4 : Nat) : Int) := by omega
    rw [e1, e2, cut_mid _ _ _ (by omega) (by rw [List.length_map]; omega)]
    have e3 : pl * 4 + 4 - pl * 4 = 4 := by omega
    rw [e3, ← List.map_drop, ← List.map_take]
    exact k D nD
/-- where the table is looked at: in a raft (1), else in this water -/
def placeOf (w : Nat) (r : Int) : Nat := if r = 1 then 5 else w
def sp_Sea_told (A : Adr) : Sp := fun vs H Q _ => ∃ (a t : Addr) (w : Nat) (tbl : List Nat) (clothes v : Nat) (r : Int), vs = [.ref a, .int clothes, .int r] ∧ SeaHd A H a t w tbl ∧ w ≤ 4 ∧ tbl[placeOf w r * 4 + clothes]? = some v ∧ Q (.int v) H
theorem dec_int1 {r c : Int} : decide (V.int r = V.int c) = decide (r = c) := by
  rw [decide_eq_decide]
  exact ⟨fun h => (V.int.inj h), fun h => by rw [h]⟩
theorem ok_Sea_told (T : Txt K mg A) : FnOk P w K mg base CX0 2 A.f_Sea_told A.d_Sea_told ["self", "clothes", "raft"] (sp_Sea_told A) := by
  refine T.Sea_told.fn.ok sc_Sea_told (fun vs H Q E h => ?_) (fun cdv Ar outer s H vs Q E hr h => ?_)
  · obtain ⟨a, t, w, tbl, c, v, r, rfl, _⟩ := h
    rfl
  · obtain ⟨a, t, w, tbl, c, v, r, rfl, hd, hw, hv, k⟩ := h
    have hd' := hd
    obtain ⟨⟨dx, m, pr, ha⟩, ht⟩ := hd'
    refine ⟨_, (pss_one (ps_ret (pe_meth (pv 0) T.C_Sea.cl T.Sea_told_at.me (ok_Sea_told_at T) (hr.mono (by decide)) T.Sea_told_at.bd .nil pass0 (pa_cons (pe_ifExp (pt_cmpR op_eq (pv 2) pe_int (nomark _)) (pe_cst (by rfl) T.c_RAFT_PLACE) (pe_fld (pv 0) rfl)) (pa_cons (pv 1) pa_nil))))), ?_⟩
    refine ⟨_, rfl, a, dx, _, rfl, ha, rfl, _, rfl, rfl, _, rfl, ?_⟩
    show if decide (V.int r = V.int 1) = true then _ else _
    refine ite2 (fun h1 => ?_) (fun h1 => ?_)
    · have e : r = 1 := by rw [dec_int1] at h1; exact of_decide_eq_true h1
      subst e
      refine ⟨_, rfl, a, t, w, tbl, 5, c, v, rfl, hd, by omega, hv, k⟩
    · have e : ¬ r = 1 := fun z => h1 (by rw [dec_int1]; exact decide_eq_true z)
      unfold placeOf at hv
      rw [if_neg e] at hv
      exact ⟨_, rfl, a, _, dx, _, _, rfl, ha, T.C_Sea.cl, T.nSea_water, rfl, _, rfl, a, t, w, tbl, w, c, v, rfl, hd, by omega, hv, k⟩
def sp_rescaled : Sp := fun vs H Q _ => ∃ (l n b : Nat), vs = [.int l, .int n, .int b] ∧ 0 < b ∧ b ≤ 10000 ∧ n ≤ 10000 ∧ Q (.int (Km449.change l b n)) H
theorem ok_rescaled (T : Txt K mg A) : FnOk P w K mg base CX0 1 A.f_rescaled A.d_rescaled ["left", "told_now", "told_before"] sp_rescaled := by
  refine T.rescaled.fn.ok sc_rescaled (fun vs H Q E h => ?_) (fun cdv Ar outer s H vs Q E hr h => ?_)
  · obtain ⟨l, n, b, rfl, _⟩ := h
    rfl
  · obtain ⟨l, n, b, rfl, h1, h2, h3, k⟩ := h
    refine ⟨_, (pss_one (ps_ret (pe_callB (call_max2 rfl) (by rfl) T.n_max boot_max (pa_cons pe_int (pa_cons (pe_op op_fdiv (pe_op op_mul (pv 0) (pv 1)) (pv 2)) pa_nil))))), ?_⟩
    refine ⟨_, rfl, _, rfl, _, _, rfl, rfl, .inr ⟨by omega, by omega⟩, _, rfl, _, _, rfl, rfl, ⟨by omega, by omega⟩, _, _, rfl, ?_⟩
    have e : (if ((l : Int) * (n : Int) / (b : Int)) > 1 then ((l : Int) * (n : Int) / (b : Int)) else 1) = ((Km449.change l b n : Nat) : Int) := by
      have e1 : (l : Int) * (n : Int) / (b : Int) = ((l * n / b : Nat) : Int) := by
        rw [← Int.natCast_mul, ← Int.natCast_ediv]
      rw [e1]
      unfold Km449.change
      split <;> omega
    show Q (.int (if ((l : Int) * (n : Int) / (b : Int)) > 1 then ((l : Int) * (n : Int) / (b : Int)) else 1)) H
    rw [e]
    exact k

/-- what a table and the persons are like -/
structure TabOk (tbl : List Nat) : Prop where
  len : tbl.length = 24
  val : ∀ x ∈ tbl, 1 ≤ x ∧ x ≤ 10000
theorem TabOk.get {tbl : List Nat} (t : TabOk tbl) {p c : Nat} (hp : p ≤ 5) (hc : c ≤ 3) : ∃ v, tbl[p * 4 + c]? = some v ∧ tbl.getD (p * 4 + c) 0 = v ∧ 1 ≤ v ∧ v ≤ 10000 := by
  have hi : p * 4 + c < tbl.length := by rw [t.len]; omega
  refine ⟨tbl[p * 4 + c], List.getElem?_eq_getElem hi, ?_, t.val _ (List.getElem_mem hi)⟩
  rw [List.getD_eq_getElem?_getD, List.getElem?_eq_getElem hi]
  rfl
structure SeaOk (s : Km449.Sea) : Prop where
  tab : TabOk s.table
  wat : s.water ≤ 4
  few : s.persons.length ≤ 9
  clo : ∀ x ∈ s.persons, x.clothes ≤ 3
  how : ∀ x ∈ s.persons, x.how ≤ 2
theorem place_bit (w : Nat) (b : Bool) : placeOf w (Km449.bit b : Nat) = if b = true then 5 else w := by
  unfold placeOf
  cases b <;> simp [Km449.bit]
/-- refit(sea, person, clothes, raft) -/
def sp_refit (A : Adr) : Sp := fun vs H Q _ => ∃ (a t b : Addr) (w : Nat) (tbl : List Nat) (x : Km449.Person) (c : Nat) (r : Bool), vs = [.ref a, .ref b, .int c, .int (Km449.bit r : Nat)] ∧ SeaHd A H a t w tbl ∧ w ≤ 4 ∧ TabOk tbl ∧ PersonAt A H b x ∧ x.clothes ≤ 3 ∧ c ≤ 3 ∧
  ∀ H', (∀ d o, H d = some o → d ≠ b → H' d = some o) →
    PersonAt A H' b { x with raft := r, clothes := c, left := Km449.change x.left (tbl.getD ((if x.raft = true then 5 else w) * 4 + x.clothes) 0) (tbl.getD ((if r = true then 5 else w) * 4 + c) 0) } → Q .non H'
theorem ok_refit (T : Txt K mg A) : FnOk P w K mg base CX0 3 A.f_refit A.d_refit ["sea", "person", "clothes", "raft"] (sp_refit A) := by
  refine T.refit.fn.ok sc_refit (fun vs H Q E h => ?_) (fun cdv Ar outer s H vs Q E hr h => ?_)
  · obtain ⟨a, t, b, w, tbl, x, c, r, rfl, _⟩ := h
    rfl
  · obtain ⟨a, t, b, w, tbl, x, c, r, rfl, hd, hw, ht, ⟨dx, hb⟩, hx, hc, k⟩ := h
    have hd' := hd
    obtain ⟨⟨da, m, pr, ha⟩, htl⟩ := hd'
    have nba : a ≠ b := ne_of ha hb (fun z => ps_ne z.symm)
    have ntb : t ≠ b := ne_of htl hb (by intro q; cases q)
    obtain ⟨v1, e1, g1, l1, u1⟩ := ht.get (p := if x.raft = true then 5 else w) (c := x.clothes) (by split <;> omega) hx
    obtain ⟨v2, e2, g2, l2, u2⟩ := ht.get (p := if r = true then 5 else w) (c := c) (by split <;> omega) hc
    rw [← place_bit] at e1 e2
    refine ⟨_, (pss_cons (ps_set (i := 4) sc_refit.nd rfl (by first | exact Or.inl rfl | exact Or.inr rfl) (pe_meth (pv 0) T.C_Sea.cl T.Sea_told.me (ok_Sea_told T) (hr.mono (by decide)) T.Sea_told.bd .nil pass0 (pa_cons (pe_fld (pv 1) rfl) (pa_cons (pe_fld (pv 1) rfl) pa_nil)))) (pss_cons (ps_fld (pv 1) (pv 2) rfl) (pss_cons (ps_fld (pv 1) (pv 3) rfl) (pss_one (ps_fld (pv 1) (pe_call (ok_rescaled T) (hr.mono (by decide)) (by rfl) T.rescaled.mg T.rescaled.fn.kp T.rescaled.bd .nil pass0 (pa_cons (pe_fld (pv 1) rfl) (pa_cons (pe_meth (pv 0) T.C_Sea.cl T.Sea_told.me (ok_Sea_told T) (hr.mono (by decide)) T.Sea_told.bd .nil pass0 (pa_cons (pv 2) (pa_cons (pv 3) pa_nil))) (pa_cons (pv 4) pa_nil)))) rfl))))), ?_⟩
    refine ⟨_, rfl, a, da, _, rfl, ha, rfl, _, rfl, b, _, dx, _, _, rfl, hb, T.C_Person.cl, T.nPerson_clothes, rfl, _, rfl, b, _, dx, _, _, rfl, hb, T.C_Person.cl, T.nPerson_raft, rfl, a, t, w, tbl, x.clothes, v1, _, rfl, hd, hw, e1, ?_⟩
    refine ⟨_, rfl, _, rfl, b, _, dx, _, rfl, hb, T.C_Person.cl, T.nPerson_clothes, (by show 5 < 1000; decide), ?_⟩
    refine ⟨_, rfl, _, rfl, b, _, dx, _, rfl, upd_same, T.C_Person.cl, T.nPerson_raft, (by show 5 < 1000; decide), ?_⟩
    rw [upd_upd]
    refine ⟨_, rfl, b, _, dx, _, _, rfl, upd_same, T.C_Person.cl, T.nPerson_left, rfl, ?_⟩
    have ha' : ∀ o, (upd H b o) a = some (.ins A.CSea da (sfv (.int w) (.ref t) m pr)) := fun o => by rw [upd_ne nba]; exact ha
    have ht' : ∀ o, (upd H b o) t = some (.lst (tbl.map fun x => V.int (x : Nat))) := fun o => by rw [upd_ne ntb]; exact htl
    refine ⟨_, rfl, a, da, _, rfl, ha' _, rfl, _, rfl, _, rfl, a, t, w, tbl, c, v2, _, rfl, ⟨⟨da, m, pr, ha' _⟩, ht' _⟩, hw, e2, _, rfl, x.left, v2, v1, rfl, by omega, u1, u2, ?_⟩
    refine ⟨_, rfl, b, _, dx, _, rfl, upd_same, T.C_Person.cl, T.nPerson_left, (by show 5 < 1000; decide), ?_⟩
    rw [upd_upd]
    rw [g1, g2] at k
    exact k _ (fun d o e hdb => by rw [upd_ne hdb]; exact e) ⟨dx, upd_same⟩
end
end Hh
set_option Elab.async false
set_option linter.all false
set_option maxRecDepth 100000
set_option maxHeartbeats 2000000
namespace Hh
open PySem PySem.Spec PyProof.Rows L2

/-- the first i of a list changed -/
def mixL {α : Type} (f : α → α) (l : List α) (i : Nat) : List α := (l.take i).map f ++ l.drop i
theorem mixL_zero {α : Type} (f : α → α) (l : List α) : mixL f l 0 = l := by simp [mixL]
theorem mixL_all {α : Type} (f : α → α) (l : List α) : mixL f l l.length = l.map f := by simp [mixL]
theorem mixL_at {α : Type} (f : α → α) {l : List α} {i : Nat} {x : α} (h : l[i]? = some x) : (mixL f l i)[i]? = some x := by
  have hi := (List.getElem?_eq_some_iff.mp h).1
  unfold mixL
  rw [List.getElem?_append_right (by rw [List.length_map, List.length_take]; omega), List.length_map, List.length_take, Nat.min_eq_left (by omega), Nat.sub_self, List.getElem?_drop]
  exact h
theorem mixL_set {α : Type} (f : α → α) {l : List α} {i : Nat} {x : α} (h : l[i]? = some x) : (mixL f l i).set i (f x) = mixL f l (i + 1) := by
  obtain ⟨hi, e⟩ := List.getElem?_eq_some_iff.mp h
  unfold mixL
  have hd : l.drop i = x :: l.drop (i + 1) := by rw [List.drop_eq_getElem_cons hi, e]
  rw [List.set_append_right _ _ (by rw [List.length_map, List.length_take]; omega), List.length_map, List.length_take, Nat.min_eq_left (by omega), Nat.sub_self, hd, List.set_cons_zero, take_snoc h, List.map_append, List.append_assoc]
  rfl
theorem mixL_same {α : Type} (f : α → α) {l : List α} {i : Nat} {x : α} (h : l[i]? = some x) (e : f x = x) : mixL f l i = mixL f l (i + 1) := by
  rw [← mixL_set f h, e]
  obtain ⟨hi, e'⟩ := List.getElem?_eq_some_iff.mp (mixL_at f h)
  rw [← e']
  exact (List.set_getElem_self hi).symm
def isLost (n : Nat) (x : Km449.Person) : Bool := decide (x.how = 0) && decide (x.left < n)
def lostN (l : List Km449.Person) (n : Nat) : Nat := (l.filter (isLost n)).length
theorem lostN_snoc (l : List Km449.Person) (x : Km449.Person) (n : Nat) : lostN (l ++ [x]) n = lostN l n + if isLost n x = true then 1 else 0 := by
  unfold lostN
  rw [List.filter_append, List.length_append, List.filter_cons, List.filter_nil]
  split <;> rfl

section
variable {P : Program} {w : World} {K : PySem.W.Frag} {mg : Str → Option Value} {base : Heap} {A : Adr}
def sp_pass_minutes (A : Adr) : Sp := fun vs H Q _ => ∃ (a t pl : Addr) (as : List Addr) (s : Km449.Sea) (n : Nat), vs = [.ref a, .int n] ∧ SeaAt A H a t pl as s ∧
  ∀ H', SeaAt A H' a t pl as (s.after n) → (∀ b o, H b = some o → b ≠ a → b ∉ as → H' b = some o) → Q (.int (lostN s.persons n)) H'
theorem ok_pass_minutes (T : Txt K mg A) : FnOk P w K mg base CX0 2 A.f_pass_minutes A.d_pass_minutes ["sea", "minutes"] (sp_pass_minutes A) := by
  refine T.pass_minutes.fn.ok sc_pass_minutes (fun vs H Q E h => ?_) (fun cdv Ar outer s H vs Q E hr h => ?_)
  · obtain ⟨a, t, pl, as, s, n, rfl, _⟩ := h
    rfl
  · obtain ⟨a, t, pl, as, s, n, rfl, S, k⟩ := h
    obtain ⟨da, ha⟩ := S.sea
    obtain ⟨na, npl, _⟩ := S.notin
    have nt : t ∉ as := fun z => by
      obtain ⟨x, dx, hx⟩ := S.per.mem z
      rw [S.tab] at hx
      cases hx
    have nta : t ≠ a := ne_of S.tab ha (by intro q; cases q)
    have npa : pl ≠ a := ne_of S.lst ha (by intro q; cases q)
    refine ⟨_, (pss_cons (ps_set (i := 2) sc_pass_minutes.nd rfl (by first | exact Or.inl rfl | exact Or.inr rfl) pe_int) (pss_cons (ps_for PassesOwn.never rfl (pi_list (pe_fld (pv 0) rfl)) (pg_name (i := 3) sc_pass_minutes.nd rfl (by first | exact Or.inl rfl | exact Or.inr rfl)) (pss_one (ps_if (PW.pt (pw_and (pt_val (pe_meth0 (pv 3) T.C_Person.cl T.Person_waits.me (ok_Person_waits T) (hr.mono (by decide)) T.Person_waits.bd .nil pass0)) (pw_and1 (pt_cmpR op_lt (pe_fld (pv 3) rfl) (pv 1) (nomark _))))) (pss_cons (ps_fld (pv 3) pe_int rfl) (pss_cons (ps_fld (pv 3) (pe_cst (by rfl) T.c_LOST) rfl) (pss_one (ps_aug (i := 2) sc_pass_minutes.nd rfl (by first | exact Or.inl rfl | exact Or.inr rfl) pe_int ip_add)))) (pss_one (ps_if (pt_val (pe_meth0 (pv 3) T.C_Person.cl T.Person_waits.me (ok_Person_waits T) (hr.mono (by decide)) T.Person_waits.bd .nil pass0)) (pss_one (ps_fldaug (pv 3) (pv 1) in_sub)) pss_nil))))) (pss_cons (ps_fldaug (pv 0) (pv 1) in_add) (pss_one (ps_ret (pv 2)))))), ?_⟩
    refine ⟨_, rfl, a, _, da, _, _, rfl, ha, T.C_Sea.cl, T.nSea_persons, rfl, pl, rfl, ⟨_, SqL.of S.lst⟩,
      for_list (K := K) (a := pl) (xs := as.map V.ref) (fun i σ H' => ∃ v : Option V, σ = [some (.ref a), some (.int n), some (.int (lostN (s.persons.take i) n)), v] ∧ (∀ b o, H b = some o → b ∉ as → H' b = some o) ∧ PersonsAt A H' as (mixL (fun x => x.after n) s.persons i))
      ⟨none, rfl, fun b o e _ => e, by rw [mixL_zero]; exact S.per⟩ (fun i σ H' _ ⟨v, _, fr, _⟩ => SqL.of (fr _ _ S.lst npl)) ?_ ?_⟩
    · rintro i y σ H' hi ⟨v, rfl, fr, pr⟩
      obtain ⟨c, hc, rfl⟩ := get_map hi
      obtain ⟨x, hx, _⟩ := S.per.at hc
      obtain ⟨x', hx', dx, hcx⟩ := pr.at hc
      rw [mixL_at _ hx] at hx'
      cases hx'
      have mc : c ∈ as := List.mem_of_getElem? hc
      have fr' : ∀ {H2 : Hp}, (∀ b o, H' b = some o → b ≠ c → H2 b = some o) → ∀ b o, H b = some o → b ∉ as → H2 b = some o := fun {H2} kp b o e hb => kp b o (fr b o e hb) fun z => hb (by rw [z]; exact mc)
      have pr' : ∀ {H2 : Hp}, PersonAt A H2 c (x.after n) → (∀ b o, H' b = some o → b ≠ c → H2 b = some o) → PersonsAt A H2 as (mixL (fun x => x.after n) s.persons (i + 1)) := fun {H2} pa kp => by
        rw [← mixL_set _ hx]
        exact pr.set hc pa kp
      have lost : lostN (s.persons.take (i + 1)) n = lostN (s.persons.take i) n + if isLost n x = true then 1 else 0 := by rw [take_snoc hx, lostN_snoc]
      refine ⟨_, rfl, c, dx, _, rfl, hcx, rfl, c, x, rfl, ⟨dx, hcx⟩, _, rfl, ?_⟩
      refine ite2 (fun h1 => ?_) (fun h1 => ?_)
      · have h1 := of_decide_eq_true h1
        refine ⟨_, rfl, c, _, dx, _, _, rfl, hcx, T.C_Person.cl, T.nPerson_left, rfl, _, rfl, _, _, rfl, rfl, _, rfl, ?_⟩
        refine ite2 (fun h2 => ?_) (fun h2 => ?_)
        · have h2 : x.left < n := by have := of_decide_eq_true h2; omega
          have hl : isLost n x = true := by unfold isLost; rw [h1]; simp [h2]
          have ea : x.after n = { x with left := 0, how := 2 } := by unfold Km449.Person.after; rw [if_pos h1, if_pos h2]
          refine ⟨_, rfl, c, _, dx, _, rfl, hcx, T.C_Person.cl, T.nPerson_left, (by show 5 < 1000; decide), ?_⟩
          refine ⟨_, rfl, c, _, dx, _, rfl, upd_same, T.C_Person.cl, T.nPerson_fate, (by show 5 < 1000; decide), ?_⟩
          refine ⟨_, rfl, _, _, rfl, rfl, ?_⟩
          refine ⟨some (.ref c), ?_, fr' (fun b o e hb => by rw [upd_ne hb, upd_ne hb]; exact e), pr' ?_ (fun b o e hb => by rw [upd_ne hb, upd_ne hb]; exact e)⟩
          · rw [lost, if_pos hl]
            rfl
          · rw [upd_upd, ea]
            exact ⟨dx, upd_same⟩
        · have h2 : ¬ x.left < n := fun z => h2 (decide_eq_true (by omega))
          have hl : ¬ isLost n x = true := by unfold isLost; simp [h2]
          have ea : x.after n = { x with left := x.left - n } := by unfold Km449.Person.after; rw [if_pos h1, if_neg h2]
          refine ⟨_, rfl, c, dx, _, rfl, hcx, rfl, c, x, rfl, ⟨dx, hcx⟩, _, rfl, ?_⟩
          rw [h1]
          refine ⟨_, rfl, c, _, dx, _, _, rfl, hcx, T.C_Person.cl, T.nPerson_left, rfl, _, rfl, _, _, rfl, rfl, dx, _, hcx, (by show 5 < 1000; decide), ?_⟩
          refine ⟨some (.ref c), ?_, fr' (fun b o e hb => by rw [upd_ne hb]; exact e), pr' ?_ (fun b o e hb => by rw [upd_ne hb]; exact e)⟩
          · rw [lost, if_neg hl]
            rfl
          · rw [ea]
            have e : ((x.left - n : Nat) : Int) = (x.left : Int) - (n : Int) := by omega
            refine ⟨dx, ?_⟩
            rw [upd_same]
            unfold pfs
            rw [e]
            rfl
      · have h1 : ¬ x.how = 0 := fun z => h1 (decide_eq_true z)
        have hl : ¬ isLost n x = true := by unfold isLost; simp [h1]
        have ea : x.after n = x := by unfold Km449.Person.after; rw [if_neg h1]
        refine ⟨_, rfl, c, dx, _, rfl, hcx, rfl, c, x, rfl, ⟨dx, hcx⟩, _, rfl, ?_⟩
        rw [decide_eq_false h1]
        refine ⟨some (.ref c), ?_, fr, by rw [← mixL_same (fun x : Km449.Person => x.after n) hx ea]; exact pr⟩
        rw [lost, if_neg hl]
        rfl
    · rintro σ H' ⟨v, rfl, fr, pr⟩
      rw [List.length_map, S.per.len, mixL_all] at pr
      have ha' := fr _ _ ha na
      refine ⟨_, rfl, a, _, da, _, _, rfl, ha', T.C_Sea.cl, T.nSea_minute, rfl, _, rfl, _, _, rfl, rfl, da, _, ha', (by show 4 < 1000; decide), ?_⟩
      refine ⟨_, rfl, ?_⟩
      rw [List.length_map, S.per.len, List.take_length]
      refine k _ ⟨⟨da, ?_⟩, ?_, ?_, S.ne, ?_⟩ fun b o e hb hba => by rw [upd_ne hb]; exact fr b o e hba
      · rw [upd_same]
        rfl
      · rw [upd_ne nta]
        exact fr _ _ S.tab nt
      · rw [upd_ne npa]
        exact fr _ _ S.lst npl
      · exact pr.keep fun b o e hb => by rw [upd_ne (fun z => na (by rw [← z]; exact hb))]; exact e
end
end Hh
set_option Elab.async false
set_option linter.all false
set_option maxRecDepth 100000
set_option maxHeartbeats 2000000
namespace Hh
open PySem PySem.Spec PyProof.Rows L2

theorem person_at {s : Km449.Sea} {p : Nat} {x : Km449.Person} (h : s.persons[p]? = some x) : s.person p = x := by
  unfold Km449.Sea.person
  rw [List.getD_eq_getElem?_getD, h]
  rfl
theorem after_at {s : Km449.Sea} {p : Nat} {x : Km449.Person} (h : s.persons[p]? = some x) (n : Nat) : (s.after n).persons[p]? = some (x.after n) := by
  show (s.persons.map _)[p]? = _
  rw [List.getElem?_map, h]
  rfl
theorem after_lost {x : Km449.Person} {n : Nat} (h : x.how = 0) (h2 : x.left < n) : x.after n = { x with left := 0, how := 2 } := by unfold Km449.Person.after; rw [if_pos h, if_pos h2]
theorem after_left {x : Km449.Person} {n : Nat} (h : x.how = 0) (h2 : ¬ x.left < n) : x.after n = { x with left := x.left - n } := by unfold Km449.Person.after; rw [if_pos h, if_neg h2]

section
variable {P : Program} {w : World} {K : PySem.W.Frag} {mg : Str → Option Value} {base : Heap} {A : Adr}
/-- how many others are lost while p is taken up -/
def othersN (s : Km449.Sea) (p : Nat) : Int := (lostN s.persons (s.person p).takes : Int) - (if (s.person p).left < (s.person p).takes then 1 else 0)
def sp_take_up (A : Adr) : Sp := fun vs H Q _ => ∃ (a t pl : Addr) (as : List Addr) (s : Km449.Sea) (p : Nat) (x : Km449.Person), vs = [.ref a, .int p] ∧ SeaAt A H a t pl as s ∧ s.persons[p]? = some x ∧ x.how = 0 ∧
  ∀ H', SeaAt A H' a t pl as (s.takeUp p) → (∀ b o, H b = some o → b ≠ a → b ∉ as → H' b = some o) → Q (.int (othersN s p)) H'
theorem ok_take_up (T : Txt K mg A) : FnOk P w K mg base CX0 3 A.f_take_up A.d_take_up ["sea", "p"] (sp_take_up A) := by
  refine T.take_up.fn.ok sc_take_up (fun vs H Q E h => ?_) (fun cdv Ar outer s H vs Q E hr h => ?_)
  · obtain ⟨a, t, pl, as, s, p, x, rfl, _⟩ := h
    rfl
  · obtain ⟨a, t, pl, as, s, p, x, rfl, S, hx, h0, k⟩ := h
    obtain ⟨da, ha⟩ := S.sea
    obtain ⟨b, hb, dx, hbx⟩ := S.per.get hx
    have ep := person_at hx
    refine ⟨_, (pss_cons (ps_set (i := 2) sc_take_up.nd rfl (by first | exact Or.inl rfl | exact Or.inr rfl) (pe_ix ix_list (pe_fld (pv 0) rfl) (pv 1) (fun _ _ => rfl))) (pss_cons (ps_set (i := 3) sc_take_up.nd rfl (by first | exact Or.inl rfl | exact Or.inr rfl) (pe_call (ok_pass_minutes T) (hr.mono (by decide)) (by rfl) T.pass_minutes.mg T.pass_minutes.fn.kp T.pass_minutes.bd .nil pass0 (pa_cons (pv 0) (pa_cons (pe_fld (pv 2) rfl) pa_nil)))) (pss_cons (ps_if (pt_val (pe_meth0 (pv 2) T.C_Person.cl T.Person_waits.me (ok_Person_waits T) (hr.mono (by decide)) T.Person_waits.bd .nil pass0)) (pss_cons (ps_fld (pv 2) (pe_cst (by rfl) T.c_TAKEN_UP) rfl) (pss_one (ps_ret (pv 3)))) pss_nil) (pss_one (ps_ret (pe_op op_sub (pv 3) pe_int)))))), ?_⟩
    refine ⟨_, rfl, a, _, da, _, _, rfl, ha, T.C_Sea.cl, T.nSea_persons, rfl, _, rfl, pl, _, _, V.ref b, rfl, rfl, SqL.of S.lst, at_of (j := p) rfl (by rw [List.getElem?_map, hb]; rfl), ?_⟩
    refine ⟨_, rfl, _, rfl, b, _, dx, _, _, rfl, hbx, T.C_Person.cl, T.nPerson_takes, rfl, a, t, pl, as, s, x.takes, rfl, S, fun H' S' fr => ?_⟩
    obtain ⟨dx', hbx'⟩ := S'.per.per p b _ hb (after_at hx x.takes)
    have mb : b ∈ as := List.mem_of_getElem? hb
    obtain ⟨na, npl, _⟩ := S'.notin
    refine ⟨_, rfl, b, dx', _, rfl, hbx', rfl, b, _, rfl, ⟨dx', hbx'⟩, _, rfl, ?_⟩
    by_cases hl : x.left < x.takes
    · rw [after_lost h0 hl]
      refine ⟨_, rfl, _, _, rfl, rfl, ?_⟩
      have et : s.takeUp p = s.after x.takes := by
        unfold Km449.Sea.takeUp
        rw [ep]
        show (if x.takes ≤ x.left then _ else s.after x.takes) = _
        rw [if_neg (by omega)]
      have eo : othersN s p = (lostN s.persons x.takes : Int) - 1 := by unfold othersN; rw [ep, if_pos hl]
      rw [et, eo] at k
      exact k H' S' fr
    · have hd : decide ((x.after x.takes).how = 0) = true := by rw [after_left h0 hl]; exact decide_eq_true h0
      rw [hd]
      have et : s.takeUp p = (s.after x.takes).set p { x with how := 1, left := x.left - x.takes } := by
        unfold Km449.Sea.takeUp
        rw [ep]
        show (if x.takes ≤ x.left then _ else s.after x.takes) = _
        rw [if_pos (by omega)]
      have eo : othersN s p = (lostN s.persons x.takes : Int) := by unfold othersN; rw [ep, if_neg hl]; omega
      rw [et, eo] at k
      refine ⟨_, rfl, b, _, dx', _, rfl, hbx', T.C_Person.cl, T.nPerson_fate, (by show 5 < 1000; decide), ?_⟩
      refine ⟨_, rfl, ?_⟩
      have kp : ∀ {o : HO} (d : Addr) (u : HO), H' d = some u → d ≠ b → (upd H' b o) d = some u := fun d u e hd => by rw [upd_ne hd]; exact e
      obtain ⟨da', ha'⟩ := S'.sea
      refine k _ ⟨⟨da', ?_⟩, ?_, ?_, S.ne, ?_⟩ fun d o e h1 h2 => ?_
      · exact kp a _ ha' fun z => na (by rw [z]; exact mb)
      · exact kp t _ S'.tab (ne_of S'.tab hbx' (by intro q; cases q))
      · exact kp pl _ S'.lst fun z => npl (by rw [z]; exact mb)
      · refine S'.per.set hb ⟨dx', ?_⟩ fun d u e hd => kp d u e hd
        rw [upd_same, after_left h0 hl]
        rfl
      · exact kp d o (fr d o e h1 h2) fun z => h2 (by rw [z]; exact mb)

def warmP (s : Km449.Sea) (w : Nat) (x : Km449.Person) : Km449.Person := if x.how = 0 ∧ x.raft = false then { x with left := Km449.change x.left (s.hours s.water x.clothes) (s.hours w x.clothes) } else x
def sp_turn_water (A : Adr) : Sp := fun vs H Q _ => ∃ (a t pl : Addr) (as : List Addr) (s : Km449.Sea) (w : Nat), vs = [.ref a, .int w] ∧ SeaAt A H a t pl as s ∧ SeaOk s ∧ w ≤ 4 ∧
  ∀ H', SeaAt A H' a t pl as (s.warm w) → (∀ b o, H b = some o → b ≠ a → b ∉ as → H' b = some o) → Q .non H'
theorem ok_turn_water (T : Txt K mg A) : FnOk P w K mg base CX0 2 A.f_turn_water A.d_turn_water ["sea", "water"] (sp_turn_water A) := by
  refine T.turn_water.fn.ok sc_turn_water (fun vs H Q E h => ?_) (fun cdv Ar outer s H vs Q E hr h => ?_)
  · obtain ⟨a, t, pl, as, s, w, rfl, _⟩ := h
    rfl
  · obtain ⟨a, t, pl, as, s, w, rfl, S, ok, hw, k⟩ := h
    obtain ⟨da, ha⟩ := S.sea
    obtain ⟨na, npl, _⟩ := S.notin
    have nt : t ∉ as := fun z => by
      obtain ⟨x, dx, hx⟩ := S.per.mem z
      rw [S.tab] at hx
      cases hx
    have nta : t ≠ a := ne_of S.tab ha (by intro q; cases q)
    have npa : pl ≠ a := ne_of S.lst ha (by intro q; cases q)
    refine ⟨_, (pss_cons (ps_for PassesOwn.never rfl (pi_list (pe_fld (pv 0) rfl)) (pg_name (i := 2) sc_turn_water.nd rfl (by first | exact Or.inl rfl | exact Or.inr rfl)) (pss_one (ps_if (PW.pt (pw_and (pt_val (pe_meth0 (pv 2) T.C_Person.cl T.Person_waits.me (ok_Person_waits T) (hr.mono (by decide)) T.Person_waits.bd .nil pass0)) (pw_and1 (pt_cmpR op_eq (pe_fld (pv 2) rfl) pe_int (nomark _))))) (pss_cons (ps_set (i := 3) sc_turn_water.nd rfl (by first | exact Or.inl rfl | exact Or.inr rfl) (pe_meth (pv 0) T.C_Sea.cl T.Sea_told_at.me (ok_Sea_told_at T) (hr.mono (by decide)) T.Sea_told_at.bd .nil pass0 (pa_cons (pe_fld (pv 0) rfl) (pa_cons (pe_fld (pv 2) rfl) pa_nil)))) (pss_one (ps_fld (pv 2) (pe_call (ok_rescaled T) (hr.mono (by decide)) (by rfl) T.rescaled.mg T.rescaled.fn.kp T.rescaled.bd .nil pass0 (pa_cons (pe_fld (pv 2) rfl) (pa_cons (pe_meth (pv 0) T.C_Sea.cl T.Sea_told_at.me (ok_Sea_told_at T) (hr.mono (by decide)) T.Sea_told_at.bd .nil pass0 (pa_cons (pv 1) (pa_cons (pe_fld (pv 2) rfl) pa_nil))) (pa_cons (pv 3) pa_nil)))) rfl))) pss_nil))) (pss_one (ps_fld (pv 0) (pv 1) rfl))), ?_⟩
    refine ⟨_, rfl, a, _, da, _, _, rfl, ha, T.C_Sea.cl, T.nSea_persons, rfl, pl, rfl, ⟨_, SqL.of S.lst⟩,
      for_list (K := K) (a := pl) (xs := as.map V.ref) (fun i σ H' => ∃ v v' : Option V, σ = [some (.ref a), some (.int w), v, v'] ∧ (∀ b o, H b = some o → b ∉ as → H' b = some o) ∧ PersonsAt A H' as (mixL (warmP s w) s.persons i))
      ⟨none, none, rfl, fun b o e _ => e, by rw [mixL_zero]; exact S.per⟩ (fun i σ H' _ ⟨v, v', _, fr, _⟩ => SqL.of (fr _ _ S.lst npl)) ?_ ?_⟩
    · rintro i y σ H' hi ⟨v, v', rfl, fr, pr⟩
      obtain ⟨c, hc, rfl⟩ := get_map hi
      obtain ⟨x, hx, _⟩ := S.per.at hc
      obtain ⟨x', hx', dx, hcx⟩ := pr.at hc
      rw [mixL_at _ hx] at hx'
      cases hx'
      have mc : c ∈ as := List.mem_of_getElem? hc
      have hxc : x.clothes ≤ 3 := ok.clo x (List.mem_of_getElem? hx)
      have ha' := fr _ _ ha na
      have hd : SeaHd A H' a t s.water s.table := ⟨⟨da, _, _, ha'⟩, fr _ _ S.tab nt⟩
      obtain ⟨v1, e1, g1, l1, u1⟩ := ok.tab.get (p := s.water) (c := x.clothes) (by have := ok.wat; omega) hxc
      obtain ⟨v2, e2, g2, l2, u2⟩ := ok.tab.get (p := w) (c := x.clothes) (by omega) hxc
      refine ⟨_, rfl, c, dx, _, rfl, hcx, rfl, c, x, rfl, ⟨dx, hcx⟩, _, rfl, ?_⟩
      refine ite2 (fun h1 => ?_) (fun h1 => ?_)
      · have h1 := of_decide_eq_true h1
        refine ⟨_, rfl, c, _, dx, _, _, rfl, hcx, T.C_Person.cl, T.nPerson_raft, rfl, rfl, _, rfl, ?_⟩
        have er : decide (V.int ((Km449.bit x.raft : Nat) : Int) = V.int 0) = decide (x.raft = false) := by
          rw [dec_int1, decide_eq_decide]
          cases x.raft <;> simp [Km449.bit]
        show if decide (V.int ((Km449.bit x.raft : Nat) : Int) = V.int 0) = true then _ else _
        rw [er]
        refine ite2 (fun h2 => ?_) (fun h2 => ?_)
        · have h2 := of_decide_eq_true h2
          have ew : warmP s w x = { x with left := Km449.change x.left v1 v2 } := by
            unfold warmP
            rw [if_pos ⟨h1, h2⟩]
            have q1 : s.hours s.water x.clothes = v1 := g1
            have q2 : s.hours w x.clothes = v2 := g2
            rw [q1, q2]
          refine ⟨_, rfl, a, da, _, rfl, ha', rfl, _, rfl, a, _, da, _, _, rfl, ha', T.C_Sea.cl, T.nSea_water, rfl, _, rfl, c, _, dx, _, _, rfl, hcx, T.C_Person.cl, T.nPerson_clothes, rfl, a, t, _, _, s.water, x.clothes, v1, rfl, hd, by have := ok.wat; omega, e1, ?_⟩
          refine ⟨_, rfl, c, _, dx, _, _, rfl, hcx, T.C_Person.cl, T.nPerson_left, rfl, _, rfl, a, da, _, rfl, ha', rfl, _, rfl, _, rfl, c, _, dx, _, _, rfl, hcx, T.C_Person.cl, T.nPerson_clothes, rfl, a, t, _, _, w, x.clothes, v2, rfl, hd, by omega, e2, _, rfl, x.left, v2, v1, rfl, by omega, u1, u2, ?_⟩
          refine ⟨_, rfl, c, _, dx, _, rfl, hcx, T.C_Person.cl, T.nPerson_left, (by show 5 < 1000; decide), ?_⟩
          refine ⟨some (.ref c), some (.int v1), rfl, fun b o e hb => ?_, ?_⟩
          · rw [upd_ne (fun z => hb (by rw [z]; exact mc))]
            exact fr b o e hb
          · rw [← mixL_set (warmP s w) hx]
            refine pr.set hc ⟨dx, ?_⟩ fun b o e hb => by rw [upd_ne hb]; exact e
            rw [upd_same, ew]
            rfl
        · have h2 : ¬ x.raft = false := fun z => h2 (decide_eq_true z)
          have ew : warmP s w x = x := by unfold warmP; rw [if_neg (fun z => h2 z.2)]
          exact ⟨some (.ref c), v', rfl, fr, by rw [← mixL_same (warmP s w) hx ew]; exact pr⟩
      · have h1 : ¬ x.how = 0 := fun z => h1 (decide_eq_true z)
        have ew : warmP s w x = x := by unfold warmP; rw [if_neg (fun z => h1 z.1)]
        exact ⟨some (.ref c), v', rfl, fr, by rw [← mixL_same (warmP s w) hx ew]; exact pr⟩
    · rintro σ H' ⟨v, v', rfl, fr, pr⟩
      rw [List.length_map, S.per.len, mixL_all] at pr
      have ha' := fr _ _ ha na
      refine ⟨_, rfl, _, rfl, a, _, da, _, rfl, ha', T.C_Sea.cl, T.nSea_water, (by show 4 < 1000; decide), ?_⟩
      refine k _ ⟨⟨da, ?_⟩, ?_, ?_, S.ne, ?_⟩ fun b o e hb hba => by rw [upd_ne hb]; exact fr b o e hba
      · rw [upd_same]
        rfl
      · rw [upd_ne nta]
        exact fr _ _ S.tab nt
      · rw [upd_ne npa]
        exact fr _ _ S.lst npl
      · exact pr.keep fun b o e hb => by rw [upd_ne (fun z => na (by rw [← z]; exact hb))]; exact e

theorem range_snoc_filter (f : Nat → Bool) (i : Nat) : (List.range (i + 1)).filter f = (List.range i).filter f ++ if f i = true then [i] else [] := by
  rw [List.range_succ, List.filter_append, List.filter_cons, List.filter_nil]
def fares (s : Km449.Sea) (f : Nat) : List Nat := (List.range s.persons.length).filter fun p => (s.person p).how == f
theorem fares_len (s : Km449.Sea) (f : Nat) : (fares s f).length ≤ s.persons.length := by
  refine Nat.le_trans (List.length_filter_le _ _) ?_
  rw [List.length_range]
  exact Nat.le_refl _
abbrev numsV (l : List Nat) : List V := l.map fun (p : Nat) => V.int (p : Nat)
def sp_Sea_numbers_of (A : Adr) : Sp := fun vs H Q _ => ∃ (a t pl : Addr) (as : List Addr) (s : Km449.Sea) (f : Nat), vs = [.ref a, .int f] ∧ SeaAt A H a t pl as s ∧ s.persons.length ≤ 9 ∧
  ∀ D H', Same H H' → H D = none → H' D = some (.lst (numsV (fares s f))) → Q (.ref D) H'
theorem ok_Sea_numbers_of (T : Txt K mg A) : FnOk P w K mg base CX0 1 A.f_Sea_numbers_of A.d_Sea_numbers_of ["self", "fate"] (sp_Sea_numbers_of A) := by
  refine T.Sea_numbers_of.fn.ok sc_Sea_numbers_of (fun vs H Q E h => ?_) (fun cdv Ar outer s H vs Q E hr h => ?_)
  · obtain ⟨a, t, pl, as, s, f, rfl, _⟩ := h
    rfl
  · obtain ⟨a, t, pl, as, s, f, rfl, S, hn, k⟩ := h
    obtain ⟨da, ha⟩ := S.sea
    refine ⟨_, (pss_one (ps_ret (pe_lc rfl sc_Sea_numbers_of.nd (pi_enum (by rfl) T.n_enumerate (pa_cons (pe_fld (pv 0) rfl) pa_nil)) (blkOk_by (N := ["self", "fate", "number", "person"]) (sc := defScope st_Sea_numbers_of) (own := [("number", 2), ("person", 3)]) (by decide +kernel)) (fun _ _ _ _ _ => (pg_tupK (K := K) (n := 2) rfl rfl (pgs_cons (pg_name (i := 2) sc_Sea_numbers_of.nd rfl (by first | exact Or.inl rfl | exact Or.inr rfl)) (pgs_cons (pg_name (i := 3) sc_Sea_numbers_of.nd rfl (by first | exact Or.inl rfl | exact Or.inr rfl)) pgs_nil)))) (fun _ _ _ _ _ => (pts_one (pt_cmpR op_eq (pe_fldK (K := K) rfl (pv 3) rfl) (pv 1) (nomark _)))) (fun _ _ _ _ _ => (pv 2))))), ?_⟩
    refine ⟨_, rfl, a, _, da, _, _, rfl, ha, T.C_Sea.cl, T.nSea_persons, rfl, pl, _, rfl, SqL.of S.lst, ?_⟩
    intro D hD
    refine lc_enum (K := K) (a := pl) (xs := as.map V.ref) (fun i H' => Same H H' ∧ H' D = some (.lst (numsV ((List.range i).filter fun p => (s.person p).how == f))))
      ⟨same_upd (Same.refl _) hD, upd_same⟩ (fun i H' _ ⟨sm, _⟩ => SqL.of (sm _ _ S.lst)) ?_ ?_
    · rintro i y H' Tp hi ⟨sm, hD'⟩ hTp
      obtain ⟨c, hc, rfl⟩ := get_map hi
      obtain ⟨x, hx, dx, hcx⟩ := S.per.at hc
      have hi9 : i < 9 := by
        have := (List.getElem?_eq_some_iff.mp hx).1
        omega
      have ep := person_at hx
      have sm2 : Same H' (upd H' Tp (.tup [.int (i : Nat), .ref c])) := same_upd (Same.refl _) hTp
      have hcx' := sm2 _ _ (sm _ _ hcx)
      refine ⟨Tp, _, rfl, SqT.of upd_same, rfl, _, _, rfl, _, _, rfl, rfl, rfl, ?_⟩
      refine ⟨_, rfl, c, _, dx, _, _, rfl, hcx', T.C_Person.cl, T.nPerson_fate, rfl, _, rfl, rfl, _, rfl, ?_⟩
      have e0 : decide (V.int (x.how : Int) = V.int (f : Int)) = decide (x.how = f) := dec_nat
      show if decide (V.int (x.how : Int) = V.int (f : Int)) = true then _ else _
      rw [e0]
      refine ite2 (fun h1 => ?_) (fun h1 => ?_)
      · have h1 := of_decide_eq_true h1
        refine ⟨_, rfl, _, sm2 _ _ hD', ?_, same_upd (sm.trans sm2) hD, ?_⟩
        · rw [List.length_map]
          refine small9 (Nat.le_trans (List.length_filter_le _ _) ?_)
          rw [List.length_range]
          omega
        · rw [upd_same, range_snoc_filter, ep, h1, if_pos (by simp)]
          unfold numsV
          rw [List.map_append]
          rfl
      · have h1 : ¬ x.how = f := fun z => h1 (decide_eq_true z)
        refine ⟨sm.trans sm2, ?_⟩
        rw [range_snoc_filter, ep, if_neg (by simpa using h1), List.append_nil]
        exact sm2 _ _ hD'
    · rintro H' ⟨sm, hD'⟩
      rw [List.length_map, S.per.len] at hD'
      exact k D H' sm hD hD'
end
end Hh
set_option Elab.async false
set_option linter.all false
set_option maxRecDepth 100000
set_option maxHeartbeats 2000000
namespace Hh
open PySem PySem.Spec PyProof.Rows L2

def gfv (b s m p : Int) : List (Str × V) := [("bits", .int b), ("size", .int s), ("minutes", .int m), ("spare", .int p)]
def gfs (g : Grp) : List (Str × V) := gfv g.bits g.size g.minutes g.spare
def GroupAt (A : Adr) (H : Hp) (a : Addr) (g : Grp) : Prop := ∃ dx, H a = some (.ins A.CGroup dx (gfs g))
theorem GroupAt.sm {A : Adr} {H H' : Hp} {a : Addr} {g : Grp} (e : Sm H H') (p : GroupAt A H a g) : GroupAt A H' a g := let ⟨dx, h⟩ := p; ⟨dx, e.ins h⟩
def joinV (g : Grp) (p tk lf : Nat) : Grp := ⟨g.bits ||| 1 <<< p, g.size + 1, g.minutes + tk, min g.spare ((lf : Int) - ((g.minutes + tk : Nat) : Int))⟩
theorem join_eq (s : Km449.Sea) (g : Grp) (p : Nat) : g.join s p = joinV g p (s.person p).takes (s.person p).left := rfl
def lamAt (st : Stmt) : Pos := match defBody st with
  | [.Return (some (.Call _ _ [⟨_, .Lambda _ _ _ pos, _⟩] _)) _] => pos
  | _ => ⟨0, 0, 0, 0⟩
/-- the table of numbers_by_left's code -/
def TabL (A : Adr) (H : Hp) : Prop := Tab A.tP (lamAt st_numbers_by_left) ((("numbers_by_left" : Str) ++ (".<locals>." : Str)) ++ ("<lambda>" : Str)) H
theorem TabL.same {A : Adr} {H H' : Hp} (t : TabL A H) (h : Same H H') : TabL A H' := Tab.same t h
theorem order_of {s : Km449.Sea} {ms : List Int} (hp : ms.Perm (s.waits.map fun (p : Nat) => (p : Int))) (hw : ms.Pairwise (kle2 fun n => ((s.person n.toNat).left : Int))) : ms = (order s).map fun (p : Nat) => (p : Int) := by
  have nn : ∀ n ∈ ms, 0 ≤ n := fun n hn => by
    obtain ⟨p, _, rfl⟩ := List.mem_map.mp (hp.mem_iff.mp hn)
    omega
  have e1 : ms = (ms.map Int.toNat).map fun (p : Nat) => (p : Int) := by
    rw [List.map_map]
    conv => lhs; rw [← List.map_id ms]
    refine List.map_congr_left fun n hn => ?_
    have := nn n hn
    show n = ((n.toNat : Nat) : Int)
    omega
  have e2 : ms.map Int.toNat = order s := by
    refine byTime_unique (waits_sorted s) ?_ ?_
    · have q := hp.map Int.toNat
      rw [List.map_map] at q
      have e3 : s.waits.map (Int.toNat ∘ fun (p : Nat) => (p : Int)) = s.waits := by
        conv => rhs; rw [← List.map_id s.waits]
        exact List.map_congr_left fun p _ => by simp
      rw [e3] at q
      exact q
    · rw [List.pairwise_map]
      refine hw.imp_of_mem fun {a b} ha hb h => ?_
      have h1 := nn a ha
      have h2 := nn b hb
      have h : ((s.person a.toNat).left : Int) < ((s.person b.toNat).left : Int) ∨ (((s.person a.toNat).left : Int) = ((s.person b.toNat).left : Int) ∧ a ≤ b) := h
      unfold Before lf
      omega
  rw [← e2]
  exact e1

section
variable {P : Program} {w : World} {K : PySem.W.Frag} {mg : Str → Option Value} {base : Heap} {A : Adr}
def sp_Group_init (A : Adr) : Sp := fun vs H Q _ => ∃ (p dx : Addr) (b s m r : Int), vs = [.ref p, .int b, .int s, .int m, .int r] ∧ H p = some (.ins A.CGroup dx []) ∧ Q .non (upd H p (.ins A.CGroup dx (gfv b s m r)))
theorem ok_Group_init (T : Txt K mg A) : FnOk P w K mg base CX0 1 A.f_Group_init A.d_Group_init ["self", "bits", "size", "minutes", "spare"] (sp_Group_init A) := by
  refine T.Group_init.fn.ok sc_Group_init (fun vs H Q E h => ?_) (fun cdv Ar outer s H vs Q E hr h => ?_)
  · obtain ⟨p, dx, b, s, m, r, rfl, _⟩ := h
    rfl
  · obtain ⟨p, dx, b, sz, m, r, rfl, hp, k⟩ := h
    refine ⟨_, (pss_cons (ps_fld (pv 0) (pv 1) rfl) (pss_cons (ps_fld (pv 0) (pv 2) rfl) (pss_cons (ps_fld (pv 0) (pv 3) rfl) (pss_one (ps_fld (pv 0) (pv 4) rfl))))), ?_⟩
    refine ⟨_, rfl, _, rfl, p, _, dx, _, rfl, hp, T.C_Group.cl, T.nGroup_bits, (by show 0 < 1000; decide), ?_⟩
    refine ⟨_, rfl, _, rfl, p, _, dx, _, rfl, upd_same, T.C_Group.cl, T.nGroup_size, (by show 1 < 1000; decide), ?_⟩
    refine ⟨_, rfl, _, rfl, p, _, dx, _, rfl, upd_same, T.C_Group.cl, T.nGroup_minutes, (by show 2 < 1000; decide), ?_⟩
    refine ⟨_, rfl, _, rfl, p, _, dx, _, rfl, upd_same, T.C_Group.cl, T.nGroup_spare, (by show 3 < 1000; decide), ?_⟩
    rw [upd_upd, upd_upd, upd_upd]
    exact k
theorem bit_test (w p : Nat) : decide (V.int (Builtin.bitAnd ((w : Int) / 2 ^ ((p : Int)).toNat) 1) = V.int 1) = w.testBit p := by
  rw [dec_int1, bitAnd_m1, Nat.testBit_eq_decide_div_mod_eq, decide_eq_decide, Int.toNat_natCast]
  have e : (w : Int) / 2 ^ p = ((w / 2 ^ p : Nat) : Int) := by
    rw [Int.natCast_ediv, Int.natCast_pow]
    rfl
  rw [e]
  omega
def sp_Group_has (A : Adr) : Sp := fun vs H Q _ => ∃ (a : Addr) (g : Grp) (p : Nat), vs = [.ref a, .int p] ∧ GroupAt A H a g ∧ Q (.bl (g.bits.testBit p)) H
theorem ok_Group_has (T : Txt K mg A) : FnOk P w K mg base CX0 1 A.f_Group_has A.d_Group_has ["self", "number"] (sp_Group_has A) := by
  refine T.Group_has.fn.ok sc_Group_has (fun vs H Q E h => ?_) (fun cdv Ar outer s H vs Q E hr h => ?_)
  · obtain ⟨a, g, p, rfl, _⟩ := h
    rfl
  · obtain ⟨a, g, p, rfl, ⟨da, ha⟩, k⟩ := h
    refine ⟨_, (pss_one (ps_ret (pe_cmpR op_eq (pe_op op_and (pe_op op_shr (pe_fld (pv 0) rfl) (pv 1)) pe_int) pe_int (nomark _)))), ?_⟩
    refine ⟨_, rfl, a, _, da, _, _, rfl, ha, T.C_Group.cl, T.nGroup_bits, rfl, _, rfl, _, _, rfl, rfl, by omega, _, _, rfl, rfl, rfl, ?_⟩
    show Q (.bl (decide (V.int (Builtin.bitAnd ((g.bits : Int) / 2 ^ ((p : Int)).toNat) 1) = V.int 1))) H
    rw [bit_test]
    exact k
def sp_Group_joined_by (A : Adr) : Sp := fun vs H Q _ => ∃ (a c : Addr) (g : Grp) (p : Nat) (x : Km449.Person), vs = [.ref a, .int p, .ref c] ∧ GroupAt A H a g ∧ PersonAt A H c x ∧ p ≤ 8 ∧
  ∀ b H', H b = none → Same H H' → GroupAt A H' b (joinV g p x.takes x.left) → Q (.ref b) H'
theorem ok_Group_joined_by (T : Txt K mg A) : FnOk P w K mg base CX0 3 A.f_Group_joined_by A.d_Group_joined_by ["self", "number", "person"] (sp_Group_joined_by A) := by
  refine T.Group_joined_by.fn.ok sc_Group_joined_by (fun vs H Q E h => ?_) (fun cdv Ar outer s H vs Q E hr h => ?_)
  · obtain ⟨a, c, g, p, x, rfl, _⟩ := h
    rfl
  · obtain ⟨a, c, g, p, x, rfl, ⟨da, ha⟩, ⟨dc, hc⟩, hp, k⟩ := h
    refine ⟨_, (pss_cons (ps_set (i := 3) sc_Group_joined_by.nd rfl (by first | exact Or.inl rfl | exact Or.inr rfl) (pe_op op_add (pe_fld (pv 0) rfl) (pe_fld (pv 2) rfl))) (pss_cons (ps_set (i := 4) sc_Group_joined_by.nd rfl (by first | exact Or.inl rfl | exact Or.inr rfl) (pe_callB (call_min2 rfl) (by rfl) T.n_min boot_min (pa_cons (pe_fld (pv 0) rfl) (pa_cons (pe_op op_sub (pe_fld (pv 2) rfl) (pv 3)) pa_nil)))) (pss_one (ps_ret (pe_make T.C_Group.made (ok_Group_init T) (hr.mono (by decide)) (by rfl) T.C_Group.mg T.Group_init.bd .nil pass0 (pa_cons (pe_op op_or (pe_fld (pv 0) rfl) (pe_op op_shl pe_int (pv 1))) (pa_cons (pe_op op_add (pe_fld (pv 0) rfl) pe_int) (pa_cons (pv 3) (pa_cons (pv 4) pa_nil))))))))), ?_⟩
    refine ⟨_, rfl, a, _, da, _, _, rfl, ha, T.C_Group.cl, T.nGroup_minutes, rfl, _, rfl, c, _, dc, _, _, rfl, hc, T.C_Person.cl, T.nPerson_takes, rfl, _, _, rfl, rfl, ?_⟩
    refine ⟨_, rfl, a, _, da, _, _, rfl, ha, T.C_Group.cl, T.nGroup_spare, rfl, _, rfl, c, _, dc, _, _, rfl, hc, T.C_Person.cl, T.nPerson_left, rfl, _, rfl, _, _, rfl, rfl, _, _, rfl, ?_⟩
    refine ⟨_, rfl, a, _, da, _, _, rfl, ha, T.C_Group.cl, T.nGroup_bits, rfl, _, rfl, _, _, rfl, rfl, ⟨by omega, by omega, by decide⟩, _, _, rfl, rfl, ?_⟩
    refine ⟨_, rfl, a, _, da, _, _, rfl, ha, T.C_Group.cl, T.nGroup_size, rfl, _, _, rfl, rfl, _, rfl, _, rfl, ?_⟩
    intro b db nb ndb neb
    refine ⟨b, db, _, _, _, _, rfl, upd_same, rfl, ?_⟩
    rw [upd_upd]
    refine k b _ nb (same_new2 nb ndb) ⟨db, ?_⟩
    rw [upd_same]
    have e1 : Builtin.bitOr (g.bits : Int) (1 * 2 ^ ((p : Int)).toNat) = (((joinV g p x.takes x.left).bits : Nat) : Int) := by
      have q : (1 * 2 ^ ((p : Int)).toNat : Int) = ((1 <<< p : Nat) : Int) := by
        rw [Nat.one_shiftLeft, Int.toNat_natCast, Int.one_mul, Int.natCast_pow]
        rfl
      rw [q, Bits.bitOr_pp (Int.natCast_nonneg _) (Int.natCast_nonneg _), Int.toNat_natCast, Int.toNat_natCast]
      rfl
    have e2 : (if (x.left : Int) - ((g.minutes : Int) + (x.takes : Int)) < g.spare then (x.left : Int) - ((g.minutes : Int) + (x.takes : Int)) else g.spare) = (joinV g p x.takes x.left).spare := by
      show _ = min g.spare ((x.left : Int) - ((g.minutes + x.takes : Nat) : Int))
      split <;> omega
    show some (HO.ins A.CGroup db (gfv (Builtin.bitOr (g.bits : Int) (1 * 2 ^ ((p : Int)).toNat)) ((g.size : Int) + 1) ((g.minutes : Int) + (x.takes : Int)) (if (x.left : Int) - ((g.minutes : Int) + (x.takes : Int)) < g.spare then (x.left : Int) - ((g.minutes : Int) + (x.takes : Int)) else g.spare))) = _
    rw [e1, e2]
    unfold gfs
    congr 2
def sp_empty_group (A : Adr) : Sp := fun vs H Q _ => vs = [] ∧ ∀ b H', H b = none → Same H H' → GroupAt A H' b emptyG → Q (.ref b) H'
theorem ok_empty_group (T : Txt K mg A) : FnOk P w K mg base CX0 3 A.f_empty_group A.d_empty_group [] (sp_empty_group A) := by
  refine T.empty_group.fn.ok sc_empty_group (fun vs H Q E h => ?_) (fun cdv Ar outer s H vs Q E hr h => ?_)
  · obtain ⟨rfl, _⟩ := h
    rfl
  · obtain ⟨rfl, k⟩ := h
    refine ⟨_, (pss_one (ps_ret (pe_make T.C_Group.made (ok_Group_init T) (hr.mono (by decide)) (by rfl) T.C_Group.mg T.Group_init.bd .nil pass0 (pa_cons pe_int (pa_cons pe_int (pa_cons pe_int (pa_cons (pe_cst (by rfl) T.c_BEGIN_MOST) pa_nil))))))), ?_⟩
    intro b db nb ndb neb
    refine ⟨b, db, _, _, _, _, rfl, upd_same, rfl, ?_⟩
    rw [upd_upd]
    exact k b _ nb (same_new2 nb ndb) ⟨db, upd_same⟩
def sp_numbers_by_left (A : Adr) : Sp := fun vs H Q _ => ∃ (a t pl : Addr) (as : List Addr) (s : Km449.Sea), vs = [.ref a] ∧ SeaAt A H a t pl as s ∧ s.persons.length ≤ 9 ∧ TabL A H ∧
  ∀ D H', Sm H H' → TabL A H' → H D = none → H' D = some (.lst ((order s).map fun (p : Nat) => V.int (p : Nat))) → Q (.ref D) H'
theorem ok_numbers_by_left (T : Txt K mg A) (B : BMain mg base) : FnOk P w K mg base CX0 4 A.f_numbers_by_left A.d_numbers_by_left ["sea"] (sp_numbers_by_left A) := by
  refine Fun.okC T.numbers_by_left.fn sc_numbers_by_left (fun vs H Q E h => ?_) (fun cdv hcd Ar outer s H vs Q E hr h => ?_)
  · obtain ⟨a, t, pl, as, s, rfl, _⟩ := h
    rfl
  · obtain ⟨a, t, pl, as, s, rfl, S, hn, hT, k⟩ := h
    obtain ⟨da, ha⟩ := S.sea
    refine ⟨_, (pss_one (ps_ret (pe_sortLam (x := "number") (y := "sea") (iy := 0) (lamScope_by (by decide +kernel)) (hr.mono (by decide)) (hcd.trans T.codeAt) T.code B rfl rfl (fun c hc => closure1 rfl hc) (fun _ _ _ _ _ => rfl) rfl rfl (pe_meth (pv 0) T.C_Sea.cl T.Sea_numbers_of.me (ok_Sea_numbers_of T) (hr.mono (by decide)) T.Sea_numbers_of.bd .nil pass0 (pa_cons (pe_cst (by rfl) T.c_WAITS) pa_nil)) (fun _ _ _ _ _ _ _ => (pe_tup (pa_cons (pe_fldK (K := K) rfl (pe_ix (ix_listK (K := K) rfl) (pe_fldK (K := K) rfl (pv 1) rfl) (pv 0) (fun _ _ => rfl)) rfl) (pa_cons (pv 0) pa_nil)))) (by rfl) T.n_sorted))), ?_⟩
    refine ⟨_, rfl, a, da, _, rfl, ha, rfl, a, t, pl, as, s, 0, rfl, S, hn, fun D H' sm hD hD' => ?_⟩
    have hD2 : H' D = some (.lst ((s.waits.map fun (p : Nat) => (p : Int)).map V.int)) := by rw [hD', List.map_map]; rfl
    refine ⟨D, s.waits.map fun (p : Nat) => (p : Int), .ref a, fun n => ((s.person n.toNat).left : Int), rfl, SqL.of hD2, ?_, rfl, hT.same sm, fun n hn H2 sm2 => ?_, fun D2 H2 ms sm2 hT2 nD hD3 hp hw => ?_⟩
    · rw [List.length_map]
      refine Nat.le_trans (List.length_filter_le _ _) ?_
      rw [List.length_range]
      omega
    · obtain ⟨p, hp, rfl⟩ := List.mem_map.mp hn
      have hpl : p < s.persons.length := List.mem_range.mp (List.mem_filter.mp hp).1
      have hx : s.persons[p]? = some s.persons[p] := List.getElem?_eq_getElem hpl
      obtain ⟨b, hb, db, hbx⟩ := S.per.get hx
      have sm3 : Sm H H2 := (Sm.of sm).trans sm2
      refine ⟨_, rfl, a, _, da, _, _, rfl, sm3.ins ha, T.C_Sea.cl, T.nSea_persons, rfl, _, rfl, pl, _, _, V.ref b, rfl, rfl, SqL.of (sm3.lst S.lst), at_of (j := p) rfl (by rw [List.getElem?_map, hb]; rfl), b, _, db, _, _, rfl, sm3.ins hbx, T.C_Person.cl, T.nPerson_left, rfl, _, rfl, (by show 2 ≤ sizeLine; decide), fun tp htp => ⟨tp, rfl, same_upd (Same.refl _) htp, ?_⟩⟩
      rw [upd_same]
      show some (HO.tup [.int ((s.persons[p]).left : Nat), .int (p : Nat)]) = some (HO.tup [.int (((s.person ((p : Int)).toNat).left : Nat) : Int), .int (p : Nat)])
      rw [Int.toNat_natCast, person_at hx]
    · rw [order_of hp hw, List.map_map] at hD3
      exact k D2 H2 ((Sm.of sm).trans sm2) hT2 (sm.free nD) hD3
end
end Hh
set_option Elab.async false
set_option linter.all false
set_option maxRecDepth 100000
set_option maxHeartbeats 2000000
namespace Hh
open PySem PySem.Spec PyProof.Rows L2

theorem filter_snoc {α : Type} (f : α → Bool) {l : List α} {i : Nat} {x : α} (h : l[i]? = some x) : (l.take (i + 1)).filter f = (l.take i).filter f ++ if f x = true then [x] else [] := by
  rw [take_snoc h, List.filter_append, List.filter_cons, List.filter_nil]
theorem order_lt {s : Km449.Sea} {p : Nat} (h : p ∈ order s) : p < s.persons.length := List.mem_range.mp (List.mem_filter.mp (mem_order.mp h)).1
theorem order_len (s : Km449.Sea) : (order s).length ≤ s.persons.length := by
  rw [(byTime_perm s (waits_sorted s)).length_eq]
  refine Nat.le_trans (List.length_filter_le _ _) ?_
  rw [List.length_range]
  exact Nat.le_refl _
theorem Sm.upd {H H' : Hp} {D : Addr} {o : HO} (s : Sm H H') (hD : H D = none) : Sm H (upd H' D o) := s.new hD
theorem TabL.upd {A : Adr} {H : Hp} {D : Addr} {o : HO} {xs : List V} (t : TabL A H) (hD : H D = none ∨ H D = some (.lst xs)) : TabL A (L2.upd H D o) := by
  have ne : ∀ b u, H b = some u → (∀ ys, u ≠ .lst ys) → b ≠ D := fun b u e hu z => by
    rcases hD with q | q
    · rw [z, q] at e; cases e
    · rw [z, q] at e; cases e; exact hu _ rfl
  rcases t with t | ⟨c, t1, t2⟩
  · exact .inl (by rw [upd_ne (ne _ _ t (by intro _ z; cases z))]; exact t)
  · exact .inr ⟨c, by rw [upd_ne (ne _ _ t1 (by intro _ z; cases z))]; exact t1, by rw [upd_ne (ne _ _ t2 (by intro _ z; cases z))]; exact t2⟩

structure GroupsAt (A : Adr) (H : Hp) (gs : List Addr) (l : List Grp) : Prop where
  len : gs.length = l.length
  grp : ∀ (j : Nat) (b : Addr) (g : Grp), gs[j]? = some b → l[j]? = some g → GroupAt A H b g
theorem GroupsAt.sm {A : Adr} {H H' : Hp} {gs : List Addr} {l : List Grp} (e : Sm H H') (p : GroupsAt A H gs l) : GroupsAt A H' gs l := ⟨p.len, fun j b g h1 h2 => (p.grp j b g h1 h2).sm e⟩
theorem GroupsAt.at {A : Adr} {H : Hp} {gs : List Addr} {l : List Grp} (p : GroupsAt A H gs l) {j : Nat} {b : Addr} (h : gs[j]? = some b) : ∃ g, l[j]? = some g ∧ GroupAt A H b g := by
  have hj : j < l.length := by rw [← p.len]; exact (List.getElem?_eq_some_iff.mp h).1
  have e : l[j]? = some l[j] := List.getElem?_eq_getElem hj
  exact ⟨_, e, p.grp j b _ h e⟩
theorem GroupsAt.nil {A : Adr} {H : Hp} : GroupsAt A H [] [] := ⟨rfl, fun j b g h _ => by simp at h⟩
theorem GroupsAt.app {A : Adr} {H : Hp} {gs hs : List Addr} {l m : List Grp} (p : GroupsAt A H gs l) (q : GroupsAt A H hs m) : GroupsAt A H (gs ++ hs) (l ++ m) := by
  refine ⟨by rw [List.length_append, List.length_append, p.len, q.len], fun j b g h1 h2 => ?_⟩
  by_cases hj : j < gs.length
  · rw [List.getElem?_append_left hj] at h1
    rw [List.getElem?_append_left (by rw [← p.len]; exact hj)] at h2
    exact p.grp j b g h1 h2
  · rw [List.getElem?_append_right (by omega)] at h1
    rw [List.getElem?_append_right (by rw [← p.len]; omega), ← p.len] at h2
    exact q.grp _ b g h1 h2
theorem GroupsAt.one {A : Adr} {H : Hp} {b : Addr} {g : Grp} (h : GroupAt A H b g) : GroupsAt A H [b] [g] := ⟨rfl, fun j c f h1 h2 => by
  cases j with
  | zero => cases h1; cases h2; exact h
  | succ j => simp at h1⟩
/-- lists are changed, groups are not -/
theorem GroupsAt.upd {A : Adr} {H : Hp} {gs : List Addr} {l : List Grp} {D : Addr} {o : HO} {xs : List V} (p : GroupsAt A H gs l) (hD : H D = none ∨ H D = some (.lst xs)) : GroupsAt A (L2.upd H D o) gs l := ⟨p.len, fun j b g h1 h2 => by
  obtain ⟨dx, h⟩ := p.grp j b g h1 h2
  refine ⟨dx, ?_⟩
  rw [upd_ne]
  · exact h
  · rintro rfl
    rcases hD with q | q <;> rw [q] at h <;> cases h⟩

section
variable {P : Program} {w : World} {K : PySem.W.Frag} {mg : Str → Option Value} {base : Heap} {A : Adr}
def sp_numbers_within (A : Adr) : Sp := fun vs H Q _ => ∃ (a t pl : Addr) (as : List Addr) (s : Km449.Sea) (w : Nat), vs = [.ref a, .int w] ∧ SeaAt A H a t pl as s ∧ s.persons.length ≤ 9 ∧ TabL A H ∧
  ∀ D H', Sm H H' → TabL A H' → H D = none → H' D = some (.lst (numsV ((order s).filter fun p => w.testBit p))) → Q (.ref D) H'
theorem ok_numbers_within (T : Txt K mg A) (B : BMain mg base) : FnOk P w K mg base CX0 5 A.f_numbers_within A.d_numbers_within ["sea", "bits"] (sp_numbers_within A) := by
  refine T.numbers_within.fn.ok sc_numbers_within (fun vs H Q E h => ?_) (fun cdv Ar outer s H vs Q E hr h => ?_)
  · obtain ⟨a, t, pl, as, s, w, rfl, _⟩ := h
    rfl
  · obtain ⟨a, t, pl, as, s, w, rfl, S, hn, hT, k⟩ := h
    refine ⟨_, (pss_one (ps_ret (pe_lc rfl sc_numbers_within.nd (pi_list (pe_call (ok_numbers_by_left T B) (hr.mono (by decide)) (by rfl) T.numbers_by_left.mg T.numbers_by_left.fn.kp T.numbers_by_left.bd .nil pass0 (pa_cons (pv 0) pa_nil))) (blkOk_by (N := ["sea", "bits", "number"]) (sc := defScope st_numbers_within) (own := [("number", 2)]) (by decide +kernel)) (fun _ _ _ _ _ => (pg_name (i := 2) sc_numbers_within.nd rfl (by first | exact Or.inl rfl | exact Or.inr rfl))) (fun _ _ _ _ _ => (pts_one (pt_cmpR op_eq (pe_op op_and (pe_op op_shr (pv 1) (pv 2)) pe_int) pe_int (nomark _)))) (fun _ _ _ _ _ => (pv 2))))), ?_⟩
    refine ⟨_, rfl, a, t, pl, as, s, rfl, S, hn, hT, fun L H1 sm hT1 nL hL => ⟨L, rfl, ⟨_, SqL.of hL⟩, ?_⟩⟩
    intro D hD
    refine lc_list (K := K) (a := L) (xs := numsV (order s)) (fun i H' => Same H1 H' ∧ H' D = some (.lst (numsV (((order s).take i).filter fun p => w.testBit p))))
      ⟨same_upd (Same.refl _) hD, upd_same⟩ (fun i H' _ ⟨sm', _⟩ => SqL.of (sm' _ _ hL)) ?_ ?_
    · rintro i y H' hi ⟨sm', hD'⟩
      obtain ⟨p, hp, rfl⟩ := get_map hi
      refine ⟨rfl, ?_⟩
      refine ⟨_, rfl, _, rfl, _, _, rfl, rfl, by omega, _, _, rfl, rfl, rfl, _, rfl, ?_⟩
      show if decide (V.int (Builtin.bitAnd ((w : Int) / 2 ^ ((p : Int)).toNat) 1) = V.int 1) = true then _ else _
      rw [bit_test]
      refine ite2 (fun h1 => ?_) (fun h1 => ?_)
      · refine ⟨_, rfl, _, hD', ?_, same_upd sm' hD, ?_⟩
        · rw [List.length_map]
          refine small9 (Nat.le_trans (List.length_filter_le _ _) ?_)
          rw [List.length_take]
          have := order_len s
          omega
        · rw [upd_same, filter_snoc _ hp, if_pos h1]
          unfold numsV
          rw [List.map_append]
          rfl
      · refine ⟨sm', ?_⟩
        rw [filter_snoc _ hp, if_neg h1, List.append_nil]
        exact hD'
    · rintro H' ⟨sm', hD'⟩
      rw [List.length_map, List.take_length] at hD'
      exact k D H' (sm.trans (.of sm')) (hT1.same sm') (sm.free hD) hD'

def sp_group_of (A : Adr) : Sp := fun vs H Q _ => ∃ (a t pl : Addr) (as : List Addr) (s : Km449.Sea) (w : Nat), vs = [.ref a, .int w] ∧ SeaAt A H a t pl as s ∧ s.persons.length ≤ 9 ∧ TabL A H ∧
  ∀ b H', Sm H H' → TabL A H' → GroupAt A H' b (grp s ((order s).filter fun p => w.testBit p)) → Q (.ref b) H'
theorem ok_group_of (T : Txt K mg A) (B : BMain mg base) : FnOk P w K mg base CX0 6 A.f_group_of A.d_group_of ["sea", "bits"] (sp_group_of A) := by
  refine T.group_of.fn.ok sc_group_of (fun vs H Q E h => ?_) (fun cdv Ar outer s H vs Q E hr h => ?_)
  · obtain ⟨a, t, pl, as, s, w, rfl, _⟩ := h
    rfl
  · obtain ⟨a, t, pl, as, s, w, rfl, S, hn, hT, k⟩ := h
    refine ⟨_, (pss_cons (ps_set (i := 2) sc_group_of.nd rfl (by first | exact Or.inl rfl | exact Or.inr rfl) (pe_call0 (ok_empty_group T) (hr.mono (by decide)) (by rfl) T.empty_group.mg T.empty_group.fn.kp T.empty_group.bd .nil pass0)) (pss_cons (ps_for PassesOwn.never rfl (pi_list (pe_call (ok_numbers_within T B) (hr.mono (by decide)) (by rfl) T.numbers_within.mg T.numbers_within.fn.kp T.numbers_within.bd .nil pass0 (pa_cons (pv 0) (pa_cons (pv 1) pa_nil)))) (pg_name (i := 3) sc_group_of.nd rfl (by first | exact Or.inl rfl | exact Or.inr rfl)) (pss_one (ps_set (i := 2) sc_group_of.nd rfl (by first | exact Or.inl rfl | exact Or.inr rfl) (pe_meth (pv 2) T.C_Group.cl T.Group_joined_by.me (ok_Group_joined_by T) (hr.mono (by decide)) T.Group_joined_by.bd .nil pass0 (pa_cons (pv 3) (pa_cons (pe_ix ix_list (pe_fld (pv 0) rfl) (pv 3) (fun _ _ => rfl)) pa_nil)))))) (pss_one (ps_ret (pv 2))))), ?_⟩
    refine ⟨rfl, fun g0 H1 ng sm1 hg0 => ?_⟩
    refine ⟨_, rfl, _, rfl, a, t, pl, as, s, w, rfl, S.sm (.of sm1), hn, hT.same sm1, fun D H2 sm2 hT2 nD hD => ⟨D, rfl, ⟨_, SqL.of hD⟩, ?_⟩⟩
    generalize hL : (order s).filter (fun p => w.testBit p) = L at hD k
    have sm02 : Sm H H2 := (Sm.of sm1).trans sm2
    refine for_list (K := K) (a := D) (xs := numsV L) (fun i σ H' => ∃ (gb : Addr) (v : Option V), σ = [some (.ref a), some (.int w), some (.ref gb), v] ∧ Sm H2 H' ∧ TabL A H' ∧ GroupAt A H' gb (grp s (L.take i)))
      ⟨g0, none, rfl, Sm.refl _, hT2, hg0.sm sm2⟩ (fun i σ H' _ ⟨_, _, _, sm, _⟩ => SqL.of (sm.lst hD)) ?_ ?_
    · rintro i y σ H' hi ⟨gb, v, rfl, sm, hT', hg⟩
      obtain ⟨p, hp, rfl⟩ := get_map hi
      have hpo : p ∈ order s := by
        have : p ∈ L := List.mem_of_getElem? hp
        rw [← hL] at this
        exact (List.mem_filter.mp this).1
      have hpl := order_lt hpo
      have hx : s.persons[p]? = some s.persons[p] := List.getElem?_eq_getElem hpl
      have S' := S.sm (sm02.trans sm)
      obtain ⟨da, ha⟩ := S'.sea
      obtain ⟨b, hb, hbx⟩ := S'.per.get hx
      have hg' := hg
      obtain ⟨dg, hgo⟩ := hg'
      refine ⟨_, rfl, gb, dg, _, rfl, hgo, rfl, _, rfl, _, rfl, a, _, da, _, _, rfl, ha, T.C_Sea.cl, T.nSea_persons, rfl, _, rfl, pl, _, _, V.ref b, rfl, rfl, SqL.of S'.lst, at_of (j := p) rfl (by rw [List.getElem?_map, hb]; rfl), gb, b, _, p, _, rfl, hg, hbx, by omega, fun g2 H3 n2 sm3 hg2 => ?_⟩
      refine ⟨g2, some (.int (p : Nat)), rfl, sm.trans (.of sm3), hT'.same sm3, ?_⟩
      rw [take_snoc hp]
      show GroupAt A H3 g2 (grpFrom s emptyG (L.take i ++ [p]))
      rw [grpFrom_snoc, join_eq, person_at hx]
      exact hg2
    · rintro σ H' ⟨gb, v, rfl, sm, hT', hg⟩
      rw [List.length_map, List.take_length] at hg
      exact ⟨_, rfl, k gb H' (sm02.trans sm) hT' hg⟩
end
end Hh
set_option Elab.async false
set_option linter.all false
set_option maxRecDepth 100000
set_option maxHeartbeats 2000000
namespace Hh
open PySem PySem.Spec PyProof.Rows L2

theorem groupsG_snoc (s : Km449.Sea) (t : Int) (L : List Nat) (p : Nat) : groupsG s t (L ++ [p]) = stepG s t (groupsG s t L) p := by
  unfold groupsG
  rw [List.foldl_append]
  rfl
theorem groupsG_few (s : Km449.Sea) (t : Int) {L : List Nat} (h : L.length ≤ 9) : (groupsG s t L).length ≤ 512 :=
  Nat.le_trans (groupsG_len s t L) (Nat.le_trans (Nat.pow_le_pow_right (by decide) h) (by decide))
theorem small512 {n : Nat} (h : n ≤ 512) : n < sizeLine := small1000 (by omega)
theorem map_snoc {α β : Type} (f : α → β) {l : List α} {i : Nat} {x : α} (h : l[i]? = some x) : (l.take (i + 1)).map f = (l.take i).map f ++ [f x] := by
  rw [take_snoc h, List.map_append]
  rfl

section
variable {P : Program} {w : World} {K : PySem.W.Frag} {mg : Str → Option Value} {base : Heap} {A : Adr}
def sp_groups_in_time (A : Adr) : Sp := fun vs H Q _ => ∃ (a t pl : Addr) (as : List Addr) (s : Km449.Sea) (m : Int), vs = [.ref a, .int m] ∧ SeaAt A H a t pl as s ∧ s.persons.length ≤ 9 ∧ TabL A H ∧
  ∀ D gs H', Sm H H' → TabL A H' → H D = none → H' D = some (.lst (gs.map V.ref)) → GroupsAt A H' gs (groupsG s m (order s)) → Q (.ref D) H'
theorem ok_groups_in_time (T : Txt K mg A) (B : BMain mg base) : FnOk P w K mg base CX0 5 A.f_groups_in_time A.d_groups_in_time ["sea", "t"] (sp_groups_in_time A) := by
  refine T.groups_in_time.fn.ok sc_groups_in_time (fun vs H Q E h => ?_) (fun cdv Ar outer s H vs Q E hr h => ?_)
  · obtain ⟨a, t, pl, as, s, m, rfl, _⟩ := h
    rfl
  · obtain ⟨a, t, pl, as, s, m, rfl, S, hn, hT, k⟩ := h
    refine ⟨_, (pss_cons (ps_set (i := 2) sc_groups_in_time.nd rfl (by first | exact Or.inl rfl | exact Or.inr rfl) (pe_lst (pa_cons (pe_call0 (ok_empty_group T) (hr.mono (by decide)) (by rfl) T.empty_group.mg T.empty_group.fn.kp T.empty_group.bd .nil pass0) pa_nil))) (pss_cons (ps_for PassesOwn.never rfl (pi_list (pe_call (ok_numbers_by_left T B) (hr.mono (by decide)) (by rfl) T.numbers_by_left.mg T.numbers_by_left.fn.kp T.numbers_by_left.bd .nil pass0 (pa_cons (pv 0) pa_nil))) (pg_name (i := 3) sc_groups_in_time.nd rfl (by first | exact Or.inl rfl | exact Or.inr rfl)) (pss_cons (ps_set (i := 4) sc_groups_in_time.nd rfl (by first | exact Or.inl rfl | exact Or.inr rfl) (pe_ix ix_list (pe_fld (pv 0) rfl) (pv 3) (fun _ _ => rfl))) (pss_cons (ps_setLc (i := 5) rfl sc_groups_in_time.nd rfl rfl (sw_true rfl rfl rfl rfl) (pi_list (pv 2)) (blkOk_by (N := ["sea", "t", "groups", "number", "person", "joined", "group"]) (sc := defScope st_groups_in_time) (own := [("group", 6)]) (by decide +kernel)) (fun _ _ _ _ _ => (pg_name (i := 6) sc_groups_in_time.nd rfl (by first | exact Or.inl rfl | exact Or.inr rfl))) (fun _ _ _ _ _ => pts_nil) (fun _ _ _ _ _ => (pe_meth (pv 6) T.C_Group.cl T.Group_joined_by.me (ok_Group_joined_by T) (hr.mono (by decide)) T.Group_joined_by.bd .nil pass0 (pa_cons (pv 3) (pa_cons (pv 4) pa_nil))))) (pss_one (ps_expr (pe_bm PySem.F.plainAttrs_list PySem.F.slot_list_extend PySem.F.type_list_extend mt_extend (pv 2) (pa_cons (pe_lc rfl sc_groups_in_time.nd (pi_list (pv 5)) (blkOk_by (N := ["sea", "t", "groups", "number", "person", "joined", "group"]) (sc := defScope st_groups_in_time) (own := [("group", 6)]) (by decide +kernel)) (fun _ _ _ _ _ => (pg_name (i := 6) sc_groups_in_time.nd rfl (by first | exact Or.inl rfl | exact Or.inr rfl))) (fun _ _ _ _ _ => (pts_one (pt_cmpR op_ge (pe_fldK (K := K) rfl (pv 6) rfl) (pv 1) (nomark _)))) (fun _ _ _ _ _ => (pv 6))) pa_nil))))))) (pss_one (ps_ret (pv 2))))), ?_⟩
    refine ⟨rfl, fun g0 H1 ng sm1 hg0 => ⟨(by show 1 ≤ sizeLine; decide), fun D nD => ?_⟩⟩
    have sm1D : Same H1 (upd H1 D (.lst [.ref g0])) := same_upd (Same.refl _) nD
    have nDH : H D = none := sm1.free nD
    refine ⟨_, rfl, a, t, pl, as, s, rfl, S.sm (.of (sm1.trans sm1D)), hn, hT.same (sm1.trans sm1D), fun L H2 sm2 hT2 nL hL => ⟨L, rfl, ⟨_, SqL.of hL⟩, ?_⟩⟩
    have hD2 : H2 D = some (.lst [.ref g0]) := sm2.lst upd_same
    have sm02 : Sm H H2 := (Sm.of (sm1.trans sm1D)).trans sm2
    have nLD : L ≠ D := fun z => by rw [z, upd_same] at nL; cases nL
    refine for_list (K := K) (a := L) (xs := numsV (order s)) (fun i σ H' => ∃ (gs : List Addr) (v1 v2 v3 v4 : Option V), σ = [some (.ref a), some (.int m), some (.ref D), v1, v2, v3, v4] ∧ Sm H H' ∧ TabL A H' ∧ H' L = some (.lst (numsV (order s))) ∧ H' D = some (.lst (gs.map V.ref)) ∧ GroupsAt A H' gs (groupsG s m ((order s).take i)))
      ⟨[g0], none, none, none, none, rfl, sm02, hT2, hL, hD2, GroupsAt.one (hg0.sm ((Sm.of sm1D).trans sm2))⟩ (fun i σ H' _ ⟨_, _, _, _, _, _, _, _, hL', _⟩ => SqL.of hL') ?_ ?_
    · rintro i y σ H' hi ⟨gs, v1, v2, v3, v4, rfl, sm, hT', hL', hD', hgs⟩
      obtain ⟨p, hp, rfl⟩ := get_map hi
      have hpl := order_lt (List.mem_of_getElem? hp)
      have hx : s.persons[p]? = some s.persons[p] := List.getElem?_eq_getElem hpl
      have S' := S.sm sm
      obtain ⟨da, ha⟩ := S'.sea
      obtain ⟨b, hb, hbx⟩ := S'.per.get hx
      have few : gs.length ≤ 512 := by
        rw [hgs.len]
        refine groupsG_few s m ?_
        rw [List.length_take]
        have := order_len s
        omega
      -- person = sea.persons[number]
      refine ⟨_, rfl, a, _, da, _, _, rfl, ha, T.C_Sea.cl, T.nSea_persons, rfl, _, rfl, pl, _, _, V.ref b, rfl, rfl, SqL.of S'.lst, at_of (j := p) rfl (by rw [List.getElem?_map, hb]; rfl), ?_⟩
      -- joined = [...]
      refine ⟨_, rfl, D, rfl, ⟨_, SqL.of hD'⟩, ?_⟩
      intro J nJ
      refine lc_list (K := K) (a := D) (xs := gs.map V.ref) (fun j H3 => Same H' H3 ∧ ∃ js : List Addr, H3 J = some (.lst (js.map V.ref)) ∧ GroupsAt A H3 js (((groupsG s m ((order s).take i)).take j).map fun g => g.join s p))
        ⟨same_upd (Same.refl _) nJ, [], upd_same, GroupsAt.nil⟩ (fun j H3 _ ⟨sm3, _⟩ => SqL.of (sm3 _ _ hD')) ?_ ?_
      · rintro j y H3 hj ⟨sm3, js, hJ, hjs⟩
        obtain ⟨gb, hgb, rfl⟩ := get_map hj
        obtain ⟨g, hg, dg, hgo⟩ := hgs.at hgb
        have hgo3 := sm3 _ _ hgo
        refine ⟨rfl, ?_⟩
        refine ⟨_, rfl, gb, dg, _, rfl, hgo3, rfl, _, rfl, _, rfl, gb, b, g, p, _, rfl, ⟨dg, hgo3⟩, hbx.sm (.of sm3), by omega, fun g2 H4 n2 sm4 hg2 => ⟨_, sm4 _ _ hJ, ?_, ?_⟩⟩
        · rw [List.length_map, hjs.len, List.length_map, List.length_take]
          refine small512 ?_
          rw [← hgs.len]
          omega
        · have hJ4 := sm4 _ _ hJ
          refine ⟨same_upd (sm3.trans sm4) nJ, js ++ [g2], ?_, ?_⟩
          · rw [upd_same, List.map_append]
            rfl
          · rw [map_snoc _ hg]
            refine ((hjs.sm (.of sm4)).app (GroupsAt.one ?_)).upd (.inr hJ4)
            rw [join_eq, person_at hx]
            exact hg2
      · rintro H3 ⟨sm3, js, hJ, hjs⟩
        rw [List.length_map, hgs.len, List.take_length] at hjs
        have hD3 := sm3 _ _ hD'
        have fewj : js.length ≤ 512 := by rw [hjs.len, List.length_map, ← hgs.len]; exact few
        -- groups.extend([...])
        refine ⟨_, rfl, .inl ⟨rfl, _, SqL.of hD3⟩, ?_⟩
        refine ⟨_, rfl, J, rfl, ⟨_, SqL.of hJ⟩, ?_⟩
        intro F nF
        refine lc_list (K := K) (a := J) (xs := js.map V.ref) (fun j H4 => Same H3 H4 ∧ ∃ fs : List Addr, H4 F = some (.lst (fs.map V.ref)) ∧ fs.length ≤ j ∧ GroupsAt A H4 fs ((((groupsG s m ((order s).take i)).map fun g => g.join s p).take j).filter fun g => decide (m ≤ g.spare)))
          ⟨same_upd (Same.refl _) nF, [], upd_same, Nat.le_refl _, GroupsAt.nil⟩ (fun j H4 _ ⟨sm4, _⟩ => SqL.of (sm4 _ _ hJ)) ?_ ?_
        · rintro j y H4 hj ⟨sm4, fs, hF, hfl, hfs⟩
          obtain ⟨gb, hgb, rfl⟩ := get_map hj
          obtain ⟨g, hg, dg, hgo⟩ := hjs.at hgb
          have hgo4 := sm4 _ _ hgo
          have hjl : j < js.length := (List.getElem?_eq_some_iff.mp hgb).1
          refine ⟨rfl, ?_⟩
          refine ⟨_, rfl, gb, _, dg, _, _, rfl, hgo4, T.C_Group.cl, T.nGroup_spare, rfl, _, rfl, _, _, rfl, rfl, _, rfl, ?_⟩
          refine ite2 (fun h1 => ?_) (fun h1 => ?_)
          · refine ⟨_, rfl, _, hF, ?_, same_upd sm4 nF, fs ++ [gb], ?_, ?_, ?_⟩
            · rw [List.length_map]
              exact small512 (by omega)
            · rw [upd_same, List.map_append]
              rfl
            · rw [List.length_append]
              show fs.length + 1 ≤ j + 1
              omega
            · rw [filter_snoc _ hg, if_pos h1]
              exact (hfs.app (GroupsAt.one ⟨dg, hgo4⟩)).upd (.inr hF)
          · refine ⟨sm4, fs, hF, by omega, ?_⟩
            rw [filter_snoc _ hg, if_neg h1, List.append_nil]
            exact hfs
        · rintro H4 ⟨sm4, fs, hF, hfl, hfs⟩
          rw [List.length_map] at hfl
          rw [List.length_map, hjs.len, List.take_length] at hfs
          have hD4 := sm4 _ _ hD3
          have sm34 := sm3.trans sm4
          refine ⟨D, F, _, _, rfl, rfl, hD4, hF, ?_, ?_⟩
          · rw [List.length_map, List.length_map]
            refine Nat.le_of_lt (small1000 ?_)
            have e : gs.length + fs.length = (groupsG s m ((order s).take (i + 1))).length := by
              rw [take_snoc hp, groupsG_snoc, hgs.len, hfs.len]
              unfold stepG
              rw [List.length_append]
            rw [e]
            refine Nat.le_trans (groupsG_few s m ?_) (by decide)
            rw [List.length_take]
            have := order_len s
            omega
          · refine ⟨gs ++ fs, some (.int (p : Nat)), some (.ref b), some (.ref J), v4, rfl, (sm.trans (.of sm34)).upd nDH, (hT'.same sm34).upd (.inr hD4), ?_, ?_, ?_⟩
            · rw [upd_ne nLD]
              exact sm34 _ _ hL'
            · rw [upd_same, List.map_append]
            · rw [take_snoc hp, groupsG_snoc]
              exact ((hgs.sm (.of sm34)).app hfs).upd (.inr hD4)
    · rintro σ H' ⟨gs, v1, v2, v3, v4, rfl, sm, hT', hL', hD', hgs⟩
      rw [List.length_map, List.take_length] at hgs
      exact ⟨_, rfl, k D gs H' sm hT' nDH hD' hgs⟩

def sp_is_better (A : Adr) : Sp := fun vs H Q _ => ∃ (a b : Addr) (g h : Grp), vs = [.ref a, .ref b] ∧ GroupAt A H a g ∧ GroupAt A H b h ∧ Q (.bl (betterI g h)) H
theorem ok_is_better (T : Txt K mg A) : FnOk P w K mg base CX0 1 A.f_is_better A.d_is_better ["group", "other"] (sp_is_better A) := by
  refine T.is_better.fn.ok sc_is_better (fun vs H Q E h => ?_) (fun cdv Ar outer s H vs Q E hr h => ?_)
  · obtain ⟨a, b, g, h, rfl, _⟩ := h
    rfl
  · obtain ⟨a, b, g, h, rfl, ⟨da, ha⟩, ⟨db, hb⟩, k⟩ := h
    refine ⟨_, (pss_cons (ps_if (pt_cmpR op_ne (pe_fld (pv 0) rfl) (pe_fld (pv 1) rfl) (nomark _)) (pss_one (ps_ret (pe_cmpR op_gt (pe_fld (pv 0) rfl) (pe_fld (pv 1) rfl) (nomark _)))) pss_nil) (pss_cons (ps_set (i := 2) sc_is_better.nd rfl (by first | exact Or.inl rfl | exact Or.inr rfl) (pe_op op_xor (pe_fld (pv 0) rfl) (pe_fld (pv 1) rfl))) (pss_cons (ps_set (i := 3) sc_is_better.nd rfl (by first | exact Or.inl rfl | exact Or.inr rfl) (pe_op op_and (pv 2) (pe_un un_neg (pv 2)))) (pss_one (ps_ret (pe_cmpR op_ne (pe_op op_and (pe_fld (pv 1) rfl) (pv 3)) pe_int (nomark _))))))), ?_⟩
    refine ⟨_, rfl, a, _, da, _, _, rfl, ha, T.C_Group.cl, T.nGroup_size, rfl, _, rfl, b, _, db, _, _, rfl, hb, T.C_Group.cl, T.nGroup_size, rfl, rfl, _, rfl, ?_⟩
    have e0 : decide (V.int (g.size : Int) = V.int (h.size : Int)) = decide (g.size = h.size) := dec_nat
    show if (!decide (V.int (g.size : Int) = V.int (h.size : Int))) = true then _ else _
    rw [e0]
    refine ite2 (fun h1 => ?_) (fun h1 => ?_)
    · have h1 : g.size ≠ h.size := by simpa using h1
      refine ⟨_, rfl, a, _, da, _, _, rfl, ha, T.C_Group.cl, T.nGroup_size, rfl, _, rfl, b, _, db, _, _, rfl, hb, T.C_Group.cl, T.nGroup_size, rfl, _, _, rfl, rfl, ?_⟩
      have e : betterI g h = decide ((h.size : Int) < (g.size : Int)) := by
        unfold betterI
        rw [if_pos h1, decide_eq_decide]
        omega
      rw [e] at k
      exact k
    · have h1 : g.size = h.size := by simpa using h1
      refine ⟨_, rfl, a, _, da, _, _, rfl, ha, T.C_Group.cl, T.nGroup_bits, rfl, _, rfl, b, _, db, _, _, rfl, hb, T.C_Group.cl, T.nGroup_bits, rfl, _, _, rfl, rfl, ?_⟩
      refine ⟨_, rfl, _, rfl, _, rfl, _, _, rfl, rfl, ?_⟩
      refine ⟨_, rfl, b, _, db, _, _, rfl, hb, T.C_Group.cl, T.nGroup_bits, rfl, _, rfl, _, _, rfl, rfl, rfl, ?_⟩
      have e : betterI g h = !decide (V.int (Builtin.bitAnd (h.bits : Int) (Builtin.bitAnd (Builtin.bitXor (g.bits : Int) (h.bits : Int)) (-Builtin.bitXor (g.bits : Int) (h.bits : Int)))) = V.int 0) := by
        unfold betterI
        rw [if_neg (by simpa using h1), dec_int1]
      rw [e] at k
      exact k
def sp_the_most (A : Adr) : Sp := fun vs H Q _ => ∃ (a t pl : Addr) (as : List Addr) (s : Km449.Sea) (m : Nat), vs = [.ref a, .int m] ∧ SeaAt A H a t pl as s ∧ s.persons.length ≤ 9 ∧ TabL A H ∧ m ≤ 100000 ∧
  ∀ b H', Sm H H' → TabL A H' → GroupAt A H' b (grp s (s.byTime (s.best m))) → Q (.ref b) H'
theorem ok_the_most (T : Txt K mg A) (B : BMain mg base) : FnOk P w K mg base CX0 6 A.f_the_most A.d_the_most ["sea", "t"] (sp_the_most A) := by
  refine T.the_most.fn.ok sc_the_most (fun vs H Q E h => ?_) (fun cdv Ar outer s H vs Q E hr h => ?_)
  · obtain ⟨a, t, pl, as, s, m, rfl, _⟩ := h
    rfl
  · obtain ⟨a, t, pl, as, s, m, rfl, S, hn, hT, hm, k⟩ := h
    refine ⟨_, (pss_cons (ps_set (i := 2) sc_the_most.nd rfl (by first | exact Or.inl rfl | exact Or.inr rfl) (pe_call0 (ok_empty_group T) (hr.mono (by decide)) (by rfl) T.empty_group.mg T.empty_group.fn.kp T.empty_group.bd .nil pass0)) (pss_cons (ps_for PassesOwn.never rfl (pi_list (pe_call (ok_groups_in_time T B) (hr.mono (by decide)) (by rfl) T.groups_in_time.mg T.groups_in_time.fn.kp T.groups_in_time.bd .nil pass0 (pa_cons (pv 0) (pa_cons (pv 1) pa_nil)))) (pg_name (i := 3) sc_the_most.nd rfl (by first | exact Or.inl rfl | exact Or.inr rfl)) (pss_one (ps_if (pt_val (pe_call (ok_is_better T) (hr.mono (by decide)) (by rfl) T.is_better.mg T.is_better.fn.kp T.is_better.bd .nil pass0 (pa_cons (pv 3) (pa_cons (pv 2) pa_nil)))) (pss_one (ps_set (i := 2) sc_the_most.nd rfl (by first | exact Or.inl rfl | exact Or.inr rfl) (pv 3))) pss_nil))) (pss_one (ps_ret (pv 2))))), ?_⟩
    refine ⟨rfl, fun g0 H1 ng sm1 hg0 => ?_⟩
    refine ⟨_, rfl, _, rfl, a, t, pl, as, s, m, rfl, S.sm (.of sm1), hn, hT.same sm1, fun D gs H2 sm2 hT2 nD hD hgs => ⟨D, rfl, ⟨_, SqL.of hD⟩, ?_⟩⟩
    refine for_list (K := K) (a := D) (xs := gs.map V.ref) (fun i σ H' => H' = H2 ∧ ∃ (b : Addr) (v : Option V), σ = [some (.ref a), some (.int m), some (.ref b), v] ∧ GroupAt A H2 b (((groupsG s m (order s)).take i).foldl (fun b g => if betterI g b = true then g else b) emptyG))
      ⟨rfl, g0, none, rfl, hg0.sm sm2⟩ (fun i σ H' _ ⟨e, _⟩ => SqL.of (by rw [e]; exact hD)) ?_ ?_
    · rintro i y σ H' hi ⟨rfl, b, v, rfl, hb⟩
      obtain ⟨c, hc, rfl⟩ := get_map hi
      obtain ⟨g, hg, hcg⟩ := hgs.at hc
      refine ⟨_, rfl, _, rfl, c, b, g, _, rfl, hcg, hb, _, rfl, ?_⟩
      have e : ((groupsG s m (order s)).take (i + 1)).foldl (fun b g => if betterI g b = true then g else b) emptyG =
          (fun b g => if betterI g b = true then g else b) (((groupsG s m (order s)).take i).foldl (fun b g => if betterI g b = true then g else b) emptyG) g := by
        rw [take_snoc hg, List.foldl_append]
        rfl
      refine ite2 (fun h1 => ?_) (fun h1 => ?_)
      · refine ⟨_, rfl, rfl, c, some (.ref c), rfl, ?_⟩
        rw [e]
        show GroupAt A H' c (if betterI g _ = true then g else _)
        rw [if_pos h1]
        exact hcg
      · refine ⟨rfl, b, some (.ref c), rfl, ?_⟩
        rw [e]
        show GroupAt A H' b (if betterI g _ = true then g else _)
        rw [if_neg h1]
        exact hb
    · rintro σ H' ⟨rfl, b, v, rfl, hb⟩
      rw [List.length_map, hgs.len, List.take_length, most_eq s hm betterI_iff] at hb
      exact ⟨_, rfl, k b H' ((Sm.of sm1).trans sm2) hT2 hb⟩
def sp_the_plan (A : Adr) : Sp := fun vs H Q _ => ∃ (a t pl : Addr) (as : List Addr) (s : Km449.Sea) (m : Nat), vs = [.ref a, .int m] ∧ SeaAt A H a t pl as s ∧ s.persons.length ≤ 9 ∧ TabL A H ∧ m ≤ 100000 ∧
  ∀ D H', Sm H H' → TabL A H' → H D = none → H' D = some (.lst (numsV (s.plan m))) → Q (.ref D) H'
theorem ok_the_plan (T : Txt K mg A) (B : BMain mg base) : FnOk P w K mg base CX0 7 A.f_the_plan A.d_the_plan ["sea", "t"] (sp_the_plan A) := by
  refine T.the_plan.fn.ok sc_the_plan (fun vs H Q E h => ?_) (fun cdv Ar outer s H vs Q E hr h => ?_)
  · obtain ⟨a, t, pl, as, s, m, rfl, _⟩ := h
    rfl
  · obtain ⟨a, t, pl, as, s, m, rfl, S, hn, hT, hm, k⟩ := h
    refine ⟨_, (pss_one (ps_ret (pe_call (ok_numbers_within T B) (hr.mono (by decide)) (by rfl) T.numbers_within.mg T.numbers_within.fn.kp T.numbers_within.bd .nil pass0 (pa_cons (pv 0) (pa_cons (pe_fld (pe_call (ok_the_most T B) (hr.mono (by decide)) (by rfl) T.the_most.mg T.the_most.fn.kp T.the_most.bd .nil pass0 (pa_cons (pv 0) (pa_cons (pv 1) pa_nil))) rfl) pa_nil))))), ?_⟩
    refine ⟨_, rfl, _, rfl, _, rfl, a, t, pl, as, s, m, rfl, S, hn, hT, hm, fun b H1 sm1 hT1 hb => ?_⟩
    obtain ⟨db, hbo⟩ := hb
    refine ⟨b, _, db, _, _, rfl, hbo, T.C_Group.cl, T.nGroup_bits, rfl, a, t, pl, as, s, _, rfl, S.sm sm1, hn, hT1, fun D H2 sm2 hT2 nD hD => ?_⟩
    rw [best_bits, plan_eq] at hD
    exact k D H2 (sm1.trans sm2) hT2 (sm1.free nD) hD
/-- all groups of as many as the most -/
def mostG (s : Km449.Sea) : List Grp := (groupsG s (0 : Nat) (order s)).filter fun g => decide (g.size = (s.best 0).length)
theorem mostG_few {s : Km449.Sea} (hn : s.persons.length ≤ 9) : (mostG s).length ≤ 512 := Nat.le_trans (List.length_filter_le _ _) (groupsG_few s _ (by have := order_len s; omega))
def sp_groups_of_the_most (A : Adr) : Sp := fun vs H Q _ => ∃ (a t pl : Addr) (as : List Addr) (s : Km449.Sea), vs = [.ref a] ∧ SeaAt A H a t pl as s ∧ s.persons.length ≤ 9 ∧ TabL A H ∧
  ∀ D gs H', Sm H H' → TabL A H' → H D = none → H' D = some (.lst (gs.map V.ref)) → GroupsAt A H' gs (mostG s) → Q (.ref D) H'
theorem ok_groups_of_the_most (T : Txt K mg A) (B : BMain mg base) : FnOk P w K mg base CX0 6 A.f_groups_of_the_most A.d_groups_of_the_most ["sea"] (sp_groups_of_the_most A) := by
  refine T.groups_of_the_most.fn.ok sc_groups_of_the_most (fun vs H Q E h => ?_) (fun cdv Ar outer s H vs Q E hr h => ?_)
  · obtain ⟨a, t, pl, as, s, rfl, _⟩ := h
    rfl
  · obtain ⟨a, t, pl, as, s, rfl, S, hn, hT, k⟩ := h
    refine ⟨_, (pss_cons (ps_set (i := 1) sc_groups_of_the_most.nd rfl (by first | exact Or.inl rfl | exact Or.inr rfl) (pe_call (ok_groups_in_time T B) (hr.mono (by decide)) (by rfl) T.groups_in_time.mg T.groups_in_time.fn.kp T.groups_in_time.bd .nil pass0 (pa_cons (pv 0) (pa_cons pe_int pa_nil)))) (pss_cons (ps_set (i := 2) sc_groups_of_the_most.nd rfl (by first | exact Or.inl rfl | exact Or.inr rfl) (pe_callB (cr_max rfl) (by rfl) T.n_max boot_max (pa_cons (pe_lc rfl sc_groups_of_the_most.nd (pi_list (pv 1)) (blkOk_by (N := ["sea", "groups", "size", "group"]) (sc := defScope st_groups_of_the_most) (own := [("group", 3)]) (by decide +kernel)) (fun _ _ _ _ _ => (pg_name (i := 3) sc_groups_of_the_most.nd rfl (by first | exact Or.inl rfl | exact Or.inr rfl))) (fun _ _ _ _ _ => pts_nil) (fun _ _ _ _ _ => (pe_fldK (K := K) rfl (pv 3) rfl))) pa_nil))) (pss_one (ps_ret (pe_lc rfl sc_groups_of_the_most.nd (pi_list (pv 1)) (blkOk_by (N := ["sea", "groups", "size", "group"]) (sc := defScope st_groups_of_the_most) (own := [("group", 3)]) (by decide +kernel)) (fun _ _ _ _ _ => (pg_name (i := 3) sc_groups_of_the_most.nd rfl (by first | exact Or.inl rfl | exact Or.inr rfl))) (fun _ _ _ _ _ => (pts_one (pt_cmpR op_eq (pe_fldK (K := K) rfl (pv 3) rfl) (pv 2) (nomark _)))) (fun _ _ _ _ _ => (pv 3))))))), ?_⟩
    refine ⟨_, rfl, a, t, pl, as, s, 0, rfl, S, hn, hT, fun D gs H1 sm1 hT1 nD hD hgs => ?_⟩
    unfold mostG at k
    generalize hG : groupsG s (0 : Nat) (order s) = G at k
    have hgs : GroupsAt A H1 gs G := by rw [← hG]; exact hgs
    have few : gs.length ≤ 512 := by
      rw [hgs.len, ← hG]
      exact groupsG_few s _ (by have := order_len s; omega)
    -- size = max([group.size for group in groups])
    refine ⟨_, rfl, D, rfl, ⟨_, SqL.of hD⟩, ?_⟩
    intro Z nZ
    refine lc_list (K := K) (a := D) (xs := gs.map V.ref) (fun i H' => Same H1 H' ∧ H' Z = some (.lst (((G.take i).map fun g => (g.size : Int)).map V.int)))
      ⟨same_upd (Same.refl _) nZ, upd_same⟩ (fun i H' _ ⟨sm, _⟩ => SqL.of (sm _ _ hD)) ?_ ?_
    · rintro i y H' hi ⟨sm, hZ⟩
      obtain ⟨c, hc, rfl⟩ := get_map hi
      obtain ⟨g, hg, dg, hgo⟩ := hgs.at hc
      refine ⟨rfl, ?_⟩
      refine ⟨_, rfl, c, _, dg, _, _, rfl, sm _ _ hgo, T.C_Group.cl, T.nGroup_size, rfl, _, hZ, ?_, same_upd sm nZ, ?_⟩
      · rw [List.length_map, List.length_map, List.length_take]
        refine small512 ?_
        rw [← hgs.len]
        omega
      · rw [upd_same, map_snoc _ hg, List.map_append]
        rfl
    · rintro H2 ⟨sm2, hZ⟩
      rw [List.length_map, hgs.len, List.take_length] at hZ
      have he : emptyG ∈ G := by rw [← hG]; exact empty_in s
      refine ⟨Z, _, rfl, SqL.of hZ, ?_, fun sz hs1 hs2 => ?_⟩
      · rw [List.length_map]
        exact List.length_pos_of_mem he
      · have hsz : sz = ((s.best 0).length : Int) := by
          obtain ⟨g, hg, rfl⟩ := List.mem_map.mp hs1
          have b1 := group_size_le s (t := 0) (by omega) (g := g) (by rw [← hG] at hg; exact hg)
          obtain ⟨b2, b3⟩ := best_group s (t := 0) (by omega)
          have b4 := hs2 _ (List.mem_map.mpr ⟨_, by rw [← hG]; exact b2, rfl⟩)
          rw [b3] at b4
          omega
        subst hsz
        -- [group for group in groups if group.size == size]
        refine ⟨_, rfl, D, rfl, ⟨_, SqL.of (sm2 _ _ hD)⟩, ?_⟩
        intro Y nY
        refine lc_list (K := K) (a := D) (xs := gs.map V.ref) (fun i H' => Same H2 H' ∧ ∃ fs : List Addr, H' Y = some (.lst (fs.map V.ref)) ∧ fs.length ≤ i ∧ GroupsAt A H' fs ((G.take i).filter fun g => decide (g.size = (s.best 0).length)))
          ⟨same_upd (Same.refl _) nY, [], upd_same, Nat.le_refl _, GroupsAt.nil⟩ (fun i H' _ ⟨sm, _⟩ => SqL.of (sm _ _ (sm2 _ _ hD))) ?_ ?_
        · rintro i y H' hi ⟨sm, fs, hY, hfl, hfs⟩
          obtain ⟨c, hc, rfl⟩ := get_map hi
          obtain ⟨g, hg, dg, hgo⟩ := hgs.at hc
          have hgo' := sm _ _ (sm2 _ _ hgo)
          have hil : i < gs.length := (List.getElem?_eq_some_iff.mp hc).1
          refine ⟨rfl, ?_⟩
          refine ⟨_, rfl, c, _, dg, _, _, rfl, hgo', T.C_Group.cl, T.nGroup_size, rfl, _, rfl, rfl, _, rfl, ?_⟩
          have e0 : decide (V.int (g.size : Int) = V.int ((s.best 0).length : Int)) = decide (g.size = (s.best 0).length) := dec_nat
          show if decide (V.int (g.size : Int) = V.int ((s.best 0).length : Int)) = true then _ else _
          rw [e0]
          refine ite2 (fun h1 => ?_) (fun h1 => ?_)
          · refine ⟨_, rfl, _, hY, ?_, same_upd sm nY, fs ++ [c], ?_, ?_, ?_⟩
            · rw [List.length_map]
              exact small512 (by omega)
            · rw [upd_same, List.map_append]
              rfl
            · rw [List.length_append]
              show fs.length + 1 ≤ i + 1
              omega
            · rw [filter_snoc _ hg, if_pos h1]
              exact (hfs.app (GroupsAt.one ⟨dg, hgo'⟩)).upd (.inr hY)
          · refine ⟨sm, fs, hY, by omega, ?_⟩
            rw [filter_snoc _ hg, if_neg h1, List.append_nil]
            exact hfs
        · rintro H3 ⟨sm3, fs, hY, hfl, hfs⟩
          rw [List.length_map, hgs.len, List.take_length] at hfs
          exact k Y fs H3 (sm1.trans (.of (sm2.trans sm3))) (hT1.same (sm2.trans sm3)) (sm1.free (sm2.free nY)) hY hfs
def sp_longest_wait (A : Adr) : Sp := fun vs H Q _ => ∃ (a t pl : Addr) (as : List Addr) (s : Km449.Sea), vs = [.ref a] ∧ SeaAt A H a t pl as s ∧ s.persons.length ≤ 9 ∧ TabL A H ∧
  ∀ H', Sm H H' → TabL A H' → Q (.int s.spare) H'
theorem ok_longest_wait (T : Txt K mg A) (B : BMain mg base) : FnOk P w K mg base CX0 7 A.f_longest_wait A.d_longest_wait ["sea"] (sp_longest_wait A) := by
  refine T.longest_wait.fn.ok sc_longest_wait (fun vs H Q E h => ?_) (fun cdv Ar outer s H vs Q E hr h => ?_)
  · obtain ⟨a, t, pl, as, s, rfl, _⟩ := h
    rfl
  · obtain ⟨a, t, pl, as, s, rfl, S, hn, hT, k⟩ := h
    refine ⟨_, (pss_one (ps_ret (pe_callB (cr_max rfl) (by rfl) T.n_max boot_max (pa_cons (pe_lc rfl sc_longest_wait.nd (pi_list (pe_call (ok_groups_of_the_most T B) (hr.mono (by decide)) (by rfl) T.groups_of_the_most.mg T.groups_of_the_most.fn.kp T.groups_of_the_most.bd .nil pass0 (pa_cons (pv 0) pa_nil))) (blkOk_by (N := ["sea", "group"]) (sc := defScope st_longest_wait) (own := [("group", 1)]) (by decide +kernel)) (fun _ _ _ _ _ => (pg_name (i := 1) sc_longest_wait.nd rfl (by first | exact Or.inl rfl | exact Or.inr rfl))) (fun _ _ _ _ _ => pts_nil) (fun _ _ _ _ _ => (pe_fldK (K := K) rfl (pv 1) rfl))) pa_nil)))), ?_⟩
    refine ⟨_, rfl, a, t, pl, as, s, rfl, S, hn, hT, fun D gs H1 sm1 hT1 nD hD hgs => ⟨D, rfl, ⟨_, SqL.of hD⟩, ?_⟩⟩
    have few : gs.length ≤ 512 := by rw [hgs.len]; exact mostG_few hn
    intro Y nY
    refine lc_list (K := K) (a := D) (xs := gs.map V.ref) (fun i H' => Same H1 H' ∧ H' Y = some (.lst ((((mostG s).take i).map fun g => g.spare).map V.int)))
      ⟨same_upd (Same.refl _) nY, upd_same⟩ (fun i H' _ ⟨sm, _⟩ => SqL.of (sm _ _ hD)) ?_ ?_
    · rintro i y H' hi ⟨sm, hY⟩
      obtain ⟨c, hc, rfl⟩ := get_map hi
      obtain ⟨g, hg, dg, hgo⟩ := hgs.at hc
      refine ⟨rfl, ?_⟩
      refine ⟨_, rfl, c, _, dg, _, _, rfl, sm _ _ hgo, T.C_Group.cl, T.nGroup_spare, rfl, _, hY, ?_, same_upd sm nY, ?_⟩
      · rw [List.length_map, List.length_map, List.length_take]
        refine small512 ?_
        rw [← hgs.len]
        omega
      · rw [upd_same, map_snoc _ hg, List.map_append]
        rfl
    · rintro H3 ⟨sm3, hY⟩
      rw [List.length_map, hgs.len, List.take_length] at hY
      have hmem : ∀ g, g ∈ mostG s ↔ g ∈ groupsG s (0 : Nat) (order s) ∧ g.size = (s.best 0).length := fun g => by unfold mostG; rw [List.mem_filter, decide_eq_true_iff]
      refine ⟨Y, _, rfl, SqL.of hY, ?_, fun mx hm1 hm2 => ?_⟩
      · rw [List.length_map]
        obtain ⟨b2, b3⟩ := best_group s (t := 0) (by omega)
        exact List.length_pos_of_mem ((hmem _).mpr ⟨b2, b3⟩)
      · obtain ⟨g, hg, rfl⟩ := List.mem_map.mp hm1
        obtain ⟨g1, g2⟩ := (hmem g).mp hg
        have e := spare_eq s (M := g.spare) ⟨g, g1, g2, rfl⟩ fun h hh hs => hm2 _ (List.mem_map.mpr ⟨h, (hmem h).mpr ⟨hh, hs⟩, rfl⟩)
        rw [← e]
        exact k H3 (sm1.trans (.of sm3)) (hT1.same sm3)
def sp_is_among_the_most (A : Adr) : Sp := fun vs H Q _ => ∃ (a t pl : Addr) (as : List Addr) (s : Km449.Sea) (p : Nat), vs = [.ref a, .int p] ∧ SeaAt A H a t pl as s ∧ s.persons.length ≤ 9 ∧ TabL A H ∧
  ∀ H', Sm H H' → TabL A H' → Q (.bl ((Km449.parts s.waits).any fun l => decide ((s.best 0).length ≤ l.length) && (l.contains p && s.can 0 l))) H'
theorem ok_is_among_the_most (T : Txt K mg A) (B : BMain mg base) : FnOk P w K mg base CX0 7 A.f_is_among_the_most A.d_is_among_the_most ["sea", "number"] (sp_is_among_the_most A) := by
  refine T.is_among_the_most.fn.ok sc_is_among_the_most (fun vs H Q E h => ?_) (fun cdv Ar outer s H vs Q E hr h => ?_)
  · obtain ⟨a, t, pl, as, s, p, rfl, _⟩ := h
    rfl
  · obtain ⟨a, t, pl, as, s, p, rfl, S, hn, hT, k⟩ := h
    refine ⟨_, (pss_one (ps_ret (pe_callB (cr_any rfl) (by rfl) T.n_any boot_any (pa_cons (pe_lc rfl sc_is_among_the_most.nd (pi_list (pe_call (ok_groups_of_the_most T B) (hr.mono (by decide)) (by rfl) T.groups_of_the_most.mg T.groups_of_the_most.fn.kp T.groups_of_the_most.bd .nil pass0 (pa_cons (pv 0) pa_nil))) (blkOk_by (N := ["sea", "number", "group"]) (sc := defScope st_is_among_the_most) (own := [("group", 2)]) (by decide +kernel)) (fun _ _ _ _ _ => (pg_name (i := 2) sc_is_among_the_most.nd rfl (by first | exact Or.inl rfl | exact Or.inr rfl))) (fun _ _ _ _ _ => pts_nil) (fun _ _ _ _ _ => (pe_meth (pv 2) T.C_Group.cl T.Group_has.me (ok_Group_has T) (hr.mono (by decide)) T.Group_has.bd .nil pass0 (pa_cons (pv 1) pa_nil)))) pa_nil)))), ?_⟩
    refine ⟨_, rfl, a, t, pl, as, s, rfl, S, hn, hT, fun D gs H1 sm1 hT1 nD hD hgs => ⟨D, rfl, ⟨_, SqL.of hD⟩, ?_⟩⟩
    have few : gs.length ≤ 512 := by rw [hgs.len]; exact mostG_few hn
    intro Y nY
    refine lc_list (K := K) (a := D) (xs := gs.map V.ref) (fun i H' => Same H1 H' ∧ H' Y = some (.lst ((((mostG s).take i).map fun g => g.bits.testBit p).map V.bl)))
      ⟨same_upd (Same.refl _) nY, upd_same⟩ (fun i H' _ ⟨sm, _⟩ => SqL.of (sm _ _ hD)) ?_ ?_
    · rintro i y H' hi ⟨sm, hY⟩
      obtain ⟨c, hc, rfl⟩ := get_map hi
      obtain ⟨g, hg, dg, hgo⟩ := hgs.at hc
      refine ⟨rfl, ?_⟩
      refine ⟨_, rfl, c, dg, _, rfl, sm _ _ hgo, rfl, _, rfl, c, g, p, rfl, ⟨dg, sm _ _ hgo⟩, _, hY, ?_, same_upd sm nY, ?_⟩
      · rw [List.length_map, List.length_map, List.length_take]
        refine small512 ?_
        rw [← hgs.len]
        omega
      · rw [upd_same, map_snoc _ hg, List.map_append]
        rfl
    · rintro H3 ⟨sm3, hY⟩
      rw [List.length_map, hgs.len, List.take_length] at hY
      refine ⟨Y, _, rfl, SqL.of hY, ?_⟩
      have e : ((mostG s).map fun g => g.bits.testBit p).any id = (Km449.parts s.waits).any fun l => decide ((s.best 0).length ≤ l.length) && (l.contains p && s.can 0 l) := by
        rw [surely_eq, List.any_map]
        rfl
      rw [e]
      exact k H3 (sm1.trans (.of sm3)) (hT1.same sm3)
def sp_size_without (A : Adr) : Sp := fun vs H Q _ => ∃ (a t pl : Addr) (as : List Addr) (s : Km449.Sea) (p : Nat), vs = [.ref a, .int p] ∧ SeaAt A H a t pl as s ∧ s.persons.length ≤ 9 ∧ p < s.persons.length ∧ TabL A H ∧
  ∀ H', Sm H H' → TabL A H' → Q (.int ((outS s p).best 0).length) H'
theorem ok_size_without (T : Txt K mg A) (B : BMain mg base) : FnOk P w K mg base CX0 6 A.f_size_without A.d_size_without ["sea", "number"] (sp_size_without A) := by
  refine T.size_without.fn.ok sc_size_without (fun vs H Q E h => ?_) (fun cdv Ar outer s H vs Q E hr h => ?_)
  · obtain ⟨a, t, pl, as, s, p, rfl, _⟩ := h
    rfl
  · obtain ⟨a, t, pl, as, s, p, rfl, S, hn, hp, hT, k⟩ := h
    refine ⟨_, (pss_one (ps_ret (pe_callB (cr_max rfl) (by rfl) T.n_max boot_max (pa_cons (pe_lc rfl sc_size_without.nd (pi_list (pe_call (ok_groups_in_time T B) (hr.mono (by decide)) (by rfl) T.groups_in_time.mg T.groups_in_time.fn.kp T.groups_in_time.bd .nil pass0 (pa_cons (pv 0) (pa_cons pe_int pa_nil)))) (blkOk_by (N := ["sea", "number", "group"]) (sc := defScope st_size_without) (own := [("group", 2)]) (by decide +kernel)) (fun _ _ _ _ _ => (pg_name (i := 2) sc_size_without.nd rfl (by first | exact Or.inl rfl | exact Or.inr rfl))) (fun _ _ _ _ _ => (pts_one (pt_not (pt_val (pe_meth (pv 2) T.C_Group.cl T.Group_has.me (ok_Group_has T) (hr.mono (by decide)) T.Group_has.bd .nil pass0 (pa_cons (pv 1) pa_nil)))))) (fun _ _ _ _ _ => (pe_fldK (K := K) rfl (pv 2) rfl))) pa_nil)))), ?_⟩
    refine ⟨_, rfl, a, t, pl, as, s, 0, rfl, S, hn, hT, fun D gs H1 sm1 hT1 nD hD hgs => ⟨D, rfl, ⟨_, SqL.of hD⟩, ?_⟩⟩
    generalize hG : groupsG s (0 : Nat) (order s) = G
    have hgs : GroupsAt A H1 gs G := by rw [← hG]; exact hgs
    have few : gs.length ≤ 512 := by
      rw [hgs.len, ← hG]
      exact groupsG_few s _ (by have := order_len s; omega)
    intro Y nY
    refine lc_list (K := K) (a := D) (xs := gs.map V.ref) (fun i H' => Same H1 H' ∧ H' Y = some (.lst ((((G.take i).filter fun g => !g.bits.testBit p).map fun g => (g.size : Int)).map V.int)))
      ⟨same_upd (Same.refl _) nY, upd_same⟩ (fun i H' _ ⟨sm, _⟩ => SqL.of (sm _ _ hD)) ?_ ?_
    · rintro i y H' hi ⟨sm, hY⟩
      obtain ⟨c, hc, rfl⟩ := get_map hi
      obtain ⟨g, hg, dg, hgo⟩ := hgs.at hc
      have hgo' := sm _ _ hgo
      refine ⟨rfl, ?_⟩
      refine ⟨_, rfl, c, dg, _, rfl, hgo', rfl, _, rfl, c, g, p, rfl, ⟨dg, hgo'⟩, _, rfl, ?_⟩
      refine ite2 (fun h1 => ?_) (fun h1 => ?_)
      · refine ⟨_, rfl, c, _, dg, _, _, rfl, hgo', T.C_Group.cl, T.nGroup_size, rfl, _, hY, ?_, same_upd sm nY, ?_⟩
        · rw [List.length_map, List.length_map]
          refine small512 (Nat.le_trans (List.length_filter_le _ _) ?_)
          rw [List.length_take, ← hgs.len]
          omega
        · rw [upd_same, filter_snoc _ hg, if_pos h1, List.map_append, List.map_append]
          rfl
      · refine ⟨sm, ?_⟩
        rw [filter_snoc _ hg, if_neg h1, List.append_nil]
        exact hY
    · rintro H3 ⟨sm3, hY⟩
      rw [List.length_map, hgs.len, List.take_length] at hY
      have hmem : ∀ g, g ∈ (G.filter fun g => !g.bits.testBit p) ↔ g ∈ G ∧ g.bits.testBit p = false := fun g => by rw [List.mem_filter, Bool.not_eq_true']
      have he : emptyG ∈ G := by rw [← hG]; exact empty_in s
      refine ⟨Y, _, rfl, SqL.of hY, ?_, fun mx hm1 hm2 => ?_⟩
      · rw [List.length_map]
        exact List.length_pos_of_mem ((hmem _).mpr ⟨he, by show (0 : Nat).testBit p = false; simp⟩)
      · obtain ⟨g, hg, rfl⟩ := List.mem_map.mp hm1
        obtain ⟨g1, g2⟩ := (hmem g).mp hg
        have e := without_eq hp (M := (g.size : Int)) ⟨g, by rw [hG]; exact g1, g2, rfl⟩ fun h hh hs => hm2 _ (List.mem_map.mpr ⟨h, (hmem h).mpr ⟨by rw [hG] at hh; exact hh, hs⟩, rfl⟩)
        rw [← e]
        exact k H3 (sm1.trans (.of sm3)) (hT1.same sm3)
end
end Hh
set_option Elab.async false
set_option linter.all false
set_option maxRecDepth 100000
set_option maxHeartbeats 2000000
namespace Hh
open PySem PySem.Spec PyProof.Rows L2

def optV : Option Int → V
  | none => .non
  | some i => .int i
theorem optV_some (i : Int) : (!decide (optV (some i) = V.non)) = true := by
  show (!decide (V.int i = V.non)) = true
  rw [decide_eq_false (show ¬ V.int i = V.non by intro q; cases q)]
  rfl
theorem optV_none : (!decide (optV none = V.non)) = false := by
  show (!decide (V.non = V.non)) = false
  rw [decide_eq_true (show V.non = V.non from rfl)]
  rfl
def SeaIn (A : Adr) (H : Hp) (a : Addr) (s : Km449.Sea) : Prop := ∃ t pl as, SeaAt A H a t pl as s
theorem SeaIn.sm {A : Adr} {H H' : Hp} {a : Addr} {s : Km449.Sea} (x : SeaIn A H a s) (e : Sm H H') : SeaIn A H' a s := let ⟨t, pl, as, S⟩ := x; ⟨t, pl, as, S.sm e⟩
theorem bit_of {r : Nat} (h : r ≤ 1) : Km449.bit (r == 1) = r := by
  unfold Km449.bit
  have : r = 0 ∨ r = 1 := by omega
  rcases this with rfl | rfl <;> rfl
theorem bit_inj (a b : Bool) : decide (V.int ((Km449.bit a : Nat) : Int) = V.int ((Km449.bit b : Nat) : Int)) = decide (a = b) := by cases a <;> cases b <;> decide
def refF (x : Km449.Person) (c : Nat) (r : Bool) : Option Int := if x.how ≠ 0 then some (-16) else if x.clothes = c ∧ x.raft = r then some (-17) else none
def refW (s : Km449.Sea) (p : Nat) : Option Int := if s.persons.length ≤ p then some (-2) else if (s.person p).how ≠ 0 then some (-16) else none
def refR (s : Km449.Sea) (p o : Nat) : Option Int := if s.persons.length ≤ p then some (-2) else if 1 < o then some (-22) else refF (s.person p) (s.person p).clothes (o == 1)
def refC (s : Km449.Sea) (p c : Nat) : Option Int := if s.persons.length ≤ p then some (-2) else if 3 < c then some (-22) else refF (s.person p) c (s.person p).raft
theorem refW_none {s : Km449.Sea} {p : Nat} (h : refW s p = none) : ∃ x, s.persons[p]? = some x ∧ x.how = 0 := by
  unfold refW at h
  by_cases h1 : s.persons.length ≤ p
  · rw [if_pos h1] at h; cases h
  · rw [if_neg h1] at h
    have hx : s.persons[p]? = some s.persons[p] := List.getElem?_eq_getElem (by omega)
    rw [person_at hx] at h
    by_cases h2 : (s.persons[p]).how ≠ 0
    · rw [if_pos h2] at h; cases h
    · exact ⟨_, hx, Classical.byContradiction h2⟩
theorem refF_none {x : Km449.Person} {c : Nat} {r : Bool} (h : refF x c r = none) : x.how = 0 ∧ ¬ (x.clothes = c ∧ x.raft = r) := by
  unfold refF at h
  by_cases h1 : x.how ≠ 0
  · rw [if_pos h1] at h; cases h
  · rw [if_neg h1] at h
    by_cases h2 : x.clothes = c ∧ x.raft = r
    · rw [if_pos h2] at h; cases h
    · exact ⟨Classical.byContradiction h1, h2⟩
theorem refR_none {s : Km449.Sea} {p o : Nat} (h : refR s p o = none) : ∃ x, s.persons[p]? = some x ∧ x.how = 0 ∧ o ≤ 1 ∧ ¬ x.raft = (o == 1) := by
  unfold refR at h
  by_cases h1 : s.persons.length ≤ p
  · rw [if_pos h1] at h; cases h
  · rw [if_neg h1] at h
    have hx : s.persons[p]? = some s.persons[p] := List.getElem?_eq_getElem (by omega)
    rw [person_at hx] at h
    by_cases h2 : 1 < o
    · rw [if_pos h2] at h; cases h
    · rw [if_neg h2] at h
      obtain ⟨h3, h4⟩ := refF_none h
      exact ⟨_, hx, h3, by omega, fun z => h4 ⟨rfl, z⟩⟩
theorem refC_none {s : Km449.Sea} {p c : Nat} (h : refC s p c = none) : ∃ x, s.persons[p]? = some x ∧ x.how = 0 ∧ c ≤ 3 ∧ ¬ x.clothes = c := by
  unfold refC at h
  by_cases h1 : s.persons.length ≤ p
  · rw [if_pos h1] at h; cases h
  · rw [if_neg h1] at h
    have hx : s.persons[p]? = some s.persons[p] := List.getElem?_eq_getElem (by omega)
    rw [person_at hx] at h
    by_cases h2 : 3 < c
    · rw [if_pos h2] at h; cases h
    · rw [if_neg h2] at h
      obtain ⟨h3, h4⟩ := refF_none h
      exact ⟨_, hx, h3, by omega, fun z => h4 ⟨z, rfl⟩⟩

section
variable {P : Program} {w : World} {K : PySem.W.Frag} {mg : Str → Option Value} {base : Heap} {A : Adr}
def sp_refusal_of_fit (A : Adr) : Sp := fun vs H Q _ => ∃ (b : Addr) (x : Km449.Person) (c : Nat) (r : Bool), vs = [.ref b, .int c, .int (Km449.bit r : Nat)] ∧ PersonAt A H b x ∧ Q (optV (refF x c r)) H
theorem ok_refusal_of_fit (T : Txt K mg A) : FnOk P w K mg base CX0 2 A.f_refusal_of_fit A.d_refusal_of_fit ["person", "clothes", "raft"] (sp_refusal_of_fit A) := by
  refine T.refusal_of_fit.fn.ok sc_refusal_of_fit (fun vs H Q E h => ?_) (fun cdv Ar outer s H vs Q E hr h => ?_)
  · obtain ⟨b, x, c, r, rfl, _⟩ := h
    rfl
  · obtain ⟨b, x, c, r, rfl, ⟨db, hbx⟩, k⟩ := h
    refine ⟨_, (pss_cons (ps_if (pt_not (pt_val (pe_meth0 (pv 0) T.C_Person.cl T.Person_waits.me (ok_Person_waits T) (hr.mono (by decide)) T.Person_waits.bd .nil pass0))) (pss_one (ps_ret (pe_cst (by rfl) T.c_NOT_WAITING))) pss_nil) (pss_cons (ps_if (PW.pt (pw_and (pt_cmpR op_eq (pe_fld (pv 0) rfl) (pv 1) (nomark _)) (pw_and1 (pt_cmpR op_eq (pe_fld (pv 0) rfl) (pv 2) (nomark _))))) (pss_one (ps_ret (pe_cst (by rfl) T.c_ALREADY_SO))) pss_nil) (pss_one (ps_ret pe_non)))), ?_⟩
    unfold refF at k
    refine ⟨_, rfl, b, db, _, rfl, hbx, rfl, b, x, rfl, ⟨db, hbx⟩, _, rfl, ?_⟩
    refine ite2 (fun h2 => ?_) (fun h2 => ?_)
    · have h2 : ¬ x.how = 0 := by simpa using h2
      rw [if_pos h2] at k
      exact k
    have h2 : x.how = 0 := by simpa using h2
    rw [if_neg (by rw [h2]; simp)] at k
    refine ⟨_, rfl, b, _, db, _, _, rfl, hbx, T.C_Person.cl, T.nPerson_clothes, rfl, _, rfl, rfl, _, rfl, ?_⟩
    have e0 : decide (V.int (x.clothes : Int) = V.int (c : Int)) = decide (x.clothes = c) := dec_nat
    show if decide (V.int (x.clothes : Int) = V.int (c : Int)) = true then _ else _
    rw [e0]
    refine ite2 (fun h3 => ?_) (fun h3 => ?_)
    · have h3 := of_decide_eq_true h3
      refine ⟨_, rfl, b, _, db, _, _, rfl, hbx, T.C_Person.cl, T.nPerson_raft, rfl, _, rfl, rfl, _, rfl, ?_⟩
      show if decide (V.int ((Km449.bit x.raft : Nat) : Int) = V.int ((Km449.bit r : Nat) : Int)) = true then _ else _
      rw [bit_inj]
      refine ite2 (fun h4 => ?_) (fun h4 => ?_)
      · rw [if_pos ⟨h3, of_decide_eq_true h4⟩] at k
        exact k
      · rw [if_neg (fun z => h4 (decide_eq_true z.2))] at k
        exact k
    · rw [if_neg (fun z => h3 (decide_eq_true z.1))] at k
      exact k
def sp_refusal_unless_waiting (A : Adr) : Sp := fun vs H Q _ => ∃ (a : Addr) (s : Km449.Sea) (p : Nat), vs = [.ref a, .int p] ∧ SeaIn A H a s ∧ Q (optV (refW s p)) H
theorem ok_refusal_unless_waiting (T : Txt K mg A) : FnOk P w K mg base CX0 2 A.f_refusal_unless_waiting A.d_refusal_unless_waiting ["sea", "p"] (sp_refusal_unless_waiting A) := by
  refine T.refusal_unless_waiting.fn.ok sc_refusal_unless_waiting (fun vs H Q E h => ?_) (fun cdv Ar outer s H vs Q E hr h => ?_)
  · obtain ⟨a, s, p, rfl, _⟩ := h
    rfl
  · obtain ⟨a, s, p, rfl, ⟨t, pl, as, S⟩, k⟩ := h
    obtain ⟨da, ha⟩ := S.sea
    refine ⟨_, (pss_cons (ps_if (pt_cmpR op_ge (pv 1) (pe_callB call_len_seq (by rfl) T.n_len PySem.boot_len (pa_cons (pe_fld (pv 0) rfl) pa_nil)) (nomark _)) (pss_one (ps_ret (pe_cst (by rfl) T.c_NOT_THERE))) pss_nil) (pss_cons (ps_if (pt_not (pt_val (pe_meth0 (pe_ix ix_list (pe_fld (pv 0) rfl) (pv 1) (fun _ _ => rfl)) T.C_Person.cl T.Person_waits.me (ok_Person_waits T) (hr.mono (by decide)) T.Person_waits.bd .nil pass0))) (pss_one (ps_ret (pe_cst (by rfl) T.c_NOT_WAITING))) pss_nil) (pss_one (ps_ret pe_non)))), ?_⟩
    unfold refW at k
    refine ⟨_, rfl, _, rfl, a, _, da, _, _, rfl, ha, T.C_Sea.cl, T.nSea_persons, rfl, pl, _, rfl, .inl (SqL.of S.lst), _, _, rfl, rfl, _, rfl, ?_⟩
    rw [List.length_map, S.per.len]
    refine ite2 (fun h1 => ?_) (fun h1 => ?_)
    · have h1 : s.persons.length ≤ p := by have := of_decide_eq_true h1; omega
      rw [if_pos h1] at k
      exact k
    have h1 : p < s.persons.length := by
      apply Nat.lt_of_not_le
      intro z
      exact h1 (decide_eq_true (by omega))
    have hx : s.persons[p]? = some s.persons[p] := List.getElem?_eq_getElem h1
    generalize s.persons[p] = x at hx
    obtain ⟨b, hb, db, hbx⟩ := S.per.get hx
    rw [if_neg (by omega), person_at hx] at k
    refine ⟨_, rfl, a, _, da, _, _, rfl, ha, T.C_Sea.cl, T.nSea_persons, rfl, _, rfl, pl, _, _, V.ref b, rfl, rfl, SqL.of S.lst, at_of (j := p) rfl (by rw [List.getElem?_map, hb]; rfl), b, db, _, rfl, hbx, rfl, b, x, rfl, ⟨db, hbx⟩, _, rfl, ?_⟩
    refine ite2 (fun h2 => ?_) (fun h2 => ?_)
    · have h2 : ¬ x.how = 0 := by simpa using h2
      rw [if_pos h2] at k
      exact k
    · have h2 : x.how = 0 := by simpa using h2
      rw [if_neg (by rw [h2]; simp)] at k
      exact k
def sp_refusal_of_raft (A : Adr) : Sp := fun vs H Q _ => ∃ (a : Addr) (s : Km449.Sea) (p o : Nat), vs = [.ref a, .int p, .int o] ∧ SeaIn A H a s ∧ Q (optV (refR s p o)) H
theorem ok_refusal_of_raft (T : Txt K mg A) : FnOk P w K mg base CX0 3 A.f_refusal_of_raft A.d_refusal_of_raft ["sea", "p", "inside"] (sp_refusal_of_raft A) := by
  refine T.refusal_of_raft.fn.ok sc_refusal_of_raft (fun vs H Q E h => ?_) (fun cdv Ar outer s H vs Q E hr h => ?_)
  · obtain ⟨a, s, p, o, rfl, _⟩ := h
    rfl
  · obtain ⟨a, s, p, o, rfl, ⟨t, pl, as, S⟩, k⟩ := h
    obtain ⟨da, ha⟩ := S.sea
    refine ⟨_, (pss_cons (ps_if (pt_cmpR op_ge (pv 1) (pe_callB call_len_seq (by rfl) T.n_len PySem.boot_len (pa_cons (pe_fld (pv 0) rfl) pa_nil)) (nomark _)) (pss_one (ps_ret (pe_cst (by rfl) T.c_NOT_THERE))) pss_nil) (pss_cons (ps_if (pt_cmpR op_gt (pv 2) pe_int (nomark _)) (pss_one (ps_ret (pe_cst (by rfl) T.c_NOT_ALLOWED))) pss_nil) (pss_one (ps_ret (pe_call (ok_refusal_of_fit T) (hr.mono (by decide)) (by rfl) T.refusal_of_fit.mg T.refusal_of_fit.fn.kp T.refusal_of_fit.bd .nil pass0 (pa_cons (pe_ix ix_list (pe_fld (pv 0) rfl) (pv 1) (fun _ _ => rfl)) (pa_cons (pe_fld (pe_ix ix_list (pe_fld (pv 0) rfl) (pv 1) (fun _ _ => rfl)) rfl) (pa_cons (pv 2) pa_nil)))))))), ?_⟩
    unfold refR at k
    refine ⟨_, rfl, _, rfl, a, _, da, _, _, rfl, ha, T.C_Sea.cl, T.nSea_persons, rfl, pl, _, rfl, .inl (SqL.of S.lst), _, _, rfl, rfl, _, rfl, ?_⟩
    rw [List.length_map, S.per.len]
    refine ite2 (fun h1 => ?_) (fun h1 => ?_)
    · have h1 : s.persons.length ≤ p := by have := of_decide_eq_true h1; omega
      rw [if_pos h1] at k
      exact k
    have h1 : p < s.persons.length := by
      apply Nat.lt_of_not_le
      intro z
      exact h1 (decide_eq_true (by omega))
    have hx : s.persons[p]? = some s.persons[p] := List.getElem?_eq_getElem h1
    generalize s.persons[p] = x at hx
    obtain ⟨b, hb, db, hbx⟩ := S.per.get hx
    rw [if_neg (by omega), person_at hx] at k
    refine ⟨_, rfl, _, _, rfl, rfl, _, rfl, ?_⟩
    refine ite2 (fun h2 => ?_) (fun h2 => ?_)
    · have h2 : 1 < o := by have := of_decide_eq_true h2; omega
      rw [if_pos h2] at k
      exact k
    have h2 : ¬ 1 < o := fun z => h2 (decide_eq_true (by omega))
    rw [if_neg h2] at k
    refine ⟨_, rfl, a, _, da, _, _, rfl, ha, T.C_Sea.cl, T.nSea_persons, rfl, _, rfl, pl, _, _, V.ref b, rfl, rfl, SqL.of S.lst, at_of (j := p) rfl (by rw [List.getElem?_map, hb]; rfl),
      _, rfl, a, _, da, _, _, rfl, ha, T.C_Sea.cl, T.nSea_persons, rfl, _, rfl, pl, _, _, V.ref b, rfl, rfl, SqL.of S.lst, at_of (j := p) rfl (by rw [List.getElem?_map, hb]; rfl), b, _, db, _, _, rfl, hbx, T.C_Person.cl, T.nPerson_clothes, rfl,
      _, rfl, b, x, x.clothes, o == 1, ?_, ⟨db, hbx⟩, k⟩
    rw [bit_of (by omega)]
    rfl
def sp_refusal_of_clothes (A : Adr) : Sp := fun vs H Q _ => ∃ (a : Addr) (s : Km449.Sea) (p c : Nat), vs = [.ref a, .int p, .int c] ∧ SeaIn A H a s ∧ Q (optV (refC s p c)) H
theorem ok_refusal_of_clothes (T : Txt K mg A) : FnOk P w K mg base CX0 3 A.f_refusal_of_clothes A.d_refusal_of_clothes ["sea", "p", "c"] (sp_refusal_of_clothes A) := by
  refine T.refusal_of_clothes.fn.ok sc_refusal_of_clothes (fun vs H Q E h => ?_) (fun cdv Ar outer s H vs Q E hr h => ?_)
  · obtain ⟨a, s, p, o, rfl, _⟩ := h
    rfl
  · obtain ⟨a, s, p, c, rfl, ⟨t, pl, as, S⟩, k⟩ := h
    obtain ⟨da, ha⟩ := S.sea
    refine ⟨_, (pss_cons (ps_if (pt_cmpR op_ge (pv 1) (pe_callB call_len_seq (by rfl) T.n_len PySem.boot_len (pa_cons (pe_fld (pv 0) rfl) pa_nil)) (nomark _)) (pss_one (ps_ret (pe_cst (by rfl) T.c_NOT_THERE))) pss_nil) (pss_cons (ps_if (pt_cmpR op_ge (pv 2) (pe_cst (by rfl) T.c_CLOTHINGS) (nomark _)) (pss_one (ps_ret (pe_cst (by rfl) T.c_NOT_ALLOWED))) pss_nil) (pss_one (ps_ret (pe_call (ok_refusal_of_fit T) (hr.mono (by decide)) (by rfl) T.refusal_of_fit.mg T.refusal_of_fit.fn.kp T.refusal_of_fit.bd .nil pass0 (pa_cons (pe_ix ix_list (pe_fld (pv 0) rfl) (pv 1) (fun _ _ => rfl)) (pa_cons (pv 2) (pa_cons (pe_fld (pe_ix ix_list (pe_fld (pv 0) rfl) (pv 1) (fun _ _ => rfl)) rfl) pa_nil)))))))), ?_⟩
    unfold refC at k
    refine ⟨_, rfl, _, rfl, a, _, da, _, _, rfl, ha, T.C_Sea.cl, T.nSea_persons, rfl, pl, _, rfl, .inl (SqL.of S.lst), _, _, rfl, rfl, _, rfl, ?_⟩
    rw [List.length_map, S.per.len]
    refine ite2 (fun h1 => ?_) (fun h1 => ?_)
    · have h1 : s.persons.length ≤ p := by have := of_decide_eq_true h1; omega
      rw [if_pos h1] at k
      exact k
    have h1 : p < s.persons.length := by
      apply Nat.lt_of_not_le
      intro z
      exact h1 (decide_eq_true (by omega))
    have hx : s.persons[p]? = some s.persons[p] := List.getElem?_eq_getElem h1
    generalize s.persons[p] = x at hx
    obtain ⟨b, hb, db, hbx⟩ := S.per.get hx
    rw [if_neg (by omega), person_at hx] at k
    refine ⟨_, rfl, _, _, rfl, rfl, _, rfl, ?_⟩
    refine ite2 (fun h2 => ?_) (fun h2 => ?_)
    · have h2 : 3 < c := by have := of_decide_eq_true h2; omega
      rw [if_pos h2] at k
      exact k
    have h2 : ¬ 3 < c := fun z => h2 (decide_eq_true (by omega))
    rw [if_neg h2] at k
    exact ⟨_, rfl, a, _, da, _, _, rfl, ha, T.C_Sea.cl, T.nSea_persons, rfl, _, rfl, pl, _, _, V.ref b, rfl, rfl, SqL.of S.lst, at_of (j := p) rfl (by rw [List.getElem?_map, hb]; rfl),
      _, rfl, _, rfl, a, _, da, _, _, rfl, ha, T.C_Sea.cl, T.nSea_persons, rfl, _, rfl, pl, _, _, V.ref b, rfl, rfl, SqL.of S.lst, at_of (j := p) rfl (by rw [List.getElem?_map, hb]; rfl), b, _, db, _, _, rfl, hbx, T.C_Person.cl, T.nPerson_raft, rfl,
      b, x, c, x.raft, rfl, ⟨db, hbx⟩, k⟩
end
end Hh
set_option Elab.async false
set_option linter.all false
set_option maxRecDepth 100000
set_option maxHeartbeats 2000000
namespace Hh
open PySem PySem.Spec PyProof.Rows L2

/-- what the document promises of a call that only asks -/
def ans (s : Km449.Sea) (c : Km449.Call) : List Int := Km449Neutral.told (Km449.act ⟨s, [], []⟩ c).2
def AnsP (A : Adr) (H : Hp) (Q : VK) (l : List Int) : Prop := ∀ D H', Sm H H' → TabL A H' → H D = none → H' D = some (.lst (l.map V.int)) → Q (.ref D) H'
theorem AnsP.ret {A : Adr} {H H1 : Hp} {Q : VK} {l : List Int} (k : AnsP A H Q l) (sm : Sm H H1) (hT : TabL A H1) {xs : List V} (e : xs = l.map V.int) {D : Addr} (nD : H1 D = none) : Q (.ref D) (upd H1 D (.lst xs)) :=
  k D _ (sm.upd (sm.free nD)) (hT.upd (xs := []) (.inl nD)) (sm.free nD) (by rw [upd_same, e])
theorem ans_left (s : Km449.Sea) (p : Nat) : ans s (.left p) = Km449Neutral.told (if s.persons.length ≤ p then Km449.only (-2) else if (s.person p).how ≠ 0 then Km449.only (-16) else ⟨(((s.person p).left : Nat) : Int), [s.time + (s.person p).left, (s.person p).left - (s.person p).takes]⟩) := rfl
theorem ans_most (s : Km449.Sea) (t : Nat) : ans s (.most t) = Km449Neutral.told (if Km449.LATEST < t then Km449.only (-22) else ⟨(((s.best t).length : Nat) : Int), [Km449.bits (s.best t)]⟩) := rfl
theorem ans_plan (s : Km449.Sea) (t : Nat) : ans s (.plan t) = Km449Neutral.told (if Km449.LATEST < t then Km449.only (-22) else ⟨(((s.plan t).length : Nat) : Int), Km449.fill Km449.PERSONS ((s.plan t).map fun p => p + 1)⟩) := rfl
theorem ans_can (s : Km449.Sea) (w t : Nat) : ans s (.can w t) = Km449Neutral.told (if 2 ^ s.persons.length ≤ w ∨ Km449.LATEST < t then Km449.only (-22) else
    if (((List.range s.persons.length).filter fun p => w.testBit p).all fun p => (s.person p).how == 0) = false then Km449.only (-16) else Km449.only ((Km449.bit (s.can t ((List.range s.persons.length).filter fun p => w.testBit p)) : Nat) : Int)) := rfl
theorem ans_spare (s : Km449.Sea) : ans s .spare = Km449Neutral.told (if s.best 0 = [] then Km449.only (-6) else Km449.only ((s.spare : Nat) : Int)) := rfl
/-- a sea that is asked -/
structure AskAt (A : Adr) (H : Hp) (a : Addr) (s : Km449.Sea) : Prop where
  at_ : ∃ t pl as, SeaAt A H a t pl as s
  ok : SeaOk s
  tab : TabL A H

theorem refI {r : Option Int} {A B : Prop} (h1 : ∀ i, r = some i → A) (h2 : r = none → B) : if (!decide (optV r = V.non)) = true then A else B := by
  cases r with
  | none => rw [optV_none]; exact iteF (h2 rfl)
  | some i => rw [optV_some]; exact iteT (h1 i rfl)
theorem ans_leftR (s : Km449.Sea) (p : Nat) : ans s (.left p) = match refW s p with
    | some i => [i]
    | none => [((s.person p).left : Int), ((s.time + (s.person p).left : Nat) : Int), (((s.person p).left - (s.person p).takes : Nat) : Int)] := by
  rw [ans_left]
  unfold refW
  by_cases h1 : s.persons.length ≤ p
  · rw [if_pos h1, if_pos h1]
    rfl
  · rw [if_neg h1, if_neg h1]
    by_cases h2 : (s.person p).how ≠ 0
    · rw [if_pos h2, if_pos h2]
      rfl
    · rw [if_neg h2, if_neg h2]
      rfl

section
variable {P : Program} {w : World} {K : PySem.W.Frag} {mg : Str → Option Value} {base : Heap} {A : Adr}
def sp_hh_left (A : Adr) : Sp := fun vs H Q _ => ∃ (a : Addr) (s : Km449.Sea) (p : Nat), vs = [.ref a, .int p] ∧ AskAt A H a s ∧ AnsP A H Q (ans s (.left p))
theorem ok_hh_left (T : Txt K mg A) : FnOk P w K mg base CX0 3 A.f_hh_left A.d_hh_left ["sea", "p"] (sp_hh_left A) := by
  refine T.hh_left.fn.ok sc_hh_left (fun vs H Q E h => ?_) (fun cdv Ar outer s H vs Q E hr h => ?_)
  · obtain ⟨a, s, p, rfl, _⟩ := h
    rfl
  · obtain ⟨a, s, p, rfl, ⟨⟨t, pl, as, S⟩, ok, hT⟩, k⟩ := h
    obtain ⟨da, ha⟩ := S.sea
    refine ⟨_, (pss_cons (ps_set (i := 2) sc_hh_left.nd rfl (by first | exact Or.inl rfl | exact Or.inr rfl) (pe_call (ok_refusal_unless_waiting T) (hr.mono (by decide)) (by rfl) T.refusal_unless_waiting.mg T.refusal_unless_waiting.fn.kp T.refusal_unless_waiting.bd .nil pass0 (pa_cons (pv 0) (pa_cons (pv 1) pa_nil)))) (pss_cons (ps_if (pt_cmpR op_notN (pv 2) pe_non (nomark _)) (pss_one (ps_ret (pe_lst (pa_cons (pv 2) pa_nil)))) pss_nil) (pss_cons (ps_set (i := 3) sc_hh_left.nd rfl (by first | exact Or.inl rfl | exact Or.inr rfl) (pe_ix ix_list (pe_fld (pv 0) rfl) (pv 1) (fun _ _ => rfl))) (pss_one (ps_ret (pe_lst (pa_cons (pe_fld (pv 3) rfl) (pa_cons (pe_op op_add (pe_fld (pv 0) rfl) (pe_fld (pv 3) rfl)) (pa_cons (pe_callB (call_max2 rfl) (by rfl) T.n_max boot_max (pa_cons pe_int (pa_cons (pe_op op_sub (pe_fld (pv 3) rfl) (pe_fld (pv 3) rfl)) pa_nil))) pa_nil))))))))), ?_⟩
    rw [ans_leftR] at k
    refine ⟨_, rfl, _, rfl, a, s, p, rfl, ⟨t, pl, as, S⟩, ?_⟩
    have hnone : refW s p = none → ∃ x, s.persons[p]? = some x ∧ x.how = 0 := refW_none
    generalize refW s p = r at k hnone
    refine ⟨_, rfl, rfl, _, rfl, refI (fun i e => ?_) (fun e => ?_)⟩
    · subst e
      exact ⟨_, rfl, (by show 1 ≤ sizeLine; decide), fun D nD => k.ret (Sm.refl _) hT rfl nD⟩
    · subst e
      obtain ⟨x, hx, _⟩ := hnone rfl
      obtain ⟨b, hb, db, hbx⟩ := S.per.get hx
      rw [person_at hx] at k
      refine ⟨_, rfl, a, _, da, _, _, rfl, ha, T.C_Sea.cl, T.nSea_persons, rfl, _, rfl, pl, _, _, V.ref b, rfl, rfl, SqL.of S.lst, at_of (j := p) rfl (by rw [List.getElem?_map, hb]; rfl), ?_⟩
      refine ⟨_, rfl, b, _, db, _, _, rfl, hbx, T.C_Person.cl, T.nPerson_left, rfl, _, rfl, a, _, da, _, _, rfl, ha, T.C_Sea.cl, T.nSea_minute, rfl, _, rfl, b, _, db, _, _, rfl, hbx, T.C_Person.cl, T.nPerson_left, rfl, _, _, rfl, rfl,
        _, rfl, b, _, db, _, _, rfl, hbx, T.C_Person.cl, T.nPerson_left, rfl, _, rfl, b, _, db, _, _, rfl, hbx, T.C_Person.cl, T.nPerson_takes, rfl, _, _, rfl, rfl, _, _, rfl, (by show 3 ≤ sizeLine; decide), fun D nD => k.ret (Sm.refl _) hT ?_ nD⟩
      have e1 : ((s.time + x.left : Nat) : Int) = (s.time : Int) + (x.left : Int) := by omega
      have e2 : ((x.left - x.takes : Nat) : Int) = if (x.left : Int) - (x.takes : Int) > 0 then (x.left : Int) - (x.takes : Int) else 0 := by split <;> omega
      show _ = [V.int (x.left : Int), V.int ((s.time + x.left : Nat) : Int), V.int ((x.left - x.takes : Nat) : Int)]
      rw [e1, e2]
def sp_hh_most (A : Adr) : Sp := fun vs H Q _ => ∃ (a : Addr) (s : Km449.Sea) (t : Nat), vs = [.ref a, .int t] ∧ AskAt A H a s ∧ AnsP A H Q (ans s (.most t))
theorem ok_hh_most (T : Txt K mg A) (B : BMain mg base) : FnOk P w K mg base CX0 7 A.f_hh_most A.d_hh_most ["sea", "t"] (sp_hh_most A) := by
  refine T.hh_most.fn.ok sc_hh_most (fun vs H Q E h => ?_) (fun cdv Ar outer s H vs Q E hr h => ?_)
  · obtain ⟨a, s, t, rfl, _⟩ := h
    rfl
  · obtain ⟨a, s, m, rfl, ⟨⟨t, pl, as, S⟩, ok, hT⟩, k⟩ := h
    refine ⟨_, (pss_cons (ps_if (pt_cmpR op_gt (pv 1) (pe_cst (by rfl) T.c_BEGIN_MOST) (nomark _)) (pss_one (ps_ret (pe_lst (pa_cons (pe_cst (by rfl) T.c_NOT_ALLOWED) pa_nil)))) pss_nil) (pss_cons (ps_set (i := 2) sc_hh_most.nd rfl (by first | exact Or.inl rfl | exact Or.inr rfl) (pe_call (ok_the_most T B) (hr.mono (by decide)) (by rfl) T.the_most.mg T.the_most.fn.kp T.the_most.bd .nil pass0 (pa_cons (pv 0) (pa_cons (pv 1) pa_nil)))) (pss_one (ps_ret (pe_lst (pa_cons (pe_fld (pv 2) rfl) (pa_cons (pe_fld (pv 2) rfl) pa_nil))))))), ?_⟩
    refine ⟨_, rfl, _, _, rfl, rfl, _, rfl, ?_⟩
    refine ite2 (fun h1 => ?_) (fun h1 => ?_)
    · have h1 : 100000 < m := by have := of_decide_eq_true h1; omega
      have e : ans s (.most m) = [-22] := by
        rw [ans_most, if_pos (show Km449.LATEST < m from h1)]
        rfl
      rw [e] at k
      exact ⟨(by show 1 ≤ sizeLine; decide), fun D nD => k.ret (Sm.refl _) hT rfl nD⟩
    · have h1 : ¬ 100000 < m := fun z => h1 (decide_eq_true (by omega))
      have e : ans s (.most m) = [((s.best m).length : Int), (Km449.bits (s.best m) : Int)] := by
        rw [ans_most, if_neg (show ¬ Km449.LATEST < m from h1)]
        rfl
      rw [e] at k
      refine ⟨_, rfl, _, rfl, a, t, pl, as, s, m, rfl, S, ok.few, hT, by omega, fun b H1 sm1 hT1 hb => ?_⟩
      obtain ⟨db, hbo⟩ := hb
      refine ⟨_, rfl, b, _, db, _, _, rfl, hbo, T.C_Group.cl, T.nGroup_size, rfl, _, rfl, b, _, db, _, _, rfl, hbo, T.C_Group.cl, T.nGroup_bits, rfl, (by show 2 ≤ sizeLine; decide), fun D nD => k.ret sm1 hT1 ?_ nD⟩
      rw [best_bits, (best_group s (t := m) (by omega)).2]
      rfl
def sp_hh_spare (A : Adr) : Sp := fun vs H Q _ => ∃ (a : Addr) (s : Km449.Sea), vs = [.ref a] ∧ AskAt A H a s ∧ AnsP A H Q (ans s .spare)
theorem ok_hh_spare (T : Txt K mg A) (B : BMain mg base) : FnOk P w K mg base CX0 8 A.f_hh_spare A.d_hh_spare ["sea"] (sp_hh_spare A) := by
  refine T.hh_spare.fn.ok sc_hh_spare (fun vs H Q E h => ?_) (fun cdv Ar outer s H vs Q E hr h => ?_)
  · obtain ⟨a, s, rfl, _⟩ := h
    rfl
  · obtain ⟨a, s, rfl, ⟨⟨t, pl, as, S⟩, ok, hT⟩, k⟩ := h
    refine ⟨_, (pss_cons (ps_if (pt_cmpR op_eq (pe_fld (pe_call (ok_the_most T B) (hr.mono (by decide)) (by rfl) T.the_most.mg T.the_most.fn.kp T.the_most.bd .nil pass0 (pa_cons (pv 0) (pa_cons pe_int pa_nil))) rfl) pe_int (nomark _)) (pss_one (ps_ret (pe_lst (pa_cons (pe_cst (by rfl) T.c_NOBODY) pa_nil)))) pss_nil) (pss_one (ps_ret (pe_lst (pa_cons (pe_call (ok_longest_wait T B) (hr.mono (by decide)) (by rfl) T.longest_wait.mg T.longest_wait.fn.kp T.longest_wait.bd .nil pass0 (pa_cons (pv 0) pa_nil)) pa_nil))))), ?_⟩
    refine ⟨_, rfl, a, t, pl, as, s, 0, rfl, S, ok.few, hT, by omega, fun b H1 sm1 hT1 hb => ?_⟩
    obtain ⟨db, hbo⟩ := hb
    refine ⟨b, _, db, _, _, rfl, hbo, T.C_Group.cl, T.nGroup_size, rfl, rfl, _, rfl, ?_⟩
    rw [(best_group s (t := 0) (by omega)).2]
    have e0 : decide (V.int ((s.best 0).length : Int) = V.int 0) = decide ((s.best 0).length = 0) := dec_nat (m := 0)
    rw [e0]
    refine ite2 (fun h1 => ?_) (fun h1 => ?_)
    · have h1 : s.best 0 = [] := List.length_eq_zero_iff.mp (of_decide_eq_true h1)
      have e : ans s .spare = [-6] := by
        rw [ans_spare, if_pos (show s.best 0 = [] from h1)]
        rfl
      rw [e] at k
      exact ⟨(by show 1 ≤ sizeLine; decide), fun D nD => k.ret sm1 hT1 rfl nD⟩
    · have h1 : ¬ s.best 0 = [] := fun z => h1 (decide_eq_true (by rw [z]; rfl))
      have e : ans s .spare = [(s.spare : Int)] := by
        rw [ans_spare, if_neg (show ¬ s.best 0 = [] from h1)]
        rfl
      rw [e] at k
      exact ⟨_, rfl, a, t, pl, as, s, rfl, S.sm sm1, ok.few, hT1, fun H2 sm2 hT2 => ⟨(by show 1 ≤ sizeLine; decide), fun D nD => k.ret (sm1.trans sm2) hT2 rfl nD⟩⟩
end
end Hh
set_option Elab.async false
set_option linter.all false
set_option maxRecDepth 100000
set_option maxHeartbeats 2000000
namespace Hh
open PySem PySem.Spec PyProof.Rows L2

theorem nums_map (l : List Nat) : (Km449Neutral.nums l).map V.int = numsV l := by
  unfold Km449Neutral.nums
  rw [List.map_map]
  rfl
theorem plan_len (s : Km449.Sea) (t : Nat) : (s.plan t).length ≤ s.persons.length := by
  rw [← plan_eq]
  exact Nat.le_trans (List.length_filter_le _ _) (order_len s)
theorem rep_zero (n : Nat) : (List.replicate n [V.int 0]).flatten = List.replicate n (V.int 0) := by
  induction n with
  | zero => rfl
  | succ n ih => rw [List.replicate_succ, List.flatten_cons, ih, List.replicate_succ]; rfl

section
variable {P : Program} {w : World} {K : PySem.W.Frag} {mg : Str → Option Value} {base : Heap} {A : Adr}
def sp_hh_plan (A : Adr) : Sp := fun vs H Q _ => ∃ (a : Addr) (s : Km449.Sea) (t : Nat), vs = [.ref a, .int t] ∧ AskAt A H a s ∧ AnsP A H Q (ans s (.plan t))
theorem ok_hh_plan (T : Txt K mg A) (B : BMain mg base) : FnOk P w K mg base CX0 8 A.f_hh_plan A.d_hh_plan ["sea", "t"] (sp_hh_plan A) := by
  refine T.hh_plan.fn.ok sc_hh_plan (fun vs H Q E h => ?_) (fun cdv Ar outer s H vs Q E hr h => ?_)
  · obtain ⟨a, s, t, rfl, _⟩ := h
    rfl
  · obtain ⟨a, s, m, rfl, ⟨⟨t, pl, as, S⟩, ok, hT⟩, k⟩ := h
    refine ⟨_, (pss_cons (ps_if (pt_cmpR op_gt (pv 1) (pe_cst (by rfl) T.c_BEGIN_MOST) (nomark _)) (pss_one (ps_ret (pe_lst (pa_cons (pe_cst (by rfl) T.c_NOT_ALLOWED) pa_nil)))) pss_nil) (pss_cons (ps_set (i := 2) sc_hh_plan.nd rfl (by first | exact Or.inl rfl | exact Or.inr rfl) (pe_call (ok_the_plan T B) (hr.mono (by decide)) (by rfl) T.the_plan.mg T.the_plan.fn.kp T.the_plan.bd .nil pass0 (pa_cons (pv 0) (pa_cons (pv 1) pa_nil)))) (pss_one (ps_ret (pe_op op_cat (pe_op op_cat (pe_lst (pa_cons (pe_callB call_len_seq (by rfl) T.n_len PySem.boot_len (pa_cons (pv 2) pa_nil)) pa_nil)) (pe_lc rfl sc_hh_plan.nd (pi_list (pv 2)) (blkOk_by (N := ["sea", "t", "plan", "p"]) (sc := defScope st_hh_plan) (own := [("p", 3)]) (by decide +kernel)) (fun _ _ _ _ _ => (pg_name (i := 3) sc_hh_plan.nd rfl (by first | exact Or.inl rfl | exact Or.inr rfl))) (fun _ _ _ _ _ => pts_nil) (fun _ _ _ _ _ => (pe_op op_add (pv 3) pe_int)))) (pe_op op_rep (pe_lst (pa_cons pe_int pa_nil)) (pe_op op_sub (pe_cst (by rfl) T.c_PERSONS_MOST) (pe_callB call_len_seq (by rfl) T.n_len PySem.boot_len (pa_cons (pv 2) pa_nil))))))))), ?_⟩
    refine ⟨_, rfl, _, _, rfl, rfl, _, rfl, ?_⟩
    refine ite2 (fun h1 => ?_) (fun h1 => ?_)
    · have h1 : 100000 < m := by have := of_decide_eq_true h1; omega
      have e : ans s (.plan m) = [-22] := by
        rw [ans_plan, if_pos (show Km449.LATEST < m from h1)]
        rfl
      rw [e] at k
      exact ⟨(by show 1 ≤ sizeLine; decide), fun D nD => k.ret (Sm.refl _) hT rfl nD⟩
    · have h1 : ¬ 100000 < m := fun z => h1 (decide_eq_true (by omega))
      refine ⟨_, rfl, _, rfl, a, t, pl, as, s, m, rfl, S, ok.few, hT, by omega, fun L H1 sm1 hT1 nL hL => ?_⟩
      have hlen : (s.plan m).length ≤ 9 := Nat.le_trans (plan_len s m) ok.few
      have e : ans s (.plan m) = ((s.plan m).length : Int) :: Km449Neutral.nums (((s.plan m).map fun p => p + 1) ++ List.replicate (9 - (s.plan m).length) 0) := by
        rw [ans_plan, if_neg (show ¬ Km449.LATEST < m from h1)]
        have ef : Km449.fill 9 ((s.plan m).map fun p => p + 1) = ((s.plan m).map fun p => p + 1) ++ List.replicate (9 - (s.plan m).length) 0 := by
          unfold Km449.fill
          rw [List.take_of_length_le (by rw [List.length_map]; exact hlen), List.length_map]
        show ((s.plan m).length : Int) :: Km449Neutral.nums (Km449.fill 9 ((s.plan m).map fun p => p + 1)) = _
        rw [ef]
      generalize s.plan m = pn at *
      -- [len(plan)]
      refine ⟨_, rfl, L, _, rfl, .inl (SqL.of hL), (by show 1 ≤ sizeLine; decide), fun D1 n1 => ?_⟩
      have sm1' : Same H1 (upd H1 D1 (.lst [.int ((numsV pn).length : Nat)])) := same_upd (Same.refl _) n1
      -- [p + 1 for p in plan]
      refine ⟨_, rfl, L, rfl, ⟨_, SqL.of (sm1' _ _ hL)⟩, ?_⟩
      intro D2 n2
      refine lc_list (K := K) (a := L) (xs := numsV pn) (fun i H' => Same (upd H1 D1 (.lst [.int ((numsV pn).length : Nat)])) H' ∧ H' D2 = some (.lst (numsV ((pn.take i).map fun p => p + 1))))
        ⟨same_upd (Same.refl _) n2, upd_same⟩ (fun i H' _ ⟨sm, _⟩ => SqL.of (sm _ _ (sm1' _ _ hL))) ?_ ?_
      · rintro i y H' hi ⟨sm, hD2⟩
        obtain ⟨p, hp, rfl⟩ := get_map hi
        refine ⟨rfl, ?_⟩
        refine ⟨_, rfl, _, _, rfl, rfl, _, hD2, ?_, same_upd sm n2, ?_⟩
        · rw [List.length_map, List.length_map, List.length_take]
          exact small9 (by omega)
        · rw [upd_same, map_snoc _ hp]
          unfold numsV
          rw [List.map_append]
          rfl
      · rintro H2 ⟨sm2, hD2⟩
        rw [List.length_map, List.take_length] at hD2
        have hD1 : H2 D1 = some (.lst [.int ((numsV pn).length : Nat)]) := sm2 _ _ upd_same
        refine ⟨D1, D2, _, _, rfl, rfl, hD1, hD2, ?_, fun D3 n3 => ?_⟩
        · show 1 + (numsV (pn.map fun p => p + 1)).length ≤ sizeLine
          rw [List.length_map, List.length_map]
          exact Nat.le_of_lt (small1000 (by omega))
        · have sm3 : Same H2 (upd H2 D3 (.lst ([V.int ((numsV pn).length : Nat)] ++ numsV (pn.map fun p => p + 1)))) := same_upd (Same.refl _) n3
          have sm13 := (sm1'.trans sm2).trans sm3
          -- [0] * (9 - len(plan))
          refine ⟨(by show 1 ≤ sizeLine; decide), fun D4 n4 => ?_⟩
          have sm4 := same_upd (o := .lst [.int 0]) (Same.refl _) n4
          refine ⟨_, rfl, L, _, rfl, .inl (SqL.of (sm4 _ _ (sm13 _ _ hL))), _, _, rfl, rfl, D4, _, _, rfl, rfl, upd_same, ?_, ?_, ?_, fun D5 n5 => ?_⟩
          · rw [List.length_map]; omega
          · rw [List.length_map]; omega
          · show 1 * _ ≤ sizeLine
            rw [List.length_map, Nat.one_mul]
            exact Nat.le_of_lt (small1000 (by omega))
          · have sm5 := same_upd (o := .lst (List.replicate (9 - ((numsV pn).length : Int)).toNat [V.int 0]).flatten) (Same.refl _) n5
            have hD3 := sm5 _ _ (sm4 _ _ (upd_same (H := H2) (a := D3) (o := .lst ([V.int ((numsV pn).length : Nat)] ++ numsV (pn.map fun p => p + 1)))))
            refine ⟨D3, D5, _, _, rfl, rfl, hD3, upd_same, ?_, fun D6 n6 => ?_⟩
            · rw [rep_zero, List.length_append, List.length_replicate, List.length_map, List.length_map]
              show 1 + _ + _ ≤ sizeLine
              rw [List.length_map]
              exact Nat.le_of_lt (small1000 (by omega))
            · have smA := ((sm13.trans sm4).trans sm5)
              rw [e] at k
              refine k.ret (sm1.trans (.of smA)) (hT1.same smA) ?_ n6
              rw [rep_zero, List.map_cons, nums_map]
              unfold numsV
              rw [List.map_append, List.map_replicate, List.length_map]
              have ec : (9 - (pn.length : Int)).toNat = 9 - pn.length := by omega
              rw [ec]
              rfl
theorem who_all {s : Km449.Sea} {w : Nat} (hw : w < 2 ^ s.persons.length) : ((grp s ((order s).filter fun p => w.testBit p)).bits = w) ↔ (((List.range s.persons.length).filter fun p => w.testBit p).all fun p => (s.person p).how == 0) = true := by
  have key : ∀ j, (grp s ((order s).filter fun p => w.testBit p)).bits.testBit j = decide (j ∈ s.waits ∧ w.testBit j = true) := fun j => by
    rw [grp_bits0, decide_eq_decide, List.mem_filter, mem_order]
  constructor
  · intro h
    rw [List.all_eq_true]
    intro p hp
    obtain ⟨_, h2⟩ := List.mem_filter.mp hp
    have q := key p
    rw [h, h2] at q
    have q2 := of_decide_eq_true q.symm
    exact (List.mem_filter.mp q2.1).2
  · intro h
    rw [List.all_eq_true] at h
    apply Nat.eq_of_testBit_eq
    intro j
    rw [key j]
    cases q : w.testBit j with
    | false => simp
    | true =>
      apply decide_eq_true
      have hj : j < s.persons.length := by
        apply Nat.lt_of_not_le
        intro hle
        rw [Nat.testBit_lt_two_pow (Nat.lt_of_lt_of_le hw (Nat.pow_le_pow_right (by decide) hle))] at q
        cases q
      exact ⟨List.mem_filter.mpr ⟨List.mem_range.mpr hj, h j (List.mem_filter.mpr ⟨List.mem_range.mpr hj, q⟩)⟩, rfl⟩
theorem who_order {s : Km449.Sea} {w : Nat} (h : (((List.range s.persons.length).filter fun p => w.testBit p).all fun p => (s.person p).how == 0) = true) : s.byTime ((List.range s.persons.length).filter fun p => w.testBit p) = (order s).filter fun p => w.testBit p := by
  have e : (List.range s.persons.length).filter (fun p => w.testBit p) = s.waits.filter fun p => w.testBit p := by
    unfold Km449.Sea.waits
    rw [List.filter_filter]
    refine List.filter_congr fun p hp => ?_
    cases q : w.testBit p with
    | false => rfl
    | true =>
      have := List.all_eq_true.mp h p (List.mem_filter.mpr ⟨hp, q⟩)
      simp [this]
  rw [e, byTime_filter s (waits_sorted s)]
def sp_hh_can (A : Adr) : Sp := fun vs H Q _ => ∃ (a : Addr) (s : Km449.Sea) (w t : Nat), vs = [.ref a, .int w, .int t] ∧ AskAt A H a s ∧ AnsP A H Q (ans s (.can w t))
theorem ok_hh_can (T : Txt K mg A) (B : BMain mg base) : FnOk P w K mg base CX0 7 A.f_hh_can A.d_hh_can ["sea", "who", "t"] (sp_hh_can A) := by
  refine T.hh_can.fn.ok sc_hh_can (fun vs H Q E h => ?_) (fun cdv Ar outer s H vs Q E hr h => ?_)
  · obtain ⟨a, s, w, t, rfl, _⟩ := h
    rfl
  · obtain ⟨a, s, w, m, rfl, ⟨⟨t, pl, as, S⟩, ok, hT⟩, k⟩ := h
    obtain ⟨da, ha⟩ := S.sea
    have bad : (2 ^ s.persons.length ≤ w ∨ 100000 < m) → ∃ xs : List V, xs.length ≤ sizeLine ∧ xs = [V.int (-22)] ∧ ∀ D, H D = none → Q (.ref D) (upd H D (.lst xs)) := fun h1 => by
      have e : ans s (.can w m) = [-22] := by
        rw [ans_can, if_pos (show _ ∨ Km449.LATEST < m from h1)]
        rfl
      rw [e] at k
      exact ⟨_, (by show 1 ≤ sizeLine; decide), rfl, fun D nD => k.ret (Sm.refl _) hT rfl nD⟩
    have hdiv : (w : Int) / 2 ^ ((s.persons.length : Int)).toNat = ((w / 2 ^ s.persons.length : Nat) : Int) := by
      rw [Int.toNat_natCast, Int.natCast_ediv, Int.natCast_pow]
      rfl
    have hz : (w / 2 ^ s.persons.length = 0) ↔ w < 2 ^ s.persons.length := by
      rw [Nat.div_eq_zero_iff]
      have : 0 < 2 ^ s.persons.length := Nat.two_pow_pos _
      omega
    refine ⟨_, (pss_cons (ps_if (PW.pt (pw_or (pt_cmpR op_ne (pe_op op_shr (pv 1) (pe_callB call_len_seq (by rfl) T.n_len PySem.boot_len (pa_cons (pe_fld (pv 0) rfl) pa_nil))) pe_int (nomark _)) (pw_or1 (pt_cmpR op_gt (pv 2) (pe_cst (by rfl) T.c_BEGIN_MOST) (nomark _))))) (pss_one (ps_ret (pe_lst (pa_cons (pe_cst (by rfl) T.c_NOT_ALLOWED) pa_nil)))) pss_nil) (pss_cons (ps_set (i := 3) sc_hh_can.nd rfl (by first | exact Or.inl rfl | exact Or.inr rfl) (pe_call (ok_group_of T B) (hr.mono (by decide)) (by rfl) T.group_of.mg T.group_of.fn.kp T.group_of.bd .nil pass0 (pa_cons (pv 0) (pa_cons (pv 1) pa_nil)))) (pss_cons (ps_if (pt_cmpR op_ne (pe_fld (pv 3) rfl) (pv 1) (nomark _)) (pss_one (ps_ret (pe_lst (pa_cons (pe_cst (by rfl) T.c_NOT_WAITING) pa_nil)))) pss_nil) (pss_one (ps_ret (pe_lst (pa_cons (pe_ifExp (pt_cmpR op_ge (pe_fld (pv 3) rfl) (pv 2) (nomark _)) pe_int pe_int) pa_nil))))))), ?_⟩
    refine ⟨_, rfl, _, rfl, a, _, da, _, _, rfl, ha, T.C_Sea.cl, T.nSea_persons, rfl, pl, _, rfl, .inl (SqL.of S.lst), _, _, rfl, rfl, by omega, rfl, _, rfl, ?_⟩
    rw [List.length_map, S.per.len]
    have e0 : decide (V.int ((w : Int) / 2 ^ ((s.persons.length : Int)).toNat) = V.int 0) = decide (w < 2 ^ s.persons.length) := by
      rw [hdiv, dec_int1, decide_eq_decide, ← hz]
      omega
    show if (!decide (V.int ((w : Int) / 2 ^ ((s.persons.length : Int)).toNat) = V.int 0)) = true then _ else _
    rw [e0]
    refine ite2 (fun h1 => ?_) (fun h1 => ?_)
    · have h1 : ¬ w < 2 ^ s.persons.length := by simpa using h1
      obtain ⟨xs, b1, rfl, b3⟩ := bad (.inl (by omega))
      exact ⟨b1, b3⟩
    · have h1 : w < 2 ^ s.persons.length := by simpa using h1
      refine ⟨_, rfl, _, _, rfl, rfl, _, rfl, ?_⟩
      refine ite2 (fun h2 => ?_) (fun h2 => ?_)
      · have h2 : 100000 < m := by have := of_decide_eq_true h2; omega
        obtain ⟨xs, b1, rfl, b3⟩ := bad (.inr h2)
        exact ⟨b1, b3⟩
      · have h2 : ¬ 100000 < m := fun z => h2 (decide_eq_true (by omega))
        refine ⟨_, rfl, _, rfl, a, t, pl, as, s, w, rfl, S, ok.few, hT, fun b H1 sm1 hT1 hb => ?_⟩
        obtain ⟨db, hbo⟩ := hb
        have hnot : ¬ (2 ^ s.persons.length ≤ w ∨ Km449.LATEST < m) := by
          show ¬ (2 ^ s.persons.length ≤ w ∨ 100000 < m)
          omega
        refine ⟨_, rfl, b, _, db, _, _, rfl, hbo, T.C_Group.cl, T.nGroup_bits, rfl, _, rfl, rfl, _, rfl, ?_⟩
        have e1 : decide (V.int ((grp s ((order s).filter fun p => w.testBit p)).bits : Int) = V.int (w : Int)) = decide ((grp s ((order s).filter fun p => w.testBit p)).bits = w) := dec_nat
        show if (!decide (V.int ((grp s ((order s).filter fun p => w.testBit p)).bits : Int) = V.int (w : Int))) = true then _ else _
        rw [e1]
        refine ite2 (fun h3 => ?_) (fun h3 => ?_)
        · have h3 : ¬ (grp s ((order s).filter fun p => w.testBit p)).bits = w := by simpa using h3
          rw [who_all h1] at h3
          have e : ans s (.can w m) = [-16] := by
            rw [ans_can, if_neg hnot, if_pos (by simpa using h3)]
            rfl
          rw [e] at k
          exact ⟨(by show 1 ≤ sizeLine; decide), fun D nD => k.ret sm1 hT1 rfl nD⟩
        · have h3 : (grp s ((order s).filter fun p => w.testBit p)).bits = w := by simpa using h3
          rw [who_all h1] at h3
          have e : ans s (.can w m) = [((Km449.bit (s.inTime m ((order s).filter fun p => w.testBit p)) : Nat) : Int)] := by
            rw [ans_can, if_neg hnot, if_neg (by rw [h3]; simp)]
            unfold Km449.Sea.can
            rw [who_order h3]
            rfl
          have hsp := grp_inTime s (t := m) (by omega) ((order s).filter fun p => w.testBit p)
          refine ⟨_, rfl, b, _, db, _, _, rfl, hbo, T.C_Group.cl, T.nGroup_spare, rfl, _, rfl, _, _, rfl, rfl, _, rfl, ?_⟩
          refine ite2 (fun h4 => ?_) (fun h4 => ?_)
          · have h4 := hsp.mp (of_decide_eq_true h4)
            rw [e, h4] at k
            exact ⟨(by show 1 ≤ sizeLine; decide), fun D nD => k.ret sm1 hT1 rfl nD⟩
          · have h4 : s.inTime m ((order s).filter fun p => w.testBit p) = false := by
              cases q : s.inTime m ((order s).filter fun p => w.testBit p) with
              | false => rfl
              | true => exact absurd (decide_eq_true (hsp.mpr q)) h4
            rw [e, h4] at k
            exact ⟨(by show 1 ≤ sizeLine; decide), fun D nD => k.ret sm1 hT1 rfl nD⟩
end
end Hh
set_option Elab.async false
set_option linter.all false
set_option maxRecDepth 100000
set_option maxHeartbeats 2000000
namespace Hh
open PySem PySem.Spec PyProof.Rows L2

theorem ans_first (s : Km449.Sea) : ans s .first = match s.plan 0 with
    | [] => [-6]
    | p :: _ => [(p : Int), ((s.time + (s.person p).takes : Nat) : Int)] := by
  have e : ans s .first = Km449Neutral.told (match s.plan 0 with
    | [] => Km449.only (-6)
    | p :: _ => ⟨((p : Nat) : Int), [s.time + (s.person p).takes]⟩) := rfl
  rw [e]
  cases s.plan 0 <;> rfl
theorem ans_without (s : Km449.Sea) (p : Nat) : ans s (.without p) = match refW s p with
    | some i => [i]
    | none => [(((outS s p).best 0).length : Int)] := by
  have e : ans s (.without p) = Km449Neutral.told (if s.persons.length ≤ p then Km449.only (-2) else if (s.person p).how ≠ 0 then Km449.only (-16) else Km449.only ((((outS s p).best 0).length : Nat) : Int)) := rfl
  rw [e]
  unfold refW
  by_cases h1 : s.persons.length ≤ p
  · rw [if_pos h1, if_pos h1]
    rfl
  · rw [if_neg h1, if_neg h1]
    by_cases h2 : (s.person p).how ≠ 0
    · rw [if_pos h2, if_pos h2]
      rfl
    · rw [if_neg h2, if_neg h2]
      rfl
theorem ans_among (s : Km449.Sea) (p : Nat) : ans s (.surely p) = match refW s p with
    | some i => [i]
    | none => [((Km449.bit ((Km449.parts s.waits).any fun l => decide ((s.best 0).length ≤ l.length) && (l.contains p && s.can 0 l)) : Nat) : Int)] := by
  have e : ans s (.surely p) = Km449Neutral.told (if s.persons.length ≤ p then Km449.only (-2) else if (s.person p).how ≠ 0 then Km449.only (-16) else Km449.only ((Km449.bit ((Km449.parts s.waits).any fun l => decide ((s.best 0).length ≤ l.length) && (l.contains p && s.can 0 l)) : Nat) : Int)) := rfl
  rw [e]
  unfold refW
  by_cases h1 : s.persons.length ≤ p
  · rw [if_pos h1, if_pos h1]
    rfl
  · rw [if_neg h1, if_neg h1]
    by_cases h2 : (s.person p).how ≠ 0
    · rw [if_pos h2, if_pos h2]
      rfl
    · rw [if_neg h2, if_neg h2]
      rfl
theorem ans_saves (s : Km449.Sea) (p c : Nat) : ans s (.saves p c) = match refC s p c with
    | some i => [i]
    | none => [(((s.move p (s.person p).raft c).best 0).length : Int), (((s.move p (s.person p).raft c).person p).left : Int)] := by
  have e : ans s (.saves p c) = Km449Neutral.told (if s.persons.length ≤ p then Km449.only (-2) else if 3 < c then Km449.only (-22) else if (s.person p).how ≠ 0 then Km449.only (-16) else if (s.person p).clothes = c then Km449.only (-17) else
      ⟨((((s.move p (s.person p).raft c).best 0).length : Nat) : Int), [((s.move p (s.person p).raft c).person p).left]⟩) := rfl
  rw [e]
  unfold refC refF
  by_cases h1 : s.persons.length ≤ p
  · rw [if_pos h1, if_pos h1]
    rfl
  · rw [if_neg h1, if_neg h1]
    by_cases h2 : 3 < c
    · rw [if_pos h2, if_pos h2]
      rfl
    · rw [if_neg h2, if_neg h2]
      by_cases h3 : (s.person p).how ≠ 0
      · rw [if_pos h3, if_pos h3]
        rfl
      · rw [if_neg h3, if_neg h3]
        by_cases h4 : (s.person p).clothes = c
        · rw [if_pos h4, if_pos ⟨h4, rfl⟩]
          rfl
        · rw [if_neg h4, if_neg (fun z => h4 z.1)]
          rfl
theorem move_at {s : Km449.Sea} {p c : Nat} {r : Bool} {x : Km449.Person} (hx : s.persons[p]? = some x) : (s.move p r c).persons[p]? = some { x with raft := r, clothes := c, left := Km449.change x.left (s.hours (s.where_ x.raft) x.clothes) (s.hours (s.where_ r) c) } := by
  unfold Km449.Sea.move
  rw [person_at hx]
  show (s.persons.set p _)[p]? = _
  rw [List.getElem?_set_self (List.getElem?_eq_some_iff.mp hx).1]
/-- a fresh sea whose person p was changed -/
theorem moved {A : Adr} {H H1 : Hp} {s : Km449.Sea} {p c : Nat} {r : Bool} {x : Km449.Person} {a' t pl' : Addr} {as' : List Addr} (hx : s.persons[p]? = some x) (sm1 : Same H H1) (na : H a' = none) (npl : H pl' = none) (nas : ∀ b ∈ as', H b = none) (S1 : SeaAt A H1 a' t pl' as' s) :
    ∃ b1 db1, as'[p]? = some b1 ∧ H1 b1 = some (.ins A.CPerson db1 (pfs x)) ∧ ∀ H2, (∀ e o, H1 e = some o → e ≠ b1 → H2 e = some o) → PersonAt A H2 b1 { x with raft := r, clothes := c, left := Km449.change x.left (s.hours (s.where_ x.raft) x.clothes) (s.hours (s.where_ r) c) } → Same H H2 ∧ SeaAt A H2 a' t pl' as' (s.move p r c) := by
  obtain ⟨b1, hb1, db1, hbx1⟩ := S1.per.get hx
  refine ⟨b1, db1, hb1, hbx1, fun H2 fr pb => ?_⟩
  have mb : b1 ∈ as' := List.mem_of_getElem? hb1
  obtain ⟨na1, npl1, _⟩ := S1.notin
  obtain ⟨da1, ha1⟩ := S1.sea
  refine ⟨fun e o q => fr e o (sm1 e o q) fun z => ?_, ⟨da1, ?_⟩, ?_, ?_, S1.ne, ?_⟩
  · have := nas b1 mb
    rw [← z, q] at this
    cases this
  · exact fr _ _ ha1 fun z => na1 (by rw [z]; exact mb)
  · exact fr _ _ S1.tab (ne_of S1.tab hbx1 (by intro q; cases q))
  · exact fr _ _ S1.lst fun z => npl1 (by rw [z]; exact mb)
  · have e : (s.move p r c).persons = s.persons.set p { x with raft := r, clothes := c, left := Km449.change x.left (s.hours (s.where_ x.raft) x.clothes) (s.hours (s.where_ r) c) } := by
      unfold Km449.Sea.move
      rw [person_at hx]
      rfl
    rw [e]
    exact S1.per.set hb1 pb fr
theorem move_few {s : Km449.Sea} {p c : Nat} {r : Bool} (h : s.persons.length ≤ 9) : (s.move p r c).persons.length ≤ 9 := by
  unfold Km449.Sea.move
  show (s.persons.set p _).length ≤ 9
  rw [List.length_set]
  exact h

section
variable {P : Program} {w : World} {K : PySem.W.Frag} {mg : Str → Option Value} {base : Heap} {A : Adr}
def sp_hh_first (A : Adr) : Sp := fun vs H Q _ => ∃ (a : Addr) (s : Km449.Sea), vs = [.ref a] ∧ AskAt A H a s ∧ AnsP A H Q (ans s .first)
theorem plan_mem {s : Km449.Sea} {t p : Nat} (h : p ∈ s.plan t) : p < s.persons.length := by
  rw [← plan_eq] at h
  exact order_lt (List.mem_filter.mp h).1
theorem len_nil {l : List Nat} : decide (V.int ((numsV l).length : Int) = V.int 0) = decide (l = []) := by
  rw [List.length_map, dec_int1, decide_eq_decide]
  constructor
  · intro z
    exact List.length_eq_zero_iff.mp (by omega)
  · intro z
    rw [z]
    rfl
theorem ok_hh_first (T : Txt K mg A) (B : BMain mg base) : FnOk P w K mg base CX0 8 A.f_hh_first A.d_hh_first ["sea"] (sp_hh_first A) := by
  refine T.hh_first.fn.ok sc_hh_first (fun vs H Q E h => ?_) (fun cdv Ar outer s H vs Q E hr h => ?_)
  · obtain ⟨a, s, rfl, _⟩ := h
    rfl
  · obtain ⟨a, s, rfl, ⟨⟨t, pl, as, S⟩, ok, hT⟩, k⟩ := h
    refine ⟨_, (pss_cons (ps_set (i := 1) sc_hh_first.nd rfl (by first | exact Or.inl rfl | exact Or.inr rfl) (pe_call (ok_the_plan T B) (hr.mono (by decide)) (by rfl) T.the_plan.mg T.the_plan.fn.kp T.the_plan.bd .nil pass0 (pa_cons (pv 0) (pa_cons pe_int pa_nil)))) (pss_cons (ps_if (pt_cmpR op_eq (pe_callB call_len_seq (by rfl) T.n_len PySem.boot_len (pa_cons (pv 1) pa_nil)) pe_int (nomark _)) (pss_one (ps_ret (pe_lst (pa_cons (pe_cst (by rfl) T.c_NOBODY) pa_nil)))) pss_nil) (pss_one (ps_ret (pe_lst (pa_cons (pe_ix ix_list (pv 1) pe_int (fun _ _ => rfl)) (pa_cons (pe_op op_add (pe_fld (pv 0) rfl) (pe_fld (pe_ix ix_list (pe_fld (pv 0) rfl) (pe_ix ix_list (pv 1) pe_int (fun _ _ => rfl)) (fun _ _ => rfl)) rfl)) pa_nil))))))), ?_⟩
    refine ⟨_, rfl, a, t, pl, as, s, 0, rfl, S, ok.few, hT, by omega, fun L H1 sm1 hT1 nL hL => ?_⟩
    rw [ans_first] at k
    have hmem : ∀ q ∈ s.plan 0, q < s.persons.length := fun q hq => plan_mem hq
    generalize s.plan 0 = pn at *
    have S1 := S.sm sm1
    obtain ⟨da, ha⟩ := S1.sea
    refine ⟨_, rfl, L, _, rfl, .inl (SqL.of hL), rfl, _, rfl, ?_⟩
    show if decide (V.int ((numsV pn).length : Int) = V.int 0) = true then _ else _
    rw [len_nil]
    refine ite2 (fun h1 => ?_) (fun h1 => ?_)
    · have h1 := of_decide_eq_true h1
      subst h1
      exact ⟨(by show 1 ≤ sizeLine; decide), fun D nD => k.ret sm1 hT1 rfl nD⟩
    · cases pn with
      | nil => exact absurd (decide_eq_true rfl) h1
      | cons q pn =>
        have hq := hmem q (List.mem_cons_self ..)
        have hx : s.persons[q]? = some s.persons[q] := List.getElem?_eq_getElem hq
        obtain ⟨b, hb, db, hbx⟩ := S1.per.get hx
        refine ⟨_, rfl, L, _, _, V.int (q : Nat), rfl, rfl, SqL.of hL, at_of (j := 0) rfl rfl,
          _, rfl, a, _, da, _, _, rfl, ha, T.C_Sea.cl, T.nSea_minute, rfl, _, rfl, a, _, da, _, _, rfl, ha, T.C_Sea.cl, T.nSea_persons, rfl, _, rfl, L, _, _, V.int (q : Nat), rfl, rfl, SqL.of hL, at_of (j := 0) rfl rfl,
          pl, _, _, V.ref b, rfl, rfl, SqL.of S1.lst, at_of (j := q) rfl (by rw [List.getElem?_map, hb]; rfl), b, _, db, _, _, rfl, hbx, T.C_Person.cl, T.nPerson_takes, rfl, _, _, rfl, rfl, (by show 2 ≤ sizeLine; decide), fun D nD => k.ret sm1 hT1 ?_ nD⟩
        show _ = [V.int (q : Int), V.int ((s.time + (s.person q).takes : Nat) : Int)]
        rw [person_at hx]
        rfl
def sp_hh_without (A : Adr) : Sp := fun vs H Q _ => ∃ (a : Addr) (s : Km449.Sea) (p : Nat), vs = [.ref a, .int p] ∧ AskAt A H a s ∧ AnsP A H Q (ans s (.without p))
theorem ok_hh_without (T : Txt K mg A) (B : BMain mg base) : FnOk P w K mg base CX0 7 A.f_hh_without A.d_hh_without ["sea", "p"] (sp_hh_without A) := by
  refine T.hh_without.fn.ok sc_hh_without (fun vs H Q E h => ?_) (fun cdv Ar outer s H vs Q E hr h => ?_)
  · obtain ⟨a, s, p, rfl, _⟩ := h
    rfl
  · obtain ⟨a, s, p, rfl, ⟨⟨t, pl, as, S⟩, ok, hT⟩, k⟩ := h
    refine ⟨_, (pss_cons (ps_set (i := 2) sc_hh_without.nd rfl (by first | exact Or.inl rfl | exact Or.inr rfl) (pe_call (ok_refusal_unless_waiting T) (hr.mono (by decide)) (by rfl) T.refusal_unless_waiting.mg T.refusal_unless_waiting.fn.kp T.refusal_unless_waiting.bd .nil pass0 (pa_cons (pv 0) (pa_cons (pv 1) pa_nil)))) (pss_cons (ps_if (pt_cmpR op_notN (pv 2) pe_non (nomark _)) (pss_one (ps_ret (pe_lst (pa_cons (pv 2) pa_nil)))) pss_nil) (pss_one (ps_ret (pe_lst (pa_cons (pe_call (ok_size_without T B) (hr.mono (by decide)) (by rfl) T.size_without.mg T.size_without.fn.kp T.size_without.bd .nil pass0 (pa_cons (pv 0) (pa_cons (pv 1) pa_nil))) pa_nil)))))), ?_⟩
    rw [ans_without] at k
    refine ⟨_, rfl, _, rfl, a, s, p, rfl, ⟨t, pl, as, S⟩, ?_⟩
    have hnone : refW s p = none → ∃ x, s.persons[p]? = some x ∧ x.how = 0 := refW_none
    generalize refW s p = r at k hnone
    refine ⟨_, rfl, rfl, _, rfl, refI (fun i e => ?_) (fun e => ?_)⟩
    · subst e
      exact ⟨_, rfl, (by show 1 ≤ sizeLine; decide), fun D nD => k.ret (Sm.refl _) hT rfl nD⟩
    · subst e
      obtain ⟨x, hx, _⟩ := hnone rfl
      exact ⟨_, rfl, _, rfl, a, t, pl, as, s, p, rfl, S, ok.few, (List.getElem?_eq_some_iff.mp hx).1, hT, fun H1 sm1 hT1 => ⟨(by show 1 ≤ sizeLine; decide), fun D nD => k.ret sm1 hT1 rfl nD⟩⟩
def sp_hh_among (A : Adr) : Sp := fun vs H Q _ => ∃ (a : Addr) (s : Km449.Sea) (p : Nat), vs = [.ref a, .int p] ∧ AskAt A H a s ∧ AnsP A H Q (ans s (.surely p))
theorem ok_hh_among (T : Txt K mg A) (B : BMain mg base) : FnOk P w K mg base CX0 8 A.f_hh_among A.d_hh_among ["sea", "p"] (sp_hh_among A) := by
  refine T.hh_among.fn.ok sc_hh_among (fun vs H Q E h => ?_) (fun cdv Ar outer s H vs Q E hr h => ?_)
  · obtain ⟨a, s, p, rfl, _⟩ := h
    rfl
  · obtain ⟨a, s, p, rfl, ⟨⟨t, pl, as, S⟩, ok, hT⟩, k⟩ := h
    refine ⟨_, (pss_cons (ps_set (i := 2) sc_hh_among.nd rfl (by first | exact Or.inl rfl | exact Or.inr rfl) (pe_call (ok_refusal_unless_waiting T) (hr.mono (by decide)) (by rfl) T.refusal_unless_waiting.mg T.refusal_unless_waiting.fn.kp T.refusal_unless_waiting.bd .nil pass0 (pa_cons (pv 0) (pa_cons (pv 1) pa_nil)))) (pss_cons (ps_if (pt_cmpR op_notN (pv 2) pe_non (nomark _)) (pss_one (ps_ret (pe_lst (pa_cons (pv 2) pa_nil)))) pss_nil) (pss_one (ps_ret (pe_lst (pa_cons (pe_ifExp (pt_val (pe_call (ok_is_among_the_most T B) (hr.mono (by decide)) (by rfl) T.is_among_the_most.mg T.is_among_the_most.fn.kp T.is_among_the_most.bd .nil pass0 (pa_cons (pv 0) (pa_cons (pv 1) pa_nil)))) pe_int pe_int) pa_nil)))))), ?_⟩
    rw [ans_among] at k
    refine ⟨_, rfl, _, rfl, a, s, p, rfl, ⟨t, pl, as, S⟩, ?_⟩
    generalize refW s p = r at k
    refine ⟨_, rfl, rfl, _, rfl, refI (fun i e => ?_) (fun e => ?_)⟩
    · subst e
      exact ⟨_, rfl, (by show 1 ≤ sizeLine; decide), fun D nD => k.ret (Sm.refl _) hT rfl nD⟩
    · subst e
      refine ⟨_, rfl, _, rfl, a, t, pl, as, s, p, rfl, S, ok.few, hT, fun H1 sm1 hT1 => ⟨_, rfl, ?_⟩⟩
      generalize ((Km449.parts s.waits).any fun l => decide ((s.best 0).length ≤ l.length) && (l.contains p && s.can 0 l)) = b at k
      cases b with
      | true => exact ⟨(by show 1 ≤ sizeLine; decide), fun D nD => k.ret sm1 hT1 rfl nD⟩
      | false => exact ⟨(by show 1 ≤ sizeLine; decide), fun D nD => k.ret sm1 hT1 rfl nD⟩
def sp_hh_saves (A : Adr) : Sp := fun vs H Q _ => ∃ (a : Addr) (s : Km449.Sea) (p c : Nat), vs = [.ref a, .int p, .int c] ∧ AskAt A H a s ∧ AnsP A H Q (ans s (.saves p c))
theorem ok_hh_saves (T : Txt K mg A) (B : BMain mg base) : FnOk P w K mg base CX0 7 A.f_hh_saves A.d_hh_saves ["sea", "p", "c"] (sp_hh_saves A) := by
  refine T.hh_saves.fn.ok sc_hh_saves (fun vs H Q E h => ?_) (fun cdv Ar outer s H vs Q E hr h => ?_)
  · obtain ⟨a, s, p, c, rfl, _⟩ := h
    rfl
  · obtain ⟨a, s, p, c, rfl, ⟨⟨t, pl, as, S⟩, ok, hT⟩, k⟩ := h
    obtain ⟨da, ha⟩ := S.sea
    refine ⟨_, (pss_cons (ps_set (i := 3) sc_hh_saves.nd rfl (by first | exact Or.inl rfl | exact Or.inr rfl) (pe_call (ok_refusal_of_clothes T) (hr.mono (by decide)) (by rfl) T.refusal_of_clothes.mg T.refusal_of_clothes.fn.kp T.refusal_of_clothes.bd .nil pass0 (pa_cons (pv 0) (pa_cons (pv 1) (pa_cons (pv 2) pa_nil))))) (pss_cons (ps_if (pt_cmpR op_notN (pv 3) pe_non (nomark _)) (pss_one (ps_ret (pe_lst (pa_cons (pv 3) pa_nil)))) pss_nil) (pss_cons (ps_set (i := 4) sc_hh_saves.nd rfl (by first | exact Or.inl rfl | exact Or.inr rfl) (pe_meth0 (pv 0) T.C_Sea.cl T.Sea_duplicate.me (ok_Sea_duplicate T) (hr.mono (by decide)) T.Sea_duplicate.bd .nil pass0)) (pss_cons (ps_set (i := 5) sc_hh_saves.nd rfl (by first | exact Or.inl rfl | exact Or.inr rfl) (pe_ix ix_list (pe_fld (pv 4) rfl) (pv 1) (fun _ _ => rfl))) (pss_cons (ps_expr (pe_call (ok_refit T) (hr.mono (by decide)) (by rfl) T.refit.mg T.refit.fn.kp T.refit.bd .nil pass0 (pa_cons (pv 4) (pa_cons (pv 5) (pa_cons (pv 2) (pa_cons (pe_fld (pv 5) rfl) pa_nil)))))) (pss_one (ps_ret (pe_lst (pa_cons (pe_fld (pe_call (ok_the_most T B) (hr.mono (by decide)) (by rfl) T.the_most.mg T.the_most.fn.kp T.the_most.bd .nil pass0 (pa_cons (pv 4) (pa_cons pe_int pa_nil))) rfl) (pa_cons (pe_fld (pv 5) rfl) pa_nil)))))))))), ?_⟩
    rw [ans_saves] at k
    refine ⟨_, rfl, _, rfl, _, rfl, a, s, p, c, rfl, ⟨t, pl, as, S⟩, ?_⟩
    have hnone : refC s p c = none → ∃ x, s.persons[p]? = some x ∧ x.how = 0 ∧ c ≤ 3 ∧ ¬ x.clothes = c := refC_none
    generalize refC s p c = r at k hnone
    refine ⟨_, rfl, rfl, _, rfl, refI (fun i e => ?_) (fun e => ?_)⟩
    · subst e
      exact ⟨_, rfl, (by show 1 ≤ sizeLine; decide), fun D nD => k.ret (Sm.refl _) hT rfl nD⟩
    subst e
    obtain ⟨x, hx, _, hc, _⟩ := hnone rfl
    have hcl : x.clothes ≤ 3 := ok.clo x (List.mem_of_getElem? hx)
    -- supposed = sea.duplicate()
    refine ⟨_, rfl, a, da, _, rfl, ha, rfl, a, t, pl, as, s, rfl, S, ok.few, fun a' pl' as' H1 sm1 na npl nas S1 => ?_⟩
    obtain ⟨b1, db1, hb1, hbx1, mvf⟩ := moved (c := c) (r := x.raft) hx sm1 na npl nas S1
    obtain ⟨da1, ha1⟩ := S1.sea
    -- person = supposed.persons[p]
    refine ⟨_, rfl, a', _, da1, _, _, rfl, ha1, T.C_Sea.cl, T.nSea_persons, rfl, _, rfl, pl', _, _, V.ref b1, rfl, rfl, SqL.of S1.lst, at_of (j := p) rfl (by rw [List.getElem?_map, hb1]; rfl), ?_⟩
    -- refit(supposed, person, c, person.raft)
    refine ⟨_, rfl, _, rfl, _, rfl, _, rfl, b1, _, db1, _, _, rfl, hbx1, T.C_Person.cl, T.nPerson_raft, rfl, a', t, b1, _, _, x, c, x.raft, rfl, S1.hd, ok.wat, ok.tab, ⟨db1, hbx1⟩, hcl, hc, fun H2 fr pb => ?_⟩
    obtain ⟨sm2, S2⟩ := mvf H2 fr pb
    -- the_most(supposed, 0).size, person.left
    refine ⟨_, rfl, a', t, pl', as', _, 0, rfl, S2, move_few ok.few, hT.same sm2, by omega, fun g H3 sm3 hT3 hg => ?_⟩
    obtain ⟨dg, hgo⟩ := hg
    obtain ⟨db2, hb2⟩ := (S2.sm sm3).per.per p b1 _ hb1 (move_at hx)
    refine ⟨g, _, dg, _, _, rfl, hgo, T.C_Group.cl, T.nGroup_size, rfl, _, rfl, b1, _, db2, _, _, rfl, hb2, T.C_Person.cl, T.nPerson_left, rfl, (by show 2 ≤ sizeLine; decide), fun D nD => k.ret ((Sm.of sm2).trans sm3) hT3 ?_ nD⟩
    rw [person_at hx, (best_group _ (t := 0) (by omega)).2]
    show _ = [V.int (((s.move p x.raft c).best 0).length : Int), V.int (((s.move p x.raft c).person p).left : Int)]
    rw [person_at (move_at hx)]
end
end Hh
set_option Elab.async false
set_option linter.all false
set_option maxRecDepth 100000
set_option maxHeartbeats 2000000
namespace Hh
open PySem PySem.Spec PyProof.Rows L2

theorem ans_next (s : Km449.Sea) : ans s .next = match order s with
    | [] => [-6]
    | p :: _ => [(p : Int), ((s.person p).left : Int)] := by
  have e : ans s .next = Km449Neutral.told (match order s with
    | [] => Km449.only (-6)
    | p :: _ => ⟨((p : Nat) : Int), [(s.person p).left]⟩) := rfl
  rw [e]
  cases order s <;> rfl
theorem ans_look (s : Km449.Sea) (p : Nat) : ans s (.look p) = if s.persons.length ≤ p then [-2] else [((s.person p).how : Int), ((s.person p).clothes : Int), ((Km449.bit (s.person p).raft : Nat) : Int), ((s.person p).left : Int), ((s.person p).takes : Int)] := by
  have e : ans s (.look p) = Km449Neutral.told (if s.persons.length ≤ p then Km449.only (-2) else ⟨(((s.person p).how : Nat) : Int), [(s.person p).clothes, Km449.bit (s.person p).raft, (s.person p).left, (s.person p).takes]⟩) := rfl
  rw [e]
  split <;> rfl
theorem ans_who (s : Km449.Sea) : ans s .who = [((fares s 0).length : Int), (Km449.bits (fares s 0) : Int), (Km449.bits (fares s 1) : Int), (Km449.bits (fares s 2) : Int)] := rfl
theorem ans_row (s : Km449.Sea) (i : Nat) : ans s (.row i) = if 6 ≤ i then [-2] else 0 :: Km449Neutral.nums ((List.range 4).map fun c => s.hours i c) := by
  have e : ans s (.row i) = Km449Neutral.told (if Km449.PLACES ≤ i then Km449.only (-2) else ⟨0, (List.range Km449.CLOTHES).map fun c => s.hours i c⟩) := rfl
  rw [e]
  show Km449Neutral.told (if 6 ≤ i then _ else _) = _
  split <;> rfl
theorem fares_count (s : Km449.Sea) (f : Nat) : (fares s f).length = (s.persons.filter fun x => x.how == f).length := by
  unfold fares
  have key : ∀ n, n ≤ s.persons.length → ((List.range n).filter fun p => (s.person p).how == f).length = ((s.persons.take n).filter fun x => x.how == f).length := fun n => by
    induction n with
    | zero => intro _; rfl
    | succ n ih =>
      intro hn
      have hx : s.persons[n]? = some s.persons[n] := List.getElem?_eq_getElem (by omega)
      rw [range_snoc_filter, filter_snoc _ hx, List.length_append, List.length_append, ih (by omega), person_at hx]
      congr 1
      split <;> rfl
  have := key s.persons.length (Nat.le_refl _)
  rwa [List.take_length] at this
theorem ans_sums (s : Km449.Sea) : ans s .sums = [(s.persons.length : Int), ((fares s 0).length : Int), ((fares s 1).length : Int), ((fares s 2).length : Int)] := by
  rw [fares_count s 1, fares_count s 2]
  rfl
theorem four_of (l : List Nat) (k : Nat) (h : k + 4 ≤ l.length) : (l.drop k).take 4 = (List.range 4).map fun c => l.getD (k + c) 0 := by
  apply List.ext_getElem?
  intro j
  rw [List.getElem?_take, List.getElem?_map, List.getElem?_drop]
  by_cases hj : j < 4
  · rw [if_pos hj, List.getElem?_range hj]
    show _ = some (l.getD (k + j) 0)
    have hl : k + j < l.length := by omega
    rw [List.getD_eq_getElem?_getD, List.getElem?_eq_getElem hl]
    rfl
  · rw [if_neg hj, List.getElem?_eq_none (by rw [List.length_range]; omega)]
    rfl
theorem sum_bits : ∀ l : List Nat, (l.map fun (p : Nat) => (1 * 2 ^ ((p : Int)).toNat : Int)).sum = ((Km449.bits l : Nat) : Int)
  | [] => rfl
  | p :: l => by
    rw [List.map_cons, List.sum_cons, sum_bits l, bits_cons, Int.toNat_natCast, Int.one_mul, Int.natCast_add, Int.natCast_pow]
    rfl
theorem fares_lt {s : Km449.Sea} {f p : Nat} (h : p ∈ fares s f) : p < s.persons.length := List.mem_range.mp (List.mem_filter.mp h).1

section
variable {P : Program} {w : World} {K : PySem.W.Frag} {mg : Str → Option Value} {base : Heap} {A : Adr}
def sp_bits_of (K : PySem.W.Frag) : Sp := fun vs H Q _ => ∃ (L : Addr) (l : List Nat), vs = [.ref L] ∧ SqL K H L (numsV l) ∧ l.length ≤ 9 ∧ (∀ p ∈ l, p ≤ 8) ∧ ∀ H', Same H H' → Q (.int (Km449.bits l : Nat)) H'
theorem ok_bits_of (T : Txt K mg A) : FnOk P w K mg base CX0 1 A.f_bits_of A.d_bits_of ["numbers"] (sp_bits_of K) := by
  refine T.bits_of.fn.ok sc_bits_of (fun vs H Q E h => ?_) (fun cdv Ar outer s H vs Q E hr h => ?_)
  · obtain ⟨L, l, rfl, _⟩ := h
    rfl
  · obtain ⟨L, l, rfl, hL, h9, h8, k⟩ := h
    refine ⟨_, (pss_one (ps_ret (pe_callB (cr_sum rfl) (by rfl) T.n_sum boot_sum (pa_cons (pe_lc rfl sc_bits_of.nd (pi_list (pv 0)) (blkOk_by (N := ["numbers", "number"]) (sc := defScope st_bits_of) (own := [("number", 1)]) (by decide +kernel)) (fun _ _ _ _ _ => (pg_name (i := 1) sc_bits_of.nd rfl (by first | exact Or.inl rfl | exact Or.inr rfl))) (fun _ _ _ _ _ => pts_nil) (fun _ _ _ _ _ => (pe_op op_shl pe_int (pv 1)))) pa_nil)))), ?_⟩
    refine ⟨_, rfl, L, rfl, ⟨_, hL⟩, ?_⟩
    intro D nD
    refine lc_list (K := K) (a := L) (xs := numsV l) (fun i H' => Same H H' ∧ H' D = some (.lst (((l.take i).map fun (p : Nat) => (1 * 2 ^ ((p : Int)).toNat : Int)).map V.int)))
      ⟨same_upd (Same.refl _) nD, upd_same⟩ (fun i H' _ ⟨sm, _⟩ => sm.seq hL) ?_ ?_
    · rintro i y H' hi ⟨sm, hD⟩
      obtain ⟨p, hp, rfl⟩ := get_map hi
      have hp8 := h8 p (List.mem_of_getElem? hp)
      refine ⟨rfl, ?_⟩
      refine ⟨_, rfl, _, _, rfl, rfl, ⟨by omega, by omega, by decide⟩, _, hD, ?_, same_upd sm nD, ?_⟩
      · rw [List.length_map, List.length_map, List.length_take]
        exact small9 (by omega)
      · rw [upd_same, map_snoc _ hp, List.map_append]
        rfl
    · rintro H' ⟨sm, hD⟩
      rw [List.length_map, List.take_length] at hD
      refine ⟨D, _, rfl, SqL.of hD, ?_⟩
      rw [sum_bits]
      exact k H' sm
def sp_hh_next (A : Adr) : Sp := fun vs H Q _ => ∃ (a : Addr) (s : Km449.Sea), vs = [.ref a] ∧ AskAt A H a s ∧ AnsP A H Q (ans s .next)
theorem ok_hh_next (T : Txt K mg A) (B : BMain mg base) : FnOk P w K mg base CX0 5 A.f_hh_next A.d_hh_next ["sea"] (sp_hh_next A) := by
  refine T.hh_next.fn.ok sc_hh_next (fun vs H Q E h => ?_) (fun cdv Ar outer s H vs Q E hr h => ?_)
  · obtain ⟨a, s, rfl, _⟩ := h
    rfl
  · obtain ⟨a, s, rfl, ⟨⟨t, pl, as, S⟩, ok, hT⟩, k⟩ := h
    refine ⟨_, (pss_cons (ps_set (i := 1) sc_hh_next.nd rfl (by first | exact Or.inl rfl | exact Or.inr rfl) (pe_call (ok_numbers_by_left T B) (hr.mono (by decide)) (by rfl) T.numbers_by_left.mg T.numbers_by_left.fn.kp T.numbers_by_left.bd .nil pass0 (pa_cons (pv 0) pa_nil))) (pss_cons (ps_if (pt_cmpR op_eq (pe_callB call_len_seq (by rfl) T.n_len PySem.boot_len (pa_cons (pv 1) pa_nil)) pe_int (nomark _)) (pss_one (ps_ret (pe_lst (pa_cons (pe_cst (by rfl) T.c_NOBODY) pa_nil)))) pss_nil) (pss_one (ps_ret (pe_lst (pa_cons (pe_ix ix_list (pv 1) pe_int (fun _ _ => rfl)) (pa_cons (pe_fld (pe_ix ix_list (pe_fld (pv 0) rfl) (pe_ix ix_list (pv 1) pe_int (fun _ _ => rfl)) (fun _ _ => rfl)) rfl) pa_nil))))))), ?_⟩
    refine ⟨_, rfl, a, t, pl, as, s, rfl, S, ok.few, hT, fun L H1 sm1 hT1 nL hL => ?_⟩
    rw [ans_next] at k
    have hmem : ∀ q ∈ order s, q < s.persons.length := fun q hq => order_lt hq
    generalize order s = pn at *
    have S1 := S.sm sm1
    obtain ⟨da, ha⟩ := S1.sea
    refine ⟨_, rfl, L, _, rfl, .inl (SqL.of hL), rfl, _, rfl, ?_⟩
    show if decide (V.int ((numsV pn).length : Int) = V.int 0) = true then _ else _
    rw [len_nil]
    refine ite2 (fun h1 => ?_) (fun h1 => ?_)
    · have h1 := of_decide_eq_true h1
      subst h1
      exact ⟨(by show 1 ≤ sizeLine; decide), fun D nD => k.ret sm1 hT1 rfl nD⟩
    · cases pn with
      | nil => exact absurd (decide_eq_true rfl) h1
      | cons q pn =>
        have hq := hmem q (List.mem_cons_self ..)
        have hx : s.persons[q]? = some s.persons[q] := List.getElem?_eq_getElem hq
        obtain ⟨b, hb, db, hbx⟩ := S1.per.get hx
        refine ⟨_, rfl, L, _, _, V.int (q : Nat), rfl, rfl, SqL.of hL, at_of (j := 0) rfl rfl,
          _, rfl, a, _, da, _, _, rfl, ha, T.C_Sea.cl, T.nSea_persons, rfl, _, rfl, L, _, _, V.int (q : Nat), rfl, rfl, SqL.of hL, at_of (j := 0) rfl rfl,
          pl, _, _, V.ref b, rfl, rfl, SqL.of S1.lst, at_of (j := q) rfl (by rw [List.getElem?_map, hb]; rfl), b, _, db, _, _, rfl, hbx, T.C_Person.cl, T.nPerson_left, rfl, (by show 2 ≤ sizeLine; decide), fun D nD => k.ret sm1 hT1 ?_ nD⟩
        show _ = [V.int (q : Int), V.int ((s.person q).left : Int)]
        rw [person_at hx]
def sp_hh_look (A : Adr) : Sp := fun vs H Q _ => ∃ (a : Addr) (s : Km449.Sea) (p : Nat), vs = [.ref a, .int p] ∧ AskAt A H a s ∧ AnsP A H Q (ans s (.look p))
theorem ok_hh_look (T : Txt K mg A) : FnOk P w K mg base CX0 1 A.f_hh_look A.d_hh_look ["sea", "p"] (sp_hh_look A) := by
  refine T.hh_look.fn.ok sc_hh_look (fun vs H Q E h => ?_) (fun cdv Ar outer s H vs Q E hr h => ?_)
  · obtain ⟨a, s, p, rfl, _⟩ := h
    rfl
  · obtain ⟨a, s, p, rfl, ⟨⟨t, pl, as, S⟩, ok, hT⟩, k⟩ := h
    obtain ⟨da, ha⟩ := S.sea
    refine ⟨_, (pss_cons (ps_if (pt_cmpR op_ge (pv 1) (pe_callB call_len_seq (by rfl) T.n_len PySem.boot_len (pa_cons (pe_fld (pv 0) rfl) pa_nil)) (nomark _)) (pss_one (ps_ret (pe_lst (pa_cons (pe_cst (by rfl) T.c_NOT_THERE) pa_nil)))) pss_nil) (pss_cons (ps_set (i := 2) sc_hh_look.nd rfl (by first | exact Or.inl rfl | exact Or.inr rfl) (pe_ix ix_list (pe_fld (pv 0) rfl) (pv 1) (fun _ _ => rfl))) (pss_one (ps_ret (pe_lst (pa_cons (pe_fld (pv 2) rfl) (pa_cons (pe_fld (pv 2) rfl) (pa_cons (pe_fld (pv 2) rfl) (pa_cons (pe_fld (pv 2) rfl) (pa_cons (pe_fld (pv 2) rfl) pa_nil)))))))))), ?_⟩
    rw [ans_look] at k
    refine ⟨_, rfl, _, rfl, a, _, da, _, _, rfl, ha, T.C_Sea.cl, T.nSea_persons, rfl, pl, _, rfl, .inl (SqL.of S.lst), _, _, rfl, rfl, _, rfl, ?_⟩
    rw [List.length_map, S.per.len]
    refine ite2 (fun h1 => ?_) (fun h1 => ?_)
    · have h1 : s.persons.length ≤ p := by have := of_decide_eq_true h1; omega
      rw [if_pos h1] at k
      exact ⟨(by show 1 ≤ sizeLine; decide), fun D nD => k.ret (Sm.refl _) hT rfl nD⟩
    have h1 : p < s.persons.length := by
      apply Nat.lt_of_not_le
      intro z
      exact h1 (decide_eq_true (by omega))
    have hx : s.persons[p]? = some s.persons[p] := List.getElem?_eq_getElem h1
    generalize s.persons[p] = x at hx
    obtain ⟨b, hb, db, hbx⟩ := S.per.get hx
    rw [if_neg (by omega), person_at hx] at k
    refine ⟨_, rfl, a, _, da, _, _, rfl, ha, T.C_Sea.cl, T.nSea_persons, rfl, _, rfl, pl, _, _, V.ref b, rfl, rfl, SqL.of S.lst, at_of (j := p) rfl (by rw [List.getElem?_map, hb]; rfl), ?_⟩
    exact ⟨_, rfl, b, _, db, _, _, rfl, hbx, T.C_Person.cl, T.nPerson_fate, rfl, _, rfl, b, _, db, _, _, rfl, hbx, T.C_Person.cl, T.nPerson_clothes, rfl, _, rfl, b, _, db, _, _, rfl, hbx, T.C_Person.cl, T.nPerson_raft, rfl,
      _, rfl, b, _, db, _, _, rfl, hbx, T.C_Person.cl, T.nPerson_left, rfl, _, rfl, b, _, db, _, _, rfl, hbx, T.C_Person.cl, T.nPerson_takes, rfl, (by show 5 ≤ sizeLine; decide), fun D nD => k.ret (Sm.refl _) hT rfl nD⟩
def sp_hh_who (A : Adr) : Sp := fun vs H Q _ => ∃ (a : Addr) (s : Km449.Sea), vs = [.ref a] ∧ AskAt A H a s ∧ AnsP A H Q (ans s .who)
theorem ok_hh_who (T : Txt K mg A) : FnOk P w K mg base CX0 2 A.f_hh_who A.d_hh_who ["sea"] (sp_hh_who A) := by
  refine T.hh_who.fn.ok sc_hh_who (fun vs H Q E h => ?_) (fun cdv Ar outer s H vs Q E hr h => ?_)
  · obtain ⟨a, s, rfl, _⟩ := h
    rfl
  · obtain ⟨a, s, rfl, ⟨⟨t, pl, as, S⟩, ok, hT⟩, k⟩ := h
    obtain ⟨da, ha⟩ := S.sea
    refine ⟨_, (pss_cons (ps_set (i := 1) sc_hh_who.nd rfl (by first | exact Or.inl rfl | exact Or.inr rfl) (pe_meth (pv 0) T.C_Sea.cl T.Sea_numbers_of.me (ok_Sea_numbers_of T) (hr.mono (by decide)) T.Sea_numbers_of.bd .nil pass0 (pa_cons (pe_cst (by rfl) T.c_WAITS) pa_nil))) (pss_one (ps_ret (pe_lst (pa_cons (pe_callB call_len_seq (by rfl) T.n_len PySem.boot_len (pa_cons (pv 1) pa_nil)) (pa_cons (pe_call (ok_bits_of T) (hr.mono (by decide)) (by rfl) T.bits_of.mg T.bits_of.fn.kp T.bits_of.bd .nil pass0 (pa_cons (pv 1) pa_nil)) (pa_cons (pe_call (ok_bits_of T) (hr.mono (by decide)) (by rfl) T.bits_of.mg T.bits_of.fn.kp T.bits_of.bd .nil pass0 (pa_cons (pe_meth (pv 0) T.C_Sea.cl T.Sea_numbers_of.me (ok_Sea_numbers_of T) (hr.mono (by decide)) T.Sea_numbers_of.bd .nil pass0 (pa_cons (pe_cst (by rfl) T.c_TAKEN_UP) pa_nil)) pa_nil)) (pa_cons (pe_call (ok_bits_of T) (hr.mono (by decide)) (by rfl) T.bits_of.mg T.bits_of.fn.kp T.bits_of.bd .nil pass0 (pa_cons (pe_meth (pv 0) T.C_Sea.cl T.Sea_numbers_of.me (ok_Sea_numbers_of T) (hr.mono (by decide)) T.Sea_numbers_of.bd .nil pass0 (pa_cons (pe_cst (by rfl) T.c_LOST) pa_nil)) pa_nil)) pa_nil)))))))), ?_⟩
    rw [ans_who] at k
    have h9 : ∀ f, (fares s f).length ≤ 9 := fun f => Nat.le_trans (fares_len s f) ok.few
    have h8 : ∀ f, ∀ p ∈ fares s f, p ≤ 8 := fun f p hp => by have := fares_lt hp; have := ok.few; omega
    refine ⟨_, rfl, a, da, _, rfl, ha, rfl, a, t, pl, as, s, 0, rfl, S, ok.few, fun D0 H1 sm1 n0 hD0 => ?_⟩
    -- len(waiting), bits_of(waiting)
    refine ⟨_, rfl, D0, _, rfl, .inl (SqL.of hD0), _, rfl, D0, _, rfl, SqL.of hD0, h9 0, h8 0, fun H2 sm2 => ?_⟩
    have sm12 := sm1.trans sm2
    refine ⟨_, rfl, a, da, _, rfl, sm12 _ _ ha, rfl, a, t, pl, as, s, 1, rfl, S.sm (.of sm12), ok.few, fun D1 H3 sm3 n1 hD1 => ⟨D1, _, rfl, SqL.of hD1, h9 1, h8 1, fun H4 sm4 => ?_⟩⟩
    have sm14 := (sm12.trans sm3).trans sm4
    refine ⟨_, rfl, a, da, _, rfl, sm14 _ _ ha, rfl, a, t, pl, as, s, 2, rfl, S.sm (.of sm14), ok.few, fun D2 H5 sm5 n2 hD2 => ⟨D2, _, rfl, SqL.of hD2, h9 2, h8 2, fun H6 sm6 => ?_⟩⟩
    have sm16 := (sm14.trans sm5).trans sm6
    refine ⟨(by show 4 ≤ sizeLine; decide), fun D nD => k.ret (.of sm16) (hT.same sm16) ?_ nD⟩
    rw [List.length_map]
    rfl
def sp_hh_row (A : Adr) : Sp := fun vs H Q _ => ∃ (a : Addr) (s : Km449.Sea) (i : Nat), vs = [.ref a, .int i] ∧ AskAt A H a s ∧ AnsP A H Q (ans s (.row i))
theorem ok_hh_row (T : Txt K mg A) : FnOk P w K mg base CX0 2 A.f_hh_row A.d_hh_row ["sea", "place"] (sp_hh_row A) := by
  refine T.hh_row.fn.ok sc_hh_row (fun vs H Q E h => ?_) (fun cdv Ar outer s H vs Q E hr h => ?_)
  · obtain ⟨a, s, i, rfl, _⟩ := h
    rfl
  · obtain ⟨a, s, i, rfl, ⟨⟨t, pl, as, S⟩, ok, hT⟩, k⟩ := h
    refine ⟨_, (pss_cons (ps_if (pt_cmpR op_gt (pv 1) (pe_cst (by rfl) T.c_RAFT_PLACE) (nomark _)) (pss_one (ps_ret (pe_lst (pa_cons (pe_cst (by rfl) T.c_NOT_THERE) pa_nil)))) pss_nil) (pss_one (ps_ret (pe_op op_cat (pe_lst (pa_cons pe_int pa_nil)) (pe_meth (pv 0) T.C_Sea.cl T.Sea_told_row.me (ok_Sea_told_row T) (hr.mono (by decide)) T.Sea_told_row.bd .nil pass0 (pa_cons (pv 1) pa_nil)))))), ?_⟩
    rw [ans_row] at k
    refine ⟨_, rfl, _, _, rfl, rfl, _, rfl, ?_⟩
    refine ite2 (fun h1 => ?_) (fun h1 => ?_)
    · have h1 : 6 ≤ i := by have := of_decide_eq_true h1; omega
      rw [if_pos h1] at k
      exact ⟨(by show 1 ≤ sizeLine; decide), fun D nD => k.ret (Sm.refl _) hT rfl nD⟩
    have h1 : ¬ 6 ≤ i := fun z => h1 (decide_eq_true (by omega))
    rw [if_neg h1] at k
    refine ⟨(by show 1 ≤ sizeLine; decide), fun D1 n1 => ?_⟩
    have sm1 : Same H (upd H D1 (.lst [.int 0])) := same_upd (Same.refl _) n1
    have S1 := S.sm (.of sm1)
    obtain ⟨da, ha⟩ := S1.sea
    refine ⟨_, rfl, a, da, _, rfl, ha, rfl, _, rfl, a, t, _, _, i, rfl, S1.hd, ok.tab.len, by omega, fun D2 n2 => ?_⟩
    have sm2 := sm1.trans (same_upd (o := .lst (((s.table.drop (i * 4)).take 4).map fun x => V.int (x : Nat))) (Same.refl _) n2)
    refine ⟨D1, D2, [.int 0], _, rfl, rfl, ?_, upd_same, ?_, fun D3 n3 => k.ret (.of sm2) (hT.same sm2) ?_ n3⟩
    · rw [upd_ne (fun z => by rw [← z, upd_same] at n2; cases n2), upd_same]
    · rw [List.length_map, List.length_take]
      show 1 + _ ≤ sizeLine
      exact Nat.le_of_lt (small1000 (by omega))
    · rw [four_of _ _ (by rw [ok.tab.len]; omega), List.map_cons, nums_map]
      rfl
def sp_hh_sums (A : Adr) : Sp := fun vs H Q _ => ∃ (a : Addr) (s : Km449.Sea), vs = [.ref a] ∧ AskAt A H a s ∧ AnsP A H Q (ans s .sums)
theorem ok_hh_sums (T : Txt K mg A) : FnOk P w K mg base CX0 2 A.f_hh_sums A.d_hh_sums ["sea"] (sp_hh_sums A) := by
  refine T.hh_sums.fn.ok sc_hh_sums (fun vs H Q E h => ?_) (fun cdv Ar outer s H vs Q E hr h => ?_)
  · obtain ⟨a, s, rfl, _⟩ := h
    rfl
  · obtain ⟨a, s, rfl, ⟨⟨t, pl, as, S⟩, ok, hT⟩, k⟩ := h
    obtain ⟨da, ha⟩ := S.sea
    refine ⟨_, (pss_one (ps_ret (pe_op op_cat (pe_lst (pa_cons (pe_callB call_len_seq (by rfl) T.n_len PySem.boot_len (pa_cons (pe_fld (pv 0) rfl) pa_nil)) pa_nil)) (pe_lc rfl sc_hh_sums.nd (pi_tup (pe_tup (pa_cons (pe_cst (by rfl) T.c_WAITS) (pa_cons (pe_cst (by rfl) T.c_TAKEN_UP) (pa_cons (pe_cst (by rfl) T.c_LOST) pa_nil))))) (blkOk_by (N := ["sea", "fate"]) (sc := defScope st_hh_sums) (own := [("fate", 1)]) (by decide +kernel)) (fun _ _ _ _ _ => (pg_name (i := 1) sc_hh_sums.nd rfl (by first | exact Or.inl rfl | exact Or.inr rfl))) (fun _ _ _ _ _ => pts_nil) (fun _ _ _ _ _ => (pe_callB (call_lenK (K := K) rfl) (by rfl) T.n_len PySem.boot_len (pa_cons (pe_meth (pv 0) T.C_Sea.cl T.Sea_numbers_of.me (ok_Sea_numbers_of T) (hr.mono (by decide)) T.Sea_numbers_of.bd .nil pass0 (pa_cons (pv 1) pa_nil)) pa_nil))))))), ?_⟩
    rw [ans_sums] at k
    -- [len(sea.persons)]
    refine ⟨_, rfl, a, _, da, _, _, rfl, ha, T.C_Sea.cl, T.nSea_persons, rfl, pl, _, rfl, .inl (SqL.of S.lst), (by show 1 ≤ sizeLine; decide), fun D1 n1 => ?_⟩
    rw [List.length_map, S.per.len]
    have sm1 : Same H (upd H D1 (.lst [.int (s.persons.length : Nat)])) := same_upd (Same.refl _) n1
    -- (WAITS, TAKEN_UP, LOST)
    refine ⟨(by show 3 ≤ sizeLine; decide), fun tp ntp => ⟨tp, rfl, ⟨_, SqT.of upd_same⟩, ?_⟩⟩
    have sm2 := same_upd (o := .tup [.int 0, .int 1, .int 2]) (Same.refl _) ntp
    have htp : (upd (upd H D1 (.lst [.int (s.persons.length : Nat)])) tp (.tup [.int 0, .int 1, .int 2])) tp = some (.tup (numsV [0, 1, 2])) := upd_same
    have sm12 := sm1.trans sm2
    have hD1 := sm2 _ _ (upd_same (H := H) (a := D1) (o := .lst [.int (s.persons.length : Nat)]))
    generalize upd (upd H D1 (.lst [.int (s.persons.length : Nat)])) tp (.tup [.int 0, .int 1, .int 2]) = H2 at htp sm12 hD1
    intro D2 n2
    refine lc_tup (K := K) (a := tp) (xs := numsV [0, 1, 2]) (fun i H' => Same H2 H' ∧ H' D2 = some (.lst (numsV (([0, 1, 2].take i).map fun f => (fares s f).length))))
      ⟨same_upd (Same.refl _) n2, upd_same⟩ (fun i H' _ ⟨sm, _⟩ => SqT.of (sm _ _ htp)) ?_ ?_
    · rintro i y H' hi ⟨sm, hD2⟩
      obtain ⟨f, hf, rfl⟩ := get_map hi
      have hi3 : i < 3 := (List.getElem?_eq_some_iff.mp hf).1
      have smA := sm12.trans sm
      refine ⟨rfl, ?_⟩
      refine ⟨_, rfl, a, da, _, rfl, smA _ _ ha, rfl, _, rfl, a, t, pl, as, s, f, rfl, S.sm (.of smA), ok.few, fun D5 H5 sm5 n5 hD5 => ⟨D5, _, rfl, .inl (SqL.of hD5), _, sm5 _ _ hD2, ?_, same_upd (sm.trans sm5) n2, ?_⟩⟩
      · rw [List.length_map, List.length_map, List.length_take]
        exact small9 (by simp; omega)
      · rw [upd_same, map_snoc _ hf]
        unfold numsV
        rw [List.map_append, List.length_map]
        rfl
    · rintro H3 ⟨sm3, hD2⟩
      have hD2 : H3 D2 = some (.lst [.int ((fares s 0).length : Nat), .int ((fares s 1).length : Nat), .int ((fares s 2).length : Nat)]) := hD2
      have smA := sm12.trans sm3
      exact ⟨D1, D2, _, _, rfl, rfl, sm3 _ _ hD1, hD2, (by show 1 + 3 ≤ sizeLine; decide), fun D3 n3 => k.ret (.of smA) (hT.same smA) rfl n3⟩
end
end Hh
set_option Elab.async false
set_option linter.all false
set_option maxRecDepth 100000
set_option maxHeartbeats 2000000
namespace Hh
open PySem PySem.Spec PyProof.Rows L2

/-- the heap but for some addresses -/
def hid (S : List Addr) (H : Hp) : Hp := fun b => if b ∈ S then none else H b
theorem hid_in {S : List Addr} {H : Hp} {b : Addr} (h : b ∈ S) : hid S H b = none := by unfold hid; rw [if_pos h]
theorem hid_out {S : List Addr} {H : Hp} {b : Addr} (h : b ∉ S) : hid S H b = H b := by unfold hid; rw [if_neg h]
theorem hid_some {S : List Addr} {H : Hp} {b : Addr} {o : HO} (e : hid S H b = some o) : b ∉ S ∧ H b = some o := by
  by_cases h : b ∈ S
  · rw [hid_in h] at e; cases e
  · rw [hid_out h] at e; exact ⟨h, e⟩
theorem hid_same {S : List Addr} {H : Hp} : Same (hid S H) H := fun b o e => (hid_some e).2
theorem hid_new {S S' : List Addr} {H H' : Hp} (sm : ∀ b o, H b = some o → b ∉ S → H' b = some o) (fr : ∀ b ∈ S', b ∈ S ∨ H b = none) : Same (hid S H) (hid S' H') := fun b o e => by
  obtain ⟨h1, h2⟩ := hid_some e
  rw [hid_out fun z => ?_]
  · exact sm b o h2 h1
  · rcases fr b z with q | q
    · exact h1 q
    · rw [q] at h2; cases h2
/-- all but the log at lg is as it was (tables may grow) -/
def SmB (lg : Addr) (H H' : Hp) : Prop := ∀ b o, H b = some o → b ≠ lg → H' b = some o ∨ ((∃ ps, o = .tbl ps) ∧ ∃ ps', H' b = some (.tbl ps'))
theorem SmB.of {lg : Addr} {H H' : Hp} (h : Sm H H') : SmB lg H H' := fun b o e _ => h b o e
theorem SmB.trans {lg : Addr} {H H1 H2 : Hp} (a : SmB lg H H1) (b : SmB lg H1 H2) : SmB lg H H2 := fun c o e hc => by
  rcases a c o e hc with z | ⟨z, ps, q⟩
  · exact b c o z hc
  · rcases b c _ q hc with y | ⟨_, y⟩
    · exact .inr ⟨z, ps, y⟩
    · exact .inr ⟨z, y⟩
/-- all but the log at lg is as it was -/
def SameB (lg : Addr) (H H' : Hp) : Prop := ∀ b o, H b = some o → b ≠ lg → H' b = some o
theorem SameB.smB {lg : Addr} {H H' : Hp} (h : SameB lg H H') : SmB lg H H' := fun b o e hb => .inl (h b o e hb)
theorem TabL.sameB {A : Adr} {H H' : Hp} {lg C dx : Addr} {fs : List (Str × V)} (t : TabL A H) (hl : H lg = some (.ins C dx fs)) (f : SameB lg H H') : TabL A H' := by
  rcases t with t | ⟨c, t1, t2⟩
  · exact .inl (f _ _ t (ne_of t hl (by intro q; cases q)))
  · exact .inr ⟨c, f _ _ t1 (ne_of t1 hl (by intro q; cases q)), f _ _ t2 (ne_of t2 hl (by intro q; cases q))⟩
def lfv (n e l : V) : List (Str × V) := [("now", n), ("earlier", e), ("later", l)]
theorem pl_ne {C C' dx dx' : Addr} {x : Km449.Person} {n e l : V} : HO.ins C dx (pfs x) ≠ HO.ins C' dx' (lfv n e l) := by
  intro h
  injection h with _ _ h
  have := congrArg List.length h
  exact absurd this (by show ¬ (5 : Nat) = 3; decide)
theorem sl_ne {C C' dx dx' : Addr} {w t m pl n e l : V} : HO.ins C dx (sfv w t m pl) ≠ HO.ins C' dx' (lfv n e l) := by
  intro h
  injection h with _ _ h
  have := congrArg List.length h
  exact absurd this (by show ¬ (4 : Nat) = 3; decide)
/-- a sea does not lean on the log -/
theorem SeaIn.hidL {A : Adr} {H : Hp} {a lg C dx : Addr} {n e l : V} {s : Km449.Sea} (x : SeaIn A H a s) (hl : H lg = some (.ins C dx (lfv n e l))) : SeaIn A (hid [lg] H) a s := by
  obtain ⟨t, pl, as, S⟩ := x
  obtain ⟨da, ha⟩ := S.sea
  have out : ∀ {b : Addr} {o : HO}, H b = some o → o ≠ .ins C dx (lfv n e l) → hid [lg] H b = some o := fun {b o} h1 h2 => by
    rw [hid_out fun z => ?_]
    · exact h1
    · rw [List.mem_singleton.mp z, hl] at h1
      exact h2 (Option.some.inj h1).symm
  refine ⟨t, pl, as, ⟨da, out ha sl_ne⟩, out S.tab (by intro q; cases q), out S.lst (by intro q; cases q), S.ne, S.per.nd, S.per.len, fun j b y h1 h2 => ?_⟩
  obtain ⟨db, hb⟩ := S.per.per j b y h1 h2
  exact ⟨db, out hb pl_ne⟩
theorem SeaIn.smB {A : Adr} {H H' : Hp} {a lg C dx : Addr} {n e l : V} {s : Km449.Sea} (x : SeaIn A H a s) (hl : H lg = some (.ins C dx (lfv n e l))) (f : SmB lg H H') : SeaIn A H' a s :=
  (x.hidL hl).sm fun b o e => by
    obtain ⟨h1, h2⟩ := hid_some e
    exact f b o h2 fun z => h1 (List.mem_singleton.mpr z)
def SeasAt (A : Adr) (H : Hp) : List Addr → List Km449.Sea → Prop
  | [], [] => True
  | a :: as, s :: ss => SeaIn A H a s ∧ SeasAt A H as ss
  | _, _ => False
theorem SeasAt.imp {A : Adr} {H H' : Hp} (f : ∀ a s, SeaIn A H a s → SeaIn A H' a s) : ∀ {as : List Addr} {ss : List Km449.Sea}, SeasAt A H as ss → SeasAt A H' as ss
  | [], [], _ => trivial
  | _ :: _, _ :: _, h => ⟨f _ _ h.1, SeasAt.imp f h.2⟩
  | [], _ :: _, h => h.elim
  | _ :: _, [], h => h.elim
theorem SeasAt.sm {A : Adr} {H H' : Hp} (e : Sm H H') {as : List Addr} {ss : List Km449.Sea} (h : SeasAt A H as ss) : SeasAt A H' as ss := h.imp fun _ _ x => x.sm e
theorem SeasAt.take {A : Adr} {H : Hp} : ∀ (n : Nat) {as : List Addr} {ss : List Km449.Sea}, SeasAt A H as ss → SeasAt A H (as.take n) (ss.take n)
  | 0, _, _, _ => trivial
  | _ + 1, [], [], _ => trivial
  | n + 1, _ :: _, _ :: _, h => ⟨h.1, SeasAt.take n h.2⟩
  | _ + 1, [], _ :: _, h => h.elim
  | _ + 1, _ :: _, [], h => h.elim
theorem SeasAt.len {A : Adr} {H : Hp} : ∀ {as : List Addr} {ss : List Km449.Sea}, SeasAt A H as ss → as.length = ss.length
  | [], [], _ => rfl
  | _ :: _, _ :: _, h => congrArg (· + 1) (SeasAt.len h.2)
  | [], _ :: _, h => h.elim
  | _ :: _, [], h => h.elim
structure LogAt (A : Adr) (H : Hp) (lg : Addr) (d : Km449.Desk) : Prop where
  at_ : ∃ (dx an el lt : Addr) (es ls : List Addr), H lg = some (.ins A.CLog dx (lfv (.ref an) (.ref el) (.ref lt))) ∧ H el = some (.lst (es.map V.ref)) ∧ H lt = some (.lst (ls.map V.ref)) ∧ el ≠ lt ∧
    SeaIn A (hid [lg, el, lt] H) an d.now ∧ SeasAt A (hid [lg, el, lt] H) es.reverse d.past ∧ SeasAt A (hid [lg, el, lt] H) ls.reverse d.future
  few : d.past.length + d.future.length ≤ 20
theorem LogAt.get {A : Adr} {H : Hp} {lg : Addr} {d : Km449.Desk} (x : LogAt A H lg d) : ∃ (dx an el lt t pl : Addr) (as : List Addr), H lg = some (.ins A.CLog dx (lfv (.ref an) (.ref el) (.ref lt))) ∧ SeaAt A H an t pl as d.now := by
  obtain ⟨dx, an, el, lt, es, ls, h1, _, _, _, h3, _⟩ := x.at_
  obtain ⟨t, pl, as, S⟩ := h3.sm (.of hid_same)
  exact ⟨dx, an, el, lt, t, pl, as, h1, S⟩
theorem LogAt.sm {A : Adr} {H H' : Hp} {lg : Addr} {d : Km449.Desk} (x : LogAt A H lg d) (e : Sm H H') : LogAt A H' lg d := by
  obtain ⟨dx, an, el, lt, es, ls, h1, h2, h2', ne, h3, h4, h5⟩ := x.at_
  have sm : Sm (hid [lg, el, lt] H) (hid [lg, el, lt] H') := fun b o q => by
    obtain ⟨q1, q2⟩ := hid_some q
    rw [hid_out q1]
    exact e b o q2
  exact ⟨⟨dx, an, el, lt, es, ls, e.ins h1, e.lst h2, e.lst h2', ne, h3.sm sm, h4.sm sm, h5.sm sm⟩, x.few⟩
/-- what is no list and no instance is as it was -/
def Keeps (H H' : Hp) : Prop := ∀ b o, H b = some o → (∀ xs, o ≠ .lst xs) → (∀ C dx fs, o ≠ .ins C dx fs) → H' b = some o
theorem TabL.keeps {A : Adr} {H H' : Hp} (t : TabL A H) (f : Keeps H H') : TabL A H' := by
  rcases t with t | ⟨c, t1, t2⟩
  · exact .inl (f _ _ t (by intro _ q; cases q) (by intro _ _ _ q; cases q))
  · exact .inr ⟨c, f _ _ t1 (by intro _ q; cases q) (by intro _ _ _ q; cases q), f _ _ t2 (by intro _ q; cases q) (by intro _ _ _ q; cases q)⟩

section
variable {P : Program} {w : World} {K : PySem.W.Frag} {mg : Str → Option Value} {base : Heap} {A : Adr}
def sp_Log_init (A : Adr) : Sp := fun vs H Q _ => ∃ (p dx : Addr), vs = [.ref p] ∧ H p = some (.ins A.CLog dx []) ∧ ∀ el lt H', SameB p H H' → H' p = some (.ins A.CLog dx (lfv .non (.ref el) (.ref lt))) → Q .non H'
theorem ok_Log_init (T : Txt K mg A) : FnOk P w K mg base CX0 1 A.f_Log_init A.d_Log_init ["self"] (sp_Log_init A) := by
  refine T.Log_init.fn.ok sc_Log_init (fun vs H Q E h => ?_) (fun cdv Ar outer s H vs Q E hr h => ?_)
  · obtain ⟨p, dx, rfl, _⟩ := h
    rfl
  · obtain ⟨p, dx, rfl, hp, k⟩ := h
    refine ⟨_, (pss_cons (ps_fld (pv 0) pe_non rfl) (pss_cons (ps_fld (pv 0) (pe_lst pa_nil) rfl) (pss_one (ps_fld (pv 0) (pe_lst pa_nil) rfl)))), ?_⟩
    refine ⟨_, rfl, p, _, dx, _, rfl, hp, T.C_Log.cl, T.nLog_now, (by show 0 < 1000; decide), ?_⟩
    refine ⟨Nat.zero_le _, fun el ne => ?_⟩
    have nep : el ≠ p := fun z => by rw [z, upd_same] at ne; cases ne
    have neH : H el = none := by rw [upd_ne nep] at ne; exact ne
    refine ⟨_, rfl, p, _, dx, _, rfl, by rw [upd_ne nep.symm, upd_same], T.C_Log.cl, T.nLog_earlier, (by show 1 < 1000; decide), ?_⟩
    refine ⟨Nat.zero_le _, fun lt nl => ?_⟩
    have nlp : lt ≠ p := fun z => by rw [z, upd_same] at nl; cases nl
    have nle : lt ≠ el := fun z => by rw [z, upd_ne nep, upd_same] at nl; cases nl
    have nlH : H lt = none := by rw [upd_ne nlp, upd_ne nle, upd_ne nlp] at nl; exact nl
    refine ⟨_, rfl, p, _, dx, _, rfl, by rw [upd_ne nlp.symm, upd_same], T.C_Log.cl, T.nLog_later, (by show 2 < 1000; decide), ?_⟩
    refine k el lt _ (fun b o e hb => ?_) (by rw [upd_same]; rfl)
    rw [upd_ne hb, upd_ne (ne_of_none e nlH), upd_ne hb, upd_ne (ne_of_none e neH), upd_ne hb]
    exact e
def sp_Log_begin (A : Adr) : Sp := fun vs H Q _ => ∃ (lg dx a : Addr) (n e l : V) (s : Km449.Sea), vs = [.ref lg, .ref a] ∧ H lg = some (.ins A.CLog dx (lfv n e l)) ∧ SeaIn A H a s ∧
  ∀ H', SameB lg H H' → LogAt A H' lg ⟨s, [], []⟩ → Q .non H'
theorem ok_Log_begin (T : Txt K mg A) : FnOk P w K mg base CX0 1 A.f_Log_begin A.d_Log_begin ["self", "sea"] (sp_Log_begin A) := by
  refine T.Log_begin.fn.ok sc_Log_begin (fun vs H Q E h => ?_) (fun cdv Ar outer s H vs Q E hr h => ?_)
  · obtain ⟨lg, dx, a, n, e, l, s, rfl, _⟩ := h
    rfl
  · obtain ⟨lg, dx, a, n, e, l, s, rfl, hl, hs, k⟩ := h
    refine ⟨_, (pss_cons (ps_fld (pv 0) (pv 1) rfl) (pss_cons (ps_fld (pv 0) (pe_lst pa_nil) rfl) (pss_one (ps_fld (pv 0) (pe_lst pa_nil) rfl)))), ?_⟩
    refine ⟨_, rfl, _, rfl, lg, _, dx, _, rfl, hl, T.C_Log.cl, T.nLog_now, (by show 3 < 1000; decide), ?_⟩
    refine ⟨Nat.zero_le _, fun el ne => ?_⟩
    have nep : el ≠ lg := fun z => by rw [z, upd_same] at ne; cases ne
    have neH : H el = none := by rw [upd_ne nep] at ne; exact ne
    refine ⟨_, rfl, lg, _, dx, _, rfl, by rw [upd_ne nep.symm, upd_same], T.C_Log.cl, T.nLog_earlier, (by show 3 < 1000; decide), ?_⟩
    refine ⟨Nat.zero_le _, fun lt nl => ?_⟩
    have nlp : lt ≠ lg := fun z => by rw [z, upd_same] at nl; cases nl
    have nle : lt ≠ el := fun z => by rw [z, upd_ne nep, upd_same] at nl; cases nl
    have nlH : H lt = none := by rw [upd_ne nlp, upd_ne nle, upd_ne nlp] at nl; exact nl
    refine ⟨_, rfl, lg, _, dx, _, rfl, by rw [upd_ne nlp.symm, upd_same], T.C_Log.cl, T.nLog_later, (by show 3 < 1000; decide), ?_⟩
    refine (fun H' (h1 : SameB lg H H') (h2 : H' lg = some (.ins A.CLog dx (lfv (.ref a) (.ref el) (.ref lt)))) (h3 : H' el = some (.lst [])) (h4 : H' lt = some (.lst [])) => ?_ : ∀ H', _ → _ → _ → _ → Q .non H') _ (fun b o e hb => ?_) (by rw [upd_same]; rfl) ?_ ?_
    · refine k H' h1 ⟨⟨dx, a, el, lt, [], [], h2, h3, h4, nle.symm, (hs.hidL hl).sm (.of (hid_new (fun b o e hb => h1 b o e fun z => hb (List.mem_singleton.mpr z)) fun b hb => ?_)), trivial, trivial⟩, Nat.zero_le _⟩
      rcases List.mem_cons.mp hb with z | hb
      · exact .inl (List.mem_singleton.mpr z)
      · rcases List.mem_cons.mp hb with z | hb
        · rw [z]; exact .inr neH
        · rw [List.mem_singleton.mp hb]; exact .inr nlH
    · rw [upd_ne hb, upd_ne (ne_of_none e nlH), upd_ne hb, upd_ne (ne_of_none e neH), upd_ne hb]
      exact e
    · rw [upd_ne nep, upd_ne nle.symm, upd_ne nep, upd_same]
    · rw [upd_ne nlp, upd_same]
theorem take_rev {α : Type} (l : List α) (k : Nat) : (l.drop (l.length - k)).reverse = l.reverse.take k := by
  rw [List.reverse_drop]
  by_cases h : k ≤ l.length
  · congr 1
    omega
  · rw [List.take_of_length_le (by rw [List.length_reverse]; omega), List.take_of_length_le (by rw [List.length_reverse]; omega)]
def sp_Log_change_to (A : Adr) : Sp := fun vs H Q _ => ∃ (lg a : Addr) (d : Km449.Desk) (s : Km449.Sea), vs = [.ref lg, .ref a] ∧ LogAt A H lg d ∧ SeaIn A H a s ∧
  ∀ H', SameB lg H H' → LogAt A H' lg (d.become s) → Q .non H'
theorem ok_Log_change_to (T : Txt K mg A) : FnOk P w K mg base CX0 1 A.f_Log_change_to A.d_Log_change_to ["self", "sea"] (sp_Log_change_to A) := by
  refine T.Log_change_to.fn.ok sc_Log_change_to (fun vs H Q E h => ?_) (fun cdv Ar outer s H vs Q E hr h => ?_)
  · obtain ⟨lg, a, d, s, rfl, _⟩ := h
    rfl
  · obtain ⟨lg, a, d, s, rfl, ⟨⟨dx, an, el, lt, es, ls, hl, he, hlt, nelt, hnow, hpast, hfut⟩, few⟩, hs, k⟩ := h
    have elen : es.length = d.past.length := by have := hpast.len; rwa [List.length_reverse] at this
    refine ⟨_, (pss_cons (ps_set (i := 2) sc_Log_change_to.nd rfl (by first | exact Or.inl rfl | exact Or.inr rfl) (pe_op op_cat (pe_fld (pv 0) rfl) (pe_lst (pa_cons (pe_fld (pv 0) rfl) pa_nil)))) (pss_cons (ps_fld (pv 0) (pe_slice sl_list (pv 2) (po_some (pe_un un_neg (pe_cst (by rfl) T.c_CHANGES_KEPT))) po_none) rfl) (pss_cons (ps_fld (pv 0) (pv 1) rfl) (pss_one (ps_fld (pv 0) (pe_lst pa_nil) rfl))))), ?_⟩
    -- known = self.earlier + [self.now]
    refine ⟨_, rfl, lg, _, dx, _, _, rfl, hl, T.C_Log.cl, T.nLog_earlier, rfl, _, rfl, lg, _, dx, _, _, rfl, hl, T.C_Log.cl, T.nLog_now, rfl, (by show 1 ≤ sizeLine; decide), fun D1 n1 => ?_⟩
    have s1 : Same H (upd H D1 (.lst [.ref an])) := same_upd (Same.refl _) n1
    refine ⟨el, D1, _, _, rfl, rfl, s1 _ _ he, upd_same, ?_, fun D2 n2 => ?_⟩
    · rw [List.length_map]
      show es.length + 1 ≤ sizeLine
      exact Nat.le_of_lt (small1000 (by omega))
    have s2 := s1.trans (same_upd (o := .lst (es.map V.ref ++ [.ref an])) (Same.refl _) n2)
    -- self.earlier = known[-20:]
    refine ⟨_, rfl, _, rfl, _, rfl, D2, _, rfl, SqL.of upd_same, fun D3 n3 => ?_⟩
    have ecut : cutV (es.map V.ref ++ [.ref an]) (some (-20)) none = ((es ++ [an]).drop ((es ++ [an]).length - 20)).map V.ref := by
      have em : es.map V.ref ++ [V.ref an] = (es ++ [an]).map V.ref := by rw [List.map_append]; rfl
      rw [em]
      unfold cutV
      have e1 : HT.sIx ((es ++ [an]).map V.ref).length 0 (some (-20)) = (es ++ [an]).length - 20 := by
        rw [List.length_map]
        unfold HT.sIx
        dsimp only
        rw [if_pos (by decide)]
        omega
      rw [e1, HT.sIx_none, ← List.map_drop, List.take_of_length_le (by rw [List.length_map, List.length_map, List.length_drop]; omega)]
    have s3 := s2.trans (same_upd (o := .lst (cutV (es.map V.ref ++ [.ref an]) (some (-20)) none)) (Same.refl _) n3)
    have hl3 := s3 _ _ hl
    have n3H : H D3 = none := s2.free n3
    have n3l : D3 ≠ lg := fun z => by rw [z, hl] at n3H; cases n3H
    have hD3 : (upd (upd (upd H D1 (.lst [.ref an])) D2 (.lst (es.map V.ref ++ [.ref an]))) D3 (.lst (cutV (es.map V.ref ++ [.ref an]) (some (-20)) none))) D3 = some (.lst (((es ++ [an]).drop ((es ++ [an]).length - 20)).map V.ref)) := by rw [upd_same, ecut]
    generalize upd (upd (upd H D1 (.lst [.ref an])) D2 (.lst (es.map V.ref ++ [.ref an]))) D3 (.lst (cutV (es.map V.ref ++ [.ref an]) (some (-20)) none)) = H3 at s3 hl3 hD3
    refine ⟨_, rfl, lg, _, dx, _, rfl, hl3, T.C_Log.cl, T.nLog_earlier, (by show 3 < 1000; decide), ?_⟩
    -- self.now = sea
    refine ⟨_, rfl, _, rfl, lg, _, dx, _, rfl, upd_same, T.C_Log.cl, T.nLog_now, (by show 3 < 1000; decide), ?_⟩
    rw [upd_upd]
    -- self.later = []
    refine ⟨Nat.zero_le _, fun l2 nl => ?_⟩
    have nlp : l2 ≠ lg := fun z => by rw [z, upd_same] at nl; cases nl
    have nl3 : H3 l2 = none := by rw [upd_ne nlp] at nl; exact nl
    have nl2H : H l2 = none := s3.free nl3
    have nd3 : D3 ≠ l2 := fun z => by rw [← z, hD3] at nl3; cases nl3
    refine ⟨_, rfl, lg, _, dx, _, rfl, by rw [upd_ne nlp.symm, upd_same], T.C_Log.cl, T.nLog_later, (by show 3 < 1000; decide), ?_⟩
    refine (fun H' (h1 : SameB lg H H') (h2 : H' lg = some (.ins A.CLog dx (lfv (.ref a) (.ref D3) (.ref l2)))) (h3 : H' D3 = some (.lst (((es ++ [an]).drop ((es ++ [an]).length - 20)).map V.ref))) (h4 : H' l2 = some (.lst [])) => ?_ : ∀ H', _ → _ → _ → _ → Q .non H') _ (fun b o e hb => ?_) (by rw [upd_same]; rfl) ?_ ?_
    · have frs : ∀ S : List Addr, lg ∈ S → ∀ b ∈ [lg, D3, l2], b ∈ S ∨ H b = none := fun S hS b hb => by
        rcases List.mem_cons.mp hb with z | hb
        · rw [z]; exact .inl hS
        · rcases List.mem_cons.mp hb with z | hb
          · rw [z]; exact .inr n3H
          · rw [List.mem_singleton.mp hb]; exact .inr nl2H
      have smN : Same (hid [lg] H) (hid [lg, D3, l2] H') := hid_new (fun b o e hb => h1 b o e fun z => hb (List.mem_singleton.mpr z)) (frs _ (List.mem_singleton.mpr rfl))
      have smO : Same (hid [lg, el, lt] H) (hid [lg, D3, l2] H') := hid_new (fun b o e hb => h1 b o e fun z => hb (by rw [z]; exact List.mem_cons_self ..)) (frs _ (List.mem_cons_self ..))
      refine k H' h1 ⟨⟨dx, a, D3, l2, (es ++ [an]).drop ((es ++ [an]).length - 20), [], h2, h3, h4, nd3, (hs.hidL hl).sm (.of smN), ?_, trivial⟩, ?_⟩
      · rw [take_rev, List.reverse_append]
        show SeasAt A _ ((an :: es.reverse).take 20) ((d.now :: d.past).take 20)
        exact SeasAt.take 20 ⟨hnow.sm (.of smO), hpast.sm (.of smO)⟩
      · show ((d.now :: d.past).take 20).length + 0 ≤ 20
        rw [List.length_take]
        omega
    · rw [upd_ne hb, upd_ne (ne_of_none e nl2H), upd_ne hb]
      exact s3 b o e
    · rw [upd_ne n3l, upd_ne nd3, upd_ne n3l]
      exact hD3
    · rw [upd_ne nlp, upd_same]
/-- the last of a list of seas -/
theorem SeasAt.last {A : Adr} {H : Hp} {es : List Addr} {k : Km449.Sea} {r : List Km449.Sea} (h : SeasAt A H es.reverse (k :: r)) : ∃ (ka : Addr) (rs : List Addr), es = rs ++ [ka] ∧ SeaIn A H ka k ∧ SeasAt A H rs.reverse r := by
  cases hes : es.reverse with
  | nil => rw [hes] at h; exact h.elim
  | cons ka rs =>
    rw [hes] at h
    refine ⟨ka, rs.reverse, ?_, h.1, by rw [List.reverse_reverse]; exact h.2⟩
    rw [← List.reverse_reverse es, hes, List.reverse_cons]
theorem last_at (rs : List Addr) (ka : Addr) : ((rs ++ [ka]).map V.ref)[((rs ++ [ka]).map V.ref).length - 1]? = some (V.ref ka) := by
  rw [List.length_map, List.length_append, List.getElem?_map]
  show ((rs ++ [ka])[rs.length + 1 - 1]?).map V.ref = _
  rw [Nat.add_sub_cancel, List.getElem?_append_right (Nat.le_refl _), Nat.sub_self]
  rfl
theorem last_drop (rs : List Addr) (ka : Addr) : ((rs ++ [ka]).map V.ref).dropLast = rs.map V.ref := by
  rw [List.map_append]
  exact List.dropLast_concat
def sp_Log_take_back (A : Adr) : Sp := fun vs H Q _ => ∃ (lg : Addr) (d : Km449.Desk) (k : Km449.Sea) (r : List Km449.Sea), vs = [.ref lg] ∧ LogAt A H lg d ∧ d.past = k :: r ∧
  ∀ H', Keeps H H' → LogAt A H' lg ⟨k, r, d.now :: d.future⟩ → Q .non H'
theorem ok_Log_take_back (T : Txt K mg A) : FnOk P w K mg base CX0 1 A.f_Log_take_back A.d_Log_take_back ["self"] (sp_Log_take_back A) := by
  refine T.Log_take_back.fn.ok sc_Log_take_back (fun vs H Q E h => ?_) (fun cdv Ar outer s H vs Q E hr h => ?_)
  · obtain ⟨lg, d, k, r, rfl, _⟩ := h
    rfl
  · obtain ⟨lg, d, k0, r, rfl, ⟨⟨dx, an, el, lt, es, ls, hl, he, hlt, nelt, hnow, hpast, hfut⟩, few⟩, hp, k⟩ := h
    rw [hp] at hpast few
    obtain ⟨ka, rs, rfl, hka, hrs⟩ := hpast.last
    have llen : ls.length = d.future.length := by have := hfut.len; rwa [List.length_reverse] at this
    have nel : el ≠ lg := ne_of he hl (by intro q; cases q)
    have nlt : lt ≠ lg := ne_of hlt hl (by intro q; cases q)
    refine ⟨_, (pss_cons (ps_expr (pe_bm PySem.F.plainAttrs_list PySem.F.slot_list_append PySem.F.type_list_append mt_append (pe_fld (pv 0) rfl) (pa_cons (pe_fld (pv 0) rfl) pa_nil))) (pss_one (ps_fld (pv 0) (pe_bm0 PySem.F.plainAttrs_list PySem.F.slot_list_pop PySem.F.type_list_pop mt_pop (pe_fld (pv 0) rfl)) rfl))), ?_⟩
    -- self.later.append(self.now)
    refine ⟨_, rfl, lg, _, dx, _, _, rfl, hl, T.C_Log.cl, T.nLog_later, rfl, .inl ⟨rfl, _, SqL.of hlt⟩, _, rfl, lg, _, dx, _, _, rfl, hl, T.C_Log.cl, T.nLog_now, rfl, lt, _, _, rfl, rfl, hlt, ?_, ?_⟩
    · rw [List.length_map]
      exact small1000 (by rw [List.length_cons] at few; omega)
    -- self.now = self.earlier.pop()
    have hl1 : (upd H lt (.lst (ls.map V.ref ++ [.ref an]))) lg = some (.ins A.CLog dx (lfv (.ref an) (.ref el) (.ref lt))) := by rw [upd_ne nlt.symm]; exact hl
    have he1 : (upd H lt (.lst (ls.map V.ref ++ [.ref an]))) el = some (.lst ((rs ++ [ka]).map V.ref)) := by rw [upd_ne nelt]; exact he
    refine ⟨_, rfl, lg, _, dx, _, _, rfl, hl1, T.C_Log.cl, T.nLog_earlier, rfl, .inl ⟨rfl, _, SqL.of he1⟩, el, _, V.ref ka, rfl, rfl, he1, last_at rs ka, ?_⟩
    refine ⟨_, rfl, lg, _, dx, _, rfl, by rw [upd_ne nel.symm]; exact hl1, T.C_Log.cl, T.nLog_now, (by show 3 < 1000; decide), ?_⟩
    rw [last_drop]
    refine (fun H' (h0 : ∀ b, b ∉ [lg, el, lt] → H' b = H b) (h2 : H' lg = some (.ins A.CLog dx (lfv (.ref ka) (.ref el) (.ref lt)))) (h3 : H' el = some (.lst (rs.map V.ref))) (h4 : H' lt = some (.lst ((ls ++ [an]).map V.ref))) => ?_ : ∀ H', _ → _ → _ → _ → Q .non H') _ (fun b hb => ?_) (by rw [upd_same]; rfl) ?_ ?_
    · have sm : Same (hid [lg, el, lt] H) (hid [lg, el, lt] H') := hid_new (fun b o e hb => by rw [h0 b hb]; exact e) fun b hb => .inl hb
      refine k H' (fun b o e n1 n2 => ?_) ⟨⟨dx, ka, el, lt, rs, ls ++ [an], h2, h3, h4, nelt, hka.sm (.of sm), hrs.sm (.of sm), ?_⟩, ?_⟩
      · rw [h0 b fun hb => ?_]
        · exact e
        · rcases List.mem_cons.mp hb with z | hb
          · rw [z, hl] at e; cases e; exact n2 _ _ _ rfl
          · rcases List.mem_cons.mp hb with z | hb
            · rw [z, he] at e; cases e; exact n1 _ rfl
            · rw [List.mem_singleton.mp hb, hlt] at e; cases e; exact n1 _ rfl
      · rw [List.reverse_append]
        exact ⟨hnow.sm (.of sm), hfut.sm (.of sm)⟩
      · show r.length + (d.future.length + 1) ≤ 20
        rw [List.length_cons] at few
        omega
    · rw [upd_ne (fun z => hb (by rw [z]; exact List.mem_cons_self ..)), upd_ne (fun z => hb (by rw [z]; simp)), upd_ne (fun z => hb (by rw [z]; simp))]
    · rw [upd_ne nel, upd_same]
    · rw [upd_ne nlt, upd_ne nelt.symm, upd_same, List.map_append]
      rfl
def sp_Log_do_again (A : Adr) : Sp := fun vs H Q _ => ∃ (lg : Addr) (d : Km449.Desk) (k : Km449.Sea) (r : List Km449.Sea), vs = [.ref lg] ∧ LogAt A H lg d ∧ d.future = k :: r ∧
  ∀ H', Keeps H H' → LogAt A H' lg ⟨k, (d.now :: d.past).take 20, r⟩ → Q .non H'
theorem ok_Log_do_again (T : Txt K mg A) : FnOk P w K mg base CX0 1 A.f_Log_do_again A.d_Log_do_again ["self"] (sp_Log_do_again A) := by
  refine T.Log_do_again.fn.ok sc_Log_do_again (fun vs H Q E h => ?_) (fun cdv Ar outer s H vs Q E hr h => ?_)
  · obtain ⟨lg, d, k, r, rfl, _⟩ := h
    rfl
  · obtain ⟨lg, d, k0, r, rfl, ⟨⟨dx, an, el, lt, es, ls, hl, he, hlt, nelt, hnow, hpast, hfut⟩, few⟩, hp, k⟩ := h
    rw [hp] at hfut few
    obtain ⟨ka, rs, rfl, hka, hrs⟩ := hfut.last
    have llen : es.length = d.past.length := by have := hpast.len; rwa [List.length_reverse] at this
    have nel : el ≠ lg := ne_of he hl (by intro q; cases q)
    have nlt : lt ≠ lg := ne_of hlt hl (by intro q; cases q)
    rw [List.length_cons] at few
    rw [List.take_of_length_le (by rw [List.length_cons]; omega)] at k
    refine ⟨_, (pss_cons (ps_expr (pe_bm PySem.F.plainAttrs_list PySem.F.slot_list_append PySem.F.type_list_append mt_append (pe_fld (pv 0) rfl) (pa_cons (pe_fld (pv 0) rfl) pa_nil))) (pss_one (ps_fld (pv 0) (pe_bm0 PySem.F.plainAttrs_list PySem.F.slot_list_pop PySem.F.type_list_pop mt_pop (pe_fld (pv 0) rfl)) rfl))), ?_⟩
    -- self.earlier.append(self.now)
    refine ⟨_, rfl, lg, _, dx, _, _, rfl, hl, T.C_Log.cl, T.nLog_earlier, rfl, .inl ⟨rfl, _, SqL.of he⟩, _, rfl, lg, _, dx, _, _, rfl, hl, T.C_Log.cl, T.nLog_now, rfl, el, _, _, rfl, rfl, he, ?_, ?_⟩
    · rw [List.length_map]
      exact small1000 (by omega)
    -- self.now = self.later.pop()
    have hl1 : (upd H el (.lst (es.map V.ref ++ [.ref an]))) lg = some (.ins A.CLog dx (lfv (.ref an) (.ref el) (.ref lt))) := by rw [upd_ne nel.symm]; exact hl
    have he1 : (upd H el (.lst (es.map V.ref ++ [.ref an]))) lt = some (.lst ((rs ++ [ka]).map V.ref)) := by rw [upd_ne nelt.symm]; exact hlt
    refine ⟨_, rfl, lg, _, dx, _, _, rfl, hl1, T.C_Log.cl, T.nLog_later, rfl, .inl ⟨rfl, _, SqL.of he1⟩, lt, _, V.ref ka, rfl, rfl, he1, last_at rs ka, ?_⟩
    refine ⟨_, rfl, lg, _, dx, _, rfl, by rw [upd_ne nlt.symm]; exact hl1, T.C_Log.cl, T.nLog_now, (by show 3 < 1000; decide), ?_⟩
    rw [last_drop]
    refine (fun H' (h0 : ∀ b, b ∉ [lg, el, lt] → H' b = H b) (h2 : H' lg = some (.ins A.CLog dx (lfv (.ref ka) (.ref el) (.ref lt)))) (h3 : H' lt = some (.lst (rs.map V.ref))) (h4 : H' el = some (.lst ((es ++ [an]).map V.ref))) => ?_ : ∀ H', _ → _ → _ → _ → Q .non H') _ (fun b hb => ?_) (by rw [upd_same]; rfl) ?_ ?_
    · have sm : Same (hid [lg, el, lt] H) (hid [lg, el, lt] H') := hid_new (fun b o e hb => by rw [h0 b hb]; exact e) fun b hb => .inl hb
      refine k H' (fun b o e n1 n2 => ?_) ⟨⟨dx, ka, el, lt, es ++ [an], rs, h2, h4, h3, nelt, hka.sm (.of sm), ?_, hrs.sm (.of sm)⟩, ?_⟩
      · rw [h0 b fun hb => ?_]
        · exact e
        · rcases List.mem_cons.mp hb with z | hb
          · rw [z, hl] at e; cases e; exact n2 _ _ _ rfl
          · rcases List.mem_cons.mp hb with z | hb
            · rw [z, he] at e; cases e; exact n1 _ rfl
            · rw [List.mem_singleton.mp hb, hlt] at e; cases e; exact n1 _ rfl
      · rw [List.reverse_append]
        exact ⟨hnow.sm (.of sm), hpast.sm (.of sm)⟩
      · show (d.past.length + 1) + r.length ≤ 20
        omega
    · rw [upd_ne (fun z => hb (by rw [z]; exact List.mem_cons_self ..)), upd_ne (fun z => hb (by rw [z]; simp)), upd_ne (fun z => hb (by rw [z]; simp))]
    · rw [upd_ne nlt, upd_same]
    · rw [upd_ne nel, upd_ne nelt, upd_same, List.map_append]
      rfl
end
end Hh
set_option Elab.async false
set_option linter.all false
set_option maxRecDepth 100000
set_option maxHeartbeats 2000000
namespace Hh
open PySem PySem.Spec PyProof.Rows L2

structure DeskOk (d : Km449.Desk) : Prop where
  now : SeaOk d.now
  past : ∀ s ∈ d.past, SeaOk s
  future : ∀ s ∈ d.future, SeaOk s
theorem DeskOk.become {d : Km449.Desk} {s : Km449.Sea} (x : DeskOk d) (h : SeaOk s) : DeskOk (d.become s) := ⟨h, fun t ht => by
  have ht : t ∈ (d.now :: d.past).take 20 := ht
  rcases List.mem_cons.mp (List.mem_of_mem_take ht) with rfl | z
  · exact x.now
  · exact x.past t z, fun t ht => by simp [Km449.Desk.become] at ht⟩
structure DeskAt (A : Adr) (H : Hp) (lg : Addr) (d : Km449.Desk) : Prop where
  log : LogAt A H lg d
  ok : DeskOk d
  tab : TabL A H
def RetP (A : Adr) (H : Hp) (lg : Addr) (Q : VK) (y : Km449.Desk × Km449.Ans) : Prop := ∀ D H', SmB lg H H' → DeskAt A H' lg y.1 → H D = none → H' D = some (.lst ((Km449Neutral.told y.2).map V.int)) → Q (.ref D) H'
/-- a refusal, or an answer of a call that changes nothing -/
theorem RetP.stay {A : Adr} {H H1 : Hp} {lg : Addr} {Q : VK} {d : Km449.Desk} {a : Km449.Ans} (k : RetP A H lg Q (d, a)) (x : DeskAt A H lg d) (sm : Sm H H1) (hT : TabL A H1) {xs : List V} (e : xs = (Km449Neutral.told a).map V.int) {D : Addr} (nD : H1 D = none) : Q (.ref D) (upd H1 D (.lst xs)) := by
  have sm2 : Sm H (upd H1 D (.lst xs)) := sm.upd (sm.free nD)
  exact k D _ (.of sm2) ⟨x.log.sm sm2, x.ok, hT.upd (xs := []) (.inl nD)⟩ (sm.free nD) (by rw [upd_same, e])
/-- an answer behind a change -/
theorem RetP.done {A : Adr} {H H3 : Hp} {lg : Addr} {Q : VK} {d' : Km449.Desk} {a : Km449.Ans} (k : RetP A H lg Q (d', a)) (f : SmB lg H H3) (fr : ∀ D, H3 D = none → H D = none) (x : DeskAt A H3 lg d') {xs : List V} (e : xs = (Km449Neutral.told a).map V.int) {D : Addr} (nD : H3 D = none) : Q (.ref D) (upd H3 D (.lst xs)) := by
  have sm2 : Sm H3 (upd H3 D (.lst xs)) := (Sm.refl _).upd nD
  exact k D _ (f.trans (.of sm2)) ⟨x.log.sm sm2, x.ok, x.tab.upd (xs := []) (.inl nD)⟩ (fr D nD) (by rw [upd_same, e])
/-- what was fresh and is changed leaves the rest as it was -/
theorem same_mut {H H1 H2 : Hp} {a : Addr} {as : List Addr} (sm : Same H H1) (na : H a = none) (nas : ∀ b ∈ as, H b = none) (fr : ∀ b o, H1 b = some o → b ≠ a → b ∉ as → H2 b = some o) : Same H H2 := fun b o e =>
  fr b o (sm b o e) (ne_of_none e na) fun z => by
    have := nas b z
    rw [e] at this
    cases this
/-- a new sea goes into the log -/
theorem desk_put {A : Adr} {H H2 H3 : Hp} {lg C dx : Addr} {fs : List (Str × V)} {d : Km449.Desk} {s : Km449.Sea} (x : DeskAt A H lg d) (hl : H lg = some (.ins C dx fs)) (sm : Same H H2) (f : SameB lg H2 H3) (l : LogAt A H3 lg (d.become s)) (h : SeaOk s) :
    SmB lg H H3 ∧ (∀ D, H3 D = none → H D = none) ∧ DeskAt A H3 lg (d.become s) := by
  obtain ⟨dx', an, el, lt, t', pl', as', h1, _⟩ := l.get
  refine ⟨(SmB.of (.of sm)).trans f.smB, fun D nD => ?_, ⟨l, x.ok.become h, (x.tab.same sm).sameB (sm _ _ hl) f⟩⟩
  cases q : H D with
  | none => rfl
  | some o =>
    by_cases hD : D = lg
    · rw [hD, h1] at nD; cases nD
    · rw [f D o (sm D o q) hD] at nD; cases nD

theorem SeaOk.after {s : Km449.Sea} (h : SeaOk s) (n : Nat) : SeaOk (s.after n) := by
  refine ⟨h.tab, h.wat, by show (s.persons.map _).length ≤ 9; rw [List.length_map]; exact h.few, fun x hx => ?_, fun x hx => ?_⟩
  · obtain ⟨y, hy, rfl⟩ := List.mem_map.mp (show x ∈ s.persons.map _ from hx)
    have := h.clo y hy
    unfold Km449.Person.after
    split
    · split <;> exact this
    · exact this
  · obtain ⟨y, hy, rfl⟩ := List.mem_map.mp (show x ∈ s.persons.map _ from hx)
    have := h.how y hy
    unfold Km449.Person.after
    split
    · split
      · exact Nat.le_refl _
      · exact this
    · exact this
theorem SeaOk.set {s : Km449.Sea} (h : SeaOk s) (p : Nat) {x : Km449.Person} (h1 : x.clothes ≤ 3) (h2 : x.how ≤ 2) : SeaOk (s.set p x) := by
  refine ⟨h.tab, h.wat, by show (s.persons.set p x).length ≤ 9; rw [List.length_set]; exact h.few, fun y hy => ?_, fun y hy => ?_⟩
  · rcases List.mem_or_eq_of_mem_set (show y ∈ s.persons.set p x from hy) with z | z
    · exact h.clo y z
    · rw [z]; exact h1
  · rcases List.mem_or_eq_of_mem_set (show y ∈ s.persons.set p x from hy) with z | z
    · exact h.how y z
    · rw [z]; exact h2
theorem SeaOk.warm {s : Km449.Sea} (h : SeaOk s) {w : Nat} (hw : w ≤ 4) : SeaOk (s.warm w) := by
  refine ⟨h.tab, hw, by show (s.persons.map _).length ≤ 9; rw [List.length_map]; exact h.few, fun x hx => ?_, fun x hx => ?_⟩
  · obtain ⟨y, hy, rfl⟩ := List.mem_map.mp (show x ∈ s.persons.map _ from hx)
    have := h.clo y hy
    split <;> exact this
  · obtain ⟨y, hy, rfl⟩ := List.mem_map.mp (show x ∈ s.persons.map _ from hx)
    have := h.how y hy
    split <;> exact this
theorem SeaOk.takeUp {s : Km449.Sea} (h : SeaOk s) {p : Nat} {x : Km449.Person} (hx : s.persons[p]? = some x) : SeaOk (s.takeUp p) := by
  unfold Km449.Sea.takeUp
  rw [person_at hx]
  dsimp only
  split
  · exact (h.after _).set p (h.clo x (List.mem_of_getElem? hx)) (by show (1 : Nat) ≤ 2; decide)
  · exact h.after _
theorem waits_len (s : Km449.Sea) : s.waits.length = (s.persons.filter fun x => x.how == 0).length := fares_count s 0
theorem lost_waits : ∀ (l : List Km449.Person) (n : Nat), (l.filter fun x => x.how == 0).length - ((l.map fun x => x.after n).filter fun x => x.how == 0).length = lostN l n ∧ ((l.map fun x => x.after n).filter fun x => x.how == 0).length + lostN l n = (l.filter fun x => x.how == 0).length
  | [], n => ⟨rfl, rfl⟩
  | x :: l, n => by
    obtain ⟨_, ih⟩ := lost_waits l n
    have key : (((x :: l).map fun x => x.after n).filter fun x => x.how == 0).length + lostN (x :: l) n = ((x :: l).filter fun x => x.how == 0).length := by
      unfold lostN at *
      rw [List.map_cons, List.filter_cons, List.filter_cons, List.filter_cons]
      by_cases h0 : x.how = 0
      · by_cases hl : x.left < n
        · have e1 : isLost n x = true := by unfold isLost; rw [h0]; simp [hl]
          have e2 : (x.after n).how = 2 := by rw [after_lost h0 hl]
          rw [if_neg (by rw [e2]; decide), if_pos e1, if_pos (by rw [h0]; rfl), List.length_cons, List.length_cons]
          omega
        · have e1 : ¬ isLost n x = true := by unfold isLost; simp [hl]
          have e2 : (x.after n).how = 0 := by rw [after_left h0 hl]; exact h0
          rw [if_pos (by rw [e2]; rfl), if_neg e1, if_pos (by rw [h0]; rfl), List.length_cons, List.length_cons]
          omega
      · have e1 : ¬ isLost n x = true := by unfold isLost; simp [h0]
        have e2 : x.after n = x := by unfold Km449.Person.after; rw [if_neg h0]
        rw [e2, if_neg (by simpa using h0), if_neg e1, if_neg (by simpa using h0)]
        exact ih
    exact ⟨by omega, key⟩
theorem after_waits (s : Km449.Sea) (n : Nat) : s.waits.length - (s.after n).waits.length = lostN s.persons n := by
  rw [waits_len, waits_len]
  exact (lost_waits s.persons n).1
end Hh
set_option Elab.async false
set_option linter.all false
set_option maxRecDepth 100000
set_option maxHeartbeats 2000000
namespace Hh
open PySem PySem.Spec PyProof.Rows L2

theorem act_water (d : Km449.Desk) (w : Nat) : Km449.act d (.water w) = if 4 < w then (d, Km449.only (-22)) else if w = d.now.water then (d, Km449.only (-17)) else (d.become (d.now.warm w), Km449.only ((d.now.water : Nat) : Int)) := rfl
theorem act_minutes (d : Km449.Desk) (n : Nat) : Km449.act d (.minutes n) = if n = 0 ∨ 1440 < n then (d, Km449.only (-22)) else if Km449.LATEST < d.now.time + n then (d, Km449.only (-75)) else (d.become (d.now.after n), ⟨(((d.now.after n).time : Nat) : Int), [d.now.waits.length - (d.now.after n).waits.length]⟩) := rfl
theorem act_take (d : Km449.Desk) (p : Nat) : Km449.act d (.take p) = if d.now.persons.length ≤ p then (d, Km449.only (-2)) else if (d.now.person p).how ≠ 0 then (d, Km449.only (-16)) else if Km449.LATEST < d.now.time + (d.now.person p).takes then (d, Km449.only (-75)) else
    (d.become (d.now.takeUp p), ⟨((((d.now.takeUp p).person p).how : Nat) : Int), [(d.now.takeUp p).time, d.now.waits.length - (d.now.takeUp p).waits.length - 1]⟩) := rfl
theorem act_takeR (d : Km449.Desk) (p : Nat) : Km449.act d (.take p) = match refW d.now p with
    | some i => (d, Km449.only i)
    | none => if Km449.LATEST < d.now.time + (d.now.person p).takes then (d, Km449.only (-75)) else
      (d.become (d.now.takeUp p), ⟨((((d.now.takeUp p).person p).how : Nat) : Int), [(d.now.takeUp p).time, d.now.waits.length - (d.now.takeUp p).waits.length - 1]⟩) := by
  rw [act_take]
  unfold refW
  by_cases h1 : d.now.persons.length ≤ p
  · rw [if_pos h1, if_pos h1]
  · rw [if_neg h1, if_neg h1]
    by_cases h2 : (d.now.person p).how ≠ 0
    · rw [if_pos h2, if_pos h2]
    · rw [if_neg h2, if_neg h2]
theorem set_waits {s : Km449.Sea} {p : Nat} {x y : Km449.Person} (hx : s.persons[p]? = some x) (h1 : x.how = 0) (h2 : ¬ y.how = 0) : (s.set p y).waits.length + 1 = s.waits.length := by
  rw [waits_len, waits_len]
  show ((s.persons.set p y).filter fun x => x.how == 0).length + 1 = _
  have key : ∀ (l : List Km449.Person) (p : Nat), l[p]? = some x → ((l.set p y).filter fun x => x.how == 0).length + 1 = (l.filter fun x => x.how == 0).length := fun l => by
    induction l with
    | nil => intro p h; simp at h
    | cons z l ih =>
      intro p h
      cases p with
      | zero =>
        have e : z = x := Option.some.inj h
        subst e
        show ((y :: l).filter _).length + 1 = _
        rw [List.filter_cons, List.filter_cons, if_neg (by simpa using h2), if_pos (by rw [h1]; rfl), List.length_cons]
      | succ p =>
        have := ih p h
        show ((z :: l.set p y).filter _).length + 1 = _
        rw [List.filter_cons, List.filter_cons]
        split
        · rw [List.length_cons, List.length_cons, this]
        · exact this
  exact key _ _ hx

section
variable {P : Program} {w : World} {K : PySem.W.Frag} {mg : Str → Option Value} {base : Heap} {A : Adr}
def sp_hh_water (A : Adr) : Sp := fun vs H Q _ => ∃ (lg : Addr) (d : Km449.Desk) (w : Nat), vs = [.ref lg, .int w] ∧ DeskAt A H lg d ∧ RetP A H lg Q (Km449.act d (.water w))
theorem ok_hh_water (T : Txt K mg A) : FnOk P w K mg base CX0 5 A.f_hh_water A.d_hh_water ["log", "w"] (sp_hh_water A) := by
  refine T.hh_water.fn.ok sc_hh_water (fun vs H Q E h => ?_) (fun cdv Ar outer s H vs Q E hr h => ?_)
  · obtain ⟨lg, d, w, rfl, _⟩ := h
    rfl
  · obtain ⟨lg, d, w, rfl, X, k⟩ := h
    obtain ⟨dx, an, el, lt, t, pl, as, hl, S⟩ := X.log.get
    obtain ⟨da, ha⟩ := S.sea
    refine ⟨_, (pss_cons (ps_set (i := 2) sc_hh_water.nd rfl (by first | exact Or.inl rfl | exact Or.inr rfl) (pe_fld (pe_fld (pv 0) rfl) rfl)) (pss_cons (ps_if (pt_cmpR op_gt (pv 1) (pe_cst (by rfl) T.c_WARMEST) (nomark _)) (pss_one (ps_ret (pe_lst (pa_cons (pe_cst (by rfl) T.c_NOT_ALLOWED) pa_nil)))) pss_nil) (pss_cons (ps_if (pt_cmpR op_eq (pv 1) (pv 2) (nomark _)) (pss_one (ps_ret (pe_lst (pa_cons (pe_cst (by rfl) T.c_ALREADY_SO) pa_nil)))) pss_nil) (pss_cons (ps_set (i := 3) sc_hh_water.nd rfl (by first | exact Or.inl rfl | exact Or.inr rfl) (pe_meth0 (pe_fld (pv 0) rfl) T.C_Sea.cl T.Sea_duplicate.me (ok_Sea_duplicate T) (hr.mono (by decide)) T.Sea_duplicate.bd .nil pass0)) (pss_cons (ps_expr (pe_call (ok_turn_water T) (hr.mono (by decide)) (by rfl) T.turn_water.mg T.turn_water.fn.kp T.turn_water.bd .nil pass0 (pa_cons (pv 3) (pa_cons (pv 1) pa_nil)))) (pss_cons (ps_expr (pe_meth (pv 0) T.C_Log.cl T.Log_change_to.me (ok_Log_change_to T) (hr.mono (by decide)) T.Log_change_to.bd .nil pass0 (pa_cons (pv 3) pa_nil))) (pss_one (ps_ret (pe_lst (pa_cons (pv 2) pa_nil)))))))))), ?_⟩
    refine ⟨_, rfl, lg, _, dx, _, _, rfl, hl, T.C_Log.cl, T.nLog_now, rfl, an, _, da, _, _, rfl, ha, T.C_Sea.cl, T.nSea_water, rfl, ?_⟩
    refine ⟨_, rfl, _, _, rfl, rfl, _, rfl, ?_⟩
    refine ite2 (fun h1 => ?_) (fun h1 => ?_)
    · have h1 : 4 < w := by have := of_decide_eq_true h1; omega
      rw [act_water, if_pos h1] at k
      exact ⟨(by show 1 ≤ sizeLine; decide), fun D nD => k.stay X (Sm.refl _) X.tab rfl nD⟩
    · have h1 : ¬ 4 < w := fun z => h1 (decide_eq_true (by omega))
      rw [act_water, if_neg h1] at k
      refine ⟨_, rfl, _, rfl, rfl, _, rfl, ?_⟩
      have e0 : decide (V.int (w : Int) = V.int (d.now.water : Int)) = decide (w = d.now.water) := dec_nat
      show if decide (V.int (w : Int) = V.int (d.now.water : Int)) = true then _ else _
      rw [e0]
      refine ite2 (fun h2 => ?_) (fun h2 => ?_)
      · have h2 := of_decide_eq_true h2
        rw [if_pos h2] at k
        exact ⟨(by show 1 ≤ sizeLine; decide), fun D nD => k.stay X (Sm.refl _) X.tab rfl nD⟩
      · have h2 : ¬ w = d.now.water := fun z => h2 (decide_eq_true z)
        rw [if_neg h2] at k
        refine ⟨_, rfl, lg, _, dx, _, _, rfl, hl, T.C_Log.cl, T.nLog_now, rfl, an, da, _, rfl, ha, rfl, an, t, pl, as, d.now, rfl, S, X.ok.now.few, fun a' pl' as' H1 sm1 na npl nas S1 => ?_⟩
        refine ⟨_, rfl, _, rfl, a', t, pl', as', d.now, w, rfl, S1, X.ok.now, by omega, fun H2 S2 fr => ?_⟩
        have sm2 : Same H H2 := same_mut sm1 na nas fr
        have hl2 := sm2 _ _ hl
        refine ⟨_, rfl, lg, dx, _, rfl, hl2, rfl, _, rfl, lg, a', d, _, rfl, X.log.sm (.of sm2), ⟨t, pl', as', S2⟩, fun H3 f l => ?_⟩
        obtain ⟨f3, fr3, X3⟩ := desk_put X hl sm2 f l (X.ok.now.warm (by omega))
        exact ⟨_, rfl, (by show 1 ≤ sizeLine; decide), fun D nD => k.done f3 fr3 X3 rfl nD⟩
def sp_hh_minutes (A : Adr) : Sp := fun vs H Q _ => ∃ (lg : Addr) (d : Km449.Desk) (n : Nat), vs = [.ref lg, .int n] ∧ DeskAt A H lg d ∧ RetP A H lg Q (Km449.act d (.minutes n))
theorem ok_hh_minutes (T : Txt K mg A) : FnOk P w K mg base CX0 5 A.f_hh_minutes A.d_hh_minutes ["log", "n"] (sp_hh_minutes A) := by
  refine T.hh_minutes.fn.ok sc_hh_minutes (fun vs H Q E h => ?_) (fun cdv Ar outer s H vs Q E hr h => ?_)
  · obtain ⟨lg, d, n, rfl, _⟩ := h
    rfl
  · obtain ⟨lg, d, n, rfl, X, k⟩ := h
    obtain ⟨dx, an, el, lt, t, pl, as, hl, S⟩ := X.log.get
    obtain ⟨da, ha⟩ := S.sea
    refine ⟨_, (pss_cons (ps_if (PW.pt (pw_or (pt_cmpR op_lt (pv 1) pe_int (nomark _)) (pw_or1 (pt_cmpR op_gt (pv 1) (pe_cst (by rfl) T.c_PASSING_MOST) (nomark _))))) (pss_one (ps_ret (pe_lst (pa_cons (pe_cst (by rfl) T.c_NOT_ALLOWED) pa_nil)))) pss_nil) (pss_cons (ps_if (pt_cmpR op_gt (pe_op op_add (pe_fld (pe_fld (pv 0) rfl) rfl) (pv 1)) (pe_cst (by rfl) T.c_LAST_MINUTE) (nomark _)) (pss_one (ps_ret (pe_lst (pa_cons (pe_cst (by rfl) T.c_TOO_LATE) pa_nil)))) pss_nil) (pss_cons (ps_set (i := 2) sc_hh_minutes.nd rfl (by first | exact Or.inl rfl | exact Or.inr rfl) (pe_meth0 (pe_fld (pv 0) rfl) T.C_Sea.cl T.Sea_duplicate.me (ok_Sea_duplicate T) (hr.mono (by decide)) T.Sea_duplicate.bd .nil pass0)) (pss_cons (ps_set (i := 3) sc_hh_minutes.nd rfl (by first | exact Or.inl rfl | exact Or.inr rfl) (pe_call (ok_pass_minutes T) (hr.mono (by decide)) (by rfl) T.pass_minutes.mg T.pass_minutes.fn.kp T.pass_minutes.bd .nil pass0 (pa_cons (pv 2) (pa_cons (pv 1) pa_nil)))) (pss_cons (ps_expr (pe_meth (pv 0) T.C_Log.cl T.Log_change_to.me (ok_Log_change_to T) (hr.mono (by decide)) T.Log_change_to.bd .nil pass0 (pa_cons (pv 2) pa_nil))) (pss_one (ps_ret (pe_lst (pa_cons (pe_fld (pv 2) rfl) (pa_cons (pv 3) pa_nil)))))))))), ?_⟩
    have bad : (n = 0 ∨ 1440 < n) → ∃ xs : List V, xs.length ≤ sizeLine ∧ xs = [V.int (-22)] ∧ ∀ D, H D = none → Q (.ref D) (upd H D (.lst xs)) := fun h1 => by
      rw [act_minutes, if_pos h1] at k
      exact ⟨_, (by show 1 ≤ sizeLine; decide), rfl, fun D nD => k.stay X (Sm.refl _) X.tab rfl nD⟩
    refine ⟨_, rfl, _, _, rfl, rfl, _, rfl, ?_⟩
    refine ite2 (fun h1 => ?_) (fun h1 => ?_)
    · obtain ⟨xs, b1, rfl, b3⟩ := bad (.inl (by have := of_decide_eq_true h1; omega))
      exact ⟨b1, b3⟩
    · have h1 : ¬ n = 0 := fun z => h1 (decide_eq_true (by omega))
      refine ⟨_, rfl, _, _, rfl, rfl, _, rfl, ?_⟩
      refine ite2 (fun h2 => ?_) (fun h2 => ?_)
      · obtain ⟨xs, b1, rfl, b3⟩ := bad (.inr (by have := of_decide_eq_true h2; omega))
        exact ⟨b1, b3⟩
      · have h2 : ¬ 1440 < n := fun z => h2 (decide_eq_true (by omega))
        rw [act_minutes, if_neg (by omega)] at k
        refine ⟨_, rfl, lg, _, dx, _, _, rfl, hl, T.C_Log.cl, T.nLog_now, rfl, an, _, da, _, _, rfl, ha, T.C_Sea.cl, T.nSea_minute, rfl, _, rfl, _, _, rfl, rfl, _, _, rfl, rfl, _, rfl, ?_⟩
        refine ite2 (fun h3 => ?_) (fun h3 => ?_)
        · have h3 : 100000 < d.now.time + n := by have := of_decide_eq_true h3; omega
          rw [if_pos (show Km449.LATEST < d.now.time + n from h3)] at k
          exact ⟨(by show 1 ≤ sizeLine; decide), fun D nD => k.stay X (Sm.refl _) X.tab rfl nD⟩
        · have h3 : ¬ 100000 < d.now.time + n := fun z => h3 (decide_eq_true (by omega))
          rw [if_neg (show ¬ Km449.LATEST < d.now.time + n from h3)] at k
          refine ⟨_, rfl, lg, _, dx, _, _, rfl, hl, T.C_Log.cl, T.nLog_now, rfl, an, da, _, rfl, ha, rfl, an, t, pl, as, d.now, rfl, S, X.ok.now.few, fun a' pl' as' H1 sm1 na npl nas S1 => ?_⟩
          refine ⟨_, rfl, _, rfl, a', t, pl', as', d.now, n, rfl, S1, fun H2 S2 fr => ?_⟩
          have sm2 : Same H H2 := same_mut sm1 na nas fr
          have hl2 := sm2 _ _ hl
          refine ⟨_, rfl, lg, dx, _, rfl, hl2, rfl, _, rfl, lg, a', d, _, rfl, X.log.sm (.of sm2), ⟨t, pl', as', S2⟩, fun H3 f l => ?_⟩
          obtain ⟨f3, fr3, X3⟩ := desk_put X hl sm2 f l (X.ok.now.after n)
          obtain ⟨da2, ha2⟩ := S2.sea
          have ha3 := f _ _ ha2 (ne_of ha2 hl2 sl_ne)
          refine ⟨_, rfl, a', _, da2, _, _, rfl, ha3, T.C_Sea.cl, T.nSea_minute, rfl, _, rfl, (by show 2 ≤ sizeLine; decide), fun D nD => k.done f3 fr3 X3 ?_ nD⟩
          rw [after_waits]
          rfl
def sp_hh_take (A : Adr) : Sp := fun vs H Q _ => ∃ (lg : Addr) (d : Km449.Desk) (p : Nat), vs = [.ref lg, .int p] ∧ DeskAt A H lg d ∧ RetP A H lg Q (Km449.act d (.take p))
theorem take_facts {s : Km449.Sea} {p : Nat} {x : Km449.Person} (hx : s.persons[p]? = some x) (h0 : x.how = 0) : ∃ y, (s.takeUp p).persons[p]? = some y ∧ (s.takeUp p).time = s.time + x.takes ∧ ((s.waits.length - (s.takeUp p).waits.length - 1 : Nat) : Int) = othersN s p := by
  have ep := person_at hx
  have hlw := (lost_waits s.persons x.takes).2
  have ew : (s.after x.takes).waits.length + lostN s.persons x.takes = s.waits.length := by
    rw [waits_len, waits_len]
    exact hlw
  have hlt : p < s.persons.length := (List.getElem?_eq_some_iff.mp hx).1
  by_cases hl : x.left < x.takes
  · have et : s.takeUp p = s.after x.takes := by
      unfold Km449.Sea.takeUp
      rw [ep]
      show (if x.takes ≤ x.left then _ else s.after x.takes) = _
      rw [if_neg (by omega)]
    have eo : othersN s p = (lostN s.persons x.takes : Int) - 1 := by unfold othersN; rw [ep, if_pos hl]
    have hpos : 1 ≤ lostN s.persons x.takes := by
      unfold lostN
      exact List.length_pos_of_mem (List.mem_filter.mpr ⟨List.mem_of_getElem? hx, by unfold isLost; rw [h0]; simp [hl]⟩)
    rw [et, eo]
    exact ⟨_, after_at hx _, rfl, by omega⟩
  · have et : s.takeUp p = (s.after x.takes).set p { x with how := 1, left := x.left - x.takes } := by
      unfold Km449.Sea.takeUp
      rw [ep]
      show (if x.takes ≤ x.left then _ else s.after x.takes) = _
      rw [if_pos (by omega)]
    have eo : othersN s p = (lostN s.persons x.takes : Int) := by unfold othersN; rw [ep, if_neg hl]; omega
    have hsw := set_waits (y := { x with how := 1, left := x.left - x.takes }) (after_at hx x.takes) (by rw [after_left h0 hl]; exact h0) (by show ¬ (1 : Nat) = 0; decide)
    rw [et, eo]
    refine ⟨{ x with how := 1, left := x.left - x.takes }, ?_, rfl, by omega⟩
    show ((s.after x.takes).persons.set p _)[p]? = _
    rw [List.getElem?_set_self (by show p < (s.persons.map _).length; rw [List.length_map]; exact hlt)]
theorem ok_hh_take (T : Txt K mg A) : FnOk P w K mg base CX0 5 A.f_hh_take A.d_hh_take ["log", "p"] (sp_hh_take A) := by
  refine T.hh_take.fn.ok sc_hh_take (fun vs H Q E h => ?_) (fun cdv Ar outer s H vs Q E hr h => ?_)
  · obtain ⟨lg, d, p, rfl, _⟩ := h
    rfl
  · obtain ⟨lg, d, p, rfl, X, k⟩ := h
    obtain ⟨dx, an, el, lt, t, pl, as, hl, S⟩ := X.log.get
    obtain ⟨da, ha⟩ := S.sea
    refine ⟨_, (pss_cons (ps_set (i := 2) sc_hh_take.nd rfl (by first | exact Or.inl rfl | exact Or.inr rfl) (pe_call (ok_refusal_unless_waiting T) (hr.mono (by decide)) (by rfl) T.refusal_unless_waiting.mg T.refusal_unless_waiting.fn.kp T.refusal_unless_waiting.bd .nil pass0 (pa_cons (pe_fld (pv 0) rfl) (pa_cons (pv 1) pa_nil)))) (pss_cons (ps_if (pt_cmpR op_notN (pv 2) pe_non (nomark _)) (pss_one (ps_ret (pe_lst (pa_cons (pv 2) pa_nil)))) pss_nil) (pss_cons (ps_if (pt_cmpR op_gt (pe_op op_add (pe_fld (pe_fld (pv 0) rfl) rfl) (pe_fld (pe_ix ix_list (pe_fld (pe_fld (pv 0) rfl) rfl) (pv 1) (fun _ _ => rfl)) rfl)) (pe_cst (by rfl) T.c_LAST_MINUTE) (nomark _)) (pss_one (ps_ret (pe_lst (pa_cons (pe_cst (by rfl) T.c_TOO_LATE) pa_nil)))) pss_nil) (pss_cons (ps_set (i := 3) sc_hh_take.nd rfl (by first | exact Or.inl rfl | exact Or.inr rfl) (pe_meth0 (pe_fld (pv 0) rfl) T.C_Sea.cl T.Sea_duplicate.me (ok_Sea_duplicate T) (hr.mono (by decide)) T.Sea_duplicate.bd .nil pass0)) (pss_cons (ps_set (i := 4) sc_hh_take.nd rfl (by first | exact Or.inl rfl | exact Or.inr rfl) (pe_call (ok_take_up T) (hr.mono (by decide)) (by rfl) T.take_up.mg T.take_up.fn.kp T.take_up.bd .nil pass0 (pa_cons (pv 3) (pa_cons (pv 1) pa_nil)))) (pss_cons (ps_expr (pe_meth (pv 0) T.C_Log.cl T.Log_change_to.me (ok_Log_change_to T) (hr.mono (by decide)) T.Log_change_to.bd .nil pass0 (pa_cons (pv 3) pa_nil))) (pss_one (ps_ret (pe_lst (pa_cons (pe_fld (pe_ix ix_list (pe_fld (pv 3) rfl) (pv 1) (fun _ _ => rfl)) rfl) (pa_cons (pe_fld (pv 3) rfl) (pa_cons (pv 4) pa_nil)))))))))))), ?_⟩
    rw [act_takeR] at k
    refine ⟨_, rfl, lg, _, dx, _, _, rfl, hl, T.C_Log.cl, T.nLog_now, rfl, _, rfl, an, d.now, p, rfl, ⟨t, pl, as, S⟩, ?_⟩
    have hnone : refW d.now p = none → ∃ x, d.now.persons[p]? = some x ∧ x.how = 0 := refW_none
    generalize refW d.now p = r at k hnone
    refine ⟨_, rfl, rfl, _, rfl, refI (fun i e => ?_) (fun e => ?_)⟩
    · subst e
      exact ⟨_, rfl, (by show 1 ≤ sizeLine; decide), fun D nD => k.stay X (Sm.refl _) X.tab rfl nD⟩
    subst e
    obtain ⟨x, hx, h2⟩ := hnone rfl
    obtain ⟨b, hb, db, hbx⟩ := S.per.get hx
    dsimp only at k
    rw [person_at hx] at k
    refine ⟨_, rfl, lg, _, dx, _, _, rfl, hl, T.C_Log.cl, T.nLog_now, rfl, an, _, da, _, _, rfl, ha, T.C_Sea.cl, T.nSea_minute, rfl, _, rfl, lg, _, dx, _, _, rfl, hl, T.C_Log.cl, T.nLog_now, rfl, an, _, da, _, _, rfl, ha, T.C_Sea.cl, T.nSea_persons, rfl, _, rfl, pl, _, _, V.ref b, rfl, rfl, SqL.of S.lst, at_of (j := p) rfl (by rw [List.getElem?_map, hb]; rfl), b, _, db, _, _, rfl, hbx, T.C_Person.cl, T.nPerson_takes, rfl, _, _, rfl, rfl, _, _, rfl, rfl, _, rfl, ?_⟩
    refine ite2 (fun h3 => ?_) (fun h3 => ?_)
    · have h3 : 100000 < d.now.time + x.takes := by have := of_decide_eq_true h3; omega
      rw [if_pos (show Km449.LATEST < d.now.time + x.takes from h3)] at k
      exact ⟨(by show 1 ≤ sizeLine; decide), fun D nD => k.stay X (Sm.refl _) X.tab rfl nD⟩
    · have h3 : ¬ 100000 < d.now.time + x.takes := fun z => h3 (decide_eq_true (by omega))
      rw [if_neg (show ¬ Km449.LATEST < d.now.time + x.takes from h3)] at k
      obtain ⟨y, hy, ety, eoy⟩ := take_facts hx h2
      refine ⟨_, rfl, lg, _, dx, _, _, rfl, hl, T.C_Log.cl, T.nLog_now, rfl, an, da, _, rfl, ha, rfl, an, t, pl, as, d.now, rfl, S, X.ok.now.few, fun a' pl' as' H1 sm1 na npl nas S1 => ?_⟩
      refine ⟨_, rfl, _, rfl, a', t, pl', as', d.now, p, x, rfl, S1, hx, h2, fun H2 S2 fr => ?_⟩
      have sm2 : Same H H2 := same_mut sm1 na nas fr
      have hl2 := sm2 _ _ hl
      refine ⟨_, rfl, lg, dx, _, rfl, hl2, rfl, _, rfl, lg, a', d, _, rfl, X.log.sm (.of sm2), ⟨t, pl', as', S2⟩, fun H3 f l => ?_⟩
      obtain ⟨f3, fr3, X3⟩ := desk_put X hl sm2 f l (X.ok.now.takeUp hx)
      obtain ⟨da2, ha2⟩ := S2.sea
      obtain ⟨b2, hb2, db2, hbx2⟩ := S2.per.get hy
      have ha3 := f _ _ ha2 (ne_of ha2 hl2 sl_ne)
      have hp3 := f _ _ S2.lst (ne_of S2.lst hl2 (by intro q; cases q))
      have hb3 := f _ _ hbx2 (ne_of hbx2 hl2 pl_ne)
      refine ⟨_, rfl, a', _, da2, _, _, rfl, ha3, T.C_Sea.cl, T.nSea_persons, rfl, _, rfl, pl', _, _, V.ref b2, rfl, rfl, SqL.of hp3, at_of (j := p) rfl (by rw [List.getElem?_map, hb2]; rfl), b2, _, db2, _, _, rfl, hb3, T.C_Person.cl, T.nPerson_fate, rfl,
        _, rfl, a', _, da2, _, _, rfl, ha3, T.C_Sea.cl, T.nSea_minute, rfl, _, rfl, (by show 3 ≤ sizeLine; decide), fun D nD => k.done f3 fr3 X3 ?_ nD⟩
      show [V.int (y.how : Int), V.int ((d.now.takeUp p).time : Int), V.int (othersN d.now p)] = [V.int ((((d.now.takeUp p).person p).how : Nat) : Int), V.int ((d.now.takeUp p).time : Int), V.int ((d.now.waits.length - (d.now.takeUp p).waits.length - 1 : Nat) : Int)]
      rw [person_at hy, eoy]
end
end Hh
set_option Elab.async false
set_option linter.all false
set_option maxRecDepth 100000
set_option maxHeartbeats 2000000
namespace Hh
open PySem PySem.Spec PyProof.Rows L2

theorem act_person (d : Km449.Desk) (c r k : Nat) : Km449.act d (.person c r k) = if 3 < c ∨ 1 < r ∨ k = 0 ∨ 1000 < k then (d, Km449.only (-22)) else if Km449.PERSONS ≤ d.now.persons.length then (d, Km449.only (-28)) else
    (d.become { d.now with persons := d.now.persons ++ [⟨c, r == 1, d.now.hours (d.now.where_ (r == 1)) c, k, 0⟩] }, ⟨((d.now.persons.length : Nat) : Int), [d.now.hours (d.now.where_ (r == 1)) c]⟩) := rfl
theorem act_raft (d : Km449.Desk) (p o : Nat) : Km449.act d (.raft p o) = if d.now.persons.length ≤ p then (d, Km449.only (-2)) else if 1 < o then (d, Km449.only (-22)) else if (d.now.person p).how ≠ 0 then (d, Km449.only (-16)) else if (d.now.person p).raft = (o == 1) then (d, Km449.only (-17)) else
    (d.become (d.now.move p (o == 1) (d.now.person p).clothes), Km449.only ((((d.now.move p (o == 1) (d.now.person p).clothes).person p).left : Nat) : Int)) := rfl
theorem act_clothe (d : Km449.Desk) (p c : Nat) : Km449.act d (.clothe p c) = if d.now.persons.length ≤ p then (d, Km449.only (-2)) else if 3 < c then (d, Km449.only (-22)) else if (d.now.person p).how ≠ 0 then (d, Km449.only (-16)) else if (d.now.person p).clothes = c then (d, Km449.only (-17)) else
    (d.become (d.now.move p (d.now.person p).raft c), Km449.only ((((d.now.move p (d.now.person p).raft c).person p).left : Nat) : Int)) := rfl
theorem SeaOk.add {s : Km449.Sea} (h : SeaOk s) {x : Km449.Person} (hn : s.persons.length < 9) (h1 : x.clothes ≤ 3) (h2 : x.how ≤ 2) : SeaOk { s with persons := s.persons ++ [x] } := by
  refine ⟨h.tab, h.wat, ?_, fun y hy => ?_, fun y hy => ?_⟩
  · show (s.persons ++ [x]).length ≤ 9
    rw [List.length_append]
    show s.persons.length + 1 ≤ 9
    omega
  · rcases List.mem_append.mp (show y ∈ s.persons ++ [x] from hy) with z | z
    · exact h.clo y z
    · rw [List.mem_singleton.mp z]; exact h1
  · rcases List.mem_append.mp (show y ∈ s.persons ++ [x] from hy) with z | z
    · exact h.how y z
    · rw [List.mem_singleton.mp z]; exact h2

section
variable {P : Program} {w : World} {K : PySem.W.Frag} {mg : Str → Option Value} {base : Heap} {A : Adr}
def sp_hh_person (A : Adr) : Sp := fun vs H Q _ => ∃ (lg : Addr) (d : Km449.Desk) (c r k : Nat), vs = [.ref lg, .int c, .int r, .int k] ∧ DeskAt A H lg d ∧ RetP A H lg Q (Km449.act d (.person c r k))
theorem ok_hh_person (T : Txt K mg A) : FnOk P w K mg base CX0 5 A.f_hh_person A.d_hh_person ["log", "clothes", "raft", "takes"] (sp_hh_person A) := by
  refine T.hh_person.fn.ok sc_hh_person (fun vs H Q E h => ?_) (fun cdv Ar outer s H vs Q E hr h => ?_)
  · obtain ⟨lg, d, c, r, k, rfl, _⟩ := h
    rfl
  · obtain ⟨lg, d, c, r, n, rfl, X, k⟩ := h
    obtain ⟨dx, an, el, lt, t, pl, as, hl, S⟩ := X.log.get
    obtain ⟨da, ha⟩ := S.sea
    refine ⟨_, (pss_cons (ps_if (PW.pt (pw_or (pt_cmpR op_ge (pv 1) (pe_cst (by rfl) T.c_CLOTHINGS) (nomark _)) (pw_or (pt_cmpR op_gt (pv 2) pe_int (nomark _)) (pw_or (pt_cmpR op_lt (pv 3) pe_int (nomark _)) (pw_or1 (pt_cmpR op_gt (pv 3) (pe_cst (by rfl) T.c_TAKES_MOST) (nomark _))))))) (pss_one (ps_ret (pe_lst (pa_cons (pe_cst (by rfl) T.c_NOT_ALLOWED) pa_nil)))) pss_nil) (pss_cons (ps_set (i := 4) sc_hh_person.nd rfl (by first | exact Or.inl rfl | exact Or.inr rfl) (pe_callB call_len_seq (by rfl) T.n_len PySem.boot_len (pa_cons (pe_fld (pe_fld (pv 0) rfl) rfl) pa_nil))) (pss_cons (ps_if (pt_cmpR op_ge (pv 4) (pe_cst (by rfl) T.c_PERSONS_MOST) (nomark _)) (pss_one (ps_ret (pe_lst (pa_cons (pe_cst (by rfl) T.c_NO_ROOM) pa_nil)))) pss_nil) (pss_cons (ps_set (i := 5) sc_hh_person.nd rfl (by first | exact Or.inl rfl | exact Or.inr rfl) (pe_meth0 (pe_fld (pv 0) rfl) T.C_Sea.cl T.Sea_duplicate.me (ok_Sea_duplicate T) (hr.mono (by decide)) T.Sea_duplicate.bd .nil pass0)) (pss_cons (ps_set (i := 6) sc_hh_person.nd rfl (by first | exact Or.inl rfl | exact Or.inr rfl) (pe_meth (pv 5) T.C_Sea.cl T.Sea_told.me (ok_Sea_told T) (hr.mono (by decide)) T.Sea_told.bd .nil pass0 (pa_cons (pv 1) (pa_cons (pv 2) pa_nil)))) (pss_cons (ps_expr (pe_bm PySem.F.plainAttrs_list PySem.F.slot_list_append PySem.F.type_list_append mt_append (pe_fld (pv 5) rfl) (pa_cons (pe_make T.C_Person.made (ok_Person_init T) (hr.mono (by decide)) (by rfl) T.C_Person.mg T.Person_init.bd .nil pass0 (pa_cons (pv 1) (pa_cons (pv 2) (pa_cons (pv 3) (pa_cons (pv 6) (pa_cons (pe_cst (by rfl) T.c_WAITS) pa_nil)))))) pa_nil))) (pss_cons (ps_expr (pe_meth (pv 0) T.C_Log.cl T.Log_change_to.me (ok_Log_change_to T) (hr.mono (by decide)) T.Log_change_to.bd .nil pass0 (pa_cons (pv 5) pa_nil))) (pss_one (ps_ret (pe_lst (pa_cons (pv 4) (pa_cons (pv 6) pa_nil)))))))))))), ?_⟩
    have bad : (3 < c ∨ 1 < r ∨ n = 0 ∨ 1000 < n) → ∃ xs : List V, xs.length ≤ sizeLine ∧ xs = [V.int (-22)] ∧ ∀ D, H D = none → Q (.ref D) (upd H D (.lst xs)) := fun h1 => by
      rw [act_person, if_pos h1] at k
      exact ⟨_, (by show 1 ≤ sizeLine; decide), rfl, fun D nD => k.stay X (Sm.refl _) X.tab rfl nD⟩
    refine ⟨_, rfl, _, _, rfl, rfl, _, rfl, ?_⟩
    refine ite2 (fun h1 => ?_) (fun h1 => ?_)
    · obtain ⟨xs, b1, rfl, b3⟩ := bad (.inl (by have := of_decide_eq_true h1; omega))
      exact ⟨b1, b3⟩
    have h1 : ¬ 3 < c := fun z => h1 (decide_eq_true (by omega))
    refine ⟨_, rfl, _, _, rfl, rfl, _, rfl, ?_⟩
    refine ite2 (fun h2 => ?_) (fun h2 => ?_)
    · obtain ⟨xs, b1, rfl, b3⟩ := bad (.inr (.inl (by have := of_decide_eq_true h2; omega)))
      exact ⟨b1, b3⟩
    have h2 : ¬ 1 < r := fun z => h2 (decide_eq_true (by omega))
    refine ⟨_, rfl, _, _, rfl, rfl, _, rfl, ?_⟩
    refine ite2 (fun h3 => ?_) (fun h3 => ?_)
    · obtain ⟨xs, b1, rfl, b3⟩ := bad (.inr (.inr (.inl (by have := of_decide_eq_true h3; omega))))
      exact ⟨b1, b3⟩
    have h3 : ¬ n = 0 := fun z => h3 (decide_eq_true (by omega))
    refine ⟨_, rfl, _, _, rfl, rfl, _, rfl, ?_⟩
    refine ite2 (fun h4 => ?_) (fun h4 => ?_)
    · obtain ⟨xs, b1, rfl, b3⟩ := bad (.inr (.inr (.inr (by have := of_decide_eq_true h4; omega))))
      exact ⟨b1, b3⟩
    have h4 : ¬ 1000 < n := fun z => h4 (decide_eq_true (by omega))
    rw [act_person, if_neg (by omega)] at k
    refine ⟨_, rfl, lg, _, dx, _, _, rfl, hl, T.C_Log.cl, T.nLog_now, rfl, an, _, da, _, _, rfl, ha, T.C_Sea.cl, T.nSea_persons, rfl, pl, _, rfl, .inl (SqL.of S.lst), ?_⟩
    rw [List.length_map, S.per.len]
    refine ⟨_, rfl, _, _, rfl, rfl, _, rfl, ?_⟩
    refine ite2 (fun h5 => ?_) (fun h5 => ?_)
    · have h5 : 9 ≤ d.now.persons.length := by have := of_decide_eq_true h5; omega
      rw [if_pos (show Km449.PERSONS ≤ d.now.persons.length from h5)] at k
      exact ⟨(by show 1 ≤ sizeLine; decide), fun D nD => k.stay X (Sm.refl _) X.tab rfl nD⟩
    have h5 : ¬ 9 ≤ d.now.persons.length := fun z => h5 (decide_eq_true (by omega))
    rw [if_neg (show ¬ Km449.PERSONS ≤ d.now.persons.length from h5)] at k
    have hwat := X.ok.now.wat
    obtain ⟨v, ev, gv, lv, uv⟩ := X.ok.now.tab.get (p := placeOf d.now.water (r : Int)) (c := c) (by unfold placeOf; split <;> omega) (by omega)
    have eh : d.now.hours (d.now.where_ (r == 1)) c = v := by
      have q : d.now.where_ (r == 1) = placeOf d.now.water (r : Int) := by
        unfold Km449.Sea.where_ placeOf
        have : r = 0 ∨ r = 1 := by omega
        rcases this with rfl | rfl <;> rfl
      rw [q]
      exact gv
    rw [eh] at k
    refine ⟨_, rfl, lg, _, dx, _, _, rfl, hl, T.C_Log.cl, T.nLog_now, rfl, an, da, _, rfl, ha, rfl, an, t, pl, as, d.now, rfl, S, X.ok.now.few, fun a' pl' as' H1 sm1 na npl nas S1 => ?_⟩
    obtain ⟨da1, ha1⟩ := S1.sea
    refine ⟨_, rfl, a', da1, _, rfl, ha1, rfl, _, rfl, _, rfl, a', t, _, _, c, v, _, rfl, S1.hd, hwat, ev, ?_⟩
    refine ⟨_, rfl, a', _, da1, _, _, rfl, ha1, T.C_Sea.cl, T.nSea_persons, rfl, .inl ⟨rfl, _, SqL.of S1.lst⟩, _, rfl, _, rfl, _, rfl, _, rfl, ?_⟩
    intro b db nb ndb neb
    refine ⟨b, db, _, _, _, _, _, rfl, upd_same, rfl, ?_⟩
    rw [upd_upd]
    generalize hpx : (⟨c, r == 1, v, n, 0⟩ : Km449.Person) = px at k
    have epx : pfv (c : Int) (r : Int) (n : Int) (v : Int) 0 = pfs px := by
      rw [← hpx]
      unfold pfs
      rw [bit_of (by omega)]
      rfl
    have smb : Same H1 (upd (upd H1 db (.own b)) b (.ins A.CPerson db (pfv (c : Int) (r : Int) (n : Int) (v : Int) 0))) := same_new2 nb ndb
    refine ⟨pl', _, _, rfl, rfl, smb _ _ S1.lst, ?_, ?_⟩
    · rw [List.length_map, S1.per.len]
      exact small9 X.ok.now.few
    have S1b := S1.sm (.of smb)
    have hbas : b ∉ as' := fun z => by
      obtain ⟨x', dx', hx'⟩ := S1.per.mem z
      rw [nb] at hx'
      cases hx'
    have nbl : b ≠ pl' := fun z => by rw [z, S1.lst] at nb; cases nb
    obtain ⟨na1, npl1, nap⟩ := S1b.notin
    have sm2 : Same H (upd (upd (upd H1 db (.own b)) b (.ins A.CPerson db (pfv (c : Int) (r : Int) (n : Int) (v : Int) 0))) pl' (.lst (as'.map V.ref ++ [.ref b]))) := same_upd (sm1.trans smb) npl
    have S2 : SeaAt A (upd (upd (upd H1 db (.own b)) b (.ins A.CPerson db (pfv (c : Int) (r : Int) (n : Int) (v : Int) 0))) pl' (.lst (as'.map V.ref ++ [.ref b]))) a' t pl' (as' ++ [b]) { d.now with persons := d.now.persons ++ [px] } := by
      obtain ⟨da2, ha2⟩ := S1b.sea
      refine ⟨⟨da2, by rw [upd_ne nap]; exact ha2⟩, by rw [upd_ne S1b.ne]; exact S1b.tab, by rw [upd_same, List.map_append]; rfl, S1b.ne, ?_⟩
      refine (S1b.per.snoc hbas ⟨db, by rw [upd_same, epx]⟩).keep fun e o q hq => ?_
      rw [upd_ne]
      · exact q
      · rintro rfl
        rcases List.mem_append.mp hq with z | z
        · exact npl1 z
        · exact nbl (List.mem_singleton.mp z).symm
    have hl2 := sm2 _ _ hl
    refine ⟨_, rfl, lg, dx, _, rfl, hl2, rfl, _, rfl, lg, a', d, _, rfl, X.log.sm (.of sm2), ⟨t, pl', _, S2⟩, fun H3 f l => ?_⟩
    obtain ⟨f3, fr3, X3⟩ := desk_put X hl sm2 f l (X.ok.now.add (by omega) (by rw [← hpx]; show c ≤ 3; omega) (by rw [← hpx]; show (0 : Nat) ≤ 2; decide))
    exact ⟨_, rfl, _, rfl, (by show 2 ≤ sizeLine; decide), fun D nD => k.done f3 fr3 X3 rfl nD⟩

/-- what hh_raft and hh_clothe have in common -/
def movedP (d : Km449.Desk) (p c : Nat) (r : Bool) : Km449.Desk × Km449.Ans := (d.become (d.now.move p r c), Km449.only ((((d.now.move p r c).person p).left : Nat) : Int))
def sp_change_person (A : Adr) : Sp := fun vs H Q _ => ∃ (lg : Addr) (d : Km449.Desk) (p c : Nat) (x : Km449.Person) (r : Bool), vs = [.ref lg, .int p, .int c, .int (Km449.bit r : Nat)] ∧ DeskAt A H lg d ∧ d.now.persons[p]? = some x ∧ c ≤ 3 ∧ RetP A H lg Q (movedP d p c r)
theorem ok_change_person (T : Txt K mg A) : FnOk P w K mg base CX0 5 A.f_change_person A.d_change_person ["log", "p", "clothes", "raft"] (sp_change_person A) := by
  refine T.change_person.fn.ok sc_change_person (fun vs H Q E h => ?_) (fun cdv Ar outer s H vs Q E hr h => ?_)
  · obtain ⟨lg, d, p, c, x, r, rfl, _⟩ := h
    rfl
  · obtain ⟨lg, d, p, c, x, r, rfl, X, hx, hc, k⟩ := h
    obtain ⟨dx, an, el, lt, t, pl, as, hl, S⟩ := X.log.get
    obtain ⟨da, ha⟩ := S.sea
    refine ⟨_, (pss_cons (ps_set (i := 4) sc_change_person.nd rfl (by first | exact Or.inl rfl | exact Or.inr rfl) (pe_meth0 (pe_fld (pv 0) rfl) T.C_Sea.cl T.Sea_duplicate.me (ok_Sea_duplicate T) (hr.mono (by decide)) T.Sea_duplicate.bd .nil pass0)) (pss_cons (ps_expr (pe_call (ok_refit T) (hr.mono (by decide)) (by rfl) T.refit.mg T.refit.fn.kp T.refit.bd .nil pass0 (pa_cons (pv 4) (pa_cons (pe_ix ix_list (pe_fld (pv 4) rfl) (pv 1) (fun _ _ => rfl)) (pa_cons (pv 2) (pa_cons (pv 3) pa_nil)))))) (pss_cons (ps_expr (pe_meth (pv 0) T.C_Log.cl T.Log_change_to.me (ok_Log_change_to T) (hr.mono (by decide)) T.Log_change_to.bd .nil pass0 (pa_cons (pv 4) pa_nil))) (pss_one (ps_ret (pe_lst (pa_cons (pe_fld (pe_ix ix_list (pe_fld (pv 4) rfl) (pv 1) (fun _ _ => rfl)) rfl) pa_nil))))))), ?_⟩
    have hcl : x.clothes ≤ 3 := X.ok.now.clo x (List.mem_of_getElem? hx)
    refine ⟨_, rfl, lg, _, dx, _, _, rfl, hl, T.C_Log.cl, T.nLog_now, rfl, an, da, _, rfl, ha, rfl, an, t, pl, as, d.now, rfl, S, X.ok.now.few, fun a' pl' as' H1 sm1 na npl nas S1 => ?_⟩
    obtain ⟨b1, db1, hb1, hbx1, mvf⟩ := moved (c := c) (r := r) hx sm1 na npl nas S1
    obtain ⟨da1, ha1⟩ := S1.sea
    refine ⟨_, rfl, _, rfl, a', _, da1, _, _, rfl, ha1, T.C_Sea.cl, T.nSea_persons, rfl, _, rfl, pl', _, _, V.ref b1, rfl, rfl, SqL.of S1.lst, at_of (j := p) rfl (by rw [List.getElem?_map, hb1]; rfl), _, rfl, _, rfl, a', t, b1, _, _, x, c, r, rfl, S1.hd, X.ok.now.wat, X.ok.now.tab, ⟨db1, hbx1⟩, hcl, hc, fun H2 fr pb => ?_⟩
    obtain ⟨sm2, S2⟩ := mvf H2 fr pb
    have hl2 := sm2 _ _ hl
    refine ⟨_, rfl, lg, dx, _, rfl, hl2, rfl, _, rfl, lg, a', d, _, rfl, X.log.sm (.of sm2), ⟨t, pl', as', S2⟩, fun H3 f l => ?_⟩
    have hok : SeaOk (d.now.move p r c) := by
      unfold Km449.Sea.move
      exact X.ok.now.set p hc (by rw [person_at hx]; exact X.ok.now.how x (List.mem_of_getElem? hx))
    obtain ⟨f3, fr3, X3⟩ := desk_put X hl sm2 f l hok
    obtain ⟨da2, ha2⟩ := S2.sea
    obtain ⟨b2, hb2, db2, hbx2⟩ := S2.per.get (move_at (c := c) (r := r) hx)
    have ha3 := f _ _ ha2 (ne_of ha2 hl2 sl_ne)
    have hp3 := f _ _ S2.lst (ne_of S2.lst hl2 (by intro q; cases q))
    have hb3 := f _ _ hbx2 (ne_of hbx2 hl2 pl_ne)
    refine ⟨_, rfl, a', _, da2, _, _, rfl, ha3, T.C_Sea.cl, T.nSea_persons, rfl, _, rfl, pl', _, _, V.ref b2, rfl, rfl, SqL.of hp3, at_of (j := p) rfl (by rw [List.getElem?_map, hb2]; rfl), b2, _, db2, _, _, rfl, hb3, T.C_Person.cl, T.nPerson_left, rfl, (by show 1 ≤ sizeLine; decide), fun D nD => k.done f3 fr3 X3 ?_ nD⟩
    show _ = [V.int (((d.now.move p r c).person p).left : Int)]
    rw [person_at (move_at hx)]
theorem act_raftR (d : Km449.Desk) (p o : Nat) : Km449.act d (.raft p o) = match refR d.now p o with
    | some i => (d, Km449.only i)
    | none => movedP d p (d.now.person p).clothes (o == 1) := by
  rw [act_raft]
  unfold refR refF
  by_cases h1 : d.now.persons.length ≤ p
  · rw [if_pos h1, if_pos h1]
  · rw [if_neg h1, if_neg h1]
    by_cases h2 : 1 < o
    · rw [if_pos h2, if_pos h2]
    · rw [if_neg h2, if_neg h2]
      by_cases h3 : (d.now.person p).how ≠ 0
      · rw [if_pos h3, if_pos h3]
      · rw [if_neg h3, if_neg h3]
        by_cases h4 : (d.now.person p).raft = (o == 1)
        · rw [if_pos h4, if_pos ⟨rfl, h4⟩]
        · rw [if_neg h4, if_neg (fun z => h4 z.2)]
          rfl
theorem act_clotheR (d : Km449.Desk) (p c : Nat) : Km449.act d (.clothe p c) = match refC d.now p c with
    | some i => (d, Km449.only i)
    | none => movedP d p c (d.now.person p).raft := by
  rw [act_clothe]
  unfold refC refF
  by_cases h1 : d.now.persons.length ≤ p
  · rw [if_pos h1, if_pos h1]
  · rw [if_neg h1, if_neg h1]
    by_cases h2 : 3 < c
    · rw [if_pos h2, if_pos h2]
    · rw [if_neg h2, if_neg h2]
      by_cases h3 : (d.now.person p).how ≠ 0
      · rw [if_pos h3, if_pos h3]
      · rw [if_neg h3, if_neg h3]
        by_cases h4 : (d.now.person p).clothes = c
        · rw [if_pos h4, if_pos ⟨h4, rfl⟩]
        · rw [if_neg h4, if_neg (fun z => h4 z.1)]
          rfl
def sp_hh_raft (A : Adr) : Sp := fun vs H Q _ => ∃ (lg : Addr) (d : Km449.Desk) (p o : Nat), vs = [.ref lg, .int p, .int o] ∧ DeskAt A H lg d ∧ RetP A H lg Q (Km449.act d (.raft p o))
theorem ok_hh_raft (T : Txt K mg A) : FnOk P w K mg base CX0 6 A.f_hh_raft A.d_hh_raft ["log", "p", "inside"] (sp_hh_raft A) := by
  refine T.hh_raft.fn.ok sc_hh_raft (fun vs H Q E h => ?_) (fun cdv Ar outer s H vs Q E hr h => ?_)
  · obtain ⟨lg, d, p, o, rfl, _⟩ := h
    rfl
  · obtain ⟨lg, d, p, o, rfl, X, k⟩ := h
    obtain ⟨dx, an, el, lt, t, pl, as, hl, S⟩ := X.log.get
    obtain ⟨da, ha⟩ := S.sea
    refine ⟨_, (pss_cons (ps_set (i := 3) sc_hh_raft.nd rfl (by first | exact Or.inl rfl | exact Or.inr rfl) (pe_call (ok_refusal_of_raft T) (hr.mono (by decide)) (by rfl) T.refusal_of_raft.mg T.refusal_of_raft.fn.kp T.refusal_of_raft.bd .nil pass0 (pa_cons (pe_fld (pv 0) rfl) (pa_cons (pv 1) (pa_cons (pv 2) pa_nil))))) (pss_cons (ps_if (pt_cmpR op_notN (pv 3) pe_non (nomark _)) (pss_one (ps_ret (pe_lst (pa_cons (pv 3) pa_nil)))) pss_nil) (pss_one (ps_ret (pe_call (ok_change_person T) (hr.mono (by decide)) (by rfl) T.change_person.mg T.change_person.fn.kp T.change_person.bd .nil pass0 (pa_cons (pv 0) (pa_cons (pv 1) (pa_cons (pe_fld (pe_ix ix_list (pe_fld (pe_fld (pv 0) rfl) rfl) (pv 1) (fun _ _ => rfl)) rfl) (pa_cons (pv 2) pa_nil))))))))), ?_⟩
    rw [act_raftR] at k
    refine ⟨_, rfl, lg, _, dx, _, _, rfl, hl, T.C_Log.cl, T.nLog_now, rfl, _, rfl, _, rfl, an, d.now, p, o, rfl, ⟨t, pl, as, S⟩, ?_⟩
    have hnone : refR d.now p o = none → ∃ x, d.now.persons[p]? = some x ∧ x.how = 0 ∧ o ≤ 1 ∧ ¬ x.raft = (o == 1) := refR_none
    generalize refR d.now p o = r at k hnone
    refine ⟨_, rfl, rfl, _, rfl, refI (fun i e => ?_) (fun e => ?_)⟩
    · subst e
      exact ⟨_, rfl, (by show 1 ≤ sizeLine; decide), fun D nD => k.stay X (Sm.refl _) X.tab rfl nD⟩
    subst e
    obtain ⟨x, hx, h2, ho, _⟩ := hnone rfl
    obtain ⟨b, hb, db, hbx⟩ := S.per.get hx
    dsimp only at k
    rw [person_at hx] at k
    refine ⟨_, rfl, _, rfl, _, rfl, lg, _, dx, _, _, rfl, hl, T.C_Log.cl, T.nLog_now, rfl, an, _, da, _, _, rfl, ha, T.C_Sea.cl, T.nSea_persons, rfl, _, rfl, pl, _, _, V.ref b, rfl, rfl, SqL.of S.lst, at_of (j := p) rfl (by rw [List.getElem?_map, hb]; rfl), b, _, db, _, _, rfl, hbx, T.C_Person.cl, T.nPerson_clothes, rfl, _, rfl, lg, d, p, x.clothes, x, o == 1, ?_, X, hx, X.ok.now.clo x (List.mem_of_getElem? hx), k⟩
    rw [bit_of ho]
    rfl
def sp_hh_clothe (A : Adr) : Sp := fun vs H Q _ => ∃ (lg : Addr) (d : Km449.Desk) (p c : Nat), vs = [.ref lg, .int p, .int c] ∧ DeskAt A H lg d ∧ RetP A H lg Q (Km449.act d (.clothe p c))
theorem ok_hh_clothe (T : Txt K mg A) : FnOk P w K mg base CX0 6 A.f_hh_clothe A.d_hh_clothe ["log", "p", "c"] (sp_hh_clothe A) := by
  refine T.hh_clothe.fn.ok sc_hh_clothe (fun vs H Q E h => ?_) (fun cdv Ar outer s H vs Q E hr h => ?_)
  · obtain ⟨lg, d, p, o, rfl, _⟩ := h
    rfl
  · obtain ⟨lg, d, p, c, rfl, X, k⟩ := h
    obtain ⟨dx, an, el, lt, t, pl, as, hl, S⟩ := X.log.get
    obtain ⟨da, ha⟩ := S.sea
    refine ⟨_, (pss_cons (ps_set (i := 3) sc_hh_clothe.nd rfl (by first | exact Or.inl rfl | exact Or.inr rfl) (pe_call (ok_refusal_of_clothes T) (hr.mono (by decide)) (by rfl) T.refusal_of_clothes.mg T.refusal_of_clothes.fn.kp T.refusal_of_clothes.bd .nil pass0 (pa_cons (pe_fld (pv 0) rfl) (pa_cons (pv 1) (pa_cons (pv 2) pa_nil))))) (pss_cons (ps_if (pt_cmpR op_notN (pv 3) pe_non (nomark _)) (pss_one (ps_ret (pe_lst (pa_cons (pv 3) pa_nil)))) pss_nil) (pss_one (ps_ret (pe_call (ok_change_person T) (hr.mono (by decide)) (by rfl) T.change_person.mg T.change_person.fn.kp T.change_person.bd .nil pass0 (pa_cons (pv 0) (pa_cons (pv 1) (pa_cons (pv 2) (pa_cons (pe_fld (pe_ix ix_list (pe_fld (pe_fld (pv 0) rfl) rfl) (pv 1) (fun _ _ => rfl)) rfl) pa_nil))))))))), ?_⟩
    rw [act_clotheR] at k
    refine ⟨_, rfl, lg, _, dx, _, _, rfl, hl, T.C_Log.cl, T.nLog_now, rfl, _, rfl, _, rfl, an, d.now, p, c, rfl, ⟨t, pl, as, S⟩, ?_⟩
    have hnone : refC d.now p c = none → ∃ x, d.now.persons[p]? = some x ∧ x.how = 0 ∧ c ≤ 3 ∧ ¬ x.clothes = c := refC_none
    generalize refC d.now p c = r at k hnone
    refine ⟨_, rfl, rfl, _, rfl, refI (fun i e => ?_) (fun e => ?_)⟩
    · subst e
      exact ⟨_, rfl, (by show 1 ≤ sizeLine; decide), fun D nD => k.stay X (Sm.refl _) X.tab rfl nD⟩
    subst e
    obtain ⟨x, hx, h2, hc, _⟩ := hnone rfl
    obtain ⟨b, hb, db, hbx⟩ := S.per.get hx
    dsimp only at k
    rw [person_at hx] at k
    exact ⟨_, rfl, _, rfl, _, rfl, _, rfl, lg, _, dx, _, _, rfl, hl, T.C_Log.cl, T.nLog_now, rfl, an, _, da, _, _, rfl, ha, T.C_Sea.cl, T.nSea_persons, rfl, _, rfl, pl, _, _, V.ref b, rfl, rfl, SqL.of S.lst, at_of (j := p) rfl (by rw [List.getElem?_map, hb]; rfl), b, _, db, _, _, rfl, hbx, T.C_Person.cl, T.nPerson_raft, rfl, lg, d, p, c, x, x.raft, rfl, X, hx, hc, k⟩
end
end Hh
set_option Elab.async false
set_option linter.all false
set_option maxRecDepth 100000
set_option maxHeartbeats 2000000
namespace Hh
open PySem PySem.Spec PyProof.Rows L2

structure Ready (s : Km449.Sea) (l : List Nat) : Prop where
  time : s.inTime 0 l = true
  nd : l.Nodup
  wait : ∀ p ∈ l, ∃ x, s.persons[p]? = some x ∧ x.how = 0
theorem inTime_le {s : Km449.Sea} : ∀ {l : List Nat} {t : Nat}, s.inTime t l = true → ∀ q ∈ l, t + (s.person q).takes ≤ (s.person q).left
  | [], _, _, q, hq => by simp at hq
  | p :: l, t, h, q, hq => by
    rw [inTime_cons, Bool.and_eq_true, decide_eq_true_iff] at h
    rcases List.mem_cons.mp hq with rfl | hq
    · exact h.1
    · have := inTime_le h.2 q hq
      omega
theorem inTime_shift {s s' : Km449.Sea} {T : Nat} : ∀ {l : List Nat} {t : Nat}, (∀ q ∈ l, (s'.person q).takes = (s.person q).takes ∧ (s'.person q).left = (s.person q).left - T ∧ T ≤ (s.person q).left) → s.inTime (t + T) l = true → s'.inTime t l = true
  | [], _, _, _ => rfl
  | p :: l, t, hq, h => by
    rw [inTime_cons, Bool.and_eq_true, decide_eq_true_iff] at h ⊢
    obtain ⟨e1, e2, e3⟩ := hq p (List.mem_cons_self ..)
    rw [e1, e2]
    refine ⟨by omega, inTime_shift (fun q hq' => hq q (List.mem_cons_of_mem _ hq')) ?_⟩
    have e : t + (s.person p).takes + T = t + T + (s.person p).takes := by omega
    rw [e]
    exact h.2
theorem takeUp_up {s : Km449.Sea} {p : Nat} {x : Km449.Person} (hx : s.persons[p]? = some x) (h : x.takes ≤ x.left) : s.takeUp p = (s.after x.takes).set p { x with how := 1, left := x.left - x.takes } := by
  unfold Km449.Sea.takeUp
  rw [person_at hx]
  show (if x.takes ≤ x.left then _ else s.after x.takes) = _
  rw [if_pos h]
theorem takeUp_other {s : Km449.Sea} {p q : Nat} {x y : Km449.Person} (hx : s.persons[p]? = some x) (h : x.takes ≤ x.left) (hy : s.persons[q]? = some y) (hq : q ≠ p) (h0 : y.how = 0) (hl : x.takes ≤ y.left) : (s.takeUp p).persons[q]? = some { y with left := y.left - x.takes } := by
  rw [takeUp_up hx h]
  show ((s.after x.takes).persons.set p _)[q]? = _
  rw [List.getElem?_set_ne (fun z => hq z.symm), after_at hy, after_left h0 (by omega)]
theorem Ready.next {s : Km449.Sea} {p : Nat} {l : List Nat} (r : Ready s (p :: l)) : Ready (s.takeUp p) l ∧ (s.takeUp p).time = s.time + (s.person p).takes ∧ ∀ q ∈ l, ((s.takeUp p).person q).takes = (s.person q).takes := by
  obtain ⟨x, hx, h0⟩ := r.wait p (List.mem_cons_self ..)
  have ht := r.time
  rw [inTime_cons, Bool.and_eq_true, decide_eq_true_iff, Nat.zero_add, person_at hx] at ht
  obtain ⟨h1, h2⟩ := ht
  obtain ⟨nd1, nd2⟩ := List.nodup_cons.mp r.nd
  have key : ∀ q ∈ l, ∃ y, s.persons[q]? = some y ∧ y.how = 0 ∧ x.takes ≤ y.left ∧ (s.takeUp p).persons[q]? = some { y with left := y.left - x.takes } := fun q hq => by
    obtain ⟨y, hy, hy0⟩ := r.wait q (List.mem_cons_of_mem _ hq)
    have := inTime_le h2 q hq
    rw [person_at hy] at this
    exact ⟨y, hy, hy0, by omega, takeUp_other hx h1 hy (fun z => nd1 (by rw [← z]; exact hq)) hy0 (by omega)⟩
  refine ⟨⟨inTime_shift (s := s) (T := x.takes) (fun q hq => ?_) (by rw [Nat.zero_add]; exact h2), nd2, fun q hq => ?_⟩, ?_, fun q hq => ?_⟩
  · obtain ⟨y, hy, hy0, hyl, hy'⟩ := key q hq
    rw [person_at hy, person_at hy']
    exact ⟨rfl, rfl, hyl⟩
  · obtain ⟨y, hy, hy0, hyl, hy'⟩ := key q hq
    exact ⟨_, hy', hy0⟩
  · rw [takeUp_up hx h1, person_at hx]
    rfl
  · obtain ⟨y, hy, hy0, hyl, hy'⟩ := key q hq
    rw [person_at hy, person_at hy']
theorem fold_time : ∀ {l : List Nat} {s : Km449.Sea}, Ready s l → (l.foldl Km449.Sea.takeUp s).time = s.time + (l.map fun p => (s.person p).takes).sum
  | [], s, _ => by simp
  | p :: l, s, r => by
    obtain ⟨r2, e1, e2⟩ := r.next
    show (l.foldl Km449.Sea.takeUp (s.takeUp p)).time = _
    rw [fold_time r2, e1, List.map_cons, List.sum_cons]
    have e3 : (l.map fun q => ((s.takeUp p).person q).takes) = l.map fun q => (s.person q).takes := List.map_congr_left fun q hq => e2 q hq
    rw [e3]
    omega
theorem Ready.drop {s : Km449.Sea} {l : List Nat} (r : Ready s l) : ∀ i, i ≤ l.length → Ready ((l.take i).foldl Km449.Sea.takeUp s) (l.drop i) := fun i => by
  induction i with
  | zero => intro _; simpa using r
  | succ i ih =>
    intro hi
    have h := ih (by omega)
    have hx : l[i]? = some l[i] := List.getElem?_eq_getElem (by omega)
    rw [List.drop_eq_getElem_cons (by omega)] at h
    rw [take_snoc hx, List.foldl_append]
    exact h.next.1
theorem plan_ready (s : Km449.Sea) : Ready s (s.plan 0) := by
  obtain ⟨b1, b2, _⟩ := best_is s 0
  have hs := (waits_sorted s).sublist b1
  refine ⟨b2, (byTime_perm s hs).nodup_iff.mpr (nodup_of_lt hs), fun p hp => ?_⟩
  have hp2 : p ∈ s.waits := b1.subset ((byTime_perm s hs).mem_iff.mp hp)
  obtain ⟨h1, h2⟩ := List.mem_filter.mp hp2
  have hl := List.mem_range.mp h1
  have hx : s.persons[p]? = some s.persons[p] := List.getElem?_eq_getElem hl
  rw [person_at hx] at h2
  exact ⟨_, hx, by simpa using h2⟩
theorem SeaOk.fold {l : List Nat} {s : Km449.Sea} (h : SeaOk s) (r : Ready s l) : SeaOk (l.foldl Km449.Sea.takeUp s) := by
  induction l generalizing s with
  | nil => exact h
  | cons p l ih =>
    obtain ⟨x, hx, _⟩ := r.wait p (List.mem_cons_self ..)
    exact ih (h.takeUp hx) r.next.1
theorem act_all (d : Km449.Desk) : Km449.act d .all = if d.now.plan 0 = [] then (d, Km449.only (-6)) else if Km449.LATEST < ((d.now.plan 0).foldl Km449.Sea.takeUp d.now).time then (d, Km449.only (-75)) else
    (d.become ((d.now.plan 0).foldl Km449.Sea.takeUp d.now), ⟨(((d.now.plan 0).length : Nat) : Int), [((d.now.plan 0).foldl Km449.Sea.takeUp d.now).time, ((d.now.plan 0).foldl Km449.Sea.takeUp d.now).waits.length]⟩) := rfl
theorem sum_cast (l : List Nat) : (l.map fun (n : Nat) => (n : Int)).sum = ((l.sum : Nat) : Int) := by
  induction l with
  | nil => rfl
  | cons a l ih => rw [List.map_cons, List.sum_cons, List.sum_cons, ih]; omega

end Hh
set_option Elab.async false
set_option linter.all false
set_option maxRecDepth 100000
set_option maxHeartbeats 2000000
namespace Hh
open PySem PySem.Spec PyProof.Rows L2

section
variable {P : Program} {w : World} {K : PySem.W.Frag} {mg : Str → Option Value} {base : Heap} {A : Adr}
def sp_hh_all (A : Adr) : Sp := fun vs H Q _ => ∃ (lg : Addr) (d : Km449.Desk), vs = [.ref lg] ∧ DeskAt A H lg d ∧ RetP A H lg Q (Km449.act d .all)
theorem ok_hh_all (T : Txt K mg A) (B : BMain mg base) : FnOk P w K mg base CX0 8 A.f_hh_all A.d_hh_all ["log"] (sp_hh_all A) := by
  refine T.hh_all.fn.ok sc_hh_all (fun vs H Q E h => ?_) (fun cdv Ar outer s H vs Q E hr h => ?_)
  · obtain ⟨lg, d, rfl, _⟩ := h
    rfl
  · obtain ⟨lg, d, rfl, X, k⟩ := h
    obtain ⟨dx, an, el, lt, t, pl, as, hl, S⟩ := X.log.get
    obtain ⟨da, ha⟩ := S.sea
    refine ⟨_, (pss_cons (ps_set (i := 1) sc_hh_all.nd rfl (by first | exact Or.inl rfl | exact Or.inr rfl) (pe_call (ok_the_plan T B) (hr.mono (by decide)) (by rfl) T.the_plan.mg T.the_plan.fn.kp T.the_plan.bd .nil pass0 (pa_cons (pe_fld (pv 0) rfl) (pa_cons pe_int pa_nil)))) (pss_cons (ps_if (pt_cmpR op_eq (pe_callB call_len_seq (by rfl) T.n_len PySem.boot_len (pa_cons (pv 1) pa_nil)) pe_int (nomark _)) (pss_one (ps_ret (pe_lst (pa_cons (pe_cst (by rfl) T.c_NOBODY) pa_nil)))) pss_nil) (pss_cons (ps_set (i := 2) sc_hh_all.nd rfl (by first | exact Or.inl rfl | exact Or.inr rfl) (pe_callB (cr_sum rfl) (by rfl) T.n_sum boot_sum (pa_cons (pe_lc rfl sc_hh_all.nd (pi_list (pv 1)) (blkOk_by (N := ["log", "plan", "takes", "sea", "p"]) (sc := defScope st_hh_all) (own := [("p", 4)]) (by decide +kernel)) (fun _ _ _ _ _ => (pg_name (i := 4) sc_hh_all.nd rfl (by first | exact Or.inl rfl | exact Or.inr rfl))) (fun _ _ _ _ _ => pts_nil) (fun _ _ _ _ _ => (pe_fldK (K := K) rfl (pe_ix (ix_listK (K := K) rfl) (pe_fldK (K := K) rfl (pe_fldK (K := K) rfl (pv 0) rfl) rfl) (pv 4) (fun _ _ => rfl)) rfl))) pa_nil))) (pss_cons (ps_if (pt_cmpR op_gt (pe_op op_add (pe_fld (pe_fld (pv 0) rfl) rfl) (pv 2)) (pe_cst (by rfl) T.c_LAST_MINUTE) (nomark _)) (pss_one (ps_ret (pe_lst (pa_cons (pe_cst (by rfl) T.c_TOO_LATE) pa_nil)))) pss_nil) (pss_cons (ps_set (i := 3) sc_hh_all.nd rfl (by first | exact Or.inl rfl | exact Or.inr rfl) (pe_meth0 (pe_fld (pv 0) rfl) T.C_Sea.cl T.Sea_duplicate.me (ok_Sea_duplicate T) (hr.mono (by decide)) T.Sea_duplicate.bd .nil pass0)) (pss_cons (ps_for PassesOwn.never rfl (pi_list (pv 1)) (pg_name (i := 4) sc_hh_all.nd rfl (by first | exact Or.inl rfl | exact Or.inr rfl)) (pss_one (ps_expr (pe_call (ok_take_up T) (hr.mono (by decide)) (by rfl) T.take_up.mg T.take_up.fn.kp T.take_up.bd .nil pass0 (pa_cons (pv 3) (pa_cons (pv 4) pa_nil)))))) (pss_cons (ps_expr (pe_meth (pv 0) T.C_Log.cl T.Log_change_to.me (ok_Log_change_to T) (hr.mono (by decide)) T.Log_change_to.bd .nil pass0 (pa_cons (pv 3) pa_nil))) (pss_one (ps_ret (pe_lst (pa_cons (pe_callB call_len_seq (by rfl) T.n_len PySem.boot_len (pa_cons (pv 1) pa_nil)) (pa_cons (pe_fld (pv 3) rfl) (pa_cons (pe_callB call_len_seq (by rfl) T.n_len PySem.boot_len (pa_cons (pe_meth (pv 3) T.C_Sea.cl T.Sea_numbers_of.me (ok_Sea_numbers_of T) (hr.mono (by decide)) T.Sea_numbers_of.bd .nil pass0 (pa_cons (pe_cst (by rfl) T.c_WAITS) pa_nil)) pa_nil)) pa_nil))))))))))))), ?_⟩
    refine ⟨_, rfl, lg, _, dx, _, _, rfl, hl, T.C_Log.cl, T.nLog_now, rfl, an, t, pl, as, d.now, 0, rfl, S, X.ok.now.few, X.tab, by omega, fun L H1 sm1 hT1 nL hL => ?_⟩
    have hlen : (d.now.plan 0).length ≤ 9 := Nat.le_trans (plan_len d.now 0) X.ok.now.few
    have rdy := plan_ready d.now
    rw [act_all] at k
    generalize hpn : d.now.plan 0 = pn at *
    have X1 : DeskAt A H1 lg d := ⟨X.log.sm sm1, X.ok, hT1⟩
    have S1 := S.sm sm1
    have ha1 := sm1.ins ha
    have hl1 := sm1.ins hl
    refine ⟨_, rfl, L, _, rfl, .inl (SqL.of hL), rfl, _, rfl, ?_⟩
    have e0 : decide (V.int ((numsV pn).length : Int) = V.int 0) = decide (pn = []) := by
      rw [List.length_map, dec_int1, decide_eq_decide]
      constructor
      · intro z
        exact List.length_eq_zero_iff.mp (by omega)
      · intro z
        rw [z]
        rfl
    show if decide (V.int ((numsV pn).length : Int) = V.int 0) = true then _ else _
    rw [e0]
    refine ite2 (fun h1 => ?_) (fun h1 => ?_)
    · have h1 := of_decide_eq_true h1
      rw [if_pos h1] at k
      exact ⟨(by show 1 ≤ sizeLine; decide), fun D nD => k.stay X sm1 hT1 rfl nD⟩
    have h1 : ¬ pn = [] := fun z => h1 (decide_eq_true z)
    rw [if_neg h1, fold_time rdy] at k
    -- takes = sum([...])
    refine ⟨_, rfl, L, rfl, ⟨_, SqL.of hL⟩, ?_⟩
    intro Z nZ
    refine lc_list (K := K) (a := L) (xs := numsV pn) (fun i H' => Same H1 H' ∧ H' Z = some (.lst ((((pn.take i).map fun p => (d.now.person p).takes).map fun (n : Nat) => (n : Int)).map V.int)))
      ⟨same_upd (Same.refl _) nZ, upd_same⟩ (fun i H' _ ⟨sm, _⟩ => SqL.of (sm _ _ hL)) ?_ ?_
    · rintro i y H' hi ⟨sm, hZ⟩
      obtain ⟨p, hp, rfl⟩ := get_map hi
      obtain ⟨x, hx, _⟩ := rdy.wait p (List.mem_of_getElem? hp)
      obtain ⟨b, hb, db, hbx⟩ := S1.per.get hx
      refine ⟨rfl, ?_⟩
      refine ⟨_, rfl, lg, _, dx, _, _, rfl, sm _ _ hl1, T.C_Log.cl, T.nLog_now, rfl, an, _, da, _, _, rfl, sm _ _ ha1, T.C_Sea.cl, T.nSea_persons, rfl, _, rfl, pl, _, _, V.ref b, rfl, rfl, SqL.of (sm _ _ S1.lst), at_of (j := p) rfl (by rw [List.getElem?_map, hb]; rfl), b, _, db, _, _, rfl, sm _ _ hbx, T.C_Person.cl, T.nPerson_takes, rfl, _, hZ, ?_, same_upd sm nZ, ?_⟩
      · rw [List.length_map, List.length_map, List.length_map, List.length_take]
        exact small9 (by omega)
      · rw [upd_same, map_snoc _ hp, List.map_append, List.map_append, person_at hx]
        rfl
    rintro H2 ⟨sm2, hZ⟩
    rw [List.length_map, List.take_length] at hZ
    refine ⟨Z, _, rfl, SqL.of hZ, ?_⟩
    rw [sum_cast]
    have smT : Sm H H2 := sm1.trans (.of sm2)
    have hT2 := hT1.same sm2
    have hl2 := sm2 _ _ hl1
    have ha2 := sm2 _ _ ha1
    have S2 := S1.sm (.of sm2)
    refine ⟨_, rfl, lg, _, dx, _, _, rfl, hl2, T.C_Log.cl, T.nLog_now, rfl, an, _, da, _, _, rfl, ha2, T.C_Sea.cl, T.nSea_minute, rfl, _, rfl, _, _, rfl, rfl, _, _, rfl, rfl, _, rfl, ?_⟩
    refine ite2 (fun h3 => ?_) (fun h3 => ?_)
    · have h3 : 100000 < d.now.time + (pn.map fun p => (d.now.person p).takes).sum := by have := of_decide_eq_true h3; omega
      rw [if_pos (show Km449.LATEST < d.now.time + (pn.map fun p => (d.now.person p).takes).sum from h3)] at k
      exact ⟨(by show 1 ≤ sizeLine; decide), fun D nD => k.stay X smT hT2 rfl nD⟩
    have h3 : ¬ 100000 < d.now.time + (pn.map fun p => (d.now.person p).takes).sum := fun z => h3 (decide_eq_true (by omega))
    rw [if_neg (show ¬ Km449.LATEST < d.now.time + (pn.map fun p => (d.now.person p).takes).sum from h3)] at k
    have X2 : DeskAt A H2 lg d := ⟨X.log.sm smT, X.ok, hT2⟩
    refine ⟨_, rfl, lg, _, dx, _, _, rfl, hl2, T.C_Log.cl, T.nLog_now, rfl, an, da, _, rfl, ha2, rfl, an, t, pl, as, d.now, rfl, S2, X.ok.now.few, fun a' pl' as' H3 sm3 na npl nas S3 => ?_⟩
    have hL2 := sm2 _ _ hL
    refine ⟨_, rfl, L, rfl, ⟨_, SqL.of (sm3 _ _ hL2)⟩, ?_⟩
    refine for_list (K := K) (a := L) (xs := numsV pn) (fun i σ H' => ∃ v : Option V, σ = [some (.ref lg), some (.ref L), some (.int ((pn.map fun p => (d.now.person p).takes).sum : Nat)), some (.ref a'), v] ∧ Same H2 H' ∧ SeaAt A H' a' t pl' as' ((pn.take i).foldl Km449.Sea.takeUp d.now))
      ⟨none, rfl, sm3, S3⟩ (fun i σ H' _ ⟨_, _, sm, _⟩ => SqL.of (sm _ _ hL2)) ?_ ?_
    · rintro i y σ H' hi ⟨v, rfl, sm, S4⟩
      obtain ⟨p, hp, rfl⟩ := get_map hi
      have hi9 : i < pn.length := (List.getElem?_eq_some_iff.mp hp).1
      have r4 := rdy.drop i (by omega)
      have hpe : pn[i] = p := (List.getElem?_eq_some_iff.mp hp).2
      rw [List.drop_eq_getElem_cons hi9, hpe] at r4
      obtain ⟨x, hx, hx0⟩ := r4.wait p (List.mem_cons_self ..)
      refine ⟨_, rfl, _, rfl, a', t, pl', as', _, p, x, rfl, S4, hx, hx0, fun H5 S5 fr => ?_⟩
      refine ⟨some (.int (p : Nat)), rfl, same_mut sm na nas fr, ?_⟩
      rw [take_snoc hp, List.foldl_append]
      exact S5
    rintro σ H4 ⟨v, rfl, sm4, S4⟩
    rw [List.length_map, List.take_length] at S4
    have hl4 := sm4 _ _ hl2
    refine ⟨_, rfl, lg, dx, _, rfl, hl4, rfl, _, rfl, lg, a', d, _, rfl, X2.log.sm (.of sm4), ⟨t, pl', as', S4⟩, fun H5 f l => ?_⟩
    have hok := X.ok.now.fold rdy
    obtain ⟨f5, fr5, X5⟩ := desk_put X2 hl2 sm4 f l hok
    obtain ⟨da4, ha4⟩ := S4.sea
    have ha5 := f _ _ ha4 (ne_of ha4 hl4 sl_ne)
    have hL5 := f _ _ (sm4 _ _ hL2) (ne_of (sm4 _ _ hL2) hl4 (by intro q; cases q))
    obtain ⟨t5, pl5, as5, S5⟩ : SeaIn A H5 a' (pn.foldl Km449.Sea.takeUp d.now) := SeaIn.smB ⟨t, pl', as', S4⟩ hl4 f.smB
    refine ⟨_, rfl, L, _, rfl, .inl (SqL.of hL5), _, rfl, a', _, da4, _, _, rfl, ha5, T.C_Sea.cl, T.nSea_minute, rfl, _, rfl, a', da4, _, rfl, ha5, rfl, a', t5, pl5, as5, _, 0, rfl, S5, hok.few, fun D6 H6 sm6 n6 hD6 => ⟨D6, _, rfl, .inl (SqL.of hD6), (by show 3 ≤ sizeLine; decide), fun D nD => ?_⟩⟩
    have fA : SmB lg H H6 := ((SmB.of smT).trans f5).trans (.of (.of sm6))
    refine RetP.done k fA (fun D nD => smT.free (fr5 D (sm6.free nD))) ⟨X5.log.sm (.of sm6), X5.ok, X5.tab.same sm6⟩ ?_ nD
    rw [List.length_map, List.length_map, fold_time rdy]
    rfl

def sp_hh_start (A : Adr) : Sp := fun vs H Q _ => ∃ (lg tl dx : Addr) (n e u : V) (w : Nat) (tbl : List Nat), vs = [.ref lg, .int w, .ref tl] ∧ H lg = some (.ins A.CLog dx (lfv n e u)) ∧ H tl = some (.lst (numsV tbl)) ∧ tbl.length = 24 ∧ TabL A H ∧
  (Km449.okStart w tbl = false → AnsP A H Q [-22]) ∧ (Km449.okStart w tbl = true → RetP A H lg Q (⟨Km449.opened w tbl, [], []⟩, Km449.only 0))
theorem okStart_iff {w : Nat} {tbl : List Nat} (h : tbl.length = 24) : Km449.okStart w tbl = true ↔ w ≤ 4 ∧ ∀ x ∈ tbl, 1 ≤ x ∧ x ≤ 10000 := by
  unfold Km449.okStart
  rw [Bool.and_eq_true, Bool.and_eq_true, decide_eq_true_iff, List.all_eq_true]
  constructor
  · rintro ⟨h1, _, h3⟩
    exact ⟨h1, fun x hx => by have := h3 x hx; simpa using this⟩
  · rintro ⟨h1, h3⟩
    refine ⟨h1, by rw [h]; rfl, fun x hx => by have := h3 x hx; simpa using this⟩
theorem ok_hh_start (T : Txt K mg A) : FnOk P w K mg base CX0 3 A.f_hh_start A.d_hh_start ["log", "water", "table"] (sp_hh_start A) := by
  refine T.hh_start.fn.ok sc_hh_start (fun vs H Q E h => ?_) (fun cdv Ar outer s H vs Q E hr h => ?_)
  · obtain ⟨lg, tl, dx, n, e, u, w, tbl, rfl, _⟩ := h
    rfl
  · obtain ⟨lg, tl, dx, n, e, u, w, tbl, rfl, hl, ht, h24, hT, k1, k2⟩ := h
    refine ⟨_, (pss_cons (ps_if (PW.pt (pw_or (pt_cmpR op_gt (pv 1) (pe_cst (by rfl) T.c_WARMEST) (nomark _)) (pw_or1 (pt_val (pe_callB (cr_any rfl) (by rfl) T.n_any boot_any (pa_cons (pe_lc rfl sc_hh_start.nd (pi_list (pv 2)) (blkOk_by (N := ["log", "water", "table", "told"]) (sc := defScope st_hh_start) (own := [("told", 3)]) (by decide +kernel)) (fun _ _ _ _ _ => (pg_name (i := 3) sc_hh_start.nd rfl (by first | exact Or.inl rfl | exact Or.inr rfl))) (fun _ _ _ _ _ => pts_nil) (fun _ _ _ _ _ => (pe_or (pe_cmpR op_lt (pv 3) pe_int (nomark _)) (pe_one (pe_cmpR op_gt (pv 3) (pe_cst (by rfl) T.c_TOLD_MOST) (nomark _)))))) pa_nil)))))) (pss_one (ps_ret (pe_lst (pa_cons (pe_cst (by rfl) T.c_NOT_ALLOWED) pa_nil)))) pss_nil) (pss_cons (ps_expr (pe_meth (pv 0) T.C_Log.cl T.Log_begin.me (ok_Log_begin T) (hr.mono (by decide)) T.Log_begin.bd .nil pass0 (pa_cons (pe_make T.C_Sea.made (ok_Sea_init T) (hr.mono (by decide)) (by rfl) T.C_Sea.mg T.Sea_init.bd .nil pass0 (pa_cons (pv 1) (pa_cons (pv 2) (pa_cons pe_int (pa_cons (pe_lst pa_nil) pa_nil))))) pa_nil))) (pss_one (ps_ret (pe_lst (pa_cons pe_int pa_nil)))))), ?_⟩
    refine ⟨_, rfl, _, _, rfl, rfl, _, rfl, ?_⟩
    refine ite2 (fun h1 => ?_) (fun h1 => ?_)
    · have h1 : 4 < w := by have := of_decide_eq_true h1; omega
      have k := k1 (by
        cases q : Km449.okStart w tbl with
        | false => rfl
        | true => have := (okStart_iff h24).mp q; omega)
      exact ⟨(by show 1 ≤ sizeLine; decide), fun D nD => k.ret (Sm.refl _) hT rfl nD⟩
    have h1 : ¬ 4 < w := fun z => h1 (decide_eq_true (by omega))
    refine ⟨_, rfl, tl, rfl, ⟨_, SqL.of ht⟩, ?_⟩
    intro Z nZ
    refine lc_list (K := K) (a := tl) (xs := numsV tbl) (fun i H' => Same H H' ∧ H' Z = some (.lst (((tbl.take i).map fun x => !decide (1 ≤ x ∧ x ≤ 10000)).map V.bl)))
      ⟨same_upd (Same.refl _) nZ, upd_same⟩ (fun i H' _ ⟨sm, _⟩ => SqL.of (sm _ _ ht)) ?_ ?_
    · rintro i y H' hi ⟨sm, hZ⟩
      obtain ⟨x, hx, rfl⟩ := get_map hi
      have fin : ∀ b : Bool, b = (!decide (1 ≤ x ∧ x ≤ 10000)) → ∃ acc, H' Z = some (.lst acc) ∧ acc.length < sizeLine ∧ Same H (upd H' Z (.lst (acc ++ [V.bl b]))) ∧ (upd H' Z (.lst (acc ++ [V.bl b]))) Z = some (.lst (((tbl.take (i + 1)).map fun x => !decide (1 ≤ x ∧ x ≤ 10000)).map V.bl)) := fun b hb => by
        refine ⟨_, hZ, ?_, same_upd sm nZ, ?_⟩
        · rw [List.length_map, List.length_map, List.length_take]
          exact small1000 (by omega)
        · rw [upd_same, map_snoc _ hx, List.map_append, hb]
          rfl
      refine ⟨rfl, ?_⟩
      refine ⟨_, rfl, _, _, rfl, rfl, _, rfl, ?_⟩
      refine ite2 (fun h2 => ?_) (fun h2 => ?_)
      · have h2 := of_decide_eq_true h2
        refine fin true ?_
        rw [decide_eq_false (by omega)]
        rfl
      · have h2 : ¬ ((x : Int) < 1) := fun z => h2 (decide_eq_true z)
        refine ⟨_, rfl, _, _, rfl, rfl, fin _ ?_⟩
        by_cases h3 : (10000 : Int) < (x : Int)
        · rw [decide_eq_true h3, decide_eq_false (by omega)]
          rfl
        · rw [decide_eq_false h3, decide_eq_true (by omega)]
          rfl
    rintro H2 ⟨sm2, hZ⟩
    rw [List.length_map, List.take_length] at hZ
    refine ⟨Z, _, rfl, SqL.of hZ, _, rfl, ?_⟩
    have hT2 := hT.same sm2
    have hany : ((tbl.map fun x => !decide (1 ≤ x ∧ x ≤ 10000)).any id = true) ↔ ¬ ∀ x ∈ tbl, 1 ≤ x ∧ x ≤ 10000 := by
      rw [List.any_eq_true]
      constructor
      · rintro ⟨b, hb, hb1⟩ hall
        obtain ⟨x, hx, rfl⟩ := List.mem_map.mp hb
        have := hall x hx
        simp [this] at hb1
      · intro hn
        apply Classical.byContradiction
        intro hc
        apply hn
        intro x hx
        apply Classical.byContradiction
        intro hx1
        exact hc ⟨_, List.mem_map.mpr ⟨x, hx, rfl⟩, by show (!decide (1 ≤ x ∧ x ≤ 10000)) = true; rw [decide_eq_false hx1]; rfl⟩
    refine ite2 (fun h4 => ?_) (fun h4 => ?_)
    · have k := k1 (by
        cases q : Km449.okStart w tbl with
        | false => rfl
        | true => exact absurd ((okStart_iff h24).mp q).2 (hany.mp h4))
      exact ⟨(by show 1 ≤ sizeLine; decide), fun D nD => k.ret (.of sm2) hT2 rfl nD⟩
    have hall : ∀ x ∈ tbl, 1 ≤ x ∧ x ≤ 10000 := Classical.byContradiction fun z => h4 (hany.mpr z)
    have k := k2 ((okStart_iff h24).mpr ⟨by omega, hall⟩)
    have hl2 := sm2 _ _ hl
    have ht2 := sm2 _ _ ht
    refine ⟨_, rfl, lg, dx, _, rfl, hl2, rfl, _, rfl, _, rfl, Nat.zero_le _, fun E1 nE => ?_⟩
    have smE : Same H2 (upd H2 E1 (.lst [])) := same_upd (Same.refl _) nE
    intro a2 d2 na nd2 ne2
    refine ⟨a2, d2, _, _, _, _, rfl, upd_same, rfl, ?_⟩
    rw [upd_upd]
    have sm3 := smE.trans (same_new2 (o := .ins A.CSea d2 (sfv (.int w) (.ref tl) (.int 0) (.ref E1))) (u := .own a2) na nd2)
    have hl3 := sm3 _ _ hl2
    have S3 : SeaAt A (upd (upd (upd H2 E1 (.lst [])) d2 (.own a2)) a2 (.ins A.CSea d2 (sfv (.int w) (.ref tl) (.int 0) (.ref E1)))) a2 tl E1 [] (Km449.opened w tbl) :=
      ⟨⟨d2, upd_same⟩, sm3 _ _ ht2, same_new2 na nd2 _ _ upd_same, ne_of_none ht2 nE, List.nodup_nil, rfl, fun j b x h1 _ => by simp at h1⟩
    refine ⟨lg, dx, a2, n, e, u, _, rfl, hl3, ⟨tl, E1, [], S3⟩, fun H4 f l => ?_⟩
    have smA := sm2.trans sm3
    have hok : SeaOk (Km449.opened w tbl) := ⟨⟨h24, hall⟩, by show w ≤ 4; omega, Nat.zero_le _, fun x hx => by simp [Km449.opened] at hx, fun x hx => by simp [Km449.opened] at hx⟩
    obtain ⟨dx', an, el, lt, t', pl', as', h1', _⟩ := l.get
    refine ⟨(by show 1 ≤ sizeLine; decide), fun D nD => RetP.done k ((SmB.of (.of smA)).trans f.smB) (fun D nD => ?_) ⟨l, ⟨hok, fun s hs => by simp at hs, fun s hs => by simp at hs⟩, (hT.same smA).sameB hl3 f⟩ rfl nD⟩
    cases q : H D with
    | none => rfl
    | some o =>
      by_cases hD : D = lg
      · rw [hD, h1'] at nD; cases nD
      · rw [f D o (smA D o q) hD] at nD; cases nD
end
end Hh
set_option Elab.async false
set_option linter.all false
set_option maxRecDepth 100000
set_option maxHeartbeats 2000000
namespace Hh
open PySem PySem.Spec PyProof.Rows L2

def RetD (A : Adr) (lg : Addr) (Q : VK) (y : Km449.Desk × Km449.Ans) : Prop := ∀ D H', DeskAt A H' lg y.1 → H' D = some (.lst ((Km449Neutral.told y.2).map V.int)) → Q (.ref D) H'
theorem RetD.ret {A : Adr} {H : Hp} {lg : Addr} {Q : VK} {d : Km449.Desk} {a : Km449.Ans} (k : RetD A lg Q (d, a)) (x : DeskAt A H lg d) {xs : List V} (e : xs = (Km449Neutral.told a).map V.int) {D : Addr} (nD : H D = none) : Q (.ref D) (upd H D (.lst xs)) := by
  have sm2 : Sm H (upd H D (.lst xs)) := (Sm.refl _).upd nD
  exact k D _ ⟨x.log.sm sm2, x.ok, x.tab.upd (xs := []) (.inl nD)⟩ (by rw [upd_same, e])
theorem act_back (d : Km449.Desk) : Km449.act d .back = match d.past with
    | [] => (d, Km449.only (-2))
    | k :: r => (⟨k, r, d.now :: d.future⟩, Km449.only ((r.length : Nat) : Int)) := rfl
theorem act_again (d : Km449.Desk) : Km449.act d .again = match d.future with
    | [] => (d, Km449.only (-2))
    | k :: r => (⟨k, (d.now :: d.past).take 20, r⟩, Km449.only ((r.length : Nat) : Int)) := rfl
theorem act_state (d : Km449.Desk) : Km449.act d .state = (d, ⟨((d.now.time : Nat) : Int), [d.now.water, d.past.length, d.future.length]⟩) := rfl
theorem len_zero {α : Type} {es : List Addr} {ss : List α} (h : es.length = ss.length) : decide (V.int ((es.map V.ref).length : Int) = V.int 0) = decide (ss.length = 0) := by
  rw [List.length_map, h]
  exact dec_nat (m := 0)

section
variable {P : Program} {w : World} {K : PySem.W.Frag} {mg : Str → Option Value} {base : Heap} {A : Adr}
def sp_hh_back (A : Adr) : Sp := fun vs H Q _ => ∃ (lg : Addr) (d : Km449.Desk), vs = [.ref lg] ∧ DeskAt A H lg d ∧ RetD A lg Q (Km449.act d .back)
theorem ok_hh_back (T : Txt K mg A) : FnOk P w K mg base CX0 2 A.f_hh_back A.d_hh_back ["log"] (sp_hh_back A) := by
  refine T.hh_back.fn.ok sc_hh_back (fun vs H Q E h => ?_) (fun cdv Ar outer s H vs Q E hr h => ?_)
  · obtain ⟨lg, d, rfl, _⟩ := h
    rfl
  · obtain ⟨lg, d, rfl, X, k⟩ := h
    obtain ⟨dx, an, el, lt, es, ls, hl, he, hlt, nelt, hnow, hpast, hfut⟩ := X.log.at_
    have elen : es.length = d.past.length := by have := hpast.len; rwa [List.length_reverse] at this
    refine ⟨_, (pss_cons (ps_if (pt_cmpR op_eq (pe_callB call_len_seq (by rfl) T.n_len PySem.boot_len (pa_cons (pe_fld (pv 0) rfl) pa_nil)) pe_int (nomark _)) (pss_one (ps_ret (pe_lst (pa_cons (pe_cst (by rfl) T.c_NOT_THERE) pa_nil)))) pss_nil) (pss_cons (ps_expr (pe_meth0 (pv 0) T.C_Log.cl T.Log_take_back.me (ok_Log_take_back T) (hr.mono (by decide)) T.Log_take_back.bd .nil pass0)) (pss_one (ps_ret (pe_lst (pa_cons (pe_callB call_len_seq (by rfl) T.n_len PySem.boot_len (pa_cons (pe_fld (pv 0) rfl) pa_nil)) pa_nil)))))), ?_⟩
    rw [act_back] at k
    refine ⟨_, rfl, lg, _, dx, _, _, rfl, hl, T.C_Log.cl, T.nLog_earlier, rfl, el, _, rfl, .inl (SqL.of he), rfl, _, rfl, ?_⟩
    show if decide (V.int ((es.map V.ref).length : Int) = V.int 0) = true then _ else _
    rw [len_zero elen]
    refine ite2 (fun h1 => ?_) (fun h1 => ?_)
    · have h1 := List.length_eq_zero_iff.mp (of_decide_eq_true h1)
      rw [h1] at k
      exact ⟨(by show 1 ≤ sizeLine; decide), fun D nD => k.ret X rfl nD⟩
    · cases hp : d.past with
      | nil => exact absurd (decide_eq_true (by rw [hp]; rfl)) h1
      | cons k0 r =>
        rw [hp] at k
        refine ⟨_, rfl, lg, dx, _, rfl, hl, rfl, lg, d, k0, r, rfl, X.log, hp, fun H1 f l => ?_⟩
        obtain ⟨dx1, an1, el1, lt1, es1, ls1, hl1, he1, _, _, _, hpast1, _⟩ := l.at_
        have elen1 : es1.length = r.length := by have := hpast1.len; rwa [List.length_reverse] at this
        have X1 : DeskAt A H1 lg ⟨k0, r, d.now :: d.future⟩ := ⟨l, ⟨X.ok.past k0 (by rw [hp]; exact List.mem_cons_self ..), fun s hs => X.ok.past s (by rw [hp]; exact List.mem_cons_of_mem _ hs), fun s hs => by
          rcases List.mem_cons.mp hs with rfl | hs
          · exact X.ok.now
          · exact X.ok.future s hs⟩, X.tab.keeps f⟩
        refine ⟨_, rfl, lg, _, dx1, _, _, rfl, hl1, T.C_Log.cl, T.nLog_earlier, rfl, el1, _, rfl, .inl (SqL.of he1), (by show 1 ≤ sizeLine; decide), fun D nD => k.ret X1 ?_ nD⟩
        rw [List.length_map, elen1]
        rfl
def sp_hh_again (A : Adr) : Sp := fun vs H Q _ => ∃ (lg : Addr) (d : Km449.Desk), vs = [.ref lg] ∧ DeskAt A H lg d ∧ RetD A lg Q (Km449.act d .again)
theorem ok_hh_again (T : Txt K mg A) : FnOk P w K mg base CX0 2 A.f_hh_again A.d_hh_again ["log"] (sp_hh_again A) := by
  refine T.hh_again.fn.ok sc_hh_again (fun vs H Q E h => ?_) (fun cdv Ar outer s H vs Q E hr h => ?_)
  · obtain ⟨lg, d, rfl, _⟩ := h
    rfl
  · obtain ⟨lg, d, rfl, X, k⟩ := h
    obtain ⟨dx, an, el, lt, es, ls, hl, he, hlt, nelt, hnow, hpast, hfut⟩ := X.log.at_
    have llen : ls.length = d.future.length := by have := hfut.len; rwa [List.length_reverse] at this
    refine ⟨_, (pss_cons (ps_if (pt_cmpR op_eq (pe_callB call_len_seq (by rfl) T.n_len PySem.boot_len (pa_cons (pe_fld (pv 0) rfl) pa_nil)) pe_int (nomark _)) (pss_one (ps_ret (pe_lst (pa_cons (pe_cst (by rfl) T.c_NOT_THERE) pa_nil)))) pss_nil) (pss_cons (ps_expr (pe_meth0 (pv 0) T.C_Log.cl T.Log_do_again.me (ok_Log_do_again T) (hr.mono (by decide)) T.Log_do_again.bd .nil pass0)) (pss_one (ps_ret (pe_lst (pa_cons (pe_callB call_len_seq (by rfl) T.n_len PySem.boot_len (pa_cons (pe_fld (pv 0) rfl) pa_nil)) pa_nil)))))), ?_⟩
    rw [act_again] at k
    refine ⟨_, rfl, lg, _, dx, _, _, rfl, hl, T.C_Log.cl, T.nLog_later, rfl, lt, _, rfl, .inl (SqL.of hlt), rfl, _, rfl, ?_⟩
    show if decide (V.int ((ls.map V.ref).length : Int) = V.int 0) = true then _ else _
    rw [len_zero llen]
    refine ite2 (fun h1 => ?_) (fun h1 => ?_)
    · have h1 := List.length_eq_zero_iff.mp (of_decide_eq_true h1)
      rw [h1] at k
      exact ⟨(by show 1 ≤ sizeLine; decide), fun D nD => k.ret X rfl nD⟩
    · cases hp : d.future with
      | nil => exact absurd (decide_eq_true (by rw [hp]; rfl)) h1
      | cons k0 r =>
        rw [hp] at k
        refine ⟨_, rfl, lg, dx, _, rfl, hl, rfl, lg, d, k0, r, rfl, X.log, hp, fun H1 f l => ?_⟩
        obtain ⟨dx1, an1, el1, lt1, es1, ls1, hl1, _, hlt1, _, _, _, hfut1⟩ := l.at_
        have llen1 : ls1.length = r.length := by have := hfut1.len; rwa [List.length_reverse] at this
        have X1 : DeskAt A H1 lg ⟨k0, (d.now :: d.past).take 20, r⟩ := ⟨l, ⟨X.ok.future k0 (by rw [hp]; exact List.mem_cons_self ..), fun s hs => by
          rcases List.mem_cons.mp (List.mem_of_mem_take hs) with rfl | hs
          · exact X.ok.now
          · exact X.ok.past s hs, fun s hs => X.ok.future s (by rw [hp]; exact List.mem_cons_of_mem _ hs)⟩, X.tab.keeps f⟩
        refine ⟨_, rfl, lg, _, dx1, _, _, rfl, hl1, T.C_Log.cl, T.nLog_later, rfl, lt1, _, rfl, .inl (SqL.of hlt1), (by show 1 ≤ sizeLine; decide), fun D nD => k.ret X1 ?_ nD⟩
        rw [List.length_map, llen1]
        rfl
def sp_hh_state (A : Adr) : Sp := fun vs H Q _ => ∃ (lg : Addr) (d : Km449.Desk), vs = [.ref lg] ∧ DeskAt A H lg d ∧ RetD A lg Q (Km449.act d .state)
theorem ok_hh_state (T : Txt K mg A) : FnOk P w K mg base CX0 1 A.f_hh_state A.d_hh_state ["log"] (sp_hh_state A) := by
  refine T.hh_state.fn.ok sc_hh_state (fun vs H Q E h => ?_) (fun cdv Ar outer s H vs Q E hr h => ?_)
  · obtain ⟨lg, d, rfl, _⟩ := h
    rfl
  · obtain ⟨lg, d, rfl, X, k⟩ := h
    obtain ⟨dx, an, el, lt, es, ls, hl, he, hlt, nelt, hnow, hpast, hfut⟩ := X.log.at_
    have elen : es.length = d.past.length := by have := hpast.len; rwa [List.length_reverse] at this
    have llen : ls.length = d.future.length := by have := hfut.len; rwa [List.length_reverse] at this
    obtain ⟨t, pl, as, S⟩ := hnow.sm (.of hid_same)
    obtain ⟨da, ha⟩ := S.sea
    refine ⟨_, (pss_one (ps_ret (pe_lst (pa_cons (pe_fld (pe_fld (pv 0) rfl) rfl) (pa_cons (pe_fld (pe_fld (pv 0) rfl) rfl) (pa_cons (pe_callB call_len_seq (by rfl) T.n_len PySem.boot_len (pa_cons (pe_fld (pv 0) rfl) pa_nil)) (pa_cons (pe_callB call_len_seq (by rfl) T.n_len PySem.boot_len (pa_cons (pe_fld (pv 0) rfl) pa_nil)) pa_nil))))))), ?_⟩
    rw [act_state] at k
    refine ⟨_, rfl, lg, _, dx, _, _, rfl, hl, T.C_Log.cl, T.nLog_now, rfl, an, _, da, _, _, rfl, ha, T.C_Sea.cl, T.nSea_minute, rfl, _, rfl, lg, _, dx, _, _, rfl, hl, T.C_Log.cl, T.nLog_now, rfl, an, _, da, _, _, rfl, ha, T.C_Sea.cl, T.nSea_water, rfl,
      _, rfl, lg, _, dx, _, _, rfl, hl, T.C_Log.cl, T.nLog_earlier, rfl, el, _, rfl, .inl (SqL.of he), _, rfl, lg, _, dx, _, _, rfl, hl, T.C_Log.cl, T.nLog_later, rfl, lt, _, rfl, .inl (SqL.of hlt), (by show 4 ≤ sizeLine; decide), fun D nD => k.ret X ?_ nD⟩
    rw [List.length_map, List.length_map, elen, llen]
    rfl
end
end Hh
set_option Elab.async false
set_option linter.all false
set_option maxRecDepth 100000
set_option maxHeartbeats 2000000
namespace Hh
open PySem PySem.Spec PyProof.Rows L2

/-- a list, or a list that is only read -/
inductive PlainO : HO → Prop
  | lst (xs : List V) : PlainO (.lst xs)
  | frz (o : Obj) (xs : List V) : PlainO (.frz o (.lst xs))
def joinH (S : List Addr) (H H' : Hp) : Hp := fun b => if b ∈ S then H b else H' b
theorem joinH_in {S : List Addr} {H H' : Hp} {b : Addr} (h : b ∈ S) : joinH S H H' b = H b := by unfold joinH; rw [if_pos h]
theorem joinH_out {S : List Addr} {H H' : Hp} {b : Addr} (h : b ∉ S) : joinH S H H' b = H' b := by unfold joinH; rw [if_neg h]
theorem PlainO.ok {P : Program} {w : World} {H H' : Hp} {h h' : Heap} {a : Addr} {o : HO} (p : PlainO o) (x : ObjOk P w H h a o) (e : ∀ u, h.get? a = some u → h'.get? a = some u) : ObjOk P w H' h' a o := by
  cases p with
  | lst xs =>
    obtain ⟨z, its, n, r, q⟩ := x
    exact ⟨z, its, n, r, e _ q⟩
  | frz ob xs =>
    obtain ⟨x1, z, its, n, r, q⟩ := x
    exact ⟨e _ x1, z, its, n, r, e _ q⟩
theorem plain_get {P : Program} {w : World} {H : Hp} {h : Heap} {a : Addr} {o : HO} (p : PlainO o) (x : ObjOk P w H h a o) : ∃ u, h.get? a = some u := by
  cases p with
  | lst xs =>
    obtain ⟨z, its, n, r, q⟩ := x
    exact ⟨_, q⟩
  | frz ob xs => exact ⟨_, x.1⟩
def framed (sp : Sp) : Sp := fun vs H Q E => ∃ S : List Addr, (∀ b ∈ S, ∃ o, H b = some o ∧ PlainO o) ∧ sp vs (hid S H) (fun v H' => (∀ b ∈ S, H' b = none) → Q v (joinH S H H')) E
theorem frame {P : Program} {w : World} {K : PySem.W.Frag} {mg : Str → Option Value} {base : Heap} {k : Nat} {f : Addr} {fd : FuncData} {ps : List Str} {sp : Sp} (F : FnOk P w K mg base CX0 k f fd ps sp) : FnOk P w K mg base CX0 k f fd ps (framed sp) := by
  refine ⟨fun vs H Q E ⟨S, _, h⟩ => F.len _ _ _ _ h, fun A outer s H args us vs Q E hr he hb hv ⟨S, hS, h⟩ => ?_⟩
  have own : ∀ b x, H b = some (.own x) → hid S H b = some (.own x) := fun b x e => by
    rw [hid_out fun z => ?_]
    · exact e
    · obtain ⟨o, q1, q2⟩ := hS b z
      rw [e] at q1
      cases q1
      cases q2
  have tup : ∀ b xs, H b = some (.tup xs) → hid S H b = some (.tup xs) := fun b xs e => by
    rw [hid_out fun z => ?_]
    · exact e
    · obtain ⟨o, q1, q2⟩ := hS b z
      rw [e] at q1
      cases q1
      cases q2
  have none' : ∀ b, H b = none → hid S H b = none := fun b e => by
    by_cases z : b ∈ S
    · exact hid_in z
    · rw [hid_out z]; exact e
  have e0 : Env0 P w K mg base A outer s (hid S H) := ⟨he.frames, he.mod, fun b o e => ⟨(he.bs b o e).1, none' b (he.bs b o e).2⟩, he.bsz, he.funs, fun b hb => none' b (he.frf b hb), fun b o e => (he.hok b o (hid_some e).2).stay (fun _ _ _ q => q) (fun b q => own b _ q) fun b xs q => tup b xs q, he.bare⟩
  refine codeAny_mono (F.run A outer s (hid S H) args us vs _ E hr e0 hb hv h) fun r s' x => ?_
  cases r with
  | error e => exact False.elim x
  | ok fl =>
    cases fl with
    | next => exact False.elim x
    | brk => exact False.elim x
    | cont => exact False.elim x
    | ret u =>
      obtain ⟨v, H', os, bare, un, hok', r', q⟩ := x
      have nfr : ∀ b ∈ S, b ∉ frs outer := fun b hb z => by
        obtain ⟨o, q1, _⟩ := hS b hb
        rw [he.frf b z] at q1
        cases q1
      have free : ∀ b ∈ S, H' b = none := fun b hb => by
        obtain ⟨o, q1, q2⟩ := hS b hb
        obtain ⟨u, hu⟩ := plain_get q2 (he.hok b o q1)
        exact un.free b u hu (hid_in hb) (by simp)
      have kept : ∀ b ∈ S, ∀ u, s.heap.get? b = some u → s'.heap.get? b = some u := fun b hb u hu => un.keep b u hu (hid_in hb) (nfr b hb) (by simp)
      have sm : ∀ b o, H' b = some o → joinH S H H' b = some o := fun b o e => by
        rw [joinH_out fun z => ?_]
        · exact e
        · rw [free b z] at e; cases e
      have none2 : ∀ b, H b = none → b ∉ S := fun b n z => by
        obtain ⟨o, q1, _⟩ := hS b z
        rw [n] at q1
        cases q1
      refine ⟨v, joinH S H H', os, bare, ⟨fun b o e n h1 h2 => un.keep b o e (none' b n) h1 h2, fun b o e n h1 h2 => un.slot b o e (none' b n) h1 h2, fun b o e n h2 => ?_, un.there, fun b xs e => ?_, fun b o u e => ?_, fun b ps e => ?_⟩, fun b o e => ?_, r', q free⟩
      · rw [joinH_out (none2 b n)]
        exact un.free b o e (none' b n) h2
      · exact sm b _ (un.tups b xs (tup b xs e))
      · by_cases z : b ∈ S
        · rw [joinH_in z]; exact e
        · exact sm b _ (un.frzs b o u (by rw [hid_out z]; exact e))
      · have z : b ∉ S := fun z => by
          obtain ⟨o, q1, q2⟩ := hS b z
          rw [e] at q1
          cases q1
          cases q2
        obtain ⟨more, q⟩ := un.tbls b ps (by rw [hid_out z]; exact e)
        exact ⟨more, sm b _ q⟩
      · by_cases z : b ∈ S
        · rw [joinH_in z] at e
          obtain ⟨o', q1, q2⟩ := hS b z
          rw [e] at q1
          cases q1
          exact q2.ok (he.hok b o e) (kept b z)
        · rw [joinH_out z] at e
          exact (hok' b o e).stay (fun _ _ _ q => q) (fun b q => sm b _ q) fun b xs q => sm b _ q
end Hh
set_option Elab.async false
set_option linter.all false
namespace Hh

theorem shape_cases {p : Int} {n m : Nat} (h : PyKm449.shape p = some (n, m)) : (p = 0 ∧ n = 1 ∧ m = 1) ∨ (m = 0 ∧ 0 < p ∧ p < 25 ∧ [2, 3, 1, 2, 2, 1, 1, 0, 1, 1, 1, 2, 0, 0, 1, 1, 2, 0, 1, 0, 1, 0, 0, 0, 0][p.toNat]? = some n) := by
  unfold PyKm449.shape at h
  by_cases e0 : p = 0
  · subst e0
    have h := Option.some.inj (show some (1, 1) = some (n, m) from h)
    cases h
    exact .inl ⟨rfl, rfl, rfl⟩
  rw [if_neg e0] at h
  by_cases e1 : p = 1
  · subst e1
    rw [if_pos rfl] at h
    cases h
    exact .inr ⟨rfl, by decide, by decide, rfl⟩
  rw [if_neg e1] at h
  by_cases e2 : p = 2
  · subst e2
    rw [if_pos rfl] at h
    cases h
    exact .inr ⟨rfl, by decide, by decide, rfl⟩
  rw [if_neg e2] at h
  by_cases e3 : p = 3
  · subst e3
    rw [if_pos rfl] at h
    cases h
    exact .inr ⟨rfl, by decide, by decide, rfl⟩
  rw [if_neg e3] at h
  by_cases e4 : p = 4
  · subst e4
    rw [if_pos rfl] at h
    cases h
    exact .inr ⟨rfl, by decide, by decide, rfl⟩
  rw [if_neg e4] at h
  by_cases e5 : p = 5
  · subst e5
    rw [if_pos rfl] at h
    cases h
    exact .inr ⟨rfl, by decide, by decide, rfl⟩
  rw [if_neg e5] at h
  by_cases e6 : p = 6
  · subst e6
    rw [if_pos rfl] at h
    cases h
    exact .inr ⟨rfl, by decide, by decide, rfl⟩
  rw [if_neg e6] at h
  by_cases e7 : p = 7
  · subst e7
    rw [if_pos rfl] at h
    cases h
    exact .inr ⟨rfl, by decide, by decide, rfl⟩
  rw [if_neg e7] at h
  by_cases e8 : p = 8
  · subst e8
    rw [if_pos rfl] at h
    cases h
    exact .inr ⟨rfl, by decide, by decide, rfl⟩
  rw [if_neg e8] at h
  by_cases e9 : p = 9
  · subst e9
    rw [if_pos rfl] at h
    cases h
    exact .inr ⟨rfl, by decide, by decide, rfl⟩
  rw [if_neg e9] at h
  by_cases e10 : p = 10
  · subst e10
    rw [if_pos rfl] at h
    cases h
    exact .inr ⟨rfl, by decide, by decide, rfl⟩
  rw [if_neg e10] at h
  by_cases e11 : p = 11
  · subst e11
    rw [if_pos rfl] at h
    cases h
    exact .inr ⟨rfl, by decide, by decide, rfl⟩
  rw [if_neg e11] at h
  by_cases e12 : p = 12
  · subst e12
    rw [if_pos rfl] at h
    cases h
    exact .inr ⟨rfl, by decide, by decide, rfl⟩
  rw [if_neg e12] at h
  by_cases e13 : p = 13
  · subst e13
    rw [if_pos rfl] at h
    cases h
    exact .inr ⟨rfl, by decide, by decide, rfl⟩
  rw [if_neg e13] at h
  by_cases e14 : p = 14
  · subst e14
    rw [if_pos rfl] at h
    cases h
    exact .inr ⟨rfl, by decide, by decide, rfl⟩
  rw [if_neg e14] at h
  by_cases e15 : p = 15
  · subst e15
    rw [if_pos rfl] at h
    cases h
    exact .inr ⟨rfl, by decide, by decide, rfl⟩
  rw [if_neg e15] at h
  by_cases e16 : p = 16
  · subst e16
    rw [if_pos rfl] at h
    cases h
    exact .inr ⟨rfl, by decide, by decide, rfl⟩
  rw [if_neg e16] at h
  by_cases e17 : p = 17
  · subst e17
    rw [if_pos rfl] at h
    cases h
    exact .inr ⟨rfl, by decide, by decide, rfl⟩
  rw [if_neg e17] at h
  by_cases e18 : p = 18
  · subst e18
    rw [if_pos rfl] at h
    cases h
    exact .inr ⟨rfl, by decide, by decide, rfl⟩
  rw [if_neg e18] at h
  by_cases e19 : p = 19
  · subst e19
    rw [if_pos rfl] at h
    cases h
    exact .inr ⟨rfl, by decide, by decide, rfl⟩
  rw [if_neg e19] at h
  by_cases e20 : p = 20
  · subst e20
    rw [if_pos rfl] at h
    cases h
    exact .inr ⟨rfl, by decide, by decide, rfl⟩
  rw [if_neg e20] at h
  by_cases e21 : p = 21
  · subst e21
    rw [if_pos rfl] at h
    cases h
    exact .inr ⟨rfl, by decide, by decide, rfl⟩
  rw [if_neg e21] at h
  by_cases e22 : p = 22
  · subst e22
    rw [if_pos rfl] at h
    cases h
    exact .inr ⟨rfl, by decide, by decide, rfl⟩
  rw [if_neg e22] at h
  by_cases e23 : p = 23
  · subst e23
    rw [if_pos rfl] at h
    cases h
    exact .inr ⟨rfl, by decide, by decide, rfl⟩
  rw [if_neg e23] at h
  by_cases e24 : p = 24
  · subst e24
    rw [if_pos rfl] at h
    cases h
    exact .inr ⟨rfl, by decide, by decide, rfl⟩
  rw [if_neg e24] at h
  cases h
/-- one call of the line: its words c, and where the next begins -/
inductive CallAt (l : List Int) (k : Nat) : Nat → List (List Int) → Prop
  | start {w m : Int} {row : List Int} (h0 : l[k]? = some 0) (h1 : l[k + 1]? = some w) (h2 : l[k + 2]? = some m) (h3 : 0 ≤ m) (h4 : (l.drop (k + 3)).take m.toNat = row) (h5 : row.length = m.toNat) : CallAt l k (k + 3 + m.toNat) [[0, w], row]
  | plain {p : Int} {n : Nat} {xs : List Int} (h0 : l[k]? = some p) (h1 : 0 < p) (h2 : p < 25) (h3 : [2, 3, 1, 2, 2, 1, 1, 0, 1, 1, 1, 2, 0, 0, 1, 1, 2, 0, 1, 0, 1, 0, 0, 0, 0][p.toNat]? = some n) (h4 : (l.drop (k + 1)).take n = xs) (h5 : xs.length = n) : CallAt l k (k + 1 + n) [p :: xs]
theorem drop_get {l : List Int} {k : Nat} {p : Int} {r : List Int} (h : l.drop k = p :: r) : l[k]? = some p ∧ l.drop (k + 1) = r := by
  constructor
  · have := List.getElem?_drop (xs := l) (i := k) (j := 0)
    rw [h] at this
    simpa using this.symm
  · rw [← List.drop_drop, h]
    rfl
theorem turn_of {l : List Int} {k f : Nat} {p : Int} {r : List Int} {cs : List (List (List Int))} (hk : l.drop k = p :: r) (h : PyFlat.calls PyKm449.shape f (p :: r) = some cs) :
    ∃ c cs' f' k', cs = c :: cs' ∧ CallAt l k k' c ∧ k < k' ∧ k' ≤ l.length ∧ PyFlat.calls PyKm449.shape f' (l.drop k') = some cs' := by
  cases f with
  | zero => simp [PyFlat.calls] at h
  | succ f =>
    unfold PyFlat.calls at h
    cases hc : PyFlat.call PyKm449.shape (p :: r) with
    | none => rw [hc] at h; cases h
    | some y =>
      obtain ⟨c, t⟩ := y
      rw [hc] at h
      dsimp only at h
      cases hcs : PyFlat.calls PyKm449.shape f t with
      | none => rw [hcs] at h; cases h
      | some cs' =>
        rw [hcs] at h
        cases h
        obtain ⟨g0, g1⟩ := drop_get hk
        have hkl : k + 1 + r.length = l.length := by
          have := congrArg List.length hk
          rw [List.length_drop, List.length_cons] at this
          omega
        unfold PyFlat.call at hc
        dsimp only at hc
        cases hs : PyKm449.shape p with
        | none => rw [hs] at hc; cases hc
        | some z =>
          obtain ⟨n, m⟩ := z
          rw [hs] at hc
          dsimp only at hc
          split at hc
          · cases hc
          · rename_i hn
            rcases shape_cases hs with ⟨rfl, rfl, rfl⟩ | ⟨rfl, hp1, hp2, hw⟩
            · -- the start
              cases r with
              | nil => simp at hn
              | cons w r =>
                simp only [List.drop_succ_cons, List.drop_zero] at hc
                unfold PyFlat.rows at hc
                cases hrow : PyFlat.row r with
                | none => rw [hrow] at hc; cases hc
                | some y =>
                  obtain ⟨row, s⟩ := y
                  rw [hrow] at hc
                  simp only [PyFlat.rows] at hc
                  cases hc
                  match r, hrow with
                  | m :: r, hrow =>
                    by_cases hm : 0 ≤ m ∧ m.toNat ≤ r.length
                    · have hrow : (if 0 ≤ m ∧ m.toNat ≤ r.length then some (r.take m.toNat, r.drop m.toNat) else none) = some (row, t) := hrow
                      rw [if_pos hm] at hrow
                      cases hrow
                      obtain ⟨g2, g3⟩ := drop_get g1
                      obtain ⟨g4, g5⟩ := drop_get g3
                      refine ⟨_, _, f, k + 3 + m.toNat, rfl, CallAt.start (w := w) (m := m) g0 g2 g4 hm.1 (by rw [g5]) ?_, by omega, ?_, ?_⟩
                      · rw [List.length_take]
                        omega
                      · simp only [List.length_cons] at hkl
                        omega
                      · rw [← List.drop_drop, g5]
                        exact hcs
                    · have hrow : (if 0 ≤ m ∧ m.toNat ≤ r.length then some (r.take m.toNat, r.drop m.toNat) else none) = some (row, t) := hrow
                      rw [if_neg hm] at hrow
                      cases hrow
            · simp only [PyFlat.rows] at hc
              cases hc
              refine ⟨_, _, f, k + 1 + n, rfl, CallAt.plain (n := n) g0 hp1 hp2 hw (by rw [g1]) ?_, by omega, by omega, ?_⟩
              · rw [List.length_take]
                omega
              · rw [← List.drop_drop, g1]
                exact hcs
theorem calls_nil {f : Nat} {cs : List (List (List Int))} (h : PyFlat.calls PyKm449.shape f [] = some cs) : cs = [] := by
  cases f <;> simp [PyFlat.calls] at h <;> exact h
end Hh
set_option Elab.async false
set_option linter.all false
set_option maxRecDepth 100000
set_option maxHeartbeats 2000000
namespace Hh
open PySem PySem.Spec PyProof.Rows L2

abbrev intsV (l : List Int) : List V := l.map V.int
theorem iteN {x y : Int} {A B : Prop} (h : x ≠ y) (hb : B) : if decide (V.int x = V.int y) = true then A else B := by
  rw [if_neg]
  · exact hb
  · rw [dec_int1, decide_eq_true_iff]
    exact h
theorem iteY {x : Int} {A B : Prop} (ha : A) : if decide (V.int x = V.int x) = true then A else B := by
  rw [if_pos (decide_eq_true rfl)]
  exact ha
theorem RetD.retP {A : Adr} {H : Hp} {lg : Addr} {Q : VK} {y : Km449.Desk × Km449.Ans} (k : RetD A lg Q y) : RetP A H lg Q y := fun D H' _ x _ h => k D H' x h
inductive ChgC : Int → List Int → Km449.Call → Prop
  | person (c r n : Nat) : ChgC 1 [(c : Int), (r : Int), (n : Int)] (.person c r n)
  | water (v : Nat) : ChgC 2 [(v : Int)] (.water v)
  | raft (p o : Nat) : ChgC 3 [(p : Int), (o : Int)] (.raft p o)
  | clothe (p c : Nat) : ChgC 4 [(p : Int), (c : Int)] (.clothe p c)
  | minutes (n : Nat) : ChgC 5 [(n : Int)] (.minutes n)
  | take (p : Nat) : ChgC 6 [(p : Int)] (.take p)
  | all : ChgC 7 [] .all
theorem ChgC.bd {p : Int} {xs : List Int} {c : Km449.Call} (h : ChgC p xs c) : 1 ≤ p ∧ p ≤ 7 := by cases h <;> decide
inductive AskC : Int → List Int → Km449.Call → Prop
  | left (p : Nat) : AskC 8 [(p : Int)] (.left p)
  | most (t : Nat) : AskC 9 [(t : Int)] (.most t)
  | plan (t : Nat) : AskC 10 [(t : Int)] (.plan t)
  | can (q t : Nat) : AskC 11 [(q : Int), (t : Int)] (.can q t)
  | spare : AskC 12 [] .spare
  | first : AskC 13 [] .first
  | without (p : Nat) : AskC 14 [(p : Int)] (.without p)
  | surely (p : Nat) : AskC 15 [(p : Int)] (.surely p)
  | saves (p c : Nat) : AskC 16 [(p : Int), (c : Int)] (.saves p c)
theorem AskC.bd {p : Int} {xs : List Int} {c : Km449.Call} (h : AskC p xs c) : 8 ≤ p ∧ p ≤ 16 := by cases h <;> decide
inductive LookC : Int → List Int → Km449.Call → Prop
  | next : LookC 17 [] .next
  | look (p : Nat) : LookC 18 [(p : Int)] (.look p)
  | who : LookC 19 [] .who
  | row (i : Nat) : LookC 20 [(i : Int)] (.row i)
  | sums : LookC 21 [] .sums
theorem LookC.bd {p : Int} {xs : List Int} {c : Km449.Call} (h : LookC p xs c) : 17 ≤ p ∧ p ≤ 21 := by cases h <;> decide
inductive UndoC : Int → List Int → Km449.Call → Prop
  | back : UndoC 22 [] .back
  | again : UndoC 23 [] .again
  | state : UndoC 24 [] .state
theorem UndoC.bd {p : Int} {xs : List Int} {c : Km449.Call} (h : UndoC p xs c) : 22 ≤ p ∧ p ≤ 24 := by cases h <;> decide

section
variable {P : Program} {w : World} {K : PySem.W.Frag} {mg : Str → Option Value} {base : Heap} {A : Adr}
def sp_answer_of_change (A : Adr) : Sp := fun vs H Q _ => ∃ (lg g : Addr) (d : Km449.Desk) (p : Int) (xs : List Int) (c : Km449.Call), vs = [.ref lg, .int p, .ref g] ∧ H g = some (.lst (intsV xs)) ∧ ChgC p xs c ∧ DeskAt A H lg d ∧ RetD A lg Q (Km449.act d c)
theorem ok_answer_of_change (T : Txt K mg A) (B : BMain mg base) : FnOk P w K mg base CX0 9 A.f_answer_of_change A.d_answer_of_change ["log", "number", "given"] (sp_answer_of_change A) := by
  refine T.answer_of_change.fn.ok sc_answer_of_change (fun vs H Q E h => ?_) (fun cdv Ar outer s H vs Q E hr h => ?_)
  · obtain ⟨lg, g, d, p, xs, c, rfl, _⟩ := h
    rfl
  · obtain ⟨lg, g, d, p, xs, c, rfl, hg, hc, X, k⟩ := h
    refine ⟨_, (pss_cons (ps_if (pt_cmpR op_eq (pv 1) pe_int (nomark _)) (pss_one (ps_ret (pe_call (ok_hh_person T) (hr.mono (by decide)) (by rfl) T.hh_person.mg T.hh_person.fn.kp T.hh_person.bd .nil pass0 (pa_cons (pv 0) (pa_cons (pe_ix ix_list (pv 2) pe_int (fun _ _ => rfl)) (pa_cons (pe_ix ix_list (pv 2) pe_int (fun _ _ => rfl)) (pa_cons (pe_ix ix_list (pv 2) pe_int (fun _ _ => rfl)) pa_nil))))))) pss_nil) (pss_cons (ps_if (pt_cmpR op_eq (pv 1) pe_int (nomark _)) (pss_one (ps_ret (pe_call (ok_hh_water T) (hr.mono (by decide)) (by rfl) T.hh_water.mg T.hh_water.fn.kp T.hh_water.bd .nil pass0 (pa_cons (pv 0) (pa_cons (pe_ix ix_list (pv 2) pe_int (fun _ _ => rfl)) pa_nil))))) pss_nil) (pss_cons (ps_if (pt_cmpR op_eq (pv 1) pe_int (nomark _)) (pss_one (ps_ret (pe_call (ok_hh_raft T) (hr.mono (by decide)) (by rfl) T.hh_raft.mg T.hh_raft.fn.kp T.hh_raft.bd .nil pass0 (pa_cons (pv 0) (pa_cons (pe_ix ix_list (pv 2) pe_int (fun _ _ => rfl)) (pa_cons (pe_ix ix_list (pv 2) pe_int (fun _ _ => rfl)) pa_nil)))))) pss_nil) (pss_cons (ps_if (pt_cmpR op_eq (pv 1) pe_int (nomark _)) (pss_one (ps_ret (pe_call (ok_hh_clothe T) (hr.mono (by decide)) (by rfl) T.hh_clothe.mg T.hh_clothe.fn.kp T.hh_clothe.bd .nil pass0 (pa_cons (pv 0) (pa_cons (pe_ix ix_list (pv 2) pe_int (fun _ _ => rfl)) (pa_cons (pe_ix ix_list (pv 2) pe_int (fun _ _ => rfl)) pa_nil)))))) pss_nil) (pss_cons (ps_if (pt_cmpR op_eq (pv 1) pe_int (nomark _)) (pss_one (ps_ret (pe_call (ok_hh_minutes T) (hr.mono (by decide)) (by rfl) T.hh_minutes.mg T.hh_minutes.fn.kp T.hh_minutes.bd .nil pass0 (pa_cons (pv 0) (pa_cons (pe_ix ix_list (pv 2) pe_int (fun _ _ => rfl)) pa_nil))))) pss_nil) (pss_cons (ps_if (pt_cmpR op_eq (pv 1) pe_int (nomark _)) (pss_one (ps_ret (pe_call (ok_hh_take T) (hr.mono (by decide)) (by rfl) T.hh_take.mg T.hh_take.fn.kp T.hh_take.bd .nil pass0 (pa_cons (pv 0) (pa_cons (pe_ix ix_list (pv 2) pe_int (fun _ _ => rfl)) pa_nil))))) pss_nil) (pss_one (ps_ret (pe_call (ok_hh_all T B) (hr.mono (by decide)) (by rfl) T.hh_all.mg T.hh_all.fn.kp T.hh_all.bd .nil pass0 (pa_cons (pv 0) pa_nil)))))))))), ?_⟩
    cases hc with
    | person c r n =>
      exact ⟨_, rfl, rfl, _, rfl, iteY (x := 1) ⟨_, rfl, _, rfl, g, _, _, V.int (c : Nat), rfl, rfl, SqL.of hg, at_of (j := 0) rfl rfl, _, rfl, g, _, _, V.int (r : Nat), rfl, rfl, SqL.of hg, at_of (j := 1) rfl rfl, _, rfl, g, _, _, V.int (n : Nat), rfl, rfl, SqL.of hg, at_of (j := 2) rfl rfl, lg, d, c, r, n, rfl, X, k.retP⟩⟩
    | water v =>
      exact ⟨_, rfl, rfl, _, rfl, iteN (x := 2) (y := 1) (by decide) ⟨_, rfl, rfl, _, rfl, iteY (x := 2) ⟨_, rfl, _, rfl, g, _, _, V.int (v : Nat), rfl, rfl, SqL.of hg, at_of (j := 0) rfl rfl, lg, d, v, rfl, X, k.retP⟩⟩⟩
    | raft p o =>
      exact ⟨_, rfl, rfl, _, rfl, iteN (x := 3) (y := 1) (by decide) ⟨_, rfl, rfl, _, rfl, iteN (x := 3) (y := 2) (by decide) ⟨_, rfl, rfl, _, rfl, iteY (x := 3) ⟨_, rfl, _, rfl, g, _, _, V.int (p : Nat), rfl, rfl, SqL.of hg, at_of (j := 0) rfl rfl, _, rfl, g, _, _, V.int (o : Nat), rfl, rfl, SqL.of hg, at_of (j := 1) rfl rfl, lg, d, p, o, rfl, X, k.retP⟩⟩⟩⟩
    | clothe p c =>
      exact ⟨_, rfl, rfl, _, rfl, iteN (x := 4) (y := 1) (by decide) ⟨_, rfl, rfl, _, rfl, iteN (x := 4) (y := 2) (by decide) ⟨_, rfl, rfl, _, rfl, iteN (x := 4) (y := 3) (by decide) ⟨_, rfl, rfl, _, rfl, iteY (x := 4) ⟨_, rfl, _, rfl, g, _, _, V.int (p : Nat), rfl, rfl, SqL.of hg, at_of (j := 0) rfl rfl, _, rfl, g, _, _, V.int (c : Nat), rfl, rfl, SqL.of hg, at_of (j := 1) rfl rfl, lg, d, p, c, rfl, X, k.retP⟩⟩⟩⟩⟩
    | minutes n =>
      exact ⟨_, rfl, rfl, _, rfl, iteN (x := 5) (y := 1) (by decide) ⟨_, rfl, rfl, _, rfl, iteN (x := 5) (y := 2) (by decide) ⟨_, rfl, rfl, _, rfl, iteN (x := 5) (y := 3) (by decide) ⟨_, rfl, rfl, _, rfl, iteN (x := 5) (y := 4) (by decide) ⟨_, rfl, rfl, _, rfl, iteY (x := 5) ⟨_, rfl, _, rfl, g, _, _, V.int (n : Nat), rfl, rfl, SqL.of hg, at_of (j := 0) rfl rfl, lg, d, n, rfl, X, k.retP⟩⟩⟩⟩⟩⟩
    | take p =>
      exact ⟨_, rfl, rfl, _, rfl, iteN (x := 6) (y := 1) (by decide) ⟨_, rfl, rfl, _, rfl, iteN (x := 6) (y := 2) (by decide) ⟨_, rfl, rfl, _, rfl, iteN (x := 6) (y := 3) (by decide) ⟨_, rfl, rfl, _, rfl, iteN (x := 6) (y := 4) (by decide) ⟨_, rfl, rfl, _, rfl, iteN (x := 6) (y := 5) (by decide) ⟨_, rfl, rfl, _, rfl, iteY (x := 6) ⟨_, rfl, _, rfl, g, _, _, V.int (p : Nat), rfl, rfl, SqL.of hg, at_of (j := 0) rfl rfl, lg, d, p, rfl, X, k.retP⟩⟩⟩⟩⟩⟩⟩
    | all =>
      exact ⟨_, rfl, rfl, _, rfl, iteN (x := 7) (y := 1) (by decide) ⟨_, rfl, rfl, _, rfl, iteN (x := 7) (y := 2) (by decide) ⟨_, rfl, rfl, _, rfl, iteN (x := 7) (y := 3) (by decide) ⟨_, rfl, rfl, _, rfl, iteN (x := 7) (y := 4) (by decide) ⟨_, rfl, rfl, _, rfl, iteN (x := 7) (y := 5) (by decide) ⟨_, rfl, rfl, _, rfl, iteN (x := 7) (y := 6) (by decide) ⟨_, rfl, lg, d, rfl, X, k.retP⟩⟩⟩⟩⟩⟩⟩
def sp_answer_of_asking (A : Adr) : Sp := fun vs H Q _ => ∃ (a g : Addr) (s : Km449.Sea) (p : Int) (xs : List Int) (c : Km449.Call), vs = [.ref a, .int p, .ref g] ∧ H g = some (.lst (intsV xs)) ∧ AskC p xs c ∧ AskAt A H a s ∧ AnsP A H Q (ans s c)
theorem ok_answer_of_asking (T : Txt K mg A) (B : BMain mg base) : FnOk P w K mg base CX0 9 A.f_answer_of_asking A.d_answer_of_asking ["sea", "number", "given"] (sp_answer_of_asking A) := by
  refine T.answer_of_asking.fn.ok sc_answer_of_asking (fun vs H Q E h => ?_) (fun cdv Ar outer s H vs Q E hr h => ?_)
  · obtain ⟨a, g, s, p, xs, c, rfl, _⟩ := h
    rfl
  · obtain ⟨a, g, s, p, xs, c, rfl, hg, hc, X, k⟩ := h
    refine ⟨_, (pss_cons (ps_if (pt_cmpR op_eq (pv 1) pe_int (nomark _)) (pss_one (ps_ret (pe_call (ok_hh_left T) (hr.mono (by decide)) (by rfl) T.hh_left.mg T.hh_left.fn.kp T.hh_left.bd .nil pass0 (pa_cons (pv 0) (pa_cons (pe_ix ix_list (pv 2) pe_int (fun _ _ => rfl)) pa_nil))))) pss_nil) (pss_cons (ps_if (pt_cmpR op_eq (pv 1) pe_int (nomark _)) (pss_one (ps_ret (pe_call (ok_hh_most T B) (hr.mono (by decide)) (by rfl) T.hh_most.mg T.hh_most.fn.kp T.hh_most.bd .nil pass0 (pa_cons (pv 0) (pa_cons (pe_ix ix_list (pv 2) pe_int (fun _ _ => rfl)) pa_nil))))) pss_nil) (pss_cons (ps_if (pt_cmpR op_eq (pv 1) pe_int (nomark _)) (pss_one (ps_ret (pe_call (ok_hh_plan T B) (hr.mono (by decide)) (by rfl) T.hh_plan.mg T.hh_plan.fn.kp T.hh_plan.bd .nil pass0 (pa_cons (pv 0) (pa_cons (pe_ix ix_list (pv 2) pe_int (fun _ _ => rfl)) pa_nil))))) pss_nil) (pss_cons (ps_if (pt_cmpR op_eq (pv 1) pe_int (nomark _)) (pss_one (ps_ret (pe_call (ok_hh_can T B) (hr.mono (by decide)) (by rfl) T.hh_can.mg T.hh_can.fn.kp T.hh_can.bd .nil pass0 (pa_cons (pv 0) (pa_cons (pe_ix ix_list (pv 2) pe_int (fun _ _ => rfl)) (pa_cons (pe_ix ix_list (pv 2) pe_int (fun _ _ => rfl)) pa_nil)))))) pss_nil) (pss_cons (ps_if (pt_cmpR op_eq (pv 1) pe_int (nomark _)) (pss_one (ps_ret (pe_call (ok_hh_spare T B) (hr.mono (by decide)) (by rfl) T.hh_spare.mg T.hh_spare.fn.kp T.hh_spare.bd .nil pass0 (pa_cons (pv 0) pa_nil)))) pss_nil) (pss_cons (ps_if (pt_cmpR op_eq (pv 1) pe_int (nomark _)) (pss_one (ps_ret (pe_call (ok_hh_first T B) (hr.mono (by decide)) (by rfl) T.hh_first.mg T.hh_first.fn.kp T.hh_first.bd .nil pass0 (pa_cons (pv 0) pa_nil)))) pss_nil) (pss_cons (ps_if (pt_cmpR op_eq (pv 1) pe_int (nomark _)) (pss_one (ps_ret (pe_call (ok_hh_without T B) (hr.mono (by decide)) (by rfl) T.hh_without.mg T.hh_without.fn.kp T.hh_without.bd .nil pass0 (pa_cons (pv 0) (pa_cons (pe_ix ix_list (pv 2) pe_int (fun _ _ => rfl)) pa_nil))))) pss_nil) (pss_cons (ps_if (pt_cmpR op_eq (pv 1) pe_int (nomark _)) (pss_one (ps_ret (pe_call (ok_hh_among T B) (hr.mono (by decide)) (by rfl) T.hh_among.mg T.hh_among.fn.kp T.hh_among.bd .nil pass0 (pa_cons (pv 0) (pa_cons (pe_ix ix_list (pv 2) pe_int (fun _ _ => rfl)) pa_nil))))) pss_nil) (pss_one (ps_ret (pe_call (ok_hh_saves T B) (hr.mono (by decide)) (by rfl) T.hh_saves.mg T.hh_saves.fn.kp T.hh_saves.bd .nil pass0 (pa_cons (pv 0) (pa_cons (pe_ix ix_list (pv 2) pe_int (fun _ _ => rfl)) (pa_cons (pe_ix ix_list (pv 2) pe_int (fun _ _ => rfl)) pa_nil)))))))))))))), ?_⟩
    cases hc with
    | left p =>
      exact ⟨_, rfl, rfl, _, rfl, iteY (x := 8) ⟨_, rfl, _, rfl, g, _, _, V.int (p : Nat), rfl, rfl, SqL.of hg, at_of (j := 0) rfl rfl, a, s, p, rfl, X, k⟩⟩
    | most t =>
      exact ⟨_, rfl, rfl, _, rfl, iteN (x := 9) (y := 8) (by decide) ⟨_, rfl, rfl, _, rfl, iteY (x := 9) ⟨_, rfl, _, rfl, g, _, _, V.int (t : Nat), rfl, rfl, SqL.of hg, at_of (j := 0) rfl rfl, a, s, t, rfl, X, k⟩⟩⟩
    | plan t =>
      exact ⟨_, rfl, rfl, _, rfl, iteN (x := 10) (y := 8) (by decide) ⟨_, rfl, rfl, _, rfl, iteN (x := 10) (y := 9) (by decide) ⟨_, rfl, rfl, _, rfl, iteY (x := 10) ⟨_, rfl, _, rfl, g, _, _, V.int (t : Nat), rfl, rfl, SqL.of hg, at_of (j := 0) rfl rfl, a, s, t, rfl, X, k⟩⟩⟩⟩
    | can q t =>
      exact ⟨_, rfl, rfl, _, rfl, iteN (x := 11) (y := 8) (by decide) ⟨_, rfl, rfl, _, rfl, iteN (x := 11) (y := 9) (by decide) ⟨_, rfl, rfl, _, rfl, iteN (x := 11) (y := 10) (by decide) ⟨_, rfl, rfl, _, rfl, iteY (x := 11) ⟨_, rfl, _, rfl, g, _, _, V.int (q : Nat), rfl, rfl, SqL.of hg, at_of (j := 0) rfl rfl, _, rfl, g, _, _, V.int (t : Nat), rfl, rfl, SqL.of hg, at_of (j := 1) rfl rfl, a, s, q, t, rfl, X, k⟩⟩⟩⟩⟩
    | spare =>
      exact ⟨_, rfl, rfl, _, rfl, iteN (x := 12) (y := 8) (by decide) ⟨_, rfl, rfl, _, rfl, iteN (x := 12) (y := 9) (by decide) ⟨_, rfl, rfl, _, rfl, iteN (x := 12) (y := 10) (by decide) ⟨_, rfl, rfl, _, rfl, iteN (x := 12) (y := 11) (by decide) ⟨_, rfl, rfl, _, rfl, iteY (x := 12) ⟨_, rfl, a, s, rfl, X, k⟩⟩⟩⟩⟩⟩
    | first =>
      exact ⟨_, rfl, rfl, _, rfl, iteN (x := 13) (y := 8) (by decide) ⟨_, rfl, rfl, _, rfl, iteN (x := 13) (y := 9) (by decide) ⟨_, rfl, rfl, _, rfl, iteN (x := 13) (y := 10) (by decide) ⟨_, rfl, rfl, _, rfl, iteN (x := 13) (y := 11) (by decide) ⟨_, rfl, rfl, _, rfl, iteN (x := 13) (y := 12) (by decide) ⟨_, rfl, rfl, _, rfl, iteY (x := 13) ⟨_, rfl, a, s, rfl, X, k⟩⟩⟩⟩⟩⟩⟩
    | without p =>
      exact ⟨_, rfl, rfl, _, rfl, iteN (x := 14) (y := 8) (by decide) ⟨_, rfl, rfl, _, rfl, iteN (x := 14) (y := 9) (by decide) ⟨_, rfl, rfl, _, rfl, iteN (x := 14) (y := 10) (by decide) ⟨_, rfl, rfl, _, rfl, iteN (x := 14) (y := 11) (by decide) ⟨_, rfl, rfl, _, rfl, iteN (x := 14) (y := 12) (by decide) ⟨_, rfl, rfl, _, rfl, iteN (x := 14) (y := 13) (by decide) ⟨_, rfl, rfl, _, rfl, iteY (x := 14) ⟨_, rfl, _, rfl, g, _, _, V.int (p : Nat), rfl, rfl, SqL.of hg, at_of (j := 0) rfl rfl, a, s, p, rfl, X, k⟩⟩⟩⟩⟩⟩⟩⟩
    | surely p =>
      exact ⟨_, rfl, rfl, _, rfl, iteN (x := 15) (y := 8) (by decide) ⟨_, rfl, rfl, _, rfl, iteN (x := 15) (y := 9) (by decide) ⟨_, rfl, rfl, _, rfl, iteN (x := 15) (y := 10) (by decide) ⟨_, rfl, rfl, _, rfl, iteN (x := 15) (y := 11) (by decide) ⟨_, rfl, rfl, _, rfl, iteN (x := 15) (y := 12) (by decide) ⟨_, rfl, rfl, _, rfl, iteN (x := 15) (y := 13) (by decide) ⟨_, rfl, rfl, _, rfl, iteN (x := 15) (y := 14) (by decide) ⟨_, rfl, rfl, _, rfl, iteY (x := 15) ⟨_, rfl, _, rfl, g, _, _, V.int (p : Nat), rfl, rfl, SqL.of hg, at_of (j := 0) rfl rfl, a, s, p, rfl, X, k⟩⟩⟩⟩⟩⟩⟩⟩⟩
    | saves p c =>
      exact ⟨_, rfl, rfl, _, rfl, iteN (x := 16) (y := 8) (by decide) ⟨_, rfl, rfl, _, rfl, iteN (x := 16) (y := 9) (by decide) ⟨_, rfl, rfl, _, rfl, iteN (x := 16) (y := 10) (by decide) ⟨_, rfl, rfl, _, rfl, iteN (x := 16) (y := 11) (by decide) ⟨_, rfl, rfl, _, rfl, iteN (x := 16) (y := 12) (by decide) ⟨_, rfl, rfl, _, rfl, iteN (x := 16) (y := 13) (by decide) ⟨_, rfl, rfl, _, rfl, iteN (x := 16) (y := 14) (by decide) ⟨_, rfl, rfl, _, rfl, iteN (x := 16) (y := 15) (by decide) ⟨_, rfl, _, rfl, g, _, _, V.int (p : Nat), rfl, rfl, SqL.of hg, at_of (j := 0) rfl rfl, _, rfl, g, _, _, V.int (c : Nat), rfl, rfl, SqL.of hg, at_of (j := 1) rfl rfl, a, s, p, c, rfl, X, k⟩⟩⟩⟩⟩⟩⟩⟩⟩
def sp_answer_of_looking (A : Adr) : Sp := fun vs H Q _ => ∃ (a g : Addr) (s : Km449.Sea) (p : Int) (xs : List Int) (c : Km449.Call), vs = [.ref a, .int p, .ref g] ∧ H g = some (.lst (intsV xs)) ∧ LookC p xs c ∧ AskAt A H a s ∧ AnsP A H Q (ans s c)
theorem ok_answer_of_looking (T : Txt K mg A) (B : BMain mg base) : FnOk P w K mg base CX0 6 A.f_answer_of_looking A.d_answer_of_looking ["sea", "number", "given"] (sp_answer_of_looking A) := by
  refine T.answer_of_looking.fn.ok sc_answer_of_looking (fun vs H Q E h => ?_) (fun cdv Ar outer s H vs Q E hr h => ?_)
  · obtain ⟨a, g, s, p, xs, c, rfl, _⟩ := h
    rfl
  · obtain ⟨a, g, s, p, xs, c, rfl, hg, hc, X, k⟩ := h
    refine ⟨_, (pss_cons (ps_if (pt_cmpR op_eq (pv 1) pe_int (nomark _)) (pss_one (ps_ret (pe_call (ok_hh_next T B) (hr.mono (by decide)) (by rfl) T.hh_next.mg T.hh_next.fn.kp T.hh_next.bd .nil pass0 (pa_cons (pv 0) pa_nil)))) pss_nil) (pss_cons (ps_if (pt_cmpR op_eq (pv 1) pe_int (nomark _)) (pss_one (ps_ret (pe_call (ok_hh_look T) (hr.mono (by decide)) (by rfl) T.hh_look.mg T.hh_look.fn.kp T.hh_look.bd .nil pass0 (pa_cons (pv 0) (pa_cons (pe_ix ix_list (pv 2) pe_int (fun _ _ => rfl)) pa_nil))))) pss_nil) (pss_cons (ps_if (pt_cmpR op_eq (pv 1) pe_int (nomark _)) (pss_one (ps_ret (pe_call (ok_hh_who T) (hr.mono (by decide)) (by rfl) T.hh_who.mg T.hh_who.fn.kp T.hh_who.bd .nil pass0 (pa_cons (pv 0) pa_nil)))) pss_nil) (pss_cons (ps_if (pt_cmpR op_eq (pv 1) pe_int (nomark _)) (pss_one (ps_ret (pe_call (ok_hh_row T) (hr.mono (by decide)) (by rfl) T.hh_row.mg T.hh_row.fn.kp T.hh_row.bd .nil pass0 (pa_cons (pv 0) (pa_cons (pe_ix ix_list (pv 2) pe_int (fun _ _ => rfl)) pa_nil))))) pss_nil) (pss_one (ps_ret (pe_call (ok_hh_sums T) (hr.mono (by decide)) (by rfl) T.hh_sums.mg T.hh_sums.fn.kp T.hh_sums.bd .nil pass0 (pa_cons (pv 0) pa_nil)))))))), ?_⟩
    cases hc with
    | next =>
      exact ⟨_, rfl, rfl, _, rfl, iteY (x := 17) ⟨_, rfl, a, s, rfl, X, k⟩⟩
    | look p =>
      exact ⟨_, rfl, rfl, _, rfl, iteN (x := 18) (y := 17) (by decide) ⟨_, rfl, rfl, _, rfl, iteY (x := 18) ⟨_, rfl, _, rfl, g, _, _, V.int (p : Nat), rfl, rfl, SqL.of hg, at_of (j := 0) rfl rfl, a, s, p, rfl, X, k⟩⟩⟩
    | who =>
      exact ⟨_, rfl, rfl, _, rfl, iteN (x := 19) (y := 17) (by decide) ⟨_, rfl, rfl, _, rfl, iteN (x := 19) (y := 18) (by decide) ⟨_, rfl, rfl, _, rfl, iteY (x := 19) ⟨_, rfl, a, s, rfl, X, k⟩⟩⟩⟩
    | row i =>
      exact ⟨_, rfl, rfl, _, rfl, iteN (x := 20) (y := 17) (by decide) ⟨_, rfl, rfl, _, rfl, iteN (x := 20) (y := 18) (by decide) ⟨_, rfl, rfl, _, rfl, iteN (x := 20) (y := 19) (by decide) ⟨_, rfl, rfl, _, rfl, iteY (x := 20) ⟨_, rfl, _, rfl, g, _, _, V.int (i : Nat), rfl, rfl, SqL.of hg, at_of (j := 0) rfl rfl, a, s, i, rfl, X, k⟩⟩⟩⟩⟩
    | sums =>
      exact ⟨_, rfl, rfl, _, rfl, iteN (x := 21) (y := 17) (by decide) ⟨_, rfl, rfl, _, rfl, iteN (x := 21) (y := 18) (by decide) ⟨_, rfl, rfl, _, rfl, iteN (x := 21) (y := 19) (by decide) ⟨_, rfl, rfl, _, rfl, iteN (x := 21) (y := 20) (by decide) ⟨_, rfl, a, s, rfl, X, k⟩⟩⟩⟩⟩
def sp_answer_of_undoing (A : Adr) : Sp := fun vs H Q _ => ∃ (lg g : Addr) (d : Km449.Desk) (p : Int) (xs : List Int) (c : Km449.Call), vs = [.ref lg, .int p] ∧ UndoC p xs c ∧ DeskAt A H lg d ∧ RetD A lg Q (Km449.act d c)
theorem ok_answer_of_undoing (T : Txt K mg A) : FnOk P w K mg base CX0 3 A.f_answer_of_undoing A.d_answer_of_undoing ["log", "number"] (sp_answer_of_undoing A) := by
  refine T.answer_of_undoing.fn.ok sc_answer_of_undoing (fun vs H Q E h => ?_) (fun cdv Ar outer s H vs Q E hr h => ?_)
  · obtain ⟨lg, g, d, p, xs, c, rfl, _⟩ := h
    rfl
  · obtain ⟨lg, g, d, p, xs, c, rfl, hc, X, k⟩ := h
    refine ⟨_, (pss_cons (ps_if (pt_cmpR op_eq (pv 1) pe_int (nomark _)) (pss_one (ps_ret (pe_call (ok_hh_back T) (hr.mono (by decide)) (by rfl) T.hh_back.mg T.hh_back.fn.kp T.hh_back.bd .nil pass0 (pa_cons (pv 0) pa_nil)))) pss_nil) (pss_cons (ps_if (pt_cmpR op_eq (pv 1) pe_int (nomark _)) (pss_one (ps_ret (pe_call (ok_hh_again T) (hr.mono (by decide)) (by rfl) T.hh_again.mg T.hh_again.fn.kp T.hh_again.bd .nil pass0 (pa_cons (pv 0) pa_nil)))) pss_nil) (pss_one (ps_ret (pe_call (ok_hh_state T) (hr.mono (by decide)) (by rfl) T.hh_state.mg T.hh_state.fn.kp T.hh_state.bd .nil pass0 (pa_cons (pv 0) pa_nil)))))), ?_⟩
    cases hc with
    | back =>
      exact ⟨_, rfl, rfl, _, rfl, iteY (x := 22) ⟨_, rfl, lg, d, rfl, X, k⟩⟩
    | again =>
      exact ⟨_, rfl, rfl, _, rfl, iteN (x := 23) (y := 22) (by decide) ⟨_, rfl, rfl, _, rfl, iteY (x := 23) ⟨_, rfl, lg, d, rfl, X, k⟩⟩⟩
    | state =>
      exact ⟨_, rfl, rfl, _, rfl, iteN (x := 24) (y := 22) (by decide) ⟨_, rfl, rfl, _, rfl, iteN (x := 24) (y := 23) (by decide) ⟨_, rfl, lg, d, rfl, X, k⟩⟩⟩
end
end Hh
set_option Elab.async false
set_option linter.all false
set_option maxRecDepth 100000
set_option maxHeartbeats 2000000
namespace Hh
open PySem PySem.Spec PyProof.Rows L2

/-- what stands behind a call's number, and the call's words -/
inductive GivenOf : Int → List Int → List (List Int) → Prop
  | start {w m : Int} {row : List Int} (h : row.length = m.toNat) : GivenOf 0 (w :: m :: row) [[0, w], row]
  | plain {p : Int} {n : Nat} {xs : List Int} (h1 : 0 < p) (h2 : p < 25) (h3 : [2, 3, 1, 2, 2, 1, 1, 0, 1, 1, 1, 2, 0, 0, 1, 1, 2, 0, 1, 0, 1, 0, 0, 0, 0][p.toNat]? = some n) (h5 : xs.length = n) : GivenOf p xs [p :: xs]
theorem CallAt.given {l : List Int} {k k' : Nat} {c : List (List Int)} (x : CallAt l k k' c) : ∃ p, l[k]? = some p ∧ GivenOf p ((l.drop (k + 1)).take (k' - (k + 1))) c := by
  cases x with
  | @start w m row h0 h1 h2 h3 h4 h5 =>
    refine ⟨0, h0, ?_⟩
    have e1 : l.drop (k + 1) = w :: l.drop (k + 2) := by
      obtain ⟨hi, e⟩ := List.getElem?_eq_some_iff.mp h1
      rw [List.drop_eq_getElem_cons hi, e]
    have e2 : l.drop (k + 2) = m :: l.drop (k + 3) := by
      obtain ⟨hi, e⟩ := List.getElem?_eq_some_iff.mp h2
      rw [List.drop_eq_getElem_cons hi, e]
    have e3 : k + 3 + m.toNat - (k + 1) = m.toNat + 1 + 1 := by omega
    rw [e3, e1, e2, List.take_succ_cons, List.take_succ_cons, h4]
    exact .start h5
  | @plain p n xs h0 h1 h2 h3 h4 h5 =>
    have e3 : k + 1 + n - (k + 1) = n := by omega
    rw [e3, h4]
    exact ⟨p, h0, .plain h1 h2 h3 h5⟩

/-- a number that the document lets be handed in -/
theorem nat32 {z : Int} (h : Km449Neutral.natural z 32 = true) : z = ((z.toNat : Nat) : Int) := by
  unfold Km449Neutral.natural at h
  rw [Bool.and_eq_true, decide_eq_true_iff] at h
  omega
inductive KindC : Int → List Int → Km449.Call → Prop
  | start (w : Nat) (m : Int) (row : List Nat) (h : row.length = 24) : KindC 0 ((w : Int) :: m :: Km449Neutral.nums row) (.start w row)
  | chg {p : Int} {xs : List Int} {c : Km449.Call} (h : ChgC p xs c) : KindC p xs c
  | ask {p : Int} {xs : List Int} {c : Km449.Call} (h : AskC p xs c) : KindC p xs c
  | look {p : Int} {xs : List Int} {c : Km449.Call} (h : LookC p xs c) : KindC p xs c
  | undo {p : Int} {xs : List Int} {c : Km449.Call} (h : UndoC p xs c) : KindC p xs c
theorem nums_nats {l : List Int} (h : l.all (fun (z : Int) => Km449Neutral.natural z 32) = true) : Km449Neutral.nums (Km449Neutral.nats l) = l := by
  unfold Km449Neutral.nums Km449Neutral.nats
  rw [List.map_map]
  conv => rhs; rw [← List.map_id l]
  refine List.map_congr_left fun z hz => ?_
  exact (nat32 (List.all_eq_true.mp h z hz)).symm
theorem kind_of {p : Int} {xs : List Int} {c : List (List Int)} (g : GivenOf p xs c) (ha : Km449Neutral.asked1 (PyKm449.whole c) = true) : ∃ x, Km449Neutral.callOf (PyKm449.whole c) = some x ∧ KindC p xs x := by
  cases g with
  | @start w m row h =>
    have ha : (Km449Neutral.natural w 32 && (decide (row.length = 24) && row.all (fun (z : Int) => Km449Neutral.natural z 32))) = true := ha
    rw [Bool.and_eq_true, Bool.and_eq_true, decide_eq_true_iff] at ha
    refine ⟨.start w.toNat (Km449Neutral.nats row), rfl, ?_⟩
    have q := KindC.start w.toNat m (Km449Neutral.nats row) (by unfold Km449Neutral.nats; rw [List.length_map]; exact ha.2.1)
    rw [← nat32 ha.1, nums_nats ha.2.2] at q
    exact q
  | @plain p n xs h1 h2 h3 h5 =>
    have hp : p = 1 ∨ p = 2 ∨ p = 3 ∨ p = 4 ∨ p = 5 ∨ p = 6 ∨ p = 7 ∨ p = 8 ∨ p = 9 ∨ p = 10 ∨ p = 11 ∨ p = 12 ∨ p = 13 ∨ p = 14 ∨ p = 15 ∨ p = 16 ∨ p = 17 ∨ p = 18 ∨ p = 19 ∨ p = 20 ∨ p = 21 ∨ p = 22 ∨ p = 23 ∨ p = 24 := by omega
    rcases hp with rfl | rfl | rfl | rfl | rfl | rfl | rfl | rfl | rfl | rfl | rfl | rfl | rfl | rfl | rfl | rfl | rfl | rfl | rfl | rfl | rfl | rfl | rfl | rfl
    · -- 1
      have hn := Option.some.inj h3
      subst hn
      match xs, h5, ha with
      | [x0, x1, x2], _, ha =>
        have ha : (Km449Neutral.natural x0 32 && Km449Neutral.natural x1 32 && Km449Neutral.natural x2 32) = true := ha
        rw [Bool.and_eq_true, Bool.and_eq_true] at ha
        refine ⟨.person x0.toNat x1.toNat x2.toNat, rfl, ?_⟩
        have q := KindC.chg (.person x0.toNat x1.toNat x2.toNat)
        rw [← nat32 ha.1.1, ← nat32 ha.1.2, ← nat32 ha.2] at q
        exact q
    · -- 2
      have hn := Option.some.inj h3
      subst hn
      match xs, h5, ha with
      | [x0], _, ha =>
        have ha : (Km449Neutral.natural x0 32) = true := ha
        refine ⟨.water x0.toNat, rfl, ?_⟩
        have q := KindC.chg (.water x0.toNat)
        rw [← nat32 ha] at q
        exact q
    · -- 3
      have hn := Option.some.inj h3
      subst hn
      match xs, h5, ha with
      | [x0, x1], _, ha =>
        have ha : (Km449Neutral.natural x0 32 && Km449Neutral.natural x1 32) = true := ha
        rw [Bool.and_eq_true] at ha
        refine ⟨.raft x0.toNat x1.toNat, rfl, ?_⟩
        have q := KindC.chg (.raft x0.toNat x1.toNat)
        rw [← nat32 ha.1, ← nat32 ha.2] at q
        exact q
    · -- 4
      have hn := Option.some.inj h3
      subst hn
      match xs, h5, ha with
      | [x0, x1], _, ha =>
        have ha : (Km449Neutral.natural x0 32 && Km449Neutral.natural x1 32) = true := ha
        rw [Bool.and_eq_true] at ha
        refine ⟨.clothe x0.toNat x1.toNat, rfl, ?_⟩
        have q := KindC.chg (.clothe x0.toNat x1.toNat)
        rw [← nat32 ha.1, ← nat32 ha.2] at q
        exact q
    · -- 5
      have hn := Option.some.inj h3
      subst hn
      match xs, h5, ha with
      | [x0], _, ha =>
        have ha : (Km449Neutral.natural x0 32) = true := ha
        refine ⟨.minutes x0.toNat, rfl, ?_⟩
        have q := KindC.chg (.minutes x0.toNat)
        rw [← nat32 ha] at q
        exact q
    · -- 6
      have hn := Option.some.inj h3
      subst hn
      match xs, h5, ha with
      | [x0], _, ha =>
        have ha : (Km449Neutral.natural x0 32) = true := ha
        refine ⟨.take x0.toNat, rfl, ?_⟩
        have q := KindC.chg (.take x0.toNat)
        rw [← nat32 ha] at q
        exact q
    · -- 7
      have hn := Option.some.inj h3
      subst hn
      match xs, h5 with
      | [], _ => exact ⟨.all, rfl, .chg .all⟩
    · -- 8
      have hn := Option.some.inj h3
      subst hn
      match xs, h5, ha with
      | [x0], _, ha =>
        have ha : (Km449Neutral.natural x0 32) = true := ha
        refine ⟨.left x0.toNat, rfl, ?_⟩
        have q := KindC.ask (.left x0.toNat)
        rw [← nat32 ha] at q
        exact q
    · -- 9
      have hn := Option.some.inj h3
      subst hn
      match xs, h5, ha with
      | [x0], _, ha =>
        have ha : (Km449Neutral.natural x0 32) = true := ha
        refine ⟨.most x0.toNat, rfl, ?_⟩
        have q := KindC.ask (.most x0.toNat)
        rw [← nat32 ha] at q
        exact q
    · -- 10
      have hn := Option.some.inj h3
      subst hn
      match xs, h5, ha with
      | [x0], _, ha =>
        have ha : (Km449Neutral.natural x0 32) = true := ha
        refine ⟨.plan x0.toNat, rfl, ?_⟩
        have q := KindC.ask (.plan x0.toNat)
        rw [← nat32 ha] at q
        exact q
    · -- 11
      have hn := Option.some.inj h3
      subst hn
      match xs, h5, ha with
      | [x0, x1], _, ha =>
        have ha : (Km449Neutral.natural x0 32 && Km449Neutral.natural x1 32) = true := ha
        rw [Bool.and_eq_true] at ha
        refine ⟨.can x0.toNat x1.toNat, rfl, ?_⟩
        have q := KindC.ask (.can x0.toNat x1.toNat)
        rw [← nat32 ha.1, ← nat32 ha.2] at q
        exact q
    · -- 12
      have hn := Option.some.inj h3
      subst hn
      match xs, h5 with
      | [], _ => exact ⟨.spare, rfl, .ask .spare⟩
    · -- 13
      have hn := Option.some.inj h3
      subst hn
      match xs, h5 with
      | [], _ => exact ⟨.first, rfl, .ask .first⟩
    · -- 14
      have hn := Option.some.inj h3
      subst hn
      match xs, h5, ha with
      | [x0], _, ha =>
        have ha : (Km449Neutral.natural x0 32) = true := ha
        refine ⟨.without x0.toNat, rfl, ?_⟩
        have q := KindC.ask (.without x0.toNat)
        rw [← nat32 ha] at q
        exact q
    · -- 15
      have hn := Option.some.inj h3
      subst hn
      match xs, h5, ha with
      | [x0], _, ha =>
        have ha : (Km449Neutral.natural x0 32) = true := ha
        refine ⟨.surely x0.toNat, rfl, ?_⟩
        have q := KindC.ask (.surely x0.toNat)
        rw [← nat32 ha] at q
        exact q
    · -- 16
      have hn := Option.some.inj h3
      subst hn
      match xs, h5, ha with
      | [x0, x1], _, ha =>
        have ha : (Km449Neutral.natural x0 32 && Km449Neutral.natural x1 32) = true := ha
        rw [Bool.and_eq_true] at ha
        refine ⟨.saves x0.toNat x1.toNat, rfl, ?_⟩
        have q := KindC.ask (.saves x0.toNat x1.toNat)
        rw [← nat32 ha.1, ← nat32 ha.2] at q
        exact q
    · -- 17
      have hn := Option.some.inj h3
      subst hn
      match xs, h5 with
      | [], _ => exact ⟨.next, rfl, .look .next⟩
    · -- 18
      have hn := Option.some.inj h3
      subst hn
      match xs, h5, ha with
      | [x0], _, ha =>
        have ha : (Km449Neutral.natural x0 32) = true := ha
        refine ⟨.look x0.toNat, rfl, ?_⟩
        have q := KindC.look (.look x0.toNat)
        rw [← nat32 ha] at q
        exact q
    · -- 19
      have hn := Option.some.inj h3
      subst hn
      match xs, h5 with
      | [], _ => exact ⟨.who, rfl, .look .who⟩
    · -- 20
      have hn := Option.some.inj h3
      subst hn
      match xs, h5, ha with
      | [x0], _, ha =>
        have ha : (Km449Neutral.natural x0 32) = true := ha
        refine ⟨.row x0.toNat, rfl, ?_⟩
        have q := KindC.look (.row x0.toNat)
        rw [← nat32 ha] at q
        exact q
    · -- 21
      have hn := Option.some.inj h3
      subst hn
      match xs, h5 with
      | [], _ => exact ⟨.sums, rfl, .look .sums⟩
    · -- 22
      have hn := Option.some.inj h3
      subst hn
      match xs, h5 with
      | [], _ => exact ⟨.back, rfl, .undo .back⟩
    · -- 23
      have hn := Option.some.inj h3
      subst hn
      match xs, h5 with
      | [], _ => exact ⟨.again, rfl, .undo .again⟩
    · -- 24
      have hn := Option.some.inj h3
      subst hn
      match xs, h5 with
      | [], _ => exact ⟨.state, rfl, .undo .state⟩
theorem fill_len (n : Nat) (l : List Nat) : (Km449.fill n l).length ≤ n := by
  unfold Km449.fill
  rw [List.length_append, List.length_take, List.length_replicate]
  omega
theorem act_len (d : Km449.Desk) (c : Km449.Call) : (Km449Neutral.told (Km449.act d c).2).length ≤ 10 := by
  unfold Km449Neutral.told Km449Neutral.nums
  rw [List.length_cons, List.length_map]
  have key : (Km449.act d c).2.out.length ≤ 9 := by
    have z : ∀ v : Int, (Km449.only v).out.length ≤ 9 := fun v => by show (0 : Nat) ≤ 9; decide
    cases c <;> unfold Km449.act <;> dsimp only <;> (repeat' split) <;> first | exact z _ | exact fill_len 9 _ | (show (1 : Nat) ≤ 9; decide) | (show (2 : Nat) ≤ 9; decide) | (show (3 : Nat) ≤ 9; decide) | (show (4 : Nat) ≤ 9; decide)
  omega
theorem step_len (st : Option Km449.Desk) (c : List (List Int)) : (Km449Neutral.step st c).2.length ≤ 10 := by
  unfold Km449Neutral.step
  split
  · exact Nat.zero_le _
  · split
    · exact act_len _ _
    · split
      · exact act_len _ _
      · exact Nat.zero_le _
theorem told_cons (a : List Int) (r : List (List Int)) : PyFlat.told (a :: r) = ((a.length : Nat) : Int) :: (a ++ PyFlat.told r) := by
  unfold PyFlat.told
  rw [List.flatMap_cons]
  rfl

/-- the object of a line: not started, or a desk -/
def StAt (A : Adr) (H : Hp) (lg : Addr) : Option Km449.Desk → Prop
  | none => (∃ dx e l, H lg = some (.ins A.CLog dx (lfv .non e l))) ∧ TabL A H
  | some d => DeskAt A H lg d
theorem StAt.ins {A : Adr} {H : Hp} {lg : Addr} {st : Option Km449.Desk} (x : StAt A H lg st) : ∃ dx n e l, H lg = some (.ins A.CLog dx (lfv n e l)) := by
  cases st with
  | none => obtain ⟨⟨dx, e, l, h⟩, _⟩ := x; exact ⟨dx, _, e, l, h⟩
  | some d => obtain ⟨dx, an, el, lt, _, _, _, h, _⟩ := (DeskAt.log x).get; exact ⟨dx, _, _, _, h⟩
theorem StAt.tab {A : Adr} {H : Hp} {lg : Addr} {st : Option Km449.Desk} (x : StAt A H lg st) : TabL A H := by
  cases st with
  | none => exact x.2
  | some d => exact DeskAt.tab x
theorem StAt.sm {A : Adr} {H H' : Hp} {lg : Addr} {st : Option Km449.Desk} (x : StAt A H lg st) (e : Sm H H') (hT : TabL A H') : StAt A H' lg st := by
  cases st with
  | none => obtain ⟨⟨dx, n, l, h⟩, _⟩ := x; exact ⟨⟨dx, n, l, e.ins h⟩, hT⟩
  | some d => exact ⟨(DeskAt.log x).sm e, DeskAt.ok x, hT⟩
/-- one step, told by the call -/
def stepC (st : Option Km449.Desk) (x : Km449.Call) : Option Km449.Desk × List Int := match st with
  | some a => (some (Km449.act a x).1, Km449Neutral.told (Km449.act a x).2)
  | none => if Km449Neutral.isStart x then
      (if (Km449Neutral.told (Km449.act (Km449.fresh 0 []) x).2).headD 0 < 0 then none else some (Km449.act (Km449.fresh 0 []) x).1, Km449Neutral.told (Km449.act (Km449.fresh 0 []) x).2)
    else (none, [])
theorem step_of {st : Option Km449.Desk} {c : List (List Int)} {x : Km449.Call} (h : Km449Neutral.callOf c = some x) : Km449Neutral.step st c = stepC st x := by
  unfold Km449Neutral.step
  rw [h]
  cases st <;> rfl
theorem step_start (st : Option Km449.Desk) (w : Nat) (row : List Nat) : stepC st (.start w row) = if Km449.okStart w row = false then (st, [-22]) else (some ⟨Km449.opened w row, [], []⟩, [0]) := by
  have e : ∀ d, Km449.act d (.start w row) = if Km449.okStart w row = false then (d, Km449.only (-22)) else (⟨Km449.opened w row, [], []⟩, Km449.only 0) := fun _ => rfl
  cases st with
  | none =>
    unfold stepC
    dsimp only
    rw [e]
    by_cases h : Km449.okStart w row = false
    · rw [if_pos h, if_pos h]
      rfl
    · rw [if_neg h, if_neg h]
      rfl
  | some d =>
    unfold stepC
    dsimp only
    rw [e]
    by_cases h : Km449.okStart w row = false
    · rw [if_pos h, if_pos h]
      rfl
    · rw [if_neg h, if_neg h]
      rfl
/-- a call other than a start comes behind one -/
theorem st_some {st : Option Km449.Desk} {x : Km449.Call} (h : (stepC st x).2.isEmpty = false) (hx : Km449Neutral.isStart x = false) : ∃ d, st = some d := by
  cases st with
  | some d => exact ⟨d, rfl⟩
  | none =>
    unfold stepC at h
    dsimp only at h
    rw [hx] at h
    cases h
theorem ask_step (d : Km449.Desk) {p : Int} {xs : List Int} {c : Km449.Call} (h : AskC p xs c) : stepC (some d) c = (some d, ans d.now c) := by cases h <;> rfl
theorem look_step (d : Km449.Desk) {p : Int} {xs : List Int} {c : Km449.Call} (h : LookC p xs c) : stepC (some d) c = (some d, ans d.now c) := by cases h <;> rfl
theorem chg_start {p : Int} {xs : List Int} {c : Km449.Call} (h : ChgC p xs c) : Km449Neutral.isStart c = false := by cases h <;> rfl
theorem ask_start {p : Int} {xs : List Int} {c : Km449.Call} (h : AskC p xs c) : Km449Neutral.isStart c = false := by cases h <;> rfl
theorem look_start {p : Int} {xs : List Int} {c : Km449.Call} (h : LookC p xs c) : Km449Neutral.isStart c = false := by cases h <;> rfl
theorem undo_start {p : Int} {xs : List Int} {c : Km449.Call} (h : UndoC p xs c) : Km449Neutral.isStart c = false := by cases h <;> rfl
theorem cut_two (x y : V) (l : List V) : cutV (x :: y :: l) (some 2) none = l := by
  unfold cutV
  have e : HT.sIx (x :: y :: l).length 0 (some 2) = 2 := by
    have := HT.sIx_nat (x :: y :: l).length 0 2
    rw [Nat.min_eq_left (by show 2 ≤ l.length + 1 + 1; omega)] at this
    exact this
  rw [e, HT.sIx_none]
  show List.take (l.length + 1 + 1 - 2) l = l
  rw [List.take_of_length_le (by omega)]

section
variable {P : Program} {w : World} {K : PySem.W.Frag} {mg : Str → Option Value} {base : Heap} {A : Adr}
def sp_end_of_call (K : PySem.W.Frag) : Sp := fun vs H Q _ => ∃ (a : Addr) (l : List Int) (k k' : Nat) (c : List (List Int)), vs = [.ref a, .int k] ∧ SqL K H a (intsV l) ∧ CallAt l k k' c ∧ Q (.int k') H
theorem ok_end_of_call (T : Txt K mg A) : FnOk P w K mg base CX0 1 A.f_end_of_call A.d_end_of_call ["calls", "at"] (sp_end_of_call K) := by
  refine T.end_of_call.fn.ok sc_end_of_call (fun vs H Q E h => ?_) (fun cdv Ar outer s H vs Q E hr h => ?_)
  · obtain ⟨a, l, k, k', c, rfl, _⟩ := h
    rfl
  · obtain ⟨a, l, i, j, c, rfl, hS, hc, k⟩ := h
    have at_ : ∀ {n : Nat} {x : Int}, l[n]? = some x → (intsV l)[n]? = some (V.int x) := fun {n x} e => by rw [List.getElem?_map, e]; rfl
    refine ⟨_, (pss_cons (ps_set (i := 2) sc_end_of_call.nd rfl (by first | exact Or.inl rfl | exact Or.inr rfl) (pe_ix ix_list (pv 0) (pv 1) (fun _ _ => rfl))) (pss_cons (ps_set (i := 3) sc_end_of_call.nd rfl (by first | exact Or.inl rfl | exact Or.inr rfl) (pe_op op_add (pe_op op_add (pv 1) pe_int) (pe_ix ix_tup (pe_cref (by rfl) T.c_WIDTHS) (pv 2) (fun _ _ => rfl)))) (pss_cons (ps_if (pt_cmpR op_eq (pv 2) (pe_cst (by rfl) T.c_START) (nomark _)) (pss_one (ps_ret (pe_op op_add (pv 3) (pe_ix ix_list (pv 0) (pe_op op_add (pv 1) pe_int) (fun _ _ => rfl))))) pss_nil) (pss_one (ps_ret (pv 3)))))), ?_⟩
    cases hc with
    | @start w m row h0 h1 h2 h3 h4 h5 =>
      refine ⟨_, rfl, _, rfl, a, _, _, V.int 0, rfl, rfl, hS, at_of (j := i) rfl (at_ h0), ?_⟩
      refine ⟨_, rfl, _, _, rfl, rfl, _, rfl, A.a_WIDTHS, _, _, V.int 2, rfl, rfl, T.t_WIDTHS H, at_of (j := 0) rfl rfl, _, _, rfl, rfl, ?_⟩
      refine ⟨_, rfl, rfl, _, rfl, iteY (x := 0) ?_⟩
      refine ⟨_, rfl, _, rfl, _, rfl, _, _, rfl, rfl, a, _, _, V.int m, rfl, rfl, hS, at_of (j := i + 2) (by omega) (at_ h2), _, _, rfl, rfl, ?_⟩
      have e : (i : Int) + 1 + 2 + m = ((i + 3 + m.toNat : Nat) : Int) := by omega
      show Q (.int ((i : Int) + 1 + 2 + m)) H
      rw [e]
      exact k
    | @plain p n xs h0 h1 h2 h3 h4 h5 =>
      refine ⟨_, rfl, _, rfl, a, _, _, V.int p, rfl, rfl, hS, at_of (j := i) rfl (at_ h0), ?_⟩
      refine ⟨_, rfl, _, _, rfl, rfl, _, rfl, A.a_WIDTHS, _, _, V.int (n : Nat), rfl, rfl, T.t_WIDTHS H, at_of (j := p.toNat) (by omega) ?_, _, _, rfl, rfl, ?_⟩
      · have e : ([2, 3, 1, 2, 2, 1, 1, 0, 1, 1, 1, 2, 0, 0, 1, 1, 2, 0, 1, 0, 1, 0, 0, 0, 0].map fun (n : Nat) => V.int (n : Nat))[p.toNat]? = some (V.int (n : Nat)) := by rw [List.getElem?_map, h3]; rfl
        exact e
      refine ⟨_, rfl, rfl, _, rfl, iteN (x := p) (y := 0) (by omega) ?_⟩
      refine ⟨_, rfl, ?_⟩
      have e : (i : Int) + 1 + (n : Int) = ((i + 1 + n : Nat) : Int) := by omega
      show Q (.int ((i : Int) + 1 + (n : Int))) H
      rw [e]
      exact k
def sp_answer_of0 (A : Adr) : Sp := fun vs H Q _ => ∃ (lg g : Addr) (st : Option Km449.Desk) (p : Int) (xs : List Int) (c : Km449.Call), vs = [.ref lg, .int p, .ref g] ∧ H g = some (.lst (intsV xs)) ∧ StAt A H lg st ∧ KindC p xs c ∧ (stepC st c).2.isEmpty = false ∧
  ∀ D H', StAt A H' lg (stepC st c).1 → H' D = some (.lst (intsV (stepC st c).2)) → Q (.ref D) H'
theorem ok_answer_of0 (T : Txt K mg A) (B : BMain mg base) : FnOk P w K mg base CX0 10 A.f_answer_of A.d_answer_of ["log", "number", "given"] (sp_answer_of0 A) := by
  refine T.answer_of.fn.ok sc_answer_of (fun vs H Q E h => ?_) (fun cdv Ar outer s H vs Q E hr h => ?_)
  · obtain ⟨lg, g, st, p, xs, c, rfl, _⟩ := h
    rfl
  · obtain ⟨lg, g, st, p, xs, c, rfl, hg, hst, hk, hne, k⟩ := h
    refine ⟨_, (pss_cons (ps_if (pt_cmpR op_eq (pv 1) (pe_cst (by rfl) T.c_START) (nomark _)) (pss_one (ps_ret (pe_call (ok_hh_start T) (hr.mono (by decide)) (by rfl) T.hh_start.mg T.hh_start.fn.kp T.hh_start.bd .nil pass0 (pa_cons (pv 0) (pa_cons (pe_ix ix_list (pv 2) pe_int (fun _ _ => rfl)) (pa_cons (pe_slice sl_list (pv 2) (po_some pe_int) po_none) pa_nil)))))) pss_nil) (pss_cons (ps_if (pt_cmpR op_le (pv 1) (pe_cst (by rfl) T.c_LAST_CHANGE) (nomark _)) (pss_one (ps_ret (pe_call (ok_answer_of_change T B) (hr.mono (by decide)) (by rfl) T.answer_of_change.mg T.answer_of_change.fn.kp T.answer_of_change.bd .nil pass0 (pa_cons (pv 0) (pa_cons (pv 1) (pa_cons (pv 2) pa_nil)))))) pss_nil) (pss_cons (ps_if (pt_cmpR op_le (pv 1) (pe_cst (by rfl) T.c_LAST_ASKING) (nomark _)) (pss_one (ps_ret (pe_call (ok_answer_of_asking T B) (hr.mono (by decide)) (by rfl) T.answer_of_asking.mg T.answer_of_asking.fn.kp T.answer_of_asking.bd .nil pass0 (pa_cons (pe_fld (pv 0) rfl) (pa_cons (pv 1) (pa_cons (pv 2) pa_nil)))))) pss_nil) (pss_cons (ps_if (pt_cmpR op_le (pv 1) (pe_cst (by rfl) T.c_LAST_LOOKING) (nomark _)) (pss_one (ps_ret (pe_call (ok_answer_of_looking T B) (hr.mono (by decide)) (by rfl) T.answer_of_looking.mg T.answer_of_looking.fn.kp T.answer_of_looking.bd .nil pass0 (pa_cons (pe_fld (pv 0) rfl) (pa_cons (pv 1) (pa_cons (pv 2) pa_nil)))))) pss_nil) (pss_one (ps_ret (pe_call (ok_answer_of_undoing T) (hr.mono (by decide)) (by rfl) T.answer_of_undoing.mg T.answer_of_undoing.fn.kp T.answer_of_undoing.bd .nil pass0 (pa_cons (pv 0) (pa_cons (pv 1) pa_nil))))))))), ?_⟩
    -- the sea of a desk as it is asked
    have askq : ∀ {d : Km449.Desk}, DeskAt A H lg d → ∃ dx an el lt, H lg = some (.ins A.CLog dx (lfv (.ref an) (.ref el) (.ref lt))) ∧ AskAt A H an d.now := fun {d} X => by
      obtain ⟨dx, an, el, lt, t, pl, as, hl, S⟩ := X.log.get
      exact ⟨dx, an, el, lt, hl, ⟨t, pl, as, S⟩, X.ok.now, X.tab⟩
    cases hk with
    | start w m row h24 =>
      refine ⟨_, rfl, rfl, _, rfl, iteY (x := 0) ⟨_, rfl, _, rfl, g, _, _, V.int (w : Nat), rfl, rfl, SqL.of hg, at_of (j := 0) rfl rfl, _, rfl, _, rfl, g, _, rfl, SqL.of hg, fun tl ntl => ?_⟩⟩
      have ec : cutV (intsV ((w : Int) :: m :: Km449Neutral.nums row)) (some 2) none = numsV row := (cut_two (V.int w) (V.int m) (intsV (Km449Neutral.nums row))).trans (nums_map row)
      rw [ec]
      have sm1 : Same H (upd H tl (.lst (numsV row))) := same_upd (Same.refl _) ntl
      obtain ⟨dx, n, e, u, hl⟩ := hst.ins
      rw [step_start] at k
      refine ⟨lg, tl, dx, n, e, u, w, row, rfl, sm1 _ _ hl, upd_same, h24, hst.tab.same sm1, fun ho D H' sm2 hT2 _ hD => ?_, fun ho D H' _ X _ hD => ?_⟩
      · rw [if_pos ho] at k
        exact k D H' (hst.sm ((Sm.of sm1).trans sm2) hT2) hD
      · rw [if_neg (by rw [ho]; simp)] at k
        exact k D H' X hD
    | chg hc =>
      obtain ⟨b1, b2⟩ := hc.bd
      obtain ⟨d, rfl⟩ := st_some hne (chg_start hc)
      refine ⟨_, rfl, rfl, _, rfl, iteN (x := p) (y := 0) (by omega) ⟨_, rfl, _, _, rfl, rfl, _, rfl, ite2 (fun _ => ?_) fun z => absurd (decide_eq_true b2) z⟩⟩
      exact ⟨_, rfl, _, rfl, _, rfl, lg, g, d, p, xs, c, rfl, hg, hc, hst, k⟩
    | ask hc =>
      obtain ⟨b1, b2⟩ := hc.bd
      obtain ⟨d, rfl⟩ := st_some hne (ask_start hc)
      obtain ⟨dx, an, el, lt, hl, X⟩ := askq hst
      rw [ask_step d hc] at k
      refine ⟨_, rfl, rfl, _, rfl, iteN (x := p) (y := 0) (by omega) ⟨_, rfl, _, _, rfl, rfl, _, rfl, ite2 (fun z => absurd (of_decide_eq_true z) (by omega)) fun _ => ⟨_, rfl, _, _, rfl, rfl, _, rfl, ite2 (fun _ => ?_) fun z => absurd (decide_eq_true b2) z⟩⟩⟩
      exact ⟨_, rfl, lg, _, dx, _, _, rfl, hl, T.C_Log.cl, T.nLog_now, rfl, _, rfl, _, rfl, an, g, d.now, p, xs, c, rfl, hg, hc, X, fun D H' sm hT _ hD => k D H' (StAt.sm hst sm hT) hD⟩
    | look hc =>
      obtain ⟨b1, b2⟩ := hc.bd
      obtain ⟨d, rfl⟩ := st_some hne (look_start hc)
      obtain ⟨dx, an, el, lt, hl, X⟩ := askq hst
      rw [look_step d hc] at k
      refine ⟨_, rfl, rfl, _, rfl, iteN (x := p) (y := 0) (by omega) ⟨_, rfl, _, _, rfl, rfl, _, rfl, ite2 (fun z => absurd (of_decide_eq_true z) (by omega)) fun _ => ⟨_, rfl, _, _, rfl, rfl, _, rfl, ite2 (fun z => absurd (of_decide_eq_true z) (by omega)) fun _ => ⟨_, rfl, _, _, rfl, rfl, _, rfl, ite2 (fun _ => ?_) fun z => absurd (decide_eq_true b2) z⟩⟩⟩⟩
      exact ⟨_, rfl, lg, _, dx, _, _, rfl, hl, T.C_Log.cl, T.nLog_now, rfl, _, rfl, _, rfl, an, g, d.now, p, xs, c, rfl, hg, hc, X, fun D H' sm hT _ hD => k D H' (StAt.sm hst sm hT) hD⟩
    | undo hc =>
      obtain ⟨b1, b2⟩ := hc.bd
      obtain ⟨d, rfl⟩ := st_some hne (undo_start hc)
      refine ⟨_, rfl, rfl, _, rfl, iteN (x := p) (y := 0) (by omega) ⟨_, rfl, _, _, rfl, rfl, _, rfl, ite2 (fun z => absurd (of_decide_eq_true z) (by omega)) fun _ => ⟨_, rfl, _, _, rfl, rfl, _, rfl, ite2 (fun z => absurd (of_decide_eq_true z) (by omega)) fun _ => ⟨_, rfl, _, _, rfl, rfl, _, rfl, ite2 (fun z => absurd (of_decide_eq_true z) (by omega)) fun _ => ?_⟩⟩⟩⟩
      exact ⟨_, rfl, _, rfl, lg, g, d, p, xs, c, rfl, hc, hst, k⟩
theorem ok_answer_of (T : Txt K mg A) (B : BMain mg base) : FnOk P w K mg base CX0 10 A.f_answer_of A.d_answer_of ["log", "number", "given"] (framed (sp_answer_of0 A)) := frame (ok_answer_of0 T B)
theorem TabL.hid {A : Adr} {H : Hp} {S : List Addr} (t : TabL A H) (hS : ∀ b ∈ S, ∃ o, H b = some o ∧ PlainO o) : TabL A (Hh.hid S H) := by
  have key : ∀ {b : Addr} {o : HO}, H b = some o → ¬ PlainO o → Hh.hid S H b = some o := fun {b o} e n => by
    rw [hid_out fun z => ?_]
    · exact e
    · obtain ⟨o', q1, q2⟩ := hS b z
      rw [e] at q1
      cases q1
      exact n q2
  rcases t with t | ⟨c, t1, t2⟩
  · exact .inl (key t fun z => by cases z)
  · exact .inr ⟨c, key t1 (fun z => by cases z), key t2 (fun z => by cases z)⟩
/-- the request: what of the heap it leans on -/
theorem req_of {H : Hp} {a : Addr} {xs : List V} (h : SqL K H a xs) : ∃ R : List Addr, (∀ b ∈ R, ∃ o, H b = some o ∧ PlainO o) ∧ ∀ H' : Hp, (∀ b ∈ R, H' b = H b) → SqL K H' a xs := by
  rcases h with (h | ⟨o, h⟩) | h
  · exact ⟨[a], fun b hb => by rw [List.mem_singleton.mp hb]; exact ⟨_, h, by constructor⟩, fun H' e => .inl (.inl (by rw [e a (List.mem_singleton.mpr rfl)]; exact h))⟩
  · exact ⟨[a], fun b hb => by rw [List.mem_singleton.mp hb]; exact ⟨_, h, by constructor⟩, fun H' e => .inl (.inr ⟨o, by rw [e a (List.mem_singleton.mpr rfl)]; exact h⟩)⟩
  · exact ⟨[], fun b hb => by simp at hb, fun H' _ => .inr h⟩
def sp_answers (K : PySem.W.Frag) (A : Adr) : Sp := fun vs H Q _ => ∃ (a : Addr) (l : List Int) (f : Nat) (cs : List (List (List Int))), vs = [.ref a] ∧ SqL K H a (intsV l) ∧ PyFlat.calls PyKm449.shape f l = some cs ∧ cs.length ≤ 1000 ∧ (∀ c ∈ cs, Km449Neutral.asked1 (PyKm449.whole c) = true) ∧ Km449Neutral.may none (cs.map PyKm449.whole) = true ∧ TabL A H ∧
  ∀ D H', H' D = some (.lst (intsV (PyFlat.told (PyFlat.played Km449Neutral.step none (cs.map PyKm449.whole))))) → Q (.ref D) H'
theorem ok_answers (T : Txt K mg A) (B : BMain mg base) : FnOk P w K mg base CX0 12 A.f_answers A.d_answers ["calls"] (sp_answers K A) := by
  refine T.answers.fn.ok sc_answers (fun vs H Q E h => ?_) (fun cdv Ar outer s H vs Q E hr h => ?_)
  · obtain ⟨a, l, f, cs, rfl, _⟩ := h
    rfl
  · obtain ⟨a, l, f, cs, rfl, hS, hcs, hlen, hask, hmay, hT, k⟩ := h
    obtain ⟨R, hR, hreq⟩ := req_of hS
    refine ⟨_, (pss_cons (ps_set (i := 1) sc_answers.nd rfl (by first | exact Or.inl rfl | exact Or.inr rfl) (pe_make0 T.C_Log.made (ok_Log_init T) (hr.mono (by decide)) (by rfl) T.C_Log.mg T.Log_init.bd .nil pass0)) (pss_cons (ps_set (i := 2) sc_answers.nd rfl (by first | exact Or.inl rfl | exact Or.inr rfl) (pe_lst pa_nil)) (pss_cons (ps_set (i := 3) sc_answers.nd rfl (by first | exact Or.inl rfl | exact Or.inr rfl) pe_int) (pss_cons (ps_while PassesOwn.never (pt_cmpR op_lt (pv 3) (pe_callB call_len_seq (by rfl) T.n_len PySem.boot_len (pa_cons (pv 0) pa_nil)) (nomark _)) (pss_cons (ps_set (i := 4) sc_answers.nd rfl (by first | exact Or.inl rfl | exact Or.inr rfl) (pe_call (ok_end_of_call T) (hr.mono (by decide)) (by rfl) T.end_of_call.mg T.end_of_call.fn.kp T.end_of_call.bd .nil pass0 (pa_cons (pv 0) (pa_cons (pv 3) pa_nil)))) (pss_cons (ps_set (i := 5) sc_answers.nd rfl (by first | exact Or.inl rfl | exact Or.inr rfl) (pe_call (ok_answer_of T B) (hr.mono (by decide)) (by rfl) T.answer_of.mg T.answer_of.fn.kp T.answer_of.bd .nil pass0 (pa_cons (pv 1) (pa_cons (pe_ix ix_list (pv 0) (pv 3) (fun _ _ => rfl)) (pa_cons (pe_slice sl_list (pv 0) (po_some (pe_op op_add (pv 3) pe_int)) (po_some (pv 4))) pa_nil))))) (pss_cons (ps_expr (pe_bm PySem.F.plainAttrs_list PySem.F.slot_list_append PySem.F.type_list_append mt_append (pv 2) (pa_cons (pe_callB call_len_seq (by rfl) T.n_len PySem.boot_len (pa_cons (pv 5) pa_nil)) pa_nil))) (pss_cons (ps_expr (pe_bm PySem.F.plainAttrs_list PySem.F.slot_list_extend PySem.F.type_list_extend mt_extend (pv 2) (pa_cons (pv 5) pa_nil))) (pss_one (ps_set (i := 3) sc_answers.nd rfl (by first | exact Or.inl rfl | exact Or.inr rfl) (pv 4)))))))) (pss_one (ps_ret (pv 2))))))), ?_⟩
    -- log = Log()
    intro lg dl nl ndl nel
    refine ⟨lg, dl, rfl, upd_same, fun el lt H1 f1 hlg1 => ⟨rfl, ?_⟩⟩
    have sm1 : Same H H1 := fun b o e => f1 b o (same_new2 nl ndl b o e) (ne_of_none e nl)
    -- told = []
    refine ⟨Nat.zero_le _, fun tl nt => ?_⟩
    have sm2 : Same H (upd H1 tl (.lst [])) := sm1.trans (same_upd (Same.refl _) nt)
    have hlg : (upd H1 tl (.lst [])) lg = some (.ins A.CLog dl (lfv .non (.ref el) (.ref lt))) := by
      rw [upd_ne (fun z => by rw [z] at hlg1; rw [hlg1] at nt; cases nt)]
      exact hlg1
    have htl : (upd H1 tl (.lst [])) tl = some (.lst (intsV [])) := upd_same
    have nR : tl ∉ R := fun z => by
      obtain ⟨o, e, _⟩ := hR tl z
      rw [sm1 _ _ e] at nt
      cases nt
    have nRl : lg ∉ R := fun z => by
      obtain ⟨o, e, _⟩ := hR lg z
      rw [e] at nl
      cases nl
    generalize upd H1 tl (.lst []) = H2 at sm2 hlg htl
    have nlt : lg ≠ tl := ne_of hlg htl (by intro q; cases q)
    have hRH : ∀ b ∈ R, H2 b = H b := fun b hb => by
      obtain ⟨o, e, _⟩ := hR b hb
      rw [e]
      exact sm2 b o e
    have plain : ∀ {H' : Hp} {out : List Int}, (∀ b ∈ R, H' b = H b) → H' tl = some (.lst (intsV out)) → ∀ b ∈ tl :: R, ∃ o, H' b = some o ∧ PlainO o := fun {H' out} e1 e2 b hb => by
      rcases List.mem_cons.mp hb with z | hb
      · rw [z]; exact ⟨_, e2, .lst _⟩
      · obtain ⟨o, q1, q2⟩ := hR b hb
        exact ⟨o, by rw [e1 b hb]; exact q1, q2⟩
    have hst0 : StAt A (Hh.hid (tl :: R) H2) lg none := by
      refine ⟨⟨dl, .ref el, .ref lt, ?_⟩, (hT.same sm2).hid (plain hRH htl)⟩
      rw [hid_out fun z => ?_]
      · exact hlg
      · rcases List.mem_cons.mp z with z | z
        · exact nlt z
        · exact nRl z
    -- the loop
    refine while_by (fun σ H' => ∃ (kk f' : Nat) (st : Option Km449.Desk) (out : List Int) (cs' : List (List (List Int))) (v1 v2 : Option V), σ = [some (.ref a), some (.ref lg), some (.ref tl), some (.int kk), v1, v2] ∧ kk ≤ l.length ∧ (∀ b ∈ R, H' b = H b) ∧ StAt A (Hh.hid (tl :: R) H') lg st ∧ H' tl = some (.lst (intsV out)) ∧
        PyFlat.calls PyKm449.shape f' (l.drop kk) = some cs' ∧ out.length + 11 * cs'.length ≤ 11000 ∧ (∀ c ∈ cs', Km449Neutral.asked1 (PyKm449.whole c) = true) ∧ Km449Neutral.may st (cs'.map PyKm449.whole) = true ∧
        PyFlat.told (PyFlat.played Km449Neutral.step none (cs.map PyKm449.whole)) = out ++ PyFlat.told (PyFlat.played Km449Neutral.step st (cs'.map PyKm449.whole)))
      (fun σ _ => match σ with | [_, _, _, some (.int kk), _, _] => l.length - kk.toNat | _ => 0)
      ⟨0, f, none, [], cs, none, none, rfl, Nat.zero_le _, hRH, hst0, htl, hcs, by simp; omega, hask, hmay, rfl⟩ ?_ ?_
    · rintro σ H' ⟨kk, f', st, out, cs', v1, v2, rfl, hk, hRH', hst, htl', hcs', hlen', hask', hmay', heq⟩
      have hS' := hreq H' hRH'
      refine ⟨_, rfl, _, rfl, a, _, rfl, .inl hS', _, _, rfl, rfl, _, rfl, ?_⟩
      rw [List.length_map]
      refine ite2 (fun h1 => ?_) (fun h1 => ?_)
      · have h1 : kk < l.length := by have := of_decide_eq_true h1; omega
        have hd : l.drop kk = l[kk] :: l.drop (kk + 1) := List.drop_eq_getElem_cons h1
        rw [hd] at hcs'
        obtain ⟨c, cs2, f2, k2, rfl, hat, hk1, hk2, hcs2⟩ := turn_of hd hcs'
        obtain ⟨p, hp, hgv⟩ := hat.given
        obtain ⟨x, hx, hkd⟩ := kind_of hgv (hask' c (List.mem_cons_self ..))
        have hm : Km449Neutral.may st (PyKm449.whole c :: cs2.map PyKm449.whole) = true := hmay'
        unfold Km449Neutral.may at hm
        rw [Bool.and_eq_true, Bool.not_eq_true'] at hm
        have sl := step_len st (PyKm449.whole c)
        have ep : PyFlat.played Km449Neutral.step st ((c :: cs2).map PyKm449.whole) = (Km449Neutral.step st (PyKm449.whole c)).2 :: PyFlat.played Km449Neutral.step (Km449Neutral.step st (PyKm449.whole c)).1 (cs2.map PyKm449.whole) := rfl
        rw [ep, told_cons] at heq
        have ex : Km449Neutral.step st (PyKm449.whole c) = stepC st x := step_of hx
        rw [ex] at hm sl heq
        -- end = end_of_call(calls, at)
        refine ⟨_, rfl, _, rfl, a, l, kk, k2, c, rfl, hS', hat, ?_⟩
        -- answer = answer_of(log, calls[at], calls[at + 1:end])
        refine ⟨_, rfl, _, rfl, _, rfl, a, _, _, V.int p, rfl, rfl, hS', at_of (j := kk) rfl (by rw [List.getElem?_map, hp]; rfl), _, rfl, _, rfl, _, _, rfl, rfl, _, rfl, _, rfl, _, rfl, a, _, rfl, hS', fun g ng => ?_⟩
        have ecut : cutV (intsV l) (some ((kk : Int) + 1)) (some (k2 : Int)) = intsV ((l.drop (kk + 1)).take (k2 - (kk + 1))) := by
          have := cut_mid (intsV l) (kk + 1) k2 (by omega) (by rw [List.length_map]; exact hk2)
          rw [← List.map_drop, ← List.map_take] at this
          exact this
        rw [ecut]
        generalize hgx : (l.drop (kk + 1)).take (k2 - (kk + 1)) = gx at hkd
        have smg : Same H' (upd H' g (.lst (intsV gx))) := same_upd (Same.refl _) ng
        have htl1 := smg _ _ htl'
        have hRH1 : ∀ b ∈ R, (upd H' g (.lst (intsV gx))) b = H b := fun b hb => by
          obtain ⟨o, e, _⟩ := hR b hb
          rw [e]
          exact smg b o (by rw [hRH' b hb]; exact e)
        have nS : g ∉ tl :: R := fun z => by
          obtain ⟨o, e, _⟩ := plain hRH' htl' g z
          rw [e] at ng
          cases ng
        have smh : Same (Hh.hid (tl :: R) H') (Hh.hid (tl :: R) (upd H' g (.lst (intsV gx)))) := hid_new (fun b o e _ => smg b o e) fun b hb => .inl hb
        refine ⟨tl :: R, plain hRH1 htl1, lg, g, st, p, gx, x, rfl, ?_, hst.sm (.of smh) (hst.tab.same smh), hkd, hm.1, fun D H3 hst3 hD free => ?_⟩
        · rw [hid_out nS, upd_same]
        generalize stepC st x = y at *
        have nD : D ∉ tl :: R := fun z => by rw [free D z] at hD; cases hD
        have nDt : D ≠ tl := fun z => nD (by rw [z]; exact List.mem_cons_self ..)
        generalize hH4 : joinH (tl :: R) (upd H' g (.lst (intsV gx))) H3 = H4
        have htl4 : H4 tl = some (.lst (intsV out)) := by rw [← hH4, joinH_in (List.mem_cons_self ..)]; exact htl1
        have hD4 : H4 D = some (.lst (intsV y.2)) := by rw [← hH4, joinH_out nD]; exact hD
        have sz : out.length + 1 + y.2.length ≤ 11000 := by rw [List.length_cons] at hlen'; omega
        -- told.append(len(answer))
        refine ⟨_, rfl, .inl ⟨rfl, _, SqL.of htl4⟩, _, rfl, D, _, rfl, .inl (SqL.of hD4), tl, _, _, rfl, rfl, htl4, ?_, ?_⟩
        · rw [List.length_map]
          exact Nat.lt_of_le_of_lt (show out.length ≤ 11000 by omega) (by decide)
        -- told.extend(answer)
        have hD5 : (upd H4 tl (.lst (intsV out ++ [.int ((intsV y.2).length : Nat)]))) D = some (.lst (intsV y.2)) := by rw [upd_ne nDt]; exact hD4
        refine ⟨_, rfl, .inl ⟨rfl, _, SqL.of upd_same⟩, _, rfl, tl, D, _, _, rfl, rfl, upd_same, hD5, ?_, ?_⟩
        · rw [List.length_append, List.length_map, List.length_map]
          show out.length + 1 + y.2.length ≤ sizeLine
          exact Nat.le_trans sz (by decide)
        rw [upd_upd]
        refine ⟨_, rfl, ⟨k2, f2, y.1, out ++ ((y.2.length : Nat) : Int) :: y.2, cs2, _, _, rfl, hk2, fun b hb => ?_, ?_, ?_, hcs2, ?_, fun c' hc' => hask' c' (List.mem_cons_of_mem _ hc'), hm.2, ?_⟩, ?_⟩
        · rw [upd_ne (fun z => nR (by rw [← z]; exact hb)), ← hH4, joinH_in (List.mem_cons_of_mem _ hb)]
          exact hRH1 b hb
        · have e : Hh.hid (tl :: R) (upd H4 tl (.lst (intsV out ++ [.int ((intsV y.2).length : Nat)] ++ intsV y.2))) = H3 := by
            funext b
            by_cases z : b ∈ tl :: R
            · rw [hid_in z, free b z]
            · rw [hid_out z, upd_ne (fun q => z (by rw [q]; exact List.mem_cons_self ..)), ← hH4, joinH_out z]
          rw [e]
          exact hst3
        · rw [upd_same, List.length_map]
          unfold intsV
          rw [List.map_append, List.map_cons, List.append_assoc]
          rfl
        · rw [List.length_append, List.length_cons]
          rw [List.length_cons] at hlen'
          omega
        · rw [heq, List.append_assoc]
          rfl
        · show l.length - ((k2 : Int)).toNat < l.length - ((kk : Int)).toNat
          omega
      · have h1 : ¬ kk < l.length := fun z => h1 (decide_eq_true (by omega))
        have hd : l.drop kk = [] := List.drop_eq_nil_of_le (by omega)
        rw [hd] at hcs'
        have e := calls_nil hcs'
        subst e
        refine ⟨_, rfl, k tl H' ?_⟩
        rw [htl', heq]
        show _ = some (HO.lst (intsV (out ++ [])))
        rw [List.append_nil]
    · rintro σ H' Q1 Q2 hQ hc
      obtain ⟨v, e1, hc⟩ := hc
      obtain ⟨v2, e2, a2, ys, e3, e4, i, j, e5, e6, b, e7, q⟩ := hc
      exact ⟨v, e1, v2, e2, a2, ys, e3, e4, i, j, e5, e6, b, e7, hQ _ _ q⟩
end
end Hh
set_option Elab.async false
set_option linter.all false
set_option maxRecDepth 100000
set_option maxHeartbeats 4000000
namespace Hh
open PySem PySem.Spec PyProof.Rows L2
theorem txt_mk {K : PySem.W.Frag} {h : Heap} {mg : Str → Option Value} (X : K.In h) (G : h.Ns mainGlobals mg)
    {C_Group : Addr}
    {C_Person : Addr}
    {C_Sea : Addr}
    {C_Log : Addr}
    {f0 : Addr} {od0 an0 : Option Addr} {sl0 : Array (Option Value)} {oc0 kV0 dc0 pm0 cd0 ct0 : Value}
    {f1 : Addr} {od1 an1 : Option Addr} {sl1 : Array (Option Value)} {oc1 kV1 dc1 pm1 cd1 ct1 : Value}
    {f2 : Addr} {od2 an2 : Option Addr} {sl2 : Array (Option Value)} {oc2 kV2 dc2 pm2 cd2 ct2 : Value}
    {f3 : Addr} {od3 an3 : Option Addr} {sl3 : Array (Option Value)} {oc3 kV3 dc3 pm3 cd3 ct3 : Value}
    {f4 : Addr} {od4 an4 : Option Addr} {sl4 : Array (Option Value)} {oc4 kV4 dc4 pm4 ct4 : Value}
    {f5 : Addr} {od5 an5 : Option Addr} {sl5 : Array (Option Value)} {oc5 kV5 dc5 pm5 cd5 ct5 : Value}
    {f6 : Addr} {od6 an6 : Option Addr} {sl6 : Array (Option Value)} {oc6 kV6 dc6 pm6 cd6 ct6 : Value}
    {f7 : Addr} {od7 an7 : Option Addr} {sl7 : Array (Option Value)} {oc7 kV7 dc7 pm7 cd7 ct7 : Value}
    {f8 : Addr} {od8 an8 : Option Addr} {sl8 : Array (Option Value)} {oc8 kV8 dc8 pm8 cd8 ct8 : Value}
    {f9 : Addr} {od9 an9 : Option Addr} {sl9 : Array (Option Value)} {oc9 kV9 dc9 pm9 cd9 ct9 : Value}
    {f10 : Addr} {od10 an10 : Option Addr} {sl10 : Array (Option Value)} {oc10 kV10 dc10 pm10 cd10 ct10 : Value}
    {f11 : Addr} {od11 an11 : Option Addr} {sl11 : Array (Option Value)} {oc11 kV11 dc11 pm11 cd11 ct11 : Value}
    {f12 : Addr} {od12 an12 : Option Addr} {sl12 : Array (Option Value)} {oc12 kV12 dc12 pm12 cd12 ct12 : Value}
    {f13 : Addr} {od13 an13 : Option Addr} {sl13 : Array (Option Value)} {oc13 kV13 dc13 pm13 cd13 ct13 : Value}
    {f14 : Addr} {od14 an14 : Option Addr} {sl14 : Array (Option Value)} {oc14 kV14 dc14 pm14 cd14 ct14 : Value}
    {f15 : Addr} {od15 an15 : Option Addr} {sl15 : Array (Option Value)} {oc15 kV15 dc15 pm15 cd15 ct15 : Value}
    {f16 : Addr} {od16 an16 : Option Addr} {sl16 : Array (Option Value)} {oc16 kV16 dc16 pm16 cd16 ct16 : Value}
    {f17 : Addr} {od17 an17 : Option Addr} {sl17 : Array (Option Value)} {oc17 kV17 dc17 pm17 cd17 ct17 : Value}
    {f18 : Addr} {od18 an18 : Option Addr} {sl18 : Array (Option Value)} {oc18 kV18 dc18 pm18 cd18 ct18 : Value}
    {f19 : Addr} {od19 an19 : Option Addr} {sl19 : Array (Option Value)} {oc19 kV19 dc19 pm19 cd19 ct19 : Value}
    {f20 : Addr} {od20 an20 : Option Addr} {sl20 : Array (Option Value)} {oc20 kV20 dc20 pm20 cd20 ct20 : Value}
    {f21 : Addr} {od21 an21 : Option Addr} {sl21 : Array (Option Value)} {oc21 kV21 dc21 pm21 cd21 ct21 : Value}
    {f22 : Addr} {od22 an22 : Option Addr} {sl22 : Array (Option Value)} {oc22 kV22 dc22 pm22 cd22 ct22 : Value}
    {f23 : Addr} {od23 an23 : Option Addr} {sl23 : Array (Option Value)} {oc23 kV23 dc23 pm23 cd23 ct23 : Value}
    {f24 : Addr} {od24 an24 : Option Addr} {sl24 : Array (Option Value)} {oc24 kV24 dc24 pm24 cd24 ct24 : Value}
    {f25 : Addr} {od25 an25 : Option Addr} {sl25 : Array (Option Value)} {oc25 kV25 dc25 pm25 cd25 ct25 : Value}
    {f26 : Addr} {od26 an26 : Option Addr} {sl26 : Array (Option Value)} {oc26 kV26 dc26 pm26 cd26 ct26 : Value}
    {f27 : Addr} {od27 an27 : Option Addr} {sl27 : Array (Option Value)} {oc27 kV27 dc27 pm27 cd27 ct27 : Value}
    {f28 : Addr} {od28 an28 : Option Addr} {sl28 : Array (Option Value)} {oc28 kV28 dc28 pm28 cd28 ct28 : Value}
    {f29 : Addr} {od29 an29 : Option Addr} {sl29 : Array (Option Value)} {oc29 kV29 dc29 pm29 cd29 ct29 : Value}
    {f30 : Addr} {od30 an30 : Option Addr} {sl30 : Array (Option Value)} {oc30 kV30 dc30 pm30 cd30 ct30 : Value}
    {f31 : Addr} {od31 an31 : Option Addr} {sl31 : Array (Option Value)} {oc31 kV31 dc31 pm31 cd31 ct31 : Value}
    {f32 : Addr} {od32 an32 : Option Addr} {sl32 : Array (Option Value)} {oc32 kV32 dc32 pm32 cd32 ct32 : Value}
    {f33 : Addr} {od33 an33 : Option Addr} {sl33 : Array (Option Value)} {oc33 kV33 dc33 pm33 cd33 ct33 : Value}
    {f34 : Addr} {od34 an34 : Option Addr} {sl34 : Array (Option Value)} {oc34 kV34 dc34 pm34 cd34 ct34 : Value}
    {f35 : Addr} {od35 an35 : Option Addr} {sl35 : Array (Option Value)} {oc35 kV35 dc35 pm35 cd35 ct35 : Value}
    {f36 : Addr} {od36 an36 : Option Addr} {sl36 : Array (Option Value)} {oc36 kV36 dc36 pm36 cd36 ct36 : Value}
    {f37 : Addr} {od37 an37 : Option Addr} {sl37 : Array (Option Value)} {oc37 kV37 dc37 pm37 cd37 ct37 : Value}
    {f38 : Addr} {od38 an38 : Option Addr} {sl38 : Array (Option Value)} {oc38 kV38 dc38 pm38 cd38 ct38 : Value}
    {f39 : Addr} {od39 an39 : Option Addr} {sl39 : Array (Option Value)} {oc39 kV39 dc39 pm39 cd39 ct39 : Value}
    {f40 : Addr} {od40 an40 : Option Addr} {sl40 : Array (Option Value)} {oc40 kV40 dc40 pm40 cd40 ct40 : Value}
    {f41 : Addr} {od41 an41 : Option Addr} {sl41 : Array (Option Value)} {oc41 kV41 dc41 pm41 cd41 ct41 : Value}
    {f42 : Addr} {od42 an42 : Option Addr} {sl42 : Array (Option Value)} {oc42 kV42 dc42 pm42 cd42 ct42 : Value}
    {f43 : Addr} {od43 an43 : Option Addr} {sl43 : Array (Option Value)} {oc43 kV43 dc43 pm43 cd43 ct43 : Value}
    {f44 : Addr} {od44 an44 : Option Addr} {sl44 : Array (Option Value)} {oc44 kV44 dc44 pm44 cd44 ct44 : Value}
    {f45 : Addr} {od45 an45 : Option Addr} {sl45 : Array (Option Value)} {oc45 kV45 dc45 pm45 cd45 ct45 : Value}
    {f46 : Addr} {od46 an46 : Option Addr} {sl46 : Array (Option Value)} {oc46 kV46 dc46 pm46 cd46 ct46 : Value}
    {f47 : Addr} {od47 an47 : Option Addr} {sl47 : Array (Option Value)} {oc47 kV47 dc47 pm47 cd47 ct47 : Value}
    {f48 : Addr} {od48 an48 : Option Addr} {sl48 : Array (Option Value)} {oc48 kV48 dc48 pm48 cd48 ct48 : Value}
    {f49 : Addr} {od49 an49 : Option Addr} {sl49 : Array (Option Value)} {oc49 kV49 dc49 pm49 cd49 ct49 : Value}
    {f50 : Addr} {od50 an50 : Option Addr} {sl50 : Array (Option Value)} {oc50 kV50 dc50 pm50 cd50 ct50 : Value}
    {f51 : Addr} {od51 an51 : Option Addr} {sl51 : Array (Option Value)} {oc51 kV51 dc51 pm51 cd51 ct51 : Value}
    {f52 : Addr} {od52 an52 : Option Addr} {sl52 : Array (Option Value)} {oc52 kV52 dc52 pm52 cd52 ct52 : Value}
    {f53 : Addr} {od53 an53 : Option Addr} {sl53 : Array (Option Value)} {oc53 kV53 dc53 pm53 cd53 ct53 : Value}
    {f54 : Addr} {od54 an54 : Option Addr} {sl54 : Array (Option Value)} {oc54 kV54 dc54 pm54 cd54 ct54 : Value}
    {f55 : Addr} {od55 an55 : Option Addr} {sl55 : Array (Option Value)} {oc55 kV55 dc55 pm55 cd55 ct55 : Value}
    {f56 : Addr} {od56 an56 : Option Addr} {sl56 : Array (Option Value)} {oc56 kV56 dc56 pm56 cd56 ct56 : Value}
    {f57 : Addr} {od57 an57 : Option Addr} {sl57 : Array (Option Value)} {oc57 kV57 dc57 pm57 cd57 ct57 : Value}
    {f58 : Addr} {od58 an58 : Option Addr} {sl58 : Array (Option Value)} {oc58 kV58 dc58 pm58 cd58 ct58 : Value}
    {f59 : Addr} {od59 an59 : Option Addr} {sl59 : Array (Option Value)} {oc59 kV59 dc59 pm59 cd59 ct59 : Value}
    {f60 : Addr} {od60 an60 : Option Addr} {sl60 : Array (Option Value)} {oc60 kV60 dc60 pm60 cd60 ct60 : Value}
    {f61 : Addr} {od61 an61 : Option Addr} {sl61 : Array (Option Value)} {oc61 kV61 dc61 pm61 cd61 ct61 : Value}
    {f62 : Addr} {od62 an62 : Option Addr} {sl62 : Array (Option Value)} {oc62 kV62 dc62 pm62 cd62 ct62 : Value}
    {f63 : Addr} {od63 an63 : Option Addr} {sl63 : Array (Option Value)} {oc63 kV63 dc63 pm63 cd63 ct63 : Value}
    {f64 : Addr} {od64 an64 : Option Addr} {sl64 : Array (Option Value)} {oc64 kV64 dc64 pm64 cd64 ct64 : Value}
    {f65 : Addr} {od65 an65 : Option Addr} {sl65 : Array (Option Value)} {oc65 kV65 dc65 pm65 cd65 ct65 : Value}
    {f66 : Addr} {od66 an66 : Option Addr} {sl66 : Array (Option Value)} {oc66 kV66 dc66 pm66 cd66 ct66 : Value}
    {f67 : Addr} {od67 an67 : Option Addr} {sl67 : Array (Option Value)} {oc67 kV67 dc67 pm67 cd67 ct67 : Value}
    {f68 : Addr} {od68 an68 : Option Addr} {sl68 : Array (Option Value)} {oc68 kV68 dc68 pm68 cd68 ct68 : Value}
    {f69 : Addr} {od69 an69 : Option Addr} {sl69 : Array (Option Value)} {oc69 kV69 dc69 pm69 cd69 ct69 : Value}
    {f70 : Addr} {od70 an70 : Option Addr} {sl70 : Array (Option Value)} {oc70 kV70 dc70 pm70 cd70 ct70 : Value}
    {f71 : Addr} {od71 an71 : Option Addr} {sl71 : Array (Option Value)} {oc71 kV71 dc71 pm71 cd71 ct71 : Value}
    {tc tP : Addr} {occ : Value} {odc : Option Addr} {vsc : Array Value} {slc : Array (Option Value)}
    {t_WARMEST : Tok}
    {t_RAFT_PLACE : Tok}
    {t_CLOTHINGS : Tok}
    {t_TOLD_MOST : Tok}
    {t_TAKES_MOST : Tok}
    {t_PERSONS_MOST : Tok}
    {t_PASSING_MOST : Tok}
    {t_LAST_MINUTE : Tok}
    {t_BEGIN_MOST : Tok}
    {t_CHANGES_KEPT : Tok}
    {t_WAITS : Tok}
    {t_TAKEN_UP : Tok}
    {t_LOST : Tok}
    {t_NOT_THERE : Tok}
    {t_NOBODY : Tok}
    {t_NOT_WAITING : Tok}
    {t_ALREADY_SO : Tok}
    {t_NOT_ALLOWED : Tok}
    {t_NO_ROOM : Tok}
    {t_TOO_LATE : Tok}
    {t_START : Tok}
    {t_LAST_CHANGE : Tok}
    {t_LAST_ASKING : Tok}
    {t_LAST_LOOKING : Tok}
    {a_WIDTHS : Addr} {dd_WIDTHS : Option Addr} {n_WIDTHS : Nat} {sl_WIDTHS : Array (Option Value)} {t_WIDTHS_0 t_WIDTHS_1 t_WIDTHS_2 t_WIDTHS_3 t_WIDTHS_4 t_WIDTHS_5 t_WIDTHS_6 t_WIDTHS_7 t_WIDTHS_8 t_WIDTHS_9 t_WIDTHS_10 t_WIDTHS_11 t_WIDTHS_12 t_WIDTHS_13 t_WIDTHS_14 t_WIDTHS_15 t_WIDTHS_16 t_WIDTHS_17 t_WIDTHS_18 t_WIDTHS_19 t_WIDTHS_20 t_WIDTHS_21 t_WIDTHS_22 t_WIDTHS_23 t_WIDTHS_24 : Tok}
    (a_Group : PySem.W.nsIn K mainGlobals "Group" = some (some (.ref C_Group)))
    (a_Person : PySem.W.nsIn K mainGlobals "Person" = some (some (.ref C_Person)))
    (a_Sea : PySem.W.nsIn K mainGlobals "Sea" = some (some (.ref C_Sea)))
    (a_Log : PySem.W.nsIn K mainGlobals "Log" = some (some (.ref C_Log)))
    (a0 : PySem.W.findIn K (.ref C_Group) "__init__" = some (some (.ref f0)))
    (i0 : PySem.W.isFn K (.ref f0) = true)
    (l0 : K.lookup f0 = some ⟨oc0, od0, .func (PySem.W.fnOf "__init__" "Group.__init__" (defArgs st_Group_init) (defBody st_Group_init) (defScope st_Group_init) .none kV0 dc0 pm0 an0 cd0 ct0), sl0⟩)
    (c0 : PySem.W.codeIn K cd0 "Group.__init__" = true)
    (k0 : PySem.W.keepIn K (.ref f0) = true)
    (a1 : PySem.W.findIn K (.ref C_Group) "has" = some (some (.ref f1)))
    (i1 : PySem.W.isFn K (.ref f1) = true)
    (l1 : K.lookup f1 = some ⟨oc1, od1, .func (PySem.W.fnOf "has" "Group.has" (defArgs st_Group_has) (defBody st_Group_has) (defScope st_Group_has) .none kV1 dc1 pm1 an1 cd1 ct1), sl1⟩)
    (c1 : PySem.W.codeIn K cd1 "Group.has" = true)
    (k1 : PySem.W.keepIn K (.ref f1) = true)
    (a2 : PySem.W.findIn K (.ref C_Group) "joined_by" = some (some (.ref f2)))
    (i2 : PySem.W.isFn K (.ref f2) = true)
    (l2 : K.lookup f2 = some ⟨oc2, od2, .func (PySem.W.fnOf "joined_by" "Group.joined_by" (defArgs st_Group_joined_by) (defBody st_Group_joined_by) (defScope st_Group_joined_by) .none kV2 dc2 pm2 an2 cd2 ct2), sl2⟩)
    (c2 : PySem.W.codeIn K cd2 "Group.joined_by" = true)
    (k2 : PySem.W.keepIn K (.ref f2) = true)
    (a3 : PySem.W.nsIn K mainGlobals "empty_group" = some (some (.ref f3)))
    (l3 : K.lookup f3 = some ⟨oc3, od3, .func (PySem.W.fnOf "empty_group" "empty_group" (defArgs st_empty_group) (defBody st_empty_group) (defScope st_empty_group) .none kV3 dc3 pm3 an3 cd3 ct3), sl3⟩)
    (c3 : PySem.W.codeIn K cd3 "empty_group" = true)
    (k3 : PySem.W.keepIn K (.ref f3) = true)
    (a4 : PySem.W.nsIn K mainGlobals "numbers_by_left" = some (some (.ref f4)))
    (l4 : K.lookup f4 = some ⟨oc4, od4, .func (PySem.W.fnOf "numbers_by_left" "numbers_by_left" (defArgs st_numbers_by_left) (defBody st_numbers_by_left) (defScope st_numbers_by_left) .none kV4 dc4 pm4 an4 (.ref tc) ct4), sl4⟩)
    (c4 : PySem.W.codeIn K (.ref tc) "numbers_by_left" = true)
    (k4 : PySem.W.keepIn K (.ref f4) = true)
    (a5 : PySem.W.nsIn K mainGlobals "numbers_within" = some (some (.ref f5)))
    (l5 : K.lookup f5 = some ⟨oc5, od5, .func (PySem.W.fnOf "numbers_within" "numbers_within" (defArgs st_numbers_within) (defBody st_numbers_within) (defScope st_numbers_within) .none kV5 dc5 pm5 an5 cd5 ct5), sl5⟩)
    (c5 : PySem.W.codeIn K cd5 "numbers_within" = true)
    (k5 : PySem.W.keepIn K (.ref f5) = true)
    (a6 : PySem.W.nsIn K mainGlobals "group_of" = some (some (.ref f6)))
    (l6 : K.lookup f6 = some ⟨oc6, od6, .func (PySem.W.fnOf "group_of" "group_of" (defArgs st_group_of) (defBody st_group_of) (defScope st_group_of) .none kV6 dc6 pm6 an6 cd6 ct6), sl6⟩)
    (c6 : PySem.W.codeIn K cd6 "group_of" = true)
    (k6 : PySem.W.keepIn K (.ref f6) = true)
    (a7 : PySem.W.nsIn K mainGlobals "groups_in_time" = some (some (.ref f7)))
    (l7 : K.lookup f7 = some ⟨oc7, od7, .func (PySem.W.fnOf "groups_in_time" "groups_in_time" (defArgs st_groups_in_time) (defBody st_groups_in_time) (defScope st_groups_in_time) .none kV7 dc7 pm7 an7 cd7 ct7), sl7⟩)
    (c7 : PySem.W.codeIn K cd7 "groups_in_time" = true)
    (k7 : PySem.W.keepIn K (.ref f7) = true)
    (a8 : PySem.W.nsIn K mainGlobals "is_better" = some (some (.ref f8)))
    (l8 : K.lookup f8 = some ⟨oc8, od8, .func (PySem.W.fnOf "is_better" "is_better" (defArgs st_is_better) (defBody st_is_better) (defScope st_is_better) .none kV8 dc8 pm8 an8 cd8 ct8), sl8⟩)
    (c8 : PySem.W.codeIn K cd8 "is_better" = true)
    (k8 : PySem.W.keepIn K (.ref f8) = true)
    (a9 : PySem.W.nsIn K mainGlobals "the_most" = some (some (.ref f9)))
    (l9 : K.lookup f9 = some ⟨oc9, od9, .func (PySem.W.fnOf "the_most" "the_most" (defArgs st_the_most) (defBody st_the_most) (defScope st_the_most) .none kV9 dc9 pm9 an9 cd9 ct9), sl9⟩)
    (c9 : PySem.W.codeIn K cd9 "the_most" = true)
    (k9 : PySem.W.keepIn K (.ref f9) = true)
    (a10 : PySem.W.nsIn K mainGlobals "the_plan" = some (some (.ref f10)))
    (l10 : K.lookup f10 = some ⟨oc10, od10, .func (PySem.W.fnOf "the_plan" "the_plan" (defArgs st_the_plan) (defBody st_the_plan) (defScope st_the_plan) .none kV10 dc10 pm10 an10 cd10 ct10), sl10⟩)
    (c10 : PySem.W.codeIn K cd10 "the_plan" = true)
    (k10 : PySem.W.keepIn K (.ref f10) = true)
    (a11 : PySem.W.nsIn K mainGlobals "longest_wait" = some (some (.ref f11)))
    (l11 : K.lookup f11 = some ⟨oc11, od11, .func (PySem.W.fnOf "longest_wait" "longest_wait" (defArgs st_longest_wait) (defBody st_longest_wait) (defScope st_longest_wait) .none kV11 dc11 pm11 an11 cd11 ct11), sl11⟩)
    (c11 : PySem.W.codeIn K cd11 "longest_wait" = true)
    (k11 : PySem.W.keepIn K (.ref f11) = true)
    (a12 : PySem.W.nsIn K mainGlobals "groups_of_the_most" = some (some (.ref f12)))
    (l12 : K.lookup f12 = some ⟨oc12, od12, .func (PySem.W.fnOf "groups_of_the_most" "groups_of_the_most" (defArgs st_groups_of_the_most) (defBody st_groups_of_the_most) (defScope st_groups_of_the_most) .none kV12 dc12 pm12 an12 cd12 ct12), sl12⟩)
    (c12 : PySem.W.codeIn K cd12 "groups_of_the_most" = true)
    (k12 : PySem.W.keepIn K (.ref f12) = true)
    (a13 : PySem.W.nsIn K mainGlobals "is_among_the_most" = some (some (.ref f13)))
    (l13 : K.lookup f13 = some ⟨oc13, od13, .func (PySem.W.fnOf "is_among_the_most" "is_among_the_most" (defArgs st_is_among_the_most) (defBody st_is_among_the_most) (defScope st_is_among_the_most) .none kV13 dc13 pm13 an13 cd13 ct13), sl13⟩)
    (c13 : PySem.W.codeIn K cd13 "is_among_the_most" = true)
    (k13 : PySem.W.keepIn K (.ref f13) = true)
    (a14 : PySem.W.nsIn K mainGlobals "size_without" = some (some (.ref f14)))
    (l14 : K.lookup f14 = some ⟨oc14, od14, .func (PySem.W.fnOf "size_without" "size_without" (defArgs st_size_without) (defBody st_size_without) (defScope st_size_without) .none kV14 dc14 pm14 an14 cd14 ct14), sl14⟩)
    (c14 : PySem.W.codeIn K cd14 "size_without" = true)
    (k14 : PySem.W.keepIn K (.ref f14) = true)
    (a15 : PySem.W.nsIn K mainGlobals "refusal_unless_waiting" = some (some (.ref f15)))
    (l15 : K.lookup f15 = some ⟨oc15, od15, .func (PySem.W.fnOf "refusal_unless_waiting" "refusal_unless_waiting" (defArgs st_refusal_unless_waiting) (defBody st_refusal_unless_waiting) (defScope st_refusal_unless_waiting) .none kV15 dc15 pm15 an15 cd15 ct15), sl15⟩)
    (c15 : PySem.W.codeIn K cd15 "refusal_unless_waiting" = true)
    (k15 : PySem.W.keepIn K (.ref f15) = true)
    (a16 : PySem.W.nsIn K mainGlobals "refusal_of_raft" = some (some (.ref f16)))
    (l16 : K.lookup f16 = some ⟨oc16, od16, .func (PySem.W.fnOf "refusal_of_raft" "refusal_of_raft" (defArgs st_refusal_of_raft) (defBody st_refusal_of_raft) (defScope st_refusal_of_raft) .none kV16 dc16 pm16 an16 cd16 ct16), sl16⟩)
    (c16 : PySem.W.codeIn K cd16 "refusal_of_raft" = true)
    (k16 : PySem.W.keepIn K (.ref f16) = true)
    (a17 : PySem.W.nsIn K mainGlobals "refusal_of_clothes" = some (some (.ref f17)))
    (l17 : K.lookup f17 = some ⟨oc17, od17, .func (PySem.W.fnOf "refusal_of_clothes" "refusal_of_clothes" (defArgs st_refusal_of_clothes) (defBody st_refusal_of_clothes) (defScope st_refusal_of_clothes) .none kV17 dc17 pm17 an17 cd17 ct17), sl17⟩)
    (c17 : PySem.W.codeIn K cd17 "refusal_of_clothes" = true)
    (k17 : PySem.W.keepIn K (.ref f17) = true)
    (a18 : PySem.W.nsIn K mainGlobals "refusal_of_fit" = some (some (.ref f18)))
    (l18 : K.lookup f18 = some ⟨oc18, od18, .func (PySem.W.fnOf "refusal_of_fit" "refusal_of_fit" (defArgs st_refusal_of_fit) (defBody st_refusal_of_fit) (defScope st_refusal_of_fit) .none kV18 dc18 pm18 an18 cd18 ct18), sl18⟩)
    (c18 : PySem.W.codeIn K cd18 "refusal_of_fit" = true)
    (k18 : PySem.W.keepIn K (.ref f18) = true)
    (a19 : PySem.W.findIn K (.ref C_Person) "__init__" = some (some (.ref f19)))
    (i19 : PySem.W.isFn K (.ref f19) = true)
    (l19 : K.lookup f19 = some ⟨oc19, od19, .func (PySem.W.fnOf "__init__" "Person.__init__" (defArgs st_Person_init) (defBody st_Person_init) (defScope st_Person_init) .none kV19 dc19 pm19 an19 cd19 ct19), sl19⟩)
    (c19 : PySem.W.codeIn K cd19 "Person.__init__" = true)
    (k19 : PySem.W.keepIn K (.ref f19) = true)
    (a20 : PySem.W.findIn K (.ref C_Person) "waits" = some (some (.ref f20)))
    (i20 : PySem.W.isFn K (.ref f20) = true)
    (l20 : K.lookup f20 = some ⟨oc20, od20, .func (PySem.W.fnOf "waits" "Person.waits" (defArgs st_Person_waits) (defBody st_Person_waits) (defScope st_Person_waits) .none kV20 dc20 pm20 an20 cd20 ct20), sl20⟩)
    (c20 : PySem.W.codeIn K cd20 "Person.waits" = true)
    (k20 : PySem.W.keepIn K (.ref f20) = true)
    (a21 : PySem.W.findIn K (.ref C_Person) "duplicate" = some (some (.ref f21)))
    (i21 : PySem.W.isFn K (.ref f21) = true)
    (l21 : K.lookup f21 = some ⟨oc21, od21, .func (PySem.W.fnOf "duplicate" "Person.duplicate" (defArgs st_Person_duplicate) (defBody st_Person_duplicate) (defScope st_Person_duplicate) .none kV21 dc21 pm21 an21 cd21 ct21), sl21⟩)
    (c21 : PySem.W.codeIn K cd21 "Person.duplicate" = true)
    (k21 : PySem.W.keepIn K (.ref f21) = true)
    (a22 : PySem.W.findIn K (.ref C_Sea) "__init__" = some (some (.ref f22)))
    (i22 : PySem.W.isFn K (.ref f22) = true)
    (l22 : K.lookup f22 = some ⟨oc22, od22, .func (PySem.W.fnOf "__init__" "Sea.__init__" (defArgs st_Sea_init) (defBody st_Sea_init) (defScope st_Sea_init) .none kV22 dc22 pm22 an22 cd22 ct22), sl22⟩)
    (c22 : PySem.W.codeIn K cd22 "Sea.__init__" = true)
    (k22 : PySem.W.keepIn K (.ref f22) = true)
    (a23 : PySem.W.findIn K (.ref C_Sea) "duplicate" = some (some (.ref f23)))
    (i23 : PySem.W.isFn K (.ref f23) = true)
    (l23 : K.lookup f23 = some ⟨oc23, od23, .func (PySem.W.fnOf "duplicate" "Sea.duplicate" (defArgs st_Sea_duplicate) (defBody st_Sea_duplicate) (defScope st_Sea_duplicate) .none kV23 dc23 pm23 an23 cd23 ct23), sl23⟩)
    (c23 : PySem.W.codeIn K cd23 "Sea.duplicate" = true)
    (k23 : PySem.W.keepIn K (.ref f23) = true)
    (a24 : PySem.W.findIn K (.ref C_Sea) "told_row" = some (some (.ref f24)))
    (i24 : PySem.W.isFn K (.ref f24) = true)
    (l24 : K.lookup f24 = some ⟨oc24, od24, .func (PySem.W.fnOf "told_row" "Sea.told_row" (defArgs st_Sea_told_row) (defBody st_Sea_told_row) (defScope st_Sea_told_row) .none kV24 dc24 pm24 an24 cd24 ct24), sl24⟩)
    (c24 : PySem.W.codeIn K cd24 "Sea.told_row" = true)
    (k24 : PySem.W.keepIn K (.ref f24) = true)
    (a25 : PySem.W.findIn K (.ref C_Sea) "told_at" = some (some (.ref f25)))
    (i25 : PySem.W.isFn K (.ref f25) = true)
    (l25 : K.lookup f25 = some ⟨oc25, od25, .func (PySem.W.fnOf "told_at" "Sea.told_at" (defArgs st_Sea_told_at) (defBody st_Sea_told_at) (defScope st_Sea_told_at) .none kV25 dc25 pm25 an25 cd25 ct25), sl25⟩)
    (c25 : PySem.W.codeIn K cd25 "Sea.told_at" = true)
    (k25 : PySem.W.keepIn K (.ref f25) = true)
    (a26 : PySem.W.findIn K (.ref C_Sea) "told" = some (some (.ref f26)))
    (i26 : PySem.W.isFn K (.ref f26) = true)
    (l26 : K.lookup f26 = some ⟨oc26, od26, .func (PySem.W.fnOf "told" "Sea.told" (defArgs st_Sea_told) (defBody st_Sea_told) (defScope st_Sea_told) .none kV26 dc26 pm26 an26 cd26 ct26), sl26⟩)
    (c26 : PySem.W.codeIn K cd26 "Sea.told" = true)
    (k26 : PySem.W.keepIn K (.ref f26) = true)
    (a27 : PySem.W.findIn K (.ref C_Sea) "numbers_of" = some (some (.ref f27)))
    (i27 : PySem.W.isFn K (.ref f27) = true)
    (l27 : K.lookup f27 = some ⟨oc27, od27, .func (PySem.W.fnOf "numbers_of" "Sea.numbers_of" (defArgs st_Sea_numbers_of) (defBody st_Sea_numbers_of) (defScope st_Sea_numbers_of) .none kV27 dc27 pm27 an27 cd27 ct27), sl27⟩)
    (c27 : PySem.W.codeIn K cd27 "Sea.numbers_of" = true)
    (k27 : PySem.W.keepIn K (.ref f27) = true)
    (a28 : PySem.W.nsIn K mainGlobals "rescaled" = some (some (.ref f28)))
    (l28 : K.lookup f28 = some ⟨oc28, od28, .func (PySem.W.fnOf "rescaled" "rescaled" (defArgs st_rescaled) (defBody st_rescaled) (defScope st_rescaled) .none kV28 dc28 pm28 an28 cd28 ct28), sl28⟩)
    (c28 : PySem.W.codeIn K cd28 "rescaled" = true)
    (k28 : PySem.W.keepIn K (.ref f28) = true)
    (a29 : PySem.W.nsIn K mainGlobals "refit" = some (some (.ref f29)))
    (l29 : K.lookup f29 = some ⟨oc29, od29, .func (PySem.W.fnOf "refit" "refit" (defArgs st_refit) (defBody st_refit) (defScope st_refit) .none kV29 dc29 pm29 an29 cd29 ct29), sl29⟩)
    (c29 : PySem.W.codeIn K cd29 "refit" = true)
    (k29 : PySem.W.keepIn K (.ref f29) = true)
    (a30 : PySem.W.nsIn K mainGlobals "turn_water" = some (some (.ref f30)))
    (l30 : K.lookup f30 = some ⟨oc30, od30, .func (PySem.W.fnOf "turn_water" "turn_water" (defArgs st_turn_water) (defBody st_turn_water) (defScope st_turn_water) .none kV30 dc30 pm30 an30 cd30 ct30), sl30⟩)
    (c30 : PySem.W.codeIn K cd30 "turn_water" = true)
    (k30 : PySem.W.keepIn K (.ref f30) = true)
    (a31 : PySem.W.nsIn K mainGlobals "pass_minutes" = some (some (.ref f31)))
    (l31 : K.lookup f31 = some ⟨oc31, od31, .func (PySem.W.fnOf "pass_minutes" "pass_minutes" (defArgs st_pass_minutes) (defBody st_pass_minutes) (defScope st_pass_minutes) .none kV31 dc31 pm31 an31 cd31 ct31), sl31⟩)
    (c31 : PySem.W.codeIn K cd31 "pass_minutes" = true)
    (k31 : PySem.W.keepIn K (.ref f31) = true)
    (a32 : PySem.W.nsIn K mainGlobals "take_up" = some (some (.ref f32)))
    (l32 : K.lookup f32 = some ⟨oc32, od32, .func (PySem.W.fnOf "take_up" "take_up" (defArgs st_take_up) (defBody st_take_up) (defScope st_take_up) .none kV32 dc32 pm32 an32 cd32 ct32), sl32⟩)
    (c32 : PySem.W.codeIn K cd32 "take_up" = true)
    (k32 : PySem.W.keepIn K (.ref f32) = true)
    (a33 : PySem.W.nsIn K mainGlobals "hh_left" = some (some (.ref f33)))
    (l33 : K.lookup f33 = some ⟨oc33, od33, .func (PySem.W.fnOf "hh_left" "hh_left" (defArgs st_hh_left) (defBody st_hh_left) (defScope st_hh_left) .none kV33 dc33 pm33 an33 cd33 ct33), sl33⟩)
    (c33 : PySem.W.codeIn K cd33 "hh_left" = true)
    (k33 : PySem.W.keepIn K (.ref f33) = true)
    (a34 : PySem.W.nsIn K mainGlobals "hh_most" = some (some (.ref f34)))
    (l34 : K.lookup f34 = some ⟨oc34, od34, .func (PySem.W.fnOf "hh_most" "hh_most" (defArgs st_hh_most) (defBody st_hh_most) (defScope st_hh_most) .none kV34 dc34 pm34 an34 cd34 ct34), sl34⟩)
    (c34 : PySem.W.codeIn K cd34 "hh_most" = true)
    (k34 : PySem.W.keepIn K (.ref f34) = true)
    (a35 : PySem.W.nsIn K mainGlobals "hh_plan" = some (some (.ref f35)))
    (l35 : K.lookup f35 = some ⟨oc35, od35, .func (PySem.W.fnOf "hh_plan" "hh_plan" (defArgs st_hh_plan) (defBody st_hh_plan) (defScope st_hh_plan) .none kV35 dc35 pm35 an35 cd35 ct35), sl35⟩)
    (c35 : PySem.W.codeIn K cd35 "hh_plan" = true)
    (k35 : PySem.W.keepIn K (.ref f35) = true)
    (a36 : PySem.W.nsIn K mainGlobals "hh_can" = some (some (.ref f36)))
    (l36 : K.lookup f36 = some ⟨oc36, od36, .func (PySem.W.fnOf "hh_can" "hh_can" (defArgs st_hh_can) (defBody st_hh_can) (defScope st_hh_can) .none kV36 dc36 pm36 an36 cd36 ct36), sl36⟩)
    (c36 : PySem.W.codeIn K cd36 "hh_can" = true)
    (k36 : PySem.W.keepIn K (.ref f36) = true)
    (a37 : PySem.W.nsIn K mainGlobals "hh_spare" = some (some (.ref f37)))
    (l37 : K.lookup f37 = some ⟨oc37, od37, .func (PySem.W.fnOf "hh_spare" "hh_spare" (defArgs st_hh_spare) (defBody st_hh_spare) (defScope st_hh_spare) .none kV37 dc37 pm37 an37 cd37 ct37), sl37⟩)
    (c37 : PySem.W.codeIn K cd37 "hh_spare" = true)
    (k37 : PySem.W.keepIn K (.ref f37) = true)
    (a38 : PySem.W.nsIn K mainGlobals "hh_first" = some (some (.ref f38)))
    (l38 : K.lookup f38 = some ⟨oc38, od38, .func (PySem.W.fnOf "hh_first" "hh_first" (defArgs st_hh_first) (defBody st_hh_first) (defScope st_hh_first) .none kV38 dc38 pm38 an38 cd38 ct38), sl38⟩)
    (c38 : PySem.W.codeIn K cd38 "hh_first" = true)
    (k38 : PySem.W.keepIn K (.ref f38) = true)
    (a39 : PySem.W.nsIn K mainGlobals "hh_without" = some (some (.ref f39)))
    (l39 : K.lookup f39 = some ⟨oc39, od39, .func (PySem.W.fnOf "hh_without" "hh_without" (defArgs st_hh_without) (defBody st_hh_without) (defScope st_hh_without) .none kV39 dc39 pm39 an39 cd39 ct39), sl39⟩)
    (c39 : PySem.W.codeIn K cd39 "hh_without" = true)
    (k39 : PySem.W.keepIn K (.ref f39) = true)
    (a40 : PySem.W.nsIn K mainGlobals "hh_among" = some (some (.ref f40)))
    (l40 : K.lookup f40 = some ⟨oc40, od40, .func (PySem.W.fnOf "hh_among" "hh_among" (defArgs st_hh_among) (defBody st_hh_among) (defScope st_hh_among) .none kV40 dc40 pm40 an40 cd40 ct40), sl40⟩)
    (c40 : PySem.W.codeIn K cd40 "hh_among" = true)
    (k40 : PySem.W.keepIn K (.ref f40) = true)
    (a41 : PySem.W.nsIn K mainGlobals "hh_saves" = some (some (.ref f41)))
    (l41 : K.lookup f41 = some ⟨oc41, od41, .func (PySem.W.fnOf "hh_saves" "hh_saves" (defArgs st_hh_saves) (defBody st_hh_saves) (defScope st_hh_saves) .none kV41 dc41 pm41 an41 cd41 ct41), sl41⟩)
    (c41 : PySem.W.codeIn K cd41 "hh_saves" = true)
    (k41 : PySem.W.keepIn K (.ref f41) = true)
    (a42 : PySem.W.nsIn K mainGlobals "hh_start" = some (some (.ref f42)))
    (l42 : K.lookup f42 = some ⟨oc42, od42, .func (PySem.W.fnOf "hh_start" "hh_start" (defArgs st_hh_start) (defBody st_hh_start) (defScope st_hh_start) .none kV42 dc42 pm42 an42 cd42 ct42), sl42⟩)
    (c42 : PySem.W.codeIn K cd42 "hh_start" = true)
    (k42 : PySem.W.keepIn K (.ref f42) = true)
    (a43 : PySem.W.nsIn K mainGlobals "hh_person" = some (some (.ref f43)))
    (l43 : K.lookup f43 = some ⟨oc43, od43, .func (PySem.W.fnOf "hh_person" "hh_person" (defArgs st_hh_person) (defBody st_hh_person) (defScope st_hh_person) .none kV43 dc43 pm43 an43 cd43 ct43), sl43⟩)
    (c43 : PySem.W.codeIn K cd43 "hh_person" = true)
    (k43 : PySem.W.keepIn K (.ref f43) = true)
    (a44 : PySem.W.nsIn K mainGlobals "hh_water" = some (some (.ref f44)))
    (l44 : K.lookup f44 = some ⟨oc44, od44, .func (PySem.W.fnOf "hh_water" "hh_water" (defArgs st_hh_water) (defBody st_hh_water) (defScope st_hh_water) .none kV44 dc44 pm44 an44 cd44 ct44), sl44⟩)
    (c44 : PySem.W.codeIn K cd44 "hh_water" = true)
    (k44 : PySem.W.keepIn K (.ref f44) = true)
    (a45 : PySem.W.nsIn K mainGlobals "hh_raft" = some (some (.ref f45)))
    (l45 : K.lookup f45 = some ⟨oc45, od45, .func (PySem.W.fnOf "hh_raft" "hh_raft" (defArgs st_hh_raft) (defBody st_hh_raft) (defScope st_hh_raft) .none kV45 dc45 pm45 an45 cd45 ct45), sl45⟩)
    (c45 : PySem.W.codeIn K cd45 "hh_raft" = true)
    (k45 : PySem.W.keepIn K (.ref f45) = true)
    (a46 : PySem.W.nsIn K mainGlobals "hh_clothe" = some (some (.ref f46)))
    (l46 : K.lookup f46 = some ⟨oc46, od46, .func (PySem.W.fnOf "hh_clothe" "hh_clothe" (defArgs st_hh_clothe) (defBody st_hh_clothe) (defScope st_hh_clothe) .none kV46 dc46 pm46 an46 cd46 ct46), sl46⟩)
    (c46 : PySem.W.codeIn K cd46 "hh_clothe" = true)
    (k46 : PySem.W.keepIn K (.ref f46) = true)
    (a47 : PySem.W.nsIn K mainGlobals "change_person" = some (some (.ref f47)))
    (l47 : K.lookup f47 = some ⟨oc47, od47, .func (PySem.W.fnOf "change_person" "change_person" (defArgs st_change_person) (defBody st_change_person) (defScope st_change_person) .none kV47 dc47 pm47 an47 cd47 ct47), sl47⟩)
    (c47 : PySem.W.codeIn K cd47 "change_person" = true)
    (k47 : PySem.W.keepIn K (.ref f47) = true)
    (a48 : PySem.W.nsIn K mainGlobals "hh_minutes" = some (some (.ref f48)))
    (l48 : K.lookup f48 = some ⟨oc48, od48, .func (PySem.W.fnOf "hh_minutes" "hh_minutes" (defArgs st_hh_minutes) (defBody st_hh_minutes) (defScope st_hh_minutes) .none kV48 dc48 pm48 an48 cd48 ct48), sl48⟩)
    (c48 : PySem.W.codeIn K cd48 "hh_minutes" = true)
    (k48 : PySem.W.keepIn K (.ref f48) = true)
    (a49 : PySem.W.nsIn K mainGlobals "hh_take" = some (some (.ref f49)))
    (l49 : K.lookup f49 = some ⟨oc49, od49, .func (PySem.W.fnOf "hh_take" "hh_take" (defArgs st_hh_take) (defBody st_hh_take) (defScope st_hh_take) .none kV49 dc49 pm49 an49 cd49 ct49), sl49⟩)
    (c49 : PySem.W.codeIn K cd49 "hh_take" = true)
    (k49 : PySem.W.keepIn K (.ref f49) = true)
    (a50 : PySem.W.nsIn K mainGlobals "hh_all" = some (some (.ref f50)))
    (l50 : K.lookup f50 = some ⟨oc50, od50, .func (PySem.W.fnOf "hh_all" "hh_all" (defArgs st_hh_all) (defBody st_hh_all) (defScope st_hh_all) .none kV50 dc50 pm50 an50 cd50 ct50), sl50⟩)
    (c50 : PySem.W.codeIn K cd50 "hh_all" = true)
    (k50 : PySem.W.keepIn K (.ref f50) = true)
    (a51 : PySem.W.findIn K (.ref C_Log) "__init__" = some (some (.ref f51)))
    (i51 : PySem.W.isFn K (.ref f51) = true)
    (l51 : K.lookup f51 = some ⟨oc51, od51, .func (PySem.W.fnOf "__init__" "Log.__init__" (defArgs st_Log_init) (defBody st_Log_init) (defScope st_Log_init) .none kV51 dc51 pm51 an51 cd51 ct51), sl51⟩)
    (c51 : PySem.W.codeIn K cd51 "Log.__init__" = true)
    (k51 : PySem.W.keepIn K (.ref f51) = true)
    (a52 : PySem.W.findIn K (.ref C_Log) "begin" = some (some (.ref f52)))
    (i52 : PySem.W.isFn K (.ref f52) = true)
    (l52 : K.lookup f52 = some ⟨oc52, od52, .func (PySem.W.fnOf "begin" "Log.begin" (defArgs st_Log_begin) (defBody st_Log_begin) (defScope st_Log_begin) .none kV52 dc52 pm52 an52 cd52 ct52), sl52⟩)
    (c52 : PySem.W.codeIn K cd52 "Log.begin" = true)
    (k52 : PySem.W.keepIn K (.ref f52) = true)
    (a53 : PySem.W.findIn K (.ref C_Log) "change_to" = some (some (.ref f53)))
    (i53 : PySem.W.isFn K (.ref f53) = true)
    (l53 : K.lookup f53 = some ⟨oc53, od53, .func (PySem.W.fnOf "change_to" "Log.change_to" (defArgs st_Log_change_to) (defBody st_Log_change_to) (defScope st_Log_change_to) .none kV53 dc53 pm53 an53 cd53 ct53), sl53⟩)
    (c53 : PySem.W.codeIn K cd53 "Log.change_to" = true)
    (k53 : PySem.W.keepIn K (.ref f53) = true)
    (a54 : PySem.W.findIn K (.ref C_Log) "take_back" = some (some (.ref f54)))
    (i54 : PySem.W.isFn K (.ref f54) = true)
    (l54 : K.lookup f54 = some ⟨oc54, od54, .func (PySem.W.fnOf "take_back" "Log.take_back" (defArgs st_Log_take_back) (defBody st_Log_take_back) (defScope st_Log_take_back) .none kV54 dc54 pm54 an54 cd54 ct54), sl54⟩)
    (c54 : PySem.W.codeIn K cd54 "Log.take_back" = true)
    (k54 : PySem.W.keepIn K (.ref f54) = true)
    (a55 : PySem.W.findIn K (.ref C_Log) "do_again" = some (some (.ref f55)))
    (i55 : PySem.W.isFn K (.ref f55) = true)
    (l55 : K.lookup f55 = some ⟨oc55, od55, .func (PySem.W.fnOf "do_again" "Log.do_again" (defArgs st_Log_do_again) (defBody st_Log_do_again) (defScope st_Log_do_again) .none kV55 dc55 pm55 an55 cd55 ct55), sl55⟩)
    (c55 : PySem.W.codeIn K cd55 "Log.do_again" = true)
    (k55 : PySem.W.keepIn K (.ref f55) = true)
    (a56 : PySem.W.nsIn K mainGlobals "hh_next" = some (some (.ref f56)))
    (l56 : K.lookup f56 = some ⟨oc56, od56, .func (PySem.W.fnOf "hh_next" "hh_next" (defArgs st_hh_next) (defBody st_hh_next) (defScope st_hh_next) .none kV56 dc56 pm56 an56 cd56 ct56), sl56⟩)
    (c56 : PySem.W.codeIn K cd56 "hh_next" = true)
    (k56 : PySem.W.keepIn K (.ref f56) = true)
    (a57 : PySem.W.nsIn K mainGlobals "hh_look" = some (some (.ref f57)))
    (l57 : K.lookup f57 = some ⟨oc57, od57, .func (PySem.W.fnOf "hh_look" "hh_look" (defArgs st_hh_look) (defBody st_hh_look) (defScope st_hh_look) .none kV57 dc57 pm57 an57 cd57 ct57), sl57⟩)
    (c57 : PySem.W.codeIn K cd57 "hh_look" = true)
    (k57 : PySem.W.keepIn K (.ref f57) = true)
    (a58 : PySem.W.nsIn K mainGlobals "hh_who" = some (some (.ref f58)))
    (l58 : K.lookup f58 = some ⟨oc58, od58, .func (PySem.W.fnOf "hh_who" "hh_who" (defArgs st_hh_who) (defBody st_hh_who) (defScope st_hh_who) .none kV58 dc58 pm58 an58 cd58 ct58), sl58⟩)
    (c58 : PySem.W.codeIn K cd58 "hh_who" = true)
    (k58 : PySem.W.keepIn K (.ref f58) = true)
    (a59 : PySem.W.nsIn K mainGlobals "bits_of" = some (some (.ref f59)))
    (l59 : K.lookup f59 = some ⟨oc59, od59, .func (PySem.W.fnOf "bits_of" "bits_of" (defArgs st_bits_of) (defBody st_bits_of) (defScope st_bits_of) .none kV59 dc59 pm59 an59 cd59 ct59), sl59⟩)
    (c59 : PySem.W.codeIn K cd59 "bits_of" = true)
    (k59 : PySem.W.keepIn K (.ref f59) = true)
    (a60 : PySem.W.nsIn K mainGlobals "hh_row" = some (some (.ref f60)))
    (l60 : K.lookup f60 = some ⟨oc60, od60, .func (PySem.W.fnOf "hh_row" "hh_row" (defArgs st_hh_row) (defBody st_hh_row) (defScope st_hh_row) .none kV60 dc60 pm60 an60 cd60 ct60), sl60⟩)
    (c60 : PySem.W.codeIn K cd60 "hh_row" = true)
    (k60 : PySem.W.keepIn K (.ref f60) = true)
    (a61 : PySem.W.nsIn K mainGlobals "hh_sums" = some (some (.ref f61)))
    (l61 : K.lookup f61 = some ⟨oc61, od61, .func (PySem.W.fnOf "hh_sums" "hh_sums" (defArgs st_hh_sums) (defBody st_hh_sums) (defScope st_hh_sums) .none kV61 dc61 pm61 an61 cd61 ct61), sl61⟩)
    (c61 : PySem.W.codeIn K cd61 "hh_sums" = true)
    (k61 : PySem.W.keepIn K (.ref f61) = true)
    (a62 : PySem.W.nsIn K mainGlobals "hh_back" = some (some (.ref f62)))
    (l62 : K.lookup f62 = some ⟨oc62, od62, .func (PySem.W.fnOf "hh_back" "hh_back" (defArgs st_hh_back) (defBody st_hh_back) (defScope st_hh_back) .none kV62 dc62 pm62 an62 cd62 ct62), sl62⟩)
    (c62 : PySem.W.codeIn K cd62 "hh_back" = true)
    (k62 : PySem.W.keepIn K (.ref f62) = true)
    (a63 : PySem.W.nsIn K mainGlobals "hh_again" = some (some (.ref f63)))
    (l63 : K.lookup f63 = some ⟨oc63, od63, .func (PySem.W.fnOf "hh_again" "hh_again" (defArgs st_hh_again) (defBody st_hh_again) (defScope st_hh_again) .none kV63 dc63 pm63 an63 cd63 ct63), sl63⟩)
    (c63 : PySem.W.codeIn K cd63 "hh_again" = true)
    (k63 : PySem.W.keepIn K (.ref f63) = true)
    (a64 : PySem.W.nsIn K mainGlobals "hh_state" = some (some (.ref f64)))
    (l64 : K.lookup f64 = some ⟨oc64, od64, .func (PySem.W.fnOf "hh_state" "hh_state" (defArgs st_hh_state) (defBody st_hh_state) (defScope st_hh_state) .none kV64 dc64 pm64 an64 cd64 ct64), sl64⟩)
    (c64 : PySem.W.codeIn K cd64 "hh_state" = true)
    (k64 : PySem.W.keepIn K (.ref f64) = true)
    (a65 : PySem.W.nsIn K mainGlobals "answers" = some (some (.ref f65)))
    (l65 : K.lookup f65 = some ⟨oc65, od65, .func (PySem.W.fnOf "answers" "answers" (defArgs st_answers) (defBody st_answers) (defScope st_answers) .none kV65 dc65 pm65 an65 cd65 ct65), sl65⟩)
    (c65 : PySem.W.codeIn K cd65 "answers" = true)
    (k65 : PySem.W.keepIn K (.ref f65) = true)
    (a66 : PySem.W.nsIn K mainGlobals "end_of_call" = some (some (.ref f66)))
    (l66 : K.lookup f66 = some ⟨oc66, od66, .func (PySem.W.fnOf "end_of_call" "end_of_call" (defArgs st_end_of_call) (defBody st_end_of_call) (defScope st_end_of_call) .none kV66 dc66 pm66 an66 cd66 ct66), sl66⟩)
    (c66 : PySem.W.codeIn K cd66 "end_of_call" = true)
    (k66 : PySem.W.keepIn K (.ref f66) = true)
    (a67 : PySem.W.nsIn K mainGlobals "answer_of" = some (some (.ref f67)))
    (l67 : K.lookup f67 = some ⟨oc67, od67, .func (PySem.W.fnOf "answer_of" "answer_of" (defArgs st_answer_of) (defBody st_answer_of) (defScope st_answer_of) .none kV67 dc67 pm67 an67 cd67 ct67), sl67⟩)
    (c67 : PySem.W.codeIn K cd67 "answer_of" = true)
    (k67 : PySem.W.keepIn K (.ref f67) = true)
    (a68 : PySem.W.nsIn K mainGlobals "answer_of_change" = some (some (.ref f68)))
    (l68 : K.lookup f68 = some ⟨oc68, od68, .func (PySem.W.fnOf "answer_of_change" "answer_of_change" (defArgs st_answer_of_change) (defBody st_answer_of_change) (defScope st_answer_of_change) .none kV68 dc68 pm68 an68 cd68 ct68), sl68⟩)
    (c68 : PySem.W.codeIn K cd68 "answer_of_change" = true)
    (k68 : PySem.W.keepIn K (.ref f68) = true)
    (a69 : PySem.W.nsIn K mainGlobals "answer_of_asking" = some (some (.ref f69)))
    (l69 : K.lookup f69 = some ⟨oc69, od69, .func (PySem.W.fnOf "answer_of_asking" "answer_of_asking" (defArgs st_answer_of_asking) (defBody st_answer_of_asking) (defScope st_answer_of_asking) .none kV69 dc69 pm69 an69 cd69 ct69), sl69⟩)
    (c69 : PySem.W.codeIn K cd69 "answer_of_asking" = true)
    (k69 : PySem.W.keepIn K (.ref f69) = true)
    (a70 : PySem.W.nsIn K mainGlobals "answer_of_looking" = some (some (.ref f70)))
    (l70 : K.lookup f70 = some ⟨oc70, od70, .func (PySem.W.fnOf "answer_of_looking" "answer_of_looking" (defArgs st_answer_of_looking) (defBody st_answer_of_looking) (defScope st_answer_of_looking) .none kV70 dc70 pm70 an70 cd70 ct70), sl70⟩)
    (c70 : PySem.W.codeIn K cd70 "answer_of_looking" = true)
    (k70 : PySem.W.keepIn K (.ref f70) = true)
    (a71 : PySem.W.nsIn K mainGlobals "answer_of_undoing" = some (some (.ref f71)))
    (l71 : K.lookup f71 = some ⟨oc71, od71, .func (PySem.W.fnOf "answer_of_undoing" "answer_of_undoing" (defArgs st_answer_of_undoing) (defBody st_answer_of_undoing) (defScope st_answer_of_undoing) .none kV71 dc71 pm71 an71 cd71 ct71), sl71⟩)
    (c71 : PySem.W.codeIn K cd71 "answer_of_undoing" = true)
    (k71 : PySem.W.keepIn K (.ref f71) = true)
    (pg_Group : PySem.W.plainGet K C_Group Str.empty = true)
    (hd_Group : PySem.W.hasDictIn K C_Group = true)
    (po_Group : PySem.W.plainOver K C_Group = true)
    (sa_Group : PySem.W.findIn K (.ref C_Group) "__setattr__" = some (some (.builtin "object.__setattr__")))
    (mk_Group : PySem.W.makesIn K C_Group = true)
    (kc_Group : PySem.W.keepIn K (.ref C_Group) = true)
    (nGroup_bits : PySem.W.findIn K (.ref C_Group) "bits" = some none)
    (nGroup_size : PySem.W.findIn K (.ref C_Group) "size" = some none)
    (nGroup_minutes : PySem.W.findIn K (.ref C_Group) "minutes" = some none)
    (nGroup_spare : PySem.W.findIn K (.ref C_Group) "spare" = some none)
    (pg_Person : PySem.W.plainGet K C_Person Str.empty = true)
    (hd_Person : PySem.W.hasDictIn K C_Person = true)
    (po_Person : PySem.W.plainOver K C_Person = true)
    (sa_Person : PySem.W.findIn K (.ref C_Person) "__setattr__" = some (some (.builtin "object.__setattr__")))
    (mk_Person : PySem.W.makesIn K C_Person = true)
    (kc_Person : PySem.W.keepIn K (.ref C_Person) = true)
    (nPerson_clothes : PySem.W.findIn K (.ref C_Person) "clothes" = some none)
    (nPerson_raft : PySem.W.findIn K (.ref C_Person) "raft" = some none)
    (nPerson_takes : PySem.W.findIn K (.ref C_Person) "takes" = some none)
    (nPerson_left : PySem.W.findIn K (.ref C_Person) "left" = some none)
    (nPerson_fate : PySem.W.findIn K (.ref C_Person) "fate" = some none)
    (pg_Sea : PySem.W.plainGet K C_Sea Str.empty = true)
    (hd_Sea : PySem.W.hasDictIn K C_Sea = true)
    (po_Sea : PySem.W.plainOver K C_Sea = true)
    (sa_Sea : PySem.W.findIn K (.ref C_Sea) "__setattr__" = some (some (.builtin "object.__setattr__")))
    (mk_Sea : PySem.W.makesIn K C_Sea = true)
    (kc_Sea : PySem.W.keepIn K (.ref C_Sea) = true)
    (nSea_water : PySem.W.findIn K (.ref C_Sea) "water" = some none)
    (nSea_table : PySem.W.findIn K (.ref C_Sea) "table" = some none)
    (nSea_minute : PySem.W.findIn K (.ref C_Sea) "minute" = some none)
    (nSea_persons : PySem.W.findIn K (.ref C_Sea) "persons" = some none)
    (pg_Log : PySem.W.plainGet K C_Log Str.empty = true)
    (hd_Log : PySem.W.hasDictIn K C_Log = true)
    (po_Log : PySem.W.plainOver K C_Log = true)
    (sa_Log : PySem.W.findIn K (.ref C_Log) "__setattr__" = some (some (.builtin "object.__setattr__")))
    (mk_Log : PySem.W.makesIn K C_Log = true)
    (kc_Log : PySem.W.keepIn K (.ref C_Log) = true)
    (nLog_now : PySem.W.findIn K (.ref C_Log) "now" = some none)
    (nLog_earlier : PySem.W.findIn K (.ref C_Log) "earlier" = some none)
    (nLog_later : PySem.W.findIn K (.ref C_Log) "later" = some none)
    (v_WARMEST : PySem.W.nsIn K mainGlobals "WARMEST" = some (some (.int 4 t_WARMEST)))
    (v_RAFT_PLACE : PySem.W.nsIn K mainGlobals "RAFT_PLACE" = some (some (.int 5 t_RAFT_PLACE)))
    (v_CLOTHINGS : PySem.W.nsIn K mainGlobals "CLOTHINGS" = some (some (.int 4 t_CLOTHINGS)))
    (v_TOLD_MOST : PySem.W.nsIn K mainGlobals "TOLD_MOST" = some (some (.int 10000 t_TOLD_MOST)))
    (v_TAKES_MOST : PySem.W.nsIn K mainGlobals "TAKES_MOST" = some (some (.int 1000 t_TAKES_MOST)))
    (v_PERSONS_MOST : PySem.W.nsIn K mainGlobals "PERSONS_MOST" = some (some (.int 9 t_PERSONS_MOST)))
    (v_PASSING_MOST : PySem.W.nsIn K mainGlobals "PASSING_MOST" = some (some (.int 1440 t_PASSING_MOST)))
    (v_LAST_MINUTE : PySem.W.nsIn K mainGlobals "LAST_MINUTE" = some (some (.int 100000 t_LAST_MINUTE)))
    (v_BEGIN_MOST : PySem.W.nsIn K mainGlobals "BEGIN_MOST" = some (some (.int 100000 t_BEGIN_MOST)))
    (v_CHANGES_KEPT : PySem.W.nsIn K mainGlobals "CHANGES_KEPT" = some (some (.int 20 t_CHANGES_KEPT)))
    (v_WAITS : PySem.W.nsIn K mainGlobals "WAITS" = some (some (.int 0 t_WAITS)))
    (v_TAKEN_UP : PySem.W.nsIn K mainGlobals "TAKEN_UP" = some (some (.int 1 t_TAKEN_UP)))
    (v_LOST : PySem.W.nsIn K mainGlobals "LOST" = some (some (.int 2 t_LOST)))
    (v_NOT_THERE : PySem.W.nsIn K mainGlobals "NOT_THERE" = some (some (.int (-2) t_NOT_THERE)))
    (v_NOBODY : PySem.W.nsIn K mainGlobals "NOBODY" = some (some (.int (-6) t_NOBODY)))
    (v_NOT_WAITING : PySem.W.nsIn K mainGlobals "NOT_WAITING" = some (some (.int (-16) t_NOT_WAITING)))
    (v_ALREADY_SO : PySem.W.nsIn K mainGlobals "ALREADY_SO" = some (some (.int (-17) t_ALREADY_SO)))
    (v_NOT_ALLOWED : PySem.W.nsIn K mainGlobals "NOT_ALLOWED" = some (some (.int (-22) t_NOT_ALLOWED)))
    (v_NO_ROOM : PySem.W.nsIn K mainGlobals "NO_ROOM" = some (some (.int (-28) t_NO_ROOM)))
    (v_TOO_LATE : PySem.W.nsIn K mainGlobals "TOO_LATE" = some (some (.int (-75) t_TOO_LATE)))
    (v_START : PySem.W.nsIn K mainGlobals "START" = some (some (.int 0 t_START)))
    (v_LAST_CHANGE : PySem.W.nsIn K mainGlobals "LAST_CHANGE" = some (some (.int 7 t_LAST_CHANGE)))
    (v_LAST_ASKING : PySem.W.nsIn K mainGlobals "LAST_ASKING" = some (some (.int 16 t_LAST_ASKING)))
    (v_LAST_LOOKING : PySem.W.nsIn K mainGlobals "LAST_LOOKING" = some (some (.int 21 t_LAST_LOOKING)))
    (v_WIDTHS : PySem.W.nsIn K mainGlobals "WIDTHS" = some (some (.ref a_WIDTHS)))
    (w_WIDTHS : K.lookup a_WIDTHS = some ⟨.type "tuple", dd_WIDTHS, .seq #[.int 2 t_WIDTHS_0, .int 3 t_WIDTHS_1, .int 1 t_WIDTHS_2, .int 2 t_WIDTHS_3, .int 2 t_WIDTHS_4, .int 1 t_WIDTHS_5, .int 1 t_WIDTHS_6, .int 0 t_WIDTHS_7, .int 1 t_WIDTHS_8, .int 1 t_WIDTHS_9, .int 1 t_WIDTHS_10, .int 2 t_WIDTHS_11, .int 0 t_WIDTHS_12, .int 0 t_WIDTHS_13, .int 1 t_WIDTHS_14, .int 1 t_WIDTHS_15, .int 2 t_WIDTHS_16, .int 0 t_WIDTHS_17, .int 1 t_WIDTHS_18, .int 0 t_WIDTHS_19, .int 1 t_WIDTHS_20, .int 0 t_WIDTHS_21, .int 0 t_WIDTHS_22, .int 0 t_WIDTHS_23, .int 0 t_WIDTHS_24] n_WIDTHS, sl_WIDTHS⟩)
    (z_any : PySem.W.nsIn K mainGlobals "any" = some none)
    (z_enumerate : PySem.W.nsIn K mainGlobals "enumerate" = some none)
    (z_len : PySem.W.nsIn K mainGlobals "len" = some none)
    (z_max : PySem.W.nsIn K mainGlobals "max" = some none)
    (z_min : PySem.W.nsIn K mainGlobals "min" = some none)
    (z_sorted : PySem.W.nsIn K mainGlobals "sorted" = some none)
    (z_sum : PySem.W.nsIn K mainGlobals "sum" = some none)
    (lcode : K.lookup tc = some ⟨occ, odc, .fields vsc, slc⟩) (h11 : vsc[11]? = some (.ref tP)) (htab : PySem.W.tabIn K "numbers_by_left" = some (tc, tP)) (hcode : CodeK K tc tP) : ∃ A : Adr, Txt K mg A ∧ PySem.W.tabIn K "numbers_by_left" = some (A.tc, A.tP) := by
  refine ⟨⟨C_Group, C_Person, C_Sea, C_Log, f0, _, f1, _, f2, _, f3, _, f4, _, f5, _, f6, _, f7, _, f8, _, f9, _, f10, _, f11, _, f12, _, f13, _, f14, _, f15, _, f16, _, f17, _, f18, _, f19, _, f20, _, f21, _, f22, _, f23, _, f24, _, f25, _, f26, _, f27, _, f28, _, f29, _, f30, _, f31, _, f32, _, f33, _, f34, _, f35, _, f36, _, f37, _, f38, _, f39, _, f40, _, f41, _, f42, _, f43, _, f44, _, f45, _, f46, _, f47, _, f48, _, f49, _, f50, _, f51, _, f52, _, f53, _, f54, _, f55, _, f56, _, f57, _, f58, _, f59, _, f60, _, f61, _, f62, _, f63, _, f64, _, f65, _, f66, _, f67, _, f68, _, f69, _, f70, _, f71, _, tc, tP, a_WIDTHS⟩, ⟨⟨⟨pg_Group, hd_Group, po_Group, sa_Group⟩, ⟨mk_Group, a0, i0, kc_Group⟩, PySem.W.mg_of X G a_Group⟩,
    nGroup_bits,
    nGroup_size,
    nGroup_minutes,
    nGroup_spare,
    ⟨⟨pg_Person, hd_Person, po_Person, sa_Person⟩, ⟨mk_Person, a19, i19, kc_Person⟩, PySem.W.mg_of X G a_Person⟩,
    nPerson_clothes,
    nPerson_raft,
    nPerson_takes,
    nPerson_left,
    nPerson_fate,
    ⟨⟨pg_Sea, hd_Sea, po_Sea, sa_Sea⟩, ⟨mk_Sea, a22, i22, kc_Sea⟩, PySem.W.mg_of X G a_Sea⟩,
    nSea_water,
    nSea_table,
    nSea_minute,
    nSea_persons,
    ⟨⟨pg_Log, hd_Log, po_Log, sa_Log⟩, ⟨mk_Log, a51, i51, kc_Log⟩, PySem.W.mg_of X G a_Log⟩,
    nLog_now,
    nLog_earlier,
    nLog_later,
    ⟨(fun_mk (st := st_Group_init) l0 c0 k0), ((fun_mk (st := st_Group_init) l0 c0 k0).binds fun _ _ _ _ _ _ us hl => match us, hl with | [_, _, _, _, _], _ => rfl), ⟨a0, i0, k0⟩⟩,
    ⟨(fun_mk (st := st_Group_has) l1 c1 k1), ((fun_mk (st := st_Group_has) l1 c1 k1).binds fun _ _ _ _ _ _ us hl => match us, hl with | [_, _], _ => rfl), ⟨a1, i1, k1⟩⟩,
    ⟨(fun_mk (st := st_Group_joined_by) l2 c2 k2), ((fun_mk (st := st_Group_joined_by) l2 c2 k2).binds fun _ _ _ _ _ _ us hl => match us, hl with | [_, _, _], _ => rfl), ⟨a2, i2, k2⟩⟩,
    ⟨(fun_mk (st := st_empty_group) l3 c3 k3), ((fun_mk (st := st_empty_group) l3 c3 k3).binds fun _ _ _ _ _ _ us hl => match us, hl with | [], _ => rfl), PySem.W.mg_of X G a3⟩,
    ⟨(fun_mk (st := st_numbers_by_left) l4 c4 k4), ((fun_mk (st := st_numbers_by_left) l4 c4 k4).binds fun _ _ _ _ _ _ us hl => match us, hl with | [_], _ => rfl), PySem.W.mg_of X G a4⟩,
    ⟨(fun_mk (st := st_numbers_within) l5 c5 k5), ((fun_mk (st := st_numbers_within) l5 c5 k5).binds fun _ _ _ _ _ _ us hl => match us, hl with | [_, _], _ => rfl), PySem.W.mg_of X G a5⟩,
    ⟨(fun_mk (st := st_group_of) l6 c6 k6), ((fun_mk (st := st_group_of) l6 c6 k6).binds fun _ _ _ _ _ _ us hl => match us, hl with | [_, _], _ => rfl), PySem.W.mg_of X G a6⟩,
    ⟨(fun_mk (st := st_groups_in_time) l7 c7 k7), ((fun_mk (st := st_groups_in_time) l7 c7 k7).binds fun _ _ _ _ _ _ us hl => match us, hl with | [_, _], _ => rfl), PySem.W.mg_of X G a7⟩,
    ⟨(fun_mk (st := st_is_better) l8 c8 k8), ((fun_mk (st := st_is_better) l8 c8 k8).binds fun _ _ _ _ _ _ us hl => match us, hl with | [_, _], _ => rfl), PySem.W.mg_of X G a8⟩,
    ⟨(fun_mk (st := st_the_most) l9 c9 k9), ((fun_mk (st := st_the_most) l9 c9 k9).binds fun _ _ _ _ _ _ us hl => match us, hl with | [_, _], _ => rfl), PySem.W.mg_of X G a9⟩,
    ⟨(fun_mk (st := st_the_plan) l10 c10 k10), ((fun_mk (st := st_the_plan) l10 c10 k10).binds fun _ _ _ _ _ _ us hl => match us, hl with | [_, _], _ => rfl), PySem.W.mg_of X G a10⟩,
    ⟨(fun_mk (st := st_longest_wait) l11 c11 k11), ((fun_mk (st := st_longest_wait) l11 c11 k11).binds fun _ _ _ _ _ _ us hl => match us, hl with | [_], _ => rfl), PySem.W.mg_of X G a11⟩,
    ⟨(fun_mk (st := st_groups_of_the_most) l12 c12 k12), ((fun_mk (st := st_groups_of_the_most) l12 c12 k12).binds fun _ _ _ _ _ _ us hl => match us, hl with | [_], _ => rfl), PySem.W.mg_of X G a12⟩,
    ⟨(fun_mk (st := st_is_among_the_most) l13 c13 k13), ((fun_mk (st := st_is_among_the_most) l13 c13 k13).binds fun _ _ _ _ _ _ us hl => match us, hl with | [_, _], _ => rfl), PySem.W.mg_of X G a13⟩,
    ⟨(fun_mk (st := st_size_without) l14 c14 k14), ((fun_mk (st := st_size_without) l14 c14 k14).binds fun _ _ _ _ _ _ us hl => match us, hl with | [_, _], _ => rfl), PySem.W.mg_of X G a14⟩,
    ⟨(fun_mk (st := st_refusal_unless_waiting) l15 c15 k15), ((fun_mk (st := st_refusal_unless_waiting) l15 c15 k15).binds fun _ _ _ _ _ _ us hl => match us, hl with | [_, _], _ => rfl), PySem.W.mg_of X G a15⟩,
    ⟨(fun_mk (st := st_refusal_of_raft) l16 c16 k16), ((fun_mk (st := st_refusal_of_raft) l16 c16 k16).binds fun _ _ _ _ _ _ us hl => match us, hl with | [_, _, _], _ => rfl), PySem.W.mg_of X G a16⟩,
    ⟨(fun_mk (st := st_refusal_of_clothes) l17 c17 k17), ((fun_mk (st := st_refusal_of_clothes) l17 c17 k17).binds fun _ _ _ _ _ _ us hl => match us, hl with | [_, _, _], _ => rfl), PySem.W.mg_of X G a17⟩,
    ⟨(fun_mk (st := st_refusal_of_fit) l18 c18 k18), ((fun_mk (st := st_refusal_of_fit) l18 c18 k18).binds fun _ _ _ _ _ _ us hl => match us, hl with | [_, _, _], _ => rfl), PySem.W.mg_of X G a18⟩,
    ⟨(fun_mk (st := st_Person_init) l19 c19 k19), ((fun_mk (st := st_Person_init) l19 c19 k19).binds fun _ _ _ _ _ _ us hl => match us, hl with | [_, _, _, _, _, _], _ => rfl), ⟨a19, i19, k19⟩⟩,
    ⟨(fun_mk (st := st_Person_waits) l20 c20 k20), ((fun_mk (st := st_Person_waits) l20 c20 k20).binds fun _ _ _ _ _ _ us hl => match us, hl with | [_], _ => rfl), ⟨a20, i20, k20⟩⟩,
    ⟨(fun_mk (st := st_Person_duplicate) l21 c21 k21), ((fun_mk (st := st_Person_duplicate) l21 c21 k21).binds fun _ _ _ _ _ _ us hl => match us, hl with | [_], _ => rfl), ⟨a21, i21, k21⟩⟩,
    ⟨(fun_mk (st := st_Sea_init) l22 c22 k22), ((fun_mk (st := st_Sea_init) l22 c22 k22).binds fun _ _ _ _ _ _ us hl => match us, hl with | [_, _, _, _, _], _ => rfl), ⟨a22, i22, k22⟩⟩,
    ⟨(fun_mk (st := st_Sea_duplicate) l23 c23 k23), ((fun_mk (st := st_Sea_duplicate) l23 c23 k23).binds fun _ _ _ _ _ _ us hl => match us, hl with | [_], _ => rfl), ⟨a23, i23, k23⟩⟩,
    ⟨(fun_mk (st := st_Sea_told_row) l24 c24 k24), ((fun_mk (st := st_Sea_told_row) l24 c24 k24).binds fun _ _ _ _ _ _ us hl => match us, hl with | [_, _], _ => rfl), ⟨a24, i24, k24⟩⟩,
    ⟨(fun_mk (st := st_Sea_told_at) l25 c25 k25), ((fun_mk (st := st_Sea_told_at) l25 c25 k25).binds fun _ _ _ _ _ _ us hl => match us, hl with | [_, _, _], _ => rfl), ⟨a25, i25, k25⟩⟩,
    ⟨(fun_mk (st := st_Sea_told) l26 c26 k26), ((fun_mk (st := st_Sea_told) l26 c26 k26).binds fun _ _ _ _ _ _ us hl => match us, hl with | [_, _, _], _ => rfl), ⟨a26, i26, k26⟩⟩,
    ⟨(fun_mk (st := st_Sea_numbers_of) l27 c27 k27), ((fun_mk (st := st_Sea_numbers_of) l27 c27 k27).binds fun _ _ _ _ _ _ us hl => match us, hl with | [_, _], _ => rfl), ⟨a27, i27, k27⟩⟩,
    ⟨(fun_mk (st := st_rescaled) l28 c28 k28), ((fun_mk (st := st_rescaled) l28 c28 k28).binds fun _ _ _ _ _ _ us hl => match us, hl with | [_, _, _], _ => rfl), PySem.W.mg_of X G a28⟩,
    ⟨(fun_mk (st := st_refit) l29 c29 k29), ((fun_mk (st := st_refit) l29 c29 k29).binds fun _ _ _ _ _ _ us hl => match us, hl with | [_, _, _, _], _ => rfl), PySem.W.mg_of X G a29⟩,
    ⟨(fun_mk (st := st_turn_water) l30 c30 k30), ((fun_mk (st := st_turn_water) l30 c30 k30).binds fun _ _ _ _ _ _ us hl => match us, hl with | [_, _], _ => rfl), PySem.W.mg_of X G a30⟩,
    ⟨(fun_mk (st := st_pass_minutes) l31 c31 k31), ((fun_mk (st := st_pass_minutes) l31 c31 k31).binds fun _ _ _ _ _ _ us hl => match us, hl with | [_, _], _ => rfl), PySem.W.mg_of X G a31⟩,
    ⟨(fun_mk (st := st_take_up) l32 c32 k32), ((fun_mk (st := st_take_up) l32 c32 k32).binds fun _ _ _ _ _ _ us hl => match us, hl with | [_, _], _ => rfl), PySem.W.mg_of X G a32⟩,
    ⟨(fun_mk (st := st_hh_left) l33 c33 k33), ((fun_mk (st := st_hh_left) l33 c33 k33).binds fun _ _ _ _ _ _ us hl => match us, hl with | [_, _], _ => rfl), PySem.W.mg_of X G a33⟩,
    ⟨(fun_mk (st := st_hh_most) l34 c34 k34), ((fun_mk (st := st_hh_most) l34 c34 k34).binds fun _ _ _ _ _ _ us hl => match us, hl with | [_, _], _ => rfl), PySem.W.mg_of X G a34⟩,
    ⟨(fun_mk (st := st_hh_plan) l35 c35 k35), ((fun_mk (st := st_hh_plan) l35 c35 k35).binds fun _ _ _ _ _ _ us hl => match us, hl with | [_, _], _ => rfl), PySem.W.mg_of X G a35⟩,
    ⟨(fun_mk (st := st_hh_can) l36 c36 k36), ((fun_mk (st := st_hh_can) l36 c36 k36).binds fun _ _ _ _ _ _ us hl => match us, hl with | [_, _, _], _ => rfl), PySem.W.mg_of X G a36⟩,
    ⟨(fun_mk (st := st_hh_spare) l37 c37 k37), ((fun_mk (st := st_hh_spare) l37 c37 k37).binds fun _ _ _ _ _ _ us hl => match us, hl with | [_], _ => rfl), PySem.W.mg_of X G a37⟩,
    ⟨(fun_mk (st := st_hh_first) l38 c38 k38), ((fun_mk (st := st_hh_first) l38 c38 k38).binds fun _ _ _ _ _ _ us hl => match us, hl with | [_], _ => rfl), PySem.W.mg_of X G a38⟩,
    ⟨(fun_mk (st := st_hh_without) l39 c39 k39), ((fun_mk (st := st_hh_without) l39 c39 k39).binds fun _ _ _ _ _ _ us hl => match us, hl with | [_, _], _ => rfl), PySem.W.mg_of X G a39⟩,
    ⟨(fun_mk (st := st_hh_among) l40 c40 k40), ((fun_mk (st := st_hh_among) l40 c40 k40).binds fun _ _ _ _ _ _ us hl => match us, hl with | [_, _], _ => rfl), PySem.W.mg_of X G a40⟩,
    ⟨(fun_mk (st := st_hh_saves) l41 c41 k41), ((fun_mk (st := st_hh_saves) l41 c41 k41).binds fun _ _ _ _ _ _ us hl => match us, hl with | [_, _, _], _ => rfl), PySem.W.mg_of X G a41⟩,
    ⟨(fun_mk (st := st_hh_start) l42 c42 k42), ((fun_mk (st := st_hh_start) l42 c42 k42).binds fun _ _ _ _ _ _ us hl => match us, hl with | [_, _, _], _ => rfl), PySem.W.mg_of X G a42⟩,
    ⟨(fun_mk (st := st_hh_person) l43 c43 k43), ((fun_mk (st := st_hh_person) l43 c43 k43).binds fun _ _ _ _ _ _ us hl => match us, hl with | [_, _, _, _], _ => rfl), PySem.W.mg_of X G a43⟩,
    ⟨(fun_mk (st := st_hh_water) l44 c44 k44), ((fun_mk (st := st_hh_water) l44 c44 k44).binds fun _ _ _ _ _ _ us hl => match us, hl with | [_, _], _ => rfl), PySem.W.mg_of X G a44⟩,
    ⟨(fun_mk (st := st_hh_raft) l45 c45 k45), ((fun_mk (st := st_hh_raft) l45 c45 k45).binds fun _ _ _ _ _ _ us hl => match us, hl with | [_, _, _], _ => rfl), PySem.W.mg_of X G a45⟩,
    ⟨(fun_mk (st := st_hh_clothe) l46 c46 k46), ((fun_mk (st := st_hh_clothe) l46 c46 k46).binds fun _ _ _ _ _ _ us hl => match us, hl with | [_, _, _], _ => rfl), PySem.W.mg_of X G a46⟩,
    ⟨(fun_mk (st := st_change_person) l47 c47 k47), ((fun_mk (st := st_change_person) l47 c47 k47).binds fun _ _ _ _ _ _ us hl => match us, hl with | [_, _, _, _], _ => rfl), PySem.W.mg_of X G a47⟩,
    ⟨(fun_mk (st := st_hh_minutes) l48 c48 k48), ((fun_mk (st := st_hh_minutes) l48 c48 k48).binds fun _ _ _ _ _ _ us hl => match us, hl with | [_, _], _ => rfl), PySem.W.mg_of X G a48⟩,
    ⟨(fun_mk (st := st_hh_take) l49 c49 k49), ((fun_mk (st := st_hh_take) l49 c49 k49).binds fun _ _ _ _ _ _ us hl => match us, hl with | [_, _], _ => rfl), PySem.W.mg_of X G a49⟩,
    ⟨(fun_mk (st := st_hh_all) l50 c50 k50), ((fun_mk (st := st_hh_all) l50 c50 k50).binds fun _ _ _ _ _ _ us hl => match us, hl with | [_], _ => rfl), PySem.W.mg_of X G a50⟩,
    ⟨(fun_mk (st := st_Log_init) l51 c51 k51), ((fun_mk (st := st_Log_init) l51 c51 k51).binds fun _ _ _ _ _ _ us hl => match us, hl with | [_], _ => rfl), ⟨a51, i51, k51⟩⟩,
    ⟨(fun_mk (st := st_Log_begin) l52 c52 k52), ((fun_mk (st := st_Log_begin) l52 c52 k52).binds fun _ _ _ _ _ _ us hl => match us, hl with | [_, _], _ => rfl), ⟨a52, i52, k52⟩⟩,
    ⟨(fun_mk (st := st_Log_change_to) l53 c53 k53), ((fun_mk (st := st_Log_change_to) l53 c53 k53).binds fun _ _ _ _ _ _ us hl => match us, hl with | [_, _], _ => rfl), ⟨a53, i53, k53⟩⟩,
    ⟨(fun_mk (st := st_Log_take_back) l54 c54 k54), ((fun_mk (st := st_Log_take_back) l54 c54 k54).binds fun _ _ _ _ _ _ us hl => match us, hl with | [_], _ => rfl), ⟨a54, i54, k54⟩⟩,
    ⟨(fun_mk (st := st_Log_do_again) l55 c55 k55), ((fun_mk (st := st_Log_do_again) l55 c55 k55).binds fun _ _ _ _ _ _ us hl => match us, hl with | [_], _ => rfl), ⟨a55, i55, k55⟩⟩,
    ⟨(fun_mk (st := st_hh_next) l56 c56 k56), ((fun_mk (st := st_hh_next) l56 c56 k56).binds fun _ _ _ _ _ _ us hl => match us, hl with | [_], _ => rfl), PySem.W.mg_of X G a56⟩,
    ⟨(fun_mk (st := st_hh_look) l57 c57 k57), ((fun_mk (st := st_hh_look) l57 c57 k57).binds fun _ _ _ _ _ _ us hl => match us, hl with | [_, _], _ => rfl), PySem.W.mg_of X G a57⟩,
    ⟨(fun_mk (st := st_hh_who) l58 c58 k58), ((fun_mk (st := st_hh_who) l58 c58 k58).binds fun _ _ _ _ _ _ us hl => match us, hl with | [_], _ => rfl), PySem.W.mg_of X G a58⟩,
    ⟨(fun_mk (st := st_bits_of) l59 c59 k59), ((fun_mk (st := st_bits_of) l59 c59 k59).binds fun _ _ _ _ _ _ us hl => match us, hl with | [_], _ => rfl), PySem.W.mg_of X G a59⟩,
    ⟨(fun_mk (st := st_hh_row) l60 c60 k60), ((fun_mk (st := st_hh_row) l60 c60 k60).binds fun _ _ _ _ _ _ us hl => match us, hl with | [_, _], _ => rfl), PySem.W.mg_of X G a60⟩,
    ⟨(fun_mk (st := st_hh_sums) l61 c61 k61), ((fun_mk (st := st_hh_sums) l61 c61 k61).binds fun _ _ _ _ _ _ us hl => match us, hl with | [_], _ => rfl), PySem.W.mg_of X G a61⟩,
    ⟨(fun_mk (st := st_hh_back) l62 c62 k62), ((fun_mk (st := st_hh_back) l62 c62 k62).binds fun _ _ _ _ _ _ us hl => match us, hl with | [_], _ => rfl), PySem.W.mg_of X G a62⟩,
    ⟨(fun_mk (st := st_hh_again) l63 c63 k63), ((fun_mk (st := st_hh_again) l63 c63 k63).binds fun _ _ _ _ _ _ us hl => match us, hl with | [_], _ => rfl), PySem.W.mg_of X G a63⟩,
    ⟨(fun_mk (st := st_hh_state) l64 c64 k64), ((fun_mk (st := st_hh_state) l64 c64 k64).binds fun _ _ _ _ _ _ us hl => match us, hl with | [_], _ => rfl), PySem.W.mg_of X G a64⟩,
    ⟨(fun_mk (st := st_answers) l65 c65 k65), ((fun_mk (st := st_answers) l65 c65 k65).binds fun _ _ _ _ _ _ us hl => match us, hl with | [_], _ => rfl), PySem.W.mg_of X G a65⟩,
    ⟨(fun_mk (st := st_end_of_call) l66 c66 k66), ((fun_mk (st := st_end_of_call) l66 c66 k66).binds fun _ _ _ _ _ _ us hl => match us, hl with | [_, _], _ => rfl), PySem.W.mg_of X G a66⟩,
    ⟨(fun_mk (st := st_answer_of) l67 c67 k67), ((fun_mk (st := st_answer_of) l67 c67 k67).binds fun _ _ _ _ _ _ us hl => match us, hl with | [_, _, _], _ => rfl), PySem.W.mg_of X G a67⟩,
    ⟨(fun_mk (st := st_answer_of_change) l68 c68 k68), ((fun_mk (st := st_answer_of_change) l68 c68 k68).binds fun _ _ _ _ _ _ us hl => match us, hl with | [_, _, _], _ => rfl), PySem.W.mg_of X G a68⟩,
    ⟨(fun_mk (st := st_answer_of_asking) l69 c69 k69), ((fun_mk (st := st_answer_of_asking) l69 c69 k69).binds fun _ _ _ _ _ _ us hl => match us, hl with | [_, _, _], _ => rfl), PySem.W.mg_of X G a69⟩,
    ⟨(fun_mk (st := st_answer_of_looking) l70 c70 k70), ((fun_mk (st := st_answer_of_looking) l70 c70 k70).binds fun _ _ _ _ _ _ us hl => match us, hl with | [_, _, _], _ => rfl), PySem.W.mg_of X G a70⟩,
    ⟨(fun_mk (st := st_answer_of_undoing) l71 c71 k71), ((fun_mk (st := st_answer_of_undoing) l71 c71 k71).binds fun _ _ _ _ _ _ us hl => match us, hl with | [_, _], _ => rfl), PySem.W.mg_of X G a71⟩,
    ⟨_, PySem.W.mg_of X G v_WARMEST⟩,
    ⟨_, PySem.W.mg_of X G v_RAFT_PLACE⟩,
    ⟨_, PySem.W.mg_of X G v_CLOTHINGS⟩,
    ⟨_, PySem.W.mg_of X G v_TOLD_MOST⟩,
    ⟨_, PySem.W.mg_of X G v_TAKES_MOST⟩,
    ⟨_, PySem.W.mg_of X G v_PERSONS_MOST⟩,
    ⟨_, PySem.W.mg_of X G v_PASSING_MOST⟩,
    ⟨_, PySem.W.mg_of X G v_LAST_MINUTE⟩,
    ⟨_, PySem.W.mg_of X G v_BEGIN_MOST⟩,
    ⟨_, PySem.W.mg_of X G v_CHANGES_KEPT⟩,
    ⟨_, PySem.W.mg_of X G v_WAITS⟩,
    ⟨_, PySem.W.mg_of X G v_TAKEN_UP⟩,
    ⟨_, PySem.W.mg_of X G v_LOST⟩,
    ⟨_, PySem.W.mg_of X G v_NOT_THERE⟩,
    ⟨_, PySem.W.mg_of X G v_NOBODY⟩,
    ⟨_, PySem.W.mg_of X G v_NOT_WAITING⟩,
    ⟨_, PySem.W.mg_of X G v_ALREADY_SO⟩,
    ⟨_, PySem.W.mg_of X G v_NOT_ALLOWED⟩,
    ⟨_, PySem.W.mg_of X G v_NO_ROOM⟩,
    ⟨_, PySem.W.mg_of X G v_TOO_LATE⟩,
    ⟨_, PySem.W.mg_of X G v_START⟩,
    ⟨_, PySem.W.mg_of X G v_LAST_CHANGE⟩,
    ⟨_, PySem.W.mg_of X G v_LAST_ASKING⟩,
    ⟨_, PySem.W.mg_of X G v_LAST_LOOKING⟩,
    PySem.W.mg_of X G v_WIDTHS,
    fun H => .inr ⟨_, _, _, w_WIDTHS, rfl, rfl, (by show 25 ≤ sizeLine; decide), .cons ⟨_, rfl⟩ (.cons ⟨_, rfl⟩ (.cons ⟨_, rfl⟩ (.cons ⟨_, rfl⟩ (.cons ⟨_, rfl⟩ (.cons ⟨_, rfl⟩ (.cons ⟨_, rfl⟩ (.cons ⟨_, rfl⟩ (.cons ⟨_, rfl⟩ (.cons ⟨_, rfl⟩ (.cons ⟨_, rfl⟩ (.cons ⟨_, rfl⟩ (.cons ⟨_, rfl⟩ (.cons ⟨_, rfl⟩ (.cons ⟨_, rfl⟩ (.cons ⟨_, rfl⟩ (.cons ⟨_, rfl⟩ (.cons ⟨_, rfl⟩ (.cons ⟨_, rfl⟩ (.cons ⟨_, rfl⟩ (.cons ⟨_, rfl⟩ (.cons ⟨_, rfl⟩ (.cons ⟨_, rfl⟩ (.cons ⟨_, rfl⟩ (.cons ⟨_, rfl⟩ (.nil)))))))))))))))))))))))))⟩,
    PySem.W.mg_none_of X G z_any,
    PySem.W.mg_none_of X G z_enumerate,
    PySem.W.mg_none_of X G z_len,
    PySem.W.mg_none_of X G z_max,
    PySem.W.mg_none_of X G z_min,
    PySem.W.mg_none_of X G z_sorted,
    PySem.W.mg_none_of X G z_sum,
    hcode,
    rfl⟩, htab⟩
/-- the code object of a def and its empty table, from what stands behind the top -/
theorem codeK_of {p : Program} {loose : List Str} {mean : ExcName → Option Value} {mg mb : Str → Option Value} {h : Heap} {K : PySem.W.Frag} {d : DefRec} {x : Str} {c P : Addr} {o : Obj} (T : Top p loose mean mg mb h) (X : K.In h) (hr : (recsOf p).find? (fun e => e.name == x) = some d) (ht : PySem.W.tabIn K x = some (c, P)) (lc : K.lookup c = some o) :
    CodeK K c P ∧ h.TableAt c P #[] := by
  obtain ⟨h1, h2⟩ := PySem.W.tab_of T X hr ht
  refine ⟨?_, h1.tab h2⟩
  obtain ⟨o', vs, file, tf, flags, tg, inF, text, tt, e, r⟩ := h1
  rw [X _ _ lc] at e
  cases e
  exact ⟨_, vs, file, tf, flags, tg, inF, text, tt, lc, r⟩
def tabsOf (K : PySem.W.Frag) : List Addr := match PySem.W.tabIn K "numbers_by_left" with
  | some (_, P) => [P]
  | none => []
theorem tabs_at {p : Program} {loose : List Str} {mean : ExcName → Option Value} {mg mb : Str → Option Value} {h : Heap} {K : PySem.W.Frag} {d : DefRec} (T : Top p loose mean mg mb h) (X : K.In h) (hr : (recsOf p).find? (fun e => e.name == ("numbers_by_left" : Str)) = some d) : ∀ t ∈ tabsOf K, ∃ c, h.TableAt c t #[] := by
  intro t ht
  unfold tabsOf at ht
  split at ht
  · rename_i c P e
    obtain ⟨h1, h2⟩ := PySem.W.tab_of T X hr e
    rw [List.mem_singleton.mp ht]
    exact ⟨c, h1.tab h2⟩
  · simp at ht
end Hh
set_option Elab.async false
set_option linter.all false
set_option maxRecDepth 100000
namespace Hh
open PySem PySem.Spec PyProof.Rows L2
/-! ## The row -/
def sp_top (K : PySem.W.Frag) : Sp := fun vs H Q _ => ∃ (a : Addr) (l : List Int) (f : Nat) (cs : List (List (List Int))), vs = [.ref a] ∧ SqL K H a (intsV l) ∧ PyFlat.calls PyKm449.shape f l = some cs ∧ cs.length ≤ 1000 ∧ (∀ c ∈ cs, Km449Neutral.asked1 (PyKm449.whole c) = true) ∧ Km449Neutral.may none (cs.map PyKm449.whole) = true ∧ (∀ t ∈ tabsOf K, H t = some (.tbl #[])) ∧
  ∀ D H', H' D = some (.lst (intsV (PyFlat.told (PyFlat.played Km449Neutral.step none (cs.map PyKm449.whole))))) → Q (.ref D) H'
theorem ok_top {P : Program} {w : World} {K : PySem.W.Frag} {mg : Str → Option Value} {base : Heap} {A : Adr} (T : Txt K mg A) (B : BMain mg base) (ht : PySem.W.tabIn K "numbers_by_left" = some (A.tc, A.tP)) : FnOk P w K mg base CX0 12 A.f_answers A.d_answers ["calls"] (sp_top K) :=
  (ok_answers T B).imp fun vs H Q E h => by
    obtain ⟨a, l, f, cs, rfl, h1, h2, h3, h4, h5, h6, k⟩ := h
    exact ⟨a, l, f, cs, rfl, h1, h2, h3, h4, h5, .inl (h6 A.tP (by unfold tabsOf; rw [ht]; exact List.mem_singleton.mpr rfl)), k⟩
theorem top_binds {K : PySem.W.Frag} {mg : Str → Option Value} {A : Adr} (T : Txt K mg A) (s : Shared) (us : List Value) (hu : us.length = (["calls"] : List Str).length) : BindsTo s A.d_answers ⟨us, []⟩ ((["calls"] : List Str).zip us) := by
  obtain ⟨oc, od, kV, doc, pm, an, cdv, ct, osl, e, _⟩ := T.answers.fn.ex
  rw [e]
  exact match us, hu with | [_], _ => .of_eq rfl
theorem asked_of {l : List Int} (h : PyKm449.answers_asked l = true) : ∃ (f : Nat) (cs : List (List (List Int))), PyFlat.calls PyKm449.shape f l = some cs ∧ cs.length ≤ 1000 ∧ (∀ c ∈ cs, Km449Neutral.asked1 (PyKm449.whole c) = true) ∧ Km449Neutral.may none (cs.map PyKm449.whole) = true ∧
    PyKm449.answers l = PyFlat.told (PyFlat.played Km449Neutral.step none (cs.map PyKm449.whole)) := by
  unfold PyKm449.answers_asked at h
  cases hc : PyFlat.calls PyKm449.shape l.length l with
  | none => rw [hc] at h; cases h
  | some raw =>
    rw [hc] at h
    dsimp only at h
    rw [Bool.and_eq_true, Bool.and_eq_true, Bool.and_eq_true, Bool.and_eq_true] at h
    obtain ⟨⟨⟨⟨_, h2⟩, _⟩, h4⟩, _⟩ := h
    unfold PyFlat.atMost at h2
    unfold Km449Neutral.asked at h4
    rw [Bool.and_eq_true, Bool.and_eq_true, Bool.and_eq_true, List.all_eq_true] at h4
    refine ⟨l.length, raw, hc, of_decide_eq_true h2, fun c hcm => h4.2.2.1 _ (List.mem_map.mpr ⟨c, hcm, rfl⟩), h4.2.2.2, ?_⟩
    unfold PyKm449.answers PyKm449.calls
    rw [hc]
    rfl
end Hh
/-! names kept free of the head: the twins that it would lay for these great constants are not needed -/
def PySem.W.Fast.tw7079735158662068372 : Unit := ()
def PySem.W.Fast.tw7293111910532154146 : Unit := ()
def PySem.W.Fast.tw4648364859595270550 : Unit := ()
def PySem.W.Fast.tw11670764764860430638 : Unit := ()
def PySem.W.Fast.tw1654092324580386127 : Unit := ()
def PySem.W.Fast.tw65165380473529072 : Unit := ()
def PySem.W.Fast.tw8140113995247809903 : Unit := ()
def PySem.W.Fast.tw14668818544132623612 : Unit := ()
def PySem.W.Fast.tw14066812003268844679 : Unit := ()
def PySem.W.Fast.tw1225054428404790163 : Unit := ()
def PySem.W.Fast.tw9445212496796129849 : Unit := ()
def PySem.W.Fast.tw6605709299628768449 : Unit := ()
def PySem.W.Fast.tw10992204310634072449 : Unit := ()
def PySem.W.Fast.tw6884879962926689522 : Unit := ()
def PySem.W.Fast.tw12003014931852458732 : Unit := ()
def PySem.W.Fast.tw6976517081117417743 : Unit := ()
def PySem.W.Fast.tw17214264064147799860 : Unit := ()
def PySem.W.Fast.tw2890018824475477937 : Unit := ()
def PySem.W.Fast.tw4038501889370251137 : Unit := ()
def PySem.W.Fast.tw1773833007604345505 : Unit := ()
def PySem.W.Fast.tw15754973812773171836 : Unit := ()
def PySem.W.Fast.tw6728746290417829832 : Unit := ()
def PySem.W.Fast.tw6022880529230752032 : Unit := ()
def PySem.W.Fast.tw1466789897407597515 : Unit := ()
def PySem.W.Fast.tw12270805453419466189 : Unit := ()
def PySem.W.Fast.tw15791865873787615301 : Unit := ()
def PySem.W.Fast.tw3771370917896926055 : Unit := ()
def PySem.W.Fast.tw17590031942632736389 : Unit := ()
def PySem.W.Fast.tw16990931496473347355 : Unit := ()
def PySem.W.Fast.tw5052625845537692321 : Unit := ()
def PySem.W.Fast.tw12253315817637127164 : Unit := ()
def PySem.W.Fast.tw7255913135950721573 : Unit := ()
def PySem.W.Fast.tw6233071251234638447 : Unit := ()
def PySem.W.Fast.tw14621378253599613041 : Unit := ()
def PySem.W.Fast.tw4157602088087831389 : Unit := ()
def PySem.W.Fast.tw8538248097052964319 : Unit := ()
def PySem.W.Fast.tw6246274037337929928 : Unit := ()
def PySem.W.Fast.tw14257425739084039238 : Unit := ()
def PySem.W.Fast.tw17202937513333981708 : Unit := ()
def PySem.W.Fast.tw14331335828124141984 : Unit := ()
def PySem.W.Fast.tw9514202896824606495 : Unit := ()
def PySem.W.Fast.tw13653164790466395597 : Unit := ()
def PySem.W.Fast.tw11068641875003799591 : Unit := ()
def PySem.W.Fast.tw15321137362627544490 : Unit := ()
def PySem.W.Fast.tw14753222770851389221 : Unit := ()
def PySem.W.Fast.tw8347456124734930292 : Unit := ()
def PySem.W.Fast.tw5565807246683559852 : Unit := ()
def PySem.W.Fast.tw17105314404666041621 : Unit := ()
def PySem.W.Fast.tw12655829606725008671 : Unit := ()
def PySem.W.Fast.tw16296883543455765339 : Unit := ()
def PySem.W.Fast.tw10188853918861193125 : Unit := ()
def PySem.W.Fast.tw12268681580092764650 : Unit := ()
def PySem.W.Fast.tw14678440340440909403 : Unit := ()
def PySem.W.Fast.tw6778700476816487886 : Unit := ()
def PySem.W.Fast.tw18358733041785185602 : Unit := ()
def PySem.W.Fast.tw1537189363495132158 : Unit := ()
def PySem.W.Fast.tw13733553838153736954 : Unit := ()
def PySem.W.Fast.tw16207605072312604778 : Unit := ()
def PySem.W.Fast.tw8969017379119139625 : Unit := ()
def PySem.W.Fast.tw4086745942022088807 : Unit := ()
open PySem PySem.W PyProof.Rows
set_option maxRecDepth 100000 in
set_option maxHeartbeats 0 in
theorem PySem.Challenge.cw_hourstheyhave_s01_answers_holds : PySem.Challenge.rw_hourstheyhave_s01_answers.Holds := by
  w_on; k_headS; (case hw => exact ⟨[.list ([0,0,24,1,1,1,1,1,1,1,1,1,1,1,1,1,1,1,1,1,1,1,1,1,1,1,1].map .int)], by decide +kernel, by decide +kernel⟩)
  k_fillS
  refine Hh.walk_specT (r := PySem.Challenge.rw_hourstheyhave_s01_answers) (k := 12) (CX := L2.CX0) (ps := ["calls"]) (tabs := Hh.tabsOf) (sp := Hh.sp_top) (by decide +kernel) rfl rfl ⟨rfl, by decide, by decide⟩ (fun w h Y => PySem.W.kIn_of Y) ?qn ?qt ?qf ?qs (fun _ _ _ _ z => z)
  case qn => intro w; kernel_rfl
  case qt =>
    intro w h loose mean mg mb KX TT t ht
    exact Hh.tabs_at TT KX rfl t ht
  case qf =>
    intro w mg fa h loose mean mb Y KX TT hmg
    have G := TT.g
    have HT : ∃ A : Hh.Adr, Hh.Txt (L2.KOf KX) mg A ∧ PySem.W.tabIn (L2.KOf KX) "numbers_by_left" = some (A.tc, A.tP) := by
      dsimp only [L2.KOf]
      refine' Hh.txt_mk KX G ?a_Group ?a_Person ?a_Sea ?a_Log ?a0 ?i0 ?l0 ?c0 ?k0 ?a1 ?i1 ?l1 ?c1 ?k1 ?a2 ?i2 ?l2 ?c2 ?k2 ?a3 ?l3 ?c3 ?k3 ?a4 ?l4 ?c4 ?k4 ?a5 ?l5 ?c5 ?k5 ?a6 ?l6 ?c6 ?k6 ?a7 ?l7 ?c7 ?k7 ?a8 ?l8 ?c8 ?k8 ?a9 ?l9 ?c9 ?k9 ?a10 ?l10 ?c10 ?k10 ?a11 ?l11 ?c11 ?k11 ?a12 ?l12 ?c12 ?k12 ?a13 ?l13 ?c13 ?k13 ?a14 ?l14 ?c14 ?k14 ?a15 ?l15 ?c15 ?k15 ?a16 ?l16 ?c16 ?k16 ?a17 ?l17 ?c17 ?k17 ?a18 ?l18 ?c18 ?k18 ?a19 ?i19 ?l19 ?c19 ?k19 ?a20 ?i20 ?l20 ?c20 ?k20 ?a21 ?i21 ?l21 ?c21 ?k21 ?a22 ?i22 ?l22 ?c22 ?k22 ?a23 ?i23 ?l23 ?c23 ?k23 ?a24 ?i24 ?l24 ?c24 ?k24 ?a25 ?i25 ?l25 ?c25 ?k25 ?a26 ?i26 ?l26 ?c26 ?k26 ?a27 ?i27 ?l27 ?c27 ?k27 ?a28 ?l28 ?c28 ?k28 ?a29 ?l29 ?c29 ?k29 ?a30 ?l30 ?c30 ?k30 ?a31 ?l31 ?c31 ?k31 ?a32 ?l32 ?c32 ?k32 ?a33 ?l33 ?c33 ?k33 ?a34 ?l34 ?c34 ?k34 ?a35 ?l35 ?c35 ?k35 ?a36 ?l36 ?c36 ?k36 ?a37 ?l37 ?c37 ?k37 ?a38 ?l38 ?c38 ?k38 ?a39 ?l39 ?c39 ?k39 ?a40 ?l40 ?c40 ?k40 ?a41 ?l41 ?c41 ?k41 ?a42 ?l42 ?c42 ?k42 ?a43 ?l43 ?c43 ?k43 ?a44 ?l44 ?c44 ?k44 ?a45 ?l45 ?c45 ?k45 ?a46 ?l46 ?c46 ?k46 ?a47 ?l47 ?c47 ?k47 ?a48 ?l48 ?c48 ?k48 ?a49 ?l49 ?c49 ?k49 ?a50 ?l50 ?c50 ?k50 ?a51 ?i51 ?l51 ?c51 ?k51 ?a52 ?i52 ?l52 ?c52 ?k52 ?a53 ?i53 ?l53 ?c53 ?k53 ?a54 ?i54 ?l54 ?c54 ?k54 ?a55 ?i55 ?l55 ?c55 ?k55 ?a56 ?l56 ?c56 ?k56 ?a57 ?l57 ?c57 ?k57 ?a58 ?l58 ?c58 ?k58 ?a59 ?l59 ?c59 ?k59 ?a60 ?l60 ?c60 ?k60 ?a61 ?l61 ?c61 ?k61 ?a62 ?l62 ?c62 ?k62 ?a63 ?l63 ?c63 ?k63 ?a64 ?l64 ?c64 ?k64 ?a65 ?l65 ?c65 ?k65 ?a66 ?l66 ?c66 ?k66 ?a67 ?l67 ?c67 ?k67 ?a68 ?l68 ?c68 ?k68 ?a69 ?l69 ?c69 ?k69 ?a70 ?l70 ?c70 ?k70 ?a71 ?l71 ?c71 ?k71 ?pg_Group ?hd_Group ?po_Group ?sa_Group ?mk_Group ?kc_Group ?nGroup_bits ?nGroup_size ?nGroup_minutes ?nGroup_spare ?pg_Person ?hd_Person ?po_Person ?sa_Person ?mk_Person ?kc_Person ?nPerson_clothes ?nPerson_raft ?nPerson_takes ?nPerson_left ?nPerson_fate ?pg_Sea ?hd_Sea ?po_Sea ?sa_Sea ?mk_Sea ?kc_Sea ?nSea_water ?nSea_table ?nSea_minute ?nSea_persons ?pg_Log ?hd_Log ?po_Log ?sa_Log ?mk_Log ?kc_Log ?nLog_now ?nLog_earlier ?nLog_later ?v_WARMEST ?v_RAFT_PLACE ?v_CLOTHINGS ?v_TOLD_MOST ?v_TAKES_MOST ?v_PERSONS_MOST ?v_PASSING_MOST ?v_LAST_MINUTE ?v_BEGIN_MOST ?v_CHANGES_KEPT ?v_WAITS ?v_TAKEN_UP ?v_LOST ?v_NOT_THERE ?v_NOBODY ?v_NOT_WAITING ?v_ALREADY_SO ?v_NOT_ALLOWED ?v_NO_ROOM ?v_TOO_LATE ?v_START ?v_LAST_CHANGE ?v_LAST_ASKING ?v_LAST_LOOKING ?v_WIDTHS ?w_WIDTHS ?z_any ?z_enumerate ?z_len ?z_max ?z_min ?z_sorted ?z_sum ?lcode ?h11 ?htab ?hcode
      (case a_Group => k_is)
      (case a_Person => k_is)
      (case a_Sea => k_is)
      (case a_Log => k_is)
      (case a0 => k_is)
      (case i0 => k_is)
      (case l0 => k_is)
      (case c0 => k_is)
      (case k0 => k_is)
      (case a1 => k_is)
      (case i1 => k_is)
      (case l1 => k_is)
      (case c1 => k_is)
      (case k1 => k_is)
      (case a2 => k_is)
      (case i2 => k_is)
      (case l2 => k_is)
      (case c2 => k_is)
      (case k2 => k_is)
      (case a3 => k_is)
      (case l3 => k_is)
      (case c3 => k_is)
      (case k3 => k_is)
      (case a4 => k_is)
      (case l4 => k_is)
      (case c4 => k_is)
      (case k4 => k_is)
      (case a5 => k_is)
      (case l5 => k_is)
      (case c5 => k_is)
      (case k5 => k_is)
      (case a6 => k_is)
      (case l6 => k_is)
      (case c6 => k_is)
      (case k6 => k_is)
      (case a7 => k_is)
      (case l7 => k_is)
      (case c7 => k_is)
      (case k7 => k_is)
      (case a8 => k_is)
      (case l8 => k_is)
      (case c8 => k_is)
      (case k8 => k_is)
      (case a9 => k_is)
      (case l9 => k_is)
      (case c9 => k_is)
      (case k9 => k_is)
      (case a10 => k_is)
      (case l10 => k_is)
      (case c10 => k_is)
      (case k10 => k_is)
      (case a11 => k_is)
      (case l11 => k_is)
      (case c11 => k_is)
      (case k11 => k_is)
      (case a12 => k_is)
      (case l12 => k_is)
      (case c12 => k_is)
      (case k12 => k_is)
      (case a13 => k_is)
      (case l13 => k_is)
      (case c13 => k_is)
      (case k13 => k_is)
      (case a14 => k_is)
      (case l14 => k_is)
      (case c14 => k_is)
      (case k14 => k_is)
      (case a15 => k_is)
      (case l15 => k_is)
      (case c15 => k_is)
      (case k15 => k_is)
      (case a16 => k_is)
      (case l16 => k_is)
      (case c16 => k_is)
      (case k16 => k_is)
      (case a17 => k_is)
      (case l17 => k_is)
      (case c17 => k_is)
      (case k17 => k_is)
      (case a18 => k_is)
      (case l18 => k_is)
      (case c18 => k_is)
      (case k18 => k_is)
      (case a19 => k_is)
      (case i19 => k_is)
      (case l19 => k_is)
      (case c19 => k_is)
      (case k19 => k_is)
      (case a20 => k_is)
      (case i20 => k_is)
      (case l20 => k_is)
      (case c20 => k_is)
      (case k20 => k_is)
      (case a21 => k_is)
      (case i21 => k_is)
      (case l21 => k_is)
      (case c21 => k_is)
      (case k21 => k_is)
      (case a22 => k_is)
      (case i22 => k_is)
      (case l22 => k_is)
      (case c22 => k_is)
      (case k22 => k_is)
      (case a23 => k_is)
      (case i23 => k_is)
      (case l23 => k_is)
      (case c23 => k_is)
      (case k23 => k_is)
      (case a24 => k_is)
      (case i24 => k_is)
      (case l24 => k_is)
      (case c24 => k_is)
      (case k24 => k_is)
      (case a25 => k_is)
      (case i25 => k_is)
      (case l25 => k_is)
      (case c25 => k_is)
      (case k25 => k_is)
      (case a26 => k_is)
      (case i26 => k_is)
      (case l26 => k_is)
      (case c26 => k_is)
      (case k26 => k_is)
      (case a27 => k_is)
      (case i27 => k_is)
      (case l27 => k_is)
      (case c27 => k_is)
      (case k27 => k_is)
      (case a28 => k_is)
      (case l28 => k_is)
      (case c28 => k_is)
      (case k28 => k_is)
      (case a29 => k_is)
      (case l29 => k_is)
      (case c29 => k_is)
      (case k29 => k_is)
      (case a30 => k_is)
      (case l30 => k_is)
      (case c30 => k_is)
      (case k30 => k_is)
      (case a31 => k_is)
      (case l31 => k_is)
      (case c31 => k_is)
      (case k31 => k_is)
      (case a32 => k_is)
      (case l32 => k_is)
      (case c32 => k_is)
      (case k32 => k_is)
      (case a33 => k_is)
      (case l33 => k_is)
      (case c33 => k_is)
      (case k33 => k_is)
      (case a34 => k_is)
      (case l34 => k_is)
      (case c34 => k_is)
      (case k34 => k_is)
      (case a35 => k_is)
      (case l35 => k_is)
      (case c35 => k_is)
      (case k35 => k_is)
      (case a36 => k_is)
      (case l36 => k_is)
      (case c36 => k_is)
      (case k36 => k_is)
      (case a37 => k_is)
      (case l37 => k_is)
      (case c37 => k_is)
      (case k37 => k_is)
      (case a38 => k_is)
      (case l38 => k_is)
      (case c38 => k_is)
      (case k38 => k_is)
      (case a39 => k_is)
      (case l39 => k_is)
      (case c39 => k_is)
      (case k39 => k_is)
      (case a40 => k_is)
      (case l40 => k_is)
      (case c40 => k_is)
      (case k40 => k_is)
      (case a41 => k_is)
      (case l41 => k_is)
      (case c41 => k_is)
      (case k41 => k_is)
      (case a42 => k_is)
      (case l42 => k_is)
      (case c42 => k_is)
      (case k42 => k_is)
      (case a43 => k_is)
      (case l43 => k_is)
      (case c43 => k_is)
      (case k43 => k_is)
      (case a44 => k_is)
      (case l44 => k_is)
      (case c44 => k_is)
      (case k44 => k_is)
      (case a45 => k_is)
      (case l45 => k_is)
      (case c45 => k_is)
      (case k45 => k_is)
      (case a46 => k_is)
      (case l46 => k_is)
      (case c46 => k_is)
      (case k46 => k_is)
      (case a47 => k_is)
      (case l47 => k_is)
      (case c47 => k_is)
      (case k47 => k_is)
      (case a48 => k_is)
      (case l48 => k_is)
      (case c48 => k_is)
      (case k48 => k_is)
      (case a49 => k_is)
      (case l49 => k_is)
      (case c49 => k_is)
      (case k49 => k_is)
      (case a50 => k_is)
      (case l50 => k_is)
      (case c50 => k_is)
      (case k50 => k_is)
      (case a51 => k_is)
      (case i51 => k_is)
      (case l51 => k_is)
      (case c51 => k_is)
      (case k51 => k_is)
      (case a52 => k_is)
      (case i52 => k_is)
      (case l52 => k_is)
      (case c52 => k_is)
      (case k52 => k_is)
      (case a53 => k_is)
      (case i53 => k_is)
      (case l53 => k_is)
      (case c53 => k_is)
      (case k53 => k_is)
      (case a54 => k_is)
      (case i54 => k_is)
      (case l54 => k_is)
      (case c54 => k_is)
      (case k54 => k_is)
      (case a55 => k_is)
      (case i55 => k_is)
      (case l55 => k_is)
      (case c55 => k_is)
      (case k55 => k_is)
      (case a56 => k_is)
      (case l56 => k_is)
      (case c56 => k_is)
      (case k56 => k_is)
      (case a57 => k_is)
      (case l57 => k_is)
      (case c57 => k_is)
      (case k57 => k_is)
      (case a58 => k_is)
      (case l58 => k_is)
      (case c58 => k_is)
      (case k58 => k_is)
      (case a59 => k_is)
      (case l59 => k_is)
      (case c59 => k_is)
      (case k59 => k_is)
      (case a60 => k_is)
      (case l60 => k_is)
      (case c60 => k_is)
      (case k60 => k_is)
      (case a61 => k_is)
      (case l61 => k_is)
      (case c61 => k_is)
      (case k61 => k_is)
      (case a62 => k_is)
      (case l62 => k_is)
      (case c62 => k_is)
      (case k62 => k_is)
      (case a63 => k_is)
      (case l63 => k_is)
      (case c63 => k_is)
      (case k63 => k_is)
      (case a64 => k_is)
      (case l64 => k_is)
      (case c64 => k_is)
      (case k64 => k_is)
      (case a65 => k_is)
      (case l65 => k_is)
      (case c65 => k_is)
      (case k65 => k_is)
      (case a66 => k_is)
      (case l66 => k_is)
      (case c66 => k_is)
      (case k66 => k_is)
      (case a67 => k_is)
      (case l67 => k_is)
      (case c67 => k_is)
      (case k67 => k_is)
      (case a68 => k_is)
      (case l68 => k_is)
      (case c68 => k_is)
      (case k68 => k_is)
      (case a69 => k_is)
      (case l69 => k_is)
      (case c69 => k_is)
      (case k69 => k_is)
      (case a70 => k_is)
      (case l70 => k_is)
      (case c70 => k_is)
      (case k70 => k_is)
      (case a71 => k_is)
      (case l71 => k_is)
      (case c71 => k_is)
      (case k71 => k_is)
      (case pg_Group => k_is)
      (case hd_Group => k_is)
      (case po_Group => k_is)
      (case sa_Group => k_is)
      (case mk_Group => k_is)
      (case kc_Group => k_is)
      (case nGroup_bits => k_is)
      (case nGroup_size => k_is)
      (case nGroup_minutes => k_is)
      (case nGroup_spare => k_is)
      (case pg_Person => k_is)
      (case hd_Person => k_is)
      (case po_Person => k_is)
      (case sa_Person => k_is)
      (case mk_Person => k_is)
      (case kc_Person => k_is)
      (case nPerson_clothes => k_is)
      (case nPerson_raft => k_is)
      (case nPerson_takes => k_is)
      (case nPerson_left => k_is)
      (case nPerson_fate => k_is)
      (case pg_Sea => k_is)
      (case hd_Sea => k_is)
      (case po_Sea => k_is)
      (case sa_Sea => k_is)
      (case mk_Sea => k_is)
      (case kc_Sea => k_is)
      (case nSea_water => k_is)
      (case nSea_table => k_is)
      (case nSea_minute => k_is)
      (case nSea_persons => k_is)
      (case pg_Log => k_is)
      (case hd_Log => k_is)
      (case po_Log => k_is)
      (case sa_Log => k_is)
      (case mk_Log => k_is)
      (case kc_Log => k_is)
      (case nLog_now => k_is)
      (case nLog_earlier => k_is)
      (case nLog_later => k_is)
      (case v_WARMEST => k_is)
      (case v_RAFT_PLACE => k_is)
      (case v_CLOTHINGS => k_is)
      (case v_TOLD_MOST => k_is)
      (case v_TAKES_MOST => k_is)
      (case v_PERSONS_MOST => k_is)
      (case v_PASSING_MOST => k_is)
      (case v_LAST_MINUTE => k_is)
      (case v_BEGIN_MOST => k_is)
      (case v_CHANGES_KEPT => k_is)
      (case v_WAITS => k_is)
      (case v_TAKEN_UP => k_is)
      (case v_LOST => k_is)
      (case v_NOT_THERE => k_is)
      (case v_NOBODY => k_is)
      (case v_NOT_WAITING => k_is)
      (case v_ALREADY_SO => k_is)
      (case v_NOT_ALLOWED => k_is)
      (case v_NO_ROOM => k_is)
      (case v_TOO_LATE => k_is)
      (case v_START => k_is)
      (case v_LAST_CHANGE => k_is)
      (case v_LAST_ASKING => k_is)
      (case v_LAST_LOOKING => k_is)
      (case v_WIDTHS => k_is)
      (case w_WIDTHS => k_is)
      (case z_any => k_is)
      (case z_enumerate => k_is)
      (case z_len => k_is)
      (case z_max => k_is)
      (case z_min => k_is)
      (case z_sorted => k_is)
      (case z_sum => k_is)
      (case lcode => k_is)
      (case h11 => rfl)
      (case htab => kernel_rfl)
      (case hcode => exact (Hh.codeK_of (x := "numbers_by_left") TT KX rfl (by kernel_rfl) (by k_is)).1)
    obtain ⟨A, T, ht⟩ := HT
    have e := hmg.symm.trans T.answers.mg
    cases e
    exact ⟨A.d_answers, fun s us hu => Hh.top_binds T s us hu, fun base _ _ B => Hh.ok_top T B ht⟩
  case qs =>
    intro K H xs a hO hwi hask hx
    cases hx with
    | cons h1 h2 =>
      cases h2
      cases h1 with
      | lst hs ha =>
        have e := L2.ints_dw a.1 _ ha
        subst e
        obtain ⟨f, cs, c1, c2, c3, c4, c5⟩ := Hh.asked_of (l := a.1) hask
        refine ⟨_, a.1, f, cs, rfl, hs, c1, c2, c3, c4, hO, fun D H' hD => ?_⟩
        show L2.Dw K H' (.ref D) (WData.list ((PyKm449.answers a.1).map WData.int))
        rw [c5]
        exact .lst (L2.SqL.of hD) (L2.dw_ints _)
#print axioms PySem.Challenge.cw_hourstheyhave_s01_answers_holds
